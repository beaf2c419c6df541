import PyProof.Rows.All
import Wide.All
import OpenK.AllK
import Wide.FinOn
import Lean
import PyProof.EqAt
import PyProof.EqKinds
import PyProof.TupleCall
import PySem.Str
import PyProof.CodeObj
import PyProof.ListMulAny
import PyProof.NeKinds
import PyProof.ConsumeWalk
import PyProof.CompFree
import PyProof.Cells
import PyProof.ZipIter
import PyProof.Draws
import PyProof.EnumMake
import PyProof.SumWalk
import PyProof.Rows.SortRuns
import KE.KSortTup
import PyProof.Rows.SortRev
import PyProof.FactsAll.tuple
import KE.KRevIter
import PyProof.FactsAll.range_2
import PyProof.ListRange
import PyProof.TupleOfSeq
import PyProof.TupleOfGen
import PyProof.CallType
import PyProof.DictWalks
import PyProof.IsiH_list
import PyProof.RulesTry
import KE.KDictOf
import KE.KDictSum
import PySem.Challenge.RW_fewspaces_k71_turns_looked_at
set_option Elab.async false
set_option linter.all false
set_option compiler.extract_closed false
set_option maxRecDepth 100000
set_option maxHeartbeats 0
local macro_rules
|`(#[$x,$y])=>`(⟨$x,$y⟩)
|`(#[$x,$y,$z,*])=>`(⟨$x,$y,$z,*⟩)
abbrev T9:=@if_pos
abbrev T8:=@if_neg
abbrev T7:=@absurd
abbrev T6:=@of_decide_eq_true
abbrev T5:=@decide_eq_true
abbrev T4:=@decide_eq_false
abbrev T0:=@decide_eq_true_eq
open Option renaming some->aa,none->ae,bind_eq_some_iff->aB,map_eq_some_iff->aR,isSome_iff_exists->dm,filter_eq_some_iff->fk,map_eq_none_iff->kf,isSome_some->lz,isSome_map->lT,getD_none->mr,getD_some->mB,map_some->mZ
open PySem renaming wpAny_bind->ab,Value->ap,wpAny_pure->au,Shared->aw,Addr->aG,starEach->aM,model->aS,wpAny->aX,sizeLine->aY,wpAny_newObj_type->bv,Str->bD,Program->bE,wpAny_holding->bL,assignEach->bR,Heap->bX,World->bZ,wpAny_callSpecial?_slot->cn,wpAny_field->cr,compareOp->cu,mainGlobals->cA,sysModules->cG,wpAny_call_entry->cM,FuncData->cP,Around->cQ,eval->cV,bootBuiltins->cY,foldedSetIterable->cZ,assign->c0,tupleKind->c8,wpAny_mono->c9,cLine->db,swapsWithSole->de,swappedStores->dg,sizeLine_eq->du,cellsFrom->dF,wpAny_seqItems->dN,wpAny_setField_rec->dO,Builtin->dQ,wpAny_passesOwn->dW,binaryOp->d4,NameKind->d5,mem_of_lookup->eg,Scope->ez,wpAny_typeNameOfWhole_keyiter->eA,backTo->eC,wpAny_rule->eE,wpAny_truthy_bool->eL,wpAny_pyIter_list->eM,Stmt->eR,Obj->eX,wpAny_typeOf->eY,DictEntry->fb,wpAny_isInstance->fc,behindInMarks->fq,wpAny_typeNameOf_keyiter->fA,wpAny_Call_Name_kw->fC,wpAny_pyIter_tuple->fD,sliceBounds->fH,rawInt->fS,call_meets->fU,wpAny_standAt->fX,wpAny_attempt->fZ,wpAny_updateSeq_pair->ga,wpAny_loadPart'->gw,codeAny_builtin->gy,intKind->gB,Pos->gD,wpAny_load->gG,IsPart->gJ,tupleKind_room_in1->gN,wpAny_setField->gS,wpAny_binaryOp_repeat_ref->g9,getItem->hZ,wpAny_sequenceKey->h8,wpAny_onRaise->iA,wpAny_eqBool_int->iG,swapsWith->iH,noFill_tuple_add->iI,holding->iV,wpAny_pyNext_list_item->iW,codeAny->iX,codeAny_mono->iY,typeIs_int->i6,IsPair->i8,richCompare_meets_room->ke,wpAny_execs_nil->ki,letOwnedTupleGo->kj,pushCells_keeps->kn,wpAny_pyNext_list_end->kt,wpAny_notOrdered_dict->kx,wpAny_isOneOf_keyiter->kz,builtinLookup_eq_fast->kA,wpAny_loadName_local->kD,firstArgMember->kL,ZipApart->kM,PassesOwn->kT,callerA->kU,wpAny_loadName_cell->kX,seq_tuple_add->k7,evalPart_none->k9,wpAny_newList->lg,plainId_quiet->lh,builtinsNs->lp,wpAny_dictSet_heap->lD,wpAny_assign_Name->lG,BindsTo->lJ,concat_meets->lL,seqIndex_neg->lN,valueAt->lQ,atKey->lR,wpAny_pyIter_enum->l6,wpAny_dictEntries->me,Sem->mj,pyNext->mm,rule->mn,seqSlot_of->mv,pushCells->mC,seqIndex_of->mN,wpAny_of_eq->mO,IsZip->mP,wpAny_letGo->mQ,unsupported->mR,standAt->m4,wpAny_Name->m9,Operator->nc,bindArgs->nh,typeLookup->ni,call->nk,Meets->nq,bindL->nE,bindC->nF,setItem->nG,pyIter->nH,Keyword->nJ,again->nK,Tok->nM
open Option.some renaming inj->af
open List renaming getElem?_eq_getElem->ag,mem_cons_of_mem->ak,mem_cons_self->am,size_toArray->ax,length_map->ay,replicate->aA,mem_cons->aC,getElem?_map->aK,length_cons->aL,getD_eq_getElem?_getD->aO,getElem?_set_ne->aQ,mem_map->aT,range->aU,getElem_mem->aV,length_append->aW,getElem?_eq_some_iff->a8,getElem?_set_self->ba,length_set->bc,pairwise_cons->be,map_cons->bf,mem_range->bj,mem_singleton->bm,getElem?_eq_none->bq,getElem?_append_right->bu,length_take->bw,mem_append_right->bx,append_assoc->bB,length_range->bF,all_eq_true->bG,lookup_cons->bH,replicate_succ->bI,length_drop->bK,getElem?_append_left->bM,mem_of_mem_drop->bP,ext_getElem?->bQ,drop_eq_getElem_cons->bS,pairwise_iff_getElem->bT,not_mem_nil->bU,map_append->bV,getElem_of_mem->b8,map_map->cf,mem_append->cg,take_of_length_le->cx,zip_cons_cons->cy,append_nil->cz,length_replicate->cB,flatten_cons->cD,toArray->cE,getElem?_replicate->cF,mem_of_mem_take->cI,getElem?_take->cJ,pairwise_map->cS,take_append_drop->cU,mem_of_getElem?->cW,getElem?_range->c6,contains_iff_mem->c7,mem_append_left->dr,reverse_perm->dz,nodup_cons->dA,mem_map_of_mem->dC,map_congr_left->dD,drop_length->dG,mem_reverse->dH,pairwise_reverse->dR,mem_filter->dU,foldl_cons->dZ,find?_cons->d3,reverse_cons->d6,getElem?_mapIdx->d7,pairwise_append->ee,nodup_append->ef,mem_flatMap->eo,getElem_take->eN,getElem_drop->eO,extract_eq_take_drop->fj,length_reverse->fm,any_cons->fv,length_eq_zero_iff->fI,map_uncurry_zip_eq_zipWith->fQ,take_length->fV,all_cons->fY,isEmpty_toArray->f7,drop_append_of_le_length->gd,take_append_of_le_length->gf,of_mem_zip->gh,nil_append->gn,forIn_cons->gp,length_zip->gv,filterMap_cons->gz,drop_zero->gR,drop_drop->gU,getElem?_drop->gW,drop_left->gX,take_left->gY,zip_nil_right->g8,getElem?_zip_eq_some->hG,length->hV,getElem?_inj->ip,zip_nil_left->iq,contains->iz,find?_range_eq_some->iE,eq_of_mem_replicate->iF,any_eq_true->iL,zipIdx_cons->iN,pairwise_singleton->iP,ext_getElem->iQ,filter_cons->iS,any_eq_not_all_not->iU,range_succ_eq_map->i7,drop_of_length_le->kc,length_pos_of_mem->kg,length_singleton->ku,getElem?_reverse->kw,length_filter_le->kB,forIn_nil->kN,mem_iff_getElem->kP,map_id->kR,take->kW,reverse_append->kZ,mem_filterMap->lq,filterMap_map->lw,find?_toArray->lB,find?_eq_none->lE,take_sublist->lK,getElem?_set->lV,take_add_one->l7,map->l8,foldl_append->mi,drop_append->mE,countP_cons->mF,nodup_range->mG,map_reverse->mJ,isEmpty_iff->mM,zipIdx_nil->mV,nodup_nil->np,take_take->nu,tail_cons->nA,zip->nL
open Bool renaming false->ai,true->aj,and_eq_true->aD,false_ne_true->aJ,false_eq_true->bW,eq_iff_iff->cK,not_true->f6,false_or->iu,or_eq_true->km,false_and->kE,and_false->kJ,not_eq_true'->mf,not_false->ny
open Decidable renaming decide->al
open PySem.W renaming Frag->ao,katRev->bn,kia_one->cL,fnOf->dE,kat_len->fB,keepIn->fJ,nsIn->fO,codeIn->gI,katRev->iD,cellsFrom_some->iZ,instObj->kh,OpenLaw->kl,lookIn->kF,kitOne->kH,mg_of->lj,kitx_list->lH,kitx_dict->lI,plainGet->mq,kat_nil->mX,kat_len->m8,findIn->ng,KdlSrc->nz,WalkO->nC
open PySem.Heap renaming get?_push_of_some->aq,lt_size->aF,get?_push_size->aI,size_push->cH,SameBut->eB,get?_update_self->eJ,get?_push_ne->fN,ExtBut->f8,size_update->iO,get?_update_other->i5,get?_update_ne->k5
open Nat renaming le_refl->az,ne_of_lt->bg,lt_of_lt_of_le->bi,lt_irrefl->bp,le_trans->b0,lt_trans->cO,zero_le->cR,lt_succ_of_lt->dv,lt_of_succ_lt->dy,le_add_right->ek,ne_of_gt->eD,pow_le_pow_right->eV,le_of_not_lt->eZ,lt_of_le_of_ne->fE,pow_lt_pow_right->gg,le_of_lt->gC,le_succ->im,add_assoc->iB,lt_succ_self->iM,le_max_right->iT,min_eq_left->ko,le_max_left->kr,mul_le_mul->kI,add_comm->lO,le_of_eq->lP,mul_comm->lZ,min_self->l0
open PyProof.Rows renaming wpS_bind->aE,wpS_pure->aN,arrOf->aZ,pendingOf->a9,SortSt->bJ,Keyed->bN,slot_tuple_getitem->bY,wpS_forRange->b9,callWith_type1->cX,wpS_mono->d9,wpS_modify->eG,seqObj->eK,SortKind->eT,elem'->fg,failedOf->fz,wpS_get->fM,setPending->fW,entry_tuple_getitem->gA,envOfC->gH,slicePart_none->gK,args_tuple_getitem->gM,list_sort_rev->gZ,AllBare->hJ,subscriptTail_builtinR->i4,wpS->kC,tupleItemsOf_->k8,listUpdate_at->lc,IsTup->lF,seqEpoch_at->mS,IntsAre->m5,minRun'->m7,Subscript_->nj,size_push'->nv
open Array renaming length_toList->aH,getElem?_eq_getElem->bh,getElem?_toList->bo,perm_iff_toList_perm->bC,toList_append->cc,size_push->dB,toList_push->eP,size_extract->fF,size_append->fL,toList_extract->gc,toList_setIfInBounds->gV,getElem?_eq_none->i9,mem_toList_iff->kG,toList_reverse->kO,size_reverse->lC,toList_inj->mH,toList_map->mI
open And renaming intro->aP
open PySem.Value renaming none->br,bool->bO,ref->ck,int->ml,isStrOf->nB
open PySem.NameKind renaming free->bz,cell->cq
open List.Perm renaming refl->cp,swap->g7,of_eq->mW
open PySem.Builtin.Slice renaming slicePlaces->cw,sliceAdjust->fe,sliceApplied->gL
open Sum renaming inl->cC,inr->kS
open Pure renaming pure->cT
open PySem.AutoSeq1 renaming wpAny_loadPart'->da,sub_tuple_tuple->dq,wpAny_loadPart'->fw,idx_int->iJ
open True renaming intro->dJ
open PySem.Obj renaming mapSeq->dL,data_mapFields->eF,isFreed_of_fields->fR,cls_mapFields->io
open PySem.F renaming slot_tuple_iterator_next->dM,args_tuple_add_2->fu,entry_tuple_add->fG,slot_tuple_add->fK,slot_int_rmul->gl,args_tuple_iterator_next_1->gq,slot_zip_next->gu,slot_dict_keyiterator_next->gx,entry_tuple_iterator_next->gE,args_tuple_mul_2->gP,entry_tuple_mul->ic,slot_tuple_mul->iK,plain_list_iadd->iR,args_int_rmul_2->lW,args_zip_next_1->l5,args_tuple_lt_2->md,entry_int_rmul->mw,entry_zip_next->mD,entry_tuple_lt->mK,slot_dict_iter->mL,fills_int_mul->mT,slot_tuple_lt->mY
open Int renaming emod_lt_of_pos->dP,toNat_natCast->d8,emod_nonneg->eI,emod_eq_of_lt->eQ,le_refl->eW,le_antisymm->m3,mul_le_mul->nr
open PySem.Builtin.SmallTypes renaming nextOf->dS
open PySem.Heap.SameBut renaming update->ei
open LawfulBEq renaming eq_of_beq->ej
open PySem.Builtin.Tuple renaming tupleItemsOf->eS,tupleCompareSizes->fP,tupleTooMany->gO
open PySem.Around renaming under_plainId->eU
open PySem.SeqAt renaming EqAt->fT
open PySem.SeqAt.EqAt renaming same->gj,of_refs->gQ,int_str->lm,str_int->ln,int_int->ly
open PyProof.Rows.IsTup renaming new->gF
open Break renaming runK->gT
open List.Pairwise renaming nil->h9,imp_of_mem->iC,filter->kQ
open PySem.SeqAt.RcAt renaming tuples->ig,lists_lengths->iw,lists->my
open PySem.Builtin.List renaming listTooLong->ir
open PySem.PassesOwn renaming never->kq
open PySem.Builtin.Dict renaming showsAll->ky
open ForIn renaming forIn->kK
open PySem.Builtin.Int renaming intBits->kY
open Lean.Grind renaming CommRing->k6
open PySem.P renaming truthy_int->lv
open PySem.Heap.IsSliceOf renaming new->lx
open PySem.Str renaming ofString->l9
open Classical renaming not_not->mh
open Or renaming inr->mz
open ForInStep renaming yield->mU
open PyProof.Rows.SortSt renaming mk'->nt
open PySem.Code renaming compLoop->nD
open Min renaming min->nI
namespace L2
open PySem PySem.Spec PyProof.Rows
abbrev Key:=Sum Int bD
noncomputable def Ub:Key->ap->Bool
 |.inl k,v=>ap.isInt k v
 |.inr x,v=>nB x v
noncomputable def Zc5(w:bZ):Key->Int
 |.inl k=>hashInt k
 |.inr x=>hashStr w x
def ZL:∀{k:Key}{v:ap},Ub k v=aj->(∃i t,k=cC i/\v=ml i t)\/(∃x t,k=kS x/\v=ap.str x t)
 |.inl i,v,h=>by
  obtain⟨t,e⟩:=ap.isInt_shape h;exact .inl #[i,t,rfl,e]
 |.inr x,v,h=>by
  obtain⟨t,e⟩:=ap.isStrOf_shape h;exact .inr #[x,t,rfl,e]
def yX(i:Int)(t:nM):Ub (.inl i) (.int i t)=aj:=by simp[Ub,ap.isInt]
def yx(x:bD)(t:nM):Ub (.inr x) (.str x t)=aj:=by simp[Ub,nB]
def Zbe(a b:Int):al ((cC a:Key)=cC b)=(a == b):=by
 by_cases e:a=b
 .subst e;simp
 .have h:¬(cC a:Key)=cC b:=λq=>e (cC.inj q)
  rw[T4 h];exact(beq_eq_false_iff_ne.mpr e).symm
def Za8(a b:bD):al ((kS a:Key)=kS b)=al (a=b):=by
 by_cases e:a=b
 .subst e;simp
 .have h:¬(kS a:Key)=kS b:=λq=>e (kS.inj q)
  rw[T4 h,T4 e]
def Zan(a:Int)(b:bD):al ((cC a:Key)=kS b)=ai:=T4 (λq=>nomatch q)
def ZbG(a:bD)(b:Int):al ((kS a:Key)=cC b)=ai:=T4 (λq=>nomatch q)
noncomputable def ZE(prog:bE)(w:bZ):PySem.KeyKind prog w Key where
 is:=Ub
 hash:=Zc5 w
 inj:=λv a b ha hb=>by
  rcases ZL ha with⟨i,t,rfl,rfl⟩|⟨x,t,rfl,rfl⟩
  .rcases ZL hb with⟨j,u,rfl,e⟩|⟨y,u,rfl,e⟩
   .injection e with e1 _;rw[e1]
   .exact nomatch e
  .rcases ZL hb with⟨j,u,rfl,e⟩|⟨y,u,rfl,e⟩
   .exact nomatch e
   .injection e with e1 _;rw[e1]
 byValue:=λk v h=>by
  rcases ZL h with⟨i,t,rfl,rfl⟩|⟨x,t,rfl,rfl⟩<;>rfl
 pyHash:=λhv h=>by
  rcases ZL hv with⟨i,t,rfl,rfl⟩|⟨x,t,rfl,rfl⟩
  .exact wpAny_pyHash_int h
  .exact wpAny_pyHash_str h
 eqBool:=λhu hv h=>by
  rcases ZL hu with⟨i,t,rfl,rfl⟩|⟨x,t,rfl,rfl⟩
  .rcases ZL hv with⟨j,u,rfl,rfl⟩|⟨y,u,rfl,rfl⟩
   .rw[Zbe]at h;exact iG h
   .rw[Zan]at h;exact lm i t y u _ _ _ _ h
  .rcases ZL hv with⟨j,u,rfl,rfl⟩|⟨y,u,rfl,rfl⟩
   .rw[ZbG]at h;exact ln x t j u _ _ _ _ h
   .rw[Za8]at h;exact wpAny_eqBool_str h
 «strs»:=λk x t v h=>by
  rcases ZL h with⟨i,u,rfl,e⟩|⟨y,u,rfl,e⟩
  .exact nomatch e
  .injection e with e1 _
   subst e1;cases v<;>rfl
def JS(prog:bE)(w:bZ)(i:Int)(t:nM):(ZE prog w).is (.inl i) (.int i t)=aj:=yX i t
def QI(prog:bE)(w:bZ)(x:bD)(t:nM):(ZE prog w).is (.inr x) (.str x t)=aj:=yx x t
inductive V where
 |non|bl (b:Bool)|int (i:Int)|str (x:bD)|byt (b:Array UInt8)|flt (b:UInt64)|ref (a:aG)|ty (n:String)
 deriving DecidableEq
def Zs:V->ap->Prop
 |.non,u=>u=br
 |.bl b,u=>u=bO b
 |.int i,u=>∃t,u=ml i t
 |.str x,u=>∃t,u=ap.str x t
 |.byt b,u=>∃t,u=ap.bytes b t
 |.flt b,u=>∃t,u=ap.float b t
 |.ref a,u=>u=ck a
 |.ty n,u=>u=ap.type n
abbrev Vals:List V->List ap->Prop:=Paired Zs
theorem Vals.length{xs:List V}{us:List ap}(r:Vals xs us):xs.length=us.length:=Paired.length r
theorem Vals.get:∀{xs:List V}{us:List ap}{i:Nat}{x:V},Vals xs us->xs[i]?=aa x->∃u,us[i]?=aa u/\Zs x u
 |_,_,_,_,.nil,e=>by simp at e
 |_,_,0,_,.cons r _,e=>by simp at e;subst e;exact#[_,rfl,r]
 |_,_,i+1,x,.cons _ t,e=>by
  obtain⟨u,h1,h2⟩:=Vals.get t (by simpa using e)
  exact#[u,by simpa using h1,h2]
theorem Vals.set(r:Zs x u):∀{xs:List V}{us:List ap}(i:Nat),Vals xs us->Vals (xs.set i x) (us.set i u)
 |_,_,_,.nil=>.nil
 |_,_,0,.cons _ t=>.cons r t
 |_,_,i+1,.cons q t=>.cons q<|Vals.set r i t
theorem Vals.append:∀{xs ys:List V}{us ws:List ap},Vals xs us->Vals ys ws->Vals (xs++ys) (us++ws)
 |_,_,_,_,.nil,s=>s
 |_,_,_,_,.cons r t,s=>.cons r<|Vals.append t s
theorem Vals.take:∀{xs:List V}{us:List ap}(n:Nat),Vals xs us->Vals (xs.take n) (us.take n)
 |_,_,0,_=>.nil
 |_,_,_+1,.nil=>.nil
 |_,_,n+1,.cons r t=>.cons r<|Vals.take n t
theorem Vals.drop:∀{xs:List V}{us:List ap}(n:Nat),Vals xs us->Vals (xs.drop n) (us.drop n)
 |_,_,0,r=>r
 |_,_,_+1,.nil=>.nil
 |_,_,n+1,.cons _ t=>Vals.drop n t
def GP:Option V->Option ap->Prop
 |some v,aa u=>Zs v u
 |none,ae=>True
 |_,_=>False
def KV{κ:Type}:List (κ×V)->List (κ×ap)->Prop:=Paired λ(p:κ×V) (q:κ×ap)=>p.1=q.1/\Zs p.2 q.2
noncomputable def kV:Key->V
 |.inl i=>.int i
 |.inr x=>.str x
inductive HO where
 |lst (xs:List V)
 |tup (xs:List V)
 |dK (kvs:List (Key×V))|dT (kvs:List (List Key×V))
 |set (S:Int->Bool) (n:Nat)
 |ins (C dx:aG) (fs:List (bD×V))
 |own (x:aG)
 |xd (fs:List (bD×V))
 |met (f x:aG)
 |rng (lo hi:Int)
 |frz (o:eX) (u:HO)
 |tbl (ps:Array ap)
 |ext (φ:bX->Prop)
abbrev Hp:=aG->Option HO
noncomputable def upd(H:Hp)(a:aG)(o:HO):Hp:=λb=>if b=a then aa o else H b
def Zo :upd H a o a=aa o:=by unfold upd;rw[T9 rfl]
def Zl(h:b≠a):upd H a o b=H b:=by unfold upd;rw[T8 h]
def jA{H:Hp}{a b:aG}{o u:HO}(h:H a=aa o)(h':H b=aa u)(d:o≠u):a≠b:=by
 intro e;subst e;rw[h]at h';exact d<|af h'
def ZY{H:Hp}{a b:aG}{o:HO}(h:H a=aa o)(h':H b=ae):a≠b:=by
 intro e;subst e;rw[h]at h';cases h'
section
variable(P:bE)(w:bZ)
def ZZ(H:Hp)(h:bX)(a:aG):HO->Prop
 |.lst xs=>xs.length<=aY/\∃(its:List ap)(n:Nat),Vals xs its/\h.get? a=aa {cls:=.type "list",data:=.seq its.toArray n}
 |.tup xs=>xs.length<=aY/\∃its:List ap,Vals xs its/\lF h a its.toArray
 |.dK kvs=>kvs.length<=aY/\(a == cG)=ai/\∃vs,KV kvs vs/\h.DictOf (ZE P w) a vs
 |.dT kvs=>kvs.length<=aY/\(a == cG)=ai/\∃xs:List (List Key×aG×ap),
   Paired (λ(p:List Key×V) (q:List Key×aG×ap)=>p.1=q.1/\H q.2.1=aa (.tup<|p.1.map kV)/\Zs p.2 q.2.2) kvs xs/\
   ∃o es ep,h.get? a=aa o/\o.ExactDict/\o.data=.dict es ep/\es.toList=xs.map (entryOfKey<|c8<|ZE P w)/\(xs.map (·.1)).Nodup
 |.set S n=>h.SetOf (gB P w) a S n
 |.ins C dx fs=>H dx=aa (.own a)/\fs.length<=1000/\dx≠a/\h.get? a=aa (kh C dx)/\
   ∃mA,h.Ns1 dx mA/\(∀f,GP (fs.lookup f)<|mA f)/\PySem.Within mA (fs.map (·.1))
 |.own _=>∃o,h.get? a=aa o
 |.xd fs=>∃mA,h.Ns1 a mA/\∀f,GP (fs.lookup f)<|mA f
 |.rng lo hi=>∃t u v,h.get? a=aa {cls:=.type "range",data:=.fields [.int lo t,.int hi u,.int 1 v].toArray}
 |.frz o u=>h.get? a=aa o/\ZZ H h a u
 |.tbl ps=>h.get? a=aa {cls:=.none,data:=.fields ps}
 |.met f x=>h.get? a=aa (PySem.W.methodObj (.ref f)<|.ref x)
 |.ext φ=>φ h/\(∃o,h.get? a=aa o)/\∀h1 h2:bX,φ h1->(∀o,h1.get? a=aa o->h2.get? a=aa o)->φ h2
def HOk(H:Hp)(h:bX):Prop:=∀a o,H a=aa o->ZZ P w H h a o
end
theorem ZZ.lt(x:ZZ P w H h a o):a<h.objs.size:=by
 cases o with|lst xs=>obtain⟨_,_,_,_,e⟩:=x;exact aF e|tup xs=>obtain⟨_,_,_,p⟩:=x;exact p.lt|dK kvs=>obtain⟨_,_,_,_,o,_,_,e,_⟩:=x;exact aF e|dT kvs=>obtain⟨_,_,_,_,o,_,_,e,_⟩:=x;exact aF e|set S n=>obtain⟨o,_,_,_,e,_⟩:=x;exact aF e|ins C dx fs=>obtain⟨_,_,_,e,_⟩:=x;exact aF e|own y=>obtain⟨_,e⟩:=x;exact aF e|xd fs=>obtain⟨_,⟨_,_,_,e,_⟩,_⟩:=x;exact aF e|rng lo hi=>obtain⟨_,_,_,e⟩:=x;exact aF e|frz ob u=>obtain⟨e,_⟩:=x;exact aF e|tbl ps=>exact aF (x)|met f y=>exact aF (x)|ext φ=>obtain⟨_,⟨_,e⟩,_⟩:=x;exact aF e
theorem Paired.mapP{B β:Type}{F G:B->β->Prop}:∀{l₁:List B}{l₂:List β},Paired F l₁ l₂->(∀a b,F a b->G a b)->Paired G l₁ l₂
 |_,_,.nil,_=>.nil
 |_,_,.cons r t,f=>.cons (f _ _ r)<|Paired.mapP t f
def ZZ.stay(x:ZZ P w H h a o)(k:∀b u,(b=a\/H b=aa (.own a))->h.get? b=aa u->h'.get? b=aa u)
  (ho:∀b,H b=aa (.own a)->H' b=aa (.own a))(ht:∀b xs,H b=aa (.tup xs)->H' b=aa (.tup xs)):ZZ P w H' h' a o:=by
 induction o with
 |lst xs=>obtain⟨z,its,n,r,e⟩:=x;exact#[z,its,n,r,k _ _ (.inl rfl) e]
 |tup xs=>obtain⟨z,its,r,ob,e,c⟩:=x;exact#[z,its,r,ob,k _ _ (.inl rfl) e,c]
 |dK kvs=>obtain⟨z,y,vs,r,ob,es,ep,e,c⟩:=x;exact#[z,y,vs,r,ob,es,ep,k _ _ (.inl rfl) e,c]
 |dT kvs=>
  obtain⟨z,y,xs,r,ob,es,ep,e,c⟩:=x;exact#[z,y,xs,Paired.mapP r λp q z=>#[z.1,ht _ _ z.2.1,z.2.2],ob,es,ep,k _ _ (.inl rfl) e,c]
 |set S n=>obtain⟨ob,es,ep,t,e,c⟩:=x;exact#[ob,es,ep,t,k _ _ (.inl rfl) e,c]
 |ins C dx fs=>
  obtain⟨d,z,ne,e,mA,⟨od,es,ep,e2,c⟩,r⟩:=x;exact#[ho _ d,z,ne,k _ _ (.inl rfl) e,mA,#[od,es,ep,k _ _ (.inr d) e2,c],r]
 |own y=>obtain⟨ob,e⟩:=x;exact#[ob,k _ _ (.inl rfl) e]
 |xd fs=>obtain⟨mA,⟨od,es,ep,e,c⟩,r⟩:=x;exact#[mA,#[od,es,ep,k _ _ (.inl rfl) e,c],r]
 |rng lo hi=>obtain⟨t,u,v,e⟩:=x;exact#[t,u,v,k _ _ (.inl rfl) e]
 |frz ob u ih=>obtain⟨e,q⟩:=x;exact#[k _ _ (.inl rfl) e,ih q]
 |tbl ps=>
  have e:=x;exact k a _ (.inl rfl) e
 |met f y=>
  have e:=x;exact k a _ (.inl rfl) e
 |ext φ=>obtain⟨p,⟨o,e⟩,st⟩:=x;exact#[st _ _ p λo q=>k _ _ (.inl rfl) q,#[o,k _ _ (.inl rfl) e],st]
theorem HOk.lt(x:HOk P w H h)(e:H a=aa o):a<h.objs.size:=(x a o e).lt
def HOk.fresh(x:HOk P w H h)(e:h.objs.size<=a):H a=ae:=by
 cases q:H a with|none=>rfl|some u=>exact T7 (bi (x.lt q) e)<|bp _
def HOk.kept(x:HOk P w H h)(k:∀b u,h.get? b=aa u->h'.get? b=aa u):HOk P w H h':=λa o e=>
 (x a o e).stay (λb u _ q=>k b u q) (λ_ q=>q) λ_ _ q=>q
def HOk.laid(x:HOk P w H h)(k:∀b u,h.get? b=aa u->h'.get? b=aa u)(hp:h.objs.size<=a)(new:ZZ P w (upd H a o) h' a o):HOk P w (upd H a o) h':=λb u e=>by
 have hn:=x.fresh hp;by_cases hb:b=a
 .subst hb;rw[Zo]at e;cases e;exact new
 .rw[Zl hb]at e
  exact(x b u e).stay (λc v _ q=>k c v q) (λc q=>by rw[Zl<|ZY q hn];exact q) λc xs q=>by rw[Zl<|ZY q hn];exact q
def Rd(H:Hp)(a:aG)(u:HO):Prop:=H a=aa u\/∃o,H a=aa (.frz o u)
def Rd.ok(r:Rd H a u)(x:HOk P w H h):ZZ P w H h a u:=by
 rcases r with r|⟨o,r⟩
 .exact x a u r
 .obtain⟨_,q⟩:=x a _ r
  exact q
def Mut:Option HO->Prop
 |some (.lst _)=>True
 |some (.dK _)=>True
 |some (.dT _)=>True
 |some (.set _ _)=>True
 |some (.ins _ _ _)=>True
 |some (.ext _)=>True
 |_=>False
def HOk.write(ok:HOk P w H h)(mu:Mut (H x))(he:e=x\/H e=aa (.own x))(k:∀b u,b≠e->h.get? b=aa u->h'.get? b=aa u)(heo:∃u,h'.get? e=aa u)
  (new:ZZ P w (upd H x o') h' x o'):HOk P w (upd H x o') h':=λb u q=>by
 have nown:∀c y,H c=aa (.own y)->c≠x:=λc y r z=>by subst z;rw[r]at mu;exact mu
 have ntup:∀c xs,H c=aa (.tup xs)->c≠x:=λc xs r z=>by subst z;rw[r]at mu;exact mu
 by_cases hb:b=x
 .subst hb;rw[Zo]at q;cases q;exact new
 .rw[Zl hb]at q
  by_cases hbe:b=e
  .have q':H b=aa (.own x):=by
    rcases he with z|z
    .exact T7 (hbe.trans z) hb
    .rw[hbe];exact z
   rw[q]at q';cases q';obtain⟨v,hv⟩:=heo;exact#[v,by rw[hbe];exact hv]
  .refine(ok b u q).stay (λc v hc r=>k c v ?_ r) (λc r=>by rw[Zl<|nown c b r];exact r) λc xs r=>by rw[Zl<|ntup c xs r];exact r
   rcases hc with rfl|hc
   .exact hbe
   .rintro rfl
    rcases he with z|z
    .exact nown c b hc z
    .rw[hc]at z;cases z;exact hb rfl
structure Un(fs ex:List aG)(H H':Hp)(h h':bX):Prop where
 keep:∀b o,h.get? b=aa o->H b=ae->b∉fs->b∉ex->h'.get? b=aa o
 slot:∀b o,h.get? b=aa o->H b=ae->b∈fs->b∉ex->∃sl,h'.get? b=aa {o with slots:=sl}
 free:∀b o,h.get? b=aa o->H b=ae->b∉ex->H' b=ae
 there:∀b o,h.get? b=aa o->b∉ex->∃o',h'.get? b=aa o'
 tups:∀b xs,H b=aa (.tup xs)->H' b=aa (.tup xs)
 frzs:∀b o u,H b=aa (.frz o u)->H' b=aa (.frz o u)
 tbls:∀b ps,H b=aa (.tbl ps)->∃more,H' b=aa (.tbl<|ps++more)
def Un.any(u:Un fs ex H H1 h h1)(q:h.get? b=aa ob)(n:H b=ae)(hx:b∉ex):∃sl,h1.get? b=aa {ob with slots:=sl}:=by
 by_cases hb:b∈fs
 .exact u.slot b ob q n hb hx
 .exact#[ob.slots,u.keep b ob q n hb hx]
def Un.kept(k:∀b u,h.get? b=aa u->h'.get? b=aa u):Un fs ex H H h h':=
 #[λb ob q _ _ _=>k b ob q,λb ob q _ _ _=>#[ob.slots,k b ob q],λ_ _ _ n _=>n,λb ob q _=>#[ob,k b ob q],λ_ _ q=>q,λ_ _ _ q=>q,λ_ ps q=>#[#[],by rw[q];simp]]
def Un.refl:Un fs ex H H h h:=Un.kept λ_ _ q=>q
def Un.laid(k:∀b u,h.get? b=aa u->h'.get? b=aa u)(hp:h.objs.size<=a)(hn:H a=ae):Un fs ex H (upd H a o) h h' where
 keep:=λb u q _ _ _=>k b u q
 slot:=λb u q _ _ _=>#[u.slots,k b u q]
 free:=λb u q n _=>by rw[Zl<|bg<|bi (aF q) hp];exact n
 there:=λb u q _=>#[u,k b u q]
 tups:=λb xs q=>by rw[Zl<|ZY q hn];exact q
 frzs:=λb u xs q=>by rw[Zl<|ZY q hn];exact q
 tbls:=λb ps q=>#[#[],by rw[Zl<|ZY q hn,q];simp]
def Un.write(mu:Mut (H x))(he:e=x\/H e=aa (.own x))(k:∀b u,b≠e->h.get? b=aa u->h'.get? b=aa u)(heo:∃u,h'.get? e=aa u):Un fs ex H (upd H x o) h h':=by
 have hx:∀b,H b=ae->b≠x:=λb n z=>by subst z;rw[n]at mu;exact mu
 have hb:∀b,H b=ae->b≠e:=λb n z=>by
  subst z;rcases he with r|r
  .exact hx b n r
  .rw[n]at r;cases r
 have hm:∀b u,H b=aa u->¬Mut (aa u)->b≠x:=λb u q nm z=>by subst z;rw[q]at mu;exact nm mu
 refine#[λb u q n _ _=>k b u (hb b n) q,λb u q n _ _=>#[u.slots,k b u (hb b n) q],λb u q n _=>by rw[Zl<|hx b n];exact n,λb u q _=>?_,
  λb xs q=>by rw[Zl<|hm b _ q λz=>z];exact q,λb u xs q=>by rw[Zl<|hm b _ q λz=>z];exact q,λb ps q=>#[#[],by rw[Zl<|hm b _ q λz=>z,q];simp]]
 by_cases hbe:b=e
 .subst hbe;exact heo
 .exact#[u,k b u hbe q]
noncomputable def trk(h:bX)(H:Hp):List aG:=(aU h.objs.size).filter λa=>(H a).isSome
noncomputable def Qe(h:bX)(H:Hp):bX:=PySem.W.hideAll h<|trk h H
def yt(h:bX)(H:Hp):(Qe h H).objs.size=h.objs.size:=PySem.W.hideAll_size _ _
def vQ(e:h.get? b=aa o)(n:H b=ae):(Qe h H).get? b=aa o:=
 PySem.W.hideAll_get _ e λhm=>by
  have q:=(dU.mp hm).2;rw[n]at q;simp at q
def qR(e:(Qe h H).get? b=aa o):h.get? b=aa o/\H b=ae:=by
 have e':=PySem.W.of_hideAll (trk h H) e;refine#[e',?_];cases q:H b with
 |none=>rfl
 |some x=>
  have hm:b∈trk h H:=dU.mpr #[bj.mpr<|aF e',by simp[q]]
  have z:(Qe h H).get? b=ae:=PySem.W.hideAll_none (trk h H) hm;rw[z]at e;cases e
structure Mod(K:ao)(mg:bD->Option ap)(base:bX):Prop where
 kin:K.In base
 glob:base.Ns cA mg
 blt:∃mb,base.Ns lp mb/\∀x:bD,x≠"__name__"->mb x=cY x
 nolimit:base.NoLimit
structure Cx where
 prog:bE
 w:bZ
 K:ao
 mg:bD->Option ap
 base:bX
 A:cQ
 N:List bD
 s₀:aw
 H₀:Hp
 env:Env
 outer:List Env
 stack:List Env
 ex:List aG
 fn:bD->Bool
 calm:Bool
 pn:List (aG×eX)
 xe:ap->aw->Prop
noncomputable def frs(l:List Env):List aG:=l.filterMap (·.frame)
noncomputable abbrev Cx.fs(X:Cx):List aG:=frs X.outer
def Vis(sc:ez)(x:bD):Prop:=sc.names.lookup x=aa .local\/sc.names.lookup x=aa .cell\/sc.names.lookup x=aa .free
def Loc(sc:ez)(x:bD):Prop:=sc.names.lookup x=aa .local\/sc.names.lookup x=aa .cell
def Look(env:Env)(h:bX)(m:bD->Option ap)(x:bD)(u:ap):Prop:=
 (env.kindOf x=aa .local/\m x=aa u)\/((env.kindOf x=aa .cell\/env.kindOf x=aa .free)/\∃c,env.cells.lookup x=aa c/\h.IsCell c (aa u))
structure Cx.Ok(X:Cx):Prop where
 mod:Mod X.K X.mg X.base
 kind:X.env.scope.kind=.function
 glob:X.env.globals=cA
 blt:X.env.builtins=lp
 above:X.s₀.heap.objs.size<=X.env.locals
 inj:∀x y c,X.env.cells.lookup x=aa c->X.env.cells.lookup y=aa c->x=y
 has:∀x,(X.env.kindOf x=aa .cell\/X.env.kindOf x=aa .free)->∃c,X.env.cells.lookup x=aa c
 cab:∀x c,X.fn x=aj->X.env.cells.lookup x=aa c->X.s₀.heap.objs.size<=c
 hd:X.calm=aj->X.A.handled=ae
 frames:X.A.frames=aa X.stack
 stk:X.stack=X.outer\/(X.stack=X.env::X.outer/\X.env.frame=aa X.env.locals)
 exf:∀b∈X.ex,b≠X.env.locals/\∀x c,X.env.cells.lookup x=aa c->c≠b
 bs:∀b o,X.base.get? b=aa o->X.s₀.heap.get? b=aa o/\X.H₀ b=ae
 bsz:X.base.objs.size<=X.s₀.heap.objs.size
 noex:∀b o,X.base.get? b=aa o->b∉X.ex
 exfs:∀b∈X.ex,b∉X.fs
 funs:X.s₀.heap.FunFrames X.base X.outer
 frf:∀b∈X.fs,X.H₀ b=ae
structure Inv(X:Cx)(pq:List (aG×eX))(U:List (Option V))(H:Hp)(s:aw):Prop where
 ok:X.Ok
 os:s.os=X.s₀.os
 bare:hJ s.gens
 base:Un X.fs X.ex X.H₀ H X.s₀.heap s.heap
 loc:∃m,s.heap.Ns X.env.locals m/\∀(i:Nat)(x:bD)(v:V),X.N[i]?=aa x->U[i]?=aa (aa v)->Vis X.env.scope x->∃u,Zs v u/\Look X.env s.heap m x u
 cell:∀x c,X.env.cells.lookup x=aa c->∃v,s.heap.IsCell c v
 free:H X.env.locals=ae
 freeC:∀x c,X.env.cells.lookup x=aa c->H c=ae
 pin:∀p∈X.pn++pq,s.heap.get? p.1=aa p.2/\H p.1=ae/\p.1≠X.env.locals/\p.1∉X.fs/\∀v,p.2.data≠.cell v
 hok:HOk X.prog X.w H s.heap
 len:U.length=X.N.length
section
variable{X:Cx}{pq:List (aG×eX)}{U:List (Option V)}{H H':Hp}{s:aw}{h':bX}
def Cx.Ok.nofr(ok:X.Ok)(e:X.base.get? b=aa o):b∉X.fs:=λhb=>by
 have:=(ok.funs.mem hb).1;rw[e]at this;cases this
theorem Inv.bs(I:Inv X pq U H s):∀b o,X.base.get? b=aa o->s.heap.get? b=aa o/\H b=ae:=λb o e=>
 #[I.base.keep b o (I.ok.bs b o e).1 (I.ok.bs b o e).2 (I.ok.nofr e)<|I.ok.noex b o e,I.base.free b o (I.ok.bs b o e).1 (I.ok.bs b o e).2<|I.ok.noex b o e]
def Inv.bk(I:Inv X pq U H s):∀b o,X.base.get? b=aa o->s.heap.get? b=aa o:=λb o e=>(I.bs b o e).1
theorem Inv.mod(I:Inv X pq U H s):Mod X.K X.mg X.base:=I.ok.mod
def Inv.kIn(I:Inv X pq U H s):X.K.In s.heap:=I.ok.mod.kin.keeps I.bk
theorem Inv.lt(I:Inv X pq U H s):X.env.locals<s.heap.objs.size:=let #[_,hn,_]:=I.loc;hn.lt
def Inv.sz(I:Inv X pq U H s):X.s₀.heap.objs.size<=s.heap.objs.size:=b0 I.ok.above<|gC I.lt
def Inv.nofs(I:Inv X pq U H s)(h:s.heap.objs.size<=a):a∉X.fs:=λhb=>by
 obtain⟨_,o,ho,_⟩:=I.ok.funs.mem hb;exact T7 (bi (aF ho)<|b0 I.sz h)<|bp _
def Inv.cne(I:Inv X pq U H s):∀x c,X.env.cells.lookup x=aa c->c≠X.env.locals:=λx c e z=>by
 obtain⟨v,o,ho,hd⟩:=I.cell x c e;obtain⟨m,⟨o',es,ep,ho',hd',_⟩,_⟩:=I.loc;rw[z,ho']at ho;cases ho;rw[hd']at hd;cases hd
theorem Inv.funs(I:Inv X pq U H s):s.heap.FunFrames X.base X.outer:=by
 have all:∀(l:List Env),(∀b∈frs l,b∈X.fs)->X.s₀.heap.FunFrames X.base l->s.heap.FunFrames X.base l:=by
  intro l
  induction l with
  |nil=>intro _ _;trivial
  |cons env r ih=>
   intro hs hl;obtain⟨hk,⟨L,o,hf,hn,ho,hd⟩,hr⟩:=hl;have hL:=hs L (by unfold frs;rw[gz,hf];exact am)
   obtain⟨sl,e⟩:=I.base.slot L o ho (I.ok.frf L hL) hL λz=>I.ok.exfs L z hL
   exact#[hk,#[L,_,hf,hn,e,hd],ih (λb hb=>hs b<|by unfold frs;rw[gz,hf];exact ak _ hb) hr]
 exact all X.outer (λ_ hb=>hb) I.ok.funs
theorem Inv.stack(I:Inv X pq U H s):s.heap.FunFrames X.base X.stack:=by
 rcases I.ok.stk with e|⟨e,hf⟩
 .rw[e];exact I.funs
 .rw[e]
  obtain⟨m,hn,_⟩:=I.loc;refine .cons (by rw[I.ok.kind];decide) hf hn ?_ I.funs
  exact bX.get?_none_of_le<|b0 I.ok.bsz I.ok.above
def Inv.stkSub(I:Inv X pq U H s):∀b∈frs X.stack,b∈X.env.locals::X.fs:=λb hb=>by
 rcases I.ok.stk with e|⟨e,hf⟩
 .rw[e]at hb;exact ak _ hb
 .rw[e]at hb
  unfold frs at hb;rw[gz,hf]at hb;exact hb
def Inv.stkFree(I:Inv X pq U H s):∀b∈frs X.stack,H b=ae:=λb hb=>by
 rcases aC.mp (I.stkSub b hb)with e|hb
 .rw[e];exact I.free
 .obtain⟨_,o,ho,_⟩:=I.ok.funs.mem hb
  exact I.base.free b o ho (I.ok.frf b hb) λz=>I.ok.exfs b z hb
def Inv.step{g':Array GenState}{t':Nat}{d':Drawn}{ch:List aG}(I:Inv X pq U H s)
  (hch:∀b∈ch,(b∈X.ex\/X.s₀.heap.objs.size<=b)/\b≠X.env.locals/\(∀x c,X.env.cells.lookup x=aa c->c≠b)/\∀p∈X.pn++pq,p.1≠b)
  (keep:∀b o,b≠X.env.locals->b∉X.fs->b∉ch->s.heap.get? b=aa o->H b=ae->h'.get? b=aa o)
  (slot:∀b o,b≠X.env.locals->b∈X.fs->b∉ch->s.heap.get? b=aa o->H b=ae->∃sl,h'.get? b=aa {o with slots:=sl})(free:∀b o,b∉ch->s.heap.get? b=aa o->H b=ae->H' b=ae)
  (there:∀b o,b∉ch->s.heap.get? b=aa o->∃o',h'.get? b=aa o')
  (tups:∀b xs,H b=aa (.tup xs)->H' b=aa (.tup xs))(frzs:∀b o u,H b=aa (.frz o u)->H' b=aa (.frz o u))(tbls:∀b ps,H b=aa (.tbl ps)->∃more,H' b=aa (.tbl<|ps++more))
  (ns:∀m,s.heap.Ns X.env.locals m->h'.Ns X.env.locals m)(hok:HOk X.prog X.w H' h')(hg:hJ g') :
  Inv X pq U H' {s with heap:=h',gens:=g',drawn:=d',toks:=t' }:=by
 have neL:∀b o,X.s₀.heap.get? b=aa o->b≠X.env.locals:=λb o e=>bg<|bi (aF e) I.ok.above
 have neC:∀b o,X.s₀.heap.get? b=aa o->b∉X.ex->b∉ch:=λb o e hx hb=>by
  rcases(hch b hb).1 with z|z
  .exact hx z
  .exact T7 (bi (aF e) z)<|bp _
 have cellK:∀x c,X.env.cells.lookup x=aa c->∀v,s.heap.IsCell c v->h'.IsCell c v:=by
  rintro x c e v ⟨o,ho,hd⟩;have nch:=λz=>(hch c z).2.2.1 x c e rfl
  by_cases hc:c∈X.fs
  .obtain⟨sl,q⟩:=slot c o (I.cne x c e) hc nch ho (I.freeC x c e)
   exact#[_,q,hd]
  .exact#[o,keep c o (I.cne x c e) hc nch ho<|I.freeC x c e,hd]
 refine#[I.ok,I.os,hg,#[λb o e n hb hx=>?_,λb o e n hb hx=>?_,λb o e n hx=>?_,λb o e hx=>?_,λb xs e=>tups b xs<|I.base.tups b xs e,λb o xs e=>frzs b o xs<|I.base.frzs b o xs e,λb ps e=>?_],?_,λx c e=>?_,?_,λx c e=>?_,λp hp=>?_,hok,I.len]
 .exact keep b o (neL b o e) hb (neC b o e hx) (I.base.keep b o e n hb hx)<|I.base.free b o e n hx
 .obtain⟨sl,e1⟩:=I.base.slot b o e n hb hx
  obtain⟨sl',e2⟩:=slot b _ (neL b o e) hb (neC b o e hx) e1<|I.base.free b o e n hx;exact#[sl',e2]
 .obtain⟨o',e1⟩:=I.base.there b o e hx
  exact free b o' (neC b o e hx) e1<|I.base.free b o e n hx
 .obtain⟨o',e1⟩:=I.base.there b o e hx
  exact there b o' (neC b o e hx) e1
 .obtain⟨m1,e1⟩:=I.base.tbls b ps e
  obtain⟨m2,e2⟩:=tbls b _ e1;exact#[m1++m2,by rw[e2,Array.append_assoc]]
 .obtain⟨m,hn,hl⟩:=I.loc
  refine#[m,ns m hn,λi x v e1 e2 e3=>?_]
  obtain⟨u,r,l⟩:=hl i x v e1 e2 e3;refine#[u,r,?_];rcases l with l|⟨k,c,e,z⟩
  .exact .inl l
  .exact .inr #[k,c,e,cellK x c e _ z]
 .obtain⟨v,z⟩:=I.cell x c e
  exact#[v,cellK x c e v z]
 .obtain⟨m,⟨o,_,_,ho,_⟩,_⟩:=I.loc
  exact free _ o (λz=>(hch _ z).2.1 rfl) ho I.free
 .obtain⟨v,o,ho,hd⟩:=I.cell x c e
  exact free c o (λz=>(hch c z).2.2.1 x c e rfl) ho<|I.freeC x c e
 .obtain⟨e,n,ne,nf,d⟩:=I.pin p hp
  have nch:=λz=>(hch p.1 z).2.2.2 p hp rfl
  exact#[keep p.1 p.2 ne nf nch e n,free p.1 p.2 nch e n,ne,nf,d]
def Inv.un{t':Nat}(I:Inv X pq U H s)(u:Un X.fs [] H H' s.heap h')(hok:HOk X.prog X.w H' h'):Inv X pq U H' {s with heap:=h',toks:=t' }:=by
 obtain⟨m,⟨o,es,ep,ho,r⟩,_⟩:=id I.loc;obtain⟨sl,hL⟩:=u.any ho I.free (by simp)
 exact I.step (g':=s.gens) (d':=s.drawn) (ch:=[]) (λ_ z=>nomatch z) (λb o _ hb _ e n=>u.keep b o e n hb<|by simp) (λb o _ hb _ e n=>u.slot b o e n hb<|by simp) (λb o _ e n=>u.free b o e n<|by simp) (λb o _ e=>u.there b o e<|by simp) u.tups u.frzs u.tbls (λm' hm=>by
  obtain⟨o',es',ep',ho',r'⟩:=hm;rw[ho]at ho';cases ho';exact#[_,es',ep',hL,r']) hok I.bare
def Inv.call{g':Array GenState}{t':Nat}{d':Drawn}{ch:List aG}(I:Inv X pq U H s)(u:Un (frs X.stack) ch H H' s.heap h')(hok:HOk X.prog X.w H' h')(hg:hJ g')
  (hch:∀b∈ch,(b∈X.ex\/X.s₀.heap.objs.size<=b)/\b≠X.env.locals/\(∀x c,X.env.cells.lookup x=aa c->c≠b)/\∀p∈X.pn++pq,p.1≠b) :
  Inv X pq U H' {s with heap:=h',gens:=g',drawn:=d',toks:=t' }:=by
 obtain⟨m,⟨o,es,ep,ho,r⟩,_⟩:=id I.loc;obtain⟨sl,hL⟩:=u.any ho I.free λz=>(hch _ z).2.1 rfl
 exact I.step hch (λb o hL hb hc e n=>u.keep b o e n (λz=>(aC.mp<|I.stkSub b z).elim hL hb) hc) (λb o _ _ hc e n=>u.any e n hc) (λb o hc e n=>u.free b o e n hc) (λb o hc e=>u.there b o e hc) u.tups u.frzs u.tbls (λm' hm=>by
  obtain⟨o',es',ep',ho',r'⟩:=hm;rw[ho]at ho';cases ho';exact#[_,es',ep',hL,r']) hok hg
def Inv.turned{t':Nat}{it:aG}(I:Inv X pq U H s)(k:∀b o,b≠it->s.heap.get? b=aa o->h'.get? b=aa o)(hn:H it=ae)(hL:it≠X.env.locals)
  (h1:it∈X.ex\/X.s₀.heap.objs.size<=it)(h2:∀x c,X.env.cells.lookup x=aa c->c≠it)(h3:∀p∈X.pn++pq,p.1≠it):Inv X pq U H {s with heap:=h',toks:=t' }:=by
 have nit:∀b u,H b=aa u->b≠it:=λb u e z=>by rw[z,hn]at e;cases e
 refine I.step (g':=s.gens) (d':=s.drawn) (ch:=[it]) (λb hb=>?_) (λb o _ _ hc e _=>k b o (λz=>hc<|by simp[z]) e) (λb o _ _ hc e _=>#[o.slots,k b o (λz=>hc<|by simp[z]) e]) (λ_ _ _ _ n=>n)
  (λb o hc e=>#[o,k b o (λz=>hc<|by simp[z]) e]) (λ_ _ e=>e) (λ_ _ _ e=>e) (λb ps e=>#[#[],by rw[e];simp]) (λm hm=>?_) (λb u e=>?_) I.bare
 .have e:b=it:=by simpa using hb
  subst e;exact#[h1,hL,h2,h3]
 .obtain⟨o,es,ep,ho,r⟩:=hm
  exact#[o,es,ep,k _ o (Ne.symm hL) ho,r]
 .refine(I.hok b u e).stay (λc v hc q=>k c v ?_ q) (λ_ q=>q) λ_ _ q=>q
  rcases hc with z|z
  .rw[z];exact nit b u e
  .exact nit c _ z
def Inv.tok(I:Inv X pq U H s)(t:Nat):Inv X pq U H {s with toks:=t}:=I.un (h':=s.heap) (t':=t) Un.refl I.hok
theorem Inv.kept(I:Inv X pq U H s)(k:∀b u,s.heap.get? b=aa u->h'.get? b=aa u):Inv X pq U H {s with heap:=h',toks:=t' }:=I.un (Un.kept k)<|I.hok.kept k
theorem Inv.laid(I:Inv X pq U H s)(k:∀b u,s.heap.get? b=aa u->h'.get? b=aa u)(hp:s.heap.objs.size<=a)(new:ZZ X.prog X.w (upd H a o) h' a o) :
  Inv X pq U (upd H a o) {s with heap:=h',toks:=t' }:=I.un (Un.laid k hp<|I.hok.fresh hp)<|I.hok.laid k hp new
theorem Inv.write(I:Inv X pq U H s)(mu:Mut (H x))(he:e=x\/H e=aa (.own x))(k:∀b u,b≠e->s.heap.get? b=aa u->h'.get? b=aa u)(heo:∃u,h'.get? e=aa u)
  (new:ZZ X.prog X.w (upd H x o) h' x o):Inv X pq U (upd H x o) {s with heap:=h',toks:=t' }:=I.un (Un.write mu he k heo)<|I.hok.write mu he k heo new
def Inv.pins_of(I:Inv X pq U H s)(h:∀p∈pins',s.heap.get? p.1=aa p.2/\H p.1=ae/\p.1≠X.env.locals/\p.1∉X.fs/\∀v,p.2.data≠.cell v):Inv X pins' U H s:=
 #[I.ok,I.os,I.bare,I.base,I.loc,I.cell,I.free,I.freeC,λp hp=>(cg.mp hp).elim (λz=>I.pin p<|dr _ z)<|h p,I.hok,I.len]
def QO{N:List bD}(hN:N.Nodup){i j:Nat}{x:bD}(a:N[i]?=aa x)(b:N[j]?=aa x):i=j:=by
 obtain⟨h1,e1⟩:=a8.mp a;obtain⟨h2,e2⟩:=a8.mp b;exact(List.getElem_inj hN).mp<|e1.trans e2.symm
def UA{M:Model}{A:cQ}{E:ap->aw->Prop}{i:Nat}{x:bD}{v:V}{u:ap}{Q:Unit->aw->Prop}(I:Inv X pq U H s)(hN:X.N.Nodup)(hi:X.N[i]?=aa x)(hx:Loc X.env.scope x)(r:Zs v u)
  (h:∀s',Inv X pq (U.set i<|aa v) H s'->(∃a,eB a s.heap s'.heap/\(a=X.env.locals\/X.env.cells.lookup x=aa a))->Q () s')(hf:X.fn x=aj\/X.env.scope.names.lookup x=aa .local:=by first|exact .inl rfl|exact .inr rfl|assumption):aX M A (storeName X.env x u) Q E s:=by
 obtain⟨m,hn,hl⟩:=id I.loc;have hcls:(X.env.scope.kind == .class||(X.env.scope.kind == .module&&X.env.locals != X.env.globals))=ai:=by rw[I.ok.kind];rfl
 have hiσ:i<U.length:=by rw[I.len];exact(a8.mp hi).1
 have cne:=I.cne;have tracked:∀{a:aG}{h':bX},(∃o,s.heap.get? a=aa o/\H a=ae)->eB a s.heap h'->HOk X.prog X.w H h':=λ{a h'} ha hs b ob e=>by
  obtain⟨_,_,hfree⟩:=ha;refine(I.hok b ob e).stay (λc w' hc q=>(hs.2 c ?_).trans q) (λ_ q=>q) λ_ _ q=>q
  rintro rfl
  rcases hc with rfl|hc
  .rw[hfree]at e;cases e
  .rw[hfree]at hc;cases hc
 rcases hx with hk|hk
 .refine wpAny_storeName_local hk hn (λh' hn' hs=>?_) hcls
  obtain⟨oL,_,_,hoL,_⟩:=id hn;refine h _ #[I.ok,I.os,I.bare,#[λb o e n hb hx=>?_,λb o e n hb hx=>?_,I.base.free,λb o e hx=>?_,I.base.tups,I.base.frzs,I.base.tbls],#[_,hn',λj y v' e1 e2 e3=>?_],λy c e=>?_,I.free,I.freeC,λp hp=>?_,tracked #[oL,hoL,I.free] hs,by simpa using I.len] #[_,hs,.inl rfl]
  .exact(hs.2 b<|bg<|bi (aF e) I.ok.above).trans<|I.base.keep b o e n hb hx
  .obtain⟨sl,e1⟩:=I.base.slot b o e n hb hx
   exact#[sl,(hs.2 b<|bg<|bi (aF e) I.ok.above).trans e1]
  .obtain⟨o',e1⟩:=I.base.there b o e hx
   exact#[o',(hs.2 b<|bg<|bi (aF e) I.ok.above).trans e1]
  .by_cases hj:j=i
   .subst hj
    rw[hi]at e1;cases e1;rw[ba hiσ]at e2;cases e2;exact#[u,r,.inl #[hk,by simp]]
   .rw[aQ<|Ne.symm hj]at e2
    obtain⟨u',r',q⟩:=hl j y v' e1 e2 e3;refine#[u',r',?_];rcases q with⟨k,e⟩|⟨k,c,e,z⟩
    .refine .inl #[k,?_]
     have:y≠x:=λe=>hj<|QO hN e1<|e▸hi
     simp[this,e]
    .exact .inr #[k,c,e,z.sameBut hs<|cne y c e]
  .obtain⟨w',z⟩:=I.cell y c e
   exact#[w',z.sameBut hs<|cne y c e]
  .obtain⟨e,n,ne,nf,d⟩:=I.pin p hp
   exact#[(hs.2 p.1 ne).trans e,n,ne,nf,d]
 .have hfn:X.fn x=aj:=by
   rcases hf with z|z
   .exact z
   .rw[z]at hk;cases hk
  obtain⟨c,hc⟩:=I.ok.has x<|.inl hk;obtain⟨w',z⟩:=I.cell x c hc;refine wpAny_storeName_cell I.ok.kind hk hc z λh' hc' hs=>?_
  obtain⟨oc,hoc,hocd⟩:=id z;refine h {s with heap:=h' } #[I.ok,I.os,I.bare,#[λb o e n hb hx=>?_,λb o e n hb hx=>?_,I.base.free,λb o e hx=>?_,I.base.tups,I.base.frzs,I.base.tbls],#[m,hn.sameBut hs<|Ne.symm<|cne x c hc,λj y v' e1 e2 e3=>?_],λy c' e=>?_,I.free,I.freeC,λp hp=>?_,tracked #[oc,hoc,I.freeC x c hc] hs,by simpa using I.len] #[c,hs,.inr hc]
  .exact(hs.2 b<|bg<|bi (aF e)<|I.ok.cab x c hfn hc).trans<|I.base.keep b o e n hb hx
  .obtain⟨sl,e1⟩:=I.base.slot b o e n hb hx
   exact#[sl,(hs.2 b<|bg<|bi (aF e)<|I.ok.cab x c hfn hc).trans e1]
  .obtain⟨o',e1⟩:=I.base.there b o e hx
   exact#[o',(hs.2 b<|bg<|bi (aF e)<|I.ok.cab x c hfn hc).trans e1]
  .by_cases hj:j=i
   .subst hj
    rw[hi]at e1;cases e1;rw[ba hiσ]at e2;cases e2;exact#[u,r,.inr #[.inl hk,c,hc,hc']]
   .rw[aQ<|Ne.symm hj]at e2
    obtain⟨u',r',q⟩:=hl j y v' e1 e2 e3;refine#[u',r',?_];rcases q with q|⟨k,c',e,z'⟩
    .exact .inl q
    .refine .inr #[k,c',e,z'.sameBut hs ?_]
     rintro rfl
     exact hj<|QO hN e1<|I.ok.inj _ _ _ e hc▸hi
  .by_cases hcc:c'=c
   .subst hcc;exact#[_,hc']
   .obtain⟨w2,z2⟩:=I.cell y c' e
    exact#[w2,z2.sameBut hs hcc]
  .obtain⟨e,n,ne,nf,d⟩:=I.pin p hp
   refine#[(hs.2 p.1 ?_).trans e,n,ne,nf,d];intro q;rw[q,hoc]at e;have q':=af e;exact d w' (by rw[<-q'];exact hocd)
def JT{E:ap->aw->Prop}{Q:Unit->aw->Prop}(I:Inv X pq U H s)(hN:X.N.Nodup)(hi:X.N[i]?=aa x)(hx:Loc X.env.scope x)(r:Zs v u)
  (h:∀s',Inv X pq (U.set i<|aa v) H s'->Q () s')(hf:X.fn x=aj\/X.env.scope.names.lookup x=aa .local:=by first|exact .inl rfl|exact .inr rfl|assumption):aX M A (storeName X.env x u) Q E s:=
 UA I hN hi hx r (λs' I' _=>h s' I') hf
def Inv.call'(I:Inv X pq U H s)(ho:s'.os=s.os)(u:Un (frs X.stack) ch H H' s.heap s'.heap)(hok:HOk X.prog X.w H' s'.heap)(hg:hJ s'.gens)
  (hch:∀b∈ch,(b∈X.ex\/X.s₀.heap.objs.size<=b)/\b≠X.env.locals/\(∀x c,X.env.cells.lookup x=aa c->c≠b)/\∀p∈X.pn++pq,p.1≠b):Inv X pq U H' s':=by
 obtain⟨h',g',d',t',o'⟩:=s';have e:=ho;subst e;exact I.call (g':=g') (t':=t') (d':=d') u hok hg hch
end
abbrev XK:=ap->Option aG->Hp->Prop
abbrev St:=List<|Option V
abbrev VK:=V->Hp->Prop
abbrev TE:=St->Hp->VK->Prop
abbrev TT:=St->Hp->(Bool->Hp->Prop)->Prop
abbrev TA:=St->Hp->(List V->Hp->Prop)->Prop
structure Ends where
 nx:St->Hp->Prop
 rt:VK
 bk:St->Hp->Prop:=λ_ _=>False
 ct:St->Hp->Prop:=λ_ _=>False
abbrev TS:=Ends->St->Hp->Prop
def EP(X:Cx)(pq:List (aG×eX))(U:St)(Q:VK)(u:ap)(s':aw):Prop:=∃v H',Inv X pq U H' s'/\Zs v u/\Q v H'
def TP(X:Cx)(pq:List (aG×eX))(U:St)(Q:Bool->Hp->Prop)(b:Bool)(s':aw):Prop:=∃H',Inv X pq U H' s'/\Q b H'
def AP(X:Cx)(pq:List (aG×eX))(U:St)(Q:List V->Hp->Prop)(us:List ap)(s':aw):Prop:=∃vs H',Inv X pq U H' s'/\Vals vs us/\Q vs H'
def SP(X:Cx)(pq:List (aG×eX))(D:Ends)(f:Flow)(s':aw):Prop:=
 match f with
 |.next=>∃σ' H',Inv X pq σ' H' s'/\D.nx σ' H'
 |.brk=>∃σ' H',Inv X pq σ' H' s'/\D.bk σ' H'
 |.cont=>∃σ' H',Inv X pq σ' H' s'/\D.ct σ' H'
 |.ret u=>∃v σ' H',Inv X pq σ' H' s'/\Zs v u/\D.rt v H'
def PE(X:Cx)(e:Expr)(t:TE):Prop:=
 ∀(pq:List (aG×eX))(s:aw)(U:St)(H:Hp)(Q:VK),Inv X pq U H s->t U H Q->aX (aS X.prog X.w) X.A (cV e X.env) (EP X pq U Q) X.xe s
def PT(X:Cx)(e:Expr)(t:TT):Prop:=
 ∀(pq:List (aG×eX))(s:aw)(U:St)(H:Hp)(Q:Bool->Hp->Prop),Inv X pq U H s->t U H Q->aX (aS X.prog X.w) X.A (isTrue e X.env<|cV e X.env) (TP X pq U Q) X.xe s
def PW(X:Cx)(e:Expr)(t:TT):Prop:=
 ∀(whole:mj ap)(pq:List (aG×eX))(s:aw)(U:St)(H:Hp)(Q:Bool->Hp->Prop),Inv X pq U H s->t U H Q->aX (aS X.prog X.w) X.A (isTrue e X.env whole) (TP X pq U Q) X.xe s
def PW.pt(h:PW X e t):PT X e t:=h _
def PA(X:Cx)(es:List Expr)(t:TA):Prop:=
 ∀(pos:gD)(pq:List (aG×eX))(s:aw)(U:St)(H:Hp)(Q:List V->Hp->Prop),Inv X pq U H s->t U H Q->aX (aS X.prog X.w) X.A (spliced<|eC pos<|aM es X.env) (AP X pq U Q) X.xe s
def PS(X:Cx)(st:eR)(t:TS):Prop:=
 ∀(pq:List (aG×eX))(s:aw)(U:St)(H:Hp)(D:Ends),Inv X pq U H s->t D U H->aX (aS X.prog X.w) X.A (exec st X.env) (SP X pq D) X.xe s
def PSs(X:Cx)(st:List eR)(t:TS):Prop:=
 ∀(pq:List (aG×eX))(s:aw)(U:St)(H:Hp)(D:Ends),Inv X pq U H s->t D U H->aX (aS X.prog X.w) X.A (execs st X.env) (SP X pq D) X.xe s
def thn{B:Type}{t:mj B}{Q Q':B->aw->Prop}{M:Model}{A:cQ}{E:ap->aw->Prop}{s:aw}(h:aX M A t Q E s)(hQ:∀a s,Q a s->Q' a s):aX M A t Q' E s:=c9 h hQ λ_ _ x=>x
def ZcR(i:Nat):TE:=λU H Q=>∃v,U[i]?=aa (aa v)/\Q v H
def tC(v:V):TE:=λ_ H Q=>Q v H
def Vf(hN:X.N[i]?=aa x)(hv:Vis X.env.scope x)(hd:(x == ("__debug__" : bD))=ai:=by decide)(hcd:(x == ("__classdict__" : bD))=ai:=by decide):PE X (.Name x pos) (ZcR i):=by
 intro pq s U H Q I h;obtain⟨v,e,h⟩:=h;obtain⟨m,hn,hl⟩:=I.loc;obtain⟨u,r,l⟩:=hl i x v hN e hv;have fin:EP X pq U Q u s:=#[v,H,I,r,h];rcases l with⟨hk,hm⟩|⟨hk,c,hc,hcell⟩
 .exact m9 (kD I.ok.kind hk hn hm fin) hd
 .rcases hk with hk|hk
  .exact m9 (kX I.ok.kind hk hc hcell fin) hd
  .exact m9 (wpAny_loadName_free I.ok.kind hk hc hcell fin hcd) hd
def Qc{i j pos}:PE X (.Constant (.int i) j pos) (tC<|.int i):=λ_ _ _ H _ I h=>wpAny_Constant_int #[.int i,H,I.tok _,#[_,rfl],h]
def vM{b j pos}:PE X (.Constant (.bool b) j pos) (tC<|.bl b):=λ_ _ _ H _ I h=>Constant_bool #[.bl b,H,I,rfl,h]
def Zbp{j pos}:PE X (.Constant .none j pos) (tC .non):=λ_ _ _ H _ I h=>Constant_none #[.non,H,I,rfl,h]
def Za0{x j pos}:PE X (.Constant (.str x) j pos) (tC<|.str x):=λ_ _ _ H _ I h=>Calls.Constant_str #[.str x,H,I.tok _,#[_,rfl],h]
def Gl(X:Cx)(x:bD):Prop:=X.env.kindOf x=aa .globalImplicit
def uD{E:ap->aw->Prop}{Q:ap->aw->Prop}(I:Inv X pq U H s)(hg:Gl X x)(hm:X.mg x=aa u)(h:Q u s)
  (hd:(x == ("__debug__" : bD))=ai:=by decide):aX (aS X.prog X.w) X.A (cV (.Name x pos) X.env) Q E s:=
 Calls.Name_function_global I.ok.kind hg (Calls.loadGlobal_global (by rw[I.ok.glob];exact I.mod.glob.keeps I.bk) hm h) hd
def Y7{E:ap->aw->Prop}{Q:ap->aw->Prop}(I:Inv X pq U H s)(hg:Gl X x)(hm:X.mg x=ae)(hv:cY x=aa u)(h:Q u s)
  (hn:x≠"__name__":=by decide)(hd:(x == ("__debug__" : bD))=ai:=by decide):aX (aS X.prog X.w) X.A (cV (.Name x pos) X.env) Q E s:=by
 obtain⟨mb,h1,h2⟩:=I.mod.blt;exact Calls.Name_function_global I.ok.kind hg (Calls.loadGlobal_builtin (by rw[I.ok.glob];exact I.mod.glob.keeps I.bk) hm (by rw[I.ok.blt];exact h1.keeps I.bk) ((h2 x hn).trans hv) h) hd
def uy(hg:Gl X x)(hm:X.mg x=ae)(hv:cY x=aa u)(r:Zs v u)(hn:x≠"__name__":=by decide)(hd:(x == ("__debug__" : bD))=ai:=by decide):PE X (.Name x pos) (tC v):=
 λ_ _ _ H _ I h=>Y7 I hg hm hv #[v,H,I,r,h] hn hd
def tOr(t u:TT):TT:=λU H Q=>t U H λc H1=>if c=aj then Q aj H1 else u U H1 Q
def Zc0(t:TT):TT:=λU H Q=>t U H λc H1=>Q (!c) H1
def j6(ha:PT X a tA):PW X (.BoolOp .Or [a] pos) tA:=by
 intro wh pq s U H Q I h;refine isTrue_or<|thn (ha pq s U H Q I h) λc s1 e=>?_
 cases c with|false=>exact isTrue_or_nil e|true=>exact e
def Zb5(ha:PT X a tA)(hb:PW X (.BoolOp .Or (b::rest) pos) tB'):PW X (.BoolOp .Or (a::b::rest) pos) (tOr tA tB'):=by
 intro wh pq s U H Q I h;refine isTrue_or<|thn (ha pq s U H _ I h) λc s1 #[H1,I1,q1]=>?_
 cases c with|true=>exact#[H1,I1,q1]|false=>exact hb wh pq s1 U H1 Q I1 q1
def ZaN(ha:PT X a tA):PT X (.UnaryOp .Not a pos) (Zc0 tA):=by
 intro pq s U H Q I h;exact isTrue_not<|ha pq s U H (λc H1=>Q (!c) H1) I h
def Zck(ta tb:TE):TE:=λU H Q=>ta U H λx H1=>∃c,x=.bl c/\if c=aj then tb U H1 Q else Q (.bl ai) H1
def Za2{op}{t:TE}(h:PE X a t):PE X (.BoolOp op [a] pos) t:=λpq s U H Q I hw=>BoolOp_one<|h pq s U H Q I hw
def jY(ha:PE X a ta)(hb:PE X (.BoolOp .And (b::rest) pos) tb):PE X (.BoolOp .And (a::b::rest) pos) (Zck ta tb):=by
 intro pq s U H Q I h;refine BoolOp_and<|thn (ha pq s U H _ I h) λv s1 #[x,H1,I1,r1,q1]=>?_
 obtain⟨c,rfl,q1⟩:=q1;cases r1;refine eL ?_;cases c with|true=>exact hb pq s1 U H1 Q I1 q1|false=>exact#[.bl ai,H1,I1,rfl,q1]
def SqL(K:ao)(H:Hp)(a:aG)(xs:List V):Prop:=
 Rd H a (.lst xs)\/
  ∃(o:eX)(its:Array ap)(n:Nat),K.lookup a=aa o/\o.cls=.type "list"/\o.dict=ae/\o.data=.seq its n/\its.size<=aY/\Vals xs its.toList
def SqT(K:ao)(H:Hp)(a:aG)(xs:List V):Prop:=
 Rd H a (.tup xs)\/
  ∃(o:eX)(its:Array ap)(n:Nat),K.lookup a=aa o/\o.cls=.type "tuple"/\o.data=.seq its n/\its.size<=aY/\Vals xs its.toList
noncomputable def Zc2:ap->Option V
 |.none=>aa .non
 |.bool b=>aa<|.bl b
 |.int i _=>aa<|.int i
 |.str x _=>aa<|.str x
 |.bytes b _=>aa<|.byt b
 |.float b _=>aa<|.flt b
 |.ref a=>aa<|.ref a
 |.type n=>aa<|.ty n
 |_=>ae
def Zs.abs(r:Zs x u):Zc2 u=aa x:=by
 cases x with|non=>cases r;rfl|bl _=>cases r;rfl|int _=>obtain⟨t,rfl⟩:=r;rfl|str _=>obtain⟨t,rfl⟩:=r;rfl|byt _=>obtain⟨t,rfl⟩:=r;rfl|flt _=>obtain⟨t,rfl⟩:=r;rfl|ref _=>cases r;rfl|ty _=>cases r;rfl
def Zs.inj{x y:V}{u:ap}(r:Zs x u)(q:Zs y u):x=y:=af<|r.abs.symm.trans q.abs
theorem Vals.inj:∀{xs ys:List V}{us:List ap},Vals xs us->Vals ys us->xs=ys
 |_,_,_,.nil,.nil=>rfl
 |_,_,_,.cons r t,.cons r' t'=>by rw[r.inj r',Vals.inj t t']
def SqL.of{K:ao}(h:H a=aa (.lst xs)):SqL K H a xs:=.inl<|.inl h
def SqT.of{K:ao}(h:H a=aa (.tup xs)):SqT K H a xs:=.inl<|.inl h
def Inv.list(I:Inv X pq U H s)(h:SqL X.K H a xs):∃its:List ap,Vals xs its/\PlainL s.heap a its.toArray/\xs.length<=aY:=by
 rcases h with h|⟨o,its,n,hk,hc,hd,hs,hz,r⟩
 .obtain⟨z,its,n,r,e⟩:=h.ok I.hok
  exact#[its,r,#[_,n,e,rfl,rfl,rfl],z]
 .refine#[its.toList,r,#[o,n,I.kIn a o hk,hc,hd,by simpa using hs],?_]
  have e:=r.length;simp only[aH]at e;lia
def Inv.tuple(I:Inv X pq U H s)(h:SqT X.K H a xs):∃its:List ap,Vals xs its/\lF s.heap a its.toArray/\xs.length<=aY:=by
 rcases h with h|⟨o,its,n,hk,hc,hs,hz,r⟩
 .obtain⟨z,its,r,p⟩:=h.ok I.hok
  exact#[its,r,p,z]
 .refine#[its.toList,r,#[o,I.kIn a o hk,hc,n,by simpa using hs],?_]
  have e:=r.length;simp only[aH]at e;lia
def Inv.list_inj(I:Inv X pq U H s)(h:SqL X.K H a xs)(h':SqL X.K H a ys):xs=ys:=by
 obtain⟨its,r,⟨o,n,e,_,_,d⟩,_⟩:=I.list h;obtain⟨its',r',⟨o',n',e',_,_,d'⟩,_⟩:=I.list h';rw[e]at e';cases e';rw[d]at d';injection d' with d1 _
 have:its=its':=by simpa using congrArg Array.toList d1
 subst this;exact r.inj r'
def Inv.tuple_inj(I:Inv X pq U H s)(h:SqT X.K H a xs)(h':SqT X.K H a ys):xs=ys:=by
 obtain⟨its,r,⟨o,e,_,n,d⟩,_⟩:=I.tuple h;obtain⟨its',r',⟨o',e',_,n',d'⟩,_⟩:=I.tuple h';rw[e]at e';cases e';rw[d]at d';injection d' with d1 _
 have:its=its':=by simpa using congrArg Array.toList d1
 subst this;exact r.inj r'
noncomputable abbrev Cx.wish(X:Cx)(E:ap->aw->Prop):Cx:={X with xe:=E}
noncomputable abbrev Cx.nox(X:Cx):Cx:=X.wish λ_ _=>False
theorem Cx.Ok.wish{X:Cx}(ok:X.Ok)(E:ap->aw->Prop):(X.wish E).Ok:=
 #[ok.mod,ok.kind,ok.glob,ok.blt,ok.above,ok.inj,ok.has,ok.cab,ok.hd,ok.frames,ok.stk,ok.exf,ok.bs,ok.bsz,ok.noex,ok.exfs,ok.funs,ok.frf]
def Cx.Ok.unwish{X:Cx}{E:ap->aw->Prop}(ok:(X.wish E).Ok):X.Ok:=
 #[ok.mod,ok.kind,ok.glob,ok.blt,ok.above,ok.inj,ok.has,ok.cab,ok.hd,ok.frames,ok.stk,ok.exf,ok.bs,ok.bsz,ok.noex,ok.exfs,ok.funs,ok.frf]
section
variable{X:Cx}{pq:List (aG×eX)}{U:St}{H:Hp}{s:aw}{E:ap->aw->Prop}
theorem Inv.wish(I:Inv X pq U H s)(E:ap->aw->Prop):Inv (X.wish E) pq U H s:=#[I.ok.wish E,I.os,I.bare,I.base,I.loc,I.cell,I.free,I.freeC,I.pin,I.hok,I.len]
theorem Inv.unwish(I:Inv (X.wish E) pq U H s):Inv X pq U H s:=#[I.ok.unwish,I.os,I.bare,I.base,I.loc,I.cell,I.free,I.freeC,I.pin,I.hok,I.len]
theorem SP.unwish{D:Ends}{f:Flow}{s':aw}(h:SP (X.wish E) pq D f s'):SP X pq D f s':=by
 cases f with|next=>obtain⟨σ',H',I,q⟩:=h;exact#[σ',H',I.unwish,q]|brk=>obtain⟨σ',H',I,q⟩:=h;exact#[σ',H',I.unwish,q]|cont=>obtain⟨σ',H',I,q⟩:=h;exact#[σ',H',I.unwish,q]|ret u=>obtain⟨v,σ',H',I,r,q⟩:=h;exact#[v,σ',H',I.unwish,r,q]
theorem PSs.nox{st:List eR}{t:TS}(h:PSs X.nox st t):PSs X st t:=λpq s U H D I hw=>
 c9 (h pq s U H D (I.wish _) hw) (λ_ _ q=>q.unwish) λ_ _ z=>False.elim z
end
section
variable{X:Cx}{st:eR}{rest:List eR}{t u:TS}{e:Expr}{te:TE}{pos:gD}
def Zcc:TS:=λD U H=>D.nx U H
def ZcW(t u:TS):TS:=λD U H=>t {D with nx:=u D} U H
def qV:PSs X [] Zcc:=λ_ _ U H _ I h=>ki #[U,H,I,h]
def QG(h1:PS X st t)(h2:PSs X rest u):PSs X (st::rest) (ZcW t u):=by
 intro pq s U H D I h;refine wpAny_execs_cons<|thn (h1 pq s U H {D with nx:=u D} I h) λf s1 q=>?_
 cases f with
 |next=>
  obtain⟨σ',H',I',q⟩:=q;exact h2 pq s1 σ' H' D I' q
 |ret v=>exact q
 |brk=>exact q
 |cont=>exact q
def Inv.quiet(I:Inv X pq U H s):interactive X.env=ai:=by simp[interactive,I.ok.kind]
def ZbP(te:TE):TS:=λD U H=>te U H λ_ H1=>D.nx U H1
def uk(he:PE X e te)(hs:iH e ae pos.line X.env=cT ai:=by rfl):PS X (.Expr e pos) (ZbP te):=by
 intro pq s U H D I h;exact wpAny_Expr_any (thn (he pq s U H _ I h)<|by rintro v s1 ⟨x,H1,I1,r1,q1⟩;exact #[U,H1,I1,q1]) I.quiet hs
def ZcT(te:TE):TS:=λD U H=>te U H D.rt
def vY(he:PE X e te):PS X (.Return (aa e) pos) (ZcT te):=by
 intro pq s U H D I h;exact wpAny_Return_some<|thn (he pq s U H _ I h)<|by rintro v s1 ⟨x,H1,I1,r1,q1⟩;exact #[x,U,H1,I1,r1,q1]
def Zdm(c:TT)(t u:TS):TS:=λD U H=>c U H λb H1=>if b=aj then t D U H1 else u D U H1
def Zcs{c:Expr}{a b:List eR}{tc:TT}(hc:PT X c tc)(ha:PSs X a t)(hb:PSs X b u):PS X (.If c a b pos) (Zdm tc t u):=by
 intro pq s U H D I h;refine wpAny_If<|thn (hc pq s U H _ I h) λd s1 #[H1,I1,q1]=>?_
 cases d with|true=>exact ha pq s1 U H1 D I1 q1|false=>exact hb pq s1 U H1 D I1 q1
end
abbrev TG:=V->St->Hp->(St->Hp->Prop)->Prop
abbrev TGs:=List V->St->Hp->(St->Hp->Prop)->Prop
def PG(X:Cx)(target:Expr)(t:TG):Prop:=
 ∀(pq:List (aG×eX))(s:aw)(U:St)(H:Hp)(v:V)(u:ap)(Q:St->Hp->Prop),Inv X pq U H s->Zs v u->t v U H Q->
  aX (aS X.prog X.w) X.A (assign target X.env u) (λ_ s'=>∃σ' H',Inv X pq σ' H' s'/\Q σ' H') X.xe s
def PGs(X:Cx)(ts:List Expr)(t:TGs):Prop:=
 ∀(pq:List (aG×eX))(s:aw)(U:St)(H:Hp)(vs:List V)(us:List ap)(Q:St->Hp->Prop),Inv X pq U H s->Vals vs us->t vs U H Q->
  aX (aS X.prog X.w) X.A (assignInOrder ((bR ts X.env).map (·.2)) us) (λ_ s'=>∃σ' H',Inv X pq σ' H' s'/\Q σ' H') X.xe s
abbrev TSet:=V->V->V->Hp->(Hp->Prop)->Prop
def PSet(X:Cx)(t:TSet):Prop:=
 ∀(pq:List (aG×eX))(s:aw)(U:St)(H:Hp)(o i v:V)(ov iv u:ap)(Q:Hp->Prop),Inv X pq U H s->Zs o ov->Zs i iv->Zs v u->t o i v H Q->
  aX (aS X.prog X.w) X.A (nG ov iv u) (λ_ s'=>∃H',Inv X pq U H' s'/\Q H') X.xe s
abbrev TIp:=V->V->Hp->VK->Prop
def PIp(X:Cx)(op:nc)(t:TIp):Prop:=
 ∀(pq:List (aG×eX))(s:aw)(U:St)(H:Hp)(x y:V)(v u:ap)(Q:VK),Inv X pq U H s->Zs x v->Zs y u->t x y H Q->
  aX (aS X.prog X.w) X.A (inplaceOp op v u) (EP X pq U Q) X.xe s
section
variable{X:Cx}{pos:gD}
def ZbW(i:Nat):TG:=λv U H Q=>Q (U.set i<|aa v) H
def U5(hN:X.N.Nodup)(hi:X.N[i]?=aa x)(hx:Loc X.env.scope x)(hf:X.fn x=aj\/X.env.scope.names.lookup x=aa .local:=by first|exact .inl rfl|exact .inr rfl|assumption):PG X (.Name x pos) (ZbW i):=by
 intro pq s U H v u Q I r h;exact lG<|JT I hN hi hx r (λs' I'=>#[_,H,I',h]) hf
def ZcZ:TGs:=λvs U H Q=>vs=[]/\Q U H
def ZcE(t:TG)(u:TGs):TGs:=λvs U H Q=>∃v r,vs=v::r/\t v U H λσ' H'=>u r σ' H' Q
def jb:PGs X [] ZcZ:=by
 intro pq s U H vs us Q I r h;obtain⟨e,h⟩:=h;subst e;cases r;exact assignInOrder_nil #[U,H,I,h]
def ud{e:Expr}{es:List Expr}{t:TG}{u:TGs}(h1:PG X e t)(h2:PGs X es u)
  (hs:(bR (e::es) X.env).map (·.2)=assign e X.env::(bR es X.env).map (·.2):=by rfl):PGs X (e::es) (ZcE t u):=by
 intro pq s U H vs us Q I r h;obtain⟨v,vr,e1,h⟩:=h;subst e1;cases r with
 |cons r rr=>
  rw[hs];refine assignInOrder_cons<|thn (h1 pq s U H _ _ _ I r h) λ_ s1 #[σ1,H1,I1,q1]=>?_
  exact h2 pq s1 σ1 H1 _ _ Q I1 rr q1
def Zdc(K:ao)(n:Nat)(t:TGs):TG:=λv U H Q=>∃a xs,v=.ref a/\SqT K H a xs/\xs.length=n/\t xs U H Q
def Zat(hc:X.calm=aj)(h:PGs X es t)
  (hn:(bR es X.env).length=n:=by rfl)(hst:(bR es X.env).findIdx? (·.1)=ae:=by rfl):PG X (.Tuple es k pos) (Zdc X.K n t):=by
 intro pq s U H v u Q I r hw;obtain⟨a,xs,e1,hq,hl,hw⟩:=hw;subst e1;cases r;obtain⟨its,rv,ht,hz⟩:=I.tuple hq;refine assign_Tuple_tuple (I.ok.hd hc) ht (by simp[hn,<-hl,rv.length]) hst λh' hx=>?_
 have I1:=I.kept (t':=s.toks) λb o e=>hx b o (bg<|aF e) e
 exact h pq _ U H xs _ Q I1 (by simpa using rv) hw
def Zdf(to ti:TE)(t:TSet):TG:=λv U H Q=>to U H λo H1=>ti U H1 λi H2=>t o i v H2 λH3=>Q U H3
def Zbh{o i:Expr}{to ti:TE}{t:TSet}(ho:PE X o to)(hi:PE X i ti)(hs:PSet X t)
  (ha:∀v,assign (.Subscript o i pos) X.env v=(do
   let ov <-iV [v] (cV o X.env)
   let iv <-iV [v,ov] (cV i X.env)
   m4 pos
   iV [v,ov,iv] (nG ov iv v)
   release [v,ov,iv] []):=by intro _;rfl):PG X (.Subscript o i pos) (Zdf to ti t):=by
 intro pq s U H v u Q I r h;rw[ha];refine ab<|bL<|thn (ho pq s U H _ I h) λov s1 #[x,H1,I1,r1,q1]=>?_
 refine ab<|bL<|thn (hi pq s1 U H1 _ I1 q1) λiv s2 #[y,H2,I2,r2,q2]=>?_
 refine ab<|fX<|ab<|bL<|thn (hs pq s2 U H2 x y v ov iv u _ I2 r1 r2 r q2) λ_ s3 #[H3,I3,q3]=>?_
 exact wpAny_release #[U,H3,I3,q3]
def ZcS(te:TE)(g:TG):TS:=λD U H=>te U H λx H1=>g x U H1 D.nx
def Y9{tg e:Expr}{te:TE}{g:TG}(he:PE X e te)(hg:PG X tg g)(hs:de [tg] e pos.line X.env=cT ai:=by rfl)(hw:dg [tg] e X.env=cT ae:=by rfl)
  (h1:(bR [tg] X.env).map (·.2)=[assign tg X.env]:=by rfl):PS X (.Assign [tg] e pos) (ZcS te g):=by
 intro pq s U H D I h;refine wpAny_Assign_stores (thn (he pq s U H _ I h) λv s1 #[x,H1,I1,r1,q1]=>?_) hs hw
 rw[h1];exact thn (hg pq s1 U H1 x v _ I1 r1 q1) λ_ s2 q=>q
def Zdb(i:Nat)(te:TE)(ti:TIp):TS:=λD U H=>∃x,U[i]?=aa (aa x)/\te U H λy H1=>ti x y H1 λz H2=>D.nx (U.set i<|aa z) H2
def j8{i:Nat}{x:bD}{e:Expr}{te:TE}{op:nc}{ti:TIp}{pos':gD}(hN:X.N.Nodup)(hi:X.N[i]?=aa x)(hx:Loc X.env.scope x)(he:PE X e te)(ho:PIp X op ti)(hf:X.fn x=aj\/X.env.scope.names.lookup x=aa .local:=by first|exact .inl rfl|exact .inr rfl|assumption) :
  PS X (.AugAssign (.Name x pos') op e pos) (Zdb i te ti):=by
 intro pq s U H D I h;obtain⟨v,e1,h⟩:=h;obtain⟨m,hn,hl⟩:=I.loc;have vis:Vis X.env.scope x:=by rcases hx with k|k;exact .inl k;exact .inr<|.inl k
 obtain⟨u,r,l⟩:=hl i x v hi e1 vis;refine wpAny_AugAssign_Name ?_;have go:aX (aS X.prog X.w) X.A (cV e X.env) (λw s₂=>aX (aS X.prog X.w) X.A (inplaceOp op u w) (λr s₃=>aX (aS X.prog X.w) X.A (storeName X.env x r) (λ_=>SP X pq D .next) X.xe s₃) X.xe s₂) X.xe s:=by
  refine thn (he pq s U H _ I h) λw s1 #[y,H1,I1,r1,q1]=>?_
  refine thn (ho pq s1 U H1 v y u w _ I1 r r1 q1) λz s2 #[zv,H2,I2,r2,q2]=>?_
  exact JT I2 hN hi hx r2 (λs3 I3=>#[_,H2,I3,q2]) hf
 rcases l with⟨hk,hm⟩|⟨hk,c,hc,hcell⟩
 .exact kD I.ok.kind hk hn hm go
 .rcases hk with hk|hk
  .exact kX I.ok.kind hk hc hcell go
  .rcases hx with k|k
   .have:X.env.scope.names.lookup x=aa .free:=hk
    rw[k]at this;cases this
   .have:X.env.scope.names.lookup x=aa .free:=hk
    rw[k]at this;cases this
end
section
variable{X:Cx}{pos:gD}
def ZbB(c:TT)(tb:TS):TS:=λD U H=>∃W:Nat->St->Hp->Prop,(∃m,W m U H)/\∀m U H,W m U H->
 c U H λb H1=>if b=aj then ∃N:St->Hp->Prop,(∀σ' H',N σ' H'->∃m',m'<m/\W m' σ' H')/\tb {D with nx:=N,ct:=N,bk:=D.nx} U H1 else D.nx U H1
def vm{c:Expr}{body:List eR}{tc:TT}{tb:TS}(hp:kT (aS X.prog X.w) X.A X.env X.xe)(hc:PT X c tc)(hb:PSs X body tb):PS X (.While c body [] pos) (ZbB tc tb):=by
 intro pq s U H D I h;obtain⟨W,⟨m0,w0⟩,turn⟩:=h;refine wpAny_While<|codeAny_whileLoop (λn s'=>∃σ' H',Inv X pq σ' H' s'/\W n σ' H') ?_ m0 #[U,H,I,w0]
 rintro n s1 ⟨σ1,H1,I1,w1⟩
 refine dW hp<|thn (hc pq s1 σ1 H1 _ I1<|turn n σ1 H1 w1) λb s2 #[H2,I2,q2]=>?_
 cases b with
 |true=>
  obtain⟨N,hN,q2⟩:=q2;rw[T9 rfl];refine dW hp<|thn (hb pq s2 σ1 H2 _ I2 q2) λf s3 q3=>?_
  cases f with
  |next=>
   obtain⟨σ3,H3,I3,n3⟩:=q3;obtain⟨m',hm,w3⟩:=hN σ3 H3 n3;exact#[m',hm,σ3,H3,I3,w3]
  |cont=>
   obtain⟨σ3,H3,I3,n3⟩:=q3;obtain⟨m',hm,w3⟩:=hN σ3 H3 n3;exact#[m',hm,σ3,H3,I3,w3]
  |brk=>exact q3
  |ret v=>exact q3
 |false=>
  rw[T8 aJ];exact ki #[σ1,H2,I2,q2]
end
structure It where
 go:Nat->Hp->Prop
 yld:Nat->Hp->V->Hp->Prop
 stop:Nat->Hp->Prop
def Wt(X:Cx)(pq:List (aG×eX))(H:Hp)(b:aG):Prop:=
 H b=ae/\b≠X.env.locals/\b∉X.fs/\(b∈X.ex\/X.s₀.heap.objs.size<=b)/\(∀x c,X.env.cells.lookup x=aa c->c≠b)/\∀p∈X.pn++pq,p.1≠b
def Inv.fpOk(I:Inv X pq U H s)(hb:s.heap.objs.size<=b)(hn:H' b=ae):Wt X pq H' b:=by
 refine#[hn,eD<|bi I.lt hb,I.nofs hb,.inr<|b0 I.sz hb,λx c e z=>?_,λp hp z=>?_]
 .obtain⟨v,q⟩:=I.cell x c e
  exact T7 (bi q.lt<|by rw[z];exact hb)<|bp _
 .exact T7 (bi (aF (I.pin p hp).1)<|by rw[z];exact hb)<|bp _
structure Turn(P:bE)(w:bZ)(K:ao)(tg:Expr)(J:It)(fp:List aG)(it:aG)(tn:Nat->bX->Prop):Prop where
 mem:it∈fp
 obj:∀i h,tn i h->∀b∈fp,∃o,h.get? b=aa o/\∀v,o.data≠.cell v
 keep:∀i h h',tn i h->(∀b∈fp,∀o,h.get? b=aa o->h'.get? b=aa o)->tn i h'
 item:∀(X:Cx),X.prog=P->X.w=w->X.K=K->X.calm=aj->∀(i:Nat)(pq:List (aG×eX))(s:aw)(U:St)(H:Hp)(E:ap->aw->Prop),Inv X pq U H s->(∀b∈fp,Wt X pq H b)->tn i s.heap->J.go i H->
  aX (aS P w) X.A (mm<|.ref it) (λr s1=>∃u,r=aa u/\
   aX (aS P w) X.A (kj tg (.ref it) u) (λ_ s2=>∃x H',Inv X pq U H' s2/\Zs x u/\J.yld i H x H'/\tn (i+1) s2.heap/\∀b∈fp,H' b=ae) E s1) E s
 done:∀(X:Cx),X.prog=P->X.w=w->X.K=K->X.calm=aj->∀(i:Nat)(pq:List (aG×eX))(s:aw)(U:St)(H:Hp)(E:ap->aw->Prop),Inv X pq U H s->(∀b∈fp,Wt X pq H b)->tn i s.heap->J.stop i H->
  aX (aS P w) X.A (mm<|.ref it) (λr s1=>r=ae/\Inv X pq U H s1) E s
 self:∀(A:cQ)(i:Nat)(s:aw)(Q:ap->aw->Prop)(E:ap->aw->Prop),tn i s.heap->Q (.ref it) s->aX (aS P w) A (nH<|.ref it) Q E s
abbrev TI:=St->Hp->(It->Hp->Prop)->Prop
def PIE(X:Cx)(pq:List (aG×eX))(U:St)(tg:Expr)(R:It->Hp->Prop)(itv:ap)(s2:aw):Prop:=
 ∃(it:aG)(fp:List aG)(tn:Nat->bX->Prop)(J:It)(H':Hp),itv=.ref it/\Inv X pq U H' s2/\Turn X.prog X.w X.K tg J fp it tn/\tn 0 s2.heap/\(∀b∈fp,Wt X pq H' b)/\R J H'
def PI(X:Cx)(tg iter:Expr)(wi:TI):Prop:=
 ∀(pq:List (aG×eX))(s:aw)(U:St)(H:Hp)(R:It->Hp->Prop),Inv X pq U H s->wi U H R->
  aX (aS X.prog X.w) X.A (cV iter X.env) (λv s1=>aX (aS X.prog X.w) X.A (nH v) (PIE X pq U tg R) X.xe s1) X.xe s
def wC{E:ap->aw->Prop}{Q:Unit->aw->Prop}(ho:s.heap.get? it=aa o)(hc:o.cls=.type n)(hd:o.data=.fields vs)
  (hn:["enumerate","zip","dict_itemiterator","dict_reverseitemiterator","odict_iterator","itertools.zip_longest","itertools.pairwise"].contains n=ai)(hQ:Q () s):aX M A (kj tg (.ref it) u) Q E s:=by
 cases tg<;>first
  |exact au hQ
  |(cases u<;>first
    |exact au hQ
    |(refine ab (gG ho ?_)
      rw[hc,hd];show aX M A (if(["enumerate","zip","dict_itemiterator","dict_reverseitemiterator","odict_iterator","itertools.zip_longest","itertools.pairwise"].contains n&&vs[0]? == aa (fS _))=aj then _ else _) Q E s
      rw[T8<|by intro h;rw[hn,kE]at h;cases h]
      exact au hQ))
noncomputable def Itl(K:ao)(a:aG):It:=
 #[λi H=>∃xs x,SqL K H a xs/\xs[i]?=aa x,λi H x H'=>H'=H/\∀xs,SqL K H a xs->xs[i]?=aa x,λi H=>∃xs,SqL K H a xs/\xs.length<=i]
noncomputable def Itt(K:ao)(a:aG):It:=
 #[λi H=>∃xs x,SqT K H a xs/\xs[i]?=aa x,λi H x H'=>H'=H/\∀xs,SqT K H a xs->xs[i]?=aa x,λi H=>∃xs,SqT K H a xs/\xs.length<=i]
noncomputable def Itr(lo:Int)(n:Nat):It:=#[λi _=>i<n,λi H x H'=>H'=H/\x=.int (lo+i),λi _=>n<=i]
def yE{P:bE}{w:bZ}{K:ao}{tg:Expr}(a it:aG):Turn P w K tg (Itl K a) [it] it (λi h=>h.IsListIter it a i) where
 mem:=by simp
 obj:=λi h st b hb=>by
  have e:b=it:=by simpa using hb
  subst e;obtain⟨o,e,c,d⟩:=st;exact#[o,e,λv z=>by rw[d]at z;cases z]
 keep:=λi h h' st k=>st.at λo e=>k it (by simp) o e
 item:=by
  intro X hP hw hK hc i pq s U H E I hf st hg;subst hP hw hK;obtain⟨xs,x,hq,hx⟩:=hg;obtain⟨its,rv,p,hz⟩:=I.list hq;obtain⟨u,hu,ru⟩:=rv.get hx;obtain⟨f0,f1,f2,f3,f4,f5⟩:=hf it (by simp)
  refine iW st p.isList (by simpa using hu) λh' st' sb=>?_
  have I1:=I.turned (t':=s.toks) (λb o hb e=>(sb.2 b hb).trans e) f0 f1 f3 f4 f5
  obtain⟨o,e,c,d⟩:=id st';exact#[u,rfl,wC e c d (by decide) #[x,H,I1,ru,#[rfl,λys hy=>by rw[I.list_inj hy hq];exact hx],st',λb hb=>(hf b hb).1]]
 done:=by
  intro X hP hw hK hc i pq s U H E I hf st hg;subst hP hw hK;obtain⟨xs,hq,hx⟩:=hg;obtain⟨its,rv,p,hz⟩:=I.list hq;obtain⟨f0,f1,f2,f3,f4,f5⟩:=hf it (by simp)
  have hl:=rv.length;exact kt (I.ok.hd hc) st p.isList (by simp;lia) λh' eb=>#[rfl,I.turned (t':=s.toks) (λb o hb e=>eb b o hb e) f0 f1 f3 f4 f5]
 self:=λ_ _ _ _ _ st h=>wpAny_pyIter_listiter st h
def Gp{P:bE}{w:bZ}{K:ao}{tg:Expr}(a it:aG):Turn P w K tg (Itt K a) [it] it (λi h=>h.IsTupleIter it a i) where
 mem:=by simp
 obj:=λi h st b hb=>by
  have e:b=it:=by simpa using hb
  subst e;obtain⟨o,e,c,d⟩:=st;exact#[o,e,λv z=>by rw[d]at z;cases z]
 keep:=λi h h' st k=>st.at λo e=>k it (by simp) o e
 item:=by
  intro X hP hw hK hc i pq s U H E I hf st hg;subst hP hw hK;obtain⟨xs,x,hq,hx⟩:=hg;obtain⟨its,rv,p,hz⟩:=I.tuple hq;obtain⟨u,hu,ru⟩:=rv.get hx;obtain⟨f0,f1,f2,f3,f4,f5⟩:=hf it (by simp)
  refine wpAny_pyNext_tuple_item st (p) (by simpa using hu) λh' st' sb=>?_
  have I1:=I.turned (t':=s.toks) (λb o hb e=>(sb.2 b hb).trans e) f0 f1 f3 f4 f5
  obtain⟨o,e,c,d⟩:=id st';exact#[u,rfl,wC e c d (by decide) #[x,H,I1,ru,#[rfl,λys hy=>by rw[I.tuple_inj hy hq];exact hx],st',λb hb=>(hf b hb).1]]
 done:=by
  intro X hP hw hK hc i pq s U H E I hf st hg;subst hP hw hK;obtain⟨xs,hq,hx⟩:=hg;obtain⟨its,rv,p,hz⟩:=I.tuple hq;obtain⟨f0,f1,f2,f3,f4,f5⟩:=hf it (by simp)
  have hl:=rv.length;exact wpAny_pyNext_tuple_end (I.ok.hd hc) st (p) (by simp;lia) λh' eb=>#[rfl,I.turned (t':=s.toks) (λb o hb e=>eb b o hb e) f0 f1 f3 f4 f5]
 self:=λ_ _ _ _ _ st h=>wpAny_pyIter_tupleiter st h
def GK{P:bE}{w:bZ}{K:ao}{tg:Expr}(it:aG)(lo:Int)(n:Nat):Turn P w K tg (Itr lo n) [it] it (λi h=>IsRangeIter h it (lo+(i:Nat)*1) ((n:Int)-(i:Nat)) 1) where
 mem:=by simp
 obj:=λi h st b hb=>by
  have e:b=it:=by simpa using hb
  subst e;exact#[_,st,λv z=>by
   have z':=z;cases z']
 keep:=λi h h' st k=>k it (by simp) _ st
 item:=by
  intro X hP hw hK hc i pq s U H E I hf st hg;subst hP hw hK;obtain⟨f0,f1,f2,f3,f4,f5⟩:=hf it (by simp)
  have W:=Walks.range (prog:=X.prog) (w:=X.w) (I.ok.hd hc) it lo 1 n;refine W.item i s _ _ hg st λv h' tk hv st' kk=>?_
  obtain⟨t,rfl⟩:=hv;have I1:Inv X pq U H {s with heap:=h',toks:=tk}:=I.turned (λb o hb e=>kk b o (by simpa using hb) e) f0 f1 f3 f4 f5
  refine#[_,rfl,wC st' rfl rfl (by decide) #[.int<|lo+i,H,I1,#[t,?_],#[rfl,rfl],st',λb hb=>(hf b hb).1]]
  rw[Int.mul_one]
 done:=by
  intro X hP hw hK hc i pq s U H E I hf st hg;subst hP hw hK;obtain⟨f0,f1,f2,f3,f4,f5⟩:=hf it (by simp)
  exact wpAny_pyNext_range_end (I.ok.hd hc) st (by have:n<=i:=hg;lia) λh' eb=>#[rfl,I.turned (t':=s.toks) (λb o hb e=>eb b o hb e) f0 f1 f3 f4 f5]
 self:=λ_ _ _ _ _ st h=>wpAny_pyIter_rangeiter st h
section
variable{X:Cx}{tg:Expr}
theorem Jm{pq:List (aG×eX)}{U:St}{H:Hp}{s:aw}{R:It->Hp->Prop}{E:ap->aw->Prop}{lo hi:Int}{t u v:nM}{tk:Nat}(I:Inv X pq U H s)(h1:-(2^62)<=lo)(h2:lo<2^62)(h3:-(2^62)<=hi)(h4:hi<2^62)
  (q:R (Itr lo (hi-lo).toNat) H):aX (aS X.prog X.w) X.A (nH<|.ref s.heap.objs.size) (PIE X pq U tg R) E {s with heap:=s.heap.push {cls:=.type "range",data:=.fields [.int lo t,.int hi u,.int 1 v].toArray},toks:=tk}:=by
 refine wpAny_pyIter_range (IsRange.new ..) (small_one h1 h2 h3 h4) ?_;have I1:Inv X pq U H {s with heap:=s.heap.push {cls:=.type "range",data:=.fields [.int lo t,.int hi u,.int 1 v].toArray},toks:=tk}:=I.kept λb o e=>aq _ e
 refine#[(s.heap.push {cls:=.type "range",data:=.fields [.int lo t,.int hi u,.int 1 v].toArray}).objs.size,[(s.heap.push {cls:=.type "range",data:=.fields [.int lo t,.int hi u,.int 1 v].toArray}).objs.size],_,_,H,rfl,
  I1.kept (t':=tk) λb o e=>aq _ e,GK _ lo (hi-lo).toNat,?_,λb hb=>?_,q]
 .have e1:lo+((0:Nat):Int)*1=lo:=by simp
  have e2:(((hi-lo).toNat:Nat):Int)-((0:Nat):Int)=dQ.Range.rangeSize lo hi 1:=by rw[rangeSize_one];split<;>lia
  rw[e1,e2];exact aI _ rfl
 .have e:b=(s.heap.push {cls:=.type "range",data:=.fields [.int lo t,.int hi u,.int 1 v].toArray}).objs.size:=by simpa using hb
  subst e;exact I1.fpOk (az _)<|I1.hok.fresh<|az _
def ZbY(ta:TA):TI:=λU H R=>ta U H λvs H1=>∃j:Int,vs=[.int j]/\-(2^62)<=j/\j<2^62/\R (Itr 0 j.toNat) H1
def Zcl(ta:TA):TI:=λU H R=>ta U H λvs H1=>∃i j:Int,vs=[.int i,.int j]/\(-(2^62)<=i/\i<2^62/\-(2^62)<=j/\j<2^62)/\R (Itr i (j-i).toNat) H1
theorem yk{a:Expr}{ta:TA}{p pos:gD}(hg:Gl X "range")(hm:X.mg "range" = ae)(ha:PA X [a] ta)(hs:aM [a] X.env=[(ai,cV a X.env)]:=by rfl):PI X tg (.Call (.Name "range" p) [a] [] pos) (ZbY ta):=by
 intro pq s U H R I h;refine Call_<|Y7 I hg hm boot_range<|cX (thn (ha pos pq s U H _ I h) λus s1 #[vs,H1,I1,r1,q1]=>?_) hs rfl
 obtain⟨j,e,q1,q2,q⟩:=q1;subst e;cases r1 with
 |cons r rr=>
  cases rr;obtain⟨t,rfl⟩:=r;exact call_range_1<|Jm I1 (by lia) (by lia) q1 q2<|by simpa using q
def xb{a b:Expr}{ta:TA}{p pos:gD}(hg:Gl X "range")(hm:X.mg "range" = ae)(ha:PA X [a,b] ta)(hs:aM [a,b] X.env=[(ai,cV a X.env),(ai,cV b X.env)]:=by rfl)(hs2:aM [b] X.env=[(ai,cV b X.env)]:=by rfl) :
  PI X tg (.Call (.Name "range" p) [a,b] [] pos) (Zcl ta):=by
 intro pq s U H R I h;refine Call_<|Y7 I hg hm boot_range<|cX (thn (ha pos pq s U H _ I h) λus s1 #[vs,H1,I1,r1,q1]=>?_) (by rw[hs,hs2])<|by rw[hs2];rfl
 obtain⟨i,j,e,⟨q1,q2,q3,q4⟩,q⟩:=q1;subst e;cases r1 with
 |cons r rr=>
  cases rr with
  |cons r' rr=>
   cases rr;obtain⟨t,rfl⟩:=r;obtain⟨t',rfl⟩:=r';exact call_range_2<|Jm I1 q1 q2 q3 q4 q
def Zc9(wi:TI)(g:TG)(tb:TS):TS:=λD U H=>wi U H λJ H1=>∃W:Nat->Nat->St->Hp->Prop,(∃m,W 0 m U H1)/\∀i m U H,W i m U H->
 (J.stop i H/\D.nx U H)\/(J.go i H/\∃N:St->Hp->Prop,(∀σ' H',N σ' H'->∃m',m'<m/\W (i+1) m' σ' H')/\∀x H',J.yld i H x H'->g x U H' λσ2 H2=>tb {D with nx:=N,ct:=N,bk:=D.nx} σ2 H2)
noncomputable def Vv(fp:List aG)(h:bX):List (aG×eX):=fp.filterMap λb=>(h.get? b).map λo=>(b,o)
def YQ(hb:b∈fp)(e:h.get? b=aa o):(b,o)∈Vv fp h:=lq.mpr #[b,hb,by rw[e];rfl]
def yq(hp:p∈Vv fp h):p.1∈fp/\h.get? p.1=aa p.2:=by
 obtain⟨b,hb,e⟩:=lq.mp hp;cases q:h.get? b with
 |none=>rw[q]at e;cases e
 |some o=>
  rw[q]at e;have e':=af e;subst e';exact#[hb,q]
def Inv.pinned(I:Inv X pq U H s)(hf:∀b∈fp,Wt X pq H b)(ho:∀b∈fp,∃o,s.heap.get? b=aa o/\∀v,o.data≠.cell v):Inv X (pq++Vv fp s.heap) U H s:=
 I.pins_of λp hp=>(cg.mp hp).elim (λz=>I.pin p<|bx _ z) λz=>by
  obtain⟨hb,e⟩:=yq z;obtain⟨f0,f1,f2,_⟩:=hf p.1 hb;obtain⟨o,e',d⟩:=ho p.1 hb;rw[e]at e';cases e';exact#[e,f0,f1,f2,d]
def Inv.unpinned(I:Inv X (pq++pl) U H s):Inv X pq U H s:=I.pins_of λp hp=>I.pin p<|bx _<|dr _ hp
def xI{iter:Expr}{body:List eR}{wi:TI}{g:TG}{tb:TS}{pos:gD}(hp:kT (aS X.prog X.w) X.A X.env X.xe)(hc:X.calm=aj)(hi:PI X tg iter wi)(hg:PG X tg g)(hb:PSs X body tb)
  (hs:∀x,cZ iter X.env x=cT x:=by intro _;rfl):PS X (.For tg iter body [] pos) (Zc9 wi g tb):=by
 intro pq s U H D I h;refine wpAny_For (thn (hi pq s U H _ I h) λv s1 h1=>thn h1 λitv s2 h2=>?_) hs
 obtain⟨it,fp,tn,J,H2,e,I2,T,st2,f2,W,⟨m0,w0⟩,turn⟩:=h2;subst e;have stat:∀{H':Hp},(∀b∈fp,H' b=ae)->∀b∈fp,Wt X pq H' b:=λhn b hb=>#[hn b hb,(f2 b hb).2]
 refine codeAny_forLoop_any (λn s'=>∃i σ' H',Inv X pq σ' H' s'/\tn i s'.heap/\(∀b∈fp,H' b=ae)/\W i n σ' H') ?_ m0 #[0,U,H2,I2,st2,λb hb=>(f2 b hb).1,w0]
 rintro n s3 ⟨i,σ3,H3,I3,st3,fr3,w3⟩
 rcases turn i n σ3 H3 w3 with⟨stop,qn⟩|⟨go,N,hN,step⟩
 .refine dW hp (thn (T.done X rfl rfl rfl hc i pq s3 σ3 H3 X.xe I3 (stat fr3) st3 stop) λr s4 #[hr,I4]=>?_)
  subst hr;exact ki #[σ3,H3,I4,qn]
 .refine dW hp (thn (T.item X rfl rfl rfl hc i pq s3 σ3 H3 X.xe I3 (stat fr3) st3 go) λr s4 #[u,hr,h4]=>?_)
  subst hr;refine dW hp<|thn h4 λ_ s5 #[x,H5,I5,r5,y5,st5,fr5]=>?_
  have I5':=I5.pinned (stat fr5)<|T.obj _ _ st5;refine dW hp<|thn (hg _ s5 σ3 H5 x u _ I5' r5<|step x H5 y5) λ_ s6 #[σ6,H6,I6,q6]=>?_
  refine dW hp<|thn (hb _ s6 σ6 H6 _ I6 q6) λf s7 q7=>?_
  have nK:∀{σ7:St}{H7:Hp},Inv X (pq++Vv fp s5.heap) σ7 H7 s7->N σ7 H7->∃m,m<n/\∃i σ' H',Inv X pq σ' H' s7/\tn i s7.heap/\(∀b∈fp,H' b=ae)/\W i m σ' H':=λ{σ7 H7} I7 n7=>by
   obtain⟨m',hm,w7⟩:=hN σ7 H7 n7;refine#[m',hm,i+1,σ7,H7,I7.unpinned,T.keep _ _ _ st5 λb hb o e=>(I7.pin (b,o)<|bx _<|bx _<|YQ hb e).1,λb hb=>?_,w7]
   obtain⟨o,e,d⟩:=T.obj _ _ st5 b hb;exact(I7.pin (b,o)<|bx _<|bx _<|YQ hb e).2.1
  cases f with|next=>obtain⟨σ7,H7,I7,n7⟩:=q7;exact nK I7 n7|cont=>obtain⟨σ7,H7,I7,n7⟩:=q7;exact nK I7 n7|brk=>obtain⟨σ7,H7,I7,q7⟩:=q7;exact#[σ7,H7,I7.unpinned,q7]|ret v=>obtain⟨x7,σ7,H7,I7,r7,q7⟩:=q7;exact#[x7,σ7,H7,I7.unpinned,r7,q7]
end
abbrev R2:=V->V->Hp->VK->Prop
def OpR(X:Cx)(f:ap->ap->mj ap)(r:R2):Prop:=
 ∀(pq:List (aG×eX))(s:aw)(U:St)(H:Hp)(x y:V)(v u:ap)(Q:VK),Inv X pq U H s->Zs x v->Zs y u->r x y H Q->
  aX (aS X.prog X.w) X.A (f v u) (EP X pq U Q) X.xe s
def UnR(X:Cx)(f:ap->mj ap)(r:V->Hp->VK->Prop):Prop:=
 ∀(pq:List (aG×eX))(s:aw)(U:St)(H:Hp)(x:V)(v:ap)(Q:VK),Inv X pq U H s->Zs x v->r x H Q->
  aX (aS X.prog X.w) X.A (f v) (EP X pq U Q) X.xe s
def ZD(X:Cx)(f:ap)(r:List V->Hp->VK->Prop):Prop:=
 ∀(pq:List (aG×eX))(s:aw)(U:St)(H:Hp)(xs:List V)(us:List ap)(Q:VK),Inv X pq U H s->Vals xs us->r xs H Q->
  aX (aS X.prog X.w) X.A (call f us) (EP X pq U Q) X.xe s
def Zc7(X:Cx)(r:V->Hp->(Bool->Hp->Prop)->Prop):Prop:=
 ∀(pq:List (aG×eX))(s:aw)(U:St)(H:Hp)(x:V)(v:ap)(Q:Bool->Hp->Prop),Inv X pq U H s->Zs x v->r x H Q->
  aX (aS X.prog X.w) X.A (truthy v) (TP X pq U Q) X.xe s
def tOp(r:R2)(ta tb:TE):TE:=λU H Q=>ta U H λx H1=>tb U H1 λy H2=>r x y H2 Q
def tUn(r:V->Hp->VK->Prop)(ta:TE):TE:=λU H Q=>ta U H λx H1=>r x H1 Q
def rI(C:Int->Int->Prop)(g:Int->Int->V):R2:=λx y H Q=>∃i j,x=.int i/\y=.int j/\C i j/\Q (g i j) H
def rI0(g:Int->Int->V):R2:=λx y H Q=>∃i j,x=.int i/\y=.int j/\Q (g i j) H
def rU(g:Int->V):V->Hp->VK->Prop:=λx H Q=>∃i,x=.int i/\Q (g i) H
section
variable{X:Cx}{a b c:Expr}{ta tb tc:TE}{pos:gD}
def GE(ha:PE X a ta)(hb:PE X b tb){pq:List (aG×eX)}{s:aw}{U:St}{H:Hp}{R:V->V->Hp->Prop}(I:Inv X pq U H s)
  (h:ta U H λx H1=>tb U H1 λy H2=>R x y H2){Q:ap->aw->Prop}{f:ap->ap->mj ap}
  (hf:∀v u s2 x y H2,Inv X pq U H2 s2->Zs x v->Zs y u->R x y H2->aX (aS X.prog X.w) X.A (f v u) Q X.xe s2) :
  aX (aS X.prog X.w) X.A (cV a X.env) (λv s₁=>aX (aS X.prog X.w) X.A (cV b X.env) (λu s₂=>aX (aS X.prog X.w) X.A (f v u) Q X.xe s₂) X.xe s₁) X.xe s:=by
 refine thn (ha pq s U H _ I h) λv s1 #[x,H1,I1,r1,q1]=>?_
 refine thn (hb pq s1 U H1 _ I1 q1) λu s2 #[y,H2,I2,r2,q2]=>?_
 exact hf v u s2 x y H2 I2 r1 r2 q2
def W8(ho:OpR X (d4 op) r)(ha:PE X a ta)(hb:PE X b tb):PE X (.BinOp a op b pos) (tOp r ta tb):=by
 intro pq s U H Q I h;exact wpAny_BinOp<|GE ha hb I h λv u s2 x y H2 I2 rx ry q=>ho pq s2 U H2 x y v u Q I2 rx ry q
def Zco{op:UnaryOp}{r:V->Hp->VK->Prop}(ho:UnR X (unaryOp op) r)(ha:PE X a ta):PE X (.UnaryOp op a pos) (tUn r ta):=by
 intro pq s U H Q I h;exact UnaryOp_<|thn (ha pq s U H _ I h)<|by rintro v s1 ⟨x,H1,I1,r1,q1⟩;exact ho pq s1 U H1 x v Q I1 r1 q1
def opI{f:ap->ap->mj ap}{C:Int->Int->Prop}{g:Int->Int->Int}
  (mn:∀(i j:Int)(t u:nM)(s:aw)(Q:ap->aw->Prop)(E:ap->aw->Prop),C i j->Q (.int (g i j) s.toks) {s with toks:=s.toks+1}->aX (aS X.prog X.w) X.A (f (.int i t)<|.int j u) Q E s) :
  OpR X f (rI C λi j=>.int<|g i j):=by
 intro pq s U H x y v u Q I rx ry h;obtain⟨i,j,rfl,rfl,hc,q⟩:=h;obtain⟨t,rfl⟩:=rx;obtain⟨t',rfl⟩:=ry;exact mn i j t t' s _ _ hc #[.int<|g i j,H,I.tok _,#[_,rfl],q]
def ZbF{f:ap->ap->mj ap}{g:Int->Int->Int}
  (mn:∀(i j:Int)(t u:nM)(s:aw)(Q:ap->aw->Prop)(E:ap->aw->Prop),Q (.int (g i j) s.toks) {s with toks:=s.toks+1}->aX (aS X.prog X.w) X.A (f (.int i t)<|.int j u) Q E s) :
  OpR X f (rI0 λi j=>.int<|g i j):=by
 intro pq s U H x y v u Q I rx ry h;obtain⟨i,j,rfl,rfl,q⟩:=h;obtain⟨t,rfl⟩:=rx;obtain⟨t',rfl⟩:=ry;exact mn i j t t' s _ _ #[.int<|g i j,H,I.tok _,#[_,rfl],q]
def uH{f:ap->ap->mj ap}{g:Int->Int->Bool}
  (mn:∀(i j:Int)(t u:nM)(s:aw)(Q:ap->aw->Prop)(E:ap->aw->Prop),Q (.bool<|g i j) s->aX (aS X.prog X.w) X.A (f (.int i t)<|.int j u) Q E s) :
  OpR X f (rI0 λi j=>.bl<|g i j):=by
 intro pq s U H x y v u Q I rx ry h;obtain⟨i,j,rfl,rfl,q⟩:=h;obtain⟨t,rfl⟩:=rx;obtain⟨t',rfl⟩:=ry;exact mn i j t t' s _ _ #[.bl<|g i j,H,I,rfl,q]
def CPow(i j:Int):Prop:=0<=j/\j<=1000000/\i.natAbs<2^64
def ZaC:OpR X (d4 .Add) (rI0 λi j=>.int<|i+j):=ZbF λ_ _ _ _ _ _ _ q=>add_int q
def Zaj:OpR X (d4 .Sub) (rI0 λi j=>.int<|i-j):=ZbF λ_ _ _ _ _ _ _ q=>sub_int q
theorem Zau:OpR X (d4 .Mod) (rI (λ_ j=>0<j) λi j=>.int<|i%j):=opI λi j _ _ _ _ _ hc q=>by
 have h1:=hc;exact mod_int' (by lia) (by rw[Int.fmod_eq_emod_of_nonneg i<|by lia];exact q)
def j7:OpR X (d4 .Pow) (rI CPow λi j=>.int<|i^j.toNat):=opI λ_ _ _ _ _ _ _ hc q=>pow_int_small hc.1 hc.2.1 hc.2.2 q
def uF:OpR X (inplaceOp .Add) (rI0 λi j=>.int<|i+j):=ZbF λ_ _ _ _ _ _ _ q=>iadd_int q
def unI{f:ap->mj ap}{g:Int->Int}
  (mn:∀(i:Int)(t:nM)(s:aw)(Q:ap->aw->Prop)(E:ap->aw->Prop),Q (.int (g i) s.toks) {s with toks:=s.toks+1}->aX (aS X.prog X.w) X.A (f<|.int i t) Q E s) :
  UnR X f (rU λi=>.int<|g i):=by
 intro pq s U H x v Q I rx h;obtain⟨i,rfl,q⟩:=h;obtain⟨t,rfl⟩:=rx;exact mn i t s _ _ #[.int<|g i,H,I.tok _,#[_,rfl],q]
def ZaK:UnR X (unaryOp .USub) (rU λi=>.int<|-i):=unI λ_ _ _ _ _ q=>neg_int q
end
noncomputable def scal:V->V->Bool
 |.non,.non=>aj|.non,.int _=>aj|.int _,.non=>aj|.non,.bl _=>aj|.bl _,.non=>aj|.non,.str _=>aj|.str _,.non=>aj
 |.int _,.int _=>aj|.bl _,.bl _=>aj|.str _,.str _=>aj|.byt _,.byt _=>aj
 |.int _,.str _=>aj|.str _,.int _=>aj|.bl _,.str _=>aj|.str _,.bl _=>aj
 |_,_=>ai
def rEq:R2:=λx y H Q=>scal x y=aj/\Q (.bl<|al<|x=y) H
def rNe:R2:=λx y H Q=>scal x y=aj/\Q (.bl<|!decide (x=y)) H
def zN :al (V.int i=V.int j)=(i == j):=by
 rw[cK];simp
def ue :al (V.bl i=V.bl j)=(i == j):=by
 rw[cK];simp
def zA :al (V.str i=V.str j)=(i == j):=by
 rw[cK];simp
def zw :al (V.byt i=V.byt j)=(i.toList == j.toList):=by
 rw[cK];cases i;cases j;simp
section
variable{X:Cx}{a b c:Expr}{ta tb tc:TE}{pos:gD}
def Zu(I:Inv X pq U H s)(q:Q (.bl k) H)(e:k=k'):EP X pq U Q (.bool k') s:=by
 subst e;exact#[.bl k,H,I,rfl,q]
def Zct:OpR X (cu .Eq) rEq:=by
 intro pq s U H x y v u Q I rx ry h;obtain⟨hs,q⟩:=h;cases x with
 |non=>
  cases rx;cases y with|non=>cases ry;exact PySem.EqNone.eq_none_none<|Zu I q<|by simp|bl j=>cases ry;exact PySem.EqNone.eq_none_bool<|Zu I q<|by simp|int j=>obtain⟨t',rfl⟩:=ry;exact PySem.EqNone.eq_none_int<|Zu I q<|by simp|str j=>obtain⟨t',rfl⟩:=ry;exact PySem.EqNone.eq_none_str<|Zu I q<|by simp|_=>exact T7 (hs) aJ
 |bl i=>
  cases rx;cases y with|non=>cases ry;exact PySem.EqNone.eq_bool_none<|Zu I q<|by simp|bl j=>cases ry;exact eq_bool<|Zu I q ue|str j=>obtain⟨t',rfl⟩:=ry;exact PySem.EqMixed.eq_bool_str<|Zu I q<|by simp|_=>exact T7 (hs) aJ
 |int i=>
  obtain⟨t,rfl⟩:=rx;cases y with|non=>cases ry;exact PySem.EqNone.eq_int_none<|Zu I q<|by simp|int j=>obtain⟨t',rfl⟩:=ry;exact eq_int<|Zu I q zN|str j=>obtain⟨t',rfl⟩:=ry;exact PySem.EqMixed.eq_int_str<|Zu I q<|by simp|_=>exact T7 (hs) aJ
 |str i=>
  obtain⟨t,rfl⟩:=rx;cases y with|non=>cases ry;exact PySem.EqNone.eq_str_none<|Zu I q<|by simp|bl j=>cases ry;exact PySem.EqMixed.eq_str_bool<|Zu I q<|by simp|int j=>obtain⟨t',rfl⟩:=ry;exact PySem.EqMixed.eq_str_int<|Zu I q<|by simp|str j=>obtain⟨t',rfl⟩:=ry;exact eq_str<|Zu I q zA|_=>exact T7 (hs) aJ
 |byt i=>
  obtain⟨t,rfl⟩:=rx;cases y with|byt j=>obtain⟨t',rfl⟩:=ry;exact PySem.W.eq_bytes<|Zu I q zw|_=>exact T7 (hs) aJ
 |_=>cases y<;>exact T7 (hs) aJ
def ZcO:OpR X (cu .NotEq) rNe:=by
 intro pq s U H x y v u Q I rx ry h;obtain⟨hs,q⟩:=h;cases x with
 |non=>
  cases rx;cases y with|non=>cases ry;exact PySem.EqNone.ne_none_none<|Zu I q<|by simp|bl j=>cases ry;exact PySem.EqNone.ne_none_bool<|Zu I q<|by simp|int j=>obtain⟨t',rfl⟩:=ry;exact PySem.EqNone.ne_none_int<|Zu I q<|by simp|str j=>obtain⟨t',rfl⟩:=ry;exact PySem.EqNone.ne_none_str<|Zu I q<|by simp|_=>exact T7 (hs) aJ
 |bl i=>
  cases rx;cases y with|non=>cases ry;exact PySem.EqNone.ne_bool_none<|Zu I q<|by simp|bl j=>cases ry;exact ne_bool<|Zu I q<|congrArg not ue|str j=>obtain⟨t',rfl⟩:=ry;exact PySem.EqMixed.ne_bool_str<|Zu I q<|by simp|_=>exact T7 (hs) aJ
 |int i=>
  obtain⟨t,rfl⟩:=rx;cases y with|non=>cases ry;exact PySem.EqNone.ne_int_none<|Zu I q<|by simp|int j=>obtain⟨t',rfl⟩:=ry;exact ne_int<|Zu I q<|congrArg not zN|str j=>obtain⟨t',rfl⟩:=ry;exact PySem.EqMixed.ne_int_str<|Zu I q<|by simp|_=>exact T7 (hs) aJ
 |str i=>
  obtain⟨t,rfl⟩:=rx;cases y with|non=>cases ry;exact PySem.EqNone.ne_str_none<|Zu I q<|by simp|bl j=>cases ry;exact PySem.EqMixed.ne_str_bool<|Zu I q<|by simp|int j=>obtain⟨t',rfl⟩:=ry;exact PySem.EqMixed.ne_str_int<|Zu I q<|by simp|str j=>obtain⟨t',rfl⟩:=ry;exact ne_str<|Zu I q<|congrArg not zA|_=>exact T7 (hs) aJ
 |byt i=>
  obtain⟨t,rfl⟩:=rx;cases y with|byt j=>obtain⟨t',rfl⟩:=ry;exact PySem.W.ne_bytes<|Zu I q<|congrArg not zw|_=>exact T7 (hs) aJ
 |_=>cases y<;>exact T7 (hs) aJ
def ZcF:OpR X (cu .Lt) (rI0 λi j=>.bl<|al<|i<j):=uH λ_ _ _ _ _ _ _ q=>lt_int q
def ZbV:OpR X (cu .LtE) (rI0 λi j=>.bl<|al<|i<=j):=uH λ_ _ _ _ _ _ _ q=>le_int q
def Zcb:OpR X (cu .Gt) (rI0 λi j=>.bl<|al<|j<i):=uH λ_ _ _ _ _ _ _ q=>gt_int q
def ZbK:OpR X (cu .GtE) (rI0 λi j=>.bl<|al<|j<=i):=uH λ_ _ _ _ _ _ _ q=>ge_int q
def jZ:OpR X (cu .Is) (λx y H Q=>y=.non/\Q (.bl<|al<|x=.non) H):=by
 intro pq s U H x y v u Q I rx ry h;obtain⟨rfl,q⟩:=h;cases ry;refine is_none_gen<|Zu I q ?_;cases x<;>first
  |(cases rx;rfl)
  |(obtain⟨t,rfl⟩:=rx;rfl)
def qy:OpR X (cu .IsNot) (λx y H Q=>y=.non/\Q (.bl<|!decide (x=.non)) H):=by
 intro pq s U H x y v u Q I rx ry h;obtain⟨rfl,q⟩:=h;cases ry;refine isnot_none_gen<|Zu I q ?_;cases x<;>first
  |(cases rx;rfl)
  |(obtain⟨t,rfl⟩:=rx;rfl)
def OpR.or(h:OpR X f r)(h':OpR X f r'):OpR X f (λx y H Q=>r x y H Q\/r' x y H Q):=by
 intro pq s U H x y v u Q I rx ry q;rcases q with q|q
 .exact h pq s U H x y v u Q I rx ry q
 .exact h' pq s U H x y v u Q I rx ry q
def Zam(b:Expr)(h:op≠.In:=by decide)(h2:op≠.NotIn:=by decide):fq op b=ai:=by
 have e1:(op == CmpOp.In)=ai:=by cases op<;>first|rfl|exact T7 rfl h
 have e2:(op == CmpOp.NotIn)=ai:=by cases op<;>first|rfl|exact T7 rfl h2
 cases b<;>simp[fq,e1,e2]
def uB(ho:OpR X (cu op) r)(ha:PE X a ta)(hb:PE X b tb)(hm:fq op b=ai):PE X (.Compare a [op] [b] pos) (tOp r ta tb):=by
 intro pq s U H Q I h;exact wpAny_Compare1 (GE ha hb I h λv u s2 x y H2 I2 rx ry q=>ho pq s2 U H2 x y v u Q I2 rx ry q) hm
def ZbL(t:TE):TT:=λU H Q=>t U H λx H'=>∃k,x=.bl k/\Q k H'
def uU(ho:OpR X (cu op) r)(ha:PE X a ta)(hb:PE X b tb)(hm:fq op b=ai):PT X (.Compare a [op] [b] pos) (ZbL<|tOp r ta tb):=by
 intro pq s U H Q I h;refine wpAny_isTrue_Compare1 (thn (ha pq s U H _ I h) λv s1 #[x,H1,I1,r1,q1]=>thn (hb pq s1 U H1 _ I1 q1) λu s2 #[y,H2,I2,r2,q2]=>
  thn (ho pq s2 U H2 x y v u _ I2 r1 r2 q2) λc s3 #[z,H3,I3,r3,k,e,q3]=>?_) hm
 subst e;cases r3;exact eL #[H3,I3,q3]
def ZaS(r r':R2)(ta tb tc:TE):TE:=λU H Q=>ta U H λx H1=>tb U H1 λy H2=>r x y H2 λz H3=>∃k,z=.bl k/\
 (if k=aj then tc U H3 λw' H4=>r' y w' H4 Q else Q (.bl ai) H3)
def wa(ho:OpR X (cu op) r)(ho':OpR X (cu op') r')(ha:PE X a ta)(hb:PE X b tb)(hc:PE X c tc)
  (hm:lastMarks [op,op'] [b,c]=ai:=by with_unfolding_all rfl):PE X (.Compare a [op,op'] [b,c] pos) (ZaS r r' ta tb tc):=by
 intro pq s U H Q I h;refine Compare_chain (thn (ha pq s U H _ I h) λv s1 #[x,H1,I1,r1,q1]=>chain_link (thn (hb pq s1 U H1 _ I1 q1) λu s2 #[y,H2,I2,r2,q2]=>
  thn (ho pq s2 U H2 x y v u _ I2 r1 r2 q2) λd s3 #[z,H3,I3,r3,k,e,q3]=>?_)) hm
 subst e;cases r3;refine eL ?_;cases k with|false=>exact ite_ff #[.bl ai,H3,I3,rfl,q3]|true=>exact ite_tt<|chain_last<|thn (hc pq s3 U H3 _ I3 q3)<|by rintro w' s4 ⟨z',H4,I4,r4,q4⟩;exact ho' pq s4 U H4 y z' u w' Q I4 r2 r4 q4
def qe(K:ao)(x:V)(H:Hp)(k:Bool):Prop:=
 match x with
 |.non=>k=ai
 |.bl b=>k=b
 |.int i=>k=(i != 0)
 |.str y=>y.length<=aY/\k=((y.length:Int) != 0)
 |.byt y=>y.size<=aY/\k=((y.size:Int) != 0)
 |.ref p=>(∃xs,SqL K H p xs/\k = !xs.isEmpty)\/(∃xs,SqT K H p xs/\k = !xs.isEmpty)\/∃kvs,H p=aa (.dK kvs)/\k = !kvs.isEmpty
 |_=>False
def GM{κ:Type}{kvs:List (κ×V)}{vs:List (κ×ap)}(r:KV kvs vs):(!vs.isEmpty) = !kvs.isEmpty:=by
 cases r<;>rfl
def Va{xs:List V}{its:List ap}(r:Vals xs its):(!its.toArray.isEmpty) = !xs.isEmpty:=by
 cases r<;>simp
def Vb:(aY:Nat)<2^63:=by rw[du];decide
theorem xE:Zc7 X (λx H Q=>∃k,qe X.K x H k/\Q k H):=by
 intro pq s U H x v Q I rx h;obtain⟨k,e,q⟩:=h;have hl:=Vb;have hs:=du;cases x with
 |non=>
  cases rx;have e':=e;subst e';exact truthy_none #[H,I,q]
 |bl b=>
  cases rx;have e':k=b:=e;subst e';exact eL #[H,I,q]
 |int i=>
  obtain⟨t,rfl⟩:=rx;have e':=e;subst e';exact lv #[H,I,q]
 |str y=>
  obtain⟨t,rfl⟩:=rx;obtain⟨hy,e'⟩:=e;subst e';exact PySem.P.truthy_str (by lia) #[H,I.tok _,q]
 |byt y=>
  obtain⟨t,rfl⟩:=rx;obtain⟨hy,e'⟩:=e;subst e';exact PySem.W.truthy_bytes (by lia) #[H,I.tok _,q]
 |ref p=>
  cases rx;have e':=e;rcases e' with⟨xs,hx,e'⟩|⟨xs,hx,e'⟩|⟨kvs,hx,e'⟩
  .subst e'
   obtain⟨its,r,pl,hz⟩:=I.list hx;have hlen:=r.length;exact wpAny_truthy_list pl.isList (by simp only[ax];lia) #[H,I.tok _,by rw[Va r];exact q]
  .subst e'
   obtain⟨its,r,pl,hz⟩:=I.tuple hx;have hlen:=r.length;exact truthy_tuple pl (by simp only[ax];lia) #[H,I.tok _,by rw[Va r];exact q]
  .subst e'
   obtain⟨hz,hS,vs,r,m⟩:=I.hok p _ hx;have hlen:=Paired.length r;exact wpAny_truthy_dict hS m (by lia) #[H,I.tok _,by rw[GM r];exact q]
 |_=>exact(e).elim
def vV(ha:PE X a ta)(he:∀whole,isTrue a X.env whole=(do let v <-whole;m4 a.pos;iV [v] (truthy v))) :
  PT X a (λU H Q=>ta U H λx H'=>∃k,qe X.K x H' k/\Q k H'):=by
 intro pq s U H Q I h;exact isTrue_plain (thn (ha pq s U H _ I h)<|by rintro v s1 ⟨x,H1,I1,r1,q1⟩;exact xE pq s1 U H1 x v Q I1 r1 q1)<|he _
def Xy(r:Vals [x] us):∃u,us=[u]/\Zs x u:=by
 cases r with|cons r1 r2=>cases r2;exact#[_,rfl,r1]
def wF(r:Vals [x,y] us):∃u w',us=[u,w']/\Zs x u/\Zs y w':=by
 cases r with
 |cons r1 r2=>
  cases r2 with|cons r3 r4=>cases r4;exact#[_,_,rfl,r1,r3]
def yW(hc:X.calm=aj):ZD X (.builtin "max") (λxs H Q=>∃i j,xs=[.int i,.int j]/\Q (.int (if j>i then j else i)) H):=by
 intro pq s U H xs us Q I r h;obtain⟨i,j,rfl,q⟩:=h;obtain⟨u,w',rfl,⟨t,rfl⟩,⟨t',rfl⟩⟩:=wF r;refine max_two_ints (I.ok.hd hc) λh' tk k=>#[_,H,I.kept k,?_,q]
 by_cases hj:j>i
 .rw[T9 hj,T9 hj];exact#[_,rfl]
 .rw[T8 hj,T8 hj];exact#[_,rfl]
def yB(hc:X.calm=aj):ZD X (.builtin "min") (λxs H Q=>∃i j,xs=[.int i,.int j]/\Q (.int (if j<i then j else i)) H):=by
 intro pq s U H xs us Q I r h;obtain⟨i,j,rfl,q⟩:=h;obtain⟨u,w',rfl,⟨t,rfl⟩,⟨t',rfl⟩⟩:=wF r;refine min_two_ints (I.ok.hd hc) λh' tk k=>#[_,H,I.kept k,?_,q]
 by_cases hj:j<i
 .rw[T9 hj,T9 hj];exact#[_,rfl]
 .rw[T8 hj,T8 hj];exact#[_,rfl]
def y4:ZD X (.type "int") (λxs H Q=>(∃i,xs=[.int i]/\Q (.int i) H)\/∃k,xs=[.bl k]/\Q (.int (if k then 1 else 0)) H):=by
 intro pq s U H xs us Q I r h;rcases h with⟨i,rfl,q⟩|⟨k,rfl,q⟩
 .obtain⟨u,rfl,t,rfl⟩:=Xy r
  exact call_int_int #[.int i,H,I,#[_,rfl],q]
 .obtain⟨u,rfl,r1⟩:=Xy r
  cases r1;exact call_int_bool #[.int (if k then 1 else 0),H,I.tok _,#[_,rfl],q]
end
structure ObjM(h:bX)(x dx C:aG)(mA:bD->Option ap):Prop where
 obj:h.get? x=aa (kh C dx)
 ns:h.Ns1 dx mA
 ne:dx≠x
def yG{h:bX}{dx:aG}{mA:bD->Option ap}(n:h.Ns1 dx mA):∃od,h.get? dx=aa od/\∀name,kF name od=aa (mA name):=by
 obtain⟨o,es,ep,ho,hd,hk,_,hm⟩:=n;refine#[o,ho,λname=>?_]
 have e:=hm name;unfold nsFind findBy at e;rw[<-Array.find?_toList]at e;unfold kF;rw[hd]
 dsimp only
 split
 .rename_i y q
  rw[q]at e;exact congrArg aa e
 .rename_i q
  rw[q]at e;have a:es.toList.any (·.refKey)=ai:=by
   rw[List.any_eq_false];intro y hy;obtain⟨z,t,hkey⟩:=hk y<|kG.mp hy;simp[fb.refKey,hkey]
  have a':¬es.toList.any (·.refKey)=aj:=by rw[a];exact aJ
  rw[T8 a'];exact congrArg aa e
def ObjM.look(I:ObjM h x dx C mA):∃od,PySem.W.InstAt h x (kh C dx) C (aa od)/\∀name,kF name od=aa (mA name):=
 let #[od,ho,hl]:=yG I.ns
 #[od,#[I.obj,rfl,rfl,ho],hl]
section
variable{P:bE}{w:bZ}{H H':Hp}{h h':bX}{a C dx:aG}{fs fs':List (bD×V)}
def u8(hok:HOk P w H h)(e:H a=aa (.ins C dx fs)):∃mA,ObjM h a dx C mA/\(∀f,GP (fs.lookup f)<|mA f)/\PySem.Within mA (fs.map (·.1))/\fs.length<=1000/\H dx=aa (.own a):=by
 obtain⟨d,z,ne,ob,mA,n,r,q⟩:=(hok a _ e)
 exact#[mA,#[ob,n,ne],r,q,z,d]
end
structure Cls(K:ao)(C:aG):Prop where
 pg:mq K C bD.empty=aj
 hd:PySem.W.hasDictIn K C=aj
 po:PySem.W.plainOver K C=aj
 sa:ng K (.ref C) "__setattr__" = aa (aa<|.builtin "object.__setattr__")
def Cls.get{K:ao}{C:aG}(c:Cls K C)(f:bD):mq K C f=aj:=c.pg
section
variable{X:Cx}{pq:List (aG×eX)}{U:St}{H:Hp}{s:aw}{A:cQ}{E:ap->aw->Prop}{Q:ap->aw->Prop}{c:ap}{b:Bool}
inductive TyOf(K:ao)(H:Hp):V->ap->Prop where
 |non:TyOf K H .non (.type "NoneType")
 |bl (x:Bool):TyOf K H (.bl x) (.type "bool")
 |int (i:Int):TyOf K H (.int i) (.type "int")
 |str (x:bD):TyOf K H (.str x) (.type "str")
 |flt (x:UInt64):TyOf K H (.flt x) (.type "float")
 |lst {a:aG} {xs:List V} (e:H a=aa (.lst xs)):TyOf K H (.ref a) (.type "list")
 |frz {a:aG} {o:eX} {xs:List V} (e:H a=aa (.frz o<|.lst xs)):TyOf K H (.ref a) (.type "list")
 |tup {a:aG} {xs:List V} (e:H a=aa (.tup xs)):TyOf K H (.ref a) (.type "tuple")
 |dK {a:aG} {kvs:List (Key×V)} (e:H a=aa (.dK kvs)):TyOf K H (.ref a) (.type "dict")
 |dT {a:aG} {kvs:List (List Key×V)} (e:H a=aa (.dT kvs)):TyOf K H (.ref a) (.type "dict")
 |ins {a C dx:aG} {fs:List (bD×V)} (e:H a=aa (.ins C dx fs)) (cl:Cls K C) (ha:ng K (.ref C) "__class__" = aa (aa<|.builtin "object.__class__"))
   (hn:PySem.W.specialIn K (.builtin "object.__class__") "__get__" = aa (aa<|.builtin "getset_descriptor.__get__")) (htk:PySem.W.takesIn K (.builtin "object.__class__")=aa aj)
   (hm:PySem.W.mroIn K C (.type "object")=aa aj):TyOf K H (.ref a) (.ref C)
def yN(I:Inv X pq U H s)(rx:Zs x u)(ty:TyOf X.K H x t)(e:kH X.K t c=aa b)(h:∀tk,Q (.bool b) {s with toks:=tk}) :
  aX (aS X.prog X.w) A (call (.builtin "isinstance") [u,c]) Q E s:=by
 cases ty with
 |non=>cases(show u=br from rx);exact cL PySem.W.kitx_none I.kIn dJ e (λz=>nomatch z) h
 |bl y=>cases(rx);exact cL PySem.W.kitx_bool I.kIn dJ e (λz=>nomatch z) h
 |int i=>obtain⟨t,q⟩:=(rx);cases q;exact cL PySem.W.kitx_int I.kIn dJ e (λz=>nomatch z) h
 |str y=>obtain⟨t,q⟩:=(rx);cases q;exact cL PySem.W.kitx_str I.kIn dJ e (λz=>nomatch z) h
 |flt y=>obtain⟨t,q⟩:=(rx);cases q;exact cL PySem.W.kitx_float I.kIn dJ e (λz=>nomatch z) h
 |@lst a xs ea=>
  cases(rx)
  obtain⟨_,_,n,_,h1⟩:=(I.hok a _ ea)
  exact cL lH I.kIn #[_,h1,rfl] e (λz=>nomatch z) h
 |@frz a ob xs ea=>
  cases(rx)
  obtain⟨_,_,_,n,_,h1⟩:=(I.hok a _ ea)
  exact cL lH I.kIn #[_,h1,rfl] e (λz=>nomatch z) h
 |@tup a xs ea=>
  cases(rx)
  obtain⟨_,_,_,p⟩:=(I.hok a _ ea)
  obtain⟨o,h1,h2,_⟩:=p;exact cL PySem.W.kitx_tuple I.kIn #[o,h1,h2] e (λz=>nomatch z) h
 |@dK a kvs ea=>
  cases(show u=ck a from rx)
  obtain⟨_,_,vs,_,p⟩:=(I.hok a _ ea)
  obtain⟨o,es,ep,h1,h2,_⟩:=p;exact cL lI I.kIn #[o,h1,h2.1] e (λz=>nomatch z) h
 |@dT a kvs ea=>
  cases(show u=ck a from rx)
  obtain⟨_,_,xs,_,o,es,ep,h1,h2,_⟩:=(I.hok a _ ea)
  exact cL lI I.kIn #[o,h1,h2.1] e (λz=>nomatch z) h
 |@ins a C dx fs ea cl ha hn htk hm=>
  cases(show u=ck a from rx)
  obtain⟨mA,O,_⟩:=u8 I.hok ea;obtain⟨od,J,_⟩:=O.look;exact cL (PySem.W.kitx_own (cl.get _) cl.hd ha hn htk hm) I.kIn J e (λz=>nomatch z) h
end
structure Room(k:Nat)(A:cQ):Prop where
 hd:A.handled=ae
 dp:A.depth+3*k+5<recursionLimit
 un:A.units+16*k+200<db
theorem Room.deeper(r:Room (k+1) A)(env:Env):Room k (A.deeper env):=
 #[r.hd,by have:=r.dp;show A.depth+1+3*k+5<_;lia,by have:=r.un;show A.units+3+16*k+200<_;lia]
theorem Room.depth(r:Room k A):A.depth<recursionLimit:=by have:=r.dp;lia
def ZcQ:TA:=λ_ H Q=>Q [] H
def ZcA(ta:TE)(tr:TA):TA:=λU H Q=>ta U H λx H1=>tr U H1 λxs H2=>Q (x::xs) H2
section
variable{X:Cx}{e:Expr}{es:List Expr}{te:TE}{t:TA}{pos:gD}
def Gq:PA X [] ZcQ:=λ_ _ _ _ H Q I h=>Calls.spliced_nil #[[],H,I,.nil,h]
def WR(ha:PE X e te)(hr:PA X es t)(hs:aM (e::es) X.env=(ai,cV e X.env)::aM es X.env:=by rfl):PA X (e::es) (ZcA te t):=by
 intro pos pq s U H Q I h;rw[hs];refine Calls.spliced_cons<|thn (ha pq s U H _ I h) λu s1 #[x,H1,I1,r1,q1]=>?_
 exact thn (hr pos pq s1 U H1 _ I1 q1)<|by rintro us s2 ⟨xs,H2,I2,r2,q2⟩;exact #[x::xs,H2,I2,.cons r1 r2,q2]
def Zdi(t:TA):TE:=λU H Q=>t U H λxs H1=>xs.length<=aY/\∀p,H1 p=ae->Q (.ref p) (upd H1 p<|.tup xs)
def Zc3(t:TA):TE:=λU H Q=>t U H λxs H1=>xs.length<=aY/\∀p,H1 p=ae->Q (.ref p) (upd H1 p<|.lst xs)
def ZaZ{x1}(h:PA X es t):PE X (.Tuple es x1 pos) (Zdi t):=by
 intro pq s U H Q I hq;refine wpAny_Tuple_spliced<|thn (h pos pq s U H _ I hq) λus s1 #[xs,H1,I1,r,z,q]=>#[by rw[<-r.length];exact z,?_]
 have hf:=I1.hok.fresh<|az _;refine#[.ref s1.heap.objs.size,upd H1 s1.heap.objs.size<|.tup xs,I1.laid (t':=s1.toks) (λb u e=>aq _ e) (az _) ?_,rfl,q _ hf]
 exact#[z,us,r,#[_,aI _ rfl,rfl,_,rfl]]
def J6(h:PA X es t):PE X (.List es pos) (Zc3 t):=by
 intro pq s U H Q I hq;refine wpAny_List_spliced<|thn (h pos pq s U H _ I hq) λus s1 #[xs,H1,I1,r,z,q]=>#[by rw[<-r.length];exact z,?_]
 have hf:=I1.hok.fresh<|az _;refine#[.ref s1.heap.objs.size,upd H1 s1.heap.objs.size<|.lst xs,I1.laid (t':=s1.toks) (λb u e=>aq _ e) (az _) ?_,rfl,q _ hf]
 exact#[z,us,0,r,aI _ rfl]
end
abbrev Sp:=List V->Hp->VK->XK->Prop
abbrev CXT:=List Env->Hp->aw->XK->ap->aw->Prop
structure Env0(P:bE)(w:bZ)(K:ao)(mg:bD->Option ap)(base:bX)(A:cQ)(outer:List Env)(s:aw)(H:Hp):Prop where
 frames:A.frames=aa outer
 mod:Mod K mg base
 bs:∀b o,base.get? b=aa o->s.heap.get? b=aa o/\H b=ae
 bsz:base.objs.size<=s.heap.objs.size
 funs:s.heap.FunFrames base outer
 frf:∀b∈frs outer,H b=ae
 hok:HOk P w H s.heap
 bare:hJ s.gens
def CE(outer:List Env)(P:bE)(w:bZ)(H:Hp)(s:aw)(Q:VK)(u:ap)(s':aw):Prop:=
 ∃v H',s'.os=s.os/\hJ s'.gens/\Un (frs outer) [] H H' s.heap s'.heap/\HOk P w H' s'.heap/\Zs v u/\Q v H'
def CR(CX:CXT)(outer:List Env)(P:bE)(w:bZ)(H:Hp)(s:aw)(Q:VK)(E:XK)(r:Result)(s':aw):Prop:=
 match r with
 |.ok (.ret u)=>CE outer P w H s Q u s'
 |.ok _=>False
 |.error e=>CX outer H s E e s'
structure FnOk(P:bE)(w:bZ)(K:ao)(mg:bD->Option ap)(base:bX)(CX:CXT)(k:Nat)(f:aG)(fd:cP)(ps:List bD)(sp:Sp):Prop where
 len:∀vs H Q E,sp vs H Q E->vs.length=ps.length
 run:∀(A:cQ)(outer:List Env)(s:aw)(H:Hp)(args:Args)(us:List ap)(vs:List V)(Q:VK)(E:XK),Room k A->Env0 P w K mg base A outer s H->lJ s fd args (ps.zip us)->Vals vs us->sp vs H Q E->
  iX (aS P w) A (.call (.ref f) args) (CR CX outer P w H s Q E) s
section
variable{X:Cx}{pq:List (aG×eX)}{U:St}{H:Hp}{s s':aw}
def Inv.env0(I:Inv X pq U H s):Env0 X.prog X.w X.K X.mg X.base X.A X.stack s H:=
 #[I.ok.frames,I.ok.mod,I.bs,b0 I.ok.bsz I.sz,I.stack,I.stkFree,I.hok,I.bare]
def Inv.after(I:Inv X pq U H s)(h:CE X.stack X.prog X.w H s Q u s'):EP X pq U Q u s':=by
 obtain⟨v,H',os,bare,un,hok,r,q⟩:=h;obtain⟨hh,g,d,t,os'⟩:=s';obtain rfl:os'=s.os:=os;exact#[v,H',I.call (h':=hh) (g':=g) (d':=d) (t':=t) un hok bare (λb z=>T7 z<|by simp),r,q]
end
def jV(sp:Sp)(dvs:List V)(E:XK)(t:TA):TE:=λU H Q=>t U H λvs H1=>sp (vs++dvs) H1 Q E
def VA(K:ao)(fd:cP)(ps:List bD)(ds:List ap):Prop:=
 ∀(s:aw)(us:List ap),K.In s.heap->(us++ds).length=ps.length->lJ s fd #[us,[]] (ps.zip<|us++ds)
def VA.all{K:ao}{fd:cP}{ps:List bD}(h:∀us:List ap,us.length=ps.length->nh fd #[us,[]]=cT (ps.zip us)):VA K fd ps []:=λs us _ hl=>by
 rw[cz]at hl ⊢;exact .of_eq<|h us hl
def GQ(CX:CXT)(X:Cx)(E:XK):Prop:=∀(pq:List (aG×eX))(U:St)(H:Hp)(s:aw)(e:ap)(s':aw),Inv X pq U H s->CX X.stack H s E e s'->X.xe e s'
section
variable{X:Cx}{CX:CXT}{k:Nat}{f C:aG}{fd:cP}{ps:List bD}{sp:Sp}{dvs:List V}{ds:List ap}{E:XK}{x m:bD}{p pos apos:gD}{e o:Expr}{es:List Expr}{ta:TE}{t:TA}
def Zaz(F:FnOk X.prog X.w X.K X.mg X.base CX k f fd ps sp)(hr:Room k X.A)(hb:VA X.K fd ps ds)(hd:Vals dvs ds)(hx:GQ CX X E)
  (I:Inv X pq U H s)(r:Vals vs us)(h:sp (vs++dvs) H Q E):aX (aS X.prog X.w) X.A (call (.ref f) us) (EP X pq U Q) X.xe s:=by
 have r2:=r.append hd;have hl:(us++ds).length=ps.length:=by rw[<-r2.length];exact F.len _ _ _ _ h
 refine wpAny_call<|iY (F.run X.A X.stack s H #[us,[]] (us++ds) (vs++dvs) Q E hr I.env0 (hb s us I.kIn hl) r2 h) λr s' hq=>?_
 cases r with
 |error e=>exact hx pq U H s e s' I hq
 |ok fl=>
  cases fl with|ret u=>exact I.after hq|next=>exact False.elim hq|brk=>exact False.elim hq|cont=>exact False.elim hq
def zq(F:FnOk X.prog X.w X.K X.mg X.base CX k f fd ps sp)(hr:Room k X.A)(hg:Gl X x)(hm:X.mg x=aa (.ref f))(hk:fJ X.K (.ref f)=aj)(hb:VA X.K fd ps ds)(hd:Vals dvs ds)(hx:GQ CX X E)
  (ha:PA X (e::es) t)(hdb:(x == ("__debug__" : bD))=ai:=by decide)(he:aM (e::es) X.env=(ai,cV e X.env)::aM es X.env:=by rfl)(hpl:(eC pos<|aM es X.env).any (·.1)=ai:=by rfl) :
  PE X (.Call (.Name x p) (e::es) [] pos) (jV sp dvs E t):=by
 intro pq s U H Q I h;refine fC<|uD I hg hm ?_ hdb;refine PySem.W.callWith_K I.ok.mod.kin hk (thn (ha pos pq s U H _ I h) λus s1 #[vs,H1,I1,r,q]=>#[I1.kIn,?_]) he hpl
 exact Zaz F hr hb hd hx I1 r q
end
structure FnScope(N P:List bD)(sc:ez):Prop where
 kind:sc.kind=.function
 co:sc.isCoroutine=ai
 gen:sc.isGenerator=ai
 nd:N.Nodup
 pre:N.take P.length=P
 par:∀x∈P,sc.names.lookup x=aa .local\/sc.names.lookup x=aa .cell
 nofree:∀y∈sc.names,y.2≠.free
theorem Uu{kindOf:bD->Option d5}{x:bD}:∀{binds:List (bD×ap)}{m:bD->Option ap},(∀v,(x,v)∉binds)->nE kindOf binds m x=m x
 |[],_,_=>rfl
 |(n,v)::r,m,h=>by
  unfold nE;rw[Uu λw hw=>h w<|ak _ hw]
  split
  .have:x≠n:=by rintro rfl;exact h v am
   simp[this]
  .rfl
theorem Ug{kindOf:bD->Option d5}{x:bD}:∀{binds:List (bD×ap)}{m:bD->Option ap},(∀v,(x,v)∉binds)->nF kindOf binds m x=m x
 |[],_,_=>rfl
 |(n,v)::r,m,h=>by
  unfold nF;rw[Ug λw hw=>h w<|ak _ hw]
  split
  .rfl
  .have:x≠n:=by rintro rfl;exact h v am
   simp[this]
theorem Uf{kindOf:bD->Option d5}{x:bD}{v:ap}:∀{P:List bD}{vs:List ap}{i:Nat}{m:bD->Option ap},P.Nodup->P[i]?=aa x->vs[i]?=aa v->kindOf x=aa .local->
  nE kindOf (P.zip vs) m x=aa v
 |[],_,_,_,_,h,_,_=>by simp at h
 |_::_,[],_,_,_,_,h,_=>by simp at h
 |p::P,w::vs,0,m,nd,h1,h2,hk=>by
  simp at h1 h2;subst h1;subst h2;show nE kindOf ((p,w)::P.zip vs) m p=_;unfold nE;rw[Uu λv hv=>(dA.mp nd).1 (gh hv).1,T9 hk]
  simp
 |p::P,w::vs,i+1,m,nd,h1,h2,hk=>by
  unfold nE;exact Uf (dA.mp nd).2 (by simpa using h1) (by simpa using h2) hk
theorem Uh{kindOf:bD->Option d5}{x:bD}{v:ap}:∀{P:List bD}{vs:List ap}{i:Nat}{m:bD->Option ap},P.Nodup->P[i]?=aa x->vs[i]?=aa v->kindOf x≠aa .local->
  nF kindOf (P.zip vs) m x=aa v
 |[],_,_,_,_,h,_,_=>by simp at h
 |_::_,[],_,_,_,_,h,_=>by simp at h
 |p::P,w::vs,0,m,nd,h1,h2,hk=>by
  simp at h1 h2;subst h1;subst h2;show nF kindOf ((p,w)::P.zip vs) m p=_;unfold nF;rw[Ug λv hv=>(dA.mp nd).1 (gh hv).1,T8 hk]
  simp
 |p::P,w::vs,i+1,m,nd,h1,h2,hk=>by
  unfold nF;exact Uh (dA.mp nd).2 (by simpa using h1) (by simpa using h2) hk
noncomputable def start(N:List bD)(vs:List V):St:=vs.map aa++aA (N.length-vs.length) ae
noncomputable def J2(CX:CXT)(P:bE)(w:bZ)(K:ao)(mg:bD->Option ap)(base:bX)(N:List bD)(qual:bD)(scope:ez)(f:aG)(cd:ap)(A:cQ)(outer:List Env)(s:aw)(H:Hp)(E:XK):Cx where
 prog:=P
 w:=w
 K:=K
 mg:=mg
 base:=base
 A:=A.deeper<|gH qual scope s.heap.objs.size f cd
 N:=N
 s₀:=s
 H₀:=H
 env:=gH qual scope s.heap.objs.size f cd
 outer:=outer
 stack:=gH qual scope s.heap.objs.size f cd::outer
 ex:=[]
 calm:=aj
 fn:=λ_=>aj
 pn:=[]
 xe:=λe s'=>aX (aS P w) (A.deeper<|gH qual scope s.heap.objs.size f cd) (leaving (gH qual scope s.heap.objs.size f cd) e) (λ_ s''=>CX outer H s E e s'') (λe' s''=>CX outer H s E e' s'') s'
def Jn{sc:ez}{n:Nat}{x:bD}(h:sc.names.lookup x=aa .cell):∃c,(dF n sc.names []).lookup x=aa c:=by
 have q:=iZ sc.names n []<|.inl h;exact dm.mp q
def yL{CX:CXT}{P:bE}{w:bZ}{K:ao}{mg:bD->Option ap}{base:bX}{N ps:List bD}{qual:bD}{scope:ez}{f:aG}{cd:ap}{A:cQ}{outer:List Env}{s s1:aw}{H:Hp}{E:XK}{us:List ap}{vs:List V}
  (S:FnScope N ps scope)(hd:A.handled=ae)(e0:Env0 P w K mg base A outer s H)(hl:vs.length=ps.length)(r:Vals vs us)
  (x:InCallC s s.heap.objs.size (nE (gH qual scope s.heap.objs.size f cd).kindOf (ps.zip us) λ_=>ae) (dF (s.heap.objs.size+1) scope.names []) (nF (gH qual scope s.heap.objs.size f cd).kindOf (ps.zip us) λ_=>ae) s1) :
  Inv (J2 CX P w K mg base N qual scope f cd A outer s H E) [] (start N vs) H s1:=by
 have hpl:ps.length<=N.length:=by have:=congrArg hV S.pre;rw[bw]at this;lia
 obtain⟨h1,tk,rfl,hk⟩:=x.done;have noA:∀b:aG,b∉(J2 CX P w K mg base N qual scope f cd A outer s H E).ex:=λb z=>T7 (show b∈([]:List aG)from z) (by simp)
 refine#[#[e0.mod,S.kind,rfl,rfl,az _,λy z c h1 h2=>?_,λy hy=>?_,λy c _ h=>?_,λ_=>hd,cQ.frames_deeper e0.frames,.inr #[rfl,rfl],λb z=>T7 z<|noA b,e0.bs,e0.bsz,λb _ _=>noA b,λb z=>T7 z<|noA b,e0.funs,e0.frf],
  rfl,e0.bare,Un.kept hk,#[_,x.toInCall.ns,λi y v h1 h2 h3=>?_],λy c h=>#[_,x.cell y c h],e0.hok.fresh<|az _,λy c h=>?_,λp hp=>T7 (show p∈([]:List (aG×eX))from hp) (by simp),e0.hok.kept hk,?_]
 .exact name_of_addr x.apart (eg h1)<|eg h2
 .have hy:=hy
  rcases hy with hy|hy
  .exact Jn hy
  .exact T7 rfl<|S.nofree _<|eg hy
 .exact gC<|x.above y c<|eg h
 .have hi:i<vs.length:=by
   unfold start at h2;by_cases hi:i<vs.length
   .exact hi
   .rw[bu<|by simpa using hi]at h2
    rw[cF]at h2;split at h2<;>cases h2
  have ha:vs[i]?=aa v:=by
   unfold start at h2;rw[bM (by simpa using hi),aK]at h2
   cases e:vs[i]? with|none=>rw[e]at h2;cases h2|some a=>rw[e]at h2;cases h2;rfl
  obtain⟨u,hu,rv⟩:=r.get ha;have hp:ps[i]?=aa y:=by
   rw[<-S.pre,List.getElem?_take_of_lt<|by lia];exact h1
  have ndP:ps.Nodup:=by rw[<-S.pre];exact S.nd.sublist<|lK _ _
  refine#[u,rv,?_];rcases S.par y (cW hp)with k|k
  .exact .inl #[k,Uf ndP hp hu k]
  .obtain⟨c,e⟩:=Jn k
   refine .inr #[.inl k,c,e,?_];have q:=x.cell y c e;rw[Uh ndP hp hu<|by show scope.names.lookup y≠_;rw[k];decide]at q
   exact q
 .exact e0.hok.fresh<|gC<|x.above y c<|eg h
 .unfold start
  show _=N.length;rw[aW,ay,cB];lia
def Zcd{CX:CXT}{P:bE}{w:bZ}{K:ao}{mg:bD->Option ap}{base:bX}{k:Nat}{f:aG}{name qual:bD}{params:Arguments}{body:List eR}{scope:ez}{dV kV doc pm cdv ct oc:ap}{an od:Option aG}
  {osl:Array (Option ap)}{N ps:List bD}{sp:Sp}(lk:K.lookup f=aa #[oc,od,.func<|dE name qual params body scope dV kV doc pm an cdv ct,osl])(hcd:gI K cdv qual=aj)(S:FnScope N ps scope)
  (len:∀vs H Q E,sp vs H Q E->vs.length=ps.length)
  (hbody:∀(A:cQ)(outer:List Env)(s:aw)(H:Hp)(vs:List V)(Q:VK)(E:XK),Room k (A.deeper<|gH qual scope s.heap.objs.size f cdv)->sp vs H Q E->
   ∃t,PSs (J2 CX P w K mg base N qual scope f cdv A outer s H E) body t/\t {nx:=λ_ H'=>Q .non H',rt:=Q} (start N vs) H) :
  FnOk P w K mg base CX (k+1) f (dE name qual params body scope dV kV doc pm an cdv ct) ps sp:=by
 refine#[len,λA outer s H args us vs Q E hr e0 hb r hsp=>?_]
 have hl:=len _ _ _ _ hsp;have KX:=e0.mod.kin.keeps λb o e=>(e0.bs b o e).1
 have lim:=e0.mod.nolimit.keeps λb o e=>(e0.bs b o e).1
 have hkind:∀y∈ps.zip us,scope.names.lookup y.1=aa .local\/(scope.names.lookup y.1=aa .cell/\((dF (s.heap.objs.size+1) scope.names []).lookup y.1).isSome=aj):=by
  rintro ⟨n,v⟩ hy;rcases S.par n (gh hy).1 with q|q
  .exact .inl q
  .exact .inr #[q,iZ _ _ _<|.inl q]
 refine codeAny_call_function hr.depth (KX _ _ lk) rfl S.co S.gen rfl (PySem.W.codeRec_of KX hcd)<|hb _ _ _ _ ?_;refine wpAny_newFunctionEnv_cells S.kind hkind λenv he s1 x=>?_
 subst he;refine#[lim.keeps x.toInCall.keep,codeAny_func ?_];obtain⟨t,ht,hq⟩:=hbody A outer s H vs Q E (hr.deeper _) hsp;have I:Inv (J2 CX P w K mg base N qual scope f cdv A outer s H E) [] (start N vs) H s1:=yL S hr.hd e0 hl r x;refine c9 (ht [] s1 (start N vs) H _ I hq) (λfl s' hs=>?_) λe s' hs=>hs
 have fin:∀{σ':St}{H':Hp}{v:V}{u:ap},Inv (J2 CX P w K mg base N qual scope f cdv A outer s H E) [] σ' H' s'->Zs v u->Q v H'->CE outer P w H s Q u s':=
  λ{σ' H' v u} J rv q=>#[v,H',J.os,J.bare,J.base,J.hok,rv,q]
 cases fl with
 |ret u=>
  obtain⟨v,σ',H',J,rv,q⟩:=hs;exact fin J rv q
 |next=>
  obtain⟨σ',H',J,q⟩:=hs;exact fin (v:=V.non) J rfl q
 |brk=>
  obtain⟨_,_,_,q⟩:=hs;exact False.elim q
 |cont=>
  obtain⟨_,_,_,q⟩:=hs;exact False.elim q
section
variable{X:Cx}{x:bD}{p pos:gD}{e:Expr}{es:List Expr}{t:TA}{id T:String}{r:List V->Hp->VK->Prop}
def tCB(r:List V->Hp->VK->Prop)(t:TA):TE:=λU H Q=>t U H λvs H1=>r vs H1 Q
def WW(hc:ZD X (.builtin id) r)(hg:Gl X x)(hm:X.mg x=ae)(hv:cY x=aa (.builtin id))(ha:PA X (e::es) t)(hn:x≠"__name__":=by decide)(hdb:(x == ("__debug__" : bD))=ai:=by decide)
  (he:aM (e::es) X.env=(ai,cV e X.env)::aM es X.env:=by rfl)(hpl:(eC pos<|aM es X.env).any (·.1)=ai:=by rfl):PE X (.Call (.Name x p) (e::es) [] pos) (tCB r t):=by
 intro pq s U H Q I h;refine fC<|Y7 I hg hm hv ?_ hn hdb;exact PyProof.Rows.callWith_builtin1 (thn (ha pos pq s U H _ I h)<|by rintro us s1 ⟨vs,H1,I1,r1,q1⟩;exact hc pq s1 U H1 vs us Q I1 r1 q1) he hpl
def V9(hc:ZD X (.type T) r)(hg:Gl X x)(hm:X.mg x=ae)(hv:cY x=aa (.type T))(ha:PA X (e::es) t)(hn:x≠"__name__":=by decide)(hdb:(x == ("__debug__" : bD))=ai:=by decide)
  (he:aM (e::es) X.env=(ai,cV e X.env)::aM es X.env:=by rfl)(hpl:(eC pos<|aM es X.env).any (·.1)=ai:=by rfl):PE X (.Call (.Name x p) (e::es) [] pos) (tCB r t):=by
 intro pq s U H Q I h;refine fC<|Y7 I hg hm hv ?_ hn hdb;exact cX (thn (ha pos pq s U H _ I h)<|by rintro us s1 ⟨vs,H1,I1,r1,q1⟩;exact hc pq s1 U H1 vs us Q I1 r1 q1) he hpl
end
end L2
namespace HT
open PySem PyProof.Rows
section
variable{prog:bE}{w:bZ}{A:cQ}{E:ap->aw->Prop}{s:aw}
def qm{Q:ap->aw->Prop}(ht:lF s.heap t vs.toArray)(hb:lF s.heap b ws.toArray)(hv:vs≠[])
  (h1:ws=[]->Q (.ref t) s)(h2:ws≠[]->Q (.ref s.heap.objs.size) {s with heap:=s.heap.push {cls:=.type "tuple",data:=.seq (vs++ws).toArray}})
  (hsz:vs.length+ws.length<=aY):aX (aS prog w) A (d4 .Add (.ref t)<|.ref b) Q E s:=by
 obtain⟨⟨cls,dd,data,sl⟩,ho,hc,n,hd⟩:=id ht;obtain⟨⟨cls2,dd2,data2,sl2⟩,ho2,hc2,n2,hd2⟩:=id hb;simp only at hc hd hc2 hd2;subst hc hd hc2 hd2;have e:vs.toArray++ws.toArray=(vs++ws).toArray:=by simp
 by_cases hw:ws=[]
 .exact lL #[_,ho,rfl] #[_,ho2,rfl] iI k7 fK fG (fu _ _)
   (tuple_addW1 t b vs.toArray ws.toArray n n2 dd dd2 sl sl2 (by simpa using hv)<|by simp[hw]) #[ho,ho2,h1 hw]
 .refine lL #[_,ho,rfl] #[_,ho2,rfl] iI k7 fK fG (fu _ _)
   (tuple_addW2 t b vs.toArray ws.toArray n n2 dd dd2 sl sl2 (by simpa using hv) (by simpa using hw)<|by rw[ax,ax];exact hsz) #[ho,ho2,?_]
  rw[e];exact h2 hw
noncomputable def sIx(n d:Nat):Option Int->Nat
 |none=>d
 |some v=>if v<0 then(v+(n:Int)).toNat else nI v.toNat n
theorem ZaV(n d:Nat)(hd:d<=n)(o:Option Int):sIx n d o<=n:=by
 cases o with
 |none=>exact hd
 |some v=>
  show(if v<0 then(v+(n:Int)).toNat else nI v.toNat n)<=n
  by_cases hv:v<0
  .rw[T9 hv];lia
  .rw[T8 hv];exact Nat.min_le_right _ _
theorem zn(v:Int)(n d:Nat):(if v<0 then max (v+(n:Int)) 0 else nI v (n:Int))=((sIx n d (aa v):Nat):Int):=by
 show(if v<0 then max (v+(n:Int)) 0 else nI v (n:Int))=(((if v<0 then(v+(n:Int)).toNat else nI v.toNat n):Nat):Int)
 by_cases hv:v<0
 .simp only[T9 hv];lia
 .simp only[T8 hv];lia
theorem GB(lo hi:Option Int)(n:Nat):fe lo hi 1 (n:Int)=(((sIx n 0 lo:Nat):Int),((sIx n n hi:Nat):Int)):=by
 have h1:¬((1:Int)<0):=by lia
 unfold fe;simp only[h1,if_false];refine Prod.ext ?_ ?_
 .cases lo with|none=>rfl|some v=>exact zn v n 0
 .cases hi with|none=>rfl|some v=>exact zn v n n
theorem Gw(i j:Nat):cw (i:Int) (j:Int) 1=j-i:=by
 unfold cw;have h1:(1:Int)>0:=by lia
 simp only[h1,if_true,Int.ediv_one];split<;>lia
def XD{Q:Option Int->aw->Prop}(p:gJ v o)(h:Q o s):aX (aS prog w) A (dQ.Slice.slicePartIndex v) Q E s:=by
 cases p with|none=>exact gK h|int i t=>exact slicePart_int h
def YK{sl:aG}{vl vu:ap}{lo hi:Option Int}{n:Nat}{Q:Int×Int×Nat->aw->Prop}(hs:s.heap.IsSliceOf sl vl vu .none)(pl:gJ vl lo)(pu:gJ vu hi)
  (h:Q (((sIx n 0 lo:Nat):Int),1,sIx n n hi-sIx n 0 lo) s):aX (aS prog w) A (gL (.ref sl)<|cT (n:Int)) Q E s:=by
 obtain⟨os,hos,hcs,hds⟩:=id hs;refine ab<|ab<|cr hos hds rfl<|ab<|cr hos hds rfl<|ab<|cr hos hds rfl<|au ?_;refine ab<|gK ?_;show aX _ _ (if((1:Int) == 0)=aj then _ else _) _ _ s
 rw[T8<|by decide]
 refine ab<|XD pl<|ab<|XD pu<|ab<|au ?_;show aX _ _ (match fe lo hi 1 (n:Int)with|(lo,hi)=>cT (lo,(1:Int),cw lo hi 1)) _ _ s
 rw[GB lo hi n];show aX _ _ (cT (((sIx n 0 lo:Nat):Int),(1:Int),cw ((sIx n 0 lo:Nat):Int) ((sIx n n hi:Nat):Int) 1)) _ _ s;rw[Gw];exact au h
theorem vO(xs:Array ap)(i k:Nat):((aU k).filterMap λ(m:Nat)=>xs[((i:Int)+(m:Int)*1).toNat]?).toArray=((xs.toList.drop i).take k).toArray:=by
 have e:(λ(m:Nat)=>xs[((i:Int)+(m:Int)*1).toNat]?)=λm=>xs[i+m]?:=by
  funext m
  have:((i:Int)+(m:Int)*1).toNat=i+m:=by lia
  rw[this]
 rw[e];have:=pick_run xs i k;rw[lw]at this;have e2:((λx=>xs[x]?)∘λx=>i+x)=λm=>xs[i+m]?:=rfl
 rw[e2]at this;rw[this]
theorem XQ{t sl:aG}{items:Array ap}{vl vu:ap}{lo hi:Option Int}{Q:ap->aw->Prop}(ht:lF s.heap t items)(hs:s.heap.IsSliceOf sl vl vu .none)(pl:gJ vl lo)(pu:gJ vu hi)
  (hw:¬(sIx items.size 0 lo=0/\sIx items.size items.size hi=items.size))
  (h:Q (.ref s.heap.objs.size) {s with heap:=s.heap.push {cls:=.type "tuple",data:=.seq ((items.toList.drop<|sIx items.size 0 lo).take<|sIx items.size items.size hi-sIx items.size 0 lo).toArray}})
  (hsz:items.size<=aY):aX (aS prog w) A (hZ (.ref t)<|.ref sl) Q E s:=by
 have htake:sizeOk (.seq ((items.toList.drop<|sIx items.size 0 lo).take<|sIx items.size items.size hi-sIx items.size 0 lo).toArray):=by
  show((items.toList.drop<|sIx items.size 0 lo).take<|sIx items.size items.size hi-sIx items.size 0 lo).toArray.size<=aY;rw[ax,bw,bK,aH];lia
 have hj:sIx items.size items.size hi<=items.size:=ZaV _ _ (az _) hi;obtain⟨os,hos,hcs,hds⟩:=id hs;have hTs:s.TypeIs (.ref sl) "slice":=#[os,hos,hcs];unfold hZ
 try with_reducible refine bL ?_
 first|refine ab<|au ?_|skip
 refine ab<|h8 ht.typeIs (by decide) ?_
 refine ab (cn ht.typeIs bY
  (cM bY ht.typeIs gA ?_<|gM _ _))
 show aX _ _ (eS (.ref t) >>= _) _ _ s;refine ab<|k8 ht ?_;refine ab<|eY hTs ?_;rw[T9<|by decide]
 refine ab<|YK hs pl pu ?_;have hno:¬((((sIx items.size 0 lo:Nat):Int) == 0&&(1:Int) == 1&&(sIx items.size items.size hi-sIx items.size 0 lo) == items.size)=aj):=by
  intro q;rw[aD,aD]at q;have q1:=ej q.1.1;have q2:=ej q.2;exact hw #[by lia,by lia]
 show aX _ _ (if(((sIx items.size 0 lo:Nat):Int) == 0&&(1:Int) == 1&&(sIx items.size items.size hi-sIx items.size 0 lo) == items.size)=aj then _ else _) _ _ s
 rw[T8 hno,vO]
 first
  |exact ab<|bv (au #[_,rfl,au h]) htake
  |exact ab<|bv (ab<|au<|au #[_,rfl,au h]) htake
  |exact ab<|ab<|bv (au<|au #[_,rfl,au h]) htake
  |exact ab<|ab (m:=dQ.Tuple.tupleExact _)<|bv (au #[_,rfl,au h]) htake
end
end HT
namespace L2
open PySem PySem.Spec PyProof.Rows
abbrev TO:=St->Hp->(Option Int->Hp->Prop)->Prop
def PO(X:Cx)(e:Option Expr)(t:TO):Prop:=
 ∀(pq:List (aG×eX))(s:aw)(U:St)(H:Hp)(Q:Option Int->Hp->Prop),Inv X pq U H s->t U H Q->
  aX (aS X.prog X.w) X.A (evalPart e X.env) (λu s'=>∃o H',Inv X pq U H' s'/\gJ u o/\Q o H') X.xe s
def qh:TO:=λ_ H Q=>Q ae H
def ZbM(t:TE):TO:=λU H Q=>t U H λx H1=>∃i,x=.int i/\Q (aa i) H1
section
variable{X:Cx}{e:Expr}{te:TE}{lo hi:Option Expr}{tl th:TO}{pos p2:gD}
def qA:PO X ae qh:=by
 intro pq s U H Q I h;rw[k9];exact au #[ae,H,I,.none,h]
def ZG(h:PE X e te):PO X (aa e) (ZbM te):=by
 intro pq s U H Q I hw;rw[evalPart_some];refine thn (h pq s U H _ I hw) λu s1 #[x,H1,I1,r1,q1]=>?_
 obtain⟨i,rfl,q⟩:=q1;obtain⟨t,rfl⟩:=r1;exact#[aa i,H1,I1,.int i t,q]
def SlR(X:Cx)(r:V->Option Int->Option Int->Hp->VK->Prop):Prop:=
 ∀(pq:List (aG×eX))(s:aw)(U:St)(H:Hp)(x:V)(v vl vu:ap)(lo hi:Option Int)(sl:aG)(Q:VK),Inv X pq U H s->Zs x v->s.heap.IsSliceOf sl vl vu .none->gJ vl lo->gJ vu hi->r x lo hi H Q->
  ∃T id,ni (.type T) "__getitem__" = cT (aa<|.builtin id)/\s.TypeIs v T/\aX (aS X.prog X.w) X.A (hZ v<|.ref sl) (EP X pq U Q) X.xe s
def SlR.or{r r':V->Option Int->Option Int->Hp->VK->Prop}(h:SlR X r)(h':SlR X r'):SlR X (λx lo hi H Q=>r x lo hi H Q\/r' x lo hi H Q):=by
 intro pq s U H x v vl vu lo hi sl Q I rx hs pl pu q;rcases q with q|q
 .exact h pq s U H x v vl vu lo hi sl Q I rx hs pl pu q
 .exact h' pq s U H x v vl vu lo hi sl Q I rx hs pl pu q
def tSl(r:V->Option Int->Option Int->Hp->VK->Prop)(te:TE)(tl th:TO):TE:=λU H Q=>te U H λx H1=>tl U H1 λl H2=>th U H2 λu H3=>r x l u H3 Q
def xU{r:V->Option Int->Option Int->Hp->VK->Prop}(hr:SlR X r)(he:PE X e te)(hl:PO X lo tl)(hu:PO X hi th):PE X (.Subscript e (.Slice lo hi ae p2) pos) (tSl r te tl th):=by
 intro pq s U H Q I h;refine nj<|thn (he pq s U H _ I h) λv s1 #[x,H1,I1,r1,q1]=>?_
 refine wpAny_Slice<|thn (hl pq s1 U H1 _ I1 q1) λvl s2 #[l,H2,I2,pl,q2]=>thn (hu pq s2 U H2 _ I2 q2) λvu s3 #[u,H3,I3,pu,q3]=>?_
 rw[k9];refine au ?_;have I4:Inv X pq U H3 {s3 with heap:=s3.heap.push {cls:=.type "slice",data:=.fields [vl,vu,.none].toArray}}:=I3.kept (t':=s3.toks) λb ob q=>aq _ q
 obtain⟨T,id,hT,ht,hg⟩:=hr pq {s3 with heap:=s3.heap.push {cls:=.type "slice",data:=.fields [vl,vu,.none].toArray}} U H3 x v vl vu l u s3.heap.objs.size Q I4 r1 (lx ..) pl pu q3
 exact tail_any ht hT hg (by with_unfolding_all rfl)
noncomputable def Xe(xs:List V)(lo hi:Option Int):List V:=(xs.drop<|HT.sIx xs.length 0 lo).take<|HT.sIx xs.length xs.length hi-HT.sIx xs.length 0 lo
theorem Wy(xs:List V)(lo hi:Option Int):(Xe xs lo hi).length<=xs.length:=by
 unfold Xe;rw[bw,bK];lia
def Zdh(K:ao):V->Option Int->Option Int->Hp->VK->Prop:=λx lo hi H Q=>∃a xs,x=.ref a/\SqT K H a xs/\
 ¬(HT.sIx xs.length 0 lo=0/\HT.sIx xs.length xs.length hi=xs.length)/\∀p,H p=ae->Q (.ref p) (upd H p<|.tup<|Xe xs lo hi)
def ZaE:SlR X (Zdh X.K):=by
 intro pq s U H x v vl vu lo hi sl Q I rx hs pl pu h;obtain⟨a,xs,rfl,hx,hw,q⟩:=h;cases rx;obtain⟨its,r,ht,hz⟩:=I.tuple hx;have hlen:its.toArray.size=xs.length:=by rw[ax];exact r.length.symm
 refine#["tuple",_,bY.lookup,ht.typeIs,?_];refine HT.XQ ht hs pl pu (by rw[hlen];exact hw) ?_ (by rw[hlen];exact hz)
 rw[hlen];refine#[.ref s.heap.objs.size,_,I.laid (t':=s.toks) (λb ob q=>aq _ q) (az _) ?_,rfl,q _<|I.hok.fresh<|az _]
 exact#[b0 (Wy xs lo hi) hz,_,(r.drop<|HT.sIx xs.length 0 lo).take<|HT.sIx xs.length xs.length hi-HT.sIx xs.length 0 lo,gF _ _]
def jG(K:ao):R2:=λx y H Q=>∃a b xs ys,x=.ref a/\y=.ref b/\SqT K H a xs/\SqT K H b ys/\xs≠[]/\xs.length+ys.length<=aY/\
 (ys=[]->Q (.ref a) H)/\(ys≠[]->∀p,H p=ae->Q (.ref p) (upd H p<|.tup<|xs++ys))
def Vals.nil_iff(r:Vals xs us):us=[]↔xs=[]:=by
 cases r with|nil=>simp|cons _ _=>simp
def jm:OpR X (d4 .Add) (jG X.K):=by
 intro pq s U H x y v u Q I rx ry h;obtain⟨a,b,xs,ys,rfl,rfl,ha,hb,hx,hz,q1,q2⟩:=h;cases rx;cases ry;obtain⟨its,r1,p1,_⟩:=I.tuple ha;obtain⟨its2,r2,p2,_⟩:=I.tuple hb;refine HT.qm p1 p2 (λz=>hx<|r1.nil_iff.mp z) (λz=>#[.ref a,H,I,rfl,q1<|r2.nil_iff.mp z]) (λz=>?_) (by rw[<-r1.length,<-r2.length];exact hz)
 refine#[.ref s.heap.objs.size,_,I.laid (t':=s.toks) (λb ob q=>aq _ q) (az _) ?_,rfl,q2 (λw=>z<|r2.nil_iff.mpr w) _<|I.hok.fresh<|az _]
 exact#[by rw[aW];exact hz,_,r1.append r2,gF _ _]
end
noncomputable def ixN(n:Nat)(i:Int):Option Nat:=if 0<=i then(if i<n then aa i.toNat else ae)else if -(n:Int)<=i then aa (i+n).toNat else ae
noncomputable def atI{B:Type}(xs:List B)(i:Int):Option B:=(ixN xs.length i).bind λj=>xs[j]?
def zM(h:ixN n i=aa j):seqIndex? i n=aa j/\j<n/\-(n:Int)<=i/\i<n:=by
 unfold ixN at h;by_cases h0:0<=i
 .rw[T9 h0]at h
  by_cases h1:i<n
  .rw[T9 h1]at h
   have e:=af h;exact#[by rw[mN h0 h1,e],by lia,by lia,h1]
  .rw[T8 h1]at h;cases h
 .rw[T8 h0]at h
  by_cases h1:-(n:Int)<=i
  .rw[T9 h1]at h
   have e:=af h;exact#[by rw[lN (by lia) h1,e],by lia,h1,by lia]
  .rw[T8 h1]at h;cases h
def zG{B:Type}{xs:List B}{i:Int}{v:B}(h:atI xs i=aa v):∃j,seqIndex? i xs.length=aa j/\xs[j]?=aa v/\j<xs.length/\-(xs.length:Int)<=i/\i<xs.length:=by
 unfold atI at h;cases e:ixN xs.length i with
 |none=>rw[e]at h;cases h
 |some j=>
  rw[e]at h;obtain⟨h1,h2,h3,h4⟩:=zM e;exact#[j,h1,h,h2,h3,h4]
def zt(b:Expr):Prop:=∀o i,subscripted b ai o i=operate [o,i] (hZ o i)
def IxR(X:Cx)(r:R2):Prop:=
 ∀(value slice:Expr)(pq:List (aG×eX))(s:aw)(U:St)(H:Hp)(x y:V)(v u:ap)(Q:VK),Inv X pq U H s->Zs x v->Zs y u->r x y H Q->
  subscripted slice ai v u=operate [v,u] (hZ v u)->aX (aS X.prog X.w) X.A (subscriptTail value slice v u) (EP X pq U Q) X.xe s
def MtR(X:Cx)(id:String)(r:V->List V->Hp->VK->Prop):Prop:=
 ∀(pq:List (aG×eX))(s:aw)(U:St)(H:Hp)(x:V)(xs:List V)(v:ap)(us:List ap)(Q:VK),Inv X pq U H s->Zs x v->Vals xs us->r x xs H Q->
  aX (aS X.prog X.w) X.A (call (.builtin id) (v::us)) (EP X pq U Q) X.xe s
section
variable{X:Cx}{a b:Expr}{ta tb:TE}{pos:gD}
def IxR.or(h:IxR X r)(h':IxR X r'):IxR X (λx y H Q=>r x y H Q\/r' x y H Q):=by
 intro value slice pq s U H x y v u Q I rx ry q hs;rcases q with q|q
 .exact h value slice pq s U H x y v u Q I rx ry q hs
 .exact h' value slice pq s U H x y v u Q I rx ry q hs
def wn(hr:IxR X r)(ha:PE X a ta)(hb:PE X b tb)(hs:zt b):PE X (.Subscript a b pos) (tOp r ta tb):=by
 intro pq s U H Q I h;exact nj<|GE ha hb I h λv u s2 x y H2 I2 rx ry q=>hr a b pq s2 U H2 x y v u Q I2 rx ry q<|hs _ _
def ZcV(K:ao):R2:=λx y H Q=>∃p xs i v,x=.ref p/\y=.int i/\SqL K H p xs/\atI xs i=aa v/\Q v H
def Zc8(K:ao):R2:=λx y H Q=>∃p xs i v,x=.ref p/\y=.int i/\SqT K H p xs/\atI xs i=aa v/\Q v H
theorem UL:IxR X (ZcV X.K):=by
 intro value slice pq s U H x y v u Q I rx ry h hs;obtain⟨p,xs,i,z,rfl,rfl,hq,he,q⟩:=h;cases rx;obtain⟨t,rfl⟩:=ry;obtain⟨its,r,pl,hz⟩:=I.list hq;obtain⟨j,h1,h2,h3,h4,h5⟩:=zG he;obtain⟨w,ew,rw'⟩:=r.get h2;have hl:=r.length;have hn:=Vb;have fin:EP X pq U Q w s:=#[z,H,I,rw',q];by_cases h0:0<=i
 .have hj:i.toNat=j:=by
   rw[mN h0 h5]at h1;exact af h1
  exact item_listR pl.isList h0 (by lia) (by rw[hj];simpa using ew) fin hs
 .have hj:(i+(its.toArray.size:Int)).toNat=j:=by
   rw[lN (by lia) h4]at h1
   rw[ax,<-hl];exact af h1
  exact i4 pl.isList.typeIs slot_list_getitem.lookup
   (wpAny_getItem_list_neg pl.isList (by lia) (by rw[ax]<;>lia) (by lia) (by rw[hj];simpa using ew) #[rfl,fin]) hs
theorem Zad:IxR X (Zc8 X.K):=by
 intro value slice pq s U H x y v u Q I rx ry h hs;obtain⟨p,xs,i,z,rfl,rfl,hq,he,q⟩:=h;cases rx;obtain⟨t,rfl⟩:=ry;obtain⟨its,r,pl,hz⟩:=I.tuple hq;obtain⟨j,h1,h2,h3,h4,h5⟩:=zG he;obtain⟨w,ew,rw'⟩:=r.get h2;have hl:=r.length;have hn:=Vb;have fin:EP X pq U Q w s:=#[z,H,I,rw',q];exact i4 pl.typeIs slot_tuple_getitem.lookup
  (getItem_tuple pl (by lia) (by lia) (by rw[ax,<-hl];exact h1) (by simpa using ew) #[rfl,fin]) hs
def Gz(its:List ap)(n j:Nat)(u:ap):dL (·.setIfInBounds j u) {cls:=.type "list",data:=.seq its.toArray n}={cls:=.type "list",data:=.seq (its.set j u).toArray n}:=by
 simp[dL]
theorem Inv.lst{pq:List (aG×eX)}{U:St}{H:Hp}{s:aw}{p:aG}{xs:List V}(I:Inv X pq U H s)(h:H p=aa (.lst xs)) :
  ∃(its:List ap)(n:Nat),Vals xs its/\s.heap.get? p=aa {cls:=.type "list",data:=.seq its.toArray n}/\xs.length<=aY:=by
 obtain⟨z,its,n,r,e⟩:=I.hok p _ h;exact#[its,n,r,e,z]
def Inv.lstUpd{pq:List (aG×eX)}{U:St}{H:Hp}{s:aw}{p:aG}{xs ys:List V}{its its':List ap}{n n':Nat}{f:eX->eX}(I:Inv X pq U H s)(h:H p=aa (.lst xs))
  (ho:s.heap.get? p=aa {cls:=.type "list",data:=.seq its.toArray n})(hf:f {cls:=.type "list",data:=.seq its.toArray n}={cls:=.type "list",data:=.seq its'.toArray n' })(r:Vals ys its')(hz:ys.length<=aY)(t:Nat) :
  Inv X pq U (upd H p<|.lst ys) {s with heap:=s.heap.update p f,toks:=t}:=by
 have e:(s.heap.update p f).get? p=aa {cls:=.type "list",data:=.seq its'.toArray n' }:=by
  rw[eJ f ho (by rw[hf]<;>rfl),hf]
 refine I.write (by rw[h];trivial) (.inl rfl) (λb u hb q=>(i5 _ _<|Ne.symm hb).trans q) #[_,e] ?_
 exact#[hz,its',n',r,e]
def Zb7:V->V->V->Hp->(Hp->Prop)->Prop:=λo i v H Q=>∃p xs k j,o=.ref p/\i=.int k/\H p=aa (.lst xs)/\ixN xs.length k=aa j/\Q (upd H p<|.lst<|xs.set j v)
theorem x9:PSet X Zb7:=by
 intro pq s U H o i v ov iv u Q I ro ri rv h;obtain⟨p,xs,k,j,rfl,rfl,hp,hj,q⟩:=h;cases ro;obtain⟨t,rfl⟩:=ri;obtain⟨its,n,r,ho,hz⟩:=I.lst hp;obtain⟨h1,h2,h3,h4⟩:=zM hj;have hl:=r.length;have hn:=Vb;have I':=
  I.lstUpd hp ho (Gz its n j u) (r.set rv j) (by rw[bc];exact hz) s.toks
 by_cases h0:0<=k
 .have hk:k.toNat=j:=by
   rw[mN h0 h4]at h1;exact af h1
  exact PySem.W.ki_setAt ho h0 (by lia) (by rw[ax,<-hl];exact h4) (by rw[hk];exact#[_,I',q])
 .have hk:(k+(its.toArray.size:Int)).toNat=j:=by
   rw[lN (by lia) h3]at h1
   rw[ax,<-hl];exact af h1
  exact PySem.W.ki_setBack ho (by lia) (by rw[ax,<-hl];exact h3) (by lia) (by rw[hk];exact#[_,I',q])
theorem U8(lo hi:Option Int)(n:Nat):(fH lo hi ae n).1=((HT.sIx n 0 lo:Nat):Int)/\(fH lo hi ae n).2.1=((HT.sIx n n hi:Nat):Int)/\(fH lo hi ae n).2.2=1:=by
 refine#[?_,?_,rfl]
 .cases lo with
  |none=>simp[fH,HT.sIx]
  |some i=>
   simp only[fH,HT.sIx,mr,show(1:Int)>0 by decide,if_true]
   by_cases h:i<0
   .simp only[h,if_true]<;>lia
   .simp only[h,if_false]<;>lia
 .cases hi with
  |none=>simp[fH,HT.sIx]
  |some i=>
   simp only[fH,HT.sIx,mr,show(1:Int)>0 by decide,if_true]
   by_cases h:i<0
   .simp only[h,if_true]<;>lia
   .simp only[h,if_false]<;>lia
def VL(its:List ap)(lo hi:Option Int):slicePick its.toArray lo hi ae=((its.drop<|HT.sIx its.length 0 lo).take<|HT.sIx its.length its.length hi-HT.sIx its.length 0 lo).toArray:=by
 obtain⟨h1,h2,h3⟩:=U8 lo hi its.toArray.size;unfold slicePick;rw[h1,h2,h3];simp only[sliceRange_one,pick_run,ax]<;>rfl
def Zc6(K:ao):V->Option Int->Option Int->Hp->VK->Prop:=λx lo hi H Q=>∃a xs,x=.ref a/\SqL K H a xs/\∀p,H p=ae->Q (.ref p) (upd H p<|.lst<|Xe xs lo hi)
theorem ur:SlR X (Zc6 X.K):=by
 intro pq s U H x v vl vu lo hi sl Q I rx hs pl pu h;obtain⟨a,xs,rfl,hx,q⟩:=h;cases rx;obtain⟨its,r,ht,hz⟩:=I.list hx;have hlen:=r.length;refine#["list",_,slot_list_getitem.lookup,ht.isList.typeIs,?_];refine wpAny_getItem_list_slice ht.isList hs pl pu .none (by simp) ?_ (by rw[ax]<;>lia)
 rw[VL,<-hlen];refine#[.ref s.heap.objs.size,_,I.laid (t':=s.toks) (λb ob q=>aq _ q) (az _) ?_,rfl,q _<|I.hok.fresh<|az _]
 exact#[b0 (Wy xs lo hi) hz,_,0,(r.drop<|HT.sIx xs.length 0 lo).take<|HT.sIx xs.length xs.length hi-HT.sIx xs.length 0 lo,aI _ rfl]
noncomputable def zY:V->Bool
 |.non=>aj
 |.bl _=>aj
 |.int _=>aj
 |.str _=>aj
 |_=>ai
noncomputable def eqV:V->V->Bool
 |.non,.non=>aj
 |.bl a,.bl b=>a == b
 |.bl a,.int b=>(if a then 1 else 0) == b
 |.int a,.bl b=>a == (if b then 1 else 0)
 |.int a,.int b=>a == b
 |.str a,.str b=>a == b
 |_,_=>ai
def Za7{A:cQ}{s:aw}{y x:V}{u v:ap}(ry:Zs y u)(rx:Zs x v)(fy:zY y=aj)(fx:zY x=aj):fT A s u v (eqV y x):=by
 cases y with
 |non=>
  cases ry;cases x with|non=>cases rx;exact gj _|bl b=>cases rx;exact fT.none_bool b|int b=>obtain⟨t,rfl⟩:=rx;exact fT.none_int b t|str b=>obtain⟨t,rfl⟩:=rx;exact fT.none_str b t|_=>exact T7 (fx) aJ
 |bl a=>
  cases ry;cases x with|non=>cases rx;exact fT.bool_none a|bl b=>cases rx;exact fT.bool_bool a b|int b=>obtain⟨t,rfl⟩:=rx;exact fT.bool_int a b t|str b=>obtain⟨t,rfl⟩:=rx;exact fT.bool_str a b t|_=>exact T7 (fx) aJ
 |int a=>
  obtain⟨t',rfl⟩:=ry;cases x with|non=>cases rx;exact fT.int_none a t'|bl b=>cases rx;exact fT.int_bool a t' b|int b=>obtain⟨t,rfl⟩:=rx;exact ly a t' b t|str b=>obtain⟨t,rfl⟩:=rx;exact lm a t' b t|_=>exact T7 (fx) aJ
 |str a=>
  obtain⟨t',rfl⟩:=ry;cases x with|non=>cases rx;exact fT.str_none a t'|bl b=>cases rx;exact fT.str_bool a t' b|int b=>obtain⟨t,rfl⟩:=rx;exact ln a t' b t|str b=>obtain⟨t,rfl⟩:=rx;exact fT.str_str a t' b t|_=>exact T7 (fx) aJ
 |_=>exact T7 (fy) aJ
theorem U4:ZD X (.builtin "len") (λxs H Q=>∃p ys,xs=[.ref p]/\(SqL X.K H p ys\/SqT X.K H p ys)/\Q (.int ys.length) H):=by
 intro pq s U H xs us Q I r h;obtain⟨p,ys,rfl,hq,q⟩:=h;obtain⟨u,rfl,rx⟩:=Xy r;cases rx;have hn:=Vb;rcases hq with hq|hq
 .obtain⟨its,r',pl,hz⟩:=I.list hq
  have hlen:=r'.length;exact Calls.call_len_list pl.isList (by simp only[ax]<;>lia) #[.int ys.length,H,I.tok _,#[s.toks+1,by rw[ax,hlen]],q]
 .obtain⟨its,r',pl,hz⟩:=I.tuple hq
  have hlen:=r'.length;exact len_tuple pl (by simp only[ax]<;>lia) #[.int ys.length,H,I.tok _,#[s.toks+1,by rw[ax,hlen]],q]
theorem Qj:ZD X (.type "list") (λxs H Q=>∃p ys,xs=[.ref p]/\(SqL X.K H p ys\/SqT X.K H p ys)/\∀l,H l=ae->Q (.ref l) (upd H l<|.lst ys)):=by
 intro pq s U H xs us Q I r h;obtain⟨p,ys,rfl,hq,q⟩:=h;obtain⟨u,rfl,rx⟩:=Xy r;cases rx;have fin:∀(its:List ap),Vals ys its->ys.length<=aY->∀(h':bX)(c':Nat),(∀b o',s.heap.get? b=aa o'->h'.get? b=aa o')->
   h'.get? s.heap.objs.size=aa {cls:=.type "list",dict:=ae,data:=.seq its.toArray c',slots:=#[]}->EP X pq U Q (.ref s.heap.objs.size) {s with heap:=h' }:=λits r' hz h' c' kp e=>
  #[.ref s.heap.objs.size,_,I.laid (t':=s.toks) kp (az _) (show ZZ X.prog X.w _ h' _ (.lst ys)from#[hz,its,c',r',e]),rfl,q _<|I.hok.fresh<|az _]
 rcases hq with hq|hq
 .obtain⟨its,r',pl,hz⟩:=I.list hq
  have hlen:=r'.length;obtain⟨o,ho,hc,n,hd⟩:=pl.isList;exact call_list_seq p (.inl rfl) ho hc hd (λh' c' kp e=>fin its r' hz h' c' kp e) (by simp only[ax]<;>lia)
 .obtain⟨its,r',pl,hz⟩:=I.tuple hq
  have hlen:=r'.length;obtain⟨o,ho,hc,n,hd⟩:=pl;exact call_list_seq p (.inr rfl) ho hc hd (λh' c' kp e=>fin its r' hz h' c' kp e) (by simp only[ax]<;>lia)
theorem VP:ZD X (.type "tuple") (λxs H Q=>∃p ys,xs=[.ref p]/\((SqL X.K H p ys/\∀l,H l=ae->Q (.ref l) (upd H l<|.tup ys))\/(SqT X.K H p ys/\Q (.ref p) H))):=by
 intro pq s U H xs us Q I r h;obtain⟨p,ys,rfl,h⟩:=h;obtain⟨u,rfl,rx⟩:=Xy r;cases rx;rcases h with⟨hq,q⟩|⟨hq,q⟩
 .obtain⟨its,r',pl,hz⟩:=I.list hq
  have hlen:=r'.length;refine call_tuple_list pl.isList (λh' kp=>?_) (by simp only[ax]<;>lia)
  have I1:=I.kept (t':=s.toks) kp
  have I2:=
   I1.laid (t':=s.toks) (λb o e=>aq _ e) (az _) (show ZZ X.prog X.w _ _ _ (.tup ys)from#[hz,its,r',gF _ _])
  exact#[.ref h'.objs.size,_,I2,rfl,q _<|I1.hok.fresh<|az _]
 .obtain⟨its,r',pl,hz⟩:=I.tuple hq
  exact call_tuple_same pl #[.ref p,H,I,rfl,q]
def tyV(K:ao)(T:String)(x:V)(H:Hp):Prop:=match x with
 |.str _=>T = "str"
 |.int _=>T = "int"
 |.ref p=>(T = "list"/\∃xs,SqL K H p xs)\/(T = "tuple"/\∃o,K.lookup p=aa o/\o.cls=.type "tuple"/\o.dict=ae)\/
   (T = "dict"/\((∃kvs,H p=aa (.dK kvs))\/∃kvs,H p=aa (.dT kvs)))\/(T = "set"/\∃S n,H p=aa (.set S n))
 |_=>False
def ZaO(I:Inv X pq U H s)(r:Zs x v)(ty:tyV X.K T x H) :
  s.TypeIs v T/\∀a,v=.ref a->∃ob,s.heap.get? a=aa ob/\ob.dict=ae:=by
 cases x with
 |str z=>
  obtain⟨t,rfl⟩:=r;cases(ty)
  exact#[typeIs_str s z t,λ_ e=>nomatch e]
 |int i=>
  obtain⟨t,rfl⟩:=r;cases(ty)
  exact#[i6 s i t,λ_ e=>nomatch e]
 |ref p=>
  cases r;rcases ty with⟨rfl,xs,hq⟩|⟨rfl,o,hk,hc,hd⟩|⟨rfl,hk⟩|⟨rfl,S,n,hk⟩
  .obtain⟨its,_,pl,_⟩:=I.list hq
   refine#[pl.isList.typeIs,λa e=>?_]
   cases e;obtain⟨o,n,e,c,hd,_⟩:=pl;exact#[o,e,hd]
  .refine#[#[o,I.kIn p o hk,hc],λa e=>?_]
   cases e;exact#[o,I.kIn _ o hk,hd]
  .have z:∃o,s.heap.get? p=aa o/\o.ExactDict:=by
    rcases hk with⟨kvs,hk⟩|⟨kvs,hk⟩
    .obtain⟨_,_,_,_,o,_,_,e,ex,_⟩:=I.hok p _ hk
     exact#[o,e,ex]
    .obtain⟨_,_,_,_,o,_,_,e,ex,_⟩:=I.hok p _ hk
     exact#[o,e,ex]
   obtain⟨o,e,ex⟩:=z;refine#[#[o,e,ex.1],λa e2=>?_]
   cases e2;exact#[o,e,ex.2.1]
  .obtain⟨o,_,_,_,e,ex,_⟩:=I.hok p _ hk
   refine#[#[o,e,ex.1],λa e2=>?_]
   cases e2;exact#[o,e,ex.2.1]
 |_=>exact False.elim ty
def tBM(K:ao)(T:String)(r:V->List V->Hp->VK->Prop)(to:TE)(t:TA):TE:=λU H Q=>to U H λx H1=>tyV K T x H1/\t U H1 λxs H2=>r x xs H2 Q
variable{o e:Expr}{es:List Expr}{to:TE}{t:TA}{name:bD}{apos cpos:gD}{T id:String}{r:V->List V->Hp->VK->Prop}
def ZbU(pa:PlainAttrs T)(slot:Slot T name id)(hty:typeOf (.builtin id)=cT (.type "method_descriptor"))(hm:MtR X id r)(ho:PE X o to)(ha:PA X (e::es) t)
  (hbase:attributeBase o name X.env (cV o X.env)=cV o X.env:=by rfl)
  (hfew:((eC cpos<|aM (e::es) X.env).all (λx=>!x.1)&&(backToKw cpos<|keywordEach [] X.env).all (λx=>x.1.isSome)
   && al ((e::es).length+([]:List nJ).length+(if([]:List nJ).isEmpty then 0 else 1)<30))=aj:=by rfl)
  (hline:(apos.endLine == cpos.line)=aj:=by rfl)(hs:aM (e::es) X.env=(ai,cV e X.env)::aM es X.env:=by rfl)(hplain:(eC cpos<|aM es X.env).any (·.1)=ai:=by rfl) :
  PE X (.Call (.Attribute o name apos) (e::es) [] cpos) (tBM X.K T r to t):=by
 intro pq s U H Q I h;refine wpAny_Call_method_late hbase hfew hline rfl<|thn (ho pq s U H _ I h) λv s1 #[x,H1,I1,r1,ty,q1]=>?_
 obtain⟨h1,h2⟩:=ZaO I1 r1 ty;refine#[T,id,pa,slot,hty,h1,h2,?_];have hA:=ha cpos pq s1 U H1 _ I1 q1;rw[hs]at hA ⊢;refine Calls.callWith_builtin (by show(ai||(eC cpos<|aM es X.env).any (·.1))=ai;rw[hplain]<;>rfl)<|Calls.evalArgs_plain ?_
 exact thn hA<|by rintro us s2 ⟨vs,H2,I2,r2,q2⟩;exact hm pq s2 U H2 x vs v us Q I2 r1 r2 q2
end
def MtM(X:Cx)(id:String)(r:V->List V->Hp->VK->Prop):Prop:=
 ∀(pq:List (aG×eX))(s:aw)(U:St)(H:Hp)(x:V)(xs:List V)(v:ap)(us:List ap)(Q:VK),Inv X pq U H s->Zs x v->Vals xs us->r x xs H Q->
  aX (aS X.prog X.w) X.A (call (.builtin id) (v::us)) (EP X pq U Q) X.xe s
def Vals.one:∀{x:V}{us:List ap},Vals [x] us->∃u,us=[u]/\Zs x u
 |_,_,.cons r .nil=>#[_,rfl,r]
theorem Vals.reverse(h:Vals xs us):Vals xs.reverse us.reverse:=by
 induction h with|nil=>exact .nil|cons r t ih=>rw[d6,d6];exact Vals.append ih<|.cons r .nil
theorem Vals.rep(h:Vals xs us):∀k:Nat,Vals (aA k xs).flatten (aA k us).flatten
 |0=>.nil
 |k+1=>by
  rw[bI,bI,cD,cD];exact Vals.append h<|Vals.rep h k
theorem We(its:List ap):∀(k:Nat)(acc:List ap),
  List.foldl (λx1 x2=>x1++x2) acc.toArray (aA k its.toArray)=(acc++(aA k its).flatten).toArray
 |0,acc=>by simp
 |k+1,acc=>by
  have e:acc.toArray++its.toArray=(acc++its).toArray:=by simp
  have e2:(acc++its)++(aA k its).flatten=acc++(aA (k+1) its).flatten:=by
   rw[bI,cD,bB]
  rw[<-e2,<-We its k (acc++its),<-e,bI,dZ]
section
variable{X:Cx}{pq:List (aG×eX)}{U:St}{H:Hp}{s:aw}{l b:aG}{xs ys zs:List V}
def Inv.lset{its its':List ap}{n:Nat}{f:Array ap->Array ap}{t':Nat}(I:Inv X pq U H s)(hH:H l=aa (.lst xs))
  (e:s.heap.get? l=aa {cls:=.type "list",data:=.seq its.toArray n})(hf:f its.toArray=its'.toArray)(hv:Vals ys its')(hz:ys.length<=aY) :
  Inv X pq U (upd H l<|.lst ys) {s with heap:=s.heap.update l<|dL f,toks:=t' }:=by
 have q:=PySem.IsL.update e f;rw[hf]at q;refine I.write (by rw[hH];exact trivial) (.inl rfl) (λb' u hb hu=>(i5 s.heap (dL f)<|Ne.symm hb).trans hu) #[_,q] ?_
 exact#[hz,its',_,hv,q]
def Inv.lnew(I:Inv X pq U H s)(hv:Vals ys its)(hz:ys.length<=aY) :
  Inv X pq U (upd H s.heap.objs.size<|.lst ys) {s with heap:=s.heap.push {cls:=.type "list",data:=.seq its.toArray},toks:=t' }:=
 I.laid (λ_ _ q=>aq _ q) (az _) #[hz,its,0,hv,aI _ rfl]
theorem Inv.fresh(I:Inv X pq U H s):H s.heap.objs.size=ae:=I.hok.fresh<|az _
def Inv.lstM(I:Inv X pq U H s)(hH:H l=aa (.lst xs)):xs.length<=aY/\∃(its:List ap)(n:Nat),Vals xs its/\xs.length=its.length/\s.heap.get? l=aa {cls:=.type "list",data:=.seq its.toArray n}:=by
 obtain⟨z,its,n,r,e⟩:=I.hok l _ hH;exact#[z,its,n,r,r.length,e]
theorem Zb2(h:n<=aY):ir n=ai:=by
 exact T4 (by lia)
end
section
variable{X:Cx}
def qX:V->List V->Hp->VK->Prop:=λx vs H Q=>∃l xs y,x=.ref l/\vs=[y]/\H l=aa (.lst xs)/\xs.length<aY/\Q .non (upd H l<|.lst<|xs++[y])
theorem Ui:MtM X "list.append" qX:=by
 intro pq s U H x vs v us Q I rx rv h;obtain⟨l,xs,y,rfl,rfl,hH,hz,q⟩:=h;cases rx;obtain⟨u,rfl,ru⟩:=rv.one;obtain⟨z,its,n,r,hl,e⟩:=I.lstM hH;refine fU F.slot_list_append #[_,e,rfl] F.entry_list_append (F.args_list_append_2 _ _) (PySem.list_append l its.toArray n u<|by rw[ax];lia) #[e,?_]
 refine#[.non,_,I.lset (its':=its++[u]) hH e (by simp) (r.append<|.cons ru .nil) ?_,rfl,q]
 rw[aW,ku];lia
def ZcP:V->List V->Hp->VK->Prop:=λx vs H Q=>∃l b xs zs,x=.ref l/\vs=[.ref b]/\H l=aa (.lst xs)/\H b=aa (.lst zs)/\xs.length+zs.length<=aY/\Q .non (upd H l<|.lst<|xs++zs)
def Zcm:R2:=λx y H Q=>∃l b xs zs,x=.ref l/\y=.ref b/\H l=aa (.lst xs)/\H b=aa (.lst zs)/\xs.length+zs.length<=aY/\∀p,H p=ae->Q (.ref p) (upd H p<|.lst<|xs++zs)
theorem xG:OpR X (d4 .Add) Zcm:=by
 intro pq s U H x y v u Q I rx ry h;obtain⟨l,b,xs,zs,rfl,rfl,hH,hB,hz,q⟩:=h;cases rx;cases ry;obtain⟨z,its,n,r,hl,e⟩:=I.lstM hH;obtain⟨z2,its2,n2,r2,hl2,e2⟩:=I.lstM hB;refine PySem.P.add_list e e2 ?_ (by rw[ax,ax];lia)
 have ea:its.toArray++its2.toArray=(its++its2).toArray:=by simp
 rw[ea];exact#[.ref _,_,I.lnew (t':=s.toks) (r.append r2) (by rw[aW];lia),rfl,q _ I.fresh]
def UR{B:Type}(xs:List B)(k:Nat):(aA k xs).flatten.length=k*xs.length:=by
 induction k with|zero=>simp|succ k ih=>rw[bI,cD,aW,ih,Nat.succ_mul,lO]
end
end L2
namespace Att
open PySem PySem.W PySem.Calls PyProof.Rows
def WI :∀(ns:List Int)(vs:List ap),WellAll P h vs (ns.map WData.int)->m5 vs ns:=by
 intro ns
 induction ns with
 |nil=>
  intro vs w;rw[List.map_nil]at w;cases w;exact .nil
 |cons n ns ih=>
  intro vs w;rw[bf]at w;cases w with
  |cons a b=>
   cases a;exact .cons _ _<|ih _ b
def yY{l:OpenLaw}{n:Nat}(hn:l.most=aa n){P:Params}{h:bX}{args:List WData}{vals:List ap}
  (hpre:l.row.toRowW.claim.pre args=aj)(hwl:WellAll P h vals args) :
  ∃a vs ns,vals=[ck a]/\args=[WData.list<|ns.map WData.int]/\h.get? a=aa {cls:=.type "list",data:=.seq vs.toArray}/\m5 vs ns/\ns.length<=n:=by
 have hsh:=(pre_splitW hpre).1;have hc:l.pre.holds [] {args:=args}=aj:=(pre_splitW hpre).2;obtain⟨d,r,rfl,h1,h2⟩:=hasAllW_cons hsh;obtain rfl:=hasAllW_nil h2;obtain⟨xs,rfl,h3⟩:=hasW_list h1;obtain⟨ns,rfl⟩:=items_int h3;have hlen:ns.length<=n:=by
  have h4:(WTm.not<|.lt (.lit<|.int (n:Int))<|.len<|.arg 0).holds [] {args:=[.list<|ns.map .int]}=aj:=by
   have h4:=(holds_andW hc).1;rw[hn]at h4;exact h4
  have h5:=condW_of h4<|w_not<|w_lt w_lit<|w_len_list<|w_arg rfl;rw[ay]at h5;refine eZ λq=>?_
  have q':(n:Int)<((ns.length:Nat):Int):=by lia
  first
   |(rw[T5 q']at h5;exact T7 h5<|by decide)
   |(simp at h5;lia)
 cases hwl with
 |cons w1 w2=>
  cases w2;cases w1 with|list ho hall=>exact#[_,_,ns,rfl,rfl,ho,WI ns _ hall,hlen]
def yV(l:OpenLaw)(args:List WData):l.row.toRowW.claim.post args (.bool aj) args=aj:=
 postW_of
  (by first|rfl|decide|simp[WShape.has,WShape.arms,WShape.armsAll])
  (w_eq_bool (w_res rfl) w_lit) rfl
def QR{l:OpenLaw}{n:Nat}{q:bE}{loose:List bD}{XP:(bD->Option ap)->bX->Prop}{YP:bZ->bX->Prop}{d:DefRec}
  (hn:l.most=aa n)(hdf:d.params.defaults=[])
  (call:∀(w:bZ)(s₀ s₁:aw)(mg mb:bD->Option ap)(fa:aG)(o:eX)(pm cd doc:ap)(a:aG)(vs:List ap)(ns:List Int),
   Ground q loose [] XP w s₀ mg mb s₁.heap->YP w s₁.heap->
   s₁.heap.get? fa=aa o->o.data=.func (docDef d.name d.params d.body d.scope pm cd doc)->s₁.heap.CodeRec cd d.name->mg d.name=aa (.ref fa)->
   s₁.heap.get? a=aa {cls:=.type "list",data:=.seq vs.toArray}->m5 vs ns->ns.length<=n->s₁.gens = #[]->
   iX (aS l.prog w) kU (.call (.ref fa) #[[.ref a],[]]) (λr s'=>r=.ok (.ret<|.bool aj)/\OldK s₁.heap s'.heap/\s'.os=s₁.os/\hJ s'.gens) s₁) :
  WalkO q loose XP YP l.row.toRowW d [] (λf vs=>nk f vs):=by
 intro w s₀ s₁ mg mb G Y fa o pm cd doc dV kV ho hd hcd hD hmg hg args vals as hpre hlay hrd hwl hlo;obtain rfl:dV=.none:=Dflts.none hD hdf;obtain rfl:kV=.none:=Dflts.noKw hD;obtain⟨a,vs,ns,rfl,rfl,hobj,hints,hlen⟩:=yY hn hpre hwl;refine enter_call<|iY (call w s₀ s₁ mg mb fa o pm cd doc a vs ns G Y ho (fd_plain hd) hcd hmg hobj hints hlen hg) λr s' hq=>?_
 obtain⟨rfl,h2,h3,h4⟩:=hq;exact#[.inl #[.bool aj,.bool aj,[],rfl,λ_=>rfl,.bool aj,yV l _,λ_=>#[h9,λ_ hm=>(nomatch hm)]],h2,h3,h4]
end Att
namespace L2
open PySem PySem.Spec PyProof.Rows
theorem V4:∀{vs:List ap}{ns:List Int},m5 vs ns->Vals (ns.map V.int) vs
 |_,_,.nil=>.nil
 |_,_,.cons n t h=>.cons #[t,rfl]<|V4 h
def Only(H:Hp):Prop:=∀b,H b=ae\/∃o xs,H b=aa (.frz o<|.lst xs)
def ua{P:bE}{w:bZ}{K:ao}{mg mb:bD->Option ap}{CX:CXT}{k:Nat}{fa a:aG}{fd:cP}{x:bD}{sp:Sp}{s₁:aw}{vs:List ap}{ns:List Int}
  (KX:K.In s₁.heap)(hns:s₁.heap.Ns cA mg)(hb:s₁.heap.Ns lp mb)(hbb:∀x:bD,x≠"__name__"->mb x=cY x)(hlim:s₁.heap.NoLimit)(hg:s₁.gens = #[])
  (ha:s₁.heap.get? a=aa {cls:=.type "list",data:=.seq vs.toArray})(hi:m5 vs ns)(hl:ns.length<=aY)(hr:Room k kU)
  (F:∀base:bX,K.In base->base.Ns cA mg->FnOk P w K mg base CX k fa fd [x] sp)(hbind:∀(s:aw)(u:ap),lJ s fd #[[u],[]] [(x,u)])
  (hsp:∀H:Hp,Only H->SqL K H a (ns.map V.int)->sp [.ref a] H (λv _=>v=.bl aj) λ_ _ _=>False)
  (hCX:∀H e s',CX [] H s₁ (λ_ _ _=>False) e s'->False) :
  iX (aS P w) kU (.call (.ref fa) #[[.ref a],[]]) (λr s'=>r=.ok (.ret<|.bool aj)/\OldK s₁.heap s'.heap/\s'.os=s₁.os/\hJ s'.gens) s₁:=by
 have rv:=V4 hi;have lenV:=hi.length;have core:∀H:Hp,Only H->SqL K H a (ns.map V.int)->HOk P w H s₁.heap->(∀b,H b≠ae->b=a)->(H a≠ae->K.lookup a=ae)->
   iX (aS P w) kU (.call (.ref fa) #[[.ref a],[]]) (λr s'=>r=.ok (.ret<|.bool aj)/\OldK s₁.heap s'.heap/\s'.os=s₁.os/\hJ s'.gens) s₁:=by
  intro H hO hS hok hA hK;have base_of:∀{b:aG}{o:eX},s₁.heap.get? b=aa o->H b=ae->(Qe s₁.heap H).get? b=aa o:=λe n=>vQ e n
  have noA:∀{b:aG}{o:eX}{es:Array fb}{ep:Nat},s₁.heap.get? b=aa o->o.data=.dict es ep->H b=ae:=λ{b o es ep} e d=>by
   cases q:H b with
   |none=>rfl
   |some u=>
    have e':b=a:=hA b (by rw[q];simp)
    subst e';rw[ha]at e;cases e;have d':Data.seq vs.toArray _=Data.dict es ep:=d;cases d'
  have nsK:∀{b:aG}{m:bD->Option ap},s₁.heap.Ns b m->(Qe s₁.heap H).Ns b m:=λ{b m} #[o,es,ep,e,d,r]=>#[o,es,ep,base_of e<|noA e d,d,r]
  have hKb:K.In (Qe s₁.heap H):=λb o e=>base_of (KX b o e) (by
   cases q:H b with
   |none=>rfl
   |some u=>
    have e':b=a:=hA b (by rw[q];simp)
    subst e';rw[hK<|by rw[q];simp]at e;cases e)
  have hM:Mod K mg (Qe s₁.heap H):=#[hKb,nsK hns,#[mb,nsK hb,hbb],let #[mc,h1,h2]:=hlim;#[mc,nsK h1,h2]];have e0:Env0 P w K mg (Qe s₁.heap H) kU [] s₁ H:=#[rfl,hM,λb o e=>qR e,lP<|yt _ _,trivial,λb hb=>T7 (show b∈([]:List aG)from hb) (by simp),hok,.of_eq hg]
  refine iY ((F _ hKb<|nsK hns).run kU [] s₁ H #[[.ref a],[]] [.ref a] [.ref a] _ _ hr e0 (hbind s₁<|.ref a) (.cons rfl .nil)<|hsp H hO hS) λr s' h=>?_
  cases r with
  |error e=>exact(hCX H e s' h).elim
  |ok fl=>
   cases fl with
   |next=>exact False.elim h
   |brk=>exact False.elim h
   |cont=>exact False.elim h
   |ret u=>
    obtain⟨v,H',os,bare,un,hok',r',q⟩:=h;have q':v=.bl aj:=q;subst q';obtain rfl:u=bO aj:=r';refine#[rfl,OldK.of_keep λb o e=>?_,os,bare]
    cases q:H b with
    |none=>exact un.keep b o e q (by intro z;exact T7 (show b∈([]:List aG)from z)<|by simp) (by simp)
    |some u=>
     rcases hO b with z|⟨ob,xs,z⟩
     .rw[q]at z;cases z
     .have z2:=un.frzs b ob _ z
      obtain⟨e1,_⟩:=hok b _ z;obtain⟨e2,_⟩:=hok' b _ z2;rw[e]at e1;cases e1;exact e2
 cases hk:K.lookup a with
 |some o=>
  have e:=KX a o hk;rw[ha]at e;cases e;refine core (λ_=>ae) (λ_=>.inl rfl) (.inr #[_,vs.toArray,_,hk,rfl,rfl,rfl,by rw[ax,lenV];exact hl,by simpa using rv]) (λb u z=>by have z':(ae:Option HO)=aa u:=z;cases z') (λb z=>T7 rfl z) λz=>T7 rfl z
 |none=>
  refine core (λb=>if b=a then aa (.frz {cls:=.type "list",data:=.seq vs.toArray}<|.lst<|ns.map V.int)else ae) (λb=>?_) (.inl<|.inr #[{cls:=.type "list",data:=.seq vs.toArray},T9 rfl]) (λb u z=>?_) (λb z=>?_) λ_=>hk
  .by_cases hb:b=a
   .exact .inr #[_,_,T9 hb]
   .exact .inl<|T8 hb
  .by_cases hb:b=a
   .have z':=(T9 hb).symm.trans z
    cases z';subst hb;exact#[ha,by rw[ay];exact hl,vs,_,rv,ha]
   .have z':=(T8 hb).symm.trans z
    cases z'
  .by_cases hb:b=a
   .exact hb
   .exact T7 (T8 hb) z
def qN{l:kl}{n k:Nat}{q:bE}{loose:List bD}{XP:(bD->Option ap)->bX->Prop}{YP:bZ->bX->Prop}{d:DefRec}{K:Params->ao}{CX:bZ->CXT}{sp:bZ->Sp}{x:bD}
  (hn:l.most=aa n)(hn2:n<=aY)(hdf:d.params.defaults=[])(hr:Room k kU)
  (hY:∀(w:bZ)(h:bX),YP w h->(K w.params).In h)
  (F:∀(w:bZ)(mg:bD->Option ap)(fa:aG)(h:bX),(K w.params).In h->h.Ns cA mg->mg d.name=aa (.ref fa)->
   ∃fd:cP,(∀(s:aw)(u:ap),lJ s fd #[[u],[]] [(x,u)])/\
    ∀base:bX,(K w.params).In base->base.Ns cA mg->FnOk l.prog w (K w.params) mg base (CX w) k fa fd [x] (sp w))
  (hsp:∀(w:bZ)(H:Hp)(a:aG)(ns:List Int),ns.length<=n->Only H->SqL (K w.params) H a (ns.map V.int)->sp w [.ref a] H (λv _=>v=.bl aj) λ_ _ _=>False)
  (hCX:∀(w:bZ)(H:Hp)(s:aw)(e:ap)(s':aw),CX w [] H s (λ_ _ _=>False) e s'->False) :
  nC q loose XP YP l.row.toRowW d [] (λf vs=>nk f vs):=by
 refine Att.QR hn hdf λw s₀ s₁ mg mb fa o pm cd doc a vs ns G Y ho hd hcd hmg hobj hints hlen hg=>?_
 have KX:=hY w _ Y;obtain⟨fd,hb,hF⟩:=F w mg fa _ KX G.T.g hmg;exact ua KX G.T.g G.T.b G.T.builtins G.T.nolimit hg hobj hints (b0 hlen hn2) hr hF hb (λH hO hS=>hsp w H a ns hlen hO hS) λH e s'=>hCX w H s₁ e s'
noncomputable def YD(s:eR):Arguments:=match s with
 |.FunctionDef _ a _ _ _ _ _ _ _ _=>a
 |_=>{posonlyargs:=[],args:=[],vararg:=ae,kwonlyargs:=[],kw_defaults:=[],kwarg:=ae,defaults:=[]}
noncomputable def Z2(s:eR):List eR:=match s with
 |.FunctionDef _ _ b _ _ _ _ _ _ _=>b
 |_=>[]
noncomputable def Zw(s:eR):ez:=match s with
 |.FunctionDef _ _ _ _ _ _ sc _ _ _=>sc
 |_=>{kind:=.function,names:=[],isGenerator:=ai,isCoroutine:=ai}
noncomputable abbrev CX0:CXT:=λ_ _ _ _ _ _=>False
noncomputable abbrev E0:XK:=λ_ _ _=>False
def jy{X:Cx}:GQ CX0 X E0:=λ_ _ _ _ _ _ _ h=>h.elim
structure Fun(K:ao)(x qual:bD)(st:eR)(f:aG)(fd:cP):Prop where
 ex:∃(oc:ap)(od:Option aG)(kV doc pm:ap)(an:Option aG)(cdv ct:ap)(osl:Array (Option ap)),
  fd=dE x qual (YD st) (Z2 st) (Zw st) .none kV doc pm an cdv ct/\K.lookup f=aa #[oc,od,.func fd,osl]/\gI K cdv qual=aj
 kp:fJ K (.ref f)=aj
section
variable{P:bE}{w:bZ}{K:ao}{mg:bD->Option ap}{base:bX}
def Fun.ok{x qual:bD}{st:eR}{f:aG}{fd:cP}{N ps:List bD}{k:Nat}{sp:Sp}(F:Fun K x qual st f fd)(S:FnScope N ps (Zw st))(len:∀vs H Q E,sp vs H Q E->vs.length=ps.length)
  (hbody:∀(cdv:ap)(A:cQ)(outer:List Env)(s:aw)(H:Hp)(vs:List V)(Q:VK)(E:XK),Room k (A.deeper<|gH qual (Zw st) s.heap.objs.size f cdv)->sp vs H Q E->
   ∃t,PSs (J2 CX0 P w K mg base N qual (Zw st) f cdv A outer s H E).nox (Z2 st) t/\t {nx:=λ_ H'=>Q .non H',rt:=Q} (start N vs) H):FnOk P w K mg base CX0 (k+1) f fd ps sp:=by
 obtain⟨oc,od,kV,doc,pm,an,cdv,ct,osl,rfl,lk,hcd⟩:=F.ex;refine Zcd lk hcd S len λA outer s H vs Q E hr hsp=>?_
 obtain⟨t,h,q⟩:=hbody cdv A outer s H vs Q E hr hsp;exact#[t,h.nox,q]
def Fun.binds{x qual:bD}{st:eR}{f:aG}{fd:cP}{ps:List bD}(F:Fun K x qual st f fd)
  (h:∀(kV doc pm:ap)(an:Option aG)(cdv ct:ap)(us:List ap),us.length=ps.length->nh (dE x qual (YD st) (Z2 st) (Zw st) .none kV doc pm an cdv ct) #[us,[]]=cT (ps.zip us)):VA K fd ps []:=by
 obtain⟨oc,od,kV,doc,pm,an,cdv,ct,osl,rfl,lk,hcd⟩:=F.ex;exact .all<|h kV doc pm an cdv ct
def ZaA{x qual:bD}{st:eR}{f:aG}{oc:ap}{od an:Option aG}{osl:Array (Option ap)}{kV doc pm cdv ct:ap}(l:K.lookup f=aa #[oc,od,.func<|dE x qual (YD st) (Z2 st) (Zw st) .none kV doc pm an cdv ct,osl])
  (c:gI K cdv qual=aj)(k:fJ K (.ref f)=aj):Fun K x qual st f (dE x qual (YD st) (Z2 st) (Zw st) .none kV doc pm an cdv ct):=#[#[oc,od,kV,doc,pm,an,cdv,ct,osl,rfl,l,c],k]
end
section
variable{κ:Type}[DecidableEq κ]
noncomputable def WH(kvs:List (κ×V))(k:κ):Option V:=(kvs.find? λkv=>al<|kv.1=k).map (·.2)
noncomputable def XF(kvs:List (κ×V))(k:κ)(v:V):List (κ×V):=
 if(kvs.any λkv=>al<|kv.1=k)=aj then kvs.map (λkv=>if kv.1=k then(kv.1,v)else kv)else kvs++[(k,v)]
def Vt{p:κ×V}{r:List (κ×V)}{k:κ}(e:p.1=k):WH (p::r) k=aa p.2:=by simp[WH,d3,e]
def VB{p:κ×V}{r:List (κ×V)}{k:κ}(e:¬p.1=k):WH (p::r) k=WH r k:=by simp[WH,d3,e]
theorem Xj(k:κ):∀kvs:List (κ×V),(kvs.any λkv=>al<|kv.1=k)=(WH kvs k).isSome
 |[]=>rfl
 |p::r=>by
  rw[fv];by_cases e:p.1=k
  .simp only[Vt e,T5 e,Bool.true_or,lz]
  .rw[VB e,T4 e,iu];exact Xj k r
theorem Wx(kvs:List (κ×V))(k:κ)(v:V):(XF kvs k v).length<=kvs.length+1:=by
 unfold XF;split
 .rw[ay];lia
 .rw[aW,aL,List.length_nil];lia
def we{kvs:List (κ×V)}{k:κ}(v:V)(h:WH kvs k=ae):XF kvs k v=kvs++[(k,v)]:=by
 unfold XF;rw[Xj,h];exact T8 (by decide)
def GP.isSome_eq(r:GP o u):o.isSome=u.isSome:=by
 cases o with
 |none=>cases u with|none=>rfl|some _=>exact(r).elim
 |some _=>cases u with|none=>exact(r).elim|some _=>rfl
def KV.val{kvs:List (κ×V)}{vs:List (κ×ap)}(r:KV kvs vs)(k:κ):GP (WH kvs k) (lQ vs k):=by
 unfold KV at r
 induction r with
 |nil=>exact dJ
 |@cons p q ps qs h t ih=>
  obtain⟨h1,h2⟩:=h;by_cases e:p.1=k
  .have e':=h1.symm.trans e
   have b:lQ (q::qs) k=aa q.2:=by simp[lQ,d3,e']
   rw[Vt e,b];exact h2
  .have e':¬q.1=k:=λz=>e (h1.trans z)
   have b:lQ (q::qs) k=lQ qs k:=by simp[lQ,d3,e']
   rw[VB e,b];exact ih
theorem KV.any(r:KV kvs vs)(k:κ):(kvs.any λkv=>al<|kv.1=k)=vs.any λkv=>al (kv.1=k):=by
 unfold KV at r
 induction r with|nil=>rfl|cons h t ih=>rw[fv,fv,ih,h.1]
def KV.repl(r:KV kvs vs)(k:κ)(ry:Zs y u) :
  KV (kvs.map λkv=>if kv.1=k then(kv.1,y)else kv) (vs.map λkv=>if kv.1=k then(kv.1,u)else kv):=by
 unfold KV at r ⊢
 induction r with
 |nil=>exact .nil
 |@cons p q ps qs h t ih=>
  rw[bf,bf];refine .cons ?_ ih;obtain⟨h1,h2⟩:=h;by_cases e:p.1=k
  .rw[T9 e,T9<|h1.symm.trans e];exact#[h1,ry]
  .rw[T8 e,T8 λz=>e<|h1.trans z];exact#[h1,h2]
def KV.put(r:KV kvs vs)(k:κ)(ry:Zs y u):KV (XF kvs k y) (stored vs k u):=by
 unfold XF stored;rw[r.any k];by_cases e:(vs.any λkv=>al<|kv.1=k)=aj
 .rw[T9 e,T9 e];exact r.repl k ry
 .rw[T8 e,T8 e];exact Paired.snoc r #[rfl,ry]
theorem KV.length{kvs:List (κ×V)}{vs:List (κ×ap)}(r:KV kvs vs):kvs.length=vs.length:=Paired.length r
end
def vi(r:Zs (kV k) u):(ZE P w).is k u=aj:=by
 cases k with|inl i=>obtain⟨t,e⟩:=(r);subst e;exact JS P w i t|inr x=>obtain⟨t,e⟩:=(r);subst e;exact QI P w x t
theorem V7 :∀{ks:List Key}{us:List ap},Vals (ks.map kV) us->ItemsAre (ZE P w) ks us
 |[],_,r=>by rw[List.map_nil]at r;cases r;exact .nil
 |k::ks,_,r=>by
  rw[bf]at r;cases r with|cons h t=>exact .cons (vi h)<|V7 t
abbrev KT(H:Hp):List (List Key×V)->List (List Key×aG×ap)->Prop:=Paired λp q=>p.1=q.1/\H q.2.1=aa (.tup<|p.1.map kV)/\Zs p.2 q.2.2
def KT.val{H:Hp}{kvs:List (List Key×V)}{xs:List (List Key×aG×ap)}(r:KT H kvs xs)(k:List Key):GP (WH kvs k) ((lR xs k).map (·.2)):=by
 induction r with
 |nil=>exact dJ
 |@cons p q ps qs h t ih=>
  obtain⟨h1,_,h2⟩:=h;by_cases e:p.1=k
  .have e':=h1.symm.trans e
   have b:lR (q::qs) k=aa q.2:=by simp[lR,d3,e']
   rw[Vt e,b];exact h2
  .have e':¬q.1=k:=λz=>e (h1.trans z)
   have b:lR (q::qs) k=lR qs k:=by simp[lR,d3,e']
   rw[VB e,b];exact ih
def KT.repl{H:Hp}{kvs:List (List Key×V)}{xs:List (List Key×aG×ap)}(r:KT H kvs xs)(k:List Key){y:V}{u:ap}(ry:Zs y u) :
  KT H (kvs.map λkv=>if kv.1=k then(kv.1,y)else kv) (xs.map<|putAt k u):=by
 induction r with
 |nil=>exact .nil
 |@cons p q ps qs h t ih=>
  rw[bf,bf];refine .cons ?_ ih;obtain⟨h1,h2,h3⟩:=h;unfold putAt;by_cases e:p.1=k
  .rw[T9 e,T9<|h1.symm.trans e];exact#[h1,h2,ry]
  .rw[T8 e,T8 λz=>e<|h1.trans z];exact#[h1,h2,h3]
def KT.put{H:Hp}{kvs:List (List Key×V)}{xs:List (List Key×aG×ap)}(r:KT H kvs xs)(k:List Key){b:aG}{y:V}{u:ap}(hb:H b=aa (.tup<|k.map kV))(ry:Zs y u) :
  KT H (XF kvs k y) (storedH xs k b u):=by
 have e:(kvs.any λkv=>al<|kv.1=k)=(lR xs k).isSome:=by
  rw[Xj,(r.val k).isSome_eq,lT]
 unfold XF storedH;rw[e];by_cases q:(lR xs k).isSome=aj
 .rw[T9 q,T9 q];exact r.repl k ry
 .rw[T8 q,T8 q];exact Paired.snoc r #[rfl,hb,ry]
def KT.keeps{H H':Hp}{kvs:List (List Key×V)}{xs:List (List Key×aG×ap)}(r:KT H kvs xs)(ht:∀b ys,H b=aa (.tup ys)->H' b=aa (.tup ys)):KT H' kvs xs:=
 Paired.mapP r λ_ _ z=>#[z.1,ht _ _ z.2.1,z.2.2]
def js(ok:HOk P w H h)(e:Rd H a u):ZZ P w H h a u:=e.ok ok
def jJ(ok:HOk P w H h)(e:Rd H a (.dK kvs)):kvs.length<=aY/\(a == cG)=ai/\∃vs,KV kvs vs/\h.DictOf (ZE P w) a vs:=
 js ok e
def Zcz(ok:HOk P w H h)(e:H a=aa (.dK kvs)):kvs.length<=aY/\(a == cG)=ai/\∃vs,KV kvs vs/\h.DictOf (ZE P w) a vs:=jJ ok<|.inl e
def WU(ok:HOk P w H h)(e:H a=aa (.tup<|ks.map kV)):(c8<|ZE P w).is h ks a:=by
 obtain⟨_,its,r,o,h1,h2,n,h3⟩:=(ok a _ e)
 exact#[o,its.toArray,n,h1,h2,h3,by simpa using V7 r]
def jx(ok:HOk P w H h)(e:Rd H a (.dT kvs)):kvs.length<=aY/\(a == cG)=ai/\
  ∃xs,KT H kvs xs/\h.DictOfH (c8<|ZE P w) a xs:=by
 obtain⟨z,y,xs,r,o,es,ep,h1,h2,h3,h4,h5⟩:=(js ok e)
 refine#[z,y,xs,r,o,es,ep,h1,h2,h3,h4,λx hx=>?_,h5]
 have all:∀{l:List (List Key×V)}{m:List (List Key×aG×ap)},KT H l m->∀x∈m,(c8<|ZE P w).is h x.1 x.2.1:=by
  intro l m q
  induction q with
  |nil=>intro x hx;exact nomatch hx
  |@cons p q ps qs hq t ih=>
   intro x hx;rcases aC.mp hx with e|hx
   .subst e
    exact WU ok (by rw[<-hq.1];exact hq.2.1)
   .exact ih x hx
 exact all r x hx
def jo{kvs:List (List Key×V)}(ok:HOk P w H h)(e:H a=aa (.dT kvs)):kvs.length<=aY/\(a == cG)=ai/\
  ∃xs,KT H kvs xs/\h.DictOfH (c8<|ZE P w) a xs:=jx ok<|.inl e
def DGet(H:Hp)(a:aG)(y:V)(r:Option V):Prop:=
 (∃kvs k,Rd H a (.dK kvs)/\y=kV k/\r=WH kvs k)\/∃kvs k b,Rd H a (.dT kvs)/\y=.ref b/\H b=aa (.tup<|k.map kV)/\r=WH kvs k
def DPut(H:Hp)(a:aG)(y v:V)(H':Hp):Prop:=
 (∃kvs k,H a=aa (.dK kvs)/\y=kV k/\kvs.length<aY/\H'=upd H a (.dK<|XF kvs k v))\/
 ∃kvs k b,H a=aa (.dT kvs)/\y=.ref b/\H b=aa (.tup<|k.map kV)/\kvs.length<aY/\H'=upd H a (.dT<|XF kvs k v)
def DPut.t{H:Hp}{a b:aG}{kvs:List (List Key×V)}{k:List Key}{v:V}(e:H a=aa (.dT kvs))(eb:H b=aa (.tup<|k.map kV))(hl:kvs.length<aY) :
  DPut H a (.ref b) v (upd H a<|.dT<|XF kvs k v):=.inr #[kvs,k,b,e,rfl,eb,hl,rfl]
def Inv.big(I:Inv X pq U H s):cG<s.heap.objs.size:=by
 have h:=(I.mod.glob.keeps I.bk).lt;exact cO (by decide) h
def qY{Q:ap->aw->Prop}(hu:A.units+1<db)(I:Inv X pq U H s)(g:DGet H a y o)(ry:Zs y u)(h:∀s',Inv X pq U H s'->Q (.bool<|!o.isSome) s') :
  aX (aS X.prog X.w) A (cu .NotIn u<|.ref a) Q E s:=by
 rcases g with⟨kvs,k,e,ey,l⟩|⟨kvs,k,b,e,ey,eb,l⟩
 .subst ey
  obtain⟨z,hd,vs,rel,dd⟩:=jJ I.hok e;refine wpAny_notIn_of (vi ry) hd dd.mapOf ?_;rw[<-(rel.val k).isSome_eq,<-l];exact h _<|I.tok _
 .subst ey
  cases(ry)
  obtain⟨z,hd,xs,rel,dd⟩:=jx I.hok e;refine wpAny_notIn_heap (gN hu) (WU I.hok eb) hd dd ?_;have q:=(rel.val k).isSome_eq;rw[lT]at q;rw[<-q,<-l];exact h _<|I.tok _
def Qu(I:Inv X pq U H s)(mu:Mut (H a))(hs:eB a s.heap h')(he:∃q,h'.get? a=aa q)(new:ZZ X.prog X.w (upd H a ob) h' a ob) :
  Inv X pq U (upd H a ob) {s with heap:=h',toks:=t' }:=
 I.write mu (.inl rfl) (λb q hb z=>(hs.2 b hb).trans z) he new
def ZbD(z:kvs.length<=aY)(hd:(a == cG)=ai)(rel:KV kvs vs)(dd:h'.DictOf (ZE P w) a vs) :
  ZZ P w H' h' a (.dK kvs):=#[z,hd,vs,rel,dd]
def yO{H':Hp}{Q:Unit->aw->Prop}(hu:A.units+1<db)(I:Inv X pq U H s)(g:DPut H a y v H')(ry:Zs y u)(rv:Zs v r)(h:∀s',Inv X pq U H' s'->Q () s') :
  aX (aS X.prog X.w) A (nG (.ref a) u r) Q E s:=by
 rcases g with⟨kvs,k,e,ey,l,eH⟩|⟨kvs,k,b,e,ey,eb,l,eH⟩
 .subst ey eH
  obtain⟨z,hd,vs,rel,dd⟩:=Zcz I.hok e;have hz:vs.length<=aY:=by rw[<-rel.length];exact z
  have hl:(XF kvs k v).length<=aY:=by have:=Wx kvs k v;lia
  refine wpAny_setItem_pairs (hsz:=hz) (vi ry) dd λh' dd' hs=>h _ ?_
  have he:∃q,h'.get? a=aa q:=let #[q,_,_,hq,_]:=dd';#[q,hq];exact Qu I (by rw[e];exact dJ) hs he<|ZbD hl hd (rel.put k rv) dd'
 .subst ey eH
  cases(show u=ck b from ry)
  obtain⟨z,hd,xs,rel,dd⟩:=jo I.hok e;have hz:xs.length<=aY:=by rw[<-Paired.length rel];exact z
  have hl:(XF kvs k v).length<=aY:=by have:=Wx kvs k v;lia
  refine wpAny_setItem_heap (hsz:=hz) (gN hu) (WU I.hok eb) dd λh' dd' hs=>h _ ?_
  obtain⟨q,es,ep,hq,h2,h3,h4,_,h5⟩:=dd';refine Qu I (by rw[e];exact dJ) hs #[q,hq] #[hl,hd,_,(rel.put k eb rv).keeps λc ys ec=>?_,q,es,ep,hq,h2,h3,h4,h5]
  rw[Zl (jA ec e (λz=>nomatch z))]
  exact ec
def ZcN(td ty tv:TE):TS:=λD U H=>tv U H λv H1=>td U H1 λx H2=>ty U H2 λy H3=>∃a H4,x=.ref a/\DPut H3 a y v H4/\D.nx U H4
section
variable{X:Cx}{o i e value:Expr}{pos pos' tpos:gD}{td ty tv:TE}
def qH(hu:X.A.units+1<db)(ho:PE X o td)(hi:PE X i ty)(hv:PE X value tv)(hs:iH value (aa<|.Subscript o i pos') pos.line X.env=cT ai) :
  PS X (.Assign [.Subscript o i pos'] value pos) (ZcN td ty tv):=by
 intro pq s U H D I h;refine wpAny_Assign_Subscript (thn (hv pq s U H _ I h) λr s1 #[v,H1,I1,rv,q1]=>thn (ho pq s1 U H1 _ I1 q1) λu s2 #[x,H2,I2,rx,q2]=>thn (hi pq s2 U H2 _ I2 q2) λiv s3 #[y,H3,I3,ry,a,H4,ex,g,q3]=>?_) hs
 subst ex;obtain rfl:u=ck a:=rx;exact yO hu I3 g ry rv λs4 I4=>#[U,H4,I4,q3]
end
def wE(h:bX)(hb:cG<h.objs.size):ZZ P w H (h.push {cls:=.type "dict",data:=.dict #[]}) h.objs.size (.dK []):=
 #[cR _,beq_eq_false_iff_ne.mpr<|Ne.symm<|bg hb,[],.nil,bX.DictOf.new h]
def x5(h:bX)(hb:cG<h.objs.size):ZZ P w H (h.push {cls:=.type "dict",data:=.dict #[]}) h.objs.size (.dT []):=
 #[cR _,beq_eq_false_iff_ne.mpr<|Ne.symm<|bg hb,[],.nil,_,#[],0,aI _ rfl,#[rfl,rfl,rfl],rfl,rfl,np]
def Zab:TE:=λ_ H Q=>∀p,H p=ae->Q (.ref p) (upd H p<|.dK [])
section
variable{X:Cx}{pos:gD}
def wb:PE X (.Dict [] [] pos) Zab:=λpq s U H Q I h=>
 wpAny_Dict_empty #[.ref s.heap.objs.size,_,I.laid (a:=s.heap.objs.size) (o:=.dK []) (t':=s.toks) (λ_ _ q=>aq _ q) (az _)<|wE s.heap I.big,rfl,h _<|I.hok.fresh<|az _]
end
def J4:List (TE×TE)->St->Hp->(List (V×V)->Hp->Prop)->Prop
 |[],_,H,Q=>Q [] H
 |(tk,tv)::r,U,H,Q=>tk U H λx H1=>tv U H1 λy H2=>J4 r U H2 λps H3=>Q ((x,y)::ps) H3
abbrev VV:List (V×V)->List (ap×ap)->Prop:=Paired λp q=>Zs p.1 q.1/\Zs p.2 q.2
def PPs(X:Cx)(pos:gD)(keys:List (Option Expr))(values:List Expr)(trs:List (TE×TE)):Prop:=
 ∀(pq:List (aG×eX))(s:aw)(U:St)(H:Hp)(Q:List (V×V)->Hp->Prop),Inv X pq U H s->J4 trs U H Q->
  aX (aS X.prog X.w) X.A (evalPairs<|pairTrees keys values X.env pos) (λvs s'=>∃ps H',Inv X pq U H' s'/\VV ps vs/\Q ps H') X.xe s
def qW :PPs X pos [] [] []:=λpq s U H Q I h=>pairTrees_nil_walk #[[],H,I,.nil,h]
def vb(hk:PE X k tk)(hv:PE X v tv)(hr:PPs X pos ks vs trs) :
  PPs X pos (aa k::ks) (v::vs) ((tk,tv)::trs):=λpq s U H Q I h=>
 pairTrees_cons_walk (thn (hk pq s U H _ I h) λu s1 #[x,H1,I1,rx,q1]=>thn (hv pq s1 U H1 _ I1 q1) λw2 s2 #[y,H2,I2,ry,q2]=>
  thn (hr pq s2 U H2 _ I2 q2)<|by rintro ws s3 ⟨ps,H3,I3,rel,q3⟩;exact #[(x,y)::ps,H3,I3,.cons #[rx,ry] rel,q3])
end L2
namespace Pv
open PySem (Str)
inductive V where
 |non|bl (b:Bool)|int (i:Int)|str (x:bD)|tup (xs:List V)|lst (xs:List V)|drw|dct (ks:Option (List<|List Int))|scr (ns:List Int)
 |dow (ks:List (List Int))
 deriving Inhabited
end Pv
namespace Ev
open PySem (Str)
def nos{B:Type}{P:Prop}{b:B}(h:ae=aa b):P:=by cases h
noncomputable def lim:Nat:=16777216
inductive Bop where|add|sub|mul|fdiv|mod|pow
 deriving DecidableEq
inductive Cop where|eq|ne|lt|le|gt|ge|is|isn|inn|nin
 deriving DecidableEq
inductive Ty where|int|bool|str|tuple|list|dict|cls (c:Nat)
 deriving DecidableEq
inductive Bf where|len|max2|min2|toInt|tuple|list|all|any|sum|sorted|sortedR|dictP|listD|sortedD|rangeT|rangeL
 deriving DecidableEq
inductive Mf where|append|extend|index
 deriving DecidableEq
mutual
inductive E where
 |c (d:Pv.V)|v (i:Nat)
 |tup (es:List E)|lst (es:List E)|dnew
 |bin (op:Bop) (a b:E)|neg (a:E)|not (a:E)|and (a b:E)|or (a b:E)|ite (t a b:E)
 |cmp (op:Cop) (a b:E)|chain (o p:Cop) (a b d:E)
 |ix (a i:E)|sl (a:E) (lo hi:Option E)|rev (a:E)
 |call (f:Nat) (as:List E)|blt (f:Bf) (as:List E)|mt (m:Mf) (o:E) (as:List E)
 |isi (a:E) (ts:List Ty)
 |inT (a:E) (tab:List (Int×Int))|getT (tab:List (Int×Int)) (a:E)
 |dput1 (k v:E)
 |comp1 (cap:List Nat) (nl:Nat) (t:List Nat) (it:W) (ifs:List E) (elt:E)
 |comp2 (cap:List Nat) (nl:Nat) (t:List Nat) (it:W) (ifs:List E) (u:List Nat) (jt:W) (jfs:List E) (elt:E)
 |fi (e:E)
 |refu (w:Bool) (e:E)
 |dix (a:E) (k:Bool)
 |callF (f:Nat) (as:List E)
inductive W where
 |of (e:E)|rng1 (a:E)|rng2 (a b:E)|zip (a b:E)|enum (a:E)|rrng (a b:E)|rtup (a:E)|dk (e:E)
end
inductive Sm where
 |asg (t:List Nat) (e:E)|par (t:List Nat) (es:List E)|aug (i:Nat) (op:Bop) (e:E)|put (o i e:E)|dput (o i e:E)
 |ret (e:E)|ex (e:E)|ite (t:E) (a b:List Sm)|forr (t:List Nat) (it:W) (b:List Sm)|whl (t:E) (b:List Sm)
 |raise (c:Nat) (as:List E)|pas|brk|cnt
 |mov (i j:Nat)
 |dset (i:Nat) (e:E)|cel (i f:Nat) (as:List E) (b:List Sm)
 |retO (i:Nat)
 |dnw (i:Nat) (k:E)|forF (t:List Nat) (e:E) (b:List Sm)
 |lnw (i:Nat) (es:List E)|cat (i:Nat) (es:List E)|app (i:Nat) (e:E)
noncomputable def b2i(b:Bool):Int:=if b then 1 else 0
noncomputable def ZJ:Nat:=6
noncomputable def ixN(n:Nat)(i:Int):Option Nat:=if 0<=i then(if i<n then aa i.toNat else ae)else if -(n:Int)<=i then aa (i+n).toNat else ae
noncomputable def at'{B:Type}(xs:List B)(i:Int):Option B:=(ixN xs.length i).bind λj=>xs[j]?
noncomputable def sIx(n d:Nat):Option Int->Nat
 |none=>d
 |some i=>if i<0 then(i+n).toNat else nI i.toNat n
noncomputable def fits(i:Int):Bool:=al<|i.natAbs<2^8000
noncomputable def big:Int:=2^8000
def wV(h:b<1073741824):b<big:=Int.lt_trans h (by decide +kernel)
noncomputable def ltI:List Int->List Int->Bool
 |[],[]=>ai
 |[],_::_=>aj
 |_::_,[]=>ai
 |a::x,b::y=>if a=b then ltI x y else al (a<b)
noncomputable def Yy(x:List Int):List (List Int)->List (List Int)
 |[]=>[x]
 |y::r=>if ltI x y then x::y::r else y::Yy x r
noncomputable def Zg:List (List Int)->List (List Int)
 |[]=>[]
 |x::r=>Yy x<|Zg r
noncomputable def Jr{B:Type}(lt:B->B->Bool)(x:B):List B->List B
 |[]=>[x]
 |y::r=>if lt x y then x::y::r else y::Jr lt x r
noncomputable def XC{B:Type}(lt:B->B->Bool):List B->List B
 |[]=>[]
 |x::r=>Jr lt x<|XC lt r
noncomputable def ltP:List (List Int)->List (List Int)->Bool
 |[],[]=>ai
 |[],_::_=>aj
 |_::_,[]=>ai
 |a::x,b::y=>if a=b then ltP x y else ltI a b
noncomputable def Zcj(is:List Int):Bool:=al (is.length<=1000)&&is.all λi=>al<|-1099511627776<=i/\i<=1099511627776
noncomputable def ZR(rs:List (List Int)):Bool:=al (rs.length<=100000)&&decide rs.Nodup&&rs.all λr=>!r.isEmpty
noncomputable def YC(ps:List (List<|List Int)):Bool:=al (ps.length<=100000)&&decide ps.Nodup&&(al (ps.length<=1)||ps.all λP=>!P.isEmpty)
noncomputable def Vw(ks:List (List Int)):Bool:=al (ks.length<=lim)&&decide ks.Nodup
noncomputable def YN(i:Int):Bool:=al<|-(2^62)<=i/\i<2^62
noncomputable def few(i:Int):Bool:=al<|0<=i/\i<=1000
noncomputable def Js:Nat:=1000
noncomputable def Zah:List bD:=["row","part","number","heads","not beside","not in","turn","lot","many","note"]
structure Fn where
 ps:Nat
 ns:Nat
 body:List Sm
end Ev
namespace Pv
open Ev
open PySem (Str)
noncomputable abbrev DS:=Int×Bool
inductive PR(B:Type) where
 |ok (a:B) (s:DS)|ex (c:Nat) (s:DS)|no
noncomputable def PR.bind{B β:Type}(r:PR B)(f:B->DS->PR β):PR β:=match r with
 |.ok a s=>f a s
 |.ex c s=>.ex c s
 |.no=>.no
noncomputable def PR.nox{B:Type}(r:PR B):PR B:=match r with
 |.ex _ _=>.no
 |r=>r
noncomputable def po{B:Type}(o:Option B)(s:DS):PR B:=match o with
 |some a=>.ok a s
 |none=>.no
abbrev Env:=List<|Option V
mutual
noncomputable def V.flat:V->Bool
 |.tup xs=>Y1 xs
 |.lst _=>ai
 |.drw=>ai
 |.dct _=>ai
 |.dow _=>ai
 |_=>aj
noncomputable def Y1:List V->Bool
 |[]=>aj
 |x::xs=>x.flat&&Y1 xs
end
mutual
noncomputable def ofD:V->Option V
 |.non=>aa .non
 |.bl b=>aa<|.bl b
 |.int i=>aa<|.int i
 |.str x=>aa<|.str x
 |.tup xs=>(Zb6 xs).map .tup
 |_=>ae
noncomputable def Zb6:List V->Option (List V)
 |[]=>aa []
 |x::xs=>match ofD x,Zb6 xs with
  |some a,aa b=>aa (a::b)
  |_,_=>ae
end
noncomputable def Zn:V->Option Bool
 |.non=>aa ai
 |.bl b=>aa b
 |.int i=>aa<|al<|i≠0
 |.tup xs=>aa<|!xs.isEmpty
 |.lst xs=>aa<|!xs.isEmpty
 |_=>ae
noncomputable def Yt(f:V->V->Option Bool):List V->List V->Option Bool
 |[],[]=>aa aj
 |x::xs,y::ys=>match f x y,Yt f xs ys with
  |some a,aa b=>aa<|a&&b
  |_,_=>ae
 |_,_=>aa ai
noncomputable def eqV:Nat->V->V->Option Bool
 |0,_,_=>ae
 |k+1,x,y=>match x with
  |.non=>match y with
   |.non=>aa aj
   |.bl _|.int _|.str _=>aa ai
   |_=>ae
  |.bl a=>match y with
   |.bl b=>aa<|al<|a=b
   |.int b=>aa<|al<|b2i a=b
   |.non|.str _=>aa ai
   |_=>ae
  |.int a=>match y with
   |.int b=>aa<|al<|a=b
   |.bl b=>aa<|al<|a=b2i b
   |.non|.str _=>aa ai
   |_=>ae
  |.str a=>match y with
   |.str b=>aa<|al<|a=b
   |.non|.bl _|.int _=>aa ai
   |_=>ae
  |.tup xs=>match y with
   |.tup ys=>Yt (eqV k) xs ys
   |_=>ae
  |.lst xs=>match y with
   |.lst ys=>if xs.length=ys.length then Yt (eqV k) xs ys else aa ai
   |_=>ae
  |_=>ae
noncomputable def WG(x:V):List V->Option Bool
 |[]=>aa ai
 |y::ys=>match eqV ZJ y x,WG x ys with
  |some a,aa b=>aa (a||b)
  |_,_=>ae
noncomputable def Y0:V->Ty->Option Bool
 |.non,_=>aa ai
 |.bl _,t=>aa<|al<|t=.bool\/t=.int
 |.int _,t=>aa<|al<|t=.int
 |.str _,t=>aa<|al<|t=.str
 |.tup _,t=>aa<|al<|t=.tuple
 |.lst _,t=>aa<|al<|t=.list
 |.dct ae,t=>aa<|al<|t=.dict
 |_,_=>ae
noncomputable def Yc(x:V):List Ty->Option Bool
 |[]=>aa ai
 |t::ts=>match Y0 x t with
  |some aj=>aa aj
  |some ai=>Yc x ts
  |none=>ae
noncomputable def Xe(xs:List V)(lo hi:Option Int):List V:=(xs.drop<|sIx xs.length 0 lo).take<|sIx xs.length xs.length hi-sIx xs.length 0 lo
noncomputable def VF(op:Bop)(a b:Int)(s:DS):PR V:=match op with
 |.add=>.ok (.int<|a+b) s
 |.sub=>.ok (.int<|a-b) s
 |.mul=>if(fits a&&fits b)=aj then .ok (.int<|a*b) s else .no
 |.fdiv=>if 0<b/\b<Ev.big then .ok (.int<|a / b) s else .no
 |.mod=>if 0<b then .ok (.int<|a%b) s else .no
 |.pow=>if 0<=b/\b<=1000/\a.natAbs<2^64 then .ok (.int<|a^b.toNat) s else .no
noncomputable def Yz(op:Bop)(x y:V)(s:DS):PR V:=match x with
 |.int a=>match y with
  |.int b=>VF op a b s
  |_=>.no
 |.tup a=>match y with
  |.tup b=>match op with
   |.add=>if a.length+b.length<=lim then .ok (.tup<|a++b) s else .no
   |_=>.no
  |.int b=>match op with
   |.mul=>if 0<=b/\b<1000/\a.length<=1000 then .ok (.tup (aA b.toNat a).flatten) s else .no
   |_=>.no
  |_=>.no
 |.lst a=>match y with
  |.lst b=>match op with
   |.add=>if a.length+b.length<=lim then .ok (.lst<|a++b) s else .no
   |_=>.no
  |.int b=>match op with
   |.mul=>if 0<=b/\b<1000/\a.length<=1000 then .ok (.lst (aA b.toNat a).flatten) s else .no
   |_=>.no
  |_=>.no
 |_=>.no
noncomputable def Zb3(op:Bop)(x y:V)(s:DS):PR V:=match x,y with
 |.int _,.int _=>Yz op x y s
 |_,_=>.no
noncomputable def intsV:List V->Option (List Int)
 |[]=>aa []
 |.int i::r=>(intsV r).map (i :: ·)
 |_::_=>ae
noncomputable def JQ(x y:V):Option Bool:=match y with
 |.tup ys=>WG x ys
 |.lst ys=>WG x ys
 |.dct (aa ks)=>match x with
  |.tup k=>(intsV k).map λk=>ks.contains k
  |_=>ae
 |.dow ks=>match x with
  |.tup k=>(intsV k).map λk=>ks.contains k
  |_=>ae
 |_=>ae
noncomputable def Wz:V->Bool
 |.non=>aj
 |_=>ai
noncomputable def Zb(r:List Int):V:=.tup<|r.map .int
noncomputable def ZV:List V->Option (List<|List Int)
 |[]=>aa []
 |.tup x::r=>match intsV x,ZV r with
  |some a,aa b=>aa (a::b)
  |_,_=>ae
 |_::_=>ae
noncomputable def int2(x y:V):Option (Int×Int):=match x with
 |.int a=>match y with
  |.int b=>aa (a,b)
  |_=>ae
 |_=>ae
noncomputable def isV(x y:V):Option Bool:=match y with
 |.non=>aa<|Wz x
 |.bl b=>match x with
  |.bl a=>aa<|al<|a=b
  |_=>ae
 |_=>ae
noncomputable def Yh(op:Cop)(x y:V):Option V:=match op with
 |.eq=>(eqV ZJ x y).map .bl
 |.ne=>(eqV ZJ x y).map λb=>.bl !b
 |.lt=>match x with
  |.tup a=>match y with
   |.tup b=>(ZV a).bind λP=>(ZV b).map λQ=>.bl<|ltP P Q
   |_=>ae
  |x=>(int2 x y).map λz=>.bl<|al<|z.1<z.2
 |.gt=>(int2 x y).map λz=>.bl<|al<|z.2<z.1
 |.le=>(int2 x y).map λz=>.bl<|al<|z.1<=z.2
 |.ge=>(int2 x y).map λz=>.bl<|al<|z.2<=z.1
 |.is=>(isV x y).map .bl
 |.isn=>(isV x y).map λb=>.bl !b
 |.inn=>(JQ x y).map .bl
 |.nin=>(JQ x y).map λb=>.bl !b
noncomputable def ixV(x y:V):Option V:=match x,y with
 |.tup xs,.int i=>at' xs i
 |.lst xs,.int i=>at' xs i
 |.scr xs,.int i=>(at' xs i).map .int
 |_,_=>ae
noncomputable def slV(x:V)(lo hi:Option Int):Option V:=match x with
 |.tup xs=>aa<|.tup<|Xe xs lo hi
 |.lst xs=>aa<|.lst<|Xe xs lo hi
 |_=>ae
noncomputable def ZbO:V->Option V
 |.tup xs=>aa<|.tup xs.reverse
 |_=>ae
noncomputable def WP:V->Option Bool
 |.non=>aa ai
 |.bl b=>aa b
 |.int i=>aa<|al<|i≠0
 |_=>ae
noncomputable def ZX:List V->Option (List Bool)
 |[]=>aa []
 |x::xs=>match WP x,ZX xs with
  |some b,aa bs=>aa (b::bs)
  |_,_=>ae
noncomputable def ZK(P:List (List Int)):V:=.tup<|P.map Zb
noncomputable def ZaD:V->Option (List<|List Int)
 |.tup ks=>ZV ks
 |_=>ae
noncomputable def x6:List V->Option (List<|List<|List Int)
 |[]=>aa []
 |x::r=>match ZaD x,x6 r with
  |some a,aa b=>aa (a::b)
  |_,_=>ae
noncomputable def Zdk:List V->Bool
 |.tup (.int _::_)::_=>aj
 |_=>ai
noncomputable def Yj:V->Option (List V)
 |.tup xs=>aa xs
 |.lst xs=>aa xs
 |.scr ns=>aa<|ns.map .int
 |_=>ae
noncomputable def Zcu:V->Option (List V)
 |.dct (aa ks)=>aa<|ks.map Zb
 |_=>ae
noncomputable def ZT(lo:Int)(n:Nat):List V:=(aU n).map λ(k:Nat)=>.int<|lo+(k:Int)
noncomputable def ju:V->Option (List Int)
 |.tup [.tup k,.bl b]=>if b=aj then intsV k else ae
 |_=>ae
noncomputable def XJ:List V->Option (List<|List Int)
 |[]=>aa []
 |v::r=>(ju v).bind λa=>(XJ r).map (a :: ·)
noncomputable def blt1(f:Bf)(x:V):Option V:=match f with
 |.len=>(Yj x).map λxs=>.int xs.length
 |.toInt=>match x with
  |.int a=>aa<|.int a
  |.bl b=>aa<|.int<|b2i b
  |_=>ae
 |.tuple=>(Yj x).map .tup
 |.list=>(Yj x).map .lst
 |.all=>match x with
  |.lst xs=>(ZX xs).map λbs=>.bl<|bs.all id
  |_=>ae
 |.any=>(Yj x).bind λxs=>(ZX xs).map λbs=>.bl<|bs.any id
 |.sum=>match x with
  |.lst xs=>(intsV xs).bind λis=>if Zcj is=aj then aa (.int is.sum)else ae
  |_=>ae
 |.sorted=>match x with
  |.lst xs=>if Zdk xs=aj then(ZV xs).bind λrs=>if ZR rs=aj then aa (.lst<|(Zg rs).map Zb)else ae else(x6 xs).bind λps=>if YC ps=aj then aa (.lst<|(XC ltP ps).map ZK)else ae
  |_=>ae
 |.sortedR=>match x with
  |.lst xs=>(ZV xs).bind λrs=>if ZR rs=aj then aa (.lst<|(Zg rs).reverse.map Zb)else ae
  |_=>ae
 |.rangeT=>match x with
  |.int i=>if few i then aa (.tup<|ZT 0 i.toNat)else ae
  |_=>ae
 |.rangeL=>match x with
  |.int i=>if few i then aa (.lst<|ZT 0 i.toNat)else ae
  |_=>ae
 |.listD=>match x with
  |.dow ks=>aa<|.lst<|ks.map Zb
  |_=>ae
 |.sortedD=>match x with
  |.dow ks=>if ZR ks=aj then aa (.lst<|(Zg ks).map Zb)else ae
  |_=>ae
 |.dictP=>match x with
  |.lst xs=>(XJ xs).bind λks=>if Vw ks=aj then aa (.dct<|aa ks)else ae
  |_=>ae
 |_=>ae
noncomputable def blt2(f:Bf)(x y:V):Option V:=match x,y with
 |.int a,.int b=>match f with
  |.max2=>aa<|.int (if b>a then b else a)
  |.min2=>aa<|.int (if b<a then b else a)
  |_=>ae
 |_,_=>ae
noncomputable def Y6(f:Bf)(as:List V):Option V:=match as with
 |[x]=>blt1 f x
 |[x,y]=>blt2 f x y
 |_=>ae
noncomputable def YE:List Nat->List V->Env->Option Env
 |[],[],O=>aa O
 |i::t,x::xs,O=>YE t xs<|O.set i<|aa x
 |_,_,_=>ae
noncomputable def wf:V->Option (List V)
 |.tup xs=>aa xs
 |.lst xs=>aa xs
 |_=>ae
noncomputable def Zf(t:List Nat)(x:V)(O:Env):Option Env:=match t with
 |[i]=>aa<|O.set i<|aa x
 |t=>match wf x with
  |some xs=>YE t xs O
  |none=>ae
abbrev Zt:=Nat->List V->DS->PR V
noncomputable def ZQ(cap:List Nat)(nl:Nat)(O:Env):Env:=aA nl ae++cap.map λi=>(O[i]?).join
noncomputable def mapP(f:V->DS->PR (List V)):List V->DS->PR (List V)
 |[],s=>.ok [] s
 |x::xs,s=>match f x s with
  |.ok ys s=>match mapP f xs s with
   |.ok zs s=>.ok (ys++zs) s
   |_=>.no
  |_=>.no
noncomputable def Zde(w:Bool)(c:Nat):V:=if w then .str (Zah.getD c "")else .int c
noncomputable def own(nl:Nat)(t:List Nat):Bool:=t.all λi=>al<|i<nl
noncomputable def own2(nl:Nat)(t u:List Nat):Bool:=own nl t&&u.all λi=>al (i<nl) && !t.contains i
mutual
noncomputable def pv(C:Zt):E->Env->DS->PR V
 |.c d,_,s=>po (ofD d) s
 |.v i,O,s=>po (O[i]?).join s
 |.tup es,O,s=>(pvs C es O s).bind λxs s=>if xs.length<=lim then .ok (.tup xs) s else .no
 |.lst es,O,s=>(pvs C es O s).bind λxs s=>if xs.length<=lim then .ok (.lst xs) s else .no
 |.dnew,_,s=>.ok (.dct ae) s
 |.dput1 k v,O,s=>(pv C k O s).bind λx s=>(pv C v O s).bind λy s=>match x,y with
  |.int _,.int _=>.ok (.dct ae) s
  |_,_=>.no
 |.bin op a b,O,s=>(pv C a O s).bind λx s=>(pv C b O s).bind λy s=>Yz op x y s
 |.neg a,O,s=>(pv C a O s).bind λx s=>match x with
  |.int i=>.ok (.int<|-i) s
  |_=>.no
 |.not a,O,s=>(pv C a O s).bind λx s=>(po (Zn x) s).bind λb s=>.ok (.bl !b) s
 |.and a b,O,s=>(pv C a O s).bind λx s=>match x with
  |.bl c=>if c then pv C b O s else .ok (.bl ai) s
  |_=>.no
 |.or a b,O,s=>(pv C a O s).bind λx s=>match x with
  |.bl c=>if c then .ok (.bl aj) s else pv C b O s
  |_=>.no
 |.ite t a b,O,s=>(pv C t O s).bind λx s=>(po (Zn x) s).bind λc s=>if c then pv C a O s else pv C b O s
 |.cmp op a b,O,s=>(pv C a O s).bind λx s=>(pv C b O s).bind λy s=>po (Yh op x y) s
 |.chain o p a b d,O,s=>(pv C a O s).bind λx s=>(pv C b O s).bind λy s=>(po (Yh o x y) s).bind λz s=>match z with
  |.bl c=>if c then(pv C d O s).bind λw s=>po (Yh p y w) s else .ok (.bl ai) s
  |_=>.no
 |.ix a i,O,s=>(pv C a O s).bind λx s=>(pv C i O s).bind λy s=>po (ixV x y) s
 |.sl a lo hi,O,s=>(pv C a O s).bind λx s=>(pvo C lo O s).bind λl s=>(pvo C hi O s).bind λh s=>po (slV x l h) s
 |.rev a,O,s=>(pv C a O s).bind λx s=>po (ZbO x) s
 |.call f as,O,s=>(pvs C as O s).bind λxs s=>C f xs s
 |.blt f as,O,s=>(pvs C as O s).bind λxs s=>po (Y6 f xs) s
 |.mt _ _ _,_,_=>.no
 |.isi a ts,O,s=>(pv C a O s).bind λx s=>(po (Yc x ts) s).bind λb s=>.ok (.bl b) s
 |.inT a tab,O,s=>(pv C a O s).bind λx s=>match x with
  |.int i=>.ok (.bl ((tab.map (·.1)).contains i)) s
  |_=>.no
 |.getT tab a,O,s=>(pv C a O s).bind λx s=>match x with
  |.int i=>(po (tab.lookup i) s).bind λj s=>.ok (.int j) s
  |_=>.no
 |.comp1 cap nl t it ifs elt,O,s=>if own nl t=aj then(pvw C it O s).bind λw s=>
   ((mapP (λx s=>(po (Zf t x<|ZQ cap nl O) s).bind λU s=>(pvt C ifs U s).bind λb s=>if b then(pv C elt U s).bind λy s=>.ok [y] s else .ok [] s) w s).bind
    λys s=>if ys.length<=lim then .ok (.lst ys) s else .no).nox
  else .no
 |.comp2 cap nl t it ifs u jt jfs elt,O,s=>if own2 nl t u=aj then(pvw C it O s).bind λw s=>
   ((mapP (λx s=>(po (Zf t x<|ZQ cap nl O) s).bind λU s=>(pvt C ifs U s).bind λb s=>if b then
    (pvw C jt U s).bind λw2 s=>mapP (λx s=>(po (Zf u x U) s).bind λU s=>(pvt C jfs U s).bind λb s=>if b then(pv C elt U s).bind λy s=>.ok [y] s else .ok [] s) w2 s
    else .ok [] s) w s).bind
    λys s=>if ys.length<=lim then .ok (.lst ys) s else .no).nox
  else .no
 |.fi a,O,s=>(pv C a O s).bind λx s=>match x with
  |.int i=>if YN i=aj then .ok (.int i) s else .no
  |_=>.no
 |.refu w e,O,s=>match pv C e O s with
  |.ok _ s=>.ok .non s
  |.ex c s=>if 1<=c/\c<=10 then .ok (Zde w<|c-1) s else .no
  |.no=>.no
 |.dix a k,O,s=>(pv C a O s).bind λx s=>match x with
  |.drw=>.ok (if k then .bl s.2 else .int s.1) s
  |_=>.no
 |.callF f as,O,s=>(pvs C as O s).bind λxs s=>C f xs s
noncomputable def pvs(C:Zt):List E->Env->DS->PR (List V)
 |[],_,s=>.ok [] s
 |e::es,O,s=>(pv C e O s).bind λx s=>(pvs C es O s).bind λxs s=>.ok (x::xs) s
noncomputable def pvo(C:Zt):Option E->Env->DS->PR (Option Int)
 |none,_,s=>.ok ae s
 |some e,O,s=>(pv C e O s).bind λx s=>match x with
  |.int i=>.ok (aa i) s
  |_=>.no
noncomputable def pvt(C:Zt):List E->Env->DS->PR Bool
 |[],_,s=>.ok aj s
 |e::es,O,s=>(pv C e O s).bind λx s=>(po (Zn x) s).bind λb s=>if b then pvt C es O s else .ok ai s
noncomputable def pvw(C:Zt):W->Env->DS->PR (List V)
 |.rng1 a,O,s=>(pv C a O s).bind λx s=>match x with
  |.int i=>if YN i then .ok (ZT 0 i.toNat) s else .no
  |_=>.no
 |.rng2 a b,O,s=>(pv C a O s).bind λx s=>(pv C b O s).bind λy s=>match x,y with
  |.int i,.int j=>if(YN i&&YN j)=aj then .ok (ZT i (j-i).toNat) s else .no
  |_,_=>.no
 |.rrng a b,O,s=>(pv C a O s).bind λx s=>(pv C b O s).bind λy s=>match x,y with
  |.int i,.int j=>if(YN i&&YN j)=aj then .ok (ZT i (j-i).toNat).reverse s else .no
  |_,_=>.no
 |.rtup a,O,s=>(pv C a O s).bind λx s=>match x with
  |.tup xs=>.ok xs.reverse s
  |_=>.no
 |.zip a b,O,s=>(pv C a O s).bind λx s=>(pv C b O s).bind λy s=>match Yj x,Yj y with
  |some v,aa w=>.ok ((v.zip w).map λp=>.tup [p.1,p.2]) s
  |_,_=>.no
 |.enum a,O,s=>(pv C a O s).bind λx s=>match Yj x with
  |some w=>.ok (((ZT 0 w.length).zip w).map λp=>.tup [p.1,p.2]) s
  |none=>.no
 |.of e,O,s=>(pv C e O s).bind λx s=>po (Yj x) s
 |.dk e,O,s=>(pv C e O s).bind λx s=>po (Zcu x) s
end
inductive FlV where|nx (O:Env) (os:List Nat)|ret (v:V)|brk (O:Env) (os:List Nat)|cnt (O:Env) (os:List Nat)
noncomputable def hide(os:List Nat)(O:Env):Env:=O.mapIdx λi o=>if os.contains i then ae else o
noncomputable def fresh:E->Bool
 |.lst _=>aj
 |.comp1 .. => aj
 |.comp2 .. => aj
 |.bin .mul (.lst _) _=>aj
 |.blt .list _=>aj
 |.blt .sorted _=>aj
 |.blt .rangeL _=>aj
 |.blt .listD _=>aj
 |.blt .sortedD _=>aj
 |.callF _ _=>aj
 |_=>ai
noncomputable def Jy:V->Bool
 |.lst xs=>Y1 xs
 |_=>ai
noncomputable def pvA(C:Zt)(e:E)(O:Env)(os:List Nat)(s:DS):PR V:=match os with
 |[]=>pv C e O s
 |os=>match pv C e (hide os O) s with
  |.ok v s=>.ok v s
  |.ex c s=>.ex c s
  |.no=>(pv C e O s).bind λv s=>if(v.flat||fresh e&&Jy v)=aj then .ok v s else .no
noncomputable def Zdj(C:Zt)(es:List E)(O:Env)(os:List Nat)(s:DS):PR (List V):=match os with
 |[]=>pvs C es O s
 |os=>match pvs C es (hide os O) s with
  |.ok v s=>.ok v s
  |.ex c s=>.ex c s
  |.no=>(pvs C es O s).bind λv s=>if Y1 v then .ok v s else .no
noncomputable def YF(C:Zt)(e:E)(O:Env)(s:DS):PR Bool:=(pv C e O s).bind λx s=>po (Zn x) s
noncomputable def Yv(body:V->Env->List Nat->DS->PR FlV):List V->Env->List Nat->DS->PR FlV
 |[],O,os,s=>.ok (.nx O os) s
 |x::xs,O,os,s=>(body x O os s).bind λf s=>match f with
  |.nx O os=>Yv body xs O os s
  |.cnt O os=>Yv body xs O os s
  |.brk O os=>.ok (.nx O os) s
  |.ret v=>.ok (.ret v) s
noncomputable def YG(test:Env->DS->PR Bool)(body:Env->List Nat->DS->PR FlV):Nat->Env->List Nat->DS->PR FlV
 |0,_,_,_=>.no
 |n+1,O,os,s=>(test O s).bind λb s=>if b then(body O os s).bind λf s=>match f with
  |.nx O os=>YG test body n O os s
  |.cnt O os=>YG test body n O os s
  |.brk O os=>.ok (.nx O os) s
  |.ret v=>.ok (.ret v) s
  else .ok (.nx O os) s
noncomputable def okS(x:Int)(b:Bool):Bool:=al (0<=x)&&(b||decide (x<2147483647))
noncomputable def Vc:V->Option DS
 |.lst [.int a,.bl b]=>if okS a b=aj then aa (a,b)else ae
 |_=>ae
noncomputable def Ww(o:Option V):Option V:=o.filter V.flat
noncomputable def XT(i:Nat)(O:Env):Env:=(O.take i).map Ww++aA (O.length-i) ae
noncomputable def Zcp:Option (Option V)->Option (List<|List Int)
 |some (aa<|.dow ks)=>aa ks
 |_=>ae
noncomputable def Z8(ks:List (List Int))(k:List Int):List (List Int):=if ks.contains k then ks else ks++[k]
noncomputable def Zbn:V->Option (List Int)
 |.tup k=>intsV k
 |_=>ae
noncomputable def isT:V->Bool
 |.bl aj=>aj
 |_=>ai
noncomputable def XV:Option (Option V)->Option (List V)
 |some (aa<|.lst xs)=>aa xs
 |_=>ae
mutual
noncomputable def rv(C:Zt)(ms:List Nat):Sm->Env->List Nat->DS->PR FlV
 |.asg [i] e,O,os,s=>(pvA C e O os s).bind λv s=>if(ms.contains i&&fresh e)=aj then match v with
   |.lst xs=>if Y1 xs=aj/\i<O.length then .ok (.nx (O.set i<|aa v) (i::os.filter (· != i))) s else .no
   |_=>.no
  else .ok (.nx (O.set i<|aa v) (os.filter (· != i))) s
 |.asg t e,O,os,s=>(pvA C e O os s).bind λv s=>if(t.any os.contains)=aj then .no else(po (Zf t v O) s).bind λO s=>.ok (.nx O os) s
 |.par t es,O,os,s=>(Zdj C es O os s).bind λvs s=>if(t.any os.contains)=aj then .no else(po (YE t vs O) s).bind λO s=>.ok (.nx O os) s
 |.aug i op e,O,os,s=>if os.contains i then .no else(po (O[i]?).join s).bind λx s=>(pv C e O s).bind λy s=>(Zb3 op x y s).bind λz s=>.ok (.nx (O.set i<|aa z) os) s
 |.put (.v i) k e,O,os,s=>if os.contains i then(pv C e O s).bind λv s=>if v.flat then(po (XV O[i]?) s).bind λxs s=>(pv C k O s).bind λy s=>match y with
   |.int n=>(po (ixN xs.length n) s).bind λj s=>.ok (.nx (O.set i<|aa<|.lst<|xs.set j v) os) s
   |_=>.no
  else .no else .no
 |.put _ _ _,_,_,_=>.no
 |.dput (.v i) k e,O,os,s=>if os.contains i then(pv C e O s).bind λv s=>if isT v=aj then(po (Zcp O[i]?) s).bind λks s=>(pv C k O s).bind λy s=>(po (Zbn y) s).bind λr s=>if ks.length<lim then .ok (.nx (O.set i<|aa<|.dow<|Z8 ks r) os) s else .no
  else .no else .no
 |.dput _ _ _,_,_,_=>.no
 |.ret e,O,os,s=>(pv C e O s).bind λv s=>.ok (.ret v) s
 |.ex (.mt .append (.v i) [e]),O,os,s=>if os.contains i then(po (XV O[i]?) s).bind λxs s=>(pv C e O s).bind λv s=>if v.flat=aj/\xs.length<lim then .ok (.nx (O.set i<|aa<|.lst<|xs++[v]) os) s else .no else .no
 |.ex (.mt .extend (.v i) [e]),O,os,s=>if os.contains i then(po (XV O[i]?) s).bind λxs s=>(pv C e (hide os O) s).bind λv s=>match v with
   |.lst ys=>if Y1 ys=aj/\xs.length+ys.length<=lim then .ok (.nx (O.set i<|aa<|.lst<|xs++ys) os) s else .no
   |_=>.no
  else .no
 |.ex e,O,os,s=>(pv C e O s).bind λ_ s=>.ok (.nx O os) s
 |.ite t a b,O,os,s=>(YF C t O s).bind λc s=>if c then rvs C ms a O os s else rvs C ms b O os s
 |.forr t it b,O,os,s=>(pvw C it (hide os O) s).bind λw s=>Yv (λx O os s=>if(t.any os.contains)=aj then .no else(po (Zf t x O) s).bind λO s=>rvs C ms b O os s) w O os s
 |.whl t b,O,os,s=>YG (YF C t) (rvs C ms b) Js O os s
 |.raise c as,O,os,s=>(pvs C as O s).bind λ_ s=>.ex c s
 |.pas,O,os,s=>.ok (.nx O os) s
 |.brk,O,os,s=>.ok (.brk O os) s
 |.cnt,O,os,s=>.ok (.cnt O os) s
 |.mov i j,O,os,s=>if(os.contains j&&(!os.contains i&&al (i≠j)))=aj then(po (XV O[j]?) s).bind λxs s=>.ok (.nx ((O.set i<|aa<|.lst xs).set j ae) (os.filter (· != j))) s else .no
 |.dset i e,O,os,s=>(pv C e O s).bind λv s=>match v with
  |.int x=>if okS x s.2=aj then match(O[i]?).join with
   |some .drw=>.ok (.nx O os) (x,s.2)
   |_=>.no
   else .no
  |_=>.no
 |.cel i f as b,O,os,s=>if os.isEmpty=aj then(pvs C as O s).bind λxs s=>(C f xs s).bind λv s=>(po (Vc v) s).bind λd s=>match rvs C ms b ((XT i O).set i<|aa .drw) [] d with
  |.ok (.nx O _) _=>.ok (.nx (O.map Ww) []) s
  |.ok (.cnt O _) _=>.ok (.cnt (O.map Ww) []) s
  |.ok (.brk O _) _=>.ok (.brk (O.map Ww) []) s
  |.ok (.ret v) _=>if v.flat=aj then .ok (.ret v) s else .no
  |_=>.no
  else .no
 |.retO i,O,os,s=>if os.contains i then(po (XV O[i]?) s).bind λxs s=>.ok (.ret<|.lst xs) s else .no
 |.dnw i k,O,os,s=>(pv C k O s).bind λy s=>(po (Zbn y) s).bind λr s=>if i<O.length then .ok (.nx (O.set i<|aa<|.dow [r]) (i::os.filter (· != i))) s else .no
 |.lnw i es,O,os,s=>(pvs C es (hide os O) s).bind λxs s=>if xs.length<=lim/\i<O.length then .ok (.nx (O.set i<|aa<|.lst xs) (i::os.filter (· != i))) s else .no
 |.cat i es,O,os,s=>if os.contains i then(po (XV O[i]?) s).bind λxs s=>(pvs C es (hide os O) s).bind λys s=>if ys.length<=lim/\xs.length+ys.length<=lim/\i<O.length then .ok (.nx (O.set i<|aa<|.lst<|xs++ys) (i::os.filter (· != i))) s else .no else .no
 |.app i e,O,os,s=>if os.contains i then(po (XV O[i]?) s).bind λxs s=>(pv C e (hide os O) s).bind λv s=>if xs.length<lim then .ok (.nx (O.set i<|aa<|.lst<|xs++[v]) os) s else .no else .no
 |.forF t e b,O,os,s=>(pvA C e O os s).bind λv s=>match v with
  |.lst w=>Yv (λx O os s=>if(t.any os.contains)=aj then .no else(po (Zf t x O) s).bind λO s=>rvs C ms b O os s) w O os s
  |_=>.no
noncomputable def rvs(C:Zt)(ms:List Nat):List Sm->Env->List Nat->DS->PR FlV
 |[],O,os,s=>.ok (.nx O os) s
 |m::ss,O,os,s=>(rv C ms m O os s).bind λf s=>match f with
  |.nx O os=>rvs C ms ss O os s
  |f=>.ok f s
end
mutual
noncomputable def zm:Sm->List Nat
 |.put (.v i) _ _=>[i]
 |.ex (.mt .append (.v i) _)=>[i]
 |.ex (.mt .extend (.v i) _)=>[i]
 |.ite _ a b=>muts a++muts b
 |.forr _ _ b=>muts b
 |.whl _ b=>muts b
 |.cel _ _ _ b=>muts b
 |.retO i=>[i]
 |.dput (.v i) _ _=>[i]
 |.forF _ _ b=>muts b
 |_=>[]
noncomputable def muts:List Sm->List Nat
 |[]=>[]
 |m::ss=>zm m++muts ss
end
noncomputable def ZH(n:Nat)(xs:List V):Env:=xs.map aa++aA (n-xs.length) ae
noncomputable def Y8(s:DS)(m:Int):Int×DS:=
 if s.2 then(s.1%m,(s.1 / m,aj))else
  let x:=(s.1*48271+29)%2147483647
  let y:=(x*x+39373*x+7)%2147483629
  let z:=(y*y+16807*y)%2147483587
  (z / 8%m,(x,ai))
noncomputable def jX(vs:List V)(s:DS):PR V:=match vs with
 |[.drw,.int m]=>if 0<m/\m<1073741824 then .ok (.int (Y8 s m).1) (Y8 s m).2 else .no
 |_=>.no
noncomputable def Zh(F:List Fn)(tk:Nat):Nat->Zt
 |0,_,_,_=>.no
 |d+1,f,xs,s=>if f=tk then jX xs s else match F[f]? with
  |some fn=>if xs.length=fn.ps then(rvs (Zh F tk d) (muts fn.body) fn.body (ZH fn.ns xs) [] s).bind λf s=>match f with
    |.ret v=>.ok v s
    |.nx _ _=>.ok .non s
    |_=>.no
   else .no
  |none=>.no
end Pv
namespace Sd
open PySem PySem.Spec PyProof.Rows L2
open Ev (E Sm Fn Bop Cop Ty Bf Mf)
noncomputable abbrev D:=Pv.V
noncomputable abbrev Zr:=Pv.DS
noncomputable abbrev Lc:=Pv.Env
noncomputable abbrev R:=Pv.PR
noncomputable abbrev Calls:=Pv.Zt
structure Mx where
 K:ao
 n0:Option aG
 X:aG->Prop
 xz:∀a,n0=aa a->X a
def Scr(K:ao)(H:Hp)(a:aG)(ns:List Int):Prop:=
 (∃o,H a=aa (.frz o<|.lst<|ns.map V.int))\/
  ∃(o:eX)(its:Array ap)(n:Nat),K.lookup a=aa o/\o.cls=.type "list"/\o.dict=ae/\o.data=.seq its n/\its.size<=aY/\Vals (ns.map V.int) its.toList
def Scr.sq{K:ao}{H:Hp}{a:aG}{ns:List Int}(h:Scr K H a ns):SqL K H a (ns.map V.int):=by
 rcases h with⟨o,h⟩|h
 .exact .inl<|.inr #[o,h]
 .exact .inr h
def Dct(H:Hp)(a:aG):Option (List<|List Int)->Prop
 |none=>∃vs,H a=aa (.dK vs)
 |some ks=>∃o vs,H a=aa (.frz o<|.dT vs)/\vs.map (·.1)=ks.map (·.map cC)
mutual
def Rep(O:Mx)(H:Hp):D->V->Prop
 |.non,v=>v=.non
 |.bl b,v=>v=.bl b
 |.int i,v=>v=.int i
 |.str x,v=>v=.str x
 |.tup ds,v=>∃a xs,v=.ref a/\H a=aa (.tup xs)/\Rq O H ds xs
 |.lst ds,v=>∃a xs,v=.ref a/\H a=aa (.lst xs)/\¬O.X a/\Rq O H ds xs
 |.drw,v=>∃a,v=.ref a/\O.n0=aa a
 |.dct o,v=>∃a,v=.ref a/\Dct H a o
 |.scr ns,v=>∃a,v=.ref a/\Scr O.K H a ns
 |.dow ks,v=>∃a vs,v=.ref a/\H a=aa (.dT vs)/\¬O.X a/\vs.map (·.1)=ks.map (·.map cC)
def Rq(O:Mx)(H:Hp):List D->List V->Prop
 |[],xs=>xs=[]
 |d::ds,xs=>∃v vs,xs=v::vs/\Rep O H d v/\Rq O H ds vs
end
structure Fut(O:Mx)(H:Hp)(ρ':Mx)(H':Hp):Prop where
 eq:ρ'=O
 keep:∀a o,H a=aa o->H' a=aa o\/(O.n0=aa a/\∃xs,o=.lst xs)\/((∃ps,o=.tbl ps)/\∃ps,H' a=aa (.tbl ps))
def Fut.refl(O:Mx)(H:Hp):Fut O H O H:=#[rfl,λ_ _ h=>.inl h]
def Fut.trans{O ρ1 ρ2:Mx}{H H1 H2:Hp}(a:Fut O H ρ1 H1)(b:Fut ρ1 H1 ρ2 H2):Fut O H ρ2 H2:=by
 obtain⟨rfl,f⟩:=a;obtain⟨rfl,g⟩:=b;refine#[rfl,λa o h=>(f a o h).elim (λh=>g a o h) λz=>z.elim (λz=>.inr<|.inl z) λ#[e,ps,h]=>?_]
 rcases g a _ h with q|⟨_,xs,q⟩|⟨_,q⟩
 .exact .inr<|.inr #[e,ps,q]
 .cases q
 .exact .inr<|.inr #[e,q]
def Fut.there(f:Fut O H ρ' H')(n:O.n0≠.some a)(h:H a≠ae):H' a≠ae:=by
 obtain⟨o,e⟩:=Option.ne_none_iff_exists'.mp h;rcases f.keep a o e with q|q|⟨_,_,q⟩
 .rw[q];intro z;cases z
 .exact T7 q.1 n
 .rw[q];intro z;cases z
def Fut.new(f:Fut O H ρ' H')(h:H' a=ae)(xd:∀a,O.X a->H' a≠ae):H a=ae:=by
 cases q:H a with
 |none=>rfl
 |some o=>
  rcases f.keep a o q with e|e|⟨_,_,e⟩
  .rw[h]at e;cases e
  .exact T7 h<|xd a<|O.xz a e.1
  .rw[h]at e;cases e
structure Lat(O:Mx)(H:Hp)(ρ':Mx)(H':Hp):Prop where
 K:ρ'.K=O.K
 n0:ρ'.n0=O.n0
 keep':∀a o,H a=aa o->(∀xs,o=.lst xs->¬O.X a)->(∀ps,o≠.tbl ps)->(∀vs,o=.dT vs->¬O.X a)->H' a=aa o
 X:∀a,H a≠ae->ρ'.X a->O.X a
def Lat.keep(f:Lat O H ρ' H')(a:aG)(o:HO)(h:H a=aa o)(x:∀xs,o=.lst xs->¬O.X a)(n:∀ps,o≠.tbl ps:=by intro _ z;cases z)(m:∀vs,o=.dT vs->¬O.X a:=by intro _ z;cases z):H' a=aa o:=f.keep' a o h x n m
mutual
theorem Rep.lat(f:Lat O H ρ' H'):∀{d:D}{v:V},Rep O H d v->Rep ρ' H' d v
 |.non,_,h|.bl _,_,h|.int _,_,h|.str _,_,h=>by exact h
 |.tup ds,v,h=>by
  obtain⟨a,xs,e,t,r⟩:=h;exact#[a,xs,e,f.keep a _ t (λ_ z=>by cases z),r.lat f]
 |.lst ds,v,h=>by
  obtain⟨a,xs,e,t,x,r⟩:=h;exact#[a,xs,e,f.keep a _ t λ_ _=>x,λz=>x (f.X a (by rw[t];intro z;cases z) z),r.lat f]
 |.drw,v,h=>by unfold Rep at h ⊢;rw[f.n0];exact h
 |.dct o,v,h=>by
  obtain⟨a,e,t⟩:=h;refine#[a,e,?_];cases o with|none=>obtain⟨vs,t⟩:=t;exact#[vs,f.keep a _ t λ_ z=>by cases z]|some ks=>obtain⟨o,vs,t,q⟩:=t;exact#[o,vs,f.keep a _ t (λ_ z=>by cases z),q]
 |.scr ns,v,h=>by
  unfold Rep at h ⊢;obtain⟨a,e,t⟩:=h;rw[f.K];refine#[a,e,?_];rcases t with⟨o,t⟩|t
  .exact .inl #[o,f.keep a _ t λ_ z=>by cases z]
  .exact .inr t
 |.dow ks,v,h=>by
  unfold Rep at h ⊢;obtain⟨a,vs,e,t,x,q⟩:=h;exact#[a,vs,e,f.keep a _ t (λ_ z=>by cases z) (by intro _ z;cases z) λ_ _=>x,λz=>x (f.X a (by rw[t];intro z;cases z) z),q]
theorem Rq.lat(f:Lat O H ρ' H'):∀{ds:List D}{xs:List V},Rq O H ds xs->Rq ρ' H' ds xs
 |[],_,h=>by exact h
 |d::ds,xs,h=>by
  obtain⟨v,vs,e,r,rs⟩:=h;exact#[v,vs,e,r.lat f,rs.lat f]
end
noncomputable def ZcU:bD:="law.<locals>.<lambda>"
def Tb(H:Hp):Prop:=∀(P:aG)(ps:Array ap),H P=aa (.tbl ps)->TriplesOk ps.toList/\∀(pos:gD)(cv:ap),codeAmong pos ps.toList=aa cv->
 ∃(c:aG)(oc:eX)(vs:Array ap)(t:nM),cv=.ref c/\H c=aa (.frz oc<|.own c)/\oc.data=.fields vs/\vs[1]?=aa (.str ZcU t)
theorem Tb.upd(h:Tb H)(hp:∀ob u,H p≠aa (.frz ob u))(ho:∀ps,o≠.tbl ps):Tb (upd H p o):=λP ps e=>by
 by_cases z:P=p
 .subst z;rw[Zo]at e;cases e;exact T7 rfl<|ho ps
 .rw[Zl z]at e
  obtain⟨a,b⟩:=h P ps e;refine#[a,λpos cv q=>?_]
  obtain⟨c,oc,vs,t,e1,e2,e3⟩:=b pos cv q;exact#[c,oc,vs,t,e1,by rw[Zl λz=>hp oc (.own c)<|by rw[<-z];exact e2];exact e2,e3]
structure St3(K:ao)(O:Mx)(S:Zr)(H:Hp):Prop where
 hk:O.K=K
 xd:∀a,O.X a->H a≠ae
 dw:∀a,O.n0=aa a->H a=aa (.lst [.int S.1,.bl S.2])/\Pv.okS S.1 S.2=aj
 tb:Tb H
def Fut.lat(f:Fut O H ρ' H'):Lat O H ρ' H':=by
 obtain⟨rfl,f⟩:=f;exact#[rfl,rfl,λa o h x n _=>(f a o h).elim id λz=>z.elim (λz=>T7 (ρ'.xz a z.1) (let #[xs,e]:=z.2;x xs e))<|by rintro ⟨⟨ps,e⟩,_⟩;exact T7 e<|n ps,λ_ _ h=>h]
def Rep.mono(f:Fut O H ρ' H')(h:Rep O H d v):Rep ρ' H' d v:=h.lat f.lat
def Rq.mono(f:Fut O H ρ' H')(h:Rq O H d v):Rq ρ' H' d v:=h.lat f.lat
section
variable{O:Mx}{H:Hp}{v:V}
def Rq.nil:Rq O H [] []:=by rfl
def Rq.cons{d:D}{v:V}{ds:List D}{vs:List V}(r:Rep O H d v)(rs:Rq O H ds vs):Rq O H (d::ds) (v::vs):=by
 exact#[v,vs,rfl,r,rs]
theorem Rq.length:∀{ds:List D}{xs:List V},Rq O H ds xs->xs.length=ds.length
 |[],_,h=>by rw[h];rfl
 |d::ds,xs,h=>by
  obtain⟨v,vs,rfl,_,rs⟩:=h;rw[aL,aL,Rq.length rs]
theorem Rq.append:∀{ds es:List D}{xs ys:List V},Rq O H ds xs->Rq O H es ys->Rq O H (ds++es) (xs++ys)
 |[],_,_,_,h,r=>by rw[h];exact r
 |d::ds,_,_,_,h,r=>by
  obtain⟨v,vs,rfl,a,rs⟩:=h;exact Rq.cons a<|Rq.append rs r
theorem Rq.take:∀{ds:List D}{xs:List V}(k:Nat),Rq O H ds xs->Rq O H (ds.take k) (xs.take k)
 |_,_,0,_=>Rq.nil
 |[],_,k+1,h=>by rw[h];exact Rq.nil
 |d::ds,_,k+1,h=>by
  obtain⟨v,vs,rfl,a,rs⟩:=h;exact Rq.cons a<|Rq.take k rs
theorem Rq.drop:∀{ds:List D}{xs:List V}(k:Nat),Rq O H ds xs->Rq O H (ds.drop k) (xs.drop k)
 |_,_,0,h=>h
 |[],_,k+1,h=>by rw[h];exact Rq.nil
 |d::ds,_,k+1,h=>by
  obtain⟨v,vs,rfl,a,rs⟩:=h;exact Rq.drop k rs
theorem Rq.get:∀{ds:List D}{xs:List V}{i:Nat}{d:D},Rq O H ds xs->ds[i]?=aa d->∃v,xs[i]?=aa v/\Rep O H d v
 |[],_,_,_,_,e=>by simp at e
 |d::ds,_,0,_,h,e=>by
  obtain⟨v,vs,rfl,a,rs⟩:=h;simp at e;subst e;exact#[v,rfl,a]
 |d::ds,_,i+1,_,h,e=>by
  obtain⟨v,vs,rfl,a,rs⟩:=h;obtain⟨u,q,r⟩:=Rq.get rs (by simpa using e)
  exact#[u,by simpa using q,r]
theorem Rq.reverse:∀{ds:List D}{xs:List V},Rq O H ds xs->Rq O H ds.reverse xs.reverse
 |[],_,h=>by rw[h];exact Rq.nil
 |d::ds,_,h=>by
  obtain⟨v,vs,rfl,a,rs⟩:=h;rw[d6,d6];exact Rq.append (Rq.reverse rs)<|Rq.cons a Rq.nil
theorem Rq.rep(h:Rq O H ds xs):∀k:Nat,Rq O H (aA k ds).flatten (aA k xs).flatten
 |0=>Rq.nil
 |k+1=>by
  rw[bI,bI,cD,cD];exact Rq.append h<|Rq.rep h k
theorem Rq.ints:∀ns:List Int,Rq O H (ns.map Pv.V.int) (ns.map V.int)
 |[]=>Rq.nil
 |n::ns=>Rq.cons (by rfl)<|Rq.ints ns
def Rep.int'{i:Int}(h:Rep O H (.int i) v):v=.int i:=by exact h
def Rep.bl'{b:Bool}(h:Rep O H (.bl b) v):v=.bl b:=by exact h
def Rep.non'(h:Rep O H .non v):v=.non:=by exact h
def Rep.str'{x:bD}(h:Rep O H (.str x) v):v=.str x:=by exact h
def Rep.tup'{ds:List D}(h:Rep O H (.tup ds) v):∃a xs,v=.ref a/\H a=aa (.tup xs)/\Rq O H ds xs:=by exact h
def Rep.lst'{ds:List D}(h:Rep O H (.lst ds) v):∃a xs,v=.ref a/\H a=aa (.lst xs)/\¬O.X a/\Rq O H ds xs:=by exact h
def Rep.drw'(h:Rep O H .drw v):∃a,v=.ref a/\O.n0=aa a:=by exact h
def Rep.dct'(h:Rep O H (.dct o) v):∃a,v=.ref a/\Dct H a o:=by exact h
def Rep.scr'(h:Rep O H (.scr ns) v):∃a,v=.ref a/\Scr O.K H a ns:=by exact h
def Rep.dow'{ks:List (List Int)}(h:Rep O H (.dow ks) v):∃a vs,v=.ref a/\H a=aa (.dT vs)/\¬O.X a/\vs.map (·.1)=ks.map (·.map cC):=by unfold Rep at h;exact h
def ZI(i:Int):Rep O H (.int i) (.int i):=by rfl
def Z4(b:Bool):Rep O H (.bl b) (.bl b):=by rfl
def zP:Rep O H .non .non:=by rfl
def uv(x:bD):Rep O H (.str x) (.str x):=by rfl
def YB(h:H a=aa (.tup xs))(r:Rq O H ds xs):Rep O H (.tup ds) (.ref a):=by exact#[a,xs,rfl,h,r]
def XR(h:H a=aa (.lst xs))(x:¬O.X a)(r:Rq O H ds xs):Rep O H (.lst ds) (.ref a):=by exact#[a,xs,rfl,h,x,r]
def Rep.seq(h:Rep O H x v)(e:Pv.Yj x=aa ds):∃p xs,v=.ref p/\(SqL O.K H p xs\/SqT O.K H p xs)/\Rq O H ds xs:=by
 cases x with|tup es=>cases e;obtain⟨p,xs,rfl,h,r⟩:=h.tup';exact#[p,xs,rfl,.inr<|SqT.of h,r]|lst es=>cases e;obtain⟨p,xs,rfl,h,_,r⟩:=h.lst';exact#[p,xs,rfl,.inl<|SqL.of h,r]|scr ns=>cases e;obtain⟨p,e,q⟩:=h.scr';exact#[p,_,e,.inl q.sq,Rq.ints ns]|_=>cases e
end
structure LocR(O:Mx)(H:Hp)(l:Lc)(U:L2.St):Prop where
 len:l.length=U.length
 val:∀(i:Nat)(d:D),l[i]?=aa (aa d)->∃v,U[i]?=aa (aa v)/\Rep O H d v
theorem LocR.mono(f:Fut O H ρ' H')(r:LocR O H l U):LocR ρ' H' l U:=
 #[r.len,λi d e=>let #[v,q,h]:=r.val i d e;#[v,q,h.mono f]]
theorem LocR.set(r:LocR O H l U)(i:Nat)(h:Rep O H d v):LocR O H (l.set i<|aa d) (U.set i<|aa v):=
 #[by rw[bc,bc];exact r.len,λj e q=>by
  rw[lV]at q ⊢;split at q
  .rename_i hij
   subst hij;split at q
   .rename_i hl
    cases q;rw[T9 rfl,T9<|by rw[<-r.len];exact hl]
    exact#[v,rfl,h]
   .cases q
  .rename_i hij
   rw[T8 hij];exact r.val j e q]
def End{B β:Type}(K:ao)(xw:Nat->Hp->Prop)(rep:Mx->Hp->B->β->Prop)(O:Mx)(H:Hp)(Q:β->Hp->Prop):R B->Prop
 |.ok d S=>∀ρ' H' v,Fut O H ρ' H'->St3 K ρ' S H'->rep ρ' H' d v->Q v H'
 |.ex c S=>∀ρ' H',Fut O H ρ' H'->St3 K ρ' S H'->xw c H'
 |.no=>False
section
variable{K:ao}{xw:Nat->Hp->Prop}{O ρ':Mx}{H H':Hp}{B β α' β':Type}{rep:Mx->Hp->B->β->Prop}{rep':Mx->Hp->α'->β'->Prop}
def End.mono{Q:β->Hp->Prop}(f:Fut O H ρ' H')(h:End K xw rep O H Q r):End K xw rep ρ' H' Q r:=by
 cases r with|ok d S=>exact λρ2 H2 v g st r=>h ρ2 H2 v (f.trans g) st r|ex c S=>exact λρ2 H2 g st=>h ρ2 H2 (f.trans g) st|no=>exact h
theorem End.bind{Q:β'->Hp->Prop}{Q1:β->Hp->Prop}(h:End K xw rep' O H Q (r.bind f))
  (k:∀d S ρ1 H1 v,Fut O H ρ1 H1->St3 K ρ1 S H1->rep ρ1 H1 d v->End K xw rep' ρ1 H1 Q (f d S)->Q1 v H1):End K xw rep O H Q1 r:=by
 cases r with|ok d S=>exact λρ1 H1 v g st r=>k d S ρ1 H1 v g st r<|End.mono g h|ex c S=>exact h|no=>exact h
theorem End.ok{Q:β->Hp->Prop}(h:End K xw rep O H Q (.ok a S))(st:St3 K O S H)(r:rep O H a v):Q v H:=h O H v (Fut.refl O H) st r
def End.ob{Q:β'->Hp->Prop}(h:End K xw rep' O H Q ((Pv.po o S).bind f)):∃a,o=aa a/\End K xw rep' O H Q (f a S):=by
 cases o with|none=>exact h.elim|some a=>exact#[a,rfl,h]
theorem End.po{Q:β->Hp->Prop}(h:End K xw rep O H Q (Pv.po o S)):∃a,o=aa a/\End K xw rep O H Q (.ok a S):=by
 cases o with|none=>exact h.elim|some a=>exact#[a,rfl,h]
theorem End.map{Q:β->Hp->Prop}(h:End K xw rep O H Q (Pv.po (o.map f) S)):∃a,o=aa a/\End K xw rep O H Q (.ok (f a) S):=by
 cases o with|none=>exact h.elim|some a=>exact#[a,rfl,h]
def End.ite{c:Prop}[Decidable c]{Q:β->Hp->Prop}(h:End K xw rep O H Q (if c then a else b)):(c/\End K xw rep O H Q a)\/(¬c/\End K xw rep O H Q b):=by
 split at h
 .exact .inl #[‹_›,h]
 .exact .inr #[‹_›,h]
def End.guard{c:Prop}[Decidable c]{Q:β->Hp->Prop}(h:End K xw rep O H Q (if c then a else .no)):c/\End K xw rep O H Q a:=by
 rcases h.ite with h|⟨_,h⟩
 .exact h
 .exact h.elim
end
abbrev nx:Nat->Hp->Prop:=λ_ _=>False
theorem End.nox{B β:Type}{K:ao}{xw:Nat->Hp->Prop}{O:Mx}{H:Hp}{rep:Mx->Hp->B->β->Prop}{Q:β->Hp->Prop}{r:R B}(h:End K xw rep O H Q r.nox):End K nx rep O H Q r:=by
 cases r with|ok d S=>exact h|ex c S=>exact h.elim|no=>exact h
def VE(_:Mx)(_:Hp)(a b:Bool):Prop:=a=b
def Zda(_:Mx)(_:Hp)(a b:Option Int):Prop:=a=b
section
variable(X:Cx)(xw:Nat->Hp->Prop)
def tE(f:Lc->Zr->R D):TE:=λU H Q=>∃O l S,St3 X.K O S H/\LocR O H l U/\End X.K xw Rep O H Q (f l S)
def tA(f:Lc->Zr->R (List D)):TA:=λU H Q=>∃O l S,St3 X.K O S H/\LocR O H l U/\End X.K xw Rq O H Q (f l S)
def tB3(f:Lc->Zr->R Bool):TT:=λU H Q=>∃O l S,St3 X.K O S H/\LocR O H l U/\End X.K xw VE O H Q (f l S)
def tO(f:Lc->Zr->R (Option Int)):TO:=λU H Q=>∃O l S,St3 X.K O S H/\LocR O H l U/\End X.K xw Zda O H Q (f l S)
variable(C:Calls)
structure CE(e:Expr)(i:E):Prop where
 h:PE X e (tE X xw<|Pv.pv C i)
structure CT(e:Expr)(i:E):Prop where
 h:PT X e (tB3 X xw<|Pv.YF C i)
structure CA(es:List Expr)(is:List E):Prop where
 h:PA X es (tA X xw<|Pv.pvs C is)
structure CO(e:Option Expr)(i:Option E):Prop where
 h:PO X e (tO X xw<|Pv.pvo C i)
end
def PE.imp(h:PE X e t)(k:∀U H Q,t' U H Q->t U H Q):PE X e t':=λpq s U H Q I q=>h pq s U H Q I<|k U H Q q
def PT.imp(h:PT X e t)(k:∀U H Q,t' U H Q->t U H Q):PT X e t':=λpq s U H Q I q=>h pq s U H Q I<|k U H Q q
def PA.imp(h:PA X e t)(k:∀U H Q,t' U H Q->t U H Q):PA X e t':=λpos pq s U H Q I q=>h pos pq s U H Q I<|k U H Q q
def PO.imp(h:PO X e t)(k:∀U H Q,t' U H Q->t U H Q):PO X e t':=λpq s U H Q I q=>h pq s U H Q I<|k U H Q q
section
variable{K:ao}{O ρ':Mx}{S:Zr}{H H':Hp}{a p:aG}
def Zp(hp:H p=ae):Fut O H O (upd H p o):=#[rfl,λb u h=>.inl<|by rw[Zl<|ZY h hp];exact h]
def St3.fresh(st:St3 K O S H)(hp:H p=ae)(ho:∀ps,o≠.tbl ps:=by intro _ z;cases z):St3 K O S (upd H p o):=
 have n:∀b,H b≠ae->b≠p:=λb h z=>h (by rw[z];exact hp)
 #[st.hk,λb h=>by rw[Zl<|n b<|st.xd b h];exact st.xd b h,λb h=>by
  have:=st.dw b h;rw[Zl<|n b<|by rw[this.1];intro z;cases z];exact this,st.tb.upd (λob u z=>by rw[hp]at z;cases z) ho]
def St3.nx(st:St3 K O S H)(hp:H p=ae):¬O.X p:=λz=>st.xd p z hp
end
def Yp:Ev.lim=aY:=by rw[du];rfl
section
variable{K:ao}{xw:Nat->Hp->Prop}{O:Mx}{H:Hp}{S:Zr}{Q:VK}
def End.newT(h:End K xw Rep O H Q (.ok (.tup ds) S))(st:St3 K O S H)(r:Rq O H ds xs):∀p,H p=ae->Q (.ref p) (upd H p<|.tup xs):=λp hp=>
 h O _ _ (Zp hp) (st.fresh hp) (YB Zo<|r.mono<|Zp hp)
def End.newL(h:End K xw Rep O H Q (.ok (.lst ds) S))(st:St3 K O S H)(r:Rq O H ds xs):∀p,H p=ae->Q (.ref p) (upd H p<|.lst xs):=λp hp=>
 h O _ _ (Zp hp) (st.fresh hp) (XR Zo (st.nx hp)<|r.mono<|Zp hp)
end
section
variable{X:Cx}{xw:Nat->Hp->Prop}{C:Calls}{e a b c:Expr}{i j k:E}{pos:gD}
def ZaQ{n:Int}{q}:CE X xw C (.Constant (.int n) q pos) (.c<|.int n):=.mk <| PE.imp Qc<|by rintro U H Q ⟨O,l,S,st,lr,h⟩;exact End.ok h st<|ZI n
def Zce{n:Bool}{q}:CE X xw C (.Constant (.bool n) q pos) (.c<|.bl n):=.mk <| PE.imp vM<|by rintro U H Q ⟨O,l,S,st,lr,h⟩;exact End.ok h st<|Z4 n
def Zbk{q}:CE X xw C (.Constant .none q pos) (.c .non):=.mk <| PE.imp Zbp<|by rintro U H Q ⟨O,l,S,st,lr,h⟩;exact End.ok h st zP
def ZaJ{x:bD}{q}:CE X xw C (.Constant (.str x) q pos) (.c<|.str x):=.mk <| PE.imp Za0<|by rintro U H Q ⟨O,l,S,st,lr,h⟩;exact End.ok h st<|uv x
def Zdg(n:Nat){x:bD}(hN:X.N[n]?=aa x)(hv:Vis X.env.scope x)(hd:(x == ("__debug__" : bD))=ai)
  (hcd:(x == ("__classdict__" : bD))=ai):CE X xw C (.Name x pos) (.v n):=.mk <| PE.imp (Vf hN hv hd hcd)<|by
 rintro U H Q ⟨O,l,S,st,lr,h⟩;rw[Pv.pv]at h;cases q:l[n]? with
 |none=>rw[q]at h;exact h.elim
 |some o=>
  cases o with
  |none=>rw[q]at h;exact h.elim
  |some d=>
   rw[q]at h;obtain⟨v,q2,r⟩:=lr.val n d q;exact#[v,q2,End.ok h st r]
def Zbq:CA X xw C [] []:=.mk <| PA.imp Gq<|by
 rintro U H Q ⟨O,l,S,st,lr,h⟩;rw[Pv.pvs]at h;exact End.ok h st Rq.nil
def u9{es:List Expr}{is:List E}(ha:CE X xw C e i)(hr:CA X xw C es is)(hs:aM (e::es) X.env=(ai,cV e X.env)::aM es X.env):CA X xw C (e::es) (i::is):=.mk <|
 PA.imp (WR ha.h hr.h hs)<|by
  rintro U H Q ⟨O,l,S,st,lr,h⟩;rw[Pv.pvs]at h;exact#[O,l,S,st,lr,h.bind λx S1 ρ1 H1 v f1 st1 r1 h1=>#[ρ1,l,S1,st1,lr.mono f1,h1.bind λxs S2 ρ2 H2 vs f2 st2 r2 h2=>h2.ok st2<|Rq.cons (r1.mono f2) r2]]
def Zbf{es:List Expr}{is:List E}{q}(h:CA X xw C es is):CE X xw C (.Tuple es q pos) (.tup is):=.mk <| PE.imp (ZaZ h.h)<|by
 rintro U H Q ⟨O,l,S,st,lr,h⟩;rw[Pv.pv]at h;refine#[O,l,S,st,lr,h.bind λxs S1 ρ1 H1 vs f1 st1 r1 h1=>?_]
 obtain⟨hl,h1⟩:=h1.guard;exact#[by rw[r1.length,<-Yp];exact hl,h1.newT st1 r1]
def Xa{r:R2}{g:D->D->Zr->R D}(hg:∀{O H S x y v u Q},St3 X.K O S H->Rep O H x v->Rep O H y u->End X.K xw Rep O H Q (g x y S)->r v u H Q) :
  ∀U H Q,tE X xw (λl S=>(Pv.pv C i l S).bind λx S=>(Pv.pv C j l S).bind λy S=>g x y S) U H Q->tOp r (tE X xw<|Pv.pv C i) (tE X xw<|Pv.pv C j) U H Q:=λU H Q #[O,l,S,st,lr,h]=>
 #[O,l,S,st,lr,h.bind λx S1 ρ1 H1 v f1 st1 r1 h1=>#[ρ1,l,S1,st1,lr.mono f1,h1.bind λy S2 ρ2 H2 u f2 st2 r2 h2=>hg st2 (r1.mono f2) r2 h2]]
end
def xm(K:ao):R2:=λx y H Q=>∃a b ys,x=.ref a/\y=.ref b/\SqT K H a []/\SqT K H b ys/\Q (.ref b) H
def wg:OpR X (d4 .Add) (xm X.K):=by
 intro pq s U H x y v u Q I rx ry h;obtain⟨a,b,ys,rfl,rfl,ha,hb,q⟩:=h;cases rx;cases ry;obtain⟨its,r1,p1,_⟩:=I.tuple ha;obtain⟨its2,r2,p2,_⟩:=I.tuple hb;have e0:=r1.nil_iff.mpr rfl;obtain⟨⟨cls,dd,data,sl⟩,ho,hc,n,hd⟩:=id p1;obtain⟨⟨cls2,dd2,data2,sl2⟩,ho2,hc2,n2,hd2⟩:=id p2;simp only at hc hd hc2 hd2;subst hc hd hc2 hd2;exact lL #[_,ho,rfl] #[_,ho2,rfl] iI k7 fK fG (fu _ _)
   (tuple_addW0 a b its.toArray its2.toArray n n2 dd dd2 sl sl2<|by rw[e0];rfl) #[ho,ho2,#[.ref b,H,I,rfl,q]]
def ZcY(K:ao):V->Option Int->Option Int->Hp->VK->Prop:=λx lo hi H Q=>∃a xs,x=.ref a/\SqT K H a xs/\
 (HT.sIx xs.length 0 lo=0/\HT.sIx xs.length xs.length hi=xs.length)/\Q (.ref a) H
def Xx{prog:bE}{w:bZ}{A:cQ}{E:ap->aw->Prop}{s:aw}{t sl:aG}{items:Array ap}{vl vu:ap}{lo hi:Option Int}{Q:ap->aw->Prop}(ht:lF s.heap t items)(hs:s.heap.IsSliceOf sl vl vu .none)(pl:gJ vl lo)(pu:gJ vu hi)
  (hw:HT.sIx items.size 0 lo=0/\HT.sIx items.size items.size hi=items.size)(h:Q (.ref t) s):aX (aS prog w) A (hZ (.ref t)<|.ref sl) Q E s:=by
 obtain⟨os,hos,hcs,hds⟩:=id hs;have hTs:s.TypeIs (.ref sl) "slice":=#[os,hos,hcs];unfold hZ
 try with_reducible refine bL ?_
 first|refine ab<|au ?_|skip
 refine ab<|h8 ht.typeIs (by decide) ?_
 refine ab (cn ht.typeIs bY
  (cM bY ht.typeIs gA ?_<|gM _ _))
 show aX _ _ (eS (.ref t) >>= _) _ _ s;refine ab<|k8 ht ?_;refine ab<|eY hTs ?_;rw[T9<|by decide]
 refine ab<|HT.YK hs pl pu ?_;have hyes:((((HT.sIx items.size 0 lo:Nat):Int) == 0&&(1:Int) == 1&&(HT.sIx items.size items.size hi-HT.sIx items.size 0 lo) == items.size)=aj):=by
  rw[hw.1,hw.2];simp
 show aX _ _ (if(((HT.sIx items.size 0 lo:Nat):Int) == 0&&(1:Int) == 1&&(HT.sIx items.size items.size hi-HT.sIx items.size 0 lo) == items.size)=aj then _ else _) _ _ s
 rw[T9 hyes];refine ab<|ab<|eY ht.typeIs<|au ?_;rw[T9<|by decide]
 exact ab<|eE<|au #[_,rfl,au h]
def xN:SlR X (ZcY X.K):=by
 intro pq s U H x v vl vu lo hi sl Q I rx hs pl pu h;obtain⟨a,xs,rfl,hx,hw,q⟩:=h;cases rx;obtain⟨its,r,ht,hz⟩:=I.tuple hx;have hlen:its.toArray.size=xs.length:=by rw[ax];exact r.length.symm
 refine#["tuple",_,bY.lookup,ht.typeIs,?_];exact Xx ht hs pl pu (by rw[hlen];exact hw) #[.ref a,H,I,rfl,q]
def z6(h:Ev.fits i=aj):kY i<=2^20:=by
 have h1:=T6 h;unfold kY;split
 .exact cR _
 .rename_i hz
  have hne:i.natAbs≠0:=by intro z;exact hz (by simp[Int.natAbs_eq_zero.mp z])
  have:=(Nat.log2_lt hne).mpr h1;have e:(2:Nat)^20=1048576:=by decide
  omega
def wS:OpR X (d4 .FloorDiv) (rI (λ_ j=>0<j/\j<Ev.big) λi j=>.int<|i / j):=opI λi j _ _ _ _ _ hc q=>by
 have h1:=hc.1;have h2:=hc.2;have hne:j.natAbs≠0:=by omega
 have h3:j.natAbs<2^8000:=by
  have e:(j.natAbs:Int)=j:=Int.natAbs_of_nonneg (by omega)
  have h4:(j.natAbs:Int)<((2^8000:Nat):Int):=by rw[e,Int.natCast_pow];exact h2
  exact Int.ofNat_lt.mp h4
 have h5:=(Nat.log2_lt hne).mpr h3;exact floordiv_int (by omega) (by rw[Int.fdiv_eq_ediv_of_nonneg i<|by omega];exact q)<|.inl<|PyProof.noPylong_of_log2<|by omega
def uP:OpR X (d4 .Mult) (rI (λi j=>Ev.fits i=aj/\Ev.fits j=aj) λi j=>.int<|i*j):=opI λ_ _ _ _ _ _ _ hc q=>mul_int q<|IntMulOk.of_bits (z6 hc.1)<|z6 hc.2
def Zbd:OpR X (cu .Is) (λx y H Q=>∃a b,x=.bl a/\y=.bl b/\Q (.bl<|al<|a=b) H):=by
 intro pq s U H x y v u Q I rx ry h;obtain⟨a,b,rfl,rfl,q⟩:=h;cases rx;cases ry;cases a<;>cases b<;>exact au #[.bl _,H,I,rfl,q]
def jf:OpR X (cu .IsNot) (λx y H Q=>∃a b,x=.bl a/\y=.bl b/\Q (.bl<|al<|a≠b) H):=by
 intro pq s U H x y v u Q I rx ry h;obtain⟨a,b,rfl,rfl,q⟩:=h;cases rx;cases ry;cases a<;>cases b<;>exact au #[.bl _,H,I,rfl,q]
def VO:fillsNumberSlot (.type "tuple") "mul" = cT ai:=
 PySem.fillsNumberSlot_seq iK.lookup (by decide +kernel) F.slot_tuple_rmul.lookup (by decide +kernel)
def Qf:seqRepeat? (.type "tuple")=cT (aa<|.builtin "tuple.__mul__"):=by
 unfold seqRepeat?
 rw[mv (name:="__mul__") iK.lookup (by decide +kernel),mv (name:="__rmul__") F.slot_tuple_rmul.lookup<|by decide +kernel]
 rfl
def Vh(a:Int)(t:nM)(l:aG)(items:Array ap)(n:Nat)(dd:Option aG)(sl:Array (Option ap)) :
  nq (dQ.«int.__rmul__» #[[.int a t,.ref l],[]]) (λ_ R s=>s.heap.get? l=aa {cls:=.type "tuple",dict:=dd,data:=.seq items n,slots:=sl}/\R (.ok<|.ret ap.notImplemented) s):=
 .of_wp λprog w A R s h=>by obtain⟨hp,g,d,tk,os⟩:=s;obtain⟨hl,h⟩:=h;wp_walk;exact#[_,rfl,h]
def UK(l:aG)(items:Array ap)(n:Nat)(dd:Option aG)(sl:Array (Option ap))(x:Int)(u:nM)(h0:¬(x < -(2^63)||x>=2^63)=aj)(hc:(items.isEmpty||x == 1)=aj) :
  nq (dQ.«tuple.__mul__» #[[.ref l,.int x u],[]]) (λ_ R s=>s.heap.get? l=aa {cls:=.type "tuple",dict:=dd,data:=.seq items n,slots:=sl}/\R (.ok<|.ret<|ck l) {s with heap:=s.heap,toks:=s.toks}):=
 .of_wp λprog w A R s h=>by obtain⟨hp,g,d,tk,os⟩:=s;obtain⟨hl,h⟩:=h;have f1:=iJ;have f2:=dq;wp_walk;rw[T8 h0];wp_walk using da hl;exact#[_,rfl,h]
def UX(l:aG)(items:Array ap)(n:Nat)(dd:Option aG)(sl:Array (Option ap))(x:Int)(u:nM)(h0:¬(x < -(2^63)||x>=2^63)=aj)(hc:¬(items.isEmpty||x == 1)=aj)(h1:(x<=0||items.isEmpty)=aj) :
  nq (dQ.«tuple.__mul__» #[[.ref l,.int x u],[]]) (λ_ R s=>s.heap.get? l=aa {cls:=.type "tuple",dict:=dd,data:=.seq items n,slots:=sl}/\R (.ok<|.ret<|ck s.heap.objs.size) {s with heap:=s.heap.push {cls:=.type "tuple",data:=.seq #[]},toks:=s.toks}):=
 .of_wp λprog w A R s h=>by obtain⟨hp,g,d,tk,os⟩:=s;obtain⟨hl,h⟩:=h;have f1:=iJ;have f2:=dq;wp_walk;rw[T8 h0];wp_walk using da hl;exact#[_,rfl,h]
def Jc(l:aG)(items:Array ap)(n:Nat)(dd:Option aG)(sl:Array (Option ap))(x:Int)(u:nM)(h0:¬(x < -(2^63)||x>=2^63)=aj)(hc:¬(items.isEmpty||x == 1)=aj)(h1:¬(x<=0||items.isEmpty)=aj)
  (h2:¬(items.size*x>(2^63-1) / 8))(h3:¬gO (items.size*x)=aj)(hsz:((aA x.toNat items).foldl (·++·) #[]).size<=aY) :
  nq (dQ.«tuple.__mul__» #[[.ref l,.int x u],[]]) (λ_ R s=>s.heap.get? l=aa {cls:=.type "tuple",dict:=dd,data:=.seq items n,slots:=sl}/\R (.ok<|.ret<|ck s.heap.objs.size) {s with heap:=s.heap.push {cls:=.type "tuple",data:=.seq ((aA x.toNat items).foldl (·++·) #[])},toks:=s.toks}):=
 .of_wp λprog w A R s h=>by obtain⟨hp,g,d,tk,os⟩:=s;obtain⟨hl,h⟩:=h;have f1:=iJ;have f2:=dq;wp_walk;rw[T8 h0];wp_walk using da hl;rw[T8 h2];wp_walk using da hl;exact#[_,rfl,h]
def jp(K:ao):R2:=λx y H Q=>∃a k xs,x=.ref a/\y=.int k/\SqT K H a xs/\(0<=k/\k<1000/\xs.length<=1000)/\
 ((xs=[]\/k=1)->Q (.ref a) H)/\(¬(xs=[]\/k=1)->∀p,H p=ae->Q (.ref p) (upd H p<|.tup (aA k.toNat xs).flatten))
def qT :OpR X (d4 .Mult) (jp X.K):=by
 intro pq s U H x y v u Q I rx ry h;obtain⟨a,k,xs,rfl,rfl,hx,⟨k0,k1,hz⟩,q1,q2⟩:=h;cases rx;obtain⟨t,rfl⟩:=ry;obtain⟨its,r,pt,_⟩:=I.tuple hx;have hl:=r.length;obtain⟨⟨cls,dd,data,sl⟩,ho,hc,n,hd⟩:=id pt;simp only at hc hd;subst hc hd;have h0:¬(al (k < -(2^63))||decide (k>=2^63))=aj:=by
  rw[T4 (by lia),T4<|by lia];exact aJ
 refine g9 (by decide) #[_,ho,rfl] (λs'=>i6 s' k t) VO mT gl Qf F.slot_int_index.lookup
  (fU gl (i6 s k t) mw (lW _ _) (Vh k t a its.toArray n dd sl) #[ho,rfl,#[_,ho,rfl],?_])
 have hnil:=r.nil_iff;by_cases c:xs=[]\/k=1
 .have c':(its.toArray.isEmpty||k == 1)=aj:=by
   rcases c with c|c
   .rw[hnil.mpr c];rfl
   .rw[c];simp
  exact fU iK #[_,ho,rfl] ic (gP _ _) (UK a its.toArray n dd sl k t h0 c') #[ho,#[.ref a,H,I,rfl,q1 c]]
 .have ne:=λz=>c (.inl<|hnil.mp z)
  have k1:k≠1:=λz=>c<|.inr z
  have c':¬(its.toArray.isEmpty||k == 1)=aj:=by
   rw[beq_eq_false_iff_ne.mpr k1,Bool.or_false,f7];cases its with|nil=>exact T7 rfl ne|cons _ _=>exact aJ
  have fin:∀arr:List ap,arr=(aA k.toNat its).flatten->EP X pq U Q (ck s.heap.objs.size) {s with heap:=s.heap.push {cls:=.type "tuple",data:=.seq arr.toArray}}:=λarr e=>by
   subst e;refine#[.ref s.heap.objs.size,_,I.laid (t':=s.toks) (λb ob q=>aq _ q) (az _) ?_,rfl,q2 c _<|I.hok.fresh<|az _]
   refine#[?_,_,r.rep k.toNat,gF _ _];rw[UR,du];have:k.toNat*xs.length<=1000*1000:=kI (by lia) hz
   lia
  by_cases z:k=0
  .have h1:(al (k<=0)||its.toArray.isEmpty)=aj:=by rw[z];rfl
   refine fU iK #[_,ho,rfl] ic (gP _ _) (UX a its.toArray n dd sl k t h0 c' h1) #[ho,?_];exact fin [] (by rw[z];rfl)
  .have h1:¬(al (k<=0)||its.toArray.isEmpty)=aj:=by
    rw[T4 (by lia),iu,f7]
    cases its with|nil=>exact T7 rfl ne|cons _ _=>exact aJ
   have hm:(its.toArray.size:Int)*k<=1000*1000:=by
    rw[ax,<-hl];exact nr (by lia) (by lia) k0 (by lia)
   have joined:(aA k.toNat its.toArray).foldl (·++·) #[]=(aA k.toNat its).flatten.toArray:=by
    have:=We its k.toNat [];rw[gn]at this;exact this
   have hsz:((aA k.toNat its.toArray).foldl (·++·) #[]).size<=aY:=by
    rw[joined,ax,UR,du,<-hl];have:k.toNat*xs.length<=1000*1000:=kI (by lia) hz
    lia
   refine fU iK #[_,ho,rfl] ic (gP _ _) (Jc a its.toArray n dd sl k t h0 c' h1 (by lia) (by
    unfold gO;rw[T4<|by rw[du];lia]
    exact aJ) hsz) #[ho,?_]
   rw[joined];exact fin _ rfl
def jI:R2:=λx y H Q=>∃a k xs,x=.ref a/\y=.int k/\H a=aa (.lst xs)/\(0<=k/\k<1000/\xs.length<=1000)/\∀p,H p=ae->Q (.ref p) (upd H p<|.lst (aA k.toNat xs).flatten)
def qk :OpR X (d4 .Mult) jI:=by
 intro pq s U H x y v u Q I rx ry h;obtain⟨a,k,xs,rfl,rfl,hx,⟨k0,k1,hz⟩,q2⟩:=h;cases rx;obtain⟨t,rfl⟩:=ry;obtain⟨its,r,pl,_⟩:=I.list<|SqL.of hx;have hl:=r.length;obtain⟨⟨cls,dd,data,sl⟩,n,ho,hc,hd2,hd⟩:=id pl;simp only at hc hd hd2;subst hc hd;have hm:k.toNat*its.length<=1000*1000:=kI (by lia) (by lia)
 have hm2:its.length*k.toNat<=1000*1000:=by rw[lZ];exact hm
 refine g9 (by decide) #[_,ho,rfl] (λs'=>i6 s' k t) noFill_list_mul mT gl repeat_list F.slot_int_index.lookup
  (fU gl (i6 s k t) mw (lW _ _) (lm_int_rmul_list_any k t a its.toArray n dd sl) #[ho,rfl,#[_,ho,rfl],
   fU F.slot_list_mul #[_,ho,rfl] F.entry_list_mul (F.args_list_mul_2 _ _) (lm_list_mul_any a its.toArray n dd sl k t (by simp[dQ.List.listFitsIndex];lia) (by rw[ax];lia)<|by rw[ax];simp[ir,aY];lia) #[ho,?_]])
 have joined:(aA (if its.toArray.isEmpty=aj then 0 else k.toNat) its.toArray).foldl (λx1 x2=>x1++x2) #[]=(aA k.toNat its).flatten.toArray:=by
  have h0:=We its k.toNat [];rw[gn]at h0;by_cases z:its=[]
  .subst z
   have e:∀m:Nat,(aA m ([]:List ap)).flatten=[]:=λm=>by induction m with|zero=>rfl|succ m ih=>rw[bI,cD,ih];rfl
   rw[e];rfl
  .rw[T8 (by rw[f7];cases its with|nil=>exact T7 rfl z|cons _ _=>exact aJ)]
   exact h0
 rw[joined];refine#[.ref s.heap.objs.size,_,I.laid (t':=s.toks) (λb ob q=>aq _ q) (az _) ?_,rfl,q2 _<|I.hok.fresh<|az _]
 refine#[?_,_,0,r.rep k.toNat,aI _ rfl];rw[UR,du];rw[hl];lia
section
variable{X:Cx}{xw:Nat->Hp->Prop}{C:Calls}{e a b c:Expr}{i j k:E}{pos:gD}
variable{O:Mx}{H:Hp}{S:Zr}{x y:D}{v u:V}{Q:VK}{K:ao}
def jB(K:ao):R2:=λx y H Q=>rI0 (λi j=>.int<|i+j) x y H Q\/(jG K x y H Q\/(xm K x y H Q\/Zcm x y H Q))
def qJ:OpR X (d4 .Add) (jB X.K):=ZaC.or<|jm.or<|wg.or xG
def Zbt(st:St3 K O S H)(rx:Rep O H x v)(ry:Rep O H y u)(h:End K xw Rep O H Q (Pv.Yz .add x y S)):jB K v u H Q:=by
 cases x with
 |int i=>cases y with|int j=>exact .inl #[i,j,rx.int',ry.int',End.ok h st<|ZI _]|_=>exact False.elim h
 |tup ds=>cases y with
  |tup es=>
   obtain⟨hl,h⟩:=End.guard h;obtain⟨p,xs,rfl,hp,r1⟩:=rx.tup';obtain⟨q,ys,rfl,hq,r2⟩:=ry.tup';have l1:=r1.length;have l2:=r2.length;by_cases z:xs=[]
   .subst z
    have e1:=fI.mp l1.symm;subst e1;exact .inr<|.inr<|.inl #[p,q,ys,rfl,rfl,SqT.of hp,SqT.of hq,End.ok h st<|YB hq r2]
   .refine .inr (.inl #[p,q,xs,ys,rfl,rfl,SqT.of hp,SqT.of hq,z,by rw[l1,l2,<-Yp];exact hl,λz2=>?_,λ_=>h.newT st<|r1.append r2])
    subst z2;have e2:=fI.mp l2.symm;subst e2;refine End.ok h st ?_;rw[cz];exact YB hp r1
  |_=>exact False.elim h
 |lst ds=>cases y with
  |lst es=>
   obtain⟨hl,h⟩:=End.guard h;obtain⟨p,xs,rfl,hp,_,r1⟩:=rx.lst';obtain⟨q,ys,rfl,hq,_,r2⟩:=ry.lst';exact .inr<|.inr<|.inr #[p,q,xs,ys,rfl,rfl,hp,hq,by rw[r1.length,r2.length,<-Yp];exact hl,h.newL st<|r1.append r2]
  |_=>exact False.elim h
 |_=>cases y<;>exact False.elim h
def Zbz(st:St3 K O S H)(rx:Rep O H x v)(ry:Rep O H y u)(h:End K xw Rep O H Q (Pv.Yz .sub x y S)):rI0 (λi j=>.int<|i-j) v u H Q:=by
 cases x with
 |int i=>cases y with|int j=>exact#[i,j,rx.int',ry.int',End.ok h st<|ZI _]|_=>exact False.elim h
 |_=>cases y<;>exact False.elim h
def jr(K:ao):R2:=λx y H Q=>rI (λi j=>Ev.fits i=aj/\Ev.fits j=aj) (λi j=>.int<|i*j) x y H Q\/(jp K x y H Q\/jI x y H Q)
def jd:OpR X (d4 .Mult) (jr X.K):=uP.or<|qT.or qk
def Zal(st:St3 K O S H)(rx:Rep O H x v)(ry:Rep O H y u)(h:End K xw Rep O H Q (Pv.Yz .mul x y S)):jr K v u H Q:=by
 cases x with
 |int i=>cases y with
  |int j=>
   obtain⟨hc,h⟩:=End.guard h;exact .inl #[i,j,rx.int',ry.int',(aD _ _).mp hc,End.ok h st<|ZI _]
  |_=>exact False.elim h
 |tup ds=>cases y with
  |int k=>
   obtain⟨⟨h0,h1,h2⟩,h⟩:=End.guard h;obtain⟨p,xs,rfl,hp,r1⟩:=rx.tup';have l1:=r1.length;refine .inr <| .inl #[p,k,xs,rfl,ry.int',SqT.of hp,#[h0,h1,by rw[l1];exact h2],λz=>?_,λ_=>h.newT st<|r1.rep k.toNat]
   refine End.ok h st<|YB hp ?_;rcases z with z|z
   .subst z
    have e1:=fI.mp l1.symm;subst e1;have:∀m:Nat,(aA m ([]:List D)).flatten=[]:=λm=>by induction m with|zero=>rfl|succ m ih=>rw[bI,cD,ih];rfl
    rw[this];exact Rq.nil
   .subst z
    show Rq O H (aA 1 ds).flatten xs;rw[bI,List.replicate_zero,cD,List.flatten_nil,cz];exact r1
  |_=>exact False.elim h
 |lst ds=>cases y with
  |int k=>
   obtain⟨⟨h0,h1,h2⟩,h⟩:=End.guard h;obtain⟨p,xs,rfl,hp,_,r1⟩:=rx.lst';exact .inr<|.inr #[p,k,xs,rfl,ry.int',hp,#[h0,h1,by rw[r1.length];exact h2],h.newL st<|r1.rep k.toNat]
  |_=>exact False.elim h
 |_=>cases y<;>exact False.elim h
def qx(st:St3 K O S H)(rx:Rep O H x v)(ry:Rep O H y u)(h:End K xw Rep O H Q (Pv.Yz .fdiv x y S)):rI (λ_ j=>0<j/\j<Ev.big) (λi j=>.int<|i / j) v u H Q:=by
 cases x with
 |int i=>cases y with
  |int j=>
   obtain⟨hc,h⟩:=End.guard h;exact#[i,j,rx.int',ry.int',hc,End.ok h st<|ZI _]
  |_=>exact False.elim h
 |_=>cases y<;>exact False.elim h
def Zbb(st:St3 K O S H)(rx:Rep O H x v)(ry:Rep O H y u)(h:End K xw Rep O H Q (Pv.Yz .mod x y S)):rI (λ_ j=>0<j) (λi j=>.int<|i%j) v u H Q:=by
 cases x with
 |int i=>cases y with
  |int j=>
   obtain⟨hc,h⟩:=End.guard h;exact#[i,j,rx.int',ry.int',hc,End.ok h st<|ZI _]
  |_=>exact False.elim h
 |_=>cases y<;>exact False.elim h
theorem Zbu(st:St3 K O S H)(rx:Rep O H x v)(ry:Rep O H y u)(h:End K xw Rep O H Q (Pv.Yz .pow x y S)):rI CPow (λi j=>.int<|i^j.toNat) v u H Q:=by
 cases x with
 |int i=>cases y with
  |int j=>
   obtain⟨hc,h⟩:=End.guard h;exact#[i,j,rx.int',ry.int',#[hc.1,by lia,hc.2.2],End.ok h st<|ZI _]
  |_=>exact False.elim h
 |_=>cases y<;>exact False.elim h
def Zbr(ha:CE X xw C a i)(hb:CE X xw C b j):CE X xw C (.BinOp a .Add b pos) (.bin .add i j):=.mk <| PE.imp (W8 qJ ha.h hb.h) (Xa λst rx ry h=>Zbt st rx ry h)
def Zbx(ha:CE X xw C a i)(hb:CE X xw C b j):CE X xw C (.BinOp a .Sub b pos) (.bin .sub i j):=.mk <| PE.imp (W8 Zaj ha.h hb.h) (Xa λst rx ry h=>Zbz st rx ry h)
def Zav(ha:CE X xw C a i)(hb:CE X xw C b j):CE X xw C (.BinOp a .Mult b pos) (.bin .mul i j):=.mk <| PE.imp (W8 jd ha.h hb.h) (Xa λst rx ry h=>Zal st rx ry h)
def jk(ha:CE X xw C a i)(hb:CE X xw C b j):CE X xw C (.BinOp a .FloorDiv b pos) (.bin .fdiv i j):=.mk <| PE.imp (W8 wS ha.h hb.h) (Xa λst rx ry h=>qx st rx ry h)
def Zbw(ha:CE X xw C a i)(hb:CE X xw C b j):CE X xw C (.BinOp a .Mod b pos) (.bin .mod i j):=.mk <| PE.imp (W8 Zau ha.h hb.h) (Xa λst rx ry h=>Zbb st rx ry h)
def Zba(ha:CE X xw C a i)(hb:CE X xw C b j):CE X xw C (.BinOp a .Pow b pos) (.bin .pow i j):=.mk <| PE.imp (W8 j7 ha.h hb.h) (Xa λst rx ry h=>Zbu st rx ry h)
def j4(ha:CE X xw C a i):CE X xw C (.UnaryOp .USub a pos) (.neg i):=.mk <| PE.imp (Zco ZaK ha.h)<|by
 rintro U H Q ⟨O,l,S,st,lr,h⟩;refine#[O,l,S,st,lr,End.bind (h) λx S1 ρ1 H1 v f1 st1 r1 h1=>?_]
 cases x with|int n=>exact#[n,r1.int',End.ok h1 st1<|ZI _]|_=>exact False.elim h1
def QW(st:St3 K O S H)(rx:Rep O H x v)(h:Pv.Zn x=aa n):qe K v H n:=by
 cases x with
 |non=>rw[rx.non'];exact(af h).symm
 |bl b=>rw[rx.bl'];exact(af h).symm
 |int i=>
  rw[rx.int'];have h':=af h;rw[<-h'];by_cases z:i=0
  .subst z;rfl
  .rw[T5 z];exact(bne_iff_ne.mpr z).symm
 |tup ds=>
  obtain⟨p,xs,rfl,hp,r⟩:=rx.tup';have h':=af h;refine .inr<|.inl #[xs,SqT.of hp,?_];rw[<-h'];have:=r.length;cases ds<;>cases xs<;>first|rfl|(simp at this)
 |lst ds=>
  obtain⟨p,xs,rfl,hp,_,r⟩:=rx.lst';refine .inl #[xs,SqL.of hp,?_];rw[<-af h];have:=r.length;cases ds<;>cases xs<;>first|rfl|(simp at this)
 |_=>cases h
def ZaI(ha:CE X xw C a i)(he:∀whole,isTrue a X.env whole=(do let v <-whole;m4 a.pos;iV [v] (truthy v))):CT X xw C a i:=.mk <|
 PT.imp (vV ha.h he)<|by
  rintro U H Q ⟨O,l,S,st,lr,h⟩;refine#[O,l,S,st,lr,End.bind (show End X.K xw VE O H Q ((Pv.pv C i l S).bind λx S=>Pv.po (Pv.Zn x) S)from h) λx S1 ρ1 H1 v f1 st1 r1 h1=>?_]
  cases q:Pv.Zn x with|none=>rw[q]at h1;exact False.elim h1|some n=>rw[q]at h1;exact#[n,QW st1 r1 q,End.ok h1 st1 rfl]
def Zax(ha:CT X xw C a i):CT X xw C (.UnaryOp .Not a pos) (.not i):=.mk <| PT.imp (ZaN ha.h)<|by
 rintro U H Q ⟨O,l,S,st,lr,h⟩;refine#[O,l,S,st,lr,?_];have h':End X.K xw VE O H Q (((Pv.pv C i l S).bind λx S=>(Pv.po (Pv.Zn x) S).bind λb S=>.ok (.bl !b) S).bind λx S=>Pv.po (Pv.Zn x) S):=h
 show End X.K xw VE O H (λc H1=>Q (!c) H1) ((Pv.pv C i l S).bind λx S=>Pv.po (Pv.Zn x) S)
 cases q:Pv.pv C i l S with
 |no=>rw[q]at h';exact h'
 |ex c S1=>rw[q]at h';exact h'
 |ok x S1=>
  rw[q]at h';show End X.K xw VE O H _ (Pv.po (Pv.Zn x) S1);have h2:End X.K xw VE O H Q (((Pv.po (Pv.Zn x) S1).bind λb S=>.ok (.bl !b) S).bind λx S=>Pv.po (Pv.Zn x) S):=h'
  cases t:Pv.Zn x with
  |none=>rw[t]at h2;exact h2
  |some n=>
   rw[t]at h2;intro ρ1 H1 w f1 st1 e;exact h2 ρ1 H1 (!w) f1 st1 (by rw[<-(e)];rfl)
def ZaY(ha:CE X xw C a i):CE X xw C (.UnaryOp .Not a pos) (.not i):=.mk <| by
 intro pq s U H Q I hq;obtain⟨O,l,S,st,lr,h⟩:=hq;have h':=h
 refine UnaryOp_<|thn (ha.h pq s U H (λv H1=>∃k,qe X.K v H1 k/\Q (.bl !k) H1) I #[O,l,S,st,lr,End.bind h' λx S1 ρ1 H1 v f1 st1 r1 h1=>?_]) λv s1 #[x,H1,I1,r1,q1]=>?_
 .cases q:Pv.Zn x with|none=>rw[q]at h1;exact False.elim h1|some n=>rw[q]at h1;exact#[n,QW st1 r1 q,End.ok h1 st1<|Z4 _]
 .obtain⟨k,tk,q2⟩:=q1
  refine not_of<|thn (xE pq s1 U H1 x v (λk' H'=>Q (.bl !k') H') I1 r1 #[k,tk,q2]) λk' s2 #[H2,I2,q3]=>?_
  exact#[.bl<|!k',H2,I2,rfl,q3]
def Za5{rest:List Expr}(ha:CE X xw C a i)(hb:CE X xw C (.BoolOp .And (b::rest) pos) j):CE X xw C (.BoolOp .And (a::b::rest) pos) (.and i j):=.mk <| PE.imp (jY ha.h hb.h)<|by
 rintro U H Q ⟨O,l,S,st,lr,h⟩;refine#[O,l,S,st,lr,End.bind (h) λx S1 ρ1 H1 v f1 st1 r1 h1=>?_]
 cases x with
 |bl c=>
  refine#[c,r1.bl',?_];cases c with|true=>exact#[ρ1,l,S1,st1,lr.mono f1,h1]|false=>exact End.ok h1 st1<|Z4 _
 |_=>exact False.elim h1
def Zay{op}(ha:CE X xw C a i):CE X xw C (.BoolOp op [a] pos) i:=.mk <| Za2 ha.h
structure CWh(X:Cx)(xw:Nat->Hp->Prop)(C:Calls)(e:Expr)(i:E):Prop where
 h:PW X e (tB3 X xw<|Pv.YF C i)
def CWh.ct(h:CWh X xw C e i):CT X xw C e i:=.mk <| PW.pt h.h
def PW.imp(h:PW X e t)(k:∀U H Q,t' U H Q->t U H Q):PW X e t':=λwh pq s U H Q I q=>h wh pq s U H Q I<|k U H Q q
def Za1(ha:CT X xw C a i):CWh X xw C (.BoolOp .Or [a] pos) i:=.mk <| j6 ha.h
def jR{rest:List Expr}(ha:CT X xw C a i)(hb:CWh X xw C (.BoolOp .Or (b::rest) pos) j):CWh X xw C (.BoolOp .Or (a::b::rest) pos) (.or i j):=.mk <| PW.imp (Zb5 ha.h hb.h)<|by
 rintro U H Q ⟨O,l,S,st,lr,h⟩;have h':End X.K xw VE O H Q (((Pv.pv C i l S).bind λx S=>match x with|.bl c=>if c then .ok (.bl aj) S else Pv.pv C j l S|_=>.no).bind λx S=>Pv.po (Pv.Zn x) S):=h
 refine#[O,l,S,st,lr,?_];show End X.K xw VE O H _ ((Pv.pv C i l S).bind λx S=>Pv.po (Pv.Zn x) S)
 cases q:Pv.pv C i l S with
 |no=>rw[q]at h';exact h'
 |ex c S1=>rw[q]at h';exact h'
 |ok x S1=>
  rw[q]at h';cases x with
  |bl n=>
   intro ρ1 H1 w f1 st1 e;have e':n=w:=e;subst e';cases n with|false=>exact#[ρ1,l,S1,st1,lr.mono f1,End.mono f1 (h')]|true=>exact(h') ρ1 H1 aj f1 st1 rfl
  |_=>exact False.elim h'
end
theorem Vq{f:D->D->Option Bool}(hf:∀x y v b,Rep O H x v->Rep O H y v->f x y=aa b->b=aj):∀{ds es:List D}{xs:List V}{b:Bool},Rq O H ds xs->Rq O H es xs->Pv.Yt f ds es=aa b->b=aj
 |[],[],_,b,_,_,h=>(af h).symm
 |d::ds,e::es,_,b,r1,r2,h=>by
  obtain⟨v,vs,rfl,a1,b1⟩:=r1;obtain⟨v',vs',e',a2,b2⟩:=r2;cases e';unfold Pv.Yt at h;cases q1:f d e with
  |none=>rw[q1]at h;cases h
  |some p=>
   cases q2:Pv.Yt f ds es with
   |none=>rw[q1,q2]at h;cases h
   |some q=>
    rw[q1,q2]at h;have h':=af h;rw[<-h',hf d e v p a1 a2 q1,Vq hf b1 b2 q2];rfl
 |[],_::_,_,b,r1,r2,h=>by
  have l1:=r1.length;have l2:=r2.length;rw[l1]at l2;simp at l2
 |_::_,[],_,b,r1,r2,h=>by
  have l1:=r1.length;have l2:=r2.length;rw[l1]at l2;simp at l2
def Rep.sc{x y:D}{v:V}(r1:Rep O H x v)(r2:Rep O H y v)(h:∀a,v≠.ref a):x=y:=by
 cases x<;>cases y<;>unfold Rep at r1 r2<;>subst_vars<;>first
  |rfl
  |(cases r2;rfl)
  |(cases r1;rfl)
  |(obtain⟨a,z,_⟩:=r1;exact T7 z<|h a)
  |(obtain⟨a,z,_⟩:=r2;exact T7 z<|h a)
  |(obtain⟨a,_,z,_⟩:=r1;exact T7 z<|h a)
  |(obtain⟨a,_,z,_⟩:=r2;exact T7 z<|h a)
  |cases r1
  |cases r2
def uc{k:Nat}{x:D}{v:V}{b:Bool}(r:Rep O H x v)(hv:∀a,v≠.ref a)(h:Pv.eqV (k+1) x x=aa b):b=aj:=by
 cases x<;>first
  |exact(af h).symm
  |(rw[<-af h];exact T5 rfl)
  |exact Ev.nos h
  |(obtain⟨a,_,z,_⟩:=r.tup';exact T7 z<|hv a)
  |(obtain⟨a,_,z,_⟩:=r.lst';exact T7 z<|hv a)
theorem Rep.ref{x:D}{p:aG}(r:Rep O H x (.ref p)){y:D}{k:Nat}{b:Bool}(h:Pv.eqV (k+1) x y=aa b\/Pv.eqV (k+1) y x=aa b):(∃ds es,x=.tup ds/\y=.tup es)\/∃ds es,x=.lst ds/\y=.lst es:=by
 cases x with
 |tup ds=>cases y<;>first|exact .inl #[_,_,rfl,rfl]|(rcases h with h|h<;>exact Ev.nos h)
 |lst ds=>cases y<;>first|exact .inr #[_,_,rfl,rfl]|(rcases h with h|h<;>exact Ev.nos h)
 |non=>cases r.non'
 |bl _=>cases r.bl'
 |int _=>cases r.int'
 |str _=>cases r.str'
 |_=>cases y<;>rcases h with h|h<;>exact Ev.nos h
theorem XZ:∀(k:Nat)(x y:D)(v:V)(b:Bool),Rep O H x v->Rep O H y v->Pv.eqV k x y=aa b->b=aj
 |0,_,_,_,_,_,_,h=>by cases h
 |k+1,x,y,v,b,r1,r2,h=>by
  by_cases hv:∃a,v=.ref a
  .obtain⟨p,rfl⟩:=hv
   rcases r1.ref (.inl h)with⟨ds,es,rfl,rfl⟩|⟨ds,es,rfl,rfl⟩
   .obtain⟨_,_,z,e1,q1⟩:=r1.tup'
    cases z;obtain⟨_,_,z,e2,q2⟩:=r2.tup';cases z;rw[e1]at e2;cases e2;exact Vq (λx y v b=>XZ k x y v b) q1 q2 h
   .obtain⟨_,_,z,e1,_,q1⟩:=r1.lst'
    cases z;obtain⟨_,_,z,e2,_,q2⟩:=r2.lst';cases z;rw[e1]at e2;cases e2;have h:(if ds.length=es.length then Pv.Yt (Pv.eqV k) ds es else aa ai)=aa b:=h
    rw[T9<|by rw[<-q1.length,q2.length]]at h
    exact Vq (λx y v b=>XZ k x y v b) q1 q2 h
  .have hv:=λa z=>hv #[a,z]
   cases r1.sc r2 hv;exact uc r1 hv h
noncomputable def eAt(f:D->D->Option Bool)(ds es:List D)(j:Nat):Bool:=match ds[j]?,es[j]? with
 |some x,aa y=>(f x y).getD ai
 |_,_=>ai
theorem YA{f:D->D->Option Bool}:∀{ds es:List D}{b:Bool},Pv.Yt f ds es=aa b->
  ((aU<|nI ds.length es.length).all (eAt f ds es)&&ds.length == es.length)=b/\∀j x y,ds[j]?=aa x->es[j]?=aa y->f x y=aa (eAt f ds es j)
 |[],[],b,h=>#[af h,λj x y e=>by simp at e]
 |[],_::es,b,h=>#[by rw[<-af h];simp,λj x y e=>by simp at e]
 |_::ds,[],b,h=>#[by rw[<-af h];simp,λj x y _ e=>by simp at e]
 |d::ds,e::es,b,h=>by
  unfold Pv.Yt at h;cases q1:f d e with
  |none=>rw[q1]at h;cases h
  |some p=>
   cases q2:Pv.Yt f ds es with
   |none=>rw[q1,q2]at h;cases h
   |some q=>
    rw[q1,q2]at h;obtain⟨ih,ih2⟩:=YA q2;have h':=af h;have e0:eAt f (d::ds) (e::es) 0=p:=by simp[eAt,q1]
    have es':∀j,eAt f (d::ds) (e::es) (j+1)=eAt f ds es j:=λj=>by simp[eAt]
    refine#[?_,λj x y hx hy=>?_]
    .rw[<-h',<-ih,aL,aL,Nat.succ_min_succ,i7,fY,e0,List.all_map]
     have:((aU<|nI ds.length es.length).all<|eAt f (d::ds) (e::es)∘Nat.succ)=(aU<|nI ds.length es.length).all (eAt f ds es):=by
      exact congrArg (λg=>(aU<|nI ds.length es.length).all g)<|funext λj=>es' j
     rw[this,Bool.and_assoc]
     congr 2
     simp
    .cases j with
     |zero=>
      simp at hx hy;subst hx hy;rw[e0];exact q1
     |succ j=>
      rw[es' j];exact ih2 j x y (by simpa using hx) (by simpa using hy)
def Xn{A:cQ}{k:Nat}(h:A.units+(k+1)<db):A.in1.units+k<db:=by
 have e:A.in1.units<=A.units+1:=by
  first|exact az _|(simp[cQ.in1,cQ.units]<;>lia)
 lia
theorem GF(I:Inv X pq U H s):∀(k:Nat)(A:cQ)(x y:D)(v u:V)(vv uu:ap)(b:Bool),A.units+k<db->Rep O H x v->Rep O H y u->Zs v vv->Zs u uu->Pv.eqV k x y=aa b->fT A s vv uu b
 |0,_,_,_,_,_,_,_,_,_,_,_,_,_,h=>by cases h
 |k+1,A,x,y,v,u,vv,uu,b,hu,r1,r2,e1,e2,h=>by
  have flat:zY v=aj->zY u=aj->eqV v u=b->fT A s vv uu b:=λf1 f2 e=>by rw[<-e];exact Za7 e1 e2 f1 f2
  have bb:∀{a c:Bool},(a == c)=al (a=c):=λ{a c}=>by cases a<;>cases c<;>rfl
  have ii:∀{a c:Int},(a == c)=al (a=c):=λ{a c}=>by rw[cK];simp
  have ss:∀{a c:bD},(a == c)=al (a=c):=λ{a c}=>by rw[cK];simp
  have item:∀{ds es:List D}{xs ys:List V}(j:Nat)(its its2:List ap)(j1:j<its.toArray.size)(j2:j<its2.toArray.size),its.toArray.size=ds.length->its2.toArray.size=es.length->Vals xs its->Vals ys its2->Rq O H ds xs->Rq O H es ys->(∀j x y,ds[j]?=aa x->es[j]?=aa y->Pv.eqV k x y=aa (eAt (Pv.eqV k) ds es j))->fT A.in1 s its.toArray[j] its2.toArray[j] (eAt (Pv.eqV k) ds es j):=λ{ds es xs ys} j its its2 j1 j2 n1 n2 v1 v2 q1 q2 ea=>by
   have d1:ds[j]?=aa ds[j]:=ag (by lia)
   have d2:es[j]?=aa es[j]:=ag (by lia)
   obtain⟨w1,g1,z1⟩:=q1.get d1;obtain⟨w2,g2,z2⟩:=q2.get d2;obtain⟨m1,k1,y1⟩:=v1.get g1;obtain⟨m2,k2,y2⟩:=v2.get g2;have o1:its.toArray[j]=m1:=by simpa using(a8.mp k1).2
   have o2:its2.toArray[j]=m2:=by simpa using(a8.mp k2).2
   rw[o1,o2];exact GF I k A.in1 ds[j] es[j] w1 w2 m1 m2 _ (Xn hu) z1 z2 y1 y2<|ea j _ _ d1 d2
  cases x with
  |non=>
   cases r1.non';cases y with|non=>cases r2.non';exact flat rfl rfl<|af h|bl _=>cases r2.bl';exact flat rfl rfl<|af h|int _=>cases r2.int';exact flat rfl rfl<|af h|str _=>cases r2.str';exact flat rfl rfl<|af h|_=>exact Ev.nos h
  |bl i=>
   cases r1.bl';cases y with|non=>cases r2.non';exact flat rfl rfl<|af h|bl _=>cases r2.bl';exact flat rfl rfl<|bb.trans<|af h|int _=>cases r2.int';exact flat rfl rfl<|ii.trans<|af h|str _=>cases r2.str';exact flat rfl rfl<|af h|_=>exact Ev.nos h
  |int i=>
   cases r1.int';cases y with|non=>cases r2.non';exact flat rfl rfl<|af h|bl _=>cases r2.bl';exact flat rfl rfl<|ii.trans<|af h|int _=>cases r2.int';exact flat rfl rfl<|ii.trans<|af h|str _=>cases r2.str';exact flat rfl rfl<|af h|_=>exact Ev.nos h
  |str i=>
   cases r1.str';cases y with|non=>cases r2.non';exact flat rfl rfl<|af h|bl _=>cases r2.bl';exact flat rfl rfl<|af h|int _=>cases r2.int';exact flat rfl rfl<|af h|str _=>cases r2.str';exact flat rfl rfl<|ss.trans<|af h|_=>exact Ev.nos h
  |tup ds=>
   obtain⟨p,xs,rfl,hp,q1⟩:=r1.tup';cases e1;cases y with
   |tup es=>
    obtain⟨p',ys,rfl,hp',q2⟩:=r2.tup';cases e2;by_cases hpp:p=p'
    .subst hpp
     rw[XZ (k+1) (.tup ds) (.tup es) (.ref p) b r1 r2 h];exact gj _
    .obtain⟨its,v1,t1,_⟩:=I.tuple (SqT.of hp)
     obtain⟨its2,v2,t2,_⟩:=I.tuple<|SqT.of hp';have h':=h;obtain⟨ev,ea⟩:=YA h';have n1:its.toArray.size=ds.length:=by rw[ax,<-v1.length,q1.length]
     have n2:its2.toArray.size=es.length:=by rw[ax,<-v2.length,q2.length]
     refine gQ hpp ?_;rw[<-ev,<-n1,<-n2];exact ig t1 t2 (by lia) λj j1 j2=>item j its its2 j1 j2 n1 n2 v1 v2 q1 q2 ea
   |_=>exact Ev.nos h
  |lst ds=>
   obtain⟨p,xs,rfl,u1,_,q1⟩:=r1.lst';cases e1;cases y with
   |lst es=>
    obtain⟨p',ys,rfl,u2,_,q2⟩:=r2.lst';cases e2;by_cases hpp:p=p'
    .subst hpp
     rw[XZ (k+1) (.lst ds) (.lst es) (.ref p) b r1 r2 h];exact gj _
    .obtain⟨its,v1,p1,_⟩:=I.list (SqL.of u1)
     obtain⟨its2,v2,p2,_⟩:=I.list<|SqL.of u2;have n1:its.toArray.size=ds.length:=by rw[ax,<-v1.length,q1.length]
     have n2:its2.toArray.size=es.length:=by rw[ax,<-v2.length,q2.length]
     refine gQ hpp ?_;have h2:(if ds.length=es.length then Pv.Yt (Pv.eqV k) ds es else aa ai)=aa b:=h
     by_cases hl:ds.length=es.length
     .rw[T9 hl]at h2
      obtain⟨ev,ea⟩:=YA h2;have ev':(aU ds.length).all (eAt (Pv.eqV k) ds es)=b:=by
       rw[<-ev,<-hl,l0];simp
      rw[<-ev',<-n1];exact my p1.isList p2.isList (by lia) (by lia) λj j1 j2=>item j its its2 j1 j2 n1 n2 v1 v2 q1 q2 ea
     .rw[T8 hl]at h2
      rw[<-af h2];exact iw p1.isList p2.isList (bne_iff_ne.mpr<|by lia) (by lia)
   |_=>exact Ev.nos h
  |_=>exact Ev.nos h
def Wc(I:Inv X pq U H s){k:Nat}{A:cQ}{ds es:List D}{xs ys:List V}{its its2:List ap}{b:Bool}(hu:A.units+(k+1)<db)
  (q1:Rq O H ds xs)(q2:Rq O H es ys)(v1:Vals xs its)(v2:Vals ys its2)(h:Pv.Yt (Pv.eqV k) ds es=aa b) :
  ∀j (h1:j<its.toArray.size) (h2:j<its2.toArray.size),fT A.in1 s its.toArray[j] its2.toArray[j] (eAt (Pv.eqV k) ds es j):=λj j1 j2=>by
 obtain⟨_,ea⟩:=YA h;have n1:its.toArray.size=ds.length:=by rw[ax,<-v1.length,q1.length]
 have n2:its2.toArray.size=es.length:=by rw[ax,<-v2.length,q2.length]
 have d1:ds[j]?=aa ds[j]:=ag (by lia)
 have d2:es[j]?=aa es[j]:=ag (by lia)
 obtain⟨w1,g1,z1⟩:=q1.get d1;obtain⟨w2,g2,z2⟩:=q2.get d2;obtain⟨m1,k1,y1⟩:=v1.get g1;obtain⟨m2,k2,y2⟩:=v2.get g2;have o1:its.toArray[j]=m1:=by
  have:=a8.mp k1
  simpa using this.2
 have o2:its2.toArray[j]=m2:=by
  have:=a8.mp k2
  simpa using this.2
 rw[o1,o2];exact GF I k A.in1 ds[j] es[j] w1 w2 m1 m2 _ (Xn hu) z1 z2 y1 y2<|ea j _ _ d1 d2
def uA(K:ao)(xw:Nat->Hp->Prop)(op:Cop):R2:=λv u H Q=>∃O S x y,St3 K O S H/\Rep O H x v/\Rep O H y u/\End K xw Rep O H Q (Pv.po (Pv.Yh op x y) S)
def Zaw :∀U H Q,tE X xw (Pv.pv C<|.cmp op i j) U H Q->tOp (uA X.K xw op) (tE X xw<|Pv.pv C i) (tE X xw<|Pv.pv C j) U H Q:=λU H Q h=>
 Xa (λ{O H S x y v u Q} st rx ry h=>#[O,S,x,y,st,rx,ry,h]) U H Q h
def dI{a c:Int}:(a == c)=al (a=c):=by rw[cK];simp
def z9{H:Hp}{O:Mx}{k:Nat}{x y:D}{v u:V}{b:Bool}(rx:Rep O H x v)(ry:Rep O H y u)(hb:Pv.eqV (k+1) x y=aa b):(scal v u=aj/\al (v=u)=b)\/(∃i j,v=.bl i/\u=.int j/\al (Ev.b2i i=j)=b)\/(∃i j,v=.int i/\u=.bl j/\al (i=Ev.b2i j)=b)\/(∃ds es,x=.tup ds/\y=.tup es/\Pv.Yt (Pv.eqV k) ds es=aa b)\/∃ds es,x=.lst ds/\y=.lst es/\(if ds.length=es.length then Pv.Yt (Pv.eqV k) ds es else aa ai)=aa b:=by
 cases x with
 |non=>cases rx.non';cases y with|non=>cases ry.non';exact .inl #[rfl,af hb▸by simp]|bl _=>cases ry.bl';exact .inl #[rfl,af hb]|int _=>cases ry.int';exact .inl #[rfl,af hb]|str _=>cases ry.str';exact .inl #[rfl,af hb]|_=>exact Ev.nos hb
 |bl i=>cases rx.bl';cases y with|non=>cases ry.non';exact .inl #[rfl,af hb]|bl j=>cases ry.bl';exact .inl #[rfl,af hb▸by simp]|int j=>cases ry.int';exact .inr<|.inl #[i,j,rfl,rfl,af hb]|str _=>cases ry.str';exact .inl #[rfl,af hb]|_=>exact Ev.nos hb
 |int i=>cases rx.int';cases y with|non=>cases ry.non';exact .inl #[rfl,af hb]|bl j=>cases ry.bl';exact .inr<|.inr<|.inl #[i,j,rfl,rfl,af hb]|int _=>cases ry.int';exact .inl #[rfl,af hb▸by simp]|str _=>cases ry.str';exact .inl #[rfl,af hb]|_=>exact Ev.nos hb
 |str i=>cases rx.str';cases y with|non=>cases ry.non';exact .inl #[rfl,af hb]|bl _=>cases ry.bl';exact .inl #[rfl,af hb]|int _=>cases ry.int';exact .inl #[rfl,af hb]|str _=>cases ry.str';exact .inl #[rfl,af hb▸by simp]|_=>exact Ev.nos hb
 |tup ds=>cases y with|tup es=>exact .inr<|.inr<|.inr<|.inl #[ds,es,rfl,rfl,hb]|_=>exact Ev.nos hb
 |lst ds=>cases y with|lst es=>exact .inr<|.inr<|.inr<|.inr #[ds,es,rfl,rfl,hb]|_=>exact Ev.nos hb
 |_=>exact Ev.nos hb
def j9(hu:X.A.units+6<db):OpR X (cu .Eq) (uA X.K xw .eq):=by
 intro pq s U H v u vv uu Q I e1 e2 h;obtain⟨O,S,x,y,st,rx,ry,h⟩:=h;obtain⟨b,hb,h1⟩:=End.map h;have q:=End.ok h1 st<|Z4 b;rcases z9 rx ry hb with⟨hs,e⟩|⟨i,j,rfl,rfl,e⟩|⟨i,j,rfl,rfl,e⟩|⟨ds,es,rfl,rfl,hb'⟩|⟨ds,es,rfl,rfl,h2⟩
 .exact Zct pq s U H v u vv uu Q I e1 e2 #[hs,by rw[e];exact q]
 .cases e1
  obtain⟨t,rfl⟩:=e2;refine EqBoolInt.eq_bool_int #[.bl b,H,I,?_,q];show bO ((if i then 1 else 0) == j)=bO b
  rw[dI];exact congrArg bO e
 .cases e2
  obtain⟨t,rfl⟩:=e1;refine EqBoolInt.eq_int_bool #[.bl b,H,I,?_,q];show bO (i == (if j then 1 else 0))=bO b
  rw[dI];exact congrArg bO e
 ·
  obtain⟨p,xs,rfl,hp,q1⟩:=rx.tup';cases e1;obtain⟨p',ys,rfl,hp',q2⟩:=ry.tup';cases e2;obtain⟨its,v1,t1,_⟩:=I.tuple<|SqT.of hp;obtain⟨its2,v2,t2,_⟩:=I.tuple<|SqT.of hp';obtain⟨ev,_⟩:=YA hb';have n1:its.toArray.size=ds.length:=by rw[ax,<-v1.length,q1.length]
  have n2:its2.toArray.size=es.length:=by rw[ax,<-v2.length,q2.length]
  refine ig t1 t2 (by lia) (Wc I hu q1 q2 v1 v2 hb') X.prog X.w X.xe _ ?_
  rw[n1,n2,ev];exact#[.bl b,H,I,rfl,q]
 ·
  obtain⟨p,xs,rfl,u1,_,q1⟩:=rx.lst';cases e1;obtain⟨p',ys,rfl,u2,_,q2⟩:=ry.lst';cases e2;obtain⟨its,v1,p1,_⟩:=I.list<|SqL.of u1;obtain⟨its2,v2,p2,_⟩:=I.list<|SqL.of u2;have n1:its.toArray.size=ds.length:=by rw[ax,<-v1.length,q1.length]
  have n2:its2.toArray.size=es.length:=by rw[ax,<-v2.length,q2.length]
  by_cases hl:ds.length=es.length
  .rw[T9 hl]at h2
   obtain⟨ev,_⟩:=YA h2;have ev':(aU ds.length).all (eAt (Pv.eqV 5) ds es)=b:=by
    rw[<-ev,<-hl,l0];simp
   refine my p1.isList p2.isList (by lia) (by lia) (Wc I hu q1 q2 v1 v2 h2) X.prog X.w X.xe _ ?_
   rw[n1,ev'];exact#[.bl b,H,I,rfl,q]
  .rw[T8 hl]at h2
   refine iw p1.isList p2.isList (bne_iff_ne.mpr<|by lia) (by lia) X.prog X.w X.xe _ ?_
   exact#[.bl b,H,I,congrArg bO<|af h2,q]
def ZaF(hu:X.A.units+6<db):OpR X (cu .NotEq) (uA X.K xw .ne):=by
 intro pq s U H v u vv uu Q I e1 e2 h;obtain⟨O,S,x,y,st,rx,ry,h⟩:=h;obtain⟨b,hb,h1⟩:=End.map h;have q:=End.ok h1 st<|Z4 _;rcases z9 rx ry hb with⟨hs,e⟩|⟨i,j,rfl,rfl,e⟩|⟨i,j,rfl,rfl,e⟩|⟨ds,es,rfl,rfl,hb'⟩|⟨ds,es,rfl,rfl,h2⟩
 .exact ZcO pq s U H v u vv uu Q I e1 e2 #[hs,by rw[e];exact q]
 .cases e1
  obtain⟨t,rfl⟩:=e2;refine EqBoolInt.ne_bool_int #[.bl !b,H,I,?_,q];show bO (!((if i then 1 else 0) == j))=bO !b
  rw[dI];exact congrArg (λz=>bO !z) e
 .cases e2
  obtain⟨t,rfl⟩:=e1;refine EqBoolInt.ne_int_bool #[.bl !b,H,I,?_,q];show bO (!(i == (if j then 1 else 0)))=bO !b
  rw[dI];exact congrArg (λz=>bO !z) e
 ·
  obtain⟨p,xs,rfl,hp,q1⟩:=rx.tup';cases e1;obtain⟨p',ys,rfl,hp',q2⟩:=ry.tup';cases e2;obtain⟨its,v1,t1,_⟩:=I.tuple<|SqT.of hp;obtain⟨its2,v2,t2,_⟩:=I.tuple<|SqT.of hp';obtain⟨ev,_⟩:=YA hb';have n1:its.toArray.size=ds.length:=by rw[ax,<-v1.length,q1.length]
  have n2:its2.toArray.size=es.length:=by rw[ax,<-v2.length,q2.length]
  refine SeqAt.RcNeAt.tuples t1 t2 (by lia) (Wc I hu q1 q2 v1 v2 hb') X.prog X.w X.xe _ ?_
  rw[n1,n2,ev];exact#[.bl !b,H,I,rfl,q]
 ·
  obtain⟨p,xs,rfl,u1,_,q1⟩:=rx.lst';cases e1;obtain⟨p',ys,rfl,u2,_,q2⟩:=ry.lst';cases e2;obtain⟨its,v1,p1,_⟩:=I.list<|SqL.of u1;obtain⟨its2,v2,p2,_⟩:=I.list<|SqL.of u2;have n1:its.toArray.size=ds.length:=by rw[ax,<-v1.length,q1.length]
  have n2:its2.toArray.size=es.length:=by rw[ax,<-v2.length,q2.length]
  by_cases hl:ds.length=es.length
  .rw[T9 hl]at h2
   obtain⟨ev,_⟩:=YA h2;have ev':(aU ds.length).all (eAt (Pv.eqV 5) ds es)=b:=by
    rw[<-ev,<-hl,l0];simp
   refine SeqAt.RcNeAt.lists p1.isList p2.isList (by lia) (by lia) (Wc I hu q1 q2 v1 v2 h2) X.prog X.w X.xe _ ?_
   rw[n1,ev'];exact#[.bl !b,H,I,rfl,q]
  .rw[T8 hl]at h2
   refine SeqAt.RcNeAt.lists_lengths p1.isList p2.isList (bne_iff_ne.mpr<|by lia) (by lia) X.prog X.w X.xe _ ?_
   exact#[.bl !b,H,I,congrArg (λz=>bO !z)<|af h2,q]
theorem UZ(hf:∀x x' y v b b',Rep O H x v->Rep O H x' v->f x y=aa b->f x' y=aa b'->b=b') :
  ∀{ds ds' es:List D}{xs:List V}{b b':Bool},Rq O H ds xs->Rq O H ds' xs->Pv.Yt f ds es=aa b->Pv.Yt f ds' es=aa b'->b=b'
 |[],[],[],_,b,b',_,_,h,h'=>(af h).symm.trans<|af h'
 |[],[],_::_,_,b,b',_,_,h,h'=>(af h).symm.trans<|af h'
 |_::_,_::_,[],_,b,b',_,_,h,h'=>(af h).symm.trans<|af h'
 |d::ds,d'::ds',e::es,_,b,b',r1,r2,h,h'=>by
  obtain⟨v,vs,rfl,a1,b1⟩:=r1;obtain⟨v',vs',e',a2,b2⟩:=r2;cases e';unfold Pv.Yt at h h';cases q1:f d e with
  |none=>rw[q1]at h;cases h
  |some p=>
   cases q2:Pv.Yt f ds es with
   |none=>rw[q1,q2]at h;cases h
   |some q=>
    cases q3:f d' e with
    |none=>rw[q3]at h';cases h'
    |some p'=>
     cases q4:Pv.Yt f ds' es with
     |none=>rw[q3,q4]at h';cases h'
     |some q'=>
      rw[q1,q2]at h;rw[q3,q4]at h';have z1:=af h;have z2:=af h';rw[<-z1,<-z2,hf d d' e v p p' a1 a2 q1 q3,UZ hf b1 b2 q2 q4]
 |[],_::_,_,_,b,b',r1,r2,_,_=>by
  have l1:=r1.length;have l2:=r2.length;rw[l1]at l2;simp at l2
 |_::_,[],_,_,b,b',r1,r2,_,_=>by
  have l1:=r1.length;have l2:=r2.length;rw[l1]at l2;simp at l2
theorem U0:∀(k:Nat)(x x' y:D)(v:V)(b b':Bool),Rep O H x v->Rep O H x' v->Pv.eqV k x y=aa b->Pv.eqV k x' y=aa b'->b=b'
 |0,_,_,_,_,_,_,_,_,h,_=>by cases h
 |k+1,x,x',y,v,b,b',r1,r2,h,h'=>by
  by_cases hv:∃a,v=.ref a
  .obtain⟨p,rfl⟩:=hv
   rcases r1.ref (.inl h)with⟨ds,es,rfl,rfl⟩|⟨ds,es,rfl,rfl⟩<;>rcases r2.ref (.inl h')with⟨ds',es',rfl,z⟩|⟨ds',es',rfl,z⟩<;>cases z
   .obtain⟨_,_,z,e1,q1⟩:=r1.tup'
    cases z;obtain⟨_,_,z,e2,q2⟩:=r2.tup';cases z;rw[e1]at e2;cases e2;exact UZ (λx x' y v b b'=>U0 k x x' y v b b') q1 q2 h h'
   .obtain⟨_,_,z,e1,_,q1⟩:=r1.lst'
    cases z;obtain⟨_,_,z,e2,_,q2⟩:=r2.lst';cases z;rw[e1]at e2;cases e2;have l:ds'.length=ds.length:=by rw[<-q1.length,q2.length]
    have h:(if ds.length=es.length then Pv.Yt (Pv.eqV k) ds es else aa ai)=aa b:=h
    have h':(if ds'.length=es.length then Pv.Yt (Pv.eqV k) ds' es else aa ai)=aa b':=h'
    rw[l]at h';by_cases c:ds.length=es.length
    .rw[T9 c]at h h'
     exact UZ (λx x' y v b b'=>U0 k x x' y v b b') q1 q2 h h'
    .rw[T8 c]at h h'
     exact af<|h.symm.trans h'
  .cases r1.sc r2 λa z=>hv #[a,z]
   exact af<|h.symm.trans h'
theorem UO :∀{ds:List D}{b:Bool},Pv.WG x ds=aa b->∀d∈ds,∃c,Pv.eqV Ev.ZJ d x=aa c
 |[],_,_,d,hd=>by cases hd
 |y::ys,b,h,d,hd=>by
  unfold Pv.WG at h;cases q1:Pv.eqV Ev.ZJ y x with
  |none=>rw[q1]at h;cases h
  |some p=>
   cases q2:Pv.WG x ys with
   |none=>rw[q1,q2]at h;cases h
   |some q=>
    rcases aC.mp hd with rfl|hd
    .exact#[p,q1]
    .exact UO q2 d hd
theorem ya :∀{ds:List D}{b:Bool},Pv.WG x ds=aa b->(ds.any λd=>(Pv.eqV Ev.ZJ d x).getD ai)=b
 |[],_,h=>af h
 |y::ys,b,h=>by
  unfold Pv.WG at h;cases q1:Pv.eqV Ev.ZJ y x with
  |none=>rw[q1]at h;cases h
  |some p=>
   cases q2:Pv.WG x ys with
   |none=>rw[q1,q2]at h;cases h
   |some q=>
    rw[q1,q2]at h;rw[fv,ya q2,q1,<-af h];rfl
open Classical in
def Q6(I:Inv X pq U H s)(hu:A.units+6<db)(rx:Rep O H x v)(ex:Zs v vv)
  (q:Rq O H ds xs)(vs:Vals xs its)(h:Pv.WG x ds=aa b):∃e:ap->Bool,(∀u,u∈its.toArray->fT A s u vv (e u))/\its.toArray.any e=b:=by
 refine#[λu=>al (∃d∈ds,∃w,Rep O H d w/\Zs w u/\Pv.eqV Ev.ZJ d x=aa aj),λu hu'=>?_,?_]
 .have hu2:u∈its:=by simpa using hu'
  obtain⟨j,hj,e⟩:=b8 hu2;have hl:j<ds.length:=by rw[<-q.length,vs.length];exact hj
  obtain⟨w,g,r⟩:=q.get<|ag hl;obtain⟨u',g',r'⟩:=vs.get g;have eu:u'=u:=by
   rw[ag hj]at g';exact(af g').symm.trans e
  subst eu;obtain⟨c,hc⟩:=UO h ds[j]<|aV hl;have ec:al (∃d∈ds,∃w,Rep O H d w/\Zs w u'/\Pv.eqV Ev.ZJ d x=aa aj)=c:=by
   cases c with
   |true=>exact T5 #[ds[j],aV hl,w,r,r',hc]
   |false=>
    refine T4 ?_
    rintro ⟨d,hd,w',a1,a2,a3⟩
    cases a2.inj r';exact T7 (U0 6 d ds[j] x w aj ai a1 r a3 hc) (by decide)
  dsimp only
  rw[ec];exact GF I 6 A ds[j] x w v u' vv c hu r rx r' ex hc
 .rw[<-ya h,List.any_toArray,cK,iL,iL]
  constructor
  .rintro ⟨u,hu1,h1⟩
   obtain⟨d,hd,w,a1,a2,a3⟩:=T6 h1;exact#[d,hd,by rw[a3];rfl]
  .rintro ⟨d,hd,h1⟩
   obtain⟨j,hj,e⟩:=b8 hd;subst e;obtain⟨w,g,r⟩:=q.get<|ag hj;obtain⟨u,g',r'⟩:=vs.get g;refine#[u,cW g',T5 #[ds[j],hd,w,r,r',?_]];obtain⟨c,hc⟩:=UO h ds[j] hd;rw[hc]at h1 ⊢;exact congrArg aa h1
section
variable{X:Cx}{xw:Nat->Hp->Prop}{C:Calls}{e a b c:Expr}{i j k:E}{pos p p':gD}
def uS(hu:X.A.units+7<db):OpR X (cu .NotIn) (λv u H Q=>∃O S x ds b,St3 X.K O S H/\Rep O H x v/\(Rep O H (.tup ds) u\/Rep O H (.lst ds) u)/\Pv.WG x ds=aa b/\Q (.bl !b) H):=by
 intro pq s U H v u vv uu Q I e1 e2 h;obtain⟨O,S,x,ds,b,st,rx,ry,hb,q⟩:=h;rcases ry with ry|ry
 .obtain⟨p,xs,rfl,hp,q1⟩:=ry.tup'
  cases e2;obtain⟨its,v1,t1,_⟩:=I.tuple<|SqT.of hp;obtain⟨f,h1,h2⟩:=Q6 I (Xn hu) rx e1 q1 v1 hb;exact SeqAt.notIn_tupleAt f t1 h1 (by rw[h2];exact#[.bl !b,H,I,rfl,q])
 .obtain⟨p,xs,rfl,hx,_,q1⟩:=ry.lst'
  cases e2;obtain⟨its,v1,t1,_⟩:=I.list<|SqL.of hx;obtain⟨f,h1,h2⟩:=Q6 I (Xn hu) rx e1 q1 v1 hb;exact SeqAt.notIn_listAt f t1.isList h1 (by rw[h2];exact#[.bl !b,H,I,rfl,q])
variable{O:Mx}{H:Hp}{S:Zr}{x y:D}{v u:V}{Q:VK}{K:ao}
def qQ(h:Pv.int2 x y=aa z):x=.int z.1/\y=.int z.2:=by
 cases x<;>first|exact Ev.nos h|(cases y<;>first|exact Ev.nos h|(cases h;exact#[rfl,rfl]))
def UH{f:Int×Int->Bool}(st:St3 K O S H)(rx:Rep O H x v)(ry:Rep O H y u)(h:End K xw Rep O H Q (Pv.po ((Pv.int2 x y).map λz=>.bl<|f z) S)):rI0 (λi j=>.bl<|f (i,j)) v u H Q:=by
 obtain⟨z,hz,h⟩:=End.map h;obtain⟨rfl,rfl⟩:=qQ hz;exact#[_,_,rx.int',ry.int',End.ok h st<|Z4 _]
def ZcM(st:St3 K O S H)(rx:Rep O H x v)(ry:Rep O H y u)(h:End K xw Rep O H Q (Pv.po (Pv.Yh .lt x y) S)):rI0 (λi j=>.bl<|al<|i<j) v u H Q\/∃a b A B,x=.tup a/\y=.tup b/\Pv.ZV a=aa A/\Pv.ZV b=aa B/\Q (.bl<|Ev.ltP A B) H:=by
 cases x with
 |tup a=>cases y with
  |tup b=>
   obtain⟨z,hz,h⟩:=End.po h;obtain⟨A,hA,hz⟩:=aB.mp hz;obtain⟨B,hB,rfl⟩:=aR.mp hz;exact .inr #[a,b,A,B,rfl,rfl,hA,hB,End.ok h st<|Z4 _]
  |_=>exact False.elim h
 |_=>exact .inl<|UH (f:=λz=>al<|z.1<z.2) st rx ry h
end
section
variable{X:Cx}{xw:Nat->Hp->Prop}{C:Calls}{e a b c:Expr}{i j k:E}{pos p p':gD}
def WF{B β γ:Type}(r:R B)(f:B->Zr->R β)(g:β->Zr->R γ):(r.bind f).bind g=r.bind λa S=>(f a S).bind g:=by cases r<;>rfl
def Gy{B:Type}{o:Option B}{f:B->Bool}{z:D}(h:o.map (λa=>Pv.V.bl<|f a)=aa z):∃b,z=.bl b:=by
 obtain⟨a,_,rfl⟩:=aR.mp h;exact#[_,rfl]
def v9{o:Cop}{x y:D}{S S':Zr}{z:D}(h:Pv.po (Pv.Yh o x y) S=.ok z S'):∃b,z=.bl b:=by
 have h:Pv.Yh o x y=aa z:=by
  cases q:Pv.Yh o x y<;>rw[q]at h<;>cases h;rfl
 cases o with
 |lt=>
  cases x with
  |tup a=>
   cases y with|tup b=>obtain⟨A,_,h⟩:=aB.mp h;exact Gy h|_=>exact Ev.nos h
  |int i=>exact Gy h
  |_=>exact Ev.nos h
 |_=>exact Gy h
def YM(X:Cx)(xw:Nat->Hp->Prop)(op:CmpOp)(o:Cop):Prop:=OpR X (cu op)<|uA X.K xw o
def OpR.imp(h:OpR X f r)(k:∀v u H Q,r' v u H Q->r v u H Q):OpR X f r':=λpq s U H x y v u Q I e1 e2 q=>h pq s U H x y v u Q I e1 e2<|k x y H Q q
theorem vT(hu:X.A.units+7<db):YM X xw .Eq .eq:=j9 (by lia)
theorem xH(hu:X.A.units+7<db):YM X xw .NotEq .ne:=ZaF (by lia)
def V8(hu:X.A.units+7<db):YM X xw .LtE .le:=OpR.imp ZbV<|by rintro v u H Q ⟨O,S,x,y,st,rx,ry,h⟩;exact UH st rx ry h
def vD(hu:X.A.units+7<db):YM X xw .Gt .gt:=OpR.imp Zcb<|by rintro v u H Q ⟨O,S,x,y,st,rx,ry,h⟩;exact UH (f:=λz=>al<|z.2<z.1) st rx ry h
def wJ(hu:X.A.units+7<db):YM X xw .GtE .ge:=OpR.imp ZbK<|by rintro v u H Q ⟨O,S,x,y,st,rx,ry,h⟩;exact UH st rx ry h
def v7{O:Mx}{H:Hp}{x y:D}{v u:V}{b:Bool}(rx:Rep O H x v)(ry:Rep O H y u)(h:Pv.isV x y=aa b):(u=.non/\al (v=.non)=b)\/∃i j,v=.bl i/\u=.bl j/\al (i=j)=b:=by
 cases y with
 |non=>
  refine .inl #[ry.non',?_];rw[<-af h];cases x<;>unfold Rep at rx<;>first
   |(subst rx;rfl)
   |(obtain⟨_,z,_⟩:=rx;subst z;rfl)
   |(obtain⟨_,_,z,_⟩:=rx;subst z;rfl)
 |bl j=>cases x with|bl i=>exact .inr #[i,j,rx.bl',ry.bl',af h]|_=>exact Ev.nos h
 |_=>exact Ev.nos h
def xY(hu:X.A.units+7<db):YM X xw .Is .is:=OpR.imp (jZ.or Zbd)<|by
 rintro v u H Q ⟨O,S,x,y,st,rx,ry,h⟩;obtain⟨b,hb,h⟩:=End.map h;have q:=End.ok h st<|Z4 b;rcases v7 rx ry hb with⟨e,z⟩|⟨i,j,e,e2,z⟩
 .exact .inl #[e,by rw[z];exact q]
 .exact .inr #[i,j,e,e2,by rw[z];exact q]
def GN(hu:X.A.units+7<db):YM X xw .IsNot .isn:=OpR.imp (qy.or jf)<|by
 rintro v u H Q ⟨O,S,x,y,st,rx,ry,h⟩;obtain⟨b,hb,h⟩:=End.map h;have q:=End.ok h st<|Z4 !b;rcases v7 rx ry hb with⟨e,z⟩|⟨i,j,e,e2,z⟩
 .exact .inl #[e,by rw[z];exact q]
 .exact .inr #[i,j,e,e2,by rw[decide_not,z];exact q]
def ve{O:Mx}{H:Hp}{x y:D}{u:V}{b:Bool}(ry:Rep O H y u)(h:Pv.JQ x y=aa b) :
  (∃ds,(Rep O H (.tup ds) u\/Rep O H (.lst ds) u)/\Pv.WG x ds=aa b)\/
  (∃(l:List (List Int))(k:List D)(ks:List Int),(∃(p:aG)(vs:List (List Key×V)),u=.ref p/\Rd H p (.dT vs)/\vs.map (·.1)=l.map (·.map cC))/\x=.tup k/\Pv.intsV k=aa ks/\l.contains ks=b):=by
 cases y with
 |tup ys=>exact .inl #[ys,.inl ry,h]
 |lst ys=>exact .inl #[ys,.inr ry,h]
 |dct o=>
  cases o with
  |none=>exact Ev.nos h
  |some l=>
   cases x with
   |tup k=>
    obtain⟨ks,e,z⟩:=aR.mp h;obtain⟨p,e1,o,vs,e2,e3⟩:=ry.dct';exact .inr #[l,k,ks,#[p,vs,e1,.inr #[o,e2],e3],rfl,e,z]
   |_=>exact Ev.nos h
 |dow l=>
  cases x with
  |tup k=>
   obtain⟨ks,e,z⟩:=aR.mp h;obtain⟨p,vs,e1,e2,_,e3⟩:=ry.dow';exact .inr #[l,k,ks,#[p,vs,e1,.inl e2,e3],rfl,e,z]
  |_=>exact Ev.nos h
 |_=>exact Ev.nos h
def YR{op:CmpOp}{o:Cop}(hc:YM X xw op o)(ha:CE X xw C a i)(hb:CE X xw C b j)(hm:fq op b=ai):CE X xw C (.Compare a [op] [b] pos) (.cmp o i j):=.mk <|
 PE.imp (uB hc ha.h hb.h hm) (Zaw)
def YS{op:CmpOp}{o:Cop}(hc:YM X xw op o)(ha:CE X xw C a i)(hb:CE X xw C b j)(hm:fq op b=ai):CT X xw C (.Compare a [op] [b] pos) (.cmp o i j):=.mk <|
 PT.imp (uU hc ha.h hb.h hm)<|by
  rintro U H Q ⟨O,l,S,st,lr,h⟩;have h':End X.K xw VE O H Q (((Pv.pv C i l S).bind λx S=>(Pv.pv C j l S).bind λy S=>Pv.po (Pv.Yh o x y) S).bind λx S=>Pv.po (Pv.Zn x) S):=h
  simp only[WF]at h';refine#[O,l,S,st,lr,h'.bind λx S1 ρ1 H1 v f1 st1 r1 h1=>#[ρ1,l,S1,st1,lr.mono f1,h1.bind λy S2 ρ2 H2 u f2 st2 r2 h2=>#[ρ2,S2,x,y,st2,r1.mono f2,r2,?_]]]
  have h3:∀{r:R D},(∀z S',r=.ok z S'->∃b,z=.bl b)->End X.K xw VE ρ2 H2 Q (r.bind λx S=>Pv.po (Pv.Zn x) S)->End X.K xw Rep ρ2 H2 (λx H'=>∃k,x=V.bl k/\Q k H') r:=λ{r} hr h=>by
   cases r with
   |no=>exact h
   |ex _ _=>exact h
   |ok z S3=>
    obtain⟨b,rfl⟩:=hr z S3 rfl;exact λρ3 H3 w f3 st3 r3=>#[b,r3.bl',h ρ3 H3 b f3 st3 rfl]
  exact h3 (λz S' e=>v9 e) h2
def Jx{op op':CmpOp}{o o':Cop}{d:Expr}{k:E}(hc:YM X xw op o)(hc':YM X xw op' o')(ha:CE X xw C a i)(hb:CE X xw C b j)(hd:CE X xw C d k)
  (hm:lastMarks [op,op'] [b,d]=ai):CE X xw C (.Compare a [op,op'] [b,d] pos) (.chain o o' i j k):=.mk <|
 PE.imp (wa hc hc' ha.h hb.h hd.h hm)<|by
  rintro U H Q ⟨O,l,S,st,lr,h⟩;refine#[O,l,S,st,lr,End.bind (show End X.K xw Rep O H Q ((Pv.pv C i l S).bind _)from h) λx S1 ρ1 H1 v f1 st1 r1 h1=>#[ρ1,l,S1,st1,lr.mono f1,h1.bind λy S2 ρ2 H2 u f2 st2 r2 h2=>#[ρ2,S2,x,y,st2,r1.mono f2,r2,h2.bind λz S3 ρ3 H3 w f3 st3 r3 h3=>?_]]]
  cases z with
  |bl n=>
   refine#[n,r3.bl',?_];cases n with|true=>exact#[ρ3,l,S3,st3,((lr.mono f1).mono f2).mono f3,End.bind (show End X.K xw Rep ρ3 H3 Q ((Pv.pv C k l S3).bind _)from h3) λt S4 ρ4 H4 t' f4 st4 r4 h4=>#[ρ4,S4,y,t,st4,(r2.mono f3).mono f4,r4,h4]]|false=>exact End.ok h3 st3<|Z4 _
  |_=>exact False.elim h3
end
section
variable{X:Cx}{xw:Nat->Hp->Prop}{C:Calls}{e a b c:Expr}{i j k:E}{pos p p' p2:gD}
variable{O:Mx}{H:Hp}{S:Zr}{x y:D}{v u:V}{Q:VK}{K:ao}
def Ux{d:D}{ks:List D}{k:List Int}(h:Pv.intsV (d::ks)=aa k):∃n r,d=.int n/\Pv.intsV ks=aa r/\k=n::r:=by
 cases d<;>first|exact Ev.nos h|(obtain⟨r,e,z⟩:=aR.mp h;exact#[_,r,rfl,e,z.symm])
theorem Xl:∀{ks:List D}{k:List Int}{xs:List V},Pv.intsV ks=aa k->Rq O H ks xs->xs=(k.map (cC:Int->Key)).map kV
 |[],k,xs,h,r=>by cases h;rw[r];rfl
 |d::ks,k,xs,h,r=>by
  obtain⟨v,vs,rfl,a1,b1⟩:=r;obtain⟨n,r,rfl,e,rfl⟩:=Ux h;rw[a1.int',Xl e b1];rfl
theorem Qx:∀{k k':List Int},k.map (cC:Int->Key)=k'.map cC->k=k'
 |[],[],_=>rfl
 |[],_::_,h=>by simp at h
 |_::_,[],h=>by simp at h
 |a::k,b::k',h=>by
  rw[bf,bf]at h;injection h with h1 h2
  rw[cC.inj h1,Qx h2]
def Uz{k:List Int}{l:List (List Int)}{vs:List (List Key×V)}(h:vs.map (·.1)=l.map (·.map (cC:Int->Key))):(WH vs<|k.map cC).isSome=l.contains k:=by
 rw[<-Xj,show(vs.any λkv=>al<|kv.1=k.map cC)=(vs.map (·.1)).any λy=>al (y=k.map cC) by rw[List.any_map];rfl,h,List.any_map,List.contains_eq_any_beq]
 congr 1
 funext y
 show al (y.map cC=k.map cC)=(k == y);by_cases z:y=k
 .subst z;simp
 .rw[T4 λw=>z<|Qx w,beq_eq_false_iff_ne.mpr<|Ne.symm z]
theorem qq(hu:X.A.units+7<db):OpR X (cu .NotIn) (λv u H Q=>∃a y o,u=.ref a/\v=y/\DGet H a y o/\Q (.bl !o.isSome) H):=by
 intro pq s U H v u vv uu Q I e1 e2 h;obtain⟨a,y,o,rfl,rfl,g,q⟩:=h;cases e2;exact qY (by lia) I g e1 λs' I'=>#[.bl !o.isSome,H,I',rfl,q]
def Ga(hu:X.A.units+7<db):YM X xw .NotIn .nin:=OpR.imp ((uS hu).or<|qq hu)<|by
 rintro v u H Q ⟨O,S,x,y,st,rx,ry,h⟩;obtain⟨b,hb,h⟩:=End.map h;have q:=End.ok h st<|Z4 _;rcases ve ry hb with⟨ds,hy,hb⟩|⟨l,k,ks,hy,rfl,hk,e⟩
 .exact .inl #[O,S,x,ds,b,st,rx,hy,hb,q]
 .obtain⟨p,vs,rfl,hx,r⟩:=hy
  obtain⟨a,xs,rfl,ha,r2⟩:=rx.tup';refine .inr #[p,.ref a,_,rfl,rfl,.inr #[vs,_,a,hx,rfl,by rw[ha,Xl hk r2],rfl],?_]
  rw[Uz r,e];exact q
def Zao(r:Rq O H ds xs)(q:Ev.at' ds n=aa d):∃w,atI xs n=aa w/\Rep O H d w:=by
 obtain⟨m,q2,q⟩:=aB.mp q;obtain⟨w,g,rw'⟩:=r.get q;refine#[w,?_,rw'];unfold atI;rw[r.length,show ixN ds.length n=aa m from q2]
 exact g
def Zcv(ha:CE X xw C a i)(hb:CE X xw C b j)(hs:zt b):CE X xw C (.Subscript a b pos) (.ix i j):=.mk <| PE.imp (wn (UL.or Zad) ha.h hb.h hs) (Xa λ{O H S x y v u Q} st rx ry h=>by
 obtain⟨d,hd,g0⟩:=End.po h;have k:∃ds n,Pv.Yj x=aa ds/\y=.int n/\Ev.at' ds n=aa d:=by
  cases y with
  |int n=>
   cases x with
   |tup ds=>exact#[ds,n,rfl,rfl,hd]
   |lst ds=>exact#[ds,n,rfl,rfl,hd]
   |scr ns=>
    obtain⟨z,e,rfl⟩:=aR.mp hd;obtain⟨m,q2,q⟩:=aB.mp e;refine#[_,n,rfl,rfl,?_];unfold Ev.at';rw[ay,q2];show(ns.map Pv.V.int)[m]?=_;rw[aK,q];rfl
   |_=>exact Ev.nos hd
  |_=>cases x<;>exact Ev.nos hd
 obtain⟨ds,n,e,rfl,hn⟩:=k;obtain⟨p,xs,rfl,hp,r⟩:=rx.seq e;obtain⟨w,g,rw'⟩:=Zao r hn;rw[st.hk]at hp;have q:=End.ok g0 st rw';rcases hp with hp|hp
 .exact .inl #[p,xs,n,w,rfl,ry.int',hp,g,q]
 .exact .inr #[p,xs,n,w,rfl,ry.int',hp,g,q])
def jj:CO X xw C ae ae:=.mk <| PO.imp qA<|by rintro U H Q ⟨O,l,S,st,lr,h⟩;exact End.ok h st rfl
def qb(h:CE X xw C e i):CO X xw C (aa e) (aa i):=.mk <| PO.imp (ZG h.h)<|by
 rintro U H Q ⟨O,l,S,st,lr,h⟩;refine#[O,l,S,st,lr,End.bind (h) λx S1 ρ1 H1 v f1 st1 r1 h1=>?_]
 cases x with|int n=>exact#[n,r1.int',End.ok h1 st1 rfl]|_=>exact False.elim h1
def UP(n d:Nat)(o:Option Int):Ev.sIx n d o=HT.sIx n d o:=by
 cases o with
 |none=>rfl
 |some i=>first|rfl|(rfl)
def zk(r:Rq O H ds xs)(lo hi:Option Int):Rq O H (Pv.Xe ds lo hi) (Xe xs lo hi):=by
 unfold Pv.Xe Xe;rw[UP,UP,r.length];exact(r.drop _).take _
def ZbI{lo hi:Option Expr}{il ih:Option E}(ha:CE X xw C a i)(hl:CO X xw C lo il)(hh:CO X xw C hi ih):CE X xw C (.Subscript a (.Slice lo hi ae p2) pos) (.sl i il ih):=.mk <|
 PE.imp (xU (ZaE.or<|xN.or ur) ha.h hl.h hh.h)<|by
  rintro U H Q ⟨O,l,S,st,lr,h⟩;refine#[O,l,S,st,lr,End.bind (h) λx S1 ρ1 H1 v f1 st1 r1 h1=>#[ρ1,l,S1,st1,lr.mono f1,h1.bind λy S2 ρ2 H2 u f2 st2 r2 h2=>#[ρ2,l,S2,st2,(lr.mono f1).mono f2,h2.bind λz S3 ρ3 H3 w f3 st3 r3 h3=>?_]]]
  have e1:y=u:=r2;have e2:z=w:=r3;subst e1 e2;have r0:=(r1.mono f2).mono f3;cases x with
  |tup ds=>
   obtain⟨p,xs,rfl,hp,r⟩:=r0.tup';have h':=h3;by_cases hw:HT.sIx xs.length 0 y=0/\HT.sIx xs.length xs.length z=xs.length
   .refine .inr (.inl #[p,xs,rfl,SqT.of hp,hw,End.ok h' st3 ?_])
    have ew:Pv.Xe ds y z=ds:=by
     unfold Pv.Xe;rw[UP,UP,<-r.length,hw.1,hw.2,gR,Nat.sub_zero,r.length,fV]
    rw[ew];exact YB hp r
   .exact .inl #[p,xs,rfl,SqT.of hp,hw,h'.newT st3<|zk r y z]
  |lst ds=>
   obtain⟨p,xs,rfl,hp,_,r⟩:=r0.lst';exact .inr<|.inr #[p,xs,rfl,SqL.of hp,End.newL (h3) st3<|zk r y z]
  |_=>exact False.elim h3
def VM(K:ao)(xw:Nat->Hp->Prop)(f:Bf):List V->Hp->VK->Prop:=λvs H Q=>∃O S ds,St3 K O S H/\Rq O H ds vs/\End K xw Rep O H Q (Pv.po (Pv.Y6 f ds) S)
def ZD.imp{r r':List V->Hp->VK->Prop}(h:ZD X f r)(k:∀vs H Q,r' vs H Q->r vs H Q):ZD X f r':=λpq s U H xs us Q I e q=>h pq s U H xs us Q I e<|k xs H Q q
def xp :∀U H Q,tE X xw (Pv.pv C<|.blt f is) U H Q->tCB (VM X.K xw f) (tA X xw<|Pv.pvs C is) U H Q:=λU H Q #[O,l,S,st,lr,h]=>
 #[O,l,S,st,lr,End.bind (h) λxs S1 ρ1 H1 vs f1 st1 r1 h1=>#[ρ1,S1,xs,st1,r1,h1]]
def xV(r:Rq O H [d] vs):∃v,vs=[v]/\Rep O H d v:=by
 obtain⟨v,ws,rfl,a1,b1⟩:=r;exact#[v,by rw[b1],a1]
def JI{d e:D}{vs:List V}(r:Rq O H [d,e] vs):∃v w,vs=[v,w]/\Rep O H d v/\Rep O H e w:=by
 obtain⟨v,ws,rfl,a1,b1⟩:=r;obtain⟨w,rfl,b2⟩:=xV b1;exact#[v,w,rfl,a1,b2]
def X0{rep:Mx->Hp->D->V->Prop}(h:End K xw rep O H Q (Pv.po (Pv.Y6 f ds) S))(r:Rq O H ds vs)(h1:f≠.max2:=by decide)(h2:f≠.min2:=by decide):∃d v z,vs=[v]/\Rep O H d v/\Pv.blt1 f d=aa z/\End K xw rep O H Q (.ok z S):=by
 obtain⟨z,hz,g⟩:=End.po h
 match ds,hz with
 |[d],hz=>obtain⟨v,rfl,rv⟩:=xV r;exact#[d,v,z,rfl,rv,hz,g]
 |[x,y],hz=>
  have hz:=hz;cases x<;>first|exact Ev.nos hz|(cases y<;>first|exact Ev.nos hz|(cases f<;>first|exact Ev.nos hz|contradiction))
def jH(h:End K xw Rep O H Q (Pv.po (Pv.Y6 f ds) S))(r:Rq O H ds vs)(h1:∀d,Pv.blt1 f d=ae):∃m n z,vs=[.int m,.int n]/\Pv.blt2 f (.int m) (.int n)=aa z/\End K xw Rep O H Q (.ok z S):=by
 obtain⟨z,hz,g⟩:=End.po h
 match ds,hz with
 |[d],hz=>exact Ev.nos<|(h1 d).symm.trans hz
 |[x,y],hz=>
  have hz:=hz;cases x<;>first|exact Ev.nos hz|(cases y<;>first|exact Ev.nos hz|(obtain⟨v,w,rfl,r1,r2⟩:=JI r;exact#[_,_,z,by rw[r1.int',r2.int'],hz,g]))
def zR:ZD X (.builtin "len") (VM X.K xw .len):=ZD.imp U4<|by
 rintro vs H Q ⟨O,S,ds,st,r,h⟩;obtain⟨d,v,z,rfl,rv,hz,h⟩:=X0 h r;obtain⟨xs,hx,rfl⟩:=aR.mp hz;obtain⟨p,ys,rfl,hq,r2⟩:=rv.seq hx;refine#[p,ys,rfl,by rw[<-st.hk];exact hq,?_]
 rw[r2.length];exact End.ok h st<|ZI _
def zJ(hc:X.calm=aj):ZD X (.builtin "max") (VM X.K xw .max2):=ZD.imp (yW hc)<|by
 rintro vs H Q ⟨O,S,ds,st,r,h⟩;obtain⟨m,n,z,rfl,hz,h⟩:=jH h r λ_=>rfl
 cases hz;exact#[m,n,rfl,End.ok h st<|ZI _]
def z7(hc:X.calm=aj):ZD X (.builtin "min") (VM X.K xw .min2):=ZD.imp (yB hc)<|by
 rintro vs H Q ⟨O,S,ds,st,r,h⟩;obtain⟨m,n,z,rfl,hz,h⟩:=jH h r λ_=>rfl
 cases hz;exact#[m,n,rfl,End.ok h st<|ZI _]
def zS:ZD X (.type "int") (VM X.K xw .toInt):=ZD.imp y4<|by
 rintro vs H Q ⟨O,S,ds,st,r,h⟩;obtain⟨d,v,z,rfl,r1,hz,h⟩:=X0 h r;cases d with|int m=>cases hz;exact .inl #[m,by rw[r1.int'],End.ok h st<|ZI _]|bl m=>cases hz;exact .inr #[m,by rw[r1.bl'],End.ok h st<|ZI _]|_=>exact Ev.nos hz
def Ur:ZD X (.type "tuple") (VM X.K xw .tuple):=ZD.imp VP<|by
 rintro vs H Q ⟨O,S,ds,st,r,h⟩;obtain⟨d,v,z,rfl,r1,hz,h⟩:=X0 h r;cases d with|tup ds=>cases hz;obtain⟨p,xs,rfl,hp,r2⟩:=r1.tup';exact#[p,xs,rfl,.inr #[SqT.of hp,End.ok h st r1]]|lst ds=>cases hz;obtain⟨p,xs,rfl,hp,_,r2⟩:=r1.lst';exact#[p,xs,rfl,.inl #[SqL.of hp,h.newT st r2]]|scr ns=>cases hz;obtain⟨p,rfl,hp⟩:=r1.scr';rw[st.hk]at hp;exact#[p,_,rfl,.inl #[hp.sq,h.newT st<|Rq.ints ns]]|_=>exact Ev.nos hz
def WJ{f:Bf}{id:String}{x:bD}{es:List Expr}{is:List E}(hc:ZD X (.builtin id) (VM X.K xw f))(hm:X.mg x=ae)(ha:CA X xw C (e::es) is)(hg:Gl X x)(hv:cY x=aa (.builtin id))(hn:x≠"__name__")(hdb:(x == ("__debug__" : bD))=ai)
  (he:aM (e::es) X.env=(ai,cV e X.env)::aM es X.env)(hpl:(eC pos<|aM es X.env).any (·.1)=ai):CE X xw C (.Call (.Name x p) (e::es) [] pos) (.blt f is):=.mk <|
 PE.imp (WW hc hg hm hv ha.h hn hdb he hpl) xp
def UJ{f:Bf}{id:String}{x:bD}{es:List Expr}{is:List E}(hc:ZD X (.type id) (VM X.K xw f))(hm:X.mg x=ae)(ha:CA X xw C (e::es) is)(hg:Gl X x)(hv:cY x=aa (.type id))(hn:x≠"__name__")(hdb:(x == ("__debug__" : bD))=ai)
  (he:aM (e::es) X.env=(ai,cV e X.env)::aM es X.env)(hpl:(eC pos<|aM es X.env).any (·.1)=ai):CE X xw C (.Call (.Name x p) (e::es) [] pos) (.blt f is):=.mk <|
 PE.imp (V9 hc hg hm hv ha.h hn hdb he hpl) xp
end
section
variable{X:Cx}{xw:Nat->Hp->Prop}{C:Calls}{e a b c:Expr}{i j k:E}{pos p p' p2:gD}
theorem Vj:∀{ds:List D}{bs:List Bool},Pv.ZX ds=aa bs->bs.length=ds.length/\∀j d,ds[j]?=aa d->Pv.WP d=aa (bs.getD j ai)
 |[],bs,h=>by cases h;exact#[rfl,λj d e=>by simp at e]
 |d::ds,bs,h=>by
  unfold Pv.ZX at h;cases q1:Pv.WP d with
  |none=>rw[q1]at h;cases h
  |some b=>
   cases q2:Pv.ZX ds with
   |none=>rw[q1,q2]at h;cases h
   |some cs=>
    rw[q1,q2]at h;cases h;obtain⟨l,ih⟩:=Vj q2;refine#[by rw[aL,aL,l],λj d' e=>?_]
    cases j with|zero=>simp at e;subst e;simpa using q1|succ j=>simpa using ih j d' (by simpa using e)
def yi(bs:List Bool):(aU bs.length).all (λj=>bs.getD j ai)=bs.all id:=by
 rw[cK,bG,bG]
 constructor
 .intro h b hb
  obtain⟨j,hj,e⟩:=b8 hb;have:=h j<|bj.mpr hj
  simpa[ag hj,e]using this
 .intro h j hj
  have hj':=bj.mp hj
  simpa[ag hj']using h bs[j]<|aV hj'
def U7(r:Rep O H d v)(e:Zs v u)(h:Pv.WP d=aa n)(s:aw)(Q:Bool->aw->Prop)(E:ap->aw->Prop)(q:Q n s) :
  aX (aS prog w) A (truthy u) Q E s:=by
 cases d with
 |non=>cases r.non';cases e;cases h;exact truthy_none q
 |bl b=>cases r.bl';cases e;cases h;exact eL q
 |int m=>
  cases r.int';obtain⟨t,rfl⟩:=e;have h':=af h;refine lv ?_;have:(m != 0)=n:=by
   rw[<-h'];by_cases z:m=0
   .subst z;rfl
   .rw[T5 z];exact bne_iff_ne.mpr z
  rw[this];exact q
 |_=>cases h
def yS(hc:X.calm=aj):ZD X (.builtin "all") (λvs H Q=>∃O ds v bs,vs=[v]/\Rep O H (.lst ds) v/\Pv.ZX ds=aa bs/\Q (.bl<|bs.all id) H):=by
 intro pq s U H vs us Q I r h;obtain⟨O,ds,v,bs,rfl,rs,hb,q⟩:=h;obtain⟨p,xs,rfl,hx,_,rx⟩:=rs.lst';obtain⟨u,rfl,ru⟩:=Xy r;cases ru;obtain⟨its,rv,pl,hz⟩:=I.list<|SqL.of hx;obtain⟨lb,tb⟩:=Vj hb;have hlt:p<s.heap.objs.size:=by obtain⟨_,e,_⟩:=pl.isList;exact aF e
 have hlen:its.toArray.size=bs.length:=by rw[ax,<-rv.length,rx.length,lb]
 refine call_all_walk<|eM pl.isList #[s.heap.objs.size,[s.heap.objs.size,p],[s.heap.objs.size],its.toArray.size,(λi v=>its.toArray[i]?=aa v),(λi h=>h.IsListIter s.heap.objs.size p i/\h.IsList p its.toArray),λj=>bs.getD j ai,rfl,Walks.list (A:=X.A.in1) (I.ok.hd hc) s.heap.objs.size p (bg hlt) its.toArray,#[#[_,aI _ rfl,rfl,rfl],pl.isList.push _],?_,?_]
 .intro j v s' Q' E' hv hQ'
  have hj:its[j]?=aa v:=by simpa using hv
  have jl:j<ds.length:=by
   have:=(a8.mp hj).1;rw[<-rv.length,rx.length]at this;exact this
  obtain⟨w',g,r'⟩:=rx.get<|ag jl;obtain⟨u',g',ru'⟩:=rv.get g;rw[hj]at g';cases g';exact U7 r' ru' (tb j _<|ag jl) s' Q' E' hQ'
 .intro h' tk hk
  rw[hlen,yi];have kp:=λb o e=>hk b o (λhm=>by
   have:b=s.heap.objs.size:=by simpa using hm
   exact T7 (this▸aF e)<|bp _)<|aq _ e
  exact#[.bl<|bs.all id,H,I.kept (t':=tk) kp,rfl,q]
def G6(hc:X.calm=aj):ZD X (.builtin "all") (VM X.K xw .all):=ZD.imp (yS hc)<|by
 rintro vs H Q ⟨O,S,ds,st,r,h⟩;obtain⟨d,v,z,rfl,r1,hz,h⟩:=X0 h r;cases d with|lst ds=>obtain⟨bs,hb,rfl⟩:=aR.mp hz;exact#[O,ds,v,bs,rfl,r1,hb,End.ok h st<|Z4 _]|_=>exact Ev.nos hz
noncomputable def U9:Ty->String
 |.int=>"int" | .bool=>"bool" | .str=>"str" | .tuple=>"tuple" | .list=>"list" | .dict=>"dict" | .cls _=>""
def ZaH{K:ao}{O:Mx}{H:Hp}{x:D}{v:V}{t:Ty}{n:Bool}(rx:Rep O H x v)(ht:∀m,t≠.cls m)(h:Pv.Y0 x t=aa n) :
  ∃tv,TyOf K H v tv/\kH K tv (.type<|U9 t)=aa n:=by
 cases x with
 |non=>rw[rx.non'];refine#[_,.non,?_];cases h;cases t<;>first|rfl|exact T7 rfl<|ht _
 |bl b=>rw[rx.bl'];refine#[_,.bl b,?_];cases h;cases t<;>first|rfl|exact T7 rfl<|ht _
 |int b=>rw[rx.int'];refine#[_,.int b,?_];cases h;cases t<;>first|rfl|exact T7 rfl<|ht _
 |str b=>rw[rx.str'];refine#[_,.str b,?_];cases h;cases t<;>first|rfl|exact T7 rfl<|ht _
 |tup ds=>
  obtain⟨p,xs,rfl,hp,_⟩:=rx.tup';refine#[_,.tup hp,?_];cases h;cases t<;>first|rfl|exact T7 rfl<|ht _
 |lst ds=>
  obtain⟨p,xs,rfl,hp,_⟩:=rx.lst';refine#[_,.lst hp,?_];cases h;cases t<;>first|rfl|exact T7 rfl<|ht _
 |dct o=>
  cases o with
  |some _=>exact Ev.nos h
  |none=>
   obtain⟨p,rfl,_,e⟩:=rx.dct';refine#[_,.dK e,?_];cases h;cases t<;>first|rfl|exact T7 rfl<|ht _
 |_=>exact Ev.nos h
def vU(T:String):ZD X (.builtin "isinstance") (λvs H Q=>∃v tv n,vs=[v,.ty T]/\TyOf X.K H v tv/\kH X.K tv (.type T)=aa n/\Q (.bl n) H):=by
 intro pq s U H vs us Q I r h;obtain⟨v,tv,n,rfl,ty,e,q⟩:=h;obtain⟨u,w',rfl,r1,r2⟩:=wF r;cases r2;exact yN I r1 ty e λtk=>#[.bl n,H,I.tok tk,rfl,q]
def Vx{T:bD}{t:Ty}(ht:∀m,t≠.cls m)(hm:X.mg "isinstance" = ae)(hmT:X.mg T=ae)(ha:CE X xw C a i)(hg:Gl X "isinstance")(hgT:Gl X T)(hvT:cY T=aa (.type<|U9 t))(hnT:T≠"__name__")(hdT:(T == ("__debug__" : bD))=ai)
  (hs1:aM [a,.Name T p2] X.env=(ai,cV a X.env)::aM [.Name T p2] X.env)(hs2:aM [.Name T p2] X.env=(ai,cV (.Name T p2) X.env)::aM [] X.env)(hpl:(eC pos<|aM [.Name T p2] X.env).any (·.1)=ai) :
  CE X xw C (.Call (.Name "isinstance" p) [a,.Name T p2] [] pos) (.isi i [t]):=.mk <|
 PE.imp (WW (vU<|U9 t) hg hm (by rfl) (WR ha.h (WR (uy (v:=.ty<|U9 t) hgT hmT hvT rfl hnT hdT) Gq hs2) hs1) (by decide) (by decide) hs1 hpl)<|by
  rintro U H Q ⟨O,l,S,st,lr,h⟩;refine#[O,l,S,st,lr,End.bind (show End X.K xw Rep O H Q ((Pv.pv C i l S).bind _)from h) λx S1 ρ1 H1 v f1 st1 r1 h1=>?_]
  obtain⟨n,hn,h2⟩:=End.ob h1;have hn':Pv.Y0 x t=aa n:=by
   unfold Pv.Yc at hn;cases q:Pv.Y0 x t with|none=>rw[q]at hn;cases hn|some m=>rw[q]at hn;cases m<;>exact hn
  obtain⟨tv,ty,e⟩:=ZaH r1 ht hn';exact#[v,tv,n,rfl,ty,e,End.ok h2 st1<|Z4 _]
def ZcL(P:bE)(w:bZ)(K:ao)(a:aG)(tab:List (Int×Int)):Prop:=(a == cG)=ai/\∃f:Int->Option ap,(∀h:bX,K.In h->h.MapOf (gB P w) a f)/\∀k,(tab.lookup k=ae->f k=ae)/\∀j,tab.lookup k=aa j->∃t,f k=aa (.int j t)
def uX:CE X xw C (.Dict [] [] pos) .dnew:=.mk <| PE.imp wb λU H Q #[O,l,S,st,lr,h]=>λp hp=>
 (h) O _ _ (Zp hp) (st.fresh hp) (by exact#[p,rfl,[],Zo])
def XM(fr:Bool)(H0:Hp)(O:Mx)(H:Hp)(d:D)(v:V):Prop:=Rep O H d v/\(fr=aj->∀ds,d=.lst ds->∃a,v=.ref a/\H0 a=ae)
theorem End.fr{K:ao}{xw:Nat->Hp->Prop}{O:Mx}{H H0:Hp}{Q:VK}{r:R D}{fr:Bool}(h:End K xw Rep O H Q r):End K xw (XM fr H0) O H Q r:=by
 cases r with|ok d S=>exact λρ' H' v f st r=>h ρ' H' v f st r.1|_=>exact h
def spF(K:ao)(C:Calls)(fr:Bool)(n:Nat):Sp:=λvs H Q _=>∃O ds S,St3 K O S H/\Rq O H ds vs/\End K (λ_ _=>False) (XM fr H) O H Q (C n ds S)
def jh{n kk:Nat}{fr:Bool}{f:aG}{fd:cP}{ps:List bD}{x:bD}{es:List Expr}{is:List E}(F:FnOk X.prog X.w X.K X.mg X.base CX0 kk f fd ps (spF X.K C fr n))(hr:Room kk X.A)(hm:X.mg x=aa (.ref f))(hk:fJ X.K (.ref f)=aj)(hb:VA X.K fd ps [])
  (ha:CA X (λ_ _=>False) C (e::es) is)(hg:Gl X x:=by rfl)(hdb:(x == ("__debug__" : bD))=ai:=by decide)(he:aM (e::es) X.env=(ai,cV e X.env)::aM es X.env:=by rfl)(hpl:(eC pos<|aM es X.env).any (·.1)=ai:=by rfl) :
  CE X (λ_ _=>False) C (.Call (.Name x p) (e::es) [] pos) (.call n is):=.mk <|
 PE.imp (zq F hr hg hm hk hb .nil jy ha.h hdb he hpl) λU H Q #[O,l,S,st,lr,h]=>
  #[O,l,S,st,lr,End.bind (show End X.K (λ_ _=>False) Rep O H Q ((Pv.pvs C is l S).bind _)from h) λxs S1 ρ1 H1 vs f1 st1 r1 h1=>by
   rw[cz];exact#[ρ1,xs,S1,st1,r1,h1.fr]]
end
abbrev Own:=Nat->Option aG
noncomputable def Mx.ex(O:Mx)(W:Own):Mx:=#[O.K,O.n0,λa=>O.X a\/∃i,W i=aa a,λa h=>.inl<|O.xz a h]
mutual
theorem Rep.flat(hk:ρ'.K=O.K)(k:∀a o,H a=aa o->(∀xs,o≠.lst xs)->(∀vs,o≠.dT vs)->H' a=aa o):∀{d:D}{v:V},d.flat=aj->Rep O H d v->Rep ρ' H' d v
 |.non,_,_,h|.bl _,_,_,h|.int _,_,_,h|.str _,_,_,h=>by exact h
 |.tup ds,v,f,h=>by
  obtain⟨a,xs,e,t,r⟩:=h;exact#[a,xs,e,k a _ t (λ_ z=>by cases z) (λ_ z=>by cases z),r.flat hk k<|by exact f]
 |.scr ns,v,_,h=>by
  unfold Rep at h ⊢;obtain⟨a,e,t⟩:=h;rw[hk];refine#[a,e,?_];rcases t with⟨o,t⟩|t
  .exact .inl #[o,k a _ t (λ_ z=>by cases z) λ_ z=>by cases z]
  .exact .inr t
 |.lst _,_,f,_|.drw,_,f,_|.dct _,_,f,_|.dow _,_,f,_=>by cases f
theorem Rq.flat(hk:ρ'.K=O.K)(k:∀a o,H a=aa o->(∀xs,o≠.lst xs)->(∀vs,o≠.dT vs)->H' a=aa o):∀{ds:List D}{xs:List V},Pv.Y1 ds=aj->Rq O H ds xs->Rq ρ' H' ds xs
 |[],_,_,h=>by exact h
 |d::ds,xs,f,h=>by
  obtain⟨v,vs,e,r,rs⟩:=h;have f:=(aD _ _).mp f;exact#[v,vs,e,r.flat hk k f.1,rs.flat hk k f.2]
end
def Y3(O:Mx)(H:Hp)(a:aG):D->Prop
 |.lst xs=>∃us,H a=aa (.lst us)/\Rq O H xs us
 |.dow ks=>∃vs,H a=aa (.dT vs)/\vs.map (·.1)=ks.map (·.map cC)
 |_=>False
def Y3.ob{O:Mx}{H:Hp}{a:aG}{d:D}(h:Y3 O H a d):(∃us,H a=aa (.lst us))\/∃vs,H a=aa (.dT vs):=by
 cases d with|lst xs=>obtain⟨us,e,_⟩:=h;exact .inl #[us,e]|dow ks=>obtain⟨vs,e,_⟩:=h;exact .inr #[vs,e]|_=>exact h.elim
def Y3.ne{O:Mx}{H:Hp}{a:aG}{d:D}(h:Y3 O H a d):H a≠ae:=by
 rcases h.ob with⟨_,z⟩|⟨_,z⟩<;>(rw[z];intro q;cases q)
def Y3.rep{O:Mx}{H:Hp}{a:aG}{d:D}(h:Y3 O H a d)(x:¬O.X a):Rep O H d (.ref a):=by
 cases d with|lst xs=>obtain⟨us,e,r⟩:=h;exact XR e x r|dow ks=>obtain⟨vs,e,q⟩:=h;unfold Rep;exact#[a,vs,rfl,e,x,q]|_=>exact h.elim
theorem Y3.lat{O ρ':Mx}{H H':Hp}{a:aG}{d:D}(h:Y3 O H a d)(f:Lat O H ρ' H')(e:H' a=H a):Y3 ρ' H' a d:=by
 cases d with|lst xs=>obtain⟨us,q,r⟩:=h;exact#[us,e.trans q,r.lat f]|dow ks=>obtain⟨vs,q,r⟩:=h;exact#[vs,e.trans q,r]|_=>exact h
def Lat.own{O:Mx}{H:Hp}{b:aG}{o':HO}(x:O.X b)(hb:(∃us,H b=aa (.lst us))\/∃vs,H b=aa (.dT vs)):Lat O H O (upd H b o'):=#[rfl,rfl,λc u z nx _ nd=>by
 rw[Zl (λq=>by
  rw[q]at z;rcases hb with⟨_,e⟩|⟨_,e⟩<;>(rw[e]at z;cases z)
  .exact nx _ rfl<|q▸x
  .exact nd _ rfl<|q▸x)]
 exact z,λ_ _ z=>z]
structure Eu(O:Mx)(H0:Hp)(W:Own)(l:Lc)(os:List Nat)(U:L2.St)(H:Hp):Prop where
 fut:Fut O H0 O H
 xd:∀a,O.X a->H0 a≠ae
 len:l.length=U.length
 osW:∀i,os.contains i=(W i).isSome
 inj:∀i j a,W i=aa a->W j=aa a->i=j
 new:∀i a,W i=aa a->H0 a=ae
 own:∀i a,W i=aa a->∃d,l[i]?=aa (aa d)/\U[i]?=aa (aa<|.ref a)/\Y3 (O.ex W) H a d
 val:∀(i:Nat)(d:D),l[i]?=aa (aa d)->W i=ae->∃v,U[i]?=aa (aa v)/\Rep (O.ex W) H d v
section
variable{K:ao}{O:Mx}{H0 H H':Hp}{W W':Own}{l:Lc}{os:List Nat}{U:L2.St}{S:Zr}
def Lat.unex:Lat (O.ex W) H O H:=#[rfl,rfl,λ_ _ h _ _ _=>h,λ_ _ x=>.inl x]
theorem Fut.ex(f:Fut O H O H'):Fut (O.ex W) H (O.ex W) H':=#[rfl,f.keep]
def St3.unex(st:St3 K (O.ex W) S H):St3 K O S H:=#[st.hk,λa x=>st.xd a<|.inl x,st.dw,st.tb]
def Eu.nx(h:Eu O H0 W l os U H)(e:W i=aa a):¬O.X a:=λz=>h.xd a z<|h.new i a e
theorem Eu.st(h:Eu O H0 W l os U H)(st:St3 K O S H):St3 K (O.ex W) S H:=
 #[st.hk,λa x=>x.elim (st.xd a) λ#[i,e]=>(let #[_,_,_,z]:=h.own i a e;z.ne),st.dw,st.tb]
def vJ(f:Fut O H O H')(x:¬O.X a)(h:H a=aa o)(n:∀ps,o≠.tbl ps:=by intro _ z;cases z):H' a=aa o:=(f.keep a o h).elim id λz=>z.elim (λz=>T7 (O.xz a z.1) x)<|by rintro ⟨⟨ps,e⟩,_⟩;exact T7 e<|n ps
def Eu.all(h:Eu O H0 W l os U H):LocR O H l U:=#[h.len,λi v e=>by
 cases q:W i with
 |none=>obtain⟨d,a,b⟩:=h.val i v e q;exact#[d,a,b.lat Lat.unex]
 |some n=>
  obtain⟨d,a,c,r⟩:=h.own i n q;rw[a]at e;cases e;exact#[_,c,(r.lat Lat.unex rfl).rep<|h.nx q]]
def xt(e:(Pv.hide os l)[i]?=aa (aa v)):l[i]?=aa (aa v)/\os.contains i=ai:=by
 unfold Pv.hide at e;rw[d7]at e;cases q:l[i]? with
 |none=>rw[q]at e;cases e
 |some o=>
  rw[q]at e;have e':(if os.contains i=aj then ae else o)=aa v:=af e
  by_cases c:os.contains i=aj
  .rw[T9 c]at e';cases e'
  .rw[T8 c]at e';exact#[by rw[e'],by simpa using c]
def Vz:Pv.hide [] l=l:=by
 unfold Pv.hide;refine bQ λi=>?_
 rw[d7];cases l[i]?<;>rfl
def Eu.nW(h:Eu O H0 W l os U H){i:Nat}(b:os.contains i=ai):W i=ae:=by
 rw[h.osW]at b;cases q:W i with|none=>rfl|some _=>rw[q]at b;cases b
def Eu.hid(h:Eu O H0 W l os U H):LocR (O.ex W) H (Pv.hide os l) U:=#[by unfold Pv.hide;rw[List.length_mapIdx];exact h.len,λi v e=>by
 obtain⟨a,b⟩:=xt e;exact h.val i v a<|h.nW b]
theorem Eu.mono(h:Eu O H0 W l os U H)(f:Fut O H O H'):Eu O H0 W l os U H':=
 #[h.fut.trans f,h.xd,h.len,h.osW,h.inj,h.new,λi a q=>by
  obtain⟨d,p,c,r⟩:=h.own i a q;exact#[d,p,c,r.lat f.ex.lat (by rcases r.ob with⟨_,e⟩|⟨_,e⟩<;>rw[vJ f (h.nx q) e,e])],λi v a b=>by
  obtain⟨d,c,r⟩:=h.val i v a b;exact#[d,c,r.mono f.ex]]
def QC{B:Type}{l:List (Option B)}{i j:Nat}{o:Option B}{v:B}(e:(l.set i o)[j]?=aa (aa v)):(i=j/\o=aa v/\i<l.length)\/(i≠j/\l[j]?=aa (aa v)):=by
 rw[lV]at e;by_cases c:i=j
 .rw[T9 c]at e
  by_cases z:i<l.length
  .rw[T9 z]at e;exact .inl #[c,af e,z]
  .rw[T8 z]at e;cases e
 .rw[T8 c]at e;exact .inr #[c,e]
theorem Eu.set{i:Nat}{o:Option D}{v:V}(h:Eu O H0 W l os U H)(hi:os.contains i=ai)(r:∀d,o=aa d->Rep (O.ex W) H d v):Eu O H0 W (l.set i o) os (U.set i<|aa v) H:=by
 have hw:=h.nW hi;refine#[h.fut,h.xd,by rw[bc,bc];exact h.len,h.osW,h.inj,h.new,λj n q=>?_,λj w e q=>?_]
 .obtain⟨d,a,c,e⟩:=h.own j n q
  have ij:i≠j:=λz=>by rw[z,q]at hw;cases hw
  exact#[d,by rw[aQ ij];exact a,by rw[aQ ij];exact c,e]
 .rcases QC e with⟨rfl,z,hl⟩|⟨c,z⟩
  .exact#[v,ba (by rw[<-h.len];exact hl),r w z]
  .rw[aQ c];exact h.val j w z q
noncomputable def W7:List Nat->List V->L2.St->L2.St
 |i::t,x::xs,U=>W7 t xs<|U.set i<|aa x
 |_,_,U=>U
theorem Eu.fill:∀{t:List Nat}{vs:List D}{us:List V}{l l':Lc}{U:L2.St},Eu O H0 W l os U H->(t.any os.contains)=ai->Rq (O.ex W) H vs us->Pv.YE t vs l=aa l'->us.length=t.length/\Eu O H0 W l' os (W7 t us U) H
 |[],[],_,l,l',U,h,_,r,e=>by rw[r];cases e;exact#[rfl,h]
 |[],_::_,_,_,_,_,_,_,_,e=>by cases e
 |_::_,[],_,_,_,_,_,_,_,e=>by cases e
 |i::t,v::vs,_,l,l',U,h,ht,r,e=>by
  obtain⟨d,ds,rfl,a,b⟩:=r;rw[fv,Bool.or_eq_false_iff]at ht;obtain⟨z,q⟩:=Eu.fill (h.set ht.1 λ_ z=>by cases z;exact a) ht.2 b e
  exact#[by rw[aL,aL,z],q]
def tGU(K:ao)(t:List Nat):TG:=λv U H Q=>match t with
 |[i]=>Q (U.set i<|aa v) H
 |t=>∃a xs,v=.ref a/\(SqT K H a xs\/H a=aa (.lst xs))/\xs.length=t.length/\Q (W7 t xs U) H
def Eu.assign{Q:L2.St->Hp->Prop}(h:Eu O H0 W l os U H)(ht:(t.any os.contains)=ai)(r:Rep (O.ex W) H d v)(e:Pv.Zf t d l=aa l')(q:∀σ',Eu O H0 W l' os σ' H->Q σ' H):tGU K t v U H Q:=by
 have gen:∀t:List Nat,(t.any os.contains)=ai->(match Pv.wf d with
   |some xs=>Pv.YE t xs l
   |none=>ae)=aa l'->∃a xs,v=.ref a/\(SqT K H a xs\/H a=aa (.lst xs))/\xs.length=t.length/\Q (W7 t xs U) H:=by
  intro t ht e;cases d with|tup vs=>obtain⟨p,ds,rfl,hp,rs⟩:=r.tup';obtain⟨z,y⟩:=h.fill ht rs e;exact#[p,ds,rfl,.inl<|SqT.of hp,z,q _ y]|lst vs=>obtain⟨p,ds,rfl,hp,_,rs⟩:=r.lst';obtain⟨z,y⟩:=h.fill ht rs e;exact#[p,ds,rfl,.inr hp,z,q _ y]|_=>cases e
 match t,ht,e with
 |[i],ht,e=>cases e;exact q _<|h.set (by simpa using ht) λ_ z=>by cases z;exact r
 |[],ht,e=>exact gen [] ht e
 |i::j::t,ht,e=>exact gen (i::j::t) ht e
noncomputable def noW(W:Own)(i:Nat):Own:=λj=>if j=i then ae else W j
def Xs{i j:Nat}{a:aG}(z:noW W i j=aa a):j≠i/\W j=aa a:=by
 unfold noW at z;by_cases c:j=i
 .rw[T9 c]at z;cases z
 .rw[T8 c]at z;exact#[c,z]
theorem Lat.noW{i:Nat}:Lat (O.ex W) H (O.ex<|noW W i) H:=#[rfl,rfl,λ_ _ h _ _ _=>h,λ_ _ x=>x.elim .inl λ#[j,e]=>.inr #[j,(Xs e).2]]
def WX{i:Nat}(h:∀i,os.contains i=(W i).isSome)(j:Nat):(os.filter (· != i)).contains j=(noW W i j).isSome:=by
 unfold noW;by_cases c:j=i
 .simp[c]
 .simp only[c,if_false]
  rw[<-h j,cK,c7,c7,dU];simp[c]
def Eu.drop{i:Nat}{o:Option D}{v:V}(h:Eu O H0 W l os U H)(r:∀d,o=aa d->Rep (O.ex<|noW W i) H d v):Eu O H0 (noW W i) (l.set i o) (os.filter (· != i)) (U.set i<|aa v) H:=by
 refine#[h.fut,h.xd,by rw[bc,bc];exact h.len,WX h.osW,λa b n x y=>h.inj a b n (Xs x).2 (Xs y).2,λj n z=>h.new j n (Xs z).2,λj n z=>?_,λj w e z=>?_]
 .obtain⟨d,a,c,e⟩:=h.own j n (Xs z).2
  have ij:i≠j:=Ne.symm (Xs z).1;exact#[d,by rw[aQ ij];exact a,by rw[aQ ij];exact c,e.lat Lat.noW rfl]
 .rcases QC e with⟨rfl,e,hl⟩|⟨c,e⟩
  .exact#[v,ba (by rw[<-h.len];exact hl),r w e]
  .rw[aQ c]
   unfold Sd.noW at z;rw[T8<|Ne.symm c]at z;obtain⟨d',a,b⟩:=h.val j w e z;exact#[d',a,b.lat Lat.noW]
noncomputable def Vp(W:Own)(i:Nat)(a:aG):Own:=λj=>if j=i then aa a else W j
def Lat.put{i:Nat}{a:aG}{o:HO}(ha:H a=ae):Lat (O.ex W) H (O.ex<|Vp W i a) (upd H a o):=#[rfl,rfl,(Zp (O:=O.ex W) ha).lat.keep',λb hb x=>by
 rcases x with x|⟨j,x⟩
 .exact .inl x
 .unfold Vp at x
  split at x
  .exact T7 ha<|af x▸hb
  .exact .inr #[j,x]]
def Eu.takeO{i:Nat}{a:aG}{d:D}(h:Eu O H0 W l os U H)(hd:∀a,O.X a->H a≠ae)(f:Fut O H O H')(hn:H a=ae)(hx:¬(O.ex W).X a)(r:Y3 (O.ex<|Vp W i a) H' a d)(hi:i<l.length) :
  Eu O H0 (Vp W i a) (l.set i<|aa d) (i::os.filter (· != i)) (U.set i<|aa<|.ref a) H':=by
 have h1:=h.mono f;have get:∀{j m},Vp W i a j=aa m->(j=i/\a=m)\/(j≠i/\W j=aa m):=λ{j m} z=>by
  unfold Vp at z;by_cases c:j=i
  .rw[T9 c]at z;exact .inl #[c,af z]
  .rw[T8 c]at z;exact .inr #[c,z]
 have na:H0 a=ae:=h.fut.new hn hd;have lt:Lat (O.ex W) H (O.ex<|Vp W i a) H':=#[rfl,rfl,f.ex.lat.keep',λb hb x=>by
  rcases x with x|⟨j,x⟩
  .exact .inl x
  .rcases get x with⟨_,z⟩|⟨_,z⟩
   .exact T7 hn<|z▸hb
   .exact .inr #[j,z]]
 refine#[h1.fut,h.xd,by rw[bc,bc];exact h.len,λj=>?_,λp q m x y=>?_,λj m z=>?_,λj m z=>?_,λj w q z=>?_]
 .have:=WX (i:=i) h.osW j
  unfold Vp;by_cases c:j=i
  .simp[c]
  .unfold noW at this
   rw[T8 c]at this ⊢;rw[List.contains_cons,this,beq_eq_false_iff_ne.mpr c,iu]
 .rcases get x with⟨x1,x2⟩|⟨x1,x2⟩<;>rcases get y with⟨y1,y2⟩|⟨y1,y2⟩
  .rw[x1,y1]
  .exact T7 (.inr #[q,x2▸y2]) hx
  .exact T7 (.inr #[p,y2▸x2]) hx
  .exact h.inj p q m x2 y2
 .rcases get z with⟨_,z⟩|⟨_,z⟩
  .exact z▸na
  .exact h.new j m z
 .rcases get z with⟨z1,z2⟩|⟨z1,z2⟩
  .subst z1 z2
   exact#[d,ba hi,ba (by rw[<-h.len];exact hi),r]
  .obtain⟨d',p,c,q⟩:=h.own j m z2
   exact#[d',by rw[aQ<|Ne.symm z1];exact p,by rw[aQ<|Ne.symm z1];exact c,q.lat lt (by rcases q.ob with⟨_,e⟩|⟨_,e⟩<;>rw[vJ f (h.nx z2) e,e])]
 .unfold Vp at z
  by_cases c:j=i
  .rw[T9 c]at z;cases z
  .rw[T8 c]at z
   rw[aQ<|Ne.symm c]at q ⊢;obtain⟨d,p,b⟩:=h.val j w q z;exact#[d,p,b.lat lt]
def Eu.take(h:Eu O H0 W l os U H)(hd:∀a,O.X a->H a≠ae)(f:Fut O H O H')(hn:H a=ae)(hf:Pv.Y1 xs=aj)(r:Rep (O.ex W) H' (.lst xs) (.ref a))(hi:i<l.length) :
  Eu O H0 (Vp W i a) (l.set i<|aa<|.lst xs) (i::os.filter (· != i)) (U.set i<|aa<|.ref a) H':=by
 obtain⟨_,us,en,hs,hx,rs⟩:=r.lst';cases en;exact h.takeO (d:=.lst xs) hd f hn hx #[us,hs,rs.flat (O:=O.ex W) (ρ':=O.ex<|Vp W i a) rfl (λ_ _ z _ _=>z) hf] hi
def Eu.mutO{i:Nat}{a:aG}{d':D}{o':HO}(h:Eu O H0 W l os U H)(hw:W i=aa a)(r:Y3 (O.ex W) (upd H a o') a d'):Eu O H0 W (l.set i<|aa d') os U (upd H a o'):=by
 obtain⟨d,p,c,e⟩:=h.own i a hw;have hi:i<l.length:=(a8.mp p).1;have lt:Lat (O.ex W) H (O.ex W) (upd H a o'):=Lat.own (show(O.ex W).X a from mz #[i,hw]) e.ob
 refine#[#[rfl,λb o z=>?_],h.xd,by rw[bc];exact h.len,h.osW,h.inj,h.new,λj m z=>?_,λj w q z=>?_]
 .rw[Zl λq=>by rw[q,h.new i a hw]at z;cases z]
  exact h.fut.keep b o z
 .by_cases k:i=j
  .subst k
   rw[hw]at z;cases z;exact#[d',ba hi,c,r]
  .obtain⟨d2,a',c',e'⟩:=h.own j m z
   exact#[d2,by rw[aQ k];exact a',c',e'.lat lt<|Zl λq:m=a=>k<|h.inj i j a hw<|q▸z]
 .have k:i≠j:=λk=>by rw[<-k,hw]at z;cases z
  rw[aQ k]at q;obtain⟨d,a',b'⟩:=h.val j w q z;exact#[d,a',b'.lat lt]
def Eu.mut(h:Eu O H0 W l os U H)(hw:W i=aa a)(r:Rq (O.ex W) H ys us):Eu O H0 W (l.set i<|aa<|.lst ys) os U (upd H a<|.lst us):=by
 obtain⟨d,p,c,e⟩:=h.own i a hw;exact h.mutO hw (d':=.lst ys) #[us,Zo,r.lat<|Lat.own (show(O.ex W).X a from mz #[i,hw]) e.ob]
def St3.mut{K:ao}{i:Nat}{a:aG}{o':HO}(st:St3 K O S H)(h:Eu O H0 W l os U H)(hw:W i=aa a)(ht:∀ps,o'≠.tbl ps:=by intro _ z;cases z):St3 K O S (upd H a o'):=by
 obtain⟨d,p,c,e⟩:=h.own i a hw;have ne:∀b,O.X b->b≠a:=λb x z=>h.nx hw<|z▸x
 exact#[st.hk,λb x=>by rw[Zl<|ne b x];exact st.xd b x,λb x=>by rw[Zl<|ne b<|O.xz b x];exact st.dw b x,st.tb.upd (λo u z=>by rcases e.ob with⟨_,e⟩|⟨_,e⟩<;>(rw[e]at z;cases z)) ht]
structure Base(O:Mx)(H0 H1:Hp):Prop where
 fut:Fut O H0 O H1
 dom:∀a,H1 a=ae->H0 a=ae
def Eu.rebase(b:Base O H0 H1)(x:∀a,O.X a->H0 a≠ae)(h:Eu O H1 W l os U H):Eu O H0 W l os U H:=#[b.fut.trans h.fut,x,h.len,h.osW,h.inj,λi a e=>b.dom a<|h.new i a e,h.own,h.val]
open Classical in
noncomputable def VG(H:Hp)(W:Own):Hp:=λa=>if ∃i,W i=aa a then ae else H a
def Eu.off(h:Eu O H0 W l os U H)(hd:∀a,O.X a->H a≠ae):Base O H0 (VG H W)/\Eu O (VG H W) W l os U H:=by
 have nw:∀a,H0 a≠ae->VG H W a=H a:=λa z=>T8 λ#[i,e]=>z<|h.new i a e
 refine#[#[#[rfl,λa o e=>?_],λa e=>?_],#[rfl,λa o e=>.inl ?_],λa x=>?_,h.len,h.osW,h.inj,λi a e=>T9 #[i,e],h.own,h.val]
 .rw[nw a<|by rw[e];intro z;cases z];exact h.fut.keep a o e
 .cases q:H0 a with
  |none=>rfl
  |some o=>
   rw[nw a<|by rw[q];intro z;cases z]at e
   rw[h.fut.new e hd]at q;cases q
 .unfold VG at e
  split at e
  .cases e
  .exact e
 .rw[nw a<|h.xd a x];exact hd a x
def Eu.walk(h:Eu O H0 W l os U H)(h':Eu O (VG H W) W' l' os' σ' H'):Lat (O.ex W) H (O.ex W') H':=by
 refine#[rfl,rfl,λa o e x n nd=>?_,λa e x=>?_]
 .have nw:¬∃i,W i=aa a:=by
   rintro ⟨i,w⟩;obtain⟨_,_,_,z⟩:=h.own i a w;rcases z.ob with⟨us,z⟩|⟨us,z⟩<;>rw[e]at z
   .exact x us (af z)<|.inr #[i,w]
   .exact nd us (af z)<|.inr #[i,w]
  rcases h'.fut.keep a o (by unfold VG;rw[T8 nw];exact e)with z|⟨z,xs,q⟩|⟨⟨ps,q⟩,_⟩
  .exact z
  .exact T7 (.inl<|O.xz a z)<|x xs q
  .exact T7 q<|n ps
 .rcases x with x|⟨i,x⟩
  .exact .inl x
  .have:=h'.new i a x
   unfold VG at this;split at this
   .exact .inr ‹_›
   .exact T7 this e
end
section
variable(X:Cx)(xw:Nat->Hp->Prop)(C:Calls)
def tF(f:Lc->Zr->R D):TE:=λU H Q=>∃O l S,St3 X.K O S H/\LocR O H l U/\End X.K xw (XM aj H) O H Q (f l S)
structure CF(e:Expr)(i:E):Prop where
 h:PE X e (tF X xw<|Pv.pv C i)
end
def CF.ce{X:Cx}{xw:Nat->Hp->Prop}{C:Calls}{e:Expr}{i:E}(h:CF X xw C e i):CE X xw C e i:=.mk <| PE.imp h.h<|by rintro U H Q ⟨O,l,S,st,lr,h⟩;exact #[O,l,S,st,lr,h.fr]
def End.newF{K:ao}{xw:Nat->Hp->Prop}{O:Mx}{H0 H:Hp}{Q:VK}{S S0:Zr}{ds:List D}{xs:List V}(h:End K xw (XM aj H0) O H Q (.ok (.lst ds) S))(f:Fut O H0 O H)(s0:St3 K O S0 H0)(st:St3 K O S H)(r:Rq O H ds xs):∀p,H p=ae->Q (.ref p) (upd H p<|.lst xs):=λp hp=>
 h O _ _ (Zp hp) (st.fresh hp) #[XR Zo (st.nx hp)<|r.mono<|Zp hp,λ_ _ _=>#[p,rfl,f.new hp st.xd]]
def VS(K:ao)(xw:Nat->Hp->Prop)(f:Bf):List V->Hp->VK->Prop:=λvs H Q=>∃O S ds,St3 K O S H/\Rq O H ds vs/\∃H0 S0,Fut O H0 O H/\St3 K O S0 H0/\End K xw (XM aj H0) O H Q (Pv.po (Pv.Y6 f ds) S)
def GZ{xw:Nat->Hp->Prop}:∀U H Q,tF X xw (Pv.pv C<|.blt f is) U H Q->tCB (VS X.K xw f) (tA X xw<|Pv.pvs C is) U H Q:=λU H Q #[O,l,S,st,lr,h]=>
 #[O,l,S,st,lr,End.bind (h) λxs S1 ρ1 H1 vs f1 st1 r1 h1=>by cases f1.eq;exact#[O,S1,xs,st1,r1,H,S,f1,st,h1]]
def qP{X:Cx}{xw:Nat->Hp->Prop}{C:Calls}{e:Expr}{pos p:gD}{f:Bf}{id:String}{x:bD}{es:List Expr}{is:List E}(hc:ZD X (.builtin id) (VS X.K xw f))(hm:X.mg x=ae)(ha:CA X xw C (e::es) is)(hg:Gl X x)(hv:cY x=aa (.builtin id))(hn:x≠"__name__")(hdb:(x == ("__debug__" : bD))=ai)
  (he:aM (e::es) X.env=(ai,cV e X.env)::aM es X.env)(hpl:(eC pos<|aM es X.env).any (·.1)=ai):CF X xw C (.Call (.Name x p) (e::es) [] pos) (.blt f is):=.mk <|
 PE.imp (WW hc hg hm hv ha.h hn hdb he hpl) GZ
def G0{X:Cx}{xw:Nat->Hp->Prop}{C:Calls}{e:Expr}{pos p:gD}{f:Bf}{id:String}{x:bD}{es:List Expr}{is:List E}(hc:ZD X (.type id) (VS X.K xw f))(hm:X.mg x=ae)(ha:CA X xw C (e::es) is)(hg:Gl X x)(hv:cY x=aa (.type id))(hn:x≠"__name__")(hdb:(x == ("__debug__" : bD))=ai)
  (he:aM (e::es) X.env=(ai,cV e X.env)::aM es X.env)(hpl:(eC pos<|aM es X.env).any (·.1)=ai):CF X xw C (.Call (.Name x p) (e::es) [] pos) (.blt f is):=.mk <|
 PE.imp (V9 hc hg hm hv ha.h hn hdb he hpl) GZ
def JZ{X:Cx}{xw:Nat->Hp->Prop}:ZD X (.type "list") (VS X.K xw .list):=ZD.imp Qj<|by
 rintro vs H Q ⟨O,S,ds,st,r,H0,S0,f0,s0,h⟩;obtain⟨d,v,z,rfl,r1,hz,h⟩:=X0 h r;obtain⟨xs,hx,rfl⟩:=aR.mp hz;obtain⟨p,ys,rfl,hq,r2⟩:=r1.seq hx;exact#[p,ys,rfl,by rw[<-st.hk];exact hq,h.newF f0 s0 st r2]
def Zv(fr:Bool)(K:ao)(xw:Nat->Hp->Prop)(O:Mx)(H0:Hp)(D:Ends):R Pv.FlV->Prop
 |.ok (.nx l os) S=>∀H' σ' W',St3 K O S H'->Eu O H0 W' l os σ' H'->D.nx σ' H'
 |.ok (.brk l os) S=>∀H' σ' W',St3 K O S H'->Eu O H0 W' l os σ' H'->D.bk σ' H'
 |.ok (.cnt l os) S=>∀H' σ' W',St3 K O S H'->Eu O H0 W' l os σ' H'->D.ct σ' H'
 |.ok (.ret d) S=>∀H' v,Fut O H0 O H'->St3 K O S H'->XM fr H0 O H' d v->D.rt v H'
 |.ex c S=>∀H',Fut O H0 O H'->St3 K O S H'->xw c H'
 |.no=>False
section
variable{fr:Bool}{K:ao}{xw:Nat->Hp->Prop}{O:Mx}{H0 H:Hp}{B β:Type}{rep:Mx->Hp->B->β->Prop}{D:Ends}{W:Own}{l:Lc}{os:List Nat}{U:L2.St}{S:Zr}
theorem Zv.bind{Q1:β->Hp->Prop}(he:Eu O H0 W l os U H)(h:Zv fr K xw O H0 D (r.bind f))
  (k:∀d S H1 v,Fut O H O H1->St3 K O S H1->rep O H1 d v->Zv fr K xw O H0 D (f d S)->Q1 v H1):End K xw rep O H Q1 r:=by
 cases r with|ok d S=>exact λρ1 H1 v g st r=>by cases g.eq;exact k d S H1 v g st r h|ex c S=>exact λρ1 H1 g st=>by cases g.eq;exact h H1 (he.fut.trans g) st|no=>exact h
def Zv.bindW{Q1:β->Hp->Prop}(he:Eu O H0 W l os U H)(h:Zv fr K xw O H0 D (r.bind f))
  (k:∀d S H1 v,Fut O H O H1->St3 K O S H1->rep (O.ex W) H1 d v->Zv fr K xw O H0 D (f d S)->Q1 v H1):End K xw rep (O.ex W) H Q1 r:=by
 cases r with|ok d S=>exact λρ1 H1 v g st r=>by cases g.eq;exact k d S H1 v #[rfl,g.keep] st.unex r h|ex c S=>exact λρ1 H1 g st=>by cases g.eq;exact h H1 (he.fut.trans #[rfl,g.keep]) st.unex|no=>exact h
def Zv.ob(h:Zv fr K xw O H0 D ((Pv.po o S).bind f)):∃a,o=aa a/\Zv fr K xw O H0 D (f a S):=by
 cases o with|none=>exact h.elim|some a=>exact#[a,rfl,h]
def Zv.guard{c:Prop}[Decidable c](h:Zv fr K xw O H0 D (if c then a else .no)):c/\Zv fr K xw O H0 D a:=by
 split at h
 .exact#[‹_›,h]
 .exact h.elim
def Zv.guardN{c:Prop}[Decidable c](h:Zv fr K xw O H0 D (if c then .no else a)):¬c/\Zv fr K xw O H0 D a:=by
 split at h
 .exact h.elim
 .exact#[‹_›,h]
theorem Zv.rebase(b:Base O H0 H1)(x:∀a,O.X a->H0 a≠ae)(h:Zv fr K xw O H0 D r):Zv fr K xw O H1 D r:=by
 cases r with
 |ok f S=>
  cases f with|nx l os=>exact λH' σ' W' st e=>h H' σ' W' st<|e.rebase b x|brk l os=>exact λH' σ' W' st e=>h H' σ' W' st<|e.rebase b x|cnt l os=>exact λH' σ' W' st e=>h H' σ' W' st<|e.rebase b x|ret d=>exact λH' v f st r=>h H' v (b.fut.trans f) st #[r.1,λz ds y=>let #[a,e,q]:=r.2 z ds y;#[a,e,b.dom a q]]
 |ex c S=>exact λH' f st=>h H' (b.fut.trans f) st
 |no=>exact h
end
section
variable(X:Cx)(xw:Nat->Hp->Prop)(fr:Bool)
def tS3(f:Lc->List Nat->Zr->R Pv.FlV):TS:=λD U H=>∃O H0 W l os S,St3 X.K O S H/\Eu O H0 W l os U H/\Zv fr X.K xw O H0 D (f l os S)
variable(C:Calls)(ms:List Nat)
structure CS(st:eR)(s:Sm):Prop where
 h:PS X st (tS3 X xw fr<|Pv.rv C ms s)
structure CSs(st:List eR)(s:List Sm):Prop where
 h:PSs X st (tS3 X xw fr<|Pv.rvs C ms s)
structure CG(tg:Expr)(t:List Nat):Prop where
 h:PG X tg (tGU X.K t)
def Zc4(t:List Nat):TGs:=λvs U H Q=>vs.length=t.length/\Q (W7 t vs U) H
structure CGs(tgs:List Expr)(t:List Nat):Prop where
 h:PGs X tgs (Zc4 t)
end
def PS.imp(h:PS X e t)(k:∀D U H,t' D U H->t D U H):PS X e t':=λpq s U H D I q=>h pq s U H D I<|k D U H q
def PSs.imp(h:PSs X e t)(k:∀D U H,t' D U H->t D U H):PSs X e t':=λpq s U H D I q=>h pq s U H D I<|k D U H q
def PG.imp(h:PG X e t)(k:∀v U H Q,t' v U H Q->t v U H Q):PG X e t':=λpq s U H v u Q I r q=>h pq s U H v u Q I r<|k v U H Q q
def PGs.imp(h:PGs X e t)(k:∀v U H Q,t' v U H Q->t v U H Q):PGs X e t':=λpq s U H v u Q I r q=>h pq s U H v u Q I r<|k v U H Q q
section
variable{X:Cx}{xw:Nat->Hp->Prop}{fr:Bool}{C:Calls}{ns:List Nat}{e a b c:Expr}{i j k:E}{pos p p' p2:gD}{s0:eR}{ss:List eR}{m0:Sm}{ms ms':List Sm}
def Za3{es:List Expr}{is:List E}(h:CA X xw C es is):CF X xw C (.List es pos) (.lst is):=.mk <| PE.imp (J6 h.h)<|by
 rintro U H Q ⟨O,l,S,st,lr,h⟩;rw[Pv.pv]at h;refine#[O,l,S,st,lr,h.bind λxs S1 ρ1 H1 vs f1 st1 r1 h1=>?_]
 obtain⟨hl,h1⟩:=h1.guard;cases f1.eq;exact#[by rw[r1.length,<-Yp];exact hl,h1.newF f1 st st1 r1]
def ZaX:CSs X xw fr C ns [] []:=.mk <| PSs.imp qV<|by rintro D U H ⟨O,H0,W,l,os,S,st,he,h⟩;exact h H U W st he
def qC(h1:CS X xw fr C ns s0 m0)(h2:CSs X xw fr C ns ss ms):CSs X xw fr C ns (s0::ss) (m0::ms):=.mk <| PSs.imp (QG h1.h h2.h)<|by
 rintro D U H ⟨O,H0,W,l,os,S,st,he,h⟩;refine#[O,H0,W,l,os,S,st,he,?_];rw[Pv.rvs]at h;cases q:Pv.rv C ns m0 l os S with
 |no=>rw[q]at h;exact h
 |ex c S1=>rw[q]at h;exact h
 |ok fl S1=>
  rw[q]at h;cases fl with|nx l1 os1=>exact λH1 σ1 W1 st1 he1=>#[O,H0,W1,l1,os1,S1,st1,he1,h]|_=>exact h
def Zas(he:CE X xw C e i):CS X xw ai C ns (.Return (aa e) pos) (.ret i):=.mk <| PS.imp (vY he.h)<|by
 rintro D U H ⟨O,H0,W,l,os,S,st,en,h⟩;rw[Pv.rv]at h;exact#[O,l,S,st,en.all,Zv.bind en h λx S1 H1 v f1 st1 r1 h1=>h1 H1 v (en.fut.trans f1) st1 #[r1,λz=>by cases z]]
def JC{K:ao}{O:Mx}{H0 H:Hp}{W:Own}{l:Lc}{os:List Nat}{U:L2.St}{S:Zr}{a:aG}(en:Eu O H0 W l os U H)(st:St3 K O S H)(h:H a=ae):H0 a=ae:=en.fut.new h st.xd
def uO(he:CF X xw C e i):CS X xw fr C ns (.Return (aa e) pos) (.ret i):=.mk <| PS.imp (vY he.h)<|by
 rintro D U H ⟨O,H0,W,l,os,S,st,en,h⟩;rw[Pv.rv]at h;exact#[O,l,S,st,en.all,Zv.bind en h λx S1 H1 v f1 st1 r1 h1=>h1 H1 v (en.fut.trans f1) st1 #[r1.1,λ_ ds y=>let #[a,e,q]:=r1.2 rfl ds y;#[a,e,JC en st q]]]
def ZcJ{sa sb:List eR}(hc:CT X xw C c k)(ha:CSs X xw fr C ns sa ms)(hb:CSs X xw fr C ns sb ms'):CS X xw fr C ns (.If c sa sb pos) (.ite k ms ms'):=.mk <| PS.imp (Zcs hc.h ha.h hb.h)<|by
 rintro D U H ⟨O,H0,W,l,os,S,st,en,h⟩;rw[Pv.rv]at h;refine#[O,l,S,st,en.all,Zv.bind en h λx S1 H1 v f1 st1 r1 h1=>?_]
 have e1:x=v:=r1;subst e1;cases x with|true=>exact#[O,H0,W,l,os,S1,st1,en.mono f1,h1]|false=>exact#[O,H0,W,l,os,S1,st1,en.mono f1,h1]
def qc{n:Nat}{x:bD}(hN:X.N.Nodup)(hi:X.N[n]?=aa x)(hx:L2.Loc X.env.scope x)(hf:X.fn x=aj\/X.env.scope.names.lookup x=aa .local):CG X (.Name x pos) [n]:=.mk <|
 PG.imp (U5 hN hi hx hf) λv U H Q q=>q
def qI:CGs X [] []:=.mk <| PGs.imp jb<|by
 rintro vs U H Q ⟨h,q⟩;cases vs with|nil=>exact#[rfl,q]|cons _ _=>cases h
def vj{tgs:List Expr}{n:Nat}{t:List Nat}{x:bD}(hN:X.N.Nodup)(h2:CGs X tgs t)(hi:X.N[n]?=aa x)(hx:L2.Loc X.env.scope x)(hf:X.fn x=aj\/X.env.scope.names.lookup x=aa .local)
  (hs:(bR (.Name x pos::tgs) X.env).map (·.2)=c0 (.Name x pos) X.env::(bR tgs X.env).map (·.2)):CGs X (.Name x pos::tgs) (n::t):=.mk <|
 PGs.imp (ud (U5 hN hi hx hf) h2.h hs)<|by
  rintro vs U H Q ⟨h,q⟩;cases vs with|nil=>cases h|cons v vs=>exact#[v,vs,rfl,Nat.succ.inj h,q]
theorem V6{E:ap->aw->Prop}(hne:t≠it):∀(n i:Nat)(s:aw)(Q:List ap->aw->Prop),s.heap.IsListIter it t i->s.heap.IsList t items->i+n<=items.size->
  (∀h',bX.IsListIter h' it t (i+n)->eB it s.heap h'->Q ((items.toList.drop i).take n) {s with heap:=h' })->aX (aS prog w) A (draw (.ref it) n) Q E s
 |0,i,s,Q,hit,_,_,hQ=>by
  exact au (by simpa using hQ s.heap hit<|eB.refl ..)
 |n+1,i,s,Q,hit,ht,hle,hQ=>by
  have hlt:i<items.size:=by lia
  refine ab<|iW hit ht (x:=items[i]) (by simp[hlt]) λh₁ hit₁ hs₁=>?_
  refine ab<|bL<|V6 hne n (i+1) _ _ hit₁ (ht.extBut hs₁.extBut hne) (by lia) λh₂ hit₂ hs₂=>au ?_
  have hd:items.toList.drop i=items[i]::items.toList.drop (i+1):=by simp[bS,hlt]
  have:=hQ h₂ (by rw[show i+(n+1)=i+1+n by lia];exact hit₂)<|hs₁.trans hs₂
  rw[hd,List.take_succ_cons]at this;exact this
theorem Jo{E:ap->aw->Prop}{x1}{Q:Unit->aw->Prop}(hh:A.handled=ae)(ht:s.heap.IsList t items)
  (hn:(bR elts env).length=items.size)(hstar:(bR elts env).findIdx? (·.1)=ae)
  (h:∀h',f8 s.heap.objs.size s.heap h'->aX (aS prog w) A (assignInOrder ((bR elts env).map (·.2)) items.toList) Q E {s with heap:=h' }) :
  aX (aS prog w) A (c0 (.Tuple elts x1 pos) env<|.ref t) Q E s:=by
 rw[assign_Tuple];refine ab<|fX ?_;have hlt:t≠s.heap.objs.size:=by obtain⟨o,ho,_⟩:=ht;exact bg<|aF ho
 unfold unpack;rw[hn,hstar];refine ab<|bL ?_;refine ab ?_;refine ab<|wpAny_specialOf ht.typeIs slot_list_iter.lookup ?_;refine au ?_;simp only[bW,if_false];refine ab<|bL<|eM ht ?_;refine ab<|bL<|V6 hlt items.size 0 _ _ #[_,aI _ rfl,rfl,rfl] (ht.push _) (by lia) λh₁ hit₁ hs₁=>?_
 have hall:kW items.size (List.drop 0 items.toList)=items.toList:=by
  rw[gR];exact cx (by simp)
 rw[hall];rw[T8<|by simp]
 have ht₁:=(ht.push _).extBut hs₁.extBut hlt;refine ab<|bL<|kt hh hit₁ ht₁ (by simp) λh₂ he₂=>?_
 simp only[Option.isSome_none,bW,if_false];exact au<|h h₂ λb o hb e=>he₂ b o hb<|hs₁.extBut b o hb<|aq _ e
def gTL(K:ao)(n:Nat)(t:TGs):TG:=λv U H Q=>∃a xs,v=.ref a/\(SqT K H a xs\/H a=aa (.lst xs))/\xs.length=n/\t xs U H Q
def Zcg{X:Cx}{pos:gD}{es:List Expr}{k:Nat}{t:TGs}{n:Nat}(hc:X.calm=aj)(h:PGs X es t)
  (hn:(bR es X.env).length=n:=by rfl)(hst:(bR es X.env).findIdx? (·.1)=ae:=by rfl):PG X (.Tuple es k pos) (gTL X.K n t):=by
 intro pq s U H v u Q I r hw;obtain⟨a,xs,e1,hq|hq,hl,hw⟩:=hw
 .exact Zat hc h hn hst pq s U H v u Q I r #[a,xs,e1,hq,hl,hw]
 .subst e1
  cases r;obtain⟨its,rv,pl,hz⟩:=I.list<|SqL.of hq;refine Jo (I.ok.hd hc) pl.isList (by simp[hn,<-hl,rv.length]) hst λh' hx=>?_
  have I1:=I.kept (t':=s.toks) λb o e=>hx b o (bg<|aF e) e
  exact h pq _ U H xs _ Q I1 (by simpa using rv) hw
def Zbj{tgs:List Expr}{q2:Nat}{n m:Nat}{r:List Nat}(hc:X.calm=aj)(h:CGs X tgs (n::m::r))(hn:(bR tgs X.env).length=(n::m::r).length)(hst:(bR tgs X.env).findIdx? (·.1)=ae):CG X (.Tuple tgs q2 pos) (n::m::r):=.mk <|
 PG.imp (Zcg hc h.h hn hst)<|by rintro v U H Q ⟨a,xs,e,hp,hl,q⟩;exact #[a,xs,e,hp,hl,hl,q]
def Zv.evA{D:Ends}{K:ao}{O:Mx}{H0 H:Hp}{W:Own}{l:Lc}{os:List Nat}{U:L2.St}{S:Zr}{f:Pv.V->Zr->R Pv.FlV}{Q1:VK}(z:Bool)(hz:Pv.fresh i=aj->z=aj)(st:St3 K O S H)(en:Eu O H0 W l os U H)(h:Zv fr K xw O H0 D ((Pv.pvA C i l os S).bind f))
  (k:∀d S1 H1 v,Fut O H O H1->St3 K O S1 H1->XM z H (O.ex W) H1 d v->Zv fr K xw O H0 D (f d S1)->Q1 v H1):∃ρ' l' S,St3 K ρ' S H/\LocR ρ' H l' U/\End K xw (XM z H) ρ' H Q1 (Pv.pv C i l' S):=by
 have hid:Zv fr K xw O H0 D ((Pv.pv C i (Pv.hide os l) S).bind f)->∃ρ' l' S,St3 K ρ' S H/\LocR ρ' H l' U/\End K xw (XM z H) ρ' H Q1 (Pv.pv C i l' S):=λh=>#[O.ex W,Pv.hide os l,S,en.st st,en.hid,Zv.bindW en h k]
 cases os with
 |nil=>exact hid (by rw[Vz];exact h)
 |cons o os=>
  have h:Zv fr K xw O H0 D (Pv.PR.bind (match Pv.pv C i (Pv.hide (o::os) l) S with
   |.ok v s=>.ok v s
   |.ex c s=>.ex c s
   |.no=>(Pv.pv C i l S).bind λv s=>if(v.flat||Pv.fresh i&&Pv.Jy v)=aj then .ok v s else .no) f):=h
  cases q:Pv.pv C i (Pv.hide (o::os) l) S with
  |ok v s=>rw[q]at h;exact hid (by rw[q];exact h)
  |ex c s=>rw[q]at h;exact hid (by rw[q];exact h)
  |no=>
   rw[q]at h;have h:Zv fr K xw O H0 D (((Pv.pv C i l S).bind λv s=>if(v.flat||Pv.fresh i&&Pv.Jy v)=aj then Pv.PR.ok v s else .no).bind f):=h
   rw[WF]at h;refine#[O,l,S,st,en.all,Zv.bind en h λd S1 H1 v f1 st1 r1 h1=>?_]
   by_cases c:(d.flat||Pv.fresh i&&Pv.Jy d)=aj
   case neg=>rw[T8 c]at h1;exact h1.elim
   rw[T9 c]at h1;refine k d S1 H1 v f1 st1 #[?_,r1.2] h1;rcases(km _ _).mp c with c|c
   .exact Rep.flat (O:=O) (ρ':=O.ex W) rfl (λ_ _ z _ _=>z) c r1.1
   .obtain⟨c1,c2⟩:=(aD _ _).mp c
    cases d with
    |lst xs=>
     obtain⟨a,rfl,ha⟩:=r1.2 (hz c1) xs rfl;obtain⟨_,us,e,hs,hx,rs⟩:=r1.1.lst';cases e;exact XR hs (λx=>x.elim hx λ#[i,w]=>let #[_,_,_,z]:=en.own i a w;T7 ha z.ne)<|rs.flat (O:=O) (ρ':=O.ex W) rfl (λ_ _ z _ _=>z) c2
    |_=>cases c2
def End.unfr{K:ao}{O:Mx}{H H0:Hp}{Q:VK}{r:R D}(h:End K xw (XM ai H0) O H Q r):End K xw Rep O H Q r:=by
 cases r with|ok d S=>exact λρ' H' v f st r=>h ρ' H' v f st #[r,λz=>by cases z]|_=>exact h
def uw{n:Nat}{tg:Expr}(he:CE X xw C e i)(hg:CG X tg [n])(hf:Pv.fresh i=ai)(hs:de [tg] e pos.line X.env=cT ai)(hw:dg [tg] e X.env=cT ae)
  (h1:(bR [tg] X.env).map (·.2)=[c0 tg X.env]):CS X xw fr C ns (.Assign [tg] e pos) (.asg [n] i):=.mk <| PS.imp (Y9 he.h hg.h hs hw h1)<|by
 rintro D U H ⟨O,H0,W,l,os,S,st,en,h⟩;rw[Pv.rv]at h;obtain⟨ρ',l',S',a,b,c⟩:=Zv.evA (Q1:=λx H1=>tGU X.K [n] x U H1 D.nx) ai (λz=>by rw[hf]at z;cases z) st en h λd S1 H1 v f1 st1 r1 h1=>by
  rw[hf,kJ,T8 aJ]at h1;exact h1 H1 _ _ st1<|(en.mono f1).drop (o:=aa d) λ_ z=>by cases z;exact r1.1.lat Lat.noW
 exact#[ρ',l',S',a,b,c.unfr]
def Zca{D:Ends}{O:Mx}{H0 H:Hp}{W:Own}{l:Lc}{os:List Nat}{U:L2.St}{S:Zr}{n:Nat}(st:St3 X.K O S H)(en:Eu O H0 W l os U H)(h:Zv fr X.K xw O H0 D (Pv.rv C ns (.asg [n] i) l os S)):tF X xw (Pv.pv C i) U H λx H1=>D.nx (U.set n<|aa x) H1:=by
 rw[Pv.rv]at h;refine Zv.evA aj (λ_=>rfl) st en h λd S1 H1 v f1 st1 r1 h1=>?_
 by_cases c:(ns.contains n&&Pv.fresh i)=aj
 .rw[T9 c]at h1
  cases d with
  |lst xs=>
   obtain⟨⟨hf,hl⟩,h1⟩:=Zv.guard h1;obtain⟨a,rfl,ha⟩:=r1.2 rfl xs rfl;exact h1 H1 _ _ st1<|en.take st.xd f1 ha hf r1.1 hl
  |_=>exact h1.elim
 .rw[T8 c]at h1
  exact h1 H1 _ _ st1<|(en.mono f1).drop (o:=aa d) λ_ z=>by cases z;exact r1.1.lat Lat.noW
def u4{n:Nat}{tg:Expr}(he:CF X xw C e i)(hg:CG X tg [n])(hs:de [tg] e pos.line X.env=cT ai)(hw:dg [tg] e X.env=cT ae)
  (h1:(bR [tg] X.env).map (·.2)=[c0 tg X.env]):CS X xw fr C ns (.Assign [tg] e pos) (.asg [n] i):=.mk <| PS.imp (Y9 he.h hg.h hs hw h1)<|by rintro D U H ⟨O,H0,W,l,os,S,st,en,h⟩;exact Zca st en h
def Zbc{n m:Nat}{t:List Nat}{tg:Expr}(he:CE X xw C e i)(hg:CG X tg (n::m::t))(hf:Pv.fresh i=ai)(hs:de [tg] e pos.line X.env=cT ai)(hw:dg [tg] e X.env=cT ae)
  (h1:(bR [tg] X.env).map (·.2)=[c0 tg X.env]):CS X xw fr C ns (.Assign [tg] e pos) (.asg (n::m::t) i):=.mk <| PS.imp (Y9 he.h hg.h hs hw h1)<|by
 rintro D U H ⟨O,H0,W,l,os,S,st,en,h⟩;rw[Pv.rv]at h
 .obtain⟨ρ',l',S',a,b,c⟩:=Zv.evA (Q1:=λx H1=>tGU X.K (n::m::t) x U H1 D.nx) ai (λz=>by rw[hf]at z;cases z) st en h λd S1 H1 v f1 st1 r1 h1=>by
   obtain⟨ht,h1⟩:=h1.guardN;obtain⟨l',hl,h1⟩:=Zv.ob h1;exact(en.mono f1).assign (by simpa using ht) r1.1 hl λσ' e'=>h1 H1 σ' W st1 e'
  exact#[ρ',l',S',a,b,c.unfr]
 .intro _ z;cases z
end
theorem Eu.at{O:Mx}{H0 H:Hp}{W:Own}{l:Lc}{os:List Nat}{U:L2.St}{i:Nat}{xs:List D}(h:Eu O H0 W l os U H)(hi:os.contains i=aj)(hx:Pv.XV l[i]?=aa xs):∃a,W i=aa a/\U[i]?=aa (aa<|.ref a)/\∃us,H a=aa (.lst us)/\Rq (O.ex W) H xs us:=by
 rw[h.osW]at hi;obtain⟨a,w⟩:=dm.mp hi;obtain⟨d,p,c,r⟩:=h.own i a w;rw[p]at hx;cases d with|lst ys=>cases hx;exact#[a,w,c,r]|_=>cases hx
section
variable{X:Cx}{xw:Nat->Hp->Prop}{fr:Bool}{C:Calls}{ns:List Nat}{e a b c:Expr}{i j k:E}{pos p p' p2:gD}{s0:eR}{ms ms':List Sm}{n:Nat}{x:bD}
def ZaM{es:List Expr}{is:List E}{tg:Expr}(h:CA X xw C es is)(hg:CG X tg [n])(hs:de [tg] (.List es p) pos.line X.env=cT ai)(hw:dg [tg] (.List es p) X.env=cT ae)
  (h1:(bR [tg] X.env).map (·.2)=[c0 tg X.env]):CS X xw fr C ns (.Assign [tg] (.List es p) pos) (.lnw n is):=.mk <| PS.imp (Y9 (J6 h.h) hg.h hs hw h1)<|by
 rintro D U H ⟨O,H0,W,l,os,S,st,en,h⟩;rw[Pv.rv]at h;refine#[O.ex W,Pv.hide os l,S,en.st st,en.hid,Zv.bindW en h λds S1 H1 vs f1 st1 r1 h1=>?_]
 obtain⟨⟨hl,hi⟩,h1⟩:=h1.guard;refine#[by rw[r1.length,<-Yp];exact hl,λa ha=>?_]
 have en1:=en.mono f1;have nx:¬(O.ex W).X a:=λz=>z.elim (λz=>st1.xd a z ha) λ#[j,w]=>let #[_,_,_,z]:=en1.own j a w;T7 ha z.ne
 exact h1 _ _ _ (st1.fresh ha)<|en1.takeO (d:=.lst ds) st1.xd (Zp ha) ha nx #[vs,Zo,r1.lat<|Lat.put ha] hi
def Zbo{es:List Expr}{is:List E}{tg:Expr}{q p3:gD}(h:CA X xw C es is)(hg:CG X tg [n])(hN:X.N[n]?=aa x)(hv:Vis X.env.scope x)(hd:(x == ("__debug__" : bD))=ai)(hcd:(x == ("__classdict__" : bD))=ai)
  (hs:de [tg] (.BinOp (.Name x p) .Add (.List es q) p3) pos.line X.env=cT ai)(hw:dg [tg] (.BinOp (.Name x p) .Add (.List es q) p3) X.env=cT ae)
  (h1:(bR [tg] X.env).map (·.2)=[c0 tg X.env]):CS X xw fr C ns (.Assign [tg] (.BinOp (.Name x p) .Add (.List es q) p3) pos) (.cat n is):=.mk <| PS.imp (Y9 (W8 xG (Vf hN hv hd hcd)<|J6 h.h) hg.h hs hw h1)<|by
 rintro D U H ⟨O,H0,W,l,os,S,st,en,h⟩;rw[Pv.rv]at h;obtain⟨c,h⟩:=h.guard;obtain⟨xs,hx,h⟩:=Zv.ob h;obtain⟨a,ha,hq,us,e1,_⟩:=en.at c hx;refine#[.ref a,hq,O.ex W,Pv.hide os l,S,en.st st,en.hid,Zv.bindW en h λds S1 H1 vs f1 st1 r1 h1=>?_]
 obtain⟨⟨hl,hm,hi⟩,h1⟩:=h1.guard;refine#[by rw[r1.length,<-Yp];exact hl,λb hb=>?_]
 have en1:=en.mono f1;have en2:=en1.mono<|Zp (o:=.lst vs) hb;have st2:=st1.fresh (o:=.lst vs) hb;obtain⟨a',ha',_,us,e2,r'⟩:=en2.at c hx;rw[ha]at ha';cases ha';have r1:=r1.mono<|Zp (O:=O.ex W) (o:=.lst vs) hb;refine#[a,b,us,vs,rfl,rfl,e2,Zo,by rw[r'.length,r1.length,<-Yp];exact hm,λd hd=>?_]
 have nx:¬(O.ex W).X d:=λz=>z.elim (λz=>st2.xd d z hd) λ#[j,w]=>let #[_,_,_,z]:=en2.own j d w;T7 hd z.ne
 exact h1 _ _ _ (st2.fresh hd)<|en2.takeO (d:=.lst<|xs++ds) st2.xd (Zp hd) hd nx #[us++vs,Zo,(r'.append r1).lat<|Lat.put hd] hi
def ZbE{apos cpos:gD}(he:CE X xw C e i)(hN:X.N[n]?=aa x)(hv:Vis X.env.scope x)(hd:(x == ("__debug__" : bD))=ai)(hcd:(x == ("__classdict__" : bD))=ai)
  (hbase:attributeBase (.Name x p) "append" X.env (cV (.Name x p) X.env)=cV (.Name x p) X.env)
  (hfew:((eC cpos<|aM [e] X.env).all (λx=>!x.1)&&(backToKw cpos<|keywordEach [] X.env).all (λx=>x.1.isSome)
   && al (([e]:List Expr).length+([]:List nJ).length+(if([]:List nJ).isEmpty then 0 else 1)<30))=aj)
  (hline:(apos.endLine == cpos.line)=aj)(hs:aM [e] X.env=(ai,cV e X.env)::aM [] X.env)(hplain:(eC cpos<|aM [] X.env).any (·.1)=ai)
  (hw:iH (.Call (.Attribute (.Name x p) "append" apos) [e] [] cpos) ae pos.line X.env=cT ai) :
  CS X xw fr C ns (.Expr (.Call (.Attribute (.Name x p) "append" apos) [e] [] cpos) pos) (.app n i):=.mk <|
 PS.imp (uk (ZbU PySem.F.plainAttrs_list PySem.F.slot_list_append PySem.F.type_list_append Ui (Vf hN hv hd hcd) (WR he.h Gq hs) hbase hfew hline hs hplain) hw)<|by
 rintro D U H ⟨O,H0,W,l,os,S,st,en,h⟩;rw[Pv.rv]at h;obtain⟨c,h⟩:=h.guard;obtain⟨xs,hx,h⟩:=Zv.ob h;obtain⟨a,ha,q,us,e1,_⟩:=en.at c hx;refine#[.ref a,q,.inl #[rfl,us,SqL.of e1],O.ex W,Pv.hide os l,S,en.st st,en.hid,Zv.bindW en h λy S1 H1 v f1 st1 r1 h1=>?_]
 obtain⟨hl,h1⟩:=h1.guard;have en1:=en.mono f1;obtain⟨a',ha',_,us,e2,r'⟩:=en1.at c hx;rw[ha]at ha';cases ha';exact#[a,us,v,rfl,rfl,e2,by rw[r'.length,<-Yp];exact hl,h1 _ _ W (st1.mut en1 ha)<|en1.mut ha<|r'.append<|Rq.cons r1 Rq.nil]
structure AugOk(X:Cx)(op:nc)(o:Bop):Prop where
 h:∃t:TIp,PIp X op t/\∀(xw:Nat->Hp->Prop) O S H n m Q,St3 X.K O S H->End X.K xw Rep O H Q (Pv.Yz o (.int n) (.int m) S)->t (.int n) (.int m) H Q
def xB:AugOk X .Add .add:=#[_,uF,λxw O S H n m Q st h=>#[n,m,rfl,rfl,End.ok h st<|ZI _]]
def wW{o:Bop}{a b:Int}{S S':Zr}{z:D}(h:Pv.VF o a b S=.ok z S'):∃y,z=.int y:=by
 unfold Pv.VF at h;cases o<;>simp only at h<;>first
  |(cases h;exact#[_,rfl])
  |(split at h<;>cases h;exact#[_,rfl])
def Zbl{op:nc}{o:Bop}(ho:AugOk X op o)(hN:X.N.Nodup)(he:CE X xw C e i)(hi:X.N[n]?=aa x)(hx:L2.Loc X.env.scope x)(hf:X.fn x=aj\/X.env.scope.names.lookup x=aa .local) :
  CS X xw fr C ns (.AugAssign (.Name x p) op e pos) (.aug n o i):=.mk <| by
 obtain⟨t,ht,hq⟩:=ho.h;refine PS.imp (j8 hN hi hx he.h ht hf) λD U H #[O,H0,W,l,os,S,st,en,h]=>?_
 rw[Pv.rv]at h;obtain⟨c,h⟩:=h.guardN;obtain⟨d,hd,h1⟩:=Zv.ob h;obtain⟨v,hv,rv⟩:=en.all.val n d (by cases q:l[n]?<;>rw[q]at hd<;>cases hd;rfl)
 refine#[v,hv,O,l,S,st,en.all,Zv.bind en h1 λy S1 H1 u f1 st1 r1 h2=>?_]
 cases d with
 |int m=>cases y with
  |int m'=>
   rw[rv.int',r1.int'];have h2:Zv fr X.K xw O H0 D ((Pv.VF o m m' S1).bind λz S=>.ok (.nx (l.set n<|aa z) os) S):=h2
   refine hq xw O S1 H1 m m' _ st1 (show End X.K xw Rep O H1 _ (Pv.VF o m m' S1)from ?_)
   have en1:=en.mono f1;cases q:Pv.VF o m m' S1 with
   |no=>rw[q]at h2;exact h2
   |ex c S2=>rw[q]at h2;exact λρ1 H2 g s2=>by cases g.eq;exact h2 H2 (en1.fut.trans g) s2
   |ok z S2=>
    rw[q]at h2;obtain⟨y,rfl⟩:=wW q;exact λρ1 H2 w g s2 r2=>by
     cases g.eq;cases r2.int';exact h2 H2 _ W s2<|(en1.mono g).set (o:=aa<|.int y) (by simpa using c) λ_ z=>by cases z;exact ZI _
  |_=>exact False.elim h2
 |_=>exact False.elim h2
def wQ{body:List eR}(hp:kT (aS X.prog X.w) X.A X.env X.xe)(hc:CT X xw C c k)(hb:CSs X xw fr C ns body ms):CS X xw fr C ns (.While c body [] pos) (.whl k ms):=.mk <| PS.imp (vm hp hc.h hb.h)<|by
 rintro D U H ⟨O,H0,W,l,os,S,st,en,h⟩;refine#[λm σ' H'=>∃W' l' os' S',St3 X.K O S' H'/\Eu O H0 W' l' os' σ' H'/\Zv fr X.K xw O H0 D (Pv.YG (Pv.YF C k) (Pv.rvs C ns ms) m l' os' S'),#[Ev.Js,W,l,os,S,st,en,h],?_]
 rintro m σ' H' ⟨W',l',os',S',st',en',e'⟩
 cases m with
 |zero=>exact False.elim e'
 |succ m=>
  rw[Pv.YG]at e';refine#[O,l',S',st',en'.all,Zv.bind en' e' λb S1 H1 b' f1 st1 r1 h1=>?_]
  have eb:b=b':=r1;subst eb;cases b with
  |false=>
   rw[T8 aJ]at h1 ⊢;exact h1 H1 σ' W' st1<|en'.mono f1
  |true=>
   rw[T9 rfl]at h1 ⊢;refine#[λσ2 H2=>∃W2 l2 os2 S2,St3 X.K O S2 H2/\Eu O H0 W2 l2 os2 σ2 H2/\Zv fr X.K xw O H0 D (Pv.YG (Pv.YF C k) (Pv.rvs C ns ms) m l2 os2 S2),λσ2 H2 w=>#[m,iM m,w],O,H0,W',l',os',S1,st1,en'.mono f1,?_]
   cases q:Pv.rvs C ns ms l' os' S1 with
   |no=>rw[q]at h1;exact h1
   |ex c S2=>rw[q]at h1;exact h1
   |ok fl S2=>
    rw[q]at h1;cases fl with|nx l3 os3=>exact λH4 σ4 W4 st4 lr4=>#[W4,l3,os3,S2,st4,lr4,h1]|cnt l3 os3=>exact λH4 σ4 W4 st4 lr4=>#[W4,l3,os3,S2,st4,lr4,h1]|brk l3 os3=>exact h1|ret d=>exact h1
end
structure WRel(K:ao)(O:Mx)(H:Hp)(w:List D)(J:It):Prop where
 go:∀(i:Nat) ρ' S' H',Lat O H ρ' H'->St3 K ρ' S' H'->i<w.length->J.go i H'/\∀x H'',J.yld i H' x H''->Fut ρ' H' ρ' H''/\St3 K ρ' S' H''/\∀d,w[i]?=aa d->Rep ρ' H'' d x
 stop:∀ρ' S' H',Lat O H ρ' H'->St3 K ρ' S' H'->J.stop w.length H'
section
variable(X:Cx)(xw:Nat->Hp->Prop)
def tW3(f:Lc->Zr->R (List D)):TI:=λU H Q=>∃O l S,St3 X.K O S H/\LocR O H l U/\End X.K xw (WRel X.K) O H Q (f l S)
structure CW(C:Calls)(tg it:Expr)(w:Ev.W):Prop where
 h:PI X tg it (tW3 X xw<|Pv.pvw C w)
end
def PI.imp(h:PI X tg it t)(k:∀U H Q,t' U H Q->t U H Q):PI X tg it t':=λpq s U H R I q=>h pq s U H R I<|k U H R q
section
variable{X:Cx}{xw:Nat->Hp->Prop}{C:Calls}{e a b c tg it:Expr}{i j k:E}{pos p p' p2:gD}
def ZcX(K:ao)(tl:TE):TI:=λU H R=>tl U H λx H1=>∃a,x=.ref a/\(((∃xs,SqL K H1 a xs)/\R (Itl K a) H1)\/((∃xs,SqT K H1 a xs)/\R (Itt K a) H1))
def wt(hl:PE X l tl):PI X tg l (ZcX X.K tl):=by
 intro pq s U H R I h;refine thn (hl pq s U H _ I h) λv s1 #[x,H1,I1,r1,a,e,q]=>?_
 subst e;cases r1;rcases q with⟨⟨xs,hq⟩,q⟩|⟨⟨xs,hq⟩,q⟩
 .obtain⟨its,rv,p,hz⟩:=I1.list hq
  refine eM p.isList ?_;refine#[s1.heap.objs.size,[s1.heap.objs.size],_,_,H1,rfl,I1.kept (t':=s1.toks) λb o e=>aq _ e,yE a _,#[_,aI _ rfl,rfl,rfl],λb hb=>?_,q]
  have e:b=s1.heap.objs.size:=by simpa using hb
  subst e;exact I1.fpOk (az _)<|I1.hok.fresh<|az _
 .obtain⟨its,rv,p,hz⟩:=I1.tuple hq
  refine fD (p) ?_
  refine#[s1.heap.objs.size,[s1.heap.objs.size],_,_,H1,rfl,I1.kept (t':=s1.toks) λb o e=>aq _ e,Gp a _,#[_,aI _ rfl,rfl,rfl],λb hb=>?_,q]
  have e:b=s1.heap.objs.size:=by simpa using hb
  subst e;exact I1.fpOk (az _)<|I1.hok.fresh<|az _
def Wk{K:ao}{O:Mx}{H:Hp}{ds:List D}{xs:List V}{J:It}(r:Rq O H ds xs)(hg:∀ρ' H',Lat O H ρ' H'->(∀i x,xs[i]?=aa x->J.go i H'/\∀y H'',J.yld i H' y H''->H''=H'/\y=x)/\∀n,n=xs.length->J.stop n H'):WRel K O H ds J where
 go:=λi ρ' S' H' f st hi=>by
  obtain⟨v,g,r'⟩:=(r.lat f).get<|ag hi;obtain⟨a,b⟩:=(hg ρ' H' f).1 i v g;refine#[a,λx H'' y=>?_]
  obtain⟨rfl,rfl⟩:=b x H'' y;exact#[Fut.refl _ _,st,λd hd=>by rw[ag hi]at hd;cases hd;exact r']
 stop:=λρ' S' H' f st=>(hg ρ' H' f).2 _ r.length.symm
def wO{K K':ao}{O:Mx}{H:Hp}{ds:List D}{a:aG}{xs:List V}(hp:H a=aa (.tup xs))(r:Rq O H ds xs):WRel K O H ds (Itt K' a):=Wk r λρ' H' f=>by
 have h:=SqT.of (K:=K')<|f.keep a _ hp λ_ z=>by cases z
 exact#[λi x g=>#[#[xs,x,h,g],λy H'' z=>#[z.1,by have:=z.2 xs h;rw[g]at this;exact(af this).symm]],λn e=>#[xs,h,by omega]]
def Ql{K K':ao}{O:Mx}{H:Hp}{ds:List D}{a:aG}{xs:List V}(hp:∀ρ' H',Lat O H ρ' H'->SqL K' H' a xs)(r:Rq O H ds xs):WRel K O H ds (Itl K' a):=Wk r λρ' H' f=>by
 have h:=hp ρ' H' f;exact#[λi x g=>#[#[xs,x,h,g],λy H'' z=>#[z.1,by have:=z.2 xs h;rw[g]at this;exact(af this).symm]],λn e=>#[xs,h,by omega]]
def VX(lo:Int)(n:Nat):(Pv.ZT lo n).length=n:=by unfold Pv.ZT;rw[ay,bF]
theorem V3(lo:Int):∀(l:List Nat),Rq O H (l.map λ(k:Nat)=>Pv.V.int<|lo+(k:Int)) (l.map λ(k:Nat)=>V.int<|lo+(k:Int))
 |[]=>Rq.nil
 |_::l=>Rq.cons (ZI _)<|V3 lo l
def Q3{K:ao}{O:Mx}{H:Hp}{lo:Int}{n:Nat}:WRel K O H (Pv.ZT lo n) (Itr lo n):=Wk (V3 lo<|aU n) λρ' H' f=>by
 refine#[λi x g=>?_,λm e=>?_]
 .have hi:i<n:=by have:=(a8.mp g).1;simpa using this
  rw[aK,c6 hi]at g;exact#[hi,λy H'' z=>#[z.1,z.2.trans<|af g]]
 .rw[ay,bF]at e;show n<=m;omega
def Zcf(he:CE X xw C e i):CW X xw C tg e (.of i):=.mk <| PI.imp (wt he.h)<|by
 rintro U H Q ⟨O,l,S,st,lr,h⟩;rw[Pv.pvw]at h;refine#[O,l,S,st,lr,h.bind λx S1 ρ1 H1 v f1 st1 r1 h1=>?_]
 obtain⟨ds,hd,h1⟩:=End.po h1;have q:∀{J},WRel X.K ρ1 H1 ds J->Q J H1:=λw=>End.ok h1 st1 w
 cases x with
 |tup ds=>cases hd;obtain⟨a,xs,rfl,hp,r⟩:=r1.tup';exact#[a,rfl,.inr #[#[xs,SqT.of hp],q<|wO hp r]]
 |lst ds=>cases hd;obtain⟨a,xs,rfl,hp,hx,r⟩:=r1.lst';exact#[a,rfl,.inl #[#[xs,SqL.of hp],q<|Ql (λρ' H' f=>SqL.of<|f.keep a _ hp λ_ _=>hx) r]]
 |scr ns=>
  cases hd;obtain⟨a,rfl,hp⟩:=r1.scr';rw[st1.hk]at hp;refine#[a,rfl,.inl #[#[_,hp.sq],q<|Ql (λρ' H' f=>?_)<|Rq.ints ns]]
  rcases hp with⟨o,hp⟩|hp
  .exact .inl<|.inr #[o,f.keep a _ hp λ_ z=>by cases z]
  .exact .inr hp
 |_=>exact Ev.nos hd
def jC{B β:Type}{rep:Mx->Hp->B->β->Prop}{O:Mx}{l:Lc}{S:Zr}{U:L2.St}{H:Hp}{Q:β->Hp->Prop}{Q1:List V->Hp->Prop}{g:D->Zr->R B}(st:St3 X.K O S H)(lr:LocR O H l U)(h:End X.K xw rep O H Q ((Pv.pv C i l S).bind g))
  (k:∀x S1 ρ1 H1 v,St3 X.K ρ1 S1 H1->Rep ρ1 H1 x v->End X.K xw rep ρ1 H1 Q (g x S1)->Q1 [v] H1):tA X xw (Pv.pvs C [i]) U H Q1:=by
 refine#[O,l,S,st,lr,?_];show End X.K xw Rq O H _ ((Pv.pv C i l S).bind λx S=>.ok [x] S)
 cases q:Pv.pv C i l S with
 |no=>rw[q]at h;exact h
 |ex c S1=>rw[q]at h;exact h
 |ok x S1=>
  rw[q]at h;intro ρ1 H1 vs f1 st1 r1;obtain⟨v,rfl,r⟩:=xV r1;exact k x S1 ρ1 H1 v st1 r<|End.mono f1 h
def jL{B β:Type}{rep:Mx->Hp->B->β->Prop}{O:Mx}{l:Lc}{S:Zr}{U:L2.St}{H:Hp}{Q:β->Hp->Prop}{Q1:List V->Hp->Prop}{g:D->D->Zr->R B}(st:St3 X.K O S H)(lr:LocR O H l U)(h:End X.K xw rep O H Q ((Pv.pv C i l S).bind λx S=>(Pv.pv C j l S).bind λy S=>g x y S))
  (k:∀x y S1 ρ1 H1 v u,St3 X.K ρ1 S1 H1->Rep ρ1 H1 x v->Rep ρ1 H1 y u->End X.K xw rep ρ1 H1 Q (g x y S1)->Q1 [v,u] H1):tA X xw (Pv.pvs C [i,j]) U H Q1:=by
 refine#[O,l,S,st,lr,?_];show End X.K xw Rq O H _ ((Pv.pv C i l S).bind λx S=>((Pv.pv C j l S).bind λy S=>.ok [y] S).bind λxs S=>.ok (x::xs) S)
 cases q:Pv.pv C i l S with
 |no=>rw[q]at h;exact h
 |ex c S1=>rw[q]at h;exact h
 |ok x S1=>
  rw[q]at h;have h:End X.K xw rep O H Q ((Pv.pv C j l S1).bind λy S=>g x y S):=h
  show End X.K xw Rq O H _ (((Pv.pv C j l S1).bind λy S=>.ok [y] S).bind λxs S=>.ok (x::xs) S)
  cases q2:Pv.pv C j l S1 with
  |no=>rw[q2]at h;exact h
  |ex c S2=>rw[q2]at h;exact h
  |ok y S2=>
   rw[q2]at h;intro ρ1 H1 vs f1 st1 r1;obtain⟨v,u,rfl,rv,ru⟩:=JI r1;exact k x y S2 ρ1 H1 v u st1 rv ru<|End.mono f1 h
def YJ(h:Ev.YN n=aj):-(2^62)<=n/\n<2^62:=T6 h
def qg(hm:X.mg "range" = ae)(ha:CA X xw C [a] [i])(hg:Gl X "range")(hs:aM [a] X.env=[(ai,cV a X.env)]):CW X xw C tg (.Call (.Name "range" p) [a] [] pos) (.rng1 i):=.mk <|
 PI.imp (yk hg hm ha.h hs) λU H Q #[O,l,S,st,lr,h]=>jC st lr h λx S1 ρ1 H1 v st1 r h1=>by
  cases x with
  |int n=>
   obtain⟨hs,h2⟩:=End.guard h1;exact#[n,by rw[r.int'],(YJ hs).1,(YJ hs).2,End.ok (rep:=WRel X.K) h2 st1 Q3]
  |_=>exact False.elim h1
def qa(hm:X.mg "range" = ae)(ha:CA X xw C [a,b] [i,j])(hg:Gl X "range")(hs:aM [a,b] X.env=[(ai,cV a X.env),(ai,cV b X.env)])(hs2:aM [b] X.env=[(ai,cV b X.env)]) :
  CW X xw C tg (.Call (.Name "range" p) [a,b] [] pos) (.rng2 i j):=.mk <|
 PI.imp (xb hg hm ha.h hs hs2) λU H Q #[O,l,S,st,lr,h]=>jL st lr h λx y S1 ρ1 H1 v u st1 rv ru h1=>by
  cases x with
  |int n=>cases y with
   |int m=>
    obtain⟨hs,h3⟩:=End.guard h1;obtain⟨s1,s2⟩:=(aD _ _).mp hs;exact#[n,m,by rw[rv.int',ru.int'],#[(YJ s1).1,(YJ s1).2,(YJ s2).1,(YJ s2).2],End.ok (rep:=WRel X.K) h3 st1 Q3]
   |_=>exact False.elim h1
  |_=>exact False.elim h1
def zU{D:Ends}{U:L2.St}{O:Mx}{H0 H1:Hp}{W:Own}{l:Lc}{os:List Nat}{S1:Zr}{J:It}{wk:List Pv.V}{fr:Bool}{ns:List Nat}{ms:List Sm}{t:List Nat}(st1:St3 X.K O S1 H1)(en:Eu O H0 W l os U H1)(r1:WRel X.K (O.ex W) H1 wk J)
  (h1:Zv fr X.K xw O H0 D (Pv.Yv (λx O os s=>if(t.any<|iz os)=aj then(.no:Pv.PR Pv.FlV)else(Pv.po (Pv.Zf t x O) s).bind λO s=>Pv.rvs C ns ms O os s) wk l os S1)):∃W:Nat->Nat->L2.St->Hp->Prop,(∃m,W 0 m U H1)/\∀i m U H,W i m U H->
   (J.stop i H/\D.nx U H)\/(J.go i H/\∃N:L2.St->Hp->Prop,(∀σ' H',N σ' H'->∃m',m'<m/\W (i+1) m' σ' H')/\∀x H',J.yld i H x H'->tGU X.K t x U H' λσ2 H2=>tS3 X xw fr (Pv.rvs C ns ms) {D with nx:=N,ct:=N,bk:=D.nx} σ2 H2):=by
 obtain⟨bs,en1⟩:=en.off st1.xd;have h1:=h1.rebase bs en.xd;generalize hB:(λx O os s=>if(t.any<|iz os)=aj then(.no:Pv.PR Pv.FlV)else(Pv.po (Pv.Zf t x O) s).bind λO s=>Pv.rvs C ns ms O os s)=B at h1
 let I:Nat->L2.St->Hp->Prop:=λn σ' H'=>∃W' l' os' S',St3 X.K O S' H'/\Eu O (VG H1 W) W' l' os' σ' H'/\Zv fr X.K xw O (VG H1 W) D (Pv.Yv B (wk.drop n) l' os' S')
 refine#[λn m σ' H'=>m=wk.length-n/\n<=wk.length/\I n σ' H',#[wk.length,rfl,cR _,W,l,os,S1,st1,en1,h1],?_]
 rintro n m σ' H' ⟨rfl,hn,W',l',os',S',st',en',e'⟩
 have lat:=en.walk en';by_cases hlt:n<wk.length
 .right
  rw[bS hlt,Pv.Yv]at e';obtain⟨go,yl⟩:=r1.go n _ S' H' lat (en'.st st') hlt;refine#[go,I<|n+1,λσ2 H2 q=>#[wk.length-(n+1),by omega,rfl,hlt,q],λx H3 y=>?_]
  obtain⟨f3,st3,rp⟩:=yl x H3 y;have rx:=rp _<|ag hlt;have f3:Fut O H' O H3:=#[rfl,f3.keep];have hBn:B wk[n] l' os' S'=if(t.any<|iz os')=aj then(.no:Pv.PR Pv.FlV)else(Pv.po (Pv.Zf t wk[n] l') S').bind λO s=>Pv.rvs C ns ms O os' s:=by rw[<-hB]
  rw[hBn]at e';by_cases c:(t.any<|iz os')=aj
  .rw[T9 c]at e';exact e'.elim
  rw[T8 c]at e';cases ha:Pv.Zf t wk[n] l' with
  |none=>rw[ha]at e';exact e'.elim
  |some l2=>
   rw[ha]at e';refine(en'.mono f3).assign (by simpa using c) rx ha λσ2 e2=>#[O,_,W',l2,os',S',st3.unex,e2,?_]
   have e':Zv fr X.K xw O (VG H1 W) D ((Pv.rvs C ns ms l2 os' S').bind _):=e';cases q:Pv.rvs C ns ms l2 os' S' with
   |no=>rw[q]at e';exact e'
   |ex c S2=>rw[q]at e';exact e'
   |ok fl S2=>
    rw[q]at e';cases fl with|nx l3 os3=>exact λH4 σ4 W4 st4 lr4=>#[W4,l3,os3,S2,st4,lr4,e']|cnt l3 os3=>exact λH4 σ4 W4 st4 lr4=>#[W4,l3,os3,S2,st4,lr4,e']|brk l3 os3=>exact e'|ret d=>exact e'
 .left
  have en2:n=wk.length:=by omega
  subst en2;rw[dG]at e';exact#[r1.stop _ S' H' lat<|en'.st st',e' H' σ' W' st' en']
def ZaW{body:List eR}{fr:Bool}{ns:List Nat}{ms:List Sm}{w:Ev.W}{t:List Nat}(hp:kT (aS X.prog X.w) X.A X.env X.xe)(hc:X.calm=aj)(hw:CW X xw C tg it w)(hg:CG X tg t)(hb:CSs X xw fr C ns body ms)
  (hs:∀x,cZ it X.env x=cT x):CS X xw fr C ns (.For tg it body [] pos) (.forr t w ms):=.mk <| PS.imp (xI hp hc hw.h hg.h hb.h hs)<|by
 rintro D U H ⟨O,H0,W,l,os,S,st,en,h⟩;rw[Pv.rv]at h;refine#[O.ex W,Pv.hide os l,S,en.st st,en.hid,Zv.bindW en h λwk S1 H1 J f1 st1 r1 h1=>zU st1 (en.mono f1) r1 h1]
def uR{body:List eR}{fr:Bool}{ns:List Nat}{ms:List Sm}{t:List Nat}(hp:kT (aS X.prog X.w) X.A X.env X.xe)(hc:X.calm=aj)(he:CF X xw C it i)(hg:CG X tg t)(hb:CSs X xw fr C ns body ms)
  (hs:∀x,cZ it X.env x=cT x):CS X xw fr C ns (.For tg it body [] pos) (.forF t i ms):=.mk <| PS.imp (xI hp hc (wt he.h) hg.h hb.h hs)<|by
 rintro D U H ⟨O,H0,W,l,os,S,st,en,h⟩;rw[Pv.rv]at h;refine Zv.evA aj (λ_=>rfl) st en h λd S1 H1 v f1 st1 r1 h1=>?_
 cases d with|lst ds=>obtain⟨a,xs,rfl,hp,hx,r⟩:=r1.1.lst';exact#[a,rfl,.inl #[#[xs,SqL.of hp],zU st1 (en.mono f1) (Ql (λρ' H' f=>SqL.of<|f.keep a _ hp λ_ _=>hx) r) h1]]|_=>exact h1.elim
end
end Sd
namespace Sd
open PySem PySem.Spec PyProof.Rows L2
noncomputable def xf(env:Env):List (bD×d5)->List (bD×aG)->List (bD×aG)
 |[],acc=>acc
 |x::r,acc=>xf env r (if(x.2 == bz)=aj then(x.1,(env.cells.lookup x.1).getD 0)::acc else acc)
theorem Vd{env:Env}{f:bD×d5->List (bD×aG)->mj (ForInStep<|List<|bD×aG)}:∀(names:List (bD×d5))(acc:List (bD×aG)),
  (∀x∈names,∀c,f x c=cT (.yield (if(x.2 == bz)=aj then(x.1,(env.cells.lookup x.1).getD 0)::c else c)))->kK names acc f=cT (xf env names acc)
 |[],acc,_=>rfl
 |x::r,acc,h=>by
  rw[gp,h x am,pure_bind];exact Vd r _ λy hy=>h y<|ak _ hy
theorem JJ :∀(names:List (bD×d5))(acc:List (bD×aG)),(xf env names acc).lookup x=aa c->acc.lookup x=aa c\/(∃y∈names,y.1=x/\y.2=.free/\c=(env.cells.lookup x).getD 0)
 |[],acc,h=>.inl h
 |y::r,acc,h=>by
  rcases JJ r _ h with h|⟨z,hz,e⟩
  .by_cases hf:(y.2 == bz)=aj
   .rw[T9 hf,bH]at h
    cases q:(x == y.1)with
    |true=>
     rw[q]at h;have e:=ej q;exact .inr #[y,am,e.symm,ej hf,by rw[e];exact(af h).symm]
    |false=>rw[q]at h;exact .inl h
   .rw[T8 hf]at h;exact .inl h
  .exact .inr #[z,ak _ hz,e]
theorem QT :∀(names:List (bD×d5))(acc:List (bD×aG)),(acc.lookup x).isSome=aj->((xf env names acc).lookup x).isSome=aj
 |[],acc,h=>h
 |y::r,acc,h=>by
  refine QT r _ ?_;split
  .rw[bH]
   cases(x == y.1)with|true=>rfl|false=>exact h
  .exact h
theorem JA :∀(names:List (bD×d5))(acc:List (bD×aG)),(x,bz)∈names->((xf env names acc).lookup x).isSome=aj
 |[],acc,h=>by cases h
 |y::r,acc,h=>by
  rcases aC.mp h with h|h
  .subst h
   refine QT r _ ?_;rw[T9 (by rfl),bH,beq_self_eq_true]
   rfl
  .exact JA r _ h
def GS{scope:ez}{env:Env}(h:∀y∈scope.names,y.2=.free->∃c,env.cells.lookup y.1=aa c) :
  ∃cl,closureFor scope env=cT cl/\(∀x c,cl.lookup x=aa c->env.cells.lookup x=aa c)/\∀x,(x,bz)∈scope.names->∃c,cl.lookup x=aa c:=by
 refine#[xf env scope.names [],?_,λx c e=>?_,λx hx=>dm.mp<|JA _ _ hx]
 .simp only[closureFor]
  rw[Vd (env:=env) scope.names [] (λx hx c=>by
   obtain⟨n,kind⟩:=x;by_cases hk:(kind == bz)=aj
   .obtain⟨a,ha⟩:=h (n,kind) hx (ej hk)
    have ha':=ha;simp only[hk,if_true,cellOf,ha',pure_bind,mB]
   .simp only[hk,if_false]
    rfl),pure_bind]
 .rcases JJ _ _ e with e|⟨y,hy,e1,e2,e3⟩
  .cases e
  .obtain⟨a,ha⟩:=h y hy e2
   rw[e1]at ha;rw[e3,ha];rfl
theorem Wo{x:bD}{c:aG}{lo:Nat}:∀(names:List (bD×d5))(h:bX)(acc:List (bD×aG)),lo<=h.objs.size->(dF h.objs.size names acc).lookup x=aa c->
  ((x,cq)∉names/\acc.lookup x=aa c)\/((x,cq)∈names/\lo<=c/\(mC h names).IsCell c ae)
 |[],h,acc,_,e=>.inl #[by simp,e]
 |(name,kind)::r,h,acc,hlo,e=>by
  unfold dF at e;unfold mC;split at e
  .rename_i hk
   rw[T9 hk];have hk:=ej hk;subst hk;rw[<-cH h {cls:=.type "cell",data:=.cell ae}]at e;rcases Wo r (h.push {cls:=.type "cell",data:=.cell ae}) ((name,h.objs.size)::acc) (b0 hlo<|by rw[cH];exact im _) e with⟨e1,e2⟩|⟨e1,e2⟩
   .rw[bH]at e2
    cases hb:x == name with
    |true=>
     rw[hb]at e2;cases e2;have:=ej hb;subst this;exact .inr #[am,hlo,_,kn _ _ _ _<|aI _ rfl,rfl]
    |false=>
     rw[hb]at e2;refine .inl #[λhm=>?_,e2]
     rcases aC.mp hm with q|q
     .cases q
      rw[beq_self_eq_true]at hb;cases hb
     .exact e1 q
   .exact .inr #[ak _ e1,e2]
  .rename_i hk
   rw[T8 hk];rcases Wo r _ _ hlo e with⟨e1,e2⟩|⟨e1,e2⟩
   .refine .inl #[λhm=>?_,e2]
    rcases aC.mp hm with q|q
    .cases q
     exact hk rfl
    .exact e1 q
   .exact .inr #[ak _ e1,e2]
theorem Wh:∀(names:List (bD×d5))(n:Nat)(acc:List (bD×aG)),(∀x c,acc.lookup x=aa c->c<n)->(∀x y c,acc.lookup x=aa c->acc.lookup y=aa c->x=y)->
  ∀x y c,(dF n names acc).lookup x=aa c->(dF n names acc).lookup y=aa c->x=y
 |[],n,acc,_,h=>h
 |(name,kind)::r,n,acc,hl,h=>by
  unfold dF;split
  .refine Wh r (n+1) _ (λx c e=>?_) λx y c e1 e2=>?_
   .rw[bH]at e
    split at e
    .cases e;exact iM _
    .exact dv<|hl x c e
   .rw[bH]at e1 e2
    cases p:x == name<;>cases q:y == name<;>rw[p]at e1<;>rw[q]at e2
    .exact h x y c e1 e2
    .cases e2;exact T7 (hl x _ e1)<|bp _
    .cases e1;exact T7 (hl y _ e2)<|bp _
    .rw[ej p,ej q]
  .exact Wh r n acc hl h
theorem Ws{x:bD}:∀(names:List (bD×d5))(n:Nat)(acc:List (bD×aG)),(∃c,acc.lookup x=aa c)\/(x,cq)∈names->∃c,(dF n names acc).lookup x=aa c
 |[],n,acc,h=>h.elim (λh=>h) λh=>by cases h
 |(name,kind)::r,n,acc,h=>by
  unfold dF;split
  .refine Ws r _ _ ?_
   cases hb:x == name with
   |true=>exact .inl #[n,by rw[bH,hb]]
   |false=>
    rcases h with⟨c,e⟩|h
    .exact .inl #[c,by rw[bH,hb];exact e]
    .rcases aC.mp h with q|q
     .cases q
      rw[beq_self_eq_true]at hb;cases hb
     .exact .inr q
  .rename_i hk
   refine Ws r _ _<|h.imp (λh=>h) λh=>?_
   rcases aC.mp h with q|q
   .cases q
    exact T7 rfl hk
   .exact q
def Gm{M:Model}{A:cQ}{E:ap->aw->Prop}{s:aw}{scope:ez}{g:aG}{cl:List (bD×aG)}{q:bD}{env:Env}{Q:Env->aw->Prop}
  (h:Q (newEnv scope s.heap.objs.size g (dF (s.heap.objs.size+1) scope.names cl) q ae .none (aa env) lp) {s with heap:=mC (s.heap.push {cls:=.type "dict",data:=.dict #[]}) scope.names}) :
  aX M A (newFunctionEnv scope g cl [] q ae .none<|aa env) Q E s:=by
 simp only[newFunctionEnv,lz,if_true];refine ab<|wpAny_alloc ?_;refine ab<|wpAny_layCells _ (λname kind cells=>by cases hkc:kind == cq<;>simp[hkc]) _ _ _ _ ?_
 rw[show({s with heap:=s.heap.push {cls:=.type "dict",data:=.dict #[]}}:aw).heap.objs.size=s.heap.objs.size+1 from cH ..]
 exact au h
noncomputable def cxC(X:Cx)(N:List bD)(scope:ez)(cl:List (bD×aG))(s:aw)(H:Hp)(fp:List aG):Cx:=
 {X with N:=N,s₀:=s,H₀:=H,env:=compEnvC scope cl s.heap.objs.size X.env,outer:=X.stack,ex:=fp,fn:=λx=>scope.names.any λy=>y.2 == .cell&&y.1 == x,pn:=[],xe:=λ_ _=>False}
def PTs(X:Cx)(ifs:List Expr)(t:TT):Prop:=
 ∀(pq:List (aG×eX))(s:aw)(U:L2.St)(H:Hp)(Q:Bool->Hp->Prop),Inv X pq U H s->t U H Q->
  aX (aS X.prog X.w) X.A (kK ifs aj λc r=>if r=aj then do let ok <-isTrue c X.env (cV c X.env);cT (mU ok)else cT (mU r)) (TP X pq U Q) X.xe s
def uM :PTs X [] (λU H Q=>Q aj H):=λpq s U H Q I h=>wpAny_tests_nil #[H,I,h]
def uC(h:PT X c t):PTs X [c] t:=λpq s U H Q I hq=>wpAny_tests_one<|h pq s U H Q I hq
structure CompScope(sc:ez)(N0:List bD)(scope:ez)(N:List bD)(cap:List Nat)(nl:Nat):Prop where
 kind:scope.kind=.function
 cell:∀y∈scope.names,y.2=.cell->(y.1,bz)∉scope.names
 names:∀y∈scope.names,y.2=.local->scope.names.lookup y.1=aa .local
 free:∀y∈scope.names,y.2=.free->sc.names.lookup y.1=aa .cell\/sc.names.lookup y.1=aa .free
 apart:∀y∈scope.names,y.2=.free->scope.names.lookup y.1≠aa .local
 len:N.length=nl+cap.length
 cap:∀p∈cap.zipIdx,N[nl+p.2]?=N0[p.1]?/\(N0[p.1]?).map (λx=>al<|(x,bz)∈scope.names)=aa aj
def CompScope.capt{sc:ez}{N0:List bD}{scope:ez}{N:List bD}{cap:List Nat}{nl:Nat}(h:CompScope sc N0 scope N cap nl)(i j:Nat)(e:cap[i]?=aa j):∃x,N[nl+i]?=aa x/\N0[j]?=aa x/\(x,bz)∈scope.names:=by
 have hm:(j,i)∈cap.zipIdx:=by
  rw[List.mem_zipIdx_iff_getElem?];exact e
 obtain⟨h1,h2⟩:=h.cap (j,i) hm;cases q:N0[j]? with
 |none=>rw[q]at h2;cases h2
 |some x=>
  rw[q]at h1 h2
  exact#[x,h1,rfl,T6<|af h2]
noncomputable def Yq(cap:List Nat)(nl:Nat)(U:L2.St):L2.St:=aA nl ae++cap.map λi=>(U[i]?).join
section
variable{X:Cx}{pq:List (aG×eX)}{U:L2.St}{H:Hp}{s:aw}
theorem X1{env:Env}{x:bD}:∀{names:List (bD×d5)},(names.map λ(n,k)=>if(k == bz&&env.scope.kind == .function&&env.kindOf n == aa .cell)then(n,cq)else(n,k)).lookup x=aa .cell\/
  (names.map λ(n,k)=>if(k == bz&&env.scope.kind == .function&&env.kindOf n == aa .cell)then(n,cq)else(n,k)).lookup x=aa .free->(x,bz)∈names\/(x,cq)∈names
 |[],h=>by rcases h with h|h<;>cases h
 |(n,k)::r,h=>by
  have ih:=@X1 env x r;rw[bf]at h;by_cases e:x=n
  .subst e
   by_cases c:(k == bz&&env.scope.kind == .function&&env.kindOf x == aa .cell)=aj
   .have:=(aD _ _).mp c
    rw[ej ((aD _ _).mp this.1).1];exact .inl am
   .simp only[T8 c,bH,beq_self_eq_true,Option.some.injEq]at h
    rcases h with h|h
    .rw[h];exact .inr am
    .rw[h];exact .inl am
  .have hb:(x == n)=ai:=beq_eq_false_iff_ne.mpr e
   refine(ih ?_).imp (ak _)<|ak _;by_cases c:(k == bz&&env.scope.kind == .function&&env.kindOf n == aa .cell)=aj
   .simpa only[T9 c,bH,hb]using h
   .simpa only[T8 c,bH,hb]using h
theorem vt{N:List bD}{scope:ez}{cl:List (bD×aG)}{fp:List aG}{cap:List Nat}{nl:Nat}{h1:bX}{tk:Nat}(I:Inv X pq U H s)(CS:CompScope X.env.scope X.N scope N cap nl)(hN:X.N.Nodup)
  (c1:∀x c,cl.lookup x=aa c->((x,cq)∉scope.names/\X.env.cells.lookup x=aa c)\/((x,cq)∈scope.names/\s.heap.objs.size<=c/\h1.IsCell c ae))(c2:∀x,(x,bz)∈scope.names\/(x,cq)∈scope.names->∃c,cl.lookup x=aa c)
  (c3:∀x y c,cl.lookup x=aa c->cl.lookup y=aa c->x=y)(hf:∀b∈fp,Wt X pq H b)(hb:∀b∈fp,∃o,s.heap.get? b=aa o)(hns:∃m,h1.Ns s.heap.objs.size m)(hk:∀b o,s.heap.get? b=aa o->h1.get? b=aa o) :
  Inv (cxC X N scope cl s H fp) [] (Yq cap nl U) H {s with heap:=h1,toks:=tk}:=by
 have bne:∀b∈fp,b≠s.heap.objs.size:=λb hb' e=>by
  obtain⟨o,ho⟩:=hb b hb';exact T7 (aF ho) (by rw[e];exact bp _)
 refine#[#[I.ok.mod,CS.kind,I.ok.glob,I.ok.blt,az _,c3,λx hx=>c2 x<|X1 (env:=X.env) hx,λx c h e=>?_,I.ok.hd,I.ok.frames,.inl rfl,
  λb hb'=>#[bne b hb',λx c e=>(c1 x c e).elim (λq=>(hf b hb').2.2.2.2.1 x c q.2) λq z=>?_],I.bs,b0 I.ok.bsz I.sz,λb o e hb'=>?_,λb hb' hm=>?_,I.stack,I.stkFree],
  rfl,I.bare,Un.kept hk,?_,λx c e=>?_,I.hok.fresh<|az _,λx c e=>(c1 x c e).elim (λq=>I.freeC x c q.2) λq=>I.hok.fresh q.2.1,λp hp=>T7 hp (by simp[cxC]),I.hok.kept hk,?_]
 .rcases c1 x c e with q|q
  .obtain⟨y,hy,e⟩:=iL.mp h
   obtain⟨e1,e2⟩:=(aD _ _).mp e;obtain⟨y,k⟩:=y;have a1:k=.cell:=ej e1;have a2:y=x:=ej e2;subst a1 a2;exact T7 hy q.1
  .exact q.2.1
 .obtain⟨o,ho⟩:=hb b hb'
  have:=aF ho;rw[<-z]at this;exact T7 q.2.1<|Nat.not_le.mpr this
 .rcases(hf b hb').2.2.2.1 with z|z
  .exact I.ok.noex b o e z
  .exact T7 (aF e)<|Nat.not_lt.mpr<|b0 I.ok.bsz z
 .rcases aC.mp (I.stkSub b hm)with e|e
  .exact(hf b hb').2.1 e
  .exact(hf b hb').2.2.1 e
 .obtain⟨m1,hm1⟩:=hns
  refine#[m1,hm1,λi x v e1 e2 e3=>?_]
  obtain⟨m,hm,hl⟩:=I.loc;have hi:nl<=i:=by
   by_cases hi:nl<=i
   .exact hi
   .have z:(Yq cap nl U)[i]?=aa ae:=by
     unfold Yq;rw[bM (by simp;lia),cF,T9<|by lia]
    rw[z]at e2;cases e2
  have e2':(cap.map λi=>(U[i]?).join)[i-nl]?=aa (aa v):=by
   have:(Yq cap nl U)[i]?=aa (aa v):=e2;unfold Yq at this
   rwa [bu (by simp;exact hi),cB]at this
  rw[aK]at e2';cases hj:cap[i-nl]? with
  |none=>rw[hj]at e2';cases e2'
  |some j=>
   rw[hj]at e2';have hv:U[j]?=aa (aa v):=by
    have:(U[j]?).join=aa v:=af e2';cases q:U[j]? with
    |none=>rw[q]at this;cases this
    |some o=>rw[q]at this;cases o with|none=>cases this|some w=>cases this;rfl
   obtain⟨x',n1,n2,fr⟩:=CS.capt _ _ hj;have ex:x'=x:=by
    have:N[nl+(i-nl)]?=aa x:=by rw[show nl+(i-nl)=i by lia];exact e1
    rw[n1]at this;exact af this
   subst ex;have kd:=CS.free _ fr rfl;have vis:Vis X.env.scope x':=by
    rcases kd with z|z
    .exact .inr<|.inl z
    .exact .inr<|.inr z
   obtain⟨u,r,lk⟩:=hl j x' v n2 hv vis;refine#[u,r,?_];rcases lk with⟨k,_⟩|⟨k,c,ec,hc⟩
   .have k':X.env.scope.names.lookup x'=aa .local:=k
    rcases kd with z|z<;>(rw[z]at k';cases k')
   .obtain⟨c',ec'⟩:=c2 x' (.inl fr)
    have ecc:c'=c:=by
     have:=(c1 x' c' ec').elim (λq=>q.2) λq=>T7 fr<|CS.cell _ q.1 rfl
     rw[ec]at this;exact(af this).symm
    subst ecc;have vis2:Vis (relabel scope X.env) x':=e3;refine .inr #[?_,c',ec',?_]
    .rcases vis2 with z|z|z
     .have z':(scope.names.map λ(n,k)=>if(k == bz&&X.env.scope.kind == .function&&X.env.kindOf n == aa .cell)then(n,cq)else(n,k)).lookup x'=aa .local:=z
      exfalso
      have:∀(names:List (bD×d5)),(∀y∈names,y.2=d5.local->y.1≠x')->(names.map λ(n,k)=>if(k == bz&&X.env.scope.kind == .function&&X.env.kindOf n == aa .cell)then(n,cq)else(n,k)).lookup x'≠aa .local:=by
       intro names
       induction names with
       |nil=>intro _ h;cases h
       |cons y r ih=>
        obtain⟨n,k⟩:=y;intro hy h;rw[bf]at h;by_cases e:x'=n
        .subst e
         by_cases c:(k == bz&&X.env.scope.kind == .function&&X.env.kindOf x' == aa .cell)=aj
         .simp only[T9 c,bH,beq_self_eq_true]at h;cases h
         .simp only[T8 c,bH,beq_self_eq_true]at h
          exact hy (x',k) am (af h) rfl
        .have hb:(x' == n)=ai:=beq_eq_false_iff_ne.mpr e
         refine ih (λy hy'=>hy y<|ak _ hy') ?_
         by_cases c:(k == bz&&X.env.scope.kind == .function&&X.env.kindOf n == aa .cell)=aj
         .simp only[T9 c,bH,hb]at h;exact h
         .simp only[T8 c,bH,hb]at h;exact h
      refine this scope.names (λy hy hl e=>?_) z'
      have l1:=CS.names y hy hl;rw[e]at l1;exact CS.apart (x',.free) fr rfl l1
     .exact .inl z
     .exact .inr z
    .obtain⟨o,ho,hd⟩:=hc
     exact#[o,hk c' o ho,hd]
 .rcases c1 x c e with q|q
  .obtain⟨v,o,ho,hd⟩:=I.cell x c q.2
   exact#[v,o,hk c o ho,hd]
  .exact#[ae,q.2.2]
 .unfold Yq
  show _=N.length;rw[aW,cB,ay,CS.len]
end
abbrev TEm:=L2.St->Hp->(L2.St->Hp->Prop)->Prop
def wl(X:Cx)(act:mj Fin->mj Fin)(te:TEm):Prop:=
 ∀(pq:List (aG×eX))(s:aw)(U:L2.St)(H:Hp)(Q:L2.St->Hp->Prop)(k:mj Fin)(QF:Fin->aw->Prop)(EE:ap->aw->Prop),Inv X pq U H s->te U H Q->(∀s' σ' H',Inv X pq σ' H' s'->Q σ' H'->aX (aS X.prog X.w) X.A k QF EE s')->
  aX (aS X.prog X.w) X.A (act k) QF EE s
noncomputable def Q0(ipos:gD)(tg:Expr)(ifs:List Expr)(act:mj Fin->mj Fin)(it:ap)(env:Env)(c:Code):mj Fin:=do
 m4 ipos
 match <-mm it with
 |none=>cT<|.done .next
 |some v=>
  kj tg it v
  assign tg env v
  let mut ok:=aj
  for c in ifs do
   if ok then ok <-isTrue c env (cV c env)
  if ok then act (nK c)else nK c
def vK(J:It)(g:TG)(tt:TT)(te:TEm)(W:Nat->Nat->L2.St->Hp->Prop)(Q:L2.St->Hp->Prop):Prop:=∀i m σ' H',W i m σ' H'->
  (J.stop i H'/\Q σ' H')\/(J.go i H'/\∀x H'',J.yld i H' x H''->g x σ' H'' λσ2 H2=>tt σ2 H2 λok H3=>if ok=aj then te σ2 H3 λσ3 H4=>∃m',m'<m/\W (i+1) m' σ3 H4 else ∃m',m'<m/\W (i+1) m' σ2 H3)
def yg{tn:Nat->bX->Prop}{Rr:Result->aw->Prop}{Q:L2.St->Hp->Prop}{W:Nat->Nat->L2.St->Hp->Prop}
  (hc:Y.calm=aj)(hx:∀a b,Y.xe a b->False)(hT:compTurn e depth (.ref it) acc Y.env=Q0 ipos tg ifs act (.ref it) Y.env (.compLoop e depth (.ref it) acc Y.env))(hquiet:(nD e depth (.ref it) acc Y.env).isFrame=ai)
  (hq:(nD e depth (.ref it) acc Y.env).quiet=aj)(T:Turn Y.prog Y.w Y.K tg J fp it tn)(hg:PG Y tg g)(ht:PTs Y ifs tt)(he:wl Y act te)(stat:∀{H':Hp},(∀b∈fp,H' b=ae)->∀b∈fp,Wt Y pq H' b)
  (turn:vK J g tt te W Q)(fin:∀U H s,Inv Y pq U H s->Q U H->Rr (.ok .next) s)
  (I0:Inv Y pq U H s)(st0:tn 0 s.heap)(fr0:∀b∈fp,H b=ae)(w0:W 0 m U H)(hden:(aS Y.prog Y.w).den (.compLoop e depth (.ref it) acc Y.env)=(compTurn e depth (.ref it) acc Y.env).onRaise (λx=>do noteFrame x Y.env;theTreesLotGoes x))
  (hund:Y.A.under (.compLoop e depth (.ref it) acc Y.env)=Y.A):iX (aS Y.prog Y.w) Y.A (.compLoop e depth (.ref it) acc Y.env) Rr s:=by
 refine codeAny_loop hq (λn s'=>∃i σ' H',Inv Y pq σ' H' s'/\tn i s'.heap/\(∀b∈fp,H' b=ae)/\W i n σ' H') (λn s5 hI=>?_) m #[0,U,H,I0,st0,fr0,w0]
 rw[hund,hden,hT];refine wpAny_noted ?_;obtain⟨i,σ5,H5,I5,st5,fr5,w5⟩:=hI;refine ab<|fX<|ab ?_;rcases turn i n σ5 H5 w5 with⟨stop,qn⟩|⟨go,step⟩
 .refine c9 (T.done Y rfl rfl rfl hc i pq s5 σ5 H5 (λ_ _=>False) I5 (stat fr5) st5 stop) (λr s6 #[hr,I6]=>?_) λ_ _ h'=>h'.elim
  subst hr;exact au<|fin σ5 H5 s6 I6 qn
 .refine c9 (T.item Y rfl rfl rfl hc i pq s5 σ5 H5 (λ_ _=>False) I5 (stat fr5) st5 go) (λr s6 #[u,hr,h6]=>?_) λ_ _ h'=>h'.elim
  subst hr;refine ab<|c9 h6 (λ_ s7 #[x,H7,I7,r7,y7,st7,fr7]=>?_) λ_ _ h'=>h'.elim
  have I7':=I7.pinned (stat fr7)<|T.obj _ _ st7;have back:∀{σ8:L2.St}{H8:Hp}{s8:aw}{m':Nat},Inv Y (pq++Vv fp s7.heap) σ8 H8 s8->m'<n->W (i+1) m' σ8 H8->∃m,m<n/\∃i σ' H',Inv Y pq σ' H' s8/\tn i s8.heap/\(∀b∈fp,H' b=ae)/\W i m σ' H':=λ{σ8 H8 s8 m'} I8 hm w8=>by
   refine#[m',hm,i+1,σ8,H8,I8.unpinned,T.keep _ _ _ st7 λb hb' o e=>(I8.pin (b,o)<|bx _<|bx _<|YQ hb' e).1,λb hb'=>?_,w8]
   obtain⟨o,e,d⟩:=T.obj _ _ st7 b hb';exact(I8.pin (b,o)<|bx _<|bx _<|YQ hb' e).2.1
  refine ab<|c9 (hg _ s7 σ5 H7 x u _ I7' r7<|step x H7 y7) (λ_ s8 #[σ8,H8,I8,q8]=>?_) λ_ _ h'=>(hx _ _ h').elim
  refine ab<|c9 (ht _ s8 σ8 H8 _ I8 q8) (λok s9 #[H9,I9,q9]=>?_) λ_ _ h'=>(hx _ _ h').elim
  cases ok with
  |false=>
   rw[T8 aJ]at q9;obtain⟨m',hm,w9⟩:=q9;exact au #[rfl,back I9 hm w9]
  |true=>
   rw[T9 rfl]at q9;exact he _ s9 σ8 H9 _ _ _ _ I9 q9<|by rintro s10 σ10 H10 I10 ⟨m',hm,w10⟩;exact au #[rfl,back I10 hm w10]
def Jb{Y:Cx}{elt:Expr}{te:TE}{D:aG}(hx:∀a b,Y.xe a b->False)(he:PE Y elt te):wl Y (λk=>(do let _ <-call (.builtin "list.append") [.ref D,<-cV elt Y.env]:mj Unit) >>= λ_=>k) (λU H Q=>te U H λy H4=>∃ys,H4 D=aa (.lst ys)/\ys.length<aY/\Q U (upd H4 D<|.lst<|ys++[y])):=by
 intro pq s U H Q k QF EE I h hk;refine ab ?_;refine ab<|c9 (he pq s U H _ I h) (λxv s10 #[y,H10,I10,r10,ys,hDy,hz,q]=>?_) λ_ _ h'=>(hx _ _ h').elim
 refine ab<|c9 (Ui pq s10 U H10 (.ref D) [y] (.ref D) [xv] (λv H'=>v=.non/\H'=upd H10 D (.lst<|ys++[y])) I10 rfl (.cons r10 .nil) #[D,ys,y,rfl,rfl,hDy,hz,rfl,rfl]) (λ_ s11 #[v11,H11,I11,_,_,eH]=>?_) λ_ _ h'=>(hx _ _ h').elim
 subst eH;exact au<|hk _ _ _ I11 q
def Zak(wi:TI)(g:TG)(tt:TT)(te:aG->TEm)(cap:List Nat)(nl:Nat):TE:=λU H Q=>wi U H λJ H1=>∀D,H1 D=ae->∃W:Nat->Nat->L2.St->Hp->Prop,(∃m,W 0 m (Yq cap nl U)<|upd H1 D<|.lst [])/\vK J g tt (te D) W λ_ H'=>Q (.ref D) H'
def vy(wi:TI)(g:TG)(tt:TT)(te:TE)(cap:List Nat)(nl:Nat):TE:=λU H Q=>wi U H λJ H1=>∀D,H1 D=ae->∃W:Nat->Nat->L2.St->Hp->Prop,(∃m,W 0 m (Yq cap nl U)<|upd H1 D<|.lst [])/\∀i m σ' H',W i m σ' H'->
  (J.stop i H'/\Q (.ref D) H')\/(J.go i H'/\∀x H'',J.yld i H' x H''->g x σ' H'' λσ2 H2=>tt σ2 H2 λok H3=>if ok=aj then te σ2 H3 λy H4=>∃ys,H4 D=aa (.lst ys)/\ys.length<aY/\∃m',m'<m/\W (i+1) m' σ2 (upd H4 D<|.lst<|ys++[y])else ∃m',m'<m/\W (i+1) m' σ2 H3)
structure Gone(X:Cx)(pq:List (aG×eX))(H:Hp)(s:aw)(C:aG):Prop where
 free:H C=ae
 ns:∃m,s.heap.Ns C m
 loc:C≠X.env.locals
 big:X.s₀.heap.objs.size<=C
 cel:∀x c,X.env.cells.lookup x=aa c->c≠C
 pin:∀p∈X.pn++pq,p.1≠C
def Uq{tg iter elt:Expr}{ifs:List Expr}{scope:ez}{pos fpos:gD}{N:List bD}{cap:List Nat}{nl:Nat}{wi:TI}{g:TG}{tt:TT}{te:aG->TEm}{act:ap->Env->mj Fin->mj Fin}{rest:List Comprehension}{pq:List (aG×eX)}{s:aw}{U:L2.St}{H:Hp}{Q:VK}{use:Option (ap->mj Unit)}{QQ:ap->aw->Prop}(hc:X.calm=aj)(hN:X.N.Nodup)(CS:CompScope X.env.scope X.N scope N cap nl)(hi:PI X tg iter wi)
  (hT:∀it acc env,compTurn (.ListComp elt (#[tg,iter,ifs,0]::rest) scope pos) 0 it acc env=Q0 iter.pos tg ifs (act acc env) it env (.compLoop (.ListComp elt (#[tg,iter,ifs,0]::rest) scope pos) 0 it acc env))
  (hb:∀cl s H fp,PG (cxC X N scope cl s H fp) tg g/\PTs (cxC X N scope cl s H fp) ifs tt/\∀D,wl (cxC X N scope cl s H fp) (act (.ref D) (cxC X N scope cl s H fp).env)<|te D)
  (hs:∀x,cZ iter X.env x=cT x)(I:Inv X pq U H s)(h:Zak wi g tt te cap nl U H Q)
  (fin:∀D C H5 s6,Inv X pq U H5 s6->Gone X pq H5 s6 C->Q (.ref D) H5->compPost (aS X.prog X.w) X.A X.xe use QQ (.ref D) C (.ok .next) s6) :
  aX (aS X.prog X.w) X.A (comprehension (.ListComp elt (#[tg,iter,ifs,0]::rest) scope pos) scope X.env fpos (newList []) ai (cV iter X.env) use) QQ X.xe s:=by
 obtain⟨cl,hcl,c1,c2⟩:=GS (scope:=scope) (env:=X.env) λy hy hf=>I.ok.has y.1<|CS.free y hy hf
 refine wpAny_comprehension_free (use:=use) rfl hs hcl CS.kind CS.names ?_;refine thn (hi pq s U H _ I h) λv s1 h1=>thn h1 λitv s2 h2=>?_
 obtain⟨it,fp,tn,J,H2,rfl,I2,T,st2,f2,q2⟩:=h2;obtain⟨W,⟨m0,w0⟩,turn⟩:=q2 s2.heap.objs.size<|I2.hok.fresh<|az _;refine bv<|Gm ?_
 dsimp only
 have I3:Inv X pq U (upd H2 s2.heap.objs.size<|.lst []) {s2 with heap:=s2.heap.push {cls:=.type "list",dict:=ae,data:=.seq ([]:List ap).toArray},toks:=s2.toks}:=
  I2.laid (λb u e=>aq _ e) (az _) #[cR _,[],0,.nil,aI _ rfl]
 generalize hD:s2.heap.objs.size=D at I3 w0 turn ⊢;generalize hs3:({s2 with heap:=s2.heap.push {cls:=.type "list",dict:=ae,data:=.seq ([]:List ap).toArray},toks:=s2.toks}:aw)=s3 at I3
 have hh3:s2.heap.push {cls:=.type "list",dict:=ae,data:=.seq ([]:List ap).toArray}=s3.heap:=by rw[<-hs3]
 rw[hh3];have old:∀b o,s2.heap.get? b=aa o->s3.heap.get? b=aa o:=λb o e=>by rw[<-hh3];exact aq _ e
 have neD:∀b∈fp,b≠D:=λb hb' e=>by
  obtain⟨o,ho,_⟩:=T.obj _ _ st2 b hb';exact T7 (aF ho) (by rw[e,<-hD];exact bp _)
 have f3:∀b∈fp,Wt X pq (upd H2 D<|.lst []) b:=λb hb'=>#[by rw[Zl<|neD b hb'];exact(f2 b hb').1,(f2 b hb').2]
 generalize hh4:mC (s3.heap.push {cls:=.type "dict",data:=.dict #[]}) scope.names=h₁;have keep4:∀b o,s3.heap.get? b=aa o->h₁.get? b=aa o:=λb o e=>by rw[<-hh4];exact kn _ _ b o<|aq _ e
 have hns₁:∃m,h₁.Ns s3.heap.objs.size m:=#[_,by rw[<-hh4];exact(bX.Ns.new s3.heap<|.type "dict").keeps<|kn _ _]
 have lt3:∀x c,cl.lookup x=aa c->c<s3.heap.objs.size+1:=λx c e=>by
  obtain⟨v,q⟩:=I3.cell x c<|c1 x c e;exact dv q.lt
 have c3:=Wh scope.names _ cl lt3 λx y c h1 h2=>I.ok.inj x y c (c1 x c h1)<|c1 y c h2
 have c2':∀x,(x,bz)∈scope.names\/(x,cq)∈scope.names->∃c,(dF (s3.heap.objs.size+1) scope.names cl).lookup x=aa c:=λx hx=>Ws _ _ _<|hx.imp (c2 x) λh=>h
 have c1':∀x c,(dF (s3.heap.objs.size+1) scope.names cl).lookup x=aa c->((x,cq)∉scope.names/\X.env.cells.lookup x=aa c)\/((x,cq)∈scope.names/\s3.heap.objs.size<=c/\h₁.IsCell c ae):=λx c e=>by
  rw[<-cH s3.heap {cls:=.type "dict",data:=.dict #[]}]at e;refine(Wo (lo:=s3.heap.objs.size) _ _ _ (by rw[cH];exact im _) e).imp (λq=>#[q.1,c1 x c q.2]) λq=>?_
  rw[hh4]at q;exact q
 generalize dF (s3.heap.objs.size+1) scope.names cl=cl at c1' c2' c3;have I4:=vt (tk:=s2.toks) I3 CS hN c1' c2' c3 f3 (λb hb'=>let #[o,ho,_]:=T.obj _ _ st2 b hb';#[o,old b o ho]) hns₁ keep4
 have e4:({s3 with heap:=h₁,toks:=s2.toks}:aw)={s2 with heap:=h₁,toks:=s2.toks}:=by rw[<-hs3]
 rw[e4]at I4;obtain⟨hg,ht,he⟩:=hb cl s3 (upd H2 D<|.lst []) fp;generalize hY:cxC X N scope cl s3 (upd H2 D<|.lst []) fp=Y at I4 hg ht he;have yP:Y.prog=X.prog:=by rw[<-hY];rfl
 have stat:∀{H':Hp},(∀b∈fp,H' b=ae)->∀b∈fp,Wt Y [] H' b:=λhn b hb'=>by
  subst hY;refine#[hn b hb',λe=>?_,λhm=>?_,.inl hb',λx c e=>(c1' x c e).elim (λq=>(f3 b hb').2.2.2.2.1 x c q.2) λq z=>?_,λp hp=>T7 hp<|by simp[cxC]]
  .obtain⟨o,ho,_⟩:=T.obj _ _ st2 b hb'
   have:=aF<|old b o ho;rw[e]at this;exact T7 this<|bp _
  .rcases aC.mp (I3.stkSub b hm)with e|e
   .exact(f3 b hb').2.1 e
   .exact(f3 b hb').2.2.1 e
  .obtain⟨o,ho,_⟩:=T.obj _ _ st2 b hb'
   have:=aF<|old b o ho;rw[<-z]at this;exact T7 q.2.1<|Nat.not_le.mpr this
 subst hY
 let Y:=cxC X N scope cl s3 (upd H2 D<|.lst []) fp
 have st4:tn 0 h₁:=T.keep _ _ _ st2 λb hb' o e=>keep4 b o<|old b o e
 have fr4:∀b∈fp,upd H2 D (HO.lst []) b=ae:=λb hb'=>(f3 b hb').1
 have loop:iX (aS X.prog X.w) X.A (.compLoop (.ListComp elt (#[tg,iter,ifs,0]::rest) scope pos) 0 (.ref it) (.ref D)<|compEnvC scope cl s3.heap.objs.size X.env)
   (compPost (aS X.prog X.w) X.A X.xe use QQ (.ref D) s3.heap.objs.size) {s2 with heap:=h₁,toks:=s2.toks}:=by
  refine yg (Y:=cxC X N scope cl s3 (upd H2 D<|.lst []) fp) (pq:=[]) (W:=W) (Q:=λ_ H'=>Q (.ref D) H') hc (λ_ _ z=>z) (hT _ _ _) rfl rfl T hg ht (he D) stat turn (λσ5 H5 s6 I6 qn=>?_) I4 st4 fr4 w0 rfl rfl
  obtain⟨m6,hn6,_⟩:=I6.loc;have u:=I6.base;have IX:Inv X pq U H5 s6:=Inv.call' (s':=s6) (ch:=fp) I3 I6.os #[u.keep,u.slot,u.free,u.there,u.tups,u.frzs,u.tbls] I6.hok I6.bare λb hb'=>#[(f3 b hb').2.2.2.1,(f3 b hb').2.1,(f3 b hb').2.2.2.2.1,λp hp e=>(f3 b hb').2.2.2.2.2 p hp e]
  refine fin D s3.heap.objs.size H5 s6 IX #[I6.free,#[m6,hn6],Ne.symm<|bg I3.lt,I3.sz,λx c e z=>?_,λp hp z=>?_] qn
  .obtain⟨v,q⟩:=I3.cell x c e
   exact T7 q.lt (by rw[z];exact bp _)
  .exact T7 (aF (I3.pin p hp).1) (by rw[z];exact bp _)
 subst hs3;exact codeAny_compStart_list loop<|T.self _ 0 _ _ _ st4 loop
def Gone.inv(G:Gone X pq H s C)(I:Inv X pq U H s)(hsb:eB C s.heap h'):Inv X pq U H {s with heap:=h' }:=
 I.turned (t':=s.toks) (λb o hb e=>(hsb.2 b hb).trans e) G.free G.loc (.inr G.big) G.cel G.pin
def Zdl(te:TE)(D:aG):TEm:=λU H Q=>te U H λy H4=>∃ys,H4 D=aa (.lst ys)/\ys.length<aY/\Q U (upd H4 D<|.lst<|ys++[y])
def qz(hc:X.calm=aj)(hN:X.N.Nodup)(CS:CompScope X.env.scope X.N scope N cap nl)(hi:PI X tg iter wi)
  (hb:∀cl s H fp,PG (cxC X N scope cl s H fp) tg g/\PTs (cxC X N scope cl s H fp) ifs tt/\PE (cxC X N scope cl s H fp) elt te)
  (hs:∀x,cZ iter X.env x=cT x:=by intro _;rfl):PE X (.ListComp elt [#[tg,iter,ifs,0]] scope pos) (vy wi g tt te cap nl):=by
 intro pq s U H Q I h;rw[eval_ListComp];refine Uq (act:=λacc env k=>(do let _ <-call (.builtin "list.append") [acc,<-cV elt env]:mj Unit) >>= λ_=>k) hc hN CS hi (λ_ _ _=>rfl) (λcl s H fp=>#[(hb cl s H fp).1,(hb cl s H fp).2.1,λD=>Jb (λ_ _ z=>z) (hb cl s H fp).2.2]) hs I h λD C H5 s6 I6 G q=>?_
 obtain⟨m6,hn6⟩:=G.ns;exact#[m6,hn6,λh' hsb=>#[.ref D,H5,G.inv I6 hsb,rfl,q]]
def vW(hc:X.calm=aj)(hN:X.N.Nodup)(CS:CompScope X.env.scope X.N scope N cap nl)(hi:PI X tg iter wi)
  (hb:∀cl s H fp,PG (cxC X N scope cl s H fp) tg g/\PTs (cxC X N scope cl s H fp) ifs tt/\PE (cxC X N scope cl s H fp) elt te)
  (hsw:iH (.ListComp elt [#[tg,iter,ifs,0]] scope pos) (aa<|.Name y py) spos.line X.env=cT aj)
  (hy:X.N[i]?=aa y)(hx:L2.Loc X.env.scope y)(hf:X.fn y=aj\/X.env.scope.names.lookup y=aa .local)
  (hs:∀x,cZ iter X.env x=cT x:=by intro _;rfl):PS X (.Assign [.Name y py] (.ListComp elt [#[tg,iter,ifs,0]] scope pos) spos) (λD U H=>vy wi g tt te cap nl U H λv H1=>D.nx (U.set i<|aa v) H1):=by
 intro pq s U H D I h;rw[exec_Assign_Name_used _ _ _ _ hsw];refine ab<|fX<|ab ?_;refine ab<|c9 (Uq (Q:=λv H1=>D.nx (U.set i<|aa v) H1) (act:=λacc env k=>(do let _ <-call (.builtin "list.append") [acc,<-cV elt env]:mj Unit) >>= λ_=>k) hc hN CS hi (λ_ _ _=>rfl) (λcl s H fp=>#[(hb cl s H fp).1,(hb cl s H fp).2.1,λD=>Jb (λ_ _ z=>z) (hb cl s H fp).2.2]) hs I h λA C H5 s6 I6 G q=>?_) (λ_ s' hq=>au<|au hq) λ_ _ e=>e
 refine lG<|UA (v:=V.ref A) I6 hN hy hx rfl (λs7 I7 #[a,hsb,ha]=>?_) hf
 have hCa:C≠a:=by
  rcases ha with e|e
  .rw[e];exact G.loc
  .exact Ne.symm<|G.cel y a e
 obtain⟨m6,hn6⟩:=G.ns;have G7:Gone X pq H5 s7 C:=#[G.free,#[m6,hn6.sameBut hsb hCa],G.loc,G.big,G.cel,G.pin];exact#[m6,hn6.sameBut hsb hCa,λh' hs'=>#[U.set i<|aa<|.ref A,H5,G7.inv I7 hs',q]]
open Ev (E Sm Fn Bop Cop Ty Bf Mf)
section
variable{X:Cx}{xw:Nat->Hp->Prop}{C:Calls}{e a b c tg it:Expr}{i j k:E}{pos p p' p2:gD}
structure CTs(X:Cx)(xw:Nat->Hp->Prop)(C:Calls)(ifs:List Expr)(is:List E):Prop where
 h:PTs X ifs (tB3 X xw<|Pv.pvt C is)
def PTs.imp{X:Cx}{e:List Expr}{t t':TT}(h:PTs X e t)(k:∀U H Q,t' U H Q->t U H Q):PTs X e t':=λpq s U H Q I q=>h pq s U H Q I<|k U H Q q
def uW:CTs X xw C [] []:=.mk <| PTs.imp uM<|by rintro U H Q ⟨O,l,S,st,lr,h⟩;exact End.ok (h) st rfl
def qf(U:Lc)(S:Zr):Pv.pvt C [i] U S=Pv.YF C i U S:=by
 show((Pv.pv C i U S).bind λx S=>(Pv.po (Pv.Zn x) S).bind λb S=>if b then Pv.pvt C [] U S else .ok ai S)=(Pv.pv C i U S).bind λx S=>Pv.po (Pv.Zn x) S
 congr 1
 funext x S
 cases Pv.Zn x with|none=>rfl|some b=>cases b<;>rfl
def uz(h:CT X xw C c i):CTs X xw C [c] [i]:=.mk <| PTs.imp (uC h.h)<|by rintro U H Q ⟨O,l,S,st,lr,h⟩;exact #[O,l,S,st,lr,by rw[<-qf];exact h]
def LocR.caught(lr:LocR O H l U)(cap:List Nat)(nl:Nat):LocR O H (Pv.ZQ cap nl l) (Yq cap nl U):=by
 refine#[by unfold Pv.ZQ Yq;simp,λn d e=>?_]
 unfold Pv.ZQ at e;by_cases hn:n<nl
 .rw[bM (by simp;exact hn),cF,T9 hn]at e
  cases e
 .rw[bu (by simp;omega),cB,aK]at e
  unfold Yq;rw[bu (by simp;omega),cB,aK]
  cases q:cap[n-nl]? with
  |none=>rw[q]at e;cases e
  |some m=>
   rw[q]at e;have e':(l[m]?).join=aa d:=af e;have:l[m]?=aa (aa d):=by
    cases z:l[m]? with
    |none=>rw[z]at e';cases e'
    |some o=>rw[z]at e';cases o with|none=>cases e'|some w=>cases e';rfl
   obtain⟨v,hv,r⟩:=lr.val m d this;exact#[v,by show aa ((U[m]?).join)=_;rw[hv];rfl,r]
noncomputable def Mx.at(O:Mx)(A:aG):Mx:=#[O.K,O.n0,λa=>O.X a\/a=A,λa h=>.inl<|O.xz a h]
def Y4(O:Mx)(A:aG)(H H':Hp):Prop:=∀a o,a≠A->H a=aa o->H' a=aa o\/(O.n0=aa a/\∃xs,o=.lst xs)\/((∃ps,o=.tbl ps)/\∃ps,H' a=aa (.tbl ps))
def Y4.trans(f:Y4 O A H H1)(g:Y4 O A H1 H2):Y4 O A H H2:=λa o n h=>(f a o n h).elim (g a o n) λz=>z.elim (λz=>.inr<|.inl z)<|by
 rintro ⟨e,ps,h⟩;rcases g a _ n h with q|⟨_,xs,q⟩|⟨_,q⟩
 .exact .inr<|.inr #[e,ps,q]
 .cases q
 .exact .inr<|.inr #[e,q]
def Y4.of(f:Fut (O.at A) H ρ' H1):Y4 O A H H1:=λa o _ h=>f.keep a o h
structure CI(K:ao)(O:Mx)(A:aG)(acc:List D)(l:Lc)(U:L2.St)(H:Hp)(S:Zr):Prop where
 st:St3 K (O.at A) S H
 lr:LocR (O.at A) H l U
 ac:∃us,H A=aa (.lst us)/\Rq (O.at A) H acc us
section
variable{K:ao}{O:Mx}{A:aG}{acc:List D}{l l':Lc}{U:L2.St}{H H':Hp}{S S':Zr}
def Y4.lat(f:Y4 O A H H')(ha:H A=aa (.lst us)):Lat (O.at A) H (O.at A) H':=#[rfl,rfl,λa o h x n _=>by
 by_cases c:a=A
 .subst c;rw[ha]at h;cases h;exact T7 (.inr rfl)<|x us rfl
 .rcases f a o c h with z|⟨z,xs,e⟩|⟨⟨ps,e⟩,_⟩
  .exact z
  .exact T7 (.inl<|O.xz a z)<|x xs e
  .exact T7 e<|n ps,λ_ _ x=>x]
theorem CI.mono(h:CI K O A acc l U H S)(na:O.n0≠aa A)(f:Fut (O.at A) H ρ' H')(st:St3 K (O.at A) S' H'):CI K O A acc l U H' S':=by
 obtain⟨us,e,r⟩:=h.ac;cases f.eq;exact#[st,h.lr.mono f,us,(f.keep A _ e).elim id λz=>z.elim (λz=>T7 z.1 na)<|by rintro ⟨⟨_,z⟩,_⟩;exact (by cases z),r.mono f]
def Zag{Q:L2.St->Hp->Prop}(lr:LocR O H l U)(r:Rep O H d v)(e:Pv.Zf t d l=aa l')(q:∀σ',LocR O H l' σ'->Q σ' H):tGU K t v U H Q:=by
 have fill:∀{t:List Nat}{vs:List D}{us:List V}{l l':Lc}{U:L2.St},LocR O H l U->Rq O H vs us->Pv.YE t vs l=aa l'->us.length=t.length/\LocR O H l' (W7 t us U):=λ{t}=>by
  induction t with
  |nil=>intro vs us l l' U h r e;cases vs with|nil=>rw[r];cases e;exact#[rfl,h]|cons _ _=>cases e
  |cons i t ih=>intro vs us l l' U h r e;cases vs with
   |nil=>cases e
   |cons v vs=>
    obtain⟨d,ds,rfl,a,b⟩:=r;obtain⟨z,q⟩:=ih (h.set i a) b e;exact#[by rw[aL,aL,z],q]
 have gen:∀t:List Nat,(match Pv.wf d with
   |some xs=>Pv.YE t xs l
   |none=>ae)=aa l'->∃a xs,v=.ref a/\(SqT K H a xs\/H a=aa (.lst xs))/\xs.length=t.length/\Q (W7 t xs U) H:=by
  intro t e;cases d with|tup vs=>obtain⟨p,ds,rfl,hp,rs⟩:=r.tup';obtain⟨z,y⟩:=fill lr rs e;exact#[p,ds,rfl,.inl<|SqT.of hp,z,q _ y]|lst vs=>obtain⟨p,ds,rfl,hp,_,rs⟩:=r.lst';obtain⟨z,y⟩:=fill lr rs e;exact#[p,ds,rfl,.inr hp,z,q _ y]|_=>cases e
 match t,e with
 |[i],e=>cases e;exact q _<|lr.set i r
 |[],e=>exact gen [] e
 |i::j::t,e=>exact gen (i::j::t) e
theorem VT:∀{t:List Nat}{vs:List D}{l l':Lc},Pv.YE t vs l=aa l'->l'.length=l.length/\∀j,j∉t->l'[j]?=l[j]?
 |[],[],l,l',h=>by cases h;exact#[rfl,λ_ _=>rfl]
 |[],_::_,_,_,h=>by cases h
 |_::_,[],_,_,h=>by cases h
 |i::t,v::vs,l,l',h=>by
  obtain⟨a,b⟩:=VT (t:=t) h;exact#[by rw[a,bc],λj hj=>by rw[b j λz=>hj<|ak _ z,aQ λz=>hj<|by rw[z];exact am ..]]
def Jj(e:Pv.Zf t v l=aa l'):l'.length=l.length/\∀j,j∉t->l'[j]?=l[j]?:=by
 have gen:∀t:List Nat,(match Pv.wf v with
   |some xs=>Pv.YE t xs l
   |none=>ae)=aa l'->l'.length=l.length/\∀j,j∉t->l'[j]?=l[j]?:=λt e=>by
  cases q:Pv.wf v with|none=>rw[q]at e;cases e|some xs=>rw[q]at e;exact VT e
 match t,e with
 |[i],e=>cases e;exact#[bc ..,λj hj=>aQ λz=>hj<|by rw[z];exact am ..]
 |[],e=>exact gen [] e
 |i::j::t,e=>exact gen (i::j::t) e
def LocR.back(e:Pv.Zf t v l=aa l')(hn:∀i∈t,∀d,l[i]?≠aa (aa d))(lr:LocR O H l' U):LocR O H l U:=by
 obtain⟨a,b⟩:=Jj e;exact#[by rw[<-a];exact lr.len,λi d q=>lr.val i d<|by rw[b i λz=>hn i z d q];exact q]
end
noncomputable def jP(C:Calls)(t:List Nat)(is:List E)(G:Lc->Zr->R (List D))(l:Lc)(x:D)(S:Zr):R (List D):=(Pv.po (Pv.Zf t x l) S).bind λl S=>(Pv.pvt C is l S).bind λb S=>if b then G l S else .ok [] S
def Qs{B β:Type}{r:R B}{f:B->Zr->R β}{b:β}{S:Zr}(h:r.bind f=.ok b S):∃a S1,r=.ok a S1/\f a S1=.ok b S:=by
 cases r with|ok a S1=>exact#[a,S1,rfl,h]|ex _ _=>cases h|no=>cases h
def yT(h:Pv.mapP f (x::w) S=.ok rs S2):∃y S1 zs,f x S=.ok y S1/\Pv.mapP f w S1=.ok zs S2/\rs=y++zs:=by
 rw[Pv.mapP]at h;split at h
 .split at h
  .cases h;exact#[_,_,_,‹_›,‹_›,rfl]
  .cases h
 .cases h
def ZcD(K:ao)(O:Mx)(A:aG)(P:Lc->Prop)(te:TEm)(G:Lc->Zr->R (List D)):Prop:=∀acc l U H S ys S2 QQ,P l->CI K O A acc l U H S->G l S=.ok ys S2->(acc++ys).length<=Ev.lim->(∀σ3 H3,Y4 O A H H3->CI K O A (acc++ys) l σ3 H3 S2->QQ σ3 H3)->te U H QQ
def wB{O ρw:Mx}{A:aG}{Hw:Hp}{w:List D}{J:It}(r:WRel X.K ρw Hw w J)(na:O.n0≠aa A){t:List Nat}{is:List E}{te:TEm}{G:Lc->Zr->R (List D)}{P:Lc->Prop}(em:ZcD X.K O A P te G){l:Lc}(hn:∀i∈t,∀d,l[i]?≠aa (aa d))(hP:∀x l2,Pv.Zf t x l=aa l2->P l2){acc ys:List D}{U:L2.St}{H:Hp}{S S2:Zr}{QQ:L2.St->Hp->Prop}
  (hl:∀H',Y4 O A H H'->Lat ρw Hw (O.at A) H')(c:CI X.K O A acc l U H S)(h:Pv.mapP (jP C t is G l) w S=.ok ys S2)(hz:(acc++ys).length<=Ev.lim)(k:∀σ3 H3,Y4 O A H H3->CI X.K O A (acc++ys) l σ3 H3 S2->QQ σ3 H3) :
  ∃W:Nat->Nat->L2.St->Hp->Prop,(∃m,W 0 m U H)/\vK J (tGU X.K t) (tB3 X nx<|Pv.pvt C is) te W QQ:=by
 refine#[λn m σ' H'=>m=w.length-n/\n<=w.length/\Y4 O A H H'/\∃ac rs S',ac++rs=acc++ys/\Pv.mapP (jP C t is G l) (w.drop n) S'=.ok rs S2/\CI X.K O A ac l σ' H' S',#[w.length,rfl,cR _,λ_ _ _ h=>.inl h,acc,ys,S,rfl,h,c],?_]
 rintro n m σ' H' ⟨rfl,hn',ff,ac,rs,S',ea,e',c'⟩
 have lat:=hl H' ff;by_cases hlt:n<w.length
 .right
  rw[bS hlt]at e';obtain⟨y1,S1,r1,q1,q2,rfl⟩:=yT e';obtain⟨go,yl⟩:=r.go n _ S' H' lat c'.st hlt;refine#[go,λx H3 y=>?_]
  obtain⟨f3,st3,rp⟩:=yl x H3 y;have rx:=rp _<|ag hlt;obtain⟨l2,Sa,ha,q1⟩:=Qs q1;obtain⟨b,Sb,hb,q1⟩:=Qs q1;have hal:Pv.Zf t w[n] l=aa l2/\Sa=S':=by
   cases z:Pv.Zf t w[n] l<;>rw[z]at ha<;>cases ha;exact#[rfl,rfl]
  obtain⟨hal,rfl⟩:=hal;have ff3:=ff.trans<|Y4.of f3;have c3:=c'.mono na f3 st3;refine Zag c3.lr rx hal λσ2 lr2=>#[O.at A,l2,Sa,st3,lr2,?_]
  rw[hb];intro ρ4 H4 b' f4 st4 eb;have eb:=eb;subst eb;cases f4.eq;have ff4:=ff3.trans<|Y4.of f4;have c4:=c3.mono na f4 st4;cases b with
  |false=>
   rw[T8 aJ]at q1 ⊢;cases q1;exact#[w.length-(n+1),by omega,rfl,hlt,ff4,ac,r1,_,ea,q2,c4.st,(lr2.mono f4).back hal hn,c4.ac]
  |true=>
   rw[T9 rfl]at q1 ⊢;refine em ac l2 σ2 H4 Sb y1 S1 _ (hP _ _ hal) #[c4.st,lr2.mono f4,c4.ac] q1 ?_ λσ3 H5 f5 c5=>#[w.length-(n+1),by omega,rfl,hlt,ff4.trans f5,ac++y1,r1,S1,by rw[bB];exact ea,q2,c5.st,c5.lr.back hal hn,c5.ac]
   rw[<-ea]at hz;simp only[aW]at hz ⊢;omega
 .left
  have en:n=w.length:=by omega
  subst en;rw[dG]at e';cases e';rw[cz]at ea;subst ea;exact#[r.stop _ _ H' lat c'.st,k σ' H' ff c']
def Zaf{O:Mx}{A:aG}(na:O.n0≠aa A)(ie:E):ZcD X.K O A (λ_=>True) (Zdl (tE X nx<|Pv.pv C ie) A) (λl S=>(Pv.pv C ie l S).bind λy S=>.ok [y] S):=λacc l U H S ys S2 QQ _ c h hz k=>by
 obtain⟨y,S1,hy,h⟩:=Qs h;cases h;refine#[O.at A,l,S,c.st,c.lr,?_];rw[hy];intro ρ4 H4 v f4 st4 r4;cases f4.eq;have c4:=c.mono na f4 st4;obtain⟨us,e,r⟩:=c4.ac;rw[aW]at hz;have hz:acc.length+1<=Ev.lim:=hz;have fa:Y4 O A H4 (upd H4 A<|.lst<|us++[v]):=λa o n h=>.inl (by rw[Zl n];exact h)
 have lt:=fa.lat e;refine#[us,e,by rw[r.length,<-Yp];omega,k U _ ((Y4.of f4).trans fa) #[#[st4.hk,λb x=>?_,λb x=>?_,st4.tb.upd (λo u z=>by rw[e]at z;cases z) λ_ z=>by cases z],#[c4.lr.len,λi d q=>let #[u,a,b]:=c4.lr.val i d q;#[u,a,b.lat lt]],_,Zo,(r.lat lt).append<|Rq.cons (r4.lat lt) Rq.nil]]
 .by_cases z:b=A
  .rw[z,Zo];intro q;cases q
  .rw[Zl z];exact st4.xd b x
 .rw[Zl λz=>na<|by rw[<-z];exact x];exact st4.dw b x
def qU(st:St3 X.K O S H)(lr:LocR O H l U)(hA:H A=ae):O.n0≠aa A/\CI X.K O A [] l U (upd H A<|.lst []) S/\∀H',Y4 O A (upd H A<|.lst []) H'->Fut O H O H'/\Lat O H (O.at A) H':=by
 have ne:∀a,H a≠ae->a≠A:=λa h z=>h<|z▸hA
 have f:∀H',Y4 O A (upd H A<|.lst []) H'->Fut O H O H'/\Lat O H (O.at A) H':=λH' g=>by
  have f:Fut O H O H':=#[rfl,λa o h=>g a o (ne a<|by rw[h];intro z;cases z)<|by rw[Zl<|ne a<|by rw[h];intro z;cases z];exact h]
  exact#[f,rfl,rfl,f.lat.keep',λa h x=>x.elim id λz=>T7 z<|ne a h]
 have s:=st.fresh (o:=.lst []) hA;obtain⟨f1,lt⟩:=f _ λ_ _ _ h=>.inl h
 refine#[λz=>st.xd A (O.xz A z) hA,#[#[s.hk,λb x=>x.elim (s.xd b) λz=>(by rw[z,Zo];intro q;cases q),s.dw,s.tb],#[lr.len,λi d q=>let #[u,a,b]:=lr.val i d q;#[u,a,b.lat lt]],[],Zo,Rq.nil],f]
def y6{l:Lc}{cap:List Nat}{nl i:Nat}(h:i<nl)(v:D):(Pv.ZQ cap nl l)[i]?≠aa (aa v):=by
 unfold Pv.ZQ;rw[bM (by simpa using h),cF,T9 h]
 intro z;cases z
def w6(f0:Fut O H0 O H)(hA:H A=ae)(st:St3 X.K O S H)(f:Fut O H O H')(c:CI X.K O A ys l U H' S')(h:End X.K nx (XM aj H0) O H Q (.ok (.lst ys) S')):Q (.ref A) H':=by
 obtain⟨us,e,r⟩:=c.ac;have lt:Lat (O.at A) H' O H':=#[rfl,rfl,λ_ _ h _ _ _=>h,λ_ _ x=>.inl x]
 refine h O H' _ f #[c.st.hk,λb x=>c.st.xd b<|.inl x,c.st.dw,c.st.tb] #[XR e (st.nx hA)<|r.lat lt,λ_ _ _=>#[A,rfl,f0.new hA st.xd]]
def v8{K:ao}{rep:Mx->Hp->D->V->Prop}{O:Mx}{H:Hp}{Q:VK}{r:R (List D)}(h:End K xw rep O H Q (r.bind λys s=>if ys.length<=Ev.lim then Pv.PR.ok (.lst ys) s else .no).nox):∃ys S,r=.ok ys S/\ys.length<=Ev.lim/\End K nx rep O H Q (.ok (.lst ys) S):=by
 cases r with
 |no=>exact h.elim
 |ex c S=>exact h.elim
 |ok ys S=>
  have h:=End.nox h
  obtain⟨hl,h⟩:=End.guard h;exact#[ys,S,rfl,hl,h]
def JH{is:List E}{ie:E}{cap:List Nat}{nl:Nat}{w:Ev.W}{t:List Nat}{U:L2.St}{H:Hp}{Q:VK}(hyp:tF X xw (Pv.pv C<|.comp1 cap nl t w is ie) U H Q):vy (tW3 X xw<|Pv.pvw C w) (tGU X.K t) (tB3 X nx<|Pv.pvt C is) (tE X nx<|Pv.pv C ie) cap nl U H Q:=by
 obtain⟨O,l,S,st,lr,h⟩:=hyp;rw[Pv.pv]at h;obtain⟨ho,h⟩:=End.guard h;refine#[O,l,S,st,lr,h.bind λwk S1 ρ1 H1 J f1 st1 r1 h1=>λA hA=>?_]
 cases f1.eq;obtain⟨ys,S2,hm,hl,h1⟩:=v8 h1;obtain⟨na,ci,ft⟩:=qU st1 ((lr.mono f1).caught cap nl) hA;exact wB r1 na (Zaf na ie) (λi hi d=>y6 (T6<|bG.mp ho i hi) d) (λ_ _ _=>dJ) (λH' f=>(ft H' f).2) ci hm hl λσ3 H3 f3 c3=>w6 f1 hA st1 (ft H3 f3).1 c3 h1
def vI{elt:Expr}{ifs:List Expr}{is:List E}{ie:E}{scope:ez}{N:List bD}{cap:List Nat}{nl:Nat}{w:Ev.W}{t:List Nat}(hc:X.calm=aj)(hN:X.N.Nodup)(CSc:CompScope X.env.scope X.N scope N cap nl)(hi:CW X xw C tg it w)
  (hb:∀cl s H fp,CG (cxC X N scope cl s H fp) tg t/\CTs (cxC X N scope cl s H fp) nx C ifs is/\CE (cxC X N scope cl s H fp) nx C elt ie)
  (hs:∀x,cZ it X.env x=cT x):CF X xw C (.ListComp elt [#[tg,it,ifs,0]] scope pos) (.comp1 cap nl t w is ie):=.mk <|
 PE.imp (qz (g:=tGU X.K t) (tt:=tB3 X nx<|Pv.pvt C is) (te:=tE X nx<|Pv.pv C ie) hc hN CSc hi.h (λcl s H fp=>have#[a,b,c]:=hb cl s H fp;#[a.h,b.h,c.h]) hs) λU H Q hyp=>JH hyp
def xF{fr:Bool}{ns:List Nat}{elt:Expr}{ifs:List Expr}{is:List E}{ie:E}{scope:ez}{N:List bD}{cap:List Nat}{nl:Nat}{w:Ev.W}{t:List Nat}{n:Nat}{y:bD}{spos py:gD}(hc:X.calm=aj)(hN:X.N.Nodup)(CSc:CompScope X.env.scope X.N scope N cap nl)(hi:CW X xw C tg it w)
  (hb:∀cl s H fp,CG (cxC X N scope cl s H fp) tg t/\CTs (cxC X N scope cl s H fp) nx C ifs is/\CE (cxC X N scope cl s H fp) nx C elt ie)
  (hsw:iH (.ListComp elt [#[tg,it,ifs,0]] scope pos) (aa<|.Name y py) spos.line X.env=cT aj)
  (hy:X.N[n]?=aa y)(hx:L2.Loc X.env.scope y)(hf:X.fn y=aj\/X.env.scope.names.lookup y=aa .local)
  (hs:∀x,cZ it X.env x=cT x):CS X xw fr C ns (.Assign [.Name y py] (.ListComp elt [#[tg,it,ifs,0]] scope pos) spos) (.asg [n]<|.comp1 cap nl t w is ie):=.mk <|
 PS.imp (vW (g:=tGU X.K t) (tt:=tB3 X nx<|Pv.pvt C is) (te:=tE X nx<|Pv.pv C ie) hc hN CSc hi.h (λcl s H fp=>have#[a,b,c]:=hb cl s H fp;#[a.h,b.h,c.h]) hsw hy hx hf hs)<|by rintro D U H ⟨O,H0,W,l,os,S,st,en,h⟩;exact JH<|Zca st en h
end
theorem LocR.start(r:Rq O H ds vs)(N:List bD)(n:Nat)(hn:n=N.length):LocR O H (Pv.ZH n ds) (L2.start N vs):=by
 subst hn;have hl:=r.length;refine#[by unfold Pv.ZH L2.start;simp[hl],λi d e=>?_]
 unfold Pv.ZH at e;by_cases hi:i<ds.length
 .rw[bM (by simpa using hi),aK]at e
  cases q:ds[i]? with
  |none=>rw[q]at e;cases e
  |some d'=>
   rw[q]at e;cases e;obtain⟨v,hv,r'⟩:=r.get q;refine#[v,?_,r'];unfold L2.start;rw[bM (by simp;lia),aK,hv]
   rfl
 .rw[bu (by simp;lia),cF]at e
  split at e<;>cases e
theorem Eu.start{K:ao}{O:Mx}{H:Hp}{S:Zr}{ds:List D}{vs:List V}(st:St3 K O S H)(r:Rq O H ds vs)(N:List bD)(n:Nat)(hn:n=N.length):Eu O H (λ_=>ae) (Pv.ZH n ds) [] (L2.start N vs) H:=by
 have lr:=LocR.start r N n hn;refine#[Fut.refl _ _,st.xd,lr.len,λ_=>rfl,λ_ _ _ h=>?_,λ_ _ h=>?_,λ_ _ h=>?_,λi d e _=>?_]
 .cases h
 .cases h
 .cases h
 .obtain⟨v,a,b⟩:=lr.val i d e
  exact#[v,a,Rep.lat (O:=O) (ρ':=O.ex λ_=>ae) #[rfl,rfl,λ_ _ h _ _ _=>h,λ_ _ x=>Or.elim x id λ#[_,z]=>by cases z] b]
section
variable{P:bE}{w:bZ}{K:ao}{mg:bD->Option ap}{base:bX}
noncomputable def Ji(C:Calls)(fn:Fn)(ds:List D)(S:Zr):R D:=if ds.length=fn.ps then(Pv.rvs C (Pv.muts fn.body) fn.body (Pv.ZH fn.ns ds) [] S).bind λf S=>match f with
  |.ret x=>.ok x S
  |.nx _ _=>.ok .non S
  |_=>.no
 else .no
def vX{C:Calls}{fn:Fn}{fr:Bool}{xw:Nat->Hp->Prop}{O:Mx}{H:Hp}{ds:List D}{S:Zr}{Q:VK}{E:L2.Ends}(hE:∀v H',Q v H'->E.rt v H')(hN:∀U H',Q .non H'->E.nx U H')(h:End K xw (XM fr H) O H Q (Ji C fn ds S)):Zv fr K xw O H E (Pv.rvs C (Pv.muts fn.body) fn.body (Pv.ZH fn.ns ds) [] S):=by
 obtain⟨_,h⟩:=End.guard h;cases q:Pv.rvs C (Pv.muts fn.body) fn.body (Pv.ZH fn.ns ds) [] S with
 |no=>rw[q]at h;exact h
 |ex c S2=>rw[q]at h;exact λH' f st=>h O H' f st
 |ok fl S2=>
  rw[q]at h;cases fl with|ret x=>exact λH' v f st r=>hE v H'<|h O H' v f st r|nx l os=>exact λH' σ' W' st en=>hN σ' H'<|h O H' .non en.fut st #[zP,λ_ _ z=>by cases z]|brk l os=>exact False.elim h|cnt l os=>exact False.elim h
def wL{C C':Calls}{n:Nat}{fn:Fn}{fr:Bool}{x qual:bD}{st:eR}{f:aG}{fd:cP}{N ps:List bD}{k:Nat}(hF:∀O S H ds vs,St3 K O S H->Rq O H ds vs->C' n ds S=.no\/C' n ds S=Ji C fn ds S)(hns:fn.ns=N.length)(hps:fn.ps=ps.length)(Fu:Fun K x qual st f fd)(S:FnScope N ps (Zw st))
  (hb:∀(cdv:ap)(A:cQ)(outer:List Env)(s:aw)(H:Hp)(E:XK),Room k (A.deeper<|gH qual (Zw st) s.heap.objs.size f cdv)->
   CSs (J2 CX0 P w K mg base N qual (Zw st) f cdv A outer s H E).nox (λ_ _=>False) fr C (Pv.muts fn.body) (Z2 st) fn.body) :
  FnOk P w K mg base CX0 (k+1) f fd ps (spF K C' fr n):=by
 have eq:∀{O S H ds vs Q},St3 K O S H->Rq O H ds vs->End K (λ_ _=>False) (XM fr H) O H Q (C' n ds S)->End K (λ_ _=>False) (XM fr H) O H Q (Ji C fn ds S):=λ{O S H ds vs Q} st r h=>by
  rcases hF O S H ds vs st r with e|e
  .rw[e]at h;exact h.elim
  .rw[e]at h;exact h
 refine Fu.ok S (λvs H Q E #[O,ds,S,st,r,h]=>?_) λcdv A outer s H vs Q E hr #[O,ds,S',st,r,h]=>#[_,(hb cdv A outer s H E hr).h,O,H,λ_=>ae,Pv.ZH fn.ns ds,[],S',st,Eu.start st r N fn.ns hns,vX (λ_ _ q=>q) (λ_ _ q=>q)<|eq st r h]
 have h:=eq st r h;unfold Ji at h;obtain⟨hl,_⟩:=End.guard h;rw[r.length,hl,hps]
def ze{F:List Fn}{tk n k:Nat}{fr:Bool}{f:aG}{fd:cP}{ps:List bD}:FnOk P w K mg base CX0 k f fd ps (spF K (Pv.Zh F tk 0) fr n):=
 #[λvs H Q E #[O,ds,S,st,r,h]=>False.elim h,by rintro A outer s H args us vs Q E hr e0 hb r ⟨O,ds,S,st,r',h⟩;exact False.elim h]
end
section
variable{prog:bE}{w:bZ}{A:cQ}{E:ap->aw->Prop}{s:aw}
theorem yJ(n:Nat):cw ((n:Int)-1) (-1) (-1)=n:=by
 unfold cw;have h1:¬((-1:Int)>0):=by decide
 rw[T8 h1];by_cases h:(n:Int)-1 > -1
 .rw[T9 h,show(- -1:Int)=1 by decide,Int.ediv_one]
  lia
 .rw[T8 h]
  lia
def Wf{sl:aG}{vk:ap}{n:Nat}{Q:Int×Int×Nat->aw->Prop}(hs:s.heap.IsSliceOf sl .none .none vk)(pk:gJ vk (aa<|-1))
  (h:Q ((n:Int)-1,-1,n) s):aX (aS prog w) A (gL (.ref sl)<|cT (n:Int)) Q E s:=by
 obtain⟨os,hos,hcs,hds⟩:=id hs;refine ab<|ab<|cr hos hds rfl<|ab<|cr hos hds rfl<|ab<|cr hos hds rfl<|au ?_;refine ab<|HT.XD pk ?_;show aX _ _ (if((-1:Int) == 0)=aj then _ else _) _ _ s
 rw[T8<|by decide]
 refine ab<|gK<|ab<|gK<|ab<|au ?_;show aX _ _ (cT ((n:Int)-1,(-1:Int),cw ((n:Int)-1) (-1)<|-1)) _ _ s;rw[yJ];exact au h
theorem vC(xs:Array ap):((aU xs.size).filterMap λ(k:Nat)=>xs[((xs.size:Int)-1+(k:Int) * -1).toNat]?).toArray=xs.toList.reverse.toArray:=by
 congr 1
 have e:(aU xs.size).filterMap (λ(k:Nat)=>xs[((xs.size:Int)-1+(k:Int) * -1).toNat]?)=((aU xs.size).map λk=>xs.size-1-k).filterMap (xs[·]?):=by
  rw[lw]
  congr 1
  funext k
  have:((xs.size:Int)-1+(k:Int) * -1).toNat=xs.size-1-k:=by lia
  rw[this];rfl
 rw[e,PySem.W.krv_range,List.filterMap_reverse,PySem.W.krv_all]
def Wa{Q:ap->aw->Prop}(ht:lF s.heap t items)(hs:s.heap.IsSliceOf sl .none .none vk)(pk:gJ vk (aa<|-1))
  (h:Q (.ref s.heap.objs.size) {s with heap:=s.heap.push {cls:=.type "tuple",data:=.seq items.toList.reverse.toArray}})
  (hsz:items.size<=aY):aX (aS prog w) A (hZ (.ref t)<|.ref sl) Q E s:=by
 have htake:sizeOk (.seq items.toList.reverse.toArray):=by
  show items.toList.reverse.toArray.size<=aY;rw[ax,fm,aH];exact hsz
 obtain⟨os,hos,hcs,hds⟩:=id hs;have hTs:s.TypeIs (.ref sl) "slice":=#[os,hos,hcs];unfold hZ
 try with_reducible refine bL ?_
 first|refine ab<|au ?_|skip
 refine ab<|h8 ht.typeIs (by decide) ?_
 refine ab (cn ht.typeIs bY
  (cM bY ht.typeIs gA ?_<|gM _ _))
 show aX _ _ (eS (.ref t) >>= _) _ _ s;refine ab<|k8 ht ?_;refine ab<|eY hTs ?_;rw[T9<|by decide]
 refine ab<|Wf hs pk ?_;have hno:¬(((items.size:Int)-1 == 0&&(-1:Int) == 1&&items.size == items.size)=aj):=by
  intro q;rw[aD,aD]at q;exact T7 q.1.2 (by decide)
 show aX _ _ (if((items.size:Int)-1 == 0&&(-1:Int) == 1&&items.size == items.size)=aj then _ else _) _ _ s
 rw[T8 hno,vC]
 first
  |exact ab<|bv (au #[_,rfl,au h]) htake
  |exact ab<|bv (ab<|au<|au #[_,rfl,au h]) htake
  |exact ab<|ab<|bv (au<|au #[_,rfl,au h]) htake
  |exact ab<|ab<|bv (au #[_,rfl,au h]) htake
end
section
variable{X:Cx}{xw:Nat->Hp->Prop}{C:Calls}{e a b c tg it:Expr}{i j k:E}{pos p p' p2 p3:gD}{q1:Option bD}
def ZaT{e1:Expr}(ha:CE X xw C a i)(h1:CE X xw C e1 (.neg<|.c<|.int 1)):CE X xw C (.Subscript a (.Slice ae ae (aa e1) p2) pos) (.rev i):=.mk <| by
 intro pq s U H Q I hq;obtain⟨O,l,S,st,lr,h⟩:=hq;have h':=h
 refine nj<|thn (ha.h pq s U H (λx H1=>∃ρ1 S1 d,St3 X.K ρ1 S1 H1/\LocR ρ1 H1 l U/\Rep ρ1 H1 d x/\End X.K xw Rep ρ1 H1 Q (Pv.po (Pv.ZbO d) S1)) I #[O,l,S,st,lr,h'.bind λd S1 ρ1 H1 v f1 st1 r1 h1=>#[ρ1,S1,d,st1,lr.mono f1,r1,h1]]) λv s1 #[x,H1,I1,r1,ρ1,S1,d,st1,lr1,rd,h2]=>?_
 refine wpAny_Slice ?_;rw[k9];refine au<|au ?_;rw[evalPart_some];refine thn (h1.h pq s1 U H1 (λy H2=>y=.int (-1)/\∃ρ2,Fut ρ1 H1 ρ2 H2/\St3 X.K ρ2 S1 H2) I1 #[ρ1,l,S1,st1,lr1,λρ2 H2 y f2 st2 ry=>#[ry.int',ρ2,f2,st2]]) λvk s2 #[y,H2,I2,ry,ey,ρ2,f2,st2]=>?_
 subst ey;obtain⟨t,rfl⟩:=ry;have rd2:=rd.mono f2;have h3:=End.mono f2 h2;cases d with
 |tup ds=>
  obtain⟨q,xs,rfl,hp,rs⟩:=rd2.tup';cases r1;have I4:Inv X pq U H2 {s2 with heap:=s2.heap.push {cls:=.type "slice",data:=.fields [.none,.none,.int (-1) t].toArray}}:=I2.kept (t':=s2.toks) λb ob q=>aq _ q
  obtain⟨its,r,ht,hz⟩:=I4.tuple<|SqT.of hp;have hlen:its.toArray.size=xs.length:=by rw[ax];exact r.length.symm
  refine tail_any ht.typeIs bY.lookup ?_ (by with_unfolding_all rfl)
  refine Wa ht (lx ..) (gJ.int _ _) ?_ (by rw[hlen];exact hz)
  refine#[.ref _,_,I4.laid (t':=s2.toks) (o:=.tup xs.reverse) (λb ob q=>aq _ q) (az _) #[by rw[fm];exact hz,_,r.reverse,gF _ _],rfl,h3.newT st2 rs.reverse _<|I4.hok.fresh<|az _]
 |_=>exact False.elim h3
end
def Jd{a b c}:aM (.Constant a b c::es) env=(ai,cV (.Constant a b c) env)::aM es env:=rfl
def G4{a b}:aM (.Name a b::es) env=(ai,cV (.Name a b) env)::aM es env:=rfl
def vL{a b c}:aM (.Tuple a b c::es) env=(ai,cV (.Tuple a b c) env)::aM es env:=rfl
def xK{a b}:aM (.List a b::es) env=(ai,cV (.List a b) env)::aM es env:=rfl
def GT{a b c}:aM (.Dict a b c::es) env=(ai,cV (.Dict a b c) env)::aM es env:=rfl
def xo{a b c d}:aM (.BinOp a b c d::es) env=(ai,cV (.BinOp a b c d) env)::aM es env:=rfl
def jU{a b c}:aM (.UnaryOp a b c::es) env=(ai,cV (.UnaryOp a b c) env)::aM es env:=rfl
def xD{a b c d}:aM (.Compare a b c d::es) env=(ai,cV (.Compare a b c d) env)::aM es env:=rfl
def xr{a b c}:aM (.Subscript a b c::es) env=(ai,cV (.Subscript a b c) env)::aM es env:=rfl
def zB{a b c d}:aM (.Call a b c d::es) env=(ai,cV (.Call a b c d) env)::aM es env:=rfl
def zh{a b c d}:aM (.ListComp a b c d::es) env=(ai,cV (.ListComp a b c d) env)::aM es env:=rfl
def YH:List fb->List (Int×Int)->Prop
 |[],[]=>True
 |e::r,(k,j)::q=>(∃t,e.key=.int k t)/\e.hash=hashInt k/\(∃u,e.val=.int j u)/\YH r q
 |_,_=>False
theorem YH.mem :∀{es:List fb}{tab:List (Int×Int)},YH es tab->∀e∈es,∃k,(gB P w).is k e.key=aj/\e.hash=(gB P w).hash k
 |[],_,_,e,h=>by cases h
 |e::r,[],h,_,_=>h.elim
 |e::r,(k,j)::q,h,x,hx=>by
  obtain⟨⟨t,h1⟩,h2,_,h4⟩:=h;rcases aC.mp hx with rfl|hx
  .exact#[k,by rw[h1];exact intKind_is P w k t,h2]
  .exact YH.mem h4 x hx
theorem YH.find(k:Int):∀{es:List fb}{tab:List (Int×Int)},YH es tab->(tab.lookup k=ae->(es.find? λe=>(gB P w).is k e.key)=ae)/\∀j,tab.lookup k=aa j->∃e t,(es.find? λe=>(gB P w).is k e.key)=aa e/\e.val=.int j t
 |[],[],_=>#[λ_=>rfl,λj h=>by cases h]
 |[],_::_,h=>h.elim
 |e::r,[],h=>h.elim
 |e::r,(k',j')::q,h=>by
  obtain⟨⟨t,h1⟩,h2,⟨u,h3⟩,h4⟩:=h;obtain⟨i1,i2⟩:=YH.find k h4;rw[bH,d3];have hd:(gB P w).is k e.key=al (k=k'):=KeyKind.is_eq_decide (by rw[h1];exact intKind_is P w k' t) k
  rw[hd];by_cases z:k=k'
  .subst z
   rw[beq_self_eq_true,T5 rfl];exact#[λz=>(by cases z),λj z=>(by cases z;exact#[e,u,rfl,h3])]
  .rw[beq_eq_false_iff_ne.mpr z,T4 z]
   exact#[i1,i2]
def qZ{P:bE}{w:bZ}{K:ao}{a:aG}{es:Array fb}{n:Nat}{tab:List (Int×Int)}(hl:K.lookup a=aa #[.type "dict",ae,.dict es n,#[]])(ht:YH es.toList tab)(ha:(a == cG)=ai):ZcL P w K a tab:=by
 refine#[ha,λk=>findBy (gB P w).is es k,λh X=>#[_,es,n,X _ _ hl,#[rfl,rfl,rfl],rfl,λe he=>ht.mem e<|kG.mpr he,λ_=>rfl],λk=>?_]
 obtain⟨l⟩:=es;obtain⟨i1,i2⟩:=YH.find k ht;refine#[λz=>?_,λj z=>?_]
 .show((l.toArray.find? λe=>(gB P w).is k e.key).map (·.val))=ae
  rw[lB,i1 z];rfl
 .obtain⟨e,t,q1,q2⟩:=i2 j z
  refine#[t,?_];show((l.toArray.find? λe=>(gB P w).is k e.key).map (·.val))=_
  rw[lB,q1];exact congrArg aa q2
def hu7(hr:Room k A):A.units+7<db:=Nat.lt_of_le_of_lt (by lia) hr.un
def v5{K:ao}{C:Calls}{n:Nat}{H:Hp}{a:aG}{ns:List Int}(hO:Only H)(hS:SqL K H a (ns.map V.int))(h:∀s,∃S',C n [.scr ns] s=.ok (.bl aj) S'):spF K C ai n [.ref a] H (λv _=>v=.bl aj) λ_ _ _=>False:=by
 obtain⟨S',e⟩:=h (0,ai);have sc:Scr K H a ns:=by
  rcases hS with(hS|hS)|hS
  .rcases hO a with z|⟨o,xs,z⟩
   .rw[z]at hS;cases hS
   .rw[z]at hS;cases hS
  .exact .inl hS
  .exact .inr hS
 refine#[#[K,ae,λ_=>False,λ_ h=>by cases h],[.scr ns],(0,ai),#[rfl,λ_ h=>h.elim,λ_ h=>(by cases h),λP ps e=>by rcases hO P with z|⟨_,_,z⟩<;>(rw[z]at e;cases e)],Rq.cons (by unfold Rep;exact#[a,rfl,sc]) Rq.nil,?_]
 rw[e];exact λρ' H' v _ _ r=>r.1.bl'
end Sd
namespace Sd
open PySem PySem.Spec PyProof.Rows L2
def Src(b:Bool)(h:bX)(it l:aG)(k:Nat):Prop:=match b with
 |true=>h.IsListIter it l k
 |false=>h.IsTupleIter it l k
def Ym(b:Bool)(h:bX)(l:aG)(xs:Array ap):Prop:=match b with
 |true=>h.IsList l xs
 |false=>h.IsTuple l xs
def Src.ext(x:Src b h it l k)(e:f8 c h h')(n:it≠c):Src b h' it l k:=by
 cases b
 .exact bX.IsTupleIter.extBut x e n
 .exact bX.IsListIter.extBut x e n
def Src.keep(x:Src b h it l k)(e:∀o,h.get? it=aa o->h'.get? it=aa o):Src b h' it l k:=by
 cases b
 .obtain⟨o,ho,r⟩:=x;exact#[o,e o ho,r]
 .obtain⟨o,ho,r⟩:=x;exact#[o,e o ho,r]
def Src.obj(x:Src b h it l k):∃o,h.get? it=aa o/\∀v,o.data≠.cell v:=by
 cases b
 .obtain⟨o,ho,_,d⟩:=x;exact#[o,ho,λv z=>by rw[d]at z;cases z]
 .obtain⟨o,ho,_,d⟩:=x;exact#[o,ho,λv z=>by rw[d]at z;cases z]
def Ym.keep(x:Ym b h l xs)(e:∀o,h.get? l=aa o->h'.get? l=aa o):Ym b h' l xs:=by
 cases b
 .obtain⟨o,ho,r⟩:=x;exact#[o,e o ho,r]
 .obtain⟨o,ho,r⟩:=x;exact#[o,e o ho,r]
def xC{Q:ap->aw->Prop}(hit:s.heap.IsTupleIter it t i)(ht:s.heap.IsTuple t items)(hx:items[i]?=aa x)
  (hQ:∀h',h'.IsTupleIter it t (i+1)->eB it s.heap h'->Q x {s with heap:=h' }):aX (aS prog w) A (dS<|.ref it) Q E s:=by
 obtain⟨o,ho,hc,hd⟩:=id hit;obtain⟨ol,hol,_,nl,hdl⟩:=ht;refine ab<|cn hit.typeIs dM<|cM dM hit.typeIs gE ?_<|gq _;show aX _ _ (field (.ref it) 0 >>= _) _ _ s;refine ab<|cr ho hd rfl ?_;show aX _ _ (if(ck t == br)=aj then _ else _) _ _ s
 rw[T8<|by exact aJ];refine ab<|cr ho hd rfl ?_
 refine ab<|dN hol hdl ?_;simp only[d8,hx];refine ab<|gS ho hd (by simp)<|au #[x,rfl,au<|hQ _ #[_,eJ _ ho<|fR<|eF hd _,(io ..).trans hc,?_]<|ei ..]
 rw[eF hd];simp[fS]
def Qz{Q:ap->aw->Prop}(hh:A.handled=ae)(hit:s.heap.IsTupleIter it t i)(ht:s.heap.IsTuple t items)(hx:items[i]?=ae)
  (hE:∀h' e,f8 it s.heap h'->(∃o,h'.get? e=aa o/\o.cls=.type "StopIteration")->E (.ref e) {s with heap:=h' }):aX (aS prog w) A (dS<|.ref it) Q E s:=by
 obtain⟨o,ho,hc,hd⟩:=id hit;obtain⟨ol,hol,_,nl,hdl⟩:=ht;refine ab<|cn hit.typeIs dM<|cM dM hit.typeIs gE ?_<|gq _;show aX _ _ (field (.ref it) 0 >>= _) _ _ s;refine ab<|cr ho hd rfl ?_;show aX _ _ (if(ck t == br)=aj then _ else _) _ _ s
 rw[T8<|by exact aJ];refine ab<|cr ho hd rfl ?_
 refine ab<|dN hol hdl ?_;simp only[d8,hx];refine ab<|eE<|ab<|gS ho hd (by simp) ?_;show aX _ _ (newExc (.type "StopIteration") [] >>= _) _ _ _
 refine ab ?_;simp only[newExc,newTuple];refine ab<|bv ?_<|by size_fits
 refine ab (mO (by first|rfl|(simp only[kL];rfl))<|bv ?_<|by size_fits)
 simp only[raiseNew];refine ab<|wpAny_handled ?_;first|rw[hh]|rw[hh]
 exact ab<|au<|wpAny_throw<|hE _ _ (((ei ..).extBut.push _).push _) #[_,aI _ rfl,rfl]
def X8{Q:ap->aw->Prop}(hit:Src b s.heap it l k)(hl:Ym b s.heap l xs)(hx:xs[k]?=aa x)
  (hQ:∀h',Src b h' it l (k+1)->eB it s.heap h'->Q x {s with heap:=h' }):aX (aS prog w) A (dS<|.ref it) Q E s:=by
 cases b
 .exact xC hit hl hx hQ
 .exact wpAny_nextOf_list_item hit hl hx hQ
def Qy{Q:ap->aw->Prop}(hh:A.handled=ae)(hit:Src b s.heap it l k)(hl:Ym b s.heap l xs)(hx:xs[k]?=ae)
  (hE:∀h' e,f8 it s.heap h'->(∃o,h'.get? e=aa o/\o.cls=.type "StopIteration")->E (.ref e) {s with heap:=h' }):aX (aS prog w) A (dS<|.ref it) Q E s:=by
 cases b
 .exact Qz hh hit hl hx hE
 .exact wpAny_nextOf_list_end hh hit hl hx hE
noncomputable def Yd(b:Bool)(l:aG):eX:={cls:=.type (if b then "list_iterator" else "tuple_iterator"),data:=.fields [.ref l,.int 0 0].toArray}
def JD{Q:ap->aw->Prop}(hl:Ym b s.heap l xs)(h:Q (.ref s.heap.objs.size) {s with heap:=s.heap.push (Yd b l)}):aX (aS prog w) A (nH<|.ref l) Q E s:=by
 cases b
 .exact fD hl h
 .exact eM hl h
structure ZipSt(b1 b2:Bool)(z TI TO i1 i2 l1 l2:aG)(k:Nat)(f0:ap)(h:bX):Prop where
 zp:mP h z TI TO f0
 ti:i8 h TI (.ref i1) (.ref i2)
 to:∃a b,i8 h TO a b
 s1:Src b1 h i1 l1 k
 s2:Src b2 h i2 l2 k
def wD{b1 b2:Bool}{z TI TO i1 i2 l1 l2:aG}{k:Nat}{xs ys:Array ap}{x y:ap}{Q:ap->aw->Prop}(D:kM z TI TO i1 i2 l1 l2)(Z:ZipSt b1 b2 z TI TO i1 i2 l1 l2 k .none s.heap)(hl1:Ym b1 s.heap l1 xs)(hl2:Ym b2 s.heap l2 ys)(hx:xs[k]?=aa x)(hy:ys[k]?=aa y)
  (hQ:∀h',ZipSt b1 b2 z TI TO i1 i2 l1 l2 (k+1) (fS s.heap.objs.size) h'->i8 h' s.heap.objs.size x y->(∀c o,c∉[z,TO,i1,i2]->s.heap.get? c=aa o->h'.get? c=aa o)->Q (.ref s.heap.objs.size) {s with heap:=h' }) :
  aX (aS prog w) A (dQ.«zip.__next__» #[[.ref z],[]]) (λfin s'=>∃v,fin=.done (.ret v)/\Q v s') E s:=by
 obtain⟨hz,hTI,⟨a,b,hTO⟩,h1,h2⟩:=Z;show aX _ _ (field (.ref z) 2 >>= _) _ _ _;refine ab<|cr hz rfl (x:=.bool ai) rfl ?_;refine ab<|cr hz rfl (x:=.ref TI) rfl<|ab<|dN hTI rfl ?_;refine ab ?_;refine ab<|cr hz rfl (x:=.none) rfl<|au ?_;simp only[if_true];refine ab<|eE<|ab<|cr hz rfl (x:=.ref TO) rfl<|ab<|dO hz (by simp) λh₁ hz₁ hs₁=>?_
 replace hz₁:mP h₁ z TI TO .ellipsis:=by exact hz₁
 refine ab ?_;simp only[iN,mV,gp,kN];refine ab<|ab<|iA ?_;refine ab<|X8 (h1.ext hs₁.extBut D.i1z) (hl1.keep λo e=>hs₁.extBut _ o D.l1z e) hx λh₂ h1₂ hs₂=>au ?_
 have hTO₂:i8 h₂ TO a b:=by exact hs₂.extBut _ _ D.TOi1<|hs₁.extBut _ _ D.TOz hTO
 refine ab<|dN hTO₂ rfl<|ab<|ga hTO₂ λh₃ hTO₃ hs₃=>?_
 replace hTO₃:i8 h₃ TO x b:=by exact hTO₃
 refine ab<|mQ<|au<|ab<|ab<|iA ?_;have to3:∀c o,c≠z->c≠TO->c≠i1->s.heap.get? c=aa o->h₃.get? c=aa o:=λc o c1 c2 c3 e=>hs₃.extBut _ _ c2<|hs₂.extBut _ _ c3<|hs₁.extBut _ _ c1 e
 refine ab<|X8 (h2.keep λo e=>to3 _ o D.i2z D.TOi2.symm D.i12.symm e) (hl2.keep λo e=>to3 _ o D.l2z D.l2TO D.l2i1 e) hy λh₄ h2₄ hs₄=>au ?_
 have hTO₄:i8 h₄ TO x b:=by exact hs₄.extBut _ _ D.TOi2 hTO₃
 refine ab<|dN hTO₄ rfl<|ab<|ga hTO₄ λh₅ hTO₅ hs₅=>?_
 replace hTO₅:i8 h₅ TO x y:=by exact hTO₅
 refine ab<|mQ<|au<|au<|ab<|dN hTO₅ rfl<|ab<|wpAny_newTuple ?_;have hsz:h₅.objs.size=s.heap.objs.size:=by rw[hs₅.1,hs₄.1,hs₃.1,hs₂.1,hs₁.1]
 have to5:=λc o c1 c2 c3 c4 e=>hs₅.extBut _ _ c2<|hs₄.extBut _ _ c4<|to3 c o c1 c2 c3 e
 have hz₅:mP h₅ z TI TO .ellipsis:=by exact hs₅.extBut _ _ D.TOz.symm<|hs₄.extBut _ _ D.i2z.symm<|hs₃.extBut _ _ D.TOz.symm<|hs₂.extBut _ _ D.i1z.symm hz₁
 have h1₅:Src b1 h₅ i1 l1 (k+1):=((h1₂.ext hs₃.extBut D.TOi1.symm).ext hs₄.extBut D.i12).ext hs₅.extBut D.TOi1.symm;have h2₅:Src b2 h₅ i2 l2 (k+1):=h2₄.ext hs₅.extBut D.TOi2.symm;have zl:z<h₅.objs.size:=aF hz₅;refine ab ?_;have hz₆:mP (h₅.push {cls:=.type "tuple",data:=.seq [x,y].toArray}) z TI TO .ellipsis:=by exact aq _ hz₅
 refine ab<|dO hz₆ (by simp) λh₇ hz₇ hs₇=>?_
 replace hz₇:mP h₇ z TI TO (fS h₅.objs.size):=by exact hz₇
 refine dO hz₇ (by simp) λh₈ hz₈ hs₈=>au #[_,rfl,?_]
 replace hz₈:mP h₈ z TI TO (fS h₅.objs.size):=by exact hz₈
 have up:∀c o,c≠z->h₅.get? c=aa o->h₈.get? c=aa o:=λc o c1 e=>by exact hs₈.extBut _ _ c1<|hs₇.extBut _ _ c1<|aq _ e
 have hT₈:i8 h₈ h₅.objs.size x y:=by exact hs₈.extBut _ _ (eD zl)<|hs₇.extBut _ _ (eD zl)<|aI _ rfl
 show Q (.ref h₅.objs.size) _;rw[hsz]at hz₈ hT₈ ⊢;refine hQ h₈ #[hz₈,up _ _ D.TIz<|to5 _ _ D.TIz D.TITO D.TIi1 D.TIi2 hTI,#[x,y,up _ _ D.TOz hTO₅],h1₅.keep λo e=>up _ o D.i1z e,h2₅.keep λo e=>up _ o D.i2z e] hT₈ λc o hc e=>?_
 simp only[aC,bU,or_false,not_or]at hc;exact up c o hc.1<|to5 c o hc.1 hc.2.1 hc.2.2.1 hc.2.2.2 e
def VH{b1 b2:Bool}{z TI TO i1 i2 l1 l2:aG}{k:Nat}{xs ys:Array ap}{Q:Fin->aw->Prop}(hh:A.handled=ae)(D:kM z TI TO i1 i2 l1 l2)(Z:ZipSt b1 b2 z TI TO i1 i2 l1 l2 k .none s.heap)(hl1:Ym b1 s.heap l1 xs)(hl2:Ym b2 s.heap l2 ys)(hend:xs[k]?=ae\/ys[k]?=ae)
  (hE:∀h' e,(∀c o,c∉[z,TO,i1,i2]->s.heap.get? c=aa o->h'.get? c=aa o)->(∃o,h'.get? e=aa o/\o.cls=.type "StopIteration")->E (.ref e) {s with heap:=h' }) :
  aX (aS prog w) A (dQ.«zip.__next__» #[[.ref z],[]]) Q E s:=by
 obtain⟨hz,hTI,⟨a,b,hTO⟩,h1,h2⟩:=Z;have hk:∀{c:aG},c∉[z,TO,i1,i2]->c≠z/\c≠TO/\c≠i1/\c≠i2:=λhc=>by
  simp only[aC,bU,or_false,not_or]at hc;exact hc
 show aX _ _ (field (.ref z) 2 >>= _) _ _ _;refine ab<|cr hz rfl rfl ?_;refine ab<|cr hz rfl (x:=.ref TI) rfl<|ab<|dN hTI rfl ?_;refine ab ?_;refine ab<|cr hz rfl (x:=.none) rfl<|au ?_;simp only[if_true];refine ab<|eE<|ab<|cr hz rfl (x:=.ref TO) rfl<|ab<|dO hz (by simp) λh₁ hz₁ hs₁=>?_
 replace hz₁:mP h₁ z TI TO .ellipsis:=by exact hz₁
 refine ab ?_;simp only[iN,mV,gp,kN];refine ab<|ab<|iA ?_;have l1₁:=hl1.keep λo e=>hs₁.extBut _ o D.l1z e
 cases hx:xs[k]? with
 |none=>
  refine ab<|Qy hh (h1.ext hs₁.extBut D.i1z) l1₁ hx λh₂ e hs₂ he=>?_
  obtain⟨oe,hoe,hce⟩:=he;have hz₂:mP h₂ z TI TO .ellipsis:=by exact hs₂ _ _ D.i1z.symm hz₁
  have hez:e≠z:=λx=>by subst x;rw[hz₂]at hoe;cases hoe;simp at hce
  exact dO hz₂ (by simp) λh₃ _ hs₃=>hE h₃ e (λc o hc x=>hs₃.extBut _ _ (hk hc).1<|hs₂ _ _ (hk hc).2.2.1<|hs₁.extBut _ _ (hk hc).1 x) #[oe,hs₃.extBut _ _ hez hoe,hce]
 |some x=>
  have hy:ys[k]?=ae:=by rcases hend with q|q;rw[hx]at q;cases q;exact q
  refine ab<|X8 (h1.ext hs₁.extBut D.i1z) l1₁ hx λh₂ h1₂ hs₂=>au ?_
  have hTO₂:i8 h₂ TO a b:=by exact hs₂.extBut _ _ D.TOi1<|hs₁.extBut _ _ D.TOz hTO
  refine ab<|dN hTO₂ rfl<|ab<|ga hTO₂ λh₃ hTO₃ hs₃=>?_
  refine ab<|mQ<|au<|ab<|ab<|iA ?_;have to3:∀c o,c≠z->c≠TO->c≠i1->s.heap.get? c=aa o->h₃.get? c=aa o:=λc o c1 c2 c3 e=>hs₃.extBut _ _ c2<|hs₂.extBut _ _ c3<|hs₁.extBut _ _ c1 e
  refine ab<|Qy hh (h2.keep λo e=>to3 _ o D.i2z D.TOi2.symm D.i12.symm e) (hl2.keep λo e=>to3 _ o D.l2z D.l2TO D.l2i1 e) hy λh₄ e hs₄ he=>?_
  obtain⟨oe,hoe,hce⟩:=he;have hz₄:mP h₄ z TI TO .ellipsis:=by exact hs₄ _ _ D.i2z.symm<|hs₃.extBut _ _ D.TOz.symm<|hs₂.extBut _ _ D.i1z.symm hz₁
  have hez:e≠z:=λx=>by subst x;rw[hz₄]at hoe;cases hoe;simp at hce
  exact dO hz₄ (by simp) λh₅ _ hs₅=>hE h₅ e (λc o hc x=>hs₅.extBut _ _ (hk hc).1<|hs₄ _ _ (hk hc).2.2.2<|to3 c o (hk hc).1 (hk hc).2.1 (hk hc).2.2.1 x) #[oe,hs₅.extBut _ _ hez hoe,hce]
def GH{b1 b2:Bool}{z TI TO i1 i2 l1 l2:aG}{k:Nat}{xs ys:Array ap}{x y:ap}{Q:Option ap->aw->Prop}(D:kM z TI TO i1 i2 l1 l2)(Z:ZipSt b1 b2 z TI TO i1 i2 l1 l2 k .none s.heap)(hl1:Ym b1 s.heap l1 xs)(hl2:Ym b2 s.heap l2 ys)(hx:xs[k]?=aa x)(hy:ys[k]?=aa y)
  (hQ:∀h',ZipSt b1 b2 z TI TO i1 i2 l1 l2 (k+1) (fS s.heap.objs.size) h'->i8 h' s.heap.objs.size x y->(∀c o,c∉[z,TO,i1,i2]->s.heap.get? c=aa o->h'.get? c=aa o)->Q (aa<|.ref s.heap.objs.size) {s with heap:=h' }) :
  aX (aS prog w) A (mm<|.ref z) Q E s:=by
 have hT:s.TypeIs (.ref z) "zip":=#[_,Z.zp,rfl];exact ab<|fZ<|cn hT gu<|cM gu hT mD (wD D Z hl1 hl2 hx hy λh' a1 a2 a3=>au<|hQ h' a1 a2 a3)<|l5 _
def W3{b1 b2:Bool}{z TI TO i1 i2 l1 l2:aG}{k:Nat}{xs ys:Array ap}{Q:Option ap->aw->Prop}(hh:A.handled=ae)(D:kM z TI TO i1 i2 l1 l2)(Z:ZipSt b1 b2 z TI TO i1 i2 l1 l2 k .none s.heap)(hl1:Ym b1 s.heap l1 xs)(hl2:Ym b2 s.heap l2 ys)(hend:xs[k]?=ae\/ys[k]?=ae)
  (hQ:∀h',(∀c o,c∉[z,TO,i1,i2]->s.heap.get? c=aa o->h'.get? c=aa o)->Q ae {s with heap:=h' }):aX (aS prog w) A (mm<|.ref z) Q E s:=by
 have hT:s.TypeIs (.ref z) "zip":=#[_,Z.zp,rfl];refine ab<|fZ<|cn hT gu<|cM gu hT mD (VH hh D Z hl1 hl2 hend λh' e hk he=>?_)<|l5 _
 obtain⟨o,ho,hc⟩:=he;exact ab<|fc #[o,ho,hc] isSubtype_stop<|au<|hQ _ hk
noncomputable def zH1(h:bX)(b1:Bool)(l1:aG):bX:=h.push<|Yd b1 l1
noncomputable def zH2(h:bX)(b1 b2:Bool)(l1 l2:aG):bX:=(zH1 h b1 l1).push<|Yd b2 l2
noncomputable def zH3(h:bX)(b1 b2:Bool)(l1 l2:aG):bX:=(zH2 h b1 b2 l1 l2).push {cls:=.type "tuple",data:=.seq [.ref h.objs.size,.ref (zH1 h b1 l1).objs.size].toArray}
noncomputable def zH4(h:bX)(b1 b2:Bool)(l1 l2:aG):bX:=(zH3 h b1 b2 l1 l2).push {cls:=.type "tuple",data:=.seq [.none,.none].toArray}
noncomputable def zH5(h:bX)(b1 b2:Bool)(l1 l2:aG):bX:=(zH4 h b1 b2 l1 l2).push {cls:=.type "zip",data:=.fields [.none,.bool ai,.bool ai,.ref (zH2 h b1 b2 l1 l2).objs.size,.ref (zH3 h b1 b2 l1 l2).objs.size].toArray}
def qE(b1 b2:Bool)(l1 l2:aG)(xs ys:Array ap) :
  nq (dQ.«zip.__new__» #[[.type "zip",.ref l1,.ref l2],[]]) (λ_ R s=>Ym b1 s.heap l1 xs/\Ym b2 s.heap l2 ys/\R (.ok<|.ret<|.ref (zH4 s.heap b1 b2 l1 l2).objs.size) {s with heap:=zH5 s.heap b1 b2 l1 l2}):=
 .of_wp λprog w A R s h=>by
  obtain⟨hp,g,d,tk,os⟩:=s;obtain⟨hl1,hl2,h⟩:=h;have hsub:=sub_zip;have hL1:=hl1;have hL2:Ym b2 (aw.heap #[hp.push<|Yd b1 l1,g,d,tk,os]) l2 ys:=hl2.keep λo e=>aq _ e
  wp_walk using JD hL1,JD hL2
  exact#[_,rfl,h]
def vw{Q:ap->aw->Prop}(hl1:Ym b1 s.heap l1 xs)(hl2:Ym b2 s.heap l2 ys)
  (h:∀h' n,n=s.heap.objs.size->ZipSt b1 b2 (n+4) (n+2) (n+3) n (n+1) l1 l2 0 .none h'->(∀c o,s.heap.get? c=aa o->h'.get? c=aa o)->Q (.ref<|n+4) {s with heap:=h' }) :
  aX (aS prog w) A (call (.type "zip") [.ref l1,.ref l2]) Q E s:=by
 refine callType_new F.called_zip (by decide) (F.typeCall_zip_2 _ _) (F.newCall_zip_2 _ _) (λobj=>F.args_object_init_3 obj _ _) F.entry_zip_new (qE b1 b2 l1 l2 xs ys) #[hl1,hl2,?_]
 have z1:(zH1 s.heap b1 l1).objs.size=s.heap.objs.size+1:=cH ..;have z2:(zH2 s.heap b1 b2 l1 l2).objs.size=s.heap.objs.size+2:=by unfold zH2;rw[cH,z1]
 have z3:(zH3 s.heap b1 b2 l1 l2).objs.size=s.heap.objs.size+3:=by unfold zH3;rw[cH,z2]
 have z4:(zH4 s.heap b1 b2 l1 l2).objs.size=s.heap.objs.size+4:=by unfold zH4;rw[cH,z3]
 have g5:(zH5 s.heap b1 b2 l1 l2).get? (zH4 s.heap b1 b2 l1 l2).objs.size=aa {cls:=.type "zip",data:=.fields [.none,.bool ai,.bool ai,.ref (zH2 s.heap b1 b2 l1 l2).objs.size,.ref (zH3 s.heap b1 b2 l1 l2).objs.size].toArray}:=aI _ rfl;have k4:∀c o,(zH4 s.heap b1 b2 l1 l2).get? c=aa o->(zH5 s.heap b1 b2 l1 l2).get? c=aa o:=λc o e=>aq _ e
 have k3:=λc o e=>k4 c o<|aq _ e
 have k2:=λc o e=>k3 c o<|aq _ e
 have k1:=λc o e=>k2 c o<|aq _ e
 have g4:=k4 _ _<|aI (zH3 s.heap b1 b2 l1 l2) rfl;have g3:=k3 _ _<|aI (zH2 s.heap b1 b2 l1 l2) rfl;have g2:=k2 _ _<|aI (zH1 s.heap b1 l1) rfl;have g1:=k1 _ _<|aI s.heap rfl;rw[z2,z3,z4]at g5;rw[z1,z2]at g3;rw[z3]at g4;rw[z1]at g2;rw[z4];have src:∀b l it,(zH5 s.heap b1 b2 l1 l2).get? it=aa (Yd b l)->Src b (zH5 s.heap b1 b2 l1 l2) it l 0:=λb l it e=>by
  cases b
  .exact#[_,e,rfl,rfl]
  .exact#[_,e,rfl,rfl]
 exact#[#[_,g5,rfl],h _ _ rfl #[g5,g3,#[_,_,g4],src b1 l1 _ g1,src b2 l2 _ g2] λc o e=>k1 c o<|aq _ e]
open Ev (E Sm Fn Bop Cop Ty Bf Mf)
def Xr{X:Cx}{pq:List (aG×eX)}{U:L2.St}{H:Hp}{s:aw}{h':bX}{t':Nat}{ch:List aG}(I:Inv X pq U H s)(k:∀b o,b∉ch->s.heap.get? b=aa o->h'.get? b=aa o)(hf:∀b∈ch,Wt X pq H b):Inv X pq U H {s with heap:=h',toks:=t' }:=by
 have nit:∀b u,H b=aa u->b∉ch:=λb u e z=>by have:=(hf b z).1;rw[e]at this;cases this
 refine I.step (g':=s.gens) (d':=s.drawn) (λb hb=>?_) (λb o _ _ hc e _=>k b o hc e) (λb o _ _ hc e _=>#[o.slots,k b o hc e]) (λ_ _ _ _ n=>n) (λb o hc e=>#[o,k b o hc e]) (λ_ _ e=>e) (λ_ _ _ e=>e) (λb ps e=>#[#[],by rw[e];simp]) (λm hm=>?_) (λb u e=>?_) I.bare
 .exact#[(hf b hb).2.2.2.1,(hf b hb).2.1,(hf b hb).2.2.2.2.1,(hf b hb).2.2.2.2.2]
 .obtain⟨o,es,ep,ho,r⟩:=hm
  exact#[o,es,ep,k _ o (λz=>(hf _ z).2.1 rfl) ho,r]
 .refine(I.hok b u e).stay (λc v hc q=>k c v ?_ q) (λ_ q=>q) λ_ _ q=>q
  rcases hc with z|z
  .rw[z];exact nit b u e
  .exact nit c _ z
def Uv{h:bX}{o o':eX}{b:aG}(e:(h.push o').get? b=aa o)(n:b≠h.objs.size):h.get? b=aa o:=by
 unfold bX.get? bX.push at *;simp only[Array.getElem?_push]at e;rw[T8 n]at e;exact e
def Xg{a b:Nat}(h:a<b\/b<a):(a:aG)≠b:=λe=>by
 have e':=e;omega
def Sq(b:Bool)(K:ao)(H:Hp)(l:aG)(xs:List V):Prop:=match b with
 |true=>SqL K H l xs
 |false=>SqT K H l xs
def YV(I:Inv X pq U H s)(h:Sq b X.K H l xs):∃its:List ap,Vals xs its/\Ym b s.heap l its.toArray:=by
 cases b
 .obtain⟨its,r,p,_⟩:=I.tuple h;exact#[its,r,p]
 .obtain⟨its,r,p,_⟩:=I.list h;exact#[its,r,p.isList]
def GC(I:Inv X pq U H s)(h:Sq b X.K H l xs)(h':Sq b X.K H l ys):xs=ys:=by
 cases b
 .exact I.tuple_inj h h'
 .exact I.list_inj h h'
def Qm(x:Ym b h l xs):l<h.objs.size:=by
 cases b
 .obtain⟨o,ho,_⟩:=x;exact aF ho
 .obtain⟨o,ho,_⟩:=x;exact aF ho
noncomputable def Itz(K:ao)(b1 b2:Bool)(l1 l2:aG):It:=
 #[λi H=>∃xs ys x y,Sq b1 K H l1 xs/\Sq b2 K H l2 ys/\xs[i]?=aa x/\ys[i]?=aa y,
  λi H v H'=>∃T x y,(∀xs,Sq b1 K H l1 xs->xs[i]?=aa x)/\(∀ys,Sq b2 K H l2 ys->ys[i]?=aa y)/\H T=ae/\H'=upd H T (.tup [x,y])/\v=.ref T,
  λi H=>∃xs ys,Sq b1 K H l1 xs/\Sq b2 K H l2 ys/\(xs.length<=i\/ys.length<=i)]
def xM{P:bE}{w:bZ}{K:ao}{elts:List Expr}{kk:Nat}{tp:gD}{b1 b2:Bool}{z TI TO i1 i2 l1 l2:aG}(D:kM z TI TO i1 i2 l1 l2) :
  Turn P w K (.Tuple elts kk tp) (Itz K b1 b2 l1 l2) [z,TI,TO,i1,i2] z (λi h=>ZipSt b1 b2 z TI TO i1 i2 l1 l2 i .none h) where
 mem:=by simp
 obj:=λi h st b hb=>by
  simp only[aC,bU,or_false]at hb;obtain⟨a,c,hTO⟩:=st.to;rcases hb with e|e|e|e|e<;>subst e
  .exact#[_,st.zp,λv q=>by cases q]
  .exact#[_,st.ti,λv q=>by cases q]
  .exact#[_,hTO,λv q=>by cases q]
  .exact st.s1.obj
  .exact st.s2.obj
 keep:=λi h h' st k=>by
  obtain⟨a,c,hTO⟩:=st.to;exact#[k z (by simp) _ st.zp,k TI (by simp) _ st.ti,#[a,c,k TO (by simp) _ hTO],st.s1.keep λo e=>k i1 (by simp) o e,st.s2.keep λo e=>k i2 (by simp) o e]
 item:=by
  intro X hP hw hK hc i pq s U H E I hf st hg;subst hP hw hK;obtain⟨xs,ys,x,y,hq1,hq2,hx,hy⟩:=hg;obtain⟨its,rv,o1⟩:=YV I hq1;obtain⟨its2,rv2,o2⟩:=YV I hq2;obtain⟨u,hu,ru⟩:=rv.get hx;obtain⟨u2,hu2,ru2⟩:=rv2.get hy;refine GH D st o1 o2 (x:=u) (y:=u2) (by simpa using hu) (by simpa using hu2) λh' Z' hT hk=>?_
  have hfree:=I.hok.fresh<|az _;have ltz:∀b∈[z,TI,TO,i1,i2],b≠s.heap.objs.size:=λb hb e=>by
   simp only[aC,bU,or_false]at hb;obtain⟨a,c,hTO⟩:=st.to;rcases hb with q|q|q|q|q<;>subst q
   .exact T7 (aF st.zp) (by rw[e];exact bp _)
   .exact T7 (aF st.ti) (by rw[e];exact bp _)
   .exact T7 (aF hTO) (by rw[e];exact bp _)
   .obtain⟨o,ho,_⟩:=st.s1.obj;exact T7 (aF ho) (by rw[e];exact bp _)
   .obtain⟨o,ho,_⟩:=st.s2.obj;exact T7 (aF ho) (by rw[e];exact bp _)
  have IA:Inv X pq U (upd H s.heap.objs.size<|.tup [x,y]) {s with heap:=s.heap.push {cls:=.type "tuple",data:=.seq [u,u2].toArray},toks:=s.toks}:=
   I.laid (λb o e=>aq _ e) (az _) #[by show 2<=aY;decide,[u,u2],.cons ru<|.cons ru2 .nil,gF _ _]
  have hf2:∀b∈[z,TI,TO,i1,i2],Wt X pq (upd H s.heap.objs.size<|.tup [x,y]) b:=λb hb=>#[by rw[Zl<|ltz b hb];exact(hf b hb).1,(hf b hb).2]
  have IB:Inv X pq U (upd H s.heap.objs.size<|.tup [x,y]) {s with heap:=h',toks:=s.toks}:=by
   refine Xr (s:={s with heap:=s.heap.push {cls:=.type "tuple",data:=.seq [u,u2].toArray},toks:=s.toks}) (ch:=[z,TO,i1,i2]) IA (λb o hb e=>?_) λb hb=>hf2 b (by simp only[aC,bU,or_false]at hb ⊢;rcases hb with q|q|q|q<;>simp[q])
   by_cases hbs:b=s.heap.objs.size
   .subst hbs
    have e':=e;rw[aI _ rfl]at e';cases e';exact hT
   .refine hk b o hb ?_
    have e':=e;have hlt:=aF e';rw[cH]at hlt;exact Uv e' hbs
  refine#[.ref s.heap.objs.size,rfl,wpAny_letOwnedTupleGo_zip Z'.zp λh2 hz2 hs2=>?_]
  have IC:Inv X pq U (upd H s.heap.objs.size<|.tup [x,y]) {s with heap:=h2,toks:=s.toks}:=Xr (s:={s with heap:=h',toks:=s.toks}) (ch:=[z]) IB (λb o hb e=>(hs2.2 b<|by simpa using hb).trans e) λb hb=>hf2 b (by simp only[bm]at hb;simp[hb])
  obtain⟨a,c,hTO⟩:=Z'.to;refine#[.ref s.heap.objs.size,_,IC,rfl,#[_,x,y,λzs hz=>by rw[GC I hz hq1];exact hx,λzs hz=>by rw[GC I hz hq2];exact hy,hfree,rfl,rfl],?_,λb hb=>(hf2 b hb).1]
  exact#[hz2,hs2.extBut _ _ D.TIz Z'.ti,#[a,c,hs2.extBut _ _ D.TOz hTO],Z'.s1.ext hs2.extBut D.i1z,Z'.s2.ext hs2.extBut D.i2z]
 done:=by
  intro X hP hw hK hc i pq s U H E I hf st hg;subst hP hw hK;obtain⟨xs,ys,hq1,hq2,hend⟩:=hg;obtain⟨its,rv,o1⟩:=YV I hq1;obtain⟨its2,rv2,o2⟩:=YV I hq2;have e1:=rv.length;have e2:=rv2.length;refine W3 (I.ok.hd hc) D st o1 o2 (by rcases hend with q|q;exact .inl (by simp;omega);exact .inr<|by simp;omega) λh' hk=>#[rfl,Xr (t':=s.toks) (ch:=[z,TO,i1,i2]) I (λb o hb e=>hk b o hb e) λb hb=>hf b (by simp only[aC,bU,or_false]at hb ⊢;rcases hb with q|q|q|q<;>simp[q])]
 self:=λ_ _ _ _ _ st h=>wpAny_pyIter_zip st.zp h
def Zdd(K:ao)(ta:TA):TI:=λU H R=>ta U H λvs H1=>∃b1 b2 l1 l2,vs=[.ref l1,.ref l2]/\(∃xs,Sq b1 K H1 l1 xs)/\(∃ys,Sq b2 K H1 l2 ys)/\R (Itz K b1 b2 l1 l2) H1
def ZaG{a b:Expr}{ta:TA}{p pos:gD}(hg:Gl X "zip")(hm:X.mg "zip" = ae)(ha:PA X [a,b] ta)(hs:aM [a,b] X.env=[(ai,cV a X.env),(ai,cV b X.env)]:=by rfl)(hs2:aM [b] X.env=[(ai,cV b X.env)]:=by rfl) :
  PI X (.Tuple elts kk tp) (.Call (.Name "zip" p) [a,b] [] pos) (Zdd X.K ta):=by
 intro pq s U H R I h;refine Call_<|Y7 I hg hm (by rfl)<|cX (thn (ha pos pq s U H _ I h) λus s1 #[vs,H1,I1,r1,q1]=>?_) (by rw[hs,hs2])<|by rw[hs2];rfl
 obtain⟨b1,b2,l1,l2,e,⟨xs,hq1⟩,⟨ys,hq2⟩,q⟩:=q1;subst e;cases r1 with
 |cons r rr=>
  cases rr with
  |cons r' rr=>
   cases rr;cases r;cases r';obtain⟨its,rv,o1⟩:=YV I1 hq1;obtain⟨its2,rv2,o2⟩:=YV I1 hq2;have lt1:=Qm o1;have lt2:=Qm o2;refine vw o1 o2 λh' n hn Z hk=>?_
   have I2:=I1.kept (t':=s1.toks) hk
   have q1:(l1:Nat)<n:=by rw[hn];exact lt1
   have q2:(l2:Nat)<n:=by rw[hn];exact lt2
   have D:kM (n+4) (n+2) (n+3) n (n+1) l1 l2:=by constructor<;>first|exact Xg (by omega)|exact Xg<|.inl<|bi q1<|ek n _|exact Xg<|.inl<|bi q2<|ek n _|exact Xg<|.inl q1|exact Xg<|.inl q2
   refine wpAny_pyIter_zip Z.zp #[n+4,[n+4,n+2,n+3,n,n+1],_,_,H1,rfl,I2,xM D,Z,λb hb=>?_,q]
   have hbn:s1.heap.objs.size<=b:=by
    rw[<-hn];simp only[aC,bU,or_false]at hb;rcases hb with e|e|e|e|e<;>rw[e]
    .exact ek n 4
    .exact ek n 2
    .exact ek n 3
    .exact az n
    .exact ek n 1
   exact I1.fpOk hbn<|I1.hok.fresh hbn
def Side(K:ao)(O:Mx)(H:Hp)(wk:List D)(b:Bool)(l:aG):Prop:=∀ρ' H',Lat O H ρ' H'->∃vs,Sq b K H' l vs/\Rq ρ' H' wk vs
def Qk{K:ao}{O:Mx}{H:Hp}{x:D}{v:V}{wk:List D}(hk:O.K=K)(r:Rep O H x v)(h:Pv.Yj x=aa wk):∃b l,v=.ref l/\(∃xs,Sq b K H l xs)/\Side K O H wk b l:=by
 cases x with
 |tup ds=>
  obtain⟨a,xs,rfl,hp,rs⟩:=r.tup';cases h;exact#[ai,a,rfl,#[xs,SqT.of hp],λρ' H' f=>#[xs,SqT.of (f.keep a _ hp λ_ z=>by cases z),rs.lat f]]
 |lst ds=>
  obtain⟨a,xs,rfl,hp,hx,rs⟩:=r.lst';cases h;exact#[aj,a,rfl,#[xs,SqL.of hp],λρ' H' f=>#[xs,SqL.of<|f.keep a _ hp λ_ _=>hx,rs.lat f]]
 |scr ns=>
  obtain⟨a,rfl,hp⟩:=r.scr';cases h;rw[hk]at hp;refine#[aj,a,rfl,#[_,hp.sq],λρ' H' f=>#[_,?_,Rq.ints ns]]
  rcases hp with⟨o,hp⟩|hp
  .exact .inl<|.inr #[o,f.keep a _ hp λ_ z=>by cases z]
  .exact .inr hp
 |_=>exact Ev.nos h
def wI{K:ao}{O:Mx}{H:Hp}{v w:List D}{b1 b2:Bool}{l1 l2:aG}(h1:Side K O H v b1 l1)(h2:Side K O H w b2 l2):WRel K O H ((v.zip w).map λp=>.tup [p.1,p.2]) (Itz K b1 b2 l1 l2) where
 go:=λi ρ' S' H' f st hi=>by
  obtain⟨xs,q1,r1⟩:=h1 ρ' H' f;obtain⟨ys,q2,r2⟩:=h2 ρ' H' f;have hi':i<nI v.length w.length:=by simpa using hi
  obtain⟨x,g1,rx⟩:=r1.get (ag (show i<v.length by omega))
  obtain⟨y,g2,ry⟩:=r2.get (ag (show i<w.length by omega))
  refine#[#[xs,ys,x,y,q1,q2,g1,g2],λu H'' #[T,x',y',e1,e2,hT,eH,eu]=>?_]
  subst eH eu;have ex:=(e1 xs q1).symm.trans g1;have ey:=(e2 ys q2).symm.trans g2;cases ex;cases ey;refine#[Zp hT,st.fresh hT,λd hd=>?_]
  have hz:(v.zip w)[i]?=aa (v[i],w[i]):=hG.mpr #[ag (by omega),ag<|by omega]
  rw[aK,hz]at hd;cases hd;exact YB Zo<|Rq.cons (rx.mono<|Zp hT)<|Rq.cons (ry.mono<|Zp hT) Rq.nil
 stop:=λρ' S' H' f st=>by
  obtain⟨xs,q1,r1⟩:=h1 ρ' H' f;obtain⟨ys,q2,r2⟩:=h2 ρ' H' f;refine#[xs,ys,q1,q2,?_];show xs.length<=((v.zip w).map λp=>Pv.V.tup [p.1,p.2]).length\/_
  rw[r1.length,r2.length,ay,gv];omega
section
variable{X:Cx}{xw:Nat->Hp->Prop}{C:Calls}{a b:Expr}{i j:E}{pos p tp:gD}{elts:List Expr}{kk:Nat}
def j5(hm:X.mg "zip" = ae)(ha:CA X xw C [a,b] [i,j])(hg:Gl X "zip")(hs:aM [a,b] X.env=[(ai,cV a X.env),(ai,cV b X.env)])(hs2:aM [b] X.env=[(ai,cV b X.env)]) :
  CW X xw C (.Tuple elts kk tp) (.Call (.Name "zip" p) [a,b] [] pos) (.zip i j):=.mk <|
 PI.imp (ZaG hg hm ha.h hs hs2) λU H Q #[O,l,S,st,lr,h]=>jL st lr h λx y S1 ρ1 H1 v u st1 rv ru h1=>by
  cases e1:Pv.Yj x with
  |none=>rw[e1]at h1;exact False.elim h1
  |some v1=>
   cases e2:Pv.Yj y with
   |none=>rw[e1,e2]at h1;exact False.elim h1
   |some v2=>
    rw[e1,e2]at h1;obtain⟨b1,l1,rfl,s1,d1⟩:=Qk st1.hk rv e1;obtain⟨b2,l2,rfl,s2,d2⟩:=Qk st1.hk ru e2;exact#[b1,b2,l1,l2,rfl,s1,s2,End.ok (rep:=WRel X.K) h1 st1<|wI d1 d2]
end
def Uw(hh:A.handled=ae)(b:Bool)(it l:aG)(hne:l≠it)(xs:Array ap) :
  Draws prog w A it [it,l] xs.size (λi v=>xs[i]?=aa v) (λi h=>Src b h it l i/\Ym b h l xs) where
 live:=λ_ _ st=>let #[o,ho,_]:=st.1.obj;#[o,ho]
 frame:=λ_ _ _ st hk=>#[st.1.keep λo e=>hk it (by simp) o e,st.2.keep λo e=>hk l (by simp) o e]
 item:=λi s Q E hi st hQ=>X8 st.1 st.2 (bh hi) λh' hit' hs'=>hQ _ h' s.toks (bh hi) #[hit',st.2.keep λo e=>hs'.extBut _ o hne e] hs'
 done:=λs Q E st hE=>Qy hh st.1 st.2 (i9<|az _) hE
noncomputable def Ite(K:ao)(b:Bool)(l:aG):It:=
 #[λi H=>∃xs x,Sq b K H l xs/\xs[i]?=aa x,
  λi H v H'=>∃T x,(∀xs,Sq b K H l xs->xs[i]?=aa x)/\H T=ae/\H'=upd H T (.tup [.int i,x])/\v=.ref T,
  λi H=>∃xs,Sq b K H l xs/\xs.length=i]
def xc{P:bE}{w:bZ}{K:ao}{elts:List Expr}{kk:Nat}{tp:gD}{b:Bool}{e it l:aG}(hei:e≠it)(hle:l≠e)(hli:l≠it) :
  Turn P w K (.Tuple elts kk tp) (Ite K b l) [e,it] e (λi h=>(∃old,IsEnum h e it i old)/\Src b h it l i) where
 mem:=by simp
 obj:=λi h st c hc=>by
  simp only[aC,bU,or_false]at hc;obtain⟨⟨old,he⟩,hs⟩:=st;rcases hc with q|q<;>subst q
  .exact#[_,he,λv q=>by cases q]
  .exact hs.obj
 keep:=λi h h' st k=>by
  obtain⟨⟨old,he⟩,hs⟩:=st;exact#[#[old,k e (by simp) _ he],hs.keep λo q=>k it (by simp) o q]
 item:=by
  intro X hP hw hK hc i pq s U H E I hf st hg;subst hP hw hK;obtain⟨xs,x,hq,hx⟩:=hg;obtain⟨its,rv,o1⟩:=YV I hq;obtain⟨⟨old,he⟩,hs⟩:=st;obtain⟨u,hu,ru⟩:=rv.get hx;have hlt:i<its.toArray.size:=by
   have:=(a8.mp hu).1
   simpa using this
  have hh:X.A.in1.handled=ae:=I.ok.hd hc;refine wpAny_pyNext_enum_itemD (Uw hh b it l hli its.toArray) he #[hs,o1] hlt hei (by simp only[aC,bU,or_false,not_or];exact#[hei,Ne.symm hle]) λx' h' tk hP ho hst hT hsz hk=>?_
  have ex:x'=u:=by
   have:its.toArray[i]?=aa u:=by simpa using hu
   rw[this]at hP;exact(af hP).symm
  subst ex;have hfree:=I.hok.fresh<|az _;have ltz:∀c∈[e,it],c≠s.heap.objs.size:=λc hc q=>by
   simp only[aC,bU,or_false]at hc;rcases hc with z|z<;>subst z
   .exact T7 (aF he) (by rw[q];exact bp _)
   .obtain⟨o,ho,_⟩:=hs.obj;exact T7 (aF ho) (by rw[q];exact bp _)
  have IA:Inv X pq U (upd H s.heap.objs.size<|.tup [.int i,x]) {s with heap:=s.heap.push {cls:=.type "tuple",data:=.seq [.int i tk,x'].toArray},toks:=tk+1}:=
   I.laid (λc o q=>aq _ q) (az _) #[by show 2<=aY;decide,[.int i tk,x'],.cons #[tk,rfl]<|.cons ru .nil,gF _ _]
  have hf2:∀c∈[e,it],Wt X pq (upd H s.heap.objs.size<|.tup [.int i,x]) c:=λc hc=>#[by rw[Zl<|ltz c hc];exact(hf c hc).1,(hf c hc).2]
  have IB:Inv X pq U (upd H s.heap.objs.size<|.tup [.int i,x]) {s with heap:=h',toks:=tk+1}:=by
   refine Xr (s:={s with heap:=s.heap.push {cls:=.type "tuple",data:=.seq [.int i tk,x'].toArray},toks:=tk+1}) (ch:=[e,it]) IA (λc o hc q=>?_) hf2
   by_cases hcs:c=s.heap.objs.size
   .subst hcs
    have q':=q;rw[aI _ rfl]at q';cases q';exact hT
   .simp only[aC,bU,or_false,not_or]at hc
    exact hk c o hc.1 hc.2<|Uv q hcs
  refine#[.ref s.heap.objs.size,rfl,wpAny_letOwnedTupleGo_enum ho λh2 he2 hs2=>?_]
  have IC:Inv X pq U (upd H s.heap.objs.size<|.tup [.int i,x]) {s with heap:=h2,toks:=tk+1}:=Xr (s:={s with heap:=h',toks:=tk+1}) (ch:=[e]) IB (λc o hc q=>(hs2.2 c<|by simpa using hc).trans q) λc hc=>hf2 c (by simp only[bm]at hc;simp[hc])
  refine#[.ref s.heap.objs.size,_,IC,rfl,#[_,x,λzs hz=>by rw[GC I hz hq];exact hx,hfree,rfl,rfl],#[#[x',by simpa using he2],hst.1.ext hs2.extBut<|Ne.symm hei],λc hc=>(hf2 c hc).1]
 done:=by
  intro X hP hw hK hc i pq s U H E I hf st hg;subst hP hw hK;obtain⟨xs,hq,hend⟩:=hg;obtain⟨its,rv,o1⟩:=YV I hq;obtain⟨⟨old,he⟩,hs⟩:=st;have e1:=rv.length;have hh:X.A.in1.handled=ae:=I.ok.hd hc;have en:i=its.toArray.size:=by simp;lia
  subst en;exact wpAny_pyNext_enum_endD (Uw hh b it l hli its.toArray) he #[hs,o1] λh' hx=>#[rfl,Xr (t':=s.toks) (ch:=[e,it]) I (λc o hc q=>hx c o (λz=>hc<|by simp[z]) q) hf]
 self:=λ_ _ _ _ _ st h=>by
  obtain⟨⟨old,he⟩,_⟩:=st;exact l6 he h
section
variable{prog:bE}{w:bZ}{A:cQ}{E:ap->aw->Prop}{s:aw}
def wc(l:aG)(items:Array ap)(n:Nat)(dct:Option aG)(sl:Array (Option ap)) :
  nq (dQ.«enumerate.__new__» #[[.type "enumerate",.ref l],[]]) (λ_ R s=>s.heap.get? l=aa {cls:=.type "tuple",dict:=dct,data:=.seq items n,slots:=sl}/\
   R (.ok<|.ret<|.ref (s.heap.push<|Yd ai l).objs.size) {s with heap:=(s.heap.push<|Yd ai l).push {cls:=.type "enumerate",data:=.fields [.none,.bool ai,.ref s.heap.objs.size,fS 0,.none,.none].toArray}}):=
 .of_wp λprog w A R s h=>by
  obtain⟨hp,g,d,tk,os⟩:=s;obtain⟨hl,h⟩:=h;have hsub:=sub_enumerate;have hL:bX.IsTuple (aw.heap #[hp,g,d,tk,os]) l items:=#[_,hl,rfl,n,rfl]
  wp_walk using fw hl;refine wpAny_stack_any λst=>au ?_;split
  .rename_i c _ _ _ _ _;cases(c == ap.type "enumerate")<;>(wp_walk using fw hl,fD hL;exact#[_,rfl,h])
  .wp_walk using fw hl,fD hL;exact#[_,rfl,h]
def yI{Q:ap->aw->Prop}(hL:Ym b s.heap l xs)
  (h:∀h' n,n=s.heap.objs.size->IsEnum h' (n+1) n 0 .none->Src b h' n l 0->(∀c o,s.heap.get? c=aa o->h'.get? c=aa o)->Q (.ref<|n+1) {s with heap:=h' }):aX (aS prog w) A (call (.type "enumerate") [.ref l]) Q E s:=by
 cases b with
 |true=>exact call_enumerate_list hL λh' a1 a2 _ a4=>h h' _ rfl a1 a2 a4
 |false=>
  obtain⟨⟨c,dct,dt,sl⟩,hl,hc,n,hd⟩:=hL;simp only at hc hd;subst hc hd;refine callType_new F.called_enumerate (by decide) (F.typeCall_enumerate_1 _) (F.newCall_enumerate_1 _) (λobj=>F.args_object_init_2 obj _) F.entry_enumerate_new (wc l xs n dct sl) #[hl,?_]
  have hz:(s.heap.push<|Yd ai l).objs.size=s.heap.objs.size+1:=cH ..;have g2:=aI (s.heap.push<|Yd ai l) (o:={cls:=.type "enumerate",data:=.fields [.none,.bool ai,.ref s.heap.objs.size,fS 0,.none,.none].toArray}) rfl;have g1:((s.heap.push<|Yd ai l).push {cls:=.type "enumerate",data:=.fields [.none,.bool ai,.ref s.heap.objs.size,fS 0,.none,.none].toArray}).get? s.heap.objs.size=aa (Yd ai l):=aq _<|aI _ rfl;rw[hz]at g2 ⊢;exact#[#[_,g2,rfl],h _ _ rfl g2 #[_,g1,rfl,rfl] λc o q=>aq _<|aq _ q]
end
def Zcq(K:ao)(ta:TA):TI:=λU H R=>ta U H λvs H1=>∃b l,vs=[.ref l]/\(∃xs,Sq b K H1 l xs)/\R (Ite K b l) H1
def u7{a:Expr}{ta:TA}{p pos:gD}(hg:Gl X "enumerate")(hm:X.mg "enumerate" = ae)(ha:PA X [a] ta)(hs:aM [a] X.env=[(ai,cV a X.env)]:=by rfl):PI X (.Tuple elts kk tp) (.Call (.Name "enumerate" p) [a] [] pos) (Zcq X.K ta):=by
 intro pq s U H R I h;refine Call_<|Y7 I hg hm (by rfl)<|cX (thn (ha pos pq s U H _ I h) λus s1 #[vs,H1,I1,r1,q1]=>?_) hs rfl
 obtain⟨b,l,e,⟨xs,hq⟩,q⟩:=q1;subst e;cases r1 with
 |cons r rr=>
  cases rr;cases r;obtain⟨its,rv,o1⟩:=YV I1 hq;have lt1:=Qm o1;refine yI o1 λh' n hn he hs' hk=>?_
  have I2:=I1.kept (t':=s1.toks) hk
  have q1:(l:Nat)<n:=by rw[hn];exact lt1
  refine l6 he #[n+1,[n+1,n],_,_,H1,rfl,I2,xc (Xg<|.inr<|iM n) (Xg<|.inl<|dv q1)<|Xg<|.inl q1,#[#[_,he],hs'],λc hc=>?_,q]
  have hbn:s1.heap.objs.size<=c:=by
   rw[<-hn];simp only[aC,bU,or_false]at hc;rcases hc with e|e<;>rw[e]
   .exact im n
   .exact az n
  exact I1.fpOk hbn<|I1.hok.fresh hbn
def ww{lo:Int}{n i:Nat}(h:i<n):(Pv.ZT lo n)[i]?=aa (.int<|lo+i):=by
 unfold Pv.ZT;rw[aK,c6 h];rfl
def yA{K:ao}{O:Mx}{H:Hp}{w:List D}{b:Bool}{l:aG}(h1:Side K O H w b l):WRel K O H (((Pv.ZT 0 w.length).zip w).map λp=>.tup [p.1,p.2]) (Ite K b l) where
 go:=λi ρ' S' H' f st hi=>by
  obtain⟨xs,q1,r1⟩:=h1 ρ' H' f;have hi':i<w.length:=by
   rw[ay,gv,VX]at hi;lia
  obtain⟨x,g1,rx⟩:=r1.get<|ag hi';refine#[#[xs,x,q1,g1],λu H'' #[T,x',e1,hT,eH,eu]=>?_]
  subst eH eu;have ex:=(e1 xs q1).symm.trans g1;cases ex;refine#[Zp hT,st.fresh hT,λd hd=>?_]
  have hz:((Pv.ZT 0 w.length).zip w)[i]?=aa (.int<|0+i,w[i]):=hG.mpr #[ww hi',ag hi'];rw[aK,hz]at hd;cases hd;refine YB Zo<|Rq.cons ?_<|Rq.cons (rx.mono<|Zp hT) Rq.nil;rw[show((0:Int)+i)=i by lia]
  exact ZI _
 stop:=λρ' S' H' f st=>by
  obtain⟨xs,q1,r1⟩:=h1 ρ' H' f;refine#[xs,q1,?_];show xs.length=(((Pv.ZT 0 w.length).zip w).map λp=>Pv.V.tup [p.1,p.2]).length
  rw[ay,gv,VX,r1.length];lia
section
variable{X:Cx}{xw:Nat->Hp->Prop}{C:Calls}{a b:Expr}{i j:E}{pos p tp:gD}{elts:List Expr}{kk:Nat}
def uh(hm:X.mg "enumerate" = ae)(ha:CA X xw C [a] [i])(hg:Gl X "enumerate")(hs:aM [a] X.env=[(ai,cV a X.env)]) :
  CW X xw C (.Tuple elts kk tp) (.Call (.Name "enumerate" p) [a] [] pos) (.enum i):=.mk <|
 PI.imp (u7 hg hm ha.h hs) λU H Q #[O,l,S,st,lr,h]=>jC st lr h λx S1 ρ1 H1 v st1 r h1=>by
  cases e1:Pv.Yj x with
  |none=>rw[e1]at h1;exact False.elim h1
  |some wk=>
   rw[e1]at h1;obtain⟨b1,l1,rfl,s1,d1⟩:=Qk st1.hk r e1;exact#[b1,l1,rfl,s1,End.ok (rep:=WRel X.K) h1 st1<|yA d1]
end
def xg(hh:A.handled=ae)(b:Bool)(it l:aG)(hne:l≠it)(xs:Array ap) :
  Walks prog w A it [it,l] [it] xs.size (λi v=>xs[i]?=aa v) (λi h=>Src b h it l i/\Ym b h l xs):=by
 cases b
 .exact Walks.tuple hh it l hne xs
 .exact Walks.list hh it l hne xs
def uZ{b:Bool}{h:bX}{l:aG}:Src b (h.push<|Yd b l) h.objs.size l 0:=by
 cases b
 .exact#[_,aI _ rfl,rfl,rfl]
 .exact#[_,aI _ rfl,rfl,rfl]
end Sd
namespace Tq
open PySem PyProof.Rows
noncomputable def Z1:Bool->bN->Array bN->Nat->Nat->Nat->StateT bJ mj (Option Nat):=sortPriv% PySem.Builtin.gallop
def J9(lf:Bool)(k:bN)(ar:Array bN)(bs n hn:Nat):Z1 lf k ar bs n hn=(do
 let bd (i:Nat):StateT bJ mj (Option Bool):=do
  let x <-fg ar (bs+i)
  if lf then lt' x k else return (<-lt' k x).map (!·)
 let mut la:=0
 let mut of:=1
 let mut lo:=0
 let mut hi:=0
 let aa rt <-bd hn|return ae
 if rt then
  let mx:=n-hn
  for _ in [0:n] do
   if of>=mx then break
   let aa mo <-bd (hn+of)|return ae
   if !mo then break
   la:=of
   of:=2*of+1
  lo:=hn+la+1
  hi:=hn+nI of mx
 else
  let mx:=hn+1
  for _ in [0:n] do
   if of>=mx then break
   let aa fo <-bd (hn-of)|return ae
   if fo then break
   la:=of
   of:=2*of+1
  lo:=hn+1-nI of mx
  hi:=hn-la
 for _ in [0:n] do
  if lo>=hi then break
  let m:=lo+(hi-lo) / 2
  let aa mo <-bd m|return ae
  if mo then lo:=m+1 else hi:=m
 return aa hi):=rfl
noncomputable abbrev BT:=Option (Option Nat)×Nat×Nat
def UT{F:Nat->BT->StateT bJ mj (ForInStep BT)}{n:Nat}{τ:bJ}{B:Nat->Bool}{Q:BT->bJ->Prop}
  (hF:∀i lo hi (Q:ForInStep BT->bJ->Prop),hi<=n->(lo>=hi->Q (.done (ae,lo,hi)) τ)->(lo<hi->Q (.yield (ae,if B (lo+(hi-lo) / 2)=aj then(lo+(hi-lo) / 2+1,hi)else(lo,lo+(hi-lo) / 2))) τ)->kC (aS prog w) A E s (F i (ae,lo,hi)) Q τ)
  (mono:∀i j,i<=j->j<n->B j=aj->B i=aj)(hq:∀r,r<=n->(∀i,i<n->(B i=aj↔i<r))->Q (ae,r,r) τ){lo hi:Nat}(h1:lo<=hi)(h2:hi<=n)(h3:∀i,i<lo->B i=aj)(h4:∀i,hi<=i->i<n->B i=ai) :
  kC (aS prog w) A E s (kK [0:n] ((ae,lo,hi):BT) F) Q τ:=by
 have fin:∀lo,lo<=n->(∀i,i<lo->B i=aj)->(∀i,lo<=i->i<n->B i=ai)->Q (ae,lo,lo) τ:=λlo a2 a4 a5=>hq _ a2 λi hi=>by
  refine#[λhB=>?_,a4 i]
  by_cases c:i<lo
  .exact c
  .rw[a5 i (by omega) hi]at hB;cases hB
 refine b9
  (I:=λi c st'=>st'=τ/\c.1=ae/\c.2.1<=c.2.2/\c.2.2<=n/\c.2.2-c.2.1+i<=n/\(∀i,i<c.2.1->B i=aj)/\∀i,c.2.2<=i->i<n->B i=ai) ?_ ?_ #[rfl,rfl,h1,h2,by dsimp only;omega,h3,h4]
 .rintro i ⟨r,lo,hi⟩ st' hi0 hin ⟨rfl,rfl,a1,a2,a3,a4,a5⟩
  dsimp only at a1 a2 a3 a4 a5 ⊢
  refine hF i lo hi _ a2 (λc=>?_) λc=>?_
  .have e:lo=hi:=by omega
   subst e;exact fin lo a2 a4 a5
  .cases hm:B (lo+(hi-lo) / 2)with
   |true=>
    simp only[if_true];exact#[trivial,trivial,by omega,a2,by omega,λj hj=>mono j _ (by omega) (by omega) hm,a5]
   |false=>
    simp only[bW,if_false];refine#[trivial,trivial,by omega,by omega,by omega,a4,λj hj hn=>?_]
    cases hj2:B j with|false=>rfl|true=>rw[mono _ j hj hn hj2]at hm;cases hm
 .rintro ⟨r,lo,hi⟩ st' ⟨rfl,rfl,a1,a2,a3,a4,a5⟩
  dsimp only at a1 a2 a3 a4 a5 ⊢
  have e:lo=hi:=by omega
  subst e;exact fin lo a2 a4 a5
def Zby{lf:Bool}{k:bN}{ar:Array bN}{bs n hn:Nat}{τ:bJ}{B:Nat->Bool}{Q:Option Nat->bJ->Prop}(hh:hn<n)
  (hb:∀i,i<n->∀Q:Option Bool->bJ->Prop,Q (aa<|B i) τ->kC (aS prog w) A E s (do
   let x <-fg ar (bs+i)
   if lf then lt' x k else return (<-lt' k x).map (!·)) Q τ)
  (mono:∀i j,i<=j->j<n->B j=aj->B i=aj)(hq:∀r,r<=n->(∀i,i<n->(B i=aj↔i<r))->Q (aa r) τ):kC (aS prog w) A E s (Z1 lf k ar bs n hn) Q τ:=by
 have no:∀{i j},i<=j->j<n->B i=ai->B j=ai:=λ{i j} h hj hi=>by
  cases q:B j with|false=>rfl|true=>rw[mono i j h hj q]at hi;cases hi
 rw[J9]
 dsimp only
 refine aE<|hb hn hh _ ?_
 dsimp only
 cases h0:B hn with
 |true=>
  rw[T9 rfl];refine aE (d9 (b9
   (I:=λi (c:BT) st'=>st'=τ/\c.1=ae/\c.2.1<c.2.2/\i<c.2.2/\hn+c.2.1<n/\B (hn+c.2.1)=aj)
   (Q:=λ(c:BT) st'=>st'=τ/\c.1=ae/\c.2.1<c.2.2/\hn+c.2.1<n/\B (hn+c.2.1)=aj/\(n<=hn+c.2.2\/B (hn+c.2.2)=ai)) ?_ ?_ #[rfl,rfl,by decide,by decide,hh,h0]) ?_)
  .rintro i ⟨r,la,f⟩ st' _ hin ⟨rfl,rfl,a1,a2,a3,a4⟩
   dsimp only at a1 a2 a3 a4 ⊢
   by_cases c:f>=n-hn
   .rw[T9 c]
    exact aN #[rfl,rfl,a1,a3,a4,.inl<|by dsimp only;omega]
   .rw[T8 c]
    refine aE<|hb _ (by omega) _ ?_
    dsimp only
    cases hm:B (hn+f)with|true=>exact aN #[rfl,rfl,by dsimp only;omega,by dsimp only;omega,by dsimp only;omega,hm]|false=>exact aN #[rfl,rfl,a1,a3,a4,.inr hm]
  .rintro ⟨r,la,f⟩ st' ⟨rfl,rfl,a1,a2,a3,a4⟩
   dsimp only at a1 a2 a3 a4 ⊢
   exact#[rfl,rfl,a1,a3,a4,.inl<|by omega]
  .rintro ⟨r,la,f⟩ st' ⟨rfl,rfl,a1,a3,a4,a5⟩
   dsimp only at a1 a3 a4 a5 ⊢
   refine aE (UT (n:=n) (B:=B) (λi lo hi Q h1 h2 h3=>by
    by_cases c:lo>=hi
    .simp only[T9 c];exact aN<|h2 c
    .simp only[T8 c]
     refine aE<|hb _ (by omega) _ ?_
     have h3:=h3 (by omega)
     cases hm:B (lo+(hi-lo) / 2)<;>(rw[hm]at h3;exact aN h3)) mono (λr hr hB=>aN<|hq r hr hB) (by omega) (by omega) (λi hi=>mono i _ (by omega) a3 a4) λi h1 h2=>?_)
   rcases a5 with a5|a5
   .omega
   .exact no (by omega) h2 a5
 |false=>
  rw[T8<|by simp]
  refine aE (d9 (b9
   (I:=λi (c:BT) st'=>st'=τ/\c.1=ae/\c.2.1<c.2.2/\i<c.2.2/\c.2.1<=hn/\B (hn-c.2.1)=ai)
   (Q:=λ(c:BT) st'=>st'=τ/\c.1=ae/\c.2.1<c.2.2/\c.2.1<=hn/\B (hn-c.2.1)=ai/\(hn<c.2.2\/B (hn-c.2.2)=aj)) ?_ ?_ #[rfl,rfl,by decide,by decide,cR _,h0]) ?_)
  .rintro i ⟨r,la,f⟩ st' _ hin ⟨rfl,rfl,a1,a2,a3,a4⟩
   dsimp only at a1 a2 a3 a4 ⊢
   by_cases c:f>=hn+1
   .rw[T9 c]
    exact aN #[rfl,rfl,a1,a3,a4,.inl<|by dsimp only;omega]
   .rw[T8 c]
    refine aE<|hb _ (by omega) _ ?_
    dsimp only
    cases hm:B (hn-f)with|true=>exact aN #[rfl,rfl,a1,a3,a4,.inr hm]|false=>exact aN #[rfl,rfl,by dsimp only;omega,by dsimp only;omega,by dsimp only;omega,hm]
  .rintro ⟨r,la,f⟩ st' ⟨rfl,rfl,a1,a2,a3,a4⟩
   dsimp only at a1 a2 a3 a4 ⊢
   exact#[rfl,rfl,a1,a3,a4,.inl<|by omega]
  .rintro ⟨r,la,f⟩ st' ⟨rfl,rfl,a1,a3,a4,a5⟩
   dsimp only at a1 a3 a4 a5 ⊢
   refine aE (UT (n:=n) (B:=B) (λi lo hi Q h1 h2 h3=>by
    by_cases c:lo>=hi
    .simp only[T9 c];exact aN<|h2 c
    .simp only[T8 c]
     refine aE<|hb _ (by omega) _ ?_
     have h3:=h3 (by omega)
     cases hm:B (lo+(hi-lo) / 2)<;>(rw[hm]at h3;exact aN h3)) mono (λr hr hB=>aN<|hq r hr hB) (by omega) (by omega) (λi hi=>?_) λi h1 h2=>no h1 h2 a4)
   rcases a5 with a5|a5
   .omega
   .exact mono i _ (by omega) (by omega) a5
abbrev Srt(R:B->B->Prop)(l:List B):Prop:=l.Pairwise R
abbrev lr(rk:B->Nat):B->B->Prop:=λx y=>rk x<rk y
abbrev gr(rk:B->Nat):B->B->Prop:=λx y=>rk y<rk x
structure ML(R:B->B->Prop)(T o ra rb:List B):Prop where
 perm:(o++ra++rb).Perm T
 so:Srt R o
 sa:Srt R ra
 sb:Srt R rb
 lt:∀x∈o,∀y,y∈ra\/y∈rb->R x y
def ML.as{T o xs ra rb:List B}(h:ML R T o (xs++ra) rb)(hx:∀x∈xs,∀y∈rb,R x y):ML R T (o++xs) ra rb:=by
 obtain⟨s1,s2,s3⟩:=ee.mp h.sa;refine#[by simpa[bB]using h.perm,ee.mpr #[h.so,s1,λx hx y hy=>h.lt x hx y<|.inl<|dr _ hy],s2,h.sb,λx hx2 y hy=>?_]
 rcases cg.mp hx2 with z|z
 .exact h.lt x z y<|hy.imp (bx _) id
 .rcases hy with hy|hy
  .exact s3 x z y hy
  .exact hx x z y hy
def ML.swap{T o ra rb:List B}(h:ML R T o ra rb):ML R T o rb ra:=by
 refine#[List.Perm.trans ?_ h.perm,h.so,h.sb,h.sa,λx hx y hy=>h.lt x hx y hy.symm]
 rw[bB,bB];exact List.perm_append_comm.append_left _
def ML.bs(h:ML R T o ra (xs++rb))(hx:∀x∈xs,∀y∈ra,R x y):ML R T (o++xs) ra rb:=(h.swap.as hx).swap
def ML.fin{T o ra:List B}(h:ML R T o ra []):(o++ra).Perm T/\Srt R (o++ra):=by
 have h':=ML.as (ra:=[]) (by simpa using h) λx _ y hy=>by cases hy
 exact#[by simpa using h'.perm,h'.so]
def ML.ne(h:ML R T o ra rb)(hT:(T.map rk).Nodup)(hx:x∈ra)(hy:y∈rb):rk x≠rk y:=by
 have n:=((h.perm.map rk).nodup_iff).mpr hT;rw[bV,ef]at n;exact n.2.2 _ (dC<|bx _ hx) _<|dC hy
structure Od(prog:bE)(w:bZ)(A:cQ)(E:ap->aw->Prop)(s:aw)(κ:eT)(In:bN->Prop)(rk:bN->Nat):Prop where
 ask:∀{x y:bN}{τ:bJ}{Q:Option Bool->bJ->Prop},In x->In y->kindOf τ=κ->Q (aa<|al<|rk x<rk y) τ->kC (aS prog w) A E s (lt' x y) Q τ
def Sg(τ st':bJ):Prop:=kindOf st'=kindOf τ/\aZ st'=aZ τ/\a9 st'=a9 τ/\fz st'=fz τ
section
variable{In:bN->Prop}
def Zz{Q:bN->bJ->Prop}(h:ar[i]?=aa x)(hq:Q x τ):kC (aS prog w) A E s (fg ar i) Q τ:=by
 rw[elem'_eq,h];exact aN hq
def Xp{Q:Unit->bJ->Prop}(hq:Q () τ):kC (aS prog w) A E s (liftM (mn t):StateT bJ mj Unit) Q τ:=wpS_lift<|eE #[rfl,hq]
theorem zf(O:Od prog w A E s κ In rk){Q:Option Nat->bJ->Prop}(hk:kindOf τ=κ)(ik:In k)(hh:h0<n)(hn:i+n<=ar.size)(ia:∀x∈ar.toList,In x)
  (so:Srt (lr rk) ((ar.toList.drop i).take n))(ne:∀x∈(ar.toList.drop i).take n,rk x≠rk k)
  (hq:∀r,r<=n->(∀x∈((ar.toList.drop i).take n).take r,rk x<rk k)->(∀x∈((ar.toList.drop i).take n).drop r,rk k<rk x)->Q (aa r) τ):kC (aS prog w) A E s (Z1 lf k ar i n h0) Q τ:=by
 generalize hl:(ar.toList.drop i).take n=l at so ne hq;have ll:l.length=n:=by rw[<-hl,bw,bK,aH];lia
 have at_:∀j (hj:j<n),ar[i+j]?=aa (l[j]'(by lia)):=λj hj=>by
  have:ar.toList[i+j]?=aa (l[j]'(by lia)):=by
   subst hl;rw[eN,eO];exact ag _
  simpa using this
 have mem:∀j (hj:j<n),In (l[j]'(by lia)):=λj hj=>ia _ (by
  have h2:∀x∈l,x∈ar.toList:=λx hx=>by rw[<-hl]at hx;exact bP<|cI hx
  exact h2 _<|aV _)
 have hB:∀j (hj:j<n),((l[j]?).any λx=>al<|rk x<rk k)=al (rk (l[j]'(by lia))<rk k):=λj hj=>by
  rw[ag<|by lia];rfl
 refine Zby (B:=λj=>(l[j]?).any λx=>al<|rk x<rk k) hh (λj hj Q hQ=>?_) (λa b hab hb h=>?_) λr hr hr2=>hq r hr (λx hx=>?_) λx hx=>?_
 .rw[hB j hj]at hQ
  refine aE<|Zz (at_ j hj) ?_;cases lf with
  |true=>exact O.ask (mem j hj) ik hk hQ
  |false=>
   refine aE<|O.ask ik (mem j hj) hk<|aN ?_;have e:(!decide (rk k<rk (l[j]'(by lia))))=al (rk (l[j]'(by lia))<rk k):=by
    have:=ne _<|aV (n:=j)<|by lia
    by_cases c:rk k<rk (l[j]'(by lia))
    .rw[T5 c,T4<|by lia];rfl
    .rw[T4 c,T5<|by lia];rfl
   show Q (aa<|!decide (rk k<rk (l[j]'(by lia)))) τ
   rw[e];exact hQ
 .rw[hB b hb]at h
  rw[hB a<|by lia]
  rcases Nat.lt_or_eq_of_le hab with c|c
  .have:=bT.mp so a b (by lia) (by lia) c
   have h:=T6 h;exact T5 (by lia)
  .subst c;exact h
 .obtain⟨j,hj,rfl⟩:=b8 hx
  rw[bw]at hj;have:=(hr2 j<|by lia).mpr (by lia)
  rw[hB j<|by lia]at this
  rw[eN];exact T6 this
 .obtain⟨j,hj,rfl⟩:=b8 hx
  rw[bK]at hj;rw[eO];have h1:=hr2 (r+j) (by lia)
  rw[hB _<|by lia]at h1
  have h2:=ne _<|aV (n:=r+j)<|by lia
  have h3:¬rk (l[r+j]'(by lia))<rk k:=λz=>T7 (h1.mp<|T5 z) (by lia)
  lia
end
noncomputable abbrev KA:=Array bN
noncomputable abbrev SM:=StateT bJ mj
noncomputable def WV:KA->KA->SM KA:=sortPriv% PySem.Builtin.mergeLo
noncomputable def VY:Nat->SM Unit:=sortPriv% PySem.Builtin.setMinGallop
def xW(g:Nat):VY g=modify λs=>nt (kindOf s) (aZ s) (a9 s) g (fz s):=rfl
noncomputable abbrev dn(a b o:KA)(i j:Nat):KA:=o++a.extract i a.size++b.extract j b.size
noncomputable abbrev ls(a b o:KA)(i j:Nat):KA:=o++b.extract j b.size++a.extract i a.size
noncomputable abbrev T2:=Option KA×KA×Nat×Nat×Nat×Nat
noncomputable abbrev T3:=Option KA×KA×Nat×Nat×Nat×Nat×Nat
noncomputable abbrev T1:=Option KA×KA×Nat×Nat×Nat
noncomputable def F1(a b:KA)(g:Nat)(c:T2):SM (ForInStep T2):=do
 let o:=c.2.1
 let i:=c.2.2.1
 let j:=c.2.2.2.1
 let ca:=c.2.2.2.2.1
 let cb:=c.2.2.2.2.2
 let aa t <-lt' (<-fg b j) (<-fg a i)|return .done (aa<|dn a b o i j,o,i,j,ca,cb)
 if t then
  let o:=o.push<|<-fg b j
  let j:=j+1
  if j == b.size then return .done (aa<|dn a b o i j,o,i,j,0,cb+1)
  if cb+1>=g then return .done (ae,o,i,j,0,cb+1)
  return .yield (ae,o,i,j,0,cb+1)
 else
  let o:=o.push<|<-fg a i
  let i:=i+1
  if i+1 == a.size then return .done (aa<|ls a b o i j,o,i,j,ca+1,0)
  if ca+1>=g then return .done (ae,o,i,j,ca+1,0)
  return .yield (ae,o,i,j,ca+1,0)
noncomputable def G3(a b:KA)(g ca cb i:Nat)(o:KA)(j:Nat):SM (ForInStep T3):=do
 let o:=o.push<|<-fg a i
 let i:=i+1
 if i+1 == a.size then return .done (aa<|ls a b o i j,o,i,j,g,ca,cb)
 if ca<7&&cb<7 then return .done (ae,o,i,j,g,ca,cb)
 return .yield (ae,o,i,j,g,ca,cb)
noncomputable def G2(a b:KA)(g ca cb j:Nat)(o:KA)(i:Nat):SM (ForInStep T3):=do
 let o:=o.push<|<-fg b j
 let j:=j+1
 if j == b.size then return .done (aa<|dn a b o i j,o,i,j,g,ca,cb)
 let aa k <-Z1 aj (<-fg a i) b j (b.size-j) 0|return .done (aa<|dn a b o i j,o,i,j,g,ca,cb)
 if k>0 then
  let o:=o++b.extract j (j+k)
  let j:=j+k
  if j == b.size then return .done (aa<|dn a b o i j,o,i,j,g,ca,k)
  else G3 a b g ca k i o j
 else G3 a b g ca k i o j
noncomputable def G1(a b:KA)(o:KA)(i j ca cb g:Nat):SM (ForInStep T3):=do
 VY g
 let aa k <-Z1 ai (<-fg b j) a i (a.size-i) 0|return .done (aa<|dn a b o i j,o,i,j,g,ca,cb)
 if k>0 then
  let o:=o++a.extract i (i+k)
  let i:=i+k
  if i+1 == a.size then return .done (aa<|ls a b o i j,o,i,j,g,k,cb)
  else if i == a.size then return .done (aa<|dn a b o i j,o,i,j,g,k,cb)
  else G2 a b g k cb j o i
 else G2 a b g k cb j o i
noncomputable def F2(a b:KA)(c:T3):SM (ForInStep T3):=
 if c.2.2.2.2.1>1 then G1 a b c.2.1 c.2.2.1 c.2.2.2.1 c.2.2.2.2.2.1 c.2.2.2.2.2.2 (c.2.2.2.2.1-1)
 else G1 a b c.2.1 c.2.2.1 c.2.2.2.1 c.2.2.2.2.2.1 c.2.2.2.2.2.2 c.2.2.2.2.1
noncomputable def F0(a b:KA)(c:T1):SM (ForInStep T1):=do
 let d <-kK [0:a.size+b.size] ((ae,c.2.1,c.2.2.1,c.2.2.2.1,0,0):T2) λ_ d=>F1 a b c.2.2.2.2 d
 gT d.1 (λ_=>do
  mn "list.sort.gallop"
  let e <-kK [0:a.size+b.size] ((ae,d.2.1,d.2.2.1,d.2.2.2.1,c.2.2.2.2+1,d.2.2.2.2.1,d.2.2.2.2.2):T3) λ_ d=>F2 a b d
  gT e.1 (λ_=>do
   VY (e.2.2.2.2.1+1)
   cT (.yield (ae,e.2.1,e.2.2.1,e.2.2.2.1,e.2.2.2.2.1+1))) λr=>cT<|.done (aa r,e.2.1,e.2.2.1,e.2.2.2.1,e.2.2.2.2.1)) λr=>cT<|.done (aa r,d.2.1,d.2.2.1,d.2.2.2.1,c.2.2.2.2)
def QD(a b:KA):WV a b=(do
 mn "list.sort.merge-lo"
 let y <-fg b 0
 if 1 == b.size then return dn a b #[y] 0 1
 if 0+1 == a.size then return ls a b #[y] 0 1
 let τ <-get
 let c <-kK [0:a.size+b.size] ((ae,#[y],0,1,gallopOf τ):T1) λ_ c=>F0 a b c
 gT c.1 (λ_=>mR "internal:list.sort.merge-bound") λr=>cT r):=rfl
def Xt(a:KA)(i:Nat):(a.extract i a.size).toList=a.toList.drop i:=by
 rw[gc,fj,<-aH];exact cx (by rw[bK];exact az _)
def zX(a:KA)(i k:Nat):(a.extract i<|i+k).toList=(a.toList.drop i).take k:=by
 rw[gc,fj,Nat.add_sub_cancel_left]
def ZO{a:KA}{i:Nat}(h:i<a.size):a.toList.drop i=a[i]::a.toList.drop (i+1):=by
 rw[bS<|by simpa using h];rfl
def td{B:Type}(l:List B)(n r:Nat):(l.drop n).take r++l.drop (n+r)=l.drop n:=by rw[<-gU,cU]
def ZC{a:KA}{i:Nat}(h:i<a.size):a[i]?=aa a[i]:=bh h
section
variable{prog:bE}{w:bZ}{A:cQ}{E:ap->aw->Prop}{s:aw}{κ:eT}{In:bN->Prop}{rk:bN->Nat}
def Zx{B:Type}{c:Prop}[Decidable c]{x y:SM B}{Q:B->bJ->Prop}{τ:bJ}(h1:c->kC (aS prog w) A E s x Q τ)(h2:¬c->kC (aS prog w) A E s y Q τ):kC (aS prog w) A E s (if c then x else y) Q τ:=by
 by_cases h:c
 .rw[T9 h];exact h1 h
 .rw[T8 h];exact h2 h
theorem zC(O:Od prog w A E s κ In rk){Q:Option Nat->bJ->Prop}(hk:kindOf τ=κ)(ik:In k)(hi:i<ar.size)(ia:∀x∈ar.toList,In x)(so:Srt (lr rk) (ar.toList.drop i))(ne:∀x∈ar.toList.drop i,rk x≠rk k)
  (hq:∀r,i+r<=ar.size->(∀x∈(ar.toList.drop i).take r,rk x<rk k)->(∀x∈ar.toList.drop (i+r),rk k<rk x)->Q (aa r) τ):kC (aS prog w) A E s (Z1 lf k ar i (ar.size-i) 0) Q τ:=by
 have e:(ar.toList.drop i).take (ar.size-i)=ar.toList.drop i:=cx (by rw[bK,aH];exact az _)
 refine zf O hk ik (Nat.sub_pos_of_lt hi) (lP<|Nat.add_sub_cancel'<|gC hi) ia (e.symm▸so) (e.symm▸ne) λr h1 h2 h3=>?_
 rw[e]at h2 h3;rw[gU]at h3;exact hq r (by lia) h2 h3
structure Mg(κ:eT)(In:bN->Prop)(rk:bN->Nat)(a b:KA)(T:List bN):Prop where
 nd:(T.map rk).Nodup
 ia:∀x∈a.toList,In x
 ib:∀x∈b.toList,In x
 last:∀y∈b.toList,∀x∈a.toList.drop (a.size-1),rk y<rk x
def Res(rk:bN->Nat)(T:List bN)(r:KA):Prop:=r.toList.Perm T/\Srt (lr rk) r.toList
abbrev Lo(rk:bN->Nat)(a b:KA)(T:List bN)(o:KA)(i j:Nat):Prop:=ML (lr rk) T o.toList (a.toList.drop i)<|b.toList.drop j
structure Iv(rk:bN->Nat)(a b:KA)(T:List bN)(o:KA)(i j:Nat):Prop where
 m:Lo rk a b T o i j
 hi:i+1<a.size
 hj:j<b.size
 z:o.size=i+j
variable{a b:KA}{T:List bN}
def UV(h:Lo rk a b T o i j)(hj:(j == b.size)=aj):Res rk T (dn a b o i j):=by
 have hj:=beq_iff_eq.mp hj;unfold Lo at h;rw[hj,<-aH,dG]at h;have:=h.fin;unfold Res dn;rw[cc,cc,Xt,Xt,hj,<-aH,dG,cz];exact this
def jn(h:Lo rk a b T o i j)(hi:(i == a.size)=aj):Res rk T (dn a b o i j):=by
 have hi:=beq_iff_eq.mp hi;unfold Lo at h;rw[hi,<-aH,dG]at h;have:=h.swap.fin;unfold Res dn;rw[cc,cc,Xt,Xt,hi,<-aH,dG,cz];exact this
theorem Qh(G:Mg κ In rk a b T)(h:Lo rk a b T o i j)(hi:(i+1 == a.size)=aj):Res rk T (ls a b o i j):=by
 have hi:=beq_iff_eq.mp hi;have e:a.size-1=i:=by lia
 have:=(ML.bs (by rw[cz];exact h) λy hy x hx=>G.last y (bP hy) x<|by rw[e];exact hx).fin
 unfold Res ls;rw[cc,cc,Xt,Xt];exact this
def wm(h:Lo rk a b T o i j)(hj:j<b.size)(hy:∀x∈a.toList.drop i,rk b[j]<rk x):Lo rk a b T (o.push b[j]) i (j+1):=by
 unfold Lo at h ⊢;rw[ZO hj]at h;rw[eP];exact ML.bs h λx hx y hy'=>by rw[bm.mp hx];exact hy y hy'
def jW(h:Lo rk a b T o i j)(hi:i<a.size)(hx:∀y∈b.toList.drop j,rk a[i]<rk y):Lo rk a b T (o.push a[i]) (i+1) j:=by
 unfold Lo at h ⊢;rw[ZO hi]at h;rw[eP];exact ML.as h λx hx' y hy'=>by rw[bm.mp hx'];exact hx y hy'
def zb(h:Srt (lr rk) (x::l))(hx:rk y<rk x):∀z∈x::l,rk y<rk z:=λz hz=>by
 rcases aC.mp hz with rfl|hz
 .exact hx
 .exact cO hx<|(be.mp h).1 z hz
def Vg(h:m<n)(q:¬(m+1 == n)=aj):m+1<n:=fE h λz=>q<|beq_iff_eq.mpr z
theorem ZbR(O:Od prog w A E s κ In rk)(G:Mg κ In rk a b T){g ca cb:Nat}{r0:Option KA}{τ:bJ}{Q:ForInStep T2->bJ->Prop}(hk:kindOf τ=κ)(I:Iv rk a b T o i j)
  (hd:∀r c,Res rk T r->Q (.done (aa r,c)) τ)(hb:∀o' i' j' ca cb,Iv rk a b T o' i' j'->o'.size=o.size+1->Q (.done (ae,o',i',j',ca,cb)) τ/\Q (.yield (ae,o',i',j',ca,cb)) τ):kC (aS prog w) A E s (F1 a b g (r0,o,i,j,ca,cb)) Q τ:=by
 have hi:=dy I.hi;have ha:a[i]∈a.toList.drop i:=by rw[ZO hi];exact am ..
 have hb':b[j]'I.hj∈b.toList.drop j:=by rw[ZO I.hj];exact am ..
 have sa:=I.m.sa;have sb:=I.m.sb;rw[ZO hi]at sa;rw[ZO I.hj]at sb;refine aE<|Zz (ZC I.hj)<|aE<|Zz (ZC hi)<|aE<|O.ask (G.ib _<|bP hb') (G.ia _<|bP ha) hk ?_;by_cases c:rk (b[j]'I.hj)<rk a[i]
 .rw[T5 c]
  refine aE<|Zz (ZC I.hj) ?_;have m:=wm I.m I.hj (by rw[ZO hi];exact zb sa c)
  have z:(o.push<|b[j]'I.hj).size=o.size+1:=dB ..;refine Zx (λq=>aN<|hd _ _<|UV m q) λq=>?_
  have h:=hb _ _ _ 0 (cb+1) #[m,I.hi,Vg I.hj q,by rw[z,I.z];lia] z
  exact Zx (λ_=>aN h.1) λ_=>aN h.2
 .rw[T4 c]
  refine aE<|Zz (ZC hi) ?_;have c':=fE (eZ c)<|I.m.ne G.nd ha hb';have m:=jW I.m hi (by rw[ZO I.hj];exact zb sb c')
  have z:(o.push a[i]).size=o.size+1:=dB ..;refine Zx (λq=>aN<|hd _ _<|Qh G m q) λq=>?_
  have h:=hb _ _ _ (ca+1) 0 #[m,Vg I.hi q,I.hj,by rw[z,I.z];lia] z
  exact Zx (λ_=>aN h.1) λ_=>aN h.2
theorem Sg.trans(h:Sg s1 s2)(k:Sg s2 s3):Sg s1 s3:=#[k.1.trans h.1,k.2.1.trans h.2.1,k.2.2.1.trans h.2.2.1,k.2.2.2.trans h.2.2.2]
def WK{Q:Unit->bJ->Prop}(h:∀st',Sg τ st'->Q () st'):kC (aS prog w) A E s (VY g) Q τ:=by
 rw[xW];exact eG<|h _ #[rfl,rfl,rfl,rfl]
section
variable(O:Od prog w A E s κ In rk)(G:Mg κ In rk a b T)
include O G
theorem jw{g ca cb:Nat}{τ:bJ}(m:Lo rk a b T o i j)(hi:i+1<a.size)(hj:j<b.size)(z:o.size=i+j)(hx:∀y∈b.toList.drop j,rk a[i]<rk y)
  (hd:∀r c,Res rk T r->Q (.done (aa r,c)) τ)(hb:∀o' i' j' g ca cb,Iv rk a b T o' i' j'->o'.size=o.size+1->Q (.done (ae,o',i',j',g,ca,cb)) τ/\Q (.yield (ae,o',i',j',g,ca,cb)) τ):kC (aS prog w) A E s (G3 a b g ca cb i o j) Q τ:=by
 have hi':=dy hi;refine aE<|Zz (ZC hi') ?_;have m:=jW m hi' hx;have z':(o.push a[i]).size=o.size+1:=dB ..;refine Zx (λq=>aN<|hd _ _<|Qh G m q) λq=>?_
 have h:=hb _ _ _ g ca cb #[m,Vg hi q,hj,by rw[z',z];lia] z'
 exact Zx (λ_=>aN h.1) λ_=>aN h.2
theorem jz{g ca cb:Nat}{τ:bJ}(hk:kindOf τ=κ)(m:Lo rk a b T o i j)(hi:i+1<a.size)(hj:j<b.size)(z:o.size=i+j)(hy:∀x∈a.toList.drop i,rk b[j]<rk x)
  (hd:∀r c,Res rk T r->Q (.done (aa r,c)) τ)(hb:∀o' i' j' g ca cb,Iv rk a b T o' i' j'->o.size<o'.size->Q (.done (ae,o',i',j',g,ca,cb)) τ/\Q (.yield (ae,o',i',j',g,ca,cb)) τ):kC (aS prog w) A E s (G2 a b g ca cb j o i) Q τ:=by
 have hi':=dy hi;refine aE<|Zz (ZC hj) ?_;have m:=wm m hj hy;have z':(o.push b[j]).size=o.size+1:=dB ..;refine Zx (λq=>aN<|hd _ _<|UV m q) λq=>?_
 have hj:=Vg hj q;have ha:a[i]∈a.toList.drop i:=by rw[ZO hi'];exact am ..
 refine aE<|Zz (ZC hi')<|aE<|zC O hk (G.ia _<|bP ha) hj G.ib m.sb (λy hy=>(m.ne G.nd ha hy).symm) λr hr h1 h2=>?_
 refine Zx (λ_=>?_) λc=>?_
 .have m2:Lo rk a b T (o.push b[j]++b.extract (j+1) (j+1+r)) i (j+1+r):=by
   unfold Lo;rw[cc,zX];refine ML.bs ?_ λy hy x hx=>?_
   .rw[td];exact m
   .have sa:=m.sa
    rw[ZO hi']at sa hx;exact zb sa (h1 y hy) x hx
  have z2:(o.push b[j]++b.extract (j+1) (j+1+r)).size=o.size+1+r:=by rw[fL,z',fF];lia
  refine Zx (λq=>aN<|hd _ _<|UV m2 q) λq=>?_
  have hj2:=fE hr λz=>q<|beq_iff_eq.mpr z
  exact jw O G m2 hi hj2 (by rw[z2,z];lia) h2 hd λo' i' j' g ca cb I e=>hb o' i' j' g ca cb I (by lia)
 .have e:r=0:=by lia
  subst e;exact jw O G m hi hj (by rw[z',z];lia) h2 hd λo' i' j' g ca cb I e=>hb o' i' j' g ca cb I (by lia)
theorem jv{g ca cb:Nat}{τ:bJ}(hk:kindOf τ=κ)(I:Iv rk a b T o i j)
  (hd:∀r c st',Sg τ st'->Res rk T r->Q (.done (aa r,c)) st')(hb:∀o' i' j' g ca cb st',Sg τ st'->Iv rk a b T o' i' j'->o.size<o'.size->Q (.done (ae,o',i',j',g,ca,cb)) st'/\Q (.yield (ae,o',i',j',g,ca,cb)) st'):kC (aS prog w) A E s (G1 a b o i j ca cb g) Q τ:=by
 obtain⟨m,hi,hj,z⟩:=I;have hi':=dy hi;have hb':b[j]∈b.toList.drop j:=by rw[ZO hj];exact am ..
 refine aE<|WK λst' sg=>aE<|Zz (ZC hj)<|aE<|zC O (sg.1.trans hk) (G.ib _<|bP hb') hi' G.ia m.sa (λx hx=>m.ne G.nd hx hb') λr hr h1 h2=>?_
 refine Zx (λ_=>?_) λc=>?_
 .have m2:Lo rk a b T (o++a.extract i (i+r)) (i+r) j:=by
   unfold Lo;rw[cc,zX];refine ML.as ?_ λx hx y hy=>?_
   .rw[td];exact m
   .have sb:=m.sb
    rw[ZO hj]at sb hy;exact zb sb (h1 x hx) y hy
  have z2:(o++a.extract i (i+r)).size=o.size+r:=by rw[fL,fF];lia
  refine Zx (λq=>aN<|hd _ _ st' sg<|Qh G m2 q) λq=>Zx (λq=>aN<|hd _ _ st' sg<|jn m2 q) λq2=>?_
  have q2:i+r≠a.size:=λz=>q2<|beq_iff_eq.mpr z
  exact jz O G (sg.1.trans hk) m2 (Vg (by lia) q) hj (by rw[z2,z];lia) h2 (λr c=>hd r c st' sg) λo' i' j' g ca cb I e=>hb o' i' j' g ca cb st' sg I (by lia)
 .have e:r=0:=by lia
  subst e;exact jz O G (sg.1.trans hk) m hi hj z h2 (λr c=>hd r c st' sg) λo' i' j' g ca cb I e=>hb o' i' j' g ca cb st' sg I (by lia)
theorem Zcn{g ca cb:Nat}{r0:Option KA}{τ:bJ}(hk:kindOf τ=κ)(I:Iv rk a b T o i j)
  (hd:∀r c st',Sg τ st'->Res rk T r->Q (.done (aa r,c)) st')(hb:∀o' i' j' g ca cb st',Sg τ st'->Iv rk a b T o' i' j'->o.size<o'.size->Q (.done (ae,o',i',j',g,ca,cb)) st'/\Q (.yield (ae,o',i',j',g,ca,cb)) st'):kC (aS prog w) A E s (F2 a b (r0,o,i,j,g,ca,cb)) Q τ:=by
 exact Zx (λ_=>jv O G hk I hd hb) λ_=>jv O G hk I hd hb
theorem Zb8{Q:ForInStep T1->bJ->Prop}(hk:kindOf τ=κ)(I:Iv rk a b T o i j)
  (hd:∀r c st',Sg τ st'->Res rk T r->Q (.done (aa r,c)) st')(hy:∀o' i' j' g st',Sg τ st'->Iv rk a b T o' i' j'->o.size<o'.size->Q (.yield (ae,o',i',j',g)) st'):kC (aS prog w) A E s (F0 a b (r0,o,i,j,g)) Q τ:=by
 refine aE (d9 (b9
  (I:=λx (c:T2) st'=>st'=τ/\c.1=ae/\Iv rk a b T c.2.1 c.2.2.1 c.2.2.2.1/\o.size+x<=c.2.1.size)
  (Q:=λ(c:T2) st'=>st'=τ/\((∃r,c.1=aa r/\Res rk T r)\/c.1=ae/\Iv rk a b T c.2.1 c.2.2.1 c.2.2.2.1/\o.size<c.2.1.size)) ?_ ?_ #[rfl,rfl,I,az _]) ?_)
 .rintro x ⟨r,o',i',j',ca,cb⟩ st' _ _ ⟨rfl,rfl,I',hz⟩
  exact ZbR O G hk I' (λr c h=>#[rfl,.inl #[r,rfl,h]]) λo2 i2 j2 ca cb I2 e=>#[#[rfl,.inr #[rfl,I2,by dsimp only at hz ⊢;lia]],rfl,rfl,I2,by dsimp only at hz ⊢;lia]
 .rintro ⟨r,o',i',j',ca,cb⟩ st' ⟨rfl,rfl,I',hz⟩
  have:=I'.hi;have:=I'.hj;have:=I'.z;lia
 .rintro ⟨r,o',i',j',ca,cb⟩ st' ⟨rfl,⟨r',rfl,h⟩|⟨rfl,I',hz⟩⟩
  .exact aN<|hd _ _ _ #[rfl,rfl,rfl,rfl] h
  .dsimp only at I' hz
   refine aE (Xp (aE (d9 (b9
    (I:=λx (c:T3) st''=>Sg st' st''/\c.1=ae/\Iv rk a b T c.2.1 c.2.2.1 c.2.2.2.1/\o'.size+x<=c.2.1.size)
    (Q:=λ(c:T3) st''=>Sg st' st''/\((∃r,c.1=aa r/\Res rk T r)\/c.1=ae/\Iv rk a b T c.2.1 c.2.2.1 c.2.2.2.1/\o'.size<c.2.1.size)) ?_ ?_ #[#[rfl,rfl,rfl,rfl],rfl,I',az _]) ?_)))
   .rintro x ⟨r,o2,i2,j2,g,ca,cb⟩ st2 _ _ ⟨sg,rfl,I2,hz2⟩
    dsimp only at I2 hz2
    exact Zcn O G (sg.1.trans hk) I2 (λr c st3 s3 h=>#[sg.trans s3,.inl #[r,rfl,h]]) λo3 i3 j3 g ca cb st3 s3 I3 e=>#[#[sg.trans s3,.inr #[rfl,I3,by dsimp only;lia]],sg.trans s3,rfl,I3,by dsimp only;lia]
   .rintro ⟨r,o2,i2,j2,g,ca,cb⟩ st2 ⟨sg,rfl,I2,hz2⟩
    have:=I2.hi;have:=I2.hj;have:=I2.z;lia
   .rintro ⟨r,o2,i2,j2,g,ca,cb⟩ st2 ⟨sg,⟨r',rfl,h⟩|⟨rfl,I2,hz2⟩⟩
    .exact aN<|hd _ _ _ sg h
    .exact aE<|WK λst3 s3=>aN<|hy _ _ _ _ _ (sg.trans s3) I2<|cO hz hz2
theorem J5{τ:bJ}{Q:KA->bJ->Prop}(hk:kindOf τ=κ)(ha:0<a.size)(hb:0<b.size)(sa:Srt (lr rk) a.toList)(sb:Srt (lr rk) b.toList)(hT:(a.toList++b.toList).Perm T)(h0:∀x∈a.toList,rk b[0]<rk x)
  (hq:∀r st',Sg τ st'->Res rk T r->Q r st'):kC (aS prog w) A E s (WV a b) Q τ:=by
 rw[QD];refine aE<|Xp<|aE<|Zz (ZC hb) ?_;have m0:Lo rk a b T #[] 0 0:=#[by simpa using hT,.nil,by simpa using sa,by simpa using sb,λx hx=>by cases hx]
 have m:=wm m0 hb (by simpa using h0)
 have sg0:Sg τ τ:=#[rfl,rfl,rfl,rfl];refine Zx (λq=>aN<|hq _ _ sg0<|UV m q) λq1=>Zx (λq=>aN<|hq _ _ sg0<|Qh G m q) λq2=>aE (fM (aE (d9 (b9
  (I:=λx (c:T1) st''=>Sg τ st''/\c.1=ae/\Iv rk a b T c.2.1 c.2.2.1 c.2.2.2.1/\x<=c.2.1.size)
  (Q:=λ(c:T1) st''=>Sg τ st''/\∃r,c.1=aa r/\Res rk T r) ?_ ?_ #[sg0,rfl,#[m,Vg ha q2,Vg hb q1,rfl],cR _]) ?_)))
 .rintro x ⟨r,o,i,j,g⟩ st2 _ _ ⟨sg,rfl,I,hz⟩
  dsimp only at I hz
  exact Zb8 O G (sg.1.trans hk) I (λr c st3 s3 h=>#[sg.trans s3,r,rfl,h]) λo3 i3 j3 g st3 s3 I3 e=>#[sg.trans s3,rfl,I3,by dsimp only;lia]
 .rintro ⟨r,o,i,j,g⟩ st2 ⟨sg,rfl,I,hz⟩
  have:=I.hi;have:=I.hj;have:=I.z;lia
 .rintro ⟨r,o,i,j,g⟩ st2 ⟨sg,r',rfl,h⟩
  exact aN<|hq _ _ sg h
end
end
noncomputable def WZ:KA->KA->SM KA:=sortPriv% PySem.Builtin.mergeHi
noncomputable abbrev dh(a b o:KA)(i j:Nat):KA:=a.extract 0 i++b.extract 0 j++o.reverse
noncomputable abbrev fh(a b o:KA)(i j:Nat):KA:=b.extract 0 j++a.extract 0 i++o.reverse
noncomputable abbrev U1:=Option KA×Nat×Nat×KA×Nat
noncomputable abbrev U2:=Option KA×Nat×Nat×KA×Nat×Nat
noncomputable abbrev U3:=Option KA×Nat×Nat×KA×Nat×Nat×Nat
noncomputable def H1(a b:KA)(g:Nat)(c:U2):SM (ForInStep U2):=do
 let i:=c.2.1
 let j:=c.2.2.1
 let o:=c.2.2.2.1
 let ca:=c.2.2.2.2.1
 let cb:=c.2.2.2.2.2
 let aa t <-lt' (<-fg b (j-1)) (<-fg a (i-1))|return .done (aa<|dh a b o i j,i,j,o,ca,cb)
 if t then
  let i:=i-1
  let o:=o.push<|<-fg a i
  if i == 0 then return .done (aa<|dh a b o i j,i,j,o,ca+1,0)
  if ca+1>=g then return .done (ae,i,j,o,ca+1,0)
  return .yield (ae,i,j,o,ca+1,0)
 else
  let j:=j-1
  let o:=o.push<|<-fg b j
  if j == 1 then return .done (aa<|fh a b o i j,i,j,o,0,cb+1)
  if cb+1>=g then return .done (ae,i,j,o,0,cb+1)
  return .yield (ae,i,j,o,0,cb+1)
noncomputable def K3(a b:KA)(g ca cb i:Nat)(o:KA)(j:Nat):SM (ForInStep U3):=do
 let i:=i-1
 let o:=o.push<|<-fg a i
 if i == 0 then return .done (aa<|dh a b o i j,i,j,o,g,ca,cb)
 if ca<7&&cb<7 then return .done (ae,i,j,o,g,ca,cb)
 return .yield (ae,i,j,o,g,ca,cb)
noncomputable def K2(a b:KA)(g ca cb j:Nat)(o:KA)(i:Nat):SM (ForInStep U3):=do
 let j:=j-1
 let o:=o.push<|<-fg b j
 if j == 1 then return .done (aa<|fh a b o i j,i,j,o,g,ca,cb)
 let aa t <-Z1 aj (<-fg a (i-1)) b 0 j (j-1)|return .done (aa<|dh a b o i j,i,j,o,g,ca,cb)
 if j-t>0 then
  let o:=o++(b.extract t j).reverse
  if t == 1 then return .done (aa<|fh a b o i t,i,t,o,g,ca,j-t)
  else if t == 0 then return .done (aa<|dh a b o i t,i,t,o,g,ca,j-t)
  else K3 a b g ca (j-t) i o t
 else K3 a b g ca (j-t) i o j
noncomputable def K1(a b:KA)(o:KA)(i j ca cb g:Nat):SM (ForInStep U3):=do
 VY g
 let aa t <-Z1 ai (<-fg b (j-1)) a 0 i (i-1)|return .done (aa<|dh a b o i j,i,j,o,g,ca,cb)
 if i-t>0 then
  let o:=o++(a.extract t i).reverse
  if t == 0 then return .done (aa<|dh a b o t j,t,j,o,g,i-t,cb)
  else K2 a b g (i-t) cb j o t
 else K2 a b g (i-t) cb j o i
noncomputable def H2(a b:KA)(c:U3):SM (ForInStep U3):=
 if c.2.2.2.2.1>1 then K1 a b c.2.2.2.1 c.2.1 c.2.2.1 c.2.2.2.2.2.1 c.2.2.2.2.2.2 (c.2.2.2.2.1-1)
 else K1 a b c.2.2.2.1 c.2.1 c.2.2.1 c.2.2.2.2.2.1 c.2.2.2.2.2.2 c.2.2.2.2.1
noncomputable def TT(n:Nat)(f1:Nat->U2->SM (ForInStep U2))(f2:U3->SM (ForInStep U3))(c:U1):SM (ForInStep U1):=do
 let d <-kK [0:n] ((ae,c.2.1,c.2.2.1,c.2.2.2.1,0,0):U2) λ_ d=>f1 c.2.2.2.2 d
 gT d.1 (λ_=>do
  mn "list.sort.gallop"
  let e <-kK [0:n] ((ae,d.2.1,d.2.2.1,d.2.2.2.1,c.2.2.2.2+1,d.2.2.2.2.1,d.2.2.2.2.2):U3) λ_ d=>f2 d
  gT e.1 (λ_=>do
   VY (e.2.2.2.2.1+1)
   cT (.yield (ae,e.2.1,e.2.2.1,e.2.2.2.1,e.2.2.2.2.1+1))) λr=>cT<|.done (aa r,e.2.1,e.2.2.1,e.2.2.2.1,e.2.2.2.2.1)) λr=>cT<|.done (aa r,d.2.1,d.2.2.1,d.2.2.2.1,c.2.2.2.2)
def JN(a b:KA):WZ a b=(do
 mn "list.sort.merge-hi"
 let x <-fg a (a.size-1)
 if a.size-1 == 0 then return dh a b #[x] (a.size-1) b.size
 if b.size == 1 then return fh a b #[x] (a.size-1) b.size
 let τ <-get
 let c <-kK [0:a.size+b.size] ((ae,a.size-1,b.size,#[x],gallopOf τ):U1) λ_ c=>TT (a.size+b.size) (H1 a b) (H2 a b) c
 gT c.1 (λ_=>mR "internal:list.sort.merge-bound") λr=>cT r):=rfl
def wd{a:KA}{t i:Nat}:(a.extract t i).toList=(a.toList.take i).drop t:=by
 rw[gc,fj,List.drop_take]
noncomputable abbrev rv(a:KA)(i:Nat):List bN:=(a.toList.take i).reverse
def XS{a:KA}{i:Nat}(h:0<i)(h2:i<=a.size):rv a i=a[i-1]::rv a (i-1):=by
 obtain⟨k,rfl⟩:∃k,i=k+1:=#[i-1,by lia]
 show(a.toList.take<|k+1).reverse=_;rw[List.take_succ_eq_append_getElem (by rw[aH];exact h2),kZ];rfl
def uf{a:KA}{t i:Nat}(h:t<=i):rv a i=((a.toList.take i).drop t).reverse++rv a t:=by
 rw[<-kZ];have:=cU t<|a.toList.take i;rw[nu,ko h]at this;rw[this]
section
variable{prog:bE}{w:bZ}{A:cQ}{E:ap->aw->Prop}{s:aw}{κ:eT}{In:bN->Prop}{rk:bN->Nat}{a b:KA}{T:List bN}
abbrev Hi(rk:bN->Nat)(a b:KA)(T:List bN)(o:KA)(i j:Nat):Prop:=ML (gr rk) T o.toList (rv a i)<|rv b j
structure Ih(rk:bN->Nat)(a b:KA)(T:List bN)(o:KA)(i j:Nat):Prop where
 m:Hi rk a b T o i j
 i0:0<i
 i1:i<=a.size
 j0:1<j
 j1:j<=b.size
 z:o.size+i+j=a.size+b.size
def Qn{l:List bN}{r:KA}(h:l.Perm T/\Srt (gr rk) l)(e:r.toList=l.reverse):Res rk T r:=by
 unfold Res;rw[e];exact#[(dz l).trans h.1,dR.mpr h.2]
def qi(h:Hi rk a b T o i j)(hi:(i == 0)=aj):Res rk T (dh a b o i j):=by
 cases beq_iff_eq.mp hi;refine Qn (ML.fin h.swap) ?_;simp
def Zc1(h:Hi rk a b T o i j)(hj:(j == 0)=aj):Res rk T (dh a b o i j):=by
 cases beq_iff_eq.mp hj;refine Qn (ML.fin h) ?_;simp
def U6(fs:∀x∈a.toList,∀y∈b.toList.take 1,rk y<rk x)(h:Hi rk a b T o i j)(hj:(j == 1)=aj):Res rk T (fh a b o i j):=by
 cases beq_iff_eq.mp hj;have:=(ML.as (by rw[cz];exact h) λx hx y hy=>fs x (cI<|dH.mp hx) y<|dH.mp hy).swap.fin
 refine Qn this ?_;simp
def wN(h:Hi rk a b T o i j)(i0:0<i)(i1:i<=a.size)(hx:∀y∈rv b j,rk y<rk a[i-1]):Hi rk a b T (o.push a[i-1]) (i-1) j:=by
 unfold Hi at h ⊢;rw[XS i0 i1]at h;rw[eP];exact ML.as h λx hx' y hy'=>by rw[bm.mp hx'];exact hx y hy'
def jD(h:Hi rk a b T o i j)(j0:0<j)(j1:j<=b.size)(hx:∀y∈rv a i,rk y<rk b[j-1]):Hi rk a b T (o.push b[j-1]) i (j-1):=by
 unfold Hi at h ⊢;rw[XS j0 j1]at h;rw[eP];exact ML.bs h λx hx' y hy'=>by rw[bm.mp hx'];exact hx y hy'
def GY{l:List bN}{x y:bN}(h:Srt (gr rk) (x::l))(hx:rk x<rk y):∀z∈x::l,rk z<rk y:=λz hz=>by
 rcases aC.mp hz with rfl|hz
 .exact hx
 .exact cO ((be.mp h).1 z hz) hx
theorem z0(O:Od prog w A E s κ In rk){lf:Bool}{k:bN}{ar:KA}{n:Nat}{τ:bJ}{Q:Option Nat->bJ->Prop}(hk:kindOf τ=κ)(ik:In k)(hn:0<n)(h1:n<=ar.size)(ia:∀x∈ar.toList,In x)(so:Srt (gr rk) (rv ar n))(ne:∀x∈rv ar n,rk x≠rk k)
  (hq:∀r,r<=n->(∀x∈rv ar r,rk x<rk k)->(∀x∈((ar.toList.take n).drop r).reverse,rk k<rk x)->Q (aa r) τ):kC (aS prog w) A E s (Z1 lf k ar 0 n<|n-1) Q τ:=by
 refine zf O hk ik (Nat.sub_lt hn Nat.one_pos) (by lia) ia (dR.mp so) (λx hx=>ne x<|dH.mpr hx) λr h2 h3 h4=>hq r h2 (λx hx=>h3 x ?_) λx hx=>h4 x<|dH.mp hx
 have hx:=dH.mp hx;rw[nu,ko h2];exact hx
def WM{a:KA}{i:Nat}(i0:0<i)(i1:i<=a.size):a[i-1]∈rv a i:=by rw[XS i0 i1];exact am ..
def JB{a:KA}{i:Nat}{x:bN}(h:x∈rv a i):x∈a.toList:=cI<|dH.mp h
section
variable(O:Od prog w A E s κ In rk)(G:Mg κ In rk a b T)(fs:∀x∈a.toList,∀y∈b.toList.take 1,rk y<rk x)
include O G fs
theorem ZbT{g ca cb:Nat}{r0:Option KA}{τ:bJ}{Q:ForInStep U2->bJ->Prop}(hk:kindOf τ=κ)(I:Ih rk a b T o i j)
  (hd:∀r c,Res rk T r->Q (.done (aa r,c)) τ)(hb:∀o' i' j' ca cb,Ih rk a b T o' i' j'->o'.size=o.size+1->Q (.done (ae,i',j',o',ca,cb)) τ/\Q (.yield (ae,i',j',o',ca,cb)) τ):kC (aS prog w) A E s (H1 a b g (r0,i,j,o,ca,cb)) Q τ:=by
 obtain⟨m,i0,i1,j0,j1,z⟩:=I;have j0':=dy j0;have hja:j-1<b.size:=by lia
 have hia:i-1<a.size:=by lia
 have ha:=WM i0 i1;have hb':=WM j0' j1;have sa:=m.sa;have sb:=m.sb;rw[XS i0 i1]at sa;rw[XS j0' j1]at sb;refine aE<|Zz (ZC hja)<|aE<|Zz (ZC hia)<|aE<|O.ask (G.ib _<|JB hb') (G.ia _<|JB ha) hk ?_;by_cases c:rk b[j-1]<rk a[i-1]
 .rw[T5 c]
  refine aE<|Zz (ZC hia) ?_;have m:=wN m i0 i1 (by rw[XS j0' j1];exact GY sb c)
  have z':(o.push a[i-1]).size=o.size+1:=dB ..;refine Zx (λq=>aN<|hd _ _<|qi m q) λq=>?_
  have q:i-1≠0:=λz=>q<|beq_iff_eq.mpr z
  have h:=hb _ _ _ (ca+1) 0 #[m,by lia,by lia,j0,j1,by lia] z'
  exact Zx (λ_=>aN h.1) λ_=>aN h.2
 .rw[T4 c]
  refine aE<|Zz (ZC hja) ?_;have c':=fE (eZ c)<|m.ne G.nd ha hb';have m:=jD m j0' j1 (by rw[XS i0 i1];exact GY sa c')
  have z':(o.push b[j-1]).size=o.size+1:=dB ..;refine Zx (λq=>aN<|hd _ _<|U6 fs m q) λq=>?_
  have q:j-1≠1:=λz=>q<|beq_iff_eq.mpr z
  have h:=hb _ _ _ 0 (cb+1) #[m,i0,i1,by lia,by lia,by lia] z'
  exact Zx (λ_=>aN h.1) λ_=>aN h.2
theorem jN{g ca cb:Nat}{τ:bJ}(I:Ih rk a b T o i j)(hx:∀y∈rv b j,rk y<rk (a[i-1]'(by have:=I.i0;have:=I.i1;lia)))
  (hd:∀r c,Res rk T r->Q (.done (aa r,c)) τ)(hb:∀o' i' j' g ca cb,Ih rk a b T o' i' j'->o'.size=o.size+1->Q (.done (ae,i',j',o',g,ca,cb)) τ/\Q (.yield (ae,i',j',o',g,ca,cb)) τ):kC (aS prog w) A E s (K3 a b g ca cb i o j) Q τ:=by
 obtain⟨m,i0,i1,j0,j1,z⟩:=I;refine aE<|Zz (ZC<|by lia) ?_
 have m:=wN m i0 i1 hx;have z':(o.push a[i-1]).size=o.size+1:=dB ..;refine Zx (λq=>aN<|hd _ _<|qi m q) λq=>?_
 have q:i-1≠0:=λz=>q<|beq_iff_eq.mpr z
 have h:=hb _ _ _ g ca cb #[m,by lia,by lia,j0,j1,by lia] z'
 exact Zx (λ_=>aN h.1) λ_=>aN h.2
theorem jM{g ca cb:Nat}{τ:bJ}(hk:kindOf τ=κ)(I:Ih rk a b T o i j)(hy:∀y∈rv a i,rk y<rk (b[j-1]'(by have:=I.j0;have:=I.j1;lia)))
  (hd:∀r c,Res rk T r->Q (.done (aa r,c)) τ)(hb:∀o' i' j' g ca cb,Ih rk a b T o' i' j'->o.size<o'.size->Q (.done (ae,i',j',o',g,ca,cb)) τ/\Q (.yield (ae,i',j',o',g,ca,cb)) τ):kC (aS prog w) A E s (K2 a b g ca cb j o i) Q τ:=by
 obtain⟨m,i0,i1,j0,j1,z⟩:=I;refine aE<|Zz (ZC<|by lia) ?_
 have m:=jD m (dy j0) j1 hy;have z':(o.push b[j-1]).size=o.size+1:=dB ..;refine Zx (λq=>aN<|hd _ _<|U6 fs m q) λq=>?_
 have q:j-1≠1:=λz=>q<|beq_iff_eq.mpr z
 have ha:=WM i0 i1;refine aE<|Zz (ZC<|by lia)<|aE<|z0 O hk (G.ia _<|JB ha) (by lia) (by lia) G.ib m.sb (λy hy=>(m.ne G.nd ha hy).symm) λr hr h1 h2=>?_
 refine Zx (λc=>?_) λc=>?_
 .have m2:Hi rk a b T (o.push b[j-1]++(b.extract r<|j-1).reverse) i r:=by
   unfold Hi;rw[cc,kO,wd];refine ML.bs ?_ λy hy x hx=>?_
   .rw[<-uf hr];exact m
   .have sa:=m.sa
    rw[XS i0 i1]at sa hx;exact GY sa (h2 y hy) x hx
  have z2:(o.push b[j-1]++(b.extract r<|j-1).reverse).size=o.size+1+(j-1-r):=by rw[fL,z',lC,fF];lia
  refine Zx (λq=>aN<|hd _ _<|U6 fs m2 q) λq1=>Zx (λq=>aN<|hd _ _<|Zc1 m2 q) λq2=>?_
  have q1:r≠1:=λz=>q1<|beq_iff_eq.mpr z
  have q2:r≠0:=λz=>q2<|beq_iff_eq.mpr z
  exact jN O G fs #[m2,i0,i1,by lia,by lia,by lia] h1 hd λo' i' j' g ca cb I e=>hb o' i' j' g ca cb I (by lia)
 .have e:r=j-1:=by lia
  subst e;exact jN O G fs #[m,i0,i1,by lia,by lia,by lia] h1 hd λo' i' j' g ca cb I e=>hb o' i' j' g ca cb I (by lia)
theorem jK{g ca cb:Nat}{τ:bJ}(hk:kindOf τ=κ)(I:Ih rk a b T o i j)
  (hd:∀r c st',Sg τ st'->Res rk T r->Q (.done (aa r,c)) st')(hb:∀o' i' j' g ca cb st',Sg τ st'->Ih rk a b T o' i' j'->o.size<o'.size->Q (.done (ae,i',j',o',g,ca,cb)) st'/\Q (.yield (ae,i',j',o',g,ca,cb)) st'):kC (aS prog w) A E s (K1 a b o i j ca cb g) Q τ:=by
 obtain⟨m,i0,i1,j0,j1,z⟩:=I;have j0':=dy j0;have hb':=WM j0' j1;refine aE<|WK λst' sg=>aE<|Zz (ZC<|by lia)<|aE<|z0 O (sg.1.trans hk) (G.ib _<|JB hb') i0 i1 G.ia m.sa (λx hx=>m.ne G.nd hx hb') λr hr h1 h2=>?_
 refine Zx (λc=>?_) λc=>?_
 .have m2:Hi rk a b T (o++(a.extract r i).reverse) r j:=by
   unfold Hi;rw[cc,kO,wd];refine ML.as ?_ λx hx y hy=>?_
   .rw[<-uf hr];exact m
   .have sb:=m.sb
    rw[XS j0' j1]at sb hy;exact GY sb (h2 x hx) y hy
  have z2:(o++(a.extract r i).reverse).size=o.size+(i-r):=by rw[fL,lC,fF];lia
  refine Zx (λq=>aN<|hd _ _ st' sg<|qi m2 q) λq=>?_
  have q:r≠0:=λz=>q<|beq_iff_eq.mpr z
  exact jM O G fs (sg.1.trans hk) #[m2,by lia,by lia,j0,j1,by lia] h1 (λr c=>hd r c st' sg) λo' i' j' g ca cb I e=>hb o' i' j' g ca cb st' sg I (by lia)
 .have e:r=i:=by lia
  subst e;exact jM O G fs (sg.1.trans hk) #[m,i0,i1,j0,j1,z] h1 (λr c=>hd r c st' sg) λo' i' j' g ca cb I e=>hb o' i' j' g ca cb st' sg I (by lia)
theorem ZcH{g ca cb:Nat}{r0:Option KA}{τ:bJ}(hk:kindOf τ=κ)(I:Ih rk a b T o i j)
  (hd:∀r c st',Sg τ st'->Res rk T r->Q (.done (aa r,c)) st')(hb:∀o' i' j' g ca cb st',Sg τ st'->Ih rk a b T o' i' j'->o.size<o'.size->Q (.done (ae,i',j',o',g,ca,cb)) st'/\Q (.yield (ae,i',j',o',g,ca,cb)) st'):kC (aS prog w) A E s (H2 a b (r0,i,j,o,g,ca,cb)) Q τ:=by
 exact Zx (λ_=>jK O G fs hk I hd hb) λ_=>jK O G fs hk I hd hb
theorem Zb4{g:Nat}{r0:Option KA}{τ:bJ}{Q:ForInStep U1->bJ->Prop}(hk:kindOf τ=κ)(I:Ih rk a b T o i j)
  (hd:∀r c st',Sg τ st'->Res rk T r->Q (.done (aa r,c)) st')(hy:∀o' i' j' g st',Sg τ st'->Ih rk a b T o' i' j'->o.size<o'.size->Q (.yield (ae,i',j',o',g)) st'):kC (aS prog w) A E s (TT (a.size+b.size) (H1 a b) (H2 a b) (r0,i,j,o,g)) Q τ:=by
 refine aE (d9 (b9
  (I:=λx (c:U2) st'=>st'=τ/\c.1=ae/\Ih rk a b T c.2.2.2.1 c.2.1 c.2.2.1/\o.size+x<=c.2.2.2.1.size)
  (Q:=λ(c:U2) st'=>st'=τ/\((∃r,c.1=aa r/\Res rk T r)\/c.1=ae/\Ih rk a b T c.2.2.2.1 c.2.1 c.2.2.1/\o.size<c.2.2.2.1.size)) ?_ ?_ #[rfl,rfl,I,az _]) ?_)
 .rintro x ⟨r,i',j',o',ca,cb⟩ st' _ _ ⟨rfl,rfl,I',hz⟩
  exact ZbT O G fs hk I' (λr c h=>#[rfl,.inl #[r,rfl,h]]) λo2 i2 j2 ca cb I2 e=>#[#[rfl,.inr #[rfl,I2,by dsimp only at hz ⊢;lia]],rfl,rfl,I2,by dsimp only at hz ⊢;lia]
 .rintro ⟨r,i',j',o',ca,cb⟩ st' ⟨rfl,rfl,I',hz⟩
  have:=I'.i0;have:=I'.j0;have:=I'.z;lia
 .rintro ⟨r,i',j',o',ca,cb⟩ st' ⟨rfl,⟨r',rfl,h⟩|⟨rfl,I',hz⟩⟩
  .exact aN<|hd _ _ _ #[rfl,rfl,rfl,rfl] h
  .dsimp only at I' hz
   refine aE (Xp (aE (d9 (b9
    (I:=λx (c:U3) st''=>Sg st' st''/\c.1=ae/\Ih rk a b T c.2.2.2.1 c.2.1 c.2.2.1/\o'.size+x<=c.2.2.2.1.size)
    (Q:=λ(c:U3) st''=>Sg st' st''/\((∃r,c.1=aa r/\Res rk T r)\/c.1=ae/\Ih rk a b T c.2.2.2.1 c.2.1 c.2.2.1/\o'.size<c.2.2.2.1.size)) ?_ ?_ #[#[rfl,rfl,rfl,rfl],rfl,I',az _]) ?_)))
   .rintro x ⟨r,i2,j2,o2,g,ca,cb⟩ st2 _ _ ⟨sg,rfl,I2,hz2⟩
    dsimp only at I2 hz2
    exact ZcH O G fs (sg.1.trans hk) I2 (λr c st3 s3 h=>#[sg.trans s3,.inl #[r,rfl,h]]) λo3 i3 j3 g ca cb st3 s3 I3 e=>#[#[sg.trans s3,.inr #[rfl,I3,by dsimp only;lia]],sg.trans s3,rfl,I3,by dsimp only;lia]
   .rintro ⟨r,i2,j2,o2,g,ca,cb⟩ st2 ⟨sg,rfl,I2,hz2⟩
    have:=I2.i0;have:=I2.j0;have:=I2.z;lia
   .rintro ⟨r,i2,j2,o2,g,ca,cb⟩ st2 ⟨sg,⟨r',rfl,h⟩|⟨rfl,I2,hz2⟩⟩
    .exact aN<|hd _ _ _ sg h
    .exact aE<|WK λst3 s3=>aN<|hy _ _ _ _ _ (sg.trans s3) I2<|cO hz hz2
theorem GO{τ:bJ}{Q:KA->bJ->Prop}(hk:kindOf τ=κ)(ha:0<a.size)(hb:0<b.size)(sa:Srt (lr rk) a.toList)(sb:Srt (lr rk) b.toList)(hT:(a.toList++b.toList).Perm T)
  (hq:∀r st',Sg τ st'->Res rk T r->Q r st'):kC (aS prog w) A E s (WZ a b) Q τ:=by
 rw[JN];refine aE<|Xp<|aE<|Zz (ZC<|by lia) ?_
 have ea:rv a a.size=a.toList.reverse:=by show(a.toList.take a.size).reverse=_;rw[<-aH,fV]
 have eb:rv b b.size=b.toList.reverse:=by show(b.toList.take b.size).reverse=_;rw[<-aH,fV]
 have m0:Hi rk a b T #[] a.size b.size:=by
  unfold Hi;rw[ea,eb];exact#[by simpa using((dz _).append<|dz _).trans hT,.nil,dR.mpr sa,dR.mpr sb,λx hx=>by cases hx]
 have m:=wN m0 ha (az _) λy hy=>G.last y (JB hy) _ (by rw[ZO<|by lia];exact am ..)
 have sg0:Sg τ τ:=#[rfl,rfl,rfl,rfl];refine Zx (λq=>aN<|hq _ _ sg0<|qi m q) λq1=>Zx (λq=>aN<|hq _ _ sg0<|U6 fs m q) λq2=>?_
 have q1:a.size-1≠0:=λz=>q1<|beq_iff_eq.mpr z
 have q2:b.size≠1:=λz=>q2<|beq_iff_eq.mpr z
 refine aE (fM (aE (d9 (b9
  (I:=λx (c:U1) st''=>Sg τ st''/\c.1=ae/\Ih rk a b T c.2.2.2.1 c.2.1 c.2.2.1/\x<=c.2.2.2.1.size)
  (Q:=λ(c:U1) st''=>Sg τ st''/\∃r,c.1=aa r/\Res rk T r) ?_ ?_ #[sg0,rfl,#[m,by dsimp only;lia,by dsimp only;lia,by dsimp only;lia,az _,by show 1+(a.size-1)+b.size=_;lia],cR _]) ?_)))
 .rintro x ⟨r,i,j,o,g⟩ st2 _ _ ⟨sg,rfl,I,hz⟩
  dsimp only at I hz
  exact Zb4 O G fs (sg.1.trans hk) I (λr c st3 s3 h=>#[sg.trans s3,r,rfl,h]) λo3 i3 j3 g st3 s3 I3 e=>#[sg.trans s3,rfl,I3,by dsimp only;lia]
 .rintro ⟨r,i,j,o,g⟩ st2 ⟨sg,rfl,I,hz⟩
  have:=I.i0;have:=I.j0;have:=I.z;lia
 .rintro ⟨r,i,j,o,g⟩ st2 ⟨sg,r',rfl,h⟩
  exact aN<|hq _ _ sg h
end
end
noncomputable def Kr(rk:bN->Nat)(xs:Array bN)(i:Nat):Nat:=match xs[i]? with
 |some p=>rk p
 |none=>0
def XN(h:xs[i]?=ys[j]?):Kr rk xs i=Kr rk ys j:=by unfold Kr;rw[h]
structure Sb(κ:eT)(a₀:Array bN)(P:Array (Nat×Nat×Nat))(lo:Nat)(L:List bN)(τ:bJ):Prop where
 kd:kindOf τ=κ
 pm:(aZ τ).Perm a₀
 fl:fz τ=ae
 pd:a9 τ=P
 ah:(aZ τ).toList.take lo=L
def Up(rk:bN->Nat)(xs:Array bN)(lo m:Nat):Prop:=∀i j,lo<=i->i<j->j<lo+m->Kr rk xs i<Kr rk xs j
def Dn(rk:bN->Nat)(xs:Array bN)(lo m:Nat):Prop:=∀i j,lo<=i->i<j->j<lo+m->Kr rk xs j<Kr rk xs i
section
variable{κ:eT}{a₀:Array bN}{P:Array (Nat×Nat×Nat)}{lo:Nat}{L:List bN}{τ:bJ}{In:bN->Prop}{rk:bN->Nat}
theorem Sb.size(h:Sb κ a₀ P lo L τ):(aZ τ).size=a₀.size:=h.pm.size_eq
def Sb.in(h:Sb κ a₀ P lo L τ)(ia:∀x∈a₀.toList,In x):∀x∈(aZ τ).toList,In x:=λx hx=>ia x<|(bC.mp h.pm).mem_iff.mp hx
def Jl(hi:i<xs.size):Kr rk xs i=rk xs[i]:=by unfold Kr;rw[bh hi]
theorem Sb.ne(h:Sb κ a₀ P lo L τ)(nd:(a₀.toList.map rk).Nodup)(hi:i<a₀.size)(hj:j<a₀.size)(e:Kr rk (aZ τ) i=Kr rk (aZ τ) j):i=j:=by
 have hs:=h.size;have n:=(((bC.mp h.pm).map rk).nodup_iff).mpr nd;have g:∀k,k<a₀.size->((aZ τ).toList.map rk)[k]?=aa (Kr rk (aZ τ) k):=λk hk=>by
  rw[aK,bo,bh (by lia),Jl<|by lia];rfl
 exact(ip (by rw[ay,aH];lia) n).mp (by rw[g i hi,g j hj,e])
def Sb.setA(h:Sb κ a₀ P lo L τ)(hp:xs.Perm (aZ τ))(hf:∀k,k<lo->xs[k]?=(aZ τ)[k]?):Sb κ a₀ P lo L (setArr τ xs):=
 #[h.kd,hp.trans h.pm,h.fl,h.pd,by
  rw[<-h.ah];refine bQ λk=>?_
  rw[cJ,cJ];split
  .rw[bo,bo];exact hf k ‹_›
  .rfl]
variable{prog:bE}{w:bZ}{A:cQ}{E:ap->aw->Prop}{s:aw}
theorem V0(O:Od prog w A E s κ In rk)(h:Sb κ a₀ P lo L τ)(ia:∀x∈a₀.toList,In x){Q:Option Bool->bJ->Prop}(hi:i<a₀.size)(hj:j<a₀.size)(q:Q (aa<|al<|Kr rk (aZ τ) i<Kr rk (aZ τ) j) τ):kC (aS prog w) A E s (ltAt' i j) Q τ:=by
 have hs:=h.size;have m:∀k (hk:k<(aZ τ).size),In (aZ τ)[k]:=λk hk=>h.in ia _ (by simp)
 rw[ltAt'_eq];refine aE<|fM ?_;refine aE<|Zz (ZC<|by lia)<|aE<|Zz (ZC<|by lia) ?_
 rw[Jl (by lia),Jl<|by lia]at q
 exact O.ask (m i _) (m j _) h.kd q
theorem Zaq(xs:Array bN):Up rk xs lo 1:=λi j a b c=>by lia
theorem uQ(h1:1<=m)(u:Up rk xs lo m)(c:Kr rk xs (lo+m-1)<Kr rk xs (lo+m)):Up rk xs lo (m+1):=λi j a b d=>by
 by_cases z:j=lo+m
 .subst z
  by_cases y:i=lo+m-1
  .rw[y];exact c
  .exact cO (u i (lo+m-1) a (by lia)<|by lia) c
 .exact u i j a b (by lia)
theorem qL(h1:1<=m)(u:Dn rk xs lo m)(c:Kr rk xs (lo+m)<Kr rk xs (lo+m-1)):Dn rk xs lo (m+1):=λi j a b d=>by
 by_cases z:j=lo+m
 .subst z
  by_cases y:i=lo+m-1
  .rw[y];exact c
  .exact cO c<|u i (lo+m-1) a (by lia)<|by lia
 .exact u i j a b (by lia)
theorem vS(O:Od prog w A E s κ In rk)(ia:∀x∈a₀.toList,In x)(nd:(a₀.toList.map rk).Nodup){Q:AscSt->bJ->Prop}
  (hF:∀i m (Q:ForInStep AscSt->bJ->Prop),1<=m->m<nrem->(Kr rk (aZ τ) (lo+m)<Kr rk (aZ τ) (lo+m-1)->Q (.done (ae,m)) τ)->(¬Kr rk (aZ τ) (lo+m)<Kr rk (aZ τ) (lo+m-1)->Q (.yield (ae,m+1)) τ)->kC (aS prog w) A E s (F i (ae,m)) Q τ)
  (hn:lo+nrem<=a₀.size)(h1:1<=n0)(hl:n0<=nrem)(hB:Sb κ a₀ P lo L τ)(u:Up rk (aZ τ) lo n0)
  (q:∀m,n0<=m->m<=nrem->Up rk (aZ τ) lo m->(m<nrem->Kr rk (aZ τ) (lo+m)<Kr rk (aZ τ) (lo+m-1))->Q (ae,m) τ):kC (aS prog w) A E s (kK [n0:nrem] ((ae,n0):AscSt) F) Q τ:=by
 refine b9 (I:=λi c st'=>st'=τ/\c=(ae,i)/\Up rk (aZ τ) lo i) ?_ ?_ #[rfl,rfl,u]
 .rintro i c st' ha hb ⟨rfl,rfl,u⟩
  refine hF i i _ (by lia) hb (λc=>q i ha (by lia) u λ_=>c) λc=>#[rfl,rfl,uQ (by lia) u ?_]
  have:Kr rk (aZ st') (lo+i-1)≠Kr rk (aZ st') (lo+i):=λe=>by
   have:=hB.ne nd (by lia) (by lia) e
   lia
  lia
 .rintro c st' ⟨rfl,rfl,u⟩
  have e:max n0 nrem=nrem:=by lia
  rw[e]at u ⊢;exact q nrem hl (az _) u λz=>T7 z<|bp _
theorem xP(O:Od prog w A E s κ In rk)(ia:∀x∈a₀.toList,In x)(nd:(a₀.toList.map rk).Nodup){Q:Option Nat->bJ->Prop}(hn:lo+nrem<=a₀.size)(h1:1<=nrem)(hB:Sb κ a₀ P lo L τ)
  (q:∀m st',Sb κ a₀ P lo L st'->1<=m->m<=nrem->Up rk (aZ st') lo m->Q (aa m) st'):kC (aS prog w) A E s (countRun' lo nrem) Q τ:=by
 rw[countRun'_eq];refine aE<|vS O ia nd (λi m Q a b k1 k2=>?_) hn (az _) h1 hB (Zaq _) λm m1 m2 u c=>?_
 .refine aE (V0 O hB ia (by lia) (by lia) ?_)
  dsimp only
  split
  .exact aN<|k1<|T6 ‹_›
  .exact aN<|k2 λz=>‹¬_› (T5 z)
 dsimp only
 by_cases e:m=nrem
 .rw[T9<|by simpa using e]
  exact aN<|q m τ hB m1 m2 u
 rw[T8<|by simpa using e]
 by_cases c1:m>1
 .rw[T9 c1]
  refine aE<|V0 O hB ia (by lia) (by lia) ?_
  dsimp only
  rw[T9<|T5<|u lo (lo+m-1) (az _) (by lia)<|by lia]
  exact aN<|q m τ hB m1 m2 u
 rw[T8 c1];obtain rfl:m=1:=by lia
 refine aE<|Xp ?_;have nl:∀i j,i<a₀.size->j<a₀.size->i≠j->¬Kr rk (aZ τ) i<Kr rk (aZ τ) j->Kr rk (aZ τ) j<Kr rk (aZ τ) i:=λi j hi hj ne c=>by
  have:Kr rk (aZ τ) i≠Kr rk (aZ τ) j:=λe=>ne<|hB.ne nd hi hj e
  lia
 have d2:Dn rk (aZ τ) lo 2:=λi j a b d=>by
  obtain⟨rfl,rfl⟩:i=lo/\j=lo+1:=by lia
  exact c (by lia)
 refine aE<|d9 (b9 (I:=λi c st'=>st'=τ/\c=(ae,i,0)/\Dn rk (aZ τ) lo i) (Q:=λc st'=>st'=τ/\∃i,c=(ae,i,0)/\2<=i/\i<=nrem/\Dn rk (aZ τ) lo i) ?_ ?_ #[rfl,rfl,d2]) ?_
 .rintro i c st' ha hb ⟨rfl,rfl,u⟩
  dsimp only
  refine aE<|V0 O hB ia (by lia) (by lia) ?_
  dsimp only
  split
  .rw[T8<|bp 0]
   exact aN #[rfl,rfl,qL (by lia) u<|T6 ‹_›]
  .refine aE (V0 O hB ia (by lia) (by lia) ?_)
   dsimp only
   rw[T9<|T5<|nl (lo+i) (lo+i-1) (by lia) (by lia) (by lia) λz=>‹¬_› (T5 z)]
   exact aN #[rfl,i,rfl,by lia,by lia,u]
 .rintro c st' ⟨rfl,rfl,u⟩
  have e:max (1+1) nrem=nrem:=by lia
  rw[e]at u ⊢;exact#[rfl,nrem,rfl,by lia,az _,u]
 .rintro c st' ⟨rfl,i,rfl,h2,hi,u⟩
  dsimp only
  rw[T8<|bp 0];refine aE<|wpS_reverse ?_;have hs:=hB.size;have gm:=λk=>getElem?_mirror_all (xs:=aZ st') (i:=lo) (j:=lo+i) (by lia) k
  have hB2:=hB.setA (mirror_perm ..) λk hk=>by
   rw[gm k,T8<|by lia]
  have u2:Up rk (mirror (aZ st') lo (lo+i)<|(lo+i-lo) / 2) lo i:=λa b h1 h2 h3=>by
   have e:∀k,lo<=k->k<lo+i->Kr rk (mirror (aZ st') lo (lo+i)<|(lo+i-lo) / 2) k=Kr rk (aZ st') (lo+(lo+i-1-k)):=λk ka kb=>XN (by rw[gm k,T9 #[ka,kb]];congr 1;lia)
   rw[e a h1 (by lia),e b (by lia) h3]
   exact u _ _ (by lia) (by lia) (by lia)
  refine aE<|vS O ia nd (λi m Q a b k1 k2=>?_) hn (by lia) hi hB2 u2 λm m1 m2 u c=>?_
  .refine aE (V0 O hB2 ia (by dsimp only;lia) (by dsimp only;lia) ?_)
   dsimp only
   split
   .exact aN<|k1<|T6 ‹_›
   .exact aN<|k2 λz=>‹¬_› (T5 z)
  .exact aN<|q m _ hB2 (by lia) m2 u
theorem qK(O:Od prog w A E s κ In rk)(ia:∀x∈a₀.toList,In x)(nd:(a₀.toList.map rk).Nodup){Q:Bool->bJ->Prop}(hn:lo+n<=a₀.size)(h1:1<=ok)(hok:ok<=n)(hB:Sb κ a₀ P lo L τ)(u:Up rk (aZ τ) lo ok)
  (q:∀st',Sb κ a₀ P lo L st'->Up rk (aZ st') lo n->Q aj st'):kC (aS prog w) A E s (binarySort' lo n ok) Q τ:=by
 rw[binarySort'_eq];refine aE<|d9 (b9 (I:=λk c st'=>c=(ae,())/\Sb κ a₀ P lo L st'/\Up rk (aZ st') lo k) (Q:=λc st'=>c=(ae,())/\Sb κ a₀ P lo L st'/\Up rk (aZ st') lo n) ?_ ?_ #[rfl,hB,by rw[Nat.max_eq_left h1];exact u]) ?_
 .rintro k c st' ha hb ⟨rfl,B,u⟩
  have hs:=B.size;refine aE (d9 (b9 (I:=λx c st2=>st2=st'/\∃l r,c=(ae,l,r)/\l<=r/\r<=k/\r-l<=k-x/\(∀i,i<l->Kr rk (aZ st') (lo+i)<Kr rk (aZ st') (lo+k))/\∀i,r<=i->i<k->Kr rk (aZ st') (lo+k)<Kr rk (aZ st') (lo+i))
   (Q:=λc st2=>st2=st'/\∃l r,c=(ae,l,r)/\l<=k/\(∀i,i<l->Kr rk (aZ st') (lo+i)<Kr rk (aZ st') (lo+k))/\∀i,l<=i->i<k->Kr rk (aZ st') (lo+k)<Kr rk (aZ st') (lo+i)) ?_ ?_ #[rfl,0,k,rfl,by lia,by lia,by lia,λi hi=>by lia,λi a b=>by lia]) ?_)
  .rintro x c st2 _ hx ⟨rfl,l,r,rfl,g1,g2,g3,g4,g5⟩
   dsimp only
   by_cases c:l>=r
   .rw[T9 c]
    exact aN #[rfl,l,r,rfl,by lia,g4,λi a b=>g5 i (by lia) b]
   .rw[T8 c]
    refine aE<|V0 O B ia (by lia) (by lia) ?_
    dsimp only
    split
    .have cm:=T6 ‹_›
     refine aN #[rfl,l,(l+r) / 2,rfl,by lia,by lia,by lia,g4,λi a b=>?_]
     by_cases y:i=(l+r) / 2
     .rw[y];exact cm
     .exact cO cm<|u _ _ (by lia) (by lia)<|by lia
    .have cm:Kr rk (aZ st2) (lo+(l+r) / 2)<Kr rk (aZ st2) (lo+k):=by
      have z:¬Kr rk (aZ st2) (lo+k)<Kr rk (aZ st2) (lo+(l+r) / 2):=λz=>‹¬_› (T5 z)
      have:Kr rk (aZ st2) (lo+k)≠Kr rk (aZ st2) (lo+(l+r) / 2):=λe=>by
       have:=B.ne nd (by lia) (by lia) e
       lia
      lia
     refine aN #[rfl,(l+r) / 2+1,r,rfl,by lia,by lia,by lia,λi a=>?_,g5]
     by_cases y:i=(l+r) / 2
     .rw[y];exact cm
     .exact cO (u _ _ (by lia) (by lia)<|by lia) cm
  .rintro c st2 ⟨rfl,l,r,rfl,g1,g2,g3,g4,g5⟩
   exact#[rfl,l,r,rfl,by lia,g4,λi a b=>g5 i (by lia) b]
  .rintro c st2 ⟨rfl,l,r,rfl,g2,g4,g5⟩
   dsimp only
   rw[moveDown'_eq];refine aE<|eG<|aN ?_;have gb:=λi=>getElem?_bubble (xs:=aZ st2) (src:=lo+k) (by lia) (lo+k-(lo+l)) (by lia) i
   have e1:lo+k-(lo+k-(lo+l))=lo+l:=by lia
   rw[e1]at gb;refine#[rfl,B.setA (bubble_perm ..) λi hi=>?_,λi j a b d=>?_]
   .rw[gb i,T8 (by lia),T8<|by lia]
   .have e:∀i,Kr rk (bubble (aZ st2) (lo+k)<|lo+k-(lo+l)) i=if i=lo+l then Kr rk (aZ st2) (lo+k)else if lo+l<i/\i<=lo+k then Kr rk (aZ st2) (i-1)else Kr rk (aZ st2) i:=λi=>by
     have h:=gb i;split at h
     .rw[T9 ‹_›];exact XN h
     .rw[T8 ‹_›]
      split at h
      .rw[T9 ‹_›];exact XN h
      .rw[T8 ‹_›];exact XN h
    rw[e i,e j];have low:∀x,lo<=x->x<lo+l->Kr rk (aZ st2) x<Kr rk (aZ st2) (lo+k):=λx a b=>by
     have:=g4 (x-lo) (by lia)
     rwa [show lo+(x-lo)=x by lia]at this
    have high:∀x,lo+l<=x->x<lo+k->Kr rk (aZ st2) (lo+k)<Kr rk (aZ st2) x:=λx a b=>by
     have:=g5 (x-lo) (by lia) (by lia)
     rwa [show lo+(x-lo)=x by lia]at this
    by_cases ci:i=lo+l
    .rw[T9 ci,T8 (by lia),T9<|by lia]
     exact high _ (by lia) (by lia)
    .rw[T8 ci]
     by_cases cj:j=lo+l
     .rw[T9 cj,T8<|by lia]
      exact low _ a (by lia)
     .rw[T8 cj]
      by_cases di:lo+l<i/\i<=lo+k
      .rw[T9 di,T9<|by lia];exact u _ _ (by lia) (by lia) (by lia)
      .rw[T8 di]
       by_cases dj:lo+l<j/\j<=lo+k
       .rw[T9 dj]
        by_cases z:i=j-1
        .lia
        .exact u _ _ a (by lia) (by lia)
       .rw[T8 dj];exact u _ _ a b (by lia)
 .rintro c st' ⟨rfl,B,u⟩
  have e:max (max ok 1) n=n:=by lia
  rw[e]at u;exact#[rfl,B,u]
 .rintro c st' ⟨rfl,B,u⟩
  exact aN<|q st' B u
end
def Ju(i:Nat):mergeAt' i=(do
 let t <-get
 let (aa (ia,ma,pw),aa (ib,mb,_)):=((a9 t)[i]?,(a9 t)[i+1]?)|unsupported "internal:list.sort.pending"
 set (fW t<|((a9 t).setIfInBounds i (ia,ma+mb,pw)).eraseIdxIfInBounds<|i+1)
 let aa r <-Z1 ai (<-fg (aZ t) ib) (aZ t) ia ma 0|return ai
 let (ja,la):=(ia+r,ma-r)
 if la == 0 then return aj
 let aa lb <-Z1 aj (<-fg (aZ t) (ja+la-1)) (aZ t) ib mb (mb-1)|return ai
 if lb == 0 then return aj
 let u:=(aZ t).extract ja ib
 let v:=(aZ t).extract ib<|ib+lb
 let mg <-if la<=lb then WV u v else WZ u v
 modify λt=>setArr t<|mg.toList.zipIdx.foldl (λa (p,j)=>a.setIfInBounds (ja+j) p)<|aZ t
 return (fz<|<-get).isNone):=rfl
theorem Jw(b:Nat):∀(m:List bN)(j:Nat)(a:Array bN),b+j+m.length<=a.size->((m.zipIdx j).foldl (λa q=>a.setIfInBounds (b+q.2) q.1) a).toList=a.toList.take (b+j)++m++a.toList.drop (b+j+m.length)
 |[],j,a,h=>by simp
 |x::r,j,a,h=>by
  rw[aL]at h;rw[iN,dZ,Jw b r (j+1) _<|by rw[Array.size_setIfInBounds];lia]
  dsimp only
  rw[gV,aL,<-iB b j 1,l7,List.take_set_of_le<|az _,ba (by simpa using(by lia:b+j<a.size)),List.drop_set_of_lt<|by lia]
  simp[iB,lO 1]
def Runs(rk:bN->Nat):List (Nat×Nat)->Nat->Nat->List bN->Prop
 |[],a,b,_=>a=b
 |(i,n)::r,a,b,l=>i=a/\1<=n/\Srt (lr rk) ((l.drop a).take n)/\Runs rk r (a+n) b l
section
theorem Runs.le:∀{r:List (Nat×Nat)}{a b:Nat}{l:List bN},Runs rk r a b l->a+r.length<=b
 |[],a,b,l,h=>lP h
 |(i,n)::r,a,b,l,#[_,h1,_,h]=>by have:=h.le;rw[aL];lia
theorem Runs.app:∀{r q:List (Nat×Nat)}{a b:Nat}{l:List bN},Runs rk (r++q) a b l↔∃c,Runs rk r a c l/\Runs rk q c b l
 |[],q,a,b,l=>#[λh=>#[a,rfl,h],λ#[c,h1,h2]=>by cases h1;exact h2]
 |(i,n)::r,q,a,b,l=>by
  constructor
  .rintro ⟨h1,h2,h3,h4⟩
   obtain⟨c,h5,h6⟩:=Runs.app.mp h4;exact#[c,#[h1,h2,h3,h5],h6]
  .rintro ⟨c,⟨h1,h2,h3,h4⟩,h5⟩
   exact#[h1,h2,h3,Runs.app.mpr #[c,h4,h5]]
theorem Runs.congr:∀{r:List (Nat×Nat)}{a b:Nat}{l l':List bN},Runs rk r a b l->(∀k,a<=k->k<b->l'[k]?=l[k]?)->Runs rk r a b l'
 |[],a,b,l,l',h,_=>h
 |(i,n)::r,a,b,l,l',#[h1,h2,h3,h4],e=>by
  have:=h4.le;refine#[h1,h2,?_,h4.congr λk ha hb=>e k (by lia) hb]
  have:(l'.drop a).take n=(l.drop a).take n:=bQ λk=>by
   rw[cJ,cJ,gW,gW];split
   .exact e _ (by lia) (by lia)
   .rfl
  rw[this];exact h3
def UM(hx:Srt (lr rk) x)(hy:Srt (lr rk) y)(h:∀a∈x,∀b∈y,rk a<rk b):Srt (lr rk) (x++y):=ee.mpr #[hx,hy,h]
structure Sc(κ:eT)(a₀:Array bN)(τ:bJ):Prop where
 kd:kindOf τ=κ
 pm:(aZ τ).Perm a₀
 fl:fz τ=ae
variable{In:bN->Prop}
theorem GD(O:Od prog w A E s κ In rk)(ia:∀x∈a₀.toList,In x)(nd:(a₀.toList.map rk).Nodup){Q:Bool->bJ->Prop}(h:Sc κ a₀ τ)(h1:(a9 τ)[i]?=aa (a,na,pw))(h2:(a9 τ)[i+1]?=aa (a+na,nb,qw))
  (hl:(aZ τ).toList=U++(X++(Y++Z)))(lU:U.length=a)(lX:X.length=na)(lY:Y.length=nb)(xa:1<=na)(yb:1<=nb)(sx:Srt (lr rk) X)(sy:Srt (lr rk) Y)
  (q:∀st' M,Sc κ a₀ st'->a9 st'=((a9 τ).setIfInBounds i (a,na+nb,pw)).eraseIdxIfInBounds (i+1)->(aZ st').toList=U++(M++Z)->M.length=na+nb->Srt (lr rk) M->Q aj st'):kC (aS prog w) A E s (mergeAt' i) Q τ:=by
 have hp:=bC.mp h.pm;have ial:=λx hx=>ia x<|hp.mem_iff.mp hx
 have ndl:=((hp.map rk).nodup_iff).mpr nd;have hsz:(aZ τ).size=a+(na+(nb+Z.length)):=by rw[<-aH,hl];simp[lU,lX,lY]
 have dX:((aZ τ).toList.drop a).take na=X:=by rw[hl,<-lU,gX,<-lX,gY]
 have dY:((aZ τ).toList.drop<|a+na).take nb=Y:=by rw[hl,<-bB,<-lU,<-lX,<-aW,gX,<-lY,gY]
 have ndXY:∀x∈X,∀y∈Y,rk x≠rk y:=λx hx y hy e=>by
  rw[hl,bV,ef,bV,ef]at ndl;exact ndl.2.1.2.2 _ (dC hx) _ (by rw[bV];exact dr _<|dC hy) e
 have inX:∀x∈X,In x:=λx hx=>ial x (by rw[hl];simp[hx])
 have inY:∀y∈Y,In y:=λy hy=>ial y (by rw[hl];simp[hy])
 obtain⟨y0,Y',rfl⟩:∃y0 Y',Y=y0::Y':=by cases Y with|nil=>simp at lY;lia|cons y Y'=>exact#[y,Y',rfl]
 have e0:(aZ τ)[a+na]?=aa y0:=by
  rw[<-bo,hl,<-bB,bu<|by simp;lia]
  simp[lU,lX]
 rw[Ju];refine aE<|fM ?_;rw[h1,h2]
 dsimp only
 refine aE<|eG ?_
 generalize hst:fW τ (((a9 τ).setIfInBounds i (a,na+nb,pw)).eraseIdxIfInBounds<|i+1)=st1;have S1:Sc κ a₀ st1:=by rw[<-hst];exact#[h.kd,h.pm,h.fl]
 have P1:a9 st1=((a9 τ).setIfInBounds i (a,na+nb,pw)).eraseIdxIfInBounds (i+1):=by rw[<-hst]
 have A1:aZ st1=aZ τ:=by rw[<-hst]
 refine aE<|Zz e0<|aE<|zf O S1.kd (inY y0<|am ..) xa (by lia) ial (by rw[dX];exact sx) (by rw[dX];exact λx hx=>ndXY x hx y0<|am ..) λr hr r1 r2=>?_
 rw[dX]at r1 r2
 dsimp only
 have lowY:∀x∈X.take r,∀y∈y0::Y',rk x<rk y:=λx hx y hy=>by
  rcases aC.mp hy with rfl|hy
  .exact r1 x hx
  .exact cO (r1 x hx)<|(be.mp sy).1 y hy
 by_cases c:na-r=0
 .rw[T9<|by simpa using c]
  have:X.take r=X:=cx (by lia)
  rw[this]at lowY;exact aN<|q st1 (X++y0::Y') S1 P1 (by rw[A1,hl,bB]) (by rw[aW,lX,lY])<|UM sx sy lowY
 rw[T8<|by simpa using c]
 have exl:(aZ τ)[a+r+(na-r)-1]?=X[na-1]?:=by
  rw[<-bo,hl,bu (by lia),bM<|by lia]
  congr 1;lia
 have xl:X[na-1]?=aa (X[na-1]'(by lia)):=ag _
 generalize hx0:X[na-1]'(by lia)=x0 at xl
 have mx0:x0∈X:=cW xl;have mx1:x0∈X.drop r:=cW (i:=na-1-r) (by rw[gW];rw[<-xl];congr 1;lia)
 have maxX:∀x∈X,x=x0\/rk x<rk x0:=λx hx=>by
  obtain⟨k,hk,rfl⟩:=kP.mp hx;by_cases z:k=na-1
  .subst z;exact .inl hx0
  .right;rw[<-hx0];exact bT.mp sx k (na-1) hk (by lia) (by lia)
 refine aE<|Zz (exl.trans xl)<|aE<|zf O S1.kd (inX x0 mx0) (by lia) (by lia) ial (by rw[dY];exact sy) (by rw[dY];exact λy hy=>Ne.symm<|ndXY x0 mx0 y hy) λt ht t1 t2=>?_
 rw[dY]at t1 t2
 dsimp only
 have t0:t≠0:=λz=>by
  subst z;have a1:=r2 x0 mx1;have a2:=t2 y0<|am ..;lia
 rw[T8<|by simpa using t0]
 generalize hY:y0::Y'=Y at *;have eu:((aZ τ).extract (a+r)<|a+na).toList=X.drop r:=by
  have:a+na=(a+r)+(na-r):=by lia
  rw[this,zX,<-gU,hl,<-lU,gX,gd<|by lia]
  rw[show na-r=(X.drop r).length by rw[bK,lX],gY]
 have ev:((aZ τ).extract (a+na)<|a+na+t).toList=Y.take t:=by
  rw[zX,hl,<-bB,<-lU,<-lX,<-aW,gX,gf<|by lia]
 generalize hu:(aZ τ).extract (a+r) (a+na)=u at *;generalize hv:(aZ τ).extract (a+na) (a+na+t)=v at *;have ul:u.size=na-r:=by rw[<-aH,eu,bK,lX]
 have vl:v.size=t:=by rw[<-aH,ev,bw,lY];lia
 have su:Srt (lr rk) u.toList:=by rw[eu];exact sx.sublist<|List.drop_sublist ..
 have sv:Srt (lr rk) v.toList:=by rw[ev];exact sy.sublist<|lK ..
 have v0:∀x∈u.toList,rk (v[0]'(by lia))<rk x:=λx hx=>by
  have:v.toList[0]?=aa y0:=by
   rw[ev,<-hY];obtain⟨t',rfl⟩:∃t',t=t'+1:=#[t-1,by lia]
   rfl
  have e:v[0]'(by lia)=y0:=by
   rw[bo,bh<|by lia]at this
   exact af this
  rw[e];exact r2 x (by rw[<-eu];exact hx)
 have G:Mg κ In rk u v (u.toList++v.toList):=by
  refine#[?_,λx hx=>inX x<|bP<|eu▸hx,λy hy=>inY y<|cI<|ev▸hy,λy hy x hx=>?_]
  .rw[bV,ef]
   have nx:∀{z:List bN},Srt (lr rk) z->(z.map rk).Nodup:=λ{z} hz=>cS.mpr<|hz.imp λhab=>bg hab
   refine#[nx su,nx sv,λp hp p' hp' e=>?_]
   obtain⟨x,hx,rfl⟩:=aT.mp hp;obtain⟨y,hy,rfl⟩:=aT.mp hp';exact ndXY x (bP<|eu▸hx) y (cI<|ev▸hy) e
  .have hx:x=x0:=by
    rw[eu,ul,gU,show r+(na-r-1)=na-1 by lia,bS (by lia),show na-1+1=X.length by lia,dG,bm]at hx
    rw[hx];exact hx0
   rw[hx];exact t1 y (by rw[<-ev];exact hy)
 have fin:∀r' st',Sg st1 st'->Res rk (u.toList++v.toList) r'->kC (aS prog w) A E s (do
   modify λt=>setArr t<|r'.toList.zipIdx.foldl (λz (p,j)=>z.setIfInBounds (a+r+j) p)<|aZ t
   return (fz<|<-get).isNone) Q st':=λr' st' sg hr'=>by
  obtain⟨g1,g2,g3,g4⟩:=sg;obtain⟨k1,k2⟩:=hr';have rl:r'.toList.length=(na-r)+t:=by rw[k1.length_eq,aW,aH,aH,ul,vl]
  refine aE<|eG<|aE<|fM<|aN ?_;have fo:=Jw (a+r) r'.toList 0 (aZ τ) (by lia)
  have el:((r'.toList.zipIdx.foldl (λz (q:bN×Nat)=>z.setIfInBounds (a+r+q.2) q.1)<|aZ τ).toList)=U++((X.take r++(r'.toList++Y.drop t))++Z):=by
   rw[fo,Nat.add_zero,hl,<-lU,List.take_append,mE,rl];have e1:U.length+r-U.length=r:=by lia
   have e2:U.length+r+(na-r+t)-U.length=na+t:=by lia
   rw[e1,e2,cx (by lia),kc (by lia),gn,gf (by lia),<-lX,mE,kc (by lia),gn,show X.length+t-X.length=t by lia,gd<|by lia]
   simp[bB]
  have hX:X.take r++X.drop r=X:=cU ..;have hYt:Y.take t++Y.drop t=Y:=cU ..;have pM:(X.take r++(r'.toList++Y.drop t)).Perm (X++Y):=by
   rw[eu,ev]at k1;have:(X.take r++(r'.toList++Y.drop t)).Perm (X.take r++((X.drop r++Y.take t)++Y.drop t)):=(k1.append_right _).append_left _;refine this.trans<|mW ?_;rw[bB<|X.drop r,hYt,<-bB,hX]
  rw[g4,S1.fl];refine q (setArr st'<|r'.toList.zipIdx.foldl (λz (q:bN×Nat)=>z.setIfInBounds (a+r+q.2) q.1)<|aZ st') (X.take r++(r'.toList++Y.drop t)) #[g1.trans S1.kd,?_,g4.trans S1.fl] (g3.trans P1) (by rw[<-el,<-A1,<-g2]) (by rw[pM.length_eq,aW,lX,lY]) ?_
  .refine(bC.mpr ?_).trans h.pm
   rw[g2,A1,el,hl,<-bB X Y Z];exact(pM.append_right _).append_left _
  .have memR:∀z∈r'.toList,z∈X.drop r\/z∈Y.take t:=λz hz=>by
    have:=k1.mem_iff.mp hz;rw[eu,ev]at this;exact cg.mp this
   have sX:=ee.mp<|hX.symm▸sx;have sY:=ee.mp<|hYt.symm▸sy;refine UM sX.1 (UM k2 sY.2.1 λp hp y hy=>?_) λx hx z hz=>?_
   .rcases memR p hp with m|m
    .have:=t2 y hy
     rcases maxX p (bP m)with rfl|m
     .exact this
     .exact cO m this
    .exact sY.2.2 p m y hy
   .rcases cg.mp hz with m|m
    .rcases memR z m with m|m
     .exact sX.2.2 x hx z m
     .exact lowY x hx z<|cI m
    .exact lowY x hx z<|bP m
 by_cases cl:na-r<=t
 .rw[T9 cl]
  exact aE<|J5 O G S1.kd (by lia) (by lia) su sv (cp _) v0 λr' st' sg hr'=>fin r' st' sg hr'
 .rw[T8 cl]
  have fs:∀x∈u.toList,∀y∈v.toList.take 1,rk y<rk x:=λx hx y hy=>by
   have e:=ZO (a:=v) (i:=0) (by lia)
   rw[gR]at e;rw[e]at hy;rw[bm.mp hy];exact v0 x hx
  exact aE<|GO O G fs S1.kd (by lia) (by lia) su sv (cp _) λr' st' sg hr'=>fin r' st' sg hr'
end
section
variable{In:bN->Prop}
noncomputable abbrev g2(q:Nat×Nat×Nat):Nat×Nat:=(q.1,q.2.1)
noncomputable def pl(τ:bJ):List (Nat×Nat):=(a9 τ).toList.map g2
def cut2{B:Type}{l:List B}{i:Nat}{x y:B}(h1:l[i]?=aa x)(h2:l[i+1]?=aa y):l=l.take i++(x::y::l.drop (i+2)):=by
 obtain⟨a,e1⟩:=a8.mp h1;obtain⟨b,e2⟩:=a8.mp h2
 conv=>lhs;rw[<-cU i l,bS a,bS b,e1,e2]
theorem XH(O:Od prog w A E s κ In rk)(ia:∀x∈a₀.toList,In x)(nd:(a₀.toList.map rk).Nodup){Q:Bool->bJ->Prop}{i b:Nat}{R3:List (Nat×Nat)}(h:Sc κ a₀ τ)(hi:i+1<(a9 τ).size)(hb:b<=a₀.size)(hr:Runs rk (pl τ++R3) 0 b (aZ τ).toList)
  (q:∀st',Sc κ a₀ st'->(a9 st').size=(a9 τ).size-1->Runs rk (pl st'++R3) 0 b (aZ st').toList->Q aj st'):kC (aS prog w) A E s (mergeAt' i) Q τ:=by
 obtain⟨⟨a,na,pw⟩,h1⟩:∃x,(a9 τ)[i]?=aa x:=#[_,bh<|by lia]
 obtain⟨⟨b1,nb,qw⟩,h2⟩:∃x,(a9 τ)[i+1]?=aa x:=#[_,bh hi];have e:=cut2 (by rw[bo];exact h1) (by rw[bo];exact h2)
 generalize hA:(a9 τ).toList.take i=RA at e;generalize hC:(a9 τ).toList.drop (i+2)=RC at e;have lA:RA.length=i:=by rw[<-hA,bw,aH];lia
 unfold pl at hr;rw[e,bV,bB]at hr;obtain⟨c,r1,r2⟩:=Runs.app.mp hr;obtain⟨z1,n1,s1,z2,n2,s2,r3⟩:=r2
 dsimp only[g2]at z1 n1 s1 z2 n2 s2 r3
 subst z1 z2;have hle:=r3.le;have hsz:(aZ τ).toList.length=a₀.size:=by rw[aH];exact h.pm.size_eq
 generalize hl:(aZ τ).toList=l at *;have el:l=l.take a++((l.drop a).take na++((l.drop<|a+na).take nb++l.drop (a+na+nb))):=by
  rw[td,td,cU]
 have lU:(l.take a).length=a:=by rw[bw];lia
 refine GD O ia nd h h1 h2 (hl.trans el) lU (by rw[bw,bK];lia) (by rw[bw,bK];lia) n1 n2 s1 s2 λst' M S' hp' hl' lM sM=>?_
 have hpl:(a9 st').toList=RA++((a,na+nb,pw)::RC):=by
  rw[hp',Array.toList_eraseIdxIfInBounds,gV,e,List.set_append_right _ _ (by lia),lA,Nat.sub_self]
  rw[List.eraseIdx_append_of_length_le (by lia),lA,show i+1-i=1 by lia]
  rfl
 refine q st' S' ?_ ?_
 .rw[<-aH,hpl,<-aH,e]
  simp
 .have at_:∀k,(k<a\/a+na+nb<=k)->(aZ st').toList[k]?=l[k]?:=λk hk=>by
   rw[hl']
   conv=>rhs;rw[el]
   rcases hk with hk|hk
   .rw[bM (by lia),bM<|by lia]
   .rw[bu (by lia),bu (by lia),bu (by lia),<-bB,bu<|by simp;lia]
    congr 1
    simp;lia
  unfold pl;rw[hpl,bV,bB];refine Runs.app.mpr #[a,r1.congr λk _ hk=>at_ k<|.inl hk,rfl,by dsimp only[g2];lia,?_,?_]
  .rw[hl',<-lM,List.drop_left' lU,gY];exact sM
  .rw[<-iB];exact r3.congr λk hk _=>at_ k<|.inr hk
theorem xq{lo n:Nat}{xs:Array bN}(hn:lo+n<=xs.size)(u:Up rk xs lo n):Srt (lr rk) ((xs.toList.drop lo).take n):=by
 refine bT.mpr λi j hi hj hij=>?_
 rw[bw,bK,aH]at hi hj;have g:∀k (hk:k<((xs.toList.drop lo).take n).length),((xs.toList.drop lo).take n)[k]=xs[lo+k]'(by rw[bw,bK,aH]at hk;lia):=λk hk=>by
  rw[eN,eO,Array.getElem_toList]
 rw[g,g];have:=u (lo+i) (lo+j) (by lia) (by lia) (by lia)
 rw[Jl (by lia),Jl<|by lia]at this
 exact this
def VU{P:Array (Nat×Nat×Nat)}{k pw:Nat}:(P.modify k λq=>(q.1,q.2.1,pw)).toList.map g2=P.toList.map g2:=by
 refine bQ λi=>?_
 rw[aK,aK,bo,bo,Array.getElem?_modify];split
 .cases P[i]?<;>rfl
 .rfl
theorem sort_ok(O:Od prog w A E s κ In rk)(ia:∀x∈a₀.toList,In x)(nd:(a₀.toList.map rk).Nodup){Q:Unit->bJ->Prop}(hk:kindOf τ=κ)(ha:aZ τ=a₀)(hp:a9 τ = #[])(hf:fz τ=ae)(h1:1<=a₀.size)
  (q:∀st',(aZ st').Perm a₀->fz st'=ae->Srt (lr rk) (aZ st').toList->Q () st'):kC (aS prog w) A E s sortRuns' Q τ:=by
 rw[sortRuns'_eq];refine aE<|fM ?_;rw[ha]
 dsimp only
 have S0:Sc κ a₀ τ:=#[hk,by rw[ha],hf]
 refine aE (d9 (b9
  (I:=λx c st'=>∃lo,c=(ae,lo)/\x<=lo/\lo<=a₀.size/\Sc κ a₀ st'/\Runs rk (pl st') 0 lo (aZ st').toList)
  (Q:=λc st'=>c=(ae,a₀.size)/\Sc κ a₀ st'/\Runs rk (pl st') 0 a₀.size (aZ st').toList) ?_ ?_ #[0,rfl,az _,cR _,S0,by unfold pl;rw[hp];rfl]) ?_)
 .rintro x c st1 _ hx ⟨lo,rfl,g1,g2',S1,R1⟩
  dsimp only
  by_cases c:lo>=a₀.size
  .rw[T9 c]
   obtain rfl:lo=a₀.size:=by lia
   exact aN #[rfl,S1,R1]
  rw[T8 c];have B1:Sb κ a₀ (a9 st1) lo ((aZ st1).toList.take lo) st1:=#[S1.kd,S1.pm,S1.fl,rfl,rfl];refine aE<|xP O ia nd (by lia) (by lia) B1 λm st2 B2 m1 m2 u2=>?_
  dsimp only
  have done:∀n st3,1<=n->lo+n<=a₀.size->Sc κ a₀ st3->Runs rk (pl st3++[(lo,n)]) 0 (lo+n) (aZ st3).toList->∃lo',((ae,lo+n):Option PUnit×Nat)=(ae,lo')/\x+1<=lo'/\lo'<=a₀.size/\Sc κ a₀ (fW st3<|(a9 st3).push (lo,n,0))/\Runs rk (pl<|fW st3<|(a9 st3).push (lo,n,0)) 0 lo' (aZ st3).toList:=λn st3 n1 n2 S3 R3=>
   #[lo+n,rfl,by lia,n2,#[S3.kd,S3.pm,S3.fl],by
    have:pl (fW st3<|(a9 st3).push (lo,n,0))=pl st3++[(lo,n)]:=by
     show l8 g2 ((a9 st3).push (lo,n,0)).toList=_;rw[eP,bV];rfl
    rw[this];exact R3]
  by_cases c2:m<m7 a₀.size a₀.size 0
  .rw[T9 c2]
   refine aE<|Xp<|aE<|qK (n:=nI (a₀.size-lo)<|m7 a₀.size a₀.size 0) O ia nd (by lia) m1 (by lia) B2 u2 λst5 B u=>?_
   have n1:1<=nI (a₀.size-lo) (m7 a₀.size a₀.size 0):=by lia
   have n2:lo+nI (a₀.size-lo) (m7 a₀.size a₀.size 0)<=a₀.size:=by lia
   simp only[f6,bW,if_false];generalize nI (a₀.size-lo) (m7 a₀.size a₀.size 0)=n at *;clear B2 u2;refine aE<|fM ?_;have S5:Sc κ a₀ st5:=#[B.kd,B.pm,B.fl];have hz:(aZ st5).size=a₀.size:=B.size;have R5:Runs rk (pl st5++[(lo,n)]) 0 (lo+n) (aZ st5).toList:=Runs.app.mpr #[lo,by
    unfold pl at R1 ⊢;rw[B.pd];refine R1.congr λk _ hk=>?_
    have e:(kW lo _)[k]?=(kW lo _)[k]?:=congrArg (λl=>l[k]?) B.ah
    rw[cJ,cJ,T9 hk,T9 hk]at e;exact e,rfl,n1,xq (by lia) u,rfl]
   cases hbk:(a9 st5).back? with
   |none=>
    exact aE<|eG<|aN<|done n st5 n1 n2 S5 R5
   |some q5=>
    obtain⟨x1,x2,x3⟩:=q5
    dsimp only
    refine aE<|d9 (b9 (I:=λ_ c st3=>c=(ae,())/\Sc κ a₀ st3/\Runs rk (pl st3++[(lo,n)]) 0 (lo+n) (aZ st3).toList) ?_ (λc st3 h=>h) #[rfl,S5,R5]) ?_
    .rintro x c st3 _ _ ⟨rfl,S3,R3⟩
     refine aE<|fM ?_;by_cases c:(a9 st3).size>1
     .rw[T9 c,bh<|show(a9 st3).size-2<(a9 st3).size by lia]
      dsimp only
      split
      .exact aN #[rfl,S3,R3]
      .refine aE (XH O ia nd S3 (by lia) n2 R3 λst4 S4 _ R4=>?_)
       simp only[f6,bW,if_false];exact aN #[rfl,S4,R4]
     .rw[T8 c]
      exact aN #[rfl,S3,R3]
    .rintro c st3 ⟨rfl,S3,R3⟩
     dsimp only
     exact aE (eG (aE (eG (aN (done n (fW st3 _) n1 n2 #[S3.kd,S3.pm,S3.fl] (by
      show Runs rk (l8 g2 (Array.modify _ _ _).toList++_) _ _ _;rw[VU];exact R3))))))
  .rw[T8 c2]
   have n2:lo+m<=a₀.size:=by lia
   refine aE<|fM ?_;have S5:Sc κ a₀ st2:=#[B2.kd,B2.pm,B2.fl];have hz:(aZ st2).size=a₀.size:=B2.size;have R5:Runs rk (pl st2++[(lo,m)]) 0 (lo+m) (aZ st2).toList:=Runs.app.mpr #[lo,by
    unfold pl at R1 ⊢;rw[B2.pd];refine R1.congr λk _ hk=>?_
    have e:(kW lo _)[k]?=(kW lo _)[k]?:=congrArg (λl=>l[k]?) B2.ah
    rw[cJ,cJ,T9 hk,T9 hk]at e;exact e,rfl,m1,xq (by lia) u2,rfl]
   cases hbk:(a9 st2).back? with
   |none=>
    exact aE<|eG<|aN<|done m st2 m1 n2 S5 R5
   |some q5=>
    obtain⟨x1,x2,x3⟩:=q5
    dsimp only
    refine aE<|d9 (b9 (I:=λ_ c st3=>c=(ae,())/\Sc κ a₀ st3/\Runs rk (pl st3++[(lo,m)]) 0 (lo+m) (aZ st3).toList) ?_ (λc st3 h=>h) #[rfl,S5,R5]) ?_
    .rintro x c st3 _ _ ⟨rfl,S3,R3⟩
     refine aE<|fM ?_;by_cases c:(a9 st3).size>1
     .rw[T9 c,bh<|show(a9 st3).size-2<(a9 st3).size by lia]
      dsimp only
      split
      .exact aN #[rfl,S3,R3]
      .refine aE (XH O ia nd S3 (by lia) n2 R3 λst4 S4 _ R4=>?_)
       simp only[f6,bW,if_false];exact aN #[rfl,S4,R4]
     .rw[T8 c]
      exact aN #[rfl,S3,R3]
    .rintro c st3 ⟨rfl,S3,R3⟩
     dsimp only
     exact aE (eG (aE (eG (aN (done m (fW st3 _) m1 n2 #[S3.kd,S3.pm,S3.fl] (by
      show Runs rk (l8 g2 (Array.modify _ _ _).toList++_) _ _ _;rw[VU];exact R3))))))
 .rintro c st1 ⟨lo,rfl,g1,g2',S1,R1⟩
  obtain rfl:lo=a₀.size:=by lia
  exact#[rfl,S1,R1]
 .rintro c st1 ⟨rfl,S1,R1⟩
  dsimp only
  have len1:=R1.le;refine aE (d9 (b9
   (I:=λx c st2=>c=(ae,())/\Sc κ a₀ st2/\Runs rk (pl st2) 0 a₀.size (aZ st2).toList/\(a9 st2).size<=max 1 (a₀.size-x))
   (Q:=λc st2=>c=(ae,())/\Sc κ a₀ st2/\Runs rk (pl st2) 0 a₀.size (aZ st2).toList/\(a9 st2).size<=1) ?_ ?_ #[rfl,S1,R1,by unfold pl at len1;rw[ay,aH]at len1;lia]) ?_)
  .rintro x c st2 _ hx ⟨rfl,S2,R2,l2⟩
   refine aE<|fM ?_;by_cases c:(a9 st2).size<=1
   .rw[T9 c]
    exact aN #[rfl,S2,R2,c]
   rw[T8 c];generalize hj:(if(Option.any (λx=>al<|x<((a9 st2)[(a9 st2).size-2+1]?).elim 0 λx=>x.2.1)<|if(a9 st2).size-2>0 then Option.map (λx=>x.2.1) (a9 st2)[(a9 st2).size-2-1]? else ae)=aj then(a9 st2).size-2-1 else(a9 st2).size-2)=j
   have hj1:j+1<(a9 st2).size:=by
    have g:∀b:Bool,(if b=aj then(a9 st2).size-2-1 else(a9 st2).size-2)+1<(a9 st2).size:=λb=>by cases b<;>simp<;>lia
    rw[<-hj];exact g _
   refine aE<|XH (R3:=[]) O ia nd S2 hj1 (az _) (by rw[cz];exact R2) λst3 S3 l3 R3=>?_
   rw[cz]at R3;simp only[f6,bW,if_false];exact aN #[rfl,S3,R3,by lia]
  .rintro c st2 ⟨rfl,S2,R2,l2⟩
   exact#[rfl,S2,R2,by lia]
  .rintro c st2 ⟨rfl,S2,R2,l2⟩
   dsimp only
   refine aN<|q st2 S2.pm S2.fl ?_;have hz:(aZ st2).toList.length=a₀.size:=by rw[aH];exact S2.pm.size_eq
   unfold pl at R2
   match hP:(a9 st2).toList,R2 with
   |[],R2=>exact T7 (show 0=a₀.size from R2) (by lia)
   |[(i,n,pw)],R2=>
    obtain⟨_,_,z,e⟩:=R2;have e:0+n=a₀.size:=e;rw[gR,cx<|by dsimp only[g2];lia]at z
    exact z
   |_::_::_,_=>rw[<-aH,hP]at l2;simp at l2
end
end Tq
namespace Sq
open PySem PySem.W PyProof.Rows
structure Ord(n:Nat)(lt:Nat->Nat->Bool):Prop where
 tot:∀i j,i<n->j<n->i≠j->lt i j=ai->lt j i=aj
 asy:∀i j,i<n->j<n->lt i j=aj->lt j i=ai
 tr:∀i j k,i<n->j<n->k<n->lt i j=aj->lt j k=aj->lt i k=aj
noncomputable abbrev g(p:Array Nat)(i:Nat):Nat:=p.getD i 0
def Pm(n:Nat)(p:Array Nat):Prop:=p.Perm<|cE<|aU n
theorem Pm.size(h:Pm n p):p.size=n:=by have:=Array.Perm.size_eq h;simpa using this
def Za4(h:i<p.size):p[i]?=aa (g p i):=by simp[g,h]
def Pm.lt(h:Pm n p)(hi:i<n):g p i<n:=by
 have hs:=h.size;have h1:g p i∈p.toList:=by
  have:p.toList[i]?=aa (g p i):=by rw[bo];exact Za4 (by lia)
  exact cW this
 have h2:p.toList.Perm (aU n):=by simpa using bC.mp h
 exact bj.mp<|h2.mem_iff.mp h1
def Up(lt:Nat->Nat->Bool)(p:Array Nat)(m:Nat):Prop:=∀i j,i<j->j<m->lt (g p i) (g p j)=aj
theorem UD{B:Type}{p q:B->Bool}:∀{l:List B},(∀x∈l,p x=aj->q x=aj)->(∃x∈l,q x=aj/\p x=ai)->l.countP p<l.countP q
 |[],_,#[x,hx,_]=>by cases hx
 |y::l,h,#[x,hx,h1,h2]=>by
  have hm:=List.countP_mono_left λz hz=>h z<|ak _ hz
  rw[mF,mF];rcases aC.mp hx with rfl|hx
  .rw[h1,h2,T9 rfl,T8 aJ];lia
  .have:=UD (λz hz=>h z<|ak _ hz) #[x,hx,h1,h2]
   have hy:=h y<|am ..;cases e:p y with|false=>rw[T8 aJ];lia|true=>rw[hy e,T9 rfl];lia
noncomputable def rank(n:Nat)(lt:Nat->Nat->Bool)(i:Nat):Nat:=(aU n).countP λj=>lt j i
def WS{n:Nat}{lt:Nat->Nat->Bool}(O:Ord n lt){i j:Nat}(hi:i<n)(hj:j<n):al (rank n lt i<rank n lt j)=lt i j:=by
 have irr:∀k,k<n->lt k k=ai:=λk hk=>by
  cases e:lt k k with|false=>rfl|true=>rw[<-e];exact O.asy k k hk hk e
 have up:=λ{a b} ha hb e=>
  UD (λx hx h=>O.tr x a b (bj.mp hx) ha hb h e) #[a,bj.mpr ha,e,irr a ha]
 cases e:lt i j with
 |true=>exact T5<|up hi hj e
 |false=>
  refine T4 λh=>?_
  by_cases z:i=j
  .subst z;exact bp _ h
  .exact Nat.lt_asymm h<|up hj hi<|O.tot i j hi hj z e
section
open Classical
noncomputable def idx(vs:List ap)(v:ap):Nat:=if h:∃i:Nat,vs[i]?=aa v then choose h else 0
def Gb(nd:vs.Nodup)(h:vs[i]?=aa v):idx vs v=i:=by
 have hx:∃i:Nat,vs[i]?=aa v:=#[i,h];unfold idx;rw[dif_pos hx];have e:=choose_spec hx;have hl:=(a8.mp e).1;exact(ip hl nd).mp<|e.trans h.symm
end
def Zaa{vs:List ap}{κ:eT}{lt:Nat->Nat->Bool}(nd:vs.Nodup)(h1:1<=vs.length)(O:Ord vs.length lt)
  (ask:∀i j,i<vs.length->j<vs.length->∀(C:Bool->aw->Prop)(E:ap->aw->Prop),C (lt i j) s->aX (aS prog w) A (keyLt' κ (vs.getD i br)<|vs.getD j br) C E s) :
  aX (aS prog w) A ((sortRuns').run<|nt κ (vs.toArray.zip vs.toArray) #[] 7 ae) (λr s'=>s'=s/\∃p,Pm vs.length p/\Up lt p vs.length/\fz r.2=ae/\(aZ r.2).map (·.2)=cE (p.toList.map λi=>vs.getD i br)) E s:=by
 have hz:(vs.toArray.zip vs.toArray).toList=vs.map λv=>(v,v):=by
  rw[ksk_zip];show nL vs vs=_;clear ask O h1 nd
  induction vs with|nil=>rfl|cons v l ih=>rw[cy,ih];rfl
 let rk:bN->Nat:=λx=>rank vs.length lt<|idx vs x.1
 let In:bN->Prop:=λx=>∃i:Nat,vs[i]?=aa x.1/\x=(x.1,x.1)
 have atI:∀{x:bN},In x->idx vs x.1<vs.length/\vs.getD (idx vs x.1) br=x.1:=λ{x} #[i,e,_]=>by
  rw[Gb nd e];exact#[(a8.mp e).1,by rw[aO,e];rfl]
 have od:Tq.Od prog w A E s κ In rk:=⟨λ{x y τ Q} ix iy hk q=>by
  obtain⟨a1,a2⟩:=atI ix;obtain⟨b1,b2⟩:=atI iy;rw[lt'_eq];refine aE<|fM ?_;rw[hk];have:=ask _ _ a1 b1 (λb s'=>s'=s/\b=lt (idx vs x.1) (idx vs y.1)) (λ_ _=>False) #[rfl,rfl]
  rw[a2,b2]at this;refine aE<|wpS_lift<|fZ<|c9 this (λb s' h=>?_) λ_ _ h=>h.elim
  obtain⟨rfl,rfl⟩:=h;refine#[rfl,aN ?_];rw[<-WS O a1 b1];exact q⟩
 have ia:∀x∈(vs.toArray.zip vs.toArray).toList,In x:=λx hx=>by
  rw[hz]at hx;obtain⟨v,hv,rfl⟩:=aT.mp hx;obtain⟨i,hi,e⟩:=kP.mp hv;exact#[i,by rw[ag hi,e],rfl]
 have rks:(vs.toArray.zip vs.toArray).toList.map rk=(aU vs.length).map (rank vs.length lt):=by
  rw[hz,cf];refine bQ λi=>?_
  rw[aK,aK];by_cases h:i<vs.length
  .rw[c6 h,ag h]
   exact congrArg (λk=>aa<|rank vs.length lt k)<|Gb nd<|ag h
  .rw[bq (by lia),bq<|by rw[bF];lia];rfl
 have ndr:((vs.toArray.zip vs.toArray).toList.map rk).Nodup:=by
  rw[rks];refine cS.mpr<|iC ?_ mG;intro a b ha hb ne e;have ha:=bj.mp ha;have hb:=bj.mp hb;have h1:=WS O ha hb;have h2:=WS O hb ha;rw[e,T4<|bp _]at h1 h2;exact T7 (O.tot a b ha hb ne h1.symm) (by rw[<-h2];simp)
 have sz:(vs.toArray.zip vs.toArray).size=vs.length:=by rw[<-aH,hz,ay]
 refine Tq.sort_ok (Q:=λ_ st'=>∃p,Pm vs.length p/\Up lt p vs.length/\fz st'=ae/\(aZ st').map (·.2)=cE (p.toList.map λi=>vs.getD i br)) od ia ndr rfl rfl rfl rfl (by lia) λst' pm fl so=>?_
 have pl:=bC.mp pm;have inS:=λx hx=>ia x<|pl.mem_iff.mp hx
 have pp:((aZ st').toList.map λx=>idx vs x.1).Perm (aU vs.length):=by
  refine(pl.map _).trans<|mW ?_;rw[hz,cf];refine bQ λi=>?_
  rw[aK];by_cases h:i<vs.length
  .rw[c6 h,ag h]
   exact congrArg aa<|Gb nd<|ag h
  .rw[bq (by lia),bq<|by rw[bF];lia];rfl
 have sl:(aZ st').toList.length=vs.length:=by rw[pl.length_eq,hz,ay]
 refine#[cE<|(aZ st').toList.map λx=>idx vs x.1,bC.mpr pp,λi j hij hj=>?_,fl,?_]
 .have gk:∀k (hk:k<(aZ st').toList.length),g (cE<|(aZ st').toList.map λx=>idx vs x.1) k=idx vs ((aZ st').toList[k]).1:=λk hk=>by
   show((cE<|(aZ st').toList.map λx=>idx vs x.1).getD k 0)=_
   rw[Array.getD_eq_getD_getElem?,List.getElem?_toArray,aK,ag hk];rfl
  rw[gk i (by lia),gk j<|by lia]
  have:=bT.mp so i j (by lia) (by lia) hij
  rw[<-WS O (atI<|inS _<|aV _).1 (atI<|inS _<|aV _).1];exact T5 this
 .apply mH.mp
  rw[mI,cf];refine dD λx hx=>?_
  have hi:=inS x hx;show x.2=vs.getD (idx vs x.1) br;rw[(atI hi).2];obtain⟨_,_,e⟩:=hi;rw[e]
open PySem.Calls
def Lat(h h':bX):Prop:=∀b o,h.get? b=aa o->h'.get? b=aa o
structure Asks(prog:bE)(w:bZ)(A:cQ)(h:bX)(vs:List ap)(κ:eT)(lt:Nat->Nat->Bool):Prop where
 kind:2<=vs.length->∀(s':aw)(E:ap->aw->Prop)(Q:eT->aw->Prop),Lat h s'.heap->Q κ s'->aX (aS prog w) A (keyKind' vs.toArray) Q E s'
 nd:vs.Nodup
 cmp:∀i j,i<vs.length->j<vs.length->∀(s':aw)(C:Bool->aw->Prop)(E:ap->aw->Prop),Lat h s'.heap->C (lt i j) s'->aX (aS prog w) A (keyLt' κ (vs.getD i br)<|vs.getD j br) C E s'
noncomputable def ltR(b:Bool)(n:Nat)(lt:Nat->Nat->Bool):Nat->Nat->Bool:=λi j=>if b=aj then lt (n-1-i) (n-1-j)else lt i j
def qd(O:Ord n lt):Ord n (ltR b n lt):=by
 cases b
 .exact O
 .exact#[λi j hi hj ne h=>O.tot _ _ (by lia) (by lia) (by lia) h,λi j hi hj h=>O.asy _ _ (by lia) (by lia) h,λi j k hi hj hk h1 h2=>O.tr _ _ _ (by lia) (by lia) (by lia) h1 h2]
def QL(hi:i<vs.length):(iD b vs).getD i br=vs.getD (if b=aj then vs.length-1-i else i) br:=by
 cases b
 .rfl
 .show vs.reverse.getD i br=vs.getD (vs.length-1-i) br
  simp only[aO];rw[kw hi]
def yd(vs:List ap):(aU vs.length).map (λi=>vs.getD i br)=vs:=by
 apply bQ
 intro i;rw[aK];by_cases h:i<vs.length
 .rw[c6 h];simp[h]
 .simp[eZ h]
def list_sort_rev{P:PySem.Fin->aw->Prop}(ho:s.heap.get? a=aa (eK "list" vs.toArray n))(h64:vs.length<=100000)
  (h00:∀b o,h0.get? b=aa o->b≠a/\s.heap.get? b=aa o)(O:Ord vs.length lt)(K:Asks prog w A h0 vs κ lt)
  (h:∀p,Pm vs.length p->Up (ltR b vs.length lt) p vs.length->P (.done<|.ret .none) {s with heap:=sortedHeap s.heap a vs (cE<|iD b<|p.toList.map λi=>(iD b vs).getD i br)}) :
  aX (aS prog w) A (dQ.«list.sort» #[[.ref a],[(l9 "reverse",.bool b)]]) P E s:=by
 rw[gZ];have ha:=aF ho;refine ab<|listItems_at ho rfl ?_;refine ab<|lc ho rfl ?_;obtain⟨e1,ho1⟩:∃e1,(s.heap.update a<|dL λ_=>#[]).get? a=aa (eK "list" #[] e1):=#[_,get?_update_seq ho λ_=>#[]]
 refine ab<|mS ho1 rfl ?_;refine ab<|wpAny_newTuple ?_;refine ab<|lg ?_;refine bL ?_;have ho6:(((s.heap.update a<|dL λ_=>#[]).push<|eK "tuple" vs.toArray 0).push<|eK "list" #[] 0).get? a=aa (eK "list" #[] e1):=by
  rw[fN _ _ _ (by rw[nv,iO];exact bg<|dv ha),fN _ _ _<|by rw[iO];exact bg ha]
  exact ho1
 have lat:Lat h0 (((s.heap.update a<|dL λ_=>#[]).push<|eK "tuple" vs.toArray 0).push<|eK "list" #[] 0):=λb o e=>by
  obtain⟨nb,e⟩:=h00 b o e;exact aq _<|aq _<|by rw[k5 _ _ _ _ nb];exact e
 generalize hs':((s.heap.update a<|dL λ_=>#[]).push<|eK "tuple" vs.toArray 0).push (eK "list" #[] 0)=h1 at ho6 lat ⊢
 dsimp only
 have step:∀t:mj PySem.Fin,aX (aS prog w) A t P E {s with heap:=h1}->aX (aS prog w) A (if b=aj then(do let _ <-mn "list.sort.reverse";t)else t) P E {s with heap:=h1}:=by
  intro t ht;split
  .exact ab<|eE ht
  .exact ht
 refine step _ ?_;have hrl:=m8 b vs;have fin:∀out:List ap,out.length=vs.length->(∃p,Pm vs.length p/\Up (ltR b vs.length lt) p vs.length/\out=p.toList.map λi=>(iD b vs).getD i br)->
   P (.done<|.ret .none) {s with heap:=h1.update a (dL λ_=>cE<|iD b out)}:=by
  rintro out _ ⟨p,h1',h2',rfl⟩
  subst hs';exact h p h1' h2'
 by_cases h2:vs.toArray.size<2
 .rw[T9 h2,T9 h2]
  refine ab<|au ?_;rw[StateT.run_pure];refine ab<|au ?_
  dsimp only
  have hz:((aZ<|nt general' (if b=aj then(vs.toArray.zip vs.toArray).reverse else vs.toArray.zip vs.toArray) #[] 7 ae).map (·.2))=cE (iD b vs):=by
   rw[kat_pairs b rfl];apply mH.mp;rw[mI,ksk_zip];exact List.map_snd_zip<|az _
  rw[hz];refine ab<|mS ho6 rfl ?_;rw[kat_outs];refine ab<|lc ho6 rfl ?_ (hsz2:=by rw[ax];(try rw[m8]);(try rw[m8]);rw[du];lia)
  simp only[bne_self_eq_false,bW,if_false];refine au<|fin (iD b vs) (m8 b vs) #[cE<|aU vs.length,Array.Perm.refl _,λi j a1 a2=>by rw[ax]at h2;lia,?_]
  rw[<-hrl];exact(yd _).symm
 .rw[T8 h2,T8 h2]
  have l2:2<=vs.length:=by rw[ax]at h2;lia
  refine ab<|K.kind l2 _ _ _ lat ?_;rw[kat_pairs b rfl];have ndR:(iD b vs).Nodup:=by
   cases b
   .exact K.nd
   .exact(dz vs).nodup_iff.mpr K.nd
  refine ab (c9 (Zaa ndR (by lia) (by rw[hrl];exact qd (b:=b) O) (by
    rw[hrl];intro i j hi hj C E hC;rw[QL hi,QL hj];cases b
    .exact K.cmp i j hi hj _ _ _ lat hC
    .exact K.cmp _ _ (by simp only[if_true];lia) (by simp only[if_true];lia) _ _ _ lat hC)) ?_ λ_ _ x=>x)
  rintro ⟨⟨⟩,st'⟩ s' ⟨rfl,p,e2,e3,hf,har⟩
  rw[hrl]at e2 e3
  dsimp only
  rw[har];have hl:(p.toList.map λi=>(iD b vs).getD i br).length=vs.length:=by rw[ay,aH,e2.size]
  refine ab<|mS ho6 rfl ?_;rw[kat_outs];refine ab<|lc ho6 rfl ?_ (hsz2:=by rw[ax];(try rw[m8]);rw[hl,du];lia)
  rw[hf];simp only[bne_self_eq_false,bW,if_false];exact au<|fin _ hl #[p,e2,e3,rfl]
def GG{l:aG}{vs:List ap}{b:Bool}{κ:eT}{lt:Nat->Nat->Bool}{Q:ap->aw->Prop}(hl:s.heap.IsList l vs.toArray)(h64:vs.length<=100000)(O:Ord vs.length lt)(K:Asks prog w A.in1.in1 s.heap vs κ lt)
  (h:∀p,Pm vs.length p->Up (ltR b vs.length lt) p vs.length->Q (.ref<|s.heap.objs.size+1) {s with heap:=sortedAll s.heap vs (cE<|iD b<|p.toList.map λi=>(iD b vs).getD i br)}) :
  aX (aS prog w) A (call (.builtin "sorted") [.ref l] [(l9 "reverse",.bool b)]) Q E s:=by
 refine call_function_entry_kw kind_sorted plain_sorted entry_sorted (args_sorted_rev _ _) ?_;unfold dQ.«sorted»;refine ab (m:=checkCount "sorted" 1 1 _)<|au ?_;refine ab<|collect_list hl ?_;refine ab<|lg ?_;have hsz:((s.heap.push<|eK "list" #[] 0).update s.heap.objs.size (dL (·++vs.toArray))).objs.size=s.heap.objs.size+1:=by
  rw[iO,nv]
 have hoL:(((s.heap.push<|eK "list" #[] 0).update s.heap.objs.size (dL (·++vs.toArray))).push<|eK "list" vs.toArray 0).get? (s.heap.objs.size+1)=aa (eK "list" vs.toArray 0):=by
  rw[<-hsz];exact aI _ rfl
 show aX _ _ _ _ _ {s with heap:=((s.heap.push<|eK "list" #[] 0).update s.heap.objs.size (dL (·++vs.toArray))).push (eK "list" vs.toArray 0)}
 rw[hsz];refine ab<|bL<|wpAny_call_entry_kw slot_list_sort #[_,hoL,rfl] entry_list_sort (list_sort_rev (h0:=s.heap) hoL h64 (λb o e=>?_) O K  λp a1 a2=>#[_,rfl,?_])<|args_list_sort_rev _ _
 .have hlt:b<s.heap.objs.size:=aF e
  refine#[bg<|dv hlt,?_];rw[fN _ _ _ (by rw[hsz];exact bg<|dv hlt),k5 _ _ _ _<|bg hlt,fN _ _ _<|bg hlt]
  exact e
 .exact au #[_,rfl,h p a1 a2]
def y9(a:aG):dQ.«list.sort» #[[.ref a],[]]=dQ.«list.sort» #[[.ref a],[(l9 "reverse",.bool ai)]]:=by
 rw[PyProof.Rows.list_sort_plain,gZ];rfl
end Sq
namespace Sd
open PySem PySem.Spec PyProof.Rows L2
open Ev (E Sm Fn Bop Cop Ty Bf Mf)
end Sd
namespace Sd
open Ev (ltI Yy Zg)
theorem Qi:∀{x y:List Int},x≠y->ltI x y=ai->ltI y x=aj
 |[],[],h,_=>T7 rfl h
 |[],_::_,_,h=>by cases h
 |_::_,[],_,_=>rfl
 |a::x,b::y,h,e=>by
  unfold ltI at e ⊢;by_cases c:a=b
  .subst c
   rw[T9 rfl]at e ⊢;exact Qi (λz=>h<|by rw[z]) e
  .rw[T8 c]at e
   rw[T8<|Ne.symm c];have:=of_decide_eq_false e;exact T5 (by omega)
theorem WL:∀{x y:List Int},ltI x y=aj->ltI y x=ai
 |[],[],h=>by cases h
 |[],_::_,_=>rfl
 |_::_,[],h=>by cases h
 |a::x,b::y,e=>by
  unfold ltI at e ⊢;by_cases c:a=b
  .subst c
   rw[T9 rfl]at e ⊢;exact WL e
  .rw[T8 c]at e
   rw[T8<|Ne.symm c];have:=T6 e;exact T4 (by omega)
theorem GI:∀{x y z:List Int},ltI x y=aj->ltI y z=aj->ltI x z=aj
 |[],[],_,h,_=>by cases h
 |_::_,[],_,h,_=>by cases h
 |_,_::_,[],_,h=>by cases h
 |[],_::_,_::_,_,_=>rfl
 |a::x,b::y,c::z,e,f=>by
  unfold ltI at e f ⊢;by_cases h1:a=b
  .subst h1
   rw[T9 rfl]at e;by_cases h2:a=c
   .subst h2
    rw[T9 rfl]at f ⊢;exact GI e f
   .rw[T8 h2]at f ⊢;exact f
  .rw[T8 h1]at e
   have e':=T6 e;by_cases h2:b=c
   .subst h2
    rw[T8 h1];exact e
   .rw[T8 h2]at f
    have f':=T6 f;rw[T8<|by omega]
    exact T5 (by omega)
theorem Wr(x:List Int):∀l:List (List Int),(Yy x l).Perm (x::l)
 |[]=>cp _
 |y::r=>by
  unfold Yy;split
  .exact cp _
  .exact((Wr x r).cons y).trans<|g7 x y r
theorem Yo:∀l:List (List Int),(Zg l).Perm l
 |[]=>cp _
 |x::r=>(Wr x<|Zg r).trans<|(Yo r).cons x
theorem WE(x:List Int):∀{l:List (List Int)},(∀y∈l,x≠y)->l.Pairwise (λa b=>ltI a b=aj)->(Yy x l).Pairwise (λa b=>ltI a b=aj)
 |[],_,_=>by exact iP ..
 |y::r,hn,h=>by
  rw[be]at h;unfold Yy;split
  .rename_i c
   rw[be,be];refine#[λz hz=>?_,h]
   rcases aC.mp hz with rfl|hz
   .exact c
   .exact GI c<|h.1 z hz
  .rename_i c
   rw[be];refine#[λz hz=>?_,WE x (λy hy=>hn y<|ak _ hy) h.2]
   rcases aC.mp ((Wr x r).mem_iff.mp hz)with rfl|hz
   .exact Qi (hn y<|am ..) (by simpa using c)
   .exact h.1 z hz
theorem YY:∀{l:List (List Int)},l.Nodup->(Zg l).Pairwise (λa b=>ltI a b=aj)
 |[],_=>h9
 |x::r,h=>by
  rw[dA]at h;exact WE x (λy hy e=>h.1<|by rw[e];exact(Yo r).mem_iff.mp hy)<|YY h.2
theorem Xf:∀{a b:List (List Int)},a.Perm b->a.Pairwise (λx y=>ltI x y=aj)->b.Pairwise (λx y=>ltI x y=aj)->a=b
 |[],b,p,_,_=>(List.Perm.nil_eq p)
 |x::a,[],p,_,_=>by have:=p.length_eq;simp at this
 |x::a,y::b,p,ha,hb=>by
  rw[be]at ha hb;have e:x=y:=by
   rcases aC.mp (p.mem_iff.mp<|am ..)with h|h
   .exact h
   .rcases aC.mp (p.mem_iff.mpr (am))with h2|h2
    .exact h2.symm
    .have z1:=hb.1 x h
     have z2:=ha.1 y h2;rw[WL z1]at z2;cases z2
  subst e;rw[Xf (List.perm_cons x |>.mp p) ha.2 hb.2]
open PySem PySem.Spec PyProof.Rows L2
open Ev (E Sm Fn Bop Cop Ty Bf Mf ZR Jr XC ltP YC)
noncomputable def VJ(fin:Bool):List Int->List Int->Bool
 |[],_=>fin
 |_::_,[]=>fin
 |a::x,b::y=>if a=b then VJ fin x y else al (a<b)
theorem Qo:∀(x y:List Int),VJ (al<|x.length<y.length) x y=ltI x y
 |[],[]=>rfl
 |[],_::_=>by unfold VJ ltI;simp
 |_::_,[]=>by unfold VJ ltI;simp
 |a::x,b::y=>by
  unfold VJ ltI;have:al ((a::x).length<(b::y).length)=al (x.length<y.length):=by simp
  rw[this,Qo x y]
theorem QH{C:Bool->aw->Prop}:∀{x y:List Int}{u v:List ap}{i:Nat},Vals (x.map V.int) u->Vals (y.map V.int) v->C (VJ fin x y) s->PySem.W.KatLex prog w A b fin C (u.zip v) i s
 |[],_,_,_,_,.nil,_,h=>by rw[iq];exact mX h
 |_::_,[],_,_,_,_,.nil,h=>by rw[g8];exact mX h
 |a::x,c::y,_,_,i,.cons ra ta,.cons rb tb,h=>by
  obtain⟨t,rfl⟩:=ra;obtain⟨t',rfl⟩:=rb;rw[cy];refine PySem.W.kat_cons<|iG ?_;unfold VJ at h;by_cases e:a=c
  .rw[T9 e]at h
   rw[beq_iff_eq.mpr e];exact PySem.W.kat_yes<|QH ta tb h
  .rw[T8 e]at h
   rw[beq_eq_false_iff_ne.mpr e];refine PySem.W.kat_no ?_;cases q:(b&&i == 0)with|true=>exact oneLt_int h|false=>exact PySem.W.kat_one _ _<|lt_int h
inductive RowsAt(h:bX):List (List Int)->List ap->Prop where
 |nil:RowsAt h [] []
 |cons {r:List Int} {rs:List (List Int)} {vs:List ap} {a:aG} {o:eX} {us:List ap} {m:Nat} (ho:h.get? a=aa o) (hc:o.cls=.type "tuple") (hd:o.data=.seq us.toArray m) (hv:Vals (r.map V.int) us) (t:RowsAt h rs vs):RowsAt h (r::rs) (.ref a::vs)
theorem Vo:∀{ks:List D}{k:List Int},Pv.intsV ks=aa k->ks=k.map Pv.V.int
 |[],k,h=>by cases h;rfl
 |d::ks,k,h=>by
  obtain⟨n,r,rfl,e,rfl⟩:=Ux h;rw[Vo e];rfl
def y3(h:Pv.ZV (d::ds)=aa rs):∃a b,d=Pv.Zb a/\Pv.ZV ds=aa b/\rs=a::b:=by
 cases d with
 |tup x=>
  have h:(match Pv.intsV x,Pv.ZV ds with
   |some a,aa b=>aa (a::b)
   |_,_=>ae)=aa rs:=h
  cases q1:Pv.intsV x with
  |none=>rw[q1]at h;cases h
  |some a=>
   cases q2:Pv.ZV ds with
   |none=>rw[q1,q2]at h;cases h
   |some b=>
    rw[q1,q2]at h;exact#[a,b,congrArg Pv.V.tup<|Vo q1,rfl,(af h).symm]
 |_=>exact Ev.nos h
theorem Rq.intsV:∀{r:List Int}{xs:List V},Rq O H (r.map Pv.V.int) xs->xs=r.map V.int
 |[],xs,h=>by exact h
 |n::r,xs,h=>by
  have h':=h;obtain⟨v,vs,rfl,a,b⟩:=h';rw[a.int',Rq.intsV b];rfl
theorem XX(I:Inv X pq U H s):∀{ds:List D}{rs:List (List Int)}{xs:List V}{its:List ap},Pv.ZV ds=aa rs->Rq O H ds xs->Vals xs its->RowsAt s.heap rs its/\ds=rs.map Pv.Zb
 |[],rs,xs,its,h,r,v=>by
  subst r;cases v;cases h;exact#[.nil,rfl]
 |d::ds,rs,xs,its,h,r,v=>by
  obtain⟨x,xs',rfl,r1,r2⟩:=r;cases v with
  |cons v1 v2=>
   obtain⟨a,b,rfl,q2,rfl⟩:=y3 h;obtain⟨t,e⟩:=XX I q2 r2 v2;obtain⟨p,ys,rfl,hp,ry⟩:=r1.tup';have ey:=Rq.intsV ry;subst ey;cases v1;obtain⟨us,rv,⟨o,ho,hc,m,hd⟩,_⟩:=I.tuple<|SqT.of hp;exact#[.cons ho hc hd rv t,by rw[e];rfl]
theorem RowsAt.length{h:bX}:∀{rs:List (List Int)}{vs:List ap},RowsAt h rs vs->rs.length=vs.length
 |_,_,.nil=>rfl
 |_,_,.cons _ _ _ _ t=>by rw[aL,aL,RowsAt.length t]
theorem RowsAt.at{h:bX}:∀{rs:List (List Int)}{vs:List ap}(i:Nat),RowsAt h rs vs->i<vs.length->∃a o us m,vs.getD i br=.ref a/\h.get? a=aa o/\o.data=.seq us.toArray m/\Vals ((rs.getD i []).map V.int) us
 |_,_,_,.nil,hi=>by simp at hi
 |_,_,0,.cons ho hc hd hv t,_=>#[_,_,_,_,rfl,ho,hd,hv]
 |_,_,i+1,.cons ho hc hd hv t,hi=>by
  obtain⟨a,o,us,m,e1,e2,e3,e4⟩:=RowsAt.at i t (by simpa using hi)
  exact#[a,o,us,m,by simpa using e1,e2,e3,by simpa using e4]
theorem RowsAt.tups(k:Sq.Lat h h'):∀{rs:List (List Int)}{vs:List ap},RowsAt h rs vs->(∀r∈rs,r≠[])->∃fs,PySem.W.KatTups h' vs fs/\fs.length=vs.length/\∀v∈fs,∃n t,v=ml n t
 |_,_,.nil,_=>#[[],.nil,rfl,λv hv=>by cases hv]
 |_,_,.cons (r:=r) ho hc hd hv t,hn=>by
  obtain⟨fs,t1,t2,t3⟩:=RowsAt.tups k t λr hr=>hn r<|ak _ hr
  have hr:=hn r<|am ..;cases r with
  |nil=>exact T7 rfl hr
  |cons n r=>
   obtain⟨u,g,rel⟩:=hv.get (i:=0) rfl;refine#[u::fs,.cons (k _ _ ho) hc hd (by simpa using g) t1,by rw[aL,aL,t2],λv hv=>?_]
   rcases aC.mp hv with rfl|hv
   .obtain⟨tk,e⟩:=rel
    exact#[n,tk,e]
   .exact t3 v hv
theorem W0:∀{x y:List Int}{us:List ap},Vals (x.map V.int) us->Vals (y.map V.int) us->x=y
 |[],[],_,_,_=>rfl
 |[],_::_,_,.nil,h=>by cases h
 |_::_,[],_,h,.nil=>by cases h
 |a::x,b::y,_,.cons r t,.cons r' t'=>by
  obtain⟨k,rfl⟩:=r;obtain⟨k',e⟩:=r';cases e;rw[W0 t t']
def wP{B:Type}{df:B}{rs:List B}{vs:List ap}(hl:rs.length=vs.length)(nd:rs.Nodup)(h:∀i j,i<vs.length->j<vs.length->vs.getD i br=vs.getD j br->rs.getD i df=rs.getD j df):vs.Nodup:=by
 refine bT.mpr λi j hi hj hij e=>?_
 have:=h i j hi hj (by simp[hi,hj,e])
 simp only[aO,ag (show i<rs.length by lia),ag (show j<rs.length by lia)]at this
 exact bT.mp nd i j (by lia) (by lia) hij this
def Uo{prog:bE}{w:bZ}{A:cQ}{h:bX}{rs:List (List Int)}{vs:List ap}(R:RowsAt h rs vs)(nd:rs.Nodup)(hn:∀r∈rs,r≠[]):Sq.Asks prog w A h vs (tuples' aj) (λi j=>ltI (rs.getD i [])<|rs.getD j []):=by
 refine#[λh2 s' E Q k q=>?_,wP (df:=[]) R.length nd λi j hi hj e=>?_,λi j hi hj s' C E k q=>?_]
 .obtain⟨fs,t1,t2,t3⟩:=R.tups k hn
  exact PySem.W.kat_kind (T:=.type "int") t1 (by lia) (λv hv=>by obtain⟨n,t,rfl⟩:=t3 v hv;exact PySem.W.Looks.of_pure rfl) rfl q
 .obtain⟨a,o,us,m,e1,e2,e3,e4⟩:=R.at i hi
  obtain⟨a',o',us',m',f1,f2,f3,f4⟩:=R.at j hj;rw[e1,f1]at e;cases e;rw[e2]at f2;cases f2;rw[e3]at f3;cases f3;exact W0 e4 f4
 .obtain⟨a,o,us,m,e1,e2,e3,e4⟩:=R.at i hi
  obtain⟨a',o',us',m',f1,f2,f3,f4⟩:=R.at j hj;rw[e1,f1];refine PySem.W.kat_lt (k _ _ e2) e3 (k _ _ f2) f3<|QH e4 f4 ?_;have l1:us.toArray.size=(rs.getD i []).length:=by rw[ax,<-e4.length,ay]
  have l2:us'.toArray.size=(rs.getD j []).length:=by rw[ax,<-f4.length,ay]
  rw[l1,l2,Qo];exact q
def QM{rs:List (List Int)}{n:Nat}(hn:rs.Nodup)(hl:rs.length=n):Sq.Ord n (λi j=>ltI (rs.getD i [])<|rs.getD j []):=by
 have hd:∀i j,i<n->j<n->i≠j->rs.getD i []≠rs.getD j []:=λi j hi hj ne e=>by
  simp only[aO]at e;have hi':i<rs.length:=by lia
  have hj':j<rs.length:=by lia
  refine ne<|(ip hi' hn).mp ?_;rw[ag hi',ag hj']at e ⊢;exact congrArg aa e
 exact#[λi j hi hj ne e=>Qi (hd i j hi hj ne) e,λi j _ _ e=>WL e,λi j k _ _ _ e f=>GI e f]
def Vn{B β:Type}(b:Bool)(f:B->β)(l:List B):bn b (l.map f)=(bn b l).map f:=by
 cases b
 .rfl
 .exact mJ.symm
def JP{B:Type}(b:Bool)(l:List B):(bn b l).Perm l:=by
 cases b
 .exact cp _
 .exact dz l
def WD{B:Type}{d:B}{b:Bool}{vs:List B}{i:Nat}(hi:i<vs.length):(bn b vs).getD i d=vs.getD (if b=aj then vs.length-1-i else i) d:=by
 cases b
 .rfl
 .show vs.reverse.getD i d=vs.getD (vs.length-1-i) d
  simp only[aO];rw[kw hi]
def QK{rs:List (List Int)}{b:Bool}{p:Array Nat}(hn:rs.Nodup)(h1:Sq.Pm rs.length p)(h2:Sq.Up (Sq.ltR b rs.length λi j=>ltI (rs.getD i [])<|rs.getD j []) p rs.length) :
  (p.toList.map λi=>(bn b rs).getD i [])=Zg rs:=by
 have hp:p.toList.Perm (aU rs.length):=by simpa using bC.mp h1
 have hl:p.toList.length=rs.length:=by rw[hp.length_eq,bF]
 refine Xf ?_ ?_<|YY hn
 .refine((hp.map _).trans ?_).trans (Yo rs).symm
  have e:(aU rs.length).map (λi=>(bn b rs).getD i [])=bn b rs:=by
   apply bQ
   intro i;rw[aK];by_cases h:i<rs.length
   .have:i<(bn b rs).length:=by rw[fB];exact h
    rw[c6 h];simp[this]
   .have:(bn b rs).length<=i:=by rw[fB];lia
    simp[eZ h,this]
  rw[e];exact JP b rs
 .rw[cS,bT]
  intro i j hi hj hij;have g1:p.toList[i]=Sq.g p i:=by
   have:=Sq.Za4 (by simpa using hi)
   rw[<-bo,ag hi]at this;exact af this
  have g2:p.toList[j]=Sq.g p j:=by
   have:=Sq.Za4 (by simpa using hj)
   rw[<-bo,ag hj]at this;exact af this
  rw[g1,g2,WD (h1.lt<|by lia),WD<|h1.lt<|by lia]
  have:=h2 i j hij (by lia)
  cases b
  .exact this
  .exact this
def QZ{F:List Nat}{xs:List V}{rs:List (List Int)}(h:Rq O H (rs.map Pv.Zb) xs)(hF:∀i∈F,i<rs.length):Rq O H ((F.map λi=>rs.getD i []).map Pv.Zb) (F.map λi=>xs.getD i V.non):=by
 induction F with
 |nil=>exact Rq.nil
 |cons i F ih=>
  refine Rq.cons ?_<|ih λj hj=>hF j<|ak _ hj
  have hi:=hF i<|am ..;obtain⟨v,g,r⟩:=h.get (by rw[aK,ag hi];rfl)
  show Rep O H (Pv.Zb<|rs.getD i []) (xs.getD i V.non);rw[aO,aO,g,ag hi];exact r
def JG{F:List Nat}{xs:List V}{us:List ap}(h:Vals xs us)(hF:∀i∈F,i<xs.length):Vals (F.map λi=>xs.getD i V.non) (F.map λi=>us.getD i br):=by
 induction F with
 |nil=>exact .nil
 |cons i F ih=>
  refine .cons ?_<|ih λj hj=>hF j<|ak _ hj
  have hi:=hF i<|am ..;obtain⟨u,g,r⟩:=h.get<|ag hi;show Zs (xs.getD i V.non) (us.getD i br);rw[aO,aO,g,ag hi];exact r
def J0(h:Rq O H ds xs):Rq O H (bn b ds) (bn b xs):=by
 cases b
 .exact h
 .exact h.reverse
def QP :∀{xs:List V}{us:List ap},Vals xs us->Vals (bn b xs) (bn b us):=by
 cases b
 .exact λh=>h
 .have snoc:∀{xs:List V}{us:List ap}{x:V}{u:ap},Vals xs us->Zs x u->Vals (xs++[x]) (us++[u]):=by
   intro xs us x u h r
   induction h with|nil=>exact .cons r .nil|cons a _ ih=>exact .cons a ih
  intro xs us h;show Vals xs.reverse us.reverse
  induction h with|nil=>exact .nil|cons r t ih=>rw[d6,d6];exact snoc ih r
def jO(b:Bool):List V->Hp->VK->Prop:=λvs H Q=>∃O ds rws v,vs=[v]/\Rep O H (.lst ds) v/\Pv.ZV ds=aa rws/\ZR rws=aj/\∀ys,Rq O H ((if b then(Zg rws).reverse else Zg rws).map Pv.Zb) ys->∀p,H p=ae->Q (.ref p) (upd H p<|.lst ys)
def yU{pq:List (aG×eX)}{s:aw}{U:L2.St}{H:Hp}{vs:List V}{us:List ap}{Q:VK}{b:Bool}(I:Inv X pq U H s)(r:Vals vs us)(h:jO b vs H Q) :
  ∃(l:aG)(its:List ap)(rs:List (List Int)),us=[.ref l]/\s.heap.IsList l its.toArray/\its.length<=100000/\rs.length=its.length/\Sq.Ord its.length (λi j=>ltI (rs.getD i [])<|rs.getD j [])/\(∀A,Sq.Asks X.prog X.w A s.heap its (tuples' aj) λi j=>ltI (rs.getD i [])<|rs.getD j [])/\
   ∀p,Sq.Pm its.length p->Sq.Up (Sq.ltR b its.length λi j=>ltI (rs.getD i [])<|rs.getD j []) p its.length->
    EP X pq U Q (.ref<|s.heap.objs.size+1) {s with heap:=sortedAll s.heap its (cE<|bn b<|p.toList.map λi=>(bn b its).getD i br)}:=by
 obtain⟨O,ds,rws,v,rfl,r1,hrw,hok,h3⟩:=h;obtain⟨l,xs,rfl,hx,_,rx⟩:=r1.lst';obtain⟨u,rfl,ru⟩:=Xy r;cases ru;obtain⟨its,rv,pl,hz⟩:=I.list<|SqL.of hx;obtain⟨RA,ed⟩:=XX I hrw rx rv;obtain⟨hok1,hok3⟩:=(aD _ _).mp hok;obtain⟨hok1,hok2⟩:=(aD _ _).mp hok1;have h64:=T6 hok1;have hnd:=T6 hok2;have hne:∀r∈rws,r≠[]:=λr hr e=>by
  have:=bG.mp hok3 r hr;rw[e]at this;cases this
 have hlen:=RA.length;refine#[l,its,rws,rfl,pl.isList,by lia,hlen,QM hnd hlen,λA=>Uo RA hnd hne,λp hp hu=>?_]
 rw[<-hlen]at hp hu;have out:=QK hnd hp hu;have hmem:∀i∈p.toList,i<rws.length:=λi hi=>by
  have hp':p.toList.Perm (aU rws.length):=by simpa using bC.mp hp
  exact bj.mp<|hp'.mem_iff.mp hi
 subst ed;have xl:xs.length=rws.length:=by rw[rx.length,ay]
 have rx1:Rq O H ((bn b rws).map Pv.Zb) (bn b xs):=by rw[<-Vn];exact J0 rx
 have rx2:=QZ rx1 (by rw[fB];exact hmem)
 rw[out]at rx2;have rx3:=J0 (b:=b) rx2;have rv2:=QP (b:=b)<|JG (QP (b:=b) rv)<|by rw[fB,xl];exact hmem
 have eb:(if b=aj then(Zg rws).reverse else Zg rws)=bn b (Zg rws):=rfl
 rw[eb,<-Vn]at h3;obtain⟨ep,he⟩:=sortedAll_at s.heap its<|cE<|bn b<|p.toList.map λi=>(bn b its).getD i br
 refine#[.ref<|s.heap.objs.size+1,_,I.laid (t':=s.toks) (λb ob q=>sortedAll_old q) (im _) ?_,rfl,h3 _ rx3 _<|I.hok.fresh<|im _]
 refine#[?_,_,ep,rv2,he];rw[fB,ay,aH,hp.size,du];lia
def Go{kp kp2:gD}{q0}(hm:X.mg "sorted" = ae)(ha:CA X xw C [e] [i])(hg:Gl X "sorted")
  (he:eC pos (aM [e] X.env)=(ai,cV e X.env)::eC pos (aM [] X.env))(hpl:(eC pos<|aM [e] X.env).any (·.1)=ai) :
  CE X xw C (.Call (.Name "sorted" p) [e] [#[aa "reverse",.Constant (.bool aj) q0 kp,kp2]] pos) (.blt .sortedR [i]):=.mk <| by
 intro pq s U H Q I hq;obtain⟨O,l,S,st,lr,h⟩:=hq;refine fC<|Y7 I hg hm (show cY "sorted" = aa (.builtin "sorted")from rfl) ?_ (by decide)<|by decide
 refine callWith_kw (thn (ha.h pos pq s U H (λvs H1=>jO aj vs H1 Q) I ?_) λus s1 #[vs,H1,I1,r1,q1]=>?_) he hpl rfl rfl
 .refine#[O,l,S,st,lr,End.bind (show End X.K xw Rep O H Q ((Pv.pvs C [i] l S).bind λxs S=>Pv.po (Pv.Y6 .sortedR xs) S)from h) λxs S1 ρ1 H1 vs f1 st1 r1 h1=>?_]
  obtain⟨d,v,z,rfl,r1,hz,h1⟩:=X0 h1 r1;cases d with
  |lst ds=>
   obtain⟨rws,hr,hz⟩:=aB.mp hz;split at hz
   .cases hz;exact#[ρ1,ds,rws,v,rfl,r1,hr,‹_›,λys r=>h1.newL st1 r]
   .cases hz
  |_=>exact Ev.nos hz
 .refine kws_cons (thn (vM pq s1 U H1 (λv H2=>v=.bl aj/\H2=H1) I1 #[rfl,rfl]) λu s2 #[x,H2,I2,r2,e1,e2]=>kws_nil ?_)
  subst e1 e2;cases r2;obtain⟨l,its,rs,rfl,h1,h2,h3,h4,h5,h6⟩:=yU I2 r1 q1;exact Sq.GG (b:=aj) h1 h2 h4 (h5 _) λp a b=>h6 p a b
end Sd
namespace Sd
open PySem PySem.Spec PyProof.Rows L2
open Ev (ltI)
open PySem.SeqAt PySem.MeetsSeq PySem.MeetsSeq2 PySem.MeetsSeq3 PySem.SeqRoads2
open PySem.AutoSeq1 (wpAny_loadPart')
def Gj(l b:aG)(u v:List ap)(n n2:Nat)(dd dd2:Option aG)(sl sl2:Array (Option ap))(x y:List Int)(hx:Vals (x.map V.int) u)(hy:Vals (y.map V.int) v) :
  nq (dQ.«tuple.__lt__» #[[.ref l,.ref b],[]]) (λA R s=>s.heap.get? l=aa {cls:=.type "tuple",dict:=dd,data:=.seq u.toArray n,slots:=sl}/\s.heap.get? b=aa {cls:=.type "tuple",dict:=dd2,data:=.seq v.toArray n2,slots:=sl2}/\R (.ok<|.ret<|.bool<|ltI x y) s):=
 .of_wp λprog w A R s h=>by
  obtain⟨hp,g,d,tk,os⟩:=s;obtain⟨hl,hb,h⟩:=h;have f2:=dq;rw[<-Qo]at h
  wp_walk using gw hl,gw hb,wpAny_forIn_list _ (λrest b s'=>b.1=ae/\s'=#[hp,g,d,tk,os]/\∃x' y' u' v',rest=nL u' v'/\Vals (l8 V.int x') u'/\Vals (l8 V.int y') v'/\R (.ok<|.ret<|.bool<|VJ (al<|x.length<y.length) x' y') #[hp,g,d,tk,os]) _
  case turn=>
   rintro ⟨a,c⟩ rest b s' ⟨hb',rfl,x',y',u',v',hz,hx',hy',hR⟩
   match x',y',u',v',hx',hy',hz,hR with
   |i::x',j::y',_::u',_::v',.cons ra ta,.cons rb tb,hz,hR=>
    obtain⟨t,rfl⟩:=ra;obtain⟨t',rfl⟩:=rb;rw[cy]at hz;injection hz with h1 h2
    cases h1;unfold VJ at hR;refine ab<|iG ?_;by_cases e:i=j
    .rw[T9 e]at hR
     rw[beq_iff_eq.mpr e]
     wp_walk
     exact#[rfl,rfl,x',y',u',v',h2,ta,tb,hR]
    .rw[T8 e]at hR
     rw[beq_eq_false_iff_ne.mpr e];simp only[ny,if_true];refine ab<|eE<|ab<|PyProof.Rows.lt_int ?_
     wp_walk
     exact#[_,rfl,by simpa using hR]
   |[],_,_,_,.nil,_,hz,_=>rw[iq]at hz;cases hz
   |_::_,[],_,_,_,.nil,hz,_=>rw[g8]at hz;cases hz
  case fin=>
   rintro ⟨b1,b2⟩ s' ⟨hb',rfl,x',y',u',v',hz,hx',hy',hR⟩
   simp only at hb';subst hb';have hf:VJ (al<|x.length<y.length) x' y'=al (x.length<y.length):=by
    match x',y',u',v',hx',hy',hz with
    |[],_,_,_,_,_,_=>rfl
    |_::_,[],_,_,_,_,_=>rfl
    |_::_,_::_,_::_,_::_,.cons _ _,.cons _ _,hz=>rw[cy]at hz;cases hz
   rw[hf]at hR;have l1:u.length=x.length:=by rw[<-hx.length,ay]
   have l2:v.length=y.length:=by rw[<-hy.length,ay]
   wp_walk
   exact#[_,rfl,by simpa[fP,l1,l2]using hR]
  case h=>
   exact#[rfl,rfl,x,y,u,v,by simp,hx,hy,h]
def ut{E:ap->aw->Prop}{Q:ap->aw->Prop}(ha:s.heap.get? a=aa o)(hc:o.cls=.type "tuple")(hd:o.data=.seq u.toArray m)(hx:Vals (x.map V.int) u)
  (hb:s.heap.get? b=aa o')(hc':o'.cls=.type "tuple")(hd':o'.data=.seq v.toArray m')(hy:Vals (y.map V.int) v)(hu:A.units<db)(q:Q (.bool<|ltI x y) s):aX (aS prog w) A (cu .Lt (.ref a)<|.ref b) Q E s:=by
 obtain⟨cls,dd,data,sl⟩:=o;obtain⟨cls2,dd2,data2,sl2⟩:=o';simp only at hc hd hc' hd';subst hc hd hc' hd';exact ke (op:=.Lt) #[_,ha,rfl] #[_,hb,rfl] mY mK (md _ _) (Gj a b u v m m' dd dd2 sl sl2 x y hx hy) #[ha,hb,#[(λx=>nomatch x),q]] hu
end Sd
namespace Sd
open Ev (ltI ltP Jr XC)
open PySem PySem.Spec PyProof.Rows L2
theorem UG:∀{x:List Int}{u:List ap}{j:Nat}(h:j<u.length),Vals (x.map V.int) u->∃t,u[j]=ml (x.getD j 0) t
 |[],[],_,h,.nil=>by simp at h
 |_::_,_::_,0,_,.cons ra _=>by obtain⟨t,rfl⟩:=ra;exact#[t,rfl]
 |_::x,_::u,j+1,h,.cons _ ta=>by
  obtain⟨t,e⟩:=UG (by simpa using h) ta
  exact#[t,by simpa using e]
def Zb9:∀{x y:List Int},((aU<|nI x.length y.length).all (λj=>x.getD j 0 == y.getD j 0)&&x.length == y.length)=al (x=y):=by
 intro x y;rw[cK,aD,bG,decide_eq_true_iff]
 constructor
 .rintro ⟨h1,h2⟩
  have h2:x.length=y.length:=by simpa using h2
  apply iQ h2;intro i hi hj;have:=h1 i<|bj.mpr<|by lia
  simpa[hi,hj]using this
 .rintro rfl
  exact#[λj _=>by simp,by simp]
def Jk(h:bX)(r:List Int)(v:ap):Prop:=∃a o us m,v=.ref a/\h.get? a=aa o/\o.cls=.type "tuple"/\o.data=.seq us.toArray m/\Vals (r.map V.int) us
def uI(hx:Jk s.heap x v)(hy:Jk s.heap y u)(hu:A.units<db):fT A s v u (al<|x=y):=by
 obtain⟨a,o,us,m,rfl,ho,hc,hd,hv⟩:=hx;obtain⟨b,o',us',m',rfl,ho',hc',hd',hv'⟩:=hy;have l1:us.toArray.size=x.length:=by rw[ax,<-hv.length,ay]
 have l2:us'.toArray.size=y.length:=by rw[ax,<-hv'.length,ay]
 by_cases e:a=b
 .subst e
  rw[ho]at ho';cases ho';rw[hd]at hd';injection hd' with h1 h2
  have h1:us=us':=by simpa using h1
  subst h1;rw[T5<|W0 hv hv'];exact gj _
 .refine gQ e ?_
  have:=ig #[o,ho,hc,m,hd] #[o',ho',hc',m',hd'] hu (λj h1 h2=>by
   obtain⟨t,e1⟩:=UG (by simpa using h1) hv
   obtain⟨t',e2⟩:=UG (by simpa using h2) hv'
   rw[show us.toArray[j]=us[j]'(by simpa using h1) by simp,show us'.toArray[j]=us'[j]'(by simpa using h2) by simp,e1,e2]
   exact ly _ _ _ _)
  rw[l1,l2,Zb9]at this;exact this
def xn{E:ap->aw->Prop}{Q:ap->aw->Prop}(hx:Jk s.heap x v)(hy:Jk s.heap y u)(hu:A.units<db)(q:Q (.bool<|ltI x y) s):aX (aS prog w) A (cu .Lt v u) Q E s:=by
 obtain⟨a,o,us,m,rfl,ho,hc,hd,hv⟩:=hx;obtain⟨b,o',us',m',rfl,ho',hc',hd',hv'⟩:=hy;exact ut ho hc hd hv ho' hc' hd' hv' hu q
noncomputable def Q8(fin:Bool):List (List Int)->List (List Int)->Bool
 |[],_=>fin
 |_::_,[]=>fin
 |a::x,b::y=>if a=b then Q8 fin x y else ltI a b
theorem zL:∀(x y:List (List Int)),Q8 (al<|x.length<y.length) x y=ltP x y
 |[],[]=>rfl
 |[],_::_=>by unfold Q8 ltP;simp
 |_::_,[]=>by unfold Q8 ltP;simp
 |a::x,b::y=>by
  unfold Q8 ltP;have:al ((a::x).length<(b::y).length)=al (x.length<y.length):=by simp
  rw[this,zL x y]
inductive RowsIn(h:bX):List (List Int)->List ap->Prop where
 |nil:RowsIn h [] []
 |cons {r:List Int} {rs:List (List Int)} {v:ap} {vs:List ap} (a:Jk h r v) (t:RowsIn h rs vs):RowsIn h (r::rs) (v::vs)
theorem RowsIn.length :∀{rs:List (List Int)}{vs:List ap},RowsIn h rs vs->rs.length=vs.length
 |_,_,.nil=>rfl
 |_,_,.cons _ t=>by rw[aL,aL,RowsIn.length t]
open Ev (E Sm Fn Bop Cop Ty Bf Mf Yy Zg ZR YC)
section
variable{X:Cx}{pq:List (aG×eX)}{U:L2.St}{H:Hp}{s:aw}{O:Mx}
theorem RowsAt.ins{h:bX}:∀{rs:List (List Int)}{vs:List ap},RowsAt h rs vs->RowsIn h rs vs
 |_,_,.nil=>.nil
 |_,_,.cons ho hc hd hv t=>.cons #[_,_,_,_,rfl,ho,hc,hd,hv]<|RowsAt.ins t
end
open PySem.SeqAt PySem.MeetsSeq PySem.MeetsSeq2 PySem.MeetsSeq3 PySem.SeqRoads2
open PySem.AutoSeq1 (wpAny_loadPart')
def Gc(l b:aG)(u v:List ap)(n n2:Nat)(dd dd2:Option aG)(sl sl2:Array (Option ap))(x y:List (List Int)) :
  nq (dQ.«tuple.__lt__» #[[.ref l,.ref b],[]]) (λA R s=>s.heap.get? l=aa {cls:=.type "tuple",dict:=dd,data:=.seq u.toArray n,slots:=sl}/\s.heap.get? b=aa {cls:=.type "tuple",dict:=dd2,data:=.seq v.toArray n2,slots:=sl2}/\A.units+1<db/\RowsIn s.heap x u/\RowsIn s.heap y v/\R (.ok<|.ret<|.bool<|ltP x y) s):=
 .of_wp λprog w A R s h=>by
  obtain⟨hp,g,d,tk,os⟩:=s;obtain⟨hl,hb,hu,hx,hy,h⟩:=h;have f2:=dq;rw[<-zL]at h
  wp_walk using gw hl,gw hb,wpAny_forIn_list _ (λrest b s'=>b.1=ae/\s'=#[hp,g,d,tk,os]/\∃x' y' u' v',rest=nL u' v'/\RowsIn hp x' u'/\RowsIn hp y' v'/\R (.ok<|.ret<|.bool<|Q8 (al<|x.length<y.length) x' y') #[hp,g,d,tk,os]) _
  case turn=>
   rintro ⟨a,c⟩ rest b s' ⟨hb',rfl,x',y',u',v',hz,hx',hy',hR⟩
   match x',y',u',v',hx',hy',hz,hR with
   |i::x',j::y',_::u',_::v',.cons ra ta,.cons rb tb,hz,hR=>
    rw[cy]at hz;injection hz with h1 h2
    cases h1;unfold Q8 at hR;refine ab<|uI ra rb (by lia) prog w _ _ ?_
    by_cases e:i=j
    .rw[T9 e]at hR
     rw[T5 e]
     wp_walk
     exact#[rfl,rfl,x',y',u',v',h2,ta,tb,hR]
    .rw[T8 e]at hR
     rw[T4 e];simp only[ny,if_true];refine ab<|eE<|ab<|xn ra rb (by lia) ?_
     wp_walk
     exact#[_,rfl,by simpa using hR]
   |[],_,_,_,.nil,_,hz,_=>rw[iq]at hz;cases hz
   |_::_,[],_,_,_,.nil,hz,_=>rw[g8]at hz;cases hz
  case fin=>
   rintro ⟨b1,b2⟩ s' ⟨hb',rfl,x',y',u',v',hz,hx',hy',hR⟩
   simp only at hb';subst hb';have hf:Q8 (al<|x.length<y.length) x' y'=al (x.length<y.length):=by
    match x',y',u',v',hx',hy',hz with
    |[],_,_,_,_,_,_=>rfl
    |_::_,[],_,_,_,_,_=>rfl
    |_::_,_::_,_::_,_::_,.cons _ _,.cons _ _,hz=>rw[cy]at hz;cases hz
   rw[hf]at hR;have l1:u.length=x.length:=by rw[<-hx.length]
   have l2:v.length=y.length:=by rw[<-hy.length]
   wp_walk
   exact#[_,rfl,by simpa[fP,l1,l2]using hR]
  case h=>
   exact#[rfl,rfl,x,y,u,v,by simp,hx,hy,h]
def xR{E:ap->aw->Prop}{Q:ap->aw->Prop}(ha:s.heap.get? a=aa o)(hc:o.cls=.type "tuple")(hd:o.data=.seq u.toArray m)(hx:RowsIn s.heap x u)
  (hb:s.heap.get? b=aa o')(hc':o'.cls=.type "tuple")(hd':o'.data=.seq v.toArray m')(hy:RowsIn s.heap y v)(hu:A.units+3<db)(q:Q (.bool<|ltP x y) s):aX (aS prog w) A (cu .Lt (.ref a)<|.ref b) Q E s:=by
 obtain⟨cls,dd,data,sl⟩:=o;obtain⟨cls2,dd2,data2,sl2⟩:=o';simp only at hc hd hc' hd';subst hc hd hc' hd';exact ke (op:=.Lt) #[_,ha,rfl] #[_,hb,rfl] mY mK (md _ _) (Gc a b u v m m' dd dd2 sl sl2 x y) #[ha,hb,by first|exact hu|(lia)|lia,hx,hy,#[(λx=>nomatch x),q]] (by lia)
def z5(hu:X.A.units+7<db):YM X xw .Lt .lt:=by
 intro pq s U H v0 u0 v u Q I rv ru #[O,S,x,y,st,rx,ry,h];rcases ZcM st rx ry h with z|⟨a,b,A,B,rfl,rfl,hA,hB,q⟩
 .exact ZcF pq s U H v0 u0 v u Q I rv ru z
 .obtain⟨p1,xs,rfl,hp1,r1⟩:=rx.tup'
  obtain⟨p2,ys,rfl,hp2,r2⟩:=ry.tup';cases rv;cases ru;obtain⟨us,w1,⟨o,ho,hc,m,hd⟩,_⟩:=I.tuple<|SqT.of hp1;obtain⟨us',w2,⟨o',ho',hc',m',hd'⟩,_⟩:=I.tuple<|SqT.of hp2;obtain⟨ra,_⟩:=XX I hA r1 w1;obtain⟨rb,_⟩:=XX I hB r2 w2;exact xR ho hc hd ra.ins ho' hc' hd' rb.ins (by lia) #[.bl<|ltP A B,H,I,rfl,q]
end Sd
namespace Sd
open PySem PySem.Spec PyProof.Rows L2
open Ev (E Sm Fn Bop Cop Ty Bf Mf)
section
variable{prog:bE}{w:bZ}{A:cQ}{E:ap->aw->Prop}{s:aw}{it d:aG}{i n ep:Nat}{od:eX}{es:Array fb}
def yQ{Q:ap->aw->Prop}(hd:(d == cG)=ai)(ho:s.heap.get? d=aa od)(hc:od.ExactDict)(hdat:od.data=.dict es ep)
  (hQ:Q (.ref s.heap.objs.size) {s with heap:=s.heap.push {cls:=.type "dict_keyiterator",data:=.fields [.ref d,.int 0 0,.int es.size 0,.int ep 0].toArray}}) :
  aX (aS prog w) A (nH<|.ref d) Q E s:=by
 have hT:s.TypeIs (.ref d) "dict":=#[_,ho,hc.1];refine wpAny_pyIter_slot hT mL<|cM mL hT F.entry_dict_iter ?_<|F.args_dict_iter_1 _;unfold dQ.«dict.__iter__»;refine ab ?_;refine ab<|kx hT<|au (show aX _ _ (ky d >>= _) _ _ s from ?_)
 unfold ky;rw[T8<|by rw[hd];exact aJ]
 refine ab<|au<|ab<|me ho hdat<|ab<|wpAny_dictEpoch ho hdat ?_;refine ab<|bv<|au #[_,rfl,"dict_keyiterator",_,#[_,aI _ rfl,rfl],gx.lookup,?_]
 simpa[fS]using hQ
def Uc{Q:Option ap->aw->Prop}(hit:s.heap.IsKeyIter it d i es.size ep)(ho:s.heap.get? d=aa od)(hdat:od.data=.dict es ep)
  (h1:∀(hlt:i<es.size) h',h'.IsKeyIter it d (i+1) es.size ep->eB it s.heap h'->Q (aa es[i].key) {s with heap:=h' })
  (h2:es.size<=i->A.handled=ae/\∀h',f8 it s.heap h'->Q ae {s with heap:=h' }):aX (aS prog w) A (mm<|.ref it) Q E s:=by
 obtain⟨o,hi,hc,hd⟩:=id hit;unfold mm;refine ab (fZ (cn hit.typeIs gx
  (cM gx hit.typeIs F.entry_dict_keyiterator_next ?_<|F.args_dict_keyiterator_next_1 _)))
 refine ab<|au<|ab<|ab ?_
 first|refine ab<|eA hit.typeIs<|au ?_|refine ab<|fA hit.typeIs<|au ?_
 refine ab<|wpAny_fieldsOf hi hd ?_;have hown:dQ.Dict_items.ownsTuple "dict_keyiterator" = ai:=by decide
 simp only[hown,bW,if_false];show aX _ _ (if(ck d == br)=aj then _ else _) _ _ s
 rw[T8<|show¬((ck d == br)=aj)from aJ]
 refine ab<|au<|ab<|me ho hdat ?_;rw[T8<|by simp]
 refine ab<|au<|ab<|wpAny_dictEpoch ho hdat ?_;rw[T8<|by simp]
 refine au ?_;by_cases hlt:i<es.size
 .simp only[by omega,if_false,d8,bh hlt]
  refine ab ?_
  first|refine ab<|eA hit.typeIs<|au ?_|refine ab<|fA hit.typeIs<|au ?_
  refine ab<|kz hit.typeIs (show aX _ _ (setField (.ref it) 1 (fS<|(i:Int)+1) >>= _) _ _ s from ab<|gS hi hd (by simp) ?_)
  have hit':(s.heap.update it (eX.mapFields (·.setIfInBounds 1 (fS<|(i:Int)+1)))).IsKeyIter it d (i+1) es.size ep:=
   #[_,eJ _ hi<|fR<|eF hd _,(io ..).trans hc,by rw[eF hd];simp[fS]]
  refine ab<|bL<|ab<|kz hit'.typeIs ?_
  exact au<|au #[_,rfl,au<|h1 hlt _ hit'<|ei ..]
 .obtain⟨hh,hQ⟩:=h2 (by omega)
  simp only[by omega,if_false,d8,i9 (show es.size<=i by omega)]
  refine ab ?_
  first|refine ab<|eA hit.typeIs<|au ?_|refine ab<|fA hit.typeIs<|au ?_
  show aX _ _ (setField (.ref it) 0 .none >>= _) _ _ s;refine ab<|gS hi hd (by simp)<|ab ?_
  simp only[newExc,newTuple];refine ab<|bv ?_<|by size_fits
  refine ab (mO (a:=br) (by first|rfl|(simp only[kL];rfl))<|bv ?_<|by size_fits)
  simp only[raiseNew];refine ab<|wpAny_handled ?_;rw[hh]
  refine ab<|au<|wpAny_throw ?_;refine ab<|fc (T:="StopIteration") (b:=aj) #[_,aI _ rfl,rfl] isSubtype_stop ?_;exact au<|hQ _<|((ei ..).extBut.push _).push _
end
theorem VW{B β:Type}{F:B->β->Prop}:∀{l:List B}{m:List β}{i:Nat}{p:B},Paired F l m->l[i]?=aa p->∃q,m[i]?=aa q/\F p q
 |_,_,_,_,.nil,e=>by simp at e
 |_,_,0,_,.cons r t,e=>by simp at e;subst e;exact#[_,rfl,r]
 |_,_,i+1,_,.cons r t,e=>by
  obtain⟨q,h1,h2⟩:=VW t (by simpa using e)
  exact#[q,by simpa using h1,h2]
def UW:ni (.type "list") "keys" = cT ae:=by rw[typeLookup_type,kA];kernel_rfl
def Gf:isSubtype (.type "AttributeError") (.type "AttributeError")=cT aj:=by rw[isSubtype_type];kernel_rfl
section
variable{prog:bE}{w:bZ}{A:cQ}{E:ap->aw->Prop}{s:aw}{a:aG}{B:Type}{name msg:bD}
def yr{Q:Unit->aw->Prop}(he:s.heap.get? e=aa {cls:=.type "AttributeError",data:=.fields vs})(h6:vs[6]?=aa unsetMember)(h7:vs[7]?=aa unsetMember)
  (hQ:∀h',f8 e s.heap h'->(∃ob,h'.get? e=aa ob/\ob.cls=.type "AttributeError")->Q () {s with heap:=h' }):aX (aS prog w) A (noteAttr (.ref e) ov nm) Q E s:=by
 have hT:s.TypeIs (.ref e) "AttributeError":=#[_,he,rfl];refine ab<|ab<|fc hT Gf ?_;simp only[f6,bW,if_false];refine ab<|gG he ?_;simp only[h6,h7];rw[T8 (by decide),T8<|by decide]
 refine au ?_;simp only[if_true];refine ab<|eE<|ab<|eY hT ?_;simp only[layMembers];refine ab<|gG he<|wpAny_update he<|hQ _ (ei ..).extBut #[_,eJ _ he<|fR<|eF rfl _,io ..]
def Gk{Q:B->aw->Prop}(hh:A.handled=ae)(hm:msg.length<=aY)(hq:∀h' t' e,(∀b o,s.heap.get? b=aa o->h'.get? b=aa o)->(∃ob,h'.get? e=aa ob/\ob.cls=.type "AttributeError")->E (.ref e) {s with heap:=h',toks:=t' }):aX (aS prog w) A (raiseAttrError (.ref a) name msg:mj B) Q E s:=by
 refine ab<|wpAny_mkStr ?_ hm;simp only[newExc,newTuple];refine ab<|ab<|bv ?_<|by size_fits
 refine ab (mO (by first|rfl|(simp only[kL];rfl)) ?_)
 refine bv ?_ (by size_fits)
 refine ab<|wpAny_mkText<|ab<|yr (aI _ rfl) rfl rfl λh' eb ob=>?_
 refine wpAny_raiseNew_none hh<|hq _ _ _ (λb o e=>eb b o (λz=>?_)<|aq _<|aq _ e) ob
 have q:=aF e;subst z;exact T7 q (by show¬(s.heap.push _).objs.size<s.heap.objs.size;rw[cH];omega)
end
section
variable{prog:bE}{w:bZ}{A:cQ}{E:ap->aw->Prop}{h:bX}{g:Array GenState}{d:Drawn}{t:Nat}{os:OsState}{a:aG}{its:Array ap}{n:Nat}
def GL{Q:Fin->aw->Prop}(hx:h.get? a=aa {cls:=.type "list",data:=.seq its n})(hh:A.handled=ae)(hq:∀h' t' e,(∀b o,h.get? b=aa o->h'.get? b=aa o)->(∃ob,h'.get? e=aa ob/\ob.cls=.type "AttributeError")->E (.ref e) #[h',g,d,t',os]) :
  aX (aS prog w) A (dQ.«object.__getattribute__» #[[.ref a,.str "keys" tk],[]]) Q E #[h,g,d,t,os]:=by
 have hT:(#[h,g,d,t,os]:aw).TypeIs (.ref a) "list":=#[_,hx,rfl];have f4:=UW
 repeat(any_goals (first|assumption|wp_step))
 exact Gk hh (by decide +kernel) hq
def yc{R:Result->aw->Prop}(hx:h.get? a=aa {cls:=.type "list",data:=.seq its n})(hh:A.handled=ae)(hq:∀h' t' e,(∀b o,h.get? b=aa o->h'.get? b=aa o)->(∃ob,h'.get? e=aa ob/\ob.cls=.type "AttributeError")->R (.error<|.ref e) #[h',g,d,t',os]) :
  iX (aS prog w) A (.call (.builtin "list.__getattribute__") #[[.ref a,.str "keys" tk],[]]) R #[h,g,d,t,os]:=
 codeAny_call_builtin F.slot_list_getattribute.plain F.entry_list_ga (F.slot_list_getattribute.check _ _ _ _ _ _ _ _ (#[_,hx,rfl]) (F.args_list_getattribute_2 _ _)<|GL hx hh hq)
def jg{Q:ap->aw->Prop}(hx:h.get? a=aa {cls:=.type "list",data:=.seq its n})(hh:A.handled=ae)(hq:∀h' t' e,(∀b o,h.get? b=aa o->h'.get? b=aa o)->(∃ob,h'.get? e=aa ob/\ob.cls=.type "AttributeError")->E (.ref e) #[h',g,d,t',os]):aX (aS prog w) A (getAttrBy (.ref a) (.str "keys" tk) ai) Q E #[h,g,d,t,os]:=by
 have hT:(#[h,g,d,t,os]:aw).TypeIs (.ref a) "list":=#[_,hx,rfl];have f2:=F.slot_list_getattribute.lookup;have f3:=F.slot_list_getattribute.bind<|.ref a
 repeat(any_goals (first|assumption|wp_step))
 refine yc hx hh λh' t' e k ob=>?_
 have hTe:(#[h',g,d,t',os]:aw).TypeIs (.ref e) "AttributeError":=ob;have f9:ni (.type "list") "__getattr__" = cT ae:=by rw[typeLookup_type,kA];kernel_rfl
 have hE:=hq h' t' e k ob
 repeat(any_goals (first|assumption|with_reducible apply fc hTe Gf|wp_step))
def yH{Q:Option ap->aw->Prop}(hx:h.get? a=aa {cls:=.type "list",data:=.seq its n})(hh:A.handled=ae)(hq:∀h' t',(∀b o,h.get? b=aa o->h'.get? b=aa o)->Q ae #[h',g,d,t',os]):aX (aS prog w) A (getAttr? (.ref a) "keys") Q E #[h,g,d,t,os]:=by
 unfold getAttr? getAttrBy?
 refine ab<|wpAny_mkText<|ab<|fZ<|jg hx hh λh' t' e k ob=>?_
 exact ab<|fc (ob) Gf<|au<|hq h' t' k
end
def Xo:plainId "dict.update.loop" = aj:=by decide +kernel
def Ue:entryFor table "dict.update.loop" = aa dQ.«dict.update.loop»:=entryFor_of_tree (by kernel_rfl)
section
variable{prog:bE}{w:bZ}{A:cQ}{E:ap->aw->Prop}
def GR{Q:List ap->aw->Prop}(hp:lF s.heap p its)(h:Q its.toList s):aX (aS prog w) A (dQ.Dict.pairItems<|.ref p) Q E s:=by
 obtain⟨o,ho,hc,n,hd⟩:=hp;refine ab<|eY #[_,ho,hc] ?_;rw[T9<|by decide]
 unfold seqItems?
 refine ab<|ab<|gG ho ?_;rw[hd];exact au<|au h
def zI{K:Type}[DecidableEq K]{knd:KeyKind prog w K}{h h':bX}{k:List K}{a:aG}(x:(c8 knd).is h k a)(hk:∀o,h.get? a=aa o->h'.get? a=aa o):(c8 knd).is h' k a:=by
 obtain⟨o,its,n,h1,r⟩:=x;exact#[o,its,n,hk _ h1,r]
def XI{K:Type}[DecidableEq K]{knd:KeyKind prog w K}{h h':bX}{d:aG}{xs:List (List K×aG×ap)}(x:h.DictOfH (c8 knd) d xs)(hd:∀o,h.get? d=aa o->h'.get? d=aa o)(hx:∀x∈xs,∀o,h.get? x.2.1=aa o->h'.get? x.2.1=aa o):h'.DictOfH (c8 knd) d xs:=by
 obtain⟨o,es,ep,h1,h2,h3,h4,h5,h6⟩:=x;exact#[o,es,ep,hd _ h1,h2,h3,h4,λy hy=>zI (h5 y hy)<|hx y hy,h6]
abbrev Pr:=List Key×aG×aG
def wH{I d:aG}{fp wr:List aG}{its:Array ap}{St:Nat->bX->Prop}{R:Result->aw->Prop}{h0:bX}{ps:List Pr}{res:ap}(W:Walks prog w A.in1 I fp wr its.size (λi v=>its[i]?=aa v) St)(hu:A.units+2<db)(hf:d∉fp)
  (hl:ps.length=its.size)(hi:∀(i:Nat)(p:Pr),ps[i]?=aa p->its[i]?=aa (ck p.2.2))
  (hp:∀p∈ps,lF h0 p.2.2 [ck p.2.1,bO aj].toArray/\(c8<|ZE prog w).is h0 p.1 p.2.1/\p.2.2∉wr/\p.2.2≠d/\p.2.1∉wr/\p.2.1≠d)(hn:(ps.map (·.1)).Nodup)(hz:ps.length<=aY) :
  ∀(k i:Nat)(s:aw),its.size-i=k->i<=its.size->St i s.heap->(∀b o,b∉wr->b≠d->h0.get? b=aa o->s.heap.get? b=aa o)->
  s.heap.DictOfH (c8<|ZE prog w) d ((ps.take i).map λp=>(p.1,p.2.1,bO aj))->
  (∀h' tk,(∀b o,b∉wr->b≠d->h0.get? b=aa o->h'.get? b=aa o)->h'.DictOfH (c8<|ZE prog w) d (ps.map λp=>(p.1,p.2.1,bO aj))->R (.ok<|.ret res) {s with heap:=h',toks:=tk})->
  iX (aS prog w) A (.builtin "dict.update.loop" #[[.ref d,.ref I,fS i,res],[]]) R s:=by
 intro k
 induction k with
 |zero=>
  intro i s hk hi' hst kp dd hR;have e:i=its.size:=by omega
  subst e;refine gy Ue ?_;rw[eU Xo _];refine ab<|W.done s _ _ hst λh' tk hk'=>?_
  refine ab<|au<|au<|hR h' tk (λb o hb hd z=>hk' b o hb<|kp b o hb hd z) ?_
  rw[cx<|by omega]at dd
  exact XI dd (λo e=>hk' _ o (λz=>hf<|W.sub _ z) e) λx hx o e=>by
   obtain⟨y,hy,rfl⟩:=aT.mp hx;exact hk' _ o (hp y hy).2.2.2.2.1 e
 |succ k ih=>
  intro i s hk hi' hst kp dd hR;have hlt:i<its.size:=by omega
  have hp':=hp _<|aV (n:=i)<|by omega
  have hv:=hi i _<|ag<|by omega
  refine gy Ue ?_;rw[eU Xo _];refine ab<|W.item i s _ _ hlt hst λv h' tk hP hst' hk'=>?_
  rw[hv]at hP;cases hP;obtain⟨p1,p2,p3,p4,p5,p6⟩:=hp';have kp2:=λb o hb hd z=>hk' b o hb<|kp b o hb hd z
  have dd2:=XI dd (λo e=>hk' _ o (λz=>hf<|W.sub _ z) e) λx hx o e=>by
   obtain⟨y,hy,rfl⟩:=aT.mp hx;exact hk' _ o (hp y<|cI hy).2.2.2.2.1 e
  obtain⟨po,g1,g2,pn,g3⟩:=p1;refine ab<|bL<|ab<|wpAny_tryCatch<|GR #[po,kp2 _ _ p3 p4 g1,g2,pn,g3] ?_;have hsz:((ps.take i).map λp=>(p.1,p.2.1,bO aj)).length<=aY:=by rw[ay,bw];omega
  refine bL<|lD (gN<|by omega) (zI p2 λo e=>kp2 _ o p5 p6 e) dd2 λh2 dd3 sb=>?_
  refine au #[lh Xo _,ih (i+1) _ (by omega) hlt (W.frame _ _ _ hst' λb hb o e=>(sb.2 b λz=>hf<|z▸hb).trans e) (λb o hb hd z=>(sb.2 b hd).trans<|kp2 b o hb hd z) ?_ hR]
  have hnew:lR ((ps.take i).map λp=>(p.1,p.2.1,bO aj)) ps[i].1=ae:=by
   unfold lR;rw[kf,lE];intro x hx z;obtain⟨y,hy,rfl⟩:=aT.mp hx;have hn2:=hn;rw[<-cU i ps,bV,ef,bS<|by omega]at hn2
   exact hn2.2.2 _ (dC hy) _ (dC am)<|T6 z
  rw[storedH_new hnew]at dd3;rw[l7,ag (by omega),bV]
  exact dd3
def Gu{s:aw}{l:aG}{its:Array ap}{n:Nat}{ps:List Pr}{Q:ap->aw->Prop}(hh:A.handled=ae)(hu:A.units+3<db)(hx:s.heap.get? l=aa {cls:=.type "list",data:=.seq its n})
  (hl:ps.length=its.size)(hi:∀(i:Nat)(p:Pr),ps[i]?=aa p->its[i]?=aa (ck p.2.2))
  (hp:∀p∈ps,lF s.heap p.2.2 [ck p.2.1,bO aj].toArray/\(c8<|ZE prog w).is s.heap p.1 p.2.1)(hn:(ps.map (·.1)).Nodup)(hz:ps.length<=aY)
  (h:∀h' tk,(∀b o,s.heap.get? b=aa o->h'.get? b=aa o)->h'.DictOfH (c8<|ZE prog w) s.heap.objs.size (ps.map λp=>(p.1,p.2.1,bO aj))->Q (.ref s.heap.objs.size) {s with heap:=h',toks:=tk}) :
  aX (aS prog w) A (call (.type "dict") [.ref l]) Q E s:=by
 refine callType_codes (Q₁:=λobj s₁=>obj=.ref s.heap.objs.size/\s₁={s with heap:=s.heap.push {cls:=.type "dict",data:=.dict #[]}}) F.kt_called_dict (F.kt_typeCall_dict_1 _) F.entry_dict_init (kt_code_dict_new _ #[rfl,rfl]) ?_
 rintro obj s₁ ⟨rfl,rfl⟩
 have hnew:(s.heap.push {cls:=.type "dict",data:=.dict #[]}).DictOfH (c8<|ZE prog w) s.heap.objs.size []:=bX.DictOfH.new s.heap;have hx':=aq {cls:=.type "dict",data:=.dict #[]} hx;refine#[hnew.typeIs (s:={s with heap:=_}),F.args_dict_init_2 _ _,?_]
 unfold dQ.«dict.__init__»;refine ab ?_;refine ab<|kx (hnew.typeIs (s:={s with heap:=_})) ?_
 refine au ?_;refine ab<|eY (T:="list") #[_,hx',rfl] ?_;rw[T9<|by decide]
 refine ab<|yH hx' hh λh1 t1 k1=>?_
 rw[T9<|show(ae:Option ap).isNone=aj from rfl]
 have hx1:=k1 _ _ hx';obtain⟨od,es,ep,g1,g2⟩:=id hnew;have hd1:=aF<|k1 _ _ g1;have hl0:l<s.heap.objs.size:=aF hx;refine ab<|eE<|ab<|eM (items:=its) #[_,hx1,rfl,n,rfl]<|au #[lh Xo _,?_];have lt:∀{b:aG}{o:eX},s.heap.get? b=aa o->b∉[h1.objs.size]/\b≠s.heap.objs.size:=λ{b o} e=>by
  have q:=aF e;exact#[λz=>T7 (bm.mp z)<|bg<|cO q hd1,bg q]
 refine wH (A:=A.in1) (h0:=s.heap) (ps:=ps) (i:=0) (s:={s with heap:=h1.push<|Yd aj l,toks:=t1}) (xg (A:=A.in1.in1) hh aj h1.objs.size l (bg<|cO hl0 hd1) its) (by show A.units+1+2<db;omega) (λz=>?_) hl hi (λp hq=>?_) hn hz _ rfl (cR _) #[uZ,?_] (λb o _ _ e=>aq _<|k1 _ _<|aq _ e) ?_ λh' tk kp dd=>#[rfl,h h' tk (λb o e=>kp b o (lt e).1 (lt e).2 e) dd]
 .simp only[aC,bU,or_false]at z
  rcases z with z|z
  .exact bg hd1 z
  .exact eD hl0 z
 .obtain⟨x1,x2⟩:=hp p hq
  obtain⟨_,y1,_⟩:=id x1;obtain⟨_,_,_,y2,_⟩:=id x2;exact#[x1,x2,(lt y1).1,(lt y1).2,(lt y2).1,(lt y2).2]
 .exact#[_,aq _ hx1,rfl,n,rfl]
 .exact XI hnew (λo e=>aq _<|k1 _ _ e) λx hx=>by cases hx
end
section
variable{X:Cx}{xw:Nat->Hp->Prop}{O:Mx}{H:Hp}
theorem Jp:∀{ds:List D}{ks:List (List Int)}{ys:List V},Pv.XJ ds=aa ks->Rq O H ds ys->∃ps:List Pr,ps.map (·.1)=ks.map (·.map cC)/\ps.length=ys.length/\
  ∀(i:Nat)(p:Pr),ps[i]?=aa p->ys[i]?=aa (.ref p.2.2)/\H p.2.2=aa (.tup [.ref p.2.1,.bl aj])/\H p.2.1=aa (.tup<|p.1.map kV)
 |[],ks,ys,h,r=>by
  cases h;subst r;exact#[[],rfl,rfl,λi p e=>by simp at e]
 |d::ds,ks,ys,h,r=>by
  obtain⟨v,vs,rfl,r1,r2⟩:=r;obtain⟨a,e1,h⟩:=aB.mp (h)
  obtain⟨b,e2,rfl⟩:=aR.mp h;obtain⟨ps,h1,h2,h3⟩:=Jp e2 r2;unfold Pv.ju at e1;split at e1
  .split at e1
   .rename_i k b hb
    subst hb;obtain⟨p,zs,rfl,hp,rz⟩:=r1.tup';obtain⟨u,u2,rfl,ru,ru2⟩:=JI rz;rw[ru2.bl']at hp;obtain⟨q,ws,rfl,hq,rw'⟩:=ru.tup';rw[Xl e1 rw']at hq;refine#[(a.map cC,q,p)::ps,by rw[bf,h1];rfl,by simp[h2],λi y hy=>?_]
    cases i with|zero=>simp at hy;subst hy;exact#[rfl,hp,hq]|succ i=>exact h3 i y (by simpa using hy)
   .cases e1
  .cases e1
def Ut(hc:X.calm=aj)(hu:X.A.units+7<db):ZD X (.type "dict") (VM X.K xw .dictP):=by
 intro pq s U H vs us Q I r h;obtain⟨O,S,ds,st,rs,h⟩:=h;obtain⟨d,v,z,rfl,r1,hz,h3⟩:=X0 h rs;have hd:∃ds ks,d=.lst ds/\Pv.XJ ds=aa ks/\Ev.Vw ks=aj/\z=.dct (aa ks):=by
  cases d with
  |lst ds=>
   obtain⟨ks,hk,hz⟩:=aB.mp hz;split at hz
   .cases hz;exact#[ds,ks,rfl,hk,‹_›,rfl]
   .cases hz
  |_=>exact Ev.nos hz
 obtain⟨ds,ks,rfl,hk,hok,rfl⟩:=hd;obtain⟨l,ys,rfl,hl,_,ry⟩:=r1.lst';obtain⟨u,rfl,ru⟩:=Xy r;cases ru;obtain⟨ps,p1,p2,p3⟩:=Jp hk ry;obtain⟨_,its,c,rv,hg⟩:=(I.hok l _ hl)
 obtain⟨k1,k2⟩:=(aD _ _).mp hok;have hn:(ps.map (·.1)).Nodup:=by
  rw[p1];exact List.Pairwise.map _ (λa b ne e=>ne<|Qx e)<|T6 k2
 have hlen:ps.length=ks.length:=by have:=congrArg hV p1;simpa using this
 have hz:ps.length<=aY:=by rw[hlen,<-Yp];exact T6 k1
 have hp0:=I.hok.fresh<|az _;refine Gu (I.ok.hd hc) (by omega) hg (by rw[p2,rv.length,ax]) (λi p e=>?_) (λp hp=>?_) hn hz λh' tk kp dd=>?_
 .obtain⟨w',g',ru'⟩:=rv.get (p3 i p e).1
  rw[ru']at g'
  simpa using g'
 .obtain⟨i,hi,e⟩:=b8 hp
  obtain⟨_,a2,a3⟩:=p3 i p (by rw[<-e];exact ag hi)
  obtain⟨_,zs,rz,tz⟩:=(I.hok _ _ a2)
  refine#[?_,WU I.hok a3];cases rz with
  |cons x rz=>cases rz with
   |cons y rz=>
    cases rz;cases(x)
    cases(y)
    exact tz
 .obtain⟨od,es,ep,g1,g2,g3,g4,g5,g6⟩:=dd
  have hb:=beq_eq_false_iff_ne.mpr<|eD I.big;have hpr:∀{l:List Pr},(∀p∈l,H p.2.1=aa (.tup<|p.1.map kV))->Paired (λ(p:List Key×V) (q:List Key×aG×ap)=>p.1=q.1/\upd H s.heap.objs.size (.frz od<|.dT<|ps.map λp=>(p.1,V.bl aj)) q.2.1=aa (.tup<|p.1.map kV)/\Zs p.2 q.2.2) (l.map λp=>(p.1,V.bl aj)) (l.map λp=>(p.1,p.2.1,bO aj)):=λ{l}=>by
   induction l with|nil=>intro _;exact .nil|cons p l ih=>intro hl;exact .cons #[rfl,by rw[Zl<|ZY (hl p am) hp0];exact hl p am,rfl]<|ih λq hq=>hl q<|ak _ hq
  refine#[.ref s.heap.objs.size,upd H s.heap.objs.size<|.frz od<|.dT<|ps.map λp=>(p.1,V.bl aj),I.laid (t':=tk) kp (az _) (#[g1,by rw[ay];exact hz,hb,ps.map λp=>(p.1,p.2.1,bO aj),hpr λp hp=>?_,od,es,ep,g1,g2,g3,g4,g6]),rfl,?_]
  .obtain⟨i,hi,e⟩:=b8 hp
   exact(p3 i p<|by rw[<-e];exact ag hi).2.2
  .exact h3 O _ _ (Zp hp0) (st.fresh hp0) (by exact#[_,rfl,od,_,Zo,by rw[cf];exact p1])
end
section
variable{X:Cx}{xw:Nat->Hp->Prop}{fr:Bool}{C:Calls}{ns:List Nat}{e a:Expr}{i:E}{pos p p' p2:gD}{n:Nat}{x:bD}{q:Option bD}
def qr{q}(ha:CE X xw C a i):CE X xw C (.Subscript a (.Constant (.int 0) q p2) pos) (.dix i ai):=.mk <| PE.imp (wn UL ha.h Qc<|by intro _ _;with_unfolding_all rfl)<|by
 rintro U H Q ⟨O,l,S,st,lr,h⟩;rw[Pv.pv]at h;refine#[O,l,S,st,lr,h.bind λx S1 ρ1 H1 v f1 st1 r1 h1=>?_]
 cases x with|drw=>obtain⟨p,rfl,hn⟩:=r1.drw';exact#[p,_,0,_,rfl,rfl,SqL.of (st1.dw p hn).1,rfl,End.ok h1 st1<|ZI _]|_=>exact h1.elim
def uo{q}(ha:CE X xw C a i):CE X xw C (.Subscript a (.Constant (.int 1) q p2) pos) (.dix i aj):=.mk <| PE.imp (wn UL ha.h Qc<|by intro _ _;with_unfolding_all rfl)<|by
 rintro U H Q ⟨O,l,S,st,lr,h⟩;rw[Pv.pv]at h;refine#[O,l,S,st,lr,h.bind λx S1 ρ1 H1 v f1 st1 r1 h1=>?_]
 cases x with|drw=>obtain⟨p,rfl,hn⟩:=r1.drw';exact#[p,_,1,_,rfl,rfl,SqL.of (st1.dw p hn).1,rfl,End.ok h1 st1<|Z4 _]|_=>exact h1.elim
def ux{q}(he:CE X xw C e i)(hN:X.N[n]?=aa x)(hv:Vis X.env.scope x)(hd:(x == ("__debug__" : bD))=ai)
  (hcd:(x == ("__classdict__" : bD))=ai)
  (ha:∀v,c0 (.Subscript (.Name x p') (.Constant (.int 0) q p2) p) X.env v=(do
   let ov <-iV [v] (cV (.Name x p') X.env)
   let iv <-iV [v,ov] (cV (.Constant (.int 0) q p2) X.env)
   m4 p
   iV [v,ov,iv] (nG ov iv v)
   release [v,ov,iv] []))(hs:de [.Subscript (.Name x p') (.Constant (.int 0) q p2) p] e pos.line X.env=cT ai)(hw:dg [.Subscript (.Name x p') (.Constant (.int 0) q p2) p] e X.env=cT ae)
  (h1:(bR [.Subscript (.Name x p') (.Constant (.int 0) q p2) p] X.env).map (·.2)=[c0 (.Subscript (.Name x p') (.Constant (.int 0) q p2) p) X.env]):CS X xw fr C ns (.Assign [.Subscript (.Name x p') (.Constant (.int 0) q p2) p] e pos) (.dset n i):=.mk <|
 PS.imp (Y9 he.h (Zbh (Vf hN hv hd hcd) Qc (x9 (X:=X)) ha) hs hw h1)<|by
 rintro D U H ⟨O,H0,W,l,os,S,st,en,h⟩;rw[Pv.rv]at h;refine#[O,l,S,st,en.all,Zv.bind en h λy S1 H1 v f1 st1 r1 h1=>?_]
 cases y with
 |int y=>
  obtain⟨hk,h1⟩:=h1.guard;have hx:l[n]?=aa (aa .drw):=by
   cases z:l[n]? with
   |none=>rw[z]at h1;exact h1.elim
   |some o=>cases o with
    |none=>rw[z]at h1;exact h1.elim
    |some d=>cases d<;>rw[z]at h1<;>first|rfl|exact h1.elim
  rw[hx]at h1;obtain⟨u,hu,r⟩:=(en.mono f1).all.val n .drw hx;obtain⟨a,rfl,hn⟩:=r.drw';obtain⟨e1,_⟩:=st1.dw a hn;refine#[.ref a,hu,a,_,0,0,rfl,rfl,e1,rfl,?_];rw[r1.int'];have f2:Fut O H1 O (upd H1 a<|.lst [.int y,.bl S1.2]):=#[rfl,λb o z=>by
   by_cases c:b=a
   .subst c;rw[e1]at z;cases z;exact .inr<|.inl #[hn,_,rfl]
   .exact .inl<|by rw[Zl c];exact z]
  refine h1 _ U W #[st1.hk,λb x=>?_,λb x=>?_,st1.tb.upd (λo u z=>by rw[e1]at z;cases z) λ_ z=>by cases z]<|(en.mono f1).mono f2
  .by_cases c:b=a
   .rw[c];show upd _ _ _ _≠ae;rw[Zo];intro z;cases z
   .show upd _ _ _ _≠ae;rw[Zl c];exact st1.xd b x
  .rw[hn]at x
   cases x;exact#[Zo,hk]
 |_=>exact h1.elim
end
open Ev in
noncomputable def XG:Fn:=#[2,4,
 [.ite (.dix (.v 0) aj) [.asg [2]<|.bin .mod (.dix (.v 0) ai)<|.v 1,
  .dset 0 (.bin .fdiv (.dix (.v 0) ai)<|.v 1),
  .ret (.v 2)] [],
  .dset 0 (.bin .mod (.bin .add (.bin .mul (.dix (.v 0) ai)<|.c<|.int 48271)<|.c<|.int 29)<|.c<|.int 2147483647),
  .asg [3] (.bin .mod (.bin .add (.bin .add (.bin .mul (.dix (.v 0) ai)<|.dix (.v 0) ai)<|.bin .mul (.c<|.int 39373)<|.dix (.v 0) ai)<|.c<|.int 7)<|.c<|.int 2147483629),
  .asg [3] (.bin .mod (.bin .add (.bin .mul (.v 3)<|.v 3)<|.bin .mul (.c<|.int 16807)<|.v 3)<|.c<|.int 2147483587),
  .ret (.bin .mod (.bin .fdiv (.v 3)<|.c<|.int 8)<|.v 1)]]
open Ev Pv in
def Xv(h0:0<=a)(h:a<4294967296):fits a=aj:=by
 refine T5 ?_;have h1:a.natAbs<2^32:=by lia
 exact bi h1<|eV (by decide)<|by decide
open Ev Pv in
def xy(h:okS s.1 s.2=aj)(m0:0<m)(m1:m<1073741824):Ji C XG [.drw,.int m] s=.ok (.int (Y8 s m).1) (Y8 s m).2:=by
 obtain⟨a,b⟩:=s;have hm:muts XG.body=[]:=rfl;unfold Ji;rw[hm];have ha:=T6 ((aD _ _).mp h).1;have lt8:(8:Int)<big:=wV (by decide)
 cases b with
 |true=>
  have o2:okS (a / m) aj=aj:=by simp[okS];exact Int.ediv_nonneg ha (by lia)
  simp[XG,Y8,rvs,rv,pvA,Pv.pv.eq_1,Pv.pv.eq_2,Pv.pv.eq_7,Pv.pv.eq_28,YF,PR.bind,po,Zn,ZH,ofD,Yz,Pv.VF,m0,m1,wV m1,o2,hide]
 |false=>
  have hb:a<2147483647:=by simpa using((aD _ _).mp h).2
  have h1:=Xv ha (by lia)
  have x0:0<=(a*48271+29)%2147483647:=by lia
  have x1:(a*48271+29)%2147483647<2147483647:=by lia
  generalize hxx:(a*48271+29)%2147483647=x at x0 x1;have y0:0<=(x*x+39373*x+7)%2147483629:=by lia
  have y1:(x*x+39373*x+7)%2147483629<2147483629:=by lia
  generalize hyy:(x*x+39373*x+7)%2147483629=y at y0 y1;have f1:=Xv x0 (by lia)
  have f2:=Xv y0 (by lia)
  have f3:fits 48271=aj:=Xv (by lia) (by lia)
  have f4:fits 39373=aj:=Xv (by lia) (by lia)
  have f5:fits 16807=aj:=Xv (by lia) (by lia)
  have o2:okS x ai=aj:=by simp[okS,x0,x1]
  simp[XG,Y8,rvs,rv,pvA,Pv.pv.eq_1,Pv.pv.eq_2,Pv.pv.eq_7,Pv.pv.eq_28,YF,PR.bind,po,Zn,ZH,ofD,Yz,Pv.VF,m0,m1,lt8,h1,hxx,hyy,f1,f2,f3,f4,f5,o2,hide]
def qF{K:ao}{F:List Fn}{tk d:Nat}:∀O S H ds vs,St3 K O S H->Rq O H ds vs->Pv.Zh F tk (d+1) tk ds S=.no\/Pv.Zh F tk (d+1) tk ds S=Ji (Pv.Zh F tk d) XG ds S:=λO S H ds vs st r=>by
 rw[Pv.Zh,T9 rfl];unfold Pv.jX;split
 .rename_i m
  obtain⟨v,u,rfl,r1,_⟩:=JI r;obtain⟨a,_,hn⟩:=r1.drw';split
  .rename_i hm
   exact .inr (xy (st.dw a hn).2 hm.1 hm.2).symm
  .exact .inl rfl
 .exact .inl rfl
def qS{K:ao}{F:List Fn}{tk n d:Nat}{fn:Fn}(hn:n≠tk)(hf:F[n]?=aa fn):∀O S H ds vs,St3 K O S H->Rq O H ds vs->Pv.Zh F tk (d+1) n ds S=.no\/Pv.Zh F tk (d+1) n ds S=Ji (Pv.Zh F tk d) fn ds S:=λO S H ds vs st r=>by
 rw[Pv.Zh,T8 hn,hf]
 all_goals exact .inr rfl
def uV(h:Pv.Vc v=aa d):v=.lst [.int d.1,.bl d.2]/\Pv.okS d.1 d.2=aj:=by
 unfold Pv.Vc at h;split at h
 .split at h
  .cases h;exact#[rfl,‹_›]
  .cases h
 .cases h
def QE{l:Lc}{i:Nat}{d:D}(h:(l.map Pv.Ww)[i]?=aa (aa d)):l[i]?=aa (aa d)/\d.flat=aj:=by
 rw[aK]at h;cases q:l[i]? with
 |none=>rw[q]at h;cases h
 |some o=>
  rw[q]at h;have h:=af h;obtain⟨a,b⟩:=fk.mp h;exact#[by rw[a],b]
def vG{n:Nat}{l:Lc}{i:Nat}{d:D}(h:(Pv.XT n l)[i]?=aa (aa d)):l[i]?=aa (aa d)/\d.flat=aj:=by
 unfold Pv.XT at h;rw[List.getElem?_append]at h;split at h
 .obtain⟨a,b⟩:=QE h
  rw[cJ]at a;split at a
  .exact#[a,b]
  .cases a
 .rw[cF]at h
  split at h<;>cases h
def JV :(Pv.XT n l).length=l.length:=by
 unfold Pv.XT;rw[aW,ay,bw,cB];omega
def tCl(X:Cx)(xw:Nat->Hp->Prop)(C:Calls)(fi:Nat)(is:List E):TE:=λU H Q=>tA X xw (Pv.pvs C is) U H λvs H1=>∃O ds S,St3 X.K O S H1/\Rq O H1 ds vs/\End X.K xw (XM aj H1) O H1 Q (C fi ds S)
def Zac{xw:Nat->Hp->Prop}{fi:Nat}{y:bD}{es:List Expr}{is:List E}{ss:List eR}{B:List Sm}(hc:PE X (.Call (.Name y p') (e::es) [] p) (tCl X xw C fi is))(hB:CSs X xw fr C ns ss B)(hN:X.N.Nodup)
  (hi:X.N[n]?=aa x:=by rfl)(hx:L2.Loc X.env.scope x:=by first|exact Or.inl rfl|exact mz rfl)(hf:X.fn x=aj\/X.env.scope.names.lookup x=aa .local:=by first|exact .inl rfl|exact .inr rfl)
  (hs:de [.Name x px] (.Call (.Name y p') (e::es) [] p) pos.line X.env=cT ai:=by rfl)(hw:dg [.Name x px] (.Call (.Name y p') (e::es) [] p) X.env=cT ae:=by rfl)
  (h1:(bR [.Name x px] X.env).map (·.2)=[c0 (.Name x px) X.env]:=by rfl) :
  CSs X xw fr C ns (.Assign [.Name x px] (.Call (.Name y p') (e::es) [] p) pos::ss) [.cel n fi is B]:=.mk <|
 PSs.imp (QG (Y9 hc (U5 hN hi hx hf) hs hw h1) hB.h)<|by
 rintro D U H ⟨O,H0,W,l,os,S,st,en,h⟩;have h:Zv fr X.K xw O H0 D (Pv.rv C ns (.cel n fi is B) l os S):=by
  rw[Pv.rvs]at h;cases q:Pv.rv C ns (.cel n fi is B) l os S with|no=>rw[q]at h;exact h|ex c s=>rw[q]at h;exact h|ok g s=>rw[q]at h;cases g<;>exact h
 rw[Pv.rv]at h;obtain⟨ho,h⟩:=h.guard;refine#[O,l,S,st,en.all,Zv.bind en h λxs S1 H1 vs f1 st1 r1 h1=>?_]
 refine#[O,xs,S1,st1,r1,Zv.bind (en.mono f1) h1 λv S2 H2 u f2 st2 r2 h2=>?_]
 obtain⟨d,hd,h3⟩:=Zv.ob h2;obtain⟨rfl,hok⟩:=uV hd;obtain⟨a,rfl,na⟩:=r2.2 rfl _ rfl;obtain⟨_,us,z,ea,_,ru⟩:=r2.1.lst';cases z;obtain⟨u1,u2,rfl,q1,q2⟩:=JI ru;cases q1.int';cases q2.bl';have en2:=(en.mono f1).mono f2;have nX:∀q,O.X q->q≠a:=λq x z=>st1.xd q x<|z▸na
 let ρ':Mx:=#[O.K,aa a,λq=>O.X q\/q=a,λq h=>.inr (af h).symm]
 have st':St3 X.K ρ' d H2:=#[st2.hk,λq x=>x.elim (st2.xd q) λz=>(by rw[z,ea];intro w;cases w),λq x=>(by cases x;exact#[ea,hok]),st2.tb]
 have en':Eu ρ' H2 (λ_=>ae) ((Pv.XT n l).set n<|aa .drw) [] (U.set n<|aa<|.ref a) H2:=by
  refine#[Fut.refl _ _,st'.xd,by rw[bc,bc,JV];exact en.len,λ_=>rfl,λ_ _ _ z=>?_,λ_ _ z=>?_,λ_ _ z=>?_,λi w q _=>?_]
  .cases z
  .cases z
  .cases z
  .rcases QC q with⟨rfl,z,hl⟩|⟨c,z⟩
   .cases z
    exact#[.ref a,ba (by rw[<-en.len,<-JV];exact hl),by exact#[a,rfl,rfl]]
   .obtain⟨z,hfl⟩:=vG z
    obtain⟨v,hv,r⟩:=en2.all.val i w z;exact#[v,by rw[aQ c];exact hv,Rep.flat (O:=O) (ρ':=ρ'.ex λ_=>ae) rfl (λ_ _ z _ _=>z) hfl r]
 have n0:∀{b},b≠a->ρ'.n0≠aa b:=λc w=>T7 (af w).symm c
 have keep:∀{H'},Fut ρ' H2 ρ' H'->∀b o,b≠a->H2 b=aa o->(∀ps,o≠.tbl ps)->H' b=aa o:=λ{H'} f b o c z n=>(f.keep b o z).elim id λw=>w.elim (λw=>T7 w.1<|n0 c) λ#[#[ps,e],_]=>T7 e<|n ps
 have back:∀{H':Hp}{s:Zr},Fut ρ' H2 ρ' H'->St3 X.K ρ' s H'->St3 X.K O S2 H'/\Fut O H0 O H':=λ{H' s} f w=>by
  refine#[#[st2.hk,λq x=>?_,λq x=>?_,w.tb],rfl,λb o z=>?_]
  .exact f.there (n0<|nX q x)<|st2.xd q x
  .obtain⟨e1,e2⟩:=st2.dw q x
   exact#[keep f q _ (nX q<|O.xz q x) e1 (by intro _ z;cases z),e2]
  .have ne:b≠a:=λc=>by rw[c,JC (en.mono f1) st1 na]at z;cases z
   rcases en2.fut.keep b o z with y|y|⟨e,ps,y⟩
   .rcases f.keep b o y with q|q|q
    .exact .inl q
    .exact T7 q.1<|n0 ne
    .exact .inr<|.inr q
   .exact .inr<|.inl y
   .rcases f.keep b _ y with q|⟨_,xs,q⟩|⟨_,q⟩
    .exact .inr<|.inr #[e,ps,q]
    .cases q
    .exact .inr<|.inr #[e,q]
 have backE:∀{H':Hp}{s:Zr}{W':Own}{l':Lc}{os':List Nat}{σ':L2.St},Eu ρ' H2 W' l' os' σ' H'->St3 X.K ρ' s H'->St3 X.K O S2 H'/\Eu O H0 (λ_=>ae) (l'.map Pv.Ww) [] σ' H':=λ{H' s W' l' os' σ'} g w=>by
  obtain⟨a1,a2⟩:=back g.fut w;refine#[a1,a2,en.xd,by rw[ay];exact g.len,λ_=>rfl,λ_ _ _ z=>?_,λ_ _ z=>?_,λ_ _ z=>?_,λi w q _=>?_]
  .cases z
  .cases z
  .cases z
  .obtain⟨z,hfl⟩:=QE q
   obtain⟨v,hv,r⟩:=g.all.val i w z;exact#[v,hv,Rep.flat (O:=ρ') (ρ':=O.ex λ_=>ae) rfl (λ_ _ z _ _=>z) hfl r]
 refine#[ρ',H2,λ_=>ae,_,[],d,st',en',?_]
 cases q:Pv.rvs C ns B ((Pv.XT n l).set n<|aa .drw) [] d with
 |no=>rw[q]at h3;exact h3
 |ex c s=>rw[q]at h3;exact h3.elim
 |ok g s=>
  rw[q]at h3;cases g with
  |nx l' os'=>exact λH' σ' W' w g=>let #[a1,a2]:=backE g w;h3 H' σ' _ a1 a2
  |brk l' os'=>exact λH' σ' W' w g=>let #[a1,a2]:=backE g w;h3 H' σ' _ a1 a2
  |cnt l' os'=>exact λH' σ' W' w g=>let #[a1,a2]:=backE g w;h3 H' σ' _ a1 a2
  |ret v=>
   obtain⟨hfl,h3⟩:=Zv.guard h3;exact λH' v' f w r=>let #[a1,a2]:=back f w;h3 H' v' a2 a1 #[Rep.flat (O:=ρ') (ρ':=O) rfl (λ_ _ z _ _=>z) hfl r.1,λ_ ds z=>by rw[z]at hfl;cases hfl]
open Ev (ltI Yy Zg ZR)
section
variable{prog:bE}{w:bZ}{A:cQ}{E:ap->aw->Prop}{s:aw}{d:aG}{ep:Nat}{od:eX}{es:Array fb}
def zO(lo:(d == cG)=ai)(hc:od.ExactDict)(hdat:od.data=.dict es ep):nz prog w "dict" d d es.size (λi v=>(es[i]?).map (·.key)=aa v) (λh=>h.get? d=aa od) where
 type:=λ_ hm=>#[_,hm,hc.1]
 there:=λ_ hm=>#[aF hm,aF hm]
 keep:=λ_ _ hm hk=>hk d (.inl rfl) _ hm
 notList:=by decide
 notTuple:=by decide
 hint:=λ_ _ _ _ hm hq=>PySem.W.kdl_hint_dict #[_,hm,hc.1] hq
 iter:=λA s hh hm=>by
  have hne:d≠s.heap.objs.size:=bg<|aF hm;refine#[_,λi h=>h.IsKeyIter s.heap.objs.size d i es.size ep/\h.get? d=aa od,λE Q hq=>yQ lo hm hc hdat hq,?_,#[_,aI _ rfl,rfl,rfl],aq _ hm]
  exact{
   sub:=λb hb=>by simp at hb;simp[hb]
   frame:=λ_ _ _ st hk=>#[st.1.at λo e=>hk _ (by simp) o e,hk d (by simp) _ st.2]
   item:=λi s' Q E hi st hQ=>Uc st.1 st.2 hdat (λhlt h' hit' sb=>hQ _ h' s'.toks (by simp[hlt]) #[hit',sb.extBut _ _ hne st.2] λb o hb e=>sb.extBut b o (λz=>hb<|by simp[z]) e) λz=>T7 hi (by omega)
   done:=λs' Q E st hQ=>Uc st.1 st.2 hdat (λhlt _ _ _=>T7 hlt<|by omega) λ_=>#[hh,λh' eb=>hQ h' s'.toks λb o hb e=>eb b o (λz=>hb<|by simp[z]) e]
   self:=λ_ _ _ _ st hQ=>wpAny_pyIter_keyiter st.1 hQ}
def z8{acc:Array ap}(h:ItemsOf (λi v=>(es[i]?).map (·.key)=aa v) acc es.size):acc.toList=es.toList.map (·.key):=by
 refine bQ λi=>?_
 by_cases hi:i<es.size
 .have hl:i<acc.size:=by rw[h.1];exact hi
  have:=h.2 i acc[i]<|bh hl;rw[aK,bo,bo,this,bh hl]
 .rw[bq (by rw[aH,h.1];omega),bq<|by simp;omega]
def vf{T:String}{r:aG}{n:Nat}{P:Nat->ap->Prop}{OK:bX->Prop}{R:List ap->aw->Prop}(K:nz prog w T r d n P OK)(hh:A.handled=ae)(hok:OK s.heap)(hn:n<=aY)
  (h:∀h' tk acc,(∀b o,s.heap.get? b=aa o->h'.get? b=aa o)->s.heap.objs.size<=h'.objs.size->ItemsOf P acc n->R acc.toList {s with heap:=h',toks:=tk}):aX (aS prog w) A (collect<|.ref r) R E s:=by
 obtain⟨l1,l2⟩:=K.there _ hok
 let S:=s.heap.objs.size
 have hS:(s.heap.push {cls:=.type "list",data:=.seq #[]}).get? S=aa {cls:=.type "list",data:=.seq #[]}:=aI _ rfl;have fin:∀{h':bX}{tk c:Nat}{acc:Array ap},(∀b o,b≠S->(s.heap.push {cls:=.type "list",data:=.seq #[]}).get? b=aa o->h'.get? b=aa o)->h'.get? S=aa {cls:=.type "list",dict:=ae,data:=.seq acc c,slots:=#[]}->ItemsOf P acc n->R acc.toList {s with heap:=h',toks:=tk}:=
  λk e i=>h _ _ _ (λb o z=>k b o (bg<|aF z)<|aq _ z) (gC<|aF e) i
 unfold collect;refine ab<|wpAny_runValue<|gy entry_proto_collect' ?_;rw[eU PySem.F.plain_proto_collect _];refine ab (m:=newList [])<|bv<|au #[lh iR _,gy entry_list_iadd' ?_];rw[eU iR _];show aX _ A.in1 (dQ.List.listExtendWith (.ref S) (.ref r)<|.ref S) _ _ {s with heap:=s.heap.push {cls:=.type "list",data:=.seq #[]}}
 refine c9 (PySem.W.kdl_extend (A:=A) (R:=λq s'=>∃h' tk acc c,q=.ok (.ret<|.ref S)/\s'={s with heap:=h',toks:=tk}/\h'.get? S=aa {cls:=.type "list",dict:=ae,data:=.seq acc c,slots:=#[]}/\R acc.toList s') K hh (K.keep _ _ hok λb _ o e=>aq _ e) S (eD l1) (eD l2) _ 0 hS (λh' tk acc c k e i=>#[h',tk,acc,c,rfl,rfl,e,fin k e i]) hn) (λf s' x=>?_) λe s' x=>?_
 .cases f with
  |done f=>
   obtain⟨h',tk,acc,c,z,rfl,e,q⟩:=x;cases z;exact ab (m:=load S)<|gG e<|au q
  |again c'=>
   refine#[x.1,iY x.2 λy s2 z=>?_]
   obtain⟨h',tk,acc,c,rfl,rfl,e,q⟩:=z;exact ab (m:=load S)<|gG e<|au q
 .obtain⟨_,_,_,_,z,_⟩:=x
  cases z
def JL{κ:eT}{lt:Nat->Nat->Bool}{vs:List ap}{Q:ap->aw->Prop}(hh:A.handled=ae)(lo:(d == cG)=ai)(ho:s.heap.get? d=aa od)(hc:od.ExactDict)(hdat:od.data=.dict es ep)(hv:es.toList.map (·.key)=vs)(h64:vs.length<=100000)
  (O:Sq.Ord vs.length lt)(K:Sq.Asks prog w A.in1.in1 s.heap vs κ lt)
  (h:∀p h' tk D n,Sq.Pm vs.length p->Sq.Up (Sq.ltR ai vs.length lt) p vs.length->(∀b o,s.heap.get? b=aa o->h'.get? b=aa o)->s.heap.objs.size<=D->h'.get? D=aa (eK "list" (cE<|bn ai<|p.toList.map λi=>(bn ai vs).getD i br) n)->Q (.ref D) {s with heap:=h',toks:=tk}) :
  aX (aS prog w) A (call (.builtin "sorted") [.ref d]) Q E s:=by
 have hl:vs.length=es.size:=by rw[<-hv];simp
 refine Calls.call_function_entry kind_sorted plain_sorted entry_sorted (args_sorted1 _) ?_;unfold dQ.«sorted»;refine ab (m:=checkCount "sorted" 1 1 _)<|au ?_;refine ab<|vf (A:=A.in1) (zO lo hc hdat) hh ho (by rw[du];omega) λh1 tk acc hk big hacc=>?_
 rw[z8 hacc,hv];refine ab<|lg ?_<|by rw[du];omega
 have hoL:(h1.push<|eK "list" vs.toArray 0).get? h1.objs.size=aa (eK "list" vs.toArray 0):=aI _ rfl;show aX _ _ _ _ _ {s with heap:=h1.push<|eK "list" vs.toArray 0,toks:=tk}
 refine ab (bL (cM slot_list_sort #[_,hoL,rfl] entry_list_sort (by
  rw[Sq.y9];exact Sq.list_sort_rev (h0:=s.heap) hoL h64 (λb o e=>by
   have hlt:b<h1.objs.size:=aF<|hk b o e;exact#[bg hlt,aq _<|hk b o e]) O K λp a1 a2=>#[_,rfl,au #[_,rfl,by
    obtain⟨n,hn⟩:=sortedHeap_at (out:=cE<|bn ai<|p.toList.map λi=>(bn ai vs).getD i br) hoL
    exact h p _ tk _ n a1 a2 (λb o e=>by
     have hlt:b<h1.objs.size:=aF<|hk b o e;rw[sortedHeap_old (bg hlt)<|by rw[nv];exact dv hlt]
     exact aq _<|hk b o e) big hn]])<|args_list_sort _))
end
def Zbi(tk tv:TE):TE:=λU H Q=>∀p,H p=ae->J4 [(tk,tv)] U (upd H p<|.dT []) λps H2=>∃b r z,ps=[(.ref b,z)]/\H2 b=aa (.tup<|r.map kV)/\H2 p=aa (.dT [])/\Q (.ref p) (upd H2 p<|.dT [(r,z)])
def vn{X:Cx}{k v:Expr}{tk tv:TE}{pos:gD}(hu:X.A.units+7<db)(hk:PE X k tk)(hv:PE X v tv):PE X (.Dict [aa k] [v] pos) (Zbi tk tv):=by
 intro pq s U H Q I h;have I1:=I.laid (a:=s.heap.objs.size) (o:=.dT []) (h':=s.heap.push {cls:=.type "dict",data:=.dict #[]}) (t':=s.toks) (λ_ _ q=>aq _ q) (az _)<|x5 s.heap I.big
 rw[arm_eval_Dict,zip_pairTrees [aa k] [v] X.env pos rfl rfl,dictDisplay_pairs (pairTrees [aa k] [v] X.env pos) (by simp[pairTrees])<|by rw[pairTrees_length _ _ _ _ rfl rfl];show 1<17;omega]
 refine ab<|fX<|ab ?_;unfold subDict;refine ab<|wpAny_alloc<|ab<|bL ?_;rw[T9<|by rw[pairTrees_length _ _ _ _ rfl rfl];show 1<=15;omega]
 refine ab<|thn (vb hk hv qW pq _ U _ _ I1<|h _<|I.hok.fresh<|az s.heap.objs.size) λws s2 #[ps,H2,I2,rel,b,r,z,e,hb,hp,q]=>?_
 subst e;cases rel with
 |@cons _ y _ ys h1 t=>
  cases t;obtain⟨u,x⟩:=y;obtain⟨h1,h2⟩:=h1;cases(show u=ck b from h1)
  obtain⟨zz,hd,xs,rl,dd⟩:=jo I2.hok hp;cases rl;refine bL ?_;show aX _ _ (kK [(ck b,x)] _ _ >>= _) _ _ _;rw[gp];refine ab (ab<|ab<|lD (hsz:=by size_fits) (show(c8<|ZE X.prog X.w).room X.A from(show X.A.units<db by omega)) (WU I2.hok hb) dd λh' dd' hs=>au ?_)
  show aX _ _ (kK [] _ _) _ _ _;rw[kN];refine au<|au<|au<|au #[.ref s.heap.objs.size,_,?_,rfl,q];obtain⟨o,es,ep,hq,g2,g3,g4,_,g5⟩:=dd';refine Qu I2 (by rw[hp];exact dJ) hs #[o,hq] #[by show 1<=aY;decide,hd,[(r,b,x)],.cons #[rfl,?_,h2] .nil,o,es,ep,hq,g2,g3,g4,g5]
  rw[Zl (jA hb hp (λz=>nomatch z))]
  exact hb
def JO{O:Mx}{H:Hp}{d:D}{v:V}{r:List Int}(h:Rep O H d v)(e:Pv.Zbn d=aa r):∃b,v=.ref b/\H b=aa (.tup<|(r.map (cC:Int->Key)).map kV):=by
 cases d with|tup ks=>obtain⟨b,xs,rfl,hb,rs⟩:=h.tup';exact#[b,rfl,by rw[hb,Xl e rs]]|_=>exact Ev.nos e
def qM{O:Mx}{H:Hp}{d:D}{v:V}(h:Rep O H d v)(e:Pv.isT d=aj):v=.bl aj:=by
 cases d with
 |bl b=>cases b with|true=>exact h.bl'|false=>cases e
 |_=>cases e
def yo{ks:List (List Int)}{vs:List (List Key×V)}{r:List Int}{v:V}(h:vs.map (·.1)=ks.map (·.map (cC:Int->Key))):(XF vs (r.map cC) v).map (·.1)=(Pv.Z8 ks r).map (·.map cC):=by
 have hv:=Uz (k:=r) h;unfold Pv.Z8;cases c:ks.contains r with
 |true=>
  rw[c]at hv;unfold XF;rw[Xj,hv,T9 rfl,cf,T9 rfl,<-h];refine dD λx _=>?_
  show(if x.1=_ then(x.1,v)else x).1=x.1
  split<;>rfl
 |false=>
  rw[c]at hv;rw[we v (by simpa using hv),bV,h,T8 aJ,bV]
  rfl
section
variable{X:Cx}{xw:Nat->Hp->Prop}{fr:Bool}{C:Calls}{ns:List Nat}{e a b c tg:Expr}{i j k:E}{pos p p' p2 dp:gD}{n:Nat}{x:bD}
def Zbs{q:Nat}(hu:X.A.units+7<db)(he:CE X xw C e i)(hg:CG X tg [n])(hs:de [tg] (.Dict [aa e] [.Constant (.bool aj) q p] dp) pos.line X.env=cT ai)(hw:dg [tg] (.Dict [aa e] [.Constant (.bool aj) q p] dp) X.env=cT ae)
  (h1:(bR [tg] X.env).map (·.2)=[c0 tg X.env]):CS X xw fr C ns (.Assign [tg] (.Dict [aa e] [.Constant (.bool aj) q p] dp) pos) (.dnw n i):=.mk <| PS.imp (Y9 (vn hu he.h vM) hg.h hs hw h1) λD U H #[O,H0,W,l,os,S,st,en,h]=>λa ha=>by
 rw[Pv.rv]at h;have f0:Fut O H O (upd H a<|.dT []):=Zp ha;have en0:=en.mono f0;refine#[O,l,S,st.fresh ha,en0.all,Zv.bind en0 h λy S1 H1 v f1 st1 r1 h1=>?_]
 obtain⟨r,hr,h1⟩:=Zv.ob h1;obtain⟨hl,h1⟩:=h1.guard;obtain⟨b,rfl,hb⟩:=JO r1 hr;have nx:¬O.X a:=st.nx ha;have hp:H1 a=aa (.dT []):=vJ f1 nx Zo;have hx:¬(O.ex W).X a:=λz=>z.elim nx λ#[j,w]=>let #[_,_,_,z]:=en.own j a w;T7 ha z.ne
 have f2:Fut O H O (upd H1 a<|.dT [(r.map cC,.bl aj)]):=#[rfl,λc o z=>by
  have ne:c≠a:=λq=>by rw[q,ha]at z;cases z
  rw[Zl ne];exact(f0.trans f1).keep c o z]
 refine#[b,r.map cC,.bl aj,rfl,hb,hp,h1 _ _ _ ?_<|en.takeO (d:=.dow [r]) st.xd f2 ha hx #[_,Zo,rfl] hl];exact#[st1.hk,λc z=>by rw[Zl λq:c=a=>nx<|by rw[<-q];exact z];exact st1.xd c z,λc z=>by rw[Zl λq:c=a=>nx<|by rw[<-q];exact O.xz c z];exact st1.dw c z,st1.tb.upd (λo u z=>by rw[hp]at z;cases z) λ_ z=>by cases z]
def uK{ix:Expr}{ii:E}(hu:X.A.units+7<db)(hi:CE X xw C ix ii)(he:CE X xw C e i)(hN:X.N[n]?=aa x)(hv:Vis X.env.scope x)(hd:(x == ("__debug__" : bD))=ai)(hcd:(x == ("__classdict__" : bD))=ai)
  (hs:iH e (aa<|.Subscript (.Name x p') ix p) pos.line X.env=cT ai):CS X xw fr C ns (.Assign [.Subscript (.Name x p') ix p] e pos) (.dput (.v n) ii i):=.mk <| PS.imp (qH (by omega) (Vf hN hv hd hcd) hi.h he.h hs)<|by
 rintro D U H ⟨O,H0,W,l,os,S,st,en,h⟩;rw[Pv.rv]at h;obtain⟨c,h⟩:=h.guard;refine#[O,l,S,st,en.all,Zv.bind en h λy S1 H1 v f1 st1 r1 h1=>?_]
 obtain⟨ht,h1⟩:=h1.guard;obtain⟨ks,hk,h1⟩:=Zv.ob h1;have en1:=en.mono f1;obtain⟨a,ha⟩:=dm.mp<|(en.osW n).symm.trans c;have own:∀{H2},Eu O H0 W l os U H2->U[n]?=aa (aa<|.ref a)/\∃vs,H2 a=aa (.dT vs)/\vs.map (·.1)=ks.map (·.map cC):=λ{H2} en=>by
  obtain⟨d,p,q,r⟩:=en.own n a ha;rw[p]at hk;cases d with|dow ks'=>cases hk;exact#[q,r]|_=>cases hk
 refine#[.ref a,(own en1).1,O,l,S1,st1,en1.all,Zv.bind en1 h1 λz S2 H2 w f2 st2 r2 h2=>?_]
 obtain⟨r,hr,h2⟩:=Zv.ob h2;obtain⟨hl,h2⟩:=h2.guard;have en2:=en1.mono f2;obtain⟨b,rfl,hb⟩:=JO r2 hr;obtain⟨_,vs,e2,e3⟩:=own en2;have hz:vs.length<aY:=by
  have:=congrArg hV e3;rw[ay,ay]at this;rw[this,<-Yp];exact hl
 rw[qM r1 ht];exact#[a,_,rfl,DPut.t e2 hb hz,h2 _ _ W (st2.mut en2 ha)<|en2.mutO ha (d':=.dow<|Pv.Z8 ks r) #[_,Zo,yo e3]]
def ZcG{P:bE}{w:bZ}{H:Hp}{h:bX}{a:aG}{kvs:List (List Key×V)}(ok:HOk P w H h)(e:H a=aa (.dT kvs)):(a == cG)=ai/\kvs.length<=aY/\
  ∃(o:eX)(es:Array fb)(ep:Nat),h.get? a=aa o/\o.ExactDict/\o.data=.dict es ep/\es.size=kvs.length/\∃qs:List aG,es.toList.map (·.key)=qs.map ck/\qs.length=kvs.length/\∀(i:Nat)(p:List Key×V),kvs[i]?=aa p->∃q,qs[i]?=aa q/\H q=aa (.tup<|p.1.map kV):=by
 obtain⟨z,y,xs,r,o,es,ep,h1,h2,h3,h4,h5⟩:=(show ZZ P w H h a (.dT kvs)from ok a _ e)
 have hl:es.size=kvs.length:=by
  have:=congrArg hV h4;rw[ay,<-Paired.length r]at this
  simpa using this
 refine#[y,z,o,es,ep,h1,h2,h3,hl,xs.map (·.2.1),?_,by rw[ay,<-Paired.length r],λi p hp=>?_]
 .rw[h4,cf,cf];rfl
 .obtain⟨q,hq,e1,e2,e3⟩:=VW r hp
  exact#[q.2.1,by rw[aK,hq];rfl,e2]
theorem UC{O:Mx}{H:Hp}:∀{ks:List (List Int)}{qs:List aG},qs.length=ks.length->(∀(i:Nat)(k:List Int),ks[i]?=aa k->∃q,qs[i]?=aa q/\H q=aa (.tup<|k.map V.int))->Rq O H (ks.map Pv.Zb) (qs.map V.ref)
 |[],[],_,_=>Rq.nil
 |k::ks,q::qs,hl,h=>by
  obtain⟨q',e,hq⟩:=h 0 k rfl;cases e;exact Rq.cons (YB hq<|Rq.ints k)<|UC (by simpa using hl) λi k e=>h (i+1) k e
 |[],_::_,hl,_=>by cases hl
 |_::_,[],hl,_=>by cases hl
theorem Wm:∀qs:List aG,Vals (qs.map V.ref) (qs.map ck)
 |[]=>.nil
 |q::qs=>.cons rfl<|Wm qs
theorem JM:∀ks:List (List Int),Pv.ZV (ks.map Pv.Zb)=aa ks
 |[]=>rfl
 |k::ks=>by
  have hi:∀k:List Int,Pv.intsV (k.map Pv.V.int)=aa k:=λk=>by
   induction k with|nil=>rfl|cons n k ih=>show(Pv.intsV<|k.map Pv.V.int).map (n :: ·)=_;rw[ih];rfl
  show(match Pv.intsV (k.map Pv.V.int),Pv.ZV (ks.map Pv.Zb)with|some a,aa b=>aa (a::b)|_,_=>ae)=_
  rw[hi,JM ks]
def xX{O:Mx}{pq:List (aG×eX)}{s:aw}{U:L2.St}{H:Hp}{v:V}{ks:List (List Int)}(I:Inv X pq U H s)(r:Rep O H (.dow ks) v):∃(a:aG)(o:eX)(es:Array fb)(ep:Nat)(qs:List aG),v=.ref a/\(a == cG)=ai/\ks.length<=aY/\s.heap.get? a=aa o/\o.ExactDict/\o.data=.dict es ep/\es.size=ks.length/\es.toList.map (·.key)=qs.map ck/\qs.length=ks.length/\Rq O H (ks.map Pv.Zb) (qs.map V.ref):=by
 obtain⟨a,vs,e,ha,_,hk⟩:=r.dow';obtain⟨lo,hz,o,es,ep,g1,g2,g3,hl,qs,e1,e2,e3⟩:=ZcG I.hok ha;have hn:vs.length=ks.length:=by have:=congrArg hV hk;simpa using this
 refine#[a,o,es,ep,qs,e,lo,by omega,g1,g2,g3,by omega,e1,by omega,UC (by omega) λi k q=>?_]
 have e4:=congrArg (·[i]?) hk
 simp only[aK,q,mZ]at e4;obtain⟨p,e5,e6⟩:=aR.mp e4;obtain⟨q',e7,e8⟩:=e3 i p e5;rw[e6,cf]at e8;exact#[q',e7,e8]
def yK(hc:X.calm=aj):ZD X (.type "list") (VS X.K xw .listD):=by
 intro pq s U H vs us Q I r h;obtain⟨O,S,ds,st,rs,H0,S0,f0,s0,h⟩:=h;obtain⟨d,v,z,rfl,r1,hz,h⟩:=X0 h rs;cases d with
 |dow ks=>
  cases hz;obtain⟨a,o,es,ep,qs,rfl,lo,hn,g1,g2,g3,g4,g5,g6,rq⟩:=xX I r1;obtain⟨u,rfl,ru⟩:=Xy r;cases ru;refine PySem.W.kdl_call (zO lo g2 g3) (I.ok.hd hc) g1 (by omega) λh' tk acc c' kp hL hacc=>?_
  refine#[.ref _,_,I.laid (t':=tk) (o:=.lst<|qs.map V.ref) kp (az _) #[by rw[ay];omega,acc.toList,c',by rw[z8 hacc,g5];exact Wm qs,hL],rfl,h.newF f0 s0 st rq _<|I.hok.fresh<|az _]
 |_=>exact Ev.nos hz
def QS(hc:X.calm=aj):ZD X (.builtin "sorted") (VS X.K xw .sortedD):=by
 intro pq s U H vs us Q I r h;obtain⟨O,S,ds,st,rs,H0,S0,f0,s0,h⟩:=h;obtain⟨d,v,z,rfl,r1,hz,h⟩:=X0 h rs;cases d with
 |dow ks=>
  have hz:(if ZR ks=aj then aa (Pv.V.lst<|(Zg ks).map Pv.Zb)else ae)=aa z:=hz
  split at hz
  case isFalse=>cases hz
  rename_i hok
  cases hz;obtain⟨a,o,es,ep,qs,rfl,lo,hn,g1,g2,g3,g4,g5,g6,rq⟩:=xX I r1;obtain⟨u,rfl,ru⟩:=Xy r;cases ru;have rv:=Wm qs;obtain⟨RA,_⟩:=XX I (JM ks) rq rv;obtain⟨hok1,hok3⟩:=(aD _ _).mp hok;obtain⟨hok1,hok2⟩:=(aD _ _).mp hok1;have h64:=T6 hok1;have hnd:=T6 hok2;have hne:∀r∈ks,r≠[]:=λr hr e=>by
   have:=bG.mp hok3 r hr;rw[e]at this;cases this
  have hlen:=RA.length;refine JL (I.ok.hd hc) lo g1 g2 g3 g5 (by omega) (QM hnd hlen) (Uo RA hnd hne) λp h' tk D n hp hu kp hD hL=>?_
  rw[<-hlen]at hp hu;have out:=QK hnd hp hu;have hmem:∀i∈p.toList,i<ks.length:=λi hi=>by
   have hp':p.toList.Perm (aU ks.length):=by simpa using bC.mp hp
   exact bj.mp<|hp'.mem_iff.mp hi
  have rx2:=QZ (F:=p.toList) rq hmem;have out:(p.toList.map λi=>ks.getD i [])=Zg ks:=out
  rw[out]at rx2;have rv2:=JG (F:=p.toList) rv (by rw[ay,g6];exact hmem)
  refine#[.ref D,_,I.laid (t':=tk) (o:=.lst<|p.toList.map λi=>(qs.map V.ref).getD i V.non) kp hD #[?_,_,n,rv2,hL],rfl,h.newF f0 s0 st rx2 _<|I.hok.fresh hD]
  rw[ay,aH,hp.size];exact hn
 |_=>exact Ev.nos hz
end
end Sd
namespace Gn
open PySem PySem.Spec PyProof.Rows L2
open Ev (E Sm Fn Bop Cop Ty Bf Mf)
open Sd (Calls spF CompScope cxC hu7 ze v5)
structure FR where
 x:bD
 st:eR
 N:List bD
 k:Nat
noncomputable def FR.ps(r:FR):List bD:=r.N.take r.k
noncomputable def scB(N:List bD)(k:Nat)(sc:ez):Bool:=
 (match sc.kind with|.function=>aj|_=>ai)&&(!sc.isCoroutine&&(!sc.isGenerator&&(decide N.Nodup&&((N.take k).all (λx=>al (sc.names.lookup x=aa .local)||decide (sc.names.lookup x=aa .cell))&&sc.names.all λy=>al<|y.2≠.free))))
def ZaR(h:scB N k sc=aj):FnScope N (N.take k) sc:=by
 unfold scB at h;simp only[aD,mf,T0,bG,km]at h;obtain⟨h1,h2,h3,h4,h5,h6⟩:=h;refine#[?_,h2,h3,h4,?_,h5,h6]
 .cases e:sc.kind<;>rw[e]at h1<;>first|rfl|cases h1
 .rw[bw]
  by_cases hk:k<=N.length
  .rw[ko hk]
  .rw[Nat.min_eq_right (by omega),fV,cx<|by omega]
inductive Gv where
 |int (n:Int)|tab (t:List (Int×Int))
 deriving DecidableEq
def ZbQ(K:ao)(mg:bD->Option ap)(x:bD):Gv->Prop
 |.int n=>∃t:nM,mg x=aa (.int n t)
 |.tab t=>∃tb:aG,(∀P w,Sd.ZcL P w K tb t)/\mg x=aa (.ref tb)
structure Top(K:ao)(mg:bD->Option ap)(fs:List FR)(zs:List bD)(gs:List (bD×Gv))(f:Nat->aG)(fd:Nat->cP):Prop where
 d:∀i r,fs[i]?=aa r->Fun K r.x r.x r.st (f i) (fd i)
 b:∀i r,fs[i]?=aa r->VA K (fd i) r.ps []
 m:∀i r,fs[i]?=aa r->mg r.x=aa (.ref<|f i)
 z:∀x∈zs,mg x=ae
 g:∀y∈gs,ZbQ K mg y.1 y.2
def All(P:bE)(w:bZ)(K:ao)(mg:bD->Option ap)(base:bX)(fs:List FR)(F:List Fn)(tk:Nat)(sn:List Nat)(f:Nat->aG)(fd:Nat->cP)(d:Nat):Prop:=
 ∀i r,fs[i]?=aa r->FnOk P w K mg base CX0 d (f i) (fd i) r.ps (spF K (Pv.Zh F tk d) (sn.contains i) i)
def Bd(fs:List FR)(zs:List bD)(gs:List (bD×Gv))(F:List Fn)(tk:Nat)(sn:List Nat)(i:Nat)(r:FR)(fn:Fn):Prop:=
 ∀(P:bE)(w:bZ)(K:ao)(mg:bD->Option ap)(base:bX)(f:Nat->aG)(fd:Nat->cP)(d:Nat),Top K mg fs zs gs f fd->All P w K mg base fs F tk sn f fd d->r.N.Nodup->
  ∀(cdv:ap)(A:cQ)(outer:List Env)(s:aw)(H:Hp)(E:XK),Room d (A.deeper<|gH r.x (Zw r.st) s.heap.objs.size (f i) cdv)->(A.deeper<|gH r.x (Zw r.st) s.heap.objs.size (f i) cdv).units+7<db->
   Sd.CSs (J2 CX0 P w K mg base r.N r.x (Zw r.st) (f i) cdv A outer s H E).nox (λ_ _=>False) (sn.contains i) (Pv.Zh F tk d) (Pv.muts fn.body) (Z2 r.st) fn.body
def OkL(fs:List FR)(zs:List bD)(gs:List (bD×Gv))(F:List Fn)(tk:Nat)(sn:List Nat):Nat->List FR->List Fn->Prop
 |_,[],[]=>True
 |i,r::rs,fn::fns=>(fn.ns=r.N.length/\fn.ps=r.ps.length/\scB r.N r.k (Zw r.st)=aj/\Bd fs zs gs F tk sn i r fn)/\OkL fs zs gs F tk sn (i+1) rs fns
 |_,_,_=>False
theorem OkL.get{fs:List FR}{zs:List bD}{gs:List (bD×Gv)}{F:List Fn}{tk:Nat}{sn:List Nat}:∀{rs:List FR}{fns:List Fn}{i0:Nat},OkL fs zs gs F tk sn i0 rs fns->∀i r,rs[i]?=aa r->∃fn,fns[i]?=aa fn/\fn.ns=r.N.length/\fn.ps=r.ps.length/\scB r.N r.k (Zw r.st)=aj/\Bd fs zs gs F tk sn (i0+i) r fn
 |[],_,_,_,i,r,e=>by simp at e
 |_::_,[],_,h,_,_,_=>h.elim
 |r::rs,fn::fns,i0,h,0,r',e=>by
  simp at e;subst e;exact#[fn,rfl,h.1.1,h.1.2.1,h.1.2.2.1,h.1.2.2.2]
 |r::rs,fn::fns,i0,h,i+1,r',e=>by
  obtain⟨g,a,b,c,d,q⟩:=OkL.get h.2 i r' (by simpa using e)
  exact#[g,by simpa using a,b,c,d,by rw[iB,lO 1 i]at q;exact q]
theorem vh{P:bE}{w:bZ}{K:ao}{mg:bD->Option ap}{base:bX}{fs:List FR}{zs:List bD}{gs:List (bD×Gv)}{F:List Fn}{tk:Nat}{sn:List Nat}{f:Nat->aG}{fd:Nat->cP}(O:OkL fs zs gs F tk sn 0 fs F)(hT:F[tk]?=aa Sd.XG)(T:Top K mg fs zs gs f fd):∀d,All P w K mg base fs F tk sn f fd d
 |0=>λi r h=>ze
 |d+1=>λi r h=>by
  obtain⟨fn,a,b,c,e,q⟩:=O.get i r h;rw[Nat.zero_add]at q;have S:=ZaR e;have hb:=λcdv A outer s H E hr=>(q P w K mg base f fd d T (vh O hT T d) S.nd cdv A outer s H E hr<|hu7 hr)
  by_cases ht:i=tk
  .subst ht
   rw[hT]at a;cases a;exact Sd.wL Sd.qF b c (T.d i r h) S hb
  .exact Sd.wL (Sd.qS ht a) b c (T.d i r h) S hb
def VZ(r:FR):Prop:=∀(kV doc pm:ap)(an:Option aG)(cdv ct:ap)(us:List ap),us.length=r.ps.length->nh (dE r.x r.x (YD r.st) (Z2 r.st) (Zw r.st) .none kV doc pm an cdv ct) #[us,[]]=cT (r.ps.zip us)
section
variable{x:bD}{st:eR}
noncomputable abbrev bA(x:bD)(st:eR)(kV doc pm:ap)(an:Option aG)(cdv ct:ap)(us:List ap):=nh (dE x x (YD st) (Z2 st) (Zw st) .none kV doc pm an cdv ct) #[us,[]]
def bd1(h:∀kV doc pm an cdv ct a0,bA x st kV doc pm an cdv ct [a0]=cT ((N.take n).zip [a0]))(hl:(N.take n).length=1:=by rfl):VZ #[x,st,N,n]:=λkV doc pm an cdv ct us e=>match us,e.trans hl with|[a0],_=>h kV doc pm an cdv ct a0
def bd2(h:∀kV doc pm an cdv ct a0 a1,bA x st kV doc pm an cdv ct [a0,a1]=cT ((N.take n).zip [a0,a1]))(hl:(N.take n).length=2:=by rfl):VZ #[x,st,N,n]:=λkV doc pm an cdv ct us e=>match us,e.trans hl with|[a0,a1],_=>h kV doc pm an cdv ct a0 a1
def bd3(h:∀kV doc pm an cdv ct a0 a1 a2,bA x st kV doc pm an cdv ct [a0,a1,a2]=cT ((N.take n).zip [a0,a1,a2]))(hl:(N.take n).length=3:=by rfl):VZ #[x,st,N,n]:=λkV doc pm an cdv ct us e=>match us,e.trans hl with|[a0,a1,a2],_=>h kV doc pm an cdv ct a0 a1 a2
def bd4(h:∀kV doc pm an cdv ct a0 a1 a2 a3,bA x st kV doc pm an cdv ct [a0,a1,a2,a3]=cT ((N.take n).zip [a0,a1,a2,a3]))(hl:(N.take n).length=4:=by rfl):VZ #[x,st,N,n]:=λkV doc pm an cdv ct us e=>match us,e.trans hl with|[a0,a1,a2,a3],_=>h kV doc pm an cdv ct a0 a1 a2 a3
end
inductive FnsAt(K:ao):List FR->List aG->List cP->Prop
 |nil:FnsAt K [] [] []
 |cons {x:bD} {st:eR} {N:List bD} {n:Nat} {a:aG} {rs:List FR} {as:List aG} {fds:List cP} {oc kV dc pm cd ct:ap} {od an:Option aG} {sl:Array (Option ap)}
   (h1:fO K cA x=aa (aa<|.ref a)) (h2:K.lookup a=aa #[oc,od,.func<|dE x x (YD st) (Z2 st) (Zw st) .none kV dc pm an cd ct,sl])
   (h3:gI K cd x=aj) (h4:fJ K (.ref a)=aj) (h5:VZ #[x,st,N,n]) (t:FnsAt K rs as fds) :
   FnsAt K (#[x,st,N,n]::rs) (a::as) (dE x x (YD st) (Z2 st) (Zw st) .none kV dc pm an cd ct::fds)
inductive ZsAt(K:ao):List bD->Prop
 |nil:ZsAt K []
 |cons {x:bD} {zs:List bD} (h:fO K cA x=aa ae) (t:ZsAt K zs):ZsAt K (x::zs)
inductive GsAt(K:ao):List (bD×Gv)->Prop
 |nil:GsAt K []
 |cons {x:bD} {n:Int} {u:nM} {gs:List (bD×Gv)} (h:fO K cA x=aa (aa<|.int n u)) (t:GsAt K gs):GsAt K ((x,.int n)::gs)
 |tab {x:bD} {a:aG} {es:Array fb} {n:Nat} {tb:List (Int×Int)} {gs:List (bD×Gv)} (h:fO K cA x=aa (aa<|.ref a)) (h2:K.lookup a=aa #[.type "dict",ae,.dict es n,#[]]) (h3:Sd.YH es.toList tb) (h4:(a == cG)=ai) (t:GsAt K gs):GsAt K ((x,.tab tb)::gs)
theorem GsAt.get{K:ao}{h:bX}{mg:bD->Option ap}(X:K.In h)(G:h.Ns cA mg):∀{gs:List (bD×Gv)},GsAt K gs->∀y∈gs,ZbQ K mg y.1 y.2
 |_,.nil,x,h=>by simp at h
 |_,.cons h t,x,m=>by
  rcases aC.mp m with rfl|m
  .exact#[_,lj X G h]
  .exact t.get X G x m
 |_,.tab h h2 h3 h4 t,x,m=>by
  rcases aC.mp m with rfl|m
  .exact#[_,λP w=>Sd.qZ h2 h3 h4,lj X G h]
  .exact t.get X G x m
theorem FnsAt.get{K:ao}{fd0:cP}:∀{fs:List FR}{as:List aG}{fds:List cP},FnsAt K fs as fds->∀i r,fs[i]?=aa r->
  fO K cA r.x=aa (aa<|.ref<|as.getD i 0)/\Fun K r.x r.x r.st (as.getD i 0) (fds.getD i fd0)/\VZ r
 |_,_,_,.nil,i,r,e=>by simp at e
 |_,_,_,.cons h1 h2 h3 h4 h5 t,0,r,e=>by
  simp at e;subst e;exact#[h1,ZaA h2 h3 h4,h5]
 |_,_,_,.cons h1 h2 h3 h4 h5 t,i+1,r,e=>by
  obtain⟨a,b,c⟩:=t.get i r (by simpa using e)
  exact#[by simpa using a,by simpa using b,c]
theorem ZsAt.get{K:ao}:∀{zs:List bD},ZsAt K zs->∀x∈zs,fO K cA x=aa ae
 |_,.nil,x,h=>by simp at h
 |_,.cons h t,x,m=>by
  rcases aC.mp m with rfl|m
  .exact h
  .exact t.get x m
def Za9{l:kl}{w:bZ}{K:ao}{h:bX}{mg:bD->Option ap}{fa:aG}{fs:List FR}{zs:List bD}{gs:List (bD×Gv)}{F:List Fn}{tk L:Nat}{sn:List Nat}{st:eR}{N:List bD}{as:List aG}{fds:List cP}
  (X:K.In h)(G:h.Ns cA mg)(hfa:mg "law" = aa (.ref fa))(hL:fs[L]?=aa #["law",st,"_law_script" :: N,1])(O:OkL fs zs gs F tk sn 0 fs F)(hT:F[tk]?=aa Sd.XG)(hLs:sn.contains L=ai)(A:FnsAt K fs as fds)(Z:ZsAt K zs)(Y:GsAt K gs) :
  ∃fd:cP,(∀(s:aw)(v:ap),lJ s fd #[[v],[]] [("_law_script",v)])/\∀base:bX,K.In base->base.Ns cA mg->FnOk l.prog w K mg base CX0 65 fa fd ["_law_script"] (spF K (Pv.Zh F tk 65) ai L):=by
 cases fds with
 |nil=>cases A;simp at hL
 |cons fd0 fds'=>
 have T:Top K mg fs zs gs (λi=>as.getD i 0) (λi=>(fd0::fds').getD i fd0):=
  #[λi r e=>(A.get i r e).2.1,λi r e=>by
   obtain⟨_,F,B⟩:=A.get (fd0:=fd0) i r e;exact F.binds B,λi r e=>lj X G (A.get (fd0:=fd0) i r e).1,λx hx=>PySem.W.mg_none_of X G<|Z.get x hx,λy hy=>Y.get X G y hy]
 have e:=hfa.symm.trans<|T.m L _ hL;obtain⟨_,Fu,B⟩:=A.get (fd0:=fd0) L _ hL;cases e;refine#[(fd0::fds').getD L fd0,λs v=>?_,λbase _ _=>?_]
 .obtain⟨oc,od,kV,doc,pm,an,cdv,ct,osl,e,lk,hcd⟩:=Fu.ex
  rw[e];exact .of_eq<|B kV doc pm an cdv ct [v] rfl
 .have:=vh (P:=l.prog) (w:=w) (base:=base) O hT T 65 L _ hL
  rw[hLs]at this;exact this
def walk{l:kl}{q:bE}{loose:List bD}{XP:(bD->Option ap)->bX->Prop}{YP:bZ->bX->Prop}{d:DefRec}{K:Params->ao}{F:List Fn}{tk L:Nat}(hok:∀(ns:List Int) s,∃S,Pv.Zh F tk 65 L [.scr ns] s=.ok (.bl aj) S)(hn:l.most=aa 63)(hdf:d.params.defaults=[])
  (hY:∀(w:bZ)(h:bX),YP w h->(K w.params).In h)
  (hF:∀(w:bZ)(mg:bD->Option ap)(fa:aG)(h:bX),(K w.params).In h->h.Ns cA mg->mg d.name=aa (.ref fa)->
   ∃fd:cP,(∀(s:aw)(u:ap),lJ s fd #[[u],[]] [("_law_script",u)])/\∀base:bX,(K w.params).In base->base.Ns cA mg->FnOk l.prog w (K w.params) mg base CX0 65 fa fd ["_law_script"] (spF (K w.params) (Pv.Zh F tk 65) ai L)) :
  nC q loose XP YP l.row.toRowW d [] (λf vs=>nk f vs):=
 L2.qN (n:=63) (k:=65) (x:="_law_script") (CX:=λ_=>CX0) (sp:=λw=>spF (K w.params) (Pv.Zh F tk 65) ai L) hn (by decide) hdf #[rfl,by decide,by decide] hY hF (λw H a ns hl hO hS=>v5 hO hS<|hok ns) λ_ _ _ _ _ z=>z
def Top.no{K:ao}{mg:bD->Option ap}{x:bD}(T:Top K mg fs zs gs f fd)(h:zs.contains x=aj):mg x=ae:=T.z x (by simpa using h)
def ZbN{n:Nat}{x:bD}(T:Top X.K X.mg fs zs gs f fd)(h:All X.prog X.w X.K X.mg X.base fs F tk sn f fd d)(hr:Room d X.A)(ha:Sd.CA X (λ_ _=>False) (Pv.Zh F tk d) (e::es) is)(hx:(fs[n]?).map FR.x=aa x)(hg:Gl X x)(hdb:(x == ("__debug__" : bD))=ai)
  (he:aM (e::es) X.env=(ai,cV e X.env)::aM es X.env)(hpl:(eC pos<|aM es X.env).any (·.1)=ai):Sd.CE X (λ_ _=>False) (Pv.Zh F tk d) (.Call (.Name x p) (e::es) [] pos) (.call n is):=by
 cases e0:fs[n]? with
 |none=>rw[e0]at hx;cases hx
 |some r=>
  rw[e0]at hx;obtain rfl:r.x=x:=af hx;exact Sd.jh (h n r e0) hr (T.m n r e0) (T.d n r e0).kp (T.b n r e0) ha hg hdb he hpl
def Zch{x y:bD}{n k:Nat}{px p':gD}{ss:List eR}{B:List Sm}{fr:Bool}{ns:List Nat}(T:Top X.K X.mg fs zs gs f fd)(h:All X.prog X.w X.K X.mg X.base fs F tk sn f fd d)(hr:Room d X.A)(ha:Sd.CA X (λ_ _=>False) (Pv.Zh F tk d) (e::es) is)(hB:Sd.CSs X (λ_ _=>False) fr (Pv.Zh F tk d) ns ss B)(hN:X.N.Nodup)(hx:(fs[k]?).map FR.x=aa y)(hk:sn.contains k=aj)
  (hg:Gl X y)(hdb:(y == ("__debug__" : bD))=ai)(he:aM (e::es) X.env=(ai,cV e X.env)::aM es X.env)(hpl:(eC p<|aM es X.env).any (·.1)=ai)(hi:X.N[n]?=aa x)(hl:L2.Loc X.env.scope x)(hf:X.fn x=aj\/X.env.scope.names.lookup x=aa .local)
  (hs:de [.Name x px] (.Call (.Name y p') (e::es) [] p) pos.line X.env=cT ai)(hw:dg [.Name x px] (.Call (.Name y p') (e::es) [] p) X.env=cT ae)(h1:(bR [.Name x px] X.env).map (·.2)=[c0 (.Name x px) X.env]) :
  Sd.CSs X (λ_ _=>False) fr (Pv.Zh F tk d) ns (.Assign [.Name x px] (.Call (.Name y p') (e::es) [] p) pos::ss) [.cel n k is B]:=by
 cases e0:fs[k]? with
 |none=>rw[e0]at hx;cases hx
 |some r=>
  rw[e0]at hx;obtain rfl:r.x=y:=af hx;have q:=h k r e0;rw[hk]at q;refine Sd.Zac (Sd.PE.imp (zq q hr hg (T.m k r e0) (T.d k r e0).kp (T.b k r e0) .nil jy ha.h hdb he hpl) λU H Q z=>?_) hB hN hi hl hf hs hw h1
  unfold jV;simp only[cz];exact z
noncomputable def csB(sc:ez)(N0:List bD)(scope:ez)(N:List bD)(cap:List Nat)(nl:Nat):Bool:=
 ((N.take nl).all (λx=>al (scope.names.lookup x=aa .local)||decide (scope.names.lookup x=aa .cell))&&(al (N.length=nl+cap.length)&&(cap.zipIdx.all (λp=>al (N[nl+p.2]?=N0[p.1]?)&&al ((N0[p.1]?).map (λx=>al<|(x,bz)∈scope.names)=aa aj)) &&
  ((match scope.kind with|.function=>aj|_=>ai)&&scope.names.all λy=>(!decide (y.2=.cell) || !decide ((y.1,bz)∈scope.names))&&((!decide (y.2=.local)||decide (scope.names.lookup y.1=aa .local))&&(!decide (y.2=.free)||((al (sc.names.lookup y.1=aa .cell)||decide (sc.names.lookup y.1=aa .free))&&al (scope.names.lookup y.1≠aa .local))))))))
def Zbg{sc:ez}{N0:List bD}{scope:ez}{N:List bD}{cap:List Nat}{nl:Nat}(h:csB sc N0 scope N cap nl=aj):CompScope sc N0 scope N cap nl:=by
 unfold csB at h;simp only[aD,km,mf,T0,decide_eq_false_iff_not,bG]at h;obtain⟨_,h1,h2,h3,h4⟩:=h;refine#[?_,λy hy z=>(h4 y hy).1.resolve_left λq=>q z,λy hy z=>?_,λy hy z=>?_,λy hy z=>?_,h1,h2]
 .cases e:scope.kind<;>rw[e]at h3<;>first|rfl|cases h3
 .rcases(h4 y hy).2.1 with q|q
  .exact T7 z q
  .exact q
 .rcases(h4 y hy).2.2 with q|q
  .exact T7 z q
  .exact q.1
 .rcases(h4 y hy).2.2 with q|q
  .exact T7 z q
  .exact q.2
noncomputable def cN(scope:ez)(nl:Nat)(cap:List Nat)(N0:List bD):List bD:=((scope.names.drop 1).take nl).map (·.1)++cap.map λi=>N0.getD i ""
def wY{sc:ez}{N0:List bD}{scope:ez}{cap:List Nat}{nl:Nat}(h:csB sc N0 scope (cN scope nl cap N0) cap nl=aj):CompScope sc N0 scope (cN scope nl cap N0) cap nl:=Zbg h
end Gn
namespace K71
open Ev
noncomputable def W9:Fn:=#[2,2,
 [.ite (.cmp .lt (.v 1)<|.blt .len [(.v 0)]) [.ret<|.ix (.v 0)<|.v 1] [],
  .ret (.c<|.int 0)]]
noncomputable def Qg:Fn:=#[2,3,
 [.asg [2]<|.call 0 [(.v 0),(.v 1)],
  .ite (.cmp .ge (.v 2)<|.bin .pow (.c<|.int 10)<|.c<|.int 18) [.ret<|.lst [(.bin .sub (.v 2)<|.bin .pow (.c<|.int 10)<|.c<|.int 18),(.c<|.bl aj)]] [],
  .ret (.lst [(.bin .mod (.v 2)<|.c<|.int 2147483647),(.c<|.bl ai)])]]
noncomputable def Ja:Fn:=#[2,4,
 [.ite (.dix (.v 0) aj) [.asg [2]<|.bin .mod (.dix (.v 0) ai)<|.v 1,
  .dset 0 (.bin .fdiv (.dix (.v 0) ai)<|.v 1),
  .ret (.v 2)] [],
  .dset 0 (.bin .mod (.bin .add (.bin .mul (.dix (.v 0) ai)<|.c<|.int 48271)<|.c<|.int 29)<|.c<|.int 2147483647),
  .asg [3] (.bin .mod (.bin .add (.bin .add (.bin .mul (.dix (.v 0) ai)<|.dix (.v 0) ai)<|.bin .mul (.c<|.int 39373)<|.dix (.v 0) ai)<|.c<|.int 7)<|.c<|.int 2147483629),
  .asg [3] (.bin .mod (.bin .add (.bin .mul (.v 3)<|.v 3)<|.bin .mul (.c<|.int 16807)<|.v 3)<|.c<|.int 2147483587),
  .ret (.bin .mod (.bin .fdiv (.v 3)<|.c<|.int 8)<|.v 1)]]
noncomputable def YW:Fn:=#[2,3,
 [.asg [2]<|.lst [(.tup [(.c<|.int 2),(.c<|.int 1)]),(.tup [(.c<|.int 2),(.c<|.int 2)]),(.tup [(.c<|.int 2),(.c<|.int 3)]),(.tup [(.c<|.int 2),(.c<|.int 4)]),(.tup [(.c<|.int 3),(.c<|.int 1)]),(.tup [(.c<|.int 3),(.c<|.int 2)]),(.tup [(.c<|.int 3),(.c<|.int 3)]),(.tup [(.c<|.int 5),(.c<|.int 1)]),(.tup [(.c<|.int 5),(.c<|.int 2)]),(.tup [(.c<|.int 2),(.c<|.int 3)]),(.tup [(.c<|.int 2),(.c<|.int 4)]),(.tup [(.c<|.int 3),(.c<|.int 3)])],
  .ite (.cmp .gt (.v 1)<|.c<|.int 27) [.asg [2]<|.bin .add (.v 2)<|.lst [(.tup [(.c<|.int 2),(.c<|.int 5)]),(.tup [(.c<|.int 2),(.c<|.int 6)]),(.tup [(.c<|.int 3),(.c<|.int 4)]),(.tup [(.c<|.int 5),(.c<|.int 3)])]] [],
  .ret (.ix (.v 2)<|.call 2 [(.v 0),(.blt .len [(.v 2)])])]]
noncomputable def J1:Fn:=#[4,4,
 [.ret<|.blt .tuple [(.comp1 [1,2,3,0] 1 [0] (.rng1<|.ix (.v 0)<|.c<|.int 1) []<|.bin .mod (.bin .add (.ix (.v 1)<|.v 0)<|.bin .mul (.v 2)<|.ix (.v 3)<|.v 0)<|.ix (.v 4)<|.c<|.int 0)]]]
noncomputable def QJ:Fn:=#[2,6,
 [.dnw 2<|.bin .mul (.tup [(.c<|.int 0)])<|.ix (.v 0)<|.c<|.int 1,
  .forr [3] (.of<|.v 1) [.ite (.cmp .nin (.v 3)<|.v 2) [.forF [4] (.blt .listD [(.v 2)]) [.forr [5] (.rng2 (.c<|.int 1)<|.ix (.v 0)<|.c<|.int 0) [.dput (.v 2) (.call 4 [(.v 0),(.v 4),(.v 5),(.v 3)])<|.c<|.bl aj]]] []],
  .ret (.blt .sortedD [(.v 2)])]]
noncomputable def US:Fn:=#[1,1,
 [.ret<|.comp1 [0] 1 [0] (.rng1<|.ix (.v 0)<|.c<|.int 1) []<|.blt .tuple [(.comp1 [0] 1 [0] (.rng1<|.ix (.v 1)<|.c<|.int 1) []<|.blt .toInt [(.cmp .eq (.v 0)<|.v 1)])]]]
noncomputable def Xb:Fn:=#[2,8,
 [.asg [2]<|.tup [],
  .asg [3] (.lst [(.bin .mul (.tup [(.c<|.int 0)])<|.ix (.v 1)<|.c<|.int 1)]),
  .asg [4] (.call 5 [(.v 1),(.call 6 [(.v 1)])]),
  .forr [5] (.rng1<|.ix (.v 1)<|.c<|.int 1) [.asg [6]<|.blt .dictP [(.comp1 [] 1 [0] (.of<|.v 3) []<|.tup [(.v 0),(.c<|.bl aj)])],
  .asg [7] (.comp1 [6] 1 [0] (.of<|.v 4) [(.cmp .nin (.v 0)<|.v 1)]<|.v 0),
  .asg [2] (.bin .add (.v 2)<|.tup [(.ix (.v 7)<|.call 2 [(.v 0),(.blt .len [(.v 7)])])]),
  .asg [3] (.call 5 [(.v 1),(.v 2)])],
  .ret (.v 2)]]
noncomputable def Yx:Fn:=#[3,3,
 [.ret<|.and (.isi (.v 0) [.int])<|.and (.not<|.isi (.v 0) [.bool])<|.chain .le .le (.v 1) (.v 0)<|.v 2]]
noncomputable def JR:Fn:=#[2,4,
 [.asg [2,3]<|.v 0,
  .ite (.or (.not<|.isi (.v 1) [.tuple])<|.cmp .ne (.blt .len [(.v 1)])<|.v 3) [.ret<|.c<|.bl ai] [],
  .ret (.blt .all [(.comp1 [2] 1 [0] (.of<|.v 1) []<|.call 8 [(.v 0),(.c<|.int 0),(.bin .sub (.v 1)<|.c<|.int 1)])])]]
noncomputable def Wb:Fn:=#[4,4,
 [.ret<|.blt .tuple [(.comp1 [3,0] 2 [0,1] (.zip (.v 1)<|.v 2) []<|.bin .mod (.bin .add (.v 0)<|.bin .mul (.v 2)<|.v 1)<|.v 3)]]]
noncomputable def V2:Fn:=#[4,4,
 [.ret<|.call 10 [(.v 0),(.v 1),(.v 2),(.neg<|.ix (.v 1)<|.v 3)]]]
noncomputable def yZ:Fn:=#[1,3,
 [.forr [1,2] (.enum<|.v 0) [.ite (.cmp .ne (.v 2)<|.c<|.int 0) [.ret<|.v 1] []],
  .ret (.c .non)]]
noncomputable def Jt:Fn:=#[3,7,
 [.asg [3,4]<|.v 0,
  .asg [5] (.v 2),
  .forr [6] (.of<|.v 1) [.asg [5]<|.call 11 [(.v 3),(.v 5),(.v 6),(.call 12 [(.v 6)])]],
  .ret (.v 5)]]
noncomputable def UU:Fn:=#[3,3,
 [.ret<|.blt .tuple [(.comp1 [2,0] 1 [0] (.of<|.v 1) []<|.bin .mod (.bin .mul (.v 1)<|.v 0)<|.v 2)]]]
noncomputable def VR:Fn:=#[2,3,
 [.asg [2]<|.c<|.int 1,
  .whl (.cmp .ne (.bin .mod (.bin .mul (.v 2)<|.v 1)<|.v 0)<|.c<|.int 1) [.aug 2 .add<|.c<|.int 1],
  .ret (.v 2)]]
noncomputable def V1:Fn:=#[3,9,
 [.asg [3,4]<|.v 0,
  .asg [5] (.call 13 [(.v 0),(.v 1),(.v 2)]),
  .asg [6] (.call 12 [(.v 5)]),
  .ite (.cmp .is (.v 6)<|.c .non) [.ret<|.v 1] [],
  .asg [7] (.call 14 [(.v 3),(.v 5),(.call 15 [(.v 3),(.ix (.v 5)<|.v 6)])]),
  .asg [8] (.comp1 [3,7,6] 1 [0] (.of<|.v 1) []<|.call 11 [(.v 1),(.v 0),(.v 2),(.v 3)]),
  .ret (.blt .tuple [(.blt .sortedR [(.bin .add (.v 8)<|.lst [(.v 7)])])])]]
noncomputable def YL:Fn:=#[3,5,
 [.asg [3]<|.v 1,
  .forr [4] (.of<|.v 2) [.asg [3]<|.call 16 [(.v 0),(.v 3),(.v 4)]],
  .ret (.v 3)]]
noncomputable def yf:Fn:=#[2,4,
 [.asg [2,3]<|.v 0,
  .ite (.or (.not<|.isi (.v 1) [.tuple])<|.cmp .ne (.blt .len [(.v 1)])<|.v 3) [.ret<|.c<|.bl ai] [],
  .ret (.and (.blt .all [(.comp1 [0] 1 [0] (.of<|.v 1) []<|.call 9 [(.v 1),(.v 0)])])<|.cmp .eq (.blt .len [(.call 17 [(.v 0),(.tup []),(.v 1)])])<|.v 3)]]
noncomputable def Y2:Fn:=#[3,6,
 [.asg [3]<|.call 2 [(.v 0),(.bin .add (.blt .len [(.v 2)])<|.c<|.int 1)],
  .asg [4] (.ix (.lst [(.ix (.v 1)<|.c<|.int 0),(.neg<|.c<|.int 1),(.c<|.bl aj),(.c<|.bl ai),(.c .non),(.c<|.str<|PySem.Str.ofString "0"),(.tup [(.c<|.int 0)]),(.bin .pow (.c<|.int 10)<|.c<|.int 29),(.c<|.int 0),(.c<|.int 1),(.bin .sub (.ix (.v 1)<|.c<|.int 0)<|.c<|.int 1)])<|.call 2 [(.v 0),(.c<|.int 11)]),
  .asg [5] (.lst [(.bin .add (.bin .add (.sl (.v 2) ae<|aa<|.v 3)<|.tup [(.v 4)])<|.sl (.v 2) (aa<|.bin .add (.v 3)<|.c<|.int 1) ae),(.bin .add (.bin .add (.sl (.v 2) ae<|aa<|.v 3)<|.tup [(.v 4)])<|.sl (.v 2) (aa<|.v 3) ae),(.bin .add (.sl (.v 2) ae<|aa<|.v 3)<|.sl (.v 2) (aa<|.bin .add (.v 3)<|.c<|.int 1) ae),(.blt .list [(.v 2)])]),
  .ret (.ix (.bin .add (.v 5)<|.lst [(.rev<|.v 2),(.c .non),.dnew,(.lst [(.v 4)]),(.tup [(.v 2)])])<|.ix (.lst [(.c<|.int 0),(.c<|.int 0),(.c<|.int 0),(.c<|.int 0),(.c<|.int 1),(.c<|.int 2),(.c<|.int 3),(.c<|.int 4),(.c<|.int 5),(.c<|.int 6),(.c<|.int 7),(.c<|.int 8)])<|.call 2 [(.v 0),(.c<|.int 12)])]]
noncomputable def Ya:Fn:=#[3,7,
 [.asg [3]<|.call 2 [(.v 0),(.ix (.v 1)<|.c<|.int 1)],
  .asg [4] (.call 19 [(.v 0),(.v 1),(.ix (.v 2)<|.v 3)]),
  .asg [5] (.ix (.v 2)<|.call 2 [(.v 0),(.ix (.v 1)<|.c<|.int 1)]),
  .lnw 6 [(.bin .add (.bin .add (.sl (.v 2) ae<|aa<|.v 3)<|.tup [(.v 4)])<|.sl (.v 2) (aa<|.bin .add (.v 3)<|.c<|.int 1) ae),(.bin .add (.bin .add (.sl (.v 2) ae<|aa<|.v 3)<|.tup [(.v 5)])<|.sl (.v 2) (aa<|.bin .add (.v 3)<|.c<|.int 1) ae),(.bin .add (.sl (.v 2) ae<|aa<|.v 3)<|.sl (.v 2) (aa<|.bin .add (.v 3)<|.c<|.int 1) ae)],
  .cat 6 [(.bin .add (.v 2)<|.tup [(.ix (.v 2)<|.v 3)]),(.blt .list [(.v 2)]),(.rev<|.v 2),(.c .non),.dnew,(.tup [(.v 2)]),(.ix (.v 2)<|.v 3),(.lst [(.v 4)])],
  .app 6 (.bin .add (.bin .add (.sl (.v 2) ae<|aa<|.v 3)<|.tup [(.call 4 [(.v 1),(.ix (.v 2)<|.v 3),(.bin .add (.c<|.int 1)<|.call 2 [(.v 0),(.c<|.int 2)]),(.v 5)])])<|.sl (.v 2) (aa<|.bin .add (.v 3)<|.c<|.int 1) ae),
  .ret (.ix (.v 6)<|.ix (.lst [(.c<|.int 0),(.c<|.int 0),(.c<|.int 0),(.c<|.int 1),(.c<|.int 1),(.c<|.int 2),(.c<|.int 3),(.c<|.int 4),(.c<|.int 5),(.c<|.int 6),(.c<|.int 7),(.c<|.int 8),(.c<|.int 9),(.c<|.int 10),(.c<|.int 11),(.c<|.int 11)])<|.call 2 [(.v 0),(.c<|.int 16)])]]
noncomputable def Z7:Fn:=#[3,3,
 [.ret<|.and (.isi (.v 0) [.int])<|.and (.not<|.isi (.v 0) [.bool])<|.chain .le .le (.v 1) (.v 0)<|.v 2]]
noncomputable def VN:Fn:=#[2,2,
 [.ite (.or (.not<|.isi (.v 1) [.tuple])<|.cmp .ne (.blt .len [(.v 1)])<|.ix (.v 0)<|.c<|.int 1) [.ret<|.c<|.bl ai] [],
  .ret (.blt .all [(.comp1 [0] 1 [0] (.of<|.v 1) []<|.call 21 [(.v 0),(.c<|.int 0),(.bin .sub (.ix (.v 1)<|.c<|.int 0)<|.c<|.int 1)])])]]
noncomputable def WT:Fn:=#[2,3,
 [.ite (.or (.not<|.isi (.v 1) [.tuple])<|.cmp .ne (.blt .len [(.v 1)])<|.ix (.v 0)<|.c<|.int 1) [.ret<|.c<|.bl ai] [],
  .forr [2] (.of<|.v 1) [.ite (.not<|.call 22 [(.v 0),(.v 2)]) [.ret<|.c<|.bl ai] []],
  .ret (.cmp .eq (.blt .len [(.call 5 [(.v 0),(.v 1)])])<|.blt .len [(.call 5 [(.v 0),(.call 6 [(.v 0)])])])]]
noncomputable def ZcI:Fn:=#[1,7,
 [.forr [1] (.rng1<|.blt .max2 [(.c<|.int 1),(.blt .min2 [(.blt .len [(.v 0)]),(.c<|.int 8)])]) [.cel 2 1 [(.v 0),(.v 1)]
  [.asg [3]<|.call 3 [(.v 2),(.ix (.lst [(.c<|.int 27),(.c<|.int 125)])<|.blt .toInt [(.cmp .eq (.v 1)<|.c<|.int 0)])],
  .asg [4] (.call 7 [(.v 2),(.v 3)]),
  .ite (.cmp .isn (.call 18 [(.v 3),(.v 4)])<|.c<|.bl aj) [.ret<|.c<|.bl ai] [],
  .forr [5] (.of<|.comp1 [2,3,4] 1 [0] (.rng1<|.c<|.int 6) []<|.call 20 [(.v 1),(.v 2),(.v 3)]) [.asg [6]<|.call 18 [(.v 3),(.v 5)],
  .ite (.or (.not<|.isi (.v 6) [.bool])<|.cmp .ne (.v 6)<|.call 23 [(.v 3),(.v 5)]) [.ret<|.c<|.bl ai] []]]],
  .ret (.and (.cmp .is (.call 18 [(.tup [(.c<|.int 2),(.c<|.int 2)]),(.tup [(.tup [(.c<|.int 0),(.c<|.int 1)]),(.tup [(.c<|.int 1),(.c<|.int 1)])])])<|.c<|.bl aj)<|.cmp .is (.call 18 [(.tup [(.c<|.int 2),(.c<|.int 2)]),(.tup [(.tup [(.c<|.int 0),(.c<|.int 1)]),(.tup [(.c<|.int 0),(.c<|.int 1)])])])<|.c<|.bl ai)]]
noncomputable def fns:List Fn:=[W9,Qg,Ja,YW,J1,QJ,US,Xb,Yx,JR,Wb,V2,yZ,Jt,UU,VR,V1,YL,yf,Y2,Ya,Z7,VN,WT,ZcI]
noncomputable abbrev tk:Nat:=2
noncomputable abbrev sn:List Nat:=[1]
end K71
namespace La
variable{F:Type}[k6 F]
noncomputable abbrev Vec(F:Type):=Nat->F
noncomputable abbrev Pt(F:Type):=List<|Nat×Vec F
noncomputable def pr:Pt F->Vec F->Vec F
 |[],_,_=>0
 |a::P,v,j=>v a.1*a.2 j+pr P v j
structure Rf(P:Pt F):Prop where
 inc:P.Pairwise λa b=>a.1<b.1
 low:∀a∈P,∀j,j<a.1->a.2 j=0
 one:∀a∈P,a.2 a.1=1
 zer:∀a∈P,∀b∈P,a.1≠b.1->b.2 a.1=0
def Mem(P:Pt F)(v:Vec F):Prop:=∀j,v j=pr P v j
theorem ZbA(P:Pt F)(u v:Vec F)(c:F)(j:Nat):pr P (λj=>u j+c*v j) j=pr P u j+c*pr P v j:=by
 induction P with|nil=>show(0:F)=0+c*0;grind|cons a P ih=>show(u a.1+c*v a.1)*a.2 j+pr P _ j=(u a.1*a.2 j+pr P u j)+c*(v a.1*a.2 j+pr P v j);grind
theorem UI(P:Pt F)(u v:Vec F)(c:F)(j:Nat):pr P (λj=>u j-c*v j) j=pr P u j-c*pr P v j:=by
 induction P with|nil=>show(0:F)=0-c*0;grind|cons a P ih=>show(u a.1-c*v a.1)*a.2 j+pr P _ j=(u a.1*a.2 j+pr P u j)-c*(v a.1*a.2 j+pr P v j);grind
def xQ{P:Pt F}{u v:Vec F}(h:∀b∈P,u b.1=v b.1)(j:Nat):pr P u j=pr P v j:=by
 induction P with
 |nil=>rfl
 |cons a P ih=>
  show u a.1*a.2 j+pr P u j=v a.1*a.2 j+pr P v j;rw[h a<|am ..,ih λb hb=>h b<|ak _ hb]
theorem YU{P:Pt F}{v:Vec F}{j:Nat}(h:∀b∈P,v b.1*b.2 j=0):pr P v j=0:=by
 induction P with
 |nil=>rfl
 |cons a P ih=>
  show v a.1*a.2 j+pr P v j=0;rw[h a<|am ..,ih λb hb=>h b<|ak _ hb];grind
theorem zV{P:Pt F}{v:Vec F}{j:Nat}{a:Nat×Vec F}(inc:P.Pairwise λa b=>a.1<b.1)(ha:a∈P)(h:∀b∈P,b.1≠a.1->v b.1*b.2 j=0):pr P v j=v a.1*a.2 j:=by
 induction P with
 |nil=>cases ha
 |cons b P ih=>
  rw[be]at inc;show v b.1*b.2 j+pr P v j=_;rcases aC.mp ha with e|hm
  .subst e
   rw[YU λc hc=>h c (ak _ hc) (by have:=inc.1 c hc;lia)];grind
  .rw[ih inc.2 hm λc hc=>h c<|ak _ hc,h b (am ..) (by have:=inc.1 a hm;lia)];grind
def Rf.tail{a:Nat×Vec F}{P:Pt F}(h:Rf (a::P)):Rf P:=
 #[(be.mp h.inc).2,λb hb=>h.low b<|ak _ hb,λb hb=>h.one b<|ak _ hb,λb hb c hc=>h.zer b (ak _ hb) c<|ak _ hc]
def Rf.nil:Rf ([]:Pt F):=#[h9,λ_ h=>(by cases h),λ_ h=>(by cases h),λ_ h=>(by cases h)]
theorem zx{P:Pt F}(h:Rf P){a:Nat×Vec F}(ha:a∈P)(v:Vec F):pr P v a.1=v a.1:=by
 rw[zV h.inc ha λb hb ne=>by rw[h.zer a ha b hb<|Ne.symm ne];grind,h.one a ha];grind
theorem X5{P:Pt F}(h:Rf P){a:Nat×Vec F}(ha:a∈P):Mem P a.2:=λj=>by
 rw[zV h.inc ha λb hb ne=>by rw[h.zer b hb a ha ne];grind,h.one a ha];grind
def X7(c:F)(hu:Mem P u)(hv:Mem P v):Mem P λj=>u j+c*v j:=λj=>by
 rw[ZbA,<-hu j,<-hv j]
def QB(c:F)(hu:Mem P u)(hv:Mem P v):Mem P λj=>u j-c*v j:=λj=>by
 rw[UI,<-hu j,<-hv j]
theorem X9{P:Pt F}:Mem P λ_=>0:=λj=>(YU λb _=>by grind).symm
def xA{P:Pt F}(h:Rf P)(v:Vec F):Mem P (pr P v):=λj=>xQ (λb hb=>(zx h hb v).symm) j
theorem vN{P:Pt F}{v:Vec F}(h:Mem P v)(z:∀b∈P,v b.1=0)(j:Nat):v j=0:=by
 rw[h j];exact YU λb hb=>by rw[z b hb];grind
theorem ub{P:Pt F}(h:Rf P){v:Vec F}(hv:Mem P v){k:Nat}(hk:v k≠0)(hl:∀j,j<k->v j=0):∃a∈P,a.1=k:=by
 have inc:=h.inc;have low:=h.low;have gen:∀Q:Pt F,Q.Pairwise (λa b=>a.1<b.1)->(∀a∈Q,∀j,j<a.1->a.2 j=0)->(∀j,v j=pr Q v j)->∃a∈Q,v a.1≠0/\∀j,j<a.1->v j=0:=by
  intro Q
  induction Q with
  |nil=>intro _ _ e;exact T7 (e k) hk
  |cons a Q ih=>
   intro inc low e;rw[be]at inc;by_cases c:v a.1=0
   .obtain⟨b,hb,r⟩:=ih inc.2 (λb hb=>low b<|ak _ hb) λj=>by
     have:v j=v a.1*a.2 j+pr Q v j:=e j;rw[c]at this;grind
    exact#[b,ak _ hb,r]
   .refine#[a,am ..,c,λj hj=>?_]
    have e1:v j=v a.1*a.2 j+pr Q v j:=e j;have e2:pr Q v j=0:=YU λb hb=>by rw[low b (ak _ hb) j (by have:=inc.1 b hb;lia)];grind
    rw[e1,e2,low a (am ..) j hj];grind
 obtain⟨a,ha,h1,h2⟩:=gen P inc low hv;refine#[a,ha,?_];by_cases c:a.1<k
 .exact T7 (hl _ c) h1
 .by_cases c2:k<a.1
  .exact T7 (h2 _ c2) hk
  .lia
def Ud{P Q:Pt F}(one0:(1:F)≠0)(hP:Rf P)(hQ:Rf Q)(h:∀v,Mem P v->Mem Q v):∀a∈P,∃b∈Q,b.1=a.1:=λa ha=>
 ub hQ (h _<|X5 hP ha) (by rw[hP.one a ha];exact one0) (hP.low a ha)
theorem Gd:∀{a b:List Nat},a.Pairwise (· < ·)->b.Pairwise (· < ·)->(∀x,x∈a↔x∈b)->a=b
 |[],[],_,_,_=>rfl
 |[],y::b,_,_,h=>by have:=(h y).mpr<|am ..;cases this
 |x::a,[],_,_,h=>by have:=(h x).mp<|am ..;cases this
 |x::a,y::b,ha,hb,h=>by
  rw[be]at ha hb;have e:x=y:=by
   rcases aC.mp ((h x).mp<|am ..)with e|e
   .exact e
   .rcases aC.mp ((h y).mpr<|am ..)with e'|e'
    .exact e'.symm
    .have:=hb.1 x e;have:=ha.1 y e';lia
  subst e;rw[Gd ha.2 hb.2 λz=>?_]
  constructor
  .intro hz
   rcases aC.mp ((h z).mp<|ak _ hz)with e|e
   .have:=ha.1 z hz;lia
   .exact e
  .intro hz
   rcases aC.mp ((h z).mpr<|ak _ hz)with e|e
   .have:=hb.1 z hz;lia
   .exact e
def Rf.heads{P:Pt F}(h:Rf P):(P.map (·.1)).Pairwise (· < ·):=cS.mpr h.inc
theorem uniq{P Q:Pt F}(one0:(1:F)≠0)(hP:Rf P)(hQ:Rf Q)(h:∀v,Mem P v↔Mem Q v):P=Q:=by
 have eh:=Gd hP.heads hQ.heads λx=>by
  constructor
  .intro hx
   obtain⟨a,ha,rfl⟩:=aT.mp hx;obtain⟨b,hb,e⟩:=Ud one0 hP hQ (λv=>(h v).mp) a ha
   exact aT.mpr #[b,hb,e]
  .intro hx
   obtain⟨a,ha,rfl⟩:=aT.mp hx;obtain⟨b,hb,e⟩:=Ud one0 hQ hP (λv=>(h v).mpr) a ha
   exact aT.mpr #[b,hb,e]
 have ev:∀a∈P,∀b∈Q,a.1=b.1->a.2=b.2:=by
  intro a ha b hb e;have hd:=QB 1 (X5 hP ha)<|(h _).mpr<|X5 hQ hb
  funext j
  have:=vN hd (λc hc=>by
   have:c.1∈Q.map (·.1):=by rw[<-eh];exact aT.mpr #[c,hc,rfl]
   obtain⟨c',hc',ec⟩:=aT.mp this;by_cases z:c.1=a.1
   .rw[z,hP.one a ha,e,hQ.one b hb];grind
   .rw[hP.zer c hc a ha z,<-ec,hQ.zer c' hc' b hb<|by lia];grind) j
  grind
 clear h hP hQ
 induction P generalizing Q with
 |nil=>cases Q with|nil=>rfl|cons b Q=>cases eh
 |cons a P ih=>cases Q with
  |nil=>cases eh
  |cons b Q=>
   rw[bf,bf]at eh;injection eh with e1 e2
   have e3:=ev a (am ..) b (am ..) e1;rw[ih e2 λx hx y hy=>ev x (ak _ hx) y<|ak _ hy]
   rw[Prod.ext e1 e3]
noncomputable def ins(x:Nat×Vec F):Pt F->Pt F
 |[]=>[x]
 |y::P=>if x.1<y.1 then x::y::P else y::ins x P
theorem Ye(x:Nat×Vec F):∀P:Pt F,(ins x P).Perm (x::P)
 |[]=>cp _
 |y::P=>by
  unfold ins;split
  .exact cp _
  .exact((Ye x P).cons y).trans<|g7 x y P
theorem zd(x:Nat×Vec F):∀{P:Pt F},P.Pairwise (λa b=>a.1<b.1)->(∀a∈P,a.1≠x.1)->(ins x P).Pairwise λa b=>a.1<b.1
 |[],_,_=>by exact iP ..
 |y::P,h,hn=>by
  have h':=be.mp h;unfold ins;split
  .rename_i c
   refine be.mpr #[λz hz=>?_,h]
   rcases aC.mp hz with rfl|hz
   .exact c
   .have:=h'.1 z hz;lia
  .rename_i c
   refine be.mpr #[λz hz=>?_,zd x h'.2 λa ha=>hn a<|ak _ ha]
   rcases aC.mp ((Ye x P).mem_iff.mp hz)with rfl|hz
   .have:=hn y<|am ..;lia
   .exact h'.1 z hz
theorem xj(x:Nat×Vec F)(v:Vec F)(j:Nat):∀P:Pt F,pr (ins x P) v j=v x.1*x.2 j+pr P v j
 |[]=>rfl
 |y::P=>by
  unfold ins;split
  .rfl
  .show v y.1*y.2 j+pr (ins x P) v j=v x.1*x.2 j+(v y.1*y.2 j+pr P v j)
   rw[xj x v j P];grind
noncomputable def off(h:Nat)(l:Vec F)(a:Nat×Vec F):Nat×Vec F:=(a.1,λj=>a.2 j-a.2 h*l j)
noncomputable def wid(P:Pt F)(h:Nat)(l:Vec F):Pt F:=ins (h,l)<|P.map<|off h l
theorem wv(h:Nat)(l v:Vec F)(j:Nat):∀P:Pt F,pr (P.map<|off h l) v j=pr P v j-pr P v h*l j
 |[]=>by show(0:F)=0-0*l j;grind
 |a::P=>by
  show v a.1*(a.2 j-a.2 h*l j)+pr (P.map<|off h l) v j=(v a.1*a.2 j+pr P v j)-(v a.1*a.2 h+pr P v h)*l j;rw[wv h l v j P];grind
structure Lead(P:Pt F)(h:Nat)(l:Vec F):Prop where
 one:l h=1
 low:∀j,j<h->l j=0
 zer:∀a∈P,l a.1=0
def Lead.ne{P:Pt F}{h:Nat}{l:Vec F}(one0:(1:F)≠0)(L:Lead P h l){a:Nat×Vec F}(ha:a∈P):a.1≠h:=λe=>by
 have:=L.zer a ha;rw[e,L.one]at this;exact one0 this
theorem ZaL{P:Pt F}{h:Nat}{l:Vec F}(one0:(1:F)≠0)(hP:Rf P)(L:Lead P h l):Rf (wid P h l):=by
 have mem:∀{x},x∈wid P h l->x=(h,l)\/∃a∈P,x=off h l a:=λ{x} hx=>by
  rcases aC.mp ((Ye _ _).mem_iff.mp hx)with e|e
  .exact .inl e
  .obtain⟨a,ha,e⟩:=aT.mp e
   exact .inr #[a,ha,e.symm]
 refine#[zd _ ?_ ?_,λx hx j hj=>?_,λx hx=>?_,λx hx y hy ne=>?_]
 .exact cS.mpr hP.inc
 .intro a ha
  obtain⟨b,hb,rfl⟩:=aT.mp ha;exact L.ne (a:=b) one0 hb
 .rcases mem hx with rfl|⟨a,ha,rfl⟩
  .exact L.low j hj
  .show a.2 j-a.2 h*l j=0
   rw[hP.low a ha j hj];by_cases c:h<a.1
   .rw[hP.low a ha h c];grind
   .have:j<a.1:=hj
    rw[L.low j (by have:=L.ne one0 ha;lia)];grind
 .rcases mem hx with rfl|⟨a,ha,rfl⟩
  .exact L.one
  .show a.2 a.1-a.2 h*l a.1=1
   rw[hP.one a ha,L.zer a ha];grind
 .rcases mem hx with rfl|⟨a,ha,rfl⟩
  .rcases mem hy with rfl|⟨b,hb,rfl⟩
   .exact T7 rfl ne
   .show b.2 h-b.2 h*l h=0
    rw[L.one];grind
  .rcases mem hy with rfl|⟨b,hb,rfl⟩
   .exact L.zer a ha
   .show b.2 a.1-b.2 h*l a.1=0
    rw[hP.zer a ha b hb ne,L.zer a ha];grind
def uL(P:Pt F)(h:Nat)(l:Vec F):(wid P h l).length=P.length+1:=by
 have:=(Ye (h,l)<|P.map<|off h l).length_eq;rw[aL,ay]at this;exact this
theorem uY{P:Pt F}{h:Nat}{l:Vec F}(hP:Rf P)(L:Lead P h l)(u:Vec F):Mem (wid P h l) u↔∃c,Mem P λj=>u j-c*l j:=by
 have e:∀j,pr (wid P h l) u j=u h*l j+(pr P u j-pr P u h*l j):=λj=>by
  unfold wid;rw[xj,wv]
 have pl:∀j,pr P l j=0:=λj=>YU λb hb=>by rw[L.zer b hb];grind
 constructor
 .intro hu
  refine#[u h-pr P u h,λj=>?_]
  rw[UI,pl];have:=hu j;rw[e j]at this;show u j-(u h-pr P u h)*l j=_
  grind
 .rintro ⟨c,hc⟩ j
  rw[e j];have h1:=hc j;have h2:u h-c*l h=_:=hc h;rw[UI,pl]at h1 h2;rw[L.one]at h2
  grind
noncomputable def rest(P:Pt F)(v:Vec F):Vec F:=λj=>v j-pr P v j
theorem vB(hP:Rf P)(v:Vec F)(ha:a∈P):rest P v a.1=0:=by
 unfold rest;rw[zx hP ha];grind
theorem Vl{P:Pt F}{v:Vec F}:(∀j,rest P v j=0)↔Mem P v:=by
 constructor
 .intro h j;have:=h j;unfold rest at this;grind
 .intro h j;have:=h j;unfold rest;grind
theorem zj{P:Pt F}(hP:Rf P){v:Vec F}{h:Nat}{i:F}(hi:i*rest P v h=1)(hl:∀j,j<h->rest P v j=0):Lead P h λj=>i*rest P v j:=
 #[hi,λj hj=>by rw[hl j hj];grind,λa ha=>by rw[vB hP v ha];grind]
theorem vP{P:Pt F}(hP:Rf P){v:Vec F}{h:Nat}{i:F}(hi:i*rest P v h=1)(hl:∀j,j<h->rest P v j=0)(u:Vec F) :
  Mem (wid P h λj=>i*rest P v j) u↔∃c,Mem P λj=>u j-c*v j:=by
 rw[uY hP<|zj hP hi hl]
 constructor
 .rintro ⟨c,hc⟩
  refine#[c*i,?_];have:=QB (c*i) hc<|xA hP v;have e:(λj=>(u j-c*(i*rest P v j))-c*i*pr P v j)=λj=>u j-c*i*v j:=by funext j;unfold rest;grind
  rw[e]at this;exact this
 .rintro ⟨c,hc⟩
  refine#[c*rest P v h,?_];have:=X7 c hc<|xA hP v;have e:(λj=>(u j-c*v j)+c*pr P v j)=λj=>u j-c*rest P v h*(i*rest P v j):=by funext j;unfold rest at hi ⊢;grind
  rw[e]at this;exact this
theorem vZ(hv:Mem P v)(u:Vec F):Mem P u↔∃c,Mem P λj=>u j-c*v j:=by
 constructor
 .intro h;exact#[0,by have:=QB 0 h hv;exact this]
 .rintro ⟨c,hc⟩
  have:=X7 c hc hv;have e:(λj=>(u j-c*v j)+c*v j)=u:=by funext j;grind
  rw[e]at this;exact this
def UN(P:Pt F):List (Vec F)->Vec F->Prop
 |[],u=>Mem P u
 |v::vs,u=>∃c,UN P vs λj=>u j-c*v j
theorem Wd{P P':Pt F}{v:Vec F}(h:∀u,Mem P' u↔∃c,Mem P λj=>u j-c*v j):∀(vs:List (Vec F))(u:Vec F),UN P' vs u↔UN P (v::vs) u
 |[],u=>h u
 |w::vs,u=>by
  constructor
  .rintro ⟨d,hd⟩
   obtain⟨c,hc⟩:=(Wd h vs _).mp hd;refine#[c,d,?_];have e:(λj=>u j-c*v j-d*w j)=λj=>u j-d*w j-c*v j:=by funext j;grind
   show UN P vs λj=>u j-c*v j-d*w j
   rw[e];exact hc
  .rintro ⟨c,d,hc⟩
   refine#[d,(Wd h vs _).mpr #[c,?_]];have e:(λj=>u j-d*w j-c*v j)=λj=>u j-c*v j-d*w j:=by funext j;grind
   show UN P vs λj=>u j-d*w j-c*v j
   rw[e];exact hc
theorem yM{P Q:Pt F}(hQ:Rf Q)(u:Vec F):UN P (Q.map (·.2)) u↔∃q,Mem Q q/\Mem P λj=>u j-q j:=by
 constructor
 .have gen:∀(ws:List (Vec F))(u:Vec F),(∀w∈ws,Mem Q w)->UN P ws u->∃q,Mem Q q/\Mem P λj=>u j-q j:=by
   intro ws
   induction ws with
   |nil=>intro u _ h;exact#[λ_=>0,X9,by
    have e:(λj=>u j-0)=u:=by funext j;grind
    rw[e];exact h]
   |cons w ws ih=>
    rintro u hw ⟨c,h⟩
    obtain⟨q,hq,hp⟩:=ih _ (λx hx=>hw x<|ak _ hx) h
    refine#[λj=>q j+c*w j,X7 c hq<|hw w<|am ..,?_]
    have e:(λj=>u j-(q j+c*w j))=λj=>u j-c*w j-q j:=by funext j;grind
    rw[e];exact hp
  exact gen _ u λw hw=>by obtain⟨a,ha,rfl⟩:=aT.mp hw;exact X5 hQ ha
 .rintro ⟨q,hq,hp⟩
  have gen:∀(R:Pt F)(u:Vec F),(Mem P λj=>u j-pr R q j)->UN P (R.map (·.2)) u:=by
   intro R
   induction R with
   |nil=>
    intro u h;have e:(λj=>u j-pr [] q j)=u:=by funext j;show u j-0=u j;grind
    rw[e]at h;exact h
   |cons a R ih=>
    intro u h;refine#[q a.1,ih _ ?_];have e:(λj=>u j-q a.1*a.2 j-pr R q j)=λj=>u j-pr (a::R) q j:=by funext j;show _=u j-(q a.1*a.2 j+pr R q j);grind
    show Mem P λj=>u j-q a.1*a.2 j-pr R q j
    rw[e];exact h
  refine gen Q u ?_;have e:(λj=>u j-pr Q q j)=λj=>u j-q j:=by funext j;rw[<-hq j]
  rw[e];exact hp
variable{F:Type}[k6 F][DecidableEq F]
def Supp(n:Nat)(v:Vec F):Prop:=∀j,n<=j->v j=0
structure Pn(n:Nat)(P:Pt F):Prop where
 rf:Rf P
 lt:∀a∈P,a.1<n
 sp:∀a∈P,Supp n a.2
theorem Pn.nil{n:Nat}:Pn n ([]:Pt F):=#[Rf.nil,λ_ h=>(by cases h),λ_ h=>(by cases h)]
theorem qt(h:Pn n P)(v:Vec F):Supp n (pr P v):=λj hj=>YU λb hb=>by rw[h.sp b hb j hj];grind
noncomputable def hdV(n:Nat)(v:Vec F):Option Nat:=(aU n).find? λj=>al<|v j≠0
theorem xi{n:Nat}{v:Vec F}(hs:Supp n v)(h:hdV n v=ae)(j:Nat):v j=0:=by
 by_cases c:j<n
 .have:=lE.mp h j (bj.mpr c)
  simpa using this
 .exact hs j (by lia)
def JW{n:Nat}{v:Vec F}{k:Nat}(h:hdV n v=aa k):k<n/\v k≠0/\∀j,j<k->v j=0:=by
 unfold hdV at h;rw[iE]at h;obtain⟨h1,h2,h3⟩:=h;refine#[bj.mp h2,by simpa using h1,λj hj=>?_]
 have:=h3 j hj
 simpa using this
def vH{n:Nat}{v:Vec F}{k:Nat}(hk:k<n)(h1:v k≠0)(h2:∀j,j<k->v j=0):hdV n v=aa k:=by
 unfold hdV;rw[iE];exact#[by simpa using h1,bj.mpr hk,λj hj=>by simpa using h2 j hj]
structure Fld(inv:F->F):Prop where
 inv:∀a,a≠0->inv a*a=1
 one0:(1:F)≠0
section
variable{inv:F->F}{n:Nat}
noncomputable def more(inv:F->F)(n:Nat)(P:Pt F)(v:Vec F):Pt F:=match hdV n (rest P v)with
 |none=>P
 |some h=>wid P h λj=>inv (rest P v h)*rest P v j
structure Grow(n:Nat)(P:Pt F)(v:Vec F)(P':Pt F):Prop where
 pn:Pn n P'
 mem:∀u,Mem P' u↔∃c,Mem P λj=>u j-c*v j
 same:Mem P v->P'=P
 len:¬Mem P v->P'.length=P.length+1
theorem Xq(f:Fld inv){P:Pt F}{v:Vec F}(hP:Pn n P)(hv:Supp n v):Grow n P v (more inv n P v):=by
 have hs:Supp n (rest P v):=λj hj=>by unfold rest;rw[hv j hj,qt hP v j hj];grind
 cases q:hdV n (rest P v)with
 |none=>
  have e:more inv n P v=P:=by unfold more;rw[q]
  have hm:=Vl.mp<|xi hs q;rw[e];exact#[hP,vZ hm,λ_=>rfl,λh=>T7 hm h]
 |some h=>
  have e:more inv n P v=wid P h λj=>inv (rest P v h)*rest P v j:=by unfold more;rw[q]
  obtain⟨h1,h2,h3⟩:=JW q;have hi:=f.inv _ h2;have L:=zj hP.rf hi h3;rw[e];refine#[#[ZaL f.one0 hP.rf L,λa ha=>?_,λa ha=>?_],vP hP.rf hi h3,λhm=>T7 (Vl.mpr hm h) h2,λ_=>uL ..]
  .rcases aC.mp ((Ye _ _).mem_iff.mp ha)with e|e
   .rw[e];exact h1
   .obtain⟨b,hb,rfl⟩:=aT.mp e
    exact hP.lt b hb
  .rcases aC.mp ((Ye _ _).mem_iff.mp ha)with e|e
   .rw[e];intro j hj
    show inv (rest P v h)*rest P v j=0;rw[hs j hj];grind
   .obtain⟨b,hb,rfl⟩:=aT.mp e
    intro j hj;show b.2 j-b.2 h*(inv (rest P v h)*rest P v j)=0;rw[hP.sp b hb j hj,hs j hj];grind
noncomputable def Vu(inv:F->F)(n:Nat)(P:Pt F)(vs:List (Vec F)):Pt F:=vs.foldl (more inv n) P
theorem QX(f:Fld inv):∀(vs:List (Vec F)){P:Pt F},Pn n P->(∀v∈vs,Supp n v)->Pn n (Vu inv n P vs)/\∀u,Mem (Vu inv n P vs) u↔UN P vs u
 |[],P,hP,_=>#[hP,λu=>Iff.rfl]
 |v::vs,P,hP,hv=>by
  have g:=Xq f hP<|hv v<|am ..;obtain⟨a,b⟩:=QX f vs g.pn λw hw=>hv w<|ak _ hw
  exact#[a,λu=>(b u).trans<|Wd g.mem vs u]
noncomputable def join(inv:F->F)(n:Nat)(P Q:Pt F):Pt F:=Vu inv n P (Q.map (·.2))
def JF(f:Fld inv){P Q:Pt F}(hP:Pn n P)(hQ:Pn n Q)(u:Vec F):Mem (join inv n P Q) u↔∃q,Mem Q q/\Mem P λj=>u j-q j:=
 ((QX f _ hP λv hv=>by obtain⟨a,ha,rfl⟩:=aT.mp hv;exact hQ.sp a ha).2 u).trans (yM hQ.rf u)
def Zcy(f:Fld inv){P Q:Pt F}(hP:Pn n P)(hQ:Pn n Q)(h:∀v,Mem P v↔Mem Q v):P=Q:=uniq f.one0 hP.rf hQ.rf h
theorem sub_self(u:Vec F):(λj=>u j-u j)=λ_=>0:=by funext j;grind
def Gh(f:Fld inv){P Q:Pt F}(hP:Pn n P)(hQ:Pn n Q){u:Vec F}(h:Mem Q u):Mem (join inv n P Q) u:=
 (JF f hP hQ u).mpr #[u,h,by rw[sub_self];exact X9]
theorem J8(f:Fld inv){P Q R:Pt F}(hP:Pn n P)(hQ:Pn n Q)(h1:∀u,Mem P u->Mem R u)(h2:∀u,Mem Q u->Mem R u){u:Vec F}(h:Mem (join inv n P Q) u):Mem R u:=by
 obtain⟨q,a,b⟩:=(JF f hP hQ u).mp h;have:=X7 1 (h1 _ b)<|h2 _ a;have e:(λj=>u j-q j+1*q j)=u:=by funext j;grind
 rw[e]at this;exact this
noncomputable def Yw(P:Pt F)(j:Nat):Bool:=(P.map (·.1)).contains j
noncomputable def free(n:Nat)(P:Pt F):List Nat:=(aU n).filter λj=>!Yw P j
noncomputable def av:Pt F->Nat->Vec F
 |[],f,j=>if j=f then 1 else 0
 |a::P,f,j=>if j=a.1 then-a.2 f else av P f j
def YX :Yw P j=aj↔∃a∈P,a.1=j:=by
 unfold Yw;rw[c7,aT]
def GA{P:Pt F}{f j:Nat}(h:Yw P j=ai):av P f j=if j=f then 1 else 0:=by
 induction P with
 |nil=>rfl
 |cons a P ih=>
  have h1:¬∃b∈a::P,b.1=j:=λz=>by rw[YX.mpr z]at h;cases h
  show(if j=a.1 then-a.2 f else av P f j)=_
  rw[T8 λz=>h1 #[a,am ..,z.symm]]
  exact ih (by
   cases q:Yw P j with
   |false=>rfl
   |true=>obtain⟨b,hb,e⟩:=YX.mp q;exact T7 #[b,ak _ hb,e] h1)
def Vy :j∈free n P↔j<n/\Yw P j=ai:=by
 unfold free;rw[dU,bj];simp
theorem qp{P:Pt F}(hP:Pn n P){f:Nat}(hf:f<n):Supp n (av P f):=λj hj=>by
 rw[GA (by
  cases q:Yw P j with
  |false=>rfl
  |true=>obtain⟨b,hb,e⟩:=YX.mp q;have:=hP.lt b hb;lia),T8<|by lia]
noncomputable def perp(inv:F->F)(n:Nat)(P:Pt F):Pt F:=Vu inv n []<|(free n P).map<|av P
theorem yD(f:Fld inv){P:Pt F}(hP:Pn n P):(perp inv n P).length+P.length=n:=by
 have gen:∀(L:List Nat)(A:Pt F)(D:List Nat),Pn n A->(∀k∈L,k∈free n P)->L.Nodup->(∀k∈L,k∉D)->(∀u,Mem A u->∀k∈free n P,k∉D->u k=0)->(Vu inv n A<|L.map<|av P).length=A.length+L.length:=by
  intro L
  induction L with
  |nil=>intro A D _ _ _ _ _;rfl
  |cons k L ih=>
   intro A D hA hL hn hD hz;rw[dA]at hn;have hk:=hL k<|am ..;have g:=Xq f hA<|qp hP (Vy.mp hk).1;have nm:¬Mem A (av P k):=λh=>by
    have:=hz _ h k hk<|hD k<|am ..;rw[GA (Vy.mp hk).2,T9 rfl]at this;exact f.one0 this
   have:=ih (more inv n A<|av P k) (k::D) g.pn (λj hj=>hL j<|ak _ hj) hn.2 (λj hj=>by
    rw[aC]
    rintro (z|z)
    .exact hn.1<|z▸hj
    .exact hD j (ak _ hj) z) λu hu j hj hjD=>by
     obtain⟨c,hc⟩:=(g.mem u).mp hu;rw[aC]at hjD;have h1:=hz _ hc j hj λz=>hjD<|.inr z
     rw[GA (Vy.mp hj).2,T8 λz=>hjD<|.inl z]at h1
     grind
   show(Vu inv n (more inv n A<|av P k)<|L.map<|av P).length=_;rw[this,g.len nm,aL];lia
 have h1:=gen (free n P) [] [] Pn.nil (λ_ h=>h) (kQ _ mG) (λ_ _ h=>by cases h) λu hu k _ _=>hu k
 have h2:=Gd (kQ _ List.pairwise_lt_range) hP.rf.heads λx=>by
  rw[dU,bj,YX,aT]
  constructor
  .rintro ⟨_,a,ha,e⟩;exact#[a,ha,e]
  .rintro ⟨a,ha,e⟩;exact#[by rw[<-e];exact hP.lt a ha,a,ha,e]
 have h3:((aU n).filter<|Yw P).length+(free n P).length=n:=by
  have gen:∀L:List Nat,(L.filter<|Yw P).length+(L.filter λj=>!Yw P j).length=L.length:=by
   intro L
   induction L with
   |nil=>rfl
   |cons k L ih=>
    rw[iS,iS];cases Yw P k<;>simp<;>lia
  have:=gen<|aU n;rw[bF]at this;exact this
 rw[h2,ay]at h3;have h4:(perp inv n P).length=(free n P).length:=by
  have e:(perp inv n P).length=0+(free n P).length:=h1;lia
 lia
end
end La
namespace Rw
open La
open Ev (ltI Yy Zg)
section
variable{p:Nat}[NeZero p]
noncomputable def ph(p:Nat)[NeZero p](a:Int):Fin p:=Fin.ofNat p (a%p).toNat
theorem ppos:(0:Int)<p:=by have:=NeZero.ne p;lia
theorem Yk(a:Int):((ph p a).val:Int)=a%p:=by
 have h:=ppos (p:=p);have h0:=eI a (by lia:(p:Int)≠0)
 have h1:=dP a h;show((((a%p).toNat)%p:Nat):Int)=a%p;rw[Nat.mod_eq_of_lt<|by lia]
 lia
theorem X4{x y:Fin p}(h:(x.val:Int)=y.val):x=y:=Fin.ext (by lia)
def vc(a b:Int):ph p (a+b)=ph p a+ph p b:=X4 (by
 rw[Yk,Fin.val_add];show(a+b)%p=(((ph p a).val+(ph p b).val:Nat):Int)%p;rw[Int.natCast_add,Yk,Yk,<-Int.add_emod])
def xT(a b:Int):ph p (a*b)=ph p a*ph p b:=X4 (by
 rw[Yk,Fin.val_mul];show(a*b)%p=(((ph p a).val*(ph p b).val:Nat):Int)%p;rw[Int.natCast_mul,Yk,Yk,<-Int.mul_emod])
def vE(a:Int):ph p (a%p)=ph p a:=X4 (by rw[Yk,Yk,Int.emod_emod])
def X3:ph p 0=0:=X4 (by rw[Yk];simp)
theorem Wl(a:Int):ph p (-a) = - ph p a:=by
 have h:ph p (-a+a)=ph p (-a)+ph p a:=vc _ _;rw[show -a+a=0 by lia,X3]at h
 grind
def Gs{a b:Int}(ha:0<=a/\a<p)(hb:0<=b/\b<p)(h:ph p a=ph p b):a=b:=by
 have:=congrArg (λx:Fin p=>(x.val:Int)) h
 simp only[Yk]at this;rw[eQ ha.1 ha.2,eQ hb.1 hb.2]at this;exact this
theorem Zb1{a:Int}(ha:0<=a/\a<p):ph p a=0↔a=0:=by
 constructor
 .intro h;exact Gs ha #[by lia,ppos] (by rw[h,X3])
 .rintro rfl;exact X3
end
abbrev Row:=List Int
def Zd(p n:Nat)(r:Row):Prop:=r.length=n/\∀a∈r,0<=a/\a<(p:Int)
noncomputable def gt(r:Row)(j:Nat):Int:=r.getD j 0
def XB{p n:Nat}(h0:(0:Int)<p){r:Row}(h:Zd p n r)(j:Nat):0<=gt r j/\gt r j<p:=by
 unfold gt;rw[aO];cases q:r[j]? with|none=>exact#[eW _,h0]|some a=>exact h.2 a<|cW q
def vF(h:r.length<=j):gt r j=0:=by unfold gt;rw[aO,bq h];rfl
def wZ(hl:r.length=s.length)(h:∀j,gt r j=gt s j):r=s:=by
 apply iQ hl;intro j h1 h2;have:=h j;unfold gt at this;rw[aO,aO,ag h1,ag h2]at this;exact this
noncomputable def hdI:Row->Option Nat
 |[]=>ae
 |a::r=>if a≠0 then aa 0 else(hdI r).map (· + 1)
theorem Yf:∀{r:Row}{k:Nat},hdI r=aa k->gt r k≠0/\k<r.length/\∀j,j<k->gt r j=0
 |[],k,h=>by cases h
 |a::r,k,h=>by
  unfold hdI at h;by_cases c:a≠0
  .rw[T9 c]at h;cases h;exact#[c,by simp,λj hj=>by lia]
  .rw[T8 c]at h
   cases q:hdI r with
   |none=>rw[q]at h;cases h
   |some m=>
    rw[q]at h;have e:m+1=k:=af h;subst e;obtain⟨h1,h2,h3⟩:=Yf q;refine#[h1,by simp;lia,λj hj=>?_]
    cases j with|zero=>exact mh.mp c|succ j=>exact h3 j (by lia)
theorem YI:∀{r:Row},hdI r=ae->∀j,gt r j=0
 |[],_,j=>vF<|cR _
 |a::r,h,j=>by
  unfold hdI at h;by_cases c:a≠0
  .rw[T9 c]at h;cases h
  .rw[T8 c]at h
   have h':=kf.mp h;cases j with|zero=>exact mh.mp c|succ j=>exact YI h' j
section
variable{p n:Nat}[NeZero p]
noncomputable def toV(p:Nat)[NeZero p](r:Row):Vec (Fin p):=λj=>ph p<|gt r j
def YZ{r s:Row}(hr:Zd p n r)(hs:Zd p n s)(h:toV p r=toV p s):r=s:=
 wZ (by rw[hr.1,hs.1]) λj=>Gs (XB ppos hr j) (XB ppos hs j)<|congrFun h j
def Xk(hr:Zd p n r):Supp n (toV p r):=λj hj=>by unfold toV;rw[vF (by rw[hr.1];exact hj),X3]
def Z9{r:Row}(hr:Zd p n r){j:Nat}:toV p r j=0↔gt r j=0:=Zb1<|XB ppos hr j
def J7(hr:Zd p n r):hdV n (toV p r)=hdI r:=by
 cases q:hdI r with
 |none=>
  cases q2:hdV n (toV p r)with|none=>rfl|some k=>exact T7 ((Z9 hr).mpr<|YI q k) (JW q2).2.1
 |some k=>
  obtain⟨a,b,c⟩:=Yf q;exact vH (by rw[<-hr.1];exact b) (λz=>a<|(Z9 hr).mp z) λj hj=>(Z9 hr).mpr<|c j hj
noncomputable def ZB(p:Nat)(r o:Row)(k:Int):Row:=List.zipWith (λa b=>(a+k*b)%p) r o
noncomputable def Xc(p:Nat)(r:Row)(k:Int):Row:=r.map λa=>k*a%p
theorem Zar(hl:r.length=o.length)(h0:f 0 0=0)(j:Nat):gt (List.zipWith f r o) j=f (gt r j) (gt o j):=by
 unfold gt;simp only[aO];rw[List.getElem?_zipWith];by_cases c:j<r.length
 .rw[ag c,ag<|by lia];rfl
 .rw[bq (by lia),bq<|by lia];exact h0.symm
theorem Zk(hr:Zd p n r)(ho:Zd p n o):Zd p n (ZB p r o k):=by
 refine#[by unfold ZB;rw[List.length_zipWith,hr.1,ho.1];simp,λa ha=>?_]
 unfold ZB at ha;rw[<-fQ]at ha;obtain⟨⟨x,y⟩,_,rfl⟩:=aT.mp ha;exact#[eI _ (by have:=ppos (p:=p);lia),dP _ ppos]
def WQ(hr:Zd p n r)(ho:Zd p n o)(j:Nat):gt (ZB p r o k) j=(gt r j+k*gt o j)%p:=by
 unfold ZB;rw[Zar (by rw[hr.1,ho.1])<|by simp]
def ZM(hr:Zd p n r)(ho:Zd p n o):toV p (ZB p r o k)=λj=>toV p r j+ph p k*toV p o j:=by
 funext j
 unfold toV;rw[WQ hr ho,vE,vc,xT]
def xL(j:Nat):gt (Xc p r k) j=k*gt r j%p:=by
 unfold Xc gt;simp only[aO,aK];cases r[j]?<;>simp
theorem UB{r:Row}{k:Int}(hr:Zd p n r):Zd p n (Xc p r k):=by
 refine#[by unfold Xc;rw[ay,hr.1],λa ha=>?_]
 obtain⟨x,_,rfl⟩:=aT.mp ha;exact#[eI _ (by have:=ppos (p:=p);lia),dP _ ppos]
def ye :toV p (Xc p r k)=λj=>ph p k*toV p r j:=by
 funext j
 unfold toV;rw[xL,vE,xT]
noncomputable def toP(p:Nat)[NeZero p](P:List Row):Pt (Fin p):=P.map λr=>((hdI r).getD 0,toV p r)
structure pZ(p n:Nat)[NeZero p](P:List Row):Prop where
 row:∀r∈P,Zd p n r
 pn:Pn n (toP p P)
theorem pZ.nil:pZ p n []:=#[λ_ h=>(by cases h),Pn.nil]
def Yl(h:r∈P):((hdI r).getD 0,toV p r)∈toP p P:=aT.mpr #[r,h,rfl]
def pZ.head(one0:(1:Fin p)≠0)(h:pZ p n P)(hr:r∈P):∃k,hdI r=aa k/\k<n/\toV p r k=1:=by
 have h1:=h.pn.rf.one _<|Yl hr;cases q:hdI r with
 |none=>
  rw[q]at h1;have:toV p r 0=1:=h1;have z:=(Z9<|h.row r hr).mpr<|YI q 0;rw[z]at this;exact T7 this.symm one0
 |some k=>
  rw[q]at h1;have h2:=h.pn.lt _<|Yl hr;rw[q]at h2;exact#[k,rfl,h2,h1]
def zg(hP:∀r∈P,Zd p n r)(hQ:∀r∈Q,Zd p n r)(h:toP p P=toP p Q):P=Q:=by
 induction P generalizing Q with
 |nil=>cases Q with|nil=>rfl|cons b Q=>cases h
 |cons a P ih=>cases Q with
  |nil=>cases h
  |cons b Q=>
   have h':=h;injection h' with e1 e2
   have e3:=congrArg Prod.snd e1;rw[YZ (hP a<|am ..) (hQ b<|am ..) e3,ih (λr hr=>hP r<|ak _ hr) (λr hr=>hQ r<|ak _ hr) e2]
def ug(P:List Row):(toP p P).map (·.2)=P.map (toV p):=by unfold toP;rw[cf];rfl
def QA(P:List Row):(toP p P).length=P.length:=by unfold toP;rw[ay]
noncomputable def clr(p:Nat)(r o:Row)(h:Nat):Row:=ZB p r o<|-(gt r h)
noncomputable def Ze(p:Nat)(P:List Row)(r:Row):Row:=P.foldl (λs o=>clr p s o<|(hdI o).getD 0) r
theorem Qr(hr:Zd p n r)(ho:Zd p n o):toV p (clr p r o h)=λj=>toV p r j-toV p r h*toV p o j:=by
 unfold clr;rw[ZM hr ho]
 funext j
 rw[Wl];show toV p r j+(- toV p r h)*toV p o j=_
 grind
theorem WN:∀{P:List Row}{r:Row},(∀o∈P,Zd p n o)->Rf (toP p P)->Zd p n r->Zd p n (Ze p P r)/\toV p (Ze p P r)=rest (toP p P) (toV p r)
 |[],r,_,_,hr=>#[hr,by funext j;show toV p r j=toV p r j-0;grind]
 |o::P,r,hP,hf,hr=>by
  have ho:=hP o<|am ..;have hc:Zd p n (clr p r o<|(hdI o).getD 0):=Zk hr ho;obtain⟨a,b⟩:=WN (λo h=>hP o<|ak _ h) hf.tail hc
  refine#[a,?_];show toV p (Ze p P<|clr p r o<|(hdI o).getD 0)=_;rw[b,Qr hr ho];have z:∀j,pr (toP p P) (toV p o) j=0:=λj=>YU λc hc=>by
   have:toV p o c.1=0:=by
    have h1:c∈toP p (o::P):=ak _ hc;have h2:((hdI o).getD 0,toV p o)∈toP p (o::P):=am ..;have h3:=(be.mp hf.inc).1 c hc;exact hf.zer c h1 _ h2 (by simp only at h3 ⊢;lia)
   rw[this];grind
  funext j
  unfold rest;rw[UI,z];show toV p r j-toV p r ((hdI o).getD 0)*toV p o j-(pr (toP p P) (toV p r) j-_*0)=toV p r j-(toV p r ((hdI o).getD 0)*toV p o j+pr (toP p P) (toV p r) j)
  grind
def wq(hP:pZ p n P)(hr:Zd p n r):hdI (Ze p P r)=ae↔Mem (toP p P) (toV p r):=by
 obtain⟨a,b⟩:=WN hP.row hP.pn.rf hr;rw[<-Vl,<-b]
 constructor
 .intro h j;exact(Z9 a).mpr<|YI h j
 .intro h
  cases q:hdI (Ze p P r)with|none=>rfl|some k=>exact T7 ((Z9 a).mp<|h k) (Yf q).1
end
noncomputable def VC(p:Nat)(a:Int):Int:=if a=1 then 1 else if p=3 then 2 else if a=2 then 3 else if a=3 then 2 else 4
noncomputable def UE(p:Nat)[NeZero p](x:Fin p):Fin p:=ph p<|VC p x.val
class Base(p:Nat):Prop where
 b:p=2\/p=3\/p=5
instance(p:Nat)[h:Base p]:NeZero p:=⟨by rcases h.b with e|e|e<;>lia⟩
section
variable{p n:Nat}[Base p]
def fld2:∀a:Fin 2,a≠0->UE 2 a*a=1:=by decide
def fld3:∀a:Fin 3,a≠0->UE 3 a*a=1:=by decide
def fld5:∀a:Fin 5,a≠0->UE 5 a*a=1:=by decide
def one2:(1:Fin 2)≠0:=by decide
def one3:(1:Fin 3)≠0:=by decide
def one5:(1:Fin 5)≠0:=by decide
def fld:Fld (UE p):=by
 rcases(inferInstance:Base p).b with e|e|e<;>subst e
 .exact#[fld2,one2]
 .exact#[fld3,one3]
 .exact#[fld5,one5]
def qv{a:Int}(h:0<=a/\a<(p:Int)):((ph p a).val:Int)=a:=by rw[Yk,eQ h.1 h.2]
noncomputable def lead(p:Nat)(s:Row)(h:Nat):Row:=Xc p s<|VC p<|gt s h
noncomputable def Xd(p:Nat)(P:List Row)(r:Row):List Row:=match hdI (Ze p P r)with
 |none=>P
 |some h=>(Zg<|P.map (λo=>clr p o (lead p (Ze p P r) h) h)++[lead p (Ze p P r) h]).reverse
noncomputable def Jv(h:Nat)(x:Row):List Row->List Row
 |[]=>[x]
 |y::P=>if h<(hdI y).getD 0 then x::y::P else y::Jv h x P
theorem Wi(h:Nat)(x:Row):∀P:List Row,(Jv h x P).Perm (x::P)
 |[]=>cp _
 |y::P=>by
  unfold Jv;split
  .exact cp _
  .exact((Wi h x P).cons y).trans<|g7 x y P
theorem Q9{h:Nat}{x:Row}(hx:hdI x=aa h):∀P:List Row,toP p (Jv h x P)=ins (h,toV p x) (toP p P)
 |[]=>by show[((hdI x).getD 0,toV p x)]=_;rw[hx];rfl
 |y::P=>by
  unfold Jv;show toP p (if h<(hdI y).getD 0 then _ else _)=(if h<(hdI y).getD 0 then _ else _)
  split
  .show((hdI x).getD 0,toV p x)::_=_;rw[hx];rfl
  .show((hdI y).getD 0,toV p y)::toP p (Jv h x P)=_;rw[Q9 hx P];rfl
theorem wj:∀{a b:Row}{h:Nat},a.length=b.length->(∀j,j<h->gt a j=gt b j)->gt b h<gt a h->h<a.length->ltI b a=aj
 |[],_,_,_,_,_,hl=>by simp at hl
 |x::a,[],_,e,_,_,_=>by simp at e
 |x::a,y::b,0,_,_,hlt,_=>by
  have:y<x:=hlt;unfold ltI;rw[T8<|by lia]
  exact T5 this
 |x::a,y::b,h+1,e,hj,hlt,hl=>by
  have:x=y:=hj 0 (by lia)
  unfold ltI;rw[T9 this.symm];exact wj (by simpa using e) (λj h'=>hj (j+1)<|by lia) hlt (by simpa using hl)
theorem x8{a b:Row}{h k:Nat}(ha:Zd p n a)(hb:Zd p n b)(h1:hdI a=aa h)(h2:hdI b=aa k)(hk:h<k):ltI b a=aj:=by
 obtain⟨a1,a2,a3⟩:=Yf h1;obtain⟨b1,b2,b3⟩:=Yf h2;refine wj (by rw[ha.1,hb.1]) (λj hj=>by rw[a3 j hj,b3 j<|by lia]) ?_ a2
 rw[b3 h hk];have:=(XB ppos ha h).1;lia
def pZ.falls{P:List Row}(hP:pZ p n P):P.Pairwise λa b=>ltI b a=aj:=by
 have inc:P.Pairwise λa b=>(hdI a).getD 0<(hdI b).getD 0:=by
  have:=hP.pn.rf.inc;unfold toP at this;rw[cS]at this;exact this
 refine iC (λ{a b} ha hb hab=>?_) inc
 obtain⟨h,e1,_⟩:=hP.head fld.one0 ha;obtain⟨k,e2,_⟩:=hP.head fld.one0 hb;rw[e1,e2]at hab;exact x8 (hP.row a ha) (hP.row b hb) e1 e2 hab
def WC{P:List Row}(h:P.Pairwise λa b=>ltI b a=aj):P.Nodup:=List.Pairwise.imp (λ{a b} hab e=>by
 rw[e]at hab;have:=Sd.WL hab;rw[hab]at this;cases this) h
def qG{P Q:List Row}(hp:Q.Perm P)(h:Q.Pairwise λa b=>ltI b a=aj):(Zg P).reverse=Q:=by
 have hn:P.Nodup:=(hp.nodup_iff).mp<|WC h;have e:Zg P=Q.reverse:=Sd.Xf ((Sd.Yo P).trans<|hp.symm.trans (dz Q).symm) (Sd.YY hn)<|dR.mpr h;rw[e,List.reverse_reverse]
def XE{P:List Row}{r:Row}(hP:pZ p n P)(hr:Zd p n r):pZ p n (Xd p P r)/\toP p (Xd p P r)=more (UE p) n (toP p P) (toV p r):=by
 obtain⟨s1,s2⟩:=WN hP.row hP.pn.rf hr;have eh:=J7 s1;rw[s2]at eh;have g:=Xq fld hP.pn<|Xk hr;unfold Xd;cases q:hdI (Ze p P r)with
 |none=>
  rw[q]at eh;exact#[hP,by unfold more;rw[eh]]
 |some h=>
  rw[q]at eh;have em:more (UE p) n (toP p P) (toV p r)=wid (toP p P) h (toV p<|lead p (Ze p P r) h):=by
   unfold more;rw[eh];show wid _ h _=_
   congr 1
   unfold lead;rw[ye,s2]
   funext j
   congr 1
   unfold UE;rw[<-s2];show ph p (VC p<|(ph p<|gt (Ze p P r) h).val)=_;rw[qv<|XB ppos s1 h]
  have hl:Zd p n (lead p (Ze p P r) h):=UB s1;rw[em]at g;have mem:∀x∈wid (toP p P) h (toV p<|lead p (Ze p P r) h),hdV n x.2=aa x.1:=λx hx=>vH (g.pn.lt x hx) (by rw[g.pn.rf.one x hx];exact fld.one0)<|g.pn.rf.low x hx
  have hx:hdI (lead p (Ze p P r) h)=aa h:=by
   rw[<-J7 hl];exact mem (h,toV p<|lead p (Ze p P r) h)<|(Ye _ _).mem_iff.mpr<|am ..
  have e1:toP p (P.map λo=>clr p o (lead p (Ze p P r) h) h)=(toP p P).map (off h<|toV p<|lead p (Ze p P r) h):=by
   unfold toP;rw[cf,cf];refine dD λo ho=>?_
   have ho':=hP.row o ho;have hc:Zd p n (clr p o (lead p (Ze p P r) h) h):=Zk ho' hl;have ev:toV p (clr p o (lead p (Ze p P r) h) h)=(off h (toV p<|lead p (Ze p P r) h) ((hdI o).getD 0,toV p o)).2:=Qr ho' hl;show((hdI<|clr p o (lead p (Ze p P r) h) h).getD 0,toV p<|clr p o (lead p (Ze p P r) h) h)=off h _ ((hdI o).getD 0,toV p o);have:=mem (off h (toV p<|lead p (Ze p P r) h) ((hdI o).getD 0,toV p o))<|(Ye _ _).mem_iff.mpr<|ak _<|aT.mpr #[_,Yl ho,rfl];rw[<-ev,J7 hc]at this;rw[this,ev];rfl
  have e2:toP p (Jv h (lead p (Ze p P r) h)<|P.map λo=>clr p o (lead p (Ze p P r) h) h)=wid (toP p P) h (toV p<|lead p (Ze p P r) h):=by
   rw[Q9 hx,e1];rfl
  have hQ:pZ p n (Jv h (lead p (Ze p P r) h)<|P.map λo=>clr p o (lead p (Ze p P r) h) h):=by
   refine#[λx hx=>?_,by rw[e2];exact g.pn]
   rcases aC.mp ((Wi _ _ _).mem_iff.mp hx)with e|e
   .rw[e];exact hl
   .obtain⟨o,ho,rfl⟩:=aT.mp e
    exact Zk (hP.row o ho) hl
  have e3:=qG ((Wi h (lead p (Ze p P r) h)<|P.map λo=>clr p o (lead p (Ze p P r) h) h).trans (List.perm_append_singleton _ _).symm) hQ.falls
  show pZ p n (Zg _).reverse/\toP p (Zg _).reverse=_;rw[e3];exact#[hQ,by rw[e2,em]]
noncomputable def Z0(p:Nat)(P:List Row)(rs:List Row):List Row:=rs.foldl (Xd p) P
theorem zE:∀{rs:List Row}{P:List Row},pZ p n P->(∀r∈rs,Zd p n r)->pZ p n (Z0 p P rs)/\toP p (Z0 p P rs)=Vu (UE p) n (toP p P) (rs.map<|toV p)
 |[],P,hP,_=>#[hP,rfl]
 |r::rs,P,hP,hr=>by
  obtain⟨a,b⟩:=XE hP<|hr r<|am ..;obtain⟨c,d⟩:=zE (rs:=rs) a λx hx=>hr x<|ak _ hx
  refine#[c,?_];show toP p (Z0 p (Xd p P r) rs)=_;rw[d,b];rfl
def W6{P Q:List Row}(hP:pZ p n P)(hQ:pZ p n Q):pZ p n (Z0 p P Q)/\toP p (Z0 p P Q)=join (UE p) n (toP p P) (toP p Q):=by
 obtain⟨a,b⟩:=zE hP hQ.row;exact#[a,by rw[b];unfold join;rw[ug]]
noncomputable def Yu(P:List Row):List Nat:=P.map λr=>(hdI r).getD 0
def Wq(P:List Row):(toP p P).map (·.1)=Yu P:=by unfold toP Yu;rw[cf];rfl
end
section
variable{p n:Nat}[Base p]
abbrev Mm(p:Nat)[NeZero p](P:List Row)(u:Vec (Fin p)):Prop:=Mem (toP p P) u
def eqP(hA:pZ p n A)(hB:pZ p n B)(h:∀u,Mm p A u↔Mm p B u):A=B:=zg hA.row hB.row<|Zcy fld hA.pn hB.pn h
def wx{P Q:List Row}(hP:pZ p n P)(hQ:pZ p n Q){u:Vec (Fin p)}(h:Mm p Q u):Mm p (Z0 p P Q) u:=by
 unfold Mm;rw[(W6 hP hQ).2];exact Gh fld hP.pn hQ.pn h
def wy{P Q R:List Row}(hP:pZ p n P)(hQ:pZ p n Q)(h1:∀u,Mm p P u->Mm p R u)(h2:∀u,Mm p Q u->Mm p R u){u:Vec (Fin p)}(h:Mm p (Z0 p P Q) u):Mm p R u:=by
 unfold Mm at h;rw[(W6 hP hQ).2]at h;exact J8 fld hP.pn hQ.pn h1 h2 h
def pJ{P Q:List Row}(hP:pZ p n P)(hQ:pZ p n Q):pZ p n (Z0 p P Q):=(W6 hP hQ).1
def xh{P Q:List Row}(hP:pZ p n P)(hQ:pZ p n Q)(h:∀u,Mm p P u->Mm p Q u):Z0 p P Q=Q:=eqP (pJ hP hQ) hQ λu=>
 #[wy hP hQ h λ_ h=>h,wx hP hQ]
def uq{P:List Row}(u:Vec (Fin p))(h:Mm p ([]:List Row) u):Mm p P u:=by
 have e:u=λ_=>0:=funext λj=>h j
 rw[e];exact X9
def y8{P:List Row}(hP:pZ p n P):Z0 p [] P=P:=xh pZ.nil hP uq
noncomputable def Y5(p:Nat)(P:List Row)(r:Row):Bool:=(hdI<|Ze p P r).isNone
def ZU(hP:pZ p n P)(hr:Zd p n r):Y5 p P r=aj↔Mm p P (toV p r):=by
 unfold Mm;rw[<-wq hP hr];unfold Y5;cases hdI (Ze p P r)<;>simp
end
end Rw
namespace Pv
open Ev
open Rw
def Za{B β:Type}{a:B}{s:DS}{f:B->DS->PR β}:(PR.ok a s).bind f=f a s:=rfl
def V5(hf:F[f]?=aa fn)(hne:f≠tk)(hl:vs.length=fn.ps):Zh F tk (d+1) f vs s=(rvs (Zh F tk d) (muts fn.body) fn.body (ZH fn.ns vs) [] s).bind λg s=>match g with
  |.ret v=>.ok v s
  |.nx _ _=>.ok .non s
  |_=>.no:=by
 rw[Zh,T8 hne,hf];show(if vs.length=fn.ps then _ else _)=_
 rw[T9 hl]
 all_goals rfl
def wX(s:DS)(h:0<m):0<=(Y8 s m).1/\(Y8 s m).1<m:=by
 unfold Y8;split
 .exact#[eI _ (by lia),dP _ h]
 .exact#[eI _ (by lia),dP _ h]
def zi(s:DS)(h0:0<m)(h1:m<1073741824):∃v s',Zh F tk (d+1) tk [.drw,.int m] s=.ok (.int v) s'/\0<=v/\v<m:=by
 refine#[(Y8 s m).1,(Y8 s m).2,?_,wX s h0];rw[Zh,T9 rfl];show(if 0<m/\m<1073741824 then _ else _)=_
 rw[T9 #[h0,h1]]
theorem QU{B:Type}{f:V->DS->PR (List V)}{s:DS}{e:B->V}{g:B->V}:∀{l:List B},(∀x∈l,f (e x) s=.ok [g x] s)->mapP f (l.map e) s=.ok (l.map g) s
 |[],_=>rfl
 |x::l,h=>by
  rw[bf,mapP,h x<|am ..];show(match mapP f (l.map e) s with|.ok zs s=>PR.ok ([g x]++zs) s|_=>.no)=_
  rw[QU λy hy=>h y<|ak _ hy];rfl
theorem WB{B:Type}{f:V->DS->PR (List V)}{s:DS}{e:B->V}{g:B->V}{q:B->Bool}:∀{l:List B},(∀x∈l,f (e x) s=.ok (if q x=aj then[g x]else[]) s)->mapP f (l.map e) s=.ok ((l.filter q).map g) s
 |[],_=>rfl
 |x::l,h=>by
  rw[bf,mapP,h x<|am ..];show(match mapP f (l.map e) s with|.ok zs s=>PR.ok ((if q x=aj then[g x]else[])++zs) s|_=>.no)=_
  rw[WB λy hy=>h y<|ak _ hy,iS]
  cases q x<;>rfl
theorem Ua{Q:V->Prop}(h:∀x s,∃y s',f x s=.ok [y] s'/\Q y):∀(l:List V)(s:DS),∃ys s',mapP f l s=.ok ys s'/\ys.length=l.length/\∀y∈ys,Q y
 |[],s=>#[[],s,rfl,rfl,λ_ h=>by cases h]
 |x::l,s=>by
  obtain⟨y,s1,e1,q1⟩:=h x s;obtain⟨ys,s2,e2,l2,q2⟩:=Ua h l s1;refine#[y::ys,s2,?_,by rw[aL,aL,l2],λz hz=>?_]
  .rw[mapP,e1]
   show(match mapP f l s1 with|.ok zs s=>PR.ok ([y]++zs) s|_=>.no)=_
   rw[e2];rfl
  .rcases aC.mp hz with rfl|hz
   .exact q1
   .exact q2 z hz
theorem Uk{U B:Type}{body:V->Env->List Nat->DS->PR FlV}{s:DS}{os:List Nat}{O:U->Option V->Env}{step:U->B->U}{e:B->V}(I:U->Prop):∀{l:List B}{st:U}{o:Option V},I st->(∀x∈l,∀st o,I st->I (step st x)/\∃o',body (e x) (O st o) os s=.ok (.nx (O (step st x) o') os) s)->∃o',I (l.foldl step st)/\Yv body (l.map e) (O st o) os s=.ok (.nx (O (l.foldl step st) o') os) s
 |[],st,o,hI,_=>#[o,hI,rfl]
 |x::l,st,o,hI,h=>by
  obtain⟨h1,o1,e1⟩:=h x (am ..) st o hI;obtain⟨o2,h2,e2⟩:=Uk I h1 λy hy=>h y<|ak _ hy
  refine#[o2,h2,?_];rw[bf,Yv,e1];exact e2
noncomputable def vd:Option Nat->V
 |none=>.non
 |some k=>.int k
noncomputable def spV(p n:Nat):V:=.tup [.int p,.int n]
def ZN{a:Int}(h:-4294967296<a)(h':a<4294967296):fits a=aj:=by
 refine T5 ?_;have h1:a.natAbs<2^32:=by lia
 exact bi h1<|eV (by decide)<|by decide
def Qv{B:Type}{xs:List B}{k:Nat}{x:B}(h:xs[k]?=aa x):at' xs (k:Int)=aa x:=by
 have hk:=(a8.mp h).1;unfold at' ixN;rw[T9 (by lia),T9<|by lia]
 rw[show(k:Int).toNat=k by lia];exact h
def Gg{r:Row}{k:Nat}(hk:k<r.length):at' (r.map V.int) (k:Int)=aa (.int<|gt r k):=by
 refine Qv ?_;rw[aK,ag hk];unfold gt;rw[aO,ag hk];rfl
theorem Xm{B:Type}{g:B->Bool}:∀l:List B,ZX (l.map λx=>.bl<|g x)=aa (l.map g)
 |[]=>rfl
 |x::l=>by rw[bf,ZX,Xm l];rfl
theorem JU:∀(r o:Row),((r.map V.int).zip<|o.map V.int).map (λq=>V.tup [q.1,q.2])=(r.zip o).map λq=>V.tup [.int q.1,.int q.2]
 |[],_=>rfl
 |_::_,[]=>rfl
 |a::r,b::o=>by rw[bf,bf,cy,bf,cy,bf,JU r o]
theorem Yb:∀r:Row,intsV (r.map V.int)=aa r
 |[]=>rfl
 |a::r=>by show(intsV<|r.map V.int).map (a :: ·)=_;rw[Yb r];rfl
theorem Wp:∀P:List Row,ZV (P.map Zb)=aa P
 |[]=>rfl
 |r::P=>by
  show(match intsV (r.map V.int),ZV (P.map Zb)with|some a,aa b=>aa (a::b)|_,_=>ae)=_
  rw[Yb,Wp P]
theorem Vm:∀r:Row,Y1 (r.map V.int)=aj
 |[]=>rfl
 |a::r=>Vm r
def je(n:Nat):ZT 0 n=(aU n).map λ(k:Nat)=>V.int (k:Int):=by
 refine dD λk _=>?_
 simp
def ZG{B:Type}{a:B}{s:DS}:po (aa a) s=.ok a s:=rfl
section
variable{C:Zt}{cap:List Nat}{nl:Nat}{t:List Nat}{it:W}{elt tst:E}{O:Env}{s:DS}{B:Type}
def ZW{l:List B}{e g:B->V}(hw:pvw C it O s=.ok (l.map e) s)(hl:l.length<=lim)(h:∀x∈l,∃U,Zf t (e x) (ZQ cap nl O)=aa U/\pv C elt U s=.ok (g x) s)(ho:own nl t=aj:=by rfl):pv C (.comp1 cap nl t it [] elt) O s=.ok (.lst<|l.map g) s:=by
 rw[pv,T9 ho,hw,Za,QU λx hx=>by
  obtain⟨U,e1,e2⟩:=h x hx;rw[e1,ZG,Za,pvt,Za];rw[e2];rfl]
 rw[Za,T9<|by rw[ay];exact hl];rfl
def Q4{l:List B}{e g:B->V}{q:B->Bool}(hw:pvw C it O s=.ok (l.map e) s)(hl:l.length<=lim)(h:∀x∈l,∃U v,Zf t (e x) (ZQ cap nl O)=aa U/\pv C tst U s=.ok v s/\Zn v=aa (q x)/\(q x=aj->pv C elt U s=.ok (g x) s))(ho:own nl t=aj:=by rfl):pv C (.comp1 cap nl t it [tst] elt) O s=.ok (.lst<|(l.filter q).map g) s:=by
 rw[pv,T9 ho,hw,Za,WB (q:=q) λx hx=>by
  obtain⟨U,v,e1,e2,e3,e4⟩:=h x hx;rw[e1,ZG,Za,pvt,e2,Za,e3,ZG,Za];cases c:q x with
  |true=>
   rw[T9 rfl,pvt,Za,T9 rfl,T9 rfl,e4 c];rfl
  |false=>rw[T8 (by simp),Za,T8 (by simp),T8<|by simp]]
 rw[Za,T9<|by rw[ay];exact b0 (kB ..) hl];rfl
def yF{Q:V->Prop}(hw:pvw C it O s=.ok (ZT 0 k) s)(hl:k<=lim)(h:∀(x:V)(s:DS),∃U y s',Zf t x (ZQ cap nl O)=aa U/\pv C elt U s=.ok y s'/\Q y)(ho:own nl t=aj:=by rfl) :
  ∃ys s',pv C (.comp1 cap nl t it [] elt) O s=.ok (.lst ys) s'/\ys.length=k/\∀y∈ys,Q y:=by
 obtain⟨ys,s',e1,e2,e3⟩:=Ua (f:=λx s=>(po (Zf t x<|ZQ cap nl O) s).bind λU s=>(pvt C [] U s).bind λb s=>if b then(pv C elt U s).bind λy s=>.ok [y] s else .ok [] s) (λx s=>by
  obtain⟨U,y,s',f1,f2,f3⟩:=h x s;refine#[y,s',?_,f3];rw[f1,ZG,Za,pvt,Za];rw[f2];rfl) (ZT 0 k) s
 have hk:(ZT 0 k).length=k:=by unfold ZT;simp
 refine#[ys,s',?_,by rw[e2,hk],e3]
 rw[pv,T9 ho,hw,Za,e1,Za,T9<|by rw[e2,hk];exact hl];rfl
end
noncomputable def Yg(k:Nat):V:=.int k
def zu(n:Nat):ZT 0 n=(aU n).map Yg:=by rw[je];rfl
def Vi(h0:0<=i)(h1:i<1000000):YN i=aj:=by
 unfold YN;have e:(2:Int)^62=4611686018427387904:=by decide
 rw[e];exact T5 #[by lia,by lia]
def ZF(hf:F[f]?=aa fn)(hne:f≠tk)(hl:vs.length=fn.ps)(h:rvs (Zh F tk d) (muts fn.body) fn.body (ZH fn.ns vs) [] s=.ok (.ret v) s'):Zh F tk (d+1) f vs s=.ok v s':=by
 rw[V5 hf hne hl,h];rfl
def Zi(h:rv C ms m O os s=.ok (.nx ρ' os') s'):rvs C ms (m::l) O os s=rvs C ms l ρ' os' s':=by rw[rvs,h];rfl
def Zy(h:rv C ms m O os s=.ok (.ret v) s'):rvs C ms (m::l) O os s=.ok (.ret v) s':=by rw[rvs,h];rfl
def ZS(h:pv C e O s=.ok v s'):rv C ms (.ret e) O os s=.ok (.ret v) s':=by rw[rv,h];rfl
def Wv{b:Bool}{t:E}{x y:List Sm}(h:YF C t O s=.ok b s'):rv C ms (.ite t x y) O os s=if b=aj then rvs C ms x O os s' else rvs C ms y O os s':=by rw[rv,h];rfl
def Xh{v:V}{b:Bool}{t:E}(h:pv C t O s=.ok v s')(hb:Zn v=aa b):YF C t O s=.ok b s':=by unfold YF;rw[h,Za,hb];rfl
def ZP{f:Nat}{as:List E}{vs:List V}{v:V}{s1:DS}(h:pvs C as O s=.ok vs s1)(hc:C f vs s1=.ok v s'):pv C (.call f as) O s=.ok v s':=by rw[pv,h];exact hc
def Zj:pvs C [] O s=.ok [] s:=by rw[pvs]
def Zc{e:E}{es:List E}{v:V}{vs:List V}{s1:DS}(h:pv C e O s=.ok v s1)(h2:pvs C es O s1=.ok vs s'):pvs C (e::es) O s=.ok (v::vs) s':=by rw[pvs,h,Za,h2];rfl
def Zm{i:Nat}{v:V}(h:O[i]?=aa (aa v)):pv C (.v i) O s=.ok v s:=by rw[pv,h];rfl
def Yi{i:Nat}{e:E}{v:V}(h:pv C e O s=.ok v s')(hm:(ms.contains i&&fresh e)=ai):rv C ms (.asg [i] e) O [] s=.ok (.nx (O.set i<|aa v) []) s':=by
 rw[rv];show(pv C e O s).bind _=_;rw[h,Za,T8<|by rw[hm];simp];rfl
def xJ{U B:Type}{t:List Nat}{it:W}{b:List Sm}{L:List B}{e:B->V}{step:U->B->U}{O:U->Option V->Env}{st:U}{o:Option V}(I:U->Prop)(hw:pvw C it (hide os<|O st o) s=.ok (L.map e) s)(hI:I st)(ht:(t.any os.contains)=ai)
  (h:∀x∈L,∀st o,I st->I (step st x)/\(os.isEmpty||(e x).flat)=aj/\∃ρ1 o',Zf t (e x) (O st o)=aa ρ1/\rvs C ms b ρ1 os s=.ok (.nx (O (step st x) o') os) s) :
  ∃o',I (L.foldl step st)/\rv C ms (.forr t it b) (O st o) os s=.ok (.nx (O (L.foldl step st) o') os) s:=by
 obtain⟨o',h1,h2⟩:=Uk (body:=λx O os s=>if(t.any os.contains)=aj then .no else(po (Zf t x O) s).bind λO s=>rvs C ms b O os s) (s:=s) (os:=os) (O:=O) (step:=step) (e:=e) I (l:=L) (st:=st) (o:=o) hI (λx hx st o hI=>by
  obtain⟨a,f,ρ1,o',b1,b2⟩:=h x hx st o hI;refine#[a,o',?_];rw[T8 (by rw[ht];simp),b1,ZG,Za,b2])
 refine#[o',h1,?_];rw[rv,hw,Za];exact h2
def XO{e:E}{n:Nat}(h:pv C e O s=.ok (.int n) s')(hn:n<1000000):pvw C (.rng1 e) O s=.ok ((aU n).map Yg) s':=by
 rw[pvw,h,Za];show(if YN (n:Int)=aj then PR.ok (ZT 0 (n:Int).toNat) s' else .no)=_
 rw[T9 (Vi (by lia)<|by lia),d8,zu]
def qB{B:Type}{t:List Nat}{it:W}{b:List Sm}{L:List B}{e:B->V}(I:List B->Env->Prop)(hw:pvw C it (hide os O) s=.ok (L.map e) s)(hI:I L O)(ht:(t.any os.contains)=ai)
  (h:∀x l O,I (x::l) O->(os.isEmpty||(e x).flat)=aj/\∃ρ1 ρ',Zf t (e x) O=aa ρ1/\rvs C ms b ρ1 os s=.ok (.nx ρ' os) s/\I l ρ') :
  ∃ρ',I [] ρ'/\rv C ms (.forr t it b) O os s=.ok (.nx ρ' os) s:=by
 rw[rv,hw,Za];clear hw
 induction L generalizing O with
 |nil=>exact#[O,hI,rfl]
 |cons x L ih=>
  obtain⟨f,ρ1,ρ',b1,b2,b3⟩:=h x L O hI;obtain⟨ρ2,c1,c2⟩:=ih b3;refine#[ρ2,c1,?_];rw[bf,Yv,T8 (by rw[ht];simp),b1,ZG,Za,b2,Za]
  exact c2
def qj{U B:Type}{t:List Nat}{it:W}{b:List Sm}{L:List B}{e:B->V}{step:U->B->U}{O:U->Option V->Env}{st:U}{o:Option V}(I:List B->U->Prop)(hw:pvw C it (hide os<|O st o) s=.ok (L.map e) s)(hI:I L st)(ht:(t.any os.contains)=ai)
  (h:∀x l st o,I (x::l) st->I l (step st x)/\(os.isEmpty||(e x).flat)=aj/\∃ρ1 o',Zf t (e x) (O st o)=aa ρ1/\rvs C ms b ρ1 os s=.ok (.nx (O (step st x) o') os) s) :
  ∃o',I [] (L.foldl step st)/\rv C ms (.forr t it b) (O st o) os s=.ok (.nx (O (L.foldl step st) o') os) s:=by
 rw[rv,hw,Za];clear hw
 induction L generalizing st o with
 |nil=>exact#[o,hI,rfl]
 |cons x L ih=>
  obtain⟨a,f,ρ1,o',b1,b2⟩:=h x L st o hI;obtain⟨o2,c1,c2⟩:=ih (st:=step st x) (o:=o') a;refine#[o2,c1,?_];rw[bf,Yv,T8 (by rw[ht];simp),b1,ZG,Za,b2,Za]
  exact c2
def pvF:(∀a,fresh (.lst a)=aj)/\(∀a b,fresh (.bin .mul (.lst a) b)=aj)/\(∀b,Zn (.bl b)=aa b)/\(∀i,Zn (.int i)=aa (al<|i≠0))/\(∀xs,Zn (.tup xs)=aa (!xs.isEmpty))/\(∀xs,Zn (.lst xs)=aa (!xs.isEmpty))/\(Zn .non=aa ai)/\(∀xs i,ixV (.tup xs) (.int i)=at' xs i)/\(∀xs i,ixV (.lst xs) (.int i)=at' xs i)/\(∀xs,Yj (.tup xs)=aa xs)/\(∀xs,Yj (.lst xs)=aa xs)/\(∀x,Y6 .len [x]=(Yj x).map λxs=>.int xs.length)/\(∀x,Y6 .tuple [x]=(Yj x).map .tup)/\(∀x,Y6 .list [x]=(Yj x).map .lst)/\(∀xs,Y6 .all [.lst xs]=(ZX xs).map λbs=>.bl<|bs.all id)/\(∀a b,Y6 .max2 [.int a,.int b]=aa (.int (if b>a then b else a)))/\(∀a b,Y6 .min2 [.int a,.int b]=aa (.int (if b<a then b else a)))/\(∀a,Y6 .toInt [.int a]=aa (.int a))/\(∀a,Y6 .toInt [.bl a]=aa (.int<|b2i a))/\(∀xs,Y6 .sortedR [.lst xs]=(ZV xs).bind λrs=>if ZR rs=aj then aa (.lst<|(Zg rs).reverse.map Zb)else ae)/\(∀a b s,Yz .add (.int a) (.int b) s=.ok (.int<|a+b) s)/\(∀a b s,Yz .sub (.int a) (.int b) s=.ok (.int<|a-b) s)/\(∀a b s,Yz .mul (.int a) (.int b) s=if(fits a&&fits b)=aj then .ok (.int<|a*b) s else .no)/\(∀a b s,Yz .mod (.int a) (.int b) s=if 0<b then .ok (.int<|a%b) s else .no)/\(∀a b s,Yz .add (.tup a) (.tup b) s=if a.length+b.length<=lim then .ok (.tup<|a++b) s else .no)/\(∀a b s,Yz .mul (.tup a) (.int b) s=if 0<=b/\b<1000/\a.length<=1000 then .ok (.tup (aA b.toNat a).flatten) s else .no)/\(∀a b s,Yz .mul (.lst a) (.int b) s=if 0<=b/\b<1000/\a.length<=1000 then .ok (.lst (aA b.toNat a).flatten) s else .no)/\(∀a b s,Yz .add (.lst a) (.lst b) s=if a.length+b.length<=lim then .ok (.lst<|a++b) s else .no)/\(∀x y,Yh .eq x y=(eqV ZJ x y).map .bl)/\(∀x y,Yh .ne x y=(eqV ZJ x y).map λb=>.bl !b)/\(∀a b,Yh .lt (.int a) (.int b)=aa (.bl<|al<|a<b))/\(∀a b,Yh .gt (.int a) (.int b)=aa (.bl<|al<|b<a))/\(∀a b,Yh .le (.int a) (.int b)=aa (.bl<|al<|a<=b))/\(∀a b,Yh .ge (.int a) (.int b)=aa (.bl<|al<|b<=a))/\(∀x,Yh .is x .non=aa (.bl<|Wz x))/\(∀x,Yh .isn x .non=aa (.bl !(Wz x)))/\(∀a b,Yh .is (.bl a) (.bl b)=aa (.bl<|al<|a=b))/\(∀a b,Yh .isn (.bl a) (.bl b)=aa (.bl !(al<|a=b)))/\(∀x y,Yh .inn x y=(JQ x y).map .bl)/\(∀x y,Yh .nin x y=(JQ x y).map λb=>.bl !b)/\(Wz .non=aj)/\(∀b,Wz (.bl b)=ai)/\(∀b,Wz (.int b)=ai)/\(∀b,Wz (.tup b)=ai)/\(∀b,Wz (.lst b)=ai)/\(ofD .non=aa .non)/\(∀b,ofD (.bl b)=aa (.bl b))/\(∀b,ofD (.int b)=aa (.int b))/\(∀O,YE [] [] O=aa O)/\(∀i t x xs O,YE (i::t) (x::xs) O=YE t xs (O.set i<|aa x))/\(∀i x O,Zf [i] x O=aa (O.set i<|aa x))/\(∀i j t xs O,Zf (i::j::t) (.tup xs) O=YE (i::j::t) xs O)/\(∀i j t xs O,Zf (i::j::t) (.lst xs) O=YE (i::j::t) xs O)/\(∀k a b,eqV (k+1) (.int a) (.int b)=aa (al<|a=b))/\(∀k a b,eqV (k+1) (.bl a) (.bl b)=aa (al<|a=b))/\(∀k a b,eqV (k+1) (.tup a) (.tup b)=Yt (eqV k) a b)/\(∀k a b,eqV (k+1) (.lst a) (.lst b)=if a.length=b.length then Yt (eqV k) a b else aa ai):=
 #[λ_=>rfl,λ_ _=>rfl,λ_=>rfl,λ_=>rfl,λ_=>rfl,λ_=>rfl,rfl,λ_ _=>rfl,λ_ _=>rfl,λ_=>rfl,λ_=>rfl,λ_=>rfl,λ_=>rfl,λ_=>rfl,λ_=>rfl,λ_ _=>rfl,λ_ _=>rfl,λ_=>rfl,λ_=>rfl,λ_=>rfl,λ_ _ _=>rfl,λ_ _ _=>rfl,λ_ _ _=>rfl,λ_ _ _=>rfl,λ_ _ _=>rfl,λ_ _ _=>rfl,λ_ _ _=>rfl,λ_ _ _=>rfl,λ_ _=>rfl,λ_ _=>rfl,λ_ _=>rfl,λ_ _=>rfl,λ_ _=>rfl,λ_ _=>rfl,λ_=>rfl,λ_=>rfl,λ_ _=>rfl,λ_ _=>rfl,λ_ _=>rfl,λ_ _=>rfl,rfl,λ_=>rfl,λ_=>rfl,λ_=>rfl,λ_=>rfl,rfl,λ_=>rfl,λ_=>rfl,λ_=>rfl,λ_ _ _ _ _=>rfl,λ_ _ _=>rfl,λ_ _ _ _ _=>rfl,λ_ _ _ _ _=>rfl,λ_ _ _=>rfl,λ_ _ _=>rfl,λ_ _ _=>rfl,λ_ _ _=>rfl]
def pvE:=aP (aP (aP (aP (aP (aP pvF @Za)<|aP @ZG @YF.eq_1)<|aP (aP @ZH.eq_1 @hide.eq_1)<|aP @ZQ.eq_1 @Option.join.eq_1.{0})<|aP (aP (aP @lim.eq_1 @rvs.eq_1)<|aP @rvs.eq_2 @rv.eq_1)<|aP (aP @rv.eq_2 @rv.eq_3)<|aP @rv.eq_4 @rv.eq_5)<|aP (aP (aP (aP @rv.eq_6 @rv.eq_7)<|aP @rv.eq_8 @rv.eq_9)<|aP (aP @rv.eq_10 @rv.eq_11)<|aP @rv.eq_12 @rv.eq_13)<|aP (aP (aP @rv.eq_14 @rv.eq_15)<|aP @rv.eq_16 @rv.eq_17)<|aP (aP @rv.eq_18 @pvA.eq_1)<|aP @pvA.eq_2<|aP @pvs.eq_1 @pvs.eq_2)<|aP (aP (aP (aP (aP @pvo.eq_1 @pvo.eq_2)<|aP @pvt.eq_1 @pvt.eq_2)<|aP (aP @pvw.eq_1 @pvw.eq_2)<|aP @pvw.eq_3 @pvw.eq_4)<|aP (aP (aP @pvw.eq_5 @pvw.eq_6)<|aP @pvw.eq_7 @pv.eq_1)<|aP (aP @pv.eq_2 @pv.eq_3)<|aP @pv.eq_4<|aP @pv.eq_5 @pv.eq_6)<|aP (aP (aP (aP @pv.eq_7 @pv.eq_8)<|aP @pv.eq_9 @pv.eq_10)<|aP (aP @pv.eq_11 @pv.eq_12)<|aP @pv.eq_13 @pv.eq_14)<|aP (aP (aP @pv.eq_15 @pv.eq_16)<|aP @pv.eq_17 @pv.eq_18)<|aP (aP @pv.eq_19 @pv.eq_20)<|aP @pv.eq_21<|aP @pv.eq_22 @pv.eq_23
end Pv
namespace K71
open Ev Pv Rw La
noncomputable abbrev CV(d:Nat):Zt:=Zh fns 2 d
theorem Um(C:Zt)(s:DS)(v:V):∀(r:Row)(k:Nat)(a b:Option V),∃a' b',Yv (λx O os s=>if(([1,2]:List Nat).any os.contains)=aj then .no else(po (Zf [1,2] x O) s).bind λO s=>rvs C [] [.ite (.cmp .ne (.v 2)<|.c<|.int 0) [.ret<|.v 1] []] O os s)
   (((ZT k r.length).zip<|r.map V.int).map λp=>V.tup [p.1,p.2]) [aa v,a,b] [] s=match hdI r with
    |some m=>.ok (.ret<|.int (k+m:Nat)) s
    |none=>.ok (.nx [aa v,a',b'] []) s
 |[],k,a,b=>#[a,b,rfl]
 |x::r,k,a,b=>by
  have er:ZT k (x::r).length=.int k::ZT (k+1:Nat) r.length:=by
   unfold ZT;rw[aL,i7,bf,cf];refine List.cons_eq_cons.mpr #[by simp,?_]
   .refine dD λj _=>?_
    show V.int ((k:Int)+((j+1:Nat):Int))=V.int (((k+1:Nat):Int)+(j:Int))
    congr 1
    lia
  obtain⟨a',b',ih⟩:=Um C s v r (k+1) (aa<|.int k)<|aa<|.int x;refine#[a',b',?_];rw[er,bf,cy,bf,Yv];by_cases c:x=0
  .subst c
   have e0:hdI (0::r)=(hdI r).map (· + 1):=by rw[hdI,T8<|by simp]
   have e1:(if(([1,2]:List Nat).any ([]:List Nat).contains)=aj then(.no:PR FlV)else(po (Zf [1,2] (V.tup [.int k,.int 0]) [aa v,a,b]) s).bind λO s=>rvs C [] [.ite (.cmp .ne (.v 2)<|.c<|.int 0) [.ret<|.v 1] []] O [] s)=.ok (.nx [aa v,aa<|.int k,aa<|.int 0] []) s:=by
    simp[pvE,ZJ]
   rw[e1,Za,e0];show Yv _ _ [aa v,aa<|.int k,aa<|.int 0] [] s=_;rw[ih];cases hdI r with|none=>rfl|some m=>show PR.ok (FlV.ret<|.int ((k+1+m:Nat):Int)) s=PR.ok (FlV.ret<|.int ((k+(m+1):Nat):Int)) s;congr 3;lia
  .have e0:hdI (x::r)=aa 0:=by rw[hdI,T9 c]
   have e1:(if(([1,2]:List Nat).any ([]:List Nat).contains)=aj then(.no:PR FlV)else(po (Zf [1,2] (V.tup [.int k,.int x]) [aa v,a,b]) s).bind λO s=>rvs C [] [.ite (.cmp .ne (.v 2)<|.c<|.int 0) [.ret<|.v 1] []] O [] s)=.ok (.ret<|.int k) s:=by
    simp[pvE,ZJ,c]
   rw[e1,Za,e0];rfl
def zr(d:Nat)(r:Row)(s:DS):CV (d+1) 12 [Zb r] s=.ok (vd<|hdI r) s:=by
 rw[CV,V5 rfl (by decide) rfl]
 obtain⟨a,b,e⟩:=Um (Zh fns 2 d) s (Zb r) r 0 ae ae;show((rv _ [] (.forr [1,2] (.enum<|.v 0) _) [aa<|Zb r,ae,ae] [] s).bind _).bind _=_;have e2:rv (Zh fns 2 d) [] (.forr [1,2] (.enum<|.v 0) [.ite (.cmp .ne (.v 2)<|.c<|.int 0) [.ret<|.v 1] []]) [aa<|Zb r,ae,ae] [] s=match hdI r with
    |some m=>.ok (.ret<|.int (m:Nat)) s
    |none=>.ok (.nx [aa<|Zb r,a,b] []) s:=by
  rw[rv];have ew:pvw (Zh fns 2 d) (.enum<|.v 0) (hide [] [aa<|Zb r,ae,ae]) s=.ok (((ZT 0 r.length).zip<|r.map V.int).map λp=>V.tup [p.1,p.2]) s:=by
   simp[pvE,Zb]
  rw[ew,Za];simp only[Nat.zero_add,Int.natCast_zero]at e;exact e
 rw[e2];cases hdI r with|none=>rfl|some m=>rfl
section
variable{p n:Nat}[Base p]
def VD:(p:Int)<=5/\(2:Int)<=p:=by rcases(inferInstance:Base p).b with e|e|e<;>subst e<;>decide
theorem Gi(d:Nat){r o:Row}{k:Int}(s:DS)(hn:n<=6)(hr:Zd p n r)(ho:Zd p n o)(hk:-1000<k/\k<1000):CV (d+1) 10 [.int p,Zb r,Zb o,.int k] s=.ok (Zb<|ZB p r o k) s:=by
 rw[CV,V5 rfl (by decide) rfl]
 have hp:=VD (p:=p);have hc:=ZW (C:=Zh fns 2 d) (cap:=[3,0]) (nl:=2) (t:=[0,1]) (it:=.zip (.v 1)<|.v 2) (elt:=.bin .mod (.bin .add (.v 0)<|.bin .mul (.v 2)<|.v 1)<|.v 3) (O:=[aa<|.int p,aa<|Zb r,aa<|Zb o,aa<|.int k]) (s:=s) (l:=r.zip o) (e:=λq=>V.tup [.int q.1,.int q.2]) (g:=λq=>V.int<|(q.1+k*q.2)%p)
  (by simp[pvE,Zb,JU]) (by rw[gv,hr.1,ho.1];unfold lim;lia) (λq hq=>by
   have h2:=ho.2 q.2 (gh hq).2;refine#[_,rfl,?_];have f1:=ZN (a:=k) (by lia) (by lia)
   have f2:=ZN (a:=q.2) (by lia) (by lia)
   have hp0:0<p:=by lia
   simp[pvE,f1,f2,hp0])
 have e:(r.zip o).map (λq=>V.int<|(q.1+k*q.2)%p)=(ZB p r o k).map V.int:=by
  unfold ZB;rw[<-fQ,cf];rfl
 simp[Wb,pvE,hc,e];rfl
theorem G9(d:Nat){r o:Row}{h:Nat}(s:DS)(hn:n<=6)(hr:Zd p n r)(ho:Zd p n o)(hh:h<n):CV (d+2) 11 [.int p,Zb r,Zb o,.int h] s=.ok (Zb<|clr p r o h) s:=by
 rw[CV,V5 rfl (by decide) rfl]
 have hg:=XB ppos hr h;have hp:=VD (p:=p);have e:=Gi d (k:=-(gt r h)) s hn hr ho #[by lia,by lia]
 have e2:=Gg (by rw[hr.1];exact hh)
 simp only[CV]at e;simp[V2,pvE,Zb,e2];simp only[Zb]at e;rw[e];simp[pvE,clr]
theorem Zcr(d:Nat){r:Row}{k:Int}(s:DS)(hn:n<=6)(hr:Zd p n r)(hk:-1000<k/\k<1000):CV (d+1) 14 [.int p,Zb r,.int k] s=.ok (Zb<|Xc p r k) s:=by
 rw[CV,V5 (fn:=UU) rfl (by decide) rfl]
 have hp:=VD (p:=p);have hc:=ZW (C:=Zh fns 2 d) (cap:=[2,0]) (nl:=1) (t:=[0]) (it:=.of<|.v 1) (elt:=.bin .mod (.bin .mul (.v 1)<|.v 0)<|.v 2) (O:=[aa<|.int p,aa<|Zb r,aa<|.int k]) (s:=s) (l:=r) (e:=V.int) (g:=λq=>V.int<|k*q%p)
  (by simp[pvE,Zb]) (by rw[hr.1];unfold lim;lia) (λq hq=>by
   have h2:=hr.2 q hq;refine#[_,rfl,?_];have f1:=ZN (a:=k) (by lia) (by lia)
   have f2:=ZN (a:=q) (by lia) (by lia)
   have hp0:0<p:=by lia
   simp[pvE,f1,f2,hp0])
 simp[UU,pvE,hc];simp[Zb,Xc]
def UY(C:Zt)(m:Nat){q a k:Int}(s:DS)(hq:0<q)(f1:fits a=aj)(f2:fits k=aj):YG (YF C<|.cmp .ne (.bin .mod (.bin .mul (.v 2)<|.v 1)<|.v 0)<|.c<|.int 1) (rvs C [] [.aug 2 .add<|.c<|.int 1]) (m+1) [aa<|.int q,aa<|.int a,aa<|.int k] [] s =
  if k*a%q=1 then .ok (.nx [aa<|.int q,aa<|.int a,aa<|.int k] []) s else YG (YF C<|.cmp .ne (.bin .mod (.bin .mul (.v 2)<|.v 1)<|.v 0)<|.c<|.int 1) (rvs C [] [.aug 2 .add<|.c<|.int 1]) m [aa<|.int q,aa<|.int a,aa<|.int<|k+1] [] s:=by
 rw[YG];by_cases c:k*a%q=1<;>simp[pvE,f1,f2,hq,ZJ,c,Zb3]
theorem u6(d:Nat){a:Int}(s:DS)(ha:0<a/\a<p):CV (d+1) 15 [.int p,.int a] s=.ok (.int<|VC p a) s:=by
 rw[CV,V5 (fn:=VR) rfl (by decide) rfl]
 generalize Zh fns 2 d=C;have fs:∀k:Int,0<=k->k<=5->fits k=aj:=λk h0 h1=>ZN (by lia) (by lia)
 have hp:=VD (p:=p);have fa:=fs a (by lia) (by lia)
 have key:YG (YF C<|.cmp .ne (.bin .mod (.bin .mul (.v 2)<|.v 1)<|.v 0)<|.c<|.int 1) (rvs C [] [.aug 2 .add<|.c<|.int 1]) (996+1+1+1+1) [aa<|.int p,aa<|.int a,aa<|.int 1] [] s=.ok (.nx [aa<|.int p,aa<|.int a,aa<|.int<|VC p a] []) s:=by
  rw[UY C _ s (by lia) fa (fs 1 (by lia)<|by lia),UY C _ s (by lia) fa (fs (1+1) (by lia)<|by lia),UY C _ s (by lia) fa (fs (1+1+1) (by lia)<|by lia),UY C _ s (by lia) fa<|fs (1+1+1+1) (by lia)<|by lia]
  rcases(inferInstance:Base p).b with e|e|e<;>subst e
  .have:a=1:=by lia
   subst this;rfl
  .have:a=1\/a=2:=by lia
   rcases this with e|e<;>subst e<;>rfl
  .have:a=1\/a=2\/a=3\/a=4:=by lia
   rcases this with e|e|e|e<;>subst e<;>rfl
 have e:rv C [] (.whl (.cmp .ne (.bin .mod (.bin .mul (.v 2)<|.v 1)<|.v 0)<|.c<|.int 1) [.aug 2 .add<|.c<|.int 1]) [aa<|.int p,aa<|.int a,aa<|.int 1] [] s=.ok (.nx [aa<|.int p,aa<|.int a,aa<|.int<|VC p a] []) s:=by
  rw[rv];exact key
 show((rvs C [] (.asg [2] (.c<|.int 1) :: .whl _ _ :: .ret (.v 2)::[]) [aa<|.int p,aa<|.int a,ae] [] s).bind _)=_;have e1:rv C [] (.asg [2]<|.c<|.int 1) [aa<|.int p,aa<|.int a,ae] [] s=.ok (.nx [aa<|.int p,aa<|.int a,aa<|.int 1] []) s:=by simp[pvE]
 rw[rvs,e1,Za];show((rvs C [] (.whl _ _ :: .ret (.v 2)::[]) [aa<|.int p,aa<|.int a,aa<|.int 1] [] s).bind _)=_;rw[rvs,e,Za];simp[pvE]
end
section
variable{p n:Nat}[Base p]
def Xu(C:Zt)(ms:List Nat){i j:Nat}{O:Env}{os:List Nat}{s:DS}{e:E}(h:pvA C e O os s=.ok (spV p n) s)(ho:os.contains i=ai/\os.contains j=ai):rv C ms (.asg [i,j] e) O os s=.ok (.nx ((O.set i<|aa<|.int p).set j<|aa<|.int n) os) s:=by
 rw[rv,h,Za,T8<|by simpa using ho]
 .rfl
 .simp
def yR(d:Nat){P:List Row}{r:Row}(s:DS)(hn:n<=6)(hP:pZ p n P)(hr:Zd p n r):CV (d+3) 13 [spV p n,ZK P,Zb r] s=.ok (Zb<|Ze p P r) s:=by
 refine ZF rfl (by decide) rfl ?_
 show rvs (CV<|d+2) [] (.asg [3,4] (.v 0) :: .asg [5] (.v 2) :: .forr [6] (.of<|.v 1) [.asg [5]<|.call 11 [(.v 3),(.v 5),(.v 6),(.call 12 [(.v 6)])]] :: .ret (.v 5)::[]) [aa<|spV p n,aa<|ZK P,aa<|Zb r,ae,ae,ae,ae] [] s=_;rw[Zi<|Xu (p:=p) (n:=n) _ _ (by simp[pvE])<|by simp]
 rw[Zi (ρ':=[aa<|spV p n,aa<|ZK P,aa<|Zb r,aa<|.int p,aa<|.int n,aa<|Zb r,ae]) (os':=[]) (s':=s)<|by simp[pvE]]
 obtain⟨o',hI,e⟩:=xJ (C:=CV<|d+2) (ms:=[]) (t:=[6]) (it:=.of<|.v 1) (b:=[.asg [5]<|.call 11 [(.v 3),(.v 5),(.v 6),(.call 12 [(.v 6)])]]) (L:=P) (e:=Zb) (step:=λst o=>clr p st o<|(hdI o).getD 0) (O:=λst o=>[aa<|spV p n,aa<|ZK P,aa<|Zb r,aa<|.int p,aa<|.int n,aa<|Zb st,o]) (os:=[]) (s:=s) (Zd p n) (by simp[pvE,ZK]) hr rfl (λx hx st o hst=>by
  have hx':=hP.row x hx;obtain⟨k,hk,hkn,_⟩:=hP.head fld.one0 hx;refine#[Zk hst hx',rfl,_,aa<|Zb x,rfl,?_];have e1:=zr (d+1) x s;have e2:=G9 d s hn hst hx' hkn;rw[hk]at e1;simp only[vd]at e1;have e3:=e1;simp[pvE,e3,e2,hk])
 rw[Zi e];exact Zy<|ZS<|by simp[pvE,Ze]
theorem dsum{P:List Row}(hP:pZ p n P):P.length<=n:=by
 have:=yD fld hP.pn;rw[QA]at this;lia
theorem jc(d:Nat){P:List Row}{r:Row}(s:DS)(hn:n<=6)(hP:pZ p n P)(hr:Zd p n r):CV (d+4) 16 [spV p n,ZK P,Zb r] s=.ok (ZK<|Xd p P r) s:=by
 refine ZF (fn:=V1) rfl (by decide) rfl ?_
 show rvs (CV<|d+3) [] (.asg [3,4] (.v 0) :: .asg [5] (.call 13 [(.v 0),(.v 1),(.v 2)]) :: .asg [6] (.call 12 [(.v 5)]) :: .ite (.cmp .is (.v 6)<|.c .non) [.ret<|.v 1] [] ::
  .asg [7] (.call 14 [(.v 3),(.v 5),(.call 15 [(.v 3),(.ix (.v 5)<|.v 6)])]) :: .asg [8] (.comp1 [3,7,6] 1 [0] (.of<|.v 1) []<|.call 11 [(.v 1),(.v 0),(.v 2),(.v 3)]) ::
  .ret (.blt .tuple [(.blt .sortedR [(.bin .add (.v 8)<|.lst [(.v 7)])])])::[]) [aa<|spV p n,aa<|ZK P,aa<|Zb r,ae,ae,ae,ae,ae,ae] [] s=_
 obtain⟨l1,l2⟩:=WN hP.row hP.pn.rf hr;have hw:=(XE hP hr).1;rw[Zi<|Xu (p:=p) (n:=n) _ _ (by simp[pvE])<|by simp]
 have e1:=yR d s hn hP hr;rw[Zi (ρ':=[aa<|spV p n,aa<|ZK P,aa<|Zb r,aa<|.int p,aa<|.int n,aa<|Zb<|Ze p P r,ae,ae,ae]) (os':=[]) (s':=s)<|by simp[pvE,e1]]
 have e2:=zr (d+2) (Ze p P r) s;rw[Zi (ρ':=[aa<|spV p n,aa<|ZK P,aa<|Zb r,aa<|.int p,aa<|.int n,aa<|Zb<|Ze p P r,aa<|vd<|hdI<|Ze p P r,ae,ae]) (os':=[]) (s':=s)<|by simp[pvE,e2]]
 cases q:hdI (Ze p P r)with
 |none=>
  refine Zy ?_;have:Xd p P r=P:=by unfold Xd;rw[q]
  simp[pvE,vd,this]
 |some h=>
  obtain⟨h1,h2,h3⟩:=Yf q;rw[l1.1]at h2;have hg:=XB ppos l1 h;have hp:=VD (p:=p);have hwid:Xd p P r=(Zg<|P.map (λo=>clr p o (lead p (Ze p P r) h) h)++[lead p (Ze p P r) h]).reverse:=by unfold Xd;rw[q]
  rw[Zi (ρ':=[aa<|spV p n,aa<|ZK P,aa<|Zb r,aa<|.int p,aa<|.int n,aa<|Zb<|Ze p P r,aa<|.int h,ae,ae]) (os':=[]) (s':=s)<|by simp[pvE,vd]]
  have e3:=u6 (p:=p) (d+2) (a:=gt (Ze p P r) h) s #[by lia,hg.2]
  have hi:-1000<VC p (gt (Ze p P r) h)/\VC p (gt (Ze p P r) h)<1000:=by
   unfold VC
   repeat' split
   all_goals lia
  have e4:=Zcr (p:=p) (d+2) s hn l1 hi;have e5:=Gg (r:=Ze p P r) (k:=h) (by rw[l1.1];exact h2)
  have hl:Zd p n (lead p (Ze p P r) h):=UB l1;rw[Zi (ρ':=[aa<|spV p n,aa<|ZK P,aa<|Zb r,aa<|.int p,aa<|.int n,aa<|Zb<|Ze p P r,aa<|.int h,aa<|Zb<|lead p (Ze p P r) h,ae]) (os':=[]) (s':=s) (by
   have e6:pv (CV<|d+3) (.call 14 [(.v 3),(.v 5),(.call 15 [(.v 3),(.ix (.v 5)<|.v 6)])]) [aa<|spV p n,aa<|ZK P,aa<|Zb r,aa<|.int p,aa<|.int n,aa<|Zb<|Ze p P r,aa<|.int h,ae,ae] s=.ok (Zb<|lead p (Ze p P r) h) s:=by
    refine ZP (vs:=[.int p,Zb<|Ze p P r,.int<|VC p<|gt (Ze p P r) h]) (s1:=s) ?_ e4;have e7:pv (CV<|d+3) (.call 15 [(.v 3),(.ix (.v 5)<|.v 6)]) [aa<|spV p n,aa<|ZK P,aa<|Zb r,aa<|.int p,aa<|.int n,aa<|Zb<|Ze p P r,aa<|.int h,ae,ae] s=.ok (.int<|VC p<|gt (Ze p P r) h) s:=by
     refine ZP (vs:=[.int p,.int<|gt (Ze p P r) h]) (s1:=s) ?_ e3;simp[pvE,Zb,e5]
    exact Zc (Zm rfl)<|Zc (Zm rfl)<|Zc e7 Zj
   rw[rv];show(pv _ _ _ _).bind _=_;rw[e6];rfl)]
  have hc:=ZW (C:=CV<|d+3) (cap:=[3,7,6]) (nl:=1) (t:=[0]) (it:=.of<|.v 1) (elt:=.call 11 [(.v 1),(.v 0),(.v 2),(.v 3)]) (O:=[aa<|spV p n,aa<|ZK P,aa<|Zb r,aa<|.int p,aa<|.int n,aa<|Zb<|Ze p P r,aa<|.int h,aa<|Zb<|lead p (Ze p P r) h,ae]) (s:=s) (l:=P) (e:=Zb) (g:=λo=>Zb<|clr p o (lead p (Ze p P r) h) h)
   (by simp[pvE,ZK]) (by have:=dsum hP;unfold lim;lia) (λo ho=>#[_,rfl,by
    have:=G9 (p:=p) (d+1) (h:=h) s hn (hP.row o ho) hl h2;simp[pvE,this]])
  rw[Zi (ρ':=[aa<|spV p n,aa<|ZK P,aa<|Zb r,aa<|.int p,aa<|.int n,aa<|Zb<|Ze p P r,aa<|.int h,aa<|Zb<|lead p (Ze p P r) h,aa<|.lst<|P.map λo=>Zb<|clr p o (lead p (Ze p P r) h) h]) (os':=[]) (s':=s)<|by simp[pvE,hc]]
  refine Zy<|ZS ?_;have ea:(P.map λo=>Zb<|clr p o (lead p (Ze p P r) h) h)++[Zb<|lead p (Ze p P r) h]=((P.map λo=>clr p o (lead p (Ze p P r) h) h)++[lead p (Ze p P r) h]).map Zb:=by rw[bV,cf];rfl
  have hs:ZR ((P.map λo=>clr p o (lead p (Ze p P r) h) h)++[lead p (Ze p P r) h])=aj:=by
   have hlen:((P.map λo=>clr p o (lead p (Ze p P r) h) h)++[lead p (Ze p P r) h]).length=P.length+1:=by simp
   have hnd:((P.map λo=>clr p o (lead p (Ze p P r) h) h)++[lead p (Ze p P r) h]).Nodup:=by
    have h5:=WC hw.falls;rw[hwid]at h5;exact((Sd.Yo _).nodup_iff).mp<|((dz _).nodup_iff).mp h5
   have hd:=dsum hP;unfold ZR;rw[T5 (by rw[hlen];lia),T5 hnd]
   rw[aD];refine#[rfl,bG.mpr λx hx=>?_]
   have:x.length=n:=by
    rcases cg.mp hx with z|z
    .obtain⟨o,ho,rfl⟩:=aT.mp z
     exact(Zk (hP.row o ho) hl).1
    .rw[bm.mp z];exact hl.1
   cases x with|nil=>simp at this;lia|cons _ _=>rfl
  have hlen2:P.length+1<=16777216:=by have:=dsum hP;lia
  simp[pvE,hlen2];rw[ea,Wp];simp[pvE,hs,hwid,ZK,mJ]
def Ve(d:Nat){P R:List Row}{v:V}(s:DS)(hn:n<=6)(hP:pZ p n P)(hR:∀r∈R,Zd p n r)(hv:Yj v=aa (R.map Zb)):CV (d+5) 17 [spV p n,ZK P,v] s=.ok (ZK<|Z0 p P R) s:=by
 refine ZF (fn:=YL) rfl (by decide) rfl ?_
 show rvs (CV<|d+4) [] (.asg [3] (.v 1) :: .forr [4] (.of<|.v 2) [.asg [3]<|.call 16 [(.v 0),(.v 3),(.v 4)]] :: .ret (.v 3)::[]) [aa<|spV p n,aa<|ZK P,aa v,ae,ae] [] s=_;rw[Zi (ρ':=[aa<|spV p n,aa<|ZK P,aa v,aa<|ZK P,ae]) (os':=[]) (s':=s)<|by simp[pvE]]
 obtain⟨o',hI,e⟩:=xJ (C:=CV<|d+4) (ms:=[]) (t:=[4]) (it:=.of<|.v 2) (b:=[.asg [3]<|.call 16 [(.v 0),(.v 3),(.v 4)]]) (L:=R) (e:=Zb) (step:=Xd p) (O:=λst o=>[aa<|spV p n,aa<|ZK P,aa v,aa<|ZK st,o]) (st:=P) (o:=ae) (os:=[]) (s:=s) (pZ p n) (by show pvw (CV<|d+4) (.of<|.v 2) [aa<|spV p n,aa<|ZK P,aa v,aa<|ZK P,ae] s=_;rw[pvw,pv];show po (Yj v) s=_;rw[hv];rfl) hP rfl (λx hx st o hst=>by
  have hx':=hR x hx;refine#[(XE hst hx').1,rfl,_,aa<|Zb x,rfl,?_];have e2:=jc d s hn hst hx';simp[pvE,e2])
 rw[Zi e];exact Zy<|ZS<|by simp[pvE,Z0]
end
end K71
namespace Rw
open La
open Ev (ltI Yy Zg)
end Rw
namespace Rw
open Ev (ltP XC YC)
open La
section
variable{p n:Nat}[Base p]
def GU(hW:pZ p n W)(hr:Zd p n r)(h:∀i,gt r i=0):Y5 p W r=aj:=by
 rw[ZU hW hr];have e:toV p r=λ_=>0:=by funext k;exact(Z9 hr).mpr<|h k
 rw[e];exact X9
def uG(hW:pZ p n W)(hr:r∈W):Y5 p W r=aj:=by
 rw[ZU hW<|hW.row r hr];exact X5 hW.pn.rf<|Yl hr
end
noncomputable def rise(hs:List Nat):Bool:=(hs.zip hs.tail).all λq=>al<|q.1<q.2
theorem Vk:∀{hs:List Nat},rise hs=aj↔hs.Pairwise (· < ·)
 |[]=>by simp[rise]
 |[a]=>by simp[rise]
 |a::b::l=>by
  have ih:=Vk (hs:=b::l);unfold rise at ih ⊢;rw[nA,cy,fY,aD,T0];rw[nA]at ih
  constructor
  .intro#[h1,h2]
   have h3:=ih.mp h2;refine be.mpr #[λx hx=>?_,h3]
   rcases aC.mp hx with rfl|hx
   .exact h1
   .exact cO h1<|(be.mp h3).1 x hx
  .intro h
   obtain⟨h1,h2⟩:=be.mp h;exact#[h1 b<|am ..,ih.mpr h2]
noncomputable def Gx(R:List Row)(i k:Nat):Bool:=al (gt (R.getD i []) k=1)&&(R.take i++R.drop (i+1)).all λr=>al<|gt r k=0
noncomputable def wz(R:List Row):Bool:=(R.all λr=>(hdI r).isSome)&&(rise (Yu R)&&(aU R.length).all λi=>Gx R i<|(Yu R).getD i 0)
section
variable{p n:Nat}[Base p]
def zF{R:List Row}{i:Nat}(hi:i<R.length):R.getD i []=R[i]:=by rw[aO,ag hi];rfl
def JX(hi:i<R.length):(Yu R).getD i 0=(hdI R[i]).getD 0:=by
 unfold Yu;rw[aO,aK,ag hi];rfl
def Zbv{R:List Row}{i j:Nat}(hj:j<R.length)(h:j≠i):R[j]∈R.take i++R.drop (i+1):=by
 by_cases c:j<i
 .refine dr _ ?_
  have hl:j<(R.take i).length:=by rw[bw];omega
  rw[<-eN];exact aV hl
 .refine bx _ ?_
  have hl:j-(i+1)<(R.drop<|i+1).length:=by rw[bK];omega
  have e:(R.drop<|i+1)[j-(i+1)]=R[j]:=by rw[eO];congr 1;omega
  rw[<-e];exact aV hl
def yu{R:List Row}{i:Nat}{r:Row}(h:r∈R.take i++R.drop (i+1)):∃j,∃(hj:j<R.length),j≠i/\R[j]=r:=by
 rcases cg.mp h with z|z
 .obtain⟨j,hj,e⟩:=b8 z
  rw[bw]at hj;exact#[j,by omega,by omega,by rw[<-e,eN]]
 .obtain⟨j,hj,e⟩:=b8 z
  rw[bK]at hj;exact#[i+1+j,by omega,by omega,by rw[<-e,eO]]
def Qa:ph p 1=1:=by
 rcases(inferInstance:Base p).b with e|e|e<;>subst e<;>rfl
def Qp(hr:Zd p n r):toV p r k=1↔gt r k=1:=by
 have hb:=(inferInstance:Base p).b
 constructor
 .intro h
  refine Gs (XB ppos hr k) #[by omega,by omega] ?_
  rw[Qa];exact h
 .intro h
  unfold toV;rw[h,Qa]
def yh{R:List Row}(hR:∀r∈R,Zd p n r):wz R=aj↔pZ p n R:=by
 unfold wz;simp only[aD,bG,bj]
 constructor
 .intro#[h1,h2,h3]
  have hd:∀i (hi:i<R.length),∃k,hdI R[i]=aa k/\gt R[i] k=1/\∀j (hj:j<R.length),j≠i->gt R[j] k=0:=λi hi=>by
   obtain⟨k,hk⟩:=dm.mp<|h1 _<|aV hi;have a:=h3 i hi;unfold Gx at a;rw[JX hi,zF hi,hk,aD,T0,bG]at a;exact#[k,hk,a.1,λj hj ne=>T6<|a.2 _<|Zbv hj ne]
  have inc:=Vk.mp h2;have memP:∀a∈toP p R,∃i,∃(hi:i<R.length),a=((hdI R[i]).getD 0,toV p R[i]):=λa ha=>by
   obtain⟨r,hr,rfl⟩:=aT.mp ha;obtain⟨i,hi,rfl⟩:=b8 hr;exact#[i,hi,rfl]
  refine#[hR,#[#[?_,λa ha j hj=>?_,λa ha=>?_,λa ha b hb ne=>?_],λa ha=>?_,λa ha=>?_]]
  .rw[<-Wq (p:=p)]at inc
   exact cS.mp inc
  .obtain⟨i,hi,rfl⟩:=memP a ha
   obtain⟨k,hk,_,_⟩:=hd i hi;rw[hk]at hj;exact(Z9<|hR _<|aV hi).mpr<|(Yf hk).2.2 j hj
  .obtain⟨i,hi,rfl⟩:=memP a ha
   obtain⟨k,hk,h,_⟩:=hd i hi;rw[hk];exact(Qp<|hR _<|aV hi).mpr h
  .obtain⟨i,hi,rfl⟩:=memP a ha
   obtain⟨j,hj,rfl⟩:=memP b hb;obtain⟨k,hk,_,h⟩:=hd i hi;rw[hk];refine(Z9<|hR _<|aV hj).mpr<|h j hj λe=>?_
   subst e;exact ne rfl
  .obtain⟨i,hi,rfl⟩:=memP a ha
   obtain⟨k,hk,_,_⟩:=hd i hi;rw[hk,<-(hR _<|aV hi).1];exact(Yf hk).2.1
  .obtain⟨i,hi,rfl⟩:=memP a ha
   exact Xk<|hR _<|aV hi
 .intro hP
  have hk:∀r∈R,∃k,hdI r=aa k/\k<n/\toV p r k=1:=λr hr=>hP.head fld.one0 hr
  refine#[λr hr=>?_,Vk.mpr ?_,λi hi=>?_]
  .obtain⟨k,e,_⟩:=hk r hr
   rw[e];rfl
  .rw[<-Wq (p:=p)];exact hP.pn.rf.heads
  .obtain⟨k,e,_,h1⟩:=hk _ (aV hi)
   unfold Gx;rw[JX hi,zF hi,e,aD,T0,bG];refine#[(Qp<|hR _<|aV hi).mp h1,λr hr=>?_]
   obtain⟨j,hj,ne,rfl⟩:=yu hr;refine T5 ?_;obtain⟨k2,e2,_,_⟩:=hk _<|aV hj;have hh:((hdI R[i]).getD 0,toV p R[i]).1≠((hdI R[j]).getD 0,toV p R[j]).1:=by
    have inc:(Yu R).Pairwise (· < ·):=by rw[<-Wq (p:=p)];exact hP.pn.rf.heads
    have pw:=bT.mp inc;have li:(Yu R).length=R.length:=by unfold Yu;rw[ay]
    have gi:∀m (hm:m<R.length),(Yu R)[m]'(by omega)=(hdI R[m]).getD 0:=λm hm=>by unfold Yu;rw[List.getElem_map]
    intro z;have z:=z;rcases Nat.lt_or_gt_of_ne ne with c|c
    .have:=pw j i (by omega) (by omega) c
     rw[gi j hj,gi i hi]at this;omega
    .have:=pw i j (by omega) (by omega) c
     rw[gi j hj,gi i hi]at this;omega
   have:=hP.pn.rf.zer _ (Yl<|aV hi) _ (Yl<|aV hj) hh;rw[e]at this;exact(Z9<|hR _<|aV hj).mp this
end
end Rw
namespace Ab
open Ev Pv
mutual
noncomputable def okV:V->Bool
 |.tup xs=>XU xs
 |.lst xs=>XU xs
 |.drw=>ai
 |.scr _=>ai
 |.dct (aa _)=>ai
 |.dow _=>ai
 |_=>aj
noncomputable def XU:List V->Bool
 |[]=>aj
 |x::xs=>okV x&&XU xs
end
def oks{xs:List V}(h:∀x∈xs,okV x=aj):XU xs=aj:=by
 induction xs with|nil=>rfl|cons x xs ih=>rw[XU,h x<|am ..,ih λy hy=>h y<|ak _ hy];rfl
inductive T where
 |th (m:Nat)|int (lo hi:Int)|two (a b:Int)|tup (lo hi:Nat) (t:T)|lst (lo hi:Nat) (t:T)|idx (i:Nat)|drw
def Th(m:Nat)(x:V):Prop:=okV x=aj/\∀xs,x=.tup xs->xs.length<=m
def Has:T->V->Prop
 |.th m,v=>Th m v
 |.int lo hi,v=>∃i,v=.int i/\lo<=i/\i<=hi
 |.two a b,v=>v=.tup [.int a,.int b]
 |.tup lo hi t,v=>∃xs,v=.tup xs/\lo<=xs.length/\xs.length<=hi/\∀x∈xs,Has t x
 |.lst lo hi t,v=>∃xs,v=.lst xs/\lo<=xs.length/\xs.length<=hi/\∀x∈xs,Has t x
 |.idx _,_=>False
 |.drw,v=>v=.drw
noncomputable def JY:T->Option Nat
 |.th m=>aa m
 |.int _ _=>aa 0
 |.two _ _=>aa 2
 |.tup _ hi t=>(JY t).map λ_=>hi
 |.lst _ _ t=>(JY t).map λ_=>0
 |_=>ae
theorem Xz:∀{t:T}{m:Nat}{v:V},JY t=aa m->Has t v->Th m v
 |.th m,_,v,h,hv=>by cases h;exact hv
 |.int _ _,_,v,h,#[i,e,_]=>by subst e;exact#[rfl,nofun]
 |.two _ _,_,v,h,e=>by cases h;cases e;exact#[rfl,λxs z=>by cases z;exact az _]
 |.tup _ hi t,m,v,h,#[xs,e,_,h2,h3]=>by
  obtain⟨k,hk,rfl⟩:=aR.mp h;subst e;exact#[oks λx hx=>(Xz hk<|h3 x hx).1,λys z=>by cases z;exact h2]
 |.lst _ _ t,m,v,h,#[xs,e,_,_,h3]=>by
  obtain⟨k,hk,rfl⟩:=aR.mp h;subst e;exact#[oks λx hx=>(Xz hk<|h3 x hx).1,nofun]
noncomputable def join:T->T->Option T
 |.int a b,.int c d=>aa<|.int (nI a c)<|max b d
 |.tup a b t,.tup c d u=>(join t u).map<|.tup (nI a c)<|max b d
 |a,b=>(JY a).bind λm=>(JY b).map λk=>.th<|max m k
def Th.le{m k:Nat}{v:V}(h:Th m v)(hk:m<=k):Th k v:=#[h.1,λxs e=>b0 (h.2 xs e) hk]
def Xw:∀{a b c:T},join a b=aa c->∀v,(Has a v\/Has b v)->Has c v:=by
 intro a
 induction a with
 |int x y=>
  intro b c h v hv;cases b with
  |int z w=>
   cases h;rcases hv with⟨i,e,h1,h2⟩|⟨i,e,h1,h2⟩
   .exact#[i,e,by omega,by omega]
   .exact#[i,e,by omega,by omega]
  |_=>
   obtain⟨m,hm,h⟩:=aB.mp h;obtain⟨k,hk,rfl⟩:=aR.mp h;rcases hv with hv|hv
   .exact(Xz hm hv).le<|kr ..
   .exact(Xz hk hv).le<|iT ..
 |tup x y t ih=>
  intro b c h v hv;cases b with
  |tup z w u=>
   obtain⟨r,hr,rfl⟩:=aR.mp h;rcases hv with⟨xs,e,h1,h2,h3⟩|⟨xs,e,h1,h2,h3⟩
   .exact#[xs,e,by omega,by omega,λq hq=>ih hr q<|.inl<|h3 q hq]
   .exact#[xs,e,by omega,by omega,λq hq=>ih hr q<|.inr<|h3 q hq]
  |_=>
   obtain⟨m,hm,h⟩:=aB.mp h;obtain⟨k,hk,rfl⟩:=aR.mp h;rcases hv with hv|hv
   .exact(Xz hm hv).le<|kr ..
   .exact(Xz hk hv).le<|iT ..
 |_=>
  intro b c h v hv;obtain⟨m,hm,h⟩:=aB.mp h;obtain⟨k,hk,rfl⟩:=aR.mp h;rcases hv with hv|hv
  .exact(Xz hm hv).le<|kr ..
  .exact(Xz hk hv).le<|iT ..
noncomputable def QV:List T->Option T
 |[]=>aa<|.th 0
 |[t]=>aa t
 |t::ts=>(QV ts).bind<|join t
theorem Q2:∀{ts:List T}{c:T},QV ts=aa c->∀t∈ts,∀v,Has t v->Has c v
 |[t],c,h,u,hu,v,hv=>by cases h;rw[bm.mp hu]at hv;exact hv
 |t::w::ts,c,h,u,hu,v,hv=>by
  obtain⟨r,hr,h⟩:=aB.mp h;rcases aC.mp hu with rfl|hu
  .exact Xw h v<|.inl hv
  .exact Xw h v<|.inr<|Q2 hr u hu v hv
abbrev Cx:=List<|Option T
abbrev Sg:=Nat->List T->Option T
noncomputable def wk(Γ:Cx)(t:T):Option T:=match t with
 |.idx i=>match(Γ[i]?).join with
  |some (.tup _ hi _)=>aa<|.int 0<|(hi:Int)-1
  |_=>ae
 |t=>aa t
noncomputable def GE(op:Bop)(x y:T):Option T:=match op,x,y with
 |.add,.int a b,.int c d=>aa<|.int (a+c)<|b+d
 |.sub,.int a b,.int c d=>aa<|.int (a-d)<|b-c
 |.add,.tup a b t,.tup c d u=>if b+d<=5000 then(join t u).map (.tup (a+c)<|b+d)else ae
 |.add,.lst a b t,.lst c d u=>if b+d<=5000 then(join t u).map (.lst (a+c)<|b+d)else ae
 |.mul,.tup 1 1 t,.int c d=>if 0<=c/\d<1000 then aa (.tup c.toNat d.toNat t)else ae
 |.mul,.int a b,.int c d=>if 0<=a/\0<=c/\b<100000/\d<100000 then aa (.int 0<|b*d)else ae
 |.mod,.int _ _,.int c d=>if 0<c then aa (.int 0<|d-1)else ae
 |.pow,.int a b,.int c d=>if a=b/\c=d/\0<=c/\c<=1000/\a.natAbs<2^64 then aa (.int (a^c.toNat)<|a^c.toNat)else ae
 |_,_,_=>ae
noncomputable def ixT(x y:T):Option T:=match x,y with
 |.two a b,.int c d=>if c=0/\d=0 then aa (.int a a)else if c=1/\d=1 then aa (.int b b)else ae
 |.tup lo _ t,.int c d=>if(0<=c/\d<lo)\/(c = -1/\d = -1/\1<=lo)then aa t else ae
 |.lst lo _ t,.int c d=>if(0<=c/\d<lo)\/(c = -1/\d = -1/\1<=lo)then aa t else ae
 |_,_=>ae
noncomputable def ZbZ(e:E)(i:Nat):Bool:=match e with
 |.v j=>al<|j=i
 |_=>ai
noncomputable def isInt:T->Bool
 |.int _ _=>aj
 |.idx _=>aj
 |_=>ai
noncomputable def ixA(a:E)(x y:T):Option T:=match y with
 |.idx k=>match x with
  |.tup _ _ t=>if ZbZ a k=aj then aa t else ae
  |_=>ae
 |y=>ixT x y
noncomputable def GV:List E->Option Nat
 |[.v _,.blt .len [.v i]]=>aa i
 |_=>ae
noncomputable def v6(Γ:Cx)(as:List E)(ts:List T):Option T:=match ts with
 |[.drw,.int lo hi]=>if 0<lo/\hi<1000000 then match(GV as).bind λi=>(Γ[i]?).join.bind λt=>match t with|.tup _ _ _=>aa i|_=>ae with
  |some i=>aa<|.idx i
  |none=>aa<|.int 0<|hi-1
  else ae
 |_=>ae
noncomputable def Zb0(f:Bf)(ts:List T):Option T:=match f,ts with
 |.len,[.tup lo hi _]=>aa<|.int lo hi
 |.len,[.lst lo hi _]=>aa<|.int lo hi
 |.tuple,[.lst lo hi t]=>aa<|.tup lo hi t
 |.list,[.tup lo hi t]=>aa<|.lst lo hi t
 |_,_=>ae
noncomputable def slT:T->Option T
 |.tup _ m t=>aa<|.tup 0 m t
 |_=>ae
noncomputable def GJ(Γ:Cx)(i:Nat):Option T:=((Γ[i]?).join).filter λt=>match t with|.idx _=>ai|_=>aj
noncomputable def Zbm(lo hi:Nat):T->Option T
 |.idx _=>ae
 |r=>aa<|.lst lo hi r
mutual
noncomputable def ty(tk:Nat)(Φ:Sg)(Γ:Cx):E->Option T
 |.c d=>match d with
  |.int i=>aa<|.int i i
  |.non=>aa<|.th 0
  |.bl _=>aa<|.th 0
  |.str _=>aa<|.th 0
  |_=>ae
 |.v i=>(Γ[i]?).join
 |.tup es=>(tys tk Φ Γ es).bind λts=>if ts.length<=1000 then(QV ts).map (.tup ts.length ts.length)else ae
 |.lst es=>(tys tk Φ Γ es).bind λts=>if ts.length<=1000 then(QV ts).map (.lst ts.length ts.length)else ae
 |.dnew=>aa<|.th 0
 |.bin op a b=>(ty tk Φ Γ a).bind λx=>(ty tk Φ Γ b).bind λy=>(wk Γ x).bind λx=>(wk Γ y).bind λy=>GE op x y
 |.neg a=>(ty tk Φ Γ a).bind λx=>match x with
  |.int lo hi=>aa<|.int (-hi)<|-lo
  |_=>ae
 |.ix a i=>(ty tk Φ Γ a).bind λx=>(ty tk Φ Γ i).bind λy=>ixA a x y
 |.sl a lo hi=>(ty tk Φ Γ a).bind λx=>if(tyo tk Φ Γ lo&&tyo tk Φ Γ hi)=aj then slT x else ae
 |.rev a=>(ty tk Φ Γ a).bind λx=>match x with
  |.tup lo hi t=>aa<|.tup lo hi t
  |_=>ae
 |.call f as=>(tys tk Φ Γ as).bind λts=>if f=tk then v6 Γ as ts else Φ f ts
 |.blt f as=>(tys tk Φ Γ as).bind λts=>Zb0 f ts
 |.comp1 cap nl t it ifs elt=>if nl=1/\t=[0]/\ifs.isEmpty=aj then(tyw tk Φ Γ it).bind λx=>match x with
   |.tup lo hi u=>if hi<=1000 then(ty tk Φ (aa u::cap.map (GJ Γ)) elt).bind (Zbm lo hi)else ae
   |_=>ae
  else ae
 |_=>ae
noncomputable def tys(tk:Nat)(Φ:Sg)(Γ:Cx):List E->Option (List T)
 |[]=>aa []
 |e::es=>(ty tk Φ Γ e).bind λt=>(wk Γ t).bind λt=>(tys tk Φ Γ es).map λts=>t::ts
noncomputable def tyo(tk:Nat)(Φ:Sg)(Γ:Cx):Option E->Bool
 |none=>aj
 |some e=>match ty tk Φ Γ e with
  |some t=>isInt t
  |none=>ai
noncomputable def tyw(tk:Nat)(Φ:Sg)(Γ:Cx):W->Option T
 |.of e=>ty tk Φ Γ e
 |_=>ae
end
def Hs(O:Env)(t:T)(v:V):Prop:=match t with
 |.idx i=>∃j xs,v=.int j/\O[i]?=aa (aa<|.tup xs)/\0<=j/\j<(xs.length:Int)
 |t=>Has t v
def Z3(Γ:Cx)(O:Env):Prop:=∀(i:Nat)(t:T),(Γ[i]?).join=aa t->∃v,O[i]?=aa (aa v)/\Hs O t v
def Al:List T->List V->Prop
 |[],vs=>vs=[]
 |t::ts,vs=>∃v ws,vs=v::ws/\Has t v/\Al ts ws
def Wg{O:Env}{t:T}{v:V}(h:Has t v):Hs O t v:=by
 cases t with|idx _=>exact h.elim|_=>exact h
def G5{Γ:Cx}{O:Env}{t u:T}{v:V}(he:Z3 Γ O)(hv:Hs O t v)(h:wk Γ t=aa u):Has u v:=by
 cases t with
 |idx i=>
  obtain⟨j,xs,rfl,hx,h0,h1⟩:=hv;cases e:(Γ[i]?).join with
  |none=>simp[wk,e]at h
  |some w=>
   cases w with
   |tup lo hi t=>
    simp[wk,e]at h;subst h;obtain⟨v,hv,xs',rfl,_,h2,_⟩:=he i _ e;rw[hx]at hv;cases hv;exact#[j,rfl,h0,by omega]
   |_=>simp[wk,e]at h
 |_=>cases h;exact hv
def Al.get{ts:List T}{vs:List V}(h:Al ts vs):vs.length=ts.length/\∀c,QV ts=aa c->∀v∈vs,Has c v:=by
 have len:∀{ts:List T}{vs:List V},Al ts vs->vs.length=ts.length/\∀v∈vs,∃t∈ts,Has t v:=by
  intro ts
  induction ts with
  |nil=>intro vs h;cases h;exact#[rfl,nofun]
  |cons t ts ih=>
   rintro vs ⟨v,ws,rfl,h1,h2⟩
   obtain⟨l,k⟩:=ih h2;refine#[by rw[aL,aL,l],λw hw=>?_]
   rcases aC.mp hw with rfl|hw
   .exact#[t,am ..,h1]
   .obtain⟨u,hu,h⟩:=k w hw
    exact#[u,ak _ hu,h]
 obtain⟨l,k⟩:=len h;exact#[l,λc hc v hv=>by obtain⟨t,ht,h⟩:=k v hv;exact Q2 hc t ht v h]
def UT{op:Bop}{x y t:T}{v w:V}(hx:Has x v)(hy:Has y w)(h:GE op x y=aa t)(s:DS):∃z,Yz op v w s=.ok z s/\Has t z:=by
 unfold GE at h;split at h
 .cases h
  obtain⟨i,rfl,_,_⟩:=hx;obtain⟨j,rfl,_,_⟩:=hy;exact#[_,rfl,_,rfl,by omega,by omega]
 .cases h
  obtain⟨i,rfl,_,_⟩:=hx;obtain⟨j,rfl,_,_⟩:=hy;exact#[_,rfl,_,rfl,by omega,by omega]
 .split at h
  .obtain⟨r,hr,rfl⟩:=aR.mp h
   obtain⟨xs,rfl,h1,h2,h3⟩:=hx;obtain⟨ys,rfl,g1,g2,g3⟩:=hy;refine#[.tup<|xs++ys,?_,_,rfl,by rw[aW];omega,by rw[aW];omega,λq hq=>?_]
   .show(if xs.length+ys.length<=lim then _ else _)=_
    rw[T9<|by unfold lim;omega]
   .rcases cg.mp hq with hq|hq
    .exact Xw hr q<|.inl<|h3 q hq
    .exact Xw hr q<|.inr<|g3 q hq
  .cases h
 .split at h
  .obtain⟨r,hr,rfl⟩:=aR.mp h
   obtain⟨xs,rfl,h1,h2,h3⟩:=hx;obtain⟨ys,rfl,g1,g2,g3⟩:=hy;refine#[.lst<|xs++ys,?_,_,rfl,by rw[aW];omega,by rw[aW];omega,λq hq=>?_]
   .show(if xs.length+ys.length<=lim then _ else _)=_
    rw[T9<|by unfold lim;omega]
   .rcases cg.mp hq with hq|hq
    .exact Xw hr q<|.inl<|h3 q hq
    .exact Xw hr q<|.inr<|g3 q hq
  .cases h
 .split at h
  .next c=>
   cases h;obtain⟨xs,rfl,h1,h2,h3⟩:=hx;obtain⟨j,rfl,g1,g2⟩:=hy;obtain⟨x,rfl⟩:=List.length_eq_one_iff.mp (show xs.length=1 by omega)
   refine#[.tup (aA j.toNat [x]).flatten,?_,_,rfl,by simp;omega,by simp;omega,λq hq=>h3 q<|by simpa using(List.mem_flatten.mp hq).elim λl hl=>by rw[iF hl.1]at hl;simpa using hl.2]
   show(if 0<=j/\j<1000/\1<=1000 then _ else _)=_
   rw[T9 #[by omega,by omega,by omega]]
  .cases h
 .split at h
  .next c=>
   cases h;obtain⟨i,rfl,h1,h2⟩:=hx;obtain⟨j,rfl,g1,g2⟩:=hy;refine#[.int<|i*j,?_,_,rfl,Int.mul_nonneg (by omega) (by omega),nr h2 g2 (by omega)<|by omega]
   show(if(fits i&&fits j)=aj then _ else _)=_
   rw[ZN (by omega) (by omega),ZN (by omega) (by omega),T9<|by rfl]
  .cases h
 .split at h
  .next c=>
   cases h;obtain⟨i,rfl,h1,h2⟩:=hx;obtain⟨j,rfl,g1,g2⟩:=hy;have p1:=eI i (show j≠0 by omega)
   have p2:=dP i (show 0<j by omega)
   refine#[.int<|i%j,?_,_,rfl,p1,by omega]
   show(if 0<j then _ else _)=_
   rw[T9<|by omega]
  .cases h
 .split at h
  .next c=>
   cases h;obtain⟨c1,c2,c3,c4,c5⟩:=c;obtain⟨i,rfl,h1,h2⟩:=hx;obtain⟨j,rfl,g1,g2⟩:=hy;obtain rfl:i=_:=m3 (c1▸h2) h1;obtain rfl:j=_:=m3 (c2▸g2) g1;refine#[.int<|i^j.toNat,?_,_,rfl,by omega,by omega]
   show(if 0<=j/\j<=1000/\i.natAbs<2^64 then _ else _)=_
   rw[T9 #[c3,c4,c5]]
  .cases h
 .cases h
def vx{xs:List V}{j:Int}{lo:Nat}{c d:Int}(h:(0<=c/\d<lo)\/(c = -1/\d = -1/\1<=lo))(hl:lo<=xs.length)(h1:c<=j)(h2:j<=d):∃x∈xs,at' xs j=aa x:=by
 unfold at' ixN;by_cases z:0<=j
 .rw[T9 z,T9<|by omega]
  have hk:j.toNat<xs.length:=by omega
  exact#[xs[j.toNat],aV hk,ag hk]
 .rw[T8 z,T9<|by omega]
  have hk:(j+xs.length).toNat<xs.length:=by omega
  exact#[xs[(j+xs.length).toNat],aV hk,ag hk]
def ZcB{x y t:T}{v w:V}(hx:Has x v)(hy:Has y w)(h:ixT x y=aa t):∃z,ixV v w=aa z/\Has t z:=by
 unfold ixT at h;split at h
 .obtain⟨j,rfl,g1,g2⟩:=hy
  cases hx;split at h
  .next c=>
   cases h;obtain rfl:j=0:=by omega
   exact#[_,rfl,_,rfl,eW _,eW _]
  .split at h
   .next c=>
    cases h;obtain rfl:j=1:=by omega
    exact#[_,rfl,_,rfl,eW _,eW _]
   .cases h
 .split at h
  .next c=>
   cases h;obtain⟨xs,rfl,h1,h2,h3⟩:=hx;obtain⟨j,rfl,g1,g2⟩:=hy;obtain⟨z,hz,e⟩:=vx c h1 g1 g2;exact#[z,e,h3 z hz]
  .cases h
 .split at h
  .next c=>
   cases h;obtain⟨xs,rfl,h1,h2,h3⟩:=hx;obtain⟨j,rfl,g1,g2⟩:=hy;obtain⟨z,hz,e⟩:=vx c h1 g1 g2;exact#[z,e,h3 z hz]
  .cases h
 .cases h
def uN{xs:List V}{lo hi:Option Int}:(Xe xs lo hi).length<=xs.length/\∀x∈Xe xs lo hi,x∈xs:=by
 unfold Xe;exact#[by rw[bw,bK];omega,λx hx=>bP<|cI hx]
theorem Jf{f:V->DS->PR (List V)}{Q R:V->Prop}(h:∀x s,Q x->∃y s',f x s=.ok [y] s'/\R y):∀(l:List V)(s:DS),(∀x∈l,Q x)->∃ys s',mapP f l s=.ok ys s'/\ys.length=l.length/\∀y∈ys,R y
 |[],s,_=>#[[],s,rfl,rfl,nofun]
 |x::l,s,hl=>by
  obtain⟨y,s1,e1,q1⟩:=h x s<|hl x<|am ..;obtain⟨ys,s2,e2,l2,q2⟩:=Jf h l s1 λz hz=>hl z<|ak _ hz
  refine#[y::ys,s2,?_,by rw[aL,aL,l2],λz hz=>?_]
  .rw[mapP,e1]
   show(match mapP f l s1 with|.ok zs s=>PR.ok ([y]++zs) s|_=>.no)=_
   rw[e2];rfl
  .rcases aC.mp hz with rfl|hz
   .exact q1
   .exact q2 z hz
def ZaP{as:List E}{i:Nat}(h:GV as=aa i):∃d,as=[.v d,.blt .len [.v i]]:=by
 unfold GV at h;split at h
 .cases h;exact#[_,rfl]
 .cases h
def qo{Γ:Cx}{as:List E}{ts:List T}{t:T}(h:v6 Γ as ts=aa t):∃lo hi,ts=[.drw,.int lo hi]/\0<lo/\hi<1000000/\(t=.int 0 (hi-1)\/∃i l m u,t=.idx i/\GV as=aa i/\(Γ[i]?).join=aa (.tup l m u)):=by
 unfold v6 at h;split at h
 .next lo hi=>
  split at h
  .next c=>
   refine#[lo,hi,rfl,c.1,c.2,?_];split at h
   .next i hi=>
    cases h;obtain⟨k,hk,hi⟩:=aB.mp hi;obtain⟨w,hw,hi⟩:=aB.mp hi;cases w with|tup l m u=>cases hi;exact .inr #[_,l,m,u,rfl,hk,hw]|_=>cases hi
   .cases h;exact .inl rfl
  .cases h
 .cases h
section
variable{tk:Nat}{Φ:Sg}{C:Zt}
structure Fine(tk:Nat)(Φ:Sg)(C:Zt):Prop where
 take:∀(m:Int) s,0<m->m<1073741824->∃v s',C tk [.drw,.int m] s=.ok (.int v) s'/\0<=v/\v<m
 call:∀f ts t,f≠tk->Φ f ts=aa t->∀vs s,Al ts vs->∃v s',C f vs s=.ok v s'/\Has t v
variable(F:Fine tk Φ C)
include F
mutual
theorem Yr:∀(e:E){Γ:Cx}{O:Env}{t:T}(s:DS),Z3 Γ O->ty tk Φ Γ e=aa t->∃v s',pv C e O s=.ok v s'/\Hs O t v
 |.c d,Γ,O,t,s,he,h=>by
  rw[pv];cases d with|int i=>rw[ty]at h;cases h;exact#[.int i,s,rfl,i,rfl,eW _,eW _]|non=>rw[ty]at h;cases h;exact#[.non,s,rfl,rfl,nofun]|bl b=>rw[ty]at h;cases h;exact#[.bl b,s,rfl,rfl,nofun]|str x=>rw[ty]at h;cases h;exact#[.str x,s,rfl,rfl,nofun]|_=>simp[ty]at h
 |.v i,Γ,O,t,s,he,h=>by
  rw[ty]at h;obtain⟨v,hv,hh⟩:=he i t h;exact#[v,s,Zm hv,hh]
 |.tup es,Γ,O,t,s,he,h=>by
  rw[ty]at h;obtain⟨ts,ht,h⟩:=aB.mp h;obtain⟨vs,s',e,ha⟩:=YT es s he ht;split at h
  .next c=>
   obtain⟨u,hu,rfl⟩:=aR.mp h;obtain⟨l,k⟩:=ha.get;refine#[.tup vs,s',?_,vs,rfl,by omega,by omega,k u hu]
   rw[pv,e,Za,T9<|by unfold lim;omega]
  .cases h
 |.lst es,Γ,O,t,s,he,h=>by
  rw[ty]at h;obtain⟨ts,ht,h⟩:=aB.mp h;obtain⟨vs,s',e,ha⟩:=YT es s he ht;split at h
  .next c=>
   obtain⟨u,hu,rfl⟩:=aR.mp h;obtain⟨l,k⟩:=ha.get;refine#[.lst vs,s',?_,vs,rfl,by omega,by omega,k u hu]
   rw[pv,e,Za,T9<|by unfold lim;omega]
  .cases h
 |.dnew,Γ,O,t,s,he,h=>by
  rw[ty]at h;cases h;exact#[.dct ae,s,by rw[pv],rfl,nofun]
 |.bin op a b,Γ,O,t,s,he,h=>by
  rw[ty]at h;obtain⟨x,hx,h⟩:=aB.mp h;obtain⟨y,hy,h⟩:=aB.mp h;obtain⟨x',hx',h⟩:=aB.mp h;obtain⟨y',hy',h⟩:=aB.mp h;obtain⟨v,s1,e1,h1⟩:=Yr a s he hx;obtain⟨w,s2,e2,h2⟩:=Yr b s1 he hy;obtain⟨z,e3,h3⟩:=UT (G5 he h1 hx') (G5 he h2 hy') h s2;exact#[z,s2,by rw[pv,e1,Za,e2,Za,e3],Wg h3]
 |.neg a,Γ,O,t,s,he,h=>by
  rw[ty]at h;obtain⟨x,hx,h⟩:=aB.mp h;obtain⟨v,s1,e1,h1⟩:=Yr a s he hx;cases x with
  |int lo hi=>
   cases h;obtain⟨i,rfl,g1,g2⟩:=h1;exact#[.int<|-i,s1,by rw[pv,e1];rfl,-i,rfl,by omega,by omega]
  |_=>cases h
 |.ix a i,Γ,O,t,s,he,h=>by
  rw[ty]at h;obtain⟨x,hx,h⟩:=aB.mp h;obtain⟨y,hy,h⟩:=aB.mp h;obtain⟨v,s1,e1,h1⟩:=Yr a s he hx;obtain⟨w,s2,e2,h2⟩:=Yr i s1 he hy;have fin:∀z,ixV v w=aa z->pv C (.ix a i) O s=.ok z s2:=λz hz=>by rw[pv,e1,Za,e2,Za,hz];rfl
  have nx:∀c d,y=.int c d->∃v s',pv C (.ix a i) O s=.ok v s'/\Hs O t v:=by
   rintro c d rfl
   have h:ixT x (.int c d)=aa t:=h;have h1':Has x v:=by
    cases x with|idx _=>cases h|_=>exact h1
   obtain⟨z,e,hz⟩:=ZcB h1' h2 h;exact#[z,s2,fin z e,Wg hz]
  cases y with
  |idx k=>
   cases x with
   |tup lo hi u=>
    have h:(if ZbZ a k=aj then aa u else ae)=aa t:=h
    split at h
    .next c=>
     cases h;cases a with
     |v j=>
      obtain rfl:j=k:=T6 c;obtain⟨q,xs,rfl,hq,q0,q1⟩:=h2;rw[Zm hq]at e1;cases e1;obtain⟨ys,ey,_,_,h3⟩:=h1;cases ey;obtain⟨z,hz,e⟩:=vx (xs:=xs) (j:=q) (lo:=xs.length) (c:=0) (d:=q) (.inl #[by omega,q1]) (az _) q0<|eW _
      exact#[z,s2,fin z e,Wg<|h3 z hz]
     |_=>cases c
    .cases h
   |_=>cases h
  |int c d=>exact nx c d rfl
  |_=>cases x<;>cases h
 |.sl a lo hi,Γ,O,t,s,he,h=>by
  rw[ty]at h;obtain⟨x,hx,h⟩:=aB.mp h;obtain⟨v,s1,e1,h1⟩:=Yr a s he hx;split at h
  .next c=>
   obtain⟨c1,c2⟩:=(aD _ _).mp c;obtain⟨o1,s2,e2⟩:=vp lo s1 he c1;obtain⟨o2,s3,e3⟩:=vp hi s2 he c2;cases x with
   |tup l m u=>
    cases h;obtain⟨xs,rfl,g1,g2,g3⟩:=h1;have cm:=uN (xs:=xs) (lo:=o1) (hi:=o2);exact#[.tup<|Xe xs o1 o2,s3,by rw[pv,e1,Za,e2,Za,e3];rfl,_,rfl,cR _,b0 cm.1 g2,λq hq=>g3 q<|cm.2 q hq]
   |_=>cases h
  .cases h
 |.rev a,Γ,O,t,s,he,h=>by
  rw[ty]at h;obtain⟨x,hx,h⟩:=aB.mp h;obtain⟨v,s1,e1,h1⟩:=Yr a s he hx;cases x with
  |tup l m u=>
   cases h;obtain⟨xs,rfl,g1,g2,g3⟩:=h1;exact#[.tup xs.reverse,s1,by rw[pv,e1];rfl,_,rfl,by rw[fm];exact g1,by rw[fm];exact g2,λq hq=>g3 q<|dH.mp hq]
  |_=>cases h
 |.blt f as,Γ,O,t,s,he,h=>by
  rw[ty]at h;obtain⟨ts,ht,h⟩:=aB.mp h;obtain⟨vs,s',e,ha⟩:=YT as s he ht;unfold Zb0 at h;split at h
  .cases h
   obtain⟨v,ws,rfl,⟨xs,rfl,g1,g2,g3⟩,rfl⟩:=ha;exact#[.int xs.length,s',by rw[pv,e];rfl,_,rfl,by omega,by omega]
  .cases h
   obtain⟨v,ws,rfl,⟨xs,rfl,g1,g2,g3⟩,rfl⟩:=ha;exact#[.int xs.length,s',by rw[pv,e];rfl,_,rfl,by omega,by omega]
  .cases h
   obtain⟨v,ws,rfl,⟨xs,rfl,g1,g2,g3⟩,rfl⟩:=ha;exact#[.tup xs,s',by rw[pv,e];rfl,_,rfl,g1,g2,g3]
  .cases h
   obtain⟨v,ws,rfl,⟨xs,rfl,g1,g2,g3⟩,rfl⟩:=ha;exact#[.lst xs,s',by rw[pv,e];rfl,_,rfl,g1,g2,g3]
  .cases h
 |.call f as,Γ,O,t,s,he,h=>by
  rw[ty]at h;obtain⟨ts,ht,h⟩:=aB.mp h;obtain⟨vs,s',e,ha⟩:=YT as s he ht;by_cases hf:f=tk
  .rw[T9 hf]at h
   obtain⟨lo,hi,rfl,c1,c2,c3⟩:=qo h;obtain⟨v1,w1,rfl,h1,v2,w2,rfl,⟨m,rfl,m0,m1⟩,h3⟩:=ha;cases h1;cases h3;obtain⟨v,s2,e2,g1,g2⟩:=F.take m s' (by omega) (by omega)
   have ev:pv C (.call f as) O s=.ok (.int v) s2:=by rw[pv,e,hf];exact e2
   rcases c3 with rfl|⟨i,l,k,u,rfl,hk,hw⟩
   .exact#[_,s2,ev,v,rfl,g1,by omega]
   .obtain⟨x,hx,xs,rfl,_⟩:=he i _ hw
    have em:m=xs.length:=by
     obtain⟨d,rfl⟩:=ZaP hk;have e0:∀s,pv C (.blt .len [.v i]) O s=.ok (.int xs.length) s:=λs=>by rw[pv,Zc (Zm hx) Zj];rfl
     rw[pvs]at e;cases q:pv C (.v d) O s with|ok a s3=>rw[q,Za,Zc (e0 s3) Zj,Za]at e;cases e;rfl|ex _ _=>rw[q]at e;cases e|no=>rw[q]at e;cases e
    subst em;exact#[_,s2,ev,v,xs,rfl,hx,g1,g2]
  .rw[T8 hf]at h
   obtain⟨v,s2,e2,hv⟩:=F.call f ts t hf h vs s' ha;exact#[v,s2,by rw[pv,e];exact e2,Wg hv]
 |.comp1 cap nl tg it ifs elt,Γ,O,t,s,he,h=>by
  rw[ty]at h;split at h
  .next c=>
   obtain⟨rfl,rfl,hi0⟩:=c;obtain rfl:=mM.mp hi0;obtain⟨x,hx,h⟩:=aB.mp h;cases x with
   |tup lo hi u=>
    by_cases c2:hi<=1000
    .have h:(if hi<=1000 then(ty tk Φ (aa u::cap.map (GJ Γ)) elt).bind (Zbm lo hi)else ae)=aa t:=h
     rw[T9 c2]at h;obtain⟨r,hr,h⟩:=aB.mp h;obtain⟨xs,s1,e1,g1,g2,g3⟩:=Zae it s he hx;have hl:t=.lst lo hi r/\∀U v,Hs U r v->Has r v:=by
      cases r with|idx _=>cases h|_=>cases h;exact#[rfl,λ_ _ q=>q]
     obtain⟨rfl,hr2⟩:=hl;have env:∀x,Has u x->Z3 (aa u::cap.map (GJ Γ)) (aa x::cap.map λi=>(O[i]?).join):=λx hx i t ht=>by
      cases i with
      |zero=>cases ht;exact#[x,rfl,Wg hx]
      |succ i=>
       have ht:((cap.map<|GJ Γ)[i]?).join=aa t:=ht;rw[aK]at ht;cases q:cap[i]? with
       |none=>rw[q]at ht;cases ht
       |some k=>
        rw[q]at ht;have ht:GJ Γ k=aa t:=ht;unfold GJ at ht;obtain⟨ht,hn⟩:=fk.mp ht;obtain⟨v,hv,hh⟩:=he k t ht;refine#[v,?_,?_]
        .show(cap.map λi=>(O[i]?).join)[i]?=_
         rw[aK,q];show aa (O[k]?).join=_;rw[hv];rfl
        .cases t with|idx _=>cases hn|_=>exact hh
     obtain⟨ys,s2,e2,l2,h2⟩:=Jf (f:=λx s=>(po (Zf [0] x<|ZQ cap 1 O) s).bind λU s=>(pvt C [] U s).bind λb s=>if b then(pv C elt U s).bind λy s=>.ok [y] s else .ok [] s) (Q:=Has u) (R:=Has r) (λx s hx=>by
      obtain⟨y,s',e,hy⟩:=Yr elt s (env x hx) hr;refine#[y,s',?_,hr2 _ _ hy];have ea:Zf [0] x (ZQ cap 1 O)=aa (aa x::cap.map λi=>(O[i]?).join):=rfl
      rw[ea,ZG,Za,pvt,Za,T9 rfl,e];rfl) xs s1 g3
     refine#[.lst ys,s2,?_,ys,rfl,by omega,by omega,h2]
     rw[pv,T9 (by rfl),e1,Za,e2,Za,T9<|by unfold lim;omega];rfl
    .have h:(if hi<=1000 then(ty tk Φ (aa u::cap.map (GJ Γ)) elt).bind (Zbm lo hi)else ae)=aa t:=h
     rw[T8 c2]at h;cases h
   |_=>cases h
  .cases h
 |.dput1 _ _,_,_,_,_,_,h|.not _,_,_,_,_,_,h|.and _ _,_,_,_,_,_,h|.or _ _,_,_,_,_,_,h|.ite _ _ _,_,_,_,_,_,h|.cmp _ _ _,_,_,_,_,_,h|.chain _ _ _ _ _,_,_,_,_,_,h|.mt _ _ _,_,_,_,_,_,h|.isi _ _,_,_,_,_,_,h|.inT _ _,_,_,_,_,_,h|.getT _ _,_,_,_,_,_,h|.comp2 _ _ _ _ _ _ _ _ _,_,_,_,_,_,h|.fi _,_,_,_,_,_,h|.refu _ _,_,_,_,_,_,h|.dix _ _,_,_,_,_,_,h|.callF _ _,_,_,_,_,_,h=>by simp[ty]at h
theorem YT:∀(es:List E){Γ:Cx}{O:Env}{ts:List T}(s:DS),Z3 Γ O->tys tk Φ Γ es=aa ts->∃vs s',pvs C es O s=.ok vs s'/\Al ts vs
 |[],Γ,O,ts,s,he,h=>by rw[tys]at h;cases h;exact#[[],s,Zj,rfl]
 |e::es,Γ,O,ts,s,he,h=>by
  rw[tys]at h;obtain⟨t,ht,h⟩:=aB.mp h;obtain⟨u,hu,h⟩:=aB.mp h;obtain⟨us,hus,rfl⟩:=aR.mp h;obtain⟨v,s1,e1,h1⟩:=Yr e s he ht;obtain⟨vs,s2,e2,h2⟩:=YT es s1 he hus;exact#[v::vs,s2,Zc e1 e2,v,vs,rfl,G5 he h1 hu,h2]
theorem Zae:∀(w:W){Γ:Cx}{O:Env}{lo hi:Nat}{u:T}(s:DS),Z3 Γ O->tyw tk Φ Γ w=aa (.tup lo hi u)->∃xs s',pvw C w O s=.ok xs s'/\lo<=xs.length/\xs.length<=hi/\∀x∈xs,Has u x
 |.of e,Γ,O,lo,hi,u,s,he,h=>by
  rw[tyw]at h;obtain⟨v,s1,e1,xs,rfl,g1,g2,g3⟩:=Yr e s he h;exact#[xs,s1,by rw[pvw,e1];rfl,g1,g2,g3]
 |.rng1 _,_,_,_,_,_,_,_,h|.rng2 _ _,_,_,_,_,_,_,_,h|.zip _ _,_,_,_,_,_,_,_,h|.enum _,_,_,_,_,_,_,_,h|.rrng _ _,_,_,_,_,_,_,_,h|.rtup _,_,_,_,_,_,_,_,h|.dk _,_,_,_,_,_,_,_,h=>by simp[tyw]at h
theorem vp:∀(o:Option E){Γ:Cx}{O:Env}(s:DS),Z3 Γ O->tyo tk Φ Γ o=aj->∃r s',pvo C o O s=.ok r s'
 |none,Γ,O,s,he,h=>#[ae,s,by rw[pvo]]
 |some e,Γ,O,s,he,h=>by
  rw[tyo]at h;split at h
  .next t ht=>
   obtain⟨v,s1,e1,h1⟩:=Yr e s he ht;cases t with|int lo hi=>obtain⟨i,rfl,_⟩:=h1;exact#[aa i,s1,by rw[pvo,e1];rfl]|idx k=>obtain⟨i,_,rfl,_⟩:=h1;exact#[aa i,s1,by rw[pvo,e1];rfl]|_=>cases h
  .cases h
end
end
noncomputable def yC(Γ:Cx)(i:Nat)(t:T):Cx:=(Γ.map λo=>o.filter λu=>match u with|.idx k=>al<|k≠i|_=>aj).set i<|aa t
noncomputable def Zcw(tk:Nat)(Φ:Sg)(Γ:Cx):E->Option (Cx×Cx)
 |.cmp .eq (.v i) (.tup [])=>match(Γ[i]?).join with
  |some (.tup lo hi t)=>aa (Γ.set i<|aa<|.tup 0 0 t,Γ.set i<|aa<|.tup (max lo 1) hi t)
  |_=>ae
 |.cmp .lt a b=>(tys tk Φ Γ [a,b]).bind λts=>match ts with
  |[.int _ _,.int _ _]=>aa (Γ,Γ)
  |_=>ae
 |_=>ae
noncomputable def okT(Γ:Cx)(t:T):Bool:=match(wk Γ t).bind JY with
 |some m=>al<|m<=1000
 |none=>ai
noncomputable def yz(t:T)(i:Nat):Bool:=match t with
 |.idx k=>al<|k≠i
 |_=>aj
noncomputable def chk(tk:Nat)(Φ:Sg):Nat->Cx->List Sm->Bool
 |n+1,Γ,.asg [i] e::ss=>match ty tk Φ Γ e with
  |some t=>al (i<Γ.length)&&(yz t i&&chk tk Φ n (yC Γ i t) ss)
  |none=>ai
 |_+1,Γ,.ret e::_=>match ty tk Φ Γ e with
  |some t=>okT Γ t
  |none=>ai
 |n+1,Γ,.ite c a []::ss=>match Zcw tk Φ Γ c with
  |some (Γ1,Γ2)=>chk tk Φ n Γ1 a&&chk tk Φ n Γ2 ss
  |none=>ai
 |_,_,_=>ai
def xx{Γ:Cx}{O:Env}{i:Nat}{t:T}{v:V}(he:Z3 Γ O)(hl:O.length=Γ.length)(hi:i<Γ.length)(hn:yz t i=aj)(hv:Hs O t v):Z3 (yC Γ i t) (O.set i<|aa v):=by
 have st:∀{t:T}{w:V},yz t i=aj->Hs O t w->Hs (O.set i<|aa v) t w:=λ{t w} hn h=>by
  cases t with
  |idx k=>
   obtain⟨j,xs,e,hx,h1⟩:=h;exact#[j,xs,e,by rw[aQ<|Ne.symm<|T6 hn];exact hx,h1]
  |_=>exact h
 intro j u hu;unfold yC at hu;by_cases c:i=j
 .subst c
  rw[ba<|by rw[ay];exact hi]at hu
  cases hu;exact#[v,ba (by omega),st hn hv]
 .rw[aQ c,aK]at hu
  rw[aQ c];cases q:Γ[j]? with
  |none=>rw[q]at hu;cases hu
  |some o=>
   rw[q]at hu;obtain⟨hu,hk⟩:=fk.mp (show o.filter _=aa u from hu)
   obtain⟨w,hw,hh⟩:=he j u (by rw[q,hu];rfl)
   refine#[w,hw,st ?_ hh];cases u with|idx k=>exact hk|_=>rfl
def jQ{Γ:Cx}{O:Env}{i:Nat}{t:T}{v:V}(he:Z3 Γ O)(hv:O[i]?=aa (aa v))(h:Has t v):Z3 (Γ.set i<|aa t) O:=by
 intro j u hu;by_cases c:i=j
 .subst c
  by_cases z:i<Γ.length
  .rw[ba z]at hu;cases hu;exact#[v,hv,Wg h]
  .rw[bq<|by rw[bc];omega]at hu;cases hu
 .rw[aQ c]at hu;exact he j u hu
section
variable{tk:Nat}{Φ:Sg}{C:Zt}
def chk_ok(F:Fine tk Φ C):∀(n:Nat){Γ:Cx}{O:Env}{ss:List Sm}(s:DS),chk tk Φ n Γ ss=aj->Z3 Γ O->O.length=Γ.length->∃v s',rvs C [] ss O [] s=.ok (.ret v) s'/\Th 1000 v:=by
 intro n
 induction n with
 |zero=>intro Γ O ss s h;simp[chk]at h
 |succ n ih=>
  intro Γ O ss s h he hl;unfold chk at h;split at h
  .next n' i e ss' en=>
   cases en;split at h
   .next t ht=>
    obtain⟨h1,h2⟩:=(aD _ _).mp h;obtain⟨h2,h3⟩:=(aD _ _).mp h2;obtain⟨v,s1,e1,hv⟩:=Yr F e s he ht;have h1:=T6 h1;obtain⟨w,s2,e2,hw⟩:=ih s1 h3 (xx he hl h1 h2 hv) (by unfold yC;rw[bc,bc,ay];exact hl)
    exact#[w,s2,by rw[Zi<|Yi e1 rfl];exact e2,hw]
   .cases h
  .next n' e ss' en=>
   split at h
   .next t ht=>
    obtain⟨v,s1,e1,hv⟩:=Yr F e s he ht;refine#[v,s1,Zy<|ZS e1,?_];unfold okT at h;split at h
    .next m hm=>
     obtain⟨u,hu,hm⟩:=aB.mp hm;exact(Xz hm<|G5 he hv hu).le<|T6 h
    .cases h
   .cases h
  .next n' c a ss' en=>
   cases en;split at h
   .next Γ1 Γ2 hr=>
    obtain⟨h1,h2⟩:=(aD _ _).mp h;have key:∃b s1,YF C c O s=.ok b s1/\(b=aj->Z3 Γ1 O/\Γ1.length=O.length)/\(b=ai->Z3 Γ2 O/\Γ2.length=O.length):=by
     unfold Zcw at hr;split at hr
     .next i=>
      split at hr
      .next lo hi t hg=>
       cases hr;obtain⟨v,hv,xs,rfl,g1,g2,g3⟩:=he i _ hg;have e0:pv C (.cmp .eq (.v i)<|.tup []) O s=.ok (.bl xs.isEmpty) s:=by
        rw[pv,Zm hv,Za,pv,Zj];cases xs<;>rfl
       refine#[xs.isEmpty,s,Xh e0 rfl,λb=>#[jQ he hv #[xs,rfl,cR _,by rw[mM.mp b];exact az _,g3],by rw[bc,hl]],λb=>#[jQ he hv #[xs,rfl,?_,g2,g3],by rw[bc,hl]]]
       cases xs with|nil=>cases b|cons _ _=>rw[aL]at *;omega
      .cases hr
     .next a' b'=>
      obtain⟨ts,ht,hr⟩:=aB.mp hr;split at hr
      .cases hr
       obtain⟨vs,s1,e1,v,w1,rfl,⟨x,rfl,_⟩,w,w2,rfl,⟨y,rfl,_⟩,z⟩:=YT F [a',b'] s he ht;cases z;refine#[al<|x<y,s1,?_,λ_=>#[he,hl.symm],λ_=>#[he,hl.symm]]
       refine Xh (v:=.bl<|al<|x<y) ?_ rfl;rw[pvs]at e1;cases q:pv C a' O s with
       |ok v1 t1=>
        rw[q,Za,pvs]at e1;cases q2:pv C b' O t1 with
        |ok v2 t2=>
         rw[q2,Za,Zj,Za,Za]at e1;cases e1;rw[pv,q,Za,q2];rfl
        |ex _ _=>rw[q2]at e1;cases e1
        |no=>rw[q2]at e1;cases e1
       |ex _ _=>rw[q]at e1;cases e1
       |no=>rw[q]at e1;cases e1
      .cases hr
     .cases hr
    obtain⟨b,s1,e1,k1,k2⟩:=key;cases b with
    |true=>
     obtain⟨w,s2,e2,hw⟩:=ih s1 h1 (k1 rfl).1 (k1 rfl).2.symm;exact#[w,s2,Zy ((Wv e1).trans<|by rw[T9 rfl];exact e2),hw]
    |false=>
     obtain⟨w,s2,e2,hw⟩:=ih s1 h2 (k2 rfl).1 (k2 rfl).2.symm;exact#[w,s2,by rw[Zi<|(Wv e1).trans<|by rw[T8 (by simp),rvs]];exact e2,hw]
   .cases h
  .cases h
end
end Ab
namespace K71
open Ev Pv Rw La
open Ab (okV XU)
theorem Vs:∀{xs:List V},XU xs=aj->∀x∈xs,okV x=aj
 |[],_,x,h=>by cases h
 |y::xs,h,x,m=>by
  obtain⟨h1,h2⟩:=(aD _ _).mp h;rcases aC.mp m with rfl|m
  .exact h1
  .exact Vs h2 x m
noncomputable def isW(x:V)(lo hi:Int):Bool:=match x with
 |.int i=>al (lo<=i)&&al (i<=hi)
 |_=>ai
def wR{x:V}{lo hi:Int}(h:∀i,x≠.int i):isW x lo hi=ai:=by
 cases x with|int i=>exact T7 rfl<|h i|_=>rfl
def w4{x:V}(hx:okV x=aj):(∃i,x=.int i)\/(∃b,x=.bl b)\/Yc x [.int]=aa ai/\∀i,x≠.int i:=by
 cases x with
 |int i=>exact .inl #[i,rfl]
 |bl b=>exact .inr<|.inl #[b,rfl]
 |drw=>cases hx
 |scr _=>cases hx
 |dow _=>cases hx
 |dct o=>cases o with|none=>exact .inr<|.inr #[rfl,nofun]|some _=>cases hx
 |_=>exact .inr<|.inr #[rfl,nofun]
def Gr{x:V}(hx:okV x=aj):(∃xs,x=.tup xs)\/Yc x [.tuple]=aa ai/\∀xs,x≠.tup xs:=by
 cases x with
 |tup xs=>exact .inl #[xs,rfl]
 |drw=>cases hx
 |scr _=>cases hx
 |dow _=>cases hx
 |dct o=>cases o with|none=>exact .inr #[rfl,nofun]|some _=>cases hx
 |_=>exact .inr #[rfl,nofun]
def wp(d:Nat){x:V}{lo hi:Int}(s:DS)(hx:okV x=aj):CV (d+1) 8 [x,.int lo,.int hi] s=.ok (.bl<|isW x lo hi) s:=by
 refine ZF rfl (by decide) rfl ?_
 rcases w4 hx with⟨i,rfl⟩|⟨b,rfl⟩|⟨ha,no⟩
 .by_cases h:lo<=i
  .simp[Yx,pvE,isW,Yc,Y0,h]
  .simp[Yx,pvE,isW,Yc,Y0,h]
 .simp[Yx,pvE,isW,Yc,Y0]
 .rw[wR no]
  simp[Yx,pvE,ha]
noncomputable def ZA(p n:Nat)(x:V):Bool:=match x with
 |.tup xs=>al (xs.length=n)&&xs.all λv=>isW v 0<|(p:Int)-1
 |_=>ai
def ZbC{p n:Nat}{x:V}(h:∀xs,x≠.tup xs):ZA p n x=ai:=by
 cases x with|tup xs=>exact T7 rfl<|h xs|_=>rfl
theorem zo{p:Nat}:∀{xs:List V},(xs.all λv=>isW v 0<|(p:Int)-1)=aj->∃r:Row,xs=r.map .int/\∀a∈r,0<=a/\a<(p:Int)
 |[],_=>#[[],rfl,λ_ h=>by cases h]
 |x::xs,h=>by
  rw[fY,aD]at h;obtain⟨r,rfl,hr⟩:=zo h.2;cases x with
  |int i=>
   have:=h.1;simp only[isW,aD,T0]at this;refine#[i::r,rfl,λa ha=>?_]
   rcases aC.mp ha with rfl|ha
   .lia
   .exact hr a ha
  |_=>cases h.1
def ZaU{p n:Nat}{x:V}(h:ZA p n x=aj):∃r:Row,x=Zb r/\Zd p n r:=by
 cases x with
 |tup xs=>
  unfold ZA at h;rw[aD,T0]at h;obtain⟨r,rfl,hr⟩:=zo h.2;exact#[r,rfl,by simpa using h.1,hr]
 |_=>cases h
def Zci{p n:Nat}{r:Row}(hr:Zd p n r):ZA p n (Zb r)=aj:=by
 unfold ZA Zb;rw[aD,T0,ay];refine#[hr.1,bG.mpr λv hv=>?_]
 obtain⟨a,ha,rfl⟩:=aT.mp hv;have:=hr.2 a ha;simp only[isW,aD,T0];lia
theorem zc:∀r:Row,XU (r.map .int)=aj
 |[]=>rfl
 |a::r=>zc r
def Zai(r:Row):okV (Zb r)=aj:=zc r
section
variable{p n:Nat}[Base p]
theorem uJ(d:Nat){x:V}(s:DS)(hn:n<=6)(hx:okV x=aj):CV (d+2) 9 [spV p n,x] s=.ok (.bl<|ZA p n x) s:=by
 refine ZF rfl (by decide) rfl ?_
 dsimp only[JR]
 rw[Zi<|Xu (p:=p) (n:=n) _ _ (by simp[pvE])<|by simp]
 rcases Gr hx with⟨xs,rfl⟩|⟨ha,no⟩
 ·
  by_cases hl:xs.length=n
  .rw[Zi (ρ':=[aa<|spV p n,aa<|.tup xs,aa<|.int p,aa<|.int n]) (os':=[]) (s':=s)<|by simp[pvE,Yc,Y0,ZJ,hl]]
   refine Zy<|ZS ?_;have hc:=ZW (C:=CV<|d+1) (cap:=[2]) (nl:=1) (t:=[0]) (it:=.of<|.v 1) (elt:=.call 8 [(.v 0),(.c<|.int 0),(.bin .sub (.v 1)<|.c<|.int 1)]) (O:=[aa<|spV p n,aa<|.tup xs,aa<|.int p,aa<|.int n]) (s:=s) (l:=xs) (e:=id) (g:=λv=>V.bl<|isW v 0<|(p:Int)-1)
    (by simp[pvE]) (by unfold lim;lia) (λv hv=>#[_,rfl,by
     have e:=wp d (lo:=0) (hi:=(p:Int)-1) s<|Vs hx v hv;simp[pvE,e]])
   have ht:=Xm (g:=λv:V=>isW v 0<|(p:Int)-1) xs
   simp[pvE,hc,ht,ZA,hl]
  .refine Zy ?_
   simp[pvE,Yc,Y0,ZJ,ZA,hl];lia
 .rw[ZbC no]
  exact Zy (by simp[pvE,ha])
end
end K71
namespace Rw
open La
open Ev (ltP XC YC)
section
variable{p n:Nat}[Base p]
variable{k:Nat}
theorem X6{B:Type}[BEq B][LawfulBEq B]:∀{L A:List B},L.Nodup->(∀x∈L,x∈A)->L.length<=A.length
 |[],_,_,_=>cR _
 |x::L,A,h,hs=>by
  rw[dA]at h;have h1:=X6 (L:=L) (A:=A.erase x) h.2 λy hy=>(List.mem_erase_of_ne (show y≠x from λe=>h.1<|by rw[<-e];exact hy)).mpr<|hs y<|ak _ hy
  have h2:=hs x<|am ..;have h3:=List.length_erase_of_mem h2;have h4:=kg h2;rw[aL];omega
end
noncomputable def WA(p:Nat)(L:List Row)(o:Row):List Row:=(aU p).flatMap λ(k:Nat)=>L.map λr=>ZB p r o (k:Int)
noncomputable def zQ(p n:Nat)(P:List Row):List Row:=P.foldl (WA p) [aA n 0]
def yv(L:List Row)(o:Row):(WA p L o).length=L.length*p:=by
 unfold WA;rw[List.length_flatMap,show((aU p).map λ(k:Nat)=>(L.map λr=>ZB p r o (k:Int)).length)=aA p L.length from iQ (by simp) λi h1 h2=>by simp,List.sum_replicate_nat,lZ]
def wu(P:List Row):(zQ p n P).length=p^P.length:=by
 unfold zQ
 suffices ∀(P L:List Row),(P.foldl (WA p) L).length=L.length*p^P.length by rw[this];simp
 intro P
 induction P with|nil=>intro L;simp|cons o P ih=>intro L;rw[dZ,ih,yv,aL,Nat.pow_succ,Nat.mul_assoc,lZ p]
section
variable{p n:Nat}[Base p]
def Z6:Zd p n (aA n 0):=#[cB,λa ha=>by
 have:=(inferInstance:Base p).b;rw[iF ha];omega]
def XW(j:Nat):gt (aA n 0) j=0:=by
 unfold gt;rw[aO,cF];split<;>rfl
def yn(hL:∀r∈L,Zd p n r)(ho:Zd p n o):∀r∈WA p L o,Zd p n r:=λr hr=>by
 obtain⟨k,_,h⟩:=eo.mp hr;obtain⟨q,hq,rfl⟩:=aT.mp h;exact Zk (hL q hq) ho
def u5(hW:pZ p n W)(hr:Zd p n r)(ho:Zd p n o)(h1:Y5 p W r=aj)(h2:Y5 p W o=aj):Y5 p W (ZB p r o k)=aj:=by
 rw[ZU hW<|Zk hr ho];rw[ZM hr ho];exact X7 (ph p k) ((ZU hW hr).mp h1)<|(ZU hW ho).mp h2
theorem GW(hW:pZ p n W):∀{P L:List Row},(∀r∈P,r∈W)->(∀r∈L,Zd p n r/\Y5 p W r=aj)->∀r∈P.foldl (WA p) L,Zd p n r/\Y5 p W r=aj
 |[],_,_,h=>h
 |o::P,L,hP,h=>by
  have ho:=hP o<|am ..;refine GW hW (P:=P) (λr hr=>hP r<|ak _ hr) λr hr=>?_
  obtain⟨k,_,h3⟩:=eo.mp hr;obtain⟨q,hq,rfl⟩:=aT.mp h3;exact#[Zk (h q hq).1<|hW.row o ho,u5 hW (h q hq).1 (hW.row o ho) (h q hq).2<|uG hW ho]
theorem zK:∀{P L:List Row}{a r:Row},(∀o∈P,Zd p n o)->a∈L->Zd p n a->Zd p n r->hdI (Ze p P<|ZB p r a<|-1)=ae->r∈P.foldl (WA p) L
 |[],L,a,r,_,ha,h1,h2,h=>by
  have e:r=a:=YZ h2 h1 (by
   funext j
   have z:=(Z9<|Zk h2 h1).mpr<|YI h j;rw[ZM h2 h1,Wl,Qa]at z
   grind)
  rw[e];exact ha
 |o::P,L,a,r,hP,ha,h1,h2,h=>by
  have ho:=hP o<|am ..
  let x:=ZB p r a<|-1
  have hx:Zd p n x:=Zk h2 h1;have hk:=XB ppos hx<|(hdI o).getD 0;have e:clr p x o ((hdI o).getD 0)=ZB p r (ZB p a o<|gt x<|(hdI o).getD 0) (-1):=YZ (Zk hx ho) (Zk h2<|Zk h1 ho) (by
   rw[Qr hx ho,ZM h2<|Zk h1 ho,ZM h1 ho]
   funext j
   show toV p (ZB p r a<|-1) j-toV p x ((hdI o).getD 0)*toV p o j=toV p r j+ph p (-1)*(toV p a j+toV p x ((hdI o).getD 0)*toV p o j);rw[ZM h2 h1,Wl,Qa]
   grind)
  refine zK (P:=P) (λq hq=>hP q<|ak _ hq) (eo.mpr #[(gt x<|(hdI o).getD 0).toNat,bj.mpr (by omega),aT.mpr #[a,ha,by rw[Int.toNat_of_nonneg hk.1]]]) (Zk h1 ho) h2 ?_
  rw[<-e];exact h
theorem Q5(hP:pZ p n P):r∈zQ p n P↔Zd p n r/\Y5 p P r=aj:=by
 constructor
 .exact GW hP (λ_ h=>h) (λq hq=>by rw[bm.mp hq];exact#[Z6,GU hP Z6 XW]) r
 .intro#[h1,h2]
  refine zK hP.row (bm.mpr rfl) Z6 h1 ?_;have e:ZB p r (aA n 0) (-1)=r:=YZ (Zk h1 Z6) h1 (by
   rw[ZM h1 Z6]
   funext j
   rw[(Z9 Z6).mpr<|XW j]
   grind)
  rw[e];exact Option.isNone_iff_eq_none.mp h2
theorem Jg:∀{P L:List Row},(∀o∈P,Zd p n o/\gt o ((hdI o).getD 0)=1)->(P.Pairwise λo q=>gt o ((hdI q).getD 0)=0)->(∀r∈L,Zd p n r/\∀o∈P,gt r ((hdI o).getD 0)=0)->L.Nodup->(P.foldl (WA p) L).Nodup
 |[],_,_,_,_,h=>h
 |o::P,L,hP,hz,hL,h=>by
  obtain⟨ho,h1⟩:=hP o<|am ..;obtain⟨z1,z2⟩:=be.mp hz;have hp:=(inferInstance:Base p).b;refine Jg (P:=P) (λq hq=>hP q<|ak _ hq) z2 (λr hr=>#[yn (λr hr=>(hL r hr).1) ho r hr,λq hq=>?_]) ?_
  .obtain⟨k,_,h3⟩:=eo.mp hr
   obtain⟨s,hs,rfl⟩:=aT.mp h3;rw[WQ (hL s hs).1 ho,(hL s hs).2 q<|ak _ hq,z1 q hq];simp
  .have at_:∀(k:Nat) r,k<p->r∈L->gt (ZB p r o (k:Int)) ((hdI o).getD 0)=k:=λk r hk hr=>by
    rw[WQ (hL r hr).1 ho,(hL r hr).2 o<|am ..,h1,Int.zero_add,Int.mul_one,eQ (by omega)<|by omega]
   refine List.pairwise_flatMap.mpr #[λk hk=>?_,?_]
   .refine cS.mpr (h.imp_of_mem λ{a b} ha hb ne e=>ne<|YZ (hL a ha).1 (hL b hb).1 ?_)
    have q:=congrArg (toV p) e;rw[ZM (hL a ha).1 ho,ZM (hL b hb).1 ho]at q
    funext j
    have:=congrFun q j
    grind
   .refine mG.imp_of_mem λ{a b} ha hb ne x hx y hy e=>ne ?_
    obtain⟨r,hr,rfl⟩:=aT.mp hx;obtain⟨q,hq,rfl⟩:=aT.mp hy;have:=at_ a r (bj.mp ha) hr;rw[e,at_ b q (bj.mp hb) hq]at this;omega
def qu(hP:pZ p n P):(zQ p n P).Nodup:=by
 have rf:=hP.pn.rf;refine Jg (λo ho=>#[hP.row o ho,(Qp<|hP.row o ho).mp<|rf.one _<|Yl ho]) ?_ (λr hr=>?_)<|dA.mpr #[by simp,np]
 .exact(cS.mp rf.inc).imp_of_mem λ{a b} ha hb lt=>(Z9<|hP.row a ha).mp<|rf.zer _ (Yl hb) _ (Yl ha)<|eD lt
 .rw[bm.mp hr]
  exact#[Z6,λo _=>XW _]
end
open Pv (Z8)
def wo{F:List Row}{r x:Row}:x∈Z8 F r↔x∈F\/x=r:=by
 unfold Z8;split
 .rename_i h
  have h:=c7.mp h;exact#[.inl,λz=>z.elim id λe=>e▸h]
 .simp
def uE{F:List Row}{r:Row}(h:F.Nodup):(Z8 F r).Nodup:=by
 unfold Z8;split
 .exact h
 .rename_i q
  refine ef.mpr #[h,by simp,λa ha b hb e=>q ?_]
  rw[bm.mp hb]at e;exact c7.mpr<|e▸ha
theorem Jz:∀{L F:List Row}{x:Row},x∈L.foldl Z8 F↔x∈F\/x∈L
 |[],F,x=>by simp
 |r::L,F,x=>by
  rw[dZ,Jz,wo,aC,or_assoc]
theorem zZ:∀{L F:List Row},F.Nodup->(L.foldl Z8 F).Nodup
 |[],F,h=>h
 |r::L,F,h=>zZ (L:=L)<|uE h
noncomputable def Qb(p:Nat)(F:List Row)(r:Row):List Row:=F.flatMap λo=>(aU<|p-1).map λ(k:Nat)=>ZB p o r<|(k:Int)+1
noncomputable def Wu(p:Nat)(F:List Row)(r:Row):List Row:=if F.contains r then F else(Qb p F r).foldl Z8 F
noncomputable def Zq(p n:Nat)(R:List Row):List Row:=R.foldl (Wu p) [aA n 0]
section
variable{p n:Nat}[Base p]
structure HasK(p n:Nat)[NeZero p](F P:List Row):Prop where
 part:pZ p n P
 nd:F.Nodup
 mem:∀x,x∈F↔Zd p n x/\Y5 p P x=aj
theorem Qt{P:List Row}{r u:Row}(hP:pZ p n P)(hr:Zd p n r)(hu:Zd p n u):Y5 p (Xd p P r) u=aj↔∃k:Nat,k<p/\Y5 p P (ZB p u r<|-(k:Int))=aj:=by
 obtain⟨h1,h2⟩:=XE hP hr;have g:=Xq (fld (p:=p)) hP.pn<|Xk hr;rw[ZU h1 hu,Mm,h2,g.mem]
 constructor
 .rintro ⟨c,hc⟩
  refine#[c.val,c.isLt,(ZU hP<|Zk hu hr).mpr ?_];unfold Mm;rw[ZM hu hr];have e:ph p (-(c.val:Int)) = -c:=by
   rw[Wl]
   congr 1
   exact X4 (by rw[Yk,eQ (by omega) (by have:=c.isLt;omega)])
  rw[e];have e2:(λj=>toV p u j + -c*toV p r j)=λj=>toV p u j-c*toV p r j:=by funext j;grind
  rw[e2];exact hc
 .rintro ⟨k,_,hk⟩
  refine#[ph p (k:Int),?_];have:=(ZU hP<|Zk hu hr).mp hk;unfold Mm at this;rw[ZM hu hr,Wl]at this;have e2:(λj=>toV p u j-ph p (k:Int)*toV p r j)=λj=>toV p u j + -ph p (k:Int)*toV p r j:=by funext j;grind
  rw[e2];exact this
def xu{P:List Row}{r:Row}(hP:pZ p n P)(hr:Zd p n r)(h:Y5 p P r=aj):Xd p P r=P:=by
 obtain⟨h1,h2⟩:=XE hP hr;exact zg h1.row hP.row<|h2.trans<|(Xq (fld (p:=p)) hP.pn<|Xk hr).same<|(ZU hP hr).mp h
def ui{P:List Row}{r:Row}(hP:pZ p n P)(hr:Zd p n r)(h:Y5 p P r=ai):(Xd p P r).length=P.length+1:=by
 obtain⟨h1,h2⟩:=XE hP hr;have:=(Xq (fld (p:=p)) hP.pn<|Xk hr).len λq=>by rw[(ZU hP hr).mpr q]at h;cases h
 rw[<-h2,QA,QA]at this;exact this
theorem Us{u r:Row}{k:Int}(hu:Zd p n u)(hr:Zd p n r):ZB p (ZB p u r<|-k) r k=u:=by
 refine YZ (Zk (Zk hu hr) hr) hu ?_;rw[ZM (Zk hu hr) hr,ZM hu hr,Wl]
 funext j;grind
theorem Uj{u r:Row}(hu:Zd p n u)(hr:Zd p n r):ZB p u r 0=u:=by
 refine YZ (Zk hu hr) hu ?_;rw[ZM hu hr,X3]
 funext j;grind
def HasK.step{F P:List Row}{r:Row}(h:HasK p n F P)(hr:Zd p n r):HasK p n (Wu p F r) (Xd p P r):=by
 obtain⟨h1,h2⟩:=XE h.part hr;unfold Wu;by_cases c:F.contains r=aj
 .rw[T9 c,xu h.part hr ((h.mem r).mp<|c7.mp c).2]
  exact h
 .rw[T8 c]
  refine#[h1,zZ h.nd,λx=>?_]
  rw[Jz];unfold Qb
  constructor
  .rintro (hx|hx)
   .obtain⟨a,b⟩:=(h.mem x).mp hx
    exact#[a,(Qt h.part hr a).mpr #[0,by have:=(inferInstance:NeZero p).ne;omega,by rw[show(-((0:Nat):Int))=0 from rfl,Uj a hr];exact b]]
   .obtain⟨o,ho,hx⟩:=eo.mp hx
    obtain⟨k,hk,rfl⟩:=aT.mp hx;have hk:=bj.mp hk;obtain⟨a,b⟩:=(h.mem o).mp ho;refine#[Zk a hr,(Qt h.part hr<|Zk a hr).mpr #[k+1,by omega,?_]]
    have e:=Us (p:=p) (k:=-((k:Int)+1)) a hr;rw[Int.neg_neg]at e;rw[show(-((k+1:Nat):Int)) = -((k:Int)+1) by omega,e]
    exact b
  .rintro ⟨hx,hm⟩
   obtain⟨k,hk,hm⟩:=(Qt h.part hr hx).mp hm;have ho:=(h.mem _).mpr #[Zk hx hr,hm];have e:=Us (p:=p) (k:=(k:Int)) hx hr;cases k with
   |zero=>
    refine .inl ?_;rw[show(-((0:Nat):Int))=0 from rfl,Uj hx hr]at ho
    exact ho
   |succ k=>
    exact .inr (eo.mpr #[_,ho,aT.mpr #[k,bj.mpr (by omega),by rw[show((k:Int)+1)=((k+1:Nat):Int) by omega];exact e]])
theorem HasK.nil:HasK p n [aA n 0] []:=by
 refine#[pZ.nil,by simp,λx=>?_]
 rw[bm]
 constructor
 .rintro rfl
  exact#[Z6,GU pZ.nil Z6 XW]
 .rintro ⟨hx,hm⟩
  refine wZ (by rw[hx.1,cB]) λj=>?_
  rw[XW];unfold Y5 Ze at hm;rw[List.foldl_nil]at hm;cases q:hdI x with|none=>exact YI q j|some k=>rw[q]at hm;cases hm
theorem HasK.all:∀{R F P:List Row},HasK p n F P->(∀r∈R,Zd p n r)->HasK p n (R.foldl (Wu p) F) (Z0 p P R)
 |[],F,P,h,_=>h
 |r::R,F,P,h,hR=>HasK.all (R:=R) (h.step<|hR r<|am ..) λx hx=>hR x<|ak _ hx
def YO{R:List Row}(hR:∀r∈R,Zd p n r):HasK p n (Zq p n R) (Z0 p [] R):=HasK.nil.all hR
def HasK.len{F P:List Row}(h:HasK p n F P):F.length=p^P.length:=by
 rw[<-wu (p:=p) (n:=n) P];refine Nat.le_antisymm (X6 h.nd λx hx=>?_)<|X6 (qu h.part) λx hx=>?_
 .exact(Q5 h.part).mpr<|(h.mem x).mp hx
 .exact(h.mem x).mpr<|(Q5 h.part).mp hx
def qD{a b:Nat}(h:p^a=p^b):a=b:=by
 have h2:1<p:=by rcases(inferInstance:Base p).b with e|e|e<;>omega
 rcases Nat.lt_trichotomy a b with q|q|q
 .have:=gg h2 q;omega
 .exact q
 .have:=gg h2 q;omega
end
noncomputable def G8(n j:Nat):Row:=(aU n).map λi=>if i=j then 1 else 0
noncomputable def units(n:Nat):List Row:=(aU n).map<|G8 n
def ji:∀n,n<=6->wz (units n)=aj:=by
 intro n h
 match n,h with
 |0,_|1,_|2,_|3,_|4,_|5,_|6,_=>decide +kernel
def yp(n:Nat):(units n).length=n:=by unfold units;rw[ay,bF]
section
variable{p n:Nat}[Base p]
def Yn:∀r∈units n,Zd p n r:=λr hr=>by
 obtain⟨j,_,rfl⟩:=aT.mp hr;have h2:1<p:=by rcases(inferInstance:Base p).b with e|e|e<;>omega
 unfold G8;refine#[by rw[ay,bF],λa ha=>?_]
 obtain⟨i,_,rfl⟩:=aT.mp ha;split<;>omega
def J3(hn:n<=6):pZ p n (units n):=(yh Yn).mp<|ji n hn
def UQ(hn:n<=6):(Zq p n<|units n).length=p^n:=by
 have h:=(YO (p:=p) (n:=n) Yn).len;rw[y8<|J3 hn,yp]at h;exact h
def vo(hn:n<=6){R:List Row}(hR:∀r∈R,Zd p n r):((Zq p n R).length=(Zq p n<|units n).length)↔(Z0 p [] R).length=n:=by
 rw[UQ hn,(YO hR).len];exact#[qD,λe=>by rw[e]]
def uT(hn:n<=6){R:List Row}(hR:∀r∈R,Zd p n r)(h:(Z0 p [] R).length<n):((Zq p n<|units n).filter λr=>!(Zq p n R).contains r)≠[]:=λe=>by
 have hU:=YO (p:=p) (n:=n) Yn;have hl:=X6 hU.nd (A:=Zq p n R) λx hx=>by
  have:=List.filter_eq_nil_iff.mp e x hx
  simpa using this
 rw[UQ hn,(YO hR).len]at hl;have h2:1<p:=by rcases(inferInstance:Base p).b with e|e|e<;>omega
 have:=gg h2 h;omega
end
end Rw
namespace K71
open Ev Pv Rw La
def ZcK(h:Nat):(aA h [V.int 0]).flatten=(aA h (0:Int)).map V.int:=by
 induction h with|zero=>rfl|succ h ih=>rw[bI,cD,ih,bI];rfl
def Jq(r:Row):V.flat (Zb r)=aj:=Vm r
theorem VQ:∀L:List Row,Y1 (L.map Zb)=aj
 |[]=>rfl
 |r::L=>by
  show(V.flat (Zb r)&&Y1 (L.map Zb))=aj;rw[Jq,VQ L];rfl
section
variable{p n:Nat}[Base p]
def ix0{C:Zt}{i:Nat}{O:Env}{s:DS}(h:O[i]?=aa (aa<|spV p n)):pv C (.ix (.v i)<|.c<|.int 0) O s=.ok (.int p) s:=by
 rw[pv,Zm h,Za,pv,show ofD (V.int 0)=aa (V.int 0)from rfl];rfl
def ix1{C:Zt}{i:Nat}{O:Env}{s:DS}(h:O[i]?=aa (aa<|spV p n)):pv C (.ix (.v i)<|.c<|.int 1) O s=.ok (.int n) s:=by
 rw[pv,Zm h,Za,pv,show ofD (V.int 1)=aa (V.int 1)from rfl];rfl
def za{C:Zt}{i:Nat}{O:Env}{s:DS}(hn:n<=6)(h:O[i]?=aa (aa<|spV p n)):pv C (.bin .mul (.tup [(.c<|.int 0)])<|.ix (.v i)<|.c<|.int 1) O s=.ok (Zb<|aA n 0) s:=by
 have g:pv C (.tup [(.c<|.int 0)]) O s=.ok (.tup [.int 0]) s:=by simp[pvE,ofD]
 rw[pv,g,Za,ix1 h,Za];show(if(0:Int)<=n/\(n:Int)<1000/\1<=1000 then PR.ok (V.tup (aA (n:Int).toNat [V.int 0]).flatten) s else .no)=_
 rw[T9 #[by omega,by omega,by omega],d8,ZcK];rfl
def xZ{C:Zt}{i j:Nat}{O:Env}{s:DS}{r:Row}{k:Nat}(h:O[i]?=aa (aa<|Zb r))(hj:O[j]?=aa (aa<|Yg k))(hk:k<r.length):pv C (.ix (.v i)<|.v j) O s=.ok (.int<|gt r k) s:=by
 rw[pv,Zm h,Za,Zm hj,Za];show po (at' (r.map V.int) (k:Int)) s=_;rw[Gg hk];rfl
def JK(d:Nat){r o:Row}{k:Int}(s:DS)(hn:n<=6)(hr:Zd p n r)(ho:Zd p n o)(hk:-1000<k/\k<1000):CV (d+1) 4 [spV p n,Zb r,.int k,Zb o] s=.ok (Zb<|ZB p r o k) s:=by
 have hp:=VD (p:=p);refine ZF rfl (by decide) rfl ?_
 show rvs (CV d) [] (.ret (.blt .tuple [(.comp1 [1,2,3,0] 1 [0] (.rng1<|.ix (.v 0)<|.c<|.int 1) []<|.bin .mod (.bin .add (.ix (.v 1)<|.v 0)<|.bin .mul (.v 2)<|.ix (.v 3)<|.v 0)<|.ix (.v 4)<|.c<|.int 0)])::[]) [aa<|spV p n,aa<|Zb r,aa<|.int k,aa<|Zb o] [] s=_;have hc:=ZW (C:=CV d) (cap:=[1,2,3,0]) (nl:=1) (t:=[0]) (it:=.rng1<|.ix (.v 0)<|.c<|.int 1) (elt:=.bin .mod (.bin .add (.ix (.v 1)<|.v 0)<|.bin .mul (.v 2)<|.ix (.v 3)<|.v 0)<|.ix (.v 4)<|.c<|.int 0) (O:=[aa<|spV p n,aa<|Zb r,aa<|.int k,aa<|Zb o]) (s:=s) (l:=aU n) (e:=Yg) (g:=λj=>V.int<|(gt r j+k*gt o j)%p)
  (XO (ix1 rfl)<|by omega) (by rw[bF];unfold lim;omega) (λj hj=>by
   have hj:=bj.mp hj;have h2:=XB (by omega) ho j
   refine#[[aa<|Yg j,aa<|Zb r,aa<|.int k,aa<|Zb o,aa<|spV p n],rfl,?_];have e1:=xZ (C:=CV d) (i:=1) (j:=0) (O:=[aa<|Yg j,aa<|Zb r,aa<|.int k,aa<|Zb o,aa<|spV p n]) (s:=s) rfl rfl (by rw[hr.1];exact hj)
   have e2:=xZ (C:=CV d) (i:=3) (j:=0) (O:=[aa<|Yg j,aa<|Zb r,aa<|.int k,aa<|Zb o,aa<|spV p n]) (s:=s) rfl rfl (by rw[ho.1];exact hj)
   have e3:pv (CV d) (.bin .mul (.v 2)<|.ix (.v 3)<|.v 0) [aa<|Yg j,aa<|Zb r,aa<|.int k,aa<|Zb o,aa<|spV p n] s=.ok (.int<|k*gt o j) s:=by
    rw[pv,Zm rfl,Za,e2,Za];show(if(fits k&&fits (gt o j))=aj then PR.ok (V.int<|k*gt o j) s else .no)=_
    rw[T9<|by rw[ZN (by omega) (by omega),ZN (by omega)<|by omega];rfl]
   rw[pv,pv,e1,Za,e3,Za];show PR.bind (PR.ok (V.int<|gt r j+k*gt o j) s) _=_;rw[Za,ix0 rfl,Za];show(if(0:Int)<p then PR.ok (V.int<|(gt r j+k*gt o j)%p) s else .no)=_
   rw[T9<|by omega])
 have e:((aU n).map λj=>V.int<|(gt r j+k*gt o j)%p)=(ZB p r o k).map V.int:=by
  have hl:=(Zk (k:=k) hr ho).1;refine bQ λi=>?_
  rw[aK,aK];by_cases hi:i<n
  .rw[c6 hi,ag<|by rw[hl];exact hi]
   have g:=WQ (k:=k) hr ho i;unfold gt at g;rw[aO,ag<|by rw[hl];exact hi]at g
   simp only[mZ,mB]at g ⊢;rw[g];rfl
  .rw[bq (by rw[bF];omega),bq<|by rw[hl];omega];rfl
 refine Zy<|ZS ?_;rw[pv,Zc hc Zj,e];rfl
def vz(d:Nat){F:List Row}{r o:Row}{v:V}{a5:Option V}{k:Nat}(s:DS)(hn:n<=6)(hr:Zd p n r)(ho:Zd p n o)(hk:k<1000)(hl:F.length<lim) :
  rvs (CV<|d+1) [2] [.dput (.v 2) (.call 4 [(.v 0),(.v 4),(.v 5),(.v 3)])<|.c<|.bl aj] [aa<|spV p n,aa v,aa<|.dow F,aa<|Zb r,aa<|Zb o,aa<|Yg k] [2] s=.ok (.nx [aa<|spV p n,aa v,aa<|.dow<|Z8 F<|ZB p o r (k:Int),aa<|Zb r,aa<|Zb o,aa<|Yg k] [2]) s:=by
 have e:pv (CV<|d+1) (.call 4 [(.v 0),(.v 4),(.v 5),(.v 3)]) [aa<|spV p n,aa v,aa<|.dow F,aa<|Zb r,aa<|Zb o,aa<|Yg k] s=.ok (Zb<|ZB p o r (k:Int)) s:=
  ZP (Zc (Zm rfl)<|Zc (Zm rfl)<|Zc (Zm rfl)<|Zc (Zm rfl) Zj) (JK d s hn ho hr #[by omega,by omega])
 rw[Zi (ρ':=[aa<|spV p n,aa v,aa<|.dow<|Z8 F<|ZB p o r (k:Int),aa<|Zb r,aa<|Zb o,aa<|Yg k]) (os':=[2]) (s':=s) (by
  rw[rv,T9<|show([2]:List Nat).contains 2=aj from rfl,pv]
  show PR.bind (po (aa<|V.bl aj) s) _=_;rw[ZG,Za,T9 (show isT (.bl aj)=aj from rfl)]
  show PR.bind (po (aa F) s) _=_;rw[ZG,Za,e,Za];show PR.bind (po (intsV<|(ZB p o r (k:Int)).map V.int) s) _=_;rw[Yb,ZG,Za,T9 hl];rfl),rvs]
def wM(d:Nat){F:List Row}{r o:Row}{v:V}{a5:Option V}(s:DS)(hn:n<=6)(hr:Zd p n r)(ho:Zd p n o)(hl:F.length+10<lim) :
  ∃b5,rvs (CV<|d+1) [2] [.forr [5] (.rng2 (.c<|.int 1)<|.ix (.v 0)<|.c<|.int 0) [.dput (.v 2) (.call 4 [(.v 0),(.v 4),(.v 5),(.v 3)])<|.c<|.bl aj]] [aa<|spV p n,aa v,aa<|.dow F,aa<|Zb r,aa<|Zb o,a5] [2] s
   = .ok (.nx [aa<|spV p n,aa v,aa<|.dow<|((aU<|p-1).map λ(k:Nat)=>ZB p o r<|(k:Int)+1).foldl Z8 F,aa<|Zb r,aa<|Zb o,b5] [2]) s:=by
 have hp:=VD (p:=p);obtain⟨b5,_,e5⟩:=qj (C:=CV<|d+1) (ms:=[2]) (t:=[5]) (it:=.rng2 (.c<|.int 1)<|.ix (.v 0)<|.c<|.int 0) (b:=[.dput (.v 2) (.call 4 [(.v 0),(.v 4),(.v 5),(.v 3)])<|.c<|.bl aj]) (L:=aU<|p-1) (e:=λk=>Yg<|k+1) (step:=λ(F:List Row) (k:Nat)=>Z8 F<|ZB p o r<|(k:Int)+1) (O:=λF x=>[aa<|spV p n,aa v,aa<|.dow F,aa<|Zb r,aa<|Zb o,x]) (st:=F) (o:=a5) (os:=[2]) (s:=s)
  (λl F=>(∀k∈l,k<5)/\F.length+l.length<lim) (by
   show pvw (CV<|d+1) _ [aa<|spV p n,aa v,ae,aa<|Zb r,aa<|Zb o,a5] s=_;rw[pvw,show pv (CV<|d+1) (.c<|.int 1) [aa<|spV p n,aa v,ae,aa<|Zb r,aa<|Zb o,a5] s=.ok (.int 1) s by rw[pv];rfl,Za,ix0 rfl,Za]
   show(if(YN 1&&YN (p:Int))=aj then PR.ok (ZT 1 ((p:Int)-1).toNat) s else .no)=_
   rw[T9 (by rw[Vi (i:=1) (by omega) (by omega),Vi (i:=(p:Int)) (by omega)<|by omega];rfl),show((p:Int)-1).toNat=p-1 by omega]
   unfold ZT Yg
   congr 1
   refine dD λk _=>?_
   rw[Int.add_comm];rfl) #[λk hk=>by have:=bj.mp hk;omega,by rw[bF];omega] rfl (λk l F x hI=>by
   obtain⟨h1,h2⟩:=hI;rw[aL]at h2;have hk:=h1 k<|am ..;have hl2:(Z8 F<|ZB p o r<|(k:Int)+1).length<=F.length+1:=by unfold Z8;split<;>simp
   refine#[#[λq hq=>h1 q<|ak _ hq,by omega],rfl,[aa<|spV p n,aa v,aa<|.dow F,aa<|Zb r,aa<|Zb o,aa<|Yg<|k+1],aa<|Yg<|k+1,rfl,?_]
   have:=vz d (a5:=ae) (v:=v) (k:=k+1) s hn hr ho (F:=F) (by omega) (by omega)
   rw[this];rfl)
 refine#[b5,?_];rw[Zi e5,rvs,List.foldl_map]
def yy(F:List Row)(o r:Row):Qb p (o::F) r=((aU<|p-1).map λ(k:Nat)=>ZB p o r<|(k:Int)+1)++Qb p F r:=rfl
theorem Jh:∀(L F:List Row),(L.foldl Z8 F).length<=F.length+L.length
 |[],F=>az _
 |r::L,F=>by
  have h:=Jh L<|Z8 F r;have hl2:(Z8 F r).length<=F.length+1:=by unfold Z8;split<;>simp
  rw[dZ,aL];omega
theorem Q7(d:Nat){r:Row}{v:V}(s:DS)(hn:n<=6)(hr:Zd p n r):∀(L F:List Row){a4 a5:Option V},(∀o∈L,Zd p n o)->F.length+5*L.length+10<lim->
  ∃b4 b5,Yv (λx O os s=>if(([4]:List Nat).any os.contains)=aj then .no else(po (Zf [4] x O) s).bind λO s=>rvs (CV<|d+1) [2] [.forr [5] (.rng2 (.c<|.int 1)<|.ix (.v 0)<|.c<|.int 0) [.dput (.v 2) (.call 4 [(.v 0),(.v 4),(.v 5),(.v 3)])<|.c<|.bl aj]] O os s) (L.map Zb) [aa<|spV p n,aa v,aa<|.dow F,aa<|Zb r,a4,a5] [2] s
   = .ok (.nx [aa<|spV p n,aa v,aa<|.dow<|(Qb p L r).foldl Z8 F,aa<|Zb r,b4,b5] [2]) s
 |[],F,a4,a5,_,_=>#[a4,a5,rfl]
 |o::L,F,a4,a5,ho,hl=>by
  have hp:=VD (p:=p);rw[aL]at hl;obtain⟨b5,e⟩:=wM d (v:=v) (F:=F) (a5:=a5) s hn hr (ho o<|am ..) (by omega)
  have h1:=Jh ((aU<|p-1).map λ(k:Nat)=>ZB p o r<|(k:Int)+1) F
  rw[ay,bF]at h1;obtain⟨c4,c5,e2⟩:=Q7 d (v:=v) s hn hr L (((aU<|p-1).map λ(k:Nat)=>ZB p o r<|(k:Int)+1).foldl Z8 F) (a4:=aa<|Zb o) (a5:=b5) (λx hx=>ho x<|ak _ hx) (by omega)
  refine#[c4,c5,?_];rw[bf,Yv,T8 (by decide),show Zf [4] (Zb o) [aa<|spV p n,aa v,aa<|.dow F,aa<|Zb r,a4,a5]=aa [aa<|spV p n,aa v,aa<|.dow F,aa<|Zb r,aa<|Zb o,a5]from rfl,ZG,Za,e,Za]
  rw[yy,mi];exact e2
def Zap{C:Zt}{i j:Nat}{O:Env}{s:DS}{r:Row}{F:List Row}(h:O[i]?=aa (aa<|Zb r))(hj:O[j]?=aa (aa<|.dow F)):pv C (.cmp .nin (.v i)<|.v j) O s=.ok (.bl<|!F.contains r) s:=by
 rw[pv,Zm h,Za,Zm hj,Za];show po (((intsV<|r.map V.int).map λk=>F.contains k).map λb=>V.bl !b) s=_
 rw[Yb];rfl
def XY(d:Nat){R:List Row}{v:V}(s:DS)(hn:n<=6)(h1:1<=n)(hl:p^n<=1000)(hR:∀r∈R,Zd p n r)(hv:Yj v=aa (R.map Zb)):CV (d+2) 5 [spV p n,v] s=.ok (.lst<|(Zg<|Zq p n R).map Zb) s:=by
 have hp:=VD (p:=p);have big:∀{F P:List Row},HasK p n F P->F.length<=1000:=λ{F P} h=>by
  rw[h.len];refine b0 (eV (by omega) ?_) hl
  exact dsum h.part
 refine ZF rfl (by decide) rfl ?_
 show rvs (CV<|d+1) [2] (.dnw 2 (.bin .mul (.tup [(.c<|.int 0)])<|.ix (.v 0)<|.c<|.int 1) ::
  .forr [3] (.of<|.v 1) [.ite (.cmp .nin (.v 3)<|.v 2) [.forF [4] (.blt .listD [(.v 2)]) [.forr [5] (.rng2 (.c<|.int 1)<|.ix (.v 0)<|.c<|.int 0) [.dput (.v 2) (.call 4 [(.v 0),(.v 4),(.v 5),(.v 3)])<|.c<|.bl aj]]] []] ::
  .ret (.blt .sortedD [(.v 2)])::[]) [aa<|spV p n,aa v,ae,ae,ae,ae] [] s=_
 rw[Zi (ρ':=[aa<|spV p n,aa v,aa<|.dow [aA n 0],ae,ae,ae]) (os':=[2]) (s':=s) (by
  rw[rv,za hn rfl,Za];show PR.bind (po (intsV<|(aA n (0:Int)).map V.int) s) _=_;rw[Yb,ZG,Za,T9<|by show 2<6;omega];rfl)]
 obtain⟨ρ',hI,e⟩:=qB (C:=CV<|d+1) (ms:=[2]) (t:=[3]) (it:=.of<|.v 1) (b:=[.ite (.cmp .nin (.v 3)<|.v 2) [.forF [4] (.blt .listD [(.v 2)]) [.forr [5] (.rng2 (.c<|.int 1)<|.ix (.v 0)<|.c<|.int 0) [.dput (.v 2) (.call 4 [(.v 0),(.v 4),(.v 5),(.v 3)])<|.c<|.bl aj]]] []]) (L:=R) (e:=Zb) (O:=[aa<|spV p n,aa v,aa<|.dow [aA n 0],ae,ae,ae]) (os:=[2]) (s:=s)
  (λl O=>(∀r∈l,Zd p n r)/\∃F P a3 a4 a5,O=[aa<|spV p n,aa v,aa<|.dow F,a3,a4,a5]/\HasK p n F P/\l.foldl (Wu p) F=Zq p n R) (by
   show pvw (CV<|d+1) (.of<|.v 1) [aa<|spV p n,aa v,ae,ae,ae,ae] s=_;rw[pvw,Zm rfl,Za,hv];rfl) #[hR,_,_,ae,ae,ae,rfl,HasK.nil,rfl] rfl (λr l O hI=>by
   obtain⟨hr,F,P,a3,a4,a5,rfl,hF,hf⟩:=hI;have hr0:=hr r<|am ..;have hb:=big hF;refine#[by rw[Jq];rfl,[aa<|spV p n,aa v,aa<|.dow F,aa<|Zb r,a4,a5],?_]
   have et:=Zap (C:=CV<|d+1) (i:=3) (j:=2) (O:=[aa<|spV p n,aa v,aa<|.dow F,aa<|Zb r,a4,a5]) (s:=s) rfl rfl;have hfr:∀o∈F,Zd p n o:=λo ho=>((hF.mem o).mp ho).1
   by_cases c:F.contains r=aj
   .refine#[[aa<|spV p n,aa v,aa<|.dow F,aa<|Zb r,a4,a5],rfl,?_,λx hx=>hr x<|ak _ hx,F,P,_,_,_,rfl,hF,?_]
    .rw[Zi (ρ':=[aa<|spV p n,aa v,aa<|.dow F,aa<|Zb r,a4,a5]) (os':=[2]) (s':=s) (by rw[Wv<|Xh et rfl,c,T8 (by decide),rvs]),rvs]
    .rw[dZ]at hf
     unfold Wu at hf;rw[T9 c]at hf;exact hf
   .have c:F.contains r=ai:=by simpa using c
    obtain⟨b4,b5,e2⟩:=Q7 d (v:=v) (r:=r) s hn hr0 F F (a4:=a4) (a5:=a5) hfr (by unfold lim;omega)
    refine#[[aa<|spV p n,aa v,aa<|.dow<|(Qb p F r).foldl Z8 F,aa<|Zb r,b4,b5],rfl,?_,λx hx=>hr x<|ak _ hx,(Qb p F r).foldl Z8 F,Xd p P r,_,_,_,rfl,?_,?_]
    .rw[Zi (ρ':=[aa<|spV p n,aa v,aa<|.dow<|(Qb p F r).foldl Z8 F,aa<|Zb r,b4,b5]) (os':=[2]) (s':=s) (by
      rw[Wv<|Xh et rfl,c,T9 (by decide),Zi (ρ':=[aa<|spV p n,aa v,aa<|.dow<|(Qb p F r).foldl Z8 F,aa<|Zb r,b4,b5]) (os':=[2]) (s':=s) (by
       rw[rv];show PR.bind (match pv (CV<|d+1) (.blt .listD [(.v 2)]) [aa<|spV p n,aa v,ae,aa<|Zb r,a4,a5] s with
        |.ok v s=>.ok v s
        |.ex c s=>.ex c s
        |.no=>(pv (CV<|d+1) (.blt .listD [(.v 2)]) [aa<|spV p n,aa v,aa<|.dow F,aa<|Zb r,a4,a5] s).bind λw s=>if(w.flat||true&&Jy w)=aj then PR.ok w s else .no) _=_
       have g1:pv (CV<|d+1) (.blt .listD [(.v 2)]) [aa<|spV p n,aa v,ae,aa<|Zb r,a4,a5] s=.no:=by rw[pv,pvs,pv];rfl
       have g2:pv (CV<|d+1) (.blt .listD [(.v 2)]) [aa<|spV p n,aa v,aa<|.dow F,aa<|Zb r,a4,a5] s=.ok (.lst<|F.map Zb) s:=by rw[pv,Zc (Zm rfl) Zj];rfl
       rw[g1,g2];show PR.bind (if(ai||true&&Y1 (F.map Zb))=aj then PR.ok (V.lst<|F.map Zb) s else .no) _=_
       rw[VQ,T9 (show(ai||true&&aj)=aj from rfl),Za]
       exact e2),rvs]),rvs]
    .have:=hF.step hr0
     unfold Wu at this;rw[T8<|by rw[c];decide]at this
     exact this
    .rw[dZ]at hf
     unfold Wu at hf;rw[T8<|by rw[c];decide]at hf
     exact hf)
 obtain⟨_,F,P,a3,a4,a5,rfl,hF,hf⟩:=hI;rw[Zi e];refine Zy<|ZS ?_;have hf:F=Zq p n R:=hf;subst hf;rw[pv,Zc (Zm rfl) Zj,Za];have hb:=big hF;have ho:ZR (Zq p n R)=aj:=by
  unfold ZR;rw[aD,aD];refine#[#[T5 (by omega),T5 hF.nd],bG.mpr λr hr=>?_]
  have:=((hF.mem r).mp hr).1.1;cases r with|nil=>simp at this;omega|cons _ _=>rfl
 show po (if ZR (Zq p n R)=aj then aa (V.lst<|(Zg<|Zq p n R).map Zb)else ae) s=_
 rw[T9 ho];rfl
def Uy(d:Nat)(s:DS)(hn:n<=6):CV (d+1) 6 [spV p n] s=.ok (.lst<|(units n).map Zb) s:=by
 refine ZF rfl (by decide) rfl ?_
 show rvs (CV d) [] (.ret (.comp1 [0] 1 [0] (.rng1<|.ix (.v 0)<|.c<|.int 1) []<|.blt .tuple [(.comp1 [0] 1 [0] (.rng1<|.ix (.v 1)<|.c<|.int 1) []<|.blt .toInt [(.cmp .eq (.v 0)<|.v 1)])])::[]) [aa<|spV p n] [] s=_;have hc:=ZW (C:=CV d) (cap:=[0]) (nl:=1) (t:=[0]) (it:=.rng1<|.ix (.v 0)<|.c<|.int 1) (elt:=.blt .tuple [(.comp1 [0] 1 [0] (.rng1<|.ix (.v 1)<|.c<|.int 1) []<|.blt .toInt [(.cmp .eq (.v 0)<|.v 1)])]) (O:=[aa<|spV p n]) (s:=s) (l:=aU n) (e:=Yg) (g:=λj=>Zb<|G8 n j)
  (XO (ix1 rfl)<|by omega) (by rw[bF];unfold lim;omega) (λj hj=>by
   refine#[[aa<|Yg j,aa<|spV p n],rfl,?_];have hc:=ZW (C:=CV d) (cap:=[0]) (nl:=1) (t:=[0]) (it:=.rng1<|.ix (.v 1)<|.c<|.int 1) (elt:=.blt .toInt [(.cmp .eq (.v 0)<|.v 1)]) (O:=[aa<|Yg j,aa<|spV p n]) (s:=s) (l:=aU n) (e:=Yg) (g:=λi=>V.int (if i=j then 1 else 0))
    (XO (ix1 rfl)<|by omega) (by rw[bF];unfold lim;omega) (λi hi=>by
     refine#[[aa<|Yg i,aa<|Yg j],rfl,?_];have e:pv (CV d) (.cmp .eq (.v 0)<|.v 1) [aa<|Yg i,aa<|Yg j] s=.ok (.bl<|al<|(i:Int)=j) s:=by
      rw[pv,Zm rfl,Za,Zm rfl,Za];rfl
     rw[pv,Zc e Zj,Za];show PR.ok (V.int<|b2i<|al<|(i:Int)=j) s=_;by_cases c:i=j
     .rw[T9 c,T5<|by omega];rfl
     .rw[T8 c,T4<|by omega];rfl)
   rw[pv,Zc hc Zj,Za];unfold G8 Zb;rw[cf];rfl)
 refine Zy<|ZS ?_;rw[hc];unfold units;rw[cf];rfl
end
open Ab (okV XU)
section
variable{C:Zt}{O:Env}{s s1 s2:DS}{a b:E}{x y:V}{xs ys:List V}
def zy{i:Int}:pv C (.c<|.int i) O s=.ok (.int i) s:=by rw[pv];rfl
def ZbH(h:∀x∈xs,okV x=aj):XU xs=aj:=by
 induction xs with
 |nil=>rfl
 |cons x xs ih=>
  show(okV x&&XU xs)=aj;rw[h x<|am ..,ih λy hy=>h y<|ak _ hy];rfl
def uj{B:Type}{ms:List Nat}{i:Nat}{it:W}{b:List Sm}{L:List B}{e:B->V}{q:B->Bool}{v:V}{O:Option V->Env}(o:Option V)(hw:pvw C it (hide []<|O o) s=.ok (L.map e) s)(hs:∀o x,(O o).set i (aa x)=O (aa x))(hb:∀x∈L,rvs C ms b (O<|aa<|e x) [] s=if q x=aj then .ok (.ret v) s else .ok (.nx (O<|aa<|e x) []) s) :
  (L.any q=aj->rv C ms (.forr [i] it b) (O o) [] s=.ok (.ret v) s)/\(L.any q=ai->∃o',rv C ms (.forr [i] it b) (O o) [] s=.ok (.nx (O o') []) s):=by
 rw[rv,hw,Za];clear hw
 induction L generalizing o with
 |nil=>exact#[λh=>(by cases h),λ_=>#[o,rfl]]
 |cons x L ih=>
  have ih:=ih (aa<|e x) λy hy=>hb y<|ak _ hy
  have h1:=hb x<|am ..;have step:Yv (λx O os s=>if(([i]:List Nat).any os.contains)=aj then .no else(po (Zf [i] x O) s).bind λO s=>rvs C ms b O os s) ((x::L).map e) (O o) [] s=if q x=aj then .ok (.ret v) s else Yv (λx O os s=>if(([i]:List Nat).any os.contains)=aj then .no else(po (Zf [i] x O) s).bind λO s=>rvs C ms b O os s) (L.map e) (O<|aa<|e x) [] s:=by
   rw[bf,Yv,T8<|by simp]
   show((PR.ok ((O o).set i<|aa<|e x) s).bind λO s=>rvs C ms b O [] s).bind _=_
   rw[Za,hs o<|e x,h1];cases q x<;>rfl
  rw[step,fv];cases hq:q x with
  |true=>exact#[λ_=>rfl,λh=>(by cases h)]
  |false=>
   rw[T8 (by simp),iu]
   exact ih
end
section
variable{C:Zt}{O:Env}{s:DS}{a b:E}
def vg{c:Bool}(h1:pv C a O s=.ok (.bl ai) s)(h2:pv C b O s=.ok (.bl c) s):pv C (.or a b) O s=.ok (.bl c) s:=by rw[pv,h1];exact h2
def Za6{c c':Bool}(h1:pv C a O s=.ok (.bl c) s)(h2:pv C b O s=.ok (.bl c') s):pv C (.and a b) O s=.ok (.bl<|c&&c') s:=by
 rw[pv,h1];cases c
 .rfl
 .exact h2
def vA{c:Bool}(h1:pv C a O s=.ok (.bl c) s):pv C (.not a) O s=.ok (.bl !c) s:=by rw[pv,h1];rfl
def ZbS{c c':Bool}(h1:pv C a O s=.ok (.bl c) s)(h2:pv C b O s=.ok (.bl c') s)(h:c=c'):pv C (.cmp .ne a b) O s=.ok (.bl ai) s:=by
 subst h;rw[pv,h1,Za,h2,Za];cases c<;>rfl
def va(h1:pv C a O s=.ok (.bl aj) s):pv C (.cmp .isn a<|.c<|.bl aj) O s=.ok (.bl ai) s:=by
 rw[pv,h1,Za,pv];rfl
def XA{f:Nat}{x y:E}{v w r:V}(h1:pv C x O s=.ok v s)(h2:pv C y O s=.ok w s)(h:C f [v,w] s=.ok r s):pv C (.call f [x,y]) O s=.ok r s:=ZP (Zc h1<|Zc h2 Zj) h
def guard{ms:List Nat}{t:E}{x l:List Sm}(h:pv C t O s=.ok (.bl ai) s):rvs C ms (.ite t x []::l) O [] s=rvs C ms l O [] s:=by
 rw[Zi<|(Wv<|Xh h rfl).trans<|by rw[T8 (by simp),rvs]]
def wT{P:List Row}(h1:pv C a O s=.ok (ZK P) s):pv C (.blt .len [a]) O s=.ok (.int P.length) s:=by
 rw[pv,Zc h1 Zj,Za];show po (aa<|V.int (P.map Zb).length) s=_;rw[ay];rfl
end
def zD{C:Zt}{ms os:List Nat}{O:Env}{s:DS}{B:Type}{t:List Nat}{it:W}{b:List Sm}{L:List B}{e:B->V}(I:List B->Env->Prop){s0:DS}(hw:pvw C it (hide os O) s=.ok (L.map e) s0)(hI:I L O)(ht:(t.any os.contains)=ai)
  (h:∀x l O s,I (x::l) O->∃ρ1 ρ' s',Zf t (e x) O=aa ρ1/\rvs C ms b ρ1 os s=.ok (.nx ρ' os) s'/\I l ρ') :
  ∃ρ' s',I [] ρ'/\rv C ms (.forr t it b) O os s=.ok (.nx ρ' os) s':=by
 rw[rv,hw,Za];clear hw
 induction L generalizing O s0 with
 |nil=>exact#[O,s0,hI,rfl]
 |cons x L ih=>
  obtain⟨ρ1,ρ',s',b1,b2,b3⟩:=h x L O s0 hI;obtain⟨ρ2,s2,c1,c2⟩:=ih b3;refine#[ρ2,s2,c1,?_];rw[bf,Yv,T8 (by rw[ht];simp),b1,ZG,Za,b2,Za]
  exact c2
section
variable{p n:Nat}[Base p]
def yw(d:Nat){x:V}{lo hi:Int}(s:DS)(hx:okV x=aj):CV (d+1) 21 [x,.int lo,.int hi] s=.ok (.bl<|isW x lo hi) s:=by
 refine ZF rfl (by decide) rfl ?_
 rcases w4 hx with⟨i,rfl⟩|⟨b,rfl⟩|⟨ha,no⟩
 .by_cases h:lo<=i
  .simp[Z7,pvE,isW,Yc,Y0,h]
  .simp[Z7,pvE,isW,Yc,Y0,h]
 .simp[Z7,pvE,isW,Yc,Y0]
 .rw[wR no]
  simp[Z7,pvE,ha]
def um{C:Zt}{O:Env}{s:DS}{i:Nat}{x:V}(h:O[i]?=aa (aa x))(hx:okV x=aj):pv C (.not<|.isi (.v i) [.tuple]) O s=.ok (.bl (!match x with|.tup _=>aj|_=>ai)) s:=by
 have g:pv C (.isi (.v i) [.tuple]) O s=.ok (.bl (match x with|.tup _=>aj|_=>ai)) s:=by
  rw[pv,Zm h,Za];rcases Gr hx with⟨xs,rfl⟩|⟨ha,no⟩
  .rfl
  .rw[ha]
   cases x<;>first|rfl|exact T7 rfl<|no _
 exact vA g
def WY{C:Zt}{O:Env}{s:DS}{i:Nat}{x:V}{e:E}{ms:List Nat}{l:List Sm}(h:O[i]?=aa (aa x))(hx:okV x=aj)(he:pv C e O s=.ok (.int n) s):(∃xs,x=.tup xs/\xs.length=n/\rvs C ms (.ite (.or (.not<|.isi (.v i) [.tuple])<|.cmp .ne (.blt .len [(.v i)]) e) [.ret<|.c<|.bl ai] []::l) O [] s=rvs C ms l O [] s)\/
  ((∀xs,x=.tup xs->xs.length≠n)/\rvs C ms (.ite (.or (.not<|.isi (.v i) [.tuple])<|.cmp .ne (.blt .len [(.v i)]) e) [.ret<|.c<|.bl ai] []::l) O [] s=.ok (.ret<|.bl ai) s):=by
 have g:=um (C:=C) (O:=O) (s:=s) h hx;have fin:pv C (.or (.not<|.isi (.v i) [.tuple])<|.cmp .ne (.blt .len [(.v i)]) e) O s=.ok (.bl aj) s->rvs C ms (.ite (.or (.not<|.isi (.v i) [.tuple])<|.cmp .ne (.blt .len [(.v i)]) e) [.ret<|.c<|.bl ai] []::l) O [] s=.ok (.ret<|.bl ai) s:=λq=>by
  refine Zy ?_;rw[Wv<|Xh q rfl,T9 rfl];exact Zy<|ZS<|by rw[pv];rfl
 rcases Gr hx with⟨xs,rfl⟩|⟨_,no⟩
 .have e1:pv C (.cmp .ne (.blt .len [(.v i)]) e) O s=.ok (.bl !decide ((xs.length:Int)=n)) s:=by
   have:pv C (.blt .len [(.v i)]) O s=.ok (.int xs.length) s:=by rw[pv,Zc (Zm h) Zj];rfl
   rw[pv,this,Za,he,Za];rfl
  by_cases c:xs.length=n
  .refine .inl #[xs,rfl,c,guard<|vg g ?_]
   rw[e1,T5<|by omega];rfl
  .refine .inr #[λys z=>by cases z;exact c,fin<|vg g ?_]
   rw[e1,T4<|by omega];rfl
 .refine .inr #[λxs z=>T7 z<|no xs,fin ?_]
  rw[pv,g];cases x<;>first|rfl|exact T7 rfl<|no _
def Ge(d:Nat){x:V}(s:DS)(hn:n<=6)(hx:okV x=aj):CV (d+2) 22 [spV p n,x] s=.ok (.bl<|ZA p n x) s:=by
 refine ZF rfl (by decide) rfl ?_
 show rvs (CV<|d+1) [] (.ite (.or (.not<|.isi (.v 1) [.tuple])<|.cmp .ne (.blt .len [(.v 1)])<|.ix (.v 0)<|.c<|.int 1) [.ret<|.c<|.bl ai] [] ::
  .ret (.blt .all [(.comp1 [0] 1 [0] (.of<|.v 1) []<|.call 21 [(.v 0),(.c<|.int 0),(.bin .sub (.ix (.v 1)<|.c<|.int 0)<|.c<|.int 1)])])::[]) [aa<|spV p n,aa x] [] s=_
 rcases WY (C:=CV<|d+1) (ms:=[]) (i:=1) (O:=[aa<|spV p n,aa x]) (s:=s) (n:=n) (e:=.ix (.v 0)<|.c<|.int 1) (l:=.ret (.blt .all [(.comp1 [0] 1 [0] (.of<|.v 1) []<|.call 21 [(.v 0),(.c<|.int 0),(.bin .sub (.ix (.v 1)<|.c<|.int 0)<|.c<|.int 1)])])::[]) rfl hx (ix1 rfl)with⟨xs,rfl,hl,e⟩|⟨no,e⟩
 .rw[e]
  refine Zy<|ZS ?_;have hc:=ZW (C:=CV<|d+1) (cap:=[0]) (nl:=1) (t:=[0]) (it:=.of<|.v 1) (elt:=.call 21 [(.v 0),(.c<|.int 0),(.bin .sub (.ix (.v 1)<|.c<|.int 0)<|.c<|.int 1)]) (O:=[aa<|spV p n,aa<|.tup xs]) (s:=s) (l:=xs) (e:=id) (g:=λv=>V.bl<|isW v 0<|(p:Int)-1)
   (by rw[pvw,Zm rfl,Za,kR];rfl) (by unfold lim;omega) (λv hv=>#[[aa v,aa<|spV p n],rfl,by
    have e2:pv (CV<|d+1) (.bin .sub (.ix (.v 1)<|.c<|.int 0)<|.c<|.int 1) [aa v,aa<|spV p n] s=.ok (.int<|(p:Int)-1) s:=by
     rw[pv,ix0 rfl,Za,zy,Za];rfl
    exact ZP (Zc (Zm rfl)<|Zc zy<|Zc e2 Zj)<|yw d s<|Vs hx v hv])
  rw[pv,Zc hc Zj,Za];show po ((ZX<|xs.map λv=>V.bl<|isW v 0<|(p:Int)-1).map λbs=>V.bl<|bs.all id) s=_
  rw[Xm];show PR.ok (V.bl<|(xs.map λv=>isW v 0<|(p:Int)-1).all id) s=_
  unfold ZA;simp[hl]
 .rw[e]
  have:ZA p n x=ai:=by
   cases x with|tup xs=>show(al (xs.length=n)&&_)=ai;rw[T4<|no xs rfl];rfl|_=>rfl
  rw[this]
theorem Xi:∀{xs:List V},xs.all (ZA p n)=aj->∃R:List Row,xs=R.map Zb/\∀r∈R,Zd p n r
 |[],_=>#[[],rfl,λ_ h=>by cases h]
 |x::xs,h=>by
  rw[fY,aD]at h;obtain⟨R,rfl,hR⟩:=Xi h.2;obtain⟨r,rfl,hr⟩:=ZaU h.1;refine#[r::R,rfl,λy hy=>?_]
  rcases aC.mp hy with rfl|hy
  .exact hr
  .exact hR y hy
def vq{R:List Row}(hR:∀r∈R,Zd p n r):(R.map Zb).all (ZA p n)=aj:=bG.mpr λv hv=>by
 obtain⟨r,hr,rfl⟩:=aT.mp hv;exact Zci<|hR r hr
noncomputable def Z5(p n:Nat)(x:V):Bool:=match x with
 |.tup xs=>al (xs.length=n)&&(xs.all (ZA p n)&&al ((Z0 p []<|(ZV xs).getD []).length=n))
 |_=>ai
def zT{x:V}(h:∀xs,x=.tup xs->xs.length≠n):Z5 p n x=ai:=by
 cases x with|tup xs=>show(al (xs.length=n)&&_)=ai;rw[T4<|h xs rfl];rfl|_=>rfl
def Wj{R:List Row}(hl:R.length=n)(hR:∀r∈R,Zd p n r):Z5 p n (.tup<|R.map Zb)=al ((Z0 p [] R).length=n):=by
 show(al ((R.map Zb).length=n)&&((R.map Zb).all (ZA p n)&&al ((Z0 p []<|(ZV<|R.map Zb).getD []).length=n)))=_;rw[ay,T5 hl,vq hR,Wp];rfl
def X2(d:Nat){x:V}(s:DS)(hn:n<=6)(hx:okV x=aj):CV (d+6) 18 [spV p n,x] s=.ok (.bl<|Z5 p n x) s:=by
 refine ZF rfl (by decide) rfl ?_
 show rvs (CV<|d+5) [] (.asg [2,3] (.v 0) :: .ite (.or (.not<|.isi (.v 1) [.tuple])<|.cmp .ne (.blt .len [(.v 1)])<|.v 3) [.ret<|.c<|.bl ai] [] ::
  .ret (.and (.blt .all [(.comp1 [0] 1 [0] (.of<|.v 1) []<|.call 9 [(.v 1),(.v 0)])])<|.cmp .eq (.blt .len [(.call 17 [(.v 0),(.tup []),(.v 1)])])<|.v 3)::[]) [aa<|spV p n,aa x,ae,ae] [] s=_
 rw[Zi<|Xu (p:=p) (n:=n) _ _ (by simp[pvE])<|by simp]
 show rvs (CV<|d+5) [] _ [aa<|spV p n,aa x,aa<|.int p,aa<|.int n] [] s=_;rcases WY (C:=CV<|d+5) (ms:=[]) (i:=1) (O:=[aa<|spV p n,aa x,aa<|.int p,aa<|.int n]) (s:=s) (n:=n) (e:=.v 3) (l:=.ret (.and (.blt .all [(.comp1 [0] 1 [0] (.of<|.v 1) []<|.call 9 [(.v 1),(.v 0)])])<|.cmp .eq (.blt .len [(.call 17 [(.v 0),(.tup []),(.v 1)])])<|.v 3)::[]) rfl hx (Zm rfl)with⟨xs,rfl,hl,e⟩|⟨no,e⟩
 .rw[e]
  refine Zy<|ZS ?_;have hc:=ZW (C:=CV<|d+5) (cap:=[0]) (nl:=1) (t:=[0]) (it:=.of<|.v 1) (elt:=.call 9 [(.v 1),(.v 0)]) (O:=[aa<|spV p n,aa<|.tup xs,aa<|.int p,aa<|.int n]) (s:=s) (l:=xs) (e:=id) (g:=λv=>V.bl<|ZA p n v)
   (by rw[pvw,Zm rfl,Za,kR];rfl) (by unfold lim;omega) (λv hv=>#[[aa v,aa<|spV p n],rfl,ZP (Zc (Zm rfl)<|Zc (Zm rfl) Zj)<|uJ (d+3) s hn<|Vs hx v hv])
  have ha:pv (CV<|d+5) (.blt .all [(.comp1 [0] 1 [0] (.of<|.v 1) []<|.call 9 [(.v 1),(.v 0)])]) [aa<|spV p n,aa<|.tup xs,aa<|.int p,aa<|.int n] s=.ok (.bl<|xs.all<|ZA p n) s:=by
   rw[pv,Zc hc Zj,Za];show po ((ZX<|xs.map λv=>V.bl<|ZA p n v).map λbs=>V.bl<|bs.all id) s=_
   rw[Xm];show PR.ok (V.bl<|(xs.map<|ZA p n).all id) s=_;rw[List.all_map];rfl
  cases q:xs.all (ZA p n)with
  |false=>
   rw[q]at ha;rw[pv,ha];show PR.ok (V.bl ai) s=_;have:Z5 p n (.tup xs)=ai:=by
    show(al (xs.length=n)&&(xs.all (ZA p n)&&_))=ai;rw[q,kE,kJ]
   rw[this]
  |true=>
   rw[q]at ha;obtain⟨R,rfl,hR⟩:=Xi q;rw[ay]at hl;have hw:=Ve d (P:=[]) (R:=R) (v:=.tup<|R.map Zb) s hn pZ.nil hR rfl;have e2:pv (CV<|d+5) (.call 17 [(.v 0),(.tup []),(.v 1)]) [aa<|spV p n,aa<|.tup<|R.map Zb,aa<|.int p,aa<|.int n] s=.ok (ZK<|Z0 p [] R) s:=
    ZP (Zc (Zm rfl)<|Zc (by rw[pv,pvs];rfl)<|Zc (Zm rfl) Zj) hw
   rw[Wj hl hR,pv,ha];show pv (CV<|d+5) (.cmp .eq (.blt .len [(.call 17 [(.v 0),(.tup []),(.v 1)])])<|.v 3) _ s=_;rw[pv,wT e2,Za,Zm rfl,Za];show PR.ok (V.bl<|al<|((Z0 p [] R).length:Int)=n) s=_
   congr 2
   exact decide_eq_decide.mpr #[λz=>by omega,λz=>by omega]
 .rw[e,zT no]
def Vr(L:List Row):(Zg L).length=L.length:=by
 have ins:∀(x:Row)(l:List Row),(Yy x l).length=l.length+1:=λx l=>by
  induction l with|nil=>rfl|cons y l ih=>unfold Yy;split<;>simp[ih]
 induction L with|nil=>rfl|cons x L ih=>show(Yy x<|Zg L).length=_;rw[ins,ih];rfl
def Je(d:Nat){x:V}(s:DS)(hn:n<=6)(h1:1<=n)(hp:p^n<=1000)(hx:okV x=aj):CV (d+3) 23 [spV p n,x] s=.ok (.bl<|Z5 p n x) s:=by
 refine ZF rfl (by decide) rfl ?_
 let l2:List Sm:=[.ret<|.cmp .eq (.blt .len [(.call 5 [(.v 0),(.v 1)])])<|.blt .len [(.call 5 [(.v 0),(.call 6 [(.v 0)])])]]
 let l1:List Sm:=.forr [2] (.of<|.v 1) [.ite (.not<|.call 22 [(.v 0),(.v 2)]) [.ret<|.c<|.bl ai] []]::l2
 show rvs (CV<|d+2) [] (.ite (.or (.not<|.isi (.v 1) [.tuple])<|.cmp .ne (.blt .len [(.v 1)])<|.ix (.v 0)<|.c<|.int 1) [.ret<|.c<|.bl ai] []::l1) [aa<|spV p n,aa x,ae] [] s=_;rcases WY (C:=CV<|d+2) (ms:=[]) (i:=1) (O:=[aa<|spV p n,aa x,ae]) (s:=s) (n:=n) (e:=.ix (.v 0)<|.c<|.int 1) (l:=l1) rfl hx (ix1 rfl)with⟨xs,rfl,hl,e⟩|⟨no,e⟩
 .rw[e]
  obtain⟨g1,g2⟩:=uj (C:=CV<|d+2) (ms:=[]) (i:=2) (it:=.of<|.v 1) (b:=[.ite (.not<|.call 22 [(.v 0),(.v 2)]) [.ret<|.c<|.bl ai] []]) (L:=xs) (e:=id) (q:=λv=>!ZA p n v) (v:=.bl ai) (O:=λo=>[aa<|spV p n,aa<|.tup xs,o]) (s:=s) ae
   (by
    show pvw (CV<|d+2) (.of<|.v 1) [aa<|spV p n,aa<|.tup xs,ae] s=_;rw[pvw,Zm rfl,Za,kR];rfl) (λ_ _=>rfl) (λv hv=>by
    have e3:pv (CV<|d+2) (.not<|.call 22 [(.v 0),(.v 2)]) [aa<|spV p n,aa<|.tup xs,aa v] s=.ok (.bl !ZA p n v) s:=vA<|XA (Zm rfl) (Zm rfl)<|Ge d s hn<|Vs hx v hv;show rvs _ _ _ [aa<|spV p n,aa<|.tup xs,aa v] [] s=if(!ZA p n v)=aj then _ else PR.ok (.nx [aa<|spV p n,aa<|.tup xs,aa v] []) s
    cases q:(!ZA p n v)with
    |true=>
     rw[q]at e3;rw[T9 rfl];refine Zy ?_;rw[Wv<|Xh e3 rfl,T9 rfl];exact Zy<|ZS<|by rw[pv];rfl
    |false=>rw[q]at e3;rw[T8 (by decide),guard e3,rvs])
  cases q:xs.all (ZA p n)with
  |false=>
   have:(xs.any λv=>!ZA p n v)=aj:=by
    rw[iU];simp[q]
   rw[show l1=.forr [2] (.of<|.v 1) [.ite (.not<|.call 22 [(.v 0),(.v 2)]) [.ret<|.c<|.bl ai] []]::l2 from rfl,Zy<|g1 this]
   have:Z5 p n (.tup xs)=ai:=by
    show(al (xs.length=n)&&(xs.all (ZA p n)&&_))=ai;rw[q,kE,kJ]
   rw[this]
  |true=>
   have:(xs.any λv=>!ZA p n v)=ai:=by
    rw[iU];simp[q]
   obtain⟨o',g2⟩:=g2 this;obtain⟨R,rfl,hR⟩:=Xi q;rw[ay]at hl;rw[show l1=.forr [2] (.of<|.v 1) [.ite (.not<|.call 22 [(.v 0),(.v 2)]) [.ret<|.c<|.bl ai] []]::l2 from rfl,Zi g2]
   refine Zy<|ZS ?_;have u1:pv (CV<|d+2) (.call 5 [(.v 0),(.v 1)]) [aa<|spV p n,aa<|.tup<|R.map Zb,o'] s=.ok (.lst<|(Zg<|Zq p n R).map Zb) s:=XA (Zm rfl) (Zm rfl)<|XY d s hn h1 hp hR rfl;have u2:pv (CV<|d+2) (.call 6 [(.v 0)]) [aa<|spV p n,aa<|.tup<|R.map Zb,o'] s=.ok (.lst<|(units n).map Zb) s:=ZP (Zc (Zm rfl) Zj)<|Uy (d+1) s hn;have u3:pv (CV<|d+2) (.call 5 [(.v 0),(.call 6 [(.v 0)])]) [aa<|spV p n,aa<|.tup<|R.map Zb,o'] s=.ok (.lst<|(Zg<|Zq p n<|units n).map Zb) s:=XA (Zm rfl) u2<|XY d s hn h1 hp Yn rfl
   have len:∀{e:E}{L:List Row},pv (CV<|d+2) e [aa<|spV p n,aa<|.tup<|R.map Zb,o'] s=.ok (.lst<|(Zg L).map Zb) s->pv (CV<|d+2) (.blt .len [e]) [aa<|spV p n,aa<|.tup<|R.map Zb,o'] s=.ok (.int L.length) s:=λ{e L} h=>by
    rw[pv,Zc h Zj];show PR.ok (V.int ((Zg L).map Zb).length) s=_;rw[ay,Vr]
   have e4:pv (CV<|d+2) (.cmp .eq (.blt .len [(.call 5 [(.v 0),(.v 1)])])<|.blt .len [(.call 5 [(.v 0),(.call 6 [(.v 0)])])]) [aa<|spV p n,aa<|.tup<|R.map Zb,o'] s=.ok (.bl<|al<|((Zq p n R).length:Int)=((Zq p n<|units n).length:Nat)) s:=by
    rw[pv,len u1,Za,len u3,Za];rfl
   rw[Wj hl hR,e4,decide_eq_decide.mpr<|Iff.trans #[λz=>Int.ofNat_inj.mp z,λz=>by rw[z]]<|vo hn hR]
 .rw[e,zT no]
end
end K71
namespace Ab
open Ev Pv
noncomputable def clear(Γ:Cx)(i:Nat):Bool:=(Γ[i]?).join.isNone&&Γ.all λo=>match o with
 |some t=>yz t i
 |none=>aj
def zH{Γ:Cx}{O:Env}{i:Nat}{o:Option V}(he:Z3 Γ O)(h:clear Γ i=aj):Z3 Γ (O.set i o):=by
 obtain⟨h1,h2⟩:=(aD _ _).mp h;intro j t hj;have ij:i≠j:=λe=>by rw[e,hj]at h1;cases h1
 obtain⟨v,hv,hh⟩:=he j t hj;refine#[v,by rw[aQ ij];exact hv,?_]
 have hn:yz t i=aj:=by
  cases q:Γ[j]? with
  |none=>rw[q]at hj;cases hj
  |some o=>
   rw[q]at hj;have:o=aa t:=hj;exact bG.mp h2 (aa t)<|cW<|by rw[q,this]
 cases t with
 |idx k=>
  obtain⟨j',xs,e,hx,hb⟩:=hh;exact#[j',xs,e,by rw[aQ<|Ne.symm<|T6 hn];exact hx,hb]
 |_=>exact hh
def QY{O:Env}{i:Nat}{o:Option V}:hide [i] (O.set i o)=O.set i ae:=by
 unfold hide;refine bQ λj=>?_
 rw[d7];by_cases c:i=j
 .subst c
  by_cases hl:i<O.length
  .rw[ba hl,ba hl];simp
  .rw[bq (by rw[bc];omega),bq<|by rw[bc];omega];rfl
 .rw[aQ c,aQ c]
  cases O[j]? with|none=>rfl|some o=>simp[Ne.symm c]
def xO{ts:List T}{vs:List V}(h:Al ts vs)(hk:ts.all (λt=>match JY t with|some m=>al<|m<=1000|none=>ai)=aj):vs.length=ts.length/\∀v∈vs,Th 1000 v:=by
 induction ts generalizing vs with
 |nil=>cases h;exact#[rfl,nofun]
 |cons t ts ih=>
  obtain⟨v,ws,rfl,h1,h2⟩:=h;rw[fY,aD]at hk;obtain⟨l,k⟩:=ih h2 hk.2;refine#[by rw[aL,aL,l],λw hw=>?_]
  rcases aC.mp hw with rfl|hw
  .have:=hk.1
   split at this
   .next m hm=>exact(Xz hm h1).le<|T6 this
   .cases this
  .exact k w hw
noncomputable def ths(ts:List T):Bool:=ts.all λt=>match JY t with|some m=>al<|m<=1000|none=>ai
noncomputable def ZbJ(tk:Nat)(Φ:Sg)(Γ:Cx)(i:Nat)(es fs:List E)(g k:E):Bool:=clear Γ i&&match tys tk Φ Γ es,tys tk Φ Γ fs,tys tk Φ Γ [g],ty tk Φ Γ k with
 |some a,aa b,aa c,aa (.int lo hi)=>ths a&&(ths b&&(ths c&&(al (0<=lo)&&(al (hi<(a.length+b.length+1:Nat))&&al (a.length+b.length<=1000)))))
 |_,_,_,_=>ai
def ZaB{tk:Nat}{Φ:Sg}{C:Zt}(F:Fine tk Φ C){Γ:Cx}{O:Env}{i:Nat}{es fs:List E}{g k:E}{ms:List Nat}(s:DS)(he:Z3 Γ O)(hi:i<O.length)(h:ZbJ tk Φ Γ i es fs g k=aj) :
  ∃v s',rvs C ms [.lnw i es,.cat i fs,.app i g,.ret<|.ix (.v i) k] O [] s=.ok (.ret v) s'/\Th 1000 v:=by
 obtain⟨hc,h⟩:=(aD _ _).mp h;split at h
 case h_2=>cases h
 next a b c lo hi' ha hb hg hk=>
 simp only[aD,T0]at h;obtain⟨h1,h2,h3,h4,h5,h6⟩:=h;obtain⟨xs,s1,e1,q1⟩:=YT F es s he ha;obtain⟨l1,k1⟩:=xO q1 h1;have he':Z3 Γ (O.set i ae):=zH he hc;obtain⟨ys,s2,e2,q2⟩:=YT F fs s1 he' hb;obtain⟨l2,k2⟩:=xO q2 h2;obtain⟨zs,s3,e3,q3⟩:=YT F [g] s2 he' hg;obtain⟨l3,k3⟩:=xO q3 h3;obtain⟨z,e4⟩:∃z,pv C g (O.set i ae) s2=.ok z s3/\zs=[z]:=by
  rw[pvs]at e3;cases q:pv C g (O.set i ae) s2 with|ok z t=>rw[q]at e3;cases e3;exact#[z,rfl,rfl]|ex _ _=>rw[q]at e3;cases e3|no=>rw[q]at e3;cases e3
 obtain⟨e4,rfl⟩:=e4;have he3:Z3 Γ (O.set i<|aa<|.lst<|(xs++ys)++[z]):=zH he hc;obtain⟨w,s4,e5,j,rfl,hj1,hj2⟩:=Yr F k s3 he3 hk;have hlen:((xs++ys)++[z]).length=a.length+b.length+1:=by rw[aW,aW,l1,l2];rfl
 have hh0:hide [] O=O:=by
  unfold hide;refine bQ λi=>?_
  rw[d7];cases O[i]?<;>rfl
 have lst:∀{ws:List V},XV (O.set i<|aa<|.lst ws)[i]?=aa ws:=λ{ws}=>by rw[ba hi];rfl
 have con:([i]:List Nat).contains i=aj:=by simp
 obtain⟨v,hv,e6⟩:∃v∈(xs++ys)++[z],at' ((xs++ys)++[z]) j=aa v:=by
  obtain⟨m,rfl⟩:∃m:Nat,j=m:=#[j.toNat,by omega]
  have hm:m<((xs++ys)++[z]).length:=by rw[hlen];omega
  exact#[_,aV hm,Qv<|ag hm]
 refine#[v,s4,?_,?_]
 .rw[Zi (ρ':=O.set i<|aa<|.lst xs) (os':=[i]) (s':=s1) (by
   rw[rv,hh0,e1,Za,T9 #[by unfold lim;omega,hi]];rfl)]
  rw[Zi (ρ':=O.set i<|aa<|.lst<|xs++ys) (os':=[i]) (s':=s2) (by
   rw[rv,T9 con,lst,ZG,Za,QY,e2,Za,T9 #[by unfold lim;omega,by unfold lim;omega,by rw[bc];exact hi],List.set_set]
   simp)]
  rw[Zi (ρ':=O.set i<|aa<|.lst<|(xs++ys)++[z]) (os':=[i]) (s':=s3) (by
   rw[rv,T9 con,lst,ZG,Za,QY,e4,Za,T9 (by rw[aW];unfold lim;omega),List.set_set])]
  refine Zy<|ZS ?_;rw[pv,Zm<|ba hi,Za,e5,Za];show po (at' ((xs++ys)++[z]) j) s4=_;rw[e6];rfl
 .rcases cg.mp hv with hv|hv
  .rcases cg.mp hv with hv|hv
   .exact k1 v hv
   .exact k2 v hv
  .exact k3 v hv
noncomputable def chkT(tk:Nat)(Φ:Sg):List Sm->Cx->Bool
 |[.lnw i es,.cat j fs,.app k g,.ret<|.ix (.v l) e],Γ=>al (i=j/\i=k/\i=l/\i<Γ.length)&&ZbJ tk Φ Γ i es fs g e
 |.asg [i] e::ss,Γ=>match ty tk Φ Γ e with
  |some t=>al (i<Γ.length)&&(yz t i&&chkT tk Φ ss (yC Γ i t))
  |none=>ai
 |_,_=>ai
def chkT_ok{tk:Nat}{Φ:Sg}{C:Zt}(F:Fine tk Φ C):∀(ss:List Sm){Γ:Cx}{O:Env}(s:DS),chkT tk Φ ss Γ=aj->Z3 Γ O->O.length=Γ.length->∃v s',rvs C [] ss O [] s=.ok (.ret v) s'/\Th 1000 v:=by
 intro ss
 induction ss with
 |nil=>intro Γ O s h;simp[chkT]at h
 |cons m ss ih=>
  intro Γ O s h he hl;unfold chkT at h;split at h
  .next i es j fs k g l e en=>
   obtain⟨h1,h2⟩:=(aD _ _).mp h;obtain⟨rfl,rfl,rfl,hi⟩:=T6 h1;cases en;exact ZaB F s he (by rw[hl];exact hi) h2
  .next i e ss' en=>
   cases en;split at h
   .next t ht=>
    obtain⟨h1,h2⟩:=(aD _ _).mp h;obtain⟨h2,h3⟩:=(aD _ _).mp h2;obtain⟨v,s1,e1,hv⟩:=Yr F e s he ht;have h1:=T6 h1;obtain⟨w,s2,e2,hw⟩:=ih s1 h3 (xx he hl h1 h2 hv) (by unfold yC;rw[bc,bc,ay];exact hl)
    exact#[w,s2,by rw[Zi<|Yi e1 rfl];exact e2,hw]
   .cases h
  .cases h
end Ab
namespace Lv
open Ev Pv
noncomputable def W5:Fn:=#[2,2,[.ite (.cmp .lt (.v 1)<|.blt .len [(.v 0)]) [.ret<|.ix (.v 0)<|.v 1] [],.ret<|.c<|.int 0]]
noncomputable def WO(c:Nat):Fn:=#[2,3,[.asg [2]<|.call c [(.v 0),(.v 1)],.ite (.cmp .ge (.v 2)<|.bin .pow (.c<|.int 10)<|.c<|.int 18) [.ret<|.lst [(.bin .sub (.v 2)<|.bin .pow (.c<|.int 10)<|.c<|.int 18),(.c<|.bl aj)]] [],.ret<|.lst [(.bin .mod (.v 2)<|.c<|.int 2147483647),(.c<|.bl ai)]]]
noncomputable def Qq(nn:Nat)(M:Int)(st:Nat)(B:List Sm)(r:E):Fn:=#[1,nn,[.forr [1] (.rng1<|.blt .max2 [(.c<|.int 1),(.blt .min2 [(.blt .len [(.v 0)]),(.c<|.int M)])]) [.cel 2 st [(.v 0),(.v 1)] B],.ret r]]
def qO(ht:ca≠tk)(hC:F[ca]?=aa W5)(d:Nat)(k0:0<=k):∃c,Zh F tk (d+1) ca [.scr ns,.int k] s=.ok (.int c) s:=by
 by_cases c:k<ns.length
 .have hk:k.toNat<ns.length:=by lia
  refine#[ns[k.toNat],?_];simp[Zh,ht,hC,W5,rvs,rv,pvs,Pv.pv.eq_1,Pv.pv.eq_2,pv,YF,PR.bind,po,ZH,Yh,int2,Y6,blt1,Yj,Zn,ixV,at',ixN,k0,c,hk,ofD]
 .refine#[0,?_]
  simp[Zh,ht,hC,W5,rvs,rv,pvs,pv,YF,PR.bind,po,ZH,Yh,int2,Y6,blt1,Yj,Zn,ixV,at',ixN,k0,c,ofD]
def wU(ht:ca≠tk)(hts:st≠tk)(hC:F[ca]?=aa W5)(hS:F[st]?=aa (WO ca))(d:Nat)(k0:0<=k):∃v d0,Zh F tk (d+2) st [.scr ns,.int k] s=.ok v s/\Vc v=aa d0/\okS d0.1 d0.2=aj:=by
 obtain⟨c,e⟩:=qO ht hC (s:=s) (ns:=ns) d k0;rw[show d+2=(d+1)+1 from rfl,Zh,T8 hts,hS]
 generalize Zh F tk (d+1)=C at e ⊢;by_cases h:10^18<=c
 .have h':(1000000000000000000:Int)<=c:=by simpa using h
  have o:okS (c-1000000000000000000) aj=aj:=by simp[okS];lia
  refine#[.lst [.int<|c-1000000000000000000,.bl aj],(c-1000000000000000000,aj),?_,by simp[Vc,o],o]
  simp[WO,rvs,rv,pvA,pvs,pv,YF,PR.bind,po,ZH,Yh,int2,Zn,ofD,Yz,Pv.VF,e,h',muts,zm,lim]
 .have h':¬(1000000000000000000:Int)<=c:=by simpa using h
  have o:okS (c%2147483647) ai=aj:=by simp[okS];lia
  refine#[.lst [.int<|c%2147483647,.bl ai],(c%2147483647,ai),?_,by simp[Vc,o],o]
  simp[WO,rvs,rv,pvA,pvs,pv,YF,PR.bind,po,ZH,Yh,int2,Zn,ofD,Yz,Pv.VF,e,h',muts,zm,lim]
theorem QN(P:Env->Prop):∀(xs:List V),(∀x∈xs,∀O s,P O->∃ρ' s',P ρ'/\body x O [] s=.ok (.nx ρ' []) s')->∀O s,P O->∃ρ' s',P ρ'/\Yv body xs O [] s=.ok (.nx ρ' []) s'
 |[],_,O,s,h=>#[O,s,h,rfl]
 |x::xs,hb,O,s,h=>by
  obtain⟨ρ1,s1,h1,e1⟩:=hb x (am ..) O s h;obtain⟨ρ2,s2,h2,e2⟩:=QN P xs (λy hy=>hb y<|ak _ hy) ρ1 s1 h1
  refine#[ρ2,s2,h2,?_];rw[Yv,e1];exact e2
def Vz :hide [] O=O:=by
 unfold hide;apply bQ
 intro i;rw[d7];cases O[i]?<;>rfl
def x4(h0:O[0]?=aa (aa<|.scr ns))(h1:O[1]?=aa (aa<|.int k))(hl:O.length=nn+3):(XT 2 O).set 2 (aa .drw)=aa (.scr ns)::aa (.int k)::aa .drw::aA nn ae:=by
 match O,h0,h1,hl with
 |a::b::l,h0,h1,hl=>
  cases h0;cases h1;have:l.length=nn+1:=by simpa using hl
  unfold XT;simp[Ww,V.flat,this,bI]
def law_ofR{r:E}(d:Nat)(ht:ca≠tk)(hts:st≠tk)(htl:L≠tk)(hC:F[ca]?=aa W5)(hS:F[st]?=aa (WO ca))(hL:F[L]?=aa (Qq (nn+3) M st B r))(hM:M<2^62)(hr:∀O s,pv (Zh F tk<|d+2) r O s=.ok (.bl aj) s)
  (hv:∀(o:Option V)(k:Nat)(s:DS),∃O os s',rvs (Zh F tk<|d+2) (muts B) B (o::aa (.int k)::aa .drw::aA nn ae) [] s=.ok (.nx O os) s'/\O[0]?=aa o/\O.length=nn+3)(ns:List Int)(s:DS) :
  ∃S,Zh F tk (d+3) L [.scr ns] s=.ok (.bl aj) S:=by
 rw[show d+3=(d+2)+1 from rfl,Zh,T8 htl,hL]
 have hst:=λk (k0:0<=k) s=>wU ht hts hC hS (s:=s) (ns:=ns) (k:=k) d k0
 generalize Zh F tk (d+2)=C at hv hst hr ⊢;have hR:=hr;clear hr;have hr:∃m,pvw C (.rng1<|.blt .max2 [(.c<|.int 1),(.blt .min2 [(.blt .len [(.v 0)]),(.c<|.int M)])]) (ZH (nn+3) [.scr ns]) s=.ok (ZT 0 m) s:=by
  have e:pv C (.blt .max2 [(.c<|.int 1),(.blt .min2 [(.blt .len [(.v 0)]),(.c<|.int M)])]) (ZH (nn+3) [.scr ns]) s=.ok (.int<|if(if M<(ns.length:Int)then M else(ns.length:Int))>1 then(if M<(ns.length:Int)then M else(ns.length:Int))else 1) s:=by
   simp[pv,pvs,PR.bind,po,ZH,ofD,Y6,blt1,blt2,Yj]
  rw[pvw,e];refine#[_,(T9 ?_ :)];unfold YN;refine T5 ?_;split<;>split<;>lia
 obtain⟨m,hr⟩:=hr;have hm:muts (Qq (nn+3) M st B r).body=muts B:=by simp[Qq,muts,zm]
 simp only[hm];show ∃S,(if 1=1 then _ else _)=_
 rw[T9 rfl];unfold Qq;simp only;rw[rvs,rv,Vz,hr]
 let body:V->Env->List Nat->DS->PR FlV:=λx O os s=>if([1].any os.contains)=aj then .no else(po (Zf [1] x O) s).bind λO s=>rvs C (muts B) [.cel 2 st [(.v 0),(.v 1)] B] O os s
 have hb:∀x∈ZT 0 m,∀O s,(O[0]?=aa (aa<|.scr ns)/\O.length=nn+3)->∃ρ' s',(ρ'[0]?=aa (aa<|.scr ns)/\ρ'.length=nn+3)/\body x O [] s=.ok (.nx ρ' []) s':=by
  intro x hx O s #[h0,hl];unfold ZT at hx;obtain⟨k,_,rfl⟩:=aT.mp hx;rw[Int.zero_add];obtain⟨v,d0,e1,e2,e3⟩:=hst (k:Int) (by lia) s
  obtain⟨ρ2,os2,s2,e4,h2,l2⟩:=hv (aa<|.scr ns) k d0;have q0:(O.set 1<|aa<|.int (k:Int))[0]?=aa (aa<|.scr ns):=by rw[aQ<|by decide];exact h0
  have q1:(O.set 1<|aa<|.int (k:Int))[1]?=aa (aa<|.int (k:Int)):=ba (by lia)
  have ql:(O.set 1<|aa<|V.int (k:Int)).length=nn+3:=by rw[bc];exact hl
  have a:pvs C [(.v 0),(.v 1)] (O.set 1<|aa<|.int (k:Int)) s=.ok [.scr ns,.int (k:Int)] s:=by
   simp only[pvs,pv,q0,q1,PR.bind,po,Option.join];rfl
  refine#[ρ2.map Ww,s,#[by rw[aK,h2];rfl,by rw[ay];exact l2],?_]
  show(rvs C (muts B) [.cel 2 st [(.v 0),(.v 1)] B] (O.set 1<|aa<|.int (k:Int)) [] s)=_;rw[rvs,rv,T9 (by rfl),a]
  show PR.bind (PR.bind (C st [.scr ns,.int (k:Int)] s) _) _=_;rw[e1];show PR.bind (PR.bind (po (Vc v) s) _) _=_;rw[e2];simp only[po,PR.bind,x4 q0 q1 ql,e4,rvs]
 obtain⟨O,s',h,e⟩:=QN (body:=body) (λO=>O[0]?=aa (aa<|.scr ns)/\O.length=nn+3) (ZT 0 m) hb (ZH (nn+3) [.scr ns]) s #[rfl,by simp[ZH]]
 refine#[s',?_];show PR.bind (PR.bind (Yv body (ZT 0 m) _ _ s) _) _=_;rw[e];show PR.bind (rvs C (muts B) [.ret r] O [] s') _=_;rw[rvs,rv,hR];rfl
end Lv
namespace K71
open Ev Pv Rw La
noncomputable def Ul:List (Nat×Nat):=[(2,1),(2,2),(2,3),(2,4),(3,1),(3,2),(3,3),(5,1),(5,2),(2,3),(2,4),(3,3)]
noncomputable def jq:List (Nat×Nat):=[(2,5),(2,6),(3,4),(5,3)]
noncomputable def Ys:List (Nat×Nat):=Ul++jq
def GX:∀q∈Ys,(q.1=2\/q.1=3\/q.1=5)/\1<=q.2/\q.2<=6/\q.1^q.2<=1000:=by decide
def yj(d:Nat){m:Int}(s:DS):∃q s',CV (d+2) 3 [.drw,.int m] s=.ok (spV q.1 q.2) s'/\q∈Ys:=by
 let L:=if m>27 then Ys else Ul
 have hL:12<=L.length/\L.length<=16/\∀q∈L,q∈Ys:=by
  by_cases c:m>27
  .simp only[L,T9 c];exact#[by decide,by decide,λq hq=>hq]
  .simp only[L,T8 c];exact#[by decide,by decide,λq hq=>dr _ hq]
 obtain⟨v,s',f1,f2,f3⟩:=zi (F:=fns) (tk:=2) (d:=d) (m:=L.length) s (by omega) (by omega)
 obtain⟨k,rfl⟩:∃k:Nat,v=k:=#[v.toNat,by omega]
 have hk:k<L.length:=by omega
 refine#[L[k],s',ZF rfl (by decide) rfl ?_,hL.2.2 _<|aV hk]
 show rvs (CV<|d+1) [] YW.body [aa .drw,aa<|.int m,ae] [] s=_
 dsimp only[YW]
 rw[Zi (ρ':=[aa .drw,aa<|.int m,aa<|.lst<|Ul.map λq=>spV q.1 q.2]) (os':=[]) (s':=s)<|by simp[pvE,Ul,spV]]
 have e0:pv (CV<|d+1) (.cmp .gt (.v 1)<|.c<|.int 27) [aa .drw,aa<|.int m,aa<|.lst<|Ul.map λq=>spV q.1 q.2] s=.ok (.bl<|al<|27<m) s:=by
  rw[pv,Zm rfl,Za,zy,Za];rfl
 rw[Zi (ρ':=[aa .drw,aa<|.int m,aa<|.lst<|L.map λq=>spV q.1 q.2]) (os':=[]) (s':=s) (by
  rw[Wv<|Xh e0 rfl];by_cases c:m>27
  .simp only[L,T9 c]
   rw[T5 c,T9 rfl];rw[Zi (ρ':=[aa .drw,aa<|.int m,aa<|.lst<|Ys.map λq=>spV q.1 q.2]) (os':=[]) (s':=s) (by simp[pvE,Ys,Ul,jq,spV]),rvs]
  .simp only[L,T8 c]
   rw[T4 c,T8 (by decide),rvs])]
 refine Zy<|ZS ?_;have e1:pv (CV<|d+1) (.blt .len [(.v 2)]) [aa .drw,aa<|.int m,aa<|.lst<|L.map λq=>spV q.1 q.2] s=.ok (.int L.length) s:=by
  rw[pv,Zc (Zm rfl) Zj,Za];show po (aa<|V.int (L.map λq=>spV q.1 q.2).length) s=_
  rw[ay];rfl
 rw[pv,Zm rfl,Za,ZP (Zc (Zm rfl)<|Zc e1 Zj) f1,Za];show po (at' (L.map λq=>spV q.1 q.2) (k:Int)) s'=_
 rw[Qv<|by rw[aK,ag hk];rfl];rfl
theorem JE:∀L:List Row,XJ (L.map λr=>V.tup [Zb r,.bl aj])=aa L
 |[]=>rfl
 |r::L=>by
  show((intsV<|r.map V.int).bind λa=>(XJ<|L.map λr=>V.tup [Zb r,.bl aj]).map (a :: ·))=_
  rw[Yb,JE L];rfl
section
variable{p n:Nat}[Base p]
theorem Wn:∀L:List Row,(Zg L).Perm L
 |[]=>cp _
 |x::L=>by
  have ins:∀(x:Row)(l:List Row),(Yy x l).Perm (x::l):=λx l=>by
   induction l with
   |nil=>exact cp _
   |cons y l ih=>
    unfold Yy;split
    .exact cp _
    .exact(ih.cons y).trans<|g7 ..
  exact(ins x<|Zg L).trans<|(Wn L).cons x
def ym(d:Nat){R every:List Row}{a5 a6 a7:Option V}(s:DS)(hn:n<=6)(h1:1<=n)(hp:p^n<=1000)(hR:∀r∈R,Zd p n r)(hl:R.length<n)(hw:(Z0 p [] R).length=R.length)(he:every.Perm (Zq p n R)) :
  ∃r b6 b7 s',Zd p n r/\(Z0 p []<|R++[r]).length=R.length+1/\rvs (CV<|d+2) [] [.asg [6]<|.blt .dictP [(.comp1 [] 1 [0] (.of<|.v 3) []<|.tup [(.v 0),(.c<|.bl aj)])],
   .asg [7] (.comp1 [6] 1 [0] (.of<|.v 4) [(.cmp .nin (.v 0)<|.v 1)]<|.v 0),
   .asg [2] (.bin .add (.v 2)<|.tup [(.ix (.v 7)<|.call 2 [(.v 0),(.blt .len [(.v 7)])])]),
   .asg [3] (.call 5 [(.v 1),(.v 2)])] [aa .drw,aa<|spV p n,aa<|.tup<|R.map Zb,aa<|.lst<|every.map Zb,aa<|.lst<|(Zg<|Zq p n<|units n).map Zb,a5,a6,a7] [] s
   = .ok (.nx [aa .drw,aa<|spV p n,aa<|.tup<|(R++[r]).map Zb,aa<|.lst<|(Zg<|Zq p n<|R++[r]).map Zb,aa<|.lst<|(Zg<|Zq p n<|units n).map Zb,a5,b6,b7] []) s':=by
 have hpp:=VD (p:=p);have hK:=YO hR;have hU:=YO (p:=p) (n:=n) Yn;have le:every.length<=1000:=by
  rw[he.length_eq,hK.len];exact b0 (eV (by omega)<|by omega) hp
 have lu:(Zq p n<|units n).length<=1000:=by rw[UQ hn];exact hp
 have hc:=ZW (C:=CV<|d+2) (cap:=[]) (nl:=1) (t:=[0]) (it:=.of<|.v 3) (elt:=.tup [(.v 0),(.c<|.bl aj)]) (O:=[aa .drw,aa<|spV p n,aa<|.tup<|R.map Zb,aa<|.lst<|every.map Zb,aa<|.lst<|(Zg<|Zq p n<|units n).map Zb,a5,a6,a7]) (s:=s) (l:=every) (e:=Zb) (g:=λr=>V.tup [Zb r,.bl aj])
  (by rw[pvw,Zm rfl];rfl) (by unfold lim;omega) (λr _=>#[[aa<|Zb r],rfl,by
   have g:pv (CV<|d+2) (.c<|.bl aj) [aa<|Zb r] s=.ok (.bl aj) s:=by rw[pv];rfl
   rw[pv,Zc (Zm rfl)<|Zc g Zj,Za,T9<|by show 2<=lim;unfold lim;omega]])
 have hd:pv (CV<|d+2) (.blt .dictP [(.comp1 [] 1 [0] (.of<|.v 3) []<|.tup [(.v 0),(.c<|.bl aj)])]) [aa .drw,aa<|spV p n,aa<|.tup<|R.map Zb,aa<|.lst<|every.map Zb,aa<|.lst<|(Zg<|Zq p n<|units n).map Zb,a5,a6,a7] s=.ok (.dct<|aa every) s:=by
  rw[pv,Zc hc Zj,Za];show po ((XJ<|every.map λr=>V.tup [Zb r,.bl aj]).bind λks=>if Vw ks=aj then aa (V.dct<|aa ks)else ae) s=_
  rw[JE];show po (if Vw every=aj then aa (V.dct<|aa every)else ae) s=_
  rw[T9 (by
   unfold Vw;rw[aD];exact#[T5 (by unfold lim;omega),T5<|he.nodup_iff.mpr hK.nd])];rfl
 rw[Zi<|Yi hd rfl];show ∃r b6 b7 s',_/\_/\rvs _ _ _ [aa .drw,aa<|spV p n,aa<|.tup<|R.map Zb,aa<|.lst<|every.map Zb,aa<|.lst<|(Zg<|Zq p n<|units n).map Zb,a5,aa<|.dct<|aa every,a7] [] s=_
 let S:=(Zg<|Zq p n<|units n).filter λr=>!every.contains r
 have hc2:=Q4 (C:=CV<|d+2) (cap:=[6]) (nl:=1) (t:=[0]) (it:=.of<|.v 4) (tst:=.cmp .nin (.v 0)<|.v 1) (elt:=.v 0) (O:=[aa .drw,aa<|spV p n,aa<|.tup<|R.map Zb,aa<|.lst<|every.map Zb,aa<|.lst<|(Zg<|Zq p n<|units n).map Zb,a5,aa<|.dct<|aa every,a7]) (s:=s) (l:=Zg<|Zq p n<|units n) (e:=Zb) (g:=Zb) (q:=λr=>!every.contains r)
  (by rw[pvw,Zm rfl];rfl) (by rw[Vr];unfold lim;omega) (λr _=>#[[aa<|Zb r,aa<|.dct<|aa every],.bl<|!every.contains r,rfl,by
   rw[pv,Zm rfl,Za,Zm rfl,Za];show po (((intsV<|r.map V.int).map λk=>every.contains k).map λb=>V.bl !b) s=_
   rw[Yb];rfl,rfl,λ_=>Zm rfl])
 rw[Zi<|Yi hc2 rfl];show ∃r b6 b7 s',_/\_/\rvs _ _ _ [aa .drw,aa<|spV p n,aa<|.tup<|R.map Zb,aa<|.lst<|every.map Zb,aa<|.lst<|(Zg<|Zq p n<|units n).map Zb,a5,aa<|.dct<|aa every,aa<|.lst<|S.map Zb] [] s=_;have hS:∀r,r∈S↔r∈Zq p n (units n)/\r∉Zq p n R:=λr=>by
  show r∈List.filter _ _↔_;rw[dU,(Wn _).mem_iff];refine and_congr_right λ_=>?_
  rw[<-he.mem_iff];simp
 have ne:0<S.length:=by
  have h:=uT hn hR (by omega)
  obtain⟨x,hx⟩:=List.exists_mem_of_ne_nil _ h;rw[dU]at hx;exact kg<|(hS x).mpr #[hx.1,by simpa using hx.2]
 have lS:S.length<=1000:=b0 (kB ..) (by rw[Vr];exact lu)
 have el:pv (CV<|d+2) (.blt .len [(.v 7)]) [aa .drw,aa<|spV p n,aa<|.tup<|R.map Zb,aa<|.lst<|every.map Zb,aa<|.lst<|(Zg<|Zq p n<|units n).map Zb,a5,aa<|.dct<|aa every,aa<|.lst<|S.map Zb] s=.ok (.int S.length) s:=by
  rw[pv,Zc (Zm rfl) Zj,Za];show po (aa<|V.int (S.map Zb).length) s=_;rw[ay];rfl
 obtain⟨v,s1,f1,f2,f3⟩:=zi (F:=fns) (tk:=2) (d:=d+1) (m:=S.length) s (by omega) (by omega)
 obtain⟨k,rfl⟩:∃k:Nat,v=k:=#[v.toNat,by omega]
 have hk:k<S.length:=by omega
 obtain⟨m1,m2⟩:=(hS _).mp<|aV hk;have hr:Zd p n S[k]:=((hU.mem _).mp m1).1;have hm:Y5 p (Z0 p [] R) S[k]=ai:=by
  cases q:Y5 p (Z0 p [] R) S[k]with|false=>rfl|true=>exact T7 ((hK.mem _).mpr #[hr,q]) m2
 have hR2:∀r∈R++[S[k]],Zd p n r:=λr h=>by
  rcases cg.mp h with h|h
  .exact hR r h
  .rw[bm.mp h];exact hr
 have ex:pv (CV<|d+2) (.ix (.v 7)<|.call 2 [(.v 0),(.blt .len [(.v 7)])]) [aa .drw,aa<|spV p n,aa<|.tup<|R.map Zb,aa<|.lst<|every.map Zb,aa<|.lst<|(Zg<|Zq p n<|units n).map Zb,a5,aa<|.dct<|aa every,aa<|.lst<|S.map Zb] s=.ok (Zb S[k]) s1:=by
  rw[pv,Zm rfl,Za,ZP (Zc (Zm rfl)<|Zc el Zj) f1,Za];show po (at' (S.map Zb) (k:Int)) s1=_;rw[Qv<|by rw[aK,ag hk];rfl];rfl
 have et:pv (CV<|d+2) (.bin .add (.v 2)<|.tup [(.ix (.v 7)<|.call 2 [(.v 0),(.blt .len [(.v 7)])])]) [aa .drw,aa<|spV p n,aa<|.tup<|R.map Zb,aa<|.lst<|every.map Zb,aa<|.lst<|(Zg<|Zq p n<|units n).map Zb,a5,aa<|.dct<|aa every,aa<|.lst<|S.map Zb] s=.ok (.tup<|(R++[S[k]]).map Zb) s1:=by
  have g:pv (CV<|d+2) (.tup [(.ix (.v 7)<|.call 2 [(.v 0),(.blt .len [(.v 7)])])]) [aa .drw,aa<|spV p n,aa<|.tup<|R.map Zb,aa<|.lst<|every.map Zb,aa<|.lst<|(Zg<|Zq p n<|units n).map Zb,a5,aa<|.dct<|aa every,aa<|.lst<|S.map Zb] s=.ok (.tup [Zb S[k]]) s1:=by
   rw[pv,Zc ex Zj,Za,T9<|by show 1<=lim;unfold lim;omega]
  rw[pv,Zm rfl,Za,g,Za];show(if(R.map Zb).length+1<=lim then PR.ok (V.tup<|R.map Zb++[Zb S[k]]) s1 else .no)=_
  rw[T9 (by rw[ay];unfold lim;omega),bV];rfl
 refine#[S[k],aa<|.dct<|aa every,aa<|.lst<|S.map Zb,s1,hr,?_,?_]
 .have:Z0 p [] (R++[S[k]])=Xd p (Z0 p [] R) S[k]:=by unfold Z0;rw[mi];rfl
  rw[this,ui hK.part hr hm,hw]
 .rw[Zi<|Yi et rfl]
  show rvs _ _ _ [aa .drw,aa<|spV p n,aa<|.tup<|(R++[S[k]]).map Zb,aa<|.lst<|every.map Zb,aa<|.lst<|(Zg<|Zq p n<|units n).map Zb,a5,aa<|.dct<|aa every,aa<|.lst<|S.map Zb] [] s1=_;have e9:pv (CV<|d+2) (.call 5 [(.v 1),(.v 2)]) [aa .drw,aa<|spV p n,aa<|.tup<|(R++[S[k]]).map Zb,aa<|.lst<|every.map Zb,aa<|.lst<|(Zg<|Zq p n<|units n).map Zb,a5,aa<|.dct<|aa every,aa<|.lst<|S.map Zb] s1=.ok (.lst<|(Zg<|Zq p n<|R++[S[k]]).map Zb) s1:=XA (Zm rfl) (Zm rfl)<|XY d s1 hn h1 hp hR2 rfl;rw[Zi<|Yi e9 rfl,rvs];rfl
def wG(d:Nat)(s:DS)(hn:n<=6)(h1:1<=n)(hp:p^n<=1000):∃R s',CV (d+3) 7 [.drw,spV p n] s=.ok (.tup<|R.map Zb) s'/\R.length=n/\(∀r∈R,Zd p n r)/\(Z0 p [] R).length=n:=by
 have e0:pv (CV<|d+2) (.tup []) [aa .drw,aa<|spV p n,ae,ae,ae,ae,ae,ae] s=.ok (.tup []) s:=by rw[pv,pvs];rfl
 have e1:pv (CV<|d+2) (.lst [(.bin .mul (.tup [(.c<|.int 0)])<|.ix (.v 1)<|.c<|.int 1)]) [aa .drw,aa<|spV p n,aa<|.tup [],ae,ae,ae,ae,ae] s=.ok (.lst<|[aA n 0].map Zb) s:=by
  rw[pv,Zc (za hn rfl) Zj];rfl
 have e2:pv (CV<|d+2) (.call 5 [(.v 1),(.call 6 [(.v 1)])]) [aa .drw,aa<|spV p n,aa<|.tup [],aa<|.lst<|[aA n 0].map Zb,ae,ae,ae,ae] s=.ok (.lst<|(Zg<|Zq p n<|units n).map Zb) s:=
  XA (Zm rfl) (ZP (Zc (Zm rfl) Zj)<|Uy (d+1) s hn) (XY d s hn h1 hp Yn rfl)
 obtain⟨ρ',s',hI,e⟩:=zD (C:=CV<|d+2) (ms:=[]) (os:=[]) (t:=[5]) (it:=.rng1<|.ix (.v 1)<|.c<|.int 1) (b:=[.asg [6]<|.blt .dictP [(.comp1 [] 1 [0] (.of<|.v 3) []<|.tup [(.v 0),(.c<|.bl aj)])],
   .asg [7] (.comp1 [6] 1 [0] (.of<|.v 4) [(.cmp .nin (.v 0)<|.v 1)]<|.v 0),
   .asg [2] (.bin .add (.v 2)<|.tup [(.ix (.v 7)<|.call 2 [(.v 0),(.blt .len [(.v 7)])])]),
   .asg [3] (.call 5 [(.v 1),(.v 2)])]) (L:=aU n) (e:=Yg) (O:=[aa .drw,aa<|spV p n,aa<|.tup [],aa<|.lst<|[aA n 0].map Zb,aa<|.lst<|(Zg<|Zq p n<|units n).map Zb,ae,ae,ae]) (s:=s) (s0:=s)
  (λl O=>∃R every a5 a6 a7,O=[aa .drw,aa<|spV p n,aa<|.tup<|R.map Zb,aa<|.lst<|every.map Zb,aa<|.lst<|(Zg<|Zq p n<|units n).map Zb,a5,a6,a7]/\R.length+l.length=n/\(∀r∈R,Zd p n r)/\(Z0 p [] R).length=R.length/\every.Perm (Zq p n R))
  (by
   show pvw (CV<|d+2) _ [aa .drw,aa<|spV p n,aa<|.tup [],aa<|.lst<|[aA n 0].map Zb,aa<|.lst<|(Zg<|Zq p n<|units n).map Zb,ae,ae,ae] s=_;exact XO (ix1 rfl)<|by omega) #[[],[aA n 0],ae,ae,ae,rfl,by rw[bF];simp,(λ_ h=>by cases h),rfl,cp _] rfl (λk l O s hI=>by
   obtain⟨R,every,a5,a6,a7,rfl,hl,hR,hw,he⟩:=hI;rw[aL]at hl;obtain⟨r,b6,b7,s',hr,hw',e⟩:=ym d (a5:=aa<|Yg k) (a6:=a6) (a7:=a7) s hn h1 hp hR (by omega) hw he
   refine#[_,_,s',rfl,e,R++[r],Zg<|Zq p n<|R++[r],_,_,_,rfl,by rw[aW,ku];omega,λx hx=>?_,by rw[hw',aW];rfl,Wn _]
   rcases cg.mp hx with hx|hx
   .exact hR x hx
   .rw[bm.mp hx];exact hr)
 obtain⟨R,every,a5,a6,a7,rfl,hl,hR,hw,he⟩:=hI;refine#[R,s',ZF rfl (by decide) rfl ?_,hl,hR,by rw[hw];exact hl]
 show rvs (CV<|d+2) [] Xb.body [aa .drw,aa<|spV p n,ae,ae,ae,ae,ae,ae] [] s=_
 dsimp only[Xb]
 rw[Zi<|Yi e0 rfl];show rvs _ _ _ [aa .drw,aa<|spV p n,aa<|.tup [],ae,ae,ae,ae,ae] [] s=_;rw[Zi<|Yi e1 rfl];show rvs _ _ _ [aa .drw,aa<|spV p n,aa<|.tup [],aa<|.lst<|[aA n 0].map Zb,ae,ae,ae,ae] [] s=_;rw[Zi<|Yi e2 rfl];show rvs _ _ _ [aa .drw,aa<|spV p n,aa<|.tup [],aa<|.lst<|[aA n 0].map Zb,aa<|.lst<|(Zg<|Zq p n<|units n).map Zb,ae,ae,ae] [] s=_;rw[Zi e];exact Zy<|ZS<|Zm rfl
end
open Ab (okV XU)
noncomputable def xk(p n:Nat):Ab.T:=.tup n n<|.int 0<|(p:Int)-1
noncomputable def phi(p n:Nat):Ab.Sg:=λf ts=>if f=19 then(match ts with
  |[.drw,.two a b,.tup lo hi<|.int x y]=>if a=p/\b=n/\lo=n/\hi=n/\x=0/\y=(p:Int)-1 then aa (.th 1000)else ae
  |_=>ae)else if f=4 then(match ts with
  |[.two a b,.tup lo hi<|.int x y,.int u v,.tup lo' hi'<|.int x' y']=>if a=p/\b=n/\lo=n/\hi=n/\x=0/\y=(p:Int)-1/\-1000<u/\v<1000/\lo'=n/\hi'=n/\x'=0/\y'=(p:Int)-1 then aa (xk p n)else ae
  |_=>ae)else ae
def ZcC(d:Nat):Ab.Fine 2 (λ_ _=>ae) (CV<|d+1):=#[λm s h0 h1=>zi s h0 h1,λf ts t _ h=>by cases h]
def xS:∀q∈Ys,Ab.chk 2 (λ_ _=>ae) 9 [aa .drw,aa<|.two q.1 q.2,aa<|xk q.1 q.2,ae,ae,ae] Y2.body=aj:=by decide +kernel
def vR:∀q∈Ys,Ab.chkT 2 (phi q.1 q.2) Ya.body [aa .drw,aa<|.two q.1 q.2,aa<|.tup q.2 q.2<|xk q.1 q.2,ae,ae,ae,ae]=aj:=by decide +kernel
def UF{p n:Nat}{r:Row}(h:Zd p n r):Ab.Has (xk p n) (Zb r):=#[r.map .int,rfl,by rw[ay,h.1];exact az _,by rw[ay,h.1];exact az _,λx hx=>by
 obtain⟨a,ha,rfl⟩:=aT.mp hx;have:=h.2 a ha;exact#[a,rfl,by omega,by omega]]
def Qw{p n:Nat}{v:V}(h:Ab.Has (xk p n) v):∃r,v=Zb r/\Zd p n r:=by
 obtain⟨xs,rfl,h1,h2,h3⟩:=h;have:∃r:Row,xs=r.map V.int/\∀a∈r,0<=a/\a<(p:Int):=by
  clear h1 h2
  induction xs with
  |nil=>exact#[[],rfl,λ_ h=>by cases h]
  |cons y ys ih=>
   obtain⟨r,g1,g2⟩:=ih λz hz=>h3 z<|ak _ hz
   obtain⟨a,rfl,g3,g4⟩:=h3 y<|am ..;refine#[a::r,by rw[g1];rfl,λx hx=>?_]
   rcases aC.mp hx with rfl|hx
   .exact#[g3,by omega]
   .exact g2 x hx
 obtain⟨r,rfl,hr⟩:=this;rw[ay]at h1 h2;exact#[r,rfl,by omega,hr]
def Qd(d:Nat){q:Nat×Nat}{r:Row}(s:DS)(hq:q∈Ys)(hr:Zd q.1 q.2 r):∃v s',CV (d+2) 19 [.drw,spV q.1 q.2,Zb r] s=.ok v s'/\Ab.Th 1000 v:=by
 obtain⟨v,s',e,h⟩:=Ab.chk_ok (ZcC d) 9 (O:=[aa .drw,aa<|spV q.1 q.2,aa<|Zb r,ae,ae,ae]) s (xS q hq) (λi t hi=>by
  match i,hi with
  |0,hi=>cases hi;exact#[_,rfl,rfl]
  |1,hi=>cases hi;exact#[_,rfl,rfl]
  |2,hi=>cases hi;exact#[_,rfl,UF hr]
  |3,hi=>cases hi
  |4,hi=>cases hi
  |5,hi=>cases hi
  |n+6,hi=>cases hi) rfl
 exact#[v,s',ZF rfl (by decide) rfl e,h]
section
variable{p n:Nat}[Base p]
def ZbX(d:Nat)(hq:(p,n)∈Ys):Ab.Fine 2 (phi p n) (CV<|d+2):=#[λm s h0 h1=>zi s h0 h1,λf ts t _ h vs s ha=>by
 have hn:=(GX _ hq).2.2.1;unfold phi at h;split at h
 .next e=>
  subst e;split at h
  .split at h
   .next c=>
    obtain⟨rfl,rfl,rfl,rfl,rfl,rfl⟩:=c;cases h;obtain⟨v1,ws,rfl,g1,v2,ws,rfl,g2,v3,ws,rfl,g3,g4⟩:=ha;cases g4;cases(show v1=.drw from g1)
    cases(show v2=.tup [.int _,.int _]from g2)
    obtain⟨r,rfl,hr⟩:=Qw (p:=p) g3;exact Qd d (q:=(p,_)) s hq hr
   .cases h
  .cases h
 .split at h
  .next e=>
   subst e;split at h
   .split at h
    .next c=>
     obtain⟨rfl,rfl,rfl,rfl,rfl,rfl,c1,c2,rfl,rfl,rfl,rfl⟩:=c;cases h;obtain⟨v1,ws,rfl,g1,v2,ws,rfl,g2,v3,ws,rfl,g3,v4,ws,rfl,g4,g5⟩:=ha;cases g5;cases(show v1=.tup [.int _,.int _]from g1)
     obtain⟨r,rfl,hr⟩:=Qw (p:=p) g2;obtain⟨k,rfl,k1,k2⟩:=g3;obtain⟨o,rfl,ho⟩:=Qw (p:=p) g4;exact#[_,s,JK (d+1) s hn hr ho #[by omega,by omega],UF<|Zk hr ho]
    .cases h
   .cases h
  .cases h]
def VI(d:Nat){R:List Row}(s:DS)(hq:(p,n)∈Ys)(hl:R.length=n)(hR:∀r∈R,Zd p n r):∃v s',CV (d+3) 20 [.drw,spV p n,.tup<|R.map Zb] s=.ok v s'/\okV v=aj:=by
 obtain⟨v,s',e,h⟩:=Ab.chkT_ok (ZbX d hq) Ya.body (O:=[aa .drw,aa<|spV p n,aa<|.tup<|R.map Zb,ae,ae,ae,ae]) s (vR (p,n) hq) (λi t hi=>by
  match i,hi with
  |0,hi=>cases hi;exact#[_,rfl,rfl]
  |1,hi=>cases hi;exact#[_,rfl,rfl]
  |2,hi=>
   cases hi;refine#[_,rfl,R.map Zb,rfl,by rw[ay,hl];exact az _,by rw[ay,hl];exact az _,λx hx=>?_]
   obtain⟨r,hr,rfl⟩:=aT.mp hx;exact UF<|hR r hr
  |3,hi=>cases hi
  |4,hi=>cases hi
  |5,hi=>cases hi
  |6,hi=>cases hi
  |n+7,hi=>cases hi) rfl
 exact#[v,s',ZF rfl (by decide) rfl e,h.1]
end
noncomputable def zW:List Sm:=[.asg [3]<|.call 3 [(.v 2),(.ix (.lst [(.c<|.int 27),(.c<|.int 125)])<|.blt .toInt [(.cmp .eq (.v 1)<|.c<|.int 0)])],
  .asg [4] (.call 7 [(.v 2),(.v 3)]),
  .ite (.cmp .isn (.call 18 [(.v 3),(.v 4)])<|.c<|.bl aj) [.ret<|.c<|.bl ai] [],
  .forr [5] (.of<|.comp1 [2,3,4] 1 [0] (.rng1<|.c<|.int 6) []<|.call 20 [(.v 1),(.v 2),(.v 3)]) [.asg [6]<|.call 18 [(.v 3),(.v 5)],
  .ite (.or (.not<|.isi (.v 6) [.bool])<|.cmp .ne (.v 6)<|.call 23 [(.v 3),(.v 5)]) [.ret<|.c<|.bl ai] []]]
def wA(d:Nat)(o:Option V)(k:Nat)(s:DS):∃O os s',rvs (CV<|d+6) [] zW (o::aa (.int k)::aa .drw::aA 4 ae) [] s=.ok (.nx O os) s'/\O[0]?=aa o/\O.length=7:=by
 have e0:∃m,pv (CV<|d+6) (.ix (.lst [(.c<|.int 27),(.c<|.int 125)])<|.blt .toInt [(.cmp .eq (.v 1)<|.c<|.int 0)]) [o,aa<|.int k,aa .drw,ae,ae,ae,ae] s=.ok (.int m) s:=by
  by_cases c:(k:Int)=0
  .have c':k=0:=by omega
   exact#[125,by simp[pvE,c',ZJ,b2i,at',ixN]]
  .have c':k≠0:=by omega
   exact#[27,by simp[pvE,c',ZJ,b2i,at',ixN]]
 obtain⟨m,e0⟩:=e0;obtain⟨⟨p,n⟩,s1,e1,hq⟩:=yj (d+4) (m:=m) s;obtain⟨hb,h1,hn,hp⟩:=GX _ hq
 haveI:Base p:=⟨hb⟩
 have hn:n<=6:=hn;have h1:1<=n:=h1;have hp:p^n<=1000:=hp;obtain⟨R,s2,e2,hl,hR,hw⟩:=wG (d+3) (p:=p) (n:=n) s1 hn h1 hp;have okR:okV (.tup<|R.map Zb)=aj:=by
  show XU (R.map Zb)=aj;exact ZbH λx hx=>by
   obtain⟨r,_,rfl⟩:=aT.mp hx;exact Zai r
 have e3:=X2 d (p:=p) (n:=n) s2 hn okR;rw[Wj hl hR,T5 hw]at e3;obtain⟨ys,s3,e4,l4,q4⟩:=yF (C:=CV<|d+6) (cap:=[2,3,4]) (nl:=1) (t:=[0]) (it:=.rng1<|.c<|.int 6) (elt:=.call 20 [(.v 1),(.v 2),(.v 3)]) (O:=[o,aa<|.int k,aa .drw,aa<|spV p n,aa<|.tup<|R.map Zb,ae,ae]) (s:=s2) (Q:=λv=>okV v=aj) (k:=6)
  (by rw[zu];exact XO zy<|by omega) (by unfold lim;omega) (λx s=>by
   obtain⟨v,s',f1,f2⟩:=VI (d+3) s hq hl hR;exact#[[aa x,aa .drw,aa<|spV p n,aa<|.tup<|R.map Zb],v,s',rfl,ZP (Zc (Zm rfl)<|Zc (Zm rfl)<|Zc (Zm rfl) Zj) f1,f2])
 obtain⟨ρ',s',hI,e5⟩:=zD (C:=CV<|d+6) (ms:=[]) (os:=[]) (t:=[5]) (it:=.of<|.comp1 [2,3,4] 1 [0] (.rng1<|.c<|.int 6) []<|.call 20 [(.v 1),(.v 2),(.v 3)]) (b:=[.asg [6]<|.call 18 [(.v 3),(.v 5)],
  .ite (.or (.not<|.isi (.v 6) [.bool])<|.cmp .ne (.v 6)<|.call 23 [(.v 3),(.v 5)]) [.ret<|.c<|.bl ai] []]) (L:=ys) (e:=id) (O:=[o,aa<|.int k,aa .drw,aa<|spV p n,aa<|.tup<|R.map Zb,ae,ae]) (s:=s2) (s0:=s3)
  (λl O=>(∀v∈l,okV v=aj)/\∃a5 a6,O=[o,aa<|.int k,aa .drw,aa<|spV p n,aa<|.tup<|R.map Zb,a5,a6])
  (by
   show pvw (CV<|d+6) _ [o,aa<|.int k,aa .drw,aa<|spV p n,aa<|.tup<|R.map Zb,ae,ae] s2=_;rw[pvw,e4,Za,kR];rfl) #[q4,ae,ae,rfl] rfl (λx l O s hI=>by
   obtain⟨hx,a5,a6,rfl⟩:=hI;have ox:=hx x<|am ..;have g1:=X2 d (p:=p) (n:=n) s hn ox;have g2:=Je (d+3) (p:=p) (n:=n) s hn h1 hp ox;refine#[[o,aa<|.int k,aa .drw,aa<|spV p n,aa<|.tup<|R.map Zb,aa x,a6],[o,aa<|.int k,aa .drw,aa<|spV p n,aa<|.tup<|R.map Zb,aa x,aa<|.bl<|Z5 p n x],s,rfl,?_,λy hy=>hx y<|ak _ hy,_,_,rfl]
   rw[Zi<|Yi (XA (Zm rfl) (Zm rfl) g1) rfl];show rvs _ _ _ [o,aa<|.int k,aa .drw,aa<|spV p n,aa<|.tup<|R.map Zb,aa x,aa<|.bl<|Z5 p n x] [] s=_;have g3:pv (CV<|d+6) (.not<|.isi (.v 6) [.bool]) [o,aa<|.int k,aa .drw,aa<|spV p n,aa<|.tup<|R.map Zb,aa x,aa<|.bl<|Z5 p n x] s=.ok (.bl ai) s:=by
    rw[pv,pv,Zm rfl];rfl
   rw[guard<|vg g3<|ZbS (Zm rfl) (XA (Zm rfl) (Zm rfl) g2) rfl,rvs])
 obtain⟨_,a5,a6,rfl⟩:=hI;refine#[[o,aa<|.int k,aa .drw,aa<|spV p n,aa<|.tup<|R.map Zb,a5,a6],[],s',?_,rfl,rfl];show rvs _ _ zW [o,aa<|.int k,aa .drw,ae,ae,ae,ae] [] s=_;unfold zW;rw[Zi<|Yi (ZP (Zc (Zm rfl)<|Zc e0 Zj) e1) rfl];show rvs _ _ _ [o,aa<|.int k,aa .drw,aa<|spV p n,ae,ae,ae] [] s1=_;rw[Zi<|Yi (ZP (Zc (Zm rfl)<|Zc (Zm rfl) Zj) e2) rfl];show rvs _ _ _ [o,aa<|.int k,aa .drw,aa<|spV p n,aa<|.tup<|R.map Zb,ae,ae] [] s2=_;rw[guard<|va<|XA (Zm rfl) (Zm rfl) e3,Zi e5,rvs]
def wK(d:Nat)(O:Env)(s:DS):pv (CV<|d+6) (.and (.cmp .is (.call 18 [(.tup [(.c<|.int 2),(.c<|.int 2)]),(.tup [(.tup [(.c<|.int 0),(.c<|.int 1)]),(.tup [(.c<|.int 1),(.c<|.int 1)])])])<|.c<|.bl aj)<|.cmp .is (.call 18 [(.tup [(.c<|.int 2),(.c<|.int 2)]),(.tup [(.tup [(.c<|.int 0),(.c<|.int 1)]),(.tup [(.c<|.int 0),(.c<|.int 1)])])])<|.c<|.bl ai) O s=.ok (.bl aj) s:=by
 haveI:Base 2:=⟨.inl rfl⟩
 have a:=X2 d (p:=2) (n:=2) (x:=.tup [.tup [.int 0,.int 1],.tup [.int 1,.int 1]]) s (by omega) rfl
 have b:=X2 d (p:=2) (n:=2) (x:=.tup [.tup [.int 0,.int 1],.tup [.int 0,.int 1]]) s (by omega) rfl
 rw[show Z5 2 2 (.tup [.tup [.int 0,.int 1],.tup [.int 1,.int 1]])=aj by decide +kernel]at a
 rw[show Z5 2 2 (.tup [.tup [.int 0,.int 1],.tup [.int 0,.int 1]])=ai by decide +kernel]at b
 have sp:pv (CV<|d+6) (.tup [(.c<|.int 2),(.c<|.int 2)]) O s=.ok (spV 2 2) s:=by simp[pvE,ofD,spV]
 have t1:pv (CV<|d+6) (.tup [(.tup [(.c<|.int 0),(.c<|.int 1)]),(.tup [(.c<|.int 1),(.c<|.int 1)])]) O s=.ok (.tup [.tup [.int 0,.int 1],.tup [.int 1,.int 1]]) s:=by simp[pvE,ofD]
 have t2:pv (CV<|d+6) (.tup [(.tup [(.c<|.int 0),(.c<|.int 1)]),(.tup [(.c<|.int 0),(.c<|.int 1)])]) O s=.ok (.tup [.tup [.int 0,.int 1],.tup [.int 0,.int 1]]) s:=by simp[pvE,ofD]
 have bt:∀b,pv (CV<|d+6) (.c<|.bl b) O s=.ok (.bl b) s:=λb=>by rw[pv];rfl
 have u1:pv (CV<|d+6) (.cmp .is (.call 18 [(.tup [(.c<|.int 2),(.c<|.int 2)]),(.tup [(.tup [(.c<|.int 0),(.c<|.int 1)]),(.tup [(.c<|.int 1),(.c<|.int 1)])])])<|.c<|.bl aj) O s=.ok (.bl aj) s:=by
  rw[pv,XA sp t1 a,Za,bt,Za];rfl
 have u2:pv (CV<|d+6) (.cmp .is (.call 18 [(.tup [(.c<|.int 2),(.c<|.int 2)]),(.tup [(.tup [(.c<|.int 0),(.c<|.int 1)]),(.tup [(.c<|.int 0),(.c<|.int 1)])])])<|.c<|.bl ai) O s=.ok (.bl aj) s:=by
  rw[pv,XA sp t2 b,Za,bt,Za];rfl
 exact Za6 u1 u2
def law_ok(ns:List Int)(s:DS):∃S,CV 65 24 [.scr ns] s=.ok (.bl aj) S:=
 Lv.law_ofR (B:=zW) 62 (ca:=0) (st:=1) (nn:=4) (M:=8) (by decide) (by decide) (by decide) rfl rfl rfl (by decide) (λO s=>wK 58 O s) (λo k s=>wA 58 o k s) ns s
end K71
namespace K71
open PySem PySem.Spec PyProof.Rows L2 Sd Gn
open Sd (Jd G4 vL xK GT xo jU xD xr zB zh vT xH z5 V8 vD wJ xY GN Ga zR zJ z7 zS Ur JZ G6 Ut xB)
def Zcx(s:eR):bD:=match s with|.FunctionDef x _ _ _ _ _ _ _ _ _=>x|_=>""
def top(i:Nat):eR:=PySem.Challenge.pw_fewspaces_k71_turns_looked_at.main.body.getD i<|.Pass #[0,0,0,0]
noncomputable abbrev R(i m k:Nat):FR:=#[Zcx<|top i,top i,((Zw<|top i).names.map (·.1)).take m,k]
noncomputable abbrev r0:=R 15 2 2
noncomputable abbrev r1:=R 16 3 2
noncomputable abbrev r2:=R 17 4 2
noncomputable abbrev r3:=R 18 3 2
noncomputable abbrev r4:=R 19 4 4
noncomputable abbrev r5:=R 21 6 2
noncomputable abbrev r6:=R 28 1 1
noncomputable abbrev r7:=R 29 8 2
noncomputable abbrev r8:=R 1 3 3
noncomputable abbrev r9:=R 8 4 2
noncomputable abbrev r10:=R 4 4 4
noncomputable abbrev r11:=R 6 4 4
noncomputable abbrev r12:=R 2 3 1
noncomputable abbrev r13:=R 11 7 3
noncomputable abbrev r14:=R 3 3 3
noncomputable abbrev r15:=R 5 3 2
noncomputable abbrev r16:=R 10 9 3
noncomputable abbrev r17:=R 9 5 3
noncomputable abbrev r18:=R 13 4 2
noncomputable abbrev r19:=R 27 6 3
noncomputable abbrev r20:=R 33 7 3
noncomputable abbrev r21:=R 25 3 3
noncomputable abbrev r22:=R 26 2 2
noncomputable abbrev r23:=R 32 3 2
abbrev r24:FR:=#["law",top 35,["_law_script","_law_k","_law_state_here","_law_space_here","_law_turn_here","_law_thing","_law_found"],1]
noncomputable abbrev fs:List FR:=[r0,r1,r2,r3,r4,r5,r6,r7,r8,r9,r10,r11,r12,r13,r14,r15,r16,r17,r18,r19,r20,r21,r22,r23,r24]
abbrev zs:List bD:=["all","bool","dict","enumerate","int","isinstance","len","list","max","min","range","sorted","tuple","zip"]
abbrev gs:List (bD×Gv):=[]
noncomputable abbrev jE{X xw C e}(i:Ev.E):=Sd.CE X xw C e i
noncomputable abbrev jF{X xw C e}(i:Ev.E):=Sd.CF X xw C e i
noncomputable abbrev jT{X xw C e}(i:Ev.E):=Sd.CT X xw C e i
noncomputable abbrev jS{X xw a C b e}(i:Ev.Sm):=Sd.CS X xw a C b e i
def okl:OkL fs zs gs fns tk sn 0 fs fns:=by
 repeat'(first|exact dJ|refine#[#[rfl,rfl,by decide +kernel,?_],?_]|intro P w K mg base f fd d T h hn cdv A outer s H E hr hu)
 all_goals
 (repeat'(first
 |(with_reducible show aM _ _=_);(first|exact G4|exact Jd|exact zB|exact xr|exact vL|exact xo|exact zh|exact xK|exact jU|exact xD|exact GT)
 |(with_reducible show Cx.mg _ _=_);(exact Top.no (by assumption) (by kernel_rfl!))
 |(with_reducible show _=_);first|exact Zam _|kernel_rfl!
 |(with_reducible show Gl _ _);show _=_;kernel_rfl!
 |show Sd.CSs _ _ _ _ _ _ [.cel _ _ _ _];refine Zch (by assumption) (by assumption) (by assumption) ?_ ?_ (by assumption) (by kernel_rfl!) rfl rfl (by kernel_rfl!) (by first|exact G4|exact Jd|exact zB|exact xr|exact vL|exact xo|exact zh|exact xK|exact jU|exact xD|exact GT) rfl (by kernel_rfl!) (by first|exact Or.inl (by kernel_rfl!)|exact mz (by kernel_rfl!)|exact mz (Or.inl (by kernel_rfl!))|exact mz (mz (by kernel_rfl!))) (by first|exact .inl rfl|exact .inr<|by kernel_rfl!) (by kernel_rfl!) (by kernel_rfl!) (by kernel_rfl!)
 |show Sd.CSs _ _ _ _ _ _ _;first|apply ZaX|apply qC
 |show Sd.CA _ _ _ _ _;first|apply Zbq|apply u9
 |show jF (.blt .list _);apply G0 JZ
 |show jF (.blt .listD _);apply G0 (yK rfl)
 |show jF (.blt .sortedD _);apply qP (QS rfl)
 |show jF (.lst _);apply Za3
 |show jF (.comp1 _ _ _ _ _ _);refine vI rfl (by first|assumption|exact T6<|by kernel_rfl!) (wY<|by kernel_rfl!) ?_ (λ_ _ _ _=>#[?_,?_,?_]) (hs:=by intro _;kernel_rfl!)
 |show Sd.CE _ _ _ (.BoolOp _ [_] _) _;apply Zay
 |show jE (.dix _ ai);apply qr
 |show jE (.dix _ aj);apply uo
 |show jE (.v _);apply Zdg
 |show jE (.c _);first|apply ZaQ|apply Zce|apply Zbk|apply ZaJ
 |show jE (.call _ _);refine ZbN (by assumption) (by assumption) (by assumption) ?_ (by kernel_rfl!) rfl (by kernel_rfl!) (by first|exact G4|exact Jd|exact zB|exact xr|exact vL|exact xo|exact zh|exact xK|exact jU|exact xD|exact GT) rfl
 |show jE .dnew;apply uX
 |show jE (.ix _ _);apply Zcv
 |show jE (.blt .len _);apply WJ zR
 |show jE (.blt .tuple _);apply UJ Ur
 |show jE (.blt .all _);apply WJ (G6 rfl)
 |show jE (.blt .toInt _);apply UJ zS
 |show jE (.blt .max2 _);apply WJ (zJ rfl)
 |show jE (.blt .min2 _);apply WJ (z7 rfl)
 |show jE (.blt .dictP _);apply UJ (Ut rfl<|by assumption)
 |show jE (.blt _ _);apply Go
 |show jE (.bin _ _ _);first|apply Zbr|apply Zbw|apply Zbx|apply Zav|apply jk|apply Zba
 |show jE (.tup _);apply Zbf
 |show jE (.neg _);apply j4
 |show jE (.not _);apply ZaY
 |show jE (.cmp .eq _ _);apply YR (vT<|by assumption)
 |show jE (.cmp .ne _ _);apply YR (xH<|by assumption)
 |show jE (.cmp .lt _ _);apply YR (z5<|by assumption)
 |show jE (.cmp .le _ _);apply YR (V8<|by assumption)
 |show jE (.cmp .gt _ _);apply YR (vD<|by assumption)
 |show jE (.cmp .ge _ _);apply YR (wJ<|by assumption)
 |show jE (.cmp .is _ _);apply YR (xY<|by assumption)
 |show jE (.cmp .isn _ _);apply YR (GN<|by assumption)
 |show jE (.cmp .nin _ _);apply YR (Ga<|by assumption)
 |show jE (.chain _ _ _ _ _);first|apply Jx (V8<|by assumption) (V8<|by assumption)|apply Jx (V8<|by assumption) (z5<|by assumption)
 |show jE (.sl _ _ _);apply ZbI
 |show jE (.rev _);apply ZaT
 |show jE (.isi _ _);first|apply Vx (T:="int") (t:=.int)|apply Vx (T:="bool") (t:=.bool)|apply Vx (T:="tuple") (t:=.tuple)|apply Vx (T:="list") (t:=.list)|apply Vx (T:="dict") (t:=.dict)
 |(first|show jE (.lst _)|show jE (.comp1 _ _ _ _ _ _)|show jE (.comp2 _ _ _ _ _ _ _ _ _)|show jE (.blt .list _)|show jE (.blt .sorted _)|show jE (.blt .listD _)|show jE (.blt .sortedD _));refine CF.ce ?_
 |show jE _;apply Za5
 |show Sd.CO _ _ _ _ _;first|apply jj|apply qb
 |show jS (.ret _);first|apply Zas|apply uO
 |show jS (.dnw _ _);apply Zbs
 |show jS (.dput _ _ _);apply uK
 |show jS (.forF _ _ _);apply uR kq
 |show jS (.lnw _ _);apply ZaM
 |show jS (.cat _ _);apply Zbo
 |show jS (.app _ _);apply ZbE
 |show jS (.dset _ _);apply ux
 |show jS (.asg _<|.comp1 _ _ _ _ _ _);refine xF rfl (by assumption) (wY<|by kernel_rfl!) ?_ (λ_ _ _ _=>#[?_,?_,?_]) (hsw:=by kernel_rfl!) (hy:=by kernel_rfl!) (hx:=by first|exact Or.inl (by kernel_rfl!)|exact mz (by kernel_rfl!)|exact mz (Or.inl (by kernel_rfl!))|exact mz (mz (by kernel_rfl!))) (hf:=by first|exact .inl rfl|exact .inr<|by kernel_rfl!) (hs:=by intro _;kernel_rfl!)
 |show jS (.asg [_] _);first|refine uw ?_ ?_ (hf:=by kernel_rfl!) (hs:=by kernel_rfl!) (hw:=by kernel_rfl!) (h1:=by kernel_rfl!)|apply u4
 |show jS (.asg _ _);apply Zbc
 |show jS (.ite _ _ _);apply ZcJ
 |show jS (.forr _ _ _);apply ZaW kq
 |show jS (.whl _ _);apply wQ kq
 |show jS (.aug _ _ _);apply Zbl xB
 |show jT (.not _);apply Zax
 |show jT (.cmp .eq _ _);apply YS (vT<|by assumption)
 |show jT (.cmp .ne _ _);apply YS (xH<|by assumption)
 |show jT (.cmp .lt _ _);apply YS (z5<|by assumption)
 |show jT (.cmp .le _ _);apply YS (V8<|by assumption)
 |show jT (.cmp .gt _ _);apply YS (vD<|by assumption)
 |show jT (.cmp .ge _ _);apply YS (wJ<|by assumption)
 |show jT (.cmp .is _ _);apply YS (xY<|by assumption)
 |show jT (.cmp .isn _ _);apply YS (GN<|by assumption)
 |show jT (.cmp .nin _ _);apply YS (Ga<|by assumption)
 |show jT (.or _ _);refine CWh.ct<|jR ?_ ?_
 |show jT _;apply ZaI
 |show Sd.CWh _ _ _ _ _;first|apply jR|apply Za1
 |show Sd.CTs _ _ _ _ _;first|apply uW|apply uz
 |show Sd.CW _ _ _ _ _ _;first|apply qg|apply qa|apply j5|apply uh|apply Zcf
 |show Sd.CG _ _ _;first|apply qc|apply Zbj
 |show Sd.CGs _ _ _;first|apply qI|apply vj
 |(first|exact Or.inl (by kernel_rfl!)|exact mz (by kernel_rfl!)|exact mz (Or.inl (by kernel_rfl!))|exact mz (mz (by kernel_rfl!)))
 |assumption
 |exact T6 (by kernel_rfl!)
 |decide
 |(intro _;kernel_rfl!)
 |(intro _ _;kernel_rfl!)
 |(intro m h;cases h)))
end K71
namespace PySem.W.Fast
def tw10273736193861469844:=0
def tw1784417016415514670:=0
def tw4898117101818151656:=0
def tw2450945725097412889:=0
def tw10000352245870562205:=0
def tw8513324315620764997:=0
def tw1973710006745706964:=0
def tw17925675616618199603:=0
def tw10811748737159313621:=0
def tw6745767297312417747:=0
def tw12971175453430077435:=0
def tw3994656159004692265:=0
def tw12789896293267162056:=0
def tw15266058672108836012:=0
def tw7246995500457230698:=0
def tw10521998285730060914:=0
def tw13412191416001140175:=0
def tw4605789521748536881:=0
def tw6884876617572952311:=0
def tw12712612108533449351:=0
def tw15857545686991073507:=0
def tw16204198319136116498:=0
def tw14342152806469416695:=0
def tw6529275253989120415:=0
def tw7064171588938357490:=0
def tw5986414667991788304:=0
def tw16504229066420611332:=0
def tw16527034049105573309:=0
def tw13080717552164219261:=0
def tw2764283976515443616:=0
def tw8152106252640662692:=0
def tw449844061899643765:=0
def tw17541060635279611039:=0
def tw13562907170766680298:=0
def tw3266692439355260968:=0
def tw7776548534578292091:=0
def tw5589504625251036458:=0
def tw3301375206249479884:=0
def tw851891984244098689:=0
def tw11089393820315880196:=0
def tw6250549428579912419:=0
def tw8635926765840535071:=0
def tw16269054843093351256:=0
def tw10565807750040147377:=0
def tw3069768027613097865:=0
def tw3117349967220922843:=0
def tw1297263771880509363:=0
def tw11987910444799799212:=0
def tw8893113527656794087:=0
def tw2967403133159850673:=0
def tw473494831075138315:=0
def tw11043262223119599527:=0
def tw1994233931147930145:=0
def tw17601833010632177924:=0
def tw7666160387416899064:=0
def tw10038867403176154571:=0
def tw8052309417584993078:=0
def tw17791098933362591190:=0
def tw2293639084557826850:=0
def tw10199293600584501758:=0
def tw9264558295991083873:=0
def tw933087834203276647:=0
def tw16353109120271720117:=0
def tw5154945171231167264:=0
def tw10597116534915798290:=0
def tw14625446500084093525:=0
def tw8055900195214790908:=0
def tw12522490813462092777:=0
def tw13587733277878774432:=0
def tw9364314921604558479:=0
def tw8660748244096198235:=0
def tw777686162881126272:=0
def tw16062099601346210593:=0
def tw494775098873383821:=0
def tw7704037957710214086:=0
def tw4459246348069833985:=0
def tw7814372034126216975:=0
def tw16364974442046110992:=0
def tw652210027132592732:=0
def tw17776883442281419316:=0
def tw6849232195978191689:=0
def tw17277409643309995931:=0
def tw7150431470256613001:=0
def tw16285931980576457981:=0
def tw15680625844429129097:=0
def tw6216948326454448652:=0
def tw11040018010154815556:=0
def tw11074105487358481795:=0
def tw15797115957629946635:=0
def tw5254521910449425035:=0
def tw15013789213937445454:=0
def tw5795856913949199098:=0
def tw476564878373046500:=0
def tw15101868872997814111:=0
def tw7753873135575633546:=0
def tw8312136829019875804:=0
def tw5695273601093063464:=0
def tw2246503622219384536:=0
def tw2212028885132879467:=0
def tw17614534209549087686:=0
def tw6482279809424313171:=0
def tw17627144578106465582:=0
def tw8583729894955000781:=0
def tw3415229402587711223:=0
def tw1276965402462066942:=0
def tw12548493315339326389:=0
def tw2832051799698541633:=0
def tw2642306842531899920:=0
def tw14686442899216081958:=0
def tw7795488917112007754:=0
def tw10112343246280784407:=0
def tw9499162538369417409:=0
def tw3581723208362780203:=0
def tw988854107881680153:=0
def tw9054031925779226454:=0
def tw7501264622035741291:=0
def tw16995803527119920786:=0
def tw7647463764255489942:=0
def tw17772844643125861086:=0
def tw17251880132432731004:=0
def tw2741541984672885891:=0
def tw10531223680527785078:=0
def tw4865955878449987754:=0
def tw15032719064762934463:=0
def tw7493177768564481984:=0
def tw13989789550324566682:=0
def tw1648231173667512652:=0
def tw7324738586020519464:=0
def tw8737146720896800903:=0
def tw398237685018247316:=0
def tw8697146701042159006:=0
def tw9208414458898781106:=0
def tw8954477618771027214:=0
def tw11402449015905886504:=0
def tw10498267825059495205:=0
def tw8080105536782956745:=0
def tw11391185449033914426:=0
def tw13451081397079913042:=0
def tw3636899329643265080:=0
def tw6882749718776690251:=0
def tw11164702281092110755:=0
def tw4011245704640159895:=0
def tw12737069407128945046:=0
def tw13677837521261451423:=0
def tw5355253580735406436:=0
def tw17924185513586429893:=0
def tw8819352953464373802:=0
def tw18428299761896687004:=0
def tw583523482397580216:=0
def tw2725416791652796821:=0
def tw5114659802087114895:=0
def tw17038902605027743072:=0
def tw11105461637332949012:=0
def tw11682437303393403473:=0
def tw9386466964264397069:=0
def tw15186914596528258453:=0
def tw10549293451079429129:=0
def tw12384520873489671363:=0
def tw5069913625928054548:=0
def tw16275534390434428943:=0
def tw14109398616056201443:=0
def tw1731529158487225515:=0
def tw9437183281223367775:=0
def tw2606022441615030848:=0
def tw12207821371916401871:=0
def tw5048804049369721820:=0
def tw283514118525865902:=0
def tw11455829574737150634:=0
def tw6145662816052327732:=0
def tw15033027661828093585:=0
def tw11157896751017682180:=0
def tw14847653762108276946:=0
def tw11453341895629968677:=0
def tw11092839881828611809:=0
def tw8946198155604738137:=0
def tw13245202550974613295:=0
def tw2405021595137291857:=0
def tw6850372747642484497:=0
def tw16207160305383484502:=0
def tw8477051066192974548:=0
def tw7684731573411766012:=0
def tw3341796267209770326:=0
end PySem.W.Fast
open PySem PySem.W PyProof.Rows Gn
set_option maxRecDepth 100000 in
set_option maxHeartbeats 0 in
theorem PySem.Challenge.cw_fewspaces_k71_turns_looked_at_holds : PySem.Challenge.rw_fewspaces_k71_turns_looked_at.Holds := by
  w_on; o_law; k_head; (case hw => w_witness2)
  k_fill
  refine Gn.walk (l := PySem.Challenge.rw_fewspaces_k71_turns_looked_at) (F := K71.fns) (tk := K71.tk) (L := 24) (fun ns s => K71.law_ok ns s) rfl rfl (fun w h Y => PySem.W.kIn_of Y) ?F
  case F =>
    intro w mg fa h KX G hmg;refine' Gn.Za9 (fs := K71.fs) (zs := K71.zs) (gs := K71.gs) (sn := K71.sn) KX G hmg rfl K71.okl rfl (by decide) ?A ?Z ?Y
    case A => repeat' (first|exact FnsAt.nil|refine' FnsAt.cons ?h1 ?h2 ?h3 ?h4 ?h5 ?_; (case h1 => k_is); (case h2 => k_is); (case h3 => k_is); (case h4 => k_is); (case h5 => first|exact bd1 fun _ _ _ _ _ _ _ => rfl|exact bd2 fun _ _ _ _ _ _ _ _ => rfl|exact bd3 fun _ _ _ _ _ _ _ _ _ => rfl|exact bd4 fun _ _ _ _ _ _ _ _ _ _ => rfl|exact bd5 fun _ _ _ _ _ _ _ _ _ _ _ => rfl|exact bd6 fun _ _ _ _ _ _ _ _ _ _ _ _ => rfl))
    case Z => repeat' (first|exact ZsAt.nil|refine' ZsAt.cons ?h1 ?_; (case h1 => k_is))
    case Y => repeat' (first|exact GsAt.nil|refine' GsAt.cons ?h1 ?_; (case h1 => k_is))
