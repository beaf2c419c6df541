import PyProof.Rows.All
import Wide.All
import OpenK.AllK
import PySem.Challenge.RW_fewspaces_k61_chains_looked_at
set_option Elab.async false
set_option linter.all false
set_option compiler.extract_closed false
set_option maxRecDepth 100000
set_option maxHeartbeats 0
local macro_rules
|`(#[$x,$y])=>`(⟨$x,$y⟩)
|`(#[$x,$y,$z,*])=>`(⟨$x,$y,$z,*⟩)
abbrev T9:=@if_pos
abbrev T8:=@if_neg
abbrev T7:=@absurd
abbrev T6:=@of_decide_eq_true
abbrev T5:=@decide_eq_true
abbrev T4:=@decide_eq_false
abbrev T3:=@decide_eq_true_eq
open Option renaming some->aa,none->ab,bind_eq_some_iff->aO,map_eq_some_iff->aW,isSome_iff_exists->bZ,join_eq_some_iff->f6,map_eq_none_iff->gn,isSome_some->iq,getD_none->ka
open Decidable renaming decide->ae
open PySem renaming wpAny_bind->af,Value->am,Shared->au,wpAny_pure->ay,Addr->aB,starEach->aE,sizeLine->aQ,wpAny->aS,model->ba,Str->bc,wpAny_newObj_type->bo,Program->br,assignEach->bv,mainGlobals->bE,wpAny_field->bF,compareOp->bG,Heap->bJ,World->bK,wpAny_callSpecial?_slot->bQ,wpAny_holding->bS,FuncData->bW,assign->b0,eval->b9,swapsWithSole->cc,swappedStores->cf,Around->cg,sysModules->cm,tupleKind->cw,foldedSetIterable->cx,bootBuiltins->cB,cellsFrom->cG,wpAny_call_entry->cH,cLine->cI,wpAny_seqItems->cK,wpAny_setField_rec->cL,binaryOp->cV,NameKind->cW,wpAny_mono->cY,mem_of_lookup->c6,Scope->de,wpAny_truthy_bool->dn,wpAny_pyIter_list->dq,backTo->du,wpAny_rule->dv,sizeLine_eq->dy,holding->dC,wpAny_typeOf->dD,Stmt->dG,Obj->dJ,behindInMarks->dL,wpAny_passesOwn->dQ,Builtin->dR,call_meets->dS,wpAny_pyIter_tuple->dU,sliceBounds->dX,PyData->d6,wpAny_isInstance->eo,wpAny_standAt->eB,wpAny_updateSeq_pair->eI,wpAny_loadPart'->eQ,intKind->eV,DictEntry->eX,wpAny_Call_Name_kw->fb,IsPart->fg,Pos->fA,wpAny_binaryOp_repeat_ref->fB,getItem->fG,wpAny_sequenceKey->fH,wpAny_onRaise->fR,noFill_tuple_add->fU,rawInt->f8,wpAny_pyNext_list_item->ga,codeAny->gb,typeIs_int->gh,IsPair->gl,richCompare_meets_room->gm,letOwnedTupleGo->gq,pushCells_keeps->gx,wpAny_pyNext_list_end->gz,builtinLookup_eq_fast->gC,ZipApart->gI,repr_of_reads'->gM,swapsWith->gR,standAt->gS,callerA->gT,assignInOrder->gZ,seq_tuple_add->g7,evalPart_none->g9,attributeBase->hG,wpAny_attempt->hJ,builtinsNs->ia,wpAny_load->ib,tupleKind_room_in1->ir,wpAny_assign_Name->iC,BindsTo->iG,codeAny_mono->iH,concat_meets->iI,seqIndex_neg->iJ,Keyword->iK,valueAt->iN,wpAny_pyIter_enum->iV,ReadsAll->iZ,pyNext->i7,reduceHash->ke,seqSlot_of->kf,pushCells->km,seqIndex_of->kA,keywordEach->kB,IsZip->kD,wpAny_letGo->kE,setItem->kJ,wpAny_Name->kL,bindArgs->kN,typeLookup->kO,call->kR,atKey->kS,Meets->kT,Sem->kY,bindL->lf,bindC->lg,release->lj,Tok->ll,rule->lm
open Bool renaming true->ag,false->ai,and_eq_true->ax,false_ne_true->aF,eq_iff_iff->bp,or_eq_true->cA,not_false->cM,false_or->eC,false_eq_true->fv,not_eq_true'->fO,true_and->hV,and_true->hX,and_false->kQ,or_false->k8,not_true->la
open Option.some renaming inj->ah
open PySem.W renaming Frag->aj,kia_one->bT,fnOf->cD,nsIn->dE,keepIn->d3,codeIn->fe,mg_of->fS,cellsFrom_some->gc,instObj->gp,OpenLaw->gu,lookIn->gF,kitOne->gH,kitx_list->iE,kitx_dict->iF,plainGet->i8,findIn->kM,WalkO->k7
open List renaming mem_cons_of_mem->ak,mem_cons_self->al,getElem?_eq_getElem->ao,size_toArray->aq,mem_cons->ar,length_map->aw,mem_map->az,replicate->aA,length_cons->aI,getElem_mem->aJ,mem_singleton->aK,all_eq_true->aL,getElem?_eq_some_iff->aM,map_cons->aN,length_append->aP,not_mem_nil->aR,getElem?_set_ne->aT,getElem?_map->aV,range->aY,pairwise_cons->aZ,getD_eq_getElem?_getD->bf,length_set->bg,mem_append_right->bi,lookup_cons->bj,mem_range->bm,replicate_succ->bq,getElem?_set_self->bu,mem_append->bw,map_map->bB,length_take->bC,zip_cons_cons->bI,getElem_of_mem->bL,length_replicate->bM,flatten_cons->bN,getElem?_replicate->bP,length_drop->bV,getElem?_append_left->bX,length_range->bY,getElem?_append_right->cj,drop_eq_getElem_cons->ck,any_eq_true->cq,mem_append_left->cu,mem_filter->cy,append_nil->cz,all_map->cE,any_cons->cF,nodup_cons->cQ,of_mem_zip->cR,find?_cons->cS,length_zip->cT,map_append->cU,pairwise_map->cX,map_uncurry_zip_eq_zipWith->c0,length_reverse->c7,map_congr_left->c8,length_eq_zero_iff->c9,take_of_length_le->dg,all_cons->di,length_singleton->dj,contains_iff_mem->dm,eq_of_mem_replicate->dP,any_eq_false->dZ,reverse_cons->d5,getElem?_eq_none->eg,ext_getElem->et,mem_flatMap->eA,mem_of_getElem?->eD,isEmpty_toArray->eE,getElem?_mapIdx->eF,length_nil->eL,filterMap_cons->eR,getElem?_zip_eq_some->fC,mem_or_eq_of_mem_set->fE,append_assoc->fI,contains->fQ,find?_range_eq_some->fT,pairwise_singleton->fY,filter_cons->f7,range_succ_eq_map->gk,foldl_cons->gr,nil_append->gv,forIn_cons->gw,set_getElem_self->gA,length_filter_le->gD,mem_of_mem_take->gL,map_id->gO,mem_of_getLast?->gP,getElem?_range->gV,mem_map_of_mem->gW,length_pos_iff->gY,map_tail->hU,mem_filterMap->ic,filterMap_map->ik,find?_toArray->iu,zip_nil_right->iy,find?_eq_none->iz,map_nil->iM,getElem?_set->iO,ext_getElem?->iS,zip_nil_left->iW,getElem_take->i4,getElem_drop->i5,all_eq_false->i6,take_length->ki,drop_length->kl,zipIdx_cons->ko,mem_reverse->kw,length->kz,zipIdx_nil->kH,drop_zero->kU,forIn_nil->kW,tail_cons->kX,set_comm->k5,drop->lh,map->lq
open PySem.Heap renaming get?_push_of_some->ap,lt_size->aC,get?_push_size->aH,size_push->bR,SameBut->dB,get?_update_self->ee,ExtBut->fM,get?_update_other->gg
open Nat renaming le_refl->aD,lt_of_lt_of_le->aX,lt_irrefl->bh,ne_of_lt->bn,le_trans->bx,le_add_right->da,zero_le->df,pow_le_pow_right->dA,ne_of_gt->dY,sub_succ_lt_self->eG,mul_le_mul->fq,lt_succ_of_lt->fN,lt_trans->gj,min_eq_left->gy,lt_min->iw,le_of_lt->iB,succ_mul->iL,mul_comm->iQ,min_self->iR,zero_add->iY,min_le_right->i9,le_of_not_lt->kc,lt_succ_self->kn,le_succ->kC
open And renaming intro->aG
open PySem.Str renaming ofString->aU
open PySem.NameKind renaming free->bd,cell->bD
open PySem.Value renaming bool->be,ref->bO,none->eY,isStrOf->kZ,int->lc
open PyProof.Rows renaming slot_tuple_getitem->bz,callWith_type1->cC,entry_tuple_getitem->eS,assignInOrder_cons->eZ,envOfC->fc,slicePart_none->fh,args_tuple_getitem->fk,AllBare->fF,subscriptTail_builtinR->gf,tupleItemsOf_->g8,IsTup->iA,assignInOrder_nil->iD,IntsAre->kK,Subscript_->kP,Keyed->ln
open PySem.Builtin.Slice renaming slicePlaces->bH,sliceAdjust->dF,sliceApplied->fj
open Sum renaming inl->bU,inr->gQ
open Pure renaming pure->cb
open LawfulBEq renaming eq_of_beq->cn
open PySem.AutoSeq1 renaming wpAny_loadPart'->cp,sub_tuple_tuple->cr,wpAny_loadPart'->dO,idx_int->fV
open PySem.F renaming slot_tuple_iterator_next->cJ,args_tuple_add_2->dM,entry_tuple_add->dW,slot_tuple_add->d4,slot_int_rmul->eM,args_tuple_iterator_next_1->eN,slot_zip_next->eO,entry_tuple_iterator_next->eW,args_tuple_mul_2->fo,entry_tuple_mul->fK,slot_tuple_mul->fW,plainAttrs_list->fX,args_int_rmul_2->iP,args_zip_next_1->iU,args_tuple_lt_2->iX,entry_int_rmul->kg,entry_zip_next->kq,entry_tuple_lt->kr,fills_int_mul->kF,slot_tuple_lt->kI
open Int renaming emod_lt_of_pos->cO,emod_nonneg->dh,toNat_natCast->dr,emod_eq_of_lt->d7,natCast_nonneg->fz,toNat_of_nonneg->gX
open PySem.Builtin.SmallTypes renaming nextOf->cP
open True renaming intro->cZ
open List.Perm renaming refl->db,swap->gJ
open PySem.Builtin.Tuple renaming tupleItemsOf->dz,tupleHashOf->d8,tupleCompareSizes->d9,tupleTooMany->fm
open Array renaming length_toList->dH,getElem?_eq_getElem->fD,mem_toList_iff->gG
open PySem.Builtin.List renaming listTooLong->dN
open PyProof.Rows.IsTup renaming new->ej
open PySem.SeqAt renaming EqAt->ek
open PySem.PyData renaming bulkAll->eJ,depthAll->gE,int->ku
open PySem.SeqAt.EqAt renaming same->eK,of_refs->fu,int_str->hZ,str_int->h9,int_int->ip
open PySem.Heap.SameBut renaming update->eT
open Lean.Grind renaming CommRing->eU
open PySem.Obj renaming data_mapFields->fw,isFreed_of_fields->gB,mapSeq->io,cls_mapFields->iT
open List.Pairwise renaming nil->fJ,filter->gN
open PySem.SeqAt.RcAt renaming tuples->fL,lists_lengths->fP,lists->kh
open PySem.Builtin.Dict renaming updateFrom->fZ
open PySem.Around renaming under_plainId->gK
open PySem.Builtin.Int renaming intBits->gU
open PySem.P renaming truthy_int->ig
open PySem.Heap.IsSliceOf renaming new->im
open Classical renaming not_not->i3
open Or renaming inr->kj
open Sum.inl renaming inj->kx
open ForInStep renaming yield->kG
open PySem.Code renaming compLoop->k9
open Min renaming min->ls
namespace L2
open PySem PySem.Spec PyProof.Rows
abbrev Key:=Sum Int bc
noncomputable def VN:Key->am->Bool
 |.inl k,v=>am.isInt k v
 |.inr x,v=>kZ x v
noncomputable def ZbJ(w:bK):Key->Int
 |.inl k=>hashInt k
 |.inr x=>hashStr w x
def ZK:∀{k:Key}{v:am},VN k v=ag->(∃i t,k=bU i/\v=lc i t)\/(∃x t,k=gQ x/\v=am.str x t)
 |.inl i,v,h=>by
  obtain⟨t,e⟩:=am.isInt_shape h;exact .inl #[i,t,rfl,e]
 |.inr x,v,h=>by
  obtain⟨t,e⟩:=am.isStrOf_shape h;exact .inr #[x,t,rfl,e]
def yi(i:Int)(t:ll):VN (.inl i) (.int i t)=ag:=by simp[VN,am.isInt]
def yx(x:bc)(t:ll):VN (.inr x) (.str x t)=ag:=by simp[VN,kZ]
def Zay(a b:Int):ae ((bU a:Key)=bU b)=(a == b):=by
 by_cases e:a=b
 .subst e;simp
 .have h:¬(bU a:Key)=bU b:=λq=>e (kx q)
  rw[T4 h];exact(beq_eq_false_iff_ne.mpr e).symm
def jy(a b:bc):ae ((gQ a:Key)=gQ b)=ae (a=b):=by
 by_cases e:a=b
 .subst e;simp
 .have h:¬(gQ a:Key)=gQ b:=λq=>e (gQ.inj q)
  rw[T4 h,T4 e]
def jY(a:Int)(b:bc):ae ((bU a:Key)=gQ b)=ai:=T4 (λq=>nomatch q)
def qO(a:bc)(b:Int):ae ((gQ a:Key)=bU b)=ai:=T4 (λq=>nomatch q)
noncomputable def ZC(prog:br)(w:bK):PySem.KeyKind prog w Key where
 is:=VN
 hash:=ZbJ w
 inj:=λv a b ha hb=>by
  rcases ZK ha with⟨i,t,rfl,rfl⟩|⟨x,t,rfl,rfl⟩
  .rcases ZK hb with⟨j,u,rfl,e⟩|⟨y,u,rfl,e⟩
   .injection e with e1 _;rw[e1]
   .exact nomatch e
  .rcases ZK hb with⟨j,u,rfl,e⟩|⟨y,u,rfl,e⟩
   .exact nomatch e
   .injection e with e1 _;rw[e1]
 byValue:=λk v h=>by
  rcases ZK h with⟨i,t,rfl,rfl⟩|⟨x,t,rfl,rfl⟩<;>rfl
 pyHash:=λhv h=>by
  rcases ZK hv with⟨i,t,rfl,rfl⟩|⟨x,t,rfl,rfl⟩
  .exact wpAny_pyHash_int h
  .exact wpAny_pyHash_str h
 eqBool:=λhu hv h=>by
  rcases ZK hu with⟨i,t,rfl,rfl⟩|⟨x,t,rfl,rfl⟩
  .rcases ZK hv with⟨j,u,rfl,rfl⟩|⟨y,u,rfl,rfl⟩
   .rw[Zay]at h;exact wpAny_eqBool_int h
   .rw[jY]at h;exact hZ i t y u _ _ _ _ h
  .rcases ZK hv with⟨j,u,rfl,rfl⟩|⟨y,u,rfl,rfl⟩
   .rw[qO]at h;exact h9 x t j u _ _ _ _ h
   .rw[jy]at h;exact wpAny_eqBool_str h
 «strs»:=λk x t v h=>by
  rcases ZK h with⟨i,u,rfl,e⟩|⟨y,u,rfl,e⟩
  .exact nomatch e
  .injection e with e1 _
   subst e1;cases v<;>rfl
def QK(prog:br)(w:bK)(i:Int)(t:ll):(ZC prog w).is (.inl i) (.int i t)=ag:=yi i t
def Jw(prog:br)(w:bK)(x:bc)(t:ll):(ZC prog w).is (.inr x) (.str x t)=ag:=yx x t
inductive V where
 |non|bl (b:Bool)|int (i:Int)|str (x:bc)|byt (b:Array UInt8)|flt (b:UInt64)|ref (a:aB)|ty (n:String)
 deriving DecidableEq
def ZA:V->am->Prop
 |.non,u=>u=eY
 |.bl b,u=>u=be b
 |.int i,u=>∃t,u=lc i t
 |.str x,u=>∃t,u=am.str x t
 |.byt b,u=>∃t,u=am.bytes b t
 |.flt b,u=>∃t,u=am.float b t
 |.ref a,u=>u=bO a
 |.ty n,u=>u=am.type n
abbrev Vals:List V->List am->Prop:=Paired ZA
theorem Vals.length{xs:List V}{us:List am}(r:Vals xs us):xs.length=us.length:=Paired.length r
theorem Vals.get:∀{xs:List V}{us:List am}{i:Nat}{x:V},Vals xs us->xs[i]?=aa x->∃u,us[i]?=aa u/\ZA x u
 |_,_,_,_,.nil,e=>by simp at e
 |_,_,0,_,.cons r _,e=>by simp at e;subst e;exact#[_,rfl,r]
 |_,_,i+1,x,.cons _ t,e=>by
  obtain⟨u,h1,h2⟩:=Vals.get t (by simpa using e)
  exact#[u,by simpa using h1,h2]
theorem Vals.set(r:ZA x u):∀{xs:List V}{us:List am}(i:Nat),Vals xs us->Vals (xs.set i x) (us.set i u)
 |_,_,_,.nil=>.nil
 |_,_,0,.cons _ t=>.cons r t
 |_,_,i+1,.cons q t=>.cons q<|Vals.set r i t
theorem Vals.append:∀{xs ys:List V}{us ws:List am},Vals xs us->Vals ys ws->Vals (xs++ys) (us++ws)
 |_,_,_,_,.nil,s=>s
 |_,_,_,_,.cons r t,s=>.cons r<|Vals.append t s
theorem Vals.take:∀{xs:List V}{us:List am}(n:Nat),Vals xs us->Vals (xs.take n) (us.take n)
 |_,_,0,_=>.nil
 |_,_,_+1,.nil=>.nil
 |_,_,n+1,.cons r t=>.cons r<|Vals.take n t
theorem Vals.drop:∀{xs:List V}{us:List am}(n:Nat),Vals xs us->Vals (xs.drop n) (us.drop n)
 |_,_,0,r=>r
 |_,_,_+1,.nil=>.nil
 |_,_,n+1,.cons _ t=>Vals.drop n t
def JY:Option V->Option am->Prop
 |some v,aa u=>ZA v u
 |none,ab=>True
 |_,_=>False
def KV{κ:Type}:List (κ×V)->List (κ×am)->Prop:=Paired λ(p:κ×V) (q:κ×am)=>p.1=q.1/\ZA p.2 q.2
noncomputable def kV:Key->V
 |.inl i=>.int i
 |.inr x=>.str x
inductive HO where
 |lst (xs:List V)
 |tup (xs:List V)
 |dK (kvs:List (Key×V))|dT (kvs:List (List Key×V))
 |set (S:Int->Bool) (n:Nat)
 |ins (C dx:aB) (fs:List (bc×V))
 |own (x:aB)
 |xd (fs:List (bc×V))
 |met (f x:aB)
 |rng (lo hi:Int)
 |frz (o:dJ) (u:HO)
 |tbl (ps:Array am)
 |ext (φ:bJ->Prop)
abbrev Hp:=aB->Option HO
noncomputable def upd(H:Hp)(a:aB)(o:HO):Hp:=λb=>if b=a then aa o else H b
def Zu :upd H a o a=aa o:=by unfold upd;rw[T9 rfl]
def Zq(h:b≠a):upd H a o b=H b:=by unfold upd;rw[T8 h]
def GM :upd (upd H a o) a u=upd H a u:=by
 funext b;unfold upd;split<;>rfl
def Ya{H:Hp}{a b:aB}{o:HO}(h:H a=aa o)(h':H b=ab):a≠b:=by
 intro e;subst e;rw[h]at h';cases h'
section
variable(P:br)(w:bK)
def Z5(H:Hp)(h:bJ)(a:aB):HO->Prop
 |.lst xs=>xs.length<=aQ/\∃(its:List am)(n:Nat),Vals xs its/\h.get? a=aa {cls:=.type "list",data:=.seq its.toArray n}
 |.tup xs=>xs.length<=aQ/\∃its:List am,Vals xs its/\iA h a its.toArray
 |.dK kvs=>kvs.length<=aQ/\(a == cm)=ai/\∃vs,KV kvs vs/\h.DictOf (ZC P w) a vs
 |.dT kvs=>kvs.length<=aQ/\(a == cm)=ai/\∃xs:List (List Key×aB×am),
   Paired (λ(p:List Key×V) (q:List Key×aB×am)=>p.1=q.1/\H q.2.1=aa (.tup<|p.1.map kV)/\ZA p.2 q.2.2) kvs xs/\
   ∃o es ep,h.get? a=aa o/\o.ExactDict/\o.data=.dict es ep/\es.toList=xs.map (entryOfKey<|cw<|ZC P w)/\(xs.map (·.1)).Nodup
 |.set S n=>h.SetOf (eV P w) a S n
 |.ins C dx fs=>H dx=aa (.own a)/\fs.length<=1000/\dx≠a/\h.get? a=aa (gp C dx)/\
   ∃mA,h.Ns1 dx mA/\(∀f,JY (fs.lookup f)<|mA f)/\PySem.Within mA (fs.map (·.1))
 |.own _=>∃o,h.get? a=aa o
 |.xd fs=>∃mA,h.Ns1 a mA/\∀f,JY (fs.lookup f)<|mA f
 |.rng lo hi=>∃t u v,h.get? a=aa {cls:=.type "range",data:=.fields [.int lo t,.int hi u,.int 1 v].toArray}
 |.frz o u=>h.get? a=aa o/\Z5 H h a u
 |.tbl ps=>h.get? a=aa {cls:=.none,data:=.fields ps}
 |.met f x=>h.get? a=aa (PySem.W.methodObj (.ref f)<|.ref x)
 |.ext φ=>φ h/\(∃o,h.get? a=aa o)/\∀h1 h2:bJ,φ h1->(∀o,h1.get? a=aa o->h2.get? a=aa o)->φ h2
def HOk(H:Hp)(h:bJ):Prop:=∀a o,H a=aa o->Z5 P w H h a o
end
theorem Z5.lt(x:Z5 P w H h a o):a<h.objs.size:=by
 cases o with|lst xs=>obtain⟨_,_,_,_,e⟩:=x;exact aC e|tup xs=>obtain⟨_,_,_,p⟩:=x;exact p.lt|dK kvs=>obtain⟨_,_,_,_,o,_,_,e,_⟩:=x;exact aC e|dT kvs=>obtain⟨_,_,_,_,o,_,_,e,_⟩:=x;exact aC e|set S n=>obtain⟨o,_,_,_,e,_⟩:=x;exact aC e|ins C dx fs=>obtain⟨_,_,_,e,_⟩:=x;exact aC e|own y=>obtain⟨_,e⟩:=x;exact aC e|xd fs=>obtain⟨_,⟨_,_,_,e,_⟩,_⟩:=x;exact aC e|rng lo hi=>obtain⟨_,_,_,e⟩:=x;exact aC e|frz ob u=>obtain⟨e,_⟩:=x;exact aC e|tbl ps=>exact aC (x)|met f y=>exact aC (x)|ext φ=>obtain⟨_,⟨_,e⟩,_⟩:=x;exact aC e
theorem Paired.mapP{m β:Type}{F G:m->β->Prop}:∀{l₁:List m}{l₂:List β},Paired F l₁ l₂->(∀a b,F a b->G a b)->Paired G l₁ l₂
 |_,_,.nil,_=>.nil
 |_,_,.cons r t,f=>.cons (f _ _ r)<|Paired.mapP t f
def Z5.stay(x:Z5 P w H h a o)(k:∀b u,(b=a\/H b=aa (.own a))->h.get? b=aa u->h'.get? b=aa u)
  (ho:∀b,H b=aa (.own a)->H' b=aa (.own a))(ht:∀b xs,H b=aa (.tup xs)->H' b=aa (.tup xs)):Z5 P w H' h' a o:=by
 induction o with
 |lst xs=>obtain⟨z,its,n,r,e⟩:=x;exact#[z,its,n,r,k _ _ (.inl rfl) e]
 |tup xs=>obtain⟨z,its,r,ob,e,c⟩:=x;exact#[z,its,r,ob,k _ _ (.inl rfl) e,c]
 |dK kvs=>obtain⟨z,y,vs,r,ob,es,ep,e,c⟩:=x;exact#[z,y,vs,r,ob,es,ep,k _ _ (.inl rfl) e,c]
 |dT kvs=>
  obtain⟨z,y,xs,r,ob,es,ep,e,c⟩:=x;exact#[z,y,xs,Paired.mapP r λp q z=>#[z.1,ht _ _ z.2.1,z.2.2],ob,es,ep,k _ _ (.inl rfl) e,c]
 |set S n=>obtain⟨ob,es,ep,t,e,c⟩:=x;exact#[ob,es,ep,t,k _ _ (.inl rfl) e,c]
 |ins C dx fs=>
  obtain⟨d,z,ne,e,mA,⟨od,es,ep,e2,c⟩,r⟩:=x;exact#[ho _ d,z,ne,k _ _ (.inl rfl) e,mA,#[od,es,ep,k _ _ (.inr d) e2,c],r]
 |own y=>obtain⟨ob,e⟩:=x;exact#[ob,k _ _ (.inl rfl) e]
 |xd fs=>obtain⟨mA,⟨od,es,ep,e,c⟩,r⟩:=x;exact#[mA,#[od,es,ep,k _ _ (.inl rfl) e,c],r]
 |rng lo hi=>obtain⟨t,u,v,e⟩:=x;exact#[t,u,v,k _ _ (.inl rfl) e]
 |frz ob u ih=>obtain⟨e,q⟩:=x;exact#[k _ _ (.inl rfl) e,ih q]
 |tbl ps=>
  have e:=x;exact k a _ (.inl rfl) e
 |met f y=>
  have e:=x;exact k a _ (.inl rfl) e
 |ext φ=>obtain⟨p,⟨o,e⟩,st⟩:=x;exact#[st _ _ p λo q=>k _ _ (.inl rfl) q,#[o,k _ _ (.inl rfl) e],st]
theorem HOk.lt(x:HOk P w H h)(e:H a=aa o):a<h.objs.size:=(x a o e).lt
def HOk.fresh(x:HOk P w H h)(e:h.objs.size<=a):H a=ab:=by
 cases q:H a with|none=>rfl|some u=>exact T7 (aX (x.lt q) e)<|bh _
def HOk.kept(x:HOk P w H h)(k:∀b u,h.get? b=aa u->h'.get? b=aa u):HOk P w H h':=λa o e=>
 (x a o e).stay (λb u _ q=>k b u q) (λ_ q=>q) λ_ _ q=>q
def HOk.laid(x:HOk P w H h)(k:∀b u,h.get? b=aa u->h'.get? b=aa u)(hp:h.objs.size<=a)(new:Z5 P w (upd H a o) h' a o):HOk P w (upd H a o) h':=λb u e=>by
 have hn:=x.fresh hp;by_cases hb:b=a
 .subst hb;rw[Zu]at e;cases e;exact new
 .rw[Zq hb]at e
  exact(x b u e).stay (λc v _ q=>k c v q) (λc q=>by rw[Zq<|Ya q hn];exact q) λc xs q=>by rw[Zq<|Ya q hn];exact q
def Rd(H:Hp)(a:aB)(u:HO):Prop:=H a=aa u\/∃o,H a=aa (.frz o u)
def Rd.ok(r:Rd H a u)(x:HOk P w H h):Z5 P w H h a u:=by
 rcases r with r|⟨o,r⟩
 .exact x a u r
 .obtain⟨_,q⟩:=x a _ r
  exact q
def Mut:Option HO->Prop
 |some (.lst _)=>True
 |some (.dK _)=>True
 |some (.dT _)=>True
 |some (.set _ _)=>True
 |some (.ins _ _ _)=>True
 |some (.ext _)=>True
 |_=>False
def HOk.write(ok:HOk P w H h)(mu:Mut (H x))(he:e=x\/H e=aa (.own x))(k:∀b u,b≠e->h.get? b=aa u->h'.get? b=aa u)(heo:∃u,h'.get? e=aa u)
  (new:Z5 P w (upd H x o') h' x o'):HOk P w (upd H x o') h':=λb u q=>by
 have nown:∀c y,H c=aa (.own y)->c≠x:=λc y r z=>by subst z;rw[r]at mu;exact mu
 have ntup:∀c xs,H c=aa (.tup xs)->c≠x:=λc xs r z=>by subst z;rw[r]at mu;exact mu
 by_cases hb:b=x
 .subst hb;rw[Zu]at q;cases q;exact new
 .rw[Zq hb]at q
  by_cases hbe:b=e
  .have q':H b=aa (.own x):=by
    rcases he with z|z
    .exact T7 (hbe.trans z) hb
    .rw[hbe];exact z
   rw[q]at q';cases q';obtain⟨v,hv⟩:=heo;exact#[v,by rw[hbe];exact hv]
  .refine(ok b u q).stay (λc v hc r=>k c v ?_ r) (λc r=>by rw[Zq<|nown c b r];exact r) λc xs r=>by rw[Zq<|ntup c xs r];exact r
   rcases hc with rfl|hc
   .exact hbe
   .rintro rfl
    rcases he with z|z
    .exact nown c b hc z
    .rw[hc]at z;cases z;exact hb rfl
structure Un(fs ex:List aB)(H H':Hp)(h h':bJ):Prop where
 keep:∀b o,h.get? b=aa o->H b=ab->b∉fs->b∉ex->h'.get? b=aa o
 slot:∀b o,h.get? b=aa o->H b=ab->b∈fs->b∉ex->∃sl,h'.get? b=aa {o with slots:=sl}
 free:∀b o,h.get? b=aa o->H b=ab->b∉ex->H' b=ab
 there:∀b o,h.get? b=aa o->b∉ex->∃o',h'.get? b=aa o'
 tups:∀b xs,H b=aa (.tup xs)->H' b=aa (.tup xs)
 frzs:∀b o u,H b=aa (.frz o u)->H' b=aa (.frz o u)
 tbls:∀b ps,H b=aa (.tbl ps)->∃more,H' b=aa (.tbl<|ps++more)
def Un.any(u:Un fs ex H H1 h h1)(q:h.get? b=aa ob)(n:H b=ab)(hx:b∉ex):∃sl,h1.get? b=aa {ob with slots:=sl}:=by
 by_cases hb:b∈fs
 .exact u.slot b ob q n hb hx
 .exact#[ob.slots,u.keep b ob q n hb hx]
def Un.kept(k:∀b u,h.get? b=aa u->h'.get? b=aa u):Un fs ex H H h h':=
 #[λb ob q _ _ _=>k b ob q,λb ob q _ _ _=>#[ob.slots,k b ob q],λ_ _ _ n _=>n,λb ob q _=>#[ob,k b ob q],λ_ _ q=>q,λ_ _ _ q=>q,λ_ ps q=>#[#[],by rw[q];simp]]
def Un.refl:Un fs ex H H h h:=Un.kept λ_ _ q=>q
def Un.laid(k:∀b u,h.get? b=aa u->h'.get? b=aa u)(hp:h.objs.size<=a)(hn:H a=ab):Un fs ex H (upd H a o) h h' where
 keep:=λb u q _ _ _=>k b u q
 slot:=λb u q _ _ _=>#[u.slots,k b u q]
 free:=λb u q n _=>by rw[Zq<|bn<|aX (aC q) hp];exact n
 there:=λb u q _=>#[u,k b u q]
 tups:=λb xs q=>by rw[Zq<|Ya q hn];exact q
 frzs:=λb u xs q=>by rw[Zq<|Ya q hn];exact q
 tbls:=λb ps q=>#[#[],by rw[Zq<|Ya q hn,q];simp]
def Un.write(mu:Mut (H x))(he:e=x\/H e=aa (.own x))(k:∀b u,b≠e->h.get? b=aa u->h'.get? b=aa u)(heo:∃u,h'.get? e=aa u):Un fs ex H (upd H x o) h h':=by
 have hx:∀b,H b=ab->b≠x:=λb n z=>by subst z;rw[n]at mu;exact mu
 have hb:∀b,H b=ab->b≠e:=λb n z=>by
  subst z;rcases he with r|r
  .exact hx b n r
  .rw[n]at r;cases r
 have hm:∀b u,H b=aa u->¬Mut (aa u)->b≠x:=λb u q nm z=>by subst z;rw[q]at mu;exact nm mu
 refine#[λb u q n _ _=>k b u (hb b n) q,λb u q n _ _=>#[u.slots,k b u (hb b n) q],λb u q n _=>by rw[Zq<|hx b n];exact n,λb u q _=>?_,
  λb xs q=>by rw[Zq<|hm b _ q λz=>z];exact q,λb u xs q=>by rw[Zq<|hm b _ q λz=>z];exact q,λb ps q=>#[#[],by rw[Zq<|hm b _ q λz=>z,q];simp]]
 by_cases hbe:b=e
 .subst hbe;exact heo
 .exact#[u,k b u hbe q]
noncomputable def trk(h:bJ)(H:Hp):List aB:=(aY h.objs.size).filter λa=>(H a).isSome
noncomputable def Qe(h:bJ)(H:Hp):bJ:=PySem.W.hideAll h<|trk h H
def yt(h:bJ)(H:Hp):(Qe h H).objs.size=h.objs.size:=PySem.W.hideAll_size _ _
def wK(e:h.get? b=aa o)(n:H b=ab):(Qe h H).get? b=aa o:=
 PySem.W.hideAll_get _ e λhm=>by
  have q:=(cy.mp hm).2;rw[n]at q;simp at q
def vJ(e:(Qe h H).get? b=aa o):h.get? b=aa o/\H b=ab:=by
 have e':=PySem.W.of_hideAll (trk h H) e;refine#[e',?_];cases q:H b with
 |none=>rfl
 |some x=>
  have hm:b∈trk h H:=cy.mpr #[bm.mpr<|aC e',by simp[q]]
  have z:(Qe h H).get? b=ab:=PySem.W.hideAll_none (trk h H) hm;rw[z]at e;cases e
structure Mod(K:aj)(mg:bc->Option am)(base:bJ):Prop where
 kin:K.In base
 glob:base.Ns bE mg
 blt:∃mb,base.Ns ia mb/\∀x:bc,x≠"__name__"->mb x=cB x
 nolimit:base.NoLimit
structure Cx where
 prog:br
 w:bK
 K:aj
 mg:bc->Option am
 base:bJ
 A:cg
 N:List bc
 s₀:au
 H₀:Hp
 env:Env
 outer:List Env
 stack:List Env
 ex:List aB
 fn:bc->Bool
 calm:Bool
 pn:List (aB×dJ)
 xe:am->au->Prop
noncomputable def frs(l:List Env):List aB:=l.filterMap (·.frame)
noncomputable abbrev Cx.fs(X:Cx):List aB:=frs X.outer
def Vis(sc:de)(x:bc):Prop:=sc.names.lookup x=aa .local\/sc.names.lookup x=aa .cell\/sc.names.lookup x=aa .free
def Loc(sc:de)(x:bc):Prop:=sc.names.lookup x=aa .local\/sc.names.lookup x=aa .cell
def Look(env:Env)(h:bJ)(m:bc->Option am)(x:bc)(u:am):Prop:=
 (env.kindOf x=aa .local/\m x=aa u)\/((env.kindOf x=aa .cell\/env.kindOf x=aa .free)/\∃c,env.cells.lookup x=aa c/\h.IsCell c (aa u))
structure Cx.Ok(X:Cx):Prop where
 mod:Mod X.K X.mg X.base
 kind:X.env.scope.kind=.function
 glob:X.env.globals=bE
 blt:X.env.builtins=ia
 above:X.s₀.heap.objs.size<=X.env.locals
 inj:∀x y c,X.env.cells.lookup x=aa c->X.env.cells.lookup y=aa c->x=y
 has:∀x,(X.env.kindOf x=aa .cell\/X.env.kindOf x=aa .free)->∃c,X.env.cells.lookup x=aa c
 cab:∀x c,X.fn x=ag->X.env.cells.lookup x=aa c->X.s₀.heap.objs.size<=c
 hd:X.calm=ag->X.A.handled=ab
 frames:X.A.frames=aa X.stack
 stk:X.stack=X.outer\/(X.stack=X.env::X.outer/\X.env.frame=aa X.env.locals)
 exf:∀b∈X.ex,b≠X.env.locals/\∀x c,X.env.cells.lookup x=aa c->c≠b
 bs:∀b o,X.base.get? b=aa o->X.s₀.heap.get? b=aa o/\X.H₀ b=ab
 bsz:X.base.objs.size<=X.s₀.heap.objs.size
 noex:∀b o,X.base.get? b=aa o->b∉X.ex
 exfs:∀b∈X.ex,b∉X.fs
 funs:X.s₀.heap.FunFrames X.base X.outer
 frf:∀b∈X.fs,X.H₀ b=ab
structure Inv(X:Cx)(pq:List (aB×dJ))(U:List (Option V))(H:Hp)(s:au):Prop where
 ok:X.Ok
 os:s.os=X.s₀.os
 bare:fF s.gens
 base:Un X.fs X.ex X.H₀ H X.s₀.heap s.heap
 loc:∃m,s.heap.Ns X.env.locals m/\∀(i:Nat)(x:bc)(v:V),X.N[i]?=aa x->U[i]?=aa (aa v)->Vis X.env.scope x->∃u,ZA v u/\Look X.env s.heap m x u
 cell:∀x c,X.env.cells.lookup x=aa c->∃v,s.heap.IsCell c v
 free:H X.env.locals=ab
 freeC:∀x c,X.env.cells.lookup x=aa c->H c=ab
 pin:∀p∈X.pn++pq,s.heap.get? p.1=aa p.2/\H p.1=ab/\p.1≠X.env.locals/\p.1∉X.fs/\∀v,p.2.data≠.cell v
 hok:HOk X.prog X.w H s.heap
 len:U.length=X.N.length
section
variable{X:Cx}{pq:List (aB×dJ)}{U:List (Option V)}{H H':Hp}{s:au}{h':bJ}
def Cx.Ok.nofr(ok:X.Ok)(e:X.base.get? b=aa o):b∉X.fs:=λhb=>by
 have:=(ok.funs.mem hb).1;rw[e]at this;cases this
theorem Inv.bs(I:Inv X pq U H s):∀b o,X.base.get? b=aa o->s.heap.get? b=aa o/\H b=ab:=λb o e=>
 #[I.base.keep b o (I.ok.bs b o e).1 (I.ok.bs b o e).2 (I.ok.nofr e)<|I.ok.noex b o e,I.base.free b o (I.ok.bs b o e).1 (I.ok.bs b o e).2<|I.ok.noex b o e]
def Inv.bk(I:Inv X pq U H s):∀b o,X.base.get? b=aa o->s.heap.get? b=aa o:=λb o e=>(I.bs b o e).1
theorem Inv.mod(I:Inv X pq U H s):Mod X.K X.mg X.base:=I.ok.mod
def Inv.kIn(I:Inv X pq U H s):X.K.In s.heap:=I.ok.mod.kin.keeps I.bk
theorem Inv.lt(I:Inv X pq U H s):X.env.locals<s.heap.objs.size:=let #[_,hn,_]:=I.loc;hn.lt
def Inv.sz(I:Inv X pq U H s):X.s₀.heap.objs.size<=s.heap.objs.size:=bx I.ok.above<|iB I.lt
def Inv.nofs(I:Inv X pq U H s)(h:s.heap.objs.size<=a):a∉X.fs:=λhb=>by
 obtain⟨_,o,ho,_⟩:=I.ok.funs.mem hb;exact T7 (aX (aC ho)<|bx I.sz h)<|bh _
def Inv.cne(I:Inv X pq U H s):∀x c,X.env.cells.lookup x=aa c->c≠X.env.locals:=λx c e z=>by
 obtain⟨v,o,ho,hd⟩:=I.cell x c e;obtain⟨m,⟨o',es,ep,ho',hd',_⟩,_⟩:=I.loc;rw[z,ho']at ho;cases ho;rw[hd']at hd;cases hd
theorem Inv.funs(I:Inv X pq U H s):s.heap.FunFrames X.base X.outer:=by
 have all:∀(l:List Env),(∀b∈frs l,b∈X.fs)->X.s₀.heap.FunFrames X.base l->s.heap.FunFrames X.base l:=by
  intro l
  induction l with
  |nil=>intro _ _;trivial
  |cons env r ih=>
   intro hs hl;obtain⟨hk,⟨L,o,hf,hn,ho,hd⟩,hr⟩:=hl;have hL:=hs L (by unfold frs;rw[eR,hf];exact al)
   obtain⟨sl,e⟩:=I.base.slot L o ho (I.ok.frf L hL) hL λz=>I.ok.exfs L z hL
   exact#[hk,#[L,_,hf,hn,e,hd],ih (λb hb=>hs b<|by unfold frs;rw[eR,hf];exact ak _ hb) hr]
 exact all X.outer (λ_ hb=>hb) I.ok.funs
theorem Inv.stack(I:Inv X pq U H s):s.heap.FunFrames X.base X.stack:=by
 rcases I.ok.stk with e|⟨e,hf⟩
 .rw[e];exact I.funs
 .rw[e]
  obtain⟨m,hn,_⟩:=I.loc;refine .cons (by rw[I.ok.kind];decide) hf hn ?_ I.funs
  exact bJ.get?_none_of_le<|bx I.ok.bsz I.ok.above
def Inv.stkSub(I:Inv X pq U H s):∀b∈frs X.stack,b∈X.env.locals::X.fs:=λb hb=>by
 rcases I.ok.stk with e|⟨e,hf⟩
 .rw[e]at hb;exact ak _ hb
 .rw[e]at hb
  unfold frs at hb;rw[eR,hf]at hb;exact hb
def Inv.stkFree(I:Inv X pq U H s):∀b∈frs X.stack,H b=ab:=λb hb=>by
 rcases ar.mp (I.stkSub b hb)with e|hb
 .rw[e];exact I.free
 .obtain⟨_,o,ho,_⟩:=I.ok.funs.mem hb
  exact I.base.free b o ho (I.ok.frf b hb) λz=>I.ok.exfs b z hb
def Inv.step{g':Array GenState}{t':Nat}{d':Drawn}{ch:List aB}(I:Inv X pq U H s)
  (hch:∀b∈ch,(b∈X.ex\/X.s₀.heap.objs.size<=b)/\b≠X.env.locals/\(∀x c,X.env.cells.lookup x=aa c->c≠b)/\∀p∈X.pn++pq,p.1≠b)
  (keep:∀b o,b≠X.env.locals->b∉X.fs->b∉ch->s.heap.get? b=aa o->H b=ab->h'.get? b=aa o)
  (slot:∀b o,b≠X.env.locals->b∈X.fs->b∉ch->s.heap.get? b=aa o->H b=ab->∃sl,h'.get? b=aa {o with slots:=sl})(free:∀b o,b∉ch->s.heap.get? b=aa o->H b=ab->H' b=ab)
  (there:∀b o,b∉ch->s.heap.get? b=aa o->∃o',h'.get? b=aa o')
  (tups:∀b xs,H b=aa (.tup xs)->H' b=aa (.tup xs))(frzs:∀b o u,H b=aa (.frz o u)->H' b=aa (.frz o u))(tbls:∀b ps,H b=aa (.tbl ps)->∃more,H' b=aa (.tbl<|ps++more))
  (ns:∀m,s.heap.Ns X.env.locals m->h'.Ns X.env.locals m)(hok:HOk X.prog X.w H' h')(hg:fF g') :
  Inv X pq U H' {s with heap:=h',gens:=g',drawn:=d',toks:=t' }:=by
 have neL:∀b o,X.s₀.heap.get? b=aa o->b≠X.env.locals:=λb o e=>bn<|aX (aC e) I.ok.above
 have neC:∀b o,X.s₀.heap.get? b=aa o->b∉X.ex->b∉ch:=λb o e hx hb=>by
  rcases(hch b hb).1 with z|z
  .exact hx z
  .exact T7 (aX (aC e) z)<|bh _
 have cellK:∀x c,X.env.cells.lookup x=aa c->∀v,s.heap.IsCell c v->h'.IsCell c v:=by
  rintro x c e v ⟨o,ho,hd⟩;have nch:=λz=>(hch c z).2.2.1 x c e rfl
  by_cases hc:c∈X.fs
  .obtain⟨sl,q⟩:=slot c o (I.cne x c e) hc nch ho (I.freeC x c e)
   exact#[_,q,hd]
  .exact#[o,keep c o (I.cne x c e) hc nch ho<|I.freeC x c e,hd]
 refine#[I.ok,I.os,hg,#[λb o e n hb hx=>?_,λb o e n hb hx=>?_,λb o e n hx=>?_,λb o e hx=>?_,λb xs e=>tups b xs<|I.base.tups b xs e,λb o xs e=>frzs b o xs<|I.base.frzs b o xs e,λb ps e=>?_],?_,λx c e=>?_,?_,λx c e=>?_,λp hp=>?_,hok,I.len]
 .exact keep b o (neL b o e) hb (neC b o e hx) (I.base.keep b o e n hb hx)<|I.base.free b o e n hx
 .obtain⟨sl,e1⟩:=I.base.slot b o e n hb hx
  obtain⟨sl',e2⟩:=slot b _ (neL b o e) hb (neC b o e hx) e1<|I.base.free b o e n hx;exact#[sl',e2]
 .obtain⟨o',e1⟩:=I.base.there b o e hx
  exact free b o' (neC b o e hx) e1<|I.base.free b o e n hx
 .obtain⟨o',e1⟩:=I.base.there b o e hx
  exact there b o' (neC b o e hx) e1
 .obtain⟨m1,e1⟩:=I.base.tbls b ps e
  obtain⟨m2,e2⟩:=tbls b _ e1;exact#[m1++m2,by rw[e2,Array.append_assoc]]
 .obtain⟨m,hn,hl⟩:=I.loc
  refine#[m,ns m hn,λi x v e1 e2 e3=>?_]
  obtain⟨u,r,l⟩:=hl i x v e1 e2 e3;refine#[u,r,?_];rcases l with l|⟨k,c,e,z⟩
  .exact .inl l
  .exact .inr #[k,c,e,cellK x c e _ z]
 .obtain⟨v,z⟩:=I.cell x c e
  exact#[v,cellK x c e v z]
 .obtain⟨m,⟨o,_,_,ho,_⟩,_⟩:=I.loc
  exact free _ o (λz=>(hch _ z).2.1 rfl) ho I.free
 .obtain⟨v,o,ho,hd⟩:=I.cell x c e
  exact free c o (λz=>(hch c z).2.2.1 x c e rfl) ho<|I.freeC x c e
 .obtain⟨e,n,ne,nf,d⟩:=I.pin p hp
  have nch:=λz=>(hch p.1 z).2.2.2 p hp rfl
  exact#[keep p.1 p.2 ne nf nch e n,free p.1 p.2 nch e n,ne,nf,d]
def Inv.un{t':Nat}(I:Inv X pq U H s)(u:Un X.fs [] H H' s.heap h')(hok:HOk X.prog X.w H' h'):Inv X pq U H' {s with heap:=h',toks:=t' }:=by
 obtain⟨m,⟨o,es,ep,ho,r⟩,_⟩:=id I.loc;obtain⟨sl,hL⟩:=u.any ho I.free (by simp)
 exact I.step (g':=s.gens) (d':=s.drawn) (ch:=[]) (λ_ z=>nomatch z) (λb o _ hb _ e n=>u.keep b o e n hb<|by simp) (λb o _ hb _ e n=>u.slot b o e n hb<|by simp) (λb o _ e n=>u.free b o e n<|by simp) (λb o _ e=>u.there b o e<|by simp) u.tups u.frzs u.tbls (λm' hm=>by
  obtain⟨o',es',ep',ho',r'⟩:=hm;rw[ho]at ho';cases ho';exact#[_,es',ep',hL,r']) hok I.bare
def Inv.call{g':Array GenState}{t':Nat}{d':Drawn}{ch:List aB}(I:Inv X pq U H s)(u:Un (frs X.stack) ch H H' s.heap h')(hok:HOk X.prog X.w H' h')(hg:fF g')
  (hch:∀b∈ch,(b∈X.ex\/X.s₀.heap.objs.size<=b)/\b≠X.env.locals/\(∀x c,X.env.cells.lookup x=aa c->c≠b)/\∀p∈X.pn++pq,p.1≠b) :
  Inv X pq U H' {s with heap:=h',gens:=g',drawn:=d',toks:=t' }:=by
 obtain⟨m,⟨o,es,ep,ho,r⟩,_⟩:=id I.loc;obtain⟨sl,hL⟩:=u.any ho I.free λz=>(hch _ z).2.1 rfl
 exact I.step hch (λb o hL hb hc e n=>u.keep b o e n (λz=>(ar.mp<|I.stkSub b z).elim hL hb) hc) (λb o _ _ hc e n=>u.any e n hc) (λb o hc e n=>u.free b o e n hc) (λb o hc e=>u.there b o e hc) u.tups u.frzs u.tbls (λm' hm=>by
  obtain⟨o',es',ep',ho',r'⟩:=hm;rw[ho]at ho';cases ho';exact#[_,es',ep',hL,r']) hok hg
def Inv.turned{t':Nat}{it:aB}(I:Inv X pq U H s)(k:∀b o,b≠it->s.heap.get? b=aa o->h'.get? b=aa o)(hn:H it=ab)(hL:it≠X.env.locals)
  (h1:it∈X.ex\/X.s₀.heap.objs.size<=it)(h2:∀x c,X.env.cells.lookup x=aa c->c≠it)(h3:∀p∈X.pn++pq,p.1≠it):Inv X pq U H {s with heap:=h',toks:=t' }:=by
 have nit:∀b u,H b=aa u->b≠it:=λb u e z=>by rw[z,hn]at e;cases e
 refine I.step (g':=s.gens) (d':=s.drawn) (ch:=[it]) (λb hb=>?_) (λb o _ _ hc e _=>k b o (λz=>hc<|by simp[z]) e) (λb o _ _ hc e _=>#[o.slots,k b o (λz=>hc<|by simp[z]) e]) (λ_ _ _ _ n=>n)
  (λb o hc e=>#[o,k b o (λz=>hc<|by simp[z]) e]) (λ_ _ e=>e) (λ_ _ _ e=>e) (λb ps e=>#[#[],by rw[e];simp]) (λm hm=>?_) (λb u e=>?_) I.bare
 .have e:b=it:=by simpa using hb
  subst e;exact#[h1,hL,h2,h3]
 .obtain⟨o,es,ep,ho,r⟩:=hm
  exact#[o,es,ep,k _ o (Ne.symm hL) ho,r]
 .refine(I.hok b u e).stay (λc v hc q=>k c v ?_ q) (λ_ q=>q) λ_ _ q=>q
  rcases hc with z|z
  .rw[z];exact nit b u e
  .exact nit c _ z
def Inv.tok(I:Inv X pq U H s)(t:Nat):Inv X pq U H {s with toks:=t}:=I.un (h':=s.heap) (t':=t) Un.refl I.hok
theorem Inv.kept(I:Inv X pq U H s)(k:∀b u,s.heap.get? b=aa u->h'.get? b=aa u):Inv X pq U H {s with heap:=h',toks:=t' }:=I.un (Un.kept k)<|I.hok.kept k
theorem Inv.laid(I:Inv X pq U H s)(k:∀b u,s.heap.get? b=aa u->h'.get? b=aa u)(hp:s.heap.objs.size<=a)(new:Z5 X.prog X.w (upd H a o) h' a o) :
  Inv X pq U (upd H a o) {s with heap:=h',toks:=t' }:=I.un (Un.laid k hp<|I.hok.fresh hp)<|I.hok.laid k hp new
theorem Inv.write(I:Inv X pq U H s)(mu:Mut (H x))(he:e=x\/H e=aa (.own x))(k:∀b u,b≠e->s.heap.get? b=aa u->h'.get? b=aa u)(heo:∃u,h'.get? e=aa u)
  (new:Z5 X.prog X.w (upd H x o) h' x o):Inv X pq U (upd H x o) {s with heap:=h',toks:=t' }:=I.un (Un.write mu he k heo)<|I.hok.write mu he k heo new
def Inv.pins_of(I:Inv X pq U H s)(h:∀p∈pins',s.heap.get? p.1=aa p.2/\H p.1=ab/\p.1≠X.env.locals/\p.1∉X.fs/\∀v,p.2.data≠.cell v):Inv X pins' U H s:=
 #[I.ok,I.os,I.bare,I.base,I.loc,I.cell,I.free,I.freeC,λp hp=>(bw.mp hp).elim (λz=>I.pin p<|cu _ z)<|h p,I.hok,I.len]
def QP{N:List bc}(hN:N.Nodup){i j:Nat}{x:bc}(a:N[i]?=aa x)(b:N[j]?=aa x):i=j:=by
 obtain⟨h1,e1⟩:=aM.mp a;obtain⟨h2,e2⟩:=aM.mp b;exact(List.getElem_inj hN).mp<|e1.trans e2.symm
def V5{M:Model}{A:cg}{E:am->au->Prop}{i:Nat}{x:bc}{v:V}{u:am}{Q:Unit->au->Prop}(I:Inv X pq U H s)(hN:X.N.Nodup)(hi:X.N[i]?=aa x)(hx:Loc X.env.scope x)(r:ZA v u)
  (h:∀s',Inv X pq (U.set i<|aa v) H s'->(∃a,dB a s.heap s'.heap/\(a=X.env.locals\/X.env.cells.lookup x=aa a))->Q () s')(hf:X.fn x=ag\/X.env.scope.names.lookup x=aa .local:=by first|exact .inl rfl|exact .inr rfl|assumption):aS M A (storeName X.env x u) Q E s:=by
 obtain⟨m,hn,hl⟩:=id I.loc;have hcls:(X.env.scope.kind == .class||(X.env.scope.kind == .module&&X.env.locals != X.env.globals))=ai:=by rw[I.ok.kind];rfl
 have hiσ:i<U.length:=by rw[I.len];exact(aM.mp hi).1
 have cne:=I.cne;have tracked:∀{a:aB}{h':bJ},(∃o,s.heap.get? a=aa o/\H a=ab)->dB a s.heap h'->HOk X.prog X.w H h':=λ{a h'} ha hs b ob e=>by
  obtain⟨_,_,hfree⟩:=ha;refine(I.hok b ob e).stay (λc w' hc q=>(hs.2 c ?_).trans q) (λ_ q=>q) λ_ _ q=>q
  rintro rfl
  rcases hc with rfl|hc
  .rw[hfree]at e;cases e
  .rw[hfree]at hc;cases hc
 rcases hx with hk|hk
 .refine wpAny_storeName_local hk hn (λh' hn' hs=>?_) hcls
  obtain⟨oL,_,_,hoL,_⟩:=id hn;refine h _ #[I.ok,I.os,I.bare,#[λb o e n hb hx=>?_,λb o e n hb hx=>?_,I.base.free,λb o e hx=>?_,I.base.tups,I.base.frzs,I.base.tbls],#[_,hn',λj y v' e1 e2 e3=>?_],λy c e=>?_,I.free,I.freeC,λp hp=>?_,tracked #[oL,hoL,I.free] hs,by simpa using I.len] #[_,hs,.inl rfl]
  .exact(hs.2 b<|bn<|aX (aC e) I.ok.above).trans<|I.base.keep b o e n hb hx
  .obtain⟨sl,e1⟩:=I.base.slot b o e n hb hx
   exact#[sl,(hs.2 b<|bn<|aX (aC e) I.ok.above).trans e1]
  .obtain⟨o',e1⟩:=I.base.there b o e hx
   exact#[o',(hs.2 b<|bn<|aX (aC e) I.ok.above).trans e1]
  .by_cases hj:j=i
   .subst hj
    rw[hi]at e1;cases e1;rw[bu hiσ]at e2;cases e2;exact#[u,r,.inl #[hk,by simp]]
   .rw[aT<|Ne.symm hj]at e2
    obtain⟨u',r',q⟩:=hl j y v' e1 e2 e3;refine#[u',r',?_];rcases q with⟨k,e⟩|⟨k,c,e,z⟩
    .refine .inl #[k,?_]
     have:y≠x:=λe=>hj<|QP hN e1<|e▸hi
     simp[this,e]
    .exact .inr #[k,c,e,z.sameBut hs<|cne y c e]
  .obtain⟨w',z⟩:=I.cell y c e
   exact#[w',z.sameBut hs<|cne y c e]
  .obtain⟨e,n,ne,nf,d⟩:=I.pin p hp
   exact#[(hs.2 p.1 ne).trans e,n,ne,nf,d]
 .have hfn:X.fn x=ag:=by
   rcases hf with z|z
   .exact z
   .rw[z]at hk;cases hk
  obtain⟨c,hc⟩:=I.ok.has x<|.inl hk;obtain⟨w',z⟩:=I.cell x c hc;refine wpAny_storeName_cell I.ok.kind hk hc z λh' hc' hs=>?_
  obtain⟨oc,hoc,hocd⟩:=id z;refine h {s with heap:=h' } #[I.ok,I.os,I.bare,#[λb o e n hb hx=>?_,λb o e n hb hx=>?_,I.base.free,λb o e hx=>?_,I.base.tups,I.base.frzs,I.base.tbls],#[m,hn.sameBut hs<|Ne.symm<|cne x c hc,λj y v' e1 e2 e3=>?_],λy c' e=>?_,I.free,I.freeC,λp hp=>?_,tracked #[oc,hoc,I.freeC x c hc] hs,by simpa using I.len] #[c,hs,.inr hc]
  .exact(hs.2 b<|bn<|aX (aC e)<|I.ok.cab x c hfn hc).trans<|I.base.keep b o e n hb hx
  .obtain⟨sl,e1⟩:=I.base.slot b o e n hb hx
   exact#[sl,(hs.2 b<|bn<|aX (aC e)<|I.ok.cab x c hfn hc).trans e1]
  .obtain⟨o',e1⟩:=I.base.there b o e hx
   exact#[o',(hs.2 b<|bn<|aX (aC e)<|I.ok.cab x c hfn hc).trans e1]
  .by_cases hj:j=i
   .subst hj
    rw[hi]at e1;cases e1;rw[bu hiσ]at e2;cases e2;exact#[u,r,.inr #[.inl hk,c,hc,hc']]
   .rw[aT<|Ne.symm hj]at e2
    obtain⟨u',r',q⟩:=hl j y v' e1 e2 e3;refine#[u',r',?_];rcases q with q|⟨k,c',e,z'⟩
    .exact .inl q
    .refine .inr #[k,c',e,z'.sameBut hs ?_]
     rintro rfl
     exact hj<|QP hN e1<|I.ok.inj _ _ _ e hc▸hi
  .by_cases hcc:c'=c
   .subst hcc;exact#[_,hc']
   .obtain⟨w2,z2⟩:=I.cell y c' e
    exact#[w2,z2.sameBut hs hcc]
  .obtain⟨e,n,ne,nf,d⟩:=I.pin p hp
   refine#[(hs.2 p.1 ?_).trans e,n,ne,nf,d];intro q;rw[q,hoc]at e;have q':=ah e;exact d w' (by rw[<-q'];exact hocd)
def Vt{E:am->au->Prop}{Q:Unit->au->Prop}(I:Inv X pq U H s)(hN:X.N.Nodup)(hi:X.N[i]?=aa x)(hx:Loc X.env.scope x)(r:ZA v u)
  (h:∀s',Inv X pq (U.set i<|aa v) H s'->Q () s')(hf:X.fn x=ag\/X.env.scope.names.lookup x=aa .local:=by first|exact .inl rfl|exact .inr rfl|assumption):aS M A (storeName X.env x u) Q E s:=
 V5 I hN hi hx r (λs' I' _=>h s' I') hf
def Inv.call'(I:Inv X pq U H s)(ho:s'.os=s.os)(u:Un (frs X.stack) ch H H' s.heap s'.heap)(hok:HOk X.prog X.w H' s'.heap)(hg:fF s'.gens)
  (hch:∀b∈ch,(b∈X.ex\/X.s₀.heap.objs.size<=b)/\b≠X.env.locals/\(∀x c,X.env.cells.lookup x=aa c->c≠b)/\∀p∈X.pn++pq,p.1≠b):Inv X pq U H' s':=by
 obtain⟨h',g',d',t',o'⟩:=s';have e:=ho;subst e;exact I.call (g':=g') (t':=t') (d':=d') u hok hg hch
end
abbrev XK:=am->Option aB->Hp->Prop
abbrev St:=List<|Option V
abbrev VK:=V->Hp->Prop
abbrev TE:=St->Hp->VK->Prop
abbrev TT:=St->Hp->(Bool->Hp->Prop)->Prop
abbrev TA:=St->Hp->(List V->Hp->Prop)->Prop
structure Ends where
 nx:St->Hp->Prop
 rt:VK
 bk:St->Hp->Prop:=λ_ _=>False
 ct:St->Hp->Prop:=λ_ _=>False
abbrev TS:=Ends->St->Hp->Prop
def EP(X:Cx)(pq:List (aB×dJ))(U:St)(Q:VK)(u:am)(s':au):Prop:=∃v H',Inv X pq U H' s'/\ZA v u/\Q v H'
def TP(X:Cx)(pq:List (aB×dJ))(U:St)(Q:Bool->Hp->Prop)(b:Bool)(s':au):Prop:=∃H',Inv X pq U H' s'/\Q b H'
def AP(X:Cx)(pq:List (aB×dJ))(U:St)(Q:List V->Hp->Prop)(us:List am)(s':au):Prop:=∃vs H',Inv X pq U H' s'/\Vals vs us/\Q vs H'
def SP(X:Cx)(pq:List (aB×dJ))(D:Ends)(f:Flow)(s':au):Prop:=
 match f with
 |.next=>∃σ' H',Inv X pq σ' H' s'/\D.nx σ' H'
 |.brk=>∃σ' H',Inv X pq σ' H' s'/\D.bk σ' H'
 |.cont=>∃σ' H',Inv X pq σ' H' s'/\D.ct σ' H'
 |.ret u=>∃v σ' H',Inv X pq σ' H' s'/\ZA v u/\D.rt v H'
def PE(X:Cx)(e:Expr)(t:TE):Prop:=
 ∀(pq:List (aB×dJ))(s:au)(U:St)(H:Hp)(Q:VK),Inv X pq U H s->t U H Q->aS (ba X.prog X.w) X.A (b9 e X.env) (EP X pq U Q) X.xe s
def PT(X:Cx)(e:Expr)(t:TT):Prop:=
 ∀(pq:List (aB×dJ))(s:au)(U:St)(H:Hp)(Q:Bool->Hp->Prop),Inv X pq U H s->t U H Q->aS (ba X.prog X.w) X.A (isTrue e X.env<|b9 e X.env) (TP X pq U Q) X.xe s
def PW(X:Cx)(e:Expr)(t:TT):Prop:=
 ∀(whole:kY am)(pq:List (aB×dJ))(s:au)(U:St)(H:Hp)(Q:Bool->Hp->Prop),Inv X pq U H s->t U H Q->aS (ba X.prog X.w) X.A (isTrue e X.env whole) (TP X pq U Q) X.xe s
def PW.pt(h:PW X e t):PT X e t:=h _
def PA(X:Cx)(es:List Expr)(t:TA):Prop:=
 ∀(pos:fA)(pq:List (aB×dJ))(s:au)(U:St)(H:Hp)(Q:List V->Hp->Prop),Inv X pq U H s->t U H Q->aS (ba X.prog X.w) X.A (spliced<|du pos<|aE es X.env) (AP X pq U Q) X.xe s
def PS(X:Cx)(st:dG)(t:TS):Prop:=
 ∀(pq:List (aB×dJ))(s:au)(U:St)(H:Hp)(D:Ends),Inv X pq U H s->t D U H->aS (ba X.prog X.w) X.A (exec st X.env) (SP X pq D) X.xe s
def PSs(X:Cx)(st:List dG)(t:TS):Prop:=
 ∀(pq:List (aB×dJ))(s:au)(U:St)(H:Hp)(D:Ends),Inv X pq U H s->t D U H->aS (ba X.prog X.w) X.A (execs st X.env) (SP X pq D) X.xe s
def thn{m:Type}{t:kY m}{Q Q':m->au->Prop}{M:Model}{A:cg}{E:am->au->Prop}{s:au}(h:aS M A t Q E s)(hQ:∀a s,Q a s->Q' a s):aS M A t Q' E s:=cY h hQ λ_ _ x=>x
def ZbS(i:Nat):TE:=λU H Q=>∃v,U[i]?=aa (aa v)/\Q v H
def tC(v:V):TE:=λ_ H Q=>Q v H
def Y7(hN:X.N[i]?=aa x)(hv:Vis X.env.scope x)(hd:(x == ("__debug__" : bc))=ai:=by decide)(hcd:(x == ("__classdict__" : bc))=ai:=by decide):PE X (.Name x pos) (ZbS i):=by
 intro pq s U H Q I h;obtain⟨v,e,h⟩:=h;obtain⟨m,hn,hl⟩:=I.loc;obtain⟨u,r,l⟩:=hl i x v hN e hv;have fin:EP X pq U Q u s:=#[v,H,I,r,h];rcases l with⟨hk,hm⟩|⟨hk,c,hc,hcell⟩
 .exact kL (wpAny_loadName_local I.ok.kind hk hn hm fin) hd
 .rcases hk with hk|hk
  .exact kL (wpAny_loadName_cell I.ok.kind hk hc hcell fin) hd
  .exact kL (wpAny_loadName_free I.ok.kind hk hc hcell fin hcd) hd
def Wi{i j pos}:PE X (.Constant (.int i) j pos) (tC<|.int i):=λ_ _ _ H _ I h=>wpAny_Constant_int #[.int i,H,I.tok _,#[_,rfl],h]
def ZaY{b j pos}:PE X (.Constant (.bool b) j pos) (tC<|.bl b):=λ_ _ _ H _ I h=>Constant_bool #[.bl b,H,I,rfl,h]
def jv{j pos}:PE X (.Constant .none j pos) (tC .non):=λ_ _ _ H _ I h=>Constant_none #[.non,H,I,rfl,h]
def jL{x j pos}:PE X (.Constant (.str x) j pos) (tC<|.str x):=λ_ _ _ H _ I h=>Calls.Constant_str #[.str x,H,I.tok _,#[_,rfl],h]
def Gl(X:Cx)(x:bc):Prop:=X.env.kindOf x=aa .globalImplicit
def qa{E:am->au->Prop}{Q:am->au->Prop}(I:Inv X pq U H s)(hg:Gl X x)(hm:X.mg x=aa u)(h:Q u s)
  (hd:(x == ("__debug__" : bc))=ai:=by decide):aS (ba X.prog X.w) X.A (b9 (.Name x pos) X.env) Q E s:=
 Calls.Name_function_global I.ok.kind hg (Calls.loadGlobal_global (by rw[I.ok.glob];exact I.mod.glob.keeps I.bk) hm h) hd
def Wl{E:am->au->Prop}{Q:am->au->Prop}(I:Inv X pq U H s)(hg:Gl X x)(hm:X.mg x=ab)(hv:cB x=aa u)(h:Q u s)
  (hn:x≠"__name__":=by decide)(hd:(x == ("__debug__" : bc))=ai:=by decide):aS (ba X.prog X.w) X.A (b9 (.Name x pos) X.env) Q E s:=by
 obtain⟨mb,h1,h2⟩:=I.mod.blt;exact Calls.Name_function_global I.ok.kind hg (Calls.loadGlobal_builtin (by rw[I.ok.glob];exact I.mod.glob.keeps I.bk) hm (by rw[I.ok.blt];exact h1.keeps I.bk) ((h2 x hn).trans hv) h) hd
def vB(hg:Gl X x)(hm:X.mg x=ab)(hv:cB x=aa u)(r:ZA v u)(hn:x≠"__name__":=by decide)(hd:(x == ("__debug__" : bc))=ai:=by decide):PE X (.Name x pos) (tC v):=
 λ_ _ _ H _ I h=>Wl I hg hm hv #[v,H,I,r,h] hn hd
def tOr(t u:TT):TT:=λU H Q=>t U H λc H1=>if c=ag then Q ag H1 else u U H1 Q
def ZbX(t:TT):TT:=λU H Q=>t U H λc H1=>Q (!c) H1
def jA(ha:PT X a tA):PW X (.BoolOp .Or [a] pos) tA:=by
 intro wh pq s U H Q I h;refine isTrue_or<|thn (ha pq s U H Q I h) λc s1 e=>?_
 cases c with|false=>exact isTrue_or_nil e|true=>exact e
def ZaN(ha:PT X a tA)(hb:PW X (.BoolOp .Or (b::rest) pos) tB'):PW X (.BoolOp .Or (a::b::rest) pos) (tOr tA tB'):=by
 intro wh pq s U H Q I h;refine isTrue_or<|thn (ha pq s U H _ I h) λc s1 #[H1,I1,q1]=>?_
 cases c with|true=>exact#[H1,I1,q1]|false=>exact hb wh pq s1 U H1 Q I1 q1
def jX(ha:PT X a tA):PT X (.UnaryOp .Not a pos) (ZbX tA):=by
 intro pq s U H Q I h;exact isTrue_not<|ha pq s U H (λc H1=>Q (!c) H1) I h
def Zbc(ta tb:TE):TE:=λU H Q=>ta U H λx H1=>∃c,x=.bl c/\if c=ag then tb U H1 Q else Q (.bl ai) H1
def ZaD{op}{t:TE}(h:PE X a t):PE X (.BoolOp op [a] pos) t:=λpq s U H Q I hw=>BoolOp_one<|h pq s U H Q I hw
def ju(ha:PE X a ta)(hb:PE X (.BoolOp .And (b::rest) pos) tb):PE X (.BoolOp .And (a::b::rest) pos) (Zbc ta tb):=by
 intro pq s U H Q I h;refine BoolOp_and<|thn (ha pq s U H _ I h) λv s1 #[x,H1,I1,r1,q1]=>?_
 obtain⟨c,rfl,q1⟩:=q1;cases r1;refine dn ?_;cases c with|true=>exact hb pq s1 U H1 Q I1 q1|false=>exact#[.bl ai,H1,I1,rfl,q1]
def SqL(K:aj)(H:Hp)(a:aB)(xs:List V):Prop:=
 Rd H a (.lst xs)\/
  ∃(o:dJ)(its:Array am)(n:Nat),K.lookup a=aa o/\o.cls=.type "list"/\o.dict=ab/\o.data=.seq its n/\its.size<=aQ/\Vals xs its.toList
def SqT(K:aj)(H:Hp)(a:aB)(xs:List V):Prop:=
 Rd H a (.tup xs)\/
  ∃(o:dJ)(its:Array am)(n:Nat),K.lookup a=aa o/\o.cls=.type "tuple"/\o.data=.seq its n/\its.size<=aQ/\Vals xs its.toList
noncomputable def ZbO:am->Option V
 |.none=>aa .non
 |.bool b=>aa<|.bl b
 |.int i _=>aa<|.int i
 |.str x _=>aa<|.str x
 |.bytes b _=>aa<|.byt b
 |.float b _=>aa<|.flt b
 |.ref a=>aa<|.ref a
 |.type n=>aa<|.ty n
 |_=>ab
def ZA.abs(r:ZA x u):ZbO u=aa x:=by
 cases x with|non=>cases r;rfl|bl _=>cases r;rfl|int _=>obtain⟨t,rfl⟩:=r;rfl|str _=>obtain⟨t,rfl⟩:=r;rfl|byt _=>obtain⟨t,rfl⟩:=r;rfl|flt _=>obtain⟨t,rfl⟩:=r;rfl|ref _=>cases r;rfl|ty _=>cases r;rfl
def ZA.inj{x y:V}{u:am}(r:ZA x u)(q:ZA y u):x=y:=ah<|r.abs.symm.trans q.abs
theorem Vals.inj:∀{xs ys:List V}{us:List am},Vals xs us->Vals ys us->xs=ys
 |_,_,_,.nil,.nil=>rfl
 |_,_,_,.cons r t,.cons r' t'=>by rw[r.inj r',Vals.inj t t']
def SqL.of{K:aj}(h:H a=aa (.lst xs)):SqL K H a xs:=.inl<|.inl h
def SqT.of{K:aj}(h:H a=aa (.tup xs)):SqT K H a xs:=.inl<|.inl h
def Inv.list(I:Inv X pq U H s)(h:SqL X.K H a xs):∃its:List am,Vals xs its/\PlainL s.heap a its.toArray/\xs.length<=aQ:=by
 rcases h with h|⟨o,its,n,hk,hc,hd,hs,hz,r⟩
 .obtain⟨z,its,n,r,e⟩:=h.ok I.hok
  exact#[its,r,#[_,n,e,rfl,rfl,rfl],z]
 .refine#[its.toList,r,#[o,n,I.kIn a o hk,hc,hd,by simpa using hs],?_]
  have e:=r.length;simp only[dH]at e;lia
def Inv.tuple(I:Inv X pq U H s)(h:SqT X.K H a xs):∃its:List am,Vals xs its/\iA s.heap a its.toArray/\xs.length<=aQ:=by
 rcases h with h|⟨o,its,n,hk,hc,hs,hz,r⟩
 .obtain⟨z,its,r,p⟩:=h.ok I.hok
  exact#[its,r,p,z]
 .refine#[its.toList,r,#[o,I.kIn a o hk,hc,n,by simpa using hs],?_]
  have e:=r.length;simp only[dH]at e;lia
def Inv.list_inj(I:Inv X pq U H s)(h:SqL X.K H a xs)(h':SqL X.K H a ys):xs=ys:=by
 obtain⟨its,r,⟨o,n,e,_,_,d⟩,_⟩:=I.list h;obtain⟨its',r',⟨o',n',e',_,_,d'⟩,_⟩:=I.list h';rw[e]at e';cases e';rw[d]at d';injection d' with d1 _
 have:its=its':=by simpa using congrArg Array.toList d1
 subst this;exact r.inj r'
def Inv.tuple_inj(I:Inv X pq U H s)(h:SqT X.K H a xs)(h':SqT X.K H a ys):xs=ys:=by
 obtain⟨its,r,⟨o,e,_,n,d⟩,_⟩:=I.tuple h;obtain⟨its',r',⟨o',e',_,n',d'⟩,_⟩:=I.tuple h';rw[e]at e';cases e';rw[d]at d';injection d' with d1 _
 have:its=its':=by simpa using congrArg Array.toList d1
 subst this;exact r.inj r'
noncomputable abbrev Cx.wish(X:Cx)(E:am->au->Prop):Cx:={X with xe:=E}
noncomputable abbrev Cx.nox(X:Cx):Cx:=X.wish λ_ _=>False
theorem Cx.Ok.wish{X:Cx}(ok:X.Ok)(E:am->au->Prop):(X.wish E).Ok:=
 #[ok.mod,ok.kind,ok.glob,ok.blt,ok.above,ok.inj,ok.has,ok.cab,ok.hd,ok.frames,ok.stk,ok.exf,ok.bs,ok.bsz,ok.noex,ok.exfs,ok.funs,ok.frf]
def Cx.Ok.unwish{X:Cx}{E:am->au->Prop}(ok:(X.wish E).Ok):X.Ok:=
 #[ok.mod,ok.kind,ok.glob,ok.blt,ok.above,ok.inj,ok.has,ok.cab,ok.hd,ok.frames,ok.stk,ok.exf,ok.bs,ok.bsz,ok.noex,ok.exfs,ok.funs,ok.frf]
section
variable{X:Cx}{pq:List (aB×dJ)}{U:St}{H:Hp}{s:au}{E:am->au->Prop}
theorem Inv.wish(I:Inv X pq U H s)(E:am->au->Prop):Inv (X.wish E) pq U H s:=#[I.ok.wish E,I.os,I.bare,I.base,I.loc,I.cell,I.free,I.freeC,I.pin,I.hok,I.len]
theorem Inv.unwish(I:Inv (X.wish E) pq U H s):Inv X pq U H s:=#[I.ok.unwish,I.os,I.bare,I.base,I.loc,I.cell,I.free,I.freeC,I.pin,I.hok,I.len]
theorem SP.unwish{D:Ends}{f:Flow}{s':au}(h:SP (X.wish E) pq D f s'):SP X pq D f s':=by
 cases f with|next=>obtain⟨σ',H',I,q⟩:=h;exact#[σ',H',I.unwish,q]|brk=>obtain⟨σ',H',I,q⟩:=h;exact#[σ',H',I.unwish,q]|cont=>obtain⟨σ',H',I,q⟩:=h;exact#[σ',H',I.unwish,q]|ret u=>obtain⟨v,σ',H',I,r,q⟩:=h;exact#[v,σ',H',I.unwish,r,q]
theorem PSs.nox{st:List dG}{t:TS}(h:PSs X.nox st t):PSs X st t:=λpq s U H D I hw=>
 cY (h pq s U H D (I.wish _) hw) (λ_ _ q=>q.unwish) λ_ _ z=>False.elim z
end
section
variable{X:Cx}{st:dG}{rest:List dG}{t u:TS}{e:Expr}{te:TE}{pos:fA}
def Zbm:TS:=λD U H=>D.nx U H
def ZbV(t u:TS):TS:=λD U H=>t {D with nx:=u D} U H
def uP:PSs X [] Zbm:=λ_ _ U H _ I h=>wpAny_execs_nil #[U,H,I,h]
def Jm(h1:PS X st t)(h2:PSs X rest u):PSs X (st::rest) (ZbV t u):=by
 intro pq s U H D I h;refine wpAny_execs_cons<|thn (h1 pq s U H {D with nx:=u D} I h) λf s1 q=>?_
 cases f with
 |next=>
  obtain⟨σ',H',I',q⟩:=q;exact h2 pq s1 σ' H' D I' q
 |ret v=>exact q
 |brk=>exact q
 |cont=>exact q
def Inv.quiet(I:Inv X pq U H s):interactive X.env=ai:=by simp[interactive,I.ok.kind]
def Zbu(te:TE):TS:=λD U H=>te U H λ_ H1=>D.nx U H1
def zj(he:PE X e te)(hs:gR e ab pos.line X.env=cb ai:=by rfl):PS X (.Expr e pos) (Zbu te):=by
 intro pq s U H D I h;exact wpAny_Expr_any (thn (he pq s U H _ I h)<|by rintro v s1 ⟨x,H1,I1,r1,q1⟩;exact #[U,H1,I1,q1]) I.quiet hs
def Zce(te:TE):TS:=λD U H=>te U H D.rt
def vb(he:PE X e te):PS X (.Return (aa e) pos) (Zce te):=by
 intro pq s U H D I h;exact wpAny_Return_some<|thn (he pq s U H _ I h)<|by rintro v s1 ⟨x,H1,I1,r1,q1⟩;exact #[x,U,H1,I1,r1,q1]
def Zcj(c:TT)(t u:TS):TS:=λD U H=>c U H λb H1=>if b=ag then t D U H1 else u D U H1
def ZaV{c:Expr}{a b:List dG}{tc:TT}(hc:PT X c tc)(ha:PSs X a t)(hb:PSs X b u):PS X (.If c a b pos) (Zcj tc t u):=by
 intro pq s U H D I h;refine wpAny_If<|thn (hc pq s U H _ I h) λd s1 #[H1,I1,q1]=>?_
 cases d with|true=>exact ha pq s1 U H1 D I1 q1|false=>exact hb pq s1 U H1 D I1 q1
end
abbrev TG:=V->St->Hp->(St->Hp->Prop)->Prop
abbrev TGs:=List V->St->Hp->(St->Hp->Prop)->Prop
def PG(X:Cx)(target:Expr)(t:TG):Prop:=
 ∀(pq:List (aB×dJ))(s:au)(U:St)(H:Hp)(v:V)(u:am)(Q:St->Hp->Prop),Inv X pq U H s->ZA v u->t v U H Q->
  aS (ba X.prog X.w) X.A (assign target X.env u) (λ_ s'=>∃σ' H',Inv X pq σ' H' s'/\Q σ' H') X.xe s
def PGs(X:Cx)(ts:List Expr)(t:TGs):Prop:=
 ∀(pq:List (aB×dJ))(s:au)(U:St)(H:Hp)(vs:List V)(us:List am)(Q:St->Hp->Prop),Inv X pq U H s->Vals vs us->t vs U H Q->
  aS (ba X.prog X.w) X.A (gZ ((bv ts X.env).map (·.2)) us) (λ_ s'=>∃σ' H',Inv X pq σ' H' s'/\Q σ' H') X.xe s
abbrev TSet:=V->V->V->Hp->(Hp->Prop)->Prop
def PSet(X:Cx)(t:TSet):Prop:=
 ∀(pq:List (aB×dJ))(s:au)(U:St)(H:Hp)(o i v:V)(ov iv u:am)(Q:Hp->Prop),Inv X pq U H s->ZA o ov->ZA i iv->ZA v u->t o i v H Q->
  aS (ba X.prog X.w) X.A (kJ ov iv u) (λ_ s'=>∃H',Inv X pq U H' s'/\Q H') X.xe s
section
variable{X:Cx}{pos:fA}
def Zbp(i:Nat):TG:=λv U H Q=>Q (U.set i<|aa v) H
def W2(hN:X.N.Nodup)(hi:X.N[i]?=aa x)(hx:Loc X.env.scope x)(hf:X.fn x=ag\/X.env.scope.names.lookup x=aa .local:=by first|exact .inl rfl|exact .inr rfl|assumption):PG X (.Name x pos) (Zbp i):=by
 intro pq s U H v u Q I r h;exact iC<|Vt I hN hi hx r (λs' I'=>#[_,H,I',h]) hf
def Zb2:TGs:=λvs U H Q=>vs=[]/\Q U H
def Zbq(t:TG)(u:TGs):TGs:=λvs U H Q=>∃v r,vs=v::r/\t v U H λσ' H'=>u r σ' H' Q
def zC:PGs X [] Zb2:=by
 intro pq s U H vs us Q I r h;obtain⟨e,h⟩:=h;subst e;cases r;exact iD #[U,H,I,h]
def Vd{e:Expr}{es:List Expr}{t:TG}{u:TGs}(h1:PG X e t)(h2:PGs X es u)
  (hs:(bv (e::es) X.env).map (·.2)=assign e X.env::(bv es X.env).map (·.2):=by rfl):PGs X (e::es) (Zbq t u):=by
 intro pq s U H vs us Q I r h;obtain⟨v,vr,e1,h⟩:=h;subst e1;cases r with
 |cons r rr=>
  rw[hs];refine eZ<|thn (h1 pq s U H _ _ _ I r h) λ_ s1 #[σ1,H1,I1,q1]=>?_
  exact h2 pq s1 σ1 H1 _ _ Q I1 rr q1
def Zb4(K:aj)(n:Nat)(t:TGs):TG:=λv U H Q=>∃a xs,v=.ref a/\SqT K H a xs/\xs.length=n/\t xs U H Q
def y6(hc:X.calm=ag)(h:PGs X es t)
  (hn:(bv es X.env).length=n:=by rfl)(hst:(bv es X.env).findIdx? (·.1)=ab:=by rfl):PG X (.Tuple es k pos) (Zb4 X.K n t):=by
 intro pq s U H v u Q I r hw;obtain⟨a,xs,e1,hq,hl,hw⟩:=hw;subst e1;cases r;obtain⟨its,rv,ht,hz⟩:=I.tuple hq;refine assign_Tuple_tuple (I.ok.hd hc) ht (by simp[hn,<-hl,rv.length]) hst λh' hx=>?_
 have I1:=I.kept (t':=s.toks) λb o e=>hx b o (bn<|aC e) e
 exact h pq _ U H xs _ Q I1 (by simpa using rv) hw
def Zb9(to ti:TE)(t:TSet):TG:=λv U H Q=>to U H λo H1=>ti U H1 λi H2=>t o i v H2 λH3=>Q U H3
def JJ{o i:Expr}{to ti:TE}{t:TSet}(ho:PE X o to)(hi:PE X i ti)(hs:PSet X t)
  (ha:∀v,assign (.Subscript o i pos) X.env v=(do
   let ov <-dC [v] (b9 o X.env)
   let iv <-dC [v,ov] (b9 i X.env)
   gS pos
   dC [v,ov,iv] (kJ ov iv v)
   lj [v,ov,iv] []):=by intro _;rfl):PG X (.Subscript o i pos) (Zb9 to ti t):=by
 intro pq s U H v u Q I r h;rw[ha];refine af<|bS<|thn (ho pq s U H _ I h) λov s1 #[x,H1,I1,r1,q1]=>?_
 refine af<|bS<|thn (hi pq s1 U H1 _ I1 q1) λiv s2 #[y,H2,I2,r2,q2]=>?_
 refine af<|eB<|af<|bS<|thn (hs pq s2 U H2 x y v ov iv u _ I2 r1 r2 r q2) λ_ s3 #[H3,I3,q3]=>?_
 exact wpAny_release #[U,H3,I3,q3]
def ZbP(te:TE)(g:TG):TS:=λD U H=>te U H λx H1=>g x U H1 D.nx
def XX{tg e:Expr}{te:TE}{g:TG}(he:PE X e te)(hg:PG X tg g)(hs:cc [tg] e pos.line X.env=cb ai:=by rfl)(hw:cf [tg] e X.env=cb ab:=by rfl)
  (h1:(bv [tg] X.env).map (·.2)=[assign tg X.env]:=by rfl):PS X (.Assign [tg] e pos) (ZbP te g):=by
 intro pq s U H D I h;refine wpAny_Assign_stores (thn (he pq s U H _ I h) λv s1 #[x,H1,I1,r1,q1]=>?_) hs hw
 rw[h1];exact thn (hg pq s1 U H1 x v _ I1 r1 q1) λ_ s2 q=>q
def ZbQ(i j:Nat)(ta:TA):TS:=λD U H=>ta U H λvs H1=>∃v w,vs=[v,w]/\D.nx ((U.set i<|aa v).set j<|aa w) H1
def Zai{i j:Nat}{x y:bc}{a b:Expr}{ta:TA}{px py pt:fA}{kt k2 pt2}(hc:X.calm=ag)(hN:X.N.Nodup)(hi:X.N[i]?=aa x)(hj:X.N[j]?=aa y)(hij:i≠j)
  (hx:X.env.scope.names.lookup x=aa .local)(hy:X.env.scope.names.lookup y=aa .local)(ha:PA X [a,b] ta)
  (hw:cf [.Tuple [.Name x px,.Name y py] kt pt] (.Tuple [a,b] k2 pt2) X.env=cb (aa [x,y]))
  (hs:cc [.Tuple [.Name x px,.Name y py] kt pt] (.Tuple [a,b] k2 pt2) pos.line X.env=cb ai:=by rfl) :
  PS X (.Assign [.Tuple [.Name x px,.Name y py] kt pt] (.Tuple [a,b] k2 pt2) pos) (ZbQ i j ta):=by
 intro pq s U H D I h;rw[exec_Assign_arm];refine af<|eB ?_;rw[hs];refine af<|ay ?_;rw[T8 (by decide)]
 refine af<|Tuple_<|thn (ha _ pq s U H _ I h) λus s1 #[vs,H1,I1,r1,q1]=>?_
 obtain⟨v,w,e1,q1⟩:=q1;subst e1;obtain⟨u1,u2,rfl,rv,rw'⟩:∃u1 u2,us=[u1,u2]/\ZA v u1/\ZA w u2:=by
  cases r1 with
  |cons p q=>
   cases q with
   |cons p' q'=>
    cases q';exact#[_,_,rfl,p,p']
 refine bo ?_ (by show 2<=aQ;decide)
 have I2:Inv X pq U H1 {s1 with heap:=s1.heap.push {cls:=.type "tuple",data:=.seq [u1,u2].toArray}}:=I1.kept (t':=s1.toks) λb o e=>ap _ e
 rw[hw];refine af<|ay ?_;show aS (ba X.prog X.w) X.A (do lm "assign.swapped-stores";let items <-unpackItems (.ref s1.heap.objs.size) 2 ab;gZ [λv=>bindName X.env y v,λv=>bindName X.env x v] items.reverse;cb Flow.next) _ _ _
 refine af<|dv<|af<|unpackItems_tuple (items:=[u1,u2].toArray) (I.ok.hd hc) (ej s1.heap _) λh' hx'=>?_
 have I3:=I2.kept (h':=h') (t':=s1.toks) λb o e=>hx' b o (bn<|aC e) e
 refine af<|eZ<|wpAny_bindName<|Vt I3 hN hj (.inl hy) rw' (λs2 I4=>?_)<|.inr hy
 refine eZ<|wpAny_bindName<|Vt I4 hN hi (.inl hx) rv (λs3 I5=>iD<|ay ?_)<|.inr hx
 rw[k5 _ _<|Ne.symm hij]at I5;exact#[_,H1,I5,q1]
end
structure It where
 go:Nat->Hp->Prop
 yld:Nat->Hp->V->Hp->Prop
 stop:Nat->Hp->Prop
def Wv(X:Cx)(pq:List (aB×dJ))(H:Hp)(b:aB):Prop:=
 H b=ab/\b≠X.env.locals/\b∉X.fs/\(b∈X.ex\/X.s₀.heap.objs.size<=b)/\(∀x c,X.env.cells.lookup x=aa c->c≠b)/\∀p∈X.pn++pq,p.1≠b
def Inv.fpOk(I:Inv X pq U H s)(hb:s.heap.objs.size<=b)(hn:H' b=ab):Wv X pq H' b:=by
 refine#[hn,dY<|aX I.lt hb,I.nofs hb,.inr<|bx I.sz hb,λx c e z=>?_,λp hp z=>?_]
 .obtain⟨v,q⟩:=I.cell x c e
  exact T7 (aX q.lt<|by rw[z];exact hb)<|bh _
 .exact T7 (aX (aC (I.pin p hp).1)<|by rw[z];exact hb)<|bh _
structure Turn(P:br)(w:bK)(K:aj)(tg:Expr)(J:It)(fp:List aB)(it:aB)(tn:Nat->bJ->Prop):Prop where
 mem:it∈fp
 obj:∀i h,tn i h->∀b∈fp,∃o,h.get? b=aa o/\∀v,o.data≠.cell v
 keep:∀i h h',tn i h->(∀b∈fp,∀o,h.get? b=aa o->h'.get? b=aa o)->tn i h'
 item:∀(X:Cx),X.prog=P->X.w=w->X.K=K->X.calm=ag->∀(i:Nat)(pq:List (aB×dJ))(s:au)(U:St)(H:Hp)(E:am->au->Prop),Inv X pq U H s->(∀b∈fp,Wv X pq H b)->tn i s.heap->J.go i H->
  aS (ba P w) X.A (i7<|.ref it) (λr s1=>∃u,r=aa u/\
   aS (ba P w) X.A (gq tg (.ref it) u) (λ_ s2=>∃x H',Inv X pq U H' s2/\ZA x u/\J.yld i H x H'/\tn (i+1) s2.heap/\∀b∈fp,H' b=ab) E s1) E s
 done:∀(X:Cx),X.prog=P->X.w=w->X.K=K->X.calm=ag->∀(i:Nat)(pq:List (aB×dJ))(s:au)(U:St)(H:Hp)(E:am->au->Prop),Inv X pq U H s->(∀b∈fp,Wv X pq H b)->tn i s.heap->J.stop i H->
  aS (ba P w) X.A (i7<|.ref it) (λr s1=>r=ab/\Inv X pq U H s1) E s
 self:∀(A:cg)(i:Nat)(s:au)(Q:am->au->Prop)(E:am->au->Prop),tn i s.heap->Q (.ref it) s->aS (ba P w) A (pyIter<|.ref it) Q E s
abbrev TI:=St->Hp->(It->Hp->Prop)->Prop
def PIE(X:Cx)(pq:List (aB×dJ))(U:St)(tg:Expr)(R:It->Hp->Prop)(itv:am)(s2:au):Prop:=
 ∃(it:aB)(fp:List aB)(tn:Nat->bJ->Prop)(J:It)(H':Hp),itv=.ref it/\Inv X pq U H' s2/\Turn X.prog X.w X.K tg J fp it tn/\tn 0 s2.heap/\(∀b∈fp,Wv X pq H' b)/\R J H'
def PI(X:Cx)(tg iter:Expr)(wi:TI):Prop:=
 ∀(pq:List (aB×dJ))(s:au)(U:St)(H:Hp)(R:It->Hp->Prop),Inv X pq U H s->wi U H R->
  aS (ba X.prog X.w) X.A (b9 iter X.env) (λv s1=>aS (ba X.prog X.w) X.A (pyIter v) (PIE X pq U tg R) X.xe s1) X.xe s
def wX{E:am->au->Prop}{Q:Unit->au->Prop}(ho:s.heap.get? it=aa o)(hc:o.cls=.type n)(hd:o.data=.fields vs)
  (hn:["enumerate","zip","dict_itemiterator","dict_reverseitemiterator","odict_iterator","itertools.zip_longest","itertools.pairwise"].contains n=ai)(hQ:Q () s):aS M A (gq tg (.ref it) u) Q E s:=by
 cases tg<;>first
  |exact ay hQ
  |(cases u<;>first
    |exact ay hQ
    |(refine af (ib ho ?_)
      rw[hc,hd];show aS M A (if(["enumerate","zip","dict_itemiterator","dict_reverseitemiterator","odict_iterator","itertools.zip_longest","itertools.pairwise"].contains n&&vs[0]? == aa (f8 _))=ag then _ else _) Q E s
      rw[T8 (by intro h;rw[hn,Bool.false_and]at h;cases h)]
      exact ay hQ))
noncomputable def Itl(K:aj)(a:aB):It:=
 #[λi H=>∃xs x,SqL K H a xs/\xs[i]?=aa x,λi H x H'=>H'=H/\∀xs,SqL K H a xs->xs[i]?=aa x,λi H=>∃xs,SqL K H a xs/\xs.length<=i]
noncomputable def Itt(K:aj)(a:aB):It:=
 #[λi H=>∃xs x,SqT K H a xs/\xs[i]?=aa x,λi H x H'=>H'=H/\∀xs,SqT K H a xs->xs[i]?=aa x,λi H=>∃xs,SqT K H a xs/\xs.length<=i]
noncomputable def Itr(lo:Int)(n:Nat):It:=#[λi _=>i<n,λi H x H'=>H'=H/\x=.int (lo+i),λi _=>n<=i]
def zH{P:br}{w:bK}{K:aj}{tg:Expr}(a it:aB):Turn P w K tg (Itl K a) [it] it (λi h=>h.IsListIter it a i) where
 mem:=by simp
 obj:=λi h st b hb=>by
  have e:b=it:=by simpa using hb
  subst e;obtain⟨o,e,c,d⟩:=st;exact#[o,e,λv z=>by rw[d]at z;cases z]
 keep:=λi h h' st k=>st.at λo e=>k it (by simp) o e
 item:=by
  intro X hP hw hK hc i pq s U H E I hf st hg;subst hP hw hK;obtain⟨xs,x,hq,hx⟩:=hg;obtain⟨its,rv,p,hz⟩:=I.list hq;obtain⟨u,hu,ru⟩:=rv.get hx;obtain⟨f0,f1,f2,f3,f4,f5⟩:=hf it (by simp)
  refine ga st p.isList (by simpa using hu) λh' st' sb=>?_
  have I1:=I.turned (t':=s.toks) (λb o hb e=>(sb.2 b hb).trans e) f0 f1 f3 f4 f5
  obtain⟨o,e,c,d⟩:=id st';exact#[u,rfl,wX e c d (by decide) #[x,H,I1,ru,#[rfl,λys hy=>by rw[I.list_inj hy hq];exact hx],st',λb hb=>(hf b hb).1]]
 done:=by
  intro X hP hw hK hc i pq s U H E I hf st hg;subst hP hw hK;obtain⟨xs,hq,hx⟩:=hg;obtain⟨its,rv,p,hz⟩:=I.list hq;obtain⟨f0,f1,f2,f3,f4,f5⟩:=hf it (by simp)
  have hl:=rv.length;exact gz (I.ok.hd hc) st p.isList (by simp;lia) λh' eb=>#[rfl,I.turned (t':=s.toks) (λb o hb e=>eb b o hb e) f0 f1 f3 f4 f5]
 self:=λ_ _ _ _ _ st h=>wpAny_pyIter_listiter st h
def J4{P:br}{w:bK}{K:aj}{tg:Expr}(a it:aB):Turn P w K tg (Itt K a) [it] it (λi h=>h.IsTupleIter it a i) where
 mem:=by simp
 obj:=λi h st b hb=>by
  have e:b=it:=by simpa using hb
  subst e;obtain⟨o,e,c,d⟩:=st;exact#[o,e,λv z=>by rw[d]at z;cases z]
 keep:=λi h h' st k=>st.at λo e=>k it (by simp) o e
 item:=by
  intro X hP hw hK hc i pq s U H E I hf st hg;subst hP hw hK;obtain⟨xs,x,hq,hx⟩:=hg;obtain⟨its,rv,p,hz⟩:=I.tuple hq;obtain⟨u,hu,ru⟩:=rv.get hx;obtain⟨f0,f1,f2,f3,f4,f5⟩:=hf it (by simp)
  refine wpAny_pyNext_tuple_item st (p) (by simpa using hu) λh' st' sb=>?_
  have I1:=I.turned (t':=s.toks) (λb o hb e=>(sb.2 b hb).trans e) f0 f1 f3 f4 f5
  obtain⟨o,e,c,d⟩:=id st';exact#[u,rfl,wX e c d (by decide) #[x,H,I1,ru,#[rfl,λys hy=>by rw[I.tuple_inj hy hq];exact hx],st',λb hb=>(hf b hb).1]]
 done:=by
  intro X hP hw hK hc i pq s U H E I hf st hg;subst hP hw hK;obtain⟨xs,hq,hx⟩:=hg;obtain⟨its,rv,p,hz⟩:=I.tuple hq;obtain⟨f0,f1,f2,f3,f4,f5⟩:=hf it (by simp)
  have hl:=rv.length;exact wpAny_pyNext_tuple_end (I.ok.hd hc) st (p) (by simp;lia) λh' eb=>#[rfl,I.turned (t':=s.toks) (λb o hb e=>eb b o hb e) f0 f1 f3 f4 f5]
 self:=λ_ _ _ _ _ st h=>wpAny_pyIter_tupleiter st h
def JR{P:br}{w:bK}{K:aj}{tg:Expr}(it:aB)(lo:Int)(n:Nat):Turn P w K tg (Itr lo n) [it] it (λi h=>IsRangeIter h it (lo+(i:Nat)*1) ((n:Int)-(i:Nat)) 1) where
 mem:=by simp
 obj:=λi h st b hb=>by
  have e:b=it:=by simpa using hb
  subst e;exact#[_,st,λv z=>by
   have z':=z;cases z']
 keep:=λi h h' st k=>k it (by simp) _ st
 item:=by
  intro X hP hw hK hc i pq s U H E I hf st hg;subst hP hw hK;obtain⟨f0,f1,f2,f3,f4,f5⟩:=hf it (by simp)
  have W:=Walks.range (prog:=X.prog) (w:=X.w) (I.ok.hd hc) it lo 1 n;refine W.item i s _ _ hg st λv h' tk hv st' kk=>?_
  obtain⟨t,rfl⟩:=hv;have I1:Inv X pq U H {s with heap:=h',toks:=tk}:=I.turned (λb o hb e=>kk b o (by simpa using hb) e) f0 f1 f3 f4 f5
  refine#[_,rfl,wX st' rfl rfl (by decide) #[.int<|lo+i,H,I1,#[t,?_],#[rfl,rfl],st',λb hb=>(hf b hb).1]]
  rw[Int.mul_one]
 done:=by
  intro X hP hw hK hc i pq s U H E I hf st hg;subst hP hw hK;obtain⟨f0,f1,f2,f3,f4,f5⟩:=hf it (by simp)
  exact wpAny_pyNext_range_end (I.ok.hd hc) st (by have:n<=i:=hg;lia) λh' eb=>#[rfl,I.turned (t':=s.toks) (λb o hb e=>eb b o hb e) f0 f1 f3 f4 f5]
 self:=λ_ _ _ _ _ st h=>wpAny_pyIter_rangeiter st h
section
variable{X:Cx}{tg:Expr}
theorem xW{pq:List (aB×dJ)}{U:St}{H:Hp}{s:au}{R:It->Hp->Prop}{E:am->au->Prop}{lo hi:Int}{t u v:ll}{tk:Nat}(I:Inv X pq U H s)(h1:-(2^62)<=lo)(h2:lo<2^62)(h3:-(2^62)<=hi)(h4:hi<2^62)
  (q:R (Itr lo (hi-lo).toNat) H):aS (ba X.prog X.w) X.A (pyIter<|.ref s.heap.objs.size) (PIE X pq U tg R) E {s with heap:=s.heap.push {cls:=.type "range",data:=.fields [.int lo t,.int hi u,.int 1 v].toArray},toks:=tk}:=by
 refine wpAny_pyIter_range (IsRange.new ..) (small_one h1 h2 h3 h4) ?_;have I1:Inv X pq U H {s with heap:=s.heap.push {cls:=.type "range",data:=.fields [.int lo t,.int hi u,.int 1 v].toArray},toks:=tk}:=I.kept λb o e=>ap _ e
 refine#[(s.heap.push {cls:=.type "range",data:=.fields [.int lo t,.int hi u,.int 1 v].toArray}).objs.size,[(s.heap.push {cls:=.type "range",data:=.fields [.int lo t,.int hi u,.int 1 v].toArray}).objs.size],_,_,H,rfl,
  I1.kept (t':=tk) λb o e=>ap _ e,JR _ lo (hi-lo).toNat,?_,λb hb=>?_,q]
 .have e1:lo+((0:Nat):Int)*1=lo:=by simp
  have e2:(((hi-lo).toNat:Nat):Int)-((0:Nat):Int)=dR.Range.rangeSize lo hi 1:=by rw[rangeSize_one];split<;>lia
  rw[e1,e2];exact aH _ rfl
 .have e:b=(s.heap.push {cls:=.type "range",data:=.fields [.int lo t,.int hi u,.int 1 v].toArray}).objs.size:=by simpa using hb
  subst e;exact I1.fpOk (aD _)<|I1.hok.fresh<|aD _
def Za3(ta:TA):TI:=λU H R=>ta U H λvs H1=>∃j:Int,vs=[.int j]/\-(2^62)<=j/\j<2^62/\R (Itr 0 j.toNat) H1
theorem yo{a:Expr}{ta:TA}{p pos:fA}(hg:Gl X "range")(hm:X.mg "range" = ab)(ha:PA X [a] ta)(hs:aE [a] X.env=[(ai,b9 a X.env)]:=by rfl):PI X tg (.Call (.Name "range" p) [a] [] pos) (Za3 ta):=by
 intro pq s U H R I h;refine Call_<|Wl I hg hm boot_range<|cC (thn (ha pos pq s U H _ I h) λus s1 #[vs,H1,I1,r1,q1]=>?_) hs rfl
 obtain⟨j,e,q1,q2,q⟩:=q1;subst e;cases r1 with
 |cons r rr=>
  cases rr;obtain⟨t,rfl⟩:=r;exact call_range_1<|xW I1 (by lia) (by lia) q1 q2 (by simpa using q)
def Zcb(wi:TI)(g:TG)(tb:TS):TS:=λD U H=>wi U H λJ H1=>∃W:Nat->Nat->St->Hp->Prop,(∃m,W 0 m U H1)/\∀i m U H,W i m U H->
 (J.stop i H/\D.nx U H)\/(J.go i H/\∃N:St->Hp->Prop,(∀σ' H',N σ' H'->∃m',m'<m/\W (i+1) m' σ' H')/\∀x H',J.yld i H x H'->g x U H' λσ2 H2=>tb {D with nx:=N,ct:=N,bk:=D.nx} σ2 H2)
noncomputable def Ve(fp:List aB)(h:bJ):List (aB×dJ):=fp.filterMap λb=>(h.get? b).map λo=>(b,o)
def Y5(hb:b∈fp)(e:h.get? b=aa o):(b,o)∈Ve fp h:=ic.mpr #[b,hb,by rw[e];rfl]
def zU(hp:p∈Ve fp h):p.1∈fp/\h.get? p.1=aa p.2:=by
 obtain⟨b,hb,e⟩:=ic.mp hp;cases q:h.get? b with
 |none=>rw[q]at e;cases e
 |some o=>
  rw[q]at e;have e':=ah e;subst e';exact#[hb,q]
def Inv.pinned(I:Inv X pq U H s)(hf:∀b∈fp,Wv X pq H b)(ho:∀b∈fp,∃o,s.heap.get? b=aa o/\∀v,o.data≠.cell v):Inv X (pq++Ve fp s.heap) U H s:=
 I.pins_of λp hp=>(bw.mp hp).elim (λz=>I.pin p<|bi _ z) λz=>by
  obtain⟨hb,e⟩:=zU z;obtain⟨f0,f1,f2,_⟩:=hf p.1 hb;obtain⟨o,e',d⟩:=ho p.1 hb;rw[e]at e';cases e';exact#[e,f0,f1,f2,d]
def Inv.unpinned(I:Inv X (pq++pl) U H s):Inv X pq U H s:=I.pins_of λp hp=>I.pin p<|bi _<|cu _ hp
def Zah{iter:Expr}{body:List dG}{wi:TI}{g:TG}{tb:TS}{pos:fA}(hp:PassesOwn (ba X.prog X.w) X.A X.env X.xe)(hc:X.calm=ag)(hi:PI X tg iter wi)(hg:PG X tg g)(hb:PSs X body tb)
  (hs:∀x,cx iter X.env x=cb x:=by intro _;rfl):PS X (.For tg iter body [] pos) (Zcb wi g tb):=by
 intro pq s U H D I h;refine wpAny_For (thn (hi pq s U H _ I h) λv s1 h1=>thn h1 λitv s2 h2=>?_) hs
 obtain⟨it,fp,tn,J,H2,e,I2,T,st2,f2,W,⟨m0,w0⟩,turn⟩:=h2;subst e;have stat:∀{H':Hp},(∀b∈fp,H' b=ab)->∀b∈fp,Wv X pq H' b:=λhn b hb=>#[hn b hb,(f2 b hb).2]
 refine codeAny_forLoop_any (λn s'=>∃i σ' H',Inv X pq σ' H' s'/\tn i s'.heap/\(∀b∈fp,H' b=ab)/\W i n σ' H') ?_ m0 #[0,U,H2,I2,st2,λb hb=>(f2 b hb).1,w0]
 rintro n s3 ⟨i,σ3,H3,I3,st3,fr3,w3⟩
 rcases turn i n σ3 H3 w3 with⟨stop,qn⟩|⟨go,N,hN,step⟩
 .refine dQ hp (thn (T.done X rfl rfl rfl hc i pq s3 σ3 H3 X.xe I3 (stat fr3) st3 stop) λr s4 #[hr,I4]=>?_)
  subst hr;exact wpAny_execs_nil #[σ3,H3,I4,qn]
 .refine dQ hp (thn (T.item X rfl rfl rfl hc i pq s3 σ3 H3 X.xe I3 (stat fr3) st3 go) λr s4 #[u,hr,h4]=>?_)
  subst hr;refine dQ hp<|thn h4 λ_ s5 #[x,H5,I5,r5,y5,st5,fr5]=>?_
  have I5':=I5.pinned (stat fr5)<|T.obj _ _ st5;refine dQ hp<|thn (hg _ s5 σ3 H5 x u _ I5' r5<|step x H5 y5) λ_ s6 #[σ6,H6,I6,q6]=>?_
  refine dQ hp<|thn (hb _ s6 σ6 H6 _ I6 q6) λf s7 q7=>?_
  have again:∀{σ7:St}{H7:Hp},Inv X (pq++Ve fp s5.heap) σ7 H7 s7->N σ7 H7->∃m,m<n/\∃i σ' H',Inv X pq σ' H' s7/\tn i s7.heap/\(∀b∈fp,H' b=ab)/\W i m σ' H':=λ{σ7 H7} I7 n7=>by
   obtain⟨m',hm,w7⟩:=hN σ7 H7 n7;refine#[m',hm,i+1,σ7,H7,I7.unpinned,T.keep _ _ _ st5 λb hb o e=>(I7.pin (b,o)<|bi _<|bi _<|Y5 hb e).1,λb hb=>?_,w7]
   obtain⟨o,e,d⟩:=T.obj _ _ st5 b hb;exact(I7.pin (b,o)<|bi _<|bi _<|Y5 hb e).2.1
  cases f with|next=>obtain⟨σ7,H7,I7,n7⟩:=q7;exact again I7 n7|cont=>obtain⟨σ7,H7,I7,n7⟩:=q7;exact again I7 n7|brk=>obtain⟨σ7,H7,I7,q7⟩:=q7;exact#[σ7,H7,I7.unpinned,q7]|ret v=>obtain⟨x7,σ7,H7,I7,r7,q7⟩:=q7;exact#[x7,σ7,H7,I7.unpinned,r7,q7]
end
abbrev R2:=V->V->Hp->VK->Prop
def OpR(X:Cx)(f:am->am->kY am)(r:R2):Prop:=
 ∀(pq:List (aB×dJ))(s:au)(U:St)(H:Hp)(x y:V)(v u:am)(Q:VK),Inv X pq U H s->ZA x v->ZA y u->r x y H Q->
  aS (ba X.prog X.w) X.A (f v u) (EP X pq U Q) X.xe s
def UnR(X:Cx)(f:am->kY am)(r:V->Hp->VK->Prop):Prop:=
 ∀(pq:List (aB×dJ))(s:au)(U:St)(H:Hp)(x:V)(v:am)(Q:VK),Inv X pq U H s->ZA x v->r x H Q->
  aS (ba X.prog X.w) X.A (f v) (EP X pq U Q) X.xe s
def ZL(X:Cx)(f:am)(r:List V->Hp->VK->Prop):Prop:=
 ∀(pq:List (aB×dJ))(s:au)(U:St)(H:Hp)(xs:List V)(us:List am)(Q:VK),Inv X pq U H s->Vals xs us->r xs H Q->
  aS (ba X.prog X.w) X.A (call f us) (EP X pq U Q) X.xe s
def ZbT(X:Cx)(r:V->Hp->(Bool->Hp->Prop)->Prop):Prop:=
 ∀(pq:List (aB×dJ))(s:au)(U:St)(H:Hp)(x:V)(v:am)(Q:Bool->Hp->Prop),Inv X pq U H s->ZA x v->r x H Q->
  aS (ba X.prog X.w) X.A (truthy v) (TP X pq U Q) X.xe s
def tOp(r:R2)(ta tb:TE):TE:=λU H Q=>ta U H λx H1=>tb U H1 λy H2=>r x y H2 Q
def tUn(r:V->Hp->VK->Prop)(ta:TE):TE:=λU H Q=>ta U H λx H1=>r x H1 Q
def rI(C:Int->Int->Prop)(g:Int->Int->V):R2:=λx y H Q=>∃i j,x=.int i/\y=.int j/\C i j/\Q (g i j) H
def rI0(g:Int->Int->V):R2:=λx y H Q=>∃i j,x=.int i/\y=.int j/\Q (g i j) H
def rU(g:Int->V):V->Hp->VK->Prop:=λx H Q=>∃i,x=.int i/\Q (g i) H
def Zaz(ha:PE X a ta)(hb:PE X b tb){pq:List (aB×dJ)}{s:au}{U:St}{H:Hp}{R:V->V->Hp->Prop}(I:Inv X pq U H s)
  (h:ta U H λx H1=>tb U H1 λy H2=>R x y H2){Q:am->au->Prop}{f:am->am->kY am}
  (hf:∀v u s2 x y H2,Inv X pq U H2 s2->ZA x v->ZA y u->R x y H2->aS (ba X.prog X.w) X.A (f v u) Q X.xe s2) :
  aS (ba X.prog X.w) X.A (b9 a X.env) (λv s₁=>aS (ba X.prog X.w) X.A (b9 b X.env) (λu s₂=>aS (ba X.prog X.w) X.A (f v u) Q X.xe s₂) X.xe s₁) X.xe s:=by
 refine thn (ha pq s U H _ I h) λv s1 #[x,H1,I1,r1,q1]=>?_
 refine thn (hb pq s1 U H1 _ I1 q1) λu s2 #[y,H2,I2,r2,q2]=>?_
 exact hf v u s2 x y H2 I2 r1 r2 q2
def VF(ho:OpR X (cV op) r)(ha:PE X a ta)(hb:PE X b tb):PE X (.BinOp a op b pos) (tOp r ta tb):=by
 intro pq s U H Q I h;exact wpAny_BinOp<|Zaz ha hb I h λv u s2 x y H2 I2 rx ry q=>ho pq s2 U H2 x y v u Q I2 rx ry q
def ZbC{op:UnaryOp}{r:V->Hp->VK->Prop}(ho:UnR X (unaryOp op) r)(ha:PE X a ta):PE X (.UnaryOp op a pos) (tUn r ta):=by
 intro pq s U H Q I h;exact UnaryOp_<|thn (ha pq s U H _ I h)<|by rintro v s1 ⟨x,H1,I1,r1,q1⟩;exact ho pq s1 U H1 x v Q I1 r1 q1
def opI{f:am->am->kY am}{C:Int->Int->Prop}{g:Int->Int->Int}
  (lm:∀(i j:Int)(t u:ll)(s:au)(Q:am->au->Prop)(E:am->au->Prop),C i j->Q (.int (g i j) s.toks) {s with toks:=s.toks+1}->aS (ba X.prog X.w) X.A (f (.int i t)<|.int j u) Q E s) :
  OpR X f (rI C λi j=>.int<|g i j):=by
 intro pq s U H x y v u Q I rx ry h;obtain⟨i,j,rfl,rfl,hc,q⟩:=h;obtain⟨t,rfl⟩:=rx;obtain⟨t',rfl⟩:=ry;exact lm i j t t' s _ _ hc #[.int<|g i j,H,I.tok _,#[_,rfl],q]
def ZaM{f:am->am->kY am}{g:Int->Int->Int}
  (lm:∀(i j:Int)(t u:ll)(s:au)(Q:am->au->Prop)(E:am->au->Prop),Q (.int (g i j) s.toks) {s with toks:=s.toks+1}->aS (ba X.prog X.w) X.A (f (.int i t)<|.int j u) Q E s) :
  OpR X f (rI0 λi j=>.int<|g i j):=by
 intro pq s U H x y v u Q I rx ry h;obtain⟨i,j,rfl,rfl,q⟩:=h;obtain⟨t,rfl⟩:=rx;obtain⟨t',rfl⟩:=ry;exact lm i j t t' s _ _ #[.int<|g i j,H,I.tok _,#[_,rfl],q]
def qh{f:am->am->kY am}{g:Int->Int->Bool}
  (lm:∀(i j:Int)(t u:ll)(s:au)(Q:am->au->Prop)(E:am->au->Prop),Q (.bool<|g i j) s->aS (ba X.prog X.w) X.A (f (.int i t)<|.int j u) Q E s) :
  OpR X f (rI0 λi j=>.bl<|g i j):=by
 intro pq s U H x y v u Q I rx ry h;obtain⟨i,j,rfl,rfl,q⟩:=h;obtain⟨t,rfl⟩:=rx;obtain⟨t',rfl⟩:=ry;exact lm i j t t' s _ _ #[.bl<|g i j,H,I,rfl,q]
def CPow(i j:Int):Prop:=0<=j/\j<=1000000/\i.natAbs<2^64
def j8:OpR X (cV .Add) (rI0 λi j=>.int<|i+j):=ZaM λ_ _ _ _ _ _ _ q=>add_int q
def qV:OpR X (cV .Sub) (rI0 λi j=>.int<|i-j):=ZaM λ_ _ _ _ _ _ _ q=>sub_int q
def jb:OpR X (cV .Mod) (rI (λ_ j=>0<j) λi j=>.int<|i%j):=opI λi j _ _ _ _ _ hc q=>by
 have h1:=hc;exact mod_int' (by lia) (by rw[Int.fmod_eq_emod_of_nonneg i (by lia)];exact q)
def jG:OpR X (cV .Pow) (rI CPow λi j=>.int<|i^j.toNat):=opI λ_ _ _ _ _ _ _ hc q=>pow_int_small hc.1 hc.2.1 hc.2.2 q
def unI{f:am->kY am}{g:Int->Int}
  (lm:∀(i:Int)(t:ll)(s:au)(Q:am->au->Prop)(E:am->au->Prop),Q (.int (g i) s.toks) {s with toks:=s.toks+1}->aS (ba X.prog X.w) X.A (f<|.int i t) Q E s) :
  UnR X f (rU λi=>.int<|g i):=by
 intro pq s U H x v Q I rx h;obtain⟨i,rfl,q⟩:=h;obtain⟨t,rfl⟩:=rx;exact lm i t s _ _ #[.int<|g i,H,I.tok _,#[_,rfl],q]
def j0:UnR X (unaryOp .USub) (rU λi=>.int<|-i):=unI λ_ _ _ _ _ q=>neg_int q
noncomputable def scal:V->V->Bool
 |.non,.non=>ag|.non,.int _=>ag|.int _,.non=>ag|.non,.bl _=>ag|.bl _,.non=>ag|.non,.str _=>ag|.str _,.non=>ag
 |.int _,.int _=>ag|.bl _,.bl _=>ag|.str _,.str _=>ag|.byt _,.byt _=>ag
 |.int _,.str _=>ag|.str _,.int _=>ag|.bl _,.str _=>ag|.str _,.bl _=>ag
 |_,_=>ai
def rEq:R2:=λx y H Q=>scal x y=ag/\Q (.bl<|ae<|x=y) H
def rNe:R2:=λx y H Q=>scal x y=ag/\Q (.bl<|!decide (x=y)) H
def GH :ae (V.int i=V.int j)=(i == j):=by
 rw[bp];simp
def x3 :ae (V.bl i=V.bl j)=(i == j):=by
 rw[bp];simp
def zo :ae (V.str i=V.str j)=(i == j):=by
 rw[bp];simp
def GA :ae (V.byt i=V.byt j)=(i.toList == j.toList):=by
 rw[bp];cases i;cases j;simp
section
variable{X:Cx}{a b c:Expr}{ta tb tc:TE}{pos:fA}
def Zt(I:Inv X pq U H s)(q:Q (.bl k) H)(e:k=k'):EP X pq U Q (.bool k') s:=by
 subst e;exact#[.bl k,H,I,rfl,q]
def ZaX:OpR X (bG .Eq) rEq:=by
 intro pq s U H x y v u Q I rx ry h;obtain⟨hs,q⟩:=h;cases x with
 |non=>
  cases rx;cases y with|non=>cases ry;exact PySem.EqNone.eq_none_none<|Zt I q (by simp)|bl j=>cases ry;exact PySem.EqNone.eq_none_bool<|Zt I q (by simp)|int j=>obtain⟨t',rfl⟩:=ry;exact PySem.EqNone.eq_none_int<|Zt I q (by simp)|str j=>obtain⟨t',rfl⟩:=ry;exact PySem.EqNone.eq_none_str<|Zt I q (by simp)|_=>exact T7 (hs) aF
 |bl i=>
  cases rx;cases y with|non=>cases ry;exact PySem.EqNone.eq_bool_none<|Zt I q (by simp)|bl j=>cases ry;exact eq_bool<|Zt I q x3|str j=>obtain⟨t',rfl⟩:=ry;exact PySem.EqMixed.eq_bool_str<|Zt I q (by simp)|_=>exact T7 (hs) aF
 |int i=>
  obtain⟨t,rfl⟩:=rx;cases y with|non=>cases ry;exact PySem.EqNone.eq_int_none<|Zt I q (by simp)|int j=>obtain⟨t',rfl⟩:=ry;exact eq_int<|Zt I q GH|str j=>obtain⟨t',rfl⟩:=ry;exact PySem.EqMixed.eq_int_str<|Zt I q (by simp)|_=>exact T7 (hs) aF
 |str i=>
  obtain⟨t,rfl⟩:=rx;cases y with|non=>cases ry;exact PySem.EqNone.eq_str_none<|Zt I q (by simp)|bl j=>cases ry;exact PySem.EqMixed.eq_str_bool<|Zt I q (by simp)|int j=>obtain⟨t',rfl⟩:=ry;exact PySem.EqMixed.eq_str_int<|Zt I q (by simp)|str j=>obtain⟨t',rfl⟩:=ry;exact eq_str<|Zt I q zo|_=>exact T7 (hs) aF
 |byt i=>
  obtain⟨t,rfl⟩:=rx;cases y with|byt j=>obtain⟨t',rfl⟩:=ry;exact PySem.W.eq_bytes<|Zt I q GA|_=>exact T7 (hs) aF
 |_=>cases y<;>exact T7 (hs) aF
def Zbx:OpR X (bG .NotEq) rNe:=by
 intro pq s U H x y v u Q I rx ry h;obtain⟨hs,q⟩:=h;cases x with
 |non=>
  cases rx;cases y with|non=>cases ry;exact PySem.EqNone.ne_none_none<|Zt I q (by simp)|bl j=>cases ry;exact PySem.EqNone.ne_none_bool<|Zt I q (by simp)|int j=>obtain⟨t',rfl⟩:=ry;exact PySem.EqNone.ne_none_int<|Zt I q (by simp)|str j=>obtain⟨t',rfl⟩:=ry;exact PySem.EqNone.ne_none_str<|Zt I q (by simp)|_=>exact T7 (hs) aF
 |bl i=>
  cases rx;cases y with|non=>cases ry;exact PySem.EqNone.ne_bool_none<|Zt I q (by simp)|bl j=>cases ry;exact ne_bool<|Zt I q<|congrArg not x3|str j=>obtain⟨t',rfl⟩:=ry;exact PySem.EqMixed.ne_bool_str<|Zt I q (by simp)|_=>exact T7 (hs) aF
 |int i=>
  obtain⟨t,rfl⟩:=rx;cases y with|non=>cases ry;exact PySem.EqNone.ne_int_none<|Zt I q (by simp)|int j=>obtain⟨t',rfl⟩:=ry;exact ne_int<|Zt I q<|congrArg not GH|str j=>obtain⟨t',rfl⟩:=ry;exact PySem.EqMixed.ne_int_str<|Zt I q (by simp)|_=>exact T7 (hs) aF
 |str i=>
  obtain⟨t,rfl⟩:=rx;cases y with|non=>cases ry;exact PySem.EqNone.ne_str_none<|Zt I q (by simp)|bl j=>cases ry;exact PySem.EqMixed.ne_str_bool<|Zt I q (by simp)|int j=>obtain⟨t',rfl⟩:=ry;exact PySem.EqMixed.ne_str_int<|Zt I q (by simp)|str j=>obtain⟨t',rfl⟩:=ry;exact ne_str<|Zt I q<|congrArg not zo|_=>exact T7 (hs) aF
 |byt i=>
  obtain⟨t,rfl⟩:=rx;cases y with|byt j=>obtain⟨t',rfl⟩:=ry;exact PySem.W.ne_bytes<|Zt I q<|congrArg not GA|_=>exact T7 (hs) aF
 |_=>cases y<;>exact T7 (hs) aF
def Za0:OpR X (bG .Lt) (rI0 λi j=>.bl<|ae<|i<j):=qh λ_ _ _ _ _ _ _ q=>lt_int q
def Zbk:OpR X (bG .LtE) (rI0 λi j=>.bl<|ae<|i<=j):=qh λ_ _ _ _ _ _ _ q=>le_int q
def Zby:OpR X (bG .Gt) (rI0 λi j=>.bl<|ae<|j<i):=qh λ_ _ _ _ _ _ _ q=>gt_int q
def Zbt:OpR X (bG .GtE) (rI0 λi j=>.bl<|ae<|j<=i):=qh λ_ _ _ _ _ _ _ q=>ge_int q
def jP:OpR X (bG .Is) (λx y H Q=>y=.non/\Q (.bl<|ae<|x=.non) H):=by
 intro pq s U H x y v u Q I rx ry h;obtain⟨rfl,q⟩:=h;cases ry;refine is_none_gen<|Zt I q ?_;cases x<;>first
  |(cases rx;rfl)
  |(obtain⟨t,rfl⟩:=rx;rfl)
def uj:OpR X (bG .IsNot) (λx y H Q=>y=.non/\Q (.bl<|!decide (x=.non)) H):=by
 intro pq s U H x y v u Q I rx ry h;obtain⟨rfl,q⟩:=h;cases ry;refine isnot_none_gen<|Zt I q ?_;cases x<;>first
  |(cases rx;rfl)
  |(obtain⟨t,rfl⟩:=rx;rfl)
def OpR.or(h:OpR X f r)(h':OpR X f r'):OpR X f (λx y H Q=>r x y H Q\/r' x y H Q):=by
 intro pq s U H x y v u Q I rx ry q;rcases q with q|q
 .exact h pq s U H x y v u Q I rx ry q
 .exact h' pq s U H x y v u Q I rx ry q
def Zag(b:Expr)(h:op≠.In:=by decide)(h2:op≠.NotIn:=by decide):dL op b=ai:=by
 have e1:(op == CmpOp.In)=ai:=by cases op<;>first|rfl|exact T7 rfl h
 have e2:(op == CmpOp.NotIn)=ai:=by cases op<;>first|rfl|exact T7 rfl h2
 cases b<;>simp[dL,e1,e2]
def uq(ho:OpR X (bG op) r)(ha:PE X a ta)(hb:PE X b tb)(hm:dL op b=ai):PE X (.Compare a [op] [b] pos) (tOp r ta tb):=by
 intro pq s U H Q I h;exact wpAny_Compare1 (Zaz ha hb I h λv u s2 x y H2 I2 rx ry q=>ho pq s2 U H2 x y v u Q I2 rx ry q) hm
def ZaP(t:TE):TT:=λU H Q=>t U H λx H'=>∃k,x=.bl k/\Q k H'
def uv(ho:OpR X (bG op) r)(ha:PE X a ta)(hb:PE X b tb)(hm:dL op b=ai):PT X (.Compare a [op] [b] pos) (ZaP<|tOp r ta tb):=by
 intro pq s U H Q I h;refine wpAny_isTrue_Compare1 (thn (ha pq s U H _ I h) λv s1 #[x,H1,I1,r1,q1]=>thn (hb pq s1 U H1 _ I1 q1) λu s2 #[y,H2,I2,r2,q2]=>
  thn (ho pq s2 U H2 x y v u _ I2 r1 r2 q2) λc s3 #[z,H3,I3,r3,k,e,q3]=>?_) hm
 subst e;cases r3;exact dn #[H3,I3,q3]
def qT(r r':R2)(ta tb tc:TE):TE:=λU H Q=>ta U H λx H1=>tb U H1 λy H2=>r x y H2 λz H3=>∃k,z=.bl k/\
 (if k=ag then tc U H3 λw' H4=>r' y w' H4 Q else Q (.bl ai) H3)
def va(ho:OpR X (bG op) r)(ho':OpR X (bG op') r')(ha:PE X a ta)(hb:PE X b tb)(hc:PE X c tc)
  (hm:lastMarks [op,op'] [b,c]=ai:=by with_unfolding_all rfl):PE X (.Compare a [op,op'] [b,c] pos) (qT r r' ta tb tc):=by
 intro pq s U H Q I h;refine Compare_chain (thn (ha pq s U H _ I h) λv s1 #[x,H1,I1,r1,q1]=>chain_link (thn (hb pq s1 U H1 _ I1 q1) λu s2 #[y,H2,I2,r2,q2]=>
  thn (ho pq s2 U H2 x y v u _ I2 r1 r2 q2) λd s3 #[z,H3,I3,r3,k,e,q3]=>?_)) hm
 subst e;cases r3;refine dn ?_;cases k with|false=>exact ite_ff #[.bl ai,H3,I3,rfl,q3]|true=>exact ite_tt<|chain_last<|thn (hc pq s3 U H3 _ I3 q3)<|by rintro w' s4 ⟨z',H4,I4,r4,q4⟩;exact ho' pq s4 U H4 y z' u w' Q I4 r2 r4 q4
def uQ(K:aj)(x:V)(H:Hp)(k:Bool):Prop:=
 match x with
 |.non=>k=ai
 |.bl b=>k=b
 |.int i=>k=(i != 0)
 |.str y=>y.length<=aQ/\k=((y.length:Int) != 0)
 |.byt y=>y.size<=aQ/\k=((y.size:Int) != 0)
 |.ref p=>(∃xs,SqL K H p xs/\k = !xs.isEmpty)\/(∃xs,SqT K H p xs/\k = !xs.isEmpty)\/∃kvs,H p=aa (.dK kvs)/\k = !kvs.isEmpty
 |_=>False
def J7{κ:Type}{kvs:List (κ×V)}{vs:List (κ×am)}(r:KV kvs vs):(!vs.isEmpty) = !kvs.isEmpty:=by
 cases r<;>rfl
def Vj{xs:List V}{its:List am}(r:Vals xs its):(!its.toArray.isEmpty) = !xs.isEmpty:=by
 cases r<;>simp
def Vf:(aQ:Nat)<2^63:=by rw[dy];decide
theorem wH:ZbT X (λx H Q=>∃k,uQ X.K x H k/\Q k H):=by
 intro pq s U H x v Q I rx h;obtain⟨k,e,q⟩:=h;have hl:=Vf;have hs:=dy;cases x with
 |non=>
  cases rx;have e':=e;subst e';exact truthy_none #[H,I,q]
 |bl b=>
  cases rx;have e':k=b:=e;subst e';exact dn #[H,I,q]
 |int i=>
  obtain⟨t,rfl⟩:=rx;have e':=e;subst e';exact ig #[H,I,q]
 |str y=>
  obtain⟨t,rfl⟩:=rx;obtain⟨hy,e'⟩:=e;subst e';exact PySem.P.truthy_str (by lia) #[H,I.tok _,q]
 |byt y=>
  obtain⟨t,rfl⟩:=rx;obtain⟨hy,e'⟩:=e;subst e';exact PySem.W.truthy_bytes (by lia) #[H,I.tok _,q]
 |ref p=>
  cases rx;have e':=e;rcases e' with⟨xs,hx,e'⟩|⟨xs,hx,e'⟩|⟨kvs,hx,e'⟩
  .subst e'
   obtain⟨its,r,pl,hz⟩:=I.list hx;have hlen:=r.length;exact wpAny_truthy_list pl.isList (by simp only[aq];lia) #[H,I.tok _,by rw[Vj r];exact q]
  .subst e'
   obtain⟨its,r,pl,hz⟩:=I.tuple hx;have hlen:=r.length;exact truthy_tuple pl (by simp only[aq];lia) #[H,I.tok _,by rw[Vj r];exact q]
  .subst e'
   obtain⟨hz,hS,vs,r,m⟩:=I.hok p _ hx;have hlen:=Paired.length r;exact wpAny_truthy_dict hS m (by lia) #[H,I.tok _,by rw[J7 r];exact q]
 |_=>exact(e).elim
def wA(ha:PE X a ta)(he:∀whole,isTrue a X.env whole=(do let v <-whole;gS a.pos;dC [v] (truthy v))) :
  PT X a (λU H Q=>ta U H λx H'=>∃k,uQ X.K x H' k/\Q k H'):=by
 intro pq s U H Q I h;exact isTrue_plain (thn (ha pq s U H _ I h)<|by rintro v s1 ⟨x,H1,I1,r1,q1⟩;exact wH pq s1 U H1 x v Q I1 r1 q1)<|he _
def Vr(r:Vals [x] us):∃u,us=[u]/\ZA x u:=by
 cases r with|cons r1 r2=>cases r2;exact#[_,rfl,r1]
def wn(r:Vals [x,y] us):∃u w',us=[u,w']/\ZA x u/\ZA y w':=by
 cases r with
 |cons r1 r2=>
  cases r2 with|cons r3 r4=>cases r4;exact#[_,_,rfl,r1,r3]
def yv(hc:X.calm=ag):ZL X (.builtin "max") (λxs H Q=>∃i j,xs=[.int i,.int j]/\Q (.int (if j>i then j else i)) H):=by
 intro pq s U H xs us Q I r h;obtain⟨i,j,rfl,q⟩:=h;obtain⟨u,w',rfl,⟨t,rfl⟩,⟨t',rfl⟩⟩:=wn r;refine max_two_ints (I.ok.hd hc) λh' tk k=>#[_,H,I.kept k,?_,q]
 by_cases hj:j>i
 .rw[T9 hj,T9 hj];exact#[_,rfl]
 .rw[T8 hj,T8 hj];exact#[_,rfl]
def zV(hc:X.calm=ag):ZL X (.builtin "min") (λxs H Q=>∃i j,xs=[.int i,.int j]/\Q (.int (if j<i then j else i)) H):=by
 intro pq s U H xs us Q I r h;obtain⟨i,j,rfl,q⟩:=h;obtain⟨u,w',rfl,⟨t,rfl⟩,⟨t',rfl⟩⟩:=wn r;refine min_two_ints (I.ok.hd hc) λh' tk k=>#[_,H,I.kept k,?_,q]
 by_cases hj:j<i
 .rw[T9 hj,T9 hj];exact#[_,rfl]
 .rw[T8 hj,T8 hj];exact#[_,rfl]
end
structure ObjM(h:bJ)(x dx C:aB)(mA:bc->Option am):Prop where
 obj:h.get? x=aa (gp C dx)
 ns:h.Ns1 dx mA
 ne:dx≠x
def yy{h:bJ}{dx:aB}{mA:bc->Option am}(n:h.Ns1 dx mA):∃od,h.get? dx=aa od/\∀name,gF name od=aa (mA name):=by
 obtain⟨o,es,ep,ho,hd,hk,_,hm⟩:=n;refine#[o,ho,λname=>?_]
 have e:=hm name;unfold nsFind findBy at e;rw[<-Array.find?_toList]at e;unfold gF;rw[hd]
 dsimp only
 split
 .rename_i y q
  rw[q]at e;exact congrArg aa e
 .rename_i q
  rw[q]at e;have a:es.toList.any (·.refKey)=ai:=by
   rw[dZ];intro y hy;obtain⟨z,t,hkey⟩:=hk y<|gG.mp hy;simp[eX.refKey,hkey]
  have a':¬es.toList.any (·.refKey)=ag:=by rw[a];exact aF
  rw[T8 a'];exact congrArg aa e
def ObjM.look(I:ObjM h x dx C mA):∃od,PySem.W.InstAt h x (gp C dx) C (aa od)/\∀name,gF name od=aa (mA name):=
 let #[od,ho,hl]:=yy I.ns
 #[od,#[I.obj,rfl,rfl,ho],hl]
section
variable{P:br}{w:bK}{H H':Hp}{h h':bJ}{a C dx:aB}{fs fs':List (bc×V)}
def uC(hok:HOk P w H h)(e:H a=aa (.ins C dx fs)):∃mA,ObjM h a dx C mA/\(∀f,JY (fs.lookup f)<|mA f)/\PySem.Within mA (fs.map (·.1))/\fs.length<=1000/\H dx=aa (.own a):=by
 obtain⟨d,z,ne,ob,mA,n,r,q⟩:=(hok a _ e)
 exact#[mA,#[ob,n,ne],r,q,z,d]
end
structure Cls(K:aj)(C:aB):Prop where
 pg:i8 K C bc.empty=ag
 hd:PySem.W.hasDictIn K C=ag
 po:PySem.W.plainOver K C=ag
 sa:kM K (.ref C) "__setattr__" = aa (aa<|.builtin "object.__setattr__")
def Cls.get{K:aj}{C:aB}(c:Cls K C)(f:bc):i8 K C f=ag:=c.pg
section
variable{X:Cx}{pq:List (aB×dJ)}{U:St}{H:Hp}{s:au}{A:cg}{E:am->au->Prop}{Q:am->au->Prop}{c:am}{b:Bool}
inductive TyOf(K:aj)(H:Hp):V->am->Prop where
 |non:TyOf K H .non (.type "NoneType")
 |bl (x:Bool):TyOf K H (.bl x) (.type "bool")
 |int (i:Int):TyOf K H (.int i) (.type "int")
 |str (x:bc):TyOf K H (.str x) (.type "str")
 |flt (x:UInt64):TyOf K H (.flt x) (.type "float")
 |lst {a:aB} {xs:List V} (e:H a=aa (.lst xs)):TyOf K H (.ref a) (.type "list")
 |frz {a:aB} {o:dJ} {xs:List V} (e:H a=aa (.frz o<|.lst xs)):TyOf K H (.ref a) (.type "list")
 |tup {a:aB} {xs:List V} (e:H a=aa (.tup xs)):TyOf K H (.ref a) (.type "tuple")
 |dK {a:aB} {kvs:List (Key×V)} (e:H a=aa (.dK kvs)):TyOf K H (.ref a) (.type "dict")
 |dT {a:aB} {kvs:List (List Key×V)} (e:H a=aa (.dT kvs)):TyOf K H (.ref a) (.type "dict")
 |ins {a C dx:aB} {fs:List (bc×V)} (e:H a=aa (.ins C dx fs)) (cl:Cls K C) (ha:kM K (.ref C) "__class__" = aa (aa<|.builtin "object.__class__"))
   (hn:PySem.W.specialIn K (.builtin "object.__class__") "__get__" = aa (aa<|.builtin "getset_descriptor.__get__")) (htk:PySem.W.takesIn K (.builtin "object.__class__")=aa ag)
   (hm:PySem.W.mroIn K C (.type "object")=aa ag):TyOf K H (.ref a) (.ref C)
def z7(I:Inv X pq U H s)(rx:ZA x u)(ty:TyOf X.K H x t)(e:gH X.K t c=aa b)(h:∀tk,Q (.bool b) {s with toks:=tk}) :
  aS (ba X.prog X.w) A (call (.builtin "isinstance") [u,c]) Q E s:=by
 cases ty with
 |non=>cases(show u=eY from rx);exact bT PySem.W.kitx_none I.kIn cZ e (λz=>nomatch z) h
 |bl y=>cases(rx);exact bT PySem.W.kitx_bool I.kIn cZ e (λz=>nomatch z) h
 |int i=>obtain⟨t,q⟩:=(rx);cases q;exact bT PySem.W.kitx_int I.kIn cZ e (λz=>nomatch z) h
 |str y=>obtain⟨t,q⟩:=(rx);cases q;exact bT PySem.W.kitx_str I.kIn cZ e (λz=>nomatch z) h
 |flt y=>obtain⟨t,q⟩:=(rx);cases q;exact bT PySem.W.kitx_float I.kIn cZ e (λz=>nomatch z) h
 |@lst a xs ea=>
  cases(rx)
  obtain⟨_,_,n,_,h1⟩:=(I.hok a _ ea)
  exact bT iE I.kIn #[_,h1,rfl] e (λz=>nomatch z) h
 |@frz a ob xs ea=>
  cases(rx)
  obtain⟨_,_,_,n,_,h1⟩:=(I.hok a _ ea)
  exact bT iE I.kIn #[_,h1,rfl] e (λz=>nomatch z) h
 |@tup a xs ea=>
  cases(rx)
  obtain⟨_,_,_,p⟩:=(I.hok a _ ea)
  obtain⟨o,h1,h2,_⟩:=p;exact bT PySem.W.kitx_tuple I.kIn #[o,h1,h2] e (λz=>nomatch z) h
 |@dK a kvs ea=>
  cases(show u=bO a from rx)
  obtain⟨_,_,vs,_,p⟩:=(I.hok a _ ea)
  obtain⟨o,es,ep,h1,h2,_⟩:=p;exact bT iF I.kIn #[o,h1,h2.1] e (λz=>nomatch z) h
 |@dT a kvs ea=>
  cases(show u=bO a from rx)
  obtain⟨_,_,xs,_,o,es,ep,h1,h2,_⟩:=(I.hok a _ ea)
  exact bT iF I.kIn #[o,h1,h2.1] e (λz=>nomatch z) h
 |@ins a C dx fs ea cl ha hn htk hm=>
  cases(show u=bO a from rx)
  obtain⟨mA,O,_⟩:=uC I.hok ea;obtain⟨od,J,_⟩:=O.look;exact bT (PySem.W.kitx_own (cl.get _) cl.hd ha hn htk hm) I.kIn J e (λz=>nomatch z) h
end
structure Room(k:Nat)(A:cg):Prop where
 hd:A.handled=ab
 dp:A.depth+3*k+5<recursionLimit
 un:A.units+16*k+200<cI
 gd:A.guards=aa []
theorem Room.deeper{k:Nat}{A:cg}(r:Room (k+1) A)(env:Env):Room k (A.deeper env):=
 #[r.hd,by have:=r.dp;show A.depth+1+3*k+5<_;lia,by have:=r.un;show A.units+3+16*k+200<_;lia,r.gd]
theorem Room.depth(r:Room k A):A.depth<recursionLimit:=by have:=r.dp;lia
theorem Room.units{k:Nat}{A:cg}(r:Room k A):A.units+64<cI:=by have:=r.un;lia
def Zcf:TA:=λ_ H Q=>Q [] H
def ZbE(ta:TE)(tr:TA):TA:=λU H Q=>ta U H λx H1=>tr U H1 λxs H2=>Q (x::xs) H2
section
variable{X:Cx}{e:Expr}{es:List Expr}{te:TE}{t:TA}{pos:fA}
def Qn:PA X [] Zcf:=λ_ _ _ _ H Q I h=>Calls.spliced_nil #[[],H,I,.nil,h]
def X3(ha:PE X e te)(hr:PA X es t)(hs:aE (e::es) X.env=(ai,b9 e X.env)::aE es X.env:=by rfl):PA X (e::es) (ZbE te t):=by
 intro pos pq s U H Q I h;rw[hs];refine Calls.spliced_cons<|thn (ha pq s U H _ I h) λu s1 #[x,H1,I1,r1,q1]=>?_
 exact thn (hr pos pq s1 U H1 _ I1 q1)<|by rintro us s2 ⟨xs,H2,I2,r2,q2⟩;exact #[x::xs,H2,I2,.cons r1 r2,q2]
def ZbZ(t:TA):TE:=λU H Q=>t U H λxs H1=>xs.length<=aQ/\∀p,H1 p=ab->Q (.ref p) (upd H1 p<|.tup xs)
def Zb7(t:TA):TE:=λU H Q=>t U H λxs H1=>xs.length<=aQ/\∀p,H1 p=ab->Q (.ref p) (upd H1 p<|.lst xs)
def jB{x1}(h:PA X es t):PE X (.Tuple es x1 pos) (ZbZ t):=by
 intro pq s U H Q I hq;refine wpAny_Tuple_spliced<|thn (h pos pq s U H _ I hq) λus s1 #[xs,H1,I1,r,z,q]=>#[by rw[<-r.length];exact z,?_]
 have hf:=I1.hok.fresh<|aD _;refine#[.ref s1.heap.objs.size,upd H1 s1.heap.objs.size<|.tup xs,I1.laid (t':=s1.toks) (λb u e=>ap _ e) (aD _) ?_,rfl,q _ hf]
 exact#[z,us,r,#[_,aH _ rfl,rfl,_,rfl]]
def wE(h:PA X es t):PE X (.List es pos) (Zb7 t):=by
 intro pq s U H Q I hq;refine wpAny_List_spliced<|thn (h pos pq s U H _ I hq) λus s1 #[xs,H1,I1,r,z,q]=>#[by rw[<-r.length];exact z,?_]
 have hf:=I1.hok.fresh<|aD _;refine#[.ref s1.heap.objs.size,upd H1 s1.heap.objs.size<|.lst xs,I1.laid (t':=s1.toks) (λb u e=>ap _ e) (aD _) ?_,rfl,q _ hf]
 exact#[z,us,0,r,aH _ rfl]
end
abbrev Sp:=List V->Hp->VK->XK->Prop
abbrev CXT:=List Env->Hp->au->XK->am->au->Prop
structure Env0(P:br)(w:bK)(K:aj)(mg:bc->Option am)(base:bJ)(A:cg)(outer:List Env)(s:au)(H:Hp):Prop where
 frames:A.frames=aa outer
 mod:Mod K mg base
 bs:∀b o,base.get? b=aa o->s.heap.get? b=aa o/\H b=ab
 bsz:base.objs.size<=s.heap.objs.size
 funs:s.heap.FunFrames base outer
 frf:∀b∈frs outer,H b=ab
 hok:HOk P w H s.heap
 bare:fF s.gens
def CE(outer:List Env)(P:br)(w:bK)(H:Hp)(s:au)(Q:VK)(u:am)(s':au):Prop:=
 ∃v H',s'.os=s.os/\fF s'.gens/\Un (frs outer) [] H H' s.heap s'.heap/\HOk P w H' s'.heap/\ZA v u/\Q v H'
def CR(CX:CXT)(outer:List Env)(P:br)(w:bK)(H:Hp)(s:au)(Q:VK)(E:XK)(r:Result)(s':au):Prop:=
 match r with
 |.ok (.ret u)=>CE outer P w H s Q u s'
 |.ok _=>False
 |.error e=>CX outer H s E e s'
structure FnOk(P:br)(w:bK)(K:aj)(mg:bc->Option am)(base:bJ)(CX:CXT)(k:Nat)(f:aB)(fd:bW)(ps:List bc)(sp:Sp):Prop where
 len:∀vs H Q E,sp vs H Q E->vs.length=ps.length
 run:∀(A:cg)(outer:List Env)(s:au)(H:Hp)(args:Args)(us:List am)(vs:List V)(Q:VK)(E:XK),Room k A->Env0 P w K mg base A outer s H->iG s fd args (ps.zip us)->Vals vs us->sp vs H Q E->
  gb (ba P w) A (.call (.ref f) args) (CR CX outer P w H s Q E) s
section
variable{X:Cx}{pq:List (aB×dJ)}{U:St}{H:Hp}{s s':au}
def Inv.env0(I:Inv X pq U H s):Env0 X.prog X.w X.K X.mg X.base X.A X.stack s H:=
 #[I.ok.frames,I.ok.mod,I.bs,bx I.ok.bsz I.sz,I.stack,I.stkFree,I.hok,I.bare]
def Inv.after(I:Inv X pq U H s)(h:CE X.stack X.prog X.w H s Q u s'):EP X pq U Q u s':=by
 obtain⟨v,H',os,bare,un,hok,r,q⟩:=h;obtain⟨hh,g,d,t,os'⟩:=s';obtain rfl:os'=s.os:=os;exact#[v,H',I.call (h':=hh) (g':=g) (d':=d) (t':=t) un hok bare (λb z=>T7 z (by simp)),r,q]
end
def qB(sp:Sp)(dvs:List V)(E:XK)(t:TA):TE:=λU H Q=>t U H λvs H1=>sp (vs++dvs) H1 Q E
def Va(K:aj)(fd:bW)(ps:List bc)(ds:List am):Prop:=
 ∀(s:au)(us:List am),K.In s.heap->(us++ds).length=ps.length->iG s fd #[us,[]] (ps.zip<|us++ds)
def Va.all{K:aj}{fd:bW}{ps:List bc}(h:∀us:List am,us.length=ps.length->kN fd #[us,[]]=cb (ps.zip us)):Va K fd ps []:=λs us _ hl=>by
 rw[cz]at hl ⊢;exact .of_eq<|h us hl
def Gs(CX:CXT)(X:Cx)(E:XK):Prop:=∀(pq:List (aB×dJ))(U:St)(H:Hp)(s:au)(e:am)(s':au),Inv X pq U H s->CX X.stack H s E e s'->X.xe e s'
section
variable{X:Cx}{CX:CXT}{k:Nat}{f C:aB}{fd:bW}{ps:List bc}{sp:Sp}{dvs:List V}{ds:List am}{E:XK}{x m:bc}{p pos apos:fA}{e o:Expr}{es:List Expr}{ta:TE}{t:TA}
def Zaf(F:FnOk X.prog X.w X.K X.mg X.base CX k f fd ps sp)(hr:Room k X.A)(hb:Va X.K fd ps ds)(hd:Vals dvs ds)(hx:Gs CX X E)
  (I:Inv X pq U H s)(r:Vals vs us)(h:sp (vs++dvs) H Q E):aS (ba X.prog X.w) X.A (call (.ref f) us) (EP X pq U Q) X.xe s:=by
 have r2:=r.append hd;have hl:(us++ds).length=ps.length:=by rw[<-r2.length];exact F.len _ _ _ _ h
 refine wpAny_call<|iH (F.run X.A X.stack s H #[us,[]] (us++ds) (vs++dvs) Q E hr I.env0 (hb s us I.kIn hl) r2 h) λr s' hq=>?_
 cases r with
 |error e=>exact hx pq U H s e s' I hq
 |ok fl=>
  cases fl with|ret u=>exact I.after hq|next=>exact False.elim hq|brk=>exact False.elim hq|cont=>exact False.elim hq
def zy(F:FnOk X.prog X.w X.K X.mg X.base CX k f fd ps sp)(hr:Room k X.A)(hg:Gl X x)(hm:X.mg x=aa (.ref f))(hk:d3 X.K (.ref f)=ag)(hb:Va X.K fd ps ds)(hd:Vals dvs ds)(hx:Gs CX X E)
  (ha:PA X (e::es) t)(hdb:(x == ("__debug__" : bc))=ai:=by decide)(he:aE (e::es) X.env=(ai,b9 e X.env)::aE es X.env:=by rfl)(hpl:(du pos<|aE es X.env).any (·.1)=ai:=by rfl) :
  PE X (.Call (.Name x p) (e::es) [] pos) (qB sp dvs E t):=by
 intro pq s U H Q I h;refine fb<|qa I hg hm ?_ hdb;refine PySem.W.callWith_K I.ok.mod.kin hk (thn (ha pos pq s U H _ I h) λus s1 #[vs,H1,I1,r,q]=>#[I1.kIn,?_]) he hpl
 exact Zaf F hr hb hd hx I1 r q
end
structure FnScope(N P:List bc)(sc:de):Prop where
 kind:sc.kind=.function
 co:sc.isCoroutine=ai
 gen:sc.isGenerator=ai
 nd:N.Nodup
 pre:N.take P.length=P
 par:∀x∈P,sc.names.lookup x=aa .local\/sc.names.lookup x=aa .cell
 nofree:∀y∈sc.names,y.2≠.free
theorem V1{kindOf:bc->Option cW}{x:bc}:∀{binds:List (bc×am)}{m:bc->Option am},(∀v,(x,v)∉binds)->lf kindOf binds m x=m x
 |[],_,_=>rfl
 |(n,v)::r,m,h=>by
  unfold lf;rw[V1 λw hw=>h w<|ak _ hw]
  split
  .have:x≠n:=by rintro rfl;exact h v al
   simp[this]
  .rfl
theorem V6{kindOf:bc->Option cW}{x:bc}:∀{binds:List (bc×am)}{m:bc->Option am},(∀v,(x,v)∉binds)->lg kindOf binds m x=m x
 |[],_,_=>rfl
 |(n,v)::r,m,h=>by
  unfold lg;rw[V6 λw hw=>h w<|ak _ hw]
  split
  .rfl
  .have:x≠n:=by rintro rfl;exact h v al
   simp[this]
theorem Uq{kindOf:bc->Option cW}{x:bc}{v:am}:∀{P:List bc}{vs:List am}{i:Nat}{m:bc->Option am},P.Nodup->P[i]?=aa x->vs[i]?=aa v->kindOf x=aa .local->
  lf kindOf (P.zip vs) m x=aa v
 |[],_,_,_,_,h,_,_=>by simp at h
 |_::_,[],_,_,_,_,h,_=>by simp at h
 |p::P,w::vs,0,m,nd,h1,h2,hk=>by
  simp at h1 h2;subst h1;subst h2;show lf kindOf ((p,w)::P.zip vs) m p=_;unfold lf;rw[V1 λv hv=>(cQ.mp nd).1 (cR hv).1,T9 hk]
  simp
 |p::P,w::vs,i+1,m,nd,h1,h2,hk=>by
  unfold lf;exact Uq (cQ.mp nd).2 (by simpa using h1) (by simpa using h2) hk
theorem Ub{kindOf:bc->Option cW}{x:bc}{v:am}:∀{P:List bc}{vs:List am}{i:Nat}{m:bc->Option am},P.Nodup->P[i]?=aa x->vs[i]?=aa v->kindOf x≠aa .local->
  lg kindOf (P.zip vs) m x=aa v
 |[],_,_,_,_,h,_,_=>by simp at h
 |_::_,[],_,_,_,_,h,_=>by simp at h
 |p::P,w::vs,0,m,nd,h1,h2,hk=>by
  simp at h1 h2;subst h1;subst h2;show lg kindOf ((p,w)::P.zip vs) m p=_;unfold lg;rw[V6 λv hv=>(cQ.mp nd).1 (cR hv).1,T8 hk]
  simp
 |p::P,w::vs,i+1,m,nd,h1,h2,hk=>by
  unfold lg;exact Ub (cQ.mp nd).2 (by simpa using h1) (by simpa using h2) hk
noncomputable def start(N:List bc)(vs:List V):St:=vs.map aa++aA (N.length-vs.length) ab
noncomputable def QR(CX:CXT)(P:br)(w:bK)(K:aj)(mg:bc->Option am)(base:bJ)(N:List bc)(qual:bc)(scope:de)(f:aB)(cd:am)(A:cg)(outer:List Env)(s:au)(H:Hp)(E:XK):Cx where
 prog:=P
 w:=w
 K:=K
 mg:=mg
 base:=base
 A:=A.deeper<|fc qual scope s.heap.objs.size f cd
 N:=N
 s₀:=s
 H₀:=H
 env:=fc qual scope s.heap.objs.size f cd
 outer:=outer
 stack:=fc qual scope s.heap.objs.size f cd::outer
 ex:=[]
 calm:=ag
 fn:=λ_=>ag
 pn:=[]
 xe:=λe s'=>aS (ba P w) (A.deeper<|fc qual scope s.heap.objs.size f cd) (leaving (fc qual scope s.heap.objs.size f cd) e) (λ_ s''=>CX outer H s E e s'') (λe' s''=>CX outer H s E e' s'') s'
def JH{sc:de}{n:Nat}{x:bc}(h:sc.names.lookup x=aa .cell):∃c,(cG n sc.names []).lookup x=aa c:=by
 have q:=gc sc.names n []<|.inl h;exact bZ.mp q
def z6{CX:CXT}{P:br}{w:bK}{K:aj}{mg:bc->Option am}{base:bJ}{N ps:List bc}{qual:bc}{scope:de}{f:aB}{cd:am}{A:cg}{outer:List Env}{s s1:au}{H:Hp}{E:XK}{us:List am}{vs:List V}
  (S:FnScope N ps scope)(hd:A.handled=ab)(e0:Env0 P w K mg base A outer s H)(hl:vs.length=ps.length)(r:Vals vs us)
  (x:InCallC s s.heap.objs.size (lf (fc qual scope s.heap.objs.size f cd).kindOf (ps.zip us) λ_=>ab) (cG (s.heap.objs.size+1) scope.names []) (lg (fc qual scope s.heap.objs.size f cd).kindOf (ps.zip us) λ_=>ab) s1) :
  Inv (QR CX P w K mg base N qual scope f cd A outer s H E) [] (start N vs) H s1:=by
 have hpl:ps.length<=N.length:=by have:=congrArg kz S.pre;rw[bC]at this;lia
 obtain⟨h1,tk,rfl,hk⟩:=x.done;have noA:∀b:aB,b∉(QR CX P w K mg base N qual scope f cd A outer s H E).ex:=λb z=>T7 (show b∈([]:List aB)from z) (by simp)
 refine#[#[e0.mod,S.kind,rfl,rfl,aD _,λy z c h1 h2=>?_,λy hy=>?_,λy c _ h=>?_,λ_=>hd,cg.frames_deeper e0.frames,.inr #[rfl,rfl],λb z=>T7 z<|noA b,e0.bs,e0.bsz,λb _ _=>noA b,λb z=>T7 z<|noA b,e0.funs,e0.frf],
  rfl,e0.bare,Un.kept hk,#[_,x.toInCall.ns,λi y v h1 h2 h3=>?_],λy c h=>#[_,x.cell y c h],e0.hok.fresh<|aD _,λy c h=>?_,λp hp=>T7 (show p∈([]:List (aB×dJ))from hp) (by simp),e0.hok.kept hk,?_]
 .exact name_of_addr x.apart (c6 h1)<|c6 h2
 .have hy:=hy
  rcases hy with hy|hy
  .exact JH hy
  .exact T7 rfl<|S.nofree _<|c6 hy
 .exact iB<|x.above y c<|c6 h
 .have hi:i<vs.length:=by
   unfold start at h2;by_cases hi:i<vs.length
   .exact hi
   .rw[cj<|by simpa using hi]at h2
    rw[bP]at h2;split at h2<;>cases h2
  have ha:vs[i]?=aa v:=by
   unfold start at h2;rw[bX (by simpa using hi),aV]at h2
   cases e:vs[i]? with|none=>rw[e]at h2;cases h2|some a=>rw[e]at h2;cases h2;rfl
  obtain⟨u,hu,rv⟩:=r.get ha;have hp:ps[i]?=aa y:=by
   rw[<-S.pre,List.getElem?_take_of_lt (by lia)];exact h1
  have ndP:ps.Nodup:=by rw[<-S.pre];exact S.nd.sublist<|List.take_sublist _ _
  refine#[u,rv,?_];rcases S.par y (eD hp)with k|k
  .exact .inl #[k,Uq ndP hp hu k]
  .obtain⟨c,e⟩:=JH k
   refine .inr #[.inl k,c,e,?_];have q:=x.cell y c e;rw[Ub ndP hp hu<|by show scope.names.lookup y≠_;rw[k];decide]at q
   exact q
 .exact e0.hok.fresh<|iB<|x.above y c<|c6 h
 .unfold start
  show _=N.length;rw[aP,aw,bM];lia
def Za4{CX:CXT}{P:br}{w:bK}{K:aj}{mg:bc->Option am}{base:bJ}{k:Nat}{f:aB}{name qual:bc}{params:Arguments}{body:List dG}{scope:de}{dV kV doc pm cdv ct oc:am}{an od:Option aB}
  {osl:Array (Option am)}{N ps:List bc}{sp:Sp}(lk:K.lookup f=aa #[oc,od,.func<|cD name qual params body scope dV kV doc pm an cdv ct,osl])(hcd:fe K cdv qual=ag)(S:FnScope N ps scope)
  (len:∀vs H Q E,sp vs H Q E->vs.length=ps.length)
  (hbody:∀(A:cg)(outer:List Env)(s:au)(H:Hp)(vs:List V)(Q:VK)(E:XK),Room k (A.deeper<|fc qual scope s.heap.objs.size f cdv)->sp vs H Q E->
   ∃t,PSs (QR CX P w K mg base N qual scope f cdv A outer s H E) body t/\t {nx:=λ_ H'=>Q .non H',rt:=Q} (start N vs) H) :
  FnOk P w K mg base CX (k+1) f (cD name qual params body scope dV kV doc pm an cdv ct) ps sp:=by
 refine#[len,λA outer s H args us vs Q E hr e0 hb r hsp=>?_]
 have hl:=len _ _ _ _ hsp;have KX:=e0.mod.kin.keeps λb o e=>(e0.bs b o e).1
 have lim:=e0.mod.nolimit.keeps λb o e=>(e0.bs b o e).1
 have hkind:∀y∈ps.zip us,scope.names.lookup y.1=aa .local\/(scope.names.lookup y.1=aa .cell/\((cG (s.heap.objs.size+1) scope.names []).lookup y.1).isSome=ag):=by
  rintro ⟨n,v⟩ hy;rcases S.par n (cR hy).1 with q|q
  .exact .inl q
  .exact .inr #[q,gc _ _ _<|.inl q]
 refine codeAny_call_function hr.depth (KX _ _ lk) rfl S.co S.gen rfl (PySem.W.codeRec_of KX hcd)<|hb _ _ _ _ ?_;refine wpAny_newFunctionEnv_cells S.kind hkind λenv he s1 x=>?_
 subst he;refine#[lim.keeps x.toInCall.keep,codeAny_func ?_];obtain⟨t,ht,hq⟩:=hbody A outer s H vs Q E (hr.deeper _) hsp;have I:Inv (QR CX P w K mg base N qual scope f cdv A outer s H E) [] (start N vs) H s1:=z6 S hr.hd e0 hl r x;refine cY (ht [] s1 (start N vs) H _ I hq) (λfl s' hs=>?_) λe s' hs=>hs
 have fin:∀{σ':St}{H':Hp}{v:V}{u:am},Inv (QR CX P w K mg base N qual scope f cdv A outer s H E) [] σ' H' s'->ZA v u->Q v H'->CE outer P w H s Q u s':=
  λ{σ' H' v u} J rv q=>#[v,H',J.os,J.bare,J.base,J.hok,rv,q]
 cases fl with
 |ret u=>
  obtain⟨v,σ',H',J,rv,q⟩:=hs;exact fin J rv q
 |next=>
  obtain⟨σ',H',J,q⟩:=hs;exact fin (v:=V.non) J rfl q
 |brk=>
  obtain⟨_,_,_,q⟩:=hs;exact False.elim q
 |cont=>
  obtain⟨_,_,_,q⟩:=hs;exact False.elim q
section
variable{X:Cx}{x:bc}{p pos:fA}{e:Expr}{es:List Expr}{t:TA}{id T:String}{r:List V->Hp->VK->Prop}
def tCB(r:List V->Hp->VK->Prop)(t:TA):TE:=λU H Q=>t U H λvs H1=>r vs H1 Q
def QC(hc:ZL X (.builtin id) r)(hg:Gl X x)(hm:X.mg x=ab)(hv:cB x=aa (.builtin id))(ha:PA X (e::es) t)(hn:x≠"__name__":=by decide)(hdb:(x == ("__debug__" : bc))=ai:=by decide)
  (he:aE (e::es) X.env=(ai,b9 e X.env)::aE es X.env:=by rfl)(hpl:(du pos<|aE es X.env).any (·.1)=ai:=by rfl):PE X (.Call (.Name x p) (e::es) [] pos) (tCB r t):=by
 intro pq s U H Q I h;refine fb<|Wl I hg hm hv ?_ hn hdb;exact PyProof.Rows.callWith_builtin1 (thn (ha pos pq s U H _ I h)<|by rintro us s1 ⟨vs,H1,I1,r1,q1⟩;exact hc pq s1 U H1 vs us Q I1 r1 q1) he hpl
def Uj(hc:ZL X (.type T) r)(hg:Gl X x)(hm:X.mg x=ab)(hv:cB x=aa (.type T))(ha:PA X (e::es) t)(hn:x≠"__name__":=by decide)(hdb:(x == ("__debug__" : bc))=ai:=by decide)
  (he:aE (e::es) X.env=(ai,b9 e X.env)::aE es X.env:=by rfl)(hpl:(du pos<|aE es X.env).any (·.1)=ai:=by rfl):PE X (.Call (.Name x p) (e::es) [] pos) (tCB r t):=by
 intro pq s U H Q I h;refine fb<|Wl I hg hm hv ?_ hn hdb;exact cC (thn (ha pos pq s U H _ I h)<|by rintro us s1 ⟨vs,H1,I1,r1,q1⟩;exact hc pq s1 U H1 vs us Q I1 r1 q1) he hpl
end
end L2
namespace HT
open PySem PyProof.Rows
section
variable{prog:br}{w:bK}{A:cg}{E:am->au->Prop}{s:au}
def vz{Q:am->au->Prop}(ht:iA s.heap t vs.toArray)(hb:iA s.heap b ws.toArray)(hv:vs≠[])
  (h1:ws=[]->Q (.ref t) s)(h2:ws≠[]->Q (.ref s.heap.objs.size) {s with heap:=s.heap.push {cls:=.type "tuple",data:=.seq (vs++ws).toArray}})
  (hsz:vs.length+ws.length<=aQ):aS (ba prog w) A (cV .Add (.ref t)<|.ref b) Q E s:=by
 obtain⟨⟨cls,dd,data,sl⟩,ho,hc,n,hd⟩:=id ht;obtain⟨⟨cls2,dd2,data2,sl2⟩,ho2,hc2,n2,hd2⟩:=id hb;simp only at hc hd hc2 hd2;subst hc hd hc2 hd2;have e:vs.toArray++ws.toArray=(vs++ws).toArray:=by simp
 by_cases hw:ws=[]
 .exact iI #[_,ho,rfl] #[_,ho2,rfl] fU g7 d4 dW (dM _ _)
   (tuple_addW1 t b vs.toArray ws.toArray n n2 dd dd2 sl sl2 (by simpa using hv)<|by simp[hw]) #[ho,ho2,h1 hw]
 .refine iI #[_,ho,rfl] #[_,ho2,rfl] fU g7 d4 dW (dM _ _)
   (tuple_addW2 t b vs.toArray ws.toArray n n2 dd dd2 sl sl2 (by simpa using hv) (by simpa using hw)<|by rw[aq,aq];exact hsz) #[ho,ho2,?_]
  rw[e];exact h2 hw
noncomputable def sIx(n d:Nat):Option Int->Nat
 |none=>d
 |some v=>if v<0 then(v+(n:Int)).toNat else ls v.toNat n
theorem qS(n d:Nat)(hd:d<=n)(o:Option Int):sIx n d o<=n:=by
 cases o with
 |none=>exact hd
 |some v=>
  show(if v<0 then(v+(n:Int)).toNat else ls v.toNat n)<=n
  by_cases hv:v<0
  .rw[T9 hv];lia
  .rw[T8 hv];exact i9 _ _
theorem G6(v:Int)(n d:Nat):(if v<0 then max (v+(n:Int)) 0 else ls v (n:Int))=((sIx n d (aa v):Nat):Int):=by
 show(if v<0 then max (v+(n:Int)) 0 else ls v (n:Int))=(((if v<0 then(v+(n:Int)).toNat else ls v.toNat n):Nat):Int)
 by_cases hv:v<0
 .simp only[T9 hv];lia
 .simp only[T8 hv];lia
theorem J0(lo hi:Option Int)(n:Nat):dF lo hi 1 (n:Int)=(((sIx n 0 lo:Nat):Int),((sIx n n hi:Nat):Int)):=by
 have h1:¬((1:Int)<0):=by lia
 unfold dF;simp only[h1,if_false];refine Prod.ext ?_ ?_
 .cases lo with|none=>rfl|some v=>exact G6 v n 0
 .cases hi with|none=>rfl|some v=>exact G6 v n n
theorem JU(i j:Nat):bH (i:Int) (j:Int) 1=j-i:=by
 unfold bH;have h1:(1:Int)>0:=by lia
 simp only[h1,if_true,Int.ediv_one];split<;>lia
def XV{Q:Option Int->au->Prop}(p:fg v o)(h:Q o s):aS (ba prog w) A (dR.Slice.slicePartIndex v) Q E s:=by
 cases p with|none=>exact fh h|int i t=>exact slicePart_int h
def YV{sl:aB}{vl vu:am}{lo hi:Option Int}{n:Nat}{Q:Int×Int×Nat->au->Prop}(hs:s.heap.IsSliceOf sl vl vu .none)(pl:fg vl lo)(pu:fg vu hi)
  (h:Q (((sIx n 0 lo:Nat):Int),1,sIx n n hi-sIx n 0 lo) s):aS (ba prog w) A (fj (.ref sl)<|cb (n:Int)) Q E s:=by
 obtain⟨os,hos,hcs,hds⟩:=id hs;refine af<|af<|bF hos hds rfl<|af<|bF hos hds rfl<|af<|bF hos hds rfl<|ay ?_;refine af<|fh ?_;show aS _ _ (if((1:Int) == 0)=ag then _ else _) _ _ s
 rw[T8 (by decide)]
 refine af<|XV pl<|af<|XV pu<|af<|ay ?_;show aS _ _ (match dF lo hi 1 (n:Int)with|(lo,hi)=>cb (lo,(1:Int),bH lo hi 1)) _ _ s
 rw[J0 lo hi n];show aS _ _ (cb (((sIx n 0 lo:Nat):Int),(1:Int),bH ((sIx n 0 lo:Nat):Int) ((sIx n n hi:Nat):Int) 1)) _ _ s;rw[JU];exact ay h
theorem wZ(xs:Array am)(i k:Nat):((aY k).filterMap λ(m:Nat)=>xs[((i:Int)+(m:Int)*1).toNat]?).toArray=((xs.toList.drop i).take k).toArray:=by
 have e:(λ(m:Nat)=>xs[((i:Int)+(m:Int)*1).toNat]?)=λm=>xs[i+m]?:=by
  funext m
  have:((i:Int)+(m:Int)*1).toNat=i+m:=by lia
  rw[this]
 rw[e];have:=pick_run xs i k;rw[ik]at this;have e2:((λx=>xs[x]?)∘λx=>i+x)=λm=>xs[i+m]?:=rfl
 rw[e2]at this;rw[this]
theorem X8{t sl:aB}{items:Array am}{vl vu:am}{lo hi:Option Int}{Q:am->au->Prop}(ht:iA s.heap t items)(hs:s.heap.IsSliceOf sl vl vu .none)(pl:fg vl lo)(pu:fg vu hi)
  (hw:¬(sIx items.size 0 lo=0/\sIx items.size items.size hi=items.size))
  (h:Q (.ref s.heap.objs.size) {s with heap:=s.heap.push {cls:=.type "tuple",data:=.seq ((items.toList.drop<|sIx items.size 0 lo).take<|sIx items.size items.size hi-sIx items.size 0 lo).toArray}})
  (hsz:items.size<=aQ):aS (ba prog w) A (fG (.ref t)<|.ref sl) Q E s:=by
 have htake:sizeOk (.seq ((items.toList.drop<|sIx items.size 0 lo).take<|sIx items.size items.size hi-sIx items.size 0 lo).toArray):=by
  show((items.toList.drop<|sIx items.size 0 lo).take<|sIx items.size items.size hi-sIx items.size 0 lo).toArray.size<=aQ;rw[aq,bC,bV,dH];lia
 have hj:sIx items.size items.size hi<=items.size:=qS _ _ (aD _) hi;obtain⟨os,hos,hcs,hds⟩:=id hs;have hTs:s.TypeIs (.ref sl) "slice":=#[os,hos,hcs];unfold fG
 try with_reducible refine bS ?_
 first|refine af<|ay ?_|skip
 refine af<|fH ht.typeIs (by decide) ?_
 refine af (bQ ht.typeIs bz
  (cH bz ht.typeIs eS ?_<|fk _ _))
 show aS _ _ (dz (.ref t) >>= _) _ _ s;refine af<|g8 ht ?_;refine af<|dD hTs ?_;rw[T9 (by decide)]
 refine af<|YV hs pl pu ?_;have hno:¬((((sIx items.size 0 lo:Nat):Int) == 0&&(1:Int) == 1&&(sIx items.size items.size hi-sIx items.size 0 lo) == items.size)=ag):=by
  intro q;rw[ax,ax]at q;have q1:=cn q.1.1;have q2:=cn q.2;exact hw #[by lia,by lia]
 show aS _ _ (if(((sIx items.size 0 lo:Nat):Int) == 0&&(1:Int) == 1&&(sIx items.size items.size hi-sIx items.size 0 lo) == items.size)=ag then _ else _) _ _ s
 rw[T8 hno,wZ]
 first
  |exact af<|bo (ay #[_,rfl,ay h]) htake
  |exact af<|bo (af<|ay<|ay #[_,rfl,ay h]) htake
  |exact af<|af<|bo (ay<|ay #[_,rfl,ay h]) htake
  |exact af<|af (m:=dR.Tuple.tupleExact _)<|bo (ay #[_,rfl,ay h]) htake
end
end HT
namespace L2
open PySem PySem.Spec PyProof.Rows
abbrev TO:=St->Hp->(Option Int->Hp->Prop)->Prop
def PO(X:Cx)(e:Option Expr)(t:TO):Prop:=
 ∀(pq:List (aB×dJ))(s:au)(U:St)(H:Hp)(Q:Option Int->Hp->Prop),Inv X pq U H s->t U H Q->
  aS (ba X.prog X.w) X.A (evalPart e X.env) (λu s'=>∃o H',Inv X pq U H' s'/\fg u o/\Q o H') X.xe s
def uc:TO:=λ_ H Q=>Q ab H
def ZaS(t:TE):TO:=λU H Q=>t U H λx H1=>∃i,x=.int i/\Q (aa i) H1
section
variable{X:Cx}{e:Expr}{te:TE}{lo hi:Option Expr}{tl th:TO}{pos p2:fA}
def qj:PO X ab uc:=by
 intro pq s U H Q I h;rw[g9];exact ay #[ab,H,I,.none,h]
def ZV(h:PE X e te):PO X (aa e) (ZaS te):=by
 intro pq s U H Q I hw;rw[evalPart_some];refine thn (h pq s U H _ I hw) λu s1 #[x,H1,I1,r1,q1]=>?_
 obtain⟨i,rfl,q⟩:=q1;obtain⟨t,rfl⟩:=r1;exact#[aa i,H1,I1,.int i t,q]
def SlR(X:Cx)(r:V->Option Int->Option Int->Hp->VK->Prop):Prop:=
 ∀(pq:List (aB×dJ))(s:au)(U:St)(H:Hp)(x:V)(v vl vu:am)(lo hi:Option Int)(sl:aB)(Q:VK),Inv X pq U H s->ZA x v->s.heap.IsSliceOf sl vl vu .none->fg vl lo->fg vu hi->r x lo hi H Q->
  ∃T id,kO (.type T) "__getitem__" = cb (aa<|.builtin id)/\s.TypeIs v T/\aS (ba X.prog X.w) X.A (fG v<|.ref sl) (EP X pq U Q) X.xe s
def SlR.or{r r':V->Option Int->Option Int->Hp->VK->Prop}(h:SlR X r)(h':SlR X r'):SlR X (λx lo hi H Q=>r x lo hi H Q\/r' x lo hi H Q):=by
 intro pq s U H x v vl vu lo hi sl Q I rx hs pl pu q;rcases q with q|q
 .exact h pq s U H x v vl vu lo hi sl Q I rx hs pl pu q
 .exact h' pq s U H x v vl vu lo hi sl Q I rx hs pl pu q
def tSl(r:V->Option Int->Option Int->Hp->VK->Prop)(te:TE)(tl th:TO):TE:=λU H Q=>te U H λx H1=>tl U H1 λl H2=>th U H2 λu H3=>r x l u H3 Q
def vp{r:V->Option Int->Option Int->Hp->VK->Prop}(hr:SlR X r)(he:PE X e te)(hl:PO X lo tl)(hu:PO X hi th):PE X (.Subscript e (.Slice lo hi ab p2) pos) (tSl r te tl th):=by
 intro pq s U H Q I h;refine kP<|thn (he pq s U H _ I h) λv s1 #[x,H1,I1,r1,q1]=>?_
 refine wpAny_Slice<|thn (hl pq s1 U H1 _ I1 q1) λvl s2 #[l,H2,I2,pl,q2]=>thn (hu pq s2 U H2 _ I2 q2) λvu s3 #[u,H3,I3,pu,q3]=>?_
 rw[g9];refine ay ?_;have I4:Inv X pq U H3 {s3 with heap:=s3.heap.push {cls:=.type "slice",data:=.fields [vl,vu,.none].toArray}}:=I3.kept (t':=s3.toks) λb ob q=>ap _ q
 obtain⟨T,id,hT,ht,hg⟩:=hr pq {s3 with heap:=s3.heap.push {cls:=.type "slice",data:=.fields [vl,vu,.none].toArray}} U H3 x v vl vu l u s3.heap.objs.size Q I4 r1 (im ..) pl pu q3
 exact tail_any ht hT hg (by with_unfolding_all rfl)
noncomputable def ZW(xs:List V)(lo hi:Option Int):List V:=(xs.drop<|HT.sIx xs.length 0 lo).take<|HT.sIx xs.length xs.length hi-HT.sIx xs.length 0 lo
theorem WO(xs:List V)(lo hi:Option Int):(ZW xs lo hi).length<=xs.length:=by
 unfold ZW;rw[bC,bV];lia
def Zb3(K:aj):V->Option Int->Option Int->Hp->VK->Prop:=λx lo hi H Q=>∃a xs,x=.ref a/\SqT K H a xs/\
 ¬(HT.sIx xs.length 0 lo=0/\HT.sIx xs.length xs.length hi=xs.length)/\∀p,H p=ab->Q (.ref p) (upd H p<|.tup<|ZW xs lo hi)
def qX:SlR X (Zb3 X.K):=by
 intro pq s U H x v vl vu lo hi sl Q I rx hs pl pu h;obtain⟨a,xs,rfl,hx,hw,q⟩:=h;cases rx;obtain⟨its,r,ht,hz⟩:=I.tuple hx;have hlen:its.toArray.size=xs.length:=by rw[aq];exact r.length.symm
 refine#["tuple",_,bz.lookup,ht.typeIs,?_];refine HT.X8 ht hs pl pu (by rw[hlen];exact hw) ?_ (by rw[hlen];exact hz)
 rw[hlen];refine#[.ref s.heap.objs.size,_,I.laid (t':=s.toks) (λb ob q=>ap _ q) (aD _) ?_,rfl,q _<|I.hok.fresh<|aD _]
 exact#[bx (WO xs lo hi) hz,_,(r.drop<|HT.sIx xs.length 0 lo).take<|HT.sIx xs.length xs.length hi-HT.sIx xs.length 0 lo,ej _ _]
def qF(K:aj):R2:=λx y H Q=>∃a b xs ys,x=.ref a/\y=.ref b/\SqT K H a xs/\SqT K H b ys/\xs≠[]/\xs.length+ys.length<=aQ/\
 (ys=[]->Q (.ref a) H)/\(ys≠[]->∀p,H p=ab->Q (.ref p) (upd H p<|.tup<|xs++ys))
def Vals.nil_iff(r:Vals xs us):us=[]↔xs=[]:=by
 cases r with|nil=>simp|cons _ _=>simp
def um:OpR X (cV .Add) (qF X.K):=by
 intro pq s U H x y v u Q I rx ry h;obtain⟨a,b,xs,ys,rfl,rfl,ha,hb,hx,hz,q1,q2⟩:=h;cases rx;cases ry;obtain⟨its,r1,p1,_⟩:=I.tuple ha;obtain⟨its2,r2,p2,_⟩:=I.tuple hb;refine HT.vz p1 p2 (λz=>hx<|r1.nil_iff.mp z) (λz=>#[.ref a,H,I,rfl,q1<|r2.nil_iff.mp z]) (λz=>?_) (by rw[<-r1.length,<-r2.length];exact hz)
 refine#[.ref s.heap.objs.size,_,I.laid (t':=s.toks) (λb ob q=>ap _ q) (aD _) ?_,rfl,q2 (λw=>z<|r2.nil_iff.mpr w) _<|I.hok.fresh<|aD _]
 exact#[by rw[aP];exact hz,_,r1.append r2,ej _ _]
end
noncomputable def ixN(n:Nat)(i:Int):Option Nat:=if 0<=i then(if i<n then aa i.toNat else ab)else if -(n:Int)<=i then aa (i+n).toNat else ab
noncomputable def atI{m:Type}(xs:List m)(i:Int):Option m:=(ixN xs.length i).bind λj=>xs[j]?
def GW(h:ixN n i=aa j):seqIndex? i n=aa j/\j<n/\-(n:Int)<=i/\i<n:=by
 unfold ixN at h;by_cases h0:0<=i
 .rw[T9 h0]at h
  by_cases h1:i<n
  .rw[T9 h1]at h
   have e:=ah h;exact#[by rw[kA h0 h1,e],by lia,by lia,h1]
  .rw[T8 h1]at h;cases h
 .rw[T8 h0]at h
  by_cases h1:-(n:Int)<=i
  .rw[T9 h1]at h
   have e:=ah h;exact#[by rw[iJ (by lia) h1,e],by lia,h1,by lia]
  .rw[T8 h1]at h;cases h
def zr{m:Type}{xs:List m}{i:Int}{v:m}(h:atI xs i=aa v):∃j,seqIndex? i xs.length=aa j/\xs[j]?=aa v/\j<xs.length/\-(xs.length:Int)<=i/\i<xs.length:=by
 unfold atI at h;cases e:ixN xs.length i with
 |none=>rw[e]at h;cases h
 |some j=>
  rw[e]at h;obtain⟨h1,h2,h3,h4⟩:=GW e;exact#[j,h1,h,h2,h3,h4]
def zw(b:Expr):Prop:=∀o i,subscripted b ai o i=operate [o,i] (fG o i)
def IxR(X:Cx)(r:R2):Prop:=
 ∀(value slice:Expr)(pq:List (aB×dJ))(s:au)(U:St)(H:Hp)(x y:V)(v u:am)(Q:VK),Inv X pq U H s->ZA x v->ZA y u->r x y H Q->
  subscripted slice ai v u=operate [v,u] (fG v u)->aS (ba X.prog X.w) X.A (subscriptTail value slice v u) (EP X pq U Q) X.xe s
def MtR(X:Cx)(id:String)(r:V->List V->Hp->VK->Prop):Prop:=
 ∀(pq:List (aB×dJ))(s:au)(U:St)(H:Hp)(x:V)(xs:List V)(v:am)(us:List am)(Q:VK),Inv X pq U H s->ZA x v->Vals xs us->r x xs H Q->
  aS (ba X.prog X.w) X.A (call (.builtin id) (v::us)) (EP X pq U Q) X.xe s
section
variable{X:Cx}{a b:Expr}{ta tb:TE}{pos:fA}
def IxR.or(h:IxR X r)(h':IxR X r'):IxR X (λx y H Q=>r x y H Q\/r' x y H Q):=by
 intro value slice pq s U H x y v u Q I rx ry q hs;rcases q with q|q
 .exact h value slice pq s U H x y v u Q I rx ry q hs
 .exact h' value slice pq s U H x y v u Q I rx ry q hs
def ve(hr:IxR X r)(ha:PE X a ta)(hb:PE X b tb)(hs:zw b):PE X (.Subscript a b pos) (tOp r ta tb):=by
 intro pq s U H Q I h;exact kP<|Zaz ha hb I h λv u s2 x y H2 I2 rx ry q=>hr a b pq s2 U H2 x y v u Q I2 rx ry q<|hs _ _
def Zca(K:aj):R2:=λx y H Q=>∃p xs i v,x=.ref p/\y=.int i/\SqL K H p xs/\atI xs i=aa v/\Q v H
def Zcd(K:aj):R2:=λx y H Q=>∃p xs i v,x=.ref p/\y=.int i/\SqT K H p xs/\atI xs i=aa v/\Q v H
theorem Qa:IxR X (Zca X.K):=by
 intro value slice pq s U H x y v u Q I rx ry h hs;obtain⟨p,xs,i,z,rfl,rfl,hq,he,q⟩:=h;cases rx;obtain⟨t,rfl⟩:=ry;obtain⟨its,r,pl,hz⟩:=I.list hq;obtain⟨j,h1,h2,h3,h4,h5⟩:=zr he;obtain⟨w,ew,rw'⟩:=r.get h2;have hl:=r.length;have hn:=Vf;have fin:EP X pq U Q w s:=#[z,H,I,rw',q];by_cases h0:0<=i
 .have hj:i.toNat=j:=by
   rw[kA h0 h5]at h1;exact ah h1
  exact item_listR pl.isList h0 (by lia) (by rw[hj];simpa using ew) fin hs
 .have hj:(i+(its.toArray.size:Int)).toNat=j:=by
   rw[iJ (by lia) h4]at h1
   rw[aq,<-hl];exact ah h1
  exact gf pl.isList.typeIs slot_list_getitem.lookup
   (wpAny_getItem_list_neg pl.isList (by lia) (by rw[aq]<;>lia) (by lia) (by rw[hj];simpa using ew) #[rfl,fin]) hs
theorem Zab:IxR X (Zcd X.K):=by
 intro value slice pq s U H x y v u Q I rx ry h hs;obtain⟨p,xs,i,z,rfl,rfl,hq,he,q⟩:=h;cases rx;obtain⟨t,rfl⟩:=ry;obtain⟨its,r,pl,hz⟩:=I.tuple hq;obtain⟨j,h1,h2,h3,h4,h5⟩:=zr he;obtain⟨w,ew,rw'⟩:=r.get h2;have hl:=r.length;have hn:=Vf;have fin:EP X pq U Q w s:=#[z,H,I,rw',q];exact gf pl.typeIs slot_tuple_getitem.lookup
  (getItem_tuple pl (by lia) (by lia) (by rw[aq,<-hl];exact h1) (by simpa using ew) #[rfl,fin]) hs
def Gd(its:List am)(n j:Nat)(u:am):io (·.setIfInBounds j u) {cls:=.type "list",data:=.seq its.toArray n}={cls:=.type "list",data:=.seq (its.set j u).toArray n}:=by
 simp[io]
theorem Inv.lst{pq:List (aB×dJ)}{U:St}{H:Hp}{s:au}{p:aB}{xs:List V}(I:Inv X pq U H s)(h:H p=aa (.lst xs)) :
  ∃(its:List am)(n:Nat),Vals xs its/\s.heap.get? p=aa {cls:=.type "list",data:=.seq its.toArray n}/\xs.length<=aQ:=by
 obtain⟨z,its,n,r,e⟩:=I.hok p _ h;exact#[its,n,r,e,z]
def Inv.lstUpd{pq:List (aB×dJ)}{U:St}{H:Hp}{s:au}{p:aB}{xs ys:List V}{its its':List am}{n n':Nat}{f:dJ->dJ}(I:Inv X pq U H s)(h:H p=aa (.lst xs))
  (ho:s.heap.get? p=aa {cls:=.type "list",data:=.seq its.toArray n})(hf:f {cls:=.type "list",data:=.seq its.toArray n}={cls:=.type "list",data:=.seq its'.toArray n' })(r:Vals ys its')(hz:ys.length<=aQ)(t:Nat) :
  Inv X pq U (upd H p<|.lst ys) {s with heap:=s.heap.update p f,toks:=t}:=by
 have e:(s.heap.update p f).get? p=aa {cls:=.type "list",data:=.seq its'.toArray n' }:=by
  rw[ee f ho (by rw[hf]<;>rfl),hf]
 refine I.write (by rw[h];trivial) (.inl rfl) (λb u hb q=>(gg _ _<|Ne.symm hb).trans q) #[_,e] ?_
 exact#[hz,its',n',r,e]
def ZbG:V->V->V->Hp->(Hp->Prop)->Prop:=λo i v H Q=>∃p xs k j,o=.ref p/\i=.int k/\H p=aa (.lst xs)/\ixN xs.length k=aa j/\Q (upd H p<|.lst<|xs.set j v)
theorem VD:PSet X ZbG:=by
 intro pq s U H o i v ov iv u Q I ro ri rv h;obtain⟨p,xs,k,j,rfl,rfl,hp,hj,q⟩:=h;cases ro;obtain⟨t,rfl⟩:=ri;obtain⟨its,n,r,ho,hz⟩:=I.lst hp;obtain⟨h1,h2,h3,h4⟩:=GW hj;have hl:=r.length;have hn:=Vf;have I':=
  I.lstUpd hp ho (Gd its n j u) (r.set rv j) (by rw[bg];exact hz) s.toks
 by_cases h0:0<=k
 .have hk:k.toNat=j:=by
   rw[kA h0 h4]at h1;exact ah h1
  exact PySem.W.ki_setAt ho h0 (by lia) (by rw[aq,<-hl];exact h4) (by rw[hk];exact#[_,I',q])
 .have hk:(k+(its.toArray.size:Int)).toNat=j:=by
   rw[iJ (by lia) h3]at h1
   rw[aq,<-hl];exact ah h1
  exact PySem.W.ki_setBack ho (by lia) (by rw[aq,<-hl];exact h3) (by lia) (by rw[hk];exact#[_,I',q])
theorem UN(lo hi:Option Int)(n:Nat):(dX lo hi ab n).1=((HT.sIx n 0 lo:Nat):Int)/\(dX lo hi ab n).2.1=((HT.sIx n n hi:Nat):Int)/\(dX lo hi ab n).2.2=1:=by
 refine#[?_,?_,rfl]
 .cases lo with
  |none=>simp[dX,HT.sIx]
  |some i=>
   simp only[dX,HT.sIx,ka,show(1:Int)>0 by decide,if_true]
   by_cases h:i<0
   .simp only[h,if_true]<;>lia
   .simp only[h,if_false]<;>lia
 .cases hi with
  |none=>simp[dX,HT.sIx]
  |some i=>
   simp only[dX,HT.sIx,ka,show(1:Int)>0 by decide,if_true]
   by_cases h:i<0
   .simp only[h,if_true]<;>lia
   .simp only[h,if_false]<;>lia
def VT(its:List am)(lo hi:Option Int):slicePick its.toArray lo hi ab=((its.drop<|HT.sIx its.length 0 lo).take<|HT.sIx its.length its.length hi-HT.sIx its.length 0 lo).toArray:=by
 obtain⟨h1,h2,h3⟩:=UN lo hi its.toArray.size;unfold slicePick;rw[h1,h2,h3];simp only[sliceRange_one,pick_run,aq]<;>rfl
def Zb8(K:aj):V->Option Int->Option Int->Hp->VK->Prop:=λx lo hi H Q=>∃a xs,x=.ref a/\SqL K H a xs/\∀p,H p=ab->Q (.ref p) (upd H p<|.lst<|ZW xs lo hi)
theorem vy:SlR X (Zb8 X.K):=by
 intro pq s U H x v vl vu lo hi sl Q I rx hs pl pu h;obtain⟨a,xs,rfl,hx,q⟩:=h;cases rx;obtain⟨its,r,ht,hz⟩:=I.list hx;have hlen:=r.length;refine#["list",_,slot_list_getitem.lookup,ht.isList.typeIs,?_];refine wpAny_getItem_list_slice ht.isList hs pl pu .none (by simp) ?_ (by rw[aq]<;>lia)
 rw[VT,<-hlen];refine#[.ref s.heap.objs.size,_,I.laid (t':=s.toks) (λb ob q=>ap _ q) (aD _) ?_,rfl,q _<|I.hok.fresh<|aD _]
 exact#[bx (WO xs lo hi) hz,_,0,(r.drop<|HT.sIx xs.length 0 lo).take<|HT.sIx xs.length xs.length hi-HT.sIx xs.length 0 lo,aH _ rfl]
noncomputable def GT:V->Bool
 |.non=>ag
 |.bl _=>ag
 |.int _=>ag
 |.str _=>ag
 |_=>ai
noncomputable def eqV:V->V->Bool
 |.non,.non=>ag
 |.bl a,.bl b=>a == b
 |.bl a,.int b=>(if a then 1 else 0) == b
 |.int a,.bl b=>a == (if b then 1 else 0)
 |.int a,.int b=>a == b
 |.str a,.str b=>a == b
 |_,_=>ai
def Zaa{A:cg}{s:au}{y x:V}{u v:am}(ry:ZA y u)(rx:ZA x v)(fy:GT y=ag)(fx:GT x=ag):ek A s u v (eqV y x):=by
 cases y with
 |non=>
  cases ry;cases x with|non=>cases rx;exact eK _|bl b=>cases rx;exact ek.none_bool b|int b=>obtain⟨t,rfl⟩:=rx;exact ek.none_int b t|str b=>obtain⟨t,rfl⟩:=rx;exact ek.none_str b t|_=>exact T7 (fx) aF
 |bl a=>
  cases ry;cases x with|non=>cases rx;exact ek.bool_none a|bl b=>cases rx;exact ek.bool_bool a b|int b=>obtain⟨t,rfl⟩:=rx;exact ek.bool_int a b t|str b=>obtain⟨t,rfl⟩:=rx;exact ek.bool_str a b t|_=>exact T7 (fx) aF
 |int a=>
  obtain⟨t',rfl⟩:=ry;cases x with|non=>cases rx;exact ek.int_none a t'|bl b=>cases rx;exact ek.int_bool a t' b|int b=>obtain⟨t,rfl⟩:=rx;exact ip a t' b t|str b=>obtain⟨t,rfl⟩:=rx;exact hZ a t' b t|_=>exact T7 (fx) aF
 |str a=>
  obtain⟨t',rfl⟩:=ry;cases x with|non=>cases rx;exact ek.str_none a t'|bl b=>cases rx;exact ek.str_bool a t' b|int b=>obtain⟨t,rfl⟩:=rx;exact h9 a t' b t|str b=>obtain⟨t,rfl⟩:=rx;exact ek.str_str a t' b t|_=>exact T7 (fx) aF
 |_=>exact T7 (fy) aF
theorem Qt:ZL X (.builtin "len") (λxs H Q=>∃p ys,xs=[.ref p]/\(SqL X.K H p ys\/SqT X.K H p ys)/\Q (.int ys.length) H):=by
 intro pq s U H xs us Q I r h;obtain⟨p,ys,rfl,hq,q⟩:=h;obtain⟨u,rfl,rx⟩:=Vr r;cases rx;have hn:=Vf;rcases hq with hq|hq
 .obtain⟨its,r',pl,hz⟩:=I.list hq
  have hlen:=r'.length;exact Calls.call_len_list pl.isList (by simp only[aq]<;>lia) #[.int ys.length,H,I.tok _,#[s.toks+1,by rw[aq,hlen]],q]
 .obtain⟨its,r',pl,hz⟩:=I.tuple hq
  have hlen:=r'.length;exact len_tuple pl (by simp only[aq]<;>lia) #[.int ys.length,H,I.tok _,#[s.toks+1,by rw[aq,hlen]],q]
theorem Ql:ZL X (.type "list") (λxs H Q=>∃p ys,xs=[.ref p]/\(SqL X.K H p ys\/SqT X.K H p ys)/\∀l,H l=ab->Q (.ref l) (upd H l<|.lst ys)):=by
 intro pq s U H xs us Q I r h;obtain⟨p,ys,rfl,hq,q⟩:=h;obtain⟨u,rfl,rx⟩:=Vr r;cases rx;have fin:∀(its:List am),Vals ys its->ys.length<=aQ->∀(h':bJ)(c':Nat),(∀b o',s.heap.get? b=aa o'->h'.get? b=aa o')->
   h'.get? s.heap.objs.size=aa {cls:=.type "list",dict:=ab,data:=.seq its.toArray c',slots:=#[]}->EP X pq U Q (.ref s.heap.objs.size) {s with heap:=h' }:=λits r' hz h' c' kp e=>
  #[.ref s.heap.objs.size,_,I.laid (t':=s.toks) kp (aD _) (show Z5 X.prog X.w _ h' _ (.lst ys)from#[hz,its,c',r',e]),rfl,q _<|I.hok.fresh<|aD _]
 rcases hq with hq|hq
 .obtain⟨its,r',pl,hz⟩:=I.list hq
  have hlen:=r'.length;obtain⟨o,ho,hc,n,hd⟩:=pl.isList;exact call_list_seq p (.inl rfl) ho hc hd (λh' c' kp e=>fin its r' hz h' c' kp e) (by simp only[aq]<;>lia)
 .obtain⟨its,r',pl,hz⟩:=I.tuple hq
  have hlen:=r'.length;obtain⟨o,ho,hc,n,hd⟩:=pl;exact call_list_seq p (.inr rfl) ho hc hd (λh' c' kp e=>fin its r' hz h' c' kp e) (by simp only[aq]<;>lia)
theorem VW:ZL X (.type "tuple") (λxs H Q=>∃p ys,xs=[.ref p]/\((SqL X.K H p ys/\∀l,H l=ab->Q (.ref l) (upd H l<|.tup ys))\/(SqT X.K H p ys/\Q (.ref p) H))):=by
 intro pq s U H xs us Q I r h;obtain⟨p,ys,rfl,h⟩:=h;obtain⟨u,rfl,rx⟩:=Vr r;cases rx;rcases h with⟨hq,q⟩|⟨hq,q⟩
 .obtain⟨its,r',pl,hz⟩:=I.list hq
  have hlen:=r'.length;refine call_tuple_list pl.isList (λh' kp=>?_) (by simp only[aq]<;>lia)
  have I1:=I.kept (t':=s.toks) kp
  have I2:=
   I1.laid (t':=s.toks) (λb o e=>ap _ e) (aD _) (show Z5 X.prog X.w _ _ _ (.tup ys)from#[hz,its,r',ej _ _])
  exact#[.ref h'.objs.size,_,I2,rfl,q _<|I1.hok.fresh<|aD _]
 .obtain⟨its,r',pl,hz⟩:=I.tuple hq
  exact call_tuple_same pl #[.ref p,H,I,rfl,q]
def tyV(K:aj)(T:String)(x:V)(H:Hp):Prop:=match x with
 |.str _=>T = "str"
 |.int _=>T = "int"
 |.ref p=>(T = "list"/\∃xs,SqL K H p xs)\/(T = "tuple"/\∃o,K.lookup p=aa o/\o.cls=.type "tuple"/\o.dict=ab)\/
   (T = "dict"/\((∃kvs,H p=aa (.dK kvs))\/∃kvs,H p=aa (.dT kvs)))\/(T = "set"/\∃S n,H p=aa (.set S n))
 |_=>False
def jc(I:Inv X pq U H s)(r:ZA x v)(ty:tyV X.K T x H) :
  s.TypeIs v T/\∀a,v=.ref a->∃ob,s.heap.get? a=aa ob/\ob.dict=ab:=by
 cases x with
 |str z=>
  obtain⟨t,rfl⟩:=r;cases(ty)
  exact#[typeIs_str s z t,λ_ e=>nomatch e]
 |int i=>
  obtain⟨t,rfl⟩:=r;cases(ty)
  exact#[gh s i t,λ_ e=>nomatch e]
 |ref p=>
  cases r;rcases ty with⟨rfl,xs,hq⟩|⟨rfl,o,hk,hc,hd⟩|⟨rfl,hk⟩|⟨rfl,S,n,hk⟩
  .obtain⟨its,_,pl,_⟩:=I.list hq
   refine#[pl.isList.typeIs,λa e=>?_]
   cases e;obtain⟨o,n,e,c,hd,_⟩:=pl;exact#[o,e,hd]
  .refine#[#[o,I.kIn p o hk,hc],λa e=>?_]
   cases e;exact#[o,I.kIn _ o hk,hd]
  .have z:∃o,s.heap.get? p=aa o/\o.ExactDict:=by
    rcases hk with⟨kvs,hk⟩|⟨kvs,hk⟩
    .obtain⟨_,_,_,_,o,_,_,e,ex,_⟩:=I.hok p _ hk
     exact#[o,e,ex]
    .obtain⟨_,_,_,_,o,_,_,e,ex,_⟩:=I.hok p _ hk
     exact#[o,e,ex]
   obtain⟨o,e,ex⟩:=z;refine#[#[o,e,ex.1],λa e2=>?_]
   cases e2;exact#[o,e,ex.2.1]
  .obtain⟨o,_,_,_,e,ex,_⟩:=I.hok p _ hk
   refine#[#[o,e,ex.1],λa e2=>?_]
   cases e2;exact#[o,e,ex.2.1]
 |_=>exact False.elim ty
def tBM(K:aj)(T:String)(r:V->List V->Hp->VK->Prop)(to:TE)(t:TA):TE:=λU H Q=>to U H λx H1=>tyV K T x H1/\t U H1 λxs H2=>r x xs H2 Q
variable{o e:Expr}{es:List Expr}{to:TE}{t:TA}{name:bc}{apos cpos:fA}{T id:String}{r:V->List V->Hp->VK->Prop}
def qA(pa:PlainAttrs T)(slot:Slot T name id)(hty:typeOf (.builtin id)=cb (.type "method_descriptor"))(hm:MtR X id r)(ho:PE X o to)(ha:PA X (e::es) t)
  (hbase:hG o name X.env (b9 o X.env)=b9 o X.env:=by rfl)
  (hfew:((du cpos<|aE (e::es) X.env).all (λx=>!x.1)&&(backToKw cpos<|kB [] X.env).all (λx=>x.1.isSome)
   && ae ((e::es).length+([]:List iK).length+(if([]:List iK).isEmpty then 0 else 1)<30))=ag:=by rfl)
  (hline:(apos.endLine == cpos.line)=ag:=by rfl)(hs:aE (e::es) X.env=(ai,b9 e X.env)::aE es X.env:=by rfl)(hplain:(du cpos<|aE es X.env).any (·.1)=ai:=by rfl) :
  PE X (.Call (.Attribute o name apos) (e::es) [] cpos) (tBM X.K T r to t):=by
 intro pq s U H Q I h;refine wpAny_Call_method_late hbase hfew hline rfl<|thn (ho pq s U H _ I h) λv s1 #[x,H1,I1,r1,ty,q1]=>?_
 obtain⟨h1,h2⟩:=jc I1 r1 ty;refine#[T,id,pa,slot,hty,h1,h2,?_];have hA:=ha cpos pq s1 U H1 _ I1 q1;rw[hs]at hA ⊢;refine Calls.callWith_builtin (by show(ai||(du cpos<|aE es X.env).any (·.1))=ai;rw[hplain]<;>rfl)<|Calls.evalArgs_plain ?_
 exact thn hA<|by rintro us s2 ⟨vs,H2,I2,r2,q2⟩;exact hm pq s2 U H2 x vs v us Q I2 r1 r2 q2
end
def MtM(X:Cx)(id:String)(r:V->List V->Hp->VK->Prop):Prop:=
 ∀(pq:List (aB×dJ))(s:au)(U:St)(H:Hp)(x:V)(xs:List V)(v:am)(us:List am)(Q:VK),Inv X pq U H s->ZA x v->Vals xs us->r x xs H Q->
  aS (ba X.prog X.w) X.A (call (.builtin id) (v::us)) (EP X pq U Q) X.xe s
def Vals.one:∀{x:V}{us:List am},Vals [x] us->∃u,us=[u]/\ZA x u
 |_,_,.cons r .nil=>#[_,rfl,r]
theorem Vals.reverse(h:Vals xs us):Vals xs.reverse us.reverse:=by
 induction h with|nil=>exact .nil|cons r t ih=>rw[d5,d5];exact Vals.append ih<|.cons r .nil
theorem Vals.rep(h:Vals xs us):∀k:Nat,Vals (aA k xs).flatten (aA k us).flatten
 |0=>.nil
 |k+1=>by
  rw[bq,bq,bN,bN];exact Vals.append h<|Vals.rep h k
theorem Wp(its:List am):∀(k:Nat)(acc:List am),
  List.foldl (λx1 x2=>x1++x2) acc.toArray (aA k its.toArray)=(acc++(aA k its).flatten).toArray
 |0,acc=>by simp
 |k+1,acc=>by
  have e:acc.toArray++its.toArray=(acc++its).toArray:=by simp
  have e2:(acc++its)++(aA k its).flatten=acc++(aA (k+1) its).flatten:=by
   rw[bq,bN,fI]
  rw[<-e2,<-Wp its k (acc++its),<-e,bq,gr]
section
variable{X:Cx}{pq:List (aB×dJ)}{U:St}{H:Hp}{s:au}{l b:aB}{xs ys zs:List V}
def Inv.lset{its its':List am}{n:Nat}{f:Array am->Array am}{t':Nat}(I:Inv X pq U H s)(hH:H l=aa (.lst xs))
  (e:s.heap.get? l=aa {cls:=.type "list",data:=.seq its.toArray n})(hf:f its.toArray=its'.toArray)(hv:Vals ys its')(hz:ys.length<=aQ) :
  Inv X pq U (upd H l<|.lst ys) {s with heap:=s.heap.update l<|io f,toks:=t' }:=by
 have q:=PySem.IsL.update e f;rw[hf]at q;refine I.write (by rw[hH];exact trivial) (.inl rfl) (λb' u hb hu=>(gg s.heap (io f)<|Ne.symm hb).trans hu) #[_,q] ?_
 exact#[hz,its',_,hv,q]
def Inv.lnew(I:Inv X pq U H s)(hv:Vals ys its)(hz:ys.length<=aQ) :
  Inv X pq U (upd H s.heap.objs.size<|.lst ys) {s with heap:=s.heap.push {cls:=.type "list",data:=.seq its.toArray},toks:=t' }:=
 I.laid (λ_ _ q=>ap _ q) (aD _) #[hz,its,0,hv,aH _ rfl]
theorem Inv.fresh(I:Inv X pq U H s):H s.heap.objs.size=ab:=I.hok.fresh<|aD _
def Inv.lstM(I:Inv X pq U H s)(hH:H l=aa (.lst xs)):xs.length<=aQ/\∃(its:List am)(n:Nat),Vals xs its/\xs.length=its.length/\s.heap.get? l=aa {cls:=.type "list",data:=.seq its.toArray n}:=by
 obtain⟨z,its,n,r,e⟩:=I.hok l _ hH;exact#[z,its,n,r,r.length,e]
theorem xk(h:n<=aQ):dN n=ai:=by
 exact T4 (by lia)
end
section
variable{X:Cx}
def qg:V->List V->Hp->VK->Prop:=λx vs H Q=>∃l xs y,x=.ref l/\vs=[y]/\H l=aa (.lst xs)/\xs.length<aQ/\Q .non (upd H l<|.lst<|xs++[y])
theorem Ur:MtM X "list.append" qg:=by
 intro pq s U H x vs v us Q I rx rv h;obtain⟨l,xs,y,rfl,rfl,hH,hz,q⟩:=h;cases rx;obtain⟨u,rfl,ru⟩:=rv.one;obtain⟨z,its,n,r,hl,e⟩:=I.lstM hH;refine dS F.slot_list_append #[_,e,rfl] F.entry_list_append (F.args_list_append_2 _ _) (PySem.list_append l its.toArray n u<|by rw[aq];lia) #[e,?_]
 refine#[.non,_,I.lset (its':=its++[u]) hH e (by simp) (r.append<|.cons ru .nil) ?_,rfl,q]
 rw[aP,dj];lia
def uI:V->List V->Hp->VK->Prop:=λx vs H Q=>∃l b xs zs,x=.ref l/\vs=[.ref b]/\H l=aa (.lst xs)/\H b=aa (.lst zs)/\xs.length+zs.length<=aQ/\Q .non (upd H l<|.lst<|xs++zs)
theorem zI:MtM X "list.extend" uI:=by
 intro pq s U H x vs v us Q I rx rv h;obtain⟨l,b,xs,zs,rfl,rfl,hH,hB,hz,q⟩:=h;cases rx;obtain⟨u,rfl,ru⟩:=rv.one;cases ru;obtain⟨z,its,n,r,hl,e⟩:=I.lstM hH;obtain⟨z2,its2,n2,r2,hl2,e2⟩:=I.lstM hB;have hsz:its.toArray.size+its2.toArray.size<=aQ:=by rw[aq,aq];lia
 have hlong:¬(!its.toArray.isEmpty&&dN (its.toArray.size+its2.toArray.size))=ag:=by
  rw[xk hsz,kQ];exact aF
 refine dS F.slot_list_extend #[_,e,rfl] F.entry_list_extend (F.args_list_extend_2 _ _)
  (AutoSeq1.list_extend_list_list_0 l its.toArray n b its2.toArray n2 hlong (by rw[aq];lia)<|by lia) #[e,e2,?_]
 refine#[.non,_,I.lset (its':=its++its2) hH e (by simp) (r.append r2) ?_,rfl,q]
 rw[aP];lia
def Za5:R2:=λx y H Q=>∃l b xs zs,x=.ref l/\y=.ref b/\H l=aa (.lst xs)/\H b=aa (.lst zs)/\xs.length+zs.length<=aQ/\∀p,H p=ab->Q (.ref p) (upd H p<|.lst<|xs++zs)
theorem Zak:OpR X (cV .Add) Za5:=by
 intro pq s U H x y v u Q I rx ry h;obtain⟨l,b,xs,zs,rfl,rfl,hH,hB,hz,q⟩:=h;cases rx;cases ry;obtain⟨z,its,n,r,hl,e⟩:=I.lstM hH;obtain⟨z2,its2,n2,r2,hl2,e2⟩:=I.lstM hB;refine PySem.P.add_list e e2 ?_ (by rw[aq,aq];lia)
 have ea:its.toArray++its2.toArray=(its++its2).toArray:=by simp
 rw[ea];exact#[.ref _,_,I.lnew (t':=s.toks) (r.append r2) (by rw[aP];lia),rfl,q _ I.fresh]
def Qc{m:Type}(xs:List m)(k:Nat):(aA k xs).flatten.length=k*xs.length:=by
 induction k with|zero=>simp|succ k ih=>rw[bq,bN,aP,ih,iL,Nat.add_comm]
end
end L2
namespace Att
open PySem PySem.W PySem.Calls PyProof.Rows
def WP :∀(ns:List Int)(vs:List am),WellAll P h vs (ns.map WData.int)->kK vs ns:=by
 intro ns
 induction ns with
 |nil=>
  intro vs w;rw[iM]at w;cases w;exact .nil
 |cons n ns ih=>
  intro vs w;rw[aN]at w;cases w with
  |cons a b=>
   cases a;exact .cons _ _<|ih _ b
def ym{l:OpenLaw}{n:Nat}(hn:l.most=aa n){P:Params}{h:bJ}{args:List WData}{vals:List am}
  (hpre:l.row.toRowW.claim.pre args=ag)(hwl:WellAll P h vals args) :
  ∃a vs ns,vals=[bO a]/\args=[WData.list<|ns.map WData.int]/\h.get? a=aa {cls:=.type "list",data:=.seq vs.toArray}/\kK vs ns/\ns.length<=n:=by
 have hsh:=(pre_splitW hpre).1;have hc:l.pre.holds [] {args:=args}=ag:=(pre_splitW hpre).2;obtain⟨d,r,rfl,h1,h2⟩:=hasAllW_cons hsh;obtain rfl:=hasAllW_nil h2;obtain⟨xs,rfl,h3⟩:=hasW_list h1;obtain⟨ns,rfl⟩:=items_int h3;have hlen:ns.length<=n:=by
  have h4:(WTm.not<|.lt (.lit<|.int (n:Int))<|.len<|.arg 0).holds [] {args:=[.list<|ns.map .int]}=ag:=by
   have h4:=(holds_andW hc).1;rw[hn]at h4;exact h4
  have h5:=condW_of h4<|w_not<|w_lt w_lit<|w_len_list<|w_arg rfl;rw[aw]at h5;refine kc λq=>?_
  have q':(n:Int)<((ns.length:Nat):Int):=by lia
  first
   |(rw[T5 q']at h5;exact T7 h5 (by decide))
   |(simp at h5;lia)
 cases hwl with
 |cons w1 w2=>
  cases w2;cases w1 with|list ho hall=>exact#[_,_,ns,rfl,rfl,ho,WP ns _ hall,hlen]
def zS(l:OpenLaw)(args:List WData):l.row.toRowW.claim.post args (.bool ag) args=ag:=
 postW_of
  (by first|rfl|decide|simp[WShape.has,WShape.arms,WShape.armsAll])
  (w_eq_bool (w_res rfl) w_lit) rfl
def Qx{l:OpenLaw}{n:Nat}{q:br}{loose:List bc}{XP:(bc->Option am)->bJ->Prop}{YP:bK->bJ->Prop}{d:DefRec}
  (hn:l.most=aa n)(hdf:d.params.defaults=[])
  (call:∀(w:bK)(s₀ s₁:au)(mg mb:bc->Option am)(fa:aB)(o:dJ)(pm cd doc:am)(a:aB)(vs:List am)(ns:List Int),
   Ground q loose [] XP w s₀ mg mb s₁.heap->YP w s₁.heap->
   s₁.heap.get? fa=aa o->o.data=.func (docDef d.name d.params d.body d.scope pm cd doc)->s₁.heap.CodeRec cd d.name->mg d.name=aa (.ref fa)->
   s₁.heap.get? a=aa {cls:=.type "list",data:=.seq vs.toArray}->kK vs ns->ns.length<=n->s₁.gens = #[]->
   gb (ba l.prog w) gT (.call (.ref fa) #[[.ref a],[]]) (λr s'=>r=.ok (.ret<|.bool ag)/\OldK s₁.heap s'.heap/\s'.os=s₁.os/\fF s'.gens) s₁) :
  WalkO q loose XP YP l.row.toRowW d [] (λf vs=>kR f vs):=by
 intro w s₀ s₁ mg mb G Y fa o pm cd doc dV kV ho hd hcd hD hmg hg args vals as hpre hlay hrd hwl hlo;obtain rfl:dV=.none:=Dflts.none hD hdf;obtain rfl:kV=.none:=Dflts.noKw hD;obtain⟨a,vs,ns,rfl,rfl,hobj,hints,hlen⟩:=ym hn hpre hwl;refine enter_call<|iH (call w s₀ s₁ mg mb fa o pm cd doc a vs ns G Y ho (fd_plain hd) hcd hmg hobj hints hlen hg) λr s' hq=>?_
 obtain⟨rfl,h2,h3,h4⟩:=hq;exact#[.inl #[.bool ag,.bool ag,[],rfl,λ_=>rfl,.bool ag,zS l _,λ_=>#[fJ,λ_ hm=>(nomatch hm)]],h2,h3,h4]
end Att
namespace L2
open PySem PySem.Spec PyProof.Rows
theorem Uh:∀{vs:List am}{ns:List Int},kK vs ns->Vals (ns.map V.int) vs
 |_,_,.nil=>.nil
 |_,_,.cons n t h=>.cons #[t,rfl]<|Uh h
def Only(H:Hp):Prop:=∀b,H b=ab\/∃o xs,H b=aa (.frz o<|.lst xs)
def xm{P:br}{w:bK}{K:aj}{mg mb:bc->Option am}{CX:CXT}{k:Nat}{fa a:aB}{fd:bW}{x:bc}{sp:Sp}{s₁:au}{vs:List am}{ns:List Int}
  (KX:K.In s₁.heap)(hns:s₁.heap.Ns bE mg)(hb:s₁.heap.Ns ia mb)(hbb:∀x:bc,x≠"__name__"->mb x=cB x)(hlim:s₁.heap.NoLimit)(hg:s₁.gens = #[])
  (ha:s₁.heap.get? a=aa {cls:=.type "list",data:=.seq vs.toArray})(hi:kK vs ns)(hl:ns.length<=aQ)(hr:Room k gT)
  (F:∀base:bJ,K.In base->base.Ns bE mg->FnOk P w K mg base CX k fa fd [x] sp)(hbind:∀(s:au)(u:am),iG s fd #[[u],[]] [(x,u)])
  (hsp:∀H:Hp,Only H->SqL K H a (ns.map V.int)->sp [.ref a] H (λv _=>v=.bl ag) λ_ _ _=>False)
  (hCX:∀H e s',CX [] H s₁ (λ_ _ _=>False) e s'->False) :
  gb (ba P w) gT (.call (.ref fa) #[[.ref a],[]]) (λr s'=>r=.ok (.ret<|.bool ag)/\OldK s₁.heap s'.heap/\s'.os=s₁.os/\fF s'.gens) s₁:=by
 have rv:=Uh hi;have lenV:=hi.length;have core:∀H:Hp,Only H->SqL K H a (ns.map V.int)->HOk P w H s₁.heap->(∀b,H b≠ab->b=a)->(H a≠ab->K.lookup a=ab)->
   gb (ba P w) gT (.call (.ref fa) #[[.ref a],[]]) (λr s'=>r=.ok (.ret<|.bool ag)/\OldK s₁.heap s'.heap/\s'.os=s₁.os/\fF s'.gens) s₁:=by
  intro H hO hS hok hA hK;have base_of:∀{b:aB}{o:dJ},s₁.heap.get? b=aa o->H b=ab->(Qe s₁.heap H).get? b=aa o:=λe n=>wK e n
  have noA:∀{b:aB}{o:dJ}{es:Array eX}{ep:Nat},s₁.heap.get? b=aa o->o.data=.dict es ep->H b=ab:=λ{b o es ep} e d=>by
   cases q:H b with
   |none=>rfl
   |some u=>
    have e':b=a:=hA b (by rw[q];simp)
    subst e';rw[ha]at e;cases e;have d':Data.seq vs.toArray _=Data.dict es ep:=d;cases d'
  have nsK:∀{b:aB}{m:bc->Option am},s₁.heap.Ns b m->(Qe s₁.heap H).Ns b m:=λ{b m} #[o,es,ep,e,d,r]=>#[o,es,ep,base_of e<|noA e d,d,r]
  have hKb:K.In (Qe s₁.heap H):=λb o e=>base_of (KX b o e) (by
   cases q:H b with
   |none=>rfl
   |some u=>
    have e':b=a:=hA b (by rw[q];simp)
    subst e';rw[hK<|by rw[q];simp]at e;cases e)
  have hM:Mod K mg (Qe s₁.heap H):=#[hKb,nsK hns,#[mb,nsK hb,hbb],let #[mc,h1,h2]:=hlim;#[mc,nsK h1,h2]];have e0:Env0 P w K mg (Qe s₁.heap H) gT [] s₁ H:=#[rfl,hM,λb o e=>vJ e,Nat.le_of_eq<|yt _ _,trivial,λb hb=>T7 (show b∈([]:List aB)from hb) (by simp),hok,.of_eq hg]
  refine iH ((F _ hKb<|nsK hns).run gT [] s₁ H #[[.ref a],[]] [.ref a] [.ref a] _ _ hr e0 (hbind s₁<|.ref a) (.cons rfl .nil)<|hsp H hO hS) λr s' h=>?_
  cases r with
  |error e=>exact(hCX H e s' h).elim
  |ok fl=>
   cases fl with
   |next=>exact False.elim h
   |brk=>exact False.elim h
   |cont=>exact False.elim h
   |ret u=>
    obtain⟨v,H',os,bare,un,hok',r',q⟩:=h;have q':v=.bl ag:=q;subst q';obtain rfl:u=be ag:=r';refine#[rfl,OldK.of_keep λb o e=>?_,os,bare]
    cases q:H b with
    |none=>exact un.keep b o e q (by intro z;exact T7 (show b∈([]:List aB)from z)<|by simp) (by simp)
    |some u=>
     rcases hO b with z|⟨ob,xs,z⟩
     .rw[q]at z;cases z
     .have z2:=un.frzs b ob _ z
      obtain⟨e1,_⟩:=hok b _ z;obtain⟨e2,_⟩:=hok' b _ z2;rw[e]at e1;cases e1;exact e2
 cases hk:K.lookup a with
 |some o=>
  have e:=KX a o hk;rw[ha]at e;cases e;refine core (λ_=>ab) (λ_=>.inl rfl) (.inr #[_,vs.toArray,_,hk,rfl,rfl,rfl,by rw[aq,lenV];exact hl,by simpa using rv]) (λb u z=>by have z':(ab:Option HO)=aa u:=z;cases z') (λb z=>T7 rfl z) λz=>T7 rfl z
 |none=>
  refine core (λb=>if b=a then aa (.frz {cls:=.type "list",data:=.seq vs.toArray}<|.lst<|ns.map V.int)else ab) (λb=>?_) (.inl<|.inr #[{cls:=.type "list",data:=.seq vs.toArray},T9 rfl]) (λb u z=>?_) (λb z=>?_) λ_=>hk
  .by_cases hb:b=a
   .exact .inr #[_,_,T9 hb]
   .exact .inl<|T8 hb
  .by_cases hb:b=a
   .have z':=(T9 hb).symm.trans z
    cases z';subst hb;exact#[ha,by rw[aw];exact hl,vs,_,rv,ha]
   .have z':=(T8 hb).symm.trans z
    cases z'
  .by_cases hb:b=a
   .exact hb
   .exact T7 (T8 hb) z
def vX{l:gu}{n k:Nat}{q:br}{loose:List bc}{XP:(bc->Option am)->bJ->Prop}{YP:bK->bJ->Prop}{d:DefRec}{K:Params->aj}{CX:bK->CXT}{sp:bK->Sp}{x:bc}
  (hn:l.most=aa n)(hn2:n<=aQ)(hdf:d.params.defaults=[])(hr:Room k gT)
  (hY:∀(w:bK)(h:bJ),YP w h->(K w.params).In h)
  (F:∀(w:bK)(mg:bc->Option am)(fa:aB)(h:bJ),(K w.params).In h->h.Ns bE mg->mg d.name=aa (.ref fa)->
   ∃fd:bW,(∀(s:au)(u:am),iG s fd #[[u],[]] [(x,u)])/\
    ∀base:bJ,(K w.params).In base->base.Ns bE mg->FnOk l.prog w (K w.params) mg base (CX w) k fa fd [x] (sp w))
  (hsp:∀(w:bK)(H:Hp)(a:aB)(ns:List Int),ns.length<=n->Only H->SqL (K w.params) H a (ns.map V.int)->sp w [.ref a] H (λv _=>v=.bl ag) λ_ _ _=>False)
  (hCX:∀(w:bK)(H:Hp)(s:au)(e:am)(s':au),CX w [] H s (λ_ _ _=>False) e s'->False) :
  k7 q loose XP YP l.row.toRowW d [] (λf vs=>kR f vs):=by
 refine Att.Qx hn hdf λw s₀ s₁ mg mb fa o pm cd doc a vs ns G Y ho hd hcd hmg hobj hints hlen hg=>?_
 have KX:=hY w _ Y;obtain⟨fd,hb,hF⟩:=F w mg fa _ KX G.T.g hmg;exact xm KX G.T.g G.T.b G.T.builtins G.T.nolimit hg hobj hints (bx hlen hn2) hr hF hb (λH hO hS=>hsp w H a ns hlen hO hS) λH e s'=>hCX w H s₁ e s'
noncomputable def YN(s:dG):Arguments:=match s with
 |.FunctionDef _ a _ _ _ _ _ _ _ _=>a
 |_=>{posonlyargs:=[],args:=[],vararg:=ab,kwonlyargs:=[],kw_defaults:=[],kwarg:=ab,defaults:=[]}
noncomputable def Yg(s:dG):List dG:=match s with
 |.FunctionDef _ _ b _ _ _ _ _ _ _=>b
 |_=>[]
noncomputable def Zy(s:dG):de:=match s with
 |.FunctionDef _ _ _ _ _ _ sc _ _ _=>sc
 |_=>{kind:=.function,names:=[],isGenerator:=ai,isCoroutine:=ai}
noncomputable abbrev CX0:CXT:=λ_ _ _ _ _ _=>False
noncomputable abbrev E0:XK:=λ_ _ _=>False
def qI{X:Cx}:Gs CX0 X E0:=λ_ _ _ _ _ _ _ h=>h.elim
structure Fun(K:aj)(x qual:bc)(st:dG)(f:aB)(fd:bW):Prop where
 ex:∃(oc:am)(od:Option aB)(kV doc pm:am)(an:Option aB)(cdv ct:am)(osl:Array (Option am)),
  fd=cD x qual (YN st) (Yg st) (Zy st) .none kV doc pm an cdv ct/\K.lookup f=aa #[oc,od,.func fd,osl]/\fe K cdv qual=ag
 kp:d3 K (.ref f)=ag
section
variable{P:br}{w:bK}{K:aj}{mg:bc->Option am}{base:bJ}
def Fun.ok{x qual:bc}{st:dG}{f:aB}{fd:bW}{N ps:List bc}{k:Nat}{sp:Sp}(F:Fun K x qual st f fd)(S:FnScope N ps (Zy st))(len:∀vs H Q E,sp vs H Q E->vs.length=ps.length)
  (hbody:∀(cdv:am)(A:cg)(outer:List Env)(s:au)(H:Hp)(vs:List V)(Q:VK)(E:XK),Room k (A.deeper<|fc qual (Zy st) s.heap.objs.size f cdv)->sp vs H Q E->
   ∃t,PSs (QR CX0 P w K mg base N qual (Zy st) f cdv A outer s H E).nox (Yg st) t/\t {nx:=λ_ H'=>Q .non H',rt:=Q} (start N vs) H):FnOk P w K mg base CX0 (k+1) f fd ps sp:=by
 obtain⟨oc,od,kV,doc,pm,an,cdv,ct,osl,rfl,lk,hcd⟩:=F.ex;refine Za4 lk hcd S len λA outer s H vs Q E hr hsp=>?_
 obtain⟨t,h,q⟩:=hbody cdv A outer s H vs Q E hr hsp;exact#[t,h.nox,q]
def Fun.binds{x qual:bc}{st:dG}{f:aB}{fd:bW}{ps:List bc}(F:Fun K x qual st f fd)
  (h:∀(kV doc pm:am)(an:Option aB)(cdv ct:am)(us:List am),us.length=ps.length->kN (cD x qual (YN st) (Yg st) (Zy st) .none kV doc pm an cdv ct) #[us,[]]=cb (ps.zip us)):Va K fd ps []:=by
 obtain⟨oc,od,kV,doc,pm,an,cdv,ct,osl,rfl,lk,hcd⟩:=F.ex;exact .all<|h kV doc pm an cdv ct
def je{x qual:bc}{st:dG}{f:aB}{oc:am}{od an:Option aB}{osl:Array (Option am)}{kV doc pm cdv ct:am}(l:K.lookup f=aa #[oc,od,.func<|cD x qual (YN st) (Yg st) (Zy st) .none kV doc pm an cdv ct,osl])
  (c:fe K cdv qual=ag)(k:d3 K (.ref f)=ag):Fun K x qual st f (cD x qual (YN st) (Yg st) (Zy st) .none kV doc pm an cdv ct):=#[#[oc,od,kV,doc,pm,an,cdv,ct,osl,rfl,l,c],k]
end
section
variable{κ:Type}[DecidableEq κ]
noncomputable def Vp(kvs:List (κ×V))(k:κ):Option V:=(kvs.find? λkv=>ae<|kv.1=k).map (·.2)
noncomputable def QE(kvs:List (κ×V))(k:κ)(v:V):List (κ×V):=
 if(kvs.any λkv=>ae<|kv.1=k)=ag then kvs.map (λkv=>if kv.1=k then(kv.1,v)else kv)else kvs++[(k,v)]
def W8{p:κ×V}{r:List (κ×V)}{k:κ}(e:p.1=k):Vp (p::r) k=aa p.2:=by simp[Vp,cS,e]
def VE{p:κ×V}{r:List (κ×V)}{k:κ}(e:¬p.1=k):Vp (p::r) k=Vp r k:=by simp[Vp,cS,e]
theorem Q0(k:κ):∀kvs:List (κ×V),(kvs.any λkv=>ae<|kv.1=k)=(Vp kvs k).isSome
 |[]=>rfl
 |p::r=>by
  rw[cF];by_cases e:p.1=k
  .simp only[W8 e,T5 e,Bool.true_or,iq]
  .rw[VE e,T4 e,eC];exact Q0 k r
theorem Jr(kvs:List (κ×V))(k:κ)(v:V):(QE kvs k v).length<=kvs.length+1:=by
 unfold QE;split
 .rw[aw];lia
 .rw[aP,aI,eL];lia
def JY.isSome_eq(r:JY o u):o.isSome=u.isSome:=by
 cases o with
 |none=>cases u with|none=>rfl|some _=>exact(r).elim
 |some _=>cases u with|none=>exact(r).elim|some _=>rfl
def KV.val{kvs:List (κ×V)}{vs:List (κ×am)}(r:KV kvs vs)(k:κ):JY (Vp kvs k) (iN vs k):=by
 unfold KV at r
 induction r with
 |nil=>exact cZ
 |@cons p q ps qs h t ih=>
  obtain⟨h1,h2⟩:=h;by_cases e:p.1=k
  .have e':=h1.symm.trans e
   have b:iN (q::qs) k=aa q.2:=by simp[iN,cS,e']
   rw[W8 e,b];exact h2
  .have e':¬q.1=k:=λz=>e (h1.trans z)
   have b:iN (q::qs) k=iN qs k:=by simp[iN,cS,e']
   rw[VE e,b];exact ih
theorem KV.any(r:KV kvs vs)(k:κ):(kvs.any λkv=>ae<|kv.1=k)=vs.any λkv=>ae (kv.1=k):=by
 unfold KV at r
 induction r with|nil=>rfl|cons h t ih=>rw[cF,cF,ih,h.1]
def KV.repl(r:KV kvs vs)(k:κ)(ry:ZA y u) :
  KV (kvs.map λkv=>if kv.1=k then(kv.1,y)else kv) (vs.map λkv=>if kv.1=k then(kv.1,u)else kv):=by
 unfold KV at r ⊢
 induction r with
 |nil=>exact .nil
 |@cons p q ps qs h t ih=>
  rw[aN,aN];refine .cons ?_ ih;obtain⟨h1,h2⟩:=h;by_cases e:p.1=k
  .rw[T9 e,T9<|h1.symm.trans e];exact#[h1,ry]
  .rw[T8 e,T8 λz=>e<|h1.trans z];exact#[h1,h2]
def KV.put(r:KV kvs vs)(k:κ)(ry:ZA y u):KV (QE kvs k y) (stored vs k u):=by
 unfold QE stored;rw[r.any k];by_cases e:(vs.any λkv=>ae<|kv.1=k)=ag
 .rw[T9 e,T9 e];exact r.repl k ry
 .rw[T8 e,T8 e];exact Paired.snoc r #[rfl,ry]
end
def vw(r:ZA (kV k) u):(ZC P w).is k u=ag:=by
 cases k with|inl i=>obtain⟨t,e⟩:=(r);subst e;exact QK P w i t|inr x=>obtain⟨t,e⟩:=(r);subst e;exact Jw P w x t
theorem Ue :∀{ks:List Key}{us:List am},Vals (ks.map kV) us->ItemsAre (ZC P w) ks us
 |[],_,r=>by rw[iM]at r;cases r;exact .nil
 |k::ks,_,r=>by
  rw[aN]at r;cases r with|cons h t=>exact .cons (vw h)<|Ue t
abbrev KT(H:Hp):List (List Key×V)->List (List Key×aB×am)->Prop:=Paired λp q=>p.1=q.1/\H q.2.1=aa (.tup<|p.1.map kV)/\ZA p.2 q.2.2
def KT.val{H:Hp}{kvs:List (List Key×V)}{xs:List (List Key×aB×am)}(r:KT H kvs xs)(k:List Key):JY (Vp kvs k) ((kS xs k).map (·.2)):=by
 induction r with
 |nil=>exact cZ
 |@cons p q ps qs h t ih=>
  obtain⟨h1,_,h2⟩:=h;by_cases e:p.1=k
  .have e':=h1.symm.trans e
   have b:kS (q::qs) k=aa q.2:=by simp[kS,cS,e']
   rw[W8 e,b];exact h2
  .have e':¬q.1=k:=λz=>e (h1.trans z)
   have b:kS (q::qs) k=kS qs k:=by simp[kS,cS,e']
   rw[VE e,b];exact ih
def qr(ok:HOk P w H h)(e:Rd H a u):Z5 P w H h a u:=e.ok ok
def qC(ok:HOk P w H h)(e:Rd H a (.dK kvs)):kvs.length<=aQ/\(a == cm)=ai/\∃vs,KV kvs vs/\h.DictOf (ZC P w) a vs:=
 qr ok e
def Zbg(ok:HOk P w H h)(e:H a=aa (.dK kvs)):kvs.length<=aQ/\(a == cm)=ai/\∃vs,KV kvs vs/\h.DictOf (ZC P w) a vs:=qC ok<|.inl e
def JM(ok:HOk P w H h)(e:H a=aa (.tup<|ks.map kV)):(cw<|ZC P w).is h ks a:=by
 obtain⟨_,its,r,o,h1,h2,n,h3⟩:=(ok a _ e)
 exact#[o,its.toArray,n,h1,h2,h3,by simpa using Ue r]
def ZaL(ok:HOk P w H h)(e:Rd H a (.dT kvs)):kvs.length<=aQ/\(a == cm)=ai/\
  ∃xs,KT H kvs xs/\h.DictOfH (cw<|ZC P w) a xs:=by
 obtain⟨z,y,xs,r,o,es,ep,h1,h2,h3,h4,h5⟩:=(qr ok e)
 refine#[z,y,xs,r,o,es,ep,h1,h2,h3,h4,λx hx=>?_,h5]
 have all:∀{l:List (List Key×V)}{m:List (List Key×aB×am)},KT H l m->∀x∈m,(cw<|ZC P w).is h x.1 x.2.1:=by
  intro l m q
  induction q with
  |nil=>intro x hx;exact nomatch hx
  |@cons p q ps qs hq t ih=>
   intro x hx;rcases ar.mp hx with e|hx
   .subst e
    exact JM ok (by rw[<-hq.1];exact hq.2.1)
   .exact ih x hx
 exact all r x hx
def DGet(H:Hp)(a:aB)(y:V)(r:Option V):Prop:=
 (∃kvs k,Rd H a (.dK kvs)/\y=kV k/\r=Vp kvs k)\/∃kvs k b,Rd H a (.dT kvs)/\y=.ref b/\H b=aa (.tup<|k.map kV)/\r=Vp kvs k
def Inv.big(I:Inv X pq U H s):cm<s.heap.objs.size:=by
 have h:=(I.mod.glob.keeps I.bk).lt;exact gj (by decide) h
def ZbN{Q:am->au->Prop}(hu:A.units+1<cI)(I:Inv X pq U H s)(g:DGet H a y o)(ry:ZA y u)(h:∀s',Inv X pq U H s'->Q (.bool o.isSome) s') :
  aS (ba X.prog X.w) A (bG .In u<|.ref a) Q E s:=by
 rcases g with⟨kvs,k,e,ey,l⟩|⟨kvs,k,b,e,ey,eb,l⟩
 .subst ey
  obtain⟨z,hd,vs,rel,dd⟩:=qC I.hok e;refine wpAny_in_of (vw ry) hd dd.mapOf ?_;rw[<-(rel.val k).isSome_eq,<-l];exact h _<|I.tok _
 .subst ey
  cases(ry)
  obtain⟨z,hd,xs,rel,dd⟩:=ZaL I.hok e;refine wpAny_in_heap (ir hu) (JM I.hok eb) hd dd ?_;have q:=(rel.val k).isSome_eq;rw[Option.isSome_map]at q;rw[<-q,<-l];exact h _<|I.tok _
def ux(I:Inv X pq U H s)(mu:Mut (H a))(hs:dB a s.heap h')(he:∃q,h'.get? a=aa q)(new:Z5 X.prog X.w (upd H a ob) h' a ob) :
  Inv X pq U (upd H a ob) {s with heap:=h',toks:=t' }:=
 I.write mu (.inl rfl) (λb q hb z=>(hs.2 b hb).trans z) he new
def ZaA(z:kvs.length<=aQ)(hd:(a == cm)=ai)(rel:KV kvs vs)(dd:h'.DictOf (ZC P w) a vs) :
  Z5 P w H' h' a (.dK kvs):=#[z,hd,vs,rel,dd]
def Ju(h:bJ)(hb:cm<h.objs.size):Z5 P w H (h.push {cls:=.type "dict",data:=.dict #[]}) h.objs.size (.dK []):=
 #[df _,beq_eq_false_iff_ne.mpr<|Ne.symm<|bn hb,[],.nil,bJ.DictOf.new h]
def ZaJ:TE:=λ_ H Q=>∀p,H p=ab->Q (.ref p) (upd H p<|.dK [])
def wm:PE X (.Dict [] [] pos) ZaJ:=λpq s U H Q I h=>
 wpAny_Dict_empty #[.ref s.heap.objs.size,_,I.laid (a:=s.heap.objs.size) (o:=.dK []) (t':=s.toks) (λ_ _ q=>ap _ q) (aD _)<|Ju s.heap I.big,rfl,h _<|I.hok.fresh<|aD _]
def JZ:List (TE×TE)->St->Hp->(List (V×V)->Hp->Prop)->Prop
 |[],_,H,Q=>Q [] H
 |(tk,tv)::r,U,H,Q=>tk U H λx H1=>tv U H1 λy H2=>JZ r U H2 λps H3=>Q ((x,y)::ps) H3
abbrev VV:List (V×V)->List (am×am)->Prop:=Paired λp q=>ZA p.1 q.1/\ZA p.2 q.2
def PPs(X:Cx)(pos:fA)(keys:List (Option Expr))(values:List Expr)(trs:List (TE×TE)):Prop:=
 ∀(pq:List (aB×dJ))(s:au)(U:St)(H:Hp)(Q:List (V×V)->Hp->Prop),Inv X pq U H s->JZ trs U H Q->
  aS (ba X.prog X.w) X.A (evalPairs<|pairTrees keys values X.env pos) (λvs s'=>∃ps H',Inv X pq U H' s'/\VV ps vs/\Q ps H') X.xe s
def qd :PPs X pos [] [] []:=λpq s U H Q I h=>pairTrees_nil_walk #[[],H,I,.nil,h]
def wb(hk:PE X k tk)(hv:PE X v tv)(hr:PPs X pos ks vs trs) :
  PPs X pos (aa k::ks) (v::vs) ((tk,tv)::trs):=λpq s U H Q I h=>
 pairTrees_cons_walk (thn (hk pq s U H _ I h) λu s1 #[x,H1,I1,rx,q1]=>thn (hv pq s1 U H1 _ I1 q1) λw2 s2 #[y,H2,I2,ry,q2]=>
  thn (hr pq s2 U H2 _ I2 q2)<|by rintro ws s3 ⟨ps,H3,I3,rel,q3⟩;exact #[(x,y)::ps,H3,I3,.cons #[rx,ry] rel,q3])
noncomputable def Vk(kvs more:List (Key×V)):List (Key×V):=more.foldl (λacc kv=>QE acc kv.1 kv.2) kvs
def KV.merge:∀{more:List (Key×V)}{rs:List (Key×am)}{kvs:List (Key×V)}{vs:List (Key×am)},KV more rs->KV kvs vs->KV (Vk kvs more) (merged vs rs):=by
 intro more rs kvs vs r;unfold KV at r
 induction r generalizing kvs vs with
 |nil=>intro q;exact q
 |@cons p q ps qs h t ih=>
  intro r0;have e:KV (QE kvs p.1 p.2) (stored vs q.1 q.2):=by
   have:=r0.put p.1 h.2;rw[<-h.1];exact this
  exact ih e
theorem XH:∀(more kvs:List (Key×V)),(Vk kvs more).length<=kvs.length+more.length
 |[],kvs=>by show kvs.length<=kvs.length+0;lia
 |p::r,kvs=>by
  have h1:=XH r<|QE kvs p.1 p.2;have h2:=Jr kvs p.1 p.2;show(Vk (QE kvs p.1 p.2) r).length<=_;rw[aI];lia
theorem Vg :∀{kvs:List (Key×V)}{ws:List (am×am)},VV (kvs.map λkv=>(kV kv.1,kv.2)) ws->∃rs,Carries (ZC P w) ws rs/\KV kvs rs
 |[],_,r=>by rw[iM]at r;cases r;exact#[[],cZ,.nil]
 |p::kvs,_,r=>by
  rw[aN]at r;cases r with
  |@cons a b as bs h t=>
   obtain⟨rs,c,q⟩:=Vg t;obtain⟨b1,b2⟩:=b;exact#[(p.1,b2)::rs,#[vw h.1,rfl,c],.cons #[rfl,h.2] q]
def Zbh(trs:List (TE×TE)):TE:=λU H Q=>∀p,H p=ab->JZ trs U (upd H p<|.dK []) λps H2=>H2 p=aa (.dK [])/\∃kvs:List (Key×V),ps=kvs.map (λkv=>(kV kv.1,kv.2))/\kvs.length<=15/\Q (.ref p) (upd H2 p<|.dK<|Vk [] kvs)
def uK(h:PPs X pos keys values trs)(hall:keys.all (·.isSome)=ag)(hl:keys.length=values.length)(h0:keys≠[])
  (h15:keys.length<=15):PE X (.Dict keys values pos) (Zbh trs):=by
 intro pq s U H Q I q;have hn:=I.hok.fresh<|aD s.heap.objs.size;have I1:=I.laid (h':=s.heap.push {cls:=.type "dict",data:=.dict #[]}) (t':=s.toks) (λ_ _ q=>ap _ q) (aD _)<|Ju s.heap I.big
 refine wpAny_Dict_walk (knd:=ZC X.prog X.w) hall hl h0 h15<|thn (h pq _ U _ _ I1<|q _ hn) λws s2 #[ps,H2,I2,rel,e,kvs,ep,lk,q2]=>?_
 subst ep;obtain⟨rs,c,rk⟩:=Vg rel;obtain⟨z,hd,vs0,r0,dd⟩:=Zbg I2.hok e;cases r0;refine#[rs,c,dd,λh' dd' hs=>#[.ref s.heap.objs.size,_,?_,rfl,q2]]
 have hz:(Vk [] kvs).length<=aQ:=by
  have h1:=XH kvs [];rw[eL]at h1;rw[dy];lia
 have he:∃q,h'.get? s.heap.objs.size=aa q:=let #[q,_,_,hq,_]:=dd';#[q,hq];exact ux I2 (by rw[e];exact cZ) hs he<|ZaA hz hd (rk.merge .nil) dd'
end L2
namespace Pv
open PySem (Str)
inductive V where
 |non|bl (b:Bool)|int (i:Int)|str (x:bc)|tup (xs:List V)|lst (xs:List V)|drw|dct (ks:Sum (List<|Int×Int) (List<|List Int))|scr (ns:List Int)
 |dow (ks:List (List Int))
 deriving Inhabited
end Pv
namespace Ev
open PySem (Str)
def nos{m:Type}{P:Prop}{b:m}(h:ab=aa b):P:=by cases h
noncomputable def lim:Nat:=16777216
inductive Bop where|add|sub|mul|fdiv|mod|pow
 deriving DecidableEq
inductive Cop where|eq|ne|lt|le|gt|ge|is|isn|inn|nin
 deriving DecidableEq
inductive Ty where|int|bool|str|tuple|list|dict|cls (c:Nat)
 deriving DecidableEq
inductive Bf where|len|max2|min2|toInt|tuple|list|all|any|sum|sorted|sortedR|dictP|listD|sortedD|sortedS|sortedT|sortedU|index|rangeT|rangeL|strI|repr
 deriving DecidableEq
inductive So where|join|split|find|ix
 deriving DecidableEq
inductive Mf where|append|extend|index
 deriving DecidableEq
mutual
inductive E where
 |c (d:Pv.V)|v (i:Nat)
 |tup (es:List E)|lst (es:List E)|dnew
 |bin (op:Bop) (a b:E)|neg (a:E)|not (a:E)|and (a b:E)|or (a b:E)|ite (t a b:E)
 |cmp (op:Cop) (a b:E)|chain (o p:Cop) (a b d:E)
 |ix (a i:E)|sl (a:E) (lo hi:Option E)|rev (a:E)
 |call (f:Nat) (as:List E)|blt (f:Bf) (as:List E)|mt (m:Mf) (o:E) (as:List E)
 |isi (a:E) (ts:List Ty)
 |inT (a:E) (tab:List (Int×Int))|getT (tab:List (Int×Int)) (a:E)
 |dput1 (k v:E)
 |comp1 (cap:List Nat) (nl:Nat) (t:List Nat) (it:W) (ifs:List E) (elt:E)
 |comp2 (cap:List Nat) (nl:Nat) (t:List Nat) (it:W) (ifs:List E) (u:List Nat) (jt:W) (jfs:List E) (elt:E)
 |fi (e:E)
 |refu (w:Bool) (e:E)
 |dix (a:E) (k:Bool)
 |callF (f:Nat) (as:List E)
 |sop (f:So) (a b:E)
inductive W where
 |of (e:E)|rng1 (a:E)|rng2 (a b:E)|zip (a b:E)|enum (a:E)|rrng (a b:E)|rtup (a:E)|dk (e:E)|sgn (e:E)
end
inductive Sm where
 |asg (t:List Nat) (e:E)|par (t:List Nat) (es:List E)|aug (i:Nat) (op:Bop) (e:E)|put (o i e:E)|dput (o i e:E)
 |ret (e:E)|ex (e:E)|ite (t:E) (a b:List Sm)|forr (t:List Nat) (it:W) (b:List Sm)|whl (t:E) (b:List Sm)
 |raise (c:Nat) (as:List E)|pas|brk|cnt
 |mov (i j:Nat)
 |dset (i:Nat) (e:E)|cel (i f:Nat) (as:List E) (b:List Sm)
 |retO (i:Nat)
 |dnw (i:Nat) (k:E)|forF (t:List Nat) (e:E) (b:List Sm)
 |lnw (i:Nat) (es:List E)|cat (i:Nat) (es:List E)|app (i:Nat) (e:E)
 |swp (i j k:Nat)
noncomputable def b2i(b:Bool):Int:=if b then 1 else 0
noncomputable def Zn:Nat:=6
noncomputable def ixN(n:Nat)(i:Int):Option Nat:=if 0<=i then(if i<n then aa i.toNat else ab)else if -(n:Int)<=i then aa (i+n).toNat else ab
noncomputable def at'{m:Type}(xs:List m)(i:Int):Option m:=(ixN xs.length i).bind λj=>xs[j]?
noncomputable def sIx(n d:Nat):Option Int->Nat
 |none=>d
 |some i=>if i<0 then(i+n).toNat else ls i.toNat n
noncomputable def fits(i:Int):Bool:=ae<|i.natAbs<2^8000
noncomputable def big:Int:=2^8000
def x9(h:b<1073741824):b<big:=Int.lt_trans h (by decide +kernel)
noncomputable def ltI:List Int->List Int->Bool
 |[],[]=>ai
 |[],_::_=>ag
 |_::_,[]=>ai
 |a::x,b::y=>if a=b then ltI x y else ae (a<b)
noncomputable def YG(x:List Int):List (List Int)->List (List Int)
 |[]=>[x]
 |y::r=>if ltI x y then x::y::r else y::YG x r
noncomputable def ZR:List (List Int)->List (List Int)
 |[]=>[]
 |x::r=>YG x<|ZR r
noncomputable def VX{m:Type}(lt:m->m->Bool)(x:m):List m->List m
 |[]=>[x]
 |y::r=>if lt x y then x::y::r else y::VX lt x r
noncomputable def Xe{m:Type}(lt:m->m->Bool):List m->List m
 |[]=>[]
 |x::r=>VX lt x<|Xe lt r
noncomputable def ltP:List (List Int)->List (List Int)->Bool
 |[],[]=>ai
 |[],_::_=>ag
 |_::_,[]=>ai
 |a::x,b::y=>if a=b then ltP x y else ltI a b
noncomputable def Za2(is:List Int):Bool:=ae (is.length<=1000)&&is.all λi=>ae<|-1099511627776<=i/\i<=1099511627776
noncomputable def Yp(rs:List (List Int)):Bool:=ae (rs.length<=100000)&&decide rs.Nodup&&rs.all λr=>!r.isEmpty
noncomputable def Ys(ps:List (List<|List Int)):Bool:=ae (ps.length<=100000)&&decide ps.Nodup&&(ae (ps.length<=1)||ps.all λP=>!P.isEmpty)
noncomputable def W9(ks:List (List Int)):Bool:=ae (ks.length<=lim)&&decide ks.Nodup
noncomputable def Xr(i:Int):Bool:=ae<|-(2^62)<=i/\i<2^62
noncomputable def few(i:Int):Bool:=ae<|0<=i/\i<=1000
noncomputable def y9:Nat:=1000
noncomputable def Zap:List bc:=["row","part","number","heads","not beside","not in","turn","lot","many","note"]
noncomputable def spcs:List (Nat×Nat):=[(2,1),(2,2),(2,3),(2,4),(3,1),(3,2),(3,3),(5,1),(5,2),(2,5),(2,6),(3,4),(5,3)]
noncomputable def qD(rs:List (List Int)):Bool:=Yp rs&&(ae (rs.length<=300)&&spcs.any λq=>rs.all λr=>ae (r.length=q.2)&&r.all λa=>ae<|0<=a/\a<(q.1:Int))
noncomputable def Za6(P:List (List Int)):Int:=ke<|d8<|P.map λr=>ke<|d8<|r.map PySem.hashInt
noncomputable def w4(ps:List (List<|List Int)):Bool:=Ys ps&&(ae (ps.length<=1399)&&ae (ps.map Za6).Nodup)
structure Fn where
 ps:Nat
 ns:Nat
 body:List Sm
end Ev
namespace Pv
open Ev
open PySem (Str)
noncomputable abbrev DS:=Int×Bool
inductive PR(m:Type) where
 |ok (a:m) (s:DS)|ex (c:Nat) (s:DS)|no
noncomputable def PR.bind{m β:Type}(r:PR m)(f:m->DS->PR β):PR β:=match r with
 |.ok a s=>f a s
 |.ex c s=>.ex c s
 |.no=>.no
noncomputable def PR.nox{m:Type}(r:PR m):PR m:=match r with
 |.ex _ _=>.no
 |r=>r
noncomputable def po{m:Type}(o:Option m)(s:DS):PR m:=match o with
 |some a=>.ok a s
 |none=>.no
abbrev Env:=List<|Option V
mutual
noncomputable def V.flat:V->Bool
 |.tup xs=>ZU xs
 |.lst _=>ai
 |.drw=>ai
 |.dct _=>ai
 |.dow _=>ai
 |_=>ag
noncomputable def ZU:List V->Bool
 |[]=>ag
 |x::xs=>x.flat&&ZU xs
end
mutual
noncomputable def ofD:V->Option V
 |.non=>aa .non
 |.bl b=>aa<|.bl b
 |.int i=>aa<|.int i
 |.str x=>aa<|.str x
 |.tup xs=>(Zbb xs).map .tup
 |_=>ab
noncomputable def Zbb:List V->Option (List V)
 |[]=>aa []
 |x::xs=>match ofD x,Zbb xs with
  |some a,aa b=>aa (a::b)
  |_,_=>ab
end
noncomputable def Zo:V->Option Bool
 |.non=>aa ai
 |.bl b=>aa b
 |.int i=>aa<|ae<|i≠0
 |.tup xs=>aa<|!xs.isEmpty
 |.lst xs=>aa<|!xs.isEmpty
 |_=>ab
noncomputable def Yh(f:V->V->Option Bool):List V->List V->Option Bool
 |[],[]=>aa ag
 |x::xs,y::ys=>match f x y,Yh f xs ys with
  |some a,aa b=>aa<|a&&b
  |_,_=>ab
 |_,_=>aa ai
noncomputable def eqV:Nat->V->V->Option Bool
 |0,_,_=>ab
 |k+1,x,y=>match x with
  |.non=>match y with
   |.non=>aa ag
   |.bl _|.int _|.str _=>aa ai
   |_=>ab
  |.bl a=>match y with
   |.bl b=>aa<|ae<|a=b
   |.int b=>aa<|ae<|b2i a=b
   |.non|.str _=>aa ai
   |_=>ab
  |.int a=>match y with
   |.int b=>aa<|ae<|a=b
   |.bl b=>aa<|ae<|a=b2i b
   |.non|.str _=>aa ai
   |_=>ab
  |.str a=>match y with
   |.str b=>aa<|ae<|a=b
   |.non|.bl _|.int _=>aa ai
   |_=>ab
  |.tup xs=>match y with
   |.tup ys=>Yh (eqV k) xs ys
   |_=>ab
  |.lst xs=>match y with
   |.lst ys=>if xs.length=ys.length then Yh (eqV k) xs ys else aa ai
   |_=>ab
  |_=>ab
noncomputable def XO(x:V):List V->Option Bool
 |[]=>aa ai
 |y::ys=>match eqV Zn y x,XO x ys with
  |some a,aa b=>aa (a||b)
  |_,_=>ab
noncomputable def ZbY(x:V)(xs:List V):Option Nat:=if XO x xs=aa ag then xs.findIdx? λy=>eqV Zn y x == aa ag else ab
noncomputable def YZ:V->Ty->Option Bool
 |.non,_=>aa ai
 |.bl _,t=>aa<|ae<|t=.bool\/t=.int
 |.int _,t=>aa<|ae<|t=.int
 |.str _,t=>aa<|ae<|t=.str
 |.tup _,t=>aa<|ae<|t=.tuple
 |.lst _,t=>aa<|ae<|t=.list
 |.dct (.inl _),t=>aa<|ae<|t=.dict
 |_,_=>ab
noncomputable def Z8(x:V):List Ty->Option Bool
 |[]=>aa ai
 |t::ts=>match YZ x t with
  |some ag=>aa ag
  |some ai=>Z8 x ts
  |none=>ab
noncomputable def ZW(xs:List V)(lo hi:Option Int):List V:=(xs.drop<|sIx xs.length 0 lo).take<|sIx xs.length xs.length hi-sIx xs.length 0 lo
noncomputable def VZ(op:Bop)(a b:Int)(s:DS):PR V:=match op with
 |.add=>.ok (.int<|a+b) s
 |.sub=>.ok (.int<|a-b) s
 |.mul=>if(fits a&&fits b)=ag then .ok (.int<|a*b) s else .no
 |.fdiv=>if 0<b/\b<Ev.big then .ok (.int<|a / b) s else .no
 |.mod=>if 0<b then .ok (.int<|a%b) s else .no
 |.pow=>if 0<=b/\b<=1000/\a.natAbs<2^64 then .ok (.int<|a^b.toNat) s else .no
noncomputable def Y6(op:Bop)(x y:V)(s:DS):PR V:=match x with
 |.int a=>match y with
  |.int b=>VZ op a b s
  |_=>.no
 |.tup a=>match y with
  |.tup b=>match op with
   |.add=>if a.length+b.length<=lim then .ok (.tup<|a++b) s else .no
   |_=>.no
  |.int b=>match op with
   |.mul=>if 0<=b/\b<1000/\a.length<=1000 then .ok (.tup (aA b.toNat a).flatten) s else .no
   |_=>.no
  |_=>.no
 |.lst a=>match y with
  |.lst b=>match op with
   |.add=>if a.length+b.length<=lim then .ok (.lst<|a++b) s else .no
   |_=>.no
  |.int b=>match op with
   |.mul=>if 0<=b/\b<1000/\a.length<=1000 then .ok (.lst (aA b.toNat a).flatten) s else .no
   |_=>.no
  |_=>.no
 |_=>.no
noncomputable def Zb5(op:Bop)(x y:V)(s:DS):PR V:=match x,y with
 |.int _,.int _=>Y6 op x y s
 |_,_=>.no
noncomputable def intsV:List V->Option (List Int)
 |[]=>aa []
 |.int i::r=>(intsV r).map (i :: ·)
 |_::_=>ab
noncomputable def WF(x y:V):Option Bool:=match y with
 |.tup ys=>XO x ys
 |.lst ys=>XO x ys
 |.dct (.inr ks)=>match x with
  |.tup k=>(intsV k).map λk=>ks.contains k
  |_=>ab
 |.dow ks=>match x with
  |.tup k=>(intsV k).map λk=>ks.contains k
  |_=>ab
 |_=>ab
noncomputable def WN:V->Bool
 |.non=>ag
 |_=>ai
noncomputable def Zd(r:List Int):V:=.tup<|r.map .int
noncomputable def Z4:List V->Option (List<|List Int)
 |[]=>aa []
 |.tup x::r=>match intsV x,Z4 r with
  |some a,aa b=>aa (a::b)
  |_,_=>ab
 |_::_=>ab
noncomputable def int2(x y:V):Option (Int×Int):=match x with
 |.int a=>match y with
  |.int b=>aa (a,b)
  |_=>ab
 |_=>ab
noncomputable def isV(x y:V):Option Bool:=match y with
 |.non=>aa<|WN x
 |.bl b=>match x with
  |.bl a=>aa<|ae<|a=b
  |_=>ab
 |_=>ab
noncomputable def Yq(op:Cop)(x y:V):Option V:=match op with
 |.eq=>(eqV Zn x y).map .bl
 |.ne=>(eqV Zn x y).map λb=>.bl !b
 |.lt=>match x with
  |.tup a=>match y with
   |.tup b=>(Z4 a).bind λP=>(Z4 b).map λQ=>.bl<|ltP P Q
   |_=>ab
  |x=>(int2 x y).map λz=>.bl<|ae<|z.1<z.2
 |.gt=>(int2 x y).map λz=>.bl<|ae<|z.2<z.1
 |.le=>(int2 x y).map λz=>.bl<|ae<|z.1<=z.2
 |.ge=>(int2 x y).map λz=>.bl<|ae<|z.2<=z.1
 |.is=>(isV x y).map .bl
 |.isn=>(isV x y).map λb=>.bl !b
 |.inn=>(WF x y).map .bl
 |.nin=>(WF x y).map λb=>.bl !b
noncomputable def ixV(x y:V):Option V:=match x,y with
 |.tup xs,.int i=>at' xs i
 |.lst xs,.int i=>at' xs i
 |.scr xs,.int i=>(at' xs i).map .int
 |_,_=>ab
noncomputable def slV(x:V)(lo hi:Option Int):Option V:=match x with
 |.tup xs=>aa<|.tup<|ZW xs lo hi
 |.lst xs=>aa<|.lst<|ZW xs lo hi
 |_=>ab
noncomputable def ZbB:V->Option V
 |.tup xs=>aa<|.tup xs.reverse
 |_=>ab
noncomputable def WZ:V->Option Bool
 |.non=>aa ai
 |.bl b=>aa b
 |.int i=>aa<|ae<|i≠0
 |_=>ab
noncomputable def ZH:List V->Option (List Bool)
 |[]=>aa []
 |x::xs=>match WZ x,ZH xs with
  |some b,aa bs=>aa (b::bs)
  |_,_=>ab
noncomputable def Zb(P:List (List Int)):V:=.tup<|P.map Zd
noncomputable def Zae:V->Option (List<|List Int)
 |.tup ks=>Z4 ks
 |_=>ab
noncomputable def Gj:List V->Option (List<|List<|List Int)
 |[]=>aa []
 |x::r=>match Zae x,Gj r with
  |some a,aa b=>aa (a::b)
  |_,_=>ab
noncomputable def Zch:List V->Bool
 |.tup (.int _::_)::_=>ag
 |_=>ai
noncomputable def Yl:V->Option (List V)
 |.tup xs=>aa xs
 |.lst xs=>aa xs
 |.scr ns=>aa<|ns.map .int
 |_=>ab
noncomputable def Zbw:V->Option (List V)
 |.dct (.inr ks)=>aa<|ks.map Zd
 |_=>ab
noncomputable def Z1(lo:Int)(n:Nat):List V:=(aY n).map λ(k:Nat)=>.int<|lo+(k:Int)
noncomputable def qt:V->Option (List Int)
 |.tup [.tup k,.bl b]=>if b=ag then intsV k else ab
 |_=>ab
noncomputable def XU:List V->Option (List<|List Int)
 |[]=>aa []
 |v::r=>(qt v).bind λa=>(XU r).map (a :: ·)
noncomputable def wc:List V->Option (List Nat)
 |[]=>aa []
 |.int i::r=>if 0<=i/\i<6 then(wc r).map (i.toNat :: ·)else ab
 |_=>ab
mutual
noncomputable def pdV:V->Option d6
 |.non=>aa .none
 |.bl b=>aa<|.bool b
 |.int i=>aa<|.int i
 |.str x=>aa<|.str x
 |.tup xs=>(Gk xs).map .tuple
 |.lst xs=>(Gk xs).map .list
 |.dct (.inl kvs)=>aa<|.dict<|kvs.map λp=>(.int p.1,.int p.2)
 |_=>ab
noncomputable def Gk:List V->Option (List d6)
 |[]=>aa []
 |x::xs=>(pdV x).bind λa=>(Gk xs).map (a :: ·)
end
mutual
noncomputable def noL:V->Bool
 |.lst _=>ai
 |.tup xs=>x4 xs
 |_=>ag
noncomputable def x4:List V->Bool
 |[]=>ag
 |x::xs=>noL x&&x4 xs
end
noncomputable def z9(x:V)(d:d6):Bool:=d.showable&&(d.leavesShort 60&&(ae (d.bulk<=200000)&&(ae (d.depth<=20)&&(!d.hasDict||noL x))))
noncomputable def blt1(f:Bf)(x:V):Option V:=match f with
 |.len=>(Yl x).map λxs=>.int xs.length
 |.toInt=>match x with
  |.int a=>aa<|.int a
  |.bl b=>aa<|.int<|b2i b
  |_=>ab
 |.tuple=>(Yl x).map .tup
 |.list=>(Yl x).map .lst
 |.all=>match x with
  |.lst xs=>(ZH xs).map λbs=>.bl<|bs.all id
  |_=>ab
 |.any=>(Yl x).bind λxs=>(ZH xs).map λbs=>.bl<|bs.any id
 |.sum=>match x with
  |.lst xs=>(intsV xs).bind λis=>if Za2 is=ag then aa (.int is.sum)else ab
  |_=>ab
 |.sorted=>match x with
  |.lst xs=>if Zch xs=ag then(Z4 xs).bind λrs=>if Yp rs=ag then aa (.lst<|(ZR rs).map Zd)else ab else(Gj xs).bind λps=>if Ys ps=ag then aa (.lst<|(Xe ltP ps).map Zb)else ab
  |_=>ab
 |.sortedR=>match x with
  |.lst xs=>(Z4 xs).bind λrs=>if Yp rs=ag then aa (.lst<|(ZR rs).reverse.map Zd)else ab
  |_=>ab
 |.rangeT=>match x with
  |.int i=>if few i then aa (.tup<|Z1 0 i.toNat)else ab
  |_=>ab
 |.rangeL=>match x with
  |.int i=>if few i then aa (.lst<|Z1 0 i.toNat)else ab
  |_=>ab
 |.listD=>match x with
  |.dow ks=>aa<|.lst<|ks.map Zd
  |_=>ab
 |.sortedD=>match x with
  |.dow ks=>if Yp ks=ag then aa (.lst<|(ZR ks).map Zd)else ab
  |_=>ab
 |.sortedS=>match x with
  |.lst xs=>(wc xs).map λks=>.lst (((aY 6).filter ks.contains).map λk:Nat=>.int k)
  |_=>ab
 |.sortedU=>match x with
  |.lst xs=>(Gj xs).bind λps=>if w4 ps=ag then aa (.lst<|(Xe ltP ps).map Zb)else ab
  |_=>ab
 |.sortedT=>match x with
  |.lst xs=>(Z4 xs).bind λrs=>if qD rs=ag then aa (.lst<|(ZR rs).map Zd)else ab
  |_=>ab
 |.strI=>match x with
  |.int i=>if 0<=i/\i<10 then aa (.str<|toString i)else ab
  |_=>ab
 |.repr=>(pdV x).bind λd=>if z9 x d=ag then aa (.str d.shown)else ab
 |.dictP=>match x with
  |.lst xs=>(XU xs).bind λks=>if W9 ks=ag then aa (.dct<|.inr ks)else ab
  |_=>ab
 |_=>ab
noncomputable def qq:List V->Option (List bc)
 |[]=>aa []
 |.str x::r=>(qq r).map (x :: ·)
 |_::_=>ab
noncomputable def xO(xs:List bc):Bool:=ae (xs.length<=1000)&&xs.all λx=>ae<|x.length<=1000
noncomputable def Zbd(x:bc):List V:=x.cps.toList.map λc=>.str ⟨#[c]⟩
noncomputable def Zcg(f:So)(x y:V):Option V:=match x with
 |.str a=>match f with
  |.join=>match y with
   |.lst xs=>(qq xs).bind λts=>if(xO ts&&xO [a])=ag then aa (.str<|PySem.Txt.join a ts)else ab
   |_=>ab
  |.split=>match y with
   |.str b=>if b.length=1/\a.length<=1000000 then aa (.lst<|(PySem.Txt.split a b).map .str)else ab
   |_=>ab
  |.find=>match y with
   |.str b=>if a.length<=1000 then aa (.int<|PySem.Txt.find a b)else ab
   |_=>ab
  |.ix=>match y with
   |.int i=>if a.length<=1000 then(at' a.cps.toList i).map λc=>.str ⟨#[c]⟩else ab
   |_=>ab
 |_=>ab
noncomputable def ZbM:V->Option (List V)
 |.str x=>if x.cps.all (· < 128)=ag then aa (Zbd x)else ab
 |_=>ab
noncomputable def Q2:V->Option Int
 |.int a=>aa a
 |_=>ab
noncomputable def ZbR:V->Option (List V)
 |.lst a=>aa a
 |_=>ab
noncomputable def blt2(f:Bf)(x y:V):Option V:=match f with
 |.index=>(ZbR x).bind λxs=>(ZbY y xs).map λj:Nat=>.int j
 |.max2=>(Q2 x).bind λa=>(Q2 y).bind λb=>aa<|.int (if b>a then b else a)
 |.min2=>(Q2 x).bind λa=>(Q2 y).bind λb=>aa<|.int (if b<a then b else a)
 |_=>ab
def VG{x:V}:blt1 .len x=(Yl x).map λxs=>.int xs.length:=rfl
def Yt{op:Bop}{a b:Int}{s:DS}:Y6 op (.int a) (.int b) s=VZ op a b s:=rfl
def vW{a b:List V}{s:DS}:Y6 .add (.lst a) (.lst b) s=if a.length+b.length<=lim then .ok (.lst<|a++b) s else .no:=rfl
def xC{k:Nat}:eqV (k+1) .non .non=aa ag:=rfl
def wC{k:Nat}{a:Int}:eqV (k+1) (.int a) .non=aa ai:=rfl
def WS{x:V}{a:Int}(h:Q2 x=aa a):x=.int a:=by cases x<;>first|exact Ev.nos h|(cases h;rfl)
noncomputable def Xs(f:Bf)(as:List V):Option V:=match as with
 |[x]=>blt1 f x
 |[x,y]=>blt2 f x y
 |_=>ab
noncomputable def YE:List Nat->List V->Env->Option Env
 |[],[],O=>aa O
 |i::t,x::xs,O=>YE t xs<|O.set i<|aa x
 |_,_,_=>ab
noncomputable def yI:V->Option (List V)
 |.tup xs=>aa xs
 |.lst xs=>aa xs
 |_=>ab
noncomputable def Zk(t:List Nat)(x:V)(O:Env):Option Env:=match t with
 |[i]=>aa<|O.set i<|aa x
 |t=>match yI x with
  |some xs=>YE t xs O
  |none=>ab
abbrev ZB:=Nat->List V->DS->PR V
noncomputable def Z6(cap:List Nat)(nl:Nat)(O:Env):Env:=aA nl ab++cap.map λi=>(O[i]?).join
noncomputable def mapP(f:V->DS->PR (List V)):List V->DS->PR (List V)
 |[],s=>.ok [] s
 |x::xs,s=>match f x s with
  |.ok ys s=>match mapP f xs s with
   |.ok zs s=>.ok (ys++zs) s
   |_=>.no
  |_=>.no
noncomputable def ZbW(w:Bool)(c:Nat):V:=if w then .str (Zap.getD c "")else .int c
noncomputable def own(nl:Nat)(t:List Nat):Bool:=t.all λi=>ae<|i<nl
noncomputable def own2(nl:Nat)(t u:List Nat):Bool:=own nl t&&u.all λi=>ae (i<nl) && !t.contains i
mutual
noncomputable def pv(C:ZB):E->Env->DS->PR V
 |.c d,_,s=>po (ofD d) s
 |.v i,O,s=>po (O[i]?).join s
 |.tup es,O,s=>(pvs C es O s).bind λxs s=>if xs.length<=lim then .ok (.tup xs) s else .no
 |.lst es,O,s=>(pvs C es O s).bind λxs s=>if xs.length<=lim then .ok (.lst xs) s else .no
 |.dnew,_,s=>.ok (.dct<|.inl []) s
 |.dput1 k v,O,s=>(pv C k O s).bind λx s=>(pv C v O s).bind λy s=>match x,y with
  |.int a,.int b=>.ok (.dct<|.inl [(a,b)]) s
  |_,_=>.no
 |.bin op a b,O,s=>(pv C a O s).bind λx s=>(pv C b O s).bind λy s=>Y6 op x y s
 |.neg a,O,s=>(pv C a O s).bind λx s=>match x with
  |.int i=>.ok (.int<|-i) s
  |_=>.no
 |.not a,O,s=>(pv C a O s).bind λx s=>(po (Zo x) s).bind λb s=>.ok (.bl !b) s
 |.and a b,O,s=>(pv C a O s).bind λx s=>match x with
  |.bl c=>if c then pv C b O s else .ok (.bl ai) s
  |_=>.no
 |.or a b,O,s=>(pv C a O s).bind λx s=>match x with
  |.bl c=>if c then .ok (.bl ag) s else pv C b O s
  |_=>.no
 |.ite t a b,O,s=>(pv C t O s).bind λx s=>(po (Zo x) s).bind λc s=>if c then pv C a O s else pv C b O s
 |.cmp op a b,O,s=>(pv C a O s).bind λx s=>(pv C b O s).bind λy s=>po (Yq op x y) s
 |.chain o p a b d,O,s=>(pv C a O s).bind λx s=>(pv C b O s).bind λy s=>(po (Yq o x y) s).bind λz s=>match z with
  |.bl c=>if c then(pv C d O s).bind λw s=>po (Yq p y w) s else .ok (.bl ai) s
  |_=>.no
 |.ix a i,O,s=>(pv C a O s).bind λx s=>(pv C i O s).bind λy s=>po (ixV x y) s
 |.sl a lo hi,O,s=>(pv C a O s).bind λx s=>(pvo C lo O s).bind λl s=>(pvo C hi O s).bind λh s=>po (slV x l h) s
 |.rev a,O,s=>(pv C a O s).bind λx s=>po (ZbB x) s
 |.call f as,O,s=>(pvs C as O s).bind λxs s=>C f xs s
 |.blt f as,O,s=>(pvs C as O s).bind λxs s=>po (Xs f xs) s
 |.mt _ _ _,_,_=>.no
 |.isi a ts,O,s=>(pv C a O s).bind λx s=>(po (Z8 x ts) s).bind λb s=>.ok (.bl b) s
 |.inT a tab,O,s=>(pv C a O s).bind λx s=>match x with
  |.int i=>.ok (.bl ((tab.map (·.1)).contains i)) s
  |_=>.no
 |.getT tab a,O,s=>(pv C a O s).bind λx s=>match x with
  |.int i=>(po (tab.lookup i) s).bind λj s=>.ok (.int j) s
  |_=>.no
 |.comp1 cap nl t it ifs elt,O,s=>if own nl t=ag then(pvw C it O s).bind λw s=>
   ((mapP (λx s=>(po (Zk t x<|Z6 cap nl O) s).bind λU s=>(pvt C ifs U s).bind λb s=>if b then(pv C elt U s).bind λy s=>.ok [y] s else .ok [] s) w s).bind
    λys s=>if ys.length<=lim then .ok (.lst ys) s else .no).nox
  else .no
 |.comp2 cap nl t it ifs u jt jfs elt,O,s=>if own2 nl t u=ag then(pvw C it O s).bind λw s=>
   ((mapP (λx s=>(po (Zk t x<|Z6 cap nl O) s).bind λU s=>(pvt C ifs U s).bind λb s=>if b then
    (pvw C jt U s).bind λw2 s=>mapP (λx s=>(po (Zk u x U) s).bind λU s=>(pvt C jfs U s).bind λb s=>if b then(pv C elt U s).bind λy s=>.ok [y] s else .ok [] s) w2 s
    else .ok [] s) w s).bind
    λys s=>if ys.length<=lim then .ok (.lst ys) s else .no).nox
  else .no
 |.fi a,O,s=>(pv C a O s).bind λx s=>match x with
  |.int i=>if Xr i=ag then .ok (.int i) s else .no
  |_=>.no
 |.refu w e,O,s=>match pv C e O s with
  |.ok _ s=>.ok .non s
  |.ex c s=>if 1<=c/\c<=10 then .ok (ZbW w<|c-1) s else .no
  |.no=>.no
 |.dix a k,O,s=>(pv C a O s).bind λx s=>match x with
  |.drw=>.ok (if k then .bl s.2 else .int s.1) s
  |_=>.no
 |.callF f as,O,s=>(pvs C as O s).bind λxs s=>C f xs s
 |.sop f a b,O,s=>(pv C a O s).bind λx s=>(pv C b O s).bind λy s=>po (Zcg f x y) s
noncomputable def pvs(C:ZB):List E->Env->DS->PR (List V)
 |[],_,s=>.ok [] s
 |e::es,O,s=>(pv C e O s).bind λx s=>(pvs C es O s).bind λxs s=>.ok (x::xs) s
noncomputable def pvo(C:ZB):Option E->Env->DS->PR (Option Int)
 |none,_,s=>.ok ab s
 |some e,O,s=>(pv C e O s).bind λx s=>match x with
  |.int i=>.ok (aa i) s
  |_=>.no
noncomputable def pvt(C:ZB):List E->Env->DS->PR Bool
 |[],_,s=>.ok ag s
 |e::es,O,s=>(pv C e O s).bind λx s=>(po (Zo x) s).bind λb s=>if b then pvt C es O s else .ok ai s
noncomputable def pvw(C:ZB):W->Env->DS->PR (List V)
 |.rng1 a,O,s=>(pv C a O s).bind λx s=>match x with
  |.int i=>if Xr i then .ok (Z1 0 i.toNat) s else .no
  |_=>.no
 |.rng2 a b,O,s=>(pv C a O s).bind λx s=>(pv C b O s).bind λy s=>match x,y with
  |.int i,.int j=>if(Xr i&&Xr j)=ag then .ok (Z1 i (j-i).toNat) s else .no
  |_,_=>.no
 |.rrng a b,O,s=>(pv C a O s).bind λx s=>(pv C b O s).bind λy s=>match x,y with
  |.int i,.int j=>if(Xr i&&Xr j)=ag then .ok (Z1 i (j-i).toNat).reverse s else .no
  |_,_=>.no
 |.rtup a,O,s=>(pv C a O s).bind λx s=>match x with
  |.tup xs=>.ok xs.reverse s
  |_=>.no
 |.zip a b,O,s=>(pv C a O s).bind λx s=>(pv C b O s).bind λy s=>match Yl x,Yl y with
  |some v,aa w=>.ok ((v.zip w).map λp=>.tup [p.1,p.2]) s
  |_,_=>.no
 |.enum a,O,s=>(pv C a O s).bind λx s=>match Yl x with
  |some w=>.ok (((Z1 0 w.length).zip w).map λp=>.tup [p.1,p.2]) s
  |none=>.no
 |.of e,O,s=>(pv C e O s).bind λx s=>po (Yl x) s
 |.dk e,O,s=>(pv C e O s).bind λx s=>po (Zbw x) s
 |.sgn e,O,s=>(pv C e O s).bind λx s=>po (ZbM x) s
end
inductive FlV where|nx (O:Env) (os:List Nat)|ret (v:V)|brk (O:Env) (os:List Nat)|cnt (O:Env) (os:List Nat)
noncomputable def hide(os:List Nat)(O:Env):Env:=O.mapIdx λi o=>if os.contains i then ab else o
noncomputable def fresh:E->Bool
 |.lst _=>ag
 |.comp1 .. => ag
 |.comp2 .. => ag
 |.bin .mul (.lst _) _=>ag
 |.blt .list _=>ag
 |.blt .sorted _=>ag
 |.blt .rangeL _=>ag
 |.blt .listD _=>ag
 |.blt .sortedD _=>ag
 |.blt .sortedS _=>ag
 |.blt .sortedT _=>ag
 |.blt .sortedU _=>ag
 |.callF _ _=>ag
 |_=>ai
noncomputable def zg:V->Bool
 |.lst xs=>ZU xs
 |_=>ai
noncomputable def pvA(C:ZB)(e:E)(O:Env)(os:List Nat)(s:DS):PR V:=match os with
 |[]=>pv C e O s
 |os=>match pv C e (hide os O) s with
  |.ok v s=>.ok v s
  |.ex c s=>.ex c s
  |.no=>(pv C e O s).bind λv s=>if(v.flat||fresh e&&zg v)=ag then .ok v s else .no
noncomputable def Zb1(C:ZB)(es:List E)(O:Env)(os:List Nat)(s:DS):PR (List V):=match os with
 |[]=>pvs C es O s
 |os=>match pvs C es (hide os O) s with
  |.ok v s=>.ok v s
  |.ex c s=>.ex c s
  |.no=>(pvs C es O s).bind λv s=>if ZU v then .ok v s else .no
noncomputable def Xp(C:ZB)(e:E)(O:Env)(s:DS):PR Bool:=(pv C e O s).bind λx s=>po (Zo x) s
noncomputable def YH(body:V->Env->List Nat->DS->PR FlV):List V->Env->List Nat->DS->PR FlV
 |[],O,os,s=>.ok (.nx O os) s
 |x::xs,O,os,s=>(body x O os s).bind λf s=>match f with
  |.nx O os=>YH body xs O os s
  |.cnt O os=>YH body xs O os s
  |.brk O os=>.ok (.nx O os) s
  |.ret v=>.ok (.ret v) s
noncomputable def J9(test:Env->DS->PR Bool)(body:Env->List Nat->DS->PR FlV):Nat->Env->List Nat->DS->PR FlV
 |0,_,_,_=>.no
 |n+1,O,os,s=>(test O s).bind λb s=>if b then(body O os s).bind λf s=>match f with
  |.nx O os=>J9 test body n O os s
  |.cnt O os=>J9 test body n O os s
  |.brk O os=>.ok (.nx O os) s
  |.ret v=>.ok (.ret v) s
  else .ok (.nx O os) s
noncomputable def okS(x:Int)(b:Bool):Bool:=ae (0<=x)&&(b||decide (x<2147483647))
noncomputable def Vz:V->Option DS
 |.lst [.int a,.bl b]=>if okS a b=ag then aa (a,b)else ab
 |_=>ab
noncomputable def WL(o:Option V):Option V:=o.filter V.flat
noncomputable def Wc(i:Nat)(O:Env):Env:=(O.take i).map WL++aA (O.length-i) ab
noncomputable def ZaU:Option (Option V)->Option (List<|List Int)
 |some (aa<|.dow ks)=>aa ks
 |_=>ab
noncomputable def Zci(ks:List (List Int))(k:List Int):List (List Int):=if ks.contains k then ks else ks++[k]
noncomputable def Zbo:V->Option (List Int)
 |.tup k=>intsV k
 |_=>ab
noncomputable def isT:V->Bool
 |.bl ag=>ag
 |_=>ai
noncomputable def XI:Option (Option V)->Option (List V)
 |some (aa<|.lst xs)=>aa xs
 |_=>ab
noncomputable def Zaq(O:Env)(i j k:Nat)(v:V):Option (List V):=match v with
 |.tup [a,b]=>if ZU [a,b]=ag then(XI O[i]?).bind λxs=>(O[j]?).join.bind λy=>(Q2 y).bind λn=>(ixN xs.length n).bind λn=>(O[k]?).join.bind λz=>(Q2 z).bind λm=>(ixN xs.length m).map λm=>(xs.set n a).set m b else ab
 |_=>ab
mutual
noncomputable def rv(C:ZB)(ms:List Nat):Sm->Env->List Nat->DS->PR FlV
 |.asg [i] e,O,os,s=>(pvA C e O os s).bind λv s=>if(ms.contains i&&fresh e)=ag then match v with
   |.lst xs=>if ZU xs=ag/\i<O.length then .ok (.nx (O.set i<|aa v) (i::os.filter (· != i))) s else .no
   |_=>.no
  else .ok (.nx (O.set i<|aa v) (os.filter (· != i))) s
 |.asg t e,O,os,s=>(pvA C e O os s).bind λv s=>if(t.any os.contains)=ag then .no else(po (Zk t v O) s).bind λO s=>.ok (.nx O os) s
 |.par t es,O,os,s=>(Zb1 C es O os s).bind λvs s=>if(t.any os.contains)=ag then .no else(po (YE t vs O) s).bind λO s=>.ok (.nx O os) s
 |.aug i op e,O,os,s=>if os.contains i then .no else(po (O[i]?).join s).bind λx s=>(pv C e O s).bind λy s=>(Zb5 op x y s).bind λz s=>.ok (.nx (O.set i<|aa z) os) s
 |.put (.v i) k e,O,os,s=>if os.contains i then(pv C e O s).bind λv s=>if v.flat then(po (XI O[i]?) s).bind λxs s=>(pv C k O s).bind λy s=>match y with
   |.int n=>(po (ixN xs.length n) s).bind λj s=>.ok (.nx (O.set i<|aa<|.lst<|xs.set j v) os) s
   |_=>.no
  else .no else .no
 |.put _ _ _,_,_,_=>.no
 |.dput (.v i) k e,O,os,s=>if os.contains i then(pv C e O s).bind λv s=>if isT v=ag then(po (ZaU O[i]?) s).bind λks s=>(pv C k O s).bind λy s=>(po (Zbo y) s).bind λr s=>if ks.length<lim then .ok (.nx (O.set i<|aa<|.dow<|Zci ks r) os) s else .no
  else .no else .no
 |.dput _ _ _,_,_,_=>.no
 |.ret e,O,os,s=>(pv C e O s).bind λv s=>.ok (.ret v) s
 |.ex (.mt .append (.v i) [e]),O,os,s=>if os.contains i then(po (XI O[i]?) s).bind λxs s=>(pv C e O s).bind λv s=>if v.flat=ag/\xs.length<lim then .ok (.nx (O.set i<|aa<|.lst<|xs++[v]) os) s else .no else .no
 |.ex (.mt .extend (.v i) [e]),O,os,s=>if os.contains i then(po (XI O[i]?) s).bind λxs s=>(pv C e (hide os O) s).bind λv s=>match v with
   |.lst ys=>if ZU ys=ag/\xs.length+ys.length<=lim then .ok (.nx (O.set i<|aa<|.lst<|xs++ys) os) s else .no
   |_=>.no
  else .no
 |.ex e,O,os,s=>(pv C e O s).bind λ_ s=>.ok (.nx O os) s
 |.ite t a b,O,os,s=>(Xp C t O s).bind λc s=>if c then rvs C ms a O os s else rvs C ms b O os s
 |.forr t it b,O,os,s=>(pvw C it (hide os O) s).bind λw s=>YH (λx O os s=>if(t.any os.contains)=ag then .no else(po (Zk t x O) s).bind λO s=>rvs C ms b O os s) w O os s
 |.whl t b,O,os,s=>J9 (Xp C t) (rvs C ms b) y9 O os s
 |.raise c as,O,os,s=>(pvs C as O s).bind λ_ s=>.ex c s
 |.pas,O,os,s=>.ok (.nx O os) s
 |.brk,O,os,s=>.ok (.brk O os) s
 |.cnt,O,os,s=>.ok (.cnt O os) s
 |.mov i j,O,os,s=>if(os.contains j&&(!os.contains i&&ae (i≠j)))=ag then(po (XI O[j]?) s).bind λxs s=>.ok (.nx ((O.set i<|aa<|.lst xs).set j ab) (os.filter (· != j))) s else .no
 |.dset i e,O,os,s=>(pv C e O s).bind λv s=>match v with
  |.int x=>if okS x s.2=ag then match(O[i]?).join with
   |some .drw=>.ok (.nx O os) (x,s.2)
   |_=>.no
   else .no
  |_=>.no
 |.cel i f as b,O,os,s=>if os.isEmpty=ag then(pvs C as O s).bind λxs s=>(C f xs s).bind λv s=>(po (Vz v) s).bind λd s=>match rvs C ms b ((Wc i O).set i<|aa .drw) [] d with
  |.ok (.nx O _) _=>.ok (.nx (O.map WL) []) s
  |.ok (.cnt O _) _=>.ok (.cnt (O.map WL) []) s
  |.ok (.brk O _) _=>.ok (.brk (O.map WL) []) s
  |.ok (.ret v) _=>if v.flat=ag then .ok (.ret v) s else .no
  |_=>.no
  else .no
 |.retO i,O,os,s=>if os.contains i then(po (XI O[i]?) s).bind λxs s=>.ok (.ret<|.lst xs) s else .no
 |.dnw i k,O,os,s=>(pv C k O s).bind λy s=>(po (Zbo y) s).bind λr s=>if i<O.length then .ok (.nx (O.set i<|aa<|.dow [r]) (i::os.filter (· != i))) s else .no
 |.swp i j k,O,os,s=>if os.contains i then(pv C (.tup [.ix (.v i)<|.v k,.ix (.v i)<|.v j]) O s).bind λv s=>(po (Zaq O i j k v) s).bind λxs s=>.ok (.nx (O.set i<|aa<|.lst xs) (os.filter (· != i))) s else .no
 |.lnw i es,O,os,s=>(pvs C es (hide os O) s).bind λxs s=>if xs.length<=lim/\i<O.length then .ok (.nx (O.set i<|aa<|.lst xs) (i::os.filter (· != i))) s else .no
 |.cat i es,O,os,s=>if os.contains i then(po (XI O[i]?) s).bind λxs s=>(pvs C es (hide os O) s).bind λys s=>if ys.length<=lim/\xs.length+ys.length<=lim/\i<O.length then .ok (.nx (O.set i<|aa<|.lst<|xs++ys) (i::os.filter (· != i))) s else .no else .no
 |.app i e,O,os,s=>if os.contains i then(po (XI O[i]?) s).bind λxs s=>(pv C e (hide os O) s).bind λv s=>if xs.length<lim then .ok (.nx (O.set i<|aa<|.lst<|xs++[v]) os) s else .no else .no
 |.forF t e b,O,os,s=>(pvA C e O os s).bind λv s=>match v with
  |.lst w=>YH (λx O os s=>if(t.any os.contains)=ag then .no else(po (Zk t x O) s).bind λO s=>rvs C ms b O os s) w O os s
  |_=>.no
noncomputable def rvs(C:ZB)(ms:List Nat):List Sm->Env->List Nat->DS->PR FlV
 |[],O,os,s=>.ok (.nx O os) s
 |m::ss,O,os,s=>(rv C ms m O os s).bind λf s=>match f with
  |.nx O os=>rvs C ms ss O os s
  |f=>.ok f s
end
mutual
noncomputable def Je:Sm->List Nat
 |.put (.v i) _ _=>[i]
 |.ex (.mt .append (.v i) _)=>[i]
 |.ex (.mt .extend (.v i) _)=>[i]
 |.ite _ a b=>muts a++muts b
 |.forr _ _ b=>muts b
 |.whl _ b=>muts b
 |.cel _ _ _ b=>muts b
 |.retO i=>[i]
 |.swp i _ _=>[i]
 |.dput (.v i) _ _=>[i]
 |.forF _ _ b=>muts b
 |_=>[]
noncomputable def muts:List Sm->List Nat
 |[]=>[]
 |m::ss=>Je m++muts ss
end
def JD:muts []=[]:=rfl
def Um{m:Sm}{ss:List Sm}:muts (m::ss)=Je m++muts ss:=rfl
def wf{t:List Nat}{e:E}:Je (.asg t e)=[]:=rfl
def ww{e:E}:Je (.ret e)=[]:=rfl
def xn{e:E}{a b:List Sm}:Je (.ite e a b)=muts a++muts b:=rfl
noncomputable def ZM(n:Nat)(xs:List V):Env:=xs.map aa++aA (n-xs.length) ab
noncomputable def Xi(s:DS)(m:Int):Int×DS:=
 if s.2 then(s.1%m,(s.1 / m,ag))else
  let x:=(s.1*48271+29)%2147483647
  let y:=(x*x+39373*x+7)%2147483629
  let z:=(y*y+16807*y)%2147483587
  (z / 8%m,(x,ai))
noncomputable def qv(vs:List V)(s:DS):PR V:=match vs with
 |[.drw,.int m]=>if 0<m/\m<1073741824 then .ok (.int (Xi s m).1) (Xi s m).2 else .no
 |_=>.no
noncomputable def Zl(F:List Fn)(tk:Nat):Nat->ZB
 |0,_,_,_=>.no
 |d+1,f,xs,s=>if f=tk then qv xs s else match F[f]? with
  |some fn=>if xs.length=fn.ps then(rvs (Zl F tk d) (muts fn.body) fn.body (ZM fn.ns xs) [] s).bind λf s=>match f with
    |.ret v=>.ok v s
    |.nx _ _=>.ok .non s
    |_=>.no
   else .no
  |none=>.no
end Pv
namespace Sd
open PySem PySem.Spec PyProof.Rows L2
open Ev (E Sm Fn Bop Cop Ty Bf Mf)
noncomputable abbrev D:=Pv.V
noncomputable abbrev Zp:=Pv.DS
noncomputable abbrev Lc:=Pv.Env
noncomputable abbrev R:=Pv.PR
noncomputable abbrev Calls:=Pv.ZB
structure Mx where
 K:aj
 n0:Option aB
 X:aB->Prop
 xz:∀a,n0=aa a->X a
def Scr(K:aj)(H:Hp)(a:aB)(ns:List Int):Prop:=
 (∃o,H a=aa (.frz o<|.lst<|ns.map V.int))\/
  ∃(o:dJ)(its:Array am)(n:Nat),K.lookup a=aa o/\o.cls=.type "list"/\o.dict=ab/\o.data=.seq its n/\its.size<=aQ/\Vals (ns.map V.int) its.toList
def Scr.sq{K:aj}{H:Hp}{a:aB}{ns:List Int}(h:Scr K H a ns):SqL K H a (ns.map V.int):=by
 rcases h with⟨o,h⟩|h
 .exact .inl<|.inr #[o,h]
 .exact .inr h
def Dct(H:Hp)(a:aB):Sum (List<|Int×Int) (List<|List Int)->Prop
 |.inl kvs=>H a=aa (.dK<|kvs.map λp=>(bU p.1,V.int p.2))
 |.inr ks=>∃o vs,H a=aa (.frz o<|.dT vs)/\vs.map (·.1)=ks.map (·.map bU)
mutual
def Rep(O:Mx)(H:Hp):D->V->Prop
 |.non,v=>v=.non
 |.bl b,v=>v=.bl b
 |.int i,v=>v=.int i
 |.str x,v=>v=.str x
 |.tup ds,v=>∃a xs,v=.ref a/\H a=aa (.tup xs)/\Rq O H ds xs
 |.lst ds,v=>∃a xs,v=.ref a/\H a=aa (.lst xs)/\¬O.X a/\Rq O H ds xs
 |.drw,v=>∃a,v=.ref a/\O.n0=aa a
 |.dct o,v=>∃a,v=.ref a/\Dct H a o
 |.scr ns,v=>∃a,v=.ref a/\Scr O.K H a ns
 |.dow ks,v=>∃a vs,v=.ref a/\H a=aa (.dT vs)/\¬O.X a/\vs.map (·.1)=ks.map (·.map bU)
def Rq(O:Mx)(H:Hp):List D->List V->Prop
 |[],xs=>xs=[]
 |d::ds,xs=>∃v vs,xs=v::vs/\Rep O H d v/\Rq O H ds vs
end
structure Fut(O:Mx)(H:Hp)(ρ':Mx)(H':Hp):Prop where
 eq:ρ'=O
 keep:∀a o,H a=aa o->H' a=aa o\/(O.n0=aa a/\∃xs,o=.lst xs)\/((∃ps,o=.tbl ps)/\∃ps,H' a=aa (.tbl ps))
def Fut.refl(O:Mx)(H:Hp):Fut O H O H:=#[rfl,λ_ _ h=>.inl h]
def Fut.trans{O ρ1 ρ2:Mx}{H H1 H2:Hp}(a:Fut O H ρ1 H1)(b:Fut ρ1 H1 ρ2 H2):Fut O H ρ2 H2:=by
 obtain⟨rfl,f⟩:=a;obtain⟨rfl,g⟩:=b;refine#[rfl,λa o h=>(f a o h).elim (λh=>g a o h) λz=>z.elim (λz=>.inr<|.inl z) λ#[e,ps,h]=>?_]
 rcases g a _ h with q|⟨_,xs,q⟩|⟨_,q⟩
 .exact .inr<|.inr #[e,ps,q]
 .cases q
 .exact .inr<|.inr #[e,q]
def Fut.there(f:Fut O H ρ' H')(n:O.n0≠.some a)(h:H a≠ab):H' a≠ab:=by
 obtain⟨o,e⟩:=Option.ne_none_iff_exists'.mp h;rcases f.keep a o e with q|q|⟨_,_,q⟩
 .rw[q];intro z;cases z
 .exact T7 q.1 n
 .rw[q];intro z;cases z
def Fut.new(f:Fut O H ρ' H')(h:H' a=ab)(xd:∀a,O.X a->H' a≠ab):H a=ab:=by
 cases q:H a with
 |none=>rfl
 |some o=>
  rcases f.keep a o q with e|e|⟨_,_,e⟩
  .rw[h]at e;cases e
  .exact T7 h<|xd a<|O.xz a e.1
  .rw[h]at e;cases e
structure Lat(O:Mx)(H:Hp)(ρ':Mx)(H':Hp):Prop where
 K:ρ'.K=O.K
 n0:ρ'.n0=O.n0
 keep':∀a o,H a=aa o->(∀xs,o=.lst xs->¬O.X a)->(∀ps,o≠.tbl ps)->(∀vs,o=.dT vs->¬O.X a)->H' a=aa o
 X:∀a,H a≠ab->ρ'.X a->O.X a
def Lat.keep(f:Lat O H ρ' H')(a:aB)(o:HO)(h:H a=aa o)(x:∀xs,o=.lst xs->¬O.X a)(n:∀ps,o≠.tbl ps:=by intro _ z;cases z)(m:∀vs,o=.dT vs->¬O.X a:=by intro _ z;cases z):H' a=aa o:=f.keep' a o h x n m
mutual
theorem Rep.lat{O ρ':Mx}{H H':Hp}(f:Lat O H ρ' H'):∀{d:D}{v:V},Rep O H d v->Rep ρ' H' d v
 |.non,_,h|.bl _,_,h|.int _,_,h|.str _,_,h=>by unfold Rep at h ⊢;exact h
 |.tup ds,v,h=>by
  unfold Rep at h ⊢;obtain⟨a,xs,e,t,r⟩:=h;exact#[a,xs,e,f.keep a _ t (λ_ z=>by cases z),r.lat f]
 |.lst ds,v,h=>by
  unfold Rep at h ⊢;obtain⟨a,xs,e,t,x,r⟩:=h;exact#[a,xs,e,f.keep a _ t λ_ _=>x,λz=>x (f.X a (by rw[t];intro z;cases z) z),r.lat f]
 |.drw,v,h=>by unfold Rep at h ⊢;rw[f.n0];exact h
 |.dct o,v,h=>by
  unfold Rep at h ⊢;obtain⟨a,e,t⟩:=h;refine#[a,e,?_];cases o with|inl kvs=>exact f.keep a _ t λ_ z=>by cases z|inr ks=>obtain⟨o,vs,t,q⟩:=t;exact#[o,vs,f.keep a _ t (λ_ z=>by cases z),q]
 |.scr ns,v,h=>by
  unfold Rep at h ⊢;obtain⟨a,e,t⟩:=h;rw[f.K];refine#[a,e,?_];rcases t with⟨o,t⟩|t
  .exact .inl #[o,f.keep a _ t λ_ z=>by cases z]
  .exact .inr t
 |.dow ks,v,h=>by
  unfold Rep at h ⊢;obtain⟨a,vs,e,t,x,q⟩:=h;exact#[a,vs,e,f.keep a _ t (λ_ z=>by cases z) (by intro _ z;cases z) λ_ _=>x,λz=>x (f.X a (by rw[t];intro z;cases z) z),q]
theorem Rq.lat(f:Lat O H ρ' H'):∀{ds:List D}{xs:List V},Rq O H ds xs->Rq ρ' H' ds xs
 |[],_,h=>by exact h
 |d::ds,xs,h=>by
  obtain⟨v,vs,e,r,rs⟩:=h;exact#[v,vs,e,r.lat f,rs.lat f]
end
noncomputable def ZbH:bc:="law.<locals>.<lambda>"
def Tb(H:Hp):Prop:=∀(P:aB)(ps:Array am),H P=aa (.tbl ps)->TriplesOk ps.toList/\∀(pos:fA)(cv:am),codeAmong pos ps.toList=aa cv->
 ∃(c:aB)(oc:dJ)(vs:Array am)(t:ll),cv=.ref c/\H c=aa (.frz oc<|.own c)/\oc.data=.fields vs/\vs[1]?=aa (.str ZbH t)
theorem Tb.upd(h:Tb H)(hp:∀ob u,H p≠aa (.frz ob u))(ho:∀ps,o≠.tbl ps):Tb (upd H p o):=λP ps e=>by
 by_cases z:P=p
 .subst z;rw[Zu]at e;cases e;exact T7 rfl<|ho ps
 .rw[Zq z]at e
  obtain⟨a,b⟩:=h P ps e;refine#[a,λpos cv q=>?_]
  obtain⟨c,oc,vs,t,e1,e2,e3⟩:=b pos cv q;exact#[c,oc,vs,t,e1,by rw[Zq λz=>hp oc (.own c) (by rw[<-z];exact e2)];exact e2,e3]
structure St3(K:aj)(O:Mx)(S:Zp)(H:Hp):Prop where
 hk:O.K=K
 xd:∀a,O.X a->H a≠ab
 dw:∀a,O.n0=aa a->H a=aa (.lst [.int S.1,.bl S.2])/\Pv.okS S.1 S.2=ag
 tb:Tb H
def Fut.lat(f:Fut O H ρ' H'):Lat O H ρ' H':=by
 obtain⟨rfl,f⟩:=f;exact#[rfl,rfl,λa o h x n _=>(f a o h).elim id λz=>z.elim (λz=>T7 (ρ'.xz a z.1) (let #[xs,e]:=z.2;x xs e))<|by rintro ⟨⟨ps,e⟩,_⟩;exact T7 e<|n ps,λ_ _ h=>h]
def Rep.mono(f:Fut O H ρ' H')(h:Rep O H d v):Rep ρ' H' d v:=h.lat f.lat
def Rq.mono(f:Fut O H ρ' H')(h:Rq O H d v):Rq ρ' H' d v:=h.lat f.lat
section
variable{O:Mx}{H:Hp}{v:V}
def Rq.nil:Rq O H [] []:=by rfl
def Rq.cons{d:D}{v:V}{ds:List D}{vs:List V}(r:Rep O H d v)(rs:Rq O H ds vs):Rq O H (d::ds) (v::vs):=by
 exact#[v,vs,rfl,r,rs]
theorem Rq.length:∀{ds:List D}{xs:List V},Rq O H ds xs->xs.length=ds.length
 |[],_,h=>by rw[h];rfl
 |d::ds,xs,h=>by
  obtain⟨v,vs,rfl,_,rs⟩:=h;rw[aI,aI,Rq.length rs]
theorem Rq.append:∀{ds es:List D}{xs ys:List V},Rq O H ds xs->Rq O H es ys->Rq O H (ds++es) (xs++ys)
 |[],_,_,_,h,r=>by rw[h];exact r
 |d::ds,_,_,_,h,r=>by
  obtain⟨v,vs,rfl,a,rs⟩:=h;exact Rq.cons a<|Rq.append rs r
theorem Rq.take:∀{ds:List D}{xs:List V}(k:Nat),Rq O H ds xs->Rq O H (ds.take k) (xs.take k)
 |_,_,0,_=>Rq.nil
 |[],_,k+1,h=>by rw[h];exact Rq.nil
 |d::ds,_,k+1,h=>by
  obtain⟨v,vs,rfl,a,rs⟩:=h;exact Rq.cons a<|Rq.take k rs
theorem Rq.drop:∀{ds:List D}{xs:List V}(k:Nat),Rq O H ds xs->Rq O H (ds.drop k) (xs.drop k)
 |_,_,0,h=>h
 |[],_,k+1,h=>by rw[h];exact Rq.nil
 |d::ds,_,k+1,h=>by
  obtain⟨v,vs,rfl,a,rs⟩:=h;exact Rq.drop k rs
theorem Rq.get:∀{ds:List D}{xs:List V}{i:Nat}{d:D},Rq O H ds xs->ds[i]?=aa d->∃v,xs[i]?=aa v/\Rep O H d v
 |[],_,_,_,_,e=>by simp at e
 |d::ds,_,0,_,h,e=>by
  obtain⟨v,vs,rfl,a,rs⟩:=h;simp at e;subst e;exact#[v,rfl,a]
 |d::ds,_,i+1,_,h,e=>by
  obtain⟨v,vs,rfl,a,rs⟩:=h;obtain⟨u,q,r⟩:=Rq.get rs (by simpa using e)
  exact#[u,by simpa using q,r]
theorem Rq.set{d:D}{v:V}(r:Rep O H d v):∀{ds:List D}{xs:List V}(i:Nat),Rq O H ds xs->Rq O H (ds.set i d) (xs.set i v)
 |[],_,i,h=>by unfold Rq at h;rw[h];exact Rq.nil
 |_::_,_,0,h=>by
  unfold Rq at h;obtain⟨_,_,rfl,_,rs⟩:=h;exact Rq.cons r rs
 |_::_,_,i+1,h=>by
  unfold Rq at h;obtain⟨_,_,rfl,a,rs⟩:=h;exact Rq.cons a<|Rq.set r i rs
theorem Rq.reverse:∀{ds:List D}{xs:List V},Rq O H ds xs->Rq O H ds.reverse xs.reverse
 |[],_,h=>by rw[h];exact Rq.nil
 |d::ds,_,h=>by
  obtain⟨v,vs,rfl,a,rs⟩:=h;rw[d5,d5];exact Rq.append (Rq.reverse rs)<|Rq.cons a Rq.nil
theorem Rq.rep(h:Rq O H ds xs):∀k:Nat,Rq O H (aA k ds).flatten (aA k xs).flatten
 |0=>Rq.nil
 |k+1=>by
  rw[bq,bq,bN,bN];exact Rq.append h<|Rq.rep h k
theorem Rq.ints:∀ns:List Int,Rq O H (ns.map Pv.V.int) (ns.map V.int)
 |[]=>Rq.nil
 |n::ns=>Rq.cons (by rfl)<|Rq.ints ns
def Rep.int'{i:Int}(h:Rep O H (.int i) v):v=.int i:=by exact h
def Rep.bl'{b:Bool}(h:Rep O H (.bl b) v):v=.bl b:=by exact h
def Rep.non'(h:Rep O H .non v):v=.non:=by exact h
def Rep.str'{x:bc}(h:Rep O H (.str x) v):v=.str x:=by exact h
def Rep.tup'{ds:List D}(h:Rep O H (.tup ds) v):∃a xs,v=.ref a/\H a=aa (.tup xs)/\Rq O H ds xs:=by exact h
def Rep.lst'{ds:List D}(h:Rep O H (.lst ds) v):∃a xs,v=.ref a/\H a=aa (.lst xs)/\¬O.X a/\Rq O H ds xs:=by exact h
def Rep.drw'(h:Rep O H .drw v):∃a,v=.ref a/\O.n0=aa a:=by exact h
def Rep.dct'{o:Sum (List<|Int×Int) (List<|List Int)}(h:Rep O H (.dct o) v):∃a,v=.ref a/\Dct H a o:=by unfold Rep at h;exact h
def Rep.scr'(h:Rep O H (.scr ns) v):∃a,v=.ref a/\Scr O.K H a ns:=by exact h
def Rep.dow'{ks:List (List Int)}(h:Rep O H (.dow ks) v):∃a vs,v=.ref a/\H a=aa (.dT vs)/\¬O.X a/\vs.map (·.1)=ks.map (·.map bU):=by unfold Rep at h;exact h
def ZY(i:Int):Rep O H (.int i) (.int i):=by rfl
def Yd(b:Bool):Rep O H (.bl b) (.bl b):=by rfl
def GD:Rep O H .non .non:=by rfl
def YM(x:bc):Rep O H (.str x) (.str x):=by rfl
def Xc(h:H a=aa (.tup xs))(r:Rq O H ds xs):Rep O H (.tup ds) (.ref a):=by exact#[a,xs,rfl,h,r]
def Y1(h:H a=aa (.lst xs))(x:¬O.X a)(r:Rq O H ds xs):Rep O H (.lst ds) (.ref a):=by exact#[a,xs,rfl,h,x,r]
def Rep.seq(h:Rep O H x v)(e:Pv.Yl x=aa ds):∃p xs,v=.ref p/\(SqL O.K H p xs\/SqT O.K H p xs)/\Rq O H ds xs:=by
 cases x with|tup es=>cases e;obtain⟨p,xs,rfl,h,r⟩:=h.tup';exact#[p,xs,rfl,.inr<|SqT.of h,r]|lst es=>cases e;obtain⟨p,xs,rfl,h,_,r⟩:=h.lst';exact#[p,xs,rfl,.inl<|SqL.of h,r]|scr ns=>cases e;obtain⟨p,e,q⟩:=h.scr';exact#[p,_,e,.inl q.sq,Rq.ints ns]|_=>cases e
end
structure LocR(O:Mx)(H:Hp)(l:Lc)(U:L2.St):Prop where
 len:l.length=U.length
 val:∀(i:Nat)(d:D),l[i]?=aa (aa d)->∃v,U[i]?=aa (aa v)/\Rep O H d v
theorem LocR.mono(f:Fut O H ρ' H')(r:LocR O H l U):LocR ρ' H' l U:=
 #[r.len,λi d e=>let #[v,q,h]:=r.val i d e;#[v,q,h.mono f]]
theorem LocR.set(r:LocR O H l U)(i:Nat)(h:Rep O H d v):LocR O H (l.set i<|aa d) (U.set i<|aa v):=
 #[by rw[bg,bg];exact r.len,λj e q=>by
  rw[iO]at q ⊢;split at q
  .rename_i hij
   subst hij;split at q
   .rename_i hl
    cases q;rw[T9 rfl,T9 (by rw[<-r.len];exact hl)]
    exact#[v,rfl,h]
   .cases q
  .rename_i hij
   rw[T8 hij];exact r.val j e q]
def End{m β:Type}(K:aj)(xw:Nat->Hp->Prop)(rep:Mx->Hp->m->β->Prop)(O:Mx)(H:Hp)(Q:β->Hp->Prop):R m->Prop
 |.ok d S=>∀ρ' H' v,Fut O H ρ' H'->St3 K ρ' S H'->rep ρ' H' d v->Q v H'
 |.ex c S=>∀ρ' H',Fut O H ρ' H'->St3 K ρ' S H'->xw c H'
 |.no=>False
section
variable{K:aj}{xw:Nat->Hp->Prop}{O ρ':Mx}{H H':Hp}{m β α' β':Type}{rep:Mx->Hp->m->β->Prop}{rep':Mx->Hp->α'->β'->Prop}
def End.mono{Q:β->Hp->Prop}(f:Fut O H ρ' H')(h:End K xw rep O H Q r):End K xw rep ρ' H' Q r:=by
 cases r with|ok d S=>exact λρ2 H2 v g st r=>h ρ2 H2 v (f.trans g) st r|ex c S=>exact λρ2 H2 g st=>h ρ2 H2 (f.trans g) st|no=>exact h
theorem End.bind{Q:β'->Hp->Prop}{Q1:β->Hp->Prop}(h:End K xw rep' O H Q (r.bind f))
  (k:∀d S ρ1 H1 v,Fut O H ρ1 H1->St3 K ρ1 S H1->rep ρ1 H1 d v->End K xw rep' ρ1 H1 Q (f d S)->Q1 v H1):End K xw rep O H Q1 r:=by
 cases r with|ok d S=>exact λρ1 H1 v g st r=>k d S ρ1 H1 v g st r<|End.mono g h|ex c S=>exact h|no=>exact h
theorem End.ok{Q:β->Hp->Prop}(h:End K xw rep O H Q (.ok a S))(st:St3 K O S H)(r:rep O H a v):Q v H:=h O H v (Fut.refl O H) st r
def End.ob{Q:β'->Hp->Prop}(h:End K xw rep' O H Q ((Pv.po o S).bind f)):∃a,o=aa a/\End K xw rep' O H Q (f a S):=by
 cases o with|none=>exact h.elim|some a=>exact#[a,rfl,h]
theorem End.po{Q:β->Hp->Prop}(h:End K xw rep O H Q (Pv.po o S)):∃a,o=aa a/\End K xw rep O H Q (.ok a S):=by
 cases o with|none=>exact h.elim|some a=>exact#[a,rfl,h]
theorem End.map{Q:β->Hp->Prop}(h:End K xw rep O H Q (Pv.po (o.map f) S)):∃a,o=aa a/\End K xw rep O H Q (.ok (f a) S):=by
 cases o with|none=>exact h.elim|some a=>exact#[a,rfl,h]
def End.ite{c:Prop}[Decidable c]{Q:β->Hp->Prop}(h:End K xw rep O H Q (if c then a else b)):(c/\End K xw rep O H Q a)\/(¬c/\End K xw rep O H Q b):=by
 split at h
 .exact .inl #[‹_›,h]
 .exact .inr #[‹_›,h]
def End.guard{c:Prop}[Decidable c]{Q:β->Hp->Prop}(h:End K xw rep O H Q (if c then a else .no)):c/\End K xw rep O H Q a:=by
 rcases h.ite with h|⟨_,h⟩
 .exact h
 .exact h.elim
end
abbrev nx:Nat->Hp->Prop:=λ_ _=>False
theorem End.nox{m β:Type}{K:aj}{xw:Nat->Hp->Prop}{O:Mx}{H:Hp}{rep:Mx->Hp->m->β->Prop}{Q:β->Hp->Prop}{r:R m}(h:End K xw rep O H Q r.nox):End K nx rep O H Q r:=by
 cases r with|ok d S=>exact h|ex c S=>exact h.elim|no=>exact h
def VY(_:Mx)(_:Hp)(a b:Bool):Prop:=a=b
def ZbK(_:Mx)(_:Hp)(a b:Option Int):Prop:=a=b
section
variable(X:Cx)(xw:Nat->Hp->Prop)
def tE(f:Lc->Zp->R D):TE:=λU H Q=>∃O l S,St3 X.K O S H/\LocR O H l U/\End X.K xw Rep O H Q (f l S)
def tA(f:Lc->Zp->R (List D)):TA:=λU H Q=>∃O l S,St3 X.K O S H/\LocR O H l U/\End X.K xw Rq O H Q (f l S)
def tB3(f:Lc->Zp->R Bool):TT:=λU H Q=>∃O l S,St3 X.K O S H/\LocR O H l U/\End X.K xw VY O H Q (f l S)
def tO(f:Lc->Zp->R (Option Int)):TO:=λU H Q=>∃O l S,St3 X.K O S H/\LocR O H l U/\End X.K xw ZbK O H Q (f l S)
variable(C:Calls)
structure CE(e:Expr)(i:E):Prop where
 h:PE X e (tE X xw<|Pv.pv C i)
structure CT(e:Expr)(i:E):Prop where
 h:PT X e (tB3 X xw<|Pv.Xp C i)
structure CA(es:List Expr)(is:List E):Prop where
 h:PA X es (tA X xw<|Pv.pvs C is)
structure CO(e:Option Expr)(i:Option E):Prop where
 h:PO X e (tO X xw<|Pv.pvo C i)
end
def PE.imp(h:PE X e t)(k:∀U H Q,t' U H Q->t U H Q):PE X e t':=λpq s U H Q I q=>h pq s U H Q I<|k U H Q q
def PT.imp(h:PT X e t)(k:∀U H Q,t' U H Q->t U H Q):PT X e t':=λpq s U H Q I q=>h pq s U H Q I<|k U H Q q
def PA.imp(h:PA X e t)(k:∀U H Q,t' U H Q->t U H Q):PA X e t':=λpos pq s U H Q I q=>h pos pq s U H Q I<|k U H Q q
def PO.imp(h:PO X e t)(k:∀U H Q,t' U H Q->t U H Q):PO X e t':=λpq s U H Q I q=>h pq s U H Q I<|k U H Q q
section
variable{K:aj}{O ρ':Mx}{S:Zp}{H H':Hp}{a p:aB}
def Zs(hp:H p=ab):Fut O H O (upd H p o):=#[rfl,λb u h=>.inl (by rw[Zq<|Ya h hp];exact h)]
def St3.fresh(st:St3 K O S H)(hp:H p=ab)(ho:∀ps,o≠.tbl ps:=by intro _ z;cases z):St3 K O S (upd H p o):=
 have n:∀b,H b≠ab->b≠p:=λb h z=>h (by rw[z];exact hp)
 #[st.hk,λb h=>by rw[Zq<|n b<|st.xd b h];exact st.xd b h,λb h=>by
  have:=st.dw b h;rw[Zq<|n b (by rw[this.1];intro z;cases z)];exact this,st.tb.upd (λob u z=>by rw[hp]at z;cases z) ho]
def St3.nx(st:St3 K O S H)(hp:H p=ab):¬O.X p:=λz=>st.xd p z hp
end
def Y4:Ev.lim=aQ:=by rw[dy];rfl
section
variable{K:aj}{xw:Nat->Hp->Prop}{O:Mx}{H:Hp}{S:Zp}{Q:VK}
def End.newT(h:End K xw Rep O H Q (.ok (.tup ds) S))(st:St3 K O S H)(r:Rq O H ds xs):∀p,H p=ab->Q (.ref p) (upd H p<|.tup xs):=λp hp=>
 h O _ _ (Zs hp) (st.fresh hp) (Xc Zu<|r.mono<|Zs hp)
def End.newL(h:End K xw Rep O H Q (.ok (.lst ds) S))(st:St3 K O S H)(r:Rq O H ds xs):∀p,H p=ab->Q (.ref p) (upd H p<|.lst xs):=λp hp=>
 h O _ _ (Zs hp) (st.fresh hp) (Y1 Zu (st.nx hp)<|r.mono<|Zs hp)
end
section
variable{X:Cx}{xw:Nat->Hp->Prop}{C:Calls}{e a b c:Expr}{i j k:E}{pos:fA}
def ji{n:Int}{q}:CE X xw C (.Constant (.int n) q pos) (.c<|.int n):=.mk <| PE.imp Wi<|by rintro U H Q ⟨O,l,S,st,lr,h⟩;exact End.ok h st<|ZY n
def ZaR{n:Bool}{q}:CE X xw C (.Constant (.bool n) q pos) (.c<|.bl n):=.mk <| PE.imp ZaY<|by rintro U H Q ⟨O,l,S,st,lr,h⟩;exact End.ok h st<|Yd n
def ZaH{q}:CE X xw C (.Constant .none q pos) (.c .non):=.mk <| PE.imp jv<|by rintro U H Q ⟨O,l,S,st,lr,h⟩;exact End.ok h st GD
def Zao{x:bc}{q}:CE X xw C (.Constant (.str x) q pos) (.c<|.str x):=.mk <| PE.imp jL<|by rintro U H Q ⟨O,l,S,st,lr,h⟩;exact End.ok h st<|YM x
def ZbL(n:Nat){x:bc}(hN:X.N[n]?=aa x)(hv:Vis X.env.scope x)(hd:(x == ("__debug__" : bc))=ai)
  (hcd:(x == ("__classdict__" : bc))=ai):CE X xw C (.Name x pos) (.v n):=.mk <| PE.imp (Y7 hN hv hd hcd)<|by
 rintro U H Q ⟨O,l,S,st,lr,h⟩;rw[Pv.pv]at h;cases q:l[n]? with
 |none=>rw[q]at h;exact h.elim
 |some o=>
  cases o with
  |none=>rw[q]at h;exact h.elim
  |some d=>
   rw[q]at h;obtain⟨v,q2,r⟩:=lr.val n d q;exact#[v,q2,End.ok h st r]
def Zam:CA X xw C [] []:=.mk <| PA.imp Qn<|by
 rintro U H Q ⟨O,l,S,st,lr,h⟩;rw[Pv.pvs]at h;exact End.ok h st Rq.nil
def vG{es:List Expr}{is:List E}(ha:CE X xw C e i)(hr:CA X xw C es is)(hs:aE (e::es) X.env=(ai,b9 e X.env)::aE es X.env):CA X xw C (e::es) (i::is):=.mk <|
 PA.imp (X3 ha.h hr.h hs)<|by
  rintro U H Q ⟨O,l,S,st,lr,h⟩;rw[Pv.pvs]at h;exact#[O,l,S,st,lr,h.bind λx S1 ρ1 H1 v f1 st1 r1 h1=>#[ρ1,l,S1,st1,lr.mono f1,h1.bind λxs S2 ρ2 H2 vs f2 st2 r2 h2=>h2.ok st2<|Rq.cons (r1.mono f2) r2]]
def qZ{es:List Expr}{is:List E}{q}(h:CA X xw C es is):CE X xw C (.Tuple es q pos) (.tup is):=.mk <| PE.imp (jB h.h)<|by
 rintro U H Q ⟨O,l,S,st,lr,h⟩;rw[Pv.pv]at h;refine#[O,l,S,st,lr,h.bind λxs S1 ρ1 H1 vs f1 st1 r1 h1=>?_]
 obtain⟨hl,h1⟩:=h1.guard;exact#[by rw[r1.length,<-Y4];exact hl,h1.newT st1 r1]
def Xn{r:R2}{g:D->D->Zp->R D}(hg:∀{O H S x y v u Q},St3 X.K O S H->Rep O H x v->Rep O H y u->End X.K xw Rep O H Q (g x y S)->r v u H Q) :
  ∀U H Q,tE X xw (λl S=>(Pv.pv C i l S).bind λx S=>(Pv.pv C j l S).bind λy S=>g x y S) U H Q->tOp r (tE X xw<|Pv.pv C i) (tE X xw<|Pv.pv C j) U H Q:=λU H Q #[O,l,S,st,lr,h]=>
 #[O,l,S,st,lr,h.bind λx S1 ρ1 H1 v f1 st1 r1 h1=>#[ρ1,l,S1,st1,lr.mono f1,h1.bind λy S2 ρ2 H2 u f2 st2 r2 h2=>hg st2 (r1.mono f2) r2 h2]]
end
def xS(K:aj):R2:=λx y H Q=>∃a b ys,x=.ref a/\y=.ref b/\SqT K H a []/\SqT K H b ys/\Q (.ref b) H
def wz:OpR X (cV .Add) (xS X.K):=by
 intro pq s U H x y v u Q I rx ry h;obtain⟨a,b,ys,rfl,rfl,ha,hb,q⟩:=h;cases rx;cases ry;obtain⟨its,r1,p1,_⟩:=I.tuple ha;obtain⟨its2,r2,p2,_⟩:=I.tuple hb;have e0:=r1.nil_iff.mpr rfl;obtain⟨⟨cls,dd,data,sl⟩,ho,hc,n,hd⟩:=id p1;obtain⟨⟨cls2,dd2,data2,sl2⟩,ho2,hc2,n2,hd2⟩:=id p2;simp only at hc hd hc2 hd2;subst hc hd hc2 hd2;exact iI #[_,ho,rfl] #[_,ho2,rfl] fU g7 d4 dW (dM _ _)
   (tuple_addW0 a b its.toArray its2.toArray n n2 dd dd2 sl sl2<|by rw[e0];rfl) #[ho,ho2,#[.ref b,H,I,rfl,q]]
def Zb0(K:aj):V->Option Int->Option Int->Hp->VK->Prop:=λx lo hi H Q=>∃a xs,x=.ref a/\SqT K H a xs/\
 (HT.sIx xs.length 0 lo=0/\HT.sIx xs.length xs.length hi=xs.length)/\Q (.ref a) H
def XF{prog:br}{w:bK}{A:cg}{E:am->au->Prop}{s:au}{t sl:aB}{items:Array am}{vl vu:am}{lo hi:Option Int}{Q:am->au->Prop}(ht:iA s.heap t items)(hs:s.heap.IsSliceOf sl vl vu .none)(pl:fg vl lo)(pu:fg vu hi)
  (hw:HT.sIx items.size 0 lo=0/\HT.sIx items.size items.size hi=items.size)(h:Q (.ref t) s):aS (ba prog w) A (fG (.ref t)<|.ref sl) Q E s:=by
 obtain⟨os,hos,hcs,hds⟩:=id hs;have hTs:s.TypeIs (.ref sl) "slice":=#[os,hos,hcs];unfold fG
 try with_reducible refine bS ?_
 first|refine af<|ay ?_|skip
 refine af<|fH ht.typeIs (by decide) ?_
 refine af (bQ ht.typeIs bz
  (cH bz ht.typeIs eS ?_<|fk _ _))
 show aS _ _ (dz (.ref t) >>= _) _ _ s;refine af<|g8 ht ?_;refine af<|dD hTs ?_;rw[T9 (by decide)]
 refine af<|HT.YV hs pl pu ?_;have hyes:((((HT.sIx items.size 0 lo:Nat):Int) == 0&&(1:Int) == 1&&(HT.sIx items.size items.size hi-HT.sIx items.size 0 lo) == items.size)=ag):=by
  rw[hw.1,hw.2];simp
 show aS _ _ (if(((HT.sIx items.size 0 lo:Nat):Int) == 0&&(1:Int) == 1&&(HT.sIx items.size items.size hi-HT.sIx items.size 0 lo) == items.size)=ag then _ else _) _ _ s
 rw[T9 hyes];refine af<|af<|dD ht.typeIs<|ay ?_;rw[T9 (by decide)]
 exact af<|dv<|ay #[_,rfl,ay h]
def yW:SlR X (Zb0 X.K):=by
 intro pq s U H x v vl vu lo hi sl Q I rx hs pl pu h;obtain⟨a,xs,rfl,hx,hw,q⟩:=h;cases rx;obtain⟨its,r,ht,hz⟩:=I.tuple hx;have hlen:its.toArray.size=xs.length:=by rw[aq];exact r.length.symm
 refine#["tuple",_,bz.lookup,ht.typeIs,?_];exact XF ht hs pl pu (by rw[hlen];exact hw) #[.ref a,H,I,rfl,q]
def G1(h:Ev.fits i=ag):gU i<=2^20:=by
 have h1:=T6 h;unfold gU;split
 .exact df _
 .rename_i hz
  have hne:i.natAbs≠0:=by intro z;exact hz (by simp[Int.natAbs_eq_zero.mp z])
  have:=(Nat.log2_lt hne).mpr h1;have e:(2:Nat)^20=1048576:=by decide
  omega
def xG:OpR X (cV .FloorDiv) (rI (λ_ j=>0<j/\j<Ev.big) λi j=>.int<|i / j):=opI λi j _ _ _ _ _ hc q=>by
 have h1:=hc.1;have h2:=hc.2;have hne:j.natAbs≠0:=by omega
 have h3:j.natAbs<2^8000:=by
  have e:(j.natAbs:Int)=j:=Int.natAbs_of_nonneg (by omega)
  have h4:(j.natAbs:Int)<((2^8000:Nat):Int):=by rw[e,Int.natCast_pow];exact h2
  exact Int.ofNat_lt.mp h4
 have h5:=(Nat.log2_lt hne).mpr h3;exact floordiv_int (by omega) (by rw[Int.fdiv_eq_ediv_of_nonneg i (by omega)];exact q)<|.inl<|PyProof.noPylong_of_log2 (by omega)
def uY:OpR X (cV .Mult) (rI (λi j=>Ev.fits i=ag/\Ev.fits j=ag) λi j=>.int<|i*j):=opI λ_ _ _ _ _ _ _ hc q=>mul_int q<|IntMulOk.of_bits (G1 hc.1)<|G1 hc.2
def ZaB:OpR X (bG .Is) (λx y H Q=>∃a b,x=.bl a/\y=.bl b/\Q (.bl<|ae<|a=b) H):=by
 intro pq s U H x y v u Q I rx ry h;obtain⟨a,b,rfl,rfl,q⟩:=h;cases rx;cases ry;cases a<;>cases b<;>exact ay #[.bl _,H,I,rfl,q]
def vY:OpR X (bG .IsNot) (λx y H Q=>∃a b,x=.bl a/\y=.bl b/\Q (.bl<|ae<|a≠b) H):=by
 intro pq s U H x y v u Q I rx ry h;obtain⟨a,b,rfl,rfl,q⟩:=h;cases rx;cases ry;cases a<;>cases b<;>exact ay #[.bl _,H,I,rfl,q]
def VR:fillsNumberSlot (.type "tuple") "mul" = cb ai:=
 PySem.fillsNumberSlot_seq fW.lookup (by decide +kernel) F.slot_tuple_rmul.lookup (by decide +kernel)
def UH:seqRepeat? (.type "tuple")=cb (aa<|.builtin "tuple.__mul__"):=by
 unfold seqRepeat?
 rw[kf (name:="__mul__") fW.lookup (by decide +kernel),kf (name:="__rmul__") F.slot_tuple_rmul.lookup (by decide +kernel)]
 rfl
def W5(a:Int)(t:ll)(l:aB)(items:Array am)(n:Nat)(dd:Option aB)(sl:Array (Option am)) :
  kT (dR.«int.__rmul__» #[[.int a t,.ref l],[]]) (λ_ R s=>s.heap.get? l=aa {cls:=.type "tuple",dict:=dd,data:=.seq items n,slots:=sl}/\R (.ok<|.ret am.notImplemented) s):=
 .of_wp λprog w A R s h=>by obtain⟨hp,g,d,tk,os⟩:=s;obtain⟨hl,h⟩:=h;wp_walk;exact#[_,rfl,h]
def Qp(l:aB)(items:Array am)(n:Nat)(dd:Option aB)(sl:Array (Option am))(x:Int)(u:ll)(h0:¬(x < -(2^63)||x>=2^63)=ag)(hc:(items.isEmpty||x == 1)=ag) :
  kT (dR.«tuple.__mul__» #[[.ref l,.int x u],[]]) (λ_ R s=>s.heap.get? l=aa {cls:=.type "tuple",dict:=dd,data:=.seq items n,slots:=sl}/\R (.ok<|.ret<|bO l) {s with heap:=s.heap,toks:=s.toks}):=
 .of_wp λprog w A R s h=>by obtain⟨hp,g,d,tk,os⟩:=s;obtain⟨hl,h⟩:=h;have f1:=fV;have f2:=cr;wp_walk;rw[T8 h0];wp_walk using cp hl;exact#[_,rfl,h]
def Qo(l:aB)(items:Array am)(n:Nat)(dd:Option aB)(sl:Array (Option am))(x:Int)(u:ll)(h0:¬(x < -(2^63)||x>=2^63)=ag)(hc:¬(items.isEmpty||x == 1)=ag)(h1:(x<=0||items.isEmpty)=ag) :
  kT (dR.«tuple.__mul__» #[[.ref l,.int x u],[]]) (λ_ R s=>s.heap.get? l=aa {cls:=.type "tuple",dict:=dd,data:=.seq items n,slots:=sl}/\R (.ok<|.ret<|bO s.heap.objs.size) {s with heap:=s.heap.push {cls:=.type "tuple",data:=.seq #[]},toks:=s.toks}):=
 .of_wp λprog w A R s h=>by obtain⟨hp,g,d,tk,os⟩:=s;obtain⟨hl,h⟩:=h;have f1:=fV;have f2:=cr;wp_walk;rw[T8 h0];wp_walk using cp hl;exact#[_,rfl,h]
def QT(l:aB)(items:Array am)(n:Nat)(dd:Option aB)(sl:Array (Option am))(x:Int)(u:ll)(h0:¬(x < -(2^63)||x>=2^63)=ag)(hc:¬(items.isEmpty||x == 1)=ag)(h1:¬(x<=0||items.isEmpty)=ag)
  (h2:¬(items.size*x>(2^63-1) / 8))(h3:¬fm (items.size*x)=ag)(hsz:((aA x.toNat items).foldl (·++·) #[]).size<=aQ) :
  kT (dR.«tuple.__mul__» #[[.ref l,.int x u],[]]) (λ_ R s=>s.heap.get? l=aa {cls:=.type "tuple",dict:=dd,data:=.seq items n,slots:=sl}/\R (.ok<|.ret<|bO s.heap.objs.size) {s with heap:=s.heap.push {cls:=.type "tuple",data:=.seq ((aA x.toNat items).foldl (·++·) #[])},toks:=s.toks}):=
 .of_wp λprog w A R s h=>by obtain⟨hp,g,d,tk,os⟩:=s;obtain⟨hl,h⟩:=h;have f1:=fV;have f2:=cr;wp_walk;rw[T8 h0];wp_walk using cp hl;rw[T8 h2];wp_walk using cp hl;exact#[_,rfl,h]
def qu(K:aj):R2:=λx y H Q=>∃a k xs,x=.ref a/\y=.int k/\SqT K H a xs/\(0<=k/\k<1000/\xs.length<=1000)/\
 ((xs=[]\/k=1)->Q (.ref a) H)/\(¬(xs=[]\/k=1)->∀p,H p=ab->Q (.ref p) (upd H p<|.tup (aA k.toNat xs).flatten))
def ud :OpR X (cV .Mult) (qu X.K):=by
 intro pq s U H x y v u Q I rx ry h;obtain⟨a,k,xs,rfl,rfl,hx,⟨k0,k1,hz⟩,q1,q2⟩:=h;cases rx;obtain⟨t,rfl⟩:=ry;obtain⟨its,r,pt,_⟩:=I.tuple hx;have hl:=r.length;obtain⟨⟨cls,dd,data,sl⟩,ho,hc,n,hd⟩:=id pt;simp only at hc hd;subst hc hd;have h0:¬(ae (k < -(2^63))||decide (k>=2^63))=ag:=by
  rw[T4 (by lia),T4 (by lia)];exact aF
 refine fB (by decide) #[_,ho,rfl] (λs'=>gh s' k t) VR kF eM UH F.slot_int_index.lookup
  (dS eM (gh s k t) kg (iP _ _) (W5 k t a its.toArray n dd sl) #[ho,rfl,#[_,ho,rfl],?_])
 have hnil:=r.nil_iff;by_cases c:xs=[]\/k=1
 .have c':(its.toArray.isEmpty||k == 1)=ag:=by
   rcases c with c|c
   .rw[hnil.mpr c];rfl
   .rw[c];simp
  exact dS fW #[_,ho,rfl] fK (fo _ _) (Qp a its.toArray n dd sl k t h0 c') #[ho,#[.ref a,H,I,rfl,q1 c]]
 .have ne:=λz=>c (.inl<|hnil.mp z)
  have k1:k≠1:=λz=>c<|.inr z
  have c':¬(its.toArray.isEmpty||k == 1)=ag:=by
   rw[beq_eq_false_iff_ne.mpr k1,k8,eE];cases its with|nil=>exact T7 rfl ne|cons _ _=>exact aF
  have fin:∀arr:List am,arr=(aA k.toNat its).flatten->EP X pq U Q (bO s.heap.objs.size) {s with heap:=s.heap.push {cls:=.type "tuple",data:=.seq arr.toArray}}:=λarr e=>by
   subst e;refine#[.ref s.heap.objs.size,_,I.laid (t':=s.toks) (λb ob q=>ap _ q) (aD _) ?_,rfl,q2 c _<|I.hok.fresh<|aD _]
   refine#[?_,_,r.rep k.toNat,ej _ _];rw[Qc,dy];have:k.toNat*xs.length<=1000*1000:=fq (by lia) hz
   lia
  by_cases z:k=0
  .have h1:(ae (k<=0)||its.toArray.isEmpty)=ag:=by rw[z];rfl
   refine dS fW #[_,ho,rfl] fK (fo _ _) (Qo a its.toArray n dd sl k t h0 c' h1) #[ho,?_];exact fin [] (by rw[z];rfl)
  .have h1:¬(ae (k<=0)||its.toArray.isEmpty)=ag:=by
    rw[T4 (by lia),eC,eE]
    cases its with|nil=>exact T7 rfl ne|cons _ _=>exact aF
   have hm:(its.toArray.size:Int)*k<=1000*1000:=by
    rw[aq,<-hl];exact Int.mul_le_mul (by lia) (by lia) k0 (by lia)
   have joined:(aA k.toNat its.toArray).foldl (·++·) #[]=(aA k.toNat its).flatten.toArray:=by
    have:=Wp its k.toNat [];rw[gv]at this;exact this
   have hsz:((aA k.toNat its.toArray).foldl (·++·) #[]).size<=aQ:=by
    rw[joined,aq,Qc,dy,<-hl];have:k.toNat*xs.length<=1000*1000:=fq (by lia) hz
    lia
   refine dS fW #[_,ho,rfl] fK (fo _ _) (QT a its.toArray n dd sl k t h0 c' h1 (by lia) (by
    unfold fm;rw[T4 (by rw[dy];lia)]
    exact aF) hsz) #[ho,?_]
   rw[joined];exact fin _ rfl
def qp:R2:=λx y H Q=>∃a k xs,x=.ref a/\y=.int k/\H a=aa (.lst xs)/\(0<=k/\k<1000/\xs.length<=1000)/\∀p,H p=ab->Q (.ref p) (upd H p<|.lst (aA k.toNat xs).flatten)
def zx :OpR X (cV .Mult) qp:=by
 intro pq s U H x y v u Q I rx ry h;obtain⟨a,k,xs,rfl,rfl,hx,⟨k0,k1,hz⟩,q2⟩:=h;cases rx;obtain⟨t,rfl⟩:=ry;obtain⟨its,r,pl,_⟩:=I.list<|SqL.of hx;have hl:=r.length;obtain⟨⟨cls,dd,data,sl⟩,n,ho,hc,hd2,hd⟩:=id pl;simp only at hc hd hd2;subst hc hd;have hm:k.toNat*its.length<=1000*1000:=fq (by lia) (by lia)
 have hm2:its.length*k.toNat<=1000*1000:=by rw[iQ];exact hm
 refine fB (by decide) #[_,ho,rfl] (λs'=>gh s' k t) noFill_list_mul kF eM repeat_list F.slot_int_index.lookup
  (dS eM (gh s k t) kg (iP _ _) (lm_int_rmul_list_any k t a its.toArray n dd sl) #[ho,rfl,#[_,ho,rfl],
   dS F.slot_list_mul #[_,ho,rfl] F.entry_list_mul (F.args_list_mul_2 _ _) (lm_list_mul_any a its.toArray n dd sl k t (by simp[dR.List.listFitsIndex];lia) (by rw[aq];lia)<|by rw[aq];simp[dN,aQ];lia) #[ho,?_]])
 have joined:(aA (if its.toArray.isEmpty=ag then 0 else k.toNat) its.toArray).foldl (λx1 x2=>x1++x2) #[]=(aA k.toNat its).flatten.toArray:=by
  have h0:=Wp its k.toNat [];rw[gv]at h0;by_cases z:its=[]
  .subst z
   have e:∀m:Nat,(aA m ([]:List am)).flatten=[]:=λm=>by induction m with|zero=>rfl|succ m ih=>rw[bq,bN,ih];rfl
   rw[e];rfl
  .rw[T8 (by rw[eE];cases its with|nil=>exact T7 rfl z|cons _ _=>exact aF)]
   exact h0
 rw[joined];refine#[.ref s.heap.objs.size,_,I.laid (t':=s.toks) (λb ob q=>ap _ q) (aD _) ?_,rfl,q2 _<|I.hok.fresh<|aD _]
 refine#[?_,_,0,r.rep k.toNat,aH _ rfl];rw[Qc,dy];rw[hl];lia
section
variable{X:Cx}{xw:Nat->Hp->Prop}{C:Calls}{e a b c:Expr}{i j k:E}{pos:fA}
variable{O:Mx}{H:Hp}{S:Zp}{x y:D}{v u:V}{Q:VK}{K:aj}
def qE(K:aj):R2:=λx y H Q=>rI0 (λi j=>.int<|i+j) x y H Q\/(qF K x y H Q\/(xS K x y H Q\/Za5 x y H Q))
def uz:OpR X (cV .Add) (qE X.K):=j8.or<|um.or<|wz.or Zak
def Zau(st:St3 K O S H)(rx:Rep O H x v)(ry:Rep O H y u)(h:End K xw Rep O H Q (Pv.Y6 .add x y S)):qE K v u H Q:=by
 cases x with
 |int i=>cases y with|int j=>exact .inl #[i,j,rx.int',ry.int',End.ok h st<|ZY _]|_=>exact False.elim h
 |tup ds=>cases y with
  |tup es=>
   obtain⟨hl,h⟩:=End.guard h;obtain⟨p,xs,rfl,hp,r1⟩:=rx.tup';obtain⟨q,ys,rfl,hq,r2⟩:=ry.tup';have l1:=r1.length;have l2:=r2.length;by_cases z:xs=[]
   .subst z
    have e1:=c9.mp l1.symm;subst e1;exact .inr<|.inr<|.inl #[p,q,ys,rfl,rfl,SqT.of hp,SqT.of hq,End.ok h st<|Xc hq r2]
   .refine .inr (.inl #[p,q,xs,ys,rfl,rfl,SqT.of hp,SqT.of hq,z,by rw[l1,l2,<-Y4];exact hl,λz2=>?_,λ_=>h.newT st<|r1.append r2])
    subst z2;have e2:=c9.mp l2.symm;subst e2;refine End.ok h st ?_;rw[cz];exact Xc hp r1
  |_=>exact False.elim h
 |lst ds=>cases y with
  |lst es=>
   obtain⟨hl,h⟩:=End.guard h;obtain⟨p,xs,rfl,hp,_,r1⟩:=rx.lst';obtain⟨q,ys,rfl,hq,_,r2⟩:=ry.lst';exact .inr<|.inr<|.inr #[p,q,xs,ys,rfl,rfl,hp,hq,by rw[r1.length,r2.length,<-Y4];exact hl,h.newL st<|r1.append r2]
  |_=>exact False.elim h
 |_=>cases y<;>exact False.elim h
def Zav(st:St3 K O S H)(rx:Rep O H x v)(ry:Rep O H y u)(h:End K xw Rep O H Q (Pv.Y6 .sub x y S)):rI0 (λi j=>.int<|i-j) v u H Q:=by
 cases x with
 |int i=>cases y with|int j=>exact#[i,j,rx.int',ry.int',End.ok h st<|ZY _]|_=>exact False.elim h
 |_=>cases y<;>exact False.elim h
def qH(K:aj):R2:=λx y H Q=>rI (λi j=>Ev.fits i=ag/\Ev.fits j=ag) (λi j=>.int<|i*j) x y H Q\/(qu K x y H Q\/qp x y H Q)
def ug:OpR X (cV .Mult) (qH X.K):=uY.or<|ud.or zx
def qM(st:St3 K O S H)(rx:Rep O H x v)(ry:Rep O H y u)(h:End K xw Rep O H Q (Pv.Y6 .mul x y S)):qH K v u H Q:=by
 cases x with
 |int i=>cases y with
  |int j=>
   obtain⟨hc,h⟩:=End.guard h;exact .inl #[i,j,rx.int',ry.int',(ax _ _).mp hc,End.ok h st<|ZY _]
  |_=>exact False.elim h
 |tup ds=>cases y with
  |int k=>
   obtain⟨⟨h0,h1,h2⟩,h⟩:=End.guard h;obtain⟨p,xs,rfl,hp,r1⟩:=rx.tup';have l1:=r1.length;refine .inr <| .inl #[p,k,xs,rfl,ry.int',SqT.of hp,#[h0,h1,by rw[l1];exact h2],λz=>?_,λ_=>h.newT st<|r1.rep k.toNat]
   refine End.ok h st<|Xc hp ?_;rcases z with z|z
   .subst z
    have e1:=c9.mp l1.symm;subst e1;have:∀m:Nat,(aA m ([]:List D)).flatten=[]:=λm=>by induction m with|zero=>rfl|succ m ih=>rw[bq,bN,ih];rfl
    rw[this];exact Rq.nil
   .subst z
    show Rq O H (aA 1 ds).flatten xs;rw[bq,List.replicate_zero,bN,List.flatten_nil,cz];exact r1
  |_=>exact False.elim h
 |lst ds=>cases y with
  |int k=>
   obtain⟨⟨h0,h1,h2⟩,h⟩:=End.guard h;obtain⟨p,xs,rfl,hp,_,r1⟩:=rx.lst';exact .inr<|.inr #[p,k,xs,rfl,ry.int',hp,#[h0,h1,by rw[r1.length];exact h2],h.newL st<|r1.rep k.toNat]
  |_=>exact False.elim h
 |_=>cases y<;>exact False.elim h
def vC(st:St3 K O S H)(rx:Rep O H x v)(ry:Rep O H y u)(h:End K xw Rep O H Q (Pv.Y6 .fdiv x y S)):rI (λ_ j=>0<j/\j<Ev.big) (λi j=>.int<|i / j) v u H Q:=by
 cases x with
 |int i=>cases y with
  |int j=>
   obtain⟨hc,h⟩:=End.guard h;exact#[i,j,rx.int',ry.int',hc,End.ok h st<|ZY _]
  |_=>exact False.elim h
 |_=>cases y<;>exact False.elim h
def jJ(st:St3 K O S H)(rx:Rep O H x v)(ry:Rep O H y u)(h:End K xw Rep O H Q (Pv.Y6 .mod x y S)):rI (λ_ j=>0<j) (λi j=>.int<|i%j) v u H Q:=by
 cases x with
 |int i=>cases y with
  |int j=>
   obtain⟨hc,h⟩:=End.guard h;exact#[i,j,rx.int',ry.int',hc,End.ok h st<|ZY _]
  |_=>exact False.elim h
 |_=>cases y<;>exact False.elim h
theorem ZaG(st:St3 K O S H)(rx:Rep O H x v)(ry:Rep O H y u)(h:End K xw Rep O H Q (Pv.Y6 .pow x y S)):rI CPow (λi j=>.int<|i^j.toNat) v u H Q:=by
 cases x with
 |int i=>cases y with
  |int j=>
   obtain⟨hc,h⟩:=End.guard h;exact#[i,j,rx.int',ry.int',#[hc.1,by lia,hc.2.2],End.ok h st<|ZY _]
  |_=>exact False.elim h
 |_=>cases y<;>exact False.elim h
def jg(ha:CE X xw C a i)(hb:CE X xw C b j):CE X xw C (.BinOp a .Add b pos) (.bin .add i j):=.mk <| PE.imp (VF uz ha.h hb.h) (Xn λst rx ry h=>Zau st rx ry h)
def j5(ha:CE X xw C a i)(hb:CE X xw C b j):CE X xw C (.BinOp a .Sub b pos) (.bin .sub i j):=.mk <| PE.imp (VF qV ha.h hb.h) (Xn λst rx ry h=>Zav st rx ry h)
def j6(ha:CE X xw C a i)(hb:CE X xw C b j):CE X xw C (.BinOp a .Mult b pos) (.bin .mul i j):=.mk <| PE.imp (VF ug ha.h hb.h) (Xn λst rx ry h=>qM st rx ry h)
def uV(ha:CE X xw C a i)(hb:CE X xw C b j):CE X xw C (.BinOp a .FloorDiv b pos) (.bin .fdiv i j):=.mk <| PE.imp (VF xG ha.h hb.h) (Xn λst rx ry h=>vC st rx ry h)
def qJ(ha:CE X xw C a i)(hb:CE X xw C b j):CE X xw C (.BinOp a .Mod b pos) (.bin .mod i j):=.mk <| PE.imp (VF jb ha.h hb.h) (Xn λst rx ry h=>jJ st rx ry h)
def jp(ha:CE X xw C a i)(hb:CE X xw C b j):CE X xw C (.BinOp a .Pow b pos) (.bin .pow i j):=.mk <| PE.imp (VF jG ha.h hb.h) (Xn λst rx ry h=>ZaG st rx ry h)
def qU(ha:CE X xw C a i):CE X xw C (.UnaryOp .USub a pos) (.neg i):=.mk <| PE.imp (ZbC j0 ha.h)<|by
 rintro U H Q ⟨O,l,S,st,lr,h⟩;refine#[O,l,S,st,lr,End.bind (h) λx S1 ρ1 H1 v f1 st1 r1 h1=>?_]
 cases x with|int n=>exact#[n,r1.int',End.ok h1 st1<|ZY _]|_=>exact False.elim h1
def Ja(st:St3 K O S H)(rx:Rep O H x v)(h:Pv.Zo x=aa n):uQ K v H n:=by
 cases x with
 |non=>rw[rx.non'];exact(ah h).symm
 |bl b=>rw[rx.bl'];exact(ah h).symm
 |int i=>
  rw[rx.int'];have h':=ah h;rw[<-h'];by_cases z:i=0
  .subst z;rfl
  .rw[T5 z];exact(bne_iff_ne.mpr z).symm
 |tup ds=>
  obtain⟨p,xs,rfl,hp,r⟩:=rx.tup';have h':=ah h;refine .inr<|.inl #[xs,SqT.of hp,?_];rw[<-h'];have:=r.length;cases ds<;>cases xs<;>first|rfl|(simp at this)
 |lst ds=>
  obtain⟨p,xs,rfl,hp,_,r⟩:=rx.lst';refine .inl #[xs,SqL.of hp,?_];rw[<-ah h];have:=r.length;cases ds<;>cases xs<;>first|rfl|(simp at this)
 |_=>cases h
def jr(ha:CE X xw C a i)(he:∀whole,isTrue a X.env whole=(do let v <-whole;gS a.pos;dC [v] (truthy v))):CT X xw C a i:=.mk <|
 PT.imp (wA ha.h he)<|by
  rintro U H Q ⟨O,l,S,st,lr,h⟩;refine#[O,l,S,st,lr,End.bind (show End X.K xw VY O H Q ((Pv.pv C i l S).bind λx S=>Pv.po (Pv.Zo x) S)from h) λx S1 ρ1 H1 v f1 st1 r1 h1=>?_]
  cases q:Pv.Zo x with|none=>rw[q]at h1;exact False.elim h1|some n=>rw[q]at h1;exact#[n,Ja st1 r1 q,End.ok h1 st1 rfl]
def qL(ha:CT X xw C a i):CT X xw C (.UnaryOp .Not a pos) (.not i):=.mk <| PT.imp (jX ha.h)<|by
 rintro U H Q ⟨O,l,S,st,lr,h⟩;refine#[O,l,S,st,lr,?_];have h':End X.K xw VY O H Q (((Pv.pv C i l S).bind λx S=>(Pv.po (Pv.Zo x) S).bind λb S=>.ok (.bl !b) S).bind λx S=>Pv.po (Pv.Zo x) S):=h
 show End X.K xw VY O H (λc H1=>Q (!c) H1) ((Pv.pv C i l S).bind λx S=>Pv.po (Pv.Zo x) S)
 cases q:Pv.pv C i l S with
 |no=>rw[q]at h';exact h'
 |ex c S1=>rw[q]at h';exact h'
 |ok x S1=>
  rw[q]at h';show End X.K xw VY O H _ (Pv.po (Pv.Zo x) S1);have h2:End X.K xw VY O H Q (((Pv.po (Pv.Zo x) S1).bind λb S=>.ok (.bl !b) S).bind λx S=>Pv.po (Pv.Zo x) S):=h'
  cases t:Pv.Zo x with
  |none=>rw[t]at h2;exact h2
  |some n=>
   rw[t]at h2;intro ρ1 H1 w f1 st1 e;exact h2 ρ1 H1 (!w) f1 st1 (by rw[<-(e)];rfl)
def jf(ha:CE X xw C a i):CE X xw C (.UnaryOp .Not a pos) (.not i):=.mk <| by
 intro pq s U H Q I hq;obtain⟨O,l,S,st,lr,h⟩:=hq;have h':=h
 refine UnaryOp_<|thn (ha.h pq s U H (λv H1=>∃k,uQ X.K v H1 k/\Q (.bl !k) H1) I #[O,l,S,st,lr,End.bind h' λx S1 ρ1 H1 v f1 st1 r1 h1=>?_]) λv s1 #[x,H1,I1,r1,q1]=>?_
 .cases q:Pv.Zo x with|none=>rw[q]at h1;exact False.elim h1|some n=>rw[q]at h1;exact#[n,Ja st1 r1 q,End.ok h1 st1<|Yd _]
 .obtain⟨k,tk,q2⟩:=q1
  refine not_of<|thn (wH pq s1 U H1 x v (λk' H'=>Q (.bl !k') H') I1 r1 #[k,tk,q2]) λk' s2 #[H2,I2,q3]=>?_
  exact#[.bl<|!k',H2,I2,rfl,q3]
def jo{rest:List Expr}(ha:CE X xw C a i)(hb:CE X xw C (.BoolOp .And (b::rest) pos) j):CE X xw C (.BoolOp .And (a::b::rest) pos) (.and i j):=.mk <| PE.imp (ju ha.h hb.h)<|by
 rintro U H Q ⟨O,l,S,st,lr,h⟩;refine#[O,l,S,st,lr,End.bind (h) λx S1 ρ1 H1 v f1 st1 r1 h1=>?_]
 cases x with
 |bl c=>
  refine#[c,r1.bl',?_];cases c with|true=>exact#[ρ1,l,S1,st1,lr.mono f1,h1]|false=>exact End.ok h1 st1<|Yd _
 |_=>exact False.elim h1
def jw{op}(ha:CE X xw C a i):CE X xw C (.BoolOp op [a] pos) i:=.mk <| ZaD ha.h
structure CWh(X:Cx)(xw:Nat->Hp->Prop)(C:Calls)(e:Expr)(i:E):Prop where
 h:PW X e (tB3 X xw<|Pv.Xp C i)
def CWh.ct(h:CWh X xw C e i):CT X xw C e i:=.mk <| PW.pt h.h
def PW.imp(h:PW X e t)(k:∀U H Q,t' U H Q->t U H Q):PW X e t':=λwh pq s U H Q I q=>h wh pq s U H Q I<|k U H Q q
def Zad(ha:CT X xw C a i):CWh X xw C (.BoolOp .Or [a] pos) i:=.mk <| jA ha.h
def qw{rest:List Expr}(ha:CT X xw C a i)(hb:CWh X xw C (.BoolOp .Or (b::rest) pos) j):CWh X xw C (.BoolOp .Or (a::b::rest) pos) (.or i j):=.mk <| PW.imp (ZaN ha.h hb.h)<|by
 rintro U H Q ⟨O,l,S,st,lr,h⟩;have h':End X.K xw VY O H Q (((Pv.pv C i l S).bind λx S=>match x with|.bl c=>if c then .ok (.bl ag) S else Pv.pv C j l S|_=>.no).bind λx S=>Pv.po (Pv.Zo x) S):=h
 refine#[O,l,S,st,lr,?_];show End X.K xw VY O H _ ((Pv.pv C i l S).bind λx S=>Pv.po (Pv.Zo x) S)
 cases q:Pv.pv C i l S with
 |no=>rw[q]at h';exact h'
 |ex c S1=>rw[q]at h';exact h'
 |ok x S1=>
  rw[q]at h';cases x with
  |bl n=>
   intro ρ1 H1 w f1 st1 e;have e':n=w:=e;subst e';cases n with|false=>exact#[ρ1,l,S1,st1,lr.mono f1,End.mono f1 (h')]|true=>exact(h') ρ1 H1 ag f1 st1 rfl
  |_=>exact False.elim h'
end
theorem Vw{f:D->D->Option Bool}(hf:∀x y v b,Rep O H x v->Rep O H y v->f x y=aa b->b=ag):∀{ds es:List D}{xs:List V}{b:Bool},Rq O H ds xs->Rq O H es xs->Pv.Yh f ds es=aa b->b=ag
 |[],[],_,b,_,_,h=>(ah h).symm
 |d::ds,e::es,_,b,r1,r2,h=>by
  obtain⟨v,vs,rfl,a1,b1⟩:=r1;obtain⟨v',vs',e',a2,b2⟩:=r2;cases e';unfold Pv.Yh at h;cases q1:f d e with
  |none=>rw[q1]at h;cases h
  |some p=>
   cases q2:Pv.Yh f ds es with
   |none=>rw[q1,q2]at h;cases h
   |some q=>
    rw[q1,q2]at h;have h':=ah h;rw[<-h',hf d e v p a1 a2 q1,Vw hf b1 b2 q2];rfl
 |[],_::_,_,b,r1,r2,h=>by
  have l1:=r1.length;have l2:=r2.length;rw[l1]at l2;simp at l2
 |_::_,[],_,b,r1,r2,h=>by
  have l1:=r1.length;have l2:=r2.length;rw[l1]at l2;simp at l2
def Rep.sc{x y:D}{v:V}(r1:Rep O H x v)(r2:Rep O H y v)(h:∀a,v≠.ref a):x=y:=by
 cases x<;>cases y<;>unfold Rep at r1 r2<;>subst_vars<;>first
  |rfl
  |(cases r2;rfl)
  |(cases r1;rfl)
  |(obtain⟨a,z,_⟩:=r1;exact T7 z<|h a)
  |(obtain⟨a,z,_⟩:=r2;exact T7 z<|h a)
  |(obtain⟨a,_,z,_⟩:=r1;exact T7 z<|h a)
  |(obtain⟨a,_,z,_⟩:=r2;exact T7 z<|h a)
  |cases r1
  |cases r2
def xu{k:Nat}{x:D}{v:V}{b:Bool}(r:Rep O H x v)(hv:∀a,v≠.ref a)(h:Pv.eqV (k+1) x x=aa b):b=ag:=by
 cases x<;>first
  |exact(ah h).symm
  |(rw[<-ah h];exact T5 rfl)
  |exact Ev.nos h
  |(obtain⟨a,_,z,_⟩:=r.tup';exact T7 z<|hv a)
  |(obtain⟨a,_,z,_⟩:=r.lst';exact T7 z<|hv a)
theorem Rep.ref{x:D}{p:aB}(r:Rep O H x (.ref p)){y:D}{k:Nat}{b:Bool}(h:Pv.eqV (k+1) x y=aa b\/Pv.eqV (k+1) y x=aa b):(∃ds es,x=.tup ds/\y=.tup es)\/∃ds es,x=.lst ds/\y=.lst es:=by
 cases x with
 |tup ds=>cases y<;>first|exact .inl #[_,_,rfl,rfl]|(rcases h with h|h<;>exact Ev.nos h)
 |lst ds=>cases y<;>first|exact .inr #[_,_,rfl,rfl]|(rcases h with h|h<;>exact Ev.nos h)
 |non=>cases r.non'
 |bl _=>cases r.bl'
 |int _=>cases r.int'
 |str _=>cases r.str'
 |_=>cases y<;>rcases h with h|h<;>exact Ev.nos h
theorem Wf:∀(k:Nat)(x y:D)(v:V)(b:Bool),Rep O H x v->Rep O H y v->Pv.eqV k x y=aa b->b=ag
 |0,_,_,_,_,_,_,h=>by cases h
 |k+1,x,y,v,b,r1,r2,h=>by
  by_cases hv:∃a,v=.ref a
  .obtain⟨p,rfl⟩:=hv
   rcases r1.ref (.inl h)with⟨ds,es,rfl,rfl⟩|⟨ds,es,rfl,rfl⟩
   .obtain⟨_,_,z,e1,q1⟩:=r1.tup'
    cases z;obtain⟨_,_,z,e2,q2⟩:=r2.tup';cases z;rw[e1]at e2;cases e2;exact Vw (λx y v b=>Wf k x y v b) q1 q2 h
   .obtain⟨_,_,z,e1,_,q1⟩:=r1.lst'
    cases z;obtain⟨_,_,z,e2,_,q2⟩:=r2.lst';cases z;rw[e1]at e2;cases e2;have h:(if ds.length=es.length then Pv.Yh (Pv.eqV k) ds es else aa ai)=aa b:=h
    rw[T9<|by rw[<-q1.length,q2.length]]at h
    exact Vw (λx y v b=>Wf k x y v b) q1 q2 h
  .have hv:=λa z=>hv #[a,z]
   cases r1.sc r2 hv;exact xu r1 hv h
noncomputable def eAt(f:D->D->Option Bool)(ds es:List D)(j:Nat):Bool:=match ds[j]?,es[j]? with
 |some x,aa y=>(f x y).getD ai
 |_,_=>ai
theorem YJ{f:D->D->Option Bool}:∀{ds es:List D}{b:Bool},Pv.Yh f ds es=aa b->
  ((aY<|ls ds.length es.length).all (eAt f ds es)&&ds.length == es.length)=b/\∀j x y,ds[j]?=aa x->es[j]?=aa y->f x y=aa (eAt f ds es j)
 |[],[],b,h=>#[ah h,λj x y e=>by simp at e]
 |[],_::es,b,h=>#[by rw[<-ah h];simp,λj x y e=>by simp at e]
 |_::ds,[],b,h=>#[by rw[<-ah h];simp,λj x y _ e=>by simp at e]
 |d::ds,e::es,b,h=>by
  unfold Pv.Yh at h;cases q1:f d e with
  |none=>rw[q1]at h;cases h
  |some p=>
   cases q2:Pv.Yh f ds es with
   |none=>rw[q1,q2]at h;cases h
   |some q=>
    rw[q1,q2]at h;obtain⟨ih,ih2⟩:=YJ q2;have h':=ah h;have e0:eAt f (d::ds) (e::es) 0=p:=by simp[eAt,q1]
    have es':∀j,eAt f (d::ds) (e::es) (j+1)=eAt f ds es j:=λj=>by simp[eAt]
    refine#[?_,λj x y hx hy=>?_]
    .rw[<-h',<-ih,aI,aI,Nat.succ_min_succ,gk,di,e0,cE]
     have:((aY<|ls ds.length es.length).all<|eAt f (d::ds) (e::es)∘Nat.succ)=(aY<|ls ds.length es.length).all (eAt f ds es):=by
      exact congrArg (λg=>(aY<|ls ds.length es.length).all g)<|funext λj=>es' j
     rw[this,Bool.and_assoc]
     congr 2
     simp
    .cases j with
     |zero=>
      simp at hx hy;subst hx hy;rw[e0];exact q1
     |succ j=>
      rw[es' j];exact ih2 j x y (by simpa using hx) (by simpa using hy)
def XA{A:cg}{k:Nat}(h:A.units+(k+1)<cI):A.in1.units+k<cI:=by
 have e:A.in1.units<=A.units+1:=by
  first|exact aD _|(simp[cg.in1,cg.units]<;>lia)
 lia
theorem Gh(I:Inv X pq U H s):∀(k:Nat)(A:cg)(x y:D)(v u:V)(vv uu:am)(b:Bool),A.units+k<cI->Rep O H x v->Rep O H y u->ZA v vv->ZA u uu->Pv.eqV k x y=aa b->ek A s vv uu b
 |0,_,_,_,_,_,_,_,_,_,_,_,_,_,h=>by cases h
 |k+1,A,x,y,v,u,vv,uu,b,hu,r1,r2,e1,e2,h=>by
  have flat:GT v=ag->GT u=ag->eqV v u=b->ek A s vv uu b:=λf1 f2 e=>by rw[<-e];exact Zaa e1 e2 f1 f2
  have bb:∀{a c:Bool},(a == c)=ae (a=c):=λ{a c}=>by cases a<;>cases c<;>rfl
  have ii:∀{a c:Int},(a == c)=ae (a=c):=λ{a c}=>by rw[bp];simp
  have ss:∀{a c:bc},(a == c)=ae (a=c):=λ{a c}=>by rw[bp];simp
  have item:∀{ds es:List D}{xs ys:List V}(j:Nat)(its its2:List am)(j1:j<its.toArray.size)(j2:j<its2.toArray.size),its.toArray.size=ds.length->its2.toArray.size=es.length->Vals xs its->Vals ys its2->Rq O H ds xs->Rq O H es ys->(∀j x y,ds[j]?=aa x->es[j]?=aa y->Pv.eqV k x y=aa (eAt (Pv.eqV k) ds es j))->ek A.in1 s its.toArray[j] its2.toArray[j] (eAt (Pv.eqV k) ds es j):=λ{ds es xs ys} j its its2 j1 j2 n1 n2 v1 v2 q1 q2 ea=>by
   have d1:ds[j]?=aa ds[j]:=ao (by lia)
   have d2:es[j]?=aa es[j]:=ao (by lia)
   obtain⟨w1,g1,z1⟩:=q1.get d1;obtain⟨w2,g2,z2⟩:=q2.get d2;obtain⟨m1,k1,y1⟩:=v1.get g1;obtain⟨m2,k2,y2⟩:=v2.get g2;have o1:its.toArray[j]=m1:=by simpa using(aM.mp k1).2
   have o2:its2.toArray[j]=m2:=by simpa using(aM.mp k2).2
   rw[o1,o2];exact Gh I k A.in1 ds[j] es[j] w1 w2 m1 m2 _ (XA hu) z1 z2 y1 y2<|ea j _ _ d1 d2
  cases x with
  |non=>
   cases r1.non';cases y with|non=>cases r2.non';exact flat rfl rfl<|ah h|bl _=>cases r2.bl';exact flat rfl rfl<|ah h|int _=>cases r2.int';exact flat rfl rfl<|ah h|str _=>cases r2.str';exact flat rfl rfl<|ah h|_=>exact Ev.nos h
  |bl i=>
   cases r1.bl';cases y with|non=>cases r2.non';exact flat rfl rfl<|ah h|bl _=>cases r2.bl';exact flat rfl rfl<|bb.trans<|ah h|int _=>cases r2.int';exact flat rfl rfl<|ii.trans<|ah h|str _=>cases r2.str';exact flat rfl rfl<|ah h|_=>exact Ev.nos h
  |int i=>
   cases r1.int';cases y with|non=>cases r2.non';exact flat rfl rfl<|ah h|bl _=>cases r2.bl';exact flat rfl rfl<|ii.trans<|ah h|int _=>cases r2.int';exact flat rfl rfl<|ii.trans<|ah h|str _=>cases r2.str';exact flat rfl rfl<|ah h|_=>exact Ev.nos h
  |str i=>
   cases r1.str';cases y with|non=>cases r2.non';exact flat rfl rfl<|ah h|bl _=>cases r2.bl';exact flat rfl rfl<|ah h|int _=>cases r2.int';exact flat rfl rfl<|ah h|str _=>cases r2.str';exact flat rfl rfl<|ss.trans<|ah h|_=>exact Ev.nos h
  |tup ds=>
   obtain⟨p,xs,rfl,hp,q1⟩:=r1.tup';cases e1;cases y with
   |tup es=>
    obtain⟨p',ys,rfl,hp',q2⟩:=r2.tup';cases e2;by_cases hpp:p=p'
    .subst hpp
     rw[Wf (k+1) (.tup ds) (.tup es) (.ref p) b r1 r2 h];exact eK _
    .obtain⟨its,v1,t1,_⟩:=I.tuple (SqT.of hp)
     obtain⟨its2,v2,t2,_⟩:=I.tuple<|SqT.of hp';have h':=h;obtain⟨ev,ea⟩:=YJ h';have n1:its.toArray.size=ds.length:=by rw[aq,<-v1.length,q1.length]
     have n2:its2.toArray.size=es.length:=by rw[aq,<-v2.length,q2.length]
     refine fu hpp ?_;rw[<-ev,<-n1,<-n2];exact fL t1 t2 (by lia) λj j1 j2=>item j its its2 j1 j2 n1 n2 v1 v2 q1 q2 ea
   |_=>exact Ev.nos h
  |lst ds=>
   obtain⟨p,xs,rfl,u1,_,q1⟩:=r1.lst';cases e1;cases y with
   |lst es=>
    obtain⟨p',ys,rfl,u2,_,q2⟩:=r2.lst';cases e2;by_cases hpp:p=p'
    .subst hpp
     rw[Wf (k+1) (.lst ds) (.lst es) (.ref p) b r1 r2 h];exact eK _
    .obtain⟨its,v1,p1,_⟩:=I.list (SqL.of u1)
     obtain⟨its2,v2,p2,_⟩:=I.list<|SqL.of u2;have n1:its.toArray.size=ds.length:=by rw[aq,<-v1.length,q1.length]
     have n2:its2.toArray.size=es.length:=by rw[aq,<-v2.length,q2.length]
     refine fu hpp ?_;have h2:(if ds.length=es.length then Pv.Yh (Pv.eqV k) ds es else aa ai)=aa b:=h
     by_cases hl:ds.length=es.length
     .rw[T9 hl]at h2
      obtain⟨ev,ea⟩:=YJ h2;have ev':(aY ds.length).all (eAt (Pv.eqV k) ds es)=b:=by
       rw[<-ev,<-hl,iR];simp
      rw[<-ev',<-n1];exact kh p1.isList p2.isList (by lia) (by lia) λj j1 j2=>item j its its2 j1 j2 n1 n2 v1 v2 q1 q2 ea
     .rw[T8 hl]at h2
      rw[<-ah h2];exact fP p1.isList p2.isList (bne_iff_ne.mpr<|by lia) (by lia)
   |_=>exact Ev.nos h
  |_=>exact Ev.nos h
def X4(I:Inv X pq U H s){k:Nat}{A:cg}{ds es:List D}{xs ys:List V}{its its2:List am}{b:Bool}(hu:A.units+(k+1)<cI)
  (q1:Rq O H ds xs)(q2:Rq O H es ys)(v1:Vals xs its)(v2:Vals ys its2)(h:Pv.Yh (Pv.eqV k) ds es=aa b) :
  ∀j (h1:j<its.toArray.size) (h2:j<its2.toArray.size),ek A.in1 s its.toArray[j] its2.toArray[j] (eAt (Pv.eqV k) ds es j):=λj j1 j2=>by
 obtain⟨_,ea⟩:=YJ h;have n1:its.toArray.size=ds.length:=by rw[aq,<-v1.length,q1.length]
 have n2:its2.toArray.size=es.length:=by rw[aq,<-v2.length,q2.length]
 have d1:ds[j]?=aa ds[j]:=ao (by lia)
 have d2:es[j]?=aa es[j]:=ao (by lia)
 obtain⟨w1,g1,z1⟩:=q1.get d1;obtain⟨w2,g2,z2⟩:=q2.get d2;obtain⟨m1,k1,y1⟩:=v1.get g1;obtain⟨m2,k2,y2⟩:=v2.get g2;have o1:its.toArray[j]=m1:=by
  have:=aM.mp k1
  simpa using this.2
 have o2:its2.toArray[j]=m2:=by
  have:=aM.mp k2
  simpa using this.2
 rw[o1,o2];exact Gh I k A.in1 ds[j] es[j] w1 w2 m1 m2 _ (XA hu) z1 z2 y1 y2<|ea j _ _ d1 d2
def uS(K:aj)(xw:Nat->Hp->Prop)(op:Cop):R2:=λv u H Q=>∃O S x y,St3 K O S H/\Rep O H x v/\Rep O H y u/\End K xw Rep O H Q (Pv.po (Pv.Yq op x y) S)
def qQ :∀U H Q,tE X xw (Pv.pv C<|.cmp op i j) U H Q->tOp (uS X.K xw op) (tE X xw<|Pv.pv C i) (tE X xw<|Pv.pv C j) U H Q:=λU H Q h=>
 Xn (λ{O H S x y v u Q} st rx ry h=>#[O,S,x,y,st,rx,ry,h]) U H Q h
def dI{a c:Int}:(a == c)=ae (a=c):=by rw[bp];simp
def GR{H:Hp}{O:Mx}{k:Nat}{x y:D}{v u:V}{b:Bool}(rx:Rep O H x v)(ry:Rep O H y u)(hb:Pv.eqV (k+1) x y=aa b):(scal v u=ag/\ae (v=u)=b)\/(∃i j,v=.bl i/\u=.int j/\ae (Ev.b2i i=j)=b)\/(∃i j,v=.int i/\u=.bl j/\ae (i=Ev.b2i j)=b)\/(∃ds es,x=.tup ds/\y=.tup es/\Pv.Yh (Pv.eqV k) ds es=aa b)\/∃ds es,x=.lst ds/\y=.lst es/\(if ds.length=es.length then Pv.Yh (Pv.eqV k) ds es else aa ai)=aa b:=by
 cases x with
 |non=>cases rx.non';cases y with|non=>cases ry.non';exact .inl #[rfl,ah hb▸by simp]|bl _=>cases ry.bl';exact .inl #[rfl,ah hb]|int _=>cases ry.int';exact .inl #[rfl,ah hb]|str _=>cases ry.str';exact .inl #[rfl,ah hb]|_=>exact Ev.nos hb
 |bl i=>cases rx.bl';cases y with|non=>cases ry.non';exact .inl #[rfl,ah hb]|bl j=>cases ry.bl';exact .inl #[rfl,ah hb▸by simp]|int j=>cases ry.int';exact .inr<|.inl #[i,j,rfl,rfl,ah hb]|str _=>cases ry.str';exact .inl #[rfl,ah hb]|_=>exact Ev.nos hb
 |int i=>cases rx.int';cases y with|non=>cases ry.non';exact .inl #[rfl,ah hb]|bl j=>cases ry.bl';exact .inr<|.inr<|.inl #[i,j,rfl,rfl,ah hb]|int _=>cases ry.int';exact .inl #[rfl,ah hb▸by simp]|str _=>cases ry.str';exact .inl #[rfl,ah hb]|_=>exact Ev.nos hb
 |str i=>cases rx.str';cases y with|non=>cases ry.non';exact .inl #[rfl,ah hb]|bl _=>cases ry.bl';exact .inl #[rfl,ah hb]|int _=>cases ry.int';exact .inl #[rfl,ah hb]|str _=>cases ry.str';exact .inl #[rfl,ah hb▸by simp]|_=>exact Ev.nos hb
 |tup ds=>cases y with|tup es=>exact .inr<|.inr<|.inr<|.inl #[ds,es,rfl,rfl,hb]|_=>exact Ev.nos hb
 |lst ds=>cases y with|lst es=>exact .inr<|.inr<|.inr<|.inr #[ds,es,rfl,rfl,hb]|_=>exact Ev.nos hb
 |_=>exact Ev.nos hb
def Zan(hu:X.A.units+6<cI):OpR X (bG .Eq) (uS X.K xw .eq):=by
 intro pq s U H v u vv uu Q I e1 e2 h;obtain⟨O,S,x,y,st,rx,ry,h⟩:=h;obtain⟨b,hb,h1⟩:=End.map h;have q:=End.ok h1 st<|Yd b;rcases GR rx ry hb with⟨hs,e⟩|⟨i,j,rfl,rfl,e⟩|⟨i,j,rfl,rfl,e⟩|⟨ds,es,rfl,rfl,hb'⟩|⟨ds,es,rfl,rfl,h2⟩
 .exact ZaX pq s U H v u vv uu Q I e1 e2 #[hs,by rw[e];exact q]
 .cases e1
  obtain⟨t,rfl⟩:=e2;refine EqBoolInt.eq_bool_int #[.bl b,H,I,?_,q];show be ((if i then 1 else 0) == j)=be b
  rw[dI];exact congrArg be e
 .cases e2
  obtain⟨t,rfl⟩:=e1;refine EqBoolInt.eq_int_bool #[.bl b,H,I,?_,q];show be (i == (if j then 1 else 0))=be b
  rw[dI];exact congrArg be e
 ·
  obtain⟨p,xs,rfl,hp,q1⟩:=rx.tup';cases e1;obtain⟨p',ys,rfl,hp',q2⟩:=ry.tup';cases e2;obtain⟨its,v1,t1,_⟩:=I.tuple<|SqT.of hp;obtain⟨its2,v2,t2,_⟩:=I.tuple<|SqT.of hp';obtain⟨ev,_⟩:=YJ hb';have n1:its.toArray.size=ds.length:=by rw[aq,<-v1.length,q1.length]
  have n2:its2.toArray.size=es.length:=by rw[aq,<-v2.length,q2.length]
  refine fL t1 t2 (by lia) (X4 I hu q1 q2 v1 v2 hb') X.prog X.w X.xe _ ?_
  rw[n1,n2,ev];exact#[.bl b,H,I,rfl,q]
 ·
  obtain⟨p,xs,rfl,u1,_,q1⟩:=rx.lst';cases e1;obtain⟨p',ys,rfl,u2,_,q2⟩:=ry.lst';cases e2;obtain⟨its,v1,p1,_⟩:=I.list<|SqL.of u1;obtain⟨its2,v2,p2,_⟩:=I.list<|SqL.of u2;have n1:its.toArray.size=ds.length:=by rw[aq,<-v1.length,q1.length]
  have n2:its2.toArray.size=es.length:=by rw[aq,<-v2.length,q2.length]
  by_cases hl:ds.length=es.length
  .rw[T9 hl]at h2
   obtain⟨ev,_⟩:=YJ h2;have ev':(aY ds.length).all (eAt (Pv.eqV 5) ds es)=b:=by
    rw[<-ev,<-hl,iR];simp
   refine kh p1.isList p2.isList (by lia) (by lia) (X4 I hu q1 q2 v1 v2 h2) X.prog X.w X.xe _ ?_
   rw[n1,ev'];exact#[.bl b,H,I,rfl,q]
  .rw[T8 hl]at h2
   refine fP p1.isList p2.isList (bne_iff_ne.mpr<|by lia) (by lia) X.prog X.w X.xe _ ?_
   exact#[.bl b,H,I,congrArg be<|ah h2,q]
def ja(hu:X.A.units+6<cI):OpR X (bG .NotEq) (uS X.K xw .ne):=by
 intro pq s U H v u vv uu Q I e1 e2 h;obtain⟨O,S,x,y,st,rx,ry,h⟩:=h;obtain⟨b,hb,h1⟩:=End.map h;have q:=End.ok h1 st<|Yd _;rcases GR rx ry hb with⟨hs,e⟩|⟨i,j,rfl,rfl,e⟩|⟨i,j,rfl,rfl,e⟩|⟨ds,es,rfl,rfl,hb'⟩|⟨ds,es,rfl,rfl,h2⟩
 .exact Zbx pq s U H v u vv uu Q I e1 e2 #[hs,by rw[e];exact q]
 .cases e1
  obtain⟨t,rfl⟩:=e2;refine EqBoolInt.ne_bool_int #[.bl !b,H,I,?_,q];show be (!((if i then 1 else 0) == j))=be !b
  rw[dI];exact congrArg (λz=>be !z) e
 .cases e2
  obtain⟨t,rfl⟩:=e1;refine EqBoolInt.ne_int_bool #[.bl !b,H,I,?_,q];show be (!(i == (if j then 1 else 0)))=be !b
  rw[dI];exact congrArg (λz=>be !z) e
 ·
  obtain⟨p,xs,rfl,hp,q1⟩:=rx.tup';cases e1;obtain⟨p',ys,rfl,hp',q2⟩:=ry.tup';cases e2;obtain⟨its,v1,t1,_⟩:=I.tuple<|SqT.of hp;obtain⟨its2,v2,t2,_⟩:=I.tuple<|SqT.of hp';obtain⟨ev,_⟩:=YJ hb';have n1:its.toArray.size=ds.length:=by rw[aq,<-v1.length,q1.length]
  have n2:its2.toArray.size=es.length:=by rw[aq,<-v2.length,q2.length]
  refine SeqAt.RcNeAt.tuples t1 t2 (by lia) (X4 I hu q1 q2 v1 v2 hb') X.prog X.w X.xe _ ?_
  rw[n1,n2,ev];exact#[.bl !b,H,I,rfl,q]
 ·
  obtain⟨p,xs,rfl,u1,_,q1⟩:=rx.lst';cases e1;obtain⟨p',ys,rfl,u2,_,q2⟩:=ry.lst';cases e2;obtain⟨its,v1,p1,_⟩:=I.list<|SqL.of u1;obtain⟨its2,v2,p2,_⟩:=I.list<|SqL.of u2;have n1:its.toArray.size=ds.length:=by rw[aq,<-v1.length,q1.length]
  have n2:its2.toArray.size=es.length:=by rw[aq,<-v2.length,q2.length]
  by_cases hl:ds.length=es.length
  .rw[T9 hl]at h2
   obtain⟨ev,_⟩:=YJ h2;have ev':(aY ds.length).all (eAt (Pv.eqV 5) ds es)=b:=by
    rw[<-ev,<-hl,iR];simp
   refine SeqAt.RcNeAt.lists p1.isList p2.isList (by lia) (by lia) (X4 I hu q1 q2 v1 v2 h2) X.prog X.w X.xe _ ?_
   rw[n1,ev'];exact#[.bl !b,H,I,rfl,q]
  .rw[T8 hl]at h2
   refine SeqAt.RcNeAt.lists_lengths p1.isList p2.isList (bne_iff_ne.mpr<|by lia) (by lia) X.prog X.w X.xe _ ?_
   exact#[.bl !b,H,I,congrArg (λz=>be !z)<|ah h2,q]
theorem U2(hf:∀x x' y v b b',Rep O H x v->Rep O H x' v->f x y=aa b->f x' y=aa b'->b=b') :
  ∀{ds ds' es:List D}{xs:List V}{b b':Bool},Rq O H ds xs->Rq O H ds' xs->Pv.Yh f ds es=aa b->Pv.Yh f ds' es=aa b'->b=b'
 |[],[],[],_,b,b',_,_,h,h'=>(ah h).symm.trans<|ah h'
 |[],[],_::_,_,b,b',_,_,h,h'=>(ah h).symm.trans<|ah h'
 |_::_,_::_,[],_,b,b',_,_,h,h'=>(ah h).symm.trans<|ah h'
 |d::ds,d'::ds',e::es,_,b,b',r1,r2,h,h'=>by
  obtain⟨v,vs,rfl,a1,b1⟩:=r1;obtain⟨v',vs',e',a2,b2⟩:=r2;cases e';unfold Pv.Yh at h h';cases q1:f d e with
  |none=>rw[q1]at h;cases h
  |some p=>
   cases q2:Pv.Yh f ds es with
   |none=>rw[q1,q2]at h;cases h
   |some q=>
    cases q3:f d' e with
    |none=>rw[q3]at h';cases h'
    |some p'=>
     cases q4:Pv.Yh f ds' es with
     |none=>rw[q3,q4]at h';cases h'
     |some q'=>
      rw[q1,q2]at h;rw[q3,q4]at h';have z1:=ah h;have z2:=ah h';rw[<-z1,<-z2,hf d d' e v p p' a1 a2 q1 q3,U2 hf b1 b2 q2 q4]
 |[],_::_,_,_,b,b',r1,r2,_,_=>by
  have l1:=r1.length;have l2:=r2.length;rw[l1]at l2;simp at l2
 |_::_,[],_,_,b,b',r1,r2,_,_=>by
  have l1:=r1.length;have l2:=r2.length;rw[l1]at l2;simp at l2
theorem UZ:∀(k:Nat)(x x' y:D)(v:V)(b b':Bool),Rep O H x v->Rep O H x' v->Pv.eqV k x y=aa b->Pv.eqV k x' y=aa b'->b=b'
 |0,_,_,_,_,_,_,_,_,h,_=>by cases h
 |k+1,x,x',y,v,b,b',r1,r2,h,h'=>by
  by_cases hv:∃a,v=.ref a
  .obtain⟨p,rfl⟩:=hv
   rcases r1.ref (.inl h)with⟨ds,es,rfl,rfl⟩|⟨ds,es,rfl,rfl⟩<;>rcases r2.ref (.inl h')with⟨ds',es',rfl,z⟩|⟨ds',es',rfl,z⟩<;>cases z
   .obtain⟨_,_,z,e1,q1⟩:=r1.tup'
    cases z;obtain⟨_,_,z,e2,q2⟩:=r2.tup';cases z;rw[e1]at e2;cases e2;exact U2 (λx x' y v b b'=>UZ k x x' y v b b') q1 q2 h h'
   .obtain⟨_,_,z,e1,_,q1⟩:=r1.lst'
    cases z;obtain⟨_,_,z,e2,_,q2⟩:=r2.lst';cases z;rw[e1]at e2;cases e2;have l:ds'.length=ds.length:=by rw[<-q1.length,q2.length]
    have h:(if ds.length=es.length then Pv.Yh (Pv.eqV k) ds es else aa ai)=aa b:=h
    have h':(if ds'.length=es.length then Pv.Yh (Pv.eqV k) ds' es else aa ai)=aa b':=h'
    rw[l]at h';by_cases c:ds.length=es.length
    .rw[T9 c]at h h'
     exact U2 (λx x' y v b b'=>UZ k x x' y v b b') q1 q2 h h'
    .rw[T8 c]at h h'
     exact ah<|h.symm.trans h'
  .cases r1.sc r2 λa z=>hv #[a,z]
   exact ah<|h.symm.trans h'
theorem UY :∀{ds:List D}{b:Bool},Pv.XO x ds=aa b->∀d∈ds,∃c,Pv.eqV Ev.Zn d x=aa c
 |[],_,_,d,hd=>by cases hd
 |y::ys,b,h,d,hd=>by
  unfold Pv.XO at h;cases q1:Pv.eqV Ev.Zn y x with
  |none=>rw[q1]at h;cases h
  |some p=>
   cases q2:Pv.XO x ys with
   |none=>rw[q1,q2]at h;cases h
   |some q=>
    rcases ar.mp hd with rfl|hd
    .exact#[p,q1]
    .exact UY q2 d hd
theorem GI :∀{ds:List D}{b:Bool},Pv.XO x ds=aa b->(ds.any λd=>(Pv.eqV Ev.Zn d x).getD ai)=b
 |[],_,h=>ah h
 |y::ys,b,h=>by
  unfold Pv.XO at h;cases q1:Pv.eqV Ev.Zn y x with
  |none=>rw[q1]at h;cases h
  |some p=>
   cases q2:Pv.XO x ys with
   |none=>rw[q1,q2]at h;cases h
   |some q=>
    rw[q1,q2]at h;rw[cF,GI q2,q1,<-ah h];rfl
open Classical in
def Qw(I:Inv X pq U H s)(hu:A.units+6<cI)(rx:Rep O H x v)(ex:ZA v vv)
  (q:Rq O H ds xs)(vs:Vals xs its)(h:Pv.XO x ds=aa b):∃e:am->Bool,(∀u,u∈its.toArray->ek A s u vv (e u))/\its.toArray.any e=b:=by
 refine#[λu=>ae (∃d∈ds,∃w,Rep O H d w/\ZA w u/\Pv.eqV Ev.Zn d x=aa ag),λu hu'=>?_,?_]
 .have hu2:u∈its:=by simpa using hu'
  obtain⟨j,hj,e⟩:=bL hu2;have hl:j<ds.length:=by rw[<-q.length,vs.length];exact hj
  obtain⟨w,g,r⟩:=q.get<|ao hl;obtain⟨u',g',r'⟩:=vs.get g;have eu:u'=u:=by
   rw[ao hj]at g';exact(ah g').symm.trans e
  subst eu;obtain⟨c,hc⟩:=UY h ds[j]<|aJ hl;have ec:ae (∃d∈ds,∃w,Rep O H d w/\ZA w u'/\Pv.eqV Ev.Zn d x=aa ag)=c:=by
   cases c with
   |true=>exact T5 #[ds[j],aJ hl,w,r,r',hc]
   |false=>
    refine T4 ?_
    rintro ⟨d,hd,w',a1,a2,a3⟩
    cases a2.inj r';exact T7 (UZ 6 d ds[j] x w ag ai a1 r a3 hc) (by decide)
  dsimp only
  rw[ec];exact Gh I 6 A ds[j] x w v u' vv c hu r rx r' ex hc
 .rw[<-GI h,List.any_toArray,bp,cq,cq]
  constructor
  .rintro ⟨u,hu1,h1⟩
   obtain⟨d,hd,w,a1,a2,a3⟩:=T6 h1;exact#[d,hd,by rw[a3];rfl]
  .rintro ⟨d,hd,h1⟩
   obtain⟨j,hj,e⟩:=bL hd;subst e;obtain⟨w,g,r⟩:=q.get<|ao hj;obtain⟨u,g',r'⟩:=vs.get g;refine#[u,eD g',T5 #[ds[j],hd,w,r,r',?_]];obtain⟨c,hc⟩:=UY h ds[j] hd;rw[hc]at h1 ⊢;exact congrArg aa h1
section
variable{X:Cx}{xw:Nat->Hp->Prop}{C:Calls}{e a b c:Expr}{i j k:E}{pos p p':fA}
def jZ(hu:X.A.units+7<cI):OpR X (bG .In) (λv u H Q=>∃O S x ds b,St3 X.K O S H/\Rep O H x v/\(Rep O H (.tup ds) u\/Rep O H (.lst ds) u)/\Pv.XO x ds=aa b/\Q (.bl b) H):=by
 intro pq s U H v u vv uu Q I e1 e2 h;obtain⟨O,S,x,ds,b,st,rx,ry,hb,q⟩:=h;rcases ry with ry|ry
 .obtain⟨p,xs,rfl,hp,q1⟩:=ry.tup'
  cases e2;obtain⟨its,v1,t1,_⟩:=I.tuple<|SqT.of hp;obtain⟨f,h1,h2⟩:=Qw I (XA hu) rx e1 q1 v1 hb;exact SeqAt.in_tupleAt f t1 h1 (by rw[h2];exact#[.bl b,H,I,rfl,q])
 .obtain⟨p,xs,rfl,hx,_,q1⟩:=ry.lst'
  cases e2;obtain⟨its,v1,t1,_⟩:=I.list<|SqL.of hx;obtain⟨f,h1,h2⟩:=Qw I (XA hu) rx e1 q1 v1 hb;exact SeqAt.in_listAt f t1.isList h1 (by rw[h2];exact#[.bl b,H,I,rfl,q])
variable{O:Mx}{H:Hp}{S:Zp}{x y:D}{v u:V}{Q:VK}{K:aj}
def u5(h:Pv.int2 x y=aa z):x=.int z.1/\y=.int z.2:=by
 cases x<;>first|exact Ev.nos h|(cases y<;>first|exact Ev.nos h|(cases h;exact#[rfl,rfl]))
def Qg{f:Int×Int->Bool}(st:St3 K O S H)(rx:Rep O H x v)(ry:Rep O H y u)(h:End K xw Rep O H Q (Pv.po ((Pv.int2 x y).map λz=>.bl<|f z) S)):rI0 (λi j=>.bl<|f (i,j)) v u H Q:=by
 obtain⟨z,hz,h⟩:=End.map h;obtain⟨rfl,rfl⟩:=u5 hz;exact#[_,_,rx.int',ry.int',End.ok h st<|Yd _]
def Zbr(st:St3 K O S H)(rx:Rep O H x v)(ry:Rep O H y u)(h:End K xw Rep O H Q (Pv.po (Pv.Yq .lt x y) S)):rI0 (λi j=>.bl<|ae<|i<j) v u H Q\/∃a b A B,x=.tup a/\y=.tup b/\Pv.Z4 a=aa A/\Pv.Z4 b=aa B/\Q (.bl<|Ev.ltP A B) H:=by
 cases x with
 |tup a=>cases y with
  |tup b=>
   obtain⟨z,hz,h⟩:=End.po h;obtain⟨A,hA,hz⟩:=aO.mp hz;obtain⟨B,hB,rfl⟩:=aW.mp hz;exact .inr #[a,b,A,B,rfl,rfl,hA,hB,End.ok h st<|Yd _]
  |_=>exact False.elim h
 |_=>exact .inl<|Qg (f:=λz=>ae<|z.1<z.2) st rx ry h
end
section
variable{X:Cx}{xw:Nat->Hp->Prop}{C:Calls}{e a b c:Expr}{i j k:E}{pos p p':fA}
def YL{m β γ:Type}(r:R m)(f:m->Zp->R β)(g:β->Zp->R γ):(r.bind f).bind g=r.bind λa S=>(f a S).bind g:=by cases r<;>rfl
def JN{m:Type}{o:Option m}{f:m->Bool}{z:D}(h:o.map (λa=>Pv.V.bl<|f a)=aa z):∃b,z=.bl b:=by
 obtain⟨a,_,rfl⟩:=aW.mp h;exact#[_,rfl]
def yE{o:Cop}{x y:D}{S S':Zp}{z:D}(h:Pv.po (Pv.Yq o x y) S=.ok z S'):∃b,z=.bl b:=by
 have h:Pv.Yq o x y=aa z:=by
  cases q:Pv.Yq o x y<;>rw[q]at h<;>cases h;rfl
 cases o with
 |lt=>
  cases x with
  |tup a=>
   cases y with|tup b=>obtain⟨A,_,h⟩:=aO.mp h;exact JN h|_=>exact Ev.nos h
  |int i=>exact JN h
  |_=>exact Ev.nos h
 |_=>exact JN h
def YX(X:Cx)(xw:Nat->Hp->Prop)(op:CmpOp)(o:Cop):Prop:=OpR X (bG op)<|uS X.K xw o
def OpR.imp(h:OpR X f r)(k:∀v u H Q,r' v u H Q->r v u H Q):OpR X f r':=λpq s U H x y v u Q I e1 e2 q=>h pq s U H x y v u Q I e1 e2<|k x y H Q q
theorem xc(hu:X.A.units+7<cI):YX X xw .Eq .eq:=Zan (by lia)
theorem yB(hu:X.A.units+7<cI):YX X xw .NotEq .ne:=ja (by lia)
def Uy(hu:X.A.units+7<cI):YX X xw .LtE .le:=OpR.imp Zbk<|by rintro v u H Q ⟨O,S,x,y,st,rx,ry,h⟩;exact Qg st rx ry h
def wu(hu:X.A.units+7<cI):YX X xw .Gt .gt:=OpR.imp Zby<|by rintro v u H Q ⟨O,S,x,y,st,rx,ry,h⟩;exact Qg (f:=λz=>ae<|z.2<z.1) st rx ry h
def yK(hu:X.A.units+7<cI):YX X xw .GtE .ge:=OpR.imp Zbt<|by rintro v u H Q ⟨O,S,x,y,st,rx,ry,h⟩;exact Qg st rx ry h
def xV{O:Mx}{H:Hp}{x y:D}{v u:V}{b:Bool}(rx:Rep O H x v)(ry:Rep O H y u)(h:Pv.isV x y=aa b):(u=.non/\ae (v=.non)=b)\/∃i j,v=.bl i/\u=.bl j/\ae (i=j)=b:=by
 cases y with
 |non=>
  refine .inl #[ry.non',?_];rw[<-ah h];cases x<;>unfold Rep at rx<;>first
   |(subst rx;rfl)
   |(obtain⟨_,z,_⟩:=rx;subst z;rfl)
   |(obtain⟨_,_,z,_⟩:=rx;subst z;rfl)
 |bl j=>cases x with|bl i=>exact .inr #[i,j,rx.bl',ry.bl',ah h]|_=>exact Ev.nos h
 |_=>exact Ev.nos h
def xU(hu:X.A.units+7<cI):YX X xw .Is .is:=OpR.imp (jP.or ZaB)<|by
 rintro v u H Q ⟨O,S,x,y,st,rx,ry,h⟩;obtain⟨b,hb,h⟩:=End.map h;have q:=End.ok h st<|Yd b;rcases xV rx ry hb with⟨e,z⟩|⟨i,j,e,e2,z⟩
 .exact .inl #[e,by rw[z];exact q]
 .exact .inr #[i,j,e,e2,by rw[z];exact q]
def J6(hu:X.A.units+7<cI):YX X xw .IsNot .isn:=OpR.imp (uj.or vY)<|by
 rintro v u H Q ⟨O,S,x,y,st,rx,ry,h⟩;obtain⟨b,hb,h⟩:=End.map h;have q:=End.ok h st<|Yd !b;rcases xV rx ry hb with⟨e,z⟩|⟨i,j,e,e2,z⟩
 .exact .inl #[e,by rw[z];exact q]
 .exact .inr #[i,j,e,e2,by rw[decide_not,z];exact q]
def xY{O:Mx}{H:Hp}{x y:D}{u:V}{b:Bool}(ry:Rep O H y u)(h:Pv.WF x y=aa b) :
  (∃ds,(Rep O H (.tup ds) u\/Rep O H (.lst ds) u)/\Pv.XO x ds=aa b)\/
  (∃(l:List (List Int))(k:List D)(ks:List Int),(∃(p:aB)(vs:List (List Key×V)),u=.ref p/\Rd H p (.dT vs)/\vs.map (·.1)=l.map (·.map bU))/\x=.tup k/\Pv.intsV k=aa ks/\l.contains ks=b):=by
 cases y with
 |tup ys=>exact .inl #[ys,.inl ry,h]
 |lst ys=>exact .inl #[ys,.inr ry,h]
 |dct o=>
  cases o with
  |inl _=>exact Ev.nos h
  |inr l=>
   cases x with
   |tup k=>
    obtain⟨ks,e,z⟩:=aW.mp h;obtain⟨p,e1,o,vs,e2,e3⟩:=ry.dct';exact .inr #[l,k,ks,#[p,vs,e1,.inr #[o,e2],e3],rfl,e,z]
   |_=>exact Ev.nos h
 |dow l=>
  cases x with
  |tup k=>
   obtain⟨ks,e,z⟩:=aW.mp h;obtain⟨p,vs,e1,e2,_,e3⟩:=ry.dow';exact .inr #[l,k,ks,#[p,vs,e1,.inl e2,e3],rfl,e,z]
  |_=>exact Ev.nos h
 |_=>exact Ev.nos h
def Y0{op:CmpOp}{o:Cop}(hc:YX X xw op o)(ha:CE X xw C a i)(hb:CE X xw C b j)(hm:dL op b=ai):CE X xw C (.Compare a [op] [b] pos) (.cmp o i j):=.mk <|
 PE.imp (uq hc ha.h hb.h hm) (qQ)
def Xa{op:CmpOp}{o:Cop}(hc:YX X xw op o)(ha:CE X xw C a i)(hb:CE X xw C b j)(hm:dL op b=ai):CT X xw C (.Compare a [op] [b] pos) (.cmp o i j):=.mk <|
 PT.imp (uv hc ha.h hb.h hm)<|by
  rintro U H Q ⟨O,l,S,st,lr,h⟩;have h':End X.K xw VY O H Q (((Pv.pv C i l S).bind λx S=>(Pv.pv C j l S).bind λy S=>Pv.po (Pv.Yq o x y) S).bind λx S=>Pv.po (Pv.Zo x) S):=h
  simp only[YL]at h';refine#[O,l,S,st,lr,h'.bind λx S1 ρ1 H1 v f1 st1 r1 h1=>#[ρ1,l,S1,st1,lr.mono f1,h1.bind λy S2 ρ2 H2 u f2 st2 r2 h2=>#[ρ2,S2,x,y,st2,r1.mono f2,r2,?_]]]
  have h3:∀{r:R D},(∀z S',r=.ok z S'->∃b,z=.bl b)->End X.K xw VY ρ2 H2 Q (r.bind λx S=>Pv.po (Pv.Zo x) S)->End X.K xw Rep ρ2 H2 (λx H'=>∃k,x=V.bl k/\Q k H') r:=λ{r} hr h=>by
   cases r with
   |no=>exact h
   |ex _ _=>exact h
   |ok z S3=>
    obtain⟨b,rfl⟩:=hr z S3 rfl;exact λρ3 H3 w f3 st3 r3=>#[b,r3.bl',h ρ3 H3 b f3 st3 rfl]
  exact h3 (λz S' e=>yE e) h2
def Jh{op op':CmpOp}{o o':Cop}{d:Expr}{k:E}(hc:YX X xw op o)(hc':YX X xw op' o')(ha:CE X xw C a i)(hb:CE X xw C b j)(hd:CE X xw C d k)
  (hm:lastMarks [op,op'] [b,d]=ai):CE X xw C (.Compare a [op,op'] [b,d] pos) (.chain o o' i j k):=.mk <|
 PE.imp (va hc hc' ha.h hb.h hd.h hm)<|by
  rintro U H Q ⟨O,l,S,st,lr,h⟩;refine#[O,l,S,st,lr,End.bind (show End X.K xw Rep O H Q ((Pv.pv C i l S).bind _)from h) λx S1 ρ1 H1 v f1 st1 r1 h1=>#[ρ1,l,S1,st1,lr.mono f1,h1.bind λy S2 ρ2 H2 u f2 st2 r2 h2=>#[ρ2,S2,x,y,st2,r1.mono f2,r2,h2.bind λz S3 ρ3 H3 w f3 st3 r3 h3=>?_]]]
  cases z with
  |bl n=>
   refine#[n,r3.bl',?_];cases n with|true=>exact#[ρ3,l,S3,st3,((lr.mono f1).mono f2).mono f3,End.bind (show End X.K xw Rep ρ3 H3 Q ((Pv.pv C k l S3).bind _)from h3) λt S4 ρ4 H4 t' f4 st4 r4 h4=>#[ρ4,S4,y,t,st4,(r2.mono f3).mono f4,r4,h4]]|false=>exact End.ok h3 st3<|Yd _
  |_=>exact False.elim h3
end
section
variable{X:Cx}{xw:Nat->Hp->Prop}{C:Calls}{e a b c:Expr}{i j k:E}{pos p p' p2:fA}
variable{O:Mx}{H:Hp}{S:Zp}{x y:D}{v u:V}{Q:VK}{K:aj}
def V9{d:D}{ks:List D}{k:List Int}(h:Pv.intsV (d::ks)=aa k):∃n r,d=.int n/\Pv.intsV ks=aa r/\k=n::r:=by
 cases d<;>first|exact Ev.nos h|(obtain⟨r,e,z⟩:=aW.mp h;exact#[_,r,rfl,e,z.symm])
theorem Wg:∀{ks:List D}{k:List Int}{xs:List V},Pv.intsV ks=aa k->Rq O H ks xs->xs=(k.map (bU:Int->Key)).map kV
 |[],k,xs,h,r=>by cases h;rw[r];rfl
 |d::ks,k,xs,h,r=>by
  obtain⟨v,vs,rfl,a1,b1⟩:=r;obtain⟨n,r,rfl,e,rfl⟩:=V9 h;rw[a1.int',Wg e b1];rfl
theorem U3:∀{k k':List Int},k.map (bU:Int->Key)=k'.map bU->k=k'
 |[],[],_=>rfl
 |[],_::_,h=>by simp at h
 |_::_,[],h=>by simp at h
 |a::k,b::k',h=>by
  rw[aN,aN]at h;injection h with h1 h2
  rw[kx h1,U3 h2]
def yj{k:List Int}{l:List (List Int)}{vs:List (List Key×V)}(h:vs.map (·.1)=l.map (·.map (bU:Int->Key))):(Vp vs<|k.map bU).isSome=l.contains k:=by
 rw[<-Q0,show(vs.any λkv=>ae<|kv.1=k.map bU)=(vs.map (·.1)).any λy=>ae (y=k.map bU) by rw[List.any_map];rfl,h,List.any_map,List.contains_eq_any_beq]
 congr 1
 funext y
 show ae (y.map bU=k.map bU)=(k == y);by_cases z:y=k
 .subst z;simp
 .rw[T4 λw=>z<|U3 w,beq_eq_false_iff_ne.mpr<|Ne.symm z]
theorem jn(hu:X.A.units+7<cI):OpR X (bG .In) (λv u H Q=>∃a y o,u=.ref a/\v=y/\DGet H a y o/\Q (.bl o.isSome) H):=by
 intro pq s U H v u vv uu Q I e1 e2 h;obtain⟨a,y,o,rfl,rfl,g,q⟩:=h;cases e2;exact ZbN (by lia) I g e1 λs' I'=>#[.bl o.isSome,H,I',rfl,q]
def yF(hu:X.A.units+7<cI):YX X xw .In .inn:=OpR.imp ((jZ hu).or<|jn hu)<|by
 rintro v u H Q ⟨O,S,x,y,st,rx,ry,h⟩;obtain⟨b,hb,h⟩:=End.map h;have q:=End.ok h st<|Yd _;rcases xY ry hb with⟨ds,hy,hb⟩|⟨l,k,ks,hy,rfl,hk,e⟩
 .exact .inl #[O,S,x,ds,b,st,rx,hy,hb,q]
 .obtain⟨p,vs,rfl,hx,r⟩:=hy
  obtain⟨a,xs,rfl,ha,r2⟩:=rx.tup';refine .inr #[p,.ref a,_,rfl,rfl,.inr #[vs,_,a,hx,rfl,by rw[ha,Wg hk r2],rfl],?_]
  rw[yj r,e];exact q
def jV(r:Rq O H ds xs)(q:Ev.at' ds n=aa d):∃w,atI xs n=aa w/\Rep O H d w:=by
 obtain⟨m,q2,q⟩:=aO.mp q;obtain⟨w,g,rw'⟩:=r.get q;refine#[w,?_,rw'];unfold atI;rw[r.length,show ixN ds.length n=aa m from q2]
 exact g
def Zbv(ha:CE X xw C a i)(hb:CE X xw C b j)(hs:zw b):CE X xw C (.Subscript a b pos) (.ix i j):=.mk <| PE.imp (ve (Qa.or Zab) ha.h hb.h hs) (Xn λ{O H S x y v u Q} st rx ry h=>by
 obtain⟨d,hd,g0⟩:=End.po h;have k:∃ds n,Pv.Yl x=aa ds/\y=.int n/\Ev.at' ds n=aa d:=by
  cases y with
  |int n=>
   cases x with
   |tup ds=>exact#[ds,n,rfl,rfl,hd]
   |lst ds=>exact#[ds,n,rfl,rfl,hd]
   |scr ns=>
    obtain⟨z,e,rfl⟩:=aW.mp hd;obtain⟨m,q2,q⟩:=aO.mp e;refine#[_,n,rfl,rfl,?_];unfold Ev.at';rw[aw,q2];show(ns.map Pv.V.int)[m]?=_;rw[aV,q];rfl
   |_=>exact Ev.nos hd
  |_=>cases x<;>exact Ev.nos hd
 obtain⟨ds,n,e,rfl,hn⟩:=k;obtain⟨p,xs,rfl,hp,r⟩:=rx.seq e;obtain⟨w,g,rw'⟩:=jV r hn;rw[st.hk]at hp;have q:=End.ok g0 st rw';rcases hp with hp|hp
 .exact .inl #[p,xs,n,w,rfl,ry.int',hp,g,q]
 .exact .inr #[p,xs,n,w,rfl,ry.int',hp,g,q])
def ur:CO X xw C ab ab:=.mk <| PO.imp qj<|by rintro U H Q ⟨O,l,S,st,lr,h⟩;exact End.ok h st rfl
def uW(h:CE X xw C e i):CO X xw C (aa e) (aa i):=.mk <| PO.imp (ZV h.h)<|by
 rintro U H Q ⟨O,l,S,st,lr,h⟩;refine#[O,l,S,st,lr,End.bind (h) λx S1 ρ1 H1 v f1 st1 r1 h1=>?_]
 cases x with|int n=>exact#[n,r1.int',End.ok h1 st1 rfl]|_=>exact False.elim h1
def Qb(n d:Nat)(o:Option Int):Ev.sIx n d o=HT.sIx n d o:=by
 cases o with
 |none=>rfl
 |some i=>first|rfl|(rfl)
def zB(r:Rq O H ds xs)(lo hi:Option Int):Rq O H (Pv.ZW ds lo hi) (ZW xs lo hi):=by
 unfold Pv.ZW ZW;rw[Qb,Qb,r.length];exact(r.drop _).take _
def ZbD{lo hi:Option Expr}{il ih:Option E}(ha:CE X xw C a i)(hl:CO X xw C lo il)(hh:CO X xw C hi ih):CE X xw C (.Subscript a (.Slice lo hi ab p2) pos) (.sl i il ih):=.mk <|
 PE.imp (vp (qX.or<|yW.or vy) ha.h hl.h hh.h)<|by
  rintro U H Q ⟨O,l,S,st,lr,h⟩;refine#[O,l,S,st,lr,End.bind (h) λx S1 ρ1 H1 v f1 st1 r1 h1=>#[ρ1,l,S1,st1,lr.mono f1,h1.bind λy S2 ρ2 H2 u f2 st2 r2 h2=>#[ρ2,l,S2,st2,(lr.mono f1).mono f2,h2.bind λz S3 ρ3 H3 w f3 st3 r3 h3=>?_]]]
  have e1:y=u:=r2;have e2:z=w:=r3;subst e1 e2;have r0:=(r1.mono f2).mono f3;cases x with
  |tup ds=>
   obtain⟨p,xs,rfl,hp,r⟩:=r0.tup';have h':=h3;by_cases hw:HT.sIx xs.length 0 y=0/\HT.sIx xs.length xs.length z=xs.length
   .refine .inr (.inl #[p,xs,rfl,SqT.of hp,hw,End.ok h' st3 ?_])
    have ew:Pv.ZW ds y z=ds:=by
     unfold Pv.ZW;rw[Qb,Qb,<-r.length,hw.1,hw.2,kU,Nat.sub_zero,r.length,ki]
    rw[ew];exact Xc hp r
   .exact .inl #[p,xs,rfl,SqT.of hp,hw,h'.newT st3<|zB r y z]
  |lst ds=>
   obtain⟨p,xs,rfl,hp,_,r⟩:=r0.lst';exact .inr<|.inr #[p,xs,rfl,SqL.of hp,End.newL (h3) st3<|zB r y z]
  |_=>exact False.elim h3
def Vu(K:aj)(xw:Nat->Hp->Prop)(f:Bf):List V->Hp->VK->Prop:=λvs H Q=>∃O S ds,St3 K O S H/\Rq O H ds vs/\End K xw Rep O H Q (Pv.po (Pv.Xs f ds) S)
def ZL.imp{r r':List V->Hp->VK->Prop}(h:ZL X f r)(k:∀vs H Q,r' vs H Q->r vs H Q):ZL X f r':=λpq s U H xs us Q I e q=>h pq s U H xs us Q I e<|k xs H Q q
def yV :∀U H Q,tE X xw (Pv.pv C<|.blt f is) U H Q->tCB (Vu X.K xw f) (tA X xw<|Pv.pvs C is) U H Q:=λU H Q #[O,l,S,st,lr,h]=>
 #[O,l,S,st,lr,End.bind (h) λxs S1 ρ1 H1 vs f1 st1 r1 h1=>#[ρ1,S1,xs,st1,r1,h1]]
def wM(r:Rq O H [d] vs):∃v,vs=[v]/\Rep O H d v:=by
 obtain⟨v,ws,rfl,a1,b1⟩:=r;exact#[v,by rw[b1],a1]
def JA{d e:D}{vs:List V}(r:Rq O H [d,e] vs):∃v w,vs=[v,w]/\Rep O H d v/\Rep O H e w:=by
 obtain⟨v,ws,rfl,a1,b1⟩:=r;obtain⟨w,rfl,b2⟩:=wM b1;exact#[v,w,rfl,a1,b2]
def VH{rep:Mx->Hp->D->V->Prop}{f:Bf}{ds:List D}{vs:List V}(h:End K xw rep O H Q (Pv.po (Pv.Xs f ds) S))(r:Rq O H ds vs)(h1:f≠.max2:=by decide)(h2:f≠.min2:=by decide)(h3:f≠.index:=by decide):∃d v z,vs=[v]/\Rep O H d v/\Pv.blt1 f d=aa z/\End K xw rep O H Q (.ok z S):=by
 obtain⟨z,hz,g⟩:=End.po h
 match ds,hz with
 |[d],hz=>obtain⟨v,rfl,rv⟩:=wM r;exact#[d,v,z,rfl,rv,hz,g]
 |[x,y],hz=>
  have hz:Pv.blt2 f x y=aa z:=hz;cases f<;>first|exact Ev.nos hz|contradiction
def qo{f:Bf}{ds:List D}{vs:List V}(h:End K xw Rep O H Q (Pv.po (Pv.Xs f ds) S))(r:Rq O H ds vs)(h1:∀d,Pv.blt1 f d=ab)(h3:f≠.index:=by decide):∃m n z,vs=[.int m,.int n]/\Pv.blt2 f (.int m) (.int n)=aa z/\End K xw Rep O H Q (.ok z S):=by
 obtain⟨z,hz,g⟩:=End.po h
 match ds,hz with
 |[d],hz=>exact Ev.nos<|(h1 d).symm.trans hz
 |[x,y],hz=>
  have hz:Pv.blt2 f x y=aa z:=hz;have:∃a b,x=.int a/\y=.int b:=by
   cases f<;>first|exact Ev.nos hz|contradiction|(obtain⟨a,ha,q⟩:=aO.mp hz;obtain⟨b,hb,_⟩:=aO.mp q;exact#[a,b,Pv.WS ha,Pv.WS hb])
  obtain⟨a,b,rfl,rfl⟩:=this;obtain⟨v,w,rfl,r1,r2⟩:=JA r;exact#[_,_,z,by rw[r1.int',r2.int'],hz,g]
def G8:ZL X (.builtin "len") (Vu X.K xw .len):=ZL.imp Qt<|by
 rintro vs H Q ⟨O,S,ds,st,r,h⟩;obtain⟨d,v,z,rfl,rv,hz,h⟩:=VH h r;obtain⟨xs,hx,rfl⟩:=aW.mp hz;obtain⟨p,ys,rfl,hq,r2⟩:=rv.seq hx;refine#[p,ys,rfl,by rw[<-st.hk];exact hq,?_]
 rw[r2.length];exact End.ok h st<|ZY _
def zi(hc:X.calm=ag):ZL X (.builtin "max") (Vu X.K xw .max2):=ZL.imp (yv hc)<|by
 rintro vs H Q ⟨O,S,ds,st,r,h⟩;obtain⟨m,n,z,rfl,hz,h⟩:=qo h r λ_=>rfl
 cases hz;exact#[m,n,rfl,End.ok h st<|ZY _]
def G4(hc:X.calm=ag):ZL X (.builtin "min") (Vu X.K xw .min2):=ZL.imp (zV hc)<|by
 rintro vs H Q ⟨O,S,ds,st,r,h⟩;obtain⟨m,n,z,rfl,hz,h⟩:=qo h r λ_=>rfl
 cases hz;exact#[m,n,rfl,End.ok h st<|ZY _]
def V3:ZL X (.type "tuple") (Vu X.K xw .tuple):=ZL.imp VW<|by
 rintro vs H Q ⟨O,S,ds,st,r,h⟩;obtain⟨d,v,z,rfl,r1,hz,h⟩:=VH h r;cases d with|tup ds=>cases hz;obtain⟨p,xs,rfl,hp,r2⟩:=r1.tup';exact#[p,xs,rfl,.inr #[SqT.of hp,End.ok h st r1]]|lst ds=>cases hz;obtain⟨p,xs,rfl,hp,_,r2⟩:=r1.lst';exact#[p,xs,rfl,.inl #[SqL.of hp,h.newT st r2]]|scr ns=>cases hz;obtain⟨p,rfl,hp⟩:=r1.scr';rw[st.hk]at hp;exact#[p,_,rfl,.inl #[hp.sq,h.newT st<|Rq.ints ns]]|_=>exact Ev.nos hz
def Xz{f:Bf}{id:String}{x:bc}{es:List Expr}{is:List E}(hc:ZL X (.builtin id) (Vu X.K xw f))(hm:X.mg x=ab)(ha:CA X xw C (e::es) is)(hg:Gl X x)(hv:cB x=aa (.builtin id))(hn:x≠"__name__")(hdb:(x == ("__debug__" : bc))=ai)
  (he:aE (e::es) X.env=(ai,b9 e X.env)::aE es X.env)(hpl:(du pos<|aE es X.env).any (·.1)=ai):CE X xw C (.Call (.Name x p) (e::es) [] pos) (.blt f is):=.mk <|
 PE.imp (QC hc hg hm hv ha.h hn hdb he hpl) yV
def G5{f:Bf}{id:String}{x:bc}{es:List Expr}{is:List E}(hc:ZL X (.type id) (Vu X.K xw f))(hm:X.mg x=ab)(ha:CA X xw C (e::es) is)(hg:Gl X x)(hv:cB x=aa (.type id))(hn:x≠"__name__")(hdb:(x == ("__debug__" : bc))=ai)
  (he:aE (e::es) X.env=(ai,b9 e X.env)::aE es X.env)(hpl:(du pos<|aE es X.env).any (·.1)=ai):CE X xw C (.Call (.Name x p) (e::es) [] pos) (.blt f is):=.mk <|
 PE.imp (Uj hc hg hm hv ha.h hn hdb he hpl) yV
end
section
variable{X:Cx}{xw:Nat->Hp->Prop}{C:Calls}{e a b c:Expr}{i j k:E}{pos p p' p2:fA}
theorem XN:∀{ds:List D}{bs:List Bool},Pv.ZH ds=aa bs->bs.length=ds.length/\∀j d,ds[j]?=aa d->Pv.WZ d=aa (bs.getD j ai)
 |[],bs,h=>by cases h;exact#[rfl,λj d e=>by simp at e]
 |d::ds,bs,h=>by
  unfold Pv.ZH at h;cases q1:Pv.WZ d with
  |none=>rw[q1]at h;cases h
  |some b=>
   cases q2:Pv.ZH ds with
   |none=>rw[q1,q2]at h;cases h
   |some cs=>
    rw[q1,q2]at h;cases h;obtain⟨l,ih⟩:=XN q2;refine#[by rw[aI,aI,l],λj d' e=>?_]
    cases j with|zero=>simp at e;subst e;simpa using q1|succ j=>simpa using ih j d' (by simpa using e)
def zE(bs:List Bool):(aY bs.length).all (λj=>bs.getD j ai)=bs.all id:=by
 rw[bp,aL,aL]
 constructor
 .intro h b hb
  obtain⟨j,hj,e⟩:=bL hb;have:=h j<|bm.mpr hj
  simpa[ao hj,e]using this
 .intro h j hj
  have hj':=bm.mp hj
  simpa[ao hj']using h bs[j]<|aJ hj'
def yk(bs:List Bool):(aY bs.length).any (λj=>bs.getD j ai)=bs.any id:=by
 rw[bp,cq,cq]
 constructor
 .rintro ⟨j,hj,h⟩
  have hj':=bm.mp hj;exact#[bs[j],aJ hj',by simpa[ao hj']using h]
 .rintro ⟨b,hb,h⟩
  obtain⟨j,hj,e⟩:=bL hb;exact#[j,bm.mpr hj,by simpa[ao hj,e]using h]
def X7(r:Rep O H d v)(e:ZA v u)(h:Pv.WZ d=aa n)(s:au)(Q:Bool->au->Prop)(E:am->au->Prop)(q:Q n s) :
  aS (ba prog w) A (truthy u) Q E s:=by
 cases d with
 |non=>cases r.non';cases e;cases h;exact truthy_none q
 |bl b=>cases r.bl';cases e;cases h;exact dn q
 |int m=>
  cases r.int';obtain⟨t,rfl⟩:=e;have h':=ah h;refine ig ?_;have:(m != 0)=n:=by
   rw[<-h'];by_cases z:m=0
   .subst z;rfl
   .rw[T5 z];exact bne_iff_ne.mpr z
  rw[this];exact q
 |_=>cases h
def yr(hc:X.calm=ag):ZL X (.builtin "all") (λvs H Q=>∃O ds v bs,vs=[v]/\Rep O H (.lst ds) v/\Pv.ZH ds=aa bs/\Q (.bl<|bs.all id) H):=by
 intro pq s U H vs us Q I r h;obtain⟨O,ds,v,bs,rfl,rs,hb,q⟩:=h;obtain⟨p,xs,rfl,hx,_,rx⟩:=rs.lst';obtain⟨u,rfl,ru⟩:=Vr r;cases ru;obtain⟨its,rv,pl,hz⟩:=I.list<|SqL.of hx;obtain⟨lb,tb⟩:=XN hb;have hlt:p<s.heap.objs.size:=by obtain⟨_,e,_⟩:=pl.isList;exact aC e
 have hlen:its.toArray.size=bs.length:=by rw[aq,<-rv.length,rx.length,lb]
 refine call_all_walk<|dq pl.isList #[s.heap.objs.size,[s.heap.objs.size,p],[s.heap.objs.size],its.toArray.size,(λi v=>its.toArray[i]?=aa v),(λi h=>h.IsListIter s.heap.objs.size p i/\h.IsList p its.toArray),λj=>bs.getD j ai,rfl,Walks.list (A:=X.A.in1) (I.ok.hd hc) s.heap.objs.size p (bn hlt) its.toArray,#[#[_,aH _ rfl,rfl,rfl],pl.isList.push _],?_,?_]
 .intro j v s' Q' E' hv hQ'
  have hj:its[j]?=aa v:=by simpa using hv
  have jl:j<ds.length:=by
   have:=(aM.mp hj).1;rw[<-rv.length,rx.length]at this;exact this
  obtain⟨w',g,r'⟩:=rx.get<|ao jl;obtain⟨u',g',ru'⟩:=rv.get g;rw[hj]at g';cases g';exact X7 r' ru' (tb j _<|ao jl) s' Q' E' hQ'
 .intro h' tk hk
  rw[hlen,zE];have kp:=λb o e=>hk b o (λhm=>by
   have:b=s.heap.objs.size:=by simpa using hm
   exact T7 (this▸aC e)<|bh _)<|ap _ e
  exact#[.bl<|bs.all id,H,I.kept (t':=tk) kp,rfl,q]
def GV(hc:X.calm=ag):ZL X (.builtin "all") (Vu X.K xw .all):=ZL.imp (yr hc)<|by
 rintro vs H Q ⟨O,S,ds,st,r,h⟩;obtain⟨d,v,z,rfl,r1,hz,h⟩:=VH h r;cases d with|lst ds=>obtain⟨bs,hb,rfl⟩:=aW.mp hz;exact#[O,ds,v,bs,rfl,r1,hb,End.ok h st<|Yd _]|_=>exact Ev.nos hz
noncomputable def U9:Ty->String
 |.int=>"int" | .bool=>"bool" | .str=>"str" | .tuple=>"tuple" | .list=>"list" | .dict=>"dict" | .cls _=>""
def jz{K:aj}{O:Mx}{H:Hp}{x:D}{v:V}{t:Ty}{n:Bool}(rx:Rep O H x v)(ht:∀m,t≠.cls m)(h:Pv.YZ x t=aa n) :
  ∃tv,TyOf K H v tv/\gH K tv (.type<|U9 t)=aa n:=by
 cases x with
 |non=>rw[rx.non'];refine#[_,.non,?_];cases h;cases t<;>first|rfl|exact T7 rfl<|ht _
 |bl b=>rw[rx.bl'];refine#[_,.bl b,?_];cases h;cases t<;>first|rfl|exact T7 rfl<|ht _
 |int b=>rw[rx.int'];refine#[_,.int b,?_];cases h;cases t<;>first|rfl|exact T7 rfl<|ht _
 |str b=>rw[rx.str'];refine#[_,.str b,?_];cases h;cases t<;>first|rfl|exact T7 rfl<|ht _
 |tup ds=>
  obtain⟨p,xs,rfl,hp,_⟩:=rx.tup';refine#[_,.tup hp,?_];cases h;cases t<;>first|rfl|exact T7 rfl<|ht _
 |lst ds=>
  obtain⟨p,xs,rfl,hp,_⟩:=rx.lst';refine#[_,.lst hp,?_];cases h;cases t<;>first|rfl|exact T7 rfl<|ht _
 |dct o=>
  cases o with
  |inr _=>exact Ev.nos h
  |inl _=>
   obtain⟨p,rfl,e⟩:=rx.dct';refine#[_,.dK e,?_];cases h;cases t<;>first|rfl|exact T7 rfl<|ht _
 |_=>exact Ev.nos h
def wN(T:String):ZL X (.builtin "isinstance") (λvs H Q=>∃v tv n,vs=[v,.ty T]/\TyOf X.K H v tv/\gH X.K tv (.type T)=aa n/\Q (.bl n) H):=by
 intro pq s U H vs us Q I r h;obtain⟨v,tv,n,rfl,ty,e,q⟩:=h;obtain⟨u,w',rfl,r1,r2⟩:=wn r;cases r2;exact z7 I r1 ty e λtk=>#[.bl n,H,I.tok tk,rfl,q]
def Vq{T:bc}{t:Ty}(ht:∀m,t≠.cls m)(hm:X.mg "isinstance" = ab)(hmT:X.mg T=ab)(ha:CE X xw C a i)(hg:Gl X "isinstance")(hgT:Gl X T)(hvT:cB T=aa (.type<|U9 t))(hnT:T≠"__name__")(hdT:(T == ("__debug__" : bc))=ai)
  (hs1:aE [a,.Name T p2] X.env=(ai,b9 a X.env)::aE [.Name T p2] X.env)(hs2:aE [.Name T p2] X.env=(ai,b9 (.Name T p2) X.env)::aE [] X.env)(hpl:(du pos<|aE [.Name T p2] X.env).any (·.1)=ai) :
  CE X xw C (.Call (.Name "isinstance" p) [a,.Name T p2] [] pos) (.isi i [t]):=.mk <|
 PE.imp (QC (wN<|U9 t) hg hm (by rfl) (X3 ha.h (X3 (vB (v:=.ty<|U9 t) hgT hmT hvT rfl hnT hdT) Qn hs2) hs1) (by decide) (by decide) hs1 hpl)<|by
  rintro U H Q ⟨O,l,S,st,lr,h⟩;refine#[O,l,S,st,lr,End.bind (show End X.K xw Rep O H Q ((Pv.pv C i l S).bind _)from h) λx S1 ρ1 H1 v f1 st1 r1 h1=>?_]
  obtain⟨n,hn,h2⟩:=End.ob h1;have hn':Pv.YZ x t=aa n:=by
   unfold Pv.Z8 at hn;cases q:Pv.YZ x t with|none=>rw[q]at hn;cases hn|some m=>rw[q]at hn;cases m<;>exact hn
  obtain⟨tv,ty,e⟩:=jz r1 ht hn';exact#[v,tv,n,rfl,ty,e,End.ok h2 st1<|Yd _]
def Zba(P:br)(w:bK)(K:aj)(a:aB)(tab:List (Int×Int)):Prop:=(a == cm)=ai/\∃f:Int->Option am,(∀h:bJ,K.In h->h.MapOf (eV P w) a f)/\∀k,(tab.lookup k=ab->f k=ab)/\∀j,tab.lookup k=aa j->∃t,f k=aa (.int j t)
def uw:CE X xw C (.Dict [] [] pos) .dnew:=.mk <| PE.imp wm λU H Q #[O,l,S,st,lr,h]=>λp hp=>
 (show End X.K xw Rep O H Q (.ok (.dct<|.inl []) S)from h) O _ _ (Zs hp) (st.fresh hp) (by unfold Rep;exact#[p,rfl,Zu])
def XG(fr:Bool)(H0:Hp)(O:Mx)(H:Hp)(d:D)(v:V):Prop:=Rep O H d v/\(fr=ag->∀ds,d=.lst ds->∃a,v=.ref a/\H0 a=ab)
theorem End.fr{K:aj}{xw:Nat->Hp->Prop}{O:Mx}{H H0:Hp}{Q:VK}{r:R D}{fr:Bool}(h:End K xw Rep O H Q r):End K xw (XG fr H0) O H Q r:=by
 cases r with|ok d S=>exact λρ' H' v f st r=>h ρ' H' v f st r.1|_=>exact h
def spF(K:aj)(C:Calls)(fr:Bool)(n:Nat):Sp:=λvs H Q _=>∃O ds S,St3 K O S H/\Rq O H ds vs/\End K (λ_ _=>False) (XG fr H) O H Q (C n ds S)
def qe{n kk:Nat}{fr:Bool}{f:aB}{fd:bW}{ps:List bc}{x:bc}{es:List Expr}{is:List E}(F:FnOk X.prog X.w X.K X.mg X.base CX0 kk f fd ps (spF X.K C fr n))(hr:Room kk X.A)(hm:X.mg x=aa (.ref f))(hk:d3 X.K (.ref f)=ag)(hb:Va X.K fd ps [])
  (ha:CA X (λ_ _=>False) C (e::es) is)(hg:Gl X x:=by rfl)(hdb:(x == ("__debug__" : bc))=ai:=by decide)(he:aE (e::es) X.env=(ai,b9 e X.env)::aE es X.env:=by rfl)(hpl:(du pos<|aE es X.env).any (·.1)=ai:=by rfl) :
  CE X (λ_ _=>False) C (.Call (.Name x p) (e::es) [] pos) (.call n is):=.mk <|
 PE.imp (zy F hr hg hm hk hb .nil qI ha.h hdb he hpl) λU H Q #[O,l,S,st,lr,h]=>
  #[O,l,S,st,lr,End.bind (show End X.K (λ_ _=>False) Rep O H Q ((Pv.pvs C is l S).bind _)from h) λxs S1 ρ1 H1 vs f1 st1 r1 h1=>by
   rw[cz];exact#[ρ1,xs,S1,st1,r1,h1.fr]]
end
abbrev Own:=Nat->Option aB
noncomputable def Mx.ex(O:Mx)(W:Own):Mx:=#[O.K,O.n0,λa=>O.X a\/∃i,W i=aa a,λa h=>.inl<|O.xz a h]
mutual
theorem Rep.flat(hk:ρ'.K=O.K)(k:∀a o,H a=aa o->(∀xs,o≠.lst xs)->(∀vs,o≠.dT vs)->H' a=aa o):∀{d:D}{v:V},d.flat=ag->Rep O H d v->Rep ρ' H' d v
 |.non,_,_,h|.bl _,_,_,h|.int _,_,_,h|.str _,_,_,h=>by exact h
 |.tup ds,v,f,h=>by
  obtain⟨a,xs,e,t,r⟩:=h;exact#[a,xs,e,k a _ t (λ_ z=>by cases z) (λ_ z=>by cases z),r.flat hk k (by exact f)]
 |.scr ns,v,_,h=>by
  unfold Rep at h ⊢;obtain⟨a,e,t⟩:=h;rw[hk];refine#[a,e,?_];rcases t with⟨o,t⟩|t
  .exact .inl #[o,k a _ t (λ_ z=>by cases z) λ_ z=>by cases z]
  .exact .inr t
 |.lst _,_,f,_|.drw,_,f,_|.dct _,_,f,_|.dow _,_,f,_=>by cases f
theorem Rq.flat(hk:ρ'.K=O.K)(k:∀a o,H a=aa o->(∀xs,o≠.lst xs)->(∀vs,o≠.dT vs)->H' a=aa o):∀{ds:List D}{xs:List V},Pv.ZU ds=ag->Rq O H ds xs->Rq ρ' H' ds xs
 |[],_,_,h=>by exact h
 |d::ds,xs,f,h=>by
  obtain⟨v,vs,e,r,rs⟩:=h;have f:=(ax _ _).mp f;exact#[v,vs,e,r.flat hk k f.1,rs.flat hk k f.2]
end
def Xg(O:Mx)(H:Hp)(a:aB):D->Prop
 |.lst xs=>∃us,H a=aa (.lst us)/\Rq O H xs us
 |.dow ks=>∃vs,H a=aa (.dT vs)/\vs.map (·.1)=ks.map (·.map bU)
 |_=>False
def Xg.ob{O:Mx}{H:Hp}{a:aB}{d:D}(h:Xg O H a d):(∃us,H a=aa (.lst us))\/∃vs,H a=aa (.dT vs):=by
 cases d with|lst xs=>obtain⟨us,e,_⟩:=h;exact .inl #[us,e]|dow ks=>obtain⟨vs,e,_⟩:=h;exact .inr #[vs,e]|_=>exact h.elim
def Xg.ne{O:Mx}{H:Hp}{a:aB}{d:D}(h:Xg O H a d):H a≠ab:=by
 rcases h.ob with⟨_,z⟩|⟨_,z⟩<;>(rw[z];intro q;cases q)
def Xg.rep{O:Mx}{H:Hp}{a:aB}{d:D}(h:Xg O H a d)(x:¬O.X a):Rep O H d (.ref a):=by
 cases d with|lst xs=>obtain⟨us,e,r⟩:=h;exact Y1 e x r|dow ks=>obtain⟨vs,e,q⟩:=h;unfold Rep;exact#[a,vs,rfl,e,x,q]|_=>exact h.elim
theorem Xg.lat{O ρ':Mx}{H H':Hp}{a:aB}{d:D}(h:Xg O H a d)(f:Lat O H ρ' H')(e:H' a=H a):Xg ρ' H' a d:=by
 cases d with|lst xs=>obtain⟨us,q,r⟩:=h;exact#[us,e.trans q,r.lat f]|dow ks=>obtain⟨vs,q,r⟩:=h;exact#[vs,e.trans q,r]|_=>exact h
def Lat.own{O:Mx}{H:Hp}{b:aB}{o':HO}(x:O.X b)(hb:(∃us,H b=aa (.lst us))\/∃vs,H b=aa (.dT vs)):Lat O H O (upd H b o'):=#[rfl,rfl,λc u z nx _ nd=>by
 rw[Zq (λq=>by
  rw[q]at z;rcases hb with⟨_,e⟩|⟨_,e⟩<;>(rw[e]at z;cases z)
  .exact nx _ rfl<|q▸x
  .exact nd _ rfl<|q▸x)]
 exact z,λ_ _ z=>z]
structure Eu(O:Mx)(H0:Hp)(W:Own)(l:Lc)(os:List Nat)(U:L2.St)(H:Hp):Prop where
 fut:Fut O H0 O H
 xd:∀a,O.X a->H0 a≠ab
 len:l.length=U.length
 osW:∀i,os.contains i=(W i).isSome
 inj:∀i j a,W i=aa a->W j=aa a->i=j
 new:∀i a,W i=aa a->H0 a=ab
 own:∀i a,W i=aa a->∃d,l[i]?=aa (aa d)/\U[i]?=aa (aa<|.ref a)/\Xg (O.ex W) H a d
 val:∀(i:Nat)(d:D),l[i]?=aa (aa d)->W i=ab->∃v,U[i]?=aa (aa v)/\Rep (O.ex W) H d v
section
variable{K:aj}{O:Mx}{H0 H H':Hp}{W W':Own}{l:Lc}{os:List Nat}{U:L2.St}{S:Zp}
def Lat.unex:Lat (O.ex W) H O H:=#[rfl,rfl,λ_ _ h _ _ _=>h,λ_ _ x=>.inl x]
theorem Fut.ex(f:Fut O H O H'):Fut (O.ex W) H (O.ex W) H':=#[rfl,f.keep]
def St3.unex(st:St3 K (O.ex W) S H):St3 K O S H:=#[st.hk,λa x=>st.xd a<|.inl x,st.dw,st.tb]
def Eu.nx(h:Eu O H0 W l os U H)(e:W i=aa a):¬O.X a:=λz=>h.xd a z<|h.new i a e
theorem Eu.st(h:Eu O H0 W l os U H)(st:St3 K O S H):St3 K (O.ex W) S H:=
 #[st.hk,λa x=>x.elim (st.xd a) λ#[i,e]=>(let #[_,_,_,z]:=h.own i a e;z.ne),st.dw,st.tb]
def yO(f:Fut O H O H')(x:¬O.X a)(h:H a=aa o)(n:∀ps,o≠.tbl ps:=by intro _ z;cases z):H' a=aa o:=(f.keep a o h).elim id λz=>z.elim (λz=>T7 (O.xz a z.1) x)<|by rintro ⟨⟨ps,e⟩,_⟩;exact T7 e<|n ps
def Eu.all(h:Eu O H0 W l os U H):LocR O H l U:=#[h.len,λi v e=>by
 cases q:W i with
 |none=>obtain⟨d,a,b⟩:=h.val i v e q;exact#[d,a,b.lat Lat.unex]
 |some n=>
  obtain⟨d,a,c,r⟩:=h.own i n q;rw[a]at e;cases e;exact#[_,c,(r.lat Lat.unex rfl).rep<|h.nx q]]
def w6(e:(Pv.hide os l)[i]?=aa (aa v)):l[i]?=aa (aa v)/\os.contains i=ai:=by
 unfold Pv.hide at e;rw[eF]at e;cases q:l[i]? with
 |none=>rw[q]at e;cases e
 |some o=>
  rw[q]at e;have e':(if os.contains i=ag then ab else o)=aa v:=ah e
  by_cases c:os.contains i=ag
  .rw[T9 c]at e';cases e'
  .rw[T8 c]at e';exact#[by rw[e'],by simpa using c]
def We:Pv.hide [] l=l:=by
 unfold Pv.hide;refine iS λi=>?_
 rw[eF];cases l[i]?<;>rfl
def Eu.nW(h:Eu O H0 W l os U H){i:Nat}(b:os.contains i=ai):W i=ab:=by
 rw[h.osW]at b;cases q:W i with|none=>rfl|some _=>rw[q]at b;cases b
def Eu.hid(h:Eu O H0 W l os U H):LocR (O.ex W) H (Pv.hide os l) U:=#[by unfold Pv.hide;rw[List.length_mapIdx];exact h.len,λi v e=>by
 obtain⟨a,b⟩:=w6 e;exact h.val i v a<|h.nW b]
theorem Eu.mono(h:Eu O H0 W l os U H)(f:Fut O H O H'):Eu O H0 W l os U H':=
 #[h.fut.trans f,h.xd,h.len,h.osW,h.inj,h.new,λi a q=>by
  obtain⟨d,p,c,r⟩:=h.own i a q;exact#[d,p,c,r.lat f.ex.lat (by rcases r.ob with⟨_,e⟩|⟨_,e⟩<;>rw[yO f (h.nx q) e,e])],λi v a b=>by
  obtain⟨d,c,r⟩:=h.val i v a b;exact#[d,c,r.mono f.ex]]
def Qh{m:Type}{l:List (Option m)}{i j:Nat}{o:Option m}{v:m}(e:(l.set i o)[j]?=aa (aa v)):(i=j/\o=aa v/\i<l.length)\/(i≠j/\l[j]?=aa (aa v)):=by
 rw[iO]at e;by_cases c:i=j
 .rw[T9 c]at e
  by_cases z:i<l.length
  .rw[T9 z]at e;exact .inl #[c,ah e,z]
  .rw[T8 z]at e;cases e
 .rw[T8 c]at e;exact .inr #[c,e]
theorem Eu.set{i:Nat}{o:Option D}{v:V}(h:Eu O H0 W l os U H)(hi:os.contains i=ai)(r:∀d,o=aa d->Rep (O.ex W) H d v):Eu O H0 W (l.set i o) os (U.set i<|aa v) H:=by
 have hw:=h.nW hi;refine#[h.fut,h.xd,by rw[bg,bg];exact h.len,h.osW,h.inj,h.new,λj n q=>?_,λj w e q=>?_]
 .obtain⟨d,a,c,e⟩:=h.own j n q
  have ij:i≠j:=λz=>by rw[z,q]at hw;cases hw
  exact#[d,by rw[aT ij];exact a,by rw[aT ij];exact c,e]
 .rcases Qh e with⟨rfl,z,hl⟩|⟨c,z⟩
  .exact#[v,bu (by rw[<-h.len];exact hl),r w z]
  .rw[aT c];exact h.val j w z q
noncomputable def VP:List Nat->List V->L2.St->L2.St
 |i::t,x::xs,U=>VP t xs<|U.set i<|aa x
 |_,_,U=>U
theorem Eu.fill:∀{t:List Nat}{vs:List D}{us:List V}{l l':Lc}{U:L2.St},Eu O H0 W l os U H->(t.any os.contains)=ai->Rq (O.ex W) H vs us->Pv.YE t vs l=aa l'->us.length=t.length/\Eu O H0 W l' os (VP t us U) H
 |[],[],_,l,l',U,h,_,r,e=>by rw[r];cases e;exact#[rfl,h]
 |[],_::_,_,_,_,_,_,_,_,e=>by cases e
 |_::_,[],_,_,_,_,_,_,_,e=>by cases e
 |i::t,v::vs,_,l,l',U,h,ht,r,e=>by
  obtain⟨d,ds,rfl,a,b⟩:=r;rw[cF,Bool.or_eq_false_iff]at ht;obtain⟨z,q⟩:=Eu.fill (h.set ht.1 λ_ z=>by cases z;exact a) ht.2 b e
  exact#[by rw[aI,aI,z],q]
def tGU(K:aj)(t:List Nat):TG:=λv U H Q=>match t with
 |[i]=>Q (U.set i<|aa v) H
 |t=>∃a xs,v=.ref a/\(SqT K H a xs\/H a=aa (.lst xs))/\xs.length=t.length/\Q (VP t xs U) H
def Eu.assign{Q:L2.St->Hp->Prop}(h:Eu O H0 W l os U H)(ht:(t.any os.contains)=ai)(r:Rep (O.ex W) H d v)(e:Pv.Zk t d l=aa l')(q:∀σ',Eu O H0 W l' os σ' H->Q σ' H):tGU K t v U H Q:=by
 have gen:∀t:List Nat,(t.any os.contains)=ai->(match Pv.yI d with
   |some xs=>Pv.YE t xs l
   |none=>ab)=aa l'->∃a xs,v=.ref a/\(SqT K H a xs\/H a=aa (.lst xs))/\xs.length=t.length/\Q (VP t xs U) H:=by
  intro t ht e;cases d with|tup vs=>obtain⟨p,ds,rfl,hp,rs⟩:=r.tup';obtain⟨z,y⟩:=h.fill ht rs e;exact#[p,ds,rfl,.inl<|SqT.of hp,z,q _ y]|lst vs=>obtain⟨p,ds,rfl,hp,_,rs⟩:=r.lst';obtain⟨z,y⟩:=h.fill ht rs e;exact#[p,ds,rfl,.inr hp,z,q _ y]|_=>cases e
 match t,ht,e with
 |[i],ht,e=>cases e;exact q _<|h.set (by simpa using ht) λ_ z=>by cases z;exact r
 |[],ht,e=>exact gen [] ht e
 |i::j::t,ht,e=>exact gen (i::j::t) ht e
noncomputable def noW(W:Own)(i:Nat):Own:=λj=>if j=i then ab else W j
def YI{i j:Nat}{a:aB}(z:noW W i j=aa a):j≠i/\W j=aa a:=by
 unfold noW at z;by_cases c:j=i
 .rw[T9 c]at z;cases z
 .rw[T8 c]at z;exact#[c,z]
theorem Lat.noW{i:Nat}:Lat (O.ex W) H (O.ex<|noW W i) H:=#[rfl,rfl,λ_ _ h _ _ _=>h,λ_ _ x=>x.elim .inl λ#[j,e]=>.inr #[j,(YI e).2]]
def XY{i:Nat}(h:∀i,os.contains i=(W i).isSome)(j:Nat):(os.filter (· != i)).contains j=(noW W i j).isSome:=by
 unfold noW;by_cases c:j=i
 .simp[c]
 .simp only[c,if_false]
  rw[<-h j,bp,dm,dm,cy];simp[c]
def Eu.drop{i:Nat}{o:Option D}{v:V}(h:Eu O H0 W l os U H)(r:∀d,o=aa d->Rep (O.ex<|noW W i) H d v):Eu O H0 (noW W i) (l.set i o) (os.filter (· != i)) (U.set i<|aa v) H:=by
 refine#[h.fut,h.xd,by rw[bg,bg];exact h.len,XY h.osW,λa b n x y=>h.inj a b n (YI x).2 (YI y).2,λj n z=>h.new j n (YI z).2,λj n z=>?_,λj w e z=>?_]
 .obtain⟨d,a,c,e⟩:=h.own j n (YI z).2
  have ij:i≠j:=Ne.symm (YI z).1;exact#[d,by rw[aT ij];exact a,by rw[aT ij];exact c,e.lat Lat.noW rfl]
 .rcases Qh e with⟨rfl,e,hl⟩|⟨c,e⟩
  .exact#[v,bu (by rw[<-h.len];exact hl),r w e]
  .rw[aT c]
   unfold Sd.noW at z;rw[T8<|Ne.symm c]at z;obtain⟨d',a,b⟩:=h.val j w e z;exact#[d',a,b.lat Lat.noW]
noncomputable def U5(W:Own)(i:Nat)(a:aB):Own:=λj=>if j=i then aa a else W j
def Eu.takeO{i:Nat}{a:aB}{d:D}(h:Eu O H0 W l os U H)(hd:∀a,O.X a->H a≠ab)(f:Fut O H O H')(hn:H a=ab)(hx:¬(O.ex W).X a)(r:Xg (O.ex<|U5 W i a) H' a d)(hi:i<l.length) :
  Eu O H0 (U5 W i a) (l.set i<|aa d) (i::os.filter (· != i)) (U.set i<|aa<|.ref a) H':=by
 have h1:=h.mono f;have get:∀{j m},U5 W i a j=aa m->(j=i/\a=m)\/(j≠i/\W j=aa m):=λ{j m} z=>by
  unfold U5 at z;by_cases c:j=i
  .rw[T9 c]at z;exact .inl #[c,ah z]
  .rw[T8 c]at z;exact .inr #[c,z]
 have na:H0 a=ab:=h.fut.new hn hd;have lt:Lat (O.ex W) H (O.ex<|U5 W i a) H':=#[rfl,rfl,f.ex.lat.keep',λb hb x=>by
  rcases x with x|⟨j,x⟩
  .exact .inl x
  .rcases get x with⟨_,z⟩|⟨_,z⟩
   .exact T7 hn<|z▸hb
   .exact .inr #[j,z]]
 refine#[h1.fut,h.xd,by rw[bg,bg];exact h.len,λj=>?_,λp q m x y=>?_,λj m z=>?_,λj m z=>?_,λj w q z=>?_]
 .have:=XY (i:=i) h.osW j
  unfold U5;by_cases c:j=i
  .simp[c]
  .unfold noW at this
   rw[T8 c]at this ⊢;rw[List.contains_cons,this,beq_eq_false_iff_ne.mpr c,eC]
 .rcases get x with⟨x1,x2⟩|⟨x1,x2⟩<;>rcases get y with⟨y1,y2⟩|⟨y1,y2⟩
  .rw[x1,y1]
  .exact T7 (.inr #[q,x2▸y2]) hx
  .exact T7 (.inr #[p,y2▸x2]) hx
  .exact h.inj p q m x2 y2
 .rcases get z with⟨_,z⟩|⟨_,z⟩
  .exact z▸na
  .exact h.new j m z
 .rcases get z with⟨z1,z2⟩|⟨z1,z2⟩
  .subst z1 z2
   exact#[d,bu hi,bu (by rw[<-h.len];exact hi),r]
  .obtain⟨d',p,c,q⟩:=h.own j m z2
   exact#[d',by rw[aT<|Ne.symm z1];exact p,by rw[aT<|Ne.symm z1];exact c,q.lat lt (by rcases q.ob with⟨_,e⟩|⟨_,e⟩<;>rw[yO f (h.nx z2) e,e])]
 .unfold U5 at z
  by_cases c:j=i
  .rw[T9 c]at z;cases z
  .rw[T8 c]at z
   rw[aT<|Ne.symm c]at q ⊢;obtain⟨d,p,b⟩:=h.val j w q z;exact#[d,p,b.lat lt]
def Eu.take(h:Eu O H0 W l os U H)(hd:∀a,O.X a->H a≠ab)(f:Fut O H O H')(hn:H a=ab)(hf:Pv.ZU xs=ag)(r:Rep (O.ex W) H' (.lst xs) (.ref a))(hi:i<l.length) :
  Eu O H0 (U5 W i a) (l.set i<|aa<|.lst xs) (i::os.filter (· != i)) (U.set i<|aa<|.ref a) H':=by
 obtain⟨_,us,en,hs,hx,rs⟩:=r.lst';cases en;exact h.takeO (d:=.lst xs) hd f hn hx #[us,hs,rs.flat (O:=O.ex W) (ρ':=O.ex<|U5 W i a) rfl (λ_ _ z _ _=>z) hf] hi
def Eu.mutO{i:Nat}{a:aB}{d':D}{o':HO}(h:Eu O H0 W l os U H)(hw:W i=aa a)(r:Xg (O.ex W) (upd H a o') a d'):Eu O H0 W (l.set i<|aa d') os U (upd H a o'):=by
 obtain⟨d,p,c,e⟩:=h.own i a hw;have hi:i<l.length:=(aM.mp p).1;have lt:Lat (O.ex W) H (O.ex W) (upd H a o'):=Lat.own (show(O.ex W).X a from kj #[i,hw]) e.ob
 refine#[#[rfl,λb o z=>?_],h.xd,by rw[bg];exact h.len,h.osW,h.inj,h.new,λj m z=>?_,λj w q z=>?_]
 .rw[Zq λq=>by rw[q,h.new i a hw]at z;cases z]
  exact h.fut.keep b o z
 .by_cases k:i=j
  .subst k
   rw[hw]at z;cases z;exact#[d',bu hi,c,r]
  .obtain⟨d2,a',c',e'⟩:=h.own j m z
   exact#[d2,by rw[aT k];exact a',c',e'.lat lt<|Zq λq:m=a=>k<|h.inj i j a hw<|q▸z]
 .have k:i≠j:=λk=>by rw[<-k,hw]at z;cases z
  rw[aT k]at q;obtain⟨d,a',b'⟩:=h.val j w q z;exact#[d,a',b'.lat lt]
def Eu.mut(h:Eu O H0 W l os U H)(hw:W i=aa a)(r:Rq (O.ex W) H ys us):Eu O H0 W (l.set i<|aa<|.lst ys) os U (upd H a<|.lst us):=by
 obtain⟨d,p,c,e⟩:=h.own i a hw;exact h.mutO hw (d':=.lst ys) #[us,Zu,r.lat<|Lat.own (show(O.ex W).X a from kj #[i,hw]) e.ob]
def St3.mut{K:aj}{i:Nat}{a:aB}{o':HO}(st:St3 K O S H)(h:Eu O H0 W l os U H)(hw:W i=aa a)(ht:∀ps,o'≠.tbl ps:=by intro _ z;cases z):St3 K O S (upd H a o'):=by
 obtain⟨d,p,c,e⟩:=h.own i a hw;have ne:∀b,O.X b->b≠a:=λb x z=>h.nx hw<|z▸x
 exact#[st.hk,λb x=>by rw[Zq<|ne b x];exact st.xd b x,λb x=>by rw[Zq<|ne b<|O.xz b x];exact st.dw b x,st.tb.upd (λo u z=>by rcases e.ob with⟨_,e⟩|⟨_,e⟩<;>(rw[e]at z;cases z)) ht]
structure Base(O:Mx)(H0 H1:Hp):Prop where
 fut:Fut O H0 O H1
 dom:∀a,H1 a=ab->H0 a=ab
def Eu.rebase(b:Base O H0 H1)(x:∀a,O.X a->H0 a≠ab)(h:Eu O H1 W l os U H):Eu O H0 W l os U H:=#[b.fut.trans h.fut,x,h.len,h.osW,h.inj,λi a e=>b.dom a<|h.new i a e,h.own,h.val]
open Classical in
noncomputable def VU(H:Hp)(W:Own):Hp:=λa=>if ∃i,W i=aa a then ab else H a
def Eu.off(h:Eu O H0 W l os U H)(hd:∀a,O.X a->H a≠ab):Base O H0 (VU H W)/\Eu O (VU H W) W l os U H:=by
 have nw:∀a,H0 a≠ab->VU H W a=H a:=λa z=>T8 λ#[i,e]=>z<|h.new i a e
 refine#[#[#[rfl,λa o e=>?_],λa e=>?_],#[rfl,λa o e=>.inl ?_],λa x=>?_,h.len,h.osW,h.inj,λi a e=>T9 #[i,e],h.own,h.val]
 .rw[nw a (by rw[e];intro z;cases z)];exact h.fut.keep a o e
 .cases q:H0 a with
  |none=>rfl
  |some o=>
   rw[nw a<|by rw[q];intro z;cases z]at e
   rw[h.fut.new e hd]at q;cases q
 .unfold VU at e
  split at e
  .cases e
  .exact e
 .rw[nw a<|h.xd a x];exact hd a x
def Eu.walk(h:Eu O H0 W l os U H)(h':Eu O (VU H W) W' l' os' σ' H'):Lat (O.ex W) H (O.ex W') H':=by
 refine#[rfl,rfl,λa o e x n nd=>?_,λa e x=>?_]
 .have nw:¬∃i,W i=aa a:=by
   rintro ⟨i,w⟩;obtain⟨_,_,_,z⟩:=h.own i a w;rcases z.ob with⟨us,z⟩|⟨us,z⟩<;>rw[e]at z
   .exact x us (ah z)<|.inr #[i,w]
   .exact nd us (ah z)<|.inr #[i,w]
  rcases h'.fut.keep a o (by unfold VU;rw[T8 nw];exact e)with z|⟨z,xs,q⟩|⟨⟨ps,q⟩,_⟩
  .exact z
  .exact T7 (.inl<|O.xz a z)<|x xs q
  .exact T7 q<|n ps
 .rcases x with x|⟨i,x⟩
  .exact .inl x
  .have:=h'.new i a x
   unfold VU at this;split at this
   .exact .inr ‹_›
   .exact T7 this e
end
section
variable(X:Cx)(xw:Nat->Hp->Prop)(C:Calls)
def tF(f:Lc->Zp->R D):TE:=λU H Q=>∃O l S,St3 X.K O S H/\LocR O H l U/\End X.K xw (XG ag H) O H Q (f l S)
structure CF(e:Expr)(i:E):Prop where
 h:PE X e (tF X xw<|Pv.pv C i)
end
def CF.ce{X:Cx}{xw:Nat->Hp->Prop}{C:Calls}{e:Expr}{i:E}(h:CF X xw C e i):CE X xw C e i:=.mk <| PE.imp h.h<|by rintro U H Q ⟨O,l,S,st,lr,h⟩;exact #[O,l,S,st,lr,h.fr]
def End.newF{K:aj}{xw:Nat->Hp->Prop}{O:Mx}{H0 H:Hp}{Q:VK}{S S0:Zp}{ds:List D}{xs:List V}(h:End K xw (XG ag H0) O H Q (.ok (.lst ds) S))(f:Fut O H0 O H)(s0:St3 K O S0 H0)(st:St3 K O S H)(r:Rq O H ds xs):∀p,H p=ab->Q (.ref p) (upd H p<|.lst xs):=λp hp=>
 h O _ _ (Zs hp) (st.fresh hp) #[Y1 Zu (st.nx hp)<|r.mono<|Zs hp,λ_ _ _=>#[p,rfl,f.new hp st.xd]]
def wp(K:aj)(xw:Nat->Hp->Prop)(f:Bf):List V->Hp->VK->Prop:=λvs H Q=>∃O S ds,St3 K O S H/\Rq O H ds vs/\∃H0 S0,Fut O H0 O H/\St3 K O S0 H0/\End K xw (XG ag H0) O H Q (Pv.po (Pv.Xs f ds) S)
def uR{xw:Nat->Hp->Prop}:∀U H Q,tF X xw (Pv.pv C<|.blt f is) U H Q->tCB (wp X.K xw f) (tA X xw<|Pv.pvs C is) U H Q:=λU H Q #[O,l,S,st,lr,h]=>
 #[O,l,S,st,lr,End.bind (h) λxs S1 ρ1 H1 vs f1 st1 r1 h1=>by cases f1.eq;exact#[O,S1,xs,st1,r1,H,S,f1,st,h1]]
def vK{X:Cx}{xw:Nat->Hp->Prop}{C:Calls}{e:Expr}{pos p:fA}{f:Bf}{id:String}{x:bc}{es:List Expr}{is:List E}(hc:ZL X (.type id) (wp X.K xw f))(hm:X.mg x=ab)(ha:CA X xw C (e::es) is)(hg:Gl X x)(hv:cB x=aa (.type id))(hn:x≠"__name__")(hdb:(x == ("__debug__" : bc))=ai)
  (he:aE (e::es) X.env=(ai,b9 e X.env)::aE es X.env)(hpl:(du pos<|aE es X.env).any (·.1)=ai):CF X xw C (.Call (.Name x p) (e::es) [] pos) (.blt f is):=.mk <|
 PE.imp (Uj hc hg hm hv ha.h hn hdb he hpl) uR
def QV{X:Cx}{xw:Nat->Hp->Prop}:ZL X (.type "list") (wp X.K xw .list):=ZL.imp Ql<|by
 rintro vs H Q ⟨O,S,ds,st,r,H0,S0,f0,s0,h⟩;obtain⟨d,v,z,rfl,r1,hz,h⟩:=VH h r;obtain⟨xs,hx,rfl⟩:=aW.mp hz;obtain⟨p,ys,rfl,hq,r2⟩:=r1.seq hx;exact#[p,ys,rfl,by rw[<-st.hk];exact hq,h.newF f0 s0 st r2]
def Zw(fr:Bool)(K:aj)(xw:Nat->Hp->Prop)(O:Mx)(H0:Hp)(D:Ends):R Pv.FlV->Prop
 |.ok (.nx l os) S=>∀H' σ' W',St3 K O S H'->Eu O H0 W' l os σ' H'->D.nx σ' H'
 |.ok (.brk l os) S=>∀H' σ' W',St3 K O S H'->Eu O H0 W' l os σ' H'->D.bk σ' H'
 |.ok (.cnt l os) S=>∀H' σ' W',St3 K O S H'->Eu O H0 W' l os σ' H'->D.ct σ' H'
 |.ok (.ret d) S=>∀H' v,Fut O H0 O H'->St3 K O S H'->XG fr H0 O H' d v->D.rt v H'
 |.ex c S=>∀H',Fut O H0 O H'->St3 K O S H'->xw c H'
 |.no=>False
section
variable{fr:Bool}{K:aj}{xw:Nat->Hp->Prop}{O:Mx}{H0 H:Hp}{m β:Type}{rep:Mx->Hp->m->β->Prop}{D:Ends}{W:Own}{l:Lc}{os:List Nat}{U:L2.St}{S:Zp}
theorem Zw.bind{Q1:β->Hp->Prop}(he:Eu O H0 W l os U H)(h:Zw fr K xw O H0 D (r.bind f))
  (k:∀d S H1 v,Fut O H O H1->St3 K O S H1->rep O H1 d v->Zw fr K xw O H0 D (f d S)->Q1 v H1):End K xw rep O H Q1 r:=by
 cases r with|ok d S=>exact λρ1 H1 v g st r=>by cases g.eq;exact k d S H1 v g st r h|ex c S=>exact λρ1 H1 g st=>by cases g.eq;exact h H1 (he.fut.trans g) st|no=>exact h
def Zw.bindW{Q1:β->Hp->Prop}(he:Eu O H0 W l os U H)(h:Zw fr K xw O H0 D (r.bind f))
  (k:∀d S H1 v,Fut O H O H1->St3 K O S H1->rep (O.ex W) H1 d v->Zw fr K xw O H0 D (f d S)->Q1 v H1):End K xw rep (O.ex W) H Q1 r:=by
 cases r with|ok d S=>exact λρ1 H1 v g st r=>by cases g.eq;exact k d S H1 v #[rfl,g.keep] st.unex r h|ex c S=>exact λρ1 H1 g st=>by cases g.eq;exact h H1 (he.fut.trans #[rfl,g.keep]) st.unex|no=>exact h
def Zw.ob(h:Zw fr K xw O H0 D ((Pv.po o S).bind f)):∃a,o=aa a/\Zw fr K xw O H0 D (f a S):=by
 cases o with|none=>exact h.elim|some a=>exact#[a,rfl,h]
def Zw.guard{c:Prop}[Decidable c](h:Zw fr K xw O H0 D (if c then a else .no)):c/\Zw fr K xw O H0 D a:=by
 split at h
 .exact#[‹_›,h]
 .exact h.elim
def Zw.guardN{c:Prop}[Decidable c](h:Zw fr K xw O H0 D (if c then .no else a)):¬c/\Zw fr K xw O H0 D a:=by
 split at h
 .exact h.elim
 .exact#[‹_›,h]
theorem Zw.rebase(b:Base O H0 H1)(x:∀a,O.X a->H0 a≠ab)(h:Zw fr K xw O H0 D r):Zw fr K xw O H1 D r:=by
 cases r with
 |ok f S=>
  cases f with|nx l os=>exact λH' σ' W' st e=>h H' σ' W' st<|e.rebase b x|brk l os=>exact λH' σ' W' st e=>h H' σ' W' st<|e.rebase b x|cnt l os=>exact λH' σ' W' st e=>h H' σ' W' st<|e.rebase b x|ret d=>exact λH' v f st r=>h H' v (b.fut.trans f) st #[r.1,λz ds y=>let #[a,e,q]:=r.2 z ds y;#[a,e,b.dom a q]]
 |ex c S=>exact λH' f st=>h H' (b.fut.trans f) st
 |no=>exact h
end
section
variable(X:Cx)(xw:Nat->Hp->Prop)(fr:Bool)
def tS3(f:Lc->List Nat->Zp->R Pv.FlV):TS:=λD U H=>∃O H0 W l os S,St3 X.K O S H/\Eu O H0 W l os U H/\Zw fr X.K xw O H0 D (f l os S)
variable(C:Calls)(ms:List Nat)
structure CS(st:dG)(s:Sm):Prop where
 h:PS X st (tS3 X xw fr<|Pv.rv C ms s)
structure CSs(st:List dG)(s:List Sm):Prop where
 h:PSs X st (tS3 X xw fr<|Pv.rvs C ms s)
structure CG(tg:Expr)(t:List Nat):Prop where
 h:PG X tg (tGU X.K t)
def Zcc(t:List Nat):TGs:=λvs U H Q=>vs.length=t.length/\Q (VP t vs U) H
structure CGs(tgs:List Expr)(t:List Nat):Prop where
 h:PGs X tgs (Zcc t)
end
def PS.imp(h:PS X e t)(k:∀D U H,t' D U H->t D U H):PS X e t':=λpq s U H D I q=>h pq s U H D I<|k D U H q
def PSs.imp(h:PSs X e t)(k:∀D U H,t' D U H->t D U H):PSs X e t':=λpq s U H D I q=>h pq s U H D I<|k D U H q
def PG.imp(h:PG X e t)(k:∀v U H Q,t' v U H Q->t v U H Q):PG X e t':=λpq s U H v u Q I r q=>h pq s U H v u Q I r<|k v U H Q q
def PGs.imp(h:PGs X e t)(k:∀v U H Q,t' v U H Q->t v U H Q):PGs X e t':=λpq s U H v u Q I r q=>h pq s U H v u Q I r<|k v U H Q q
section
variable{X:Cx}{xw:Nat->Hp->Prop}{fr:Bool}{C:Calls}{ns:List Nat}{e a b c:Expr}{i j k:E}{pos p p' p2:fA}{s0:dG}{ss:List dG}{m0:Sm}{ms ms':List Sm}
def qP{es:List Expr}{is:List E}(h:CA X xw C es is):CF X xw C (.List es pos) (.lst is):=.mk <| PE.imp (wE h.h)<|by
 rintro U H Q ⟨O,l,S,st,lr,h⟩;rw[Pv.pv]at h;refine#[O,l,S,st,lr,h.bind λxs S1 ρ1 H1 vs f1 st1 r1 h1=>?_]
 obtain⟨hl,h1⟩:=h1.guard;cases f1.eq;exact#[by rw[r1.length,<-Y4];exact hl,h1.newF f1 st st1 r1]
def Zar{es:List Expr}{is:List E}(ha:CA X xw C es is)(hb:CE X xw C b j):CF X xw C (.BinOp (.List es p) .Mult b pos) (.bin .mul (.lst is) j):=.mk <| PE.imp (VF zx (wE ha.h) hb.h)<|by
 rintro U H Q ⟨O,l,S,st,lr,h⟩;rw[Pv.pv,Pv.pv,YL]at h;refine#[O,l,S,st,lr,h.bind λxs S1 ρ1 H1 vs f1 st1 r1 h1=>?_]
 cases f1.eq;by_cases hl:xs.length<=Ev.lim
 .rw[T9 hl]at h1
  refine#[by rw[r1.length,<-Y4];exact hl,λq hq=>#[O,l,S1,st1.fresh hq,(lr.mono f1).mono<|Zs hq,?_]]
  have h2:End X.K xw (XG ag H) O (upd H1 q<|.lst vs) Q ((Pv.pv C j l S1).bind λy s=>Pv.Y6 .mul (.lst xs) y s):=End.mono (Zs hq) h1
  refine h2.bind λy S2 ρ2 H2 u f2 st2 r2 h2=>?_
  cases f2.eq;cases y with
  |int k=>
   obtain⟨⟨h0,h1,h2⟩,h⟩:=End.guard h2;exact#[q,k,vs,rfl,r2.int',yO f2 (st1.nx hq) Zu,#[h0,h1,by rw[r1.length];exact h2],h.newF (f1.trans<|(Zs hq).trans f2) st st2<|(r1.mono<|(Zs hq).trans f2).rep k.toNat]
  |_=>exact False.elim h2
 .rw[T8 hl]at h1;exact h1.elim
def jM:CSs X xw fr C ns [] []:=.mk <| PSs.imp uP<|by rintro D U H ⟨O,H0,W,l,os,S,st,he,h⟩;exact h H U W st he
def uJ(h1:CS X xw fr C ns s0 m0)(h2:CSs X xw fr C ns ss ms):CSs X xw fr C ns (s0::ss) (m0::ms):=.mk <| PSs.imp (Jm h1.h h2.h)<|by
 rintro D U H ⟨O,H0,W,l,os,S,st,he,h⟩;refine#[O,H0,W,l,os,S,st,he,?_];rw[Pv.rvs]at h;cases q:Pv.rv C ns m0 l os S with
 |no=>rw[q]at h;exact h
 |ex c S1=>rw[q]at h;exact h
 |ok fl S1=>
  rw[q]at h;cases fl with|nx l1 os1=>exact λH1 σ1 W1 st1 he1=>#[O,H0,W1,l1,os1,S1,st1,he1,h]|_=>exact h
def jC(he:CE X xw C e i):CS X xw ai C ns (.Return (aa e) pos) (.ret i):=.mk <| PS.imp (vb he.h)<|by
 rintro D U H ⟨O,H0,W,l,os,S,st,en,h⟩;rw[Pv.rv]at h;exact#[O,l,S,st,en.all,Zw.bind en h λx S1 H1 v f1 st1 r1 h1=>h1 H1 v (en.fut.trans f1) st1 #[r1,λz=>by cases z]]
def Jx{K:aj}{O:Mx}{H0 H:Hp}{W:Own}{l:Lc}{os:List Nat}{U:L2.St}{S:Zp}{a:aB}(en:Eu O H0 W l os U H)(st:St3 K O S H)(h:H a=ab):H0 a=ab:=en.fut.new h st.xd
def ub(he:CF X xw C e i):CS X xw fr C ns (.Return (aa e) pos) (.ret i):=.mk <| PS.imp (vb he.h)<|by
 rintro D U H ⟨O,H0,W,l,os,S,st,en,h⟩;rw[Pv.rv]at h;exact#[O,l,S,st,en.all,Zw.bind en h λx S1 H1 v f1 st1 r1 h1=>h1 H1 v (en.fut.trans f1) st1 #[r1.1,λ_ ds y=>let #[a,e,q]:=r1.2 rfl ds y;#[a,e,Jx en st q]]]
def Zbj{sa sb:List dG}(hc:CT X xw C c k)(ha:CSs X xw fr C ns sa ms)(hb:CSs X xw fr C ns sb ms'):CS X xw fr C ns (.If c sa sb pos) (.ite k ms ms'):=.mk <| PS.imp (ZaV hc.h ha.h hb.h)<|by
 rintro D U H ⟨O,H0,W,l,os,S,st,en,h⟩;rw[Pv.rv]at h;refine#[O,l,S,st,en.all,Zw.bind en h λx S1 H1 v f1 st1 r1 h1=>?_]
 have e1:x=v:=r1;subst e1;cases x with|true=>exact#[O,H0,W,l,os,S1,st1,en.mono f1,h1]|false=>exact#[O,H0,W,l,os,S1,st1,en.mono f1,h1]
def v4{n:Nat}{x:bc}(hN:X.N.Nodup)(hi:X.N[n]?=aa x)(hx:L2.Loc X.env.scope x)(hf:X.fn x=ag\/X.env.scope.names.lookup x=aa .local):CG X (.Name x pos) [n]:=.mk <|
 PG.imp (W2 hN hi hx hf) λv U H Q q=>q
def uy:CGs X [] []:=.mk <| PGs.imp zC<|by
 rintro vs U H Q ⟨h,q⟩;cases vs with|nil=>exact#[rfl,q]|cons _ _=>cases h
def yD{tgs:List Expr}{n:Nat}{t:List Nat}{x:bc}(hN:X.N.Nodup)(h2:CGs X tgs t)(hi:X.N[n]?=aa x)(hx:L2.Loc X.env.scope x)(hf:X.fn x=ag\/X.env.scope.names.lookup x=aa .local)
  (hs:(bv (.Name x pos::tgs) X.env).map (·.2)=b0 (.Name x pos) X.env::(bv tgs X.env).map (·.2)):CGs X (.Name x pos::tgs) (n::t):=.mk <|
 PGs.imp (Vd (W2 hN hi hx hf) h2.h hs)<|by
  rintro vs U H Q ⟨h,q⟩;cases vs with|nil=>cases h|cons v vs=>exact#[v,vs,rfl,Nat.succ.inj h,q]
theorem V7{E:am->au->Prop}(hne:t≠it):∀(n i:Nat)(s:au)(Q:List am->au->Prop),s.heap.IsListIter it t i->s.heap.IsList t items->i+n<=items.size->
  (∀h',bJ.IsListIter h' it t (i+n)->dB it s.heap h'->Q ((items.toList.drop i).take n) {s with heap:=h' })->aS (ba prog w) A (draw (.ref it) n) Q E s
 |0,i,s,Q,hit,_,_,hQ=>by
  exact ay (by simpa using hQ s.heap hit<|dB.refl ..)
 |n+1,i,s,Q,hit,ht,hle,hQ=>by
  have hlt:i<items.size:=by lia
  refine af<|ga hit ht (x:=items[i]) (by simp[hlt]) λh₁ hit₁ hs₁=>?_
  refine af<|bS<|V7 hne n (i+1) _ _ hit₁ (ht.extBut hs₁.extBut hne) (by lia) λh₂ hit₂ hs₂=>ay ?_
  have hd:items.toList.drop i=items[i]::items.toList.drop (i+1):=by simp[ck,hlt]
  have:=hQ h₂ (by rw[show i+(n+1)=i+1+n by lia];exact hit₂)<|hs₁.trans hs₂
  rw[hd,List.take_succ_cons]at this;exact this
theorem Ji{E:am->au->Prop}{x1}{Q:Unit->au->Prop}(hh:A.handled=ab)(ht:s.heap.IsList t items)
  (hn:(bv elts env).length=items.size)(hstar:(bv elts env).findIdx? (·.1)=ab)
  (h:∀h',fM s.heap.objs.size s.heap h'->aS (ba prog w) A (gZ ((bv elts env).map (·.2)) items.toList) Q E {s with heap:=h' }) :
  aS (ba prog w) A (b0 (.Tuple elts x1 pos) env<|.ref t) Q E s:=by
 rw[assign_Tuple];refine af<|eB ?_;have hlt:t≠s.heap.objs.size:=by obtain⟨o,ho,_⟩:=ht;exact bn<|aC ho
 unfold unpack;rw[hn,hstar];refine af<|bS ?_;refine af ?_;refine af<|wpAny_specialOf ht.typeIs slot_list_iter.lookup ?_;refine ay ?_;simp only[fv,if_false];refine af<|bS<|dq ht ?_;refine af<|bS<|V7 hlt items.size 0 _ _ #[_,aH _ rfl,rfl,rfl] (ht.push _) (by lia) λh₁ hit₁ hs₁=>?_
 have hall:List.take items.size (lh 0 items.toList)=items.toList:=by
  rw[kU];exact dg (by simp)
 rw[hall];rw[T8 (by simp)]
 have ht₁:=(ht.push _).extBut hs₁.extBut hlt;refine af<|bS<|gz hh hit₁ ht₁ (by simp) λh₂ he₂=>?_
 simp only[Option.isSome_none,fv,if_false];exact ay<|h h₂ λb o hb e=>he₂ b o hb<|hs₁.extBut b o hb<|ap _ e
def gTL(K:aj)(n:Nat)(t:TGs):TG:=λv U H Q=>∃a xs,v=.ref a/\(SqT K H a xs\/H a=aa (.lst xs))/\xs.length=n/\t xs U H Q
def ZaT{X:Cx}{pos:fA}{es:List Expr}{k:Nat}{t:TGs}{n:Nat}(hc:X.calm=ag)(h:PGs X es t)
  (hn:(bv es X.env).length=n:=by rfl)(hst:(bv es X.env).findIdx? (·.1)=ab:=by rfl):PG X (.Tuple es k pos) (gTL X.K n t):=by
 intro pq s U H v u Q I r hw;obtain⟨a,xs,e1,hq|hq,hl,hw⟩:=hw
 .exact y6 hc h hn hst pq s U H v u Q I r #[a,xs,e1,hq,hl,hw]
 .subst e1
  cases r;obtain⟨its,rv,pl,hz⟩:=I.list<|SqL.of hq;refine Ji (I.ok.hd hc) pl.isList (by simp[hn,<-hl,rv.length]) hst λh' hx=>?_
  have I1:=I.kept (t':=s.toks) λb o e=>hx b o (bn<|aC e) e
  exact h pq _ U H xs _ Q I1 (by simpa using rv) hw
def j4{tgs:List Expr}{q2:Nat}{n m:Nat}{r:List Nat}(hc:X.calm=ag)(h:CGs X tgs (n::m::r))(hn:(bv tgs X.env).length=(n::m::r).length)(hst:(bv tgs X.env).findIdx? (·.1)=ab):CG X (.Tuple tgs q2 pos) (n::m::r):=.mk <|
 PG.imp (ZaT hc h.h hn hst)<|by rintro v U H Q ⟨a,xs,e,hp,hl,q⟩;exact #[a,xs,e,hp,hl,hl,q]
def Zw.evA{D:Ends}{K:aj}{O:Mx}{H0 H:Hp}{W:Own}{l:Lc}{os:List Nat}{U:L2.St}{S:Zp}{f:Pv.V->Zp->R Pv.FlV}{Q1:VK}(z:Bool)(hz:Pv.fresh i=ag->z=ag)(st:St3 K O S H)(en:Eu O H0 W l os U H)(h:Zw fr K xw O H0 D ((Pv.pvA C i l os S).bind f))
  (k:∀d S1 H1 v,Fut O H O H1->St3 K O S1 H1->XG z H (O.ex W) H1 d v->Zw fr K xw O H0 D (f d S1)->Q1 v H1):∃ρ' l' S,St3 K ρ' S H/\LocR ρ' H l' U/\End K xw (XG z H) ρ' H Q1 (Pv.pv C i l' S):=by
 have hid:Zw fr K xw O H0 D ((Pv.pv C i (Pv.hide os l) S).bind f)->∃ρ' l' S,St3 K ρ' S H/\LocR ρ' H l' U/\End K xw (XG z H) ρ' H Q1 (Pv.pv C i l' S):=λh=>#[O.ex W,Pv.hide os l,S,en.st st,en.hid,Zw.bindW en h k]
 cases os with
 |nil=>exact hid (by rw[We];exact h)
 |cons o os=>
  have h:Zw fr K xw O H0 D (Pv.PR.bind (match Pv.pv C i (Pv.hide (o::os) l) S with
   |.ok v s=>.ok v s
   |.ex c s=>.ex c s
   |.no=>(Pv.pv C i l S).bind λv s=>if(v.flat||Pv.fresh i&&Pv.zg v)=ag then .ok v s else .no) f):=h
  cases q:Pv.pv C i (Pv.hide (o::os) l) S with
  |ok v s=>rw[q]at h;exact hid (by rw[q];exact h)
  |ex c s=>rw[q]at h;exact hid (by rw[q];exact h)
  |no=>
   rw[q]at h;have h:Zw fr K xw O H0 D (((Pv.pv C i l S).bind λv s=>if(v.flat||Pv.fresh i&&Pv.zg v)=ag then Pv.PR.ok v s else .no).bind f):=h
   rw[YL]at h;refine#[O,l,S,st,en.all,Zw.bind en h λd S1 H1 v f1 st1 r1 h1=>?_]
   by_cases c:(d.flat||Pv.fresh i&&Pv.zg d)=ag
   case neg=>rw[T8 c]at h1;exact h1.elim
   rw[T9 c]at h1;refine k d S1 H1 v f1 st1 #[?_,r1.2] h1;rcases(cA _ _).mp c with c|c
   .exact Rep.flat (O:=O) (ρ':=O.ex W) rfl (λ_ _ z _ _=>z) c r1.1
   .obtain⟨c1,c2⟩:=(ax _ _).mp c
    cases d with
    |lst xs=>
     obtain⟨a,rfl,ha⟩:=r1.2 (hz c1) xs rfl;obtain⟨_,us,e,hs,hx,rs⟩:=r1.1.lst';cases e;exact Y1 hs (λx=>x.elim hx λ#[i,w]=>let #[_,_,_,z]:=en.own i a w;T7 ha z.ne)<|rs.flat (O:=O) (ρ':=O.ex W) rfl (λ_ _ z _ _=>z) c2
    |_=>cases c2
def End.unfr{K:aj}{O:Mx}{H H0:Hp}{Q:VK}{r:R D}(h:End K xw (XG ai H0) O H Q r):End K xw Rep O H Q r:=by
 cases r with|ok d S=>exact λρ' H' v f st r=>h ρ' H' v f st #[r,λz=>by cases z]|_=>exact h
def u8{n:Nat}{tg:Expr}(he:CE X xw C e i)(hg:CG X tg [n])(hf:Pv.fresh i=ai)(hs:cc [tg] e pos.line X.env=cb ai)(hw:cf [tg] e X.env=cb ab)
  (h1:(bv [tg] X.env).map (·.2)=[b0 tg X.env]):CS X xw fr C ns (.Assign [tg] e pos) (.asg [n] i):=.mk <| PS.imp (XX he.h hg.h hs hw h1)<|by
 rintro D U H ⟨O,H0,W,l,os,S,st,en,h⟩;rw[Pv.rv]at h;obtain⟨ρ',l',S',a,b,c⟩:=Zw.evA (Q1:=λx H1=>tGU X.K [n] x U H1 D.nx) ai (λz=>by rw[hf]at z;cases z) st en h λd S1 H1 v f1 st1 r1 h1=>by
  rw[hf,kQ,T8 aF]at h1;exact h1 H1 _ _ st1<|(en.mono f1).drop (o:=aa d) λ_ z=>by cases z;exact r1.1.lat Lat.noW
 exact#[ρ',l',S',a,b,c.unfr]
def Zbz{D:Ends}{O:Mx}{H0 H:Hp}{W:Own}{l:Lc}{os:List Nat}{U:L2.St}{S:Zp}{n:Nat}(st:St3 X.K O S H)(en:Eu O H0 W l os U H)(h:Zw fr X.K xw O H0 D (Pv.rv C ns (.asg [n] i) l os S)):tF X xw (Pv.pv C i) U H λx H1=>D.nx (U.set n<|aa x) H1:=by
 rw[Pv.rv]at h;refine Zw.evA ag (λ_=>rfl) st en h λd S1 H1 v f1 st1 r1 h1=>?_
 by_cases c:(ns.contains n&&Pv.fresh i)=ag
 .rw[T9 c]at h1
  cases d with
  |lst xs=>
   obtain⟨⟨hf,hl⟩,h1⟩:=Zw.guard h1;obtain⟨a,rfl,ha⟩:=r1.2 rfl xs rfl;exact h1 H1 _ _ st1<|en.take st.xd f1 ha hf r1.1 hl
  |_=>exact h1.elim
 .rw[T8 c]at h1
  exact h1 H1 _ _ st1<|(en.mono f1).drop (o:=aa d) λ_ z=>by cases z;exact r1.1.lat Lat.noW
def uA{n:Nat}{tg:Expr}(he:CF X xw C e i)(hg:CG X tg [n])(hs:cc [tg] e pos.line X.env=cb ai)(hw:cf [tg] e X.env=cb ab)
  (h1:(bv [tg] X.env).map (·.2)=[b0 tg X.env]):CS X xw fr C ns (.Assign [tg] e pos) (.asg [n] i):=.mk <| PS.imp (XX he.h hg.h hs hw h1)<|by rintro D U H ⟨O,H0,W,l,os,S,st,en,h⟩;exact Zbz st en h
def jm{n m:Nat}{t:List Nat}{tg:Expr}(he:CE X xw C e i)(hg:CG X tg (n::m::t))(hf:Pv.fresh i=ai)(hs:cc [tg] e pos.line X.env=cb ai)(hw:cf [tg] e X.env=cb ab)
  (h1:(bv [tg] X.env).map (·.2)=[b0 tg X.env]):CS X xw fr C ns (.Assign [tg] e pos) (.asg (n::m::t) i):=.mk <| PS.imp (XX he.h hg.h hs hw h1)<|by
 rintro D U H ⟨O,H0,W,l,os,S,st,en,h⟩;rw[Pv.rv]at h
 .obtain⟨ρ',l',S',a,b,c⟩:=Zw.evA (Q1:=λx H1=>tGU X.K (n::m::t) x U H1 D.nx) ai (λz=>by rw[hf]at z;cases z) st en h λd S1 H1 v f1 st1 r1 h1=>by
   obtain⟨ht,h1⟩:=h1.guardN;obtain⟨l',hl,h1⟩:=Zw.ob h1;exact(en.mono f1).assign (by simpa using ht) r1.1 hl λσ' e'=>h1 H1 σ' W st1 e'
  exact#[ρ',l',S',a,b,c.unfr]
 .intro _ z;cases z
end
theorem Eu.at{O:Mx}{H0 H:Hp}{W:Own}{l:Lc}{os:List Nat}{U:L2.St}{i:Nat}{xs:List D}(h:Eu O H0 W l os U H)(hi:os.contains i=ag)(hx:Pv.XI l[i]?=aa xs):∃a,W i=aa a/\U[i]?=aa (aa<|.ref a)/\∃us,H a=aa (.lst us)/\Rq (O.ex W) H xs us:=by
 rw[h.osW]at hi;obtain⟨a,w⟩:=bZ.mp hi;obtain⟨d,p,c,r⟩:=h.own i a w;rw[p]at hx;cases d with|lst ys=>cases hx;exact#[a,w,c,r]|_=>cases hx
section
variable{X:Cx}{xw:Nat->Hp->Prop}{fr:Bool}{C:Calls}{ns:List Nat}{e a b c:Expr}{i j k:E}{pos p p' p2:fA}{s0:dG}{ms ms':List Sm}{n:Nat}{x:bc}
def zN{apos cpos:fA}(he:CE X xw C e i)(hN:X.N[n]?=aa x)(hv:Vis X.env.scope x)(hd:(x == ("__debug__" : bc))=ai)
  (hcd:(x == ("__classdict__" : bc))=ai)
  (hbase:hG (.Name x p) "append" X.env (b9 (.Name x p) X.env)=b9 (.Name x p) X.env)
  (hfew:((du cpos<|aE [e] X.env).all (λx=>!x.1)&&(backToKw cpos<|kB [] X.env).all (λx=>x.1.isSome)
   && ae (([e]:List Expr).length+([]:List iK).length+(if([]:List iK).isEmpty then 0 else 1)<30))=ag)
  (hline:(apos.endLine == cpos.line)=ag)(hs:aE [e] X.env=(ai,b9 e X.env)::aE [] X.env)(hplain:(du cpos<|aE [] X.env).any (·.1)=ai)
  (hw:gR (.Call (.Attribute (.Name x p) "append" apos) [e] [] cpos) ab pos.line X.env=cb ai) :
  CS X xw fr C ns (.Expr (.Call (.Attribute (.Name x p) "append" apos) [e] [] cpos) pos) (.ex<|.mt .append (.v n) [i]):=.mk <|
 PS.imp (zj (qA fX PySem.F.slot_list_append PySem.F.type_list_append Ur (Y7 hN hv hd hcd) (X3 he.h Qn hs) hbase hfew hline hs hplain) hw)<|by
 rintro D U H ⟨O,H0,W,l,os,S,st,en,h⟩;rw[Pv.rv]at h;obtain⟨c,h⟩:=h.guard;obtain⟨xs,hx,h⟩:=Zw.ob h;obtain⟨a,ha,q,us,e1,_⟩:=en.at c hx;refine#[.ref a,q,.inl #[rfl,us,SqL.of e1],O,l,S,st,en.all,Zw.bind en h λy S1 H1 v f1 st1 r1 h1=>?_]
 obtain⟨⟨hf,hl⟩,h1⟩:=h1.guard;have en1:=en.mono f1;obtain⟨a',ha',_,us,e2,r'⟩:=en1.at c hx;rw[ha]at ha';cases ha';exact#[a,us,v,rfl,rfl,e2,by rw[r'.length,<-Y4];exact hl,h1 _ _ W (st1.mut en1 ha)<|en1.mut ha<|r'.append<|Rq.cons (Rep.flat (O:=O) (ρ':=O.ex W) rfl (λ_ _ z _ _=>z) hf r1) Rq.nil]
def yA{apos cpos:fA}(he:CE X xw C e i)(hN:X.N[n]?=aa x)(hv:Vis X.env.scope x)(hd:(x == ("__debug__" : bc))=ai)
  (hcd:(x == ("__classdict__" : bc))=ai)
  (hbase:hG (.Name x p) "extend" X.env (b9 (.Name x p) X.env)=b9 (.Name x p) X.env)
  (hfew:((du cpos<|aE [e] X.env).all (λx=>!x.1)&&(backToKw cpos<|kB [] X.env).all (λx=>x.1.isSome)
   && ae (([e]:List Expr).length+([]:List iK).length+(if([]:List iK).isEmpty then 0 else 1)<30))=ag)
  (hline:(apos.endLine == cpos.line)=ag)(hs:aE [e] X.env=(ai,b9 e X.env)::aE [] X.env)(hplain:(du cpos<|aE [] X.env).any (·.1)=ai)
  (hw:gR (.Call (.Attribute (.Name x p) "extend" apos) [e] [] cpos) ab pos.line X.env=cb ai) :
  CS X xw fr C ns (.Expr (.Call (.Attribute (.Name x p) "extend" apos) [e] [] cpos) pos) (.ex<|.mt .extend (.v n) [i]):=.mk <|
 PS.imp (zj (qA fX PySem.F.slot_list_extend PySem.F.type_list_extend zI (Y7 hN hv hd hcd) (X3 he.h Qn hs) hbase hfew hline hs hplain) hw)<|by
 rintro D U H ⟨O,H0,W,l,os,S,st,en,h⟩;rw[Pv.rv]at h;obtain⟨c,h⟩:=h.guard;obtain⟨xs,hx,h⟩:=Zw.ob h;obtain⟨a,ha,q,us,e1,_⟩:=en.at c hx;refine#[.ref a,q,.inl #[rfl,us,SqL.of e1],O.ex W,Pv.hide os l,S,en.st st,en.hid,Zw.bindW en h λy S1 H1 v f1 st1 r1 h1=>?_]
 cases y with
 |lst ys=>
  obtain⟨⟨hf,hl⟩,h1⟩:=Zw.guard h1;have en1:=en.mono f1;obtain⟨a',ha',_,us,e2,r'⟩:=en1.at c hx;rw[ha]at ha';cases ha';obtain⟨b,ws,rfl,e3,_,r3⟩:=r1.lst';exact#[a,b,us,ws,rfl,rfl,e2,e3,by rw[r'.length,r3.length,<-Y4];exact hl,h1 _ _ W (st1.mut en1 ha)<|en1.mut ha<|r'.append r3]
 |_=>exact h1.elim
def j7{m:Nat}{y:bc}{px py pt:fA}{kt k2 pt2}(hc:X.calm=ag)(hN:X.N.Nodup)(ha:CA X xw C [a,b] [i,j])(hnm:n≠m)(hi:X.N[n]?=aa x)(hj:X.N[m]?=aa y)
  (hx:X.env.scope.names.lookup x=aa .local)(hy:X.env.scope.names.lookup y=aa .local)
  (hw:cf [.Tuple [.Name x px,.Name y py] kt pt] (.Tuple [a,b] k2 pt2) X.env=cb (aa [x,y]))
  (hs:cc [.Tuple [.Name x px,.Name y py] kt pt] (.Tuple [a,b] k2 pt2) pos.line X.env=cb ai) :
  CS X xw fr C ns (.Assign [.Tuple [.Name x px,.Name y py] kt pt] (.Tuple [a,b] k2 pt2) pos) (.par [n,m] [i,j]):=.mk <|
 PS.imp (Zai hc hN hi hj hnm hx hy ha.h hw hs)<|by
 rintro D U H ⟨O,H0,W,l,os,S,st,en,h⟩;rw[Pv.rv]at h;have fin:∀{vs:List Pv.V}{us:List V}{S1:Zp}{H1:Hp},Fut O H O H1->St3 X.K O S1 H1->Rq (O.ex W) H1 vs us->Zw fr X.K xw O H0 D (if([n,m].any os.contains)=ag then .no else(Pv.po (Pv.YE [n,m] vs l) S1).bind λO s=>.ok (.nx O os) s)->∃v w,us=[v,w]/\D.nx ((U.set n<|aa v).set m<|aa w) H1:=λ{vs us S1 H1} f1 st1 r1 h1=>by
  obtain⟨ht,h1⟩:=h1.guardN;obtain⟨l',hl,h1⟩:=Zw.ob h1;obtain⟨hz,e'⟩:=(en.mono f1).fill (by simpa using ht) r1 hl
  match us,hz,e' with
  |[v,w],_,e'=>exact#[v,w,rfl,h1 H1 _ W st1 e']
 cases os with
 |nil=>exact#[O.ex W,Pv.hide [] l,S,en.st st,en.hid,Zw.bindW en (by rw[We];exact h) λvs S1 H1 us f1 st1 r1 h1=>fin f1 st1 r1 h1]
 |cons o os=>
  have h:Zw fr X.K xw O H0 D (Pv.PR.bind (match Pv.pvs C [i,j] (Pv.hide (o::os) l) S with
   |.ok v s=>.ok v s
   |.ex c s=>.ex c s
   |.no=>(Pv.pvs C [i,j] l S).bind λv s=>if Pv.ZU v then .ok v s else .no) _):=h
  cases q:Pv.pvs C [i,j] (Pv.hide (o::os) l) S with
  |ok v s=>rw[q]at h;exact#[O.ex W,_,S,en.st st,en.hid,Zw.bindW en (by rw[q];exact h) λvs S1 H1 us f1 st1 r1 h1=>fin f1 st1 r1 h1]
  |ex c s=>rw[q]at h;exact#[O.ex W,_,S,en.st st,en.hid,Zw.bindW en (by rw[q];exact h) λvs S1 H1 us f1 st1 r1 h1=>fin f1 st1 r1 h1]
  |no=>
   rw[q]at h;have h:Zw fr X.K xw O H0 D (((Pv.pvs C [i,j] l S).bind λv s=>if Pv.ZU v=ag then Pv.PR.ok v s else .no).bind _):=h
   rw[YL]at h;refine#[O,l,S,st,en.all,Zw.bind en h λvs S1 H1 us f1 st1 r1 h1=>?_]
   by_cases c:Pv.ZU vs=ag
   case neg=>rw[T8 c]at h1;exact h1.elim
   rw[T9 c]at h1;exact fin f1 st1 (Rq.flat (O:=O) (ρ':=O.ex W) rfl (λ_ _ z _ _=>z) c r1) h1
def qK{m:Nat}{y:bc}{px py:fA}(hN:X.N.Nodup)(hj:X.N[m]?=aa y)(hv:Vis X.env.scope y)(hd:(y == ("__debug__" : bc))=ai)
  (hcd:(y == ("__classdict__" : bc))=ai)(hi:X.N[n]?=aa x)(hx:L2.Loc X.env.scope x)(hf:X.fn x=ag\/X.env.scope.names.lookup x=aa .local)
  (hs:cc [.Name x px] (.Name y py) pos.line X.env=cb ai)(hw:cf [.Name x px] (.Name y py) X.env=cb ab)
  (h1:(bv [.Name x px] X.env).map (·.2)=[b0 (.Name x px) X.env]):CS X xw fr C ns (.Assign [.Name x px] (.Name y py) pos) (.mov n m):=.mk <|
 PS.imp (XX (Y7 hj hv hd hcd) (W2 hN hi hx hf) hs hw h1)<|by
 rintro D U H ⟨O,H0,W,l,os,S,st,en,h⟩;rw[Pv.rv]at h;obtain⟨c,h⟩:=h.guard;obtain⟨c1,c⟩:=(ax _ _).mp c;obtain⟨c2,c3⟩:=(ax _ _).mp c;have c3:n≠m:=T6 c3;have c2:os.contains n=ai:=by simpa using c2
 obtain⟨xs,hx,h⟩:=Zw.ob h;obtain⟨a,ha,q,us,e1,r⟩:=en.at c1 hx;have nx:=en.nx ha;refine#[.ref a,q,h H _ (noW W m) st ?_];have e:=en.drop (i:=m) (o:=ab) (v:=.ref a) λ_ z=>by cases z
 have hl:m<U.length:=(aM.mp q).1;rw[show U.set m (aa<|.ref a)=U by
  have:=(aM.mp q).2;rw[<-this];exact gA hl]at e
 have e:=e.set (i:=n) (o:=aa<|.lst xs) (v:=.ref a) (by
  rw[XY en.osW];unfold noW;rw[T8 c3,en.nW c2];rfl) λ_ z=>by
   cases z;refine Y1 e1 (λx=>x.elim nx λ#[k,w]=>?_)<|r.lat Lat.noW
   obtain⟨w1,w2⟩:=YI w;exact w1<|en.inj k m a w2 ha
 rw[k5 _ _<|Ne.symm c3]at e;exact e
end
structure WRel(K:aj)(O:Mx)(H:Hp)(w:List D)(J:It):Prop where
 go:∀(i:Nat) ρ' S' H',Lat O H ρ' H'->St3 K ρ' S' H'->i<w.length->J.go i H'/\∀x H'',J.yld i H' x H''->Fut ρ' H' ρ' H''/\St3 K ρ' S' H''/\∀d,w[i]?=aa d->Rep ρ' H'' d x
 stop:∀ρ' S' H',Lat O H ρ' H'->St3 K ρ' S' H'->J.stop w.length H'
section
variable(X:Cx)(xw:Nat->Hp->Prop)
def tW3(f:Lc->Zp->R (List D)):TI:=λU H Q=>∃O l S,St3 X.K O S H/\LocR O H l U/\End X.K xw (WRel X.K) O H Q (f l S)
structure CW(C:Calls)(tg it:Expr)(w:Ev.W):Prop where
 h:PI X tg it (tW3 X xw<|Pv.pvw C w)
end
def PI.imp(h:PI X tg it t)(k:∀U H Q,t' U H Q->t U H Q):PI X tg it t':=λpq s U H R I q=>h pq s U H R I<|k U H R q
section
variable{X:Cx}{xw:Nat->Hp->Prop}{C:Calls}{e a b c tg it:Expr}{i j k:E}{pos p p' p2:fA}
def Zb6(K:aj)(tl:TE):TI:=λU H R=>tl U H λx H1=>∃a,x=.ref a/\(((∃xs,SqL K H1 a xs)/\R (Itl K a) H1)\/((∃xs,SqT K H1 a xs)/\R (Itt K a) H1))
def jH(hl:PE X l tl):PI X tg l (Zb6 X.K tl):=by
 intro pq s U H R I h;refine thn (hl pq s U H _ I h) λv s1 #[x,H1,I1,r1,a,e,q]=>?_
 subst e;cases r1;rcases q with⟨⟨xs,hq⟩,q⟩|⟨⟨xs,hq⟩,q⟩
 .obtain⟨its,rv,p,hz⟩:=I1.list hq
  refine dq p.isList ?_;refine#[s1.heap.objs.size,[s1.heap.objs.size],_,_,H1,rfl,I1.kept (t':=s1.toks) λb o e=>ap _ e,zH a _,#[_,aH _ rfl,rfl,rfl],λb hb=>?_,q]
  have e:b=s1.heap.objs.size:=by simpa using hb
  subst e;exact I1.fpOk (aD _)<|I1.hok.fresh<|aD _
 .obtain⟨its,rv,p,hz⟩:=I1.tuple hq
  refine dU (p) ?_
  refine#[s1.heap.objs.size,[s1.heap.objs.size],_,_,H1,rfl,I1.kept (t':=s1.toks) λb o e=>ap _ e,J4 a _,#[_,aH _ rfl,rfl,rfl],λb hb=>?_,q]
  have e:b=s1.heap.objs.size:=by simpa using hb
  subst e;exact I1.fpOk (aD _)<|I1.hok.fresh<|aD _
def Ws{K:aj}{O:Mx}{H:Hp}{ds:List D}{xs:List V}{J:It}(r:Rq O H ds xs)(hg:∀ρ' H',Lat O H ρ' H'->(∀i x,xs[i]?=aa x->J.go i H'/\∀y H'',J.yld i H' y H''->H''=H'/\y=x)/\∀n,n=xs.length->J.stop n H'):WRel K O H ds J where
 go:=λi ρ' S' H' f st hi=>by
  obtain⟨v,g,r'⟩:=(r.lat f).get<|ao hi;obtain⟨a,b⟩:=(hg ρ' H' f).1 i v g;refine#[a,λx H'' y=>?_]
  obtain⟨rfl,rfl⟩:=b x H'' y;exact#[Fut.refl _ _,st,λd hd=>by rw[ao hi]at hd;cases hd;exact r']
 stop:=λρ' S' H' f st=>(hg ρ' H' f).2 _ r.length.symm
def yJ{K K':aj}{O:Mx}{H:Hp}{ds:List D}{a:aB}{xs:List V}(hp:H a=aa (.tup xs))(r:Rq O H ds xs):WRel K O H ds (Itt K' a):=Ws r λρ' H' f=>by
 have h:=SqT.of (K:=K')<|f.keep a _ hp λ_ z=>by cases z
 exact#[λi x g=>#[#[xs,x,h,g],λy H'' z=>#[z.1,by have:=z.2 xs h;rw[g]at this;exact(ah this).symm]],λn e=>#[xs,h,by omega]]
def Gz{K K':aj}{O:Mx}{H:Hp}{ds:List D}{a:aB}{xs:List V}(hp:∀ρ' H',Lat O H ρ' H'->SqL K' H' a xs)(r:Rq O H ds xs):WRel K O H ds (Itl K' a):=Ws r λρ' H' f=>by
 have h:=hp ρ' H' f;exact#[λi x g=>#[#[xs,x,h,g],λy H'' z=>#[z.1,by have:=z.2 xs h;rw[g]at this;exact(ah this).symm]],λn e=>#[xs,h,by omega]]
def UC(lo:Int)(n:Nat):(Pv.Z1 lo n).length=n:=by unfold Pv.Z1;rw[aw,bY]
theorem Ux(lo:Int):∀(l:List Nat),Rq O H (l.map λ(k:Nat)=>Pv.V.int<|lo+(k:Int)) (l.map λ(k:Nat)=>V.int<|lo+(k:Int))
 |[]=>Rq.nil
 |_::l=>Rq.cons (ZY _)<|Ux lo l
def vt{K:aj}{O:Mx}{H:Hp}{lo:Int}{n:Nat}:WRel K O H (Pv.Z1 lo n) (Itr lo n):=Ws (Ux lo<|aY n) λρ' H' f=>by
 refine#[λi x g=>?_,λm e=>?_]
 .have hi:i<n:=by have:=(aM.mp g).1;simpa using this
  rw[aV,gV hi]at g;exact#[hi,λy H'' z=>#[z.1,z.2.trans<|ah g]]
 .rw[aw,bY]at e;show n<=m;omega
def ZaZ(he:CE X xw C e i):CW X xw C tg e (.of i):=.mk <| PI.imp (jH he.h)<|by
 rintro U H Q ⟨O,l,S,st,lr,h⟩;rw[Pv.pvw]at h;refine#[O,l,S,st,lr,h.bind λx S1 ρ1 H1 v f1 st1 r1 h1=>?_]
 obtain⟨ds,hd,h1⟩:=End.po h1;have q:∀{J},WRel X.K ρ1 H1 ds J->Q J H1:=λw=>End.ok h1 st1 w
 cases x with
 |tup ds=>cases hd;obtain⟨a,xs,rfl,hp,r⟩:=r1.tup';exact#[a,rfl,.inr #[#[xs,SqT.of hp],q<|yJ hp r]]
 |lst ds=>cases hd;obtain⟨a,xs,rfl,hp,hx,r⟩:=r1.lst';exact#[a,rfl,.inl #[#[xs,SqL.of hp],q<|Gz (λρ' H' f=>SqL.of<|f.keep a _ hp λ_ _=>hx) r]]
 |scr ns=>
  cases hd;obtain⟨a,rfl,hp⟩:=r1.scr';rw[st1.hk]at hp;refine#[a,rfl,.inl #[#[_,hp.sq],q<|Gz (λρ' H' f=>?_)<|Rq.ints ns]]
  rcases hp with⟨o,hp⟩|hp
  .exact .inl<|.inr #[o,f.keep a _ hp λ_ z=>by cases z]
  .exact .inr hp
 |_=>exact Ev.nos hd
def qy{m β:Type}{rep:Mx->Hp->m->β->Prop}{O:Mx}{l:Lc}{S:Zp}{U:L2.St}{H:Hp}{Q:β->Hp->Prop}{Q1:List V->Hp->Prop}{g:D->Zp->R m}(st:St3 X.K O S H)(lr:LocR O H l U)(h:End X.K xw rep O H Q ((Pv.pv C i l S).bind g))
  (k:∀x S1 ρ1 H1 v,St3 X.K ρ1 S1 H1->Rep ρ1 H1 x v->End X.K xw rep ρ1 H1 Q (g x S1)->Q1 [v] H1):tA X xw (Pv.pvs C [i]) U H Q1:=by
 refine#[O,l,S,st,lr,?_];show End X.K xw Rq O H _ ((Pv.pv C i l S).bind λx S=>.ok [x] S)
 cases q:Pv.pv C i l S with
 |no=>rw[q]at h;exact h
 |ex c S1=>rw[q]at h;exact h
 |ok x S1=>
  rw[q]at h;intro ρ1 H1 vs f1 st1 r1;obtain⟨v,rfl,r⟩:=wM r1;exact k x S1 ρ1 H1 v st1 r<|End.mono f1 h
def Za8{m β:Type}{rep:Mx->Hp->m->β->Prop}{O:Mx}{l:Lc}{S:Zp}{U:L2.St}{H:Hp}{Q:β->Hp->Prop}{Q1:List V->Hp->Prop}{g:D->D->Zp->R m}(st:St3 X.K O S H)(lr:LocR O H l U)(h:End X.K xw rep O H Q ((Pv.pv C i l S).bind λx S=>(Pv.pv C j l S).bind λy S=>g x y S))
  (k:∀x y S1 ρ1 H1 v u,St3 X.K ρ1 S1 H1->Rep ρ1 H1 x v->Rep ρ1 H1 y u->End X.K xw rep ρ1 H1 Q (g x y S1)->Q1 [v,u] H1):tA X xw (Pv.pvs C [i,j]) U H Q1:=by
 refine#[O,l,S,st,lr,?_];show End X.K xw Rq O H _ ((Pv.pv C i l S).bind λx S=>((Pv.pv C j l S).bind λy S=>.ok [y] S).bind λxs S=>.ok (x::xs) S)
 cases q:Pv.pv C i l S with
 |no=>rw[q]at h;exact h
 |ex c S1=>rw[q]at h;exact h
 |ok x S1=>
  rw[q]at h;have h:End X.K xw rep O H Q ((Pv.pv C j l S1).bind λy S=>g x y S):=h
  show End X.K xw Rq O H _ (((Pv.pv C j l S1).bind λy S=>.ok [y] S).bind λxs S=>.ok (x::xs) S)
  cases q2:Pv.pv C j l S1 with
  |no=>rw[q2]at h;exact h
  |ex c S2=>rw[q2]at h;exact h
  |ok y S2=>
   rw[q2]at h;intro ρ1 H1 vs f1 st1 r1;obtain⟨v,u,rfl,rv,ru⟩:=JA r1;exact k x y S2 ρ1 H1 v u st1 rv ru<|End.mono f1 h
def JB(h:Ev.Xr n=ag):-(2^62)<=n/\n<2^62:=T6 h
def uB(hm:X.mg "range" = ab)(ha:CA X xw C [a] [i])(hg:Gl X "range")(hs:aE [a] X.env=[(ai,b9 a X.env)]):CW X xw C tg (.Call (.Name "range" p) [a] [] pos) (.rng1 i):=.mk <|
 PI.imp (yo hg hm ha.h hs) λU H Q #[O,l,S,st,lr,h]=>qy st lr h λx S1 ρ1 H1 v st1 r h1=>by
  cases x with
  |int n=>
   obtain⟨hs,h2⟩:=End.guard h1;exact#[n,by rw[r.int'],(JB hs).1,(JB hs).2,End.ok (rep:=WRel X.K) h2 st1 vt]
  |_=>exact False.elim h1
def uO{D:Ends}{U:L2.St}{O:Mx}{H0 H1:Hp}{W:Own}{l:Lc}{os:List Nat}{S1:Zp}{J:It}{wk:List Pv.V}{fr:Bool}{ns:List Nat}{ms:List Sm}{t:List Nat}(st1:St3 X.K O S1 H1)(en:Eu O H0 W l os U H1)(r1:WRel X.K (O.ex W) H1 wk J)
  (h1:Zw fr X.K xw O H0 D (Pv.YH (λx O os s=>if(t.any<|fQ os)=ag then(.no:Pv.PR Pv.FlV)else(Pv.po (Pv.Zk t x O) s).bind λO s=>Pv.rvs C ns ms O os s) wk l os S1)):∃W:Nat->Nat->L2.St->Hp->Prop,(∃m,W 0 m U H1)/\∀i m U H,W i m U H->
   (J.stop i H/\D.nx U H)\/(J.go i H/\∃N:L2.St->Hp->Prop,(∀σ' H',N σ' H'->∃m',m'<m/\W (i+1) m' σ' H')/\∀x H',J.yld i H x H'->tGU X.K t x U H' λσ2 H2=>tS3 X xw fr (Pv.rvs C ns ms) {D with nx:=N,ct:=N,bk:=D.nx} σ2 H2):=by
 obtain⟨bs,en1⟩:=en.off st1.xd;have h1:=h1.rebase bs en.xd;generalize hB:(λx O os s=>if(t.any<|fQ os)=ag then(.no:Pv.PR Pv.FlV)else(Pv.po (Pv.Zk t x O) s).bind λO s=>Pv.rvs C ns ms O os s)=B at h1
 let I:Nat->L2.St->Hp->Prop:=λn σ' H'=>∃W' l' os' S',St3 X.K O S' H'/\Eu O (VU H1 W) W' l' os' σ' H'/\Zw fr X.K xw O (VU H1 W) D (Pv.YH B (wk.drop n) l' os' S')
 refine#[λn m σ' H'=>m=wk.length-n/\n<=wk.length/\I n σ' H',#[wk.length,rfl,df _,W,l,os,S1,st1,en1,h1],?_]
 rintro n m σ' H' ⟨rfl,hn,W',l',os',S',st',en',e'⟩
 have lat:=en.walk en';by_cases hlt:n<wk.length
 .right
  rw[ck hlt,Pv.YH]at e';obtain⟨go,yl⟩:=r1.go n _ S' H' lat (en'.st st') hlt;refine#[go,I<|n+1,λσ2 H2 q=>#[wk.length-(n+1),eG _ _ hlt,rfl,hlt,q],λx H3 y=>?_]
  obtain⟨f3,st3,rp⟩:=yl x H3 y;have rx:=rp _<|ao hlt;have f3:Fut O H' O H3:=#[rfl,f3.keep];have hBn:B wk[n] l' os' S'=if(t.any<|fQ os')=ag then(.no:Pv.PR Pv.FlV)else(Pv.po (Pv.Zk t wk[n] l') S').bind λO s=>Pv.rvs C ns ms O os' s:=by rw[<-hB]
  rw[hBn]at e';by_cases c:(t.any<|fQ os')=ag
  .rw[T9 c]at e';exact e'.elim
  rw[T8 c]at e';cases ha:Pv.Zk t wk[n] l' with
  |none=>rw[ha]at e';exact e'.elim
  |some l2=>
   rw[ha]at e';refine(en'.mono f3).assign (by simpa using c) rx ha λσ2 e2=>#[O,_,W',l2,os',S',st3.unex,e2,?_]
   have e':Zw fr X.K xw O (VU H1 W) D ((Pv.rvs C ns ms l2 os' S').bind _):=e';cases q:Pv.rvs C ns ms l2 os' S' with
   |no=>rw[q]at e';exact e'
   |ex c S2=>rw[q]at e';exact e'
   |ok fl S2=>
    rw[q]at e';cases fl with|nx l3 os3=>exact λH4 σ4 W4 st4 lr4=>#[W4,l3,os3,S2,st4,lr4,e']|cnt l3 os3=>exact λH4 σ4 W4 st4 lr4=>#[W4,l3,os3,S2,st4,lr4,e']|brk l3 os3=>exact e'|ret d=>exact e'
 .left
  have en2:n=wk.length:=by omega
  subst en2;rw[kl]at e';exact#[r1.stop _ S' H' lat<|en'.st st',e' H' σ' W' st' en']
def jk{body:List dG}{fr:Bool}{ns:List Nat}{ms:List Sm}{w:Ev.W}{t:List Nat}(hp:PassesOwn (ba X.prog X.w) X.A X.env X.xe)(hc:X.calm=ag)(hw:CW X xw C tg it w)(hg:CG X tg t)(hb:CSs X xw fr C ns body ms)
  (hs:∀x,cx it X.env x=cb x):CS X xw fr C ns (.For tg it body [] pos) (.forr t w ms):=.mk <| PS.imp (Zah hp hc hw.h hg.h hb.h hs)<|by
 rintro D U H ⟨O,H0,W,l,os,S,st,en,h⟩;rw[Pv.rv]at h;refine#[O.ex W,Pv.hide os l,S,en.st st,en.hid,Zw.bindW en h λwk S1 H1 J f1 st1 r1 h1=>uO st1 (en.mono f1) r1 h1]
end
end Sd
namespace Sd
open PySem PySem.Spec PyProof.Rows L2
noncomputable def zG(env:Env):List (bc×cW)->List (bc×aB)->List (bc×aB)
 |[],acc=>acc
 |x::r,acc=>zG env r (if(x.2 == bd)=ag then(x.1,(env.cells.lookup x.1).getD 0)::acc else acc)
theorem W6{env:Env}{f:bc×cW->List (bc×aB)->kY (ForInStep<|List<|bc×aB)}:∀(names:List (bc×cW))(acc:List (bc×aB)),
  (∀x∈names,∀c,f x c=cb (.yield (if(x.2 == bd)=ag then(x.1,(env.cells.lookup x.1).getD 0)::c else c)))->forIn names acc f=cb (zG env names acc)
 |[],acc,_=>rfl
 |x::r,acc,h=>by
  rw[gw,h x al,pure_bind];exact W6 r _ λy hy=>h y<|ak _ hy
theorem QI :∀(names:List (bc×cW))(acc:List (bc×aB)),(zG env names acc).lookup x=aa c->acc.lookup x=aa c\/(∃y∈names,y.1=x/\y.2=.free/\c=(env.cells.lookup x).getD 0)
 |[],acc,h=>.inl h
 |y::r,acc,h=>by
  rcases QI r _ h with h|⟨z,hz,e⟩
  .by_cases hf:(y.2 == bd)=ag
   .rw[T9 hf,bj]at h
    cases q:(x == y.1)with
    |true=>
     rw[q]at h;have e:=cn q;exact .inr #[y,al,e.symm,cn hf,by rw[e];exact(ah h).symm]
    |false=>rw[q]at h;exact .inl h
   .rw[T8 hf]at h;exact .inl h
  .exact .inr #[z,ak _ hz,e]
theorem Jj :∀(names:List (bc×cW))(acc:List (bc×aB)),(acc.lookup x).isSome=ag->((zG env names acc).lookup x).isSome=ag
 |[],acc,h=>h
 |y::r,acc,h=>by
  refine Jj r _ ?_;split
  .rw[bj]
   cases(x == y.1)with|true=>rfl|false=>exact h
  .exact h
theorem QZ :∀(names:List (bc×cW))(acc:List (bc×aB)),(x,bd)∈names->((zG env names acc).lookup x).isSome=ag
 |[],acc,h=>by cases h
 |y::r,acc,h=>by
  rcases ar.mp h with h|h
  .subst h
   refine Jj r _ ?_;rw[T9 (by rfl),bj,beq_self_eq_true]
   rfl
  .exact QZ r _ h
def J1{scope:de}{env:Env}(h:∀y∈scope.names,y.2=.free->∃c,env.cells.lookup y.1=aa c) :
  ∃cl,closureFor scope env=cb cl/\(∀x c,cl.lookup x=aa c->env.cells.lookup x=aa c)/\∀x,(x,bd)∈scope.names->∃c,cl.lookup x=aa c:=by
 refine#[zG env scope.names [],?_,λx c e=>?_,λx hx=>bZ.mp<|QZ _ _ hx]
 .simp only[closureFor]
  rw[W6 (env:=env) scope.names [] (λx hx c=>by
   obtain⟨n,kind⟩:=x;by_cases hk:(kind == bd)=ag
   .obtain⟨a,ha⟩:=h (n,kind) hx (cn hk)
    have ha':=ha;simp only[hk,if_true,cellOf,ha',pure_bind,Option.getD_some]
   .simp only[hk,if_false]
    rfl),pure_bind]
 .rcases QI _ _ e with e|⟨y,hy,e1,e2,e3⟩
  .cases e
  .obtain⟨a,ha⟩:=h y hy e2
   rw[e1]at ha;rw[e3,ha];rfl
theorem Wo{x:bc}{c:aB}{lo:Nat}:∀(names:List (bc×cW))(h:bJ)(acc:List (bc×aB)),lo<=h.objs.size->(cG h.objs.size names acc).lookup x=aa c->
  ((x,bD)∉names/\acc.lookup x=aa c)\/((x,bD)∈names/\lo<=c/\(km h names).IsCell c ab)
 |[],h,acc,_,e=>.inl #[by simp,e]
 |(name,kind)::r,h,acc,hlo,e=>by
  unfold cG at e;unfold km;split at e
  .rename_i hk
   rw[T9 hk];have hk:=cn hk;subst hk;rw[<-bR h {cls:=.type "cell",data:=.cell ab}]at e;rcases Wo r (h.push {cls:=.type "cell",data:=.cell ab}) ((name,h.objs.size)::acc) (bx hlo<|by rw[bR];exact kC _) e with⟨e1,e2⟩|⟨e1,e2⟩
   .rw[bj]at e2
    cases hb:x == name with
    |true=>
     rw[hb]at e2;cases e2;have:=cn hb;subst this;exact .inr #[al,hlo,_,gx _ _ _ _<|aH _ rfl,rfl]
    |false=>
     rw[hb]at e2;refine .inl #[λhm=>?_,e2]
     rcases ar.mp hm with q|q
     .cases q
      rw[beq_self_eq_true]at hb;cases hb
     .exact e1 q
   .exact .inr #[ak _ e1,e2]
  .rename_i hk
   rw[T8 hk];rcases Wo r _ _ hlo e with⟨e1,e2⟩|⟨e1,e2⟩
   .refine .inl #[λhm=>?_,e2]
    rcases ar.mp hm with q|q
    .cases q
     exact hk rfl
    .exact e1 q
   .exact .inr #[ak _ e1,e2]
theorem Wh:∀(names:List (bc×cW))(n:Nat)(acc:List (bc×aB)),(∀x c,acc.lookup x=aa c->c<n)->(∀x y c,acc.lookup x=aa c->acc.lookup y=aa c->x=y)->
  ∀x y c,(cG n names acc).lookup x=aa c->(cG n names acc).lookup y=aa c->x=y
 |[],n,acc,_,h=>h
 |(name,kind)::r,n,acc,hl,h=>by
  unfold cG;split
  .refine Wh r (n+1) _ (λx c e=>?_) λx y c e1 e2=>?_
   .rw[bj]at e
    split at e
    .cases e;exact kn _
    .exact fN<|hl x c e
   .rw[bj]at e1 e2
    cases p:x == name<;>cases q:y == name<;>rw[p]at e1<;>rw[q]at e2
    .exact h x y c e1 e2
    .cases e2;exact T7 (hl x _ e1)<|bh _
    .cases e1;exact T7 (hl y _ e2)<|bh _
    .rw[cn p,cn q]
  .exact Wh r n acc hl h
theorem Wx{x:bc}:∀(names:List (bc×cW))(n:Nat)(acc:List (bc×aB)),(∃c,acc.lookup x=aa c)\/(x,bD)∈names->∃c,(cG n names acc).lookup x=aa c
 |[],n,acc,h=>h.elim (λh=>h) λh=>by cases h
 |(name,kind)::r,n,acc,h=>by
  unfold cG;split
  .refine Wx r _ _ ?_
   cases hb:x == name with
   |true=>exact .inl #[n,by rw[bj,hb]]
   |false=>
    rcases h with⟨c,e⟩|h
    .exact .inl #[c,by rw[bj,hb];exact e]
    .rcases ar.mp h with q|q
     .cases q
      rw[beq_self_eq_true]at hb;cases hb
     .exact .inr q
  .rename_i hk
   refine Wx r _ _<|h.imp (λh=>h) λh=>?_
   rcases ar.mp h with q|q
   .cases q
    exact T7 rfl hk
   .exact q
def JW{M:Model}{A:cg}{E:am->au->Prop}{s:au}{scope:de}{g:aB}{cl:List (bc×aB)}{q:bc}{env:Env}{Q:Env->au->Prop}
  (h:Q (newEnv scope s.heap.objs.size g (cG (s.heap.objs.size+1) scope.names cl) q ab .none (aa env) ia) {s with heap:=km (s.heap.push {cls:=.type "dict",data:=.dict #[]}) scope.names}) :
  aS M A (newFunctionEnv scope g cl [] q ab .none<|aa env) Q E s:=by
 simp only[newFunctionEnv,iq,if_true];refine af<|wpAny_alloc ?_;refine af<|wpAny_layCells _ (λname kind cells=>by cases hkc:kind == bD<;>simp[hkc]) _ _ _ _ ?_
 rw[show({s with heap:=s.heap.push {cls:=.type "dict",data:=.dict #[]}}:au).heap.objs.size=s.heap.objs.size+1 from bR ..]
 exact ay h
noncomputable def cxC(X:Cx)(N:List bc)(scope:de)(cl:List (bc×aB))(s:au)(H:Hp)(fp:List aB):Cx:=
 {X with N:=N,s₀:=s,H₀:=H,env:=compEnvC scope cl s.heap.objs.size X.env,outer:=X.stack,ex:=fp,fn:=λx=>scope.names.any λy=>y.2 == .cell&&y.1 == x,pn:=[],xe:=λ_ _=>False}
def PTs(X:Cx)(ifs:List Expr)(t:TT):Prop:=
 ∀(pq:List (aB×dJ))(s:au)(U:L2.St)(H:Hp)(Q:Bool->Hp->Prop),Inv X pq U H s->t U H Q->
  aS (ba X.prog X.w) X.A (forIn ifs ag λc r=>if r=ag then do let ok <-isTrue c X.env (b9 c X.env);cb (kG ok)else cb (kG r)) (TP X pq U Q) X.xe s
def uH :PTs X [] (λU H Q=>Q ag H):=λpq s U H Q I h=>wpAny_tests_nil #[H,I,h]
def vR(h:PT X c t):PTs X [c] t:=λpq s U H Q I hq=>wpAny_tests_one<|h pq s U H Q I hq
structure CompScope(sc:de)(N0:List bc)(scope:de)(N:List bc)(cap:List Nat)(nl:Nat):Prop where
 kind:scope.kind=.function
 cell:∀y∈scope.names,y.2=.cell->(y.1,bd)∉scope.names
 names:∀y∈scope.names,y.2=.local->scope.names.lookup y.1=aa .local
 free:∀y∈scope.names,y.2=.free->sc.names.lookup y.1=aa .cell\/sc.names.lookup y.1=aa .free
 apart:∀y∈scope.names,y.2=.free->scope.names.lookup y.1≠aa .local
 len:N.length=nl+cap.length
 cap:∀p∈cap.zipIdx,N[nl+p.2]?=N0[p.1]?/\(N0[p.1]?).map (λx=>ae<|(x,bd)∈scope.names)=aa ag
def CompScope.capt{sc:de}{N0:List bc}{scope:de}{N:List bc}{cap:List Nat}{nl:Nat}(h:CompScope sc N0 scope N cap nl)(i j:Nat)(e:cap[i]?=aa j):∃x,N[nl+i]?=aa x/\N0[j]?=aa x/\(x,bd)∈scope.names:=by
 have hm:(j,i)∈cap.zipIdx:=by
  rw[List.mem_zipIdx_iff_getElem?];exact e
 obtain⟨h1,h2⟩:=h.cap (j,i) hm;cases q:N0[j]? with
 |none=>rw[q]at h2;cases h2
 |some x=>
  rw[q]at h1 h2
  exact#[x,h1,rfl,T6<|ah h2]
noncomputable def YB(cap:List Nat)(nl:Nat)(U:L2.St):L2.St:=aA nl ab++cap.map λi=>(U[i]?).join
section
variable{X:Cx}{pq:List (aB×dJ)}{U:L2.St}{H:Hp}{s:au}
theorem X9{env:Env}{x:bc}:∀{names:List (bc×cW)},(names.map λ(n,k)=>if(k == bd&&env.scope.kind == .function&&env.kindOf n == aa .cell)then(n,bD)else(n,k)).lookup x=aa .cell\/
  (names.map λ(n,k)=>if(k == bd&&env.scope.kind == .function&&env.kindOf n == aa .cell)then(n,bD)else(n,k)).lookup x=aa .free->(x,bd)∈names\/(x,bD)∈names
 |[],h=>by rcases h with h|h<;>cases h
 |(n,k)::r,h=>by
  have ih:=@X9 env x r;rw[aN]at h;by_cases e:x=n
  .subst e
   by_cases c:(k == bd&&env.scope.kind == .function&&env.kindOf x == aa .cell)=ag
   .have:=(ax _ _).mp c
    rw[cn ((ax _ _).mp this.1).1];exact .inl al
   .simp only[T8 c,bj,beq_self_eq_true,Option.some.injEq]at h
    rcases h with h|h
    .rw[h];exact .inr al
    .rw[h];exact .inl al
  .have hb:(x == n)=ai:=beq_eq_false_iff_ne.mpr e
   refine(ih ?_).imp (ak _)<|ak _;by_cases c:(k == bd&&env.scope.kind == .function&&env.kindOf n == aa .cell)=ag
   .simpa only[T9 c,bj,hb]using h
   .simpa only[T8 c,bj,hb]using h
theorem wL{N:List bc}{scope:de}{cl:List (bc×aB)}{fp:List aB}{cap:List Nat}{nl:Nat}{h1:bJ}{tk:Nat}(I:Inv X pq U H s)(CS:CompScope X.env.scope X.N scope N cap nl)(hN:X.N.Nodup)
  (c1:∀x c,cl.lookup x=aa c->((x,bD)∉scope.names/\X.env.cells.lookup x=aa c)\/((x,bD)∈scope.names/\s.heap.objs.size<=c/\h1.IsCell c ab))(c2:∀x,(x,bd)∈scope.names\/(x,bD)∈scope.names->∃c,cl.lookup x=aa c)
  (c3:∀x y c,cl.lookup x=aa c->cl.lookup y=aa c->x=y)(hf:∀b∈fp,Wv X pq H b)(hb:∀b∈fp,∃o,s.heap.get? b=aa o)(hns:∃m,h1.Ns s.heap.objs.size m)(hk:∀b o,s.heap.get? b=aa o->h1.get? b=aa o) :
  Inv (cxC X N scope cl s H fp) [] (YB cap nl U) H {s with heap:=h1,toks:=tk}:=by
 have bne:∀b∈fp,b≠s.heap.objs.size:=λb hb' e=>by
  obtain⟨o,ho⟩:=hb b hb';exact T7 (aC ho) (by rw[e];exact bh _)
 refine#[#[I.ok.mod,CS.kind,I.ok.glob,I.ok.blt,aD _,c3,λx hx=>c2 x<|X9 (env:=X.env) hx,λx c h e=>?_,I.ok.hd,I.ok.frames,.inl rfl,
  λb hb'=>#[bne b hb',λx c e=>(c1 x c e).elim (λq=>(hf b hb').2.2.2.2.1 x c q.2) λq z=>?_],I.bs,bx I.ok.bsz I.sz,λb o e hb'=>?_,λb hb' hm=>?_,I.stack,I.stkFree],
  rfl,I.bare,Un.kept hk,?_,λx c e=>?_,I.hok.fresh<|aD _,λx c e=>(c1 x c e).elim (λq=>I.freeC x c q.2) λq=>I.hok.fresh q.2.1,λp hp=>T7 hp (by simp[cxC]),I.hok.kept hk,?_]
 .rcases c1 x c e with q|q
  .obtain⟨y,hy,e⟩:=cq.mp h
   obtain⟨e1,e2⟩:=(ax _ _).mp e;obtain⟨y,k⟩:=y;have a1:k=.cell:=cn e1;have a2:y=x:=cn e2;subst a1 a2;exact T7 hy q.1
  .exact q.2.1
 .obtain⟨o,ho⟩:=hb b hb'
  have:=aC ho;rw[<-z]at this;exact T7 q.2.1<|Nat.not_le.mpr this
 .rcases(hf b hb').2.2.2.1 with z|z
  .exact I.ok.noex b o e z
  .exact T7 (aC e)<|Nat.not_lt.mpr<|bx I.ok.bsz z
 .rcases ar.mp (I.stkSub b hm)with e|e
  .exact(hf b hb').2.1 e
  .exact(hf b hb').2.2.1 e
 .obtain⟨m1,hm1⟩:=hns
  refine#[m1,hm1,λi x v e1 e2 e3=>?_]
  obtain⟨m,hm,hl⟩:=I.loc;have hi:nl<=i:=by
   by_cases hi:nl<=i
   .exact hi
   .have z:(YB cap nl U)[i]?=aa ab:=by
     unfold YB;rw[bX (by simp;lia),bP,T9 (by lia)]
    rw[z]at e2;cases e2
  have e2':(cap.map λi=>(U[i]?).join)[i-nl]?=aa (aa v):=by
   have:(YB cap nl U)[i]?=aa (aa v):=e2;unfold YB at this
   rwa [cj (by simp;exact hi),bM]at this
  rw[aV]at e2';cases hj:cap[i-nl]? with
  |none=>rw[hj]at e2';cases e2'
  |some j=>
   rw[hj]at e2';have hv:U[j]?=aa (aa v):=by
    have:(U[j]?).join=aa v:=ah e2';cases q:U[j]? with
    |none=>rw[q]at this;cases this
    |some o=>rw[q]at this;cases o with|none=>cases this|some w=>cases this;rfl
   obtain⟨x',n1,n2,fr⟩:=CS.capt _ _ hj;have ex:x'=x:=by
    have:N[nl+(i-nl)]?=aa x:=by rw[show nl+(i-nl)=i by lia];exact e1
    rw[n1]at this;exact ah this
   subst ex;have kd:=CS.free _ fr rfl;have vis:Vis X.env.scope x':=by
    rcases kd with z|z
    .exact .inr<|.inl z
    .exact .inr<|.inr z
   obtain⟨u,r,lk⟩:=hl j x' v n2 hv vis;refine#[u,r,?_];rcases lk with⟨k,_⟩|⟨k,c,ec,hc⟩
   .have k':X.env.scope.names.lookup x'=aa .local:=k
    rcases kd with z|z<;>(rw[z]at k';cases k')
   .obtain⟨c',ec'⟩:=c2 x' (.inl fr)
    have ecc:c'=c:=by
     have:=(c1 x' c' ec').elim (λq=>q.2) λq=>T7 fr<|CS.cell _ q.1 rfl
     rw[ec]at this;exact(ah this).symm
    subst ecc;have vis2:Vis (relabel scope X.env) x':=e3;refine .inr #[?_,c',ec',?_]
    .rcases vis2 with z|z|z
     .have z':(scope.names.map λ(n,k)=>if(k == bd&&X.env.scope.kind == .function&&X.env.kindOf n == aa .cell)then(n,bD)else(n,k)).lookup x'=aa .local:=z
      exfalso
      have:∀(names:List (bc×cW)),(∀y∈names,y.2=cW.local->y.1≠x')->(names.map λ(n,k)=>if(k == bd&&X.env.scope.kind == .function&&X.env.kindOf n == aa .cell)then(n,bD)else(n,k)).lookup x'≠aa .local:=by
       intro names
       induction names with
       |nil=>intro _ h;cases h
       |cons y r ih=>
        obtain⟨n,k⟩:=y;intro hy h;rw[aN]at h;by_cases e:x'=n
        .subst e
         by_cases c:(k == bd&&X.env.scope.kind == .function&&X.env.kindOf x' == aa .cell)=ag
         .simp only[T9 c,bj,beq_self_eq_true]at h;cases h
         .simp only[T8 c,bj,beq_self_eq_true]at h
          exact hy (x',k) al (ah h) rfl
        .have hb:(x' == n)=ai:=beq_eq_false_iff_ne.mpr e
         refine ih (λy hy'=>hy y<|ak _ hy') ?_
         by_cases c:(k == bd&&X.env.scope.kind == .function&&X.env.kindOf n == aa .cell)=ag
         .simp only[T9 c,bj,hb]at h;exact h
         .simp only[T8 c,bj,hb]at h;exact h
      refine this scope.names (λy hy hl e=>?_) z'
      have l1:=CS.names y hy hl;rw[e]at l1;exact CS.apart (x',.free) fr rfl l1
     .exact .inl z
     .exact .inr z
    .obtain⟨o,ho,hd⟩:=hc
     exact#[o,hk c' o ho,hd]
 .rcases c1 x c e with q|q
  .obtain⟨v,o,ho,hd⟩:=I.cell x c q.2
   exact#[v,o,hk c o ho,hd]
  .exact#[ab,q.2.2]
 .unfold YB
  show _=N.length;rw[aP,bM,aw,CS.len]
end
abbrev TEm:=L2.St->Hp->(L2.St->Hp->Prop)->Prop
def wq(X:Cx)(act:kY Fin->kY Fin)(te:TEm):Prop:=
 ∀(pq:List (aB×dJ))(s:au)(U:L2.St)(H:Hp)(Q:L2.St->Hp->Prop)(k:kY Fin)(QF:Fin->au->Prop)(EE:am->au->Prop),Inv X pq U H s->te U H Q->(∀s' σ' H',Inv X pq σ' H' s'->Q σ' H'->aS (ba X.prog X.w) X.A k QF EE s')->
  aS (ba X.prog X.w) X.A (act k) QF EE s
noncomputable def Jo(ipos:fA)(tg:Expr)(ifs:List Expr)(act:kY Fin->kY Fin)(it:am)(env:Env)(c:Code):kY Fin:=do
 gS ipos
 match <-i7 it with
 |none=>cb<|.done .next
 |some v=>
  gq tg it v
  assign tg env v
  let mut ok:=ag
  for c in ifs do
   if ok then ok <-isTrue c env (b9 c env)
  if ok then act (again c)else again c
def wd(J:It)(g:TG)(tt:TT)(te:TEm)(W:Nat->Nat->L2.St->Hp->Prop)(Q:L2.St->Hp->Prop):Prop:=∀i m σ' H',W i m σ' H'->
  (J.stop i H'/\Q σ' H')\/(J.go i H'/\∀x H'',J.yld i H' x H''->g x σ' H'' λσ2 H2=>tt σ2 H2 λok H3=>if ok=ag then te σ2 H3 λσ3 H4=>∃m',m'<m/\W (i+1) m' σ3 H4 else ∃m',m'<m/\W (i+1) m' σ2 H3)
def zW{tn:Nat->bJ->Prop}{Rr:Result->au->Prop}{Q:L2.St->Hp->Prop}{W:Nat->Nat->L2.St->Hp->Prop}
  (hc:Y.calm=ag)(hx:∀a b,Y.xe a b->False)(hT:compTurn e depth (.ref it) acc Y.env=Jo ipos tg ifs act (.ref it) Y.env (.compLoop e depth (.ref it) acc Y.env))(hquiet:(k9 e depth (.ref it) acc Y.env).isFrame=ai)
  (hq:(k9 e depth (.ref it) acc Y.env).quiet=ag)(T:Turn Y.prog Y.w Y.K tg J fp it tn)(hg:PG Y tg g)(ht:PTs Y ifs tt)(he:wq Y act te)(stat:∀{H':Hp},(∀b∈fp,H' b=ab)->∀b∈fp,Wv Y pq H' b)
  (turn:wd J g tt te W Q)(fin:∀U H s,Inv Y pq U H s->Q U H->Rr (.ok .next) s)
  (I0:Inv Y pq U H s)(st0:tn 0 s.heap)(fr0:∀b∈fp,H b=ab)(w0:W 0 m U H)(hden:(ba Y.prog Y.w).den (.compLoop e depth (.ref it) acc Y.env)=(compTurn e depth (.ref it) acc Y.env).onRaise (λx=>do noteFrame x Y.env;theTreesLotGoes x))
  (hund:Y.A.under (.compLoop e depth (.ref it) acc Y.env)=Y.A):gb (ba Y.prog Y.w) Y.A (.compLoop e depth (.ref it) acc Y.env) Rr s:=by
 refine codeAny_loop hq (λn s'=>∃i σ' H',Inv Y pq σ' H' s'/\tn i s'.heap/\(∀b∈fp,H' b=ab)/\W i n σ' H') (λn s5 hI=>?_) m #[0,U,H,I0,st0,fr0,w0]
 rw[hund,hden,hT];refine wpAny_noted ?_;obtain⟨i,σ5,H5,I5,st5,fr5,w5⟩:=hI;refine af<|eB<|af ?_;rcases turn i n σ5 H5 w5 with⟨stop,qn⟩|⟨go,step⟩
 .refine cY (T.done Y rfl rfl rfl hc i pq s5 σ5 H5 (λ_ _=>False) I5 (stat fr5) st5 stop) (λr s6 #[hr,I6]=>?_) λ_ _ h'=>h'.elim
  subst hr;exact ay<|fin σ5 H5 s6 I6 qn
 .refine cY (T.item Y rfl rfl rfl hc i pq s5 σ5 H5 (λ_ _=>False) I5 (stat fr5) st5 go) (λr s6 #[u,hr,h6]=>?_) λ_ _ h'=>h'.elim
  subst hr;refine af<|cY h6 (λ_ s7 #[x,H7,I7,r7,y7,st7,fr7]=>?_) λ_ _ h'=>h'.elim
  have I7':=I7.pinned (stat fr7)<|T.obj _ _ st7;have back:∀{σ8:L2.St}{H8:Hp}{s8:au}{m':Nat},Inv Y (pq++Ve fp s7.heap) σ8 H8 s8->m'<n->W (i+1) m' σ8 H8->∃m,m<n/\∃i σ' H',Inv Y pq σ' H' s8/\tn i s8.heap/\(∀b∈fp,H' b=ab)/\W i m σ' H':=λ{σ8 H8 s8 m'} I8 hm w8=>by
   refine#[m',hm,i+1,σ8,H8,I8.unpinned,T.keep _ _ _ st7 λb hb' o e=>(I8.pin (b,o)<|bi _<|bi _<|Y5 hb' e).1,λb hb'=>?_,w8]
   obtain⟨o,e,d⟩:=T.obj _ _ st7 b hb';exact(I8.pin (b,o)<|bi _<|bi _<|Y5 hb' e).2.1
  refine af<|cY (hg _ s7 σ5 H7 x u _ I7' r7<|step x H7 y7) (λ_ s8 #[σ8,H8,I8,q8]=>?_) λ_ _ h'=>(hx _ _ h').elim
  refine af<|cY (ht _ s8 σ8 H8 _ I8 q8) (λok s9 #[H9,I9,q9]=>?_) λ_ _ h'=>(hx _ _ h').elim
  cases ok with
  |false=>
   rw[T8 aF]at q9;obtain⟨m',hm,w9⟩:=q9;exact ay #[rfl,back I9 hm w9]
  |true=>
   rw[T9 rfl]at q9;exact he _ s9 σ8 H9 _ _ _ _ I9 q9<|by rintro s10 σ10 H10 I10 ⟨m',hm,w10⟩;exact ay #[rfl,back I10 hm w10]
def QX{Y:Cx}{elt:Expr}{te:TE}{D:aB}(hx:∀a b,Y.xe a b->False)(he:PE Y elt te):wq Y (λk=>(do let _ <-call (.builtin "list.append") [.ref D,<-b9 elt Y.env]:kY Unit) >>= λ_=>k) (λU H Q=>te U H λy H4=>∃ys,H4 D=aa (.lst ys)/\ys.length<aQ/\Q U (upd H4 D<|.lst<|ys++[y])):=by
 intro pq s U H Q k QF EE I h hk;refine af ?_;refine af<|cY (he pq s U H _ I h) (λxv s10 #[y,H10,I10,r10,ys,hDy,hz,q]=>?_) λ_ _ h'=>(hx _ _ h').elim
 refine af<|cY (Ur pq s10 U H10 (.ref D) [y] (.ref D) [xv] (λv H'=>v=.non/\H'=upd H10 D (.lst<|ys++[y])) I10 rfl (.cons r10 .nil) #[D,ys,y,rfl,rfl,hDy,hz,rfl,rfl]) (λ_ s11 #[v11,H11,I11,_,_,eH]=>?_) λ_ _ h'=>(hx _ _ h').elim
 subst eH;exact ay<|hk _ _ _ I11 q
def j9(wi:TI)(g:TG)(tt:TT)(te:aB->TEm)(cap:List Nat)(nl:Nat):TE:=λU H Q=>wi U H λJ H1=>∀D,H1 D=ab->∃W:Nat->Nat->L2.St->Hp->Prop,(∃m,W 0 m (YB cap nl U)<|upd H1 D<|.lst [])/\wd J g tt (te D) W λ_ H'=>Q (.ref D) H'
def yS(wi:TI)(g:TG)(tt:TT)(te:TE)(cap:List Nat)(nl:Nat):TE:=λU H Q=>wi U H λJ H1=>∀D,H1 D=ab->∃W:Nat->Nat->L2.St->Hp->Prop,(∃m,W 0 m (YB cap nl U)<|upd H1 D<|.lst [])/\∀i m σ' H',W i m σ' H'->
  (J.stop i H'/\Q (.ref D) H')\/(J.go i H'/\∀x H'',J.yld i H' x H''->g x σ' H'' λσ2 H2=>tt σ2 H2 λok H3=>if ok=ag then te σ2 H3 λy H4=>∃ys,H4 D=aa (.lst ys)/\ys.length<aQ/\∃m',m'<m/\W (i+1) m' σ2 (upd H4 D<|.lst<|ys++[y])else ∃m',m'<m/\W (i+1) m' σ2 H3)
structure Gone(X:Cx)(pq:List (aB×dJ))(H:Hp)(s:au)(C:aB):Prop where
 free:H C=ab
 ns:∃m,s.heap.Ns C m
 loc:C≠X.env.locals
 big:X.s₀.heap.objs.size<=C
 cel:∀x c,X.env.cells.lookup x=aa c->c≠C
 pin:∀p∈X.pn++pq,p.1≠C
def Ua{tg iter elt:Expr}{ifs:List Expr}{scope:de}{pos fpos:fA}{N:List bc}{cap:List Nat}{nl:Nat}{wi:TI}{g:TG}{tt:TT}{te:aB->TEm}{act:am->Env->kY Fin->kY Fin}{rest:List Comprehension}{pq:List (aB×dJ)}{s:au}{U:L2.St}{H:Hp}{Q:VK}{use:Option (am->kY Unit)}{QQ:am->au->Prop}(hc:X.calm=ag)(hN:X.N.Nodup)(CS:CompScope X.env.scope X.N scope N cap nl)(hi:PI X tg iter wi)
  (hT:∀it acc env,compTurn (.ListComp elt (#[tg,iter,ifs,0]::rest) scope pos) 0 it acc env=Jo iter.pos tg ifs (act acc env) it env (.compLoop (.ListComp elt (#[tg,iter,ifs,0]::rest) scope pos) 0 it acc env))
  (hb:∀cl s H fp,PG (cxC X N scope cl s H fp) tg g/\PTs (cxC X N scope cl s H fp) ifs tt/\∀D,wq (cxC X N scope cl s H fp) (act (.ref D) (cxC X N scope cl s H fp).env)<|te D)
  (hs:∀x,cx iter X.env x=cb x)(I:Inv X pq U H s)(h:j9 wi g tt te cap nl U H Q)
  (fin:∀D C H5 s6,Inv X pq U H5 s6->Gone X pq H5 s6 C->Q (.ref D) H5->compPost (ba X.prog X.w) X.A X.xe use QQ (.ref D) C (.ok .next) s6) :
  aS (ba X.prog X.w) X.A (comprehension (.ListComp elt (#[tg,iter,ifs,0]::rest) scope pos) scope X.env fpos (newList []) ai (b9 iter X.env) use) QQ X.xe s:=by
 obtain⟨cl,hcl,c1,c2⟩:=J1 (scope:=scope) (env:=X.env) λy hy hf=>I.ok.has y.1<|CS.free y hy hf
 refine wpAny_comprehension_free (use:=use) rfl hs hcl CS.kind CS.names ?_;refine thn (hi pq s U H _ I h) λv s1 h1=>thn h1 λitv s2 h2=>?_
 obtain⟨it,fp,tn,J,H2,rfl,I2,T,st2,f2,q2⟩:=h2;obtain⟨W,⟨m0,w0⟩,turn⟩:=q2 s2.heap.objs.size<|I2.hok.fresh<|aD _;refine bo<|JW ?_
 dsimp only
 have I3:Inv X pq U (upd H2 s2.heap.objs.size<|.lst []) {s2 with heap:=s2.heap.push {cls:=.type "list",dict:=ab,data:=.seq ([]:List am).toArray},toks:=s2.toks}:=
  I2.laid (λb u e=>ap _ e) (aD _) #[df _,[],0,.nil,aH _ rfl]
 generalize hD:s2.heap.objs.size=D at I3 w0 turn ⊢;generalize hs3:({s2 with heap:=s2.heap.push {cls:=.type "list",dict:=ab,data:=.seq ([]:List am).toArray},toks:=s2.toks}:au)=s3 at I3
 have hh3:s2.heap.push {cls:=.type "list",dict:=ab,data:=.seq ([]:List am).toArray}=s3.heap:=by rw[<-hs3]
 rw[hh3];have old:∀b o,s2.heap.get? b=aa o->s3.heap.get? b=aa o:=λb o e=>by rw[<-hh3];exact ap _ e
 have neD:∀b∈fp,b≠D:=λb hb' e=>by
  obtain⟨o,ho,_⟩:=T.obj _ _ st2 b hb';exact T7 (aC ho) (by rw[e,<-hD];exact bh _)
 have f3:∀b∈fp,Wv X pq (upd H2 D<|.lst []) b:=λb hb'=>#[by rw[Zq<|neD b hb'];exact(f2 b hb').1,(f2 b hb').2]
 generalize hh4:km (s3.heap.push {cls:=.type "dict",data:=.dict #[]}) scope.names=h₁;have keep4:∀b o,s3.heap.get? b=aa o->h₁.get? b=aa o:=λb o e=>by rw[<-hh4];exact gx _ _ b o<|ap _ e
 have hns₁:∃m,h₁.Ns s3.heap.objs.size m:=#[_,by rw[<-hh4];exact(bJ.Ns.new s3.heap<|.type "dict").keeps<|gx _ _]
 have lt3:∀x c,cl.lookup x=aa c->c<s3.heap.objs.size+1:=λx c e=>by
  obtain⟨v,q⟩:=I3.cell x c<|c1 x c e;exact fN q.lt
 have c3:=Wh scope.names _ cl lt3 λx y c h1 h2=>I.ok.inj x y c (c1 x c h1)<|c1 y c h2
 have c2':∀x,(x,bd)∈scope.names\/(x,bD)∈scope.names->∃c,(cG (s3.heap.objs.size+1) scope.names cl).lookup x=aa c:=λx hx=>Wx _ _ _<|hx.imp (c2 x) λh=>h
 have c1':∀x c,(cG (s3.heap.objs.size+1) scope.names cl).lookup x=aa c->((x,bD)∉scope.names/\X.env.cells.lookup x=aa c)\/((x,bD)∈scope.names/\s3.heap.objs.size<=c/\h₁.IsCell c ab):=λx c e=>by
  rw[<-bR s3.heap {cls:=.type "dict",data:=.dict #[]}]at e;refine(Wo (lo:=s3.heap.objs.size) _ _ _ (by rw[bR];exact kC _) e).imp (λq=>#[q.1,c1 x c q.2]) λq=>?_
  rw[hh4]at q;exact q
 generalize cG (s3.heap.objs.size+1) scope.names cl=cl at c1' c2' c3;have I4:=wL (tk:=s2.toks) I3 CS hN c1' c2' c3 f3 (λb hb'=>let #[o,ho,_]:=T.obj _ _ st2 b hb';#[o,old b o ho]) hns₁ keep4
 have e4:({s3 with heap:=h₁,toks:=s2.toks}:au)={s2 with heap:=h₁,toks:=s2.toks}:=by rw[<-hs3]
 rw[e4]at I4;obtain⟨hg,ht,he⟩:=hb cl s3 (upd H2 D<|.lst []) fp;generalize hY:cxC X N scope cl s3 (upd H2 D<|.lst []) fp=Y at I4 hg ht he;have yP:Y.prog=X.prog:=by rw[<-hY];rfl
 have stat:∀{H':Hp},(∀b∈fp,H' b=ab)->∀b∈fp,Wv Y [] H' b:=λhn b hb'=>by
  subst hY;refine#[hn b hb',λe=>?_,λhm=>?_,.inl hb',λx c e=>(c1' x c e).elim (λq=>(f3 b hb').2.2.2.2.1 x c q.2) λq z=>?_,λp hp=>T7 hp (by simp[cxC])]
  .obtain⟨o,ho,_⟩:=T.obj _ _ st2 b hb'
   have:=aC<|old b o ho;rw[e]at this;exact T7 this<|bh _
  .rcases ar.mp (I3.stkSub b hm)with e|e
   .exact(f3 b hb').2.1 e
   .exact(f3 b hb').2.2.1 e
  .obtain⟨o,ho,_⟩:=T.obj _ _ st2 b hb'
   have:=aC<|old b o ho;rw[<-z]at this;exact T7 q.2.1<|Nat.not_le.mpr this
 subst hY
 let Y:=cxC X N scope cl s3 (upd H2 D<|.lst []) fp
 have st4:tn 0 h₁:=T.keep _ _ _ st2 λb hb' o e=>keep4 b o<|old b o e
 have fr4:∀b∈fp,upd H2 D (HO.lst []) b=ab:=λb hb'=>(f3 b hb').1
 have loop:gb (ba X.prog X.w) X.A (.compLoop (.ListComp elt (#[tg,iter,ifs,0]::rest) scope pos) 0 (.ref it) (.ref D)<|compEnvC scope cl s3.heap.objs.size X.env)
   (compPost (ba X.prog X.w) X.A X.xe use QQ (.ref D) s3.heap.objs.size) {s2 with heap:=h₁,toks:=s2.toks}:=by
  refine zW (Y:=cxC X N scope cl s3 (upd H2 D<|.lst []) fp) (pq:=[]) (W:=W) (Q:=λ_ H'=>Q (.ref D) H') hc (λ_ _ z=>z) (hT _ _ _) rfl rfl T hg ht (he D) stat turn (λσ5 H5 s6 I6 qn=>?_) I4 st4 fr4 w0 rfl rfl
  obtain⟨m6,hn6,_⟩:=I6.loc;have u:=I6.base;have IX:Inv X pq U H5 s6:=Inv.call' (s':=s6) (ch:=fp) I3 I6.os #[u.keep,u.slot,u.free,u.there,u.tups,u.frzs,u.tbls] I6.hok I6.bare λb hb'=>#[(f3 b hb').2.2.2.1,(f3 b hb').2.1,(f3 b hb').2.2.2.2.1,λp hp e=>(f3 b hb').2.2.2.2.2 p hp e]
  refine fin D s3.heap.objs.size H5 s6 IX #[I6.free,#[m6,hn6],Ne.symm<|bn I3.lt,I3.sz,λx c e z=>?_,λp hp z=>?_] qn
  .obtain⟨v,q⟩:=I3.cell x c e
   exact T7 q.lt (by rw[z];exact bh _)
  .exact T7 (aC (I3.pin p hp).1) (by rw[z];exact bh _)
 subst hs3;exact codeAny_compStart_list loop<|T.self _ 0 _ _ _ st4 loop
def Gone.inv(G:Gone X pq H s C)(I:Inv X pq U H s)(hsb:dB C s.heap h'):Inv X pq U H {s with heap:=h' }:=
 I.turned (t':=s.toks) (λb o hb e=>(hsb.2 b hb).trans e) G.free G.loc (.inr G.big) G.cel G.pin
def ZbU(te:TE)(D:aB):TEm:=λU H Q=>te U H λy H4=>∃ys,H4 D=aa (.lst ys)/\ys.length<aQ/\Q U (upd H4 D<|.lst<|ys++[y])
def qb(hc:X.calm=ag)(hN:X.N.Nodup)(CS:CompScope X.env.scope X.N scope N cap nl)(hi:PI X tg iter wi)
  (hb:∀cl s H fp,PG (cxC X N scope cl s H fp) tg g/\PTs (cxC X N scope cl s H fp) ifs tt/\PE (cxC X N scope cl s H fp) elt te)
  (hs:∀x,cx iter X.env x=cb x:=by intro _;rfl):PE X (.ListComp elt [#[tg,iter,ifs,0]] scope pos) (yS wi g tt te cap nl):=by
 intro pq s U H Q I h;rw[eval_ListComp];refine Ua (act:=λacc env k=>(do let _ <-call (.builtin "list.append") [acc,<-b9 elt env]:kY Unit) >>= λ_=>k) hc hN CS hi (λ_ _ _=>rfl) (λcl s H fp=>#[(hb cl s H fp).1,(hb cl s H fp).2.1,λD=>QX (λ_ _ z=>z) (hb cl s H fp).2.2]) hs I h λD C H5 s6 I6 G q=>?_
 obtain⟨m6,hn6⟩:=G.ns;exact#[m6,hn6,λh' hsb=>#[.ref D,H5,G.inv I6 hsb,rfl,q]]
def vi(hc:X.calm=ag)(hN:X.N.Nodup)(CS:CompScope X.env.scope X.N scope N cap nl)(hi:PI X tg iter wi)
  (hb:∀cl s H fp,PG (cxC X N scope cl s H fp) tg g/\PTs (cxC X N scope cl s H fp) ifs tt/\PE (cxC X N scope cl s H fp) elt te)
  (hsw:gR (.ListComp elt [#[tg,iter,ifs,0]] scope pos) (aa<|.Name y py) spos.line X.env=cb ag)
  (hy:X.N[i]?=aa y)(hx:L2.Loc X.env.scope y)(hf:X.fn y=ag\/X.env.scope.names.lookup y=aa .local)
  (hs:∀x,cx iter X.env x=cb x:=by intro _;rfl):PS X (.Assign [.Name y py] (.ListComp elt [#[tg,iter,ifs,0]] scope pos) spos) (λD U H=>yS wi g tt te cap nl U H λv H1=>D.nx (U.set i<|aa v) H1):=by
 intro pq s U H D I h;rw[exec_Assign_Name_used _ _ _ _ hsw];refine af<|eB<|af ?_;refine af<|cY (Ua (Q:=λv H1=>D.nx (U.set i<|aa v) H1) (act:=λacc env k=>(do let _ <-call (.builtin "list.append") [acc,<-b9 elt env]:kY Unit) >>= λ_=>k) hc hN CS hi (λ_ _ _=>rfl) (λcl s H fp=>#[(hb cl s H fp).1,(hb cl s H fp).2.1,λD=>QX (λ_ _ z=>z) (hb cl s H fp).2.2]) hs I h λA C H5 s6 I6 G q=>?_) (λ_ s' hq=>ay<|ay hq) λ_ _ e=>e
 refine iC<|V5 (v:=V.ref A) I6 hN hy hx rfl (λs7 I7 #[a,hsb,ha]=>?_) hf
 have hCa:C≠a:=by
  rcases ha with e|e
  .rw[e];exact G.loc
  .exact Ne.symm<|G.cel y a e
 obtain⟨m6,hn6⟩:=G.ns;have G7:Gone X pq H5 s7 C:=#[G.free,#[m6,hn6.sameBut hsb hCa],G.loc,G.big,G.cel,G.pin];exact#[m6,hn6.sameBut hsb hCa,λh' hs'=>#[U.set i<|aa<|.ref A,H5,G7.inv I7 hs',q]]
open Ev (E Sm Fn Bop Cop Ty Bf Mf)
section
variable{X:Cx}{xw:Nat->Hp->Prop}{C:Calls}{e a b c tg it:Expr}{i j k:E}{pos p p' p2:fA}
structure CTs(X:Cx)(xw:Nat->Hp->Prop)(C:Calls)(ifs:List Expr)(is:List E):Prop where
 h:PTs X ifs (tB3 X xw<|Pv.pvt C is)
def PTs.imp{X:Cx}{e:List Expr}{t t':TT}(h:PTs X e t)(k:∀U H Q,t' U H Q->t U H Q):PTs X e t':=λpq s U H Q I q=>h pq s U H Q I<|k U H Q q
def vD:CTs X xw C [] []:=.mk <| PTs.imp uH<|by rintro U H Q ⟨O,l,S,st,lr,h⟩;exact End.ok (h) st rfl
def uL(U:Lc)(S:Zp):Pv.pvt C [i] U S=Pv.Xp C i U S:=by
 show((Pv.pv C i U S).bind λx S=>(Pv.po (Pv.Zo x) S).bind λb S=>if b then Pv.pvt C [] U S else .ok ai S)=(Pv.pv C i U S).bind λx S=>Pv.po (Pv.Zo x) S
 congr 1
 funext x S
 cases Pv.Zo x with|none=>rfl|some b=>cases b<;>rfl
def vT(h:CT X xw C c i):CTs X xw C [c] [i]:=.mk <| PTs.imp (vR h.h)<|by rintro U H Q ⟨O,l,S,st,lr,h⟩;exact #[O,l,S,st,lr,by rw[<-uL];exact h]
def LocR.caught(lr:LocR O H l U)(cap:List Nat)(nl:Nat):LocR O H (Pv.Z6 cap nl l) (YB cap nl U):=by
 refine#[by unfold Pv.Z6 YB;simp,λn d e=>?_]
 unfold Pv.Z6 at e;by_cases hn:n<nl
 .rw[bX (by simp;exact hn),bP,T9 hn]at e
  cases e
 .rw[cj (by simp;omega),bM,aV]at e
  unfold YB;rw[cj (by simp;omega),bM,aV]
  cases q:cap[n-nl]? with
  |none=>rw[q]at e;cases e
  |some m=>
   rw[q]at e;have e':(l[m]?).join=aa d:=ah e;have:l[m]?=aa (aa d):=by
    cases z:l[m]? with
    |none=>rw[z]at e';cases e'
    |some o=>rw[z]at e';cases o with|none=>cases e'|some w=>cases e';rfl
   obtain⟨v,hv,r⟩:=lr.val m d this;exact#[v,by show aa ((U[m]?).join)=_;rw[hv];rfl,r]
noncomputable def Mx.at(O:Mx)(A:aB):Mx:=#[O.K,O.n0,λa=>O.X a\/a=A,λa h=>.inl<|O.xz a h]
def Xh(O:Mx)(A:aB)(H H':Hp):Prop:=∀a o,a≠A->H a=aa o->H' a=aa o\/(O.n0=aa a/\∃xs,o=.lst xs)\/((∃ps,o=.tbl ps)/\∃ps,H' a=aa (.tbl ps))
def Xh.trans(f:Xh O A H H1)(g:Xh O A H1 H2):Xh O A H H2:=λa o n h=>(f a o n h).elim (g a o n) λz=>z.elim (λz=>.inr<|.inl z)<|by
 rintro ⟨e,ps,h⟩;rcases g a _ n h with q|⟨_,xs,q⟩|⟨_,q⟩
 .exact .inr<|.inr #[e,ps,q]
 .cases q
 .exact .inr<|.inr #[e,q]
def Xh.of(f:Fut (O.at A) H ρ' H1):Xh O A H H1:=λa o _ h=>f.keep a o h
structure CI(K:aj)(O:Mx)(A:aB)(acc:List D)(l:Lc)(U:L2.St)(H:Hp)(S:Zp):Prop where
 st:St3 K (O.at A) S H
 lr:LocR (O.at A) H l U
 ac:∃us,H A=aa (.lst us)/\Rq (O.at A) H acc us
section
variable{K:aj}{O:Mx}{A:aB}{acc:List D}{l l':Lc}{U:L2.St}{H H':Hp}{S S':Zp}
def Xh.lat(f:Xh O A H H')(ha:H A=aa (.lst us)):Lat (O.at A) H (O.at A) H':=#[rfl,rfl,λa o h x n _=>by
 by_cases c:a=A
 .subst c;rw[ha]at h;cases h;exact T7 (.inr rfl)<|x us rfl
 .rcases f a o c h with z|⟨z,xs,e⟩|⟨⟨ps,e⟩,_⟩
  .exact z
  .exact T7 (.inl<|O.xz a z)<|x xs e
  .exact T7 e<|n ps,λ_ _ x=>x]
theorem CI.mono(h:CI K O A acc l U H S)(na:O.n0≠aa A)(f:Fut (O.at A) H ρ' H')(st:St3 K (O.at A) S' H'):CI K O A acc l U H' S':=by
 obtain⟨us,e,r⟩:=h.ac;cases f.eq;exact#[st,h.lr.mono f,us,(f.keep A _ e).elim id λz=>z.elim (λz=>T7 z.1 na)<|by rintro ⟨⟨_,z⟩,_⟩;exact (by cases z),r.mono f]
def Zax{Q:L2.St->Hp->Prop}(lr:LocR O H l U)(r:Rep O H d v)(e:Pv.Zk t d l=aa l')(q:∀σ',LocR O H l' σ'->Q σ' H):tGU K t v U H Q:=by
 have fill:∀{t:List Nat}{vs:List D}{us:List V}{l l':Lc}{U:L2.St},LocR O H l U->Rq O H vs us->Pv.YE t vs l=aa l'->us.length=t.length/\LocR O H l' (VP t us U):=λ{t}=>by
  induction t with
  |nil=>intro vs us l l' U h r e;cases vs with|nil=>rw[r];cases e;exact#[rfl,h]|cons _ _=>cases e
  |cons i t ih=>intro vs us l l' U h r e;cases vs with
   |nil=>cases e
   |cons v vs=>
    obtain⟨d,ds,rfl,a,b⟩:=r;obtain⟨z,q⟩:=ih (h.set i a) b e;exact#[by rw[aI,aI,z],q]
 have gen:∀t:List Nat,(match Pv.yI d with
   |some xs=>Pv.YE t xs l
   |none=>ab)=aa l'->∃a xs,v=.ref a/\(SqT K H a xs\/H a=aa (.lst xs))/\xs.length=t.length/\Q (VP t xs U) H:=by
  intro t e;cases d with|tup vs=>obtain⟨p,ds,rfl,hp,rs⟩:=r.tup';obtain⟨z,y⟩:=fill lr rs e;exact#[p,ds,rfl,.inl<|SqT.of hp,z,q _ y]|lst vs=>obtain⟨p,ds,rfl,hp,_,rs⟩:=r.lst';obtain⟨z,y⟩:=fill lr rs e;exact#[p,ds,rfl,.inr hp,z,q _ y]|_=>cases e
 match t,e with
 |[i],e=>cases e;exact q _<|lr.set i r
 |[],e=>exact gen [] e
 |i::j::t,e=>exact gen (i::j::t) e
theorem Us:∀{t:List Nat}{vs:List D}{l l':Lc},Pv.YE t vs l=aa l'->l'.length=l.length/\∀j,j∉t->l'[j]?=l[j]?
 |[],[],l,l',h=>by cases h;exact#[rfl,λ_ _=>rfl]
 |[],_::_,_,_,h=>by cases h
 |_::_,[],_,_,h=>by cases h
 |i::t,v::vs,l,l',h=>by
  obtain⟨a,b⟩:=Us (t:=t) h;exact#[by rw[a,bg],λj hj=>by rw[b j λz=>hj<|ak _ z,aT λz=>hj (by rw[z];exact al ..)]]
def Jd(e:Pv.Zk t v l=aa l'):l'.length=l.length/\∀j,j∉t->l'[j]?=l[j]?:=by
 have gen:∀t:List Nat,(match Pv.yI v with
   |some xs=>Pv.YE t xs l
   |none=>ab)=aa l'->l'.length=l.length/\∀j,j∉t->l'[j]?=l[j]?:=λt e=>by
  cases q:Pv.yI v with|none=>rw[q]at e;cases e|some xs=>rw[q]at e;exact Us e
 match t,e with
 |[i],e=>cases e;exact#[bg ..,λj hj=>aT λz=>hj (by rw[z];exact al ..)]
 |[],e=>exact gen [] e
 |i::j::t,e=>exact gen (i::j::t) e
def LocR.back(e:Pv.Zk t v l=aa l')(hn:∀i∈t,∀d,l[i]?≠aa (aa d))(lr:LocR O H l' U):LocR O H l U:=by
 obtain⟨a,b⟩:=Jd e;exact#[by rw[<-a];exact lr.len,λi d q=>lr.val i d (by rw[b i λz=>hn i z d q];exact q)]
end
noncomputable def qz(C:Calls)(t:List Nat)(is:List E)(G:Lc->Zp->R (List D))(l:Lc)(x:D)(S:Zp):R (List D):=(Pv.po (Pv.Zk t x l) S).bind λl S=>(Pv.pvt C is l S).bind λb S=>if b then G l S else .ok [] S
def UE{m β:Type}{r:R m}{f:m->Zp->R β}{b:β}{S:Zp}(h:r.bind f=.ok b S):∃a S1,r=.ok a S1/\f a S1=.ok b S:=by
 cases r with|ok a S1=>exact#[a,S1,rfl,h]|ex _ _=>cases h|no=>cases h
def zX(h:Pv.mapP f (x::w) S=.ok rs S2):∃y S1 zs,f x S=.ok y S1/\Pv.mapP f w S1=.ok zs S2/\rs=y++zs:=by
 rw[Pv.mapP]at h;split at h
 .split at h
  .cases h;exact#[_,_,_,‹_›,‹_›,rfl]
  .cases h
 .cases h
def ZbF(K:aj)(O:Mx)(A:aB)(P:Lc->Prop)(te:TEm)(G:Lc->Zp->R (List D)):Prop:=∀acc l U H S ys S2 QQ,P l->CI K O A acc l U H S->G l S=.ok ys S2->(acc++ys).length<=Ev.lim->(∀σ3 H3,Xh O A H H3->CI K O A (acc++ys) l σ3 H3 S2->QQ σ3 H3)->te U H QQ
def yL{O ρw:Mx}{A:aB}{Hw:Hp}{w:List D}{J:It}(r:WRel X.K ρw Hw w J)(na:O.n0≠aa A){t:List Nat}{is:List E}{te:TEm}{G:Lc->Zp->R (List D)}{P:Lc->Prop}(em:ZbF X.K O A P te G){l:Lc}(hn:∀i∈t,∀d,l[i]?≠aa (aa d))(hP:∀x l2,Pv.Zk t x l=aa l2->P l2){acc ys:List D}{U:L2.St}{H:Hp}{S S2:Zp}{QQ:L2.St->Hp->Prop}
  (hl:∀H',Xh O A H H'->Lat ρw Hw (O.at A) H')(c:CI X.K O A acc l U H S)(h:Pv.mapP (qz C t is G l) w S=.ok ys S2)(hz:(acc++ys).length<=Ev.lim)(k:∀σ3 H3,Xh O A H H3->CI X.K O A (acc++ys) l σ3 H3 S2->QQ σ3 H3) :
  ∃W:Nat->Nat->L2.St->Hp->Prop,(∃m,W 0 m U H)/\wd J (tGU X.K t) (tB3 X nx<|Pv.pvt C is) te W QQ:=by
 refine#[λn m σ' H'=>m=w.length-n/\n<=w.length/\Xh O A H H'/\∃ac rs S',ac++rs=acc++ys/\Pv.mapP (qz C t is G l) (w.drop n) S'=.ok rs S2/\CI X.K O A ac l σ' H' S',#[w.length,rfl,df _,λ_ _ _ h=>.inl h,acc,ys,S,rfl,h,c],?_]
 rintro n m σ' H' ⟨rfl,hn',ff,ac,rs,S',ea,e',c'⟩
 have lat:=hl H' ff;by_cases hlt:n<w.length
 .right
  rw[ck hlt]at e';obtain⟨y1,S1,r1,q1,q2,rfl⟩:=zX e';obtain⟨go,yl⟩:=r.go n _ S' H' lat c'.st hlt;refine#[go,λx H3 y=>?_]
  obtain⟨f3,st3,rp⟩:=yl x H3 y;have rx:=rp _<|ao hlt;obtain⟨l2,Sa,ha,q1⟩:=UE q1;obtain⟨b,Sb,hb,q1⟩:=UE q1;have hal:Pv.Zk t w[n] l=aa l2/\Sa=S':=by
   cases z:Pv.Zk t w[n] l<;>rw[z]at ha<;>cases ha;exact#[rfl,rfl]
  obtain⟨hal,rfl⟩:=hal;have ff3:=ff.trans<|Xh.of f3;have c3:=c'.mono na f3 st3;refine Zax c3.lr rx hal λσ2 lr2=>#[O.at A,l2,Sa,st3,lr2,?_]
  rw[hb];intro ρ4 H4 b' f4 st4 eb;have eb:b=b':=eb;subst eb;cases f4.eq;have ff4:=ff3.trans<|Xh.of f4;have c4:=c3.mono na f4 st4;cases b with
  |false=>
   rw[T8 aF]at q1 ⊢;cases q1;exact#[w.length-(n+1),eG _ _ hlt,rfl,hlt,ff4,ac,r1,_,ea,q2,c4.st,(lr2.mono f4).back hal hn,c4.ac]
  |true=>
   rw[T9 rfl]at q1 ⊢;refine em ac l2 σ2 H4 Sb y1 S1 _ (hP _ _ hal) #[c4.st,lr2.mono f4,c4.ac] q1 ?_ λσ3 H5 f5 c5=>#[w.length-(n+1),eG _ _ hlt,rfl,hlt,ff4.trans f5,ac++y1,r1,S1,by rw[fI];exact ea,q2,c5.st,c5.lr.back hal hn,c5.ac]
   rw[<-ea]at hz;simp only[aP]at hz ⊢;omega
 .left
  have en:n=w.length:=by omega
  subst en;rw[kl]at e';cases e';rw[cz]at ea;subst ea;exact#[r.stop _ _ H' lat c'.st,k σ' H' ff c']
def Zat{O:Mx}{A:aB}(na:O.n0≠aa A)(ie:E):ZbF X.K O A (λ_=>True) (ZbU (tE X nx<|Pv.pv C ie) A) (λl S=>(Pv.pv C ie l S).bind λy S=>.ok [y] S):=λacc l U H S ys S2 QQ _ c h hz k=>by
 obtain⟨y,S1,hy,h⟩:=UE h;cases h;refine#[O.at A,l,S,c.st,c.lr,?_];rw[hy];intro ρ4 H4 v f4 st4 r4;cases f4.eq;have c4:=c.mono na f4 st4;obtain⟨us,e,r⟩:=c4.ac;rw[aP]at hz;have hz:acc.length+1<=Ev.lim:=hz;have fa:Xh O A H4 (upd H4 A<|.lst<|us++[v]):=λa o n h=>.inl (by rw[Zq n];exact h)
 have lt:=fa.lat e;refine#[us,e,by rw[r.length,<-Y4];omega,k U _ ((Xh.of f4).trans fa) #[#[st4.hk,λb x=>?_,λb x=>?_,st4.tb.upd (λo u z=>by rw[e]at z;cases z) λ_ z=>by cases z],#[c4.lr.len,λi d q=>let #[u,a,b]:=c4.lr.val i d q;#[u,a,b.lat lt]],_,Zu,(r.lat lt).append<|Rq.cons (r4.lat lt) Rq.nil]]
 .by_cases z:b=A
  .rw[z,Zu];intro q;cases q
  .rw[Zq z];exact st4.xd b x
 .rw[Zq λz=>na (by rw[<-z];exact x)];exact st4.dw b x
def ua(st:St3 X.K O S H)(lr:LocR O H l U)(hA:H A=ab):O.n0≠aa A/\CI X.K O A [] l U (upd H A<|.lst []) S/\∀H',Xh O A (upd H A<|.lst []) H'->Fut O H O H'/\Lat O H (O.at A) H':=by
 have ne:∀a,H a≠ab->a≠A:=λa h z=>h<|z▸hA
 have f:∀H',Xh O A (upd H A<|.lst []) H'->Fut O H O H'/\Lat O H (O.at A) H':=λH' g=>by
  have f:Fut O H O H':=#[rfl,λa o h=>g a o (ne a<|by rw[h];intro z;cases z) (by rw[Zq<|ne a (by rw[h];intro z;cases z)];exact h)]
  exact#[f,rfl,rfl,f.lat.keep',λa h x=>x.elim id λz=>T7 z<|ne a h]
 have s:=st.fresh (o:=.lst []) hA;obtain⟨f1,lt⟩:=f _ λ_ _ _ h=>.inl h
 refine#[λz=>st.xd A (O.xz A z) hA,#[#[s.hk,λb x=>x.elim (s.xd b) λz=>(by rw[z,Zu];intro q;cases q),s.dw,s.tb],#[lr.len,λi d q=>let #[u,a,b]:=lr.val i d q;#[u,a,b.lat lt]],[],Zu,Rq.nil],f]
def z8{l:Lc}{cap:List Nat}{nl i:Nat}(h:i<nl)(v:D):(Pv.Z6 cap nl l)[i]?≠aa (aa v):=by
 unfold Pv.Z6;rw[bX (by simpa using h),bP,T9 h]
 intro z;cases z
def wv(f0:Fut O H0 O H)(hA:H A=ab)(st:St3 X.K O S H)(f:Fut O H O H')(c:CI X.K O A ys l U H' S')(h:End X.K nx (XG ag H0) O H Q (.ok (.lst ys) S')):Q (.ref A) H':=by
 obtain⟨us,e,r⟩:=c.ac;have lt:Lat (O.at A) H' O H':=#[rfl,rfl,λ_ _ h _ _ _=>h,λ_ _ x=>.inl x]
 refine h O H' _ f #[c.st.hk,λb x=>c.st.xd b<|.inl x,c.st.dw,c.st.tb] #[Y1 e (st.nx hA)<|r.lat lt,λ_ _ _=>#[A,rfl,f0.new hA st.xd]]
def x6{K:aj}{rep:Mx->Hp->D->V->Prop}{O:Mx}{H:Hp}{Q:VK}{r:R (List D)}(h:End K xw rep O H Q (r.bind λys s=>if ys.length<=Ev.lim then Pv.PR.ok (.lst ys) s else .no).nox):∃ys S,r=.ok ys S/\ys.length<=Ev.lim/\End K nx rep O H Q (.ok (.lst ys) S):=by
 cases r with
 |no=>exact h.elim
 |ex c S=>exact h.elim
 |ok ys S=>
  have h:=End.nox h
  obtain⟨hl,h⟩:=End.guard h;exact#[ys,S,rfl,hl,h]
def JF{is:List E}{ie:E}{cap:List Nat}{nl:Nat}{w:Ev.W}{t:List Nat}{U:L2.St}{H:Hp}{Q:VK}(hyp:tF X xw (Pv.pv C<|.comp1 cap nl t w is ie) U H Q):yS (tW3 X xw<|Pv.pvw C w) (tGU X.K t) (tB3 X nx<|Pv.pvt C is) (tE X nx<|Pv.pv C ie) cap nl U H Q:=by
 obtain⟨O,l,S,st,lr,h⟩:=hyp;rw[Pv.pv]at h;obtain⟨ho,h⟩:=End.guard h;refine#[O,l,S,st,lr,h.bind λwk S1 ρ1 H1 J f1 st1 r1 h1=>λA hA=>?_]
 cases f1.eq;obtain⟨ys,S2,hm,hl,h1⟩:=x6 h1;obtain⟨na,ci,ft⟩:=ua st1 ((lr.mono f1).caught cap nl) hA;exact yL r1 na (Zat na ie) (λi hi d=>z8 (T6<|aL.mp ho i hi) d) (λ_ _ _=>cZ) (λH' f=>(ft H' f).2) ci hm hl λσ3 H3 f3 c3=>wv f1 hA st1 (ft H3 f3).1 c3 h1
def wQ{elt:Expr}{ifs:List Expr}{is:List E}{ie:E}{scope:de}{N:List bc}{cap:List Nat}{nl:Nat}{w:Ev.W}{t:List Nat}(hc:X.calm=ag)(hN:X.N.Nodup)(CSc:CompScope X.env.scope X.N scope N cap nl)(hi:CW X xw C tg it w)
  (hb:∀cl s H fp,CG (cxC X N scope cl s H fp) tg t/\CTs (cxC X N scope cl s H fp) nx C ifs is/\CE (cxC X N scope cl s H fp) nx C elt ie)
  (hs:∀x,cx it X.env x=cb x):CF X xw C (.ListComp elt [#[tg,it,ifs,0]] scope pos) (.comp1 cap nl t w is ie):=.mk <|
 PE.imp (qb (g:=tGU X.K t) (tt:=tB3 X nx<|Pv.pvt C is) (te:=tE X nx<|Pv.pv C ie) hc hN CSc hi.h (λcl s H fp=>have#[a,b,c]:=hb cl s H fp;#[a.h,b.h,c.h]) hs) λU H Q hyp=>JF hyp
def wP{fr:Bool}{ns:List Nat}{elt:Expr}{ifs:List Expr}{is:List E}{ie:E}{scope:de}{N:List bc}{cap:List Nat}{nl:Nat}{w:Ev.W}{t:List Nat}{n:Nat}{y:bc}{spos py:fA}(hc:X.calm=ag)(hN:X.N.Nodup)(CSc:CompScope X.env.scope X.N scope N cap nl)(hi:CW X xw C tg it w)
  (hb:∀cl s H fp,CG (cxC X N scope cl s H fp) tg t/\CTs (cxC X N scope cl s H fp) nx C ifs is/\CE (cxC X N scope cl s H fp) nx C elt ie)
  (hsw:gR (.ListComp elt [#[tg,it,ifs,0]] scope pos) (aa<|.Name y py) spos.line X.env=cb ag)
  (hy:X.N[n]?=aa y)(hx:L2.Loc X.env.scope y)(hf:X.fn y=ag\/X.env.scope.names.lookup y=aa .local)
  (hs:∀x,cx it X.env x=cb x):CS X xw fr C ns (.Assign [.Name y py] (.ListComp elt [#[tg,it,ifs,0]] scope pos) spos) (.asg [n]<|.comp1 cap nl t w is ie):=.mk <|
 PS.imp (vi (g:=tGU X.K t) (tt:=tB3 X nx<|Pv.pvt C is) (te:=tE X nx<|Pv.pv C ie) hc hN CSc hi.h (λcl s H fp=>have#[a,b,c]:=hb cl s H fp;#[a.h,b.h,c.h]) hsw hy hx hf hs)<|by rintro D U H ⟨O,H0,W,l,os,S,st,en,h⟩;exact JF<|Zbz st en h
end
theorem LocR.start(r:Rq O H ds vs)(N:List bc)(n:Nat)(hn:n=N.length):LocR O H (Pv.ZM n ds) (L2.start N vs):=by
 subst hn;have hl:=r.length;refine#[by unfold Pv.ZM L2.start;simp[hl],λi d e=>?_]
 unfold Pv.ZM at e;by_cases hi:i<ds.length
 .rw[bX (by simpa using hi),aV]at e
  cases q:ds[i]? with
  |none=>rw[q]at e;cases e
  |some d'=>
   rw[q]at e;cases e;obtain⟨v,hv,r'⟩:=r.get q;refine#[v,?_,r'];unfold L2.start;rw[bX (by simp;lia),aV,hv]
   rfl
 .rw[cj (by simp;lia),bP]at e
  split at e<;>cases e
theorem Eu.start{K:aj}{O:Mx}{H:Hp}{S:Zp}{ds:List D}{vs:List V}(st:St3 K O S H)(r:Rq O H ds vs)(N:List bc)(n:Nat)(hn:n=N.length):Eu O H (λ_=>ab) (Pv.ZM n ds) [] (L2.start N vs) H:=by
 have lr:=LocR.start r N n hn;refine#[Fut.refl _ _,st.xd,lr.len,λ_=>rfl,λ_ _ _ h=>?_,λ_ _ h=>?_,λ_ _ h=>?_,λi d e _=>?_]
 .cases h
 .cases h
 .cases h
 .obtain⟨v,a,b⟩:=lr.val i d e
  exact#[v,a,Rep.lat (O:=O) (ρ':=O.ex λ_=>ab) #[rfl,rfl,λ_ _ h _ _ _=>h,λ_ _ x=>Or.elim x id λ#[_,z]=>by cases z] b]
section
variable{P:br}{w:bK}{K:aj}{mg:bc->Option am}{base:bJ}
noncomputable def QS(C:Calls)(fn:Fn)(ds:List D)(S:Zp):R D:=if ds.length=fn.ps then(Pv.rvs C (Pv.muts fn.body) fn.body (Pv.ZM fn.ns ds) [] S).bind λf S=>match f with
  |.ret x=>.ok x S
  |.nx _ _=>.ok .non S
  |_=>.no
 else .no
def xL{C:Calls}{fn:Fn}{fr:Bool}{xw:Nat->Hp->Prop}{O:Mx}{H:Hp}{ds:List D}{S:Zp}{Q:VK}{E:L2.Ends}(hE:∀v H',Q v H'->E.rt v H')(hN:∀U H',Q .non H'->E.nx U H')(h:End K xw (XG fr H) O H Q (QS C fn ds S)):Zw fr K xw O H E (Pv.rvs C (Pv.muts fn.body) fn.body (Pv.ZM fn.ns ds) [] S):=by
 obtain⟨_,h⟩:=End.guard h;cases q:Pv.rvs C (Pv.muts fn.body) fn.body (Pv.ZM fn.ns ds) [] S with
 |no=>rw[q]at h;exact h
 |ex c S2=>rw[q]at h;exact λH' f st=>h O H' f st
 |ok fl S2=>
  rw[q]at h;cases fl with|ret x=>exact λH' v f st r=>hE v H'<|h O H' v f st r|nx l os=>exact λH' σ' W' st en=>hN σ' H'<|h O H' .non en.fut st #[GD,λ_ _ z=>by cases z]|brk l os=>exact False.elim h|cnt l os=>exact False.elim h
def wR{C C':Calls}{n:Nat}{fn:Fn}{fr:Bool}{x qual:bc}{st:dG}{f:aB}{fd:bW}{N ps:List bc}{k:Nat}(hF:∀O S H ds vs,St3 K O S H->Rq O H ds vs->C' n ds S=.no\/C' n ds S=QS C fn ds S)(hns:fn.ns=N.length)(hps:fn.ps=ps.length)(Fu:Fun K x qual st f fd)(S:FnScope N ps (Zy st))
  (hb:∀(cdv:am)(A:cg)(outer:List Env)(s:au)(H:Hp)(E:XK),Room k (A.deeper<|fc qual (Zy st) s.heap.objs.size f cdv)->
   CSs (QR CX0 P w K mg base N qual (Zy st) f cdv A outer s H E).nox (λ_ _=>False) fr C (Pv.muts fn.body) (Yg st) fn.body) :
  FnOk P w K mg base CX0 (k+1) f fd ps (spF K C' fr n):=by
 have eq:∀{O S H ds vs Q},St3 K O S H->Rq O H ds vs->End K (λ_ _=>False) (XG fr H) O H Q (C' n ds S)->End K (λ_ _=>False) (XG fr H) O H Q (QS C fn ds S):=λ{O S H ds vs Q} st r h=>by
  rcases hF O S H ds vs st r with e|e
  .rw[e]at h;exact h.elim
  .rw[e]at h;exact h
 refine Fu.ok S (λvs H Q E #[O,ds,S,st,r,h]=>?_) λcdv A outer s H vs Q E hr #[O,ds,S',st,r,h]=>#[_,(hb cdv A outer s H E hr).h,O,H,λ_=>ab,Pv.ZM fn.ns ds,[],S',st,Eu.start st r N fn.ns hns,xL (λ_ _ q=>q) (λ_ _ q=>q)<|eq st r h]
 have h:=eq st r h;unfold QS at h;obtain⟨hl,_⟩:=End.guard h;rw[r.length,hl,hps]
def GQ{F:List Fn}{tk n k:Nat}{fr:Bool}{f:aB}{fd:bW}{ps:List bc}:FnOk P w K mg base CX0 k f fd ps (spF K (Pv.Zl F tk 0) fr n):=
 #[λvs H Q E #[O,ds,S,st,r,h]=>False.elim h,by rintro A outer s H args us vs Q E hr e0 hb r ⟨O,ds,S,st,r',h⟩;exact False.elim h]
end
section
variable{prog:br}{w:bK}{A:cg}{E:am->au->Prop}{s:au}
theorem zK(n:Nat):bH ((n:Int)-1) (-1) (-1)=n:=by
 unfold bH;have h1:¬((-1:Int)>0):=by decide
 rw[T8 h1];by_cases h:(n:Int)-1 > -1
 .rw[T9 h,show(- -1:Int)=1 by decide,Int.ediv_one]
  lia
 .rw[T8 h]
  lia
def Wm{sl:aB}{vk:am}{n:Nat}{Q:Int×Int×Nat->au->Prop}(hs:s.heap.IsSliceOf sl .none .none vk)(pk:fg vk (aa<|-1))
  (h:Q ((n:Int)-1,-1,n) s):aS (ba prog w) A (fj (.ref sl)<|cb (n:Int)) Q E s:=by
 obtain⟨os,hos,hcs,hds⟩:=id hs;refine af<|af<|bF hos hds rfl<|af<|bF hos hds rfl<|af<|bF hos hds rfl<|ay ?_;refine af<|HT.XV pk ?_;show aS _ _ (if((-1:Int) == 0)=ag then _ else _) _ _ s
 rw[T8 (by decide)]
 refine af<|fh<|af<|fh<|af<|ay ?_;show aS _ _ (cb ((n:Int)-1,(-1:Int),bH ((n:Int)-1) (-1)<|-1)) _ _ s;rw[zK];exact ay h
theorem xH(xs:Array am):((aY xs.size).filterMap λ(k:Nat)=>xs[((xs.size:Int)-1+(k:Int) * -1).toNat]?).toArray=xs.toList.reverse.toArray:=by
 congr 1
 have e:(aY xs.size).filterMap (λ(k:Nat)=>xs[((xs.size:Int)-1+(k:Int) * -1).toNat]?)=((aY xs.size).map λk=>xs.size-1-k).filterMap (xs[·]?):=by
  rw[ik]
  congr 1
  funext k
  have:((xs.size:Int)-1+(k:Int) * -1).toNat=xs.size-1-k:=by lia
  rw[this];rfl
 rw[e,PySem.W.krv_range,List.filterMap_reverse,PySem.W.krv_all]
def X5{Q:am->au->Prop}(ht:iA s.heap t items)(hs:s.heap.IsSliceOf sl .none .none vk)(pk:fg vk (aa<|-1))
  (h:Q (.ref s.heap.objs.size) {s with heap:=s.heap.push {cls:=.type "tuple",data:=.seq items.toList.reverse.toArray}})
  (hsz:items.size<=aQ):aS (ba prog w) A (fG (.ref t)<|.ref sl) Q E s:=by
 have htake:sizeOk (.seq items.toList.reverse.toArray):=by
  show items.toList.reverse.toArray.size<=aQ;rw[aq,c7,dH];exact hsz
 obtain⟨os,hos,hcs,hds⟩:=id hs;have hTs:s.TypeIs (.ref sl) "slice":=#[os,hos,hcs];unfold fG
 try with_reducible refine bS ?_
 first|refine af<|ay ?_|skip
 refine af<|fH ht.typeIs (by decide) ?_
 refine af (bQ ht.typeIs bz
  (cH bz ht.typeIs eS ?_<|fk _ _))
 show aS _ _ (dz (.ref t) >>= _) _ _ s;refine af<|g8 ht ?_;refine af<|dD hTs ?_;rw[T9 (by decide)]
 refine af<|Wm hs pk ?_;have hno:¬(((items.size:Int)-1 == 0&&(-1:Int) == 1&&items.size == items.size)=ag):=by
  intro q;rw[ax,ax]at q;exact T7 q.1.2 (by decide)
 show aS _ _ (if((items.size:Int)-1 == 0&&(-1:Int) == 1&&items.size == items.size)=ag then _ else _) _ _ s
 rw[T8 hno,xH]
 first
  |exact af<|bo (ay #[_,rfl,ay h]) htake
  |exact af<|bo (af<|ay<|ay #[_,rfl,ay h]) htake
  |exact af<|af<|bo (ay<|ay #[_,rfl,ay h]) htake
  |exact af<|af<|bo (ay #[_,rfl,ay h]) htake
end
section
variable{X:Cx}{xw:Nat->Hp->Prop}{C:Calls}{e a b c tg it:Expr}{i j k:E}{pos p p' p2 p3:fA}{q1:Option bc}
def ZaE{e1:Expr}(ha:CE X xw C a i)(h1:CE X xw C e1 (.neg<|.c<|.int 1)):CE X xw C (.Subscript a (.Slice ab ab (aa e1) p2) pos) (.rev i):=.mk <| by
 intro pq s U H Q I hq;obtain⟨O,l,S,st,lr,h⟩:=hq;have h':=h
 refine kP<|thn (ha.h pq s U H (λx H1=>∃ρ1 S1 d,St3 X.K ρ1 S1 H1/\LocR ρ1 H1 l U/\Rep ρ1 H1 d x/\End X.K xw Rep ρ1 H1 Q (Pv.po (Pv.ZbB d) S1)) I #[O,l,S,st,lr,h'.bind λd S1 ρ1 H1 v f1 st1 r1 h1=>#[ρ1,S1,d,st1,lr.mono f1,r1,h1]]) λv s1 #[x,H1,I1,r1,ρ1,S1,d,st1,lr1,rd,h2]=>?_
 refine wpAny_Slice ?_;rw[g9];refine ay<|ay ?_;rw[evalPart_some];refine thn (h1.h pq s1 U H1 (λy H2=>y=.int (-1)/\∃ρ2,Fut ρ1 H1 ρ2 H2/\St3 X.K ρ2 S1 H2) I1 #[ρ1,l,S1,st1,lr1,λρ2 H2 y f2 st2 ry=>#[ry.int',ρ2,f2,st2]]) λvk s2 #[y,H2,I2,ry,ey,ρ2,f2,st2]=>?_
 subst ey;obtain⟨t,rfl⟩:=ry;have rd2:=rd.mono f2;have h3:=End.mono f2 h2;cases d with
 |tup ds=>
  obtain⟨q,xs,rfl,hp,rs⟩:=rd2.tup';cases r1;have I4:Inv X pq U H2 {s2 with heap:=s2.heap.push {cls:=.type "slice",data:=.fields [.none,.none,.int (-1) t].toArray}}:=I2.kept (t':=s2.toks) λb ob q=>ap _ q
  obtain⟨its,r,ht,hz⟩:=I4.tuple<|SqT.of hp;have hlen:its.toArray.size=xs.length:=by rw[aq];exact r.length.symm
  refine tail_any ht.typeIs bz.lookup ?_ (by with_unfolding_all rfl)
  refine X5 ht (im ..) (fg.int _ _) ?_ (by rw[hlen];exact hz)
  refine#[.ref _,_,I4.laid (t':=s2.toks) (o:=.tup xs.reverse) (λb ob q=>ap _ q) (aD _) #[by rw[c7];exact hz,_,r.reverse,ej _ _],rfl,h3.newT st2 rs.reverse _<|I4.hok.fresh<|aD _]
 |_=>exact False.elim h3
end
def Jl{a b c}:aE (.Constant a b c::es) env=(ai,b9 (.Constant a b c) env)::aE es env:=rfl
def GY{a b}:aE (.Name a b::es) env=(ai,b9 (.Name a b) env)::aE es env:=rfl
def yR{a b c}:aE (.Tuple a b c::es) env=(ai,b9 (.Tuple a b c) env)::aE es env:=rfl
def xX{a b}:aE (.List a b::es) env=(ai,b9 (.List a b) env)::aE es env:=rfl
def GE{a b c}:aE (.Dict a b c::es) env=(ai,b9 (.Dict a b c) env)::aE es env:=rfl
def wW{a b c d}:aE (.BinOp a b c d::es) env=(ai,b9 (.BinOp a b c d) env)::aE es env:=rfl
def qG{a b c}:aE (.UnaryOp a b c::es) env=(ai,b9 (.UnaryOp a b c) env)::aE es env:=rfl
def yG{a b c}:aE (.Subscript a b c::es) env=(ai,b9 (.Subscript a b c) env)::aE es env:=rfl
def G2{a b c d}:aE (.Call a b c d::es) env=(ai,b9 (.Call a b c d) env)::aE es env:=rfl
def GK{a b c d}:aE (.ListComp a b c d::es) env=(ai,b9 (.ListComp a b c d) env)::aE es env:=rfl
def YT:List eX->List (Int×Int)->Prop
 |[],[]=>True
 |e::r,(k,j)::q=>(∃t,e.key=.int k t)/\e.hash=hashInt k/\(∃u,e.val=.int j u)/\YT r q
 |_,_=>False
theorem YT.mem :∀{es:List eX}{tab:List (Int×Int)},YT es tab->∀e∈es,∃k,(eV P w).is k e.key=ag/\e.hash=(eV P w).hash k
 |[],_,_,e,h=>by cases h
 |e::r,[],h,_,_=>h.elim
 |e::r,(k,j)::q,h,x,hx=>by
  obtain⟨⟨t,h1⟩,h2,_,h4⟩:=h;rcases ar.mp hx with rfl|hx
  .exact#[k,by rw[h1];exact intKind_is P w k t,h2]
  .exact YT.mem h4 x hx
theorem YT.find(k:Int):∀{es:List eX}{tab:List (Int×Int)},YT es tab->(tab.lookup k=ab->(es.find? λe=>(eV P w).is k e.key)=ab)/\∀j,tab.lookup k=aa j->∃e t,(es.find? λe=>(eV P w).is k e.key)=aa e/\e.val=.int j t
 |[],[],_=>#[λ_=>rfl,λj h=>by cases h]
 |[],_::_,h=>h.elim
 |e::r,[],h=>h.elim
 |e::r,(k',j')::q,h=>by
  obtain⟨⟨t,h1⟩,h2,⟨u,h3⟩,h4⟩:=h;obtain⟨i1,i2⟩:=YT.find k h4;rw[bj,cS];have hd:(eV P w).is k e.key=ae (k=k'):=KeyKind.is_eq_decide (by rw[h1];exact intKind_is P w k' t) k
  rw[hd];by_cases z:k=k'
  .subst z
   rw[beq_self_eq_true,T5 rfl];exact#[λz=>(by cases z),λj z=>(by cases z;exact#[e,u,rfl,h3])]
  .rw[beq_eq_false_iff_ne.mpr z,T4 z]
   exact#[i1,i2]
def vN{P:br}{w:bK}{K:aj}{a:aB}{es:Array eX}{n:Nat}{tab:List (Int×Int)}(hl:K.lookup a=aa #[.type "dict",ab,.dict es n,#[]])(ht:YT es.toList tab)(ha:(a == cm)=ai):Zba P w K a tab:=by
 refine#[ha,λk=>findBy (eV P w).is es k,λh X=>#[_,es,n,X _ _ hl,#[rfl,rfl,rfl],rfl,λe he=>ht.mem e<|gG.mpr he,λ_=>rfl],λk=>?_]
 obtain⟨l⟩:=es;obtain⟨i1,i2⟩:=YT.find k ht;refine#[λz=>?_,λj z=>?_]
 .show((l.toArray.find? λe=>(eV P w).is k e.key).map (·.val))=ab
  rw[iu,i1 z];rfl
 .obtain⟨e,t,q1,q2⟩:=i2 j z
  refine#[t,?_];show((l.toArray.find? λe=>(eV P w).is k e.key).map (·.val))=_
  rw[iu,q1];exact congrArg aa q2
def hu7(hr:Room k A):A.units+7<cI:=Nat.lt_of_le_of_lt (by lia) hr.un
def yY{K:aj}{C:Calls}{n:Nat}{H:Hp}{a:aB}{ns:List Int}(hO:Only H)(hS:SqL K H a (ns.map V.int))(h:∀s,∃S',C n [.scr ns] s=.ok (.bl ag) S'):spF K C ai n [.ref a] H (λv _=>v=.bl ag) λ_ _ _=>False:=by
 obtain⟨S',e⟩:=h (0,ai);have sc:Scr K H a ns:=by
  rcases hS with(hS|hS)|hS
  .rcases hO a with z|⟨o,xs,z⟩
   .rw[z]at hS;cases hS
   .rw[z]at hS;cases hS
  .exact .inl hS
  .exact .inr hS
 refine#[#[K,ab,λ_=>False,λ_ h=>by cases h],[.scr ns],(0,ai),#[rfl,λ_ h=>h.elim,λ_ h=>(by cases h),λP ps e=>by rcases hO P with z|⟨_,_,z⟩<;>(rw[z]at e;cases e)],Rq.cons (by unfold Rep;exact#[a,rfl,sc]) Rq.nil,?_]
 rw[e];exact λρ' H' v _ _ r=>r.1.bl'
end Sd
namespace Sd
open PySem PySem.Spec PyProof.Rows L2
def Src(b:Bool)(h:bJ)(it l:aB)(k:Nat):Prop:=match b with
 |true=>h.IsListIter it l k
 |false=>h.IsTupleIter it l k
def Yu(b:Bool)(h:bJ)(l:aB)(xs:Array am):Prop:=match b with
 |true=>h.IsList l xs
 |false=>h.IsTuple l xs
def Src.ext(x:Src b h it l k)(e:fM c h h')(n:it≠c):Src b h' it l k:=by
 cases b
 .exact bJ.IsTupleIter.extBut x e n
 .exact bJ.IsListIter.extBut x e n
def Src.keep(x:Src b h it l k)(e:∀o,h.get? it=aa o->h'.get? it=aa o):Src b h' it l k:=by
 cases b
 .obtain⟨o,ho,r⟩:=x;exact#[o,e o ho,r]
 .obtain⟨o,ho,r⟩:=x;exact#[o,e o ho,r]
def Src.obj(x:Src b h it l k):∃o,h.get? it=aa o/\∀v,o.data≠.cell v:=by
 cases b
 .obtain⟨o,ho,_,d⟩:=x;exact#[o,ho,λv z=>by rw[d]at z;cases z]
 .obtain⟨o,ho,_,d⟩:=x;exact#[o,ho,λv z=>by rw[d]at z;cases z]
def Yu.keep(x:Yu b h l xs)(e:∀o,h.get? l=aa o->h'.get? l=aa o):Yu b h' l xs:=by
 cases b
 .obtain⟨o,ho,r⟩:=x;exact#[o,e o ho,r]
 .obtain⟨o,ho,r⟩:=x;exact#[o,e o ho,r]
def yM{Q:am->au->Prop}(hit:s.heap.IsTupleIter it t i)(ht:s.heap.IsTuple t items)(hx:items[i]?=aa x)
  (hQ:∀h',h'.IsTupleIter it t (i+1)->dB it s.heap h'->Q x {s with heap:=h' }):aS (ba prog w) A (cP<|.ref it) Q E s:=by
 obtain⟨o,ho,hc,hd⟩:=id hit;obtain⟨ol,hol,_,nl,hdl⟩:=ht;refine af<|bQ hit.typeIs cJ<|cH cJ hit.typeIs eW ?_<|eN _;show aS _ _ (field (.ref it) 0 >>= _) _ _ s;refine af<|bF ho hd rfl ?_;show aS _ _ (if(bO t == eY)=ag then _ else _) _ _ s
 rw[T8 (by exact aF)];refine af<|bF ho hd rfl ?_
 refine af<|cK hol hdl ?_;simp only[dr,hx];refine af<|wpAny_setField ho hd (by simp)<|ay #[x,rfl,ay<|hQ _ #[_,ee _ ho<|gB<|fw hd _,(iT ..).trans hc,?_]<|eT ..]
 rw[fw hd];simp[f8]
def Qr{Q:am->au->Prop}(hh:A.handled=ab)(hit:s.heap.IsTupleIter it t i)(ht:s.heap.IsTuple t items)(hx:items[i]?=ab)
  (hE:∀h' e,fM it s.heap h'->(∃o,h'.get? e=aa o/\o.cls=.type "StopIteration")->E (.ref e) {s with heap:=h' }):aS (ba prog w) A (cP<|.ref it) Q E s:=by
 obtain⟨o,ho,hc,hd⟩:=id hit;obtain⟨ol,hol,_,nl,hdl⟩:=ht;refine af<|bQ hit.typeIs cJ<|cH cJ hit.typeIs eW ?_<|eN _;show aS _ _ (field (.ref it) 0 >>= _) _ _ s;refine af<|bF ho hd rfl ?_;show aS _ _ (if(bO t == eY)=ag then _ else _) _ _ s
 rw[T8 (by exact aF)];refine af<|bF ho hd rfl ?_
 refine af<|cK hol hdl ?_;simp only[dr,hx];refine af<|dv<|af<|wpAny_setField ho hd (by simp) ?_;show aS _ _ (newExc (.type "StopIteration") [] >>= _) _ _ _
 refine af ?_;simp only[newExc,newTuple];refine af<|bo ?_ (by size_fits)
 refine af (wpAny_of_eq (by first|rfl|(simp only[firstArgMember];rfl))<|bo ?_ (by size_fits))
 simp only[raiseNew];refine af<|wpAny_handled ?_;first|rw[hh]|rw[hh]
 exact af<|ay<|wpAny_throw<|hE _ _ (((eT ..).extBut.push _).push _) #[_,aH _ rfl,rfl]
def X6{Q:am->au->Prop}(hit:Src b s.heap it l k)(hl:Yu b s.heap l xs)(hx:xs[k]?=aa x)
  (hQ:∀h',Src b h' it l (k+1)->dB it s.heap h'->Q x {s with heap:=h' }):aS (ba prog w) A (cP<|.ref it) Q E s:=by
 cases b
 .exact yM hit hl hx hQ
 .exact wpAny_nextOf_list_item hit hl hx hQ
def Qk{Q:am->au->Prop}(hh:A.handled=ab)(hit:Src b s.heap it l k)(hl:Yu b s.heap l xs)(hx:xs[k]?=ab)
  (hE:∀h' e,fM it s.heap h'->(∃o,h'.get? e=aa o/\o.cls=.type "StopIteration")->E (.ref e) {s with heap:=h' }):aS (ba prog w) A (cP<|.ref it) Q E s:=by
 cases b
 .exact Qr hh hit hl hx hE
 .exact wpAny_nextOf_list_end hh hit hl hx hE
noncomputable def Yj(b:Bool)(l:aB):dJ:={cls:=.type (if b then "list_iterator" else "tuple_iterator"),data:=.fields [.ref l,.int 0 0].toArray}
def Vn{Q:am->au->Prop}(hl:Yu b s.heap l xs)(h:Q (.ref s.heap.objs.size) {s with heap:=s.heap.push (Yj b l)}):aS (ba prog w) A (pyIter<|.ref l) Q E s:=by
 cases b
 .exact dU hl h
 .exact dq hl h
structure ZipSt(b1 b2:Bool)(z TI TO i1 i2 l1 l2:aB)(k:Nat)(f0:am)(h:bJ):Prop where
 zp:kD h z TI TO f0
 ti:gl h TI (.ref i1) (.ref i2)
 to:∃a b,gl h TO a b
 s1:Src b1 h i1 l1 k
 s2:Src b2 h i2 l2 k
def wl{b1 b2:Bool}{z TI TO i1 i2 l1 l2:aB}{k:Nat}{xs ys:Array am}{x y:am}{Q:am->au->Prop}(D:gI z TI TO i1 i2 l1 l2)(Z:ZipSt b1 b2 z TI TO i1 i2 l1 l2 k .none s.heap)(hl1:Yu b1 s.heap l1 xs)(hl2:Yu b2 s.heap l2 ys)(hx:xs[k]?=aa x)(hy:ys[k]?=aa y)
  (hQ:∀h',ZipSt b1 b2 z TI TO i1 i2 l1 l2 (k+1) (f8 s.heap.objs.size) h'->gl h' s.heap.objs.size x y->(∀c o,c∉[z,TO,i1,i2]->s.heap.get? c=aa o->h'.get? c=aa o)->Q (.ref s.heap.objs.size) {s with heap:=h' }) :
  aS (ba prog w) A (dR.«zip.__next__» #[[.ref z],[]]) (λfin s'=>∃v,fin=.done (.ret v)/\Q v s') E s:=by
 obtain⟨hz,hTI,⟨a,b,hTO⟩,h1,h2⟩:=Z;show aS _ _ (field (.ref z) 2 >>= _) _ _ _;refine af<|bF hz rfl (x:=.bool ai) rfl ?_;refine af<|bF hz rfl (x:=.ref TI) rfl<|af<|cK hTI rfl ?_;refine af ?_;refine af<|bF hz rfl (x:=.none) rfl<|ay ?_;simp only[if_true];refine af<|dv<|af<|bF hz rfl (x:=.ref TO) rfl<|af<|cL hz (by simp) λh₁ hz₁ hs₁=>?_
 replace hz₁:kD h₁ z TI TO .ellipsis:=by exact hz₁
 refine af ?_;simp only[ko,kH,gw,kW];refine af<|af<|fR ?_;refine af<|X6 (h1.ext hs₁.extBut D.i1z) (hl1.keep λo e=>hs₁.extBut _ o D.l1z e) hx λh₂ h1₂ hs₂=>ay ?_
 have hTO₂:gl h₂ TO a b:=by exact hs₂.extBut _ _ D.TOi1<|hs₁.extBut _ _ D.TOz hTO
 refine af<|cK hTO₂ rfl<|af<|eI hTO₂ λh₃ hTO₃ hs₃=>?_
 replace hTO₃:gl h₃ TO x b:=by exact hTO₃
 refine af<|kE<|ay<|af<|af<|fR ?_;have to3:∀c o,c≠z->c≠TO->c≠i1->s.heap.get? c=aa o->h₃.get? c=aa o:=λc o c1 c2 c3 e=>hs₃.extBut _ _ c2<|hs₂.extBut _ _ c3<|hs₁.extBut _ _ c1 e
 refine af<|X6 (h2.keep λo e=>to3 _ o D.i2z D.TOi2.symm D.i12.symm e) (hl2.keep λo e=>to3 _ o D.l2z D.l2TO D.l2i1 e) hy λh₄ h2₄ hs₄=>ay ?_
 have hTO₄:gl h₄ TO x b:=by exact hs₄.extBut _ _ D.TOi2 hTO₃
 refine af<|cK hTO₄ rfl<|af<|eI hTO₄ λh₅ hTO₅ hs₅=>?_
 replace hTO₅:gl h₅ TO x y:=by exact hTO₅
 refine af<|kE<|ay<|ay<|af<|cK hTO₅ rfl<|af<|wpAny_newTuple ?_;have hsz:h₅.objs.size=s.heap.objs.size:=by rw[hs₅.1,hs₄.1,hs₃.1,hs₂.1,hs₁.1]
 have to5:=λc o c1 c2 c3 c4 e=>hs₅.extBut _ _ c2<|hs₄.extBut _ _ c4<|to3 c o c1 c2 c3 e
 have hz₅:kD h₅ z TI TO .ellipsis:=by exact hs₅.extBut _ _ D.TOz.symm<|hs₄.extBut _ _ D.i2z.symm<|hs₃.extBut _ _ D.TOz.symm<|hs₂.extBut _ _ D.i1z.symm hz₁
 have h1₅:Src b1 h₅ i1 l1 (k+1):=((h1₂.ext hs₃.extBut D.TOi1.symm).ext hs₄.extBut D.i12).ext hs₅.extBut D.TOi1.symm;have h2₅:Src b2 h₅ i2 l2 (k+1):=h2₄.ext hs₅.extBut D.TOi2.symm;have zl:z<h₅.objs.size:=aC hz₅;refine af ?_;have hz₆:kD (h₅.push {cls:=.type "tuple",data:=.seq [x,y].toArray}) z TI TO .ellipsis:=by exact ap _ hz₅
 refine af<|cL hz₆ (by simp) λh₇ hz₇ hs₇=>?_
 replace hz₇:kD h₇ z TI TO (f8 h₅.objs.size):=by exact hz₇
 refine cL hz₇ (by simp) λh₈ hz₈ hs₈=>ay #[_,rfl,?_]
 replace hz₈:kD h₈ z TI TO (f8 h₅.objs.size):=by exact hz₈
 have up:∀c o,c≠z->h₅.get? c=aa o->h₈.get? c=aa o:=λc o c1 e=>by exact hs₈.extBut _ _ c1<|hs₇.extBut _ _ c1<|ap _ e
 have hT₈:gl h₈ h₅.objs.size x y:=by exact hs₈.extBut _ _ (dY zl)<|hs₇.extBut _ _ (dY zl)<|aH _ rfl
 show Q (.ref h₅.objs.size) _;rw[hsz]at hz₈ hT₈ ⊢;refine hQ h₈ #[hz₈,up _ _ D.TIz<|to5 _ _ D.TIz D.TITO D.TIi1 D.TIi2 hTI,#[x,y,up _ _ D.TOz hTO₅],h1₅.keep λo e=>up _ o D.i1z e,h2₅.keep λo e=>up _ o D.i2z e] hT₈ λc o hc e=>?_
 simp only[ar,aR,or_false,not_or]at hc;exact up c o hc.1<|to5 c o hc.1 hc.2.1 hc.2.2.1 hc.2.2.2 e
def V0{b1 b2:Bool}{z TI TO i1 i2 l1 l2:aB}{k:Nat}{xs ys:Array am}{Q:Fin->au->Prop}(hh:A.handled=ab)(D:gI z TI TO i1 i2 l1 l2)(Z:ZipSt b1 b2 z TI TO i1 i2 l1 l2 k .none s.heap)(hl1:Yu b1 s.heap l1 xs)(hl2:Yu b2 s.heap l2 ys)(hend:xs[k]?=ab\/ys[k]?=ab)
  (hE:∀h' e,(∀c o,c∉[z,TO,i1,i2]->s.heap.get? c=aa o->h'.get? c=aa o)->(∃o,h'.get? e=aa o/\o.cls=.type "StopIteration")->E (.ref e) {s with heap:=h' }) :
  aS (ba prog w) A (dR.«zip.__next__» #[[.ref z],[]]) Q E s:=by
 obtain⟨hz,hTI,⟨a,b,hTO⟩,h1,h2⟩:=Z;have hk:∀{c:aB},c∉[z,TO,i1,i2]->c≠z/\c≠TO/\c≠i1/\c≠i2:=λhc=>by
  simp only[ar,aR,or_false,not_or]at hc;exact hc
 show aS _ _ (field (.ref z) 2 >>= _) _ _ _;refine af<|bF hz rfl rfl ?_;refine af<|bF hz rfl (x:=.ref TI) rfl<|af<|cK hTI rfl ?_;refine af ?_;refine af<|bF hz rfl (x:=.none) rfl<|ay ?_;simp only[if_true];refine af<|dv<|af<|bF hz rfl (x:=.ref TO) rfl<|af<|cL hz (by simp) λh₁ hz₁ hs₁=>?_
 replace hz₁:kD h₁ z TI TO .ellipsis:=by exact hz₁
 refine af ?_;simp only[ko,kH,gw,kW];refine af<|af<|fR ?_;have l1₁:=hl1.keep λo e=>hs₁.extBut _ o D.l1z e
 cases hx:xs[k]? with
 |none=>
  refine af<|Qk hh (h1.ext hs₁.extBut D.i1z) l1₁ hx λh₂ e hs₂ he=>?_
  obtain⟨oe,hoe,hce⟩:=he;have hz₂:kD h₂ z TI TO .ellipsis:=by exact hs₂ _ _ D.i1z.symm hz₁
  have hez:e≠z:=λx=>by subst x;rw[hz₂]at hoe;cases hoe;simp at hce
  exact cL hz₂ (by simp) λh₃ _ hs₃=>hE h₃ e (λc o hc x=>hs₃.extBut _ _ (hk hc).1<|hs₂ _ _ (hk hc).2.2.1<|hs₁.extBut _ _ (hk hc).1 x) #[oe,hs₃.extBut _ _ hez hoe,hce]
 |some x=>
  have hy:ys[k]?=ab:=by rcases hend with q|q;rw[hx]at q;cases q;exact q
  refine af<|X6 (h1.ext hs₁.extBut D.i1z) l1₁ hx λh₂ h1₂ hs₂=>ay ?_
  have hTO₂:gl h₂ TO a b:=by exact hs₂.extBut _ _ D.TOi1<|hs₁.extBut _ _ D.TOz hTO
  refine af<|cK hTO₂ rfl<|af<|eI hTO₂ λh₃ hTO₃ hs₃=>?_
  refine af<|kE<|ay<|af<|af<|fR ?_;have to3:∀c o,c≠z->c≠TO->c≠i1->s.heap.get? c=aa o->h₃.get? c=aa o:=λc o c1 c2 c3 e=>hs₃.extBut _ _ c2<|hs₂.extBut _ _ c3<|hs₁.extBut _ _ c1 e
  refine af<|Qk hh (h2.keep λo e=>to3 _ o D.i2z D.TOi2.symm D.i12.symm e) (hl2.keep λo e=>to3 _ o D.l2z D.l2TO D.l2i1 e) hy λh₄ e hs₄ he=>?_
  obtain⟨oe,hoe,hce⟩:=he;have hz₄:kD h₄ z TI TO .ellipsis:=by exact hs₄ _ _ D.i2z.symm<|hs₃.extBut _ _ D.TOz.symm<|hs₂.extBut _ _ D.i1z.symm hz₁
  have hez:e≠z:=λx=>by subst x;rw[hz₄]at hoe;cases hoe;simp at hce
  exact cL hz₄ (by simp) λh₅ _ hs₅=>hE h₅ e (λc o hc x=>hs₅.extBut _ _ (hk hc).1<|hs₄ _ _ (hk hc).2.2.2<|to3 c o (hk hc).1 (hk hc).2.1 (hk hc).2.2.1 x) #[oe,hs₅.extBut _ _ hez hoe,hce]
def J5{b1 b2:Bool}{z TI TO i1 i2 l1 l2:aB}{k:Nat}{xs ys:Array am}{x y:am}{Q:Option am->au->Prop}(D:gI z TI TO i1 i2 l1 l2)(Z:ZipSt b1 b2 z TI TO i1 i2 l1 l2 k .none s.heap)(hl1:Yu b1 s.heap l1 xs)(hl2:Yu b2 s.heap l2 ys)(hx:xs[k]?=aa x)(hy:ys[k]?=aa y)
  (hQ:∀h',ZipSt b1 b2 z TI TO i1 i2 l1 l2 (k+1) (f8 s.heap.objs.size) h'->gl h' s.heap.objs.size x y->(∀c o,c∉[z,TO,i1,i2]->s.heap.get? c=aa o->h'.get? c=aa o)->Q (aa<|.ref s.heap.objs.size) {s with heap:=h' }) :
  aS (ba prog w) A (i7<|.ref z) Q E s:=by
 have hT:s.TypeIs (.ref z) "zip":=#[_,Z.zp,rfl];exact af<|hJ<|bQ hT eO<|cH eO hT kq (wl D Z hl1 hl2 hx hy λh' a1 a2 a3=>ay<|hQ h' a1 a2 a3)<|iU _
def VM{b1 b2:Bool}{z TI TO i1 i2 l1 l2:aB}{k:Nat}{xs ys:Array am}{Q:Option am->au->Prop}(hh:A.handled=ab)(D:gI z TI TO i1 i2 l1 l2)(Z:ZipSt b1 b2 z TI TO i1 i2 l1 l2 k .none s.heap)(hl1:Yu b1 s.heap l1 xs)(hl2:Yu b2 s.heap l2 ys)(hend:xs[k]?=ab\/ys[k]?=ab)
  (hQ:∀h',(∀c o,c∉[z,TO,i1,i2]->s.heap.get? c=aa o->h'.get? c=aa o)->Q ab {s with heap:=h' }):aS (ba prog w) A (i7<|.ref z) Q E s:=by
 have hT:s.TypeIs (.ref z) "zip":=#[_,Z.zp,rfl];refine af<|hJ<|bQ hT eO<|cH eO hT kq (V0 hh D Z hl1 hl2 hend λh' e hk he=>?_)<|iU _
 obtain⟨o,ho,hc⟩:=he;exact af<|eo #[o,ho,hc] isSubtype_stop<|ay<|hQ _ hk
noncomputable def zH1(h:bJ)(b1:Bool)(l1:aB):bJ:=h.push<|Yj b1 l1
noncomputable def zH2(h:bJ)(b1 b2:Bool)(l1 l2:aB):bJ:=(zH1 h b1 l1).push<|Yj b2 l2
noncomputable def zH3(h:bJ)(b1 b2:Bool)(l1 l2:aB):bJ:=(zH2 h b1 b2 l1 l2).push {cls:=.type "tuple",data:=.seq [.ref h.objs.size,.ref (zH1 h b1 l1).objs.size].toArray}
noncomputable def zH4(h:bJ)(b1 b2:Bool)(l1 l2:aB):bJ:=(zH3 h b1 b2 l1 l2).push {cls:=.type "tuple",data:=.seq [.none,.none].toArray}
noncomputable def zH5(h:bJ)(b1 b2:Bool)(l1 l2:aB):bJ:=(zH4 h b1 b2 l1 l2).push {cls:=.type "zip",data:=.fields [.none,.bool ai,.bool ai,.ref (zH2 h b1 b2 l1 l2).objs.size,.ref (zH3 h b1 b2 l1 l2).objs.size].toArray}
def vI(b1 b2:Bool)(l1 l2:aB)(xs ys:Array am) :
  kT (dR.«zip.__new__» #[[.type "zip",.ref l1,.ref l2],[]]) (λ_ R s=>Yu b1 s.heap l1 xs/\Yu b2 s.heap l2 ys/\R (.ok<|.ret<|.ref (zH4 s.heap b1 b2 l1 l2).objs.size) {s with heap:=zH5 s.heap b1 b2 l1 l2}):=
 .of_wp λprog w A R s h=>by
  obtain⟨hp,g,d,tk,os⟩:=s;obtain⟨hl1,hl2,h⟩:=h;have hsub:=sub_zip;have hL1:=hl1;have hL2:Yu b2 (au.heap #[hp.push<|Yj b1 l1,g,d,tk,os]) l2 ys:=hl2.keep λo e=>ap _ e
  wp_walk using Vn hL1,Vn hL2
  exact#[_,rfl,h]
def vn{Q:am->au->Prop}(hl1:Yu b1 s.heap l1 xs)(hl2:Yu b2 s.heap l2 ys)
  (h:∀h' n,n=s.heap.objs.size->ZipSt b1 b2 (n+4) (n+2) (n+3) n (n+1) l1 l2 0 .none h'->(∀c o,s.heap.get? c=aa o->h'.get? c=aa o)->Q (.ref<|n+4) {s with heap:=h' }) :
  aS (ba prog w) A (call (.type "zip") [.ref l1,.ref l2]) Q E s:=by
 refine callType_new F.called_zip (by decide) (F.typeCall_zip_2 _ _) (F.newCall_zip_2 _ _) (λobj=>F.args_object_init_3 obj _ _) F.entry_zip_new (vI b1 b2 l1 l2 xs ys) #[hl1,hl2,?_]
 have z1:(zH1 s.heap b1 l1).objs.size=s.heap.objs.size+1:=bR ..;have z2:(zH2 s.heap b1 b2 l1 l2).objs.size=s.heap.objs.size+2:=by unfold zH2;rw[bR,z1]
 have z3:(zH3 s.heap b1 b2 l1 l2).objs.size=s.heap.objs.size+3:=by unfold zH3;rw[bR,z2]
 have z4:(zH4 s.heap b1 b2 l1 l2).objs.size=s.heap.objs.size+4:=by unfold zH4;rw[bR,z3]
 have g5:(zH5 s.heap b1 b2 l1 l2).get? (zH4 s.heap b1 b2 l1 l2).objs.size=aa {cls:=.type "zip",data:=.fields [.none,.bool ai,.bool ai,.ref (zH2 s.heap b1 b2 l1 l2).objs.size,.ref (zH3 s.heap b1 b2 l1 l2).objs.size].toArray}:=aH _ rfl;have k4:∀c o,(zH4 s.heap b1 b2 l1 l2).get? c=aa o->(zH5 s.heap b1 b2 l1 l2).get? c=aa o:=λc o e=>ap _ e
 have k3:=λc o e=>k4 c o<|ap _ e
 have k2:=λc o e=>k3 c o<|ap _ e
 have k1:=λc o e=>k2 c o<|ap _ e
 have g4:=k4 _ _<|aH (zH3 s.heap b1 b2 l1 l2) rfl;have g3:=k3 _ _<|aH (zH2 s.heap b1 b2 l1 l2) rfl;have g2:=k2 _ _<|aH (zH1 s.heap b1 l1) rfl;have g1:=k1 _ _<|aH s.heap rfl;rw[z2,z3,z4]at g5;rw[z1,z2]at g3;rw[z3]at g4;rw[z1]at g2;rw[z4];have src:∀b l it,(zH5 s.heap b1 b2 l1 l2).get? it=aa (Yj b l)->Src b (zH5 s.heap b1 b2 l1 l2) it l 0:=λb l it e=>by
  cases b
  .exact#[_,e,rfl,rfl]
  .exact#[_,e,rfl,rfl]
 exact#[#[_,g5,rfl],h _ _ rfl #[g5,g3,#[_,_,g4],src b1 l1 _ g1,src b2 l2 _ g2] λc o e=>k1 c o<|ap _ e]
open Ev (E Sm Fn Bop Cop Ty Bf Mf)
def Xv{X:Cx}{pq:List (aB×dJ)}{U:L2.St}{H:Hp}{s:au}{h':bJ}{t':Nat}{ch:List aB}(I:Inv X pq U H s)(k:∀b o,b∉ch->s.heap.get? b=aa o->h'.get? b=aa o)(hf:∀b∈ch,Wv X pq H b):Inv X pq U H {s with heap:=h',toks:=t' }:=by
 have nit:∀b u,H b=aa u->b∉ch:=λb u e z=>by have:=(hf b z).1;rw[e]at this;cases this
 refine I.step (g':=s.gens) (d':=s.drawn) (λb hb=>?_) (λb o _ _ hc e _=>k b o hc e) (λb o _ _ hc e _=>#[o.slots,k b o hc e]) (λ_ _ _ _ n=>n) (λb o hc e=>#[o,k b o hc e]) (λ_ _ e=>e) (λ_ _ _ e=>e) (λb ps e=>#[#[],by rw[e];simp]) (λm hm=>?_) (λb u e=>?_) I.bare
 .exact#[(hf b hb).2.2.2.1,(hf b hb).2.1,(hf b hb).2.2.2.2.1,(hf b hb).2.2.2.2.2]
 .obtain⟨o,es,ep,ho,r⟩:=hm
  exact#[o,es,ep,k _ o (λz=>(hf _ z).2.1 rfl) ho,r]
 .refine(I.hok b u e).stay (λc v hc q=>k c v ?_ q) (λ_ q=>q) λ_ _ q=>q
  rcases hc with z|z
  .rw[z];exact nit b u e
  .exact nit c _ z
def Uo{h:bJ}{o o':dJ}{b:aB}(e:(h.push o').get? b=aa o)(n:b≠h.objs.size):h.get? b=aa o:=by
 unfold bJ.get? bJ.push at *;simp only[Array.getElem?_push]at e;rw[T8 n]at e;exact e
def Xj{a b:Nat}(h:a<b\/b<a):(a:aB)≠b:=λe=>by
 have e':=e;omega
def Sq(b:Bool)(K:aj)(H:Hp)(l:aB)(xs:List V):Prop:=match b with
 |true=>SqL K H l xs
 |false=>SqT K H l xs
def YR(I:Inv X pq U H s)(h:Sq b X.K H l xs):∃its:List am,Vals xs its/\Yu b s.heap l its.toArray:=by
 cases b
 .obtain⟨its,r,p,_⟩:=I.tuple h;exact#[its,r,p]
 .obtain⟨its,r,p,_⟩:=I.list h;exact#[its,r,p.isList]
def JQ(I:Inv X pq U H s)(h:Sq b X.K H l xs)(h':Sq b X.K H l ys):xs=ys:=by
 cases b
 .exact I.tuple_inj h h'
 .exact I.list_inj h h'
def WU(x:Yu b h l xs):l<h.objs.size:=by
 cases b
 .obtain⟨o,ho,_⟩:=x;exact aC ho
 .obtain⟨o,ho,_⟩:=x;exact aC ho
noncomputable def Itz(K:aj)(b1 b2:Bool)(l1 l2:aB):It:=
 #[λi H=>∃xs ys x y,Sq b1 K H l1 xs/\Sq b2 K H l2 ys/\xs[i]?=aa x/\ys[i]?=aa y,
  λi H v H'=>∃T x y,(∀xs,Sq b1 K H l1 xs->xs[i]?=aa x)/\(∀ys,Sq b2 K H l2 ys->ys[i]?=aa y)/\H T=ab/\H'=upd H T (.tup [x,y])/\v=.ref T,
  λi H=>∃xs ys,Sq b1 K H l1 xs/\Sq b2 K H l2 ys/\(xs.length<=i\/ys.length<=i)]
def wB{P:br}{w:bK}{K:aj}{elts:List Expr}{kk:Nat}{tp:fA}{b1 b2:Bool}{z TI TO i1 i2 l1 l2:aB}(D:gI z TI TO i1 i2 l1 l2) :
  Turn P w K (.Tuple elts kk tp) (Itz K b1 b2 l1 l2) [z,TI,TO,i1,i2] z (λi h=>ZipSt b1 b2 z TI TO i1 i2 l1 l2 i .none h) where
 mem:=by simp
 obj:=λi h st b hb=>by
  simp only[ar,aR,or_false]at hb;obtain⟨a,c,hTO⟩:=st.to;rcases hb with e|e|e|e|e<;>subst e
  .exact#[_,st.zp,λv q=>by cases q]
  .exact#[_,st.ti,λv q=>by cases q]
  .exact#[_,hTO,λv q=>by cases q]
  .exact st.s1.obj
  .exact st.s2.obj
 keep:=λi h h' st k=>by
  obtain⟨a,c,hTO⟩:=st.to;exact#[k z (by simp) _ st.zp,k TI (by simp) _ st.ti,#[a,c,k TO (by simp) _ hTO],st.s1.keep λo e=>k i1 (by simp) o e,st.s2.keep λo e=>k i2 (by simp) o e]
 item:=by
  intro X hP hw hK hc i pq s U H E I hf st hg;subst hP hw hK;obtain⟨xs,ys,x,y,hq1,hq2,hx,hy⟩:=hg;obtain⟨its,rv,o1⟩:=YR I hq1;obtain⟨its2,rv2,o2⟩:=YR I hq2;obtain⟨u,hu,ru⟩:=rv.get hx;obtain⟨u2,hu2,ru2⟩:=rv2.get hy;refine J5 D st o1 o2 (x:=u) (y:=u2) (by simpa using hu) (by simpa using hu2) λh' Z' hT hk=>?_
  have hfree:=I.hok.fresh<|aD _;have ltz:∀b∈[z,TI,TO,i1,i2],b≠s.heap.objs.size:=λb hb e=>by
   simp only[ar,aR,or_false]at hb;obtain⟨a,c,hTO⟩:=st.to;rcases hb with q|q|q|q|q<;>subst q
   .exact T7 (aC st.zp) (by rw[e];exact bh _)
   .exact T7 (aC st.ti) (by rw[e];exact bh _)
   .exact T7 (aC hTO) (by rw[e];exact bh _)
   .obtain⟨o,ho,_⟩:=st.s1.obj;exact T7 (aC ho) (by rw[e];exact bh _)
   .obtain⟨o,ho,_⟩:=st.s2.obj;exact T7 (aC ho) (by rw[e];exact bh _)
  have IA:Inv X pq U (upd H s.heap.objs.size<|.tup [x,y]) {s with heap:=s.heap.push {cls:=.type "tuple",data:=.seq [u,u2].toArray},toks:=s.toks}:=
   I.laid (λb o e=>ap _ e) (aD _) #[by show 2<=aQ;decide,[u,u2],.cons ru<|.cons ru2 .nil,ej _ _]
  have hf2:∀b∈[z,TI,TO,i1,i2],Wv X pq (upd H s.heap.objs.size<|.tup [x,y]) b:=λb hb=>#[by rw[Zq<|ltz b hb];exact(hf b hb).1,(hf b hb).2]
  have IB:Inv X pq U (upd H s.heap.objs.size<|.tup [x,y]) {s with heap:=h',toks:=s.toks}:=by
   refine Xv (s:={s with heap:=s.heap.push {cls:=.type "tuple",data:=.seq [u,u2].toArray},toks:=s.toks}) (ch:=[z,TO,i1,i2]) IA (λb o hb e=>?_) λb hb=>hf2 b (by simp only[ar,aR,or_false]at hb ⊢;rcases hb with q|q|q|q<;>simp[q])
   by_cases hbs:b=s.heap.objs.size
   .subst hbs
    have e':=e;rw[aH _ rfl]at e';cases e';exact hT
   .refine hk b o hb ?_
    have e':=e;have hlt:=aC e';rw[bR]at hlt;exact Uo e' hbs
  refine#[.ref s.heap.objs.size,rfl,wpAny_letOwnedTupleGo_zip Z'.zp λh2 hz2 hs2=>?_]
  have IC:Inv X pq U (upd H s.heap.objs.size<|.tup [x,y]) {s with heap:=h2,toks:=s.toks}:=Xv (s:={s with heap:=h',toks:=s.toks}) (ch:=[z]) IB (λb o hb e=>(hs2.2 b<|by simpa using hb).trans e) λb hb=>hf2 b (by simp only[aK]at hb;simp[hb])
  obtain⟨a,c,hTO⟩:=Z'.to;refine#[.ref s.heap.objs.size,_,IC,rfl,#[_,x,y,λzs hz=>by rw[JQ I hz hq1];exact hx,λzs hz=>by rw[JQ I hz hq2];exact hy,hfree,rfl,rfl],?_,λb hb=>(hf2 b hb).1]
  exact#[hz2,hs2.extBut _ _ D.TIz Z'.ti,#[a,c,hs2.extBut _ _ D.TOz hTO],Z'.s1.ext hs2.extBut D.i1z,Z'.s2.ext hs2.extBut D.i2z]
 done:=by
  intro X hP hw hK hc i pq s U H E I hf st hg;subst hP hw hK;obtain⟨xs,ys,hq1,hq2,hend⟩:=hg;obtain⟨its,rv,o1⟩:=YR I hq1;obtain⟨its2,rv2,o2⟩:=YR I hq2;have e1:=rv.length;have e2:=rv2.length;refine VM (I.ok.hd hc) D st o1 o2 (by rcases hend with q|q;exact .inl (by simp;omega);exact .inr<|by simp;omega) λh' hk=>#[rfl,Xv (t':=s.toks) (ch:=[z,TO,i1,i2]) I (λb o hb e=>hk b o hb e) λb hb=>hf b (by simp only[ar,aR,or_false]at hb ⊢;rcases hb with q|q|q|q<;>simp[q])]
 self:=λ_ _ _ _ _ st h=>wpAny_pyIter_zip st.zp h
def ZbI(K:aj)(ta:TA):TI:=λU H R=>ta U H λvs H1=>∃b1 b2 l1 l2,vs=[.ref l1,.ref l2]/\(∃xs,Sq b1 K H1 l1 xs)/\(∃ys,Sq b2 K H1 l2 ys)/\R (Itz K b1 b2 l1 l2) H1
def jO{a b:Expr}{ta:TA}{p pos:fA}(hg:Gl X "zip")(hm:X.mg "zip" = ab)(ha:PA X [a,b] ta)(hs:aE [a,b] X.env=[(ai,b9 a X.env),(ai,b9 b X.env)]:=by rfl)(hs2:aE [b] X.env=[(ai,b9 b X.env)]:=by rfl) :
  PI X (.Tuple elts kk tp) (.Call (.Name "zip" p) [a,b] [] pos) (ZbI X.K ta):=by
 intro pq s U H R I h;refine Call_<|Wl I hg hm (by rfl)<|cC (thn (ha pos pq s U H _ I h) λus s1 #[vs,H1,I1,r1,q1]=>?_) (by rw[hs,hs2]) (by rw[hs2];rfl)
 obtain⟨b1,b2,l1,l2,e,⟨xs,hq1⟩,⟨ys,hq2⟩,q⟩:=q1;subst e;cases r1 with
 |cons r rr=>
  cases rr with
  |cons r' rr=>
   cases rr;cases r;cases r';obtain⟨its,rv,o1⟩:=YR I1 hq1;obtain⟨its2,rv2,o2⟩:=YR I1 hq2;have lt1:=WU o1;have lt2:=WU o2;refine vn o1 o2 λh' n hn Z hk=>?_
   have I2:=I1.kept (t':=s1.toks) hk
   have q1:(l1:Nat)<n:=by rw[hn];exact lt1
   have q2:(l2:Nat)<n:=by rw[hn];exact lt2
   have D:gI (n+4) (n+2) (n+3) n (n+1) l1 l2:=by constructor<;>first|exact Xj (by omega)|exact Xj<|.inl<|aX q1<|da n _|exact Xj<|.inl<|aX q2<|da n _|exact Xj<|.inl q1|exact Xj<|.inl q2
   refine wpAny_pyIter_zip Z.zp #[n+4,[n+4,n+2,n+3,n,n+1],_,_,H1,rfl,I2,wB D,Z,λb hb=>?_,q]
   have hbn:s1.heap.objs.size<=b:=by
    rw[<-hn];simp only[ar,aR,or_false]at hb;rcases hb with e|e|e|e|e<;>rw[e]
    .exact da n 4
    .exact da n 2
    .exact da n 3
    .exact aD n
    .exact da n 1
   exact I1.fpOk hbn<|I1.hok.fresh hbn
def Side(K:aj)(O:Mx)(H:Hp)(wk:List D)(b:Bool)(l:aB):Prop:=∀ρ' H',Lat O H ρ' H'->∃vs,Sq b K H' l vs/\Rq ρ' H' wk vs
def Qj{K:aj}{O:Mx}{H:Hp}{x:D}{v:V}{wk:List D}(hk:O.K=K)(r:Rep O H x v)(h:Pv.Yl x=aa wk):∃b l,v=.ref l/\(∃xs,Sq b K H l xs)/\Side K O H wk b l:=by
 cases x with
 |tup ds=>
  obtain⟨a,xs,rfl,hp,rs⟩:=r.tup';cases h;exact#[ai,a,rfl,#[xs,SqT.of hp],λρ' H' f=>#[xs,SqT.of (f.keep a _ hp λ_ z=>by cases z),rs.lat f]]
 |lst ds=>
  obtain⟨a,xs,rfl,hp,hx,rs⟩:=r.lst';cases h;exact#[ag,a,rfl,#[xs,SqL.of hp],λρ' H' f=>#[xs,SqL.of<|f.keep a _ hp λ_ _=>hx,rs.lat f]]
 |scr ns=>
  obtain⟨a,rfl,hp⟩:=r.scr';cases h;rw[hk]at hp;refine#[ag,a,rfl,#[_,hp.sq],λρ' H' f=>#[_,?_,Rq.ints ns]]
  rcases hp with⟨o,hp⟩|hp
  .exact .inl<|.inr #[o,f.keep a _ hp λ_ z=>by cases z]
  .exact .inr hp
 |_=>exact Ev.nos h
def vo{K:aj}{O:Mx}{H:Hp}{v w:List D}{b1 b2:Bool}{l1 l2:aB}(h1:Side K O H v b1 l1)(h2:Side K O H w b2 l2):WRel K O H ((v.zip w).map λp=>.tup [p.1,p.2]) (Itz K b1 b2 l1 l2) where
 go:=λi ρ' S' H' f st hi=>by
  obtain⟨xs,q1,r1⟩:=h1 ρ' H' f;obtain⟨ys,q2,r2⟩:=h2 ρ' H' f;have hi':i<ls v.length w.length:=by simpa using hi
  have ha:=(iw.mp hi').1;have hb:=(iw.mp hi').2;obtain⟨x,g1,rx⟩:=r1.get<|ao ha;obtain⟨y,g2,ry⟩:=r2.get<|ao hb;refine#[#[xs,ys,x,y,q1,q2,g1,g2],λu H'' #[T,x',y',e1,e2,hT,eH,eu]=>?_]
  subst eH eu;have ex:=(e1 xs q1).symm.trans g1;have ey:=(e2 ys q2).symm.trans g2;cases ex;cases ey;refine#[Zs hT,st.fresh hT,λd hd=>?_]
  have hz:(v.zip w)[i]?=aa (v[i],w[i]):=fC.mpr #[ao ha,ao hb];rw[aV,hz]at hd;cases hd;exact Xc Zu<|Rq.cons (rx.mono<|Zs hT)<|Rq.cons (ry.mono<|Zs hT) Rq.nil
 stop:=λρ' S' H' f st=>by
  obtain⟨xs,q1,r1⟩:=h1 ρ' H' f;obtain⟨ys,q2,r2⟩:=h2 ρ' H' f;refine#[xs,ys,q1,q2,?_];show xs.length<=((v.zip w).map λp=>Pv.V.tup [p.1,p.2]).length\/_
  rw[r1.length,r2.length,aw,cT];omega
section
variable{X:Cx}{xw:Nat->Hp->Prop}{C:Calls}{a b:Expr}{i j:E}{pos p tp:fA}{elts:List Expr}{kk:Nat}
def Zaj(hm:X.mg "zip" = ab)(ha:CA X xw C [a,b] [i,j])(hg:Gl X "zip")(hs:aE [a,b] X.env=[(ai,b9 a X.env),(ai,b9 b X.env)])(hs2:aE [b] X.env=[(ai,b9 b X.env)]) :
  CW X xw C (.Tuple elts kk tp) (.Call (.Name "zip" p) [a,b] [] pos) (.zip i j):=.mk <|
 PI.imp (jO hg hm ha.h hs hs2) λU H Q #[O,l,S,st,lr,h]=>Za8 st lr h λx y S1 ρ1 H1 v u st1 rv ru h1=>by
  cases e1:Pv.Yl x with
  |none=>rw[e1]at h1;exact False.elim h1
  |some v1=>
   cases e2:Pv.Yl y with
   |none=>rw[e1,e2]at h1;exact False.elim h1
   |some v2=>
    rw[e1,e2]at h1;obtain⟨b1,l1,rfl,s1,d1⟩:=Qj st1.hk rv e1;obtain⟨b2,l2,rfl,s2,d2⟩:=Qj st1.hk ru e2;exact#[b1,b2,l1,l2,rfl,s1,s2,End.ok (rep:=WRel X.K) h1 st1<|vo d1 d2]
end
def Uk(hh:A.handled=ab)(b:Bool)(it l:aB)(hne:l≠it)(xs:Array am) :
  Draws prog w A it [it,l] xs.size (λi v=>xs[i]?=aa v) (λi h=>Src b h it l i/\Yu b h l xs) where
 live:=λ_ _ st=>let #[o,ho,_]:=st.1.obj;#[o,ho]
 frame:=λ_ _ _ st hk=>#[st.1.keep λo e=>hk it (by simp) o e,st.2.keep λo e=>hk l (by simp) o e]
 item:=λi s Q E hi st hQ=>X6 st.1 st.2 (fD hi) λh' hit' hs'=>hQ _ h' s.toks (fD hi) #[hit',st.2.keep λo e=>hs'.extBut _ o hne e] hs'
 done:=λs Q E st hE=>Qk hh st.1 st.2 (Array.getElem?_eq_none<|aD _) hE
noncomputable def Ite(K:aj)(b:Bool)(l:aB):It:=
 #[λi H=>∃xs x,Sq b K H l xs/\xs[i]?=aa x,
  λi H v H'=>∃T x,(∀xs,Sq b K H l xs->xs[i]?=aa x)/\H T=ab/\H'=upd H T (.tup [.int i,x])/\v=.ref T,
  λi H=>∃xs,Sq b K H l xs/\xs.length=i]
def zQ{P:br}{w:bK}{K:aj}{elts:List Expr}{kk:Nat}{tp:fA}{b:Bool}{e it l:aB}(hei:e≠it)(hle:l≠e)(hli:l≠it) :
  Turn P w K (.Tuple elts kk tp) (Ite K b l) [e,it] e (λi h=>(∃old,IsEnum h e it i old)/\Src b h it l i) where
 mem:=by simp
 obj:=λi h st c hc=>by
  simp only[ar,aR,or_false]at hc;obtain⟨⟨old,he⟩,hs⟩:=st;rcases hc with q|q<;>subst q
  .exact#[_,he,λv q=>by cases q]
  .exact hs.obj
 keep:=λi h h' st k=>by
  obtain⟨⟨old,he⟩,hs⟩:=st;exact#[#[old,k e (by simp) _ he],hs.keep λo q=>k it (by simp) o q]
 item:=by
  intro X hP hw hK hc i pq s U H E I hf st hg;subst hP hw hK;obtain⟨xs,x,hq,hx⟩:=hg;obtain⟨its,rv,o1⟩:=YR I hq;obtain⟨⟨old,he⟩,hs⟩:=st;obtain⟨u,hu,ru⟩:=rv.get hx;have hlt:i<its.toArray.size:=by
   have:=(aM.mp hu).1
   simpa using this
  have hh:X.A.in1.handled=ab:=I.ok.hd hc;refine wpAny_pyNext_enum_itemD (Uk hh b it l hli its.toArray) he #[hs,o1] hlt hei (by simp only[ar,aR,or_false,not_or];exact#[hei,Ne.symm hle]) λx' h' tk hP ho hst hT hsz hk=>?_
  have ex:x'=u:=by
   have:its.toArray[i]?=aa u:=by simpa using hu
   rw[this]at hP;exact(ah hP).symm
  subst ex;have hfree:=I.hok.fresh<|aD _;have ltz:∀c∈[e,it],c≠s.heap.objs.size:=λc hc q=>by
   simp only[ar,aR,or_false]at hc;rcases hc with z|z<;>subst z
   .exact T7 (aC he) (by rw[q];exact bh _)
   .obtain⟨o,ho,_⟩:=hs.obj;exact T7 (aC ho) (by rw[q];exact bh _)
  have IA:Inv X pq U (upd H s.heap.objs.size<|.tup [.int i,x]) {s with heap:=s.heap.push {cls:=.type "tuple",data:=.seq [.int i tk,x'].toArray},toks:=tk+1}:=
   I.laid (λc o q=>ap _ q) (aD _) #[by show 2<=aQ;decide,[.int i tk,x'],.cons #[tk,rfl]<|.cons ru .nil,ej _ _]
  have hf2:∀c∈[e,it],Wv X pq (upd H s.heap.objs.size<|.tup [.int i,x]) c:=λc hc=>#[by rw[Zq<|ltz c hc];exact(hf c hc).1,(hf c hc).2]
  have IB:Inv X pq U (upd H s.heap.objs.size<|.tup [.int i,x]) {s with heap:=h',toks:=tk+1}:=by
   refine Xv (s:={s with heap:=s.heap.push {cls:=.type "tuple",data:=.seq [.int i tk,x'].toArray},toks:=tk+1}) (ch:=[e,it]) IA (λc o hc q=>?_) hf2
   by_cases hcs:c=s.heap.objs.size
   .subst hcs
    have q':=q;rw[aH _ rfl]at q';cases q';exact hT
   .simp only[ar,aR,or_false,not_or]at hc
    exact hk c o hc.1 hc.2<|Uo q hcs
  refine#[.ref s.heap.objs.size,rfl,wpAny_letOwnedTupleGo_enum ho λh2 he2 hs2=>?_]
  have IC:Inv X pq U (upd H s.heap.objs.size<|.tup [.int i,x]) {s with heap:=h2,toks:=tk+1}:=Xv (s:={s with heap:=h',toks:=tk+1}) (ch:=[e]) IB (λc o hc q=>(hs2.2 c<|by simpa using hc).trans q) λc hc=>hf2 c (by simp only[aK]at hc;simp[hc])
  refine#[.ref s.heap.objs.size,_,IC,rfl,#[_,x,λzs hz=>by rw[JQ I hz hq];exact hx,hfree,rfl,rfl],#[#[x',by simpa using he2],hst.1.ext hs2.extBut<|Ne.symm hei],λc hc=>(hf2 c hc).1]
 done:=by
  intro X hP hw hK hc i pq s U H E I hf st hg;subst hP hw hK;obtain⟨xs,hq,hend⟩:=hg;obtain⟨its,rv,o1⟩:=YR I hq;obtain⟨⟨old,he⟩,hs⟩:=st;have e1:=rv.length;have hh:X.A.in1.handled=ab:=I.ok.hd hc;have en:i=its.toArray.size:=by simp;lia
  subst en;exact wpAny_pyNext_enum_endD (Uk hh b it l hli its.toArray) he #[hs,o1] λh' hx=>#[rfl,Xv (t':=s.toks) (ch:=[e,it]) I (λc o hc q=>hx c o (λz=>hc<|by simp[z]) q) hf]
 self:=λ_ _ _ _ _ st h=>by
  obtain⟨⟨old,he⟩,_⟩:=st;exact iV he h
section
variable{prog:br}{w:bK}{A:cg}{E:am->au->Prop}{s:au}
def yU(l:aB)(items:Array am)(n:Nat)(dct:Option aB)(sl:Array (Option am)) :
  kT (dR.«enumerate.__new__» #[[.type "enumerate",.ref l],[]]) (λ_ R s=>s.heap.get? l=aa {cls:=.type "tuple",dict:=dct,data:=.seq items n,slots:=sl}/\
   R (.ok<|.ret<|.ref (s.heap.push<|Yj ai l).objs.size) {s with heap:=(s.heap.push<|Yj ai l).push {cls:=.type "enumerate",data:=.fields [.none,.bool ai,.ref s.heap.objs.size,f8 0,.none,.none].toArray}}):=
 .of_wp λprog w A R s h=>by
  obtain⟨hp,g,d,tk,os⟩:=s;obtain⟨hl,h⟩:=h;have hsub:=sub_enumerate;have hL:bJ.IsTuple (au.heap #[hp,g,d,tk,os]) l items:=#[_,hl,rfl,n,rfl]
  wp_walk using dO hl;refine wpAny_stack_any λst=>ay ?_;split
  .rename_i c _ _ _ _ _;cases(c == am.type "enumerate")<;>(wp_walk using dO hl,dU hL;exact#[_,rfl,h])
  .wp_walk using dO hl,dU hL;exact#[_,rfl,h]
def yu{Q:am->au->Prop}(hL:Yu b s.heap l xs)
  (h:∀h' n,n=s.heap.objs.size->IsEnum h' (n+1) n 0 .none->Src b h' n l 0->(∀c o,s.heap.get? c=aa o->h'.get? c=aa o)->Q (.ref<|n+1) {s with heap:=h' }):aS (ba prog w) A (call (.type "enumerate") [.ref l]) Q E s:=by
 cases b with
 |true=>exact call_enumerate_list hL λh' a1 a2 _ a4=>h h' _ rfl a1 a2 a4
 |false=>
  obtain⟨⟨c,dct,dt,sl⟩,hl,hc,n,hd⟩:=hL;simp only at hc hd;subst hc hd;refine callType_new F.called_enumerate (by decide) (F.typeCall_enumerate_1 _) (F.newCall_enumerate_1 _) (λobj=>F.args_object_init_2 obj _) F.entry_enumerate_new (yU l xs n dct sl) #[hl,?_]
  have hz:(s.heap.push<|Yj ai l).objs.size=s.heap.objs.size+1:=bR ..;have g2:=aH (s.heap.push<|Yj ai l) (o:={cls:=.type "enumerate",data:=.fields [.none,.bool ai,.ref s.heap.objs.size,f8 0,.none,.none].toArray}) rfl;have g1:((s.heap.push<|Yj ai l).push {cls:=.type "enumerate",data:=.fields [.none,.bool ai,.ref s.heap.objs.size,f8 0,.none,.none].toArray}).get? s.heap.objs.size=aa (Yj ai l):=ap _<|aH _ rfl;rw[hz]at g2 ⊢;exact#[#[_,g2,rfl],h _ _ rfl g2 #[_,g1,rfl,rfl] λc o q=>ap _<|ap _ q]
end
def ZaK(K:aj)(ta:TA):TI:=λU H R=>ta U H λvs H1=>∃b l,vs=[.ref l]/\(∃xs,Sq b K H1 l xs)/\R (Ite K b l) H1
def uM{a:Expr}{ta:TA}{p pos:fA}(hg:Gl X "enumerate")(hm:X.mg "enumerate" = ab)(ha:PA X [a] ta)(hs:aE [a] X.env=[(ai,b9 a X.env)]:=by rfl):PI X (.Tuple elts kk tp) (.Call (.Name "enumerate" p) [a] [] pos) (ZaK X.K ta):=by
 intro pq s U H R I h;refine Call_<|Wl I hg hm (by rfl)<|cC (thn (ha pos pq s U H _ I h) λus s1 #[vs,H1,I1,r1,q1]=>?_) hs rfl
 obtain⟨b,l,e,⟨xs,hq⟩,q⟩:=q1;subst e;cases r1 with
 |cons r rr=>
  cases rr;cases r;obtain⟨its,rv,o1⟩:=YR I1 hq;have lt1:=WU o1;refine yu o1 λh' n hn he hs' hk=>?_
  have I2:=I1.kept (t':=s1.toks) hk
  have q1:(l:Nat)<n:=by rw[hn];exact lt1
  refine iV he #[n+1,[n+1,n],_,_,H1,rfl,I2,zQ (Xj<|.inr<|kn n) (Xj<|.inl<|fN q1)<|Xj<|.inl q1,#[#[_,he],hs'],λc hc=>?_,q]
  have hbn:s1.heap.objs.size<=c:=by
   rw[<-hn];simp only[ar,aR,or_false]at hc;rcases hc with e|e<;>rw[e]
   .exact kC n
   .exact aD n
  exact I1.fpOk hbn<|I1.hok.fresh hbn
def yH{lo:Int}{n i:Nat}(h:i<n):(Pv.Z1 lo n)[i]?=aa (.int<|lo+i):=by
 unfold Pv.Z1;rw[aV,gV h];rfl
def yb{K:aj}{O:Mx}{H:Hp}{w:List D}{b:Bool}{l:aB}(h1:Side K O H w b l):WRel K O H (((Pv.Z1 0 w.length).zip w).map λp=>.tup [p.1,p.2]) (Ite K b l) where
 go:=λi ρ' S' H' f st hi=>by
  obtain⟨xs,q1,r1⟩:=h1 ρ' H' f;have hi':i<w.length:=by
   rw[aw,cT,UC]at hi;lia
  obtain⟨x,g1,rx⟩:=r1.get<|ao hi';refine#[#[xs,x,q1,g1],λu H'' #[T,x',e1,hT,eH,eu]=>?_]
  subst eH eu;have ex:=(e1 xs q1).symm.trans g1;cases ex;refine#[Zs hT,st.fresh hT,λd hd=>?_]
  have hz:((Pv.Z1 0 w.length).zip w)[i]?=aa (.int<|0+i,w[i]):=fC.mpr #[yH hi',ao hi'];rw[aV,hz]at hd;cases hd;refine Xc Zu<|Rq.cons ?_<|Rq.cons (rx.mono<|Zs hT) Rq.nil;rw[show((0:Int)+i)=i by lia]
  exact ZY _
 stop:=λρ' S' H' f st=>by
  obtain⟨xs,q1,r1⟩:=h1 ρ' H' f;refine#[xs,q1,?_];show xs.length=(((Pv.Z1 0 w.length).zip w).map λp=>Pv.V.tup [p.1,p.2]).length
  rw[aw,cT,UC,r1.length];lia
section
variable{X:Cx}{xw:Nat->Hp->Prop}{C:Calls}{a b:Expr}{i j:E}{pos p tp:fA}{elts:List Expr}{kk:Nat}
def vO(hm:X.mg "enumerate" = ab)(ha:CA X xw C [a] [i])(hg:Gl X "enumerate")(hs:aE [a] X.env=[(ai,b9 a X.env)]) :
  CW X xw C (.Tuple elts kk tp) (.Call (.Name "enumerate" p) [a] [] pos) (.enum i):=.mk <|
 PI.imp (uM hg hm ha.h hs) λU H Q #[O,l,S,st,lr,h]=>qy st lr h λx S1 ρ1 H1 v st1 r h1=>by
  cases e1:Pv.Yl x with
  |none=>rw[e1]at h1;exact False.elim h1
  |some wk=>
   rw[e1]at h1;obtain⟨b1,l1,rfl,s1,d1⟩:=Qj st1.hk r e1;exact#[b1,l1,rfl,s1,End.ok (rep:=WRel X.K) h1 st1<|yb d1]
end
def UA(hh:A.handled=ab)(b:Bool)(it l:aB)(hne:l≠it)(xs:Array am) :
  Walks prog w A it [it,l] [it] xs.size (λi v=>xs[i]?=aa v) (λi h=>Src b h it l i/\Yu b h l xs):=by
 cases b
 .exact Walks.tuple hh it l hne xs
 .exact Walks.list hh it l hne xs
def Gx{b:Bool}{h:bJ}{l:aB}:Src b (h.push<|Yj b l) h.objs.size l 0:=by
 cases b
 .exact#[_,aH _ rfl,rfl,rfl]
 .exact#[_,aH _ rfl,rfl,rfl]
def Zbl{K:aj}{H:Hp}{p:aB}{xs:List V}(h:SqL K H p xs\/SqT K H p xs):∃b,Sq b K H p xs:=by
 rcases h with h|h
 .exact#[ag,h]
 .exact#[ai,h]
def zO(hc:X.calm=ag):ZL X (.builtin "any") (λvs H Q=>∃O ds x v bs,O.K=X.K/\vs=[v]/\Rep O H x v/\Pv.Yl x=aa ds/\Pv.ZH ds=aa bs/\Q (.bl<|bs.any id) H):=by
 intro pq s U H vs us Q I r h;obtain⟨O,ds,x,v,bs,hk,rfl,r1,hl,hb,q⟩:=h;obtain⟨l,xs,rfl,hsq,rx⟩:=r1.seq hl;rw[hk]at hsq;obtain⟨kb,hq⟩:=Zbl hsq;obtain⟨u,rfl,ru⟩:=Vr r;cases ru;obtain⟨its,rv,o1⟩:=YR I hq;obtain⟨lb,tb⟩:=XN hb;have hlt:=WU o1;have hlen:its.toArray.size=bs.length:=by rw[aq,<-rv.length,rx.length,lb]
 refine call_any_walk<|Vn o1 #[s.heap.objs.size,[s.heap.objs.size,l],[s.heap.objs.size],its.toArray.size,_,_,λj=>bs.getD j ai,rfl,UA (A:=X.A.in1) (I.ok.hd hc) kb s.heap.objs.size l (bn hlt) its.toArray,#[Gx,o1.keep λo q=>ap _ q],?_,?_]
 .intro j v s' Q' E' hv hQ'
  have hj:its[j]?=aa v:=by simpa using hv
  have jl:j<ds.length:=by
   have:=(aM.mp hj).1;rw[<-rv.length,rx.length]at this;exact this
  obtain⟨w',g,r'⟩:=rx.get<|ao jl;obtain⟨u',g',ru'⟩:=rv.get g;rw[hj]at g';cases g';exact X7 r' ru' (tb j _<|ao jl) s' Q' E' hQ'
 .intro h' tk hk
  rw[hlen,yk];exact#[.bl<|bs.any id,H,I.kept (t':=tk) λb o e=>hk b o (λhm=>by
   have:b=s.heap.objs.size:=by simpa using hm
   exact T7 (this▸aC e)<|bh _)<|ap _ e,rfl,q]
def zk(hc:X.calm=ag):ZL X (.builtin "any") (Vu X.K xw .any):=ZL.imp (zO hc)<|by
 rintro vs H Q ⟨O,S,ds,st,r,h⟩;obtain⟨d,v,z,rfl,r1,hz,h⟩:=VH h r;obtain⟨xs,hx,hz⟩:=aO.mp hz;obtain⟨bs,hb,rfl⟩:=aW.mp hz;exact#[O,xs,d,v,bs,st.hk,rfl,r1,hx,hb,End.ok h st<|Yd _]
end Sd
namespace Tq
open PySem PyProof.Rows
end Tq
namespace Sq
open PySem PySem.W PyProof.Rows
open PySem.Calls
end Sq
namespace Sd
open PySem PySem.Spec PyProof.Rows L2
open Ev (E Sm Fn Bop Cop Ty Bf Mf)
end Sd
namespace Sd
open Ev (ltI YG ZR)
theorem GS:∀{x y:List Int},x≠y->ltI x y=ai->ltI y x=ag
 |[],[],h,_=>T7 rfl h
 |[],_::_,_,h=>by cases h
 |_::_,[],_,_=>rfl
 |a::x,b::y,h,e=>by
  unfold ltI at e ⊢;by_cases c:a=b
  .subst c
   rw[T9 rfl]at e ⊢;exact GS (λz=>h<|by rw[z]) e
  .rw[T8 c]at e
   rw[T8<|Ne.symm c];have:=of_decide_eq_false e;exact T5 (by omega)
theorem US:∀{x y:List Int},ltI x y=ag->ltI y x=ai
 |[],[],h=>by cases h
 |[],_::_,_=>rfl
 |_::_,[],h=>by cases h
 |a::x,b::y,e=>by
  unfold ltI at e ⊢;by_cases c:a=b
  .subst c
   rw[T9 rfl]at e ⊢;exact US e
  .rw[T8 c]at e
   rw[T8<|Ne.symm c];have:=T6 e;exact T4 (by omega)
theorem xP:∀{x y z:List Int},ltI x y=ag->ltI y z=ag->ltI x z=ag
 |[],[],_,h,_=>by cases h
 |_::_,[],_,h,_=>by cases h
 |_,_::_,[],_,h=>by cases h
 |[],_::_,_::_,_,_=>rfl
 |a::x,b::y,c::z,e,f=>by
  unfold ltI at e f ⊢;by_cases h1:a=b
  .subst h1
   rw[T9 rfl]at e;by_cases h2:a=c
   .subst h2
    rw[T9 rfl]at f ⊢;exact xP e f
   .rw[T8 h2]at f ⊢;exact f
  .rw[T8 h1]at e
   have e':=T6 e;by_cases h2:b=c
   .subst h2
    rw[T8 h1];exact e
   .rw[T8 h2]at f
    have f':=T6 f;rw[T8 (by omega)]
    exact T5 (by omega)
theorem Wj(x:List Int):∀l:List (List Int),(YG x l).Perm (x::l)
 |[]=>db _
 |y::r=>by
  unfold YG;split
  .exact db _
  .exact((Wj x r).cons y).trans<|gJ x y r
theorem XS:∀l:List (List Int),(ZR l).Perm l
 |[]=>db _
 |x::r=>(Wj x<|ZR r).trans<|(XS r).cons x
theorem WH(x:List Int):∀{l:List (List Int)},(∀y∈l,x≠y)->l.Pairwise (λa b=>ltI a b=ag)->(YG x l).Pairwise (λa b=>ltI a b=ag)
 |[],_,_=>by exact fY ..
 |y::r,hn,h=>by
  rw[aZ]at h;unfold YG;split
  .rename_i c
   rw[aZ,aZ];refine#[λz hz=>?_,h]
   rcases ar.mp hz with rfl|hz
   .exact c
   .exact xP c<|h.1 z hz
  .rename_i c
   rw[aZ];refine#[λz hz=>?_,WH x (λy hy=>hn y<|ak _ hy) h.2]
   rcases ar.mp ((Wj x r).mem_iff.mp hz)with rfl|hz
   .exact GS (hn y<|al ..) (by simpa using c)
   .exact h.1 z hz
theorem XZ:∀{l:List (List Int)},l.Nodup->(ZR l).Pairwise (λa b=>ltI a b=ag)
 |[],_=>fJ
 |x::r,h=>by
  rw[cQ]at h;exact WH x (λy hy e=>h.1<|by rw[e];exact(XS r).mem_iff.mp hy)<|XZ h.2
theorem WK:∀{a b:List (List Int)},a.Perm b->a.Pairwise (λx y=>ltI x y=ag)->b.Pairwise (λx y=>ltI x y=ag)->a=b
 |[],b,p,_,_=>(List.Perm.nil_eq p)
 |x::a,[],p,_,_=>by have:=p.length_eq;simp at this
 |x::a,y::b,p,ha,hb=>by
  rw[aZ]at ha hb;have e:x=y:=by
   rcases ar.mp (p.mem_iff.mp<|al ..)with h|h
   .exact h
   .rcases ar.mp (p.mem_iff.mpr (al))with h2|h2
    .exact h2.symm
    .have z1:=hb.1 x h
     have z2:=ha.1 y h2;rw[US z1]at z2;cases z2
  subst e;rw[WK (List.perm_cons x |>.mp p) ha.2 hb.2]
open PySem PySem.Spec PyProof.Rows L2
open Ev (E Sm Fn Bop Cop Ty Bf Mf Yp VX Xe ltP Ys)
noncomputable def QH(fin:Bool):List Int->List Int->Bool
 |[],_=>fin
 |_::_,[]=>fin
 |a::x,b::y=>if a=b then QH fin x y else ae (a<b)
theorem GF:∀(x y:List Int),QH (ae<|x.length<y.length) x y=ltI x y
 |[],[]=>rfl
 |[],_::_=>by unfold QH ltI;simp
 |_::_,[]=>by unfold QH ltI;simp
 |a::x,b::y=>by
  unfold QH ltI;have:ae ((a::x).length<(b::y).length)=ae (x.length<y.length):=by simp
  rw[this,GF x y]
section
variable{X:Cx}{pq:List (aB×dJ)}{U:L2.St}{H:Hp}{s:au}{O:Mx}
inductive RowsAt(h:bJ):List (List Int)->List am->Prop where
 |nil:RowsAt h [] []
 |cons {r:List Int} {rs:List (List Int)} {vs:List am} {a:aB} {o:dJ} {us:List am} {m:Nat} (ho:h.get? a=aa o) (hc:o.cls=.type "tuple") (hd:o.data=.seq us.toArray m) (hv:Vals (r.map V.int) us) (t:RowsAt h rs vs):RowsAt h (r::rs) (.ref a::vs)
theorem VL:∀{ks:List D}{k:List Int},Pv.intsV ks=aa k->ks=k.map Pv.V.int
 |[],k,h=>by cases h;rfl
 |d::ks,k,h=>by
  obtain⟨n,r,rfl,e,rfl⟩:=V9 h;rw[VL e];rfl
def yz(h:Pv.Z4 (d::ds)=aa rs):∃a b,d=Pv.Zd a/\Pv.Z4 ds=aa b/\rs=a::b:=by
 cases d with
 |tup x=>
  have h:(match Pv.intsV x,Pv.Z4 ds with
   |some a,aa b=>aa (a::b)
   |_,_=>ab)=aa rs:=h
  cases q1:Pv.intsV x with
  |none=>rw[q1]at h;cases h
  |some a=>
   cases q2:Pv.Z4 ds with
   |none=>rw[q1,q2]at h;cases h
   |some b=>
    rw[q1,q2]at h;exact#[a,b,congrArg Pv.V.tup<|VL q1,rfl,(ah h).symm]
 |_=>exact Ev.nos h
theorem Rq.intsV:∀{r:List Int}{xs:List V},Rq O H (r.map Pv.V.int) xs->xs=r.map V.int
 |[],xs,h=>by exact h
 |n::r,xs,h=>by
  have h':=h;obtain⟨v,vs,rfl,a,b⟩:=h';rw[a.int',Rq.intsV b];rfl
theorem UP(I:Inv X pq U H s):∀{ds:List D}{rs:List (List Int)}{xs:List V}{its:List am},Pv.Z4 ds=aa rs->Rq O H ds xs->Vals xs its->RowsAt s.heap rs its/\ds=rs.map Pv.Zd
 |[],rs,xs,its,h,r,v=>by
  subst r;cases v;cases h;exact#[.nil,rfl]
 |d::ds,rs,xs,its,h,r,v=>by
  obtain⟨x,xs',rfl,r1,r2⟩:=r;cases v with
  |cons v1 v2=>
   obtain⟨a,b,rfl,q2,rfl⟩:=yz h;obtain⟨t,e⟩:=UP I q2 r2 v2;obtain⟨p,ys,rfl,hp,ry⟩:=r1.tup';have ey:=Rq.intsV ry;subst ey;cases v1;obtain⟨us,rv,⟨o,ho,hc,m,hd⟩,_⟩:=I.tuple<|SqT.of hp;exact#[.cons ho hc hd rv t,by rw[e];rfl]
theorem Jn:∀{x y:List Int}{us:List am},Vals (x.map V.int) us->Vals (y.map V.int) us->x=y
 |[],[],_,_,_=>rfl
 |[],_::_,_,.nil,h=>by cases h
 |_::_,[],_,h,.nil=>by cases h
 |a::x,b::y,_,.cons r t,.cons r' t'=>by
  obtain⟨k,rfl⟩:=r;obtain⟨k',e⟩:=r';cases e;rw[Jn t t']
end
end Sd
namespace Sd
open PySem PySem.Spec PyProof.Rows L2
open Ev (ltI)
open PySem.SeqAt PySem.MeetsSeq PySem.MeetsSeq2 PySem.MeetsSeq3 PySem.SeqRoads2
open PySem.AutoSeq1 (wpAny_loadPart')
def JK(l b:aB)(u v:List am)(n n2:Nat)(dd dd2:Option aB)(sl sl2:Array (Option am))(x y:List Int)(hx:Vals (x.map V.int) u)(hy:Vals (y.map V.int) v) :
  kT (dR.«tuple.__lt__» #[[.ref l,.ref b],[]]) (λA R s=>s.heap.get? l=aa {cls:=.type "tuple",dict:=dd,data:=.seq u.toArray n,slots:=sl}/\s.heap.get? b=aa {cls:=.type "tuple",dict:=dd2,data:=.seq v.toArray n2,slots:=sl2}/\R (.ok<|.ret<|.bool<|ltI x y) s):=
 .of_wp λprog w A R s h=>by
  obtain⟨hp,g,d,tk,os⟩:=s;obtain⟨hl,hb,h⟩:=h;have f2:=cr;rw[<-GF]at h
  wp_walk using eQ hl,eQ hb,wpAny_forIn_list _ (λrest b s'=>b.1=ab/\s'=#[hp,g,d,tk,os]/\∃x' y' u' v',rest=List.zip u' v'/\Vals (lq V.int x') u'/\Vals (lq V.int y') v'/\R (.ok<|.ret<|.bool<|QH (ae<|x.length<y.length) x' y') #[hp,g,d,tk,os]) _
  case turn=>
   rintro ⟨a,c⟩ rest b s' ⟨hb',rfl,x',y',u',v',hz,hx',hy',hR⟩
   match x',y',u',v',hx',hy',hz,hR with
   |i::x',j::y',_::u',_::v',.cons ra ta,.cons rb tb,hz,hR=>
    obtain⟨t,rfl⟩:=ra;obtain⟨t',rfl⟩:=rb;rw[bI]at hz;injection hz with h1 h2
    cases h1;unfold QH at hR;refine af<|wpAny_eqBool_int ?_;by_cases e:i=j
    .rw[T9 e]at hR
     rw[beq_iff_eq.mpr e]
     wp_walk
     exact#[rfl,rfl,x',y',u',v',h2,ta,tb,hR]
    .rw[T8 e]at hR
     rw[beq_eq_false_iff_ne.mpr e];simp only[cM,if_true];refine af<|dv<|af<|PyProof.Rows.lt_int ?_
     wp_walk
     exact#[_,rfl,by simpa using hR]
   |[],_,_,_,.nil,_,hz,_=>rw[iW]at hz;cases hz
   |_::_,[],_,_,_,.nil,hz,_=>rw[iy]at hz;cases hz
  case fin=>
   rintro ⟨b1,b2⟩ s' ⟨hb',rfl,x',y',u',v',hz,hx',hy',hR⟩
   simp only at hb';subst hb';have hf:QH (ae<|x.length<y.length) x' y'=ae (x.length<y.length):=by
    match x',y',u',v',hx',hy',hz with
    |[],_,_,_,_,_,_=>rfl
    |_::_,[],_,_,_,_,_=>rfl
    |_::_,_::_,_::_,_::_,.cons _ _,.cons _ _,hz=>rw[bI]at hz;cases hz
   rw[hf]at hR;have l1:u.length=x.length:=by rw[<-hx.length,aw]
   have l2:v.length=y.length:=by rw[<-hy.length,aw]
   wp_walk
   exact#[_,rfl,by simpa[d9,l1,l2]using hR]
  case h=>
   exact#[rfl,rfl,x,y,u,v,by simp,hx,hy,h]
def qc{E:am->au->Prop}{Q:am->au->Prop}(ha:s.heap.get? a=aa o)(hc:o.cls=.type "tuple")(hd:o.data=.seq u.toArray m)(hx:Vals (x.map V.int) u)
  (hb:s.heap.get? b=aa o')(hc':o'.cls=.type "tuple")(hd':o'.data=.seq v.toArray m')(hy:Vals (y.map V.int) v)(hu:A.units<cI)(q:Q (.bool<|ltI x y) s):aS (ba prog w) A (bG .Lt (.ref a)<|.ref b) Q E s:=by
 obtain⟨cls,dd,data,sl⟩:=o;obtain⟨cls2,dd2,data2,sl2⟩:=o';simp only at hc hd hc' hd';subst hc hd hc' hd';exact gm (op:=.Lt) #[_,ha,rfl] #[_,hb,rfl] kI kr (iX _ _) (JK a b u v m m' dd dd2 sl sl2 x y hx hy) #[ha,hb,#[(λx=>nomatch x),q]] hu
end Sd
namespace Sd
open Ev (ltI ltP VX Xe)
open PySem PySem.Spec PyProof.Rows L2
theorem UL:∀{x:List Int}{u:List am}{j:Nat}(h:j<u.length),Vals (x.map V.int) u->∃t,u[j]=lc (x.getD j 0) t
 |[],[],_,h,.nil=>by simp at h
 |_::_,_::_,0,_,.cons ra _=>by obtain⟨t,rfl⟩:=ra;exact#[t,rfl]
 |_::x,_::u,j+1,h,.cons _ ta=>by
  obtain⟨t,e⟩:=UL (by simpa using h) ta
  exact#[t,by simpa using e]
def ZaW:∀{x y:List Int},((aY<|ls x.length y.length).all (λj=>x.getD j 0 == y.getD j 0)&&x.length == y.length)=ae (x=y):=by
 intro x y;rw[bp,ax,aL,decide_eq_true_iff]
 constructor
 .rintro ⟨h1,h2⟩
  have h2:x.length=y.length:=by simpa using h2
  apply et h2;intro i hi hj;have:=h1 i<|bm.mpr (by lia)
  simpa[hi,hj]using this
 .rintro rfl
  exact#[λj _=>by simp,by simp]
def QB(h:bJ)(r:List Int)(v:am):Prop:=∃a o us m,v=.ref a/\h.get? a=aa o/\o.cls=.type "tuple"/\o.data=.seq us.toArray m/\Vals (r.map V.int) us
def vF(hx:QB s.heap x v)(hy:QB s.heap y u)(hu:A.units<cI):ek A s v u (ae<|x=y):=by
 obtain⟨a,o,us,m,rfl,ho,hc,hd,hv⟩:=hx;obtain⟨b,o',us',m',rfl,ho',hc',hd',hv'⟩:=hy;have l1:us.toArray.size=x.length:=by rw[aq,<-hv.length,aw]
 have l2:us'.toArray.size=y.length:=by rw[aq,<-hv'.length,aw]
 by_cases e:a=b
 .subst e
  rw[ho]at ho';cases ho';rw[hd]at hd';injection hd' with h1 h2
  have h1:us=us':=by simpa using h1
  subst h1;rw[T5<|Jn hv hv'];exact eK _
 .refine fu e ?_
  have:=fL #[o,ho,hc,m,hd] #[o',ho',hc',m',hd'] hu (λj h1 h2=>by
   obtain⟨t,e1⟩:=UL (by simpa using h1) hv
   obtain⟨t',e2⟩:=UL (by simpa using h2) hv'
   rw[show us.toArray[j]=us[j]'(by simpa using h1) by simp,show us'.toArray[j]=us'[j]'(by simpa using h2) by simp,e1,e2]
   exact ip _ _ _ _)
  rw[l1,l2,ZaW]at this;exact this
def wx{E:am->au->Prop}{Q:am->au->Prop}(hx:QB s.heap x v)(hy:QB s.heap y u)(hu:A.units<cI)(q:Q (.bool<|ltI x y) s):aS (ba prog w) A (bG .Lt v u) Q E s:=by
 obtain⟨a,o,us,m,rfl,ho,hc,hd,hv⟩:=hx;obtain⟨b,o',us',m',rfl,ho',hc',hd',hv'⟩:=hy;exact qc ho hc hd hv ho' hc' hd' hv' hu q
noncomputable def Qv(fin:Bool):List (List Int)->List (List Int)->Bool
 |[],_=>fin
 |_::_,[]=>fin
 |a::x,b::y=>if a=b then Qv fin x y else ltI a b
theorem zm:∀(x y:List (List Int)),Qv (ae<|x.length<y.length) x y=ltP x y
 |[],[]=>rfl
 |[],_::_=>by unfold Qv ltP;simp
 |_::_,[]=>by unfold Qv ltP;simp
 |a::x,b::y=>by
  unfold Qv ltP;have:ae ((a::x).length<(b::y).length)=ae (x.length<y.length):=by simp
  rw[this,zm x y]
inductive RowsIn(h:bJ):List (List Int)->List am->Prop where
 |nil:RowsIn h [] []
 |cons {r:List Int} {rs:List (List Int)} {v:am} {vs:List am} (a:QB h r v) (t:RowsIn h rs vs):RowsIn h (r::rs) (v::vs)
theorem RowsIn.length :∀{rs:List (List Int)}{vs:List am},RowsIn h rs vs->rs.length=vs.length
 |_,_,.nil=>rfl
 |_,_,.cons _ t=>by rw[aI,aI,RowsIn.length t]
open Ev (E Sm Fn Bop Cop Ty Bf Mf YG ZR Yp Ys)
section
variable{X:Cx}{pq:List (aB×dJ)}{U:L2.St}{H:Hp}{s:au}{O:Mx}
theorem RowsAt.ins{h:bJ}:∀{rs:List (List Int)}{vs:List am},RowsAt h rs vs->RowsIn h rs vs
 |_,_,.nil=>.nil
 |_,_,.cons ho hc hd hv t=>.cons #[_,_,_,_,rfl,ho,hc,hd,hv]<|RowsAt.ins t
end
open PySem.SeqAt PySem.MeetsSeq PySem.MeetsSeq2 PySem.MeetsSeq3 PySem.SeqRoads2
open PySem.AutoSeq1 (wpAny_loadPart')
def Gc(l b:aB)(u v:List am)(n n2:Nat)(dd dd2:Option aB)(sl sl2:Array (Option am))(x y:List (List Int)) :
  kT (dR.«tuple.__lt__» #[[.ref l,.ref b],[]]) (λA R s=>s.heap.get? l=aa {cls:=.type "tuple",dict:=dd,data:=.seq u.toArray n,slots:=sl}/\s.heap.get? b=aa {cls:=.type "tuple",dict:=dd2,data:=.seq v.toArray n2,slots:=sl2}/\A.units+1<cI/\RowsIn s.heap x u/\RowsIn s.heap y v/\R (.ok<|.ret<|.bool<|ltP x y) s):=
 .of_wp λprog w A R s h=>by
  obtain⟨hp,g,d,tk,os⟩:=s;obtain⟨hl,hb,hu,hx,hy,h⟩:=h;have f2:=cr;rw[<-zm]at h
  wp_walk using eQ hl,eQ hb,wpAny_forIn_list _ (λrest b s'=>b.1=ab/\s'=#[hp,g,d,tk,os]/\∃x' y' u' v',rest=List.zip u' v'/\RowsIn hp x' u'/\RowsIn hp y' v'/\R (.ok<|.ret<|.bool<|Qv (ae<|x.length<y.length) x' y') #[hp,g,d,tk,os]) _
  case turn=>
   rintro ⟨a,c⟩ rest b s' ⟨hb',rfl,x',y',u',v',hz,hx',hy',hR⟩
   match x',y',u',v',hx',hy',hz,hR with
   |i::x',j::y',_::u',_::v',.cons ra ta,.cons rb tb,hz,hR=>
    rw[bI]at hz;injection hz with h1 h2
    cases h1;unfold Qv at hR;refine af<|vF ra rb (by lia) prog w _ _ ?_
    by_cases e:i=j
    .rw[T9 e]at hR
     rw[T5 e]
     wp_walk
     exact#[rfl,rfl,x',y',u',v',h2,ta,tb,hR]
    .rw[T8 e]at hR
     rw[T4 e];simp only[cM,if_true];refine af<|dv<|af<|wx ra rb (by lia) ?_
     wp_walk
     exact#[_,rfl,by simpa using hR]
   |[],_,_,_,.nil,_,hz,_=>rw[iW]at hz;cases hz
   |_::_,[],_,_,_,.nil,hz,_=>rw[iy]at hz;cases hz
  case fin=>
   rintro ⟨b1,b2⟩ s' ⟨hb',rfl,x',y',u',v',hz,hx',hy',hR⟩
   simp only at hb';subst hb';have hf:Qv (ae<|x.length<y.length) x' y'=ae (x.length<y.length):=by
    match x',y',u',v',hx',hy',hz with
    |[],_,_,_,_,_,_=>rfl
    |_::_,[],_,_,_,_,_=>rfl
    |_::_,_::_,_::_,_::_,.cons _ _,.cons _ _,hz=>rw[bI]at hz;cases hz
   rw[hf]at hR;have l1:u.length=x.length:=by rw[<-hx.length]
   have l2:v.length=y.length:=by rw[<-hy.length]
   wp_walk
   exact#[_,rfl,by simpa[d9,l1,l2]using hR]
  case h=>
   exact#[rfl,rfl,x,y,u,v,by simp,hx,hy,h]
def we{E:am->au->Prop}{Q:am->au->Prop}(ha:s.heap.get? a=aa o)(hc:o.cls=.type "tuple")(hd:o.data=.seq u.toArray m)(hx:RowsIn s.heap x u)
  (hb:s.heap.get? b=aa o')(hc':o'.cls=.type "tuple")(hd':o'.data=.seq v.toArray m')(hy:RowsIn s.heap y v)(hu:A.units+3<cI)(q:Q (.bool<|ltP x y) s):aS (ba prog w) A (bG .Lt (.ref a)<|.ref b) Q E s:=by
 obtain⟨cls,dd,data,sl⟩:=o;obtain⟨cls2,dd2,data2,sl2⟩:=o';simp only at hc hd hc' hd';subst hc hd hc' hd';exact gm (op:=.Lt) #[_,ha,rfl] #[_,hb,rfl] kI kr (iX _ _) (Gc a b u v m m' dd dd2 sl sl2 x y) #[ha,hb,by first|exact hu|(lia)|lia,hx,hy,#[(λx=>nomatch x),q]] (by lia)
def GU(hu:X.A.units+7<cI):YX X xw .Lt .lt:=by
 intro pq s U H v0 u0 v u Q I rv ru #[O,S,x,y,st,rx,ry,h];rcases Zbr st rx ry h with z|⟨a,b,A,B,rfl,rfl,hA,hB,q⟩
 .exact Za0 pq s U H v0 u0 v u Q I rv ru z
 .obtain⟨p1,xs,rfl,hp1,r1⟩:=rx.tup'
  obtain⟨p2,ys,rfl,hp2,r2⟩:=ry.tup';cases rv;cases ru;obtain⟨us,w1,⟨o,ho,hc,m,hd⟩,_⟩:=I.tuple<|SqT.of hp1;obtain⟨us',w2,⟨o',ho',hc',m',hd'⟩,_⟩:=I.tuple<|SqT.of hp2;obtain⟨ra,_⟩:=UP I hA r1 w1;obtain⟨rb,_⟩:=UP I hB r2 w2;exact we ho hc hd ra.ins ho' hc' hd' rb.ins (by lia) #[.bl<|ltP A B,H,I,rfl,q]
end Sd
namespace Sd
open PySem PySem.Spec PyProof.Rows L2
open Ev (E Sm Fn Bop Cop Ty Bf Mf)
def U4:kO (.type "list") "keys" = cb ab:=by rw[typeLookup_type,gC];kernel_rfl
def Ga:isSubtype (.type "AttributeError") (.type "AttributeError")=cb ag:=by rw[isSubtype_type];kernel_rfl
section
variable{prog:br}{w:bK}{A:cg}{E:am->au->Prop}{s:au}{a:aB}{m:Type}{name msg:bc}
def zT{Q:Unit->au->Prop}(he:s.heap.get? e=aa {cls:=.type "AttributeError",data:=.fields vs})(h6:vs[6]?=aa unsetMember)(h7:vs[7]?=aa unsetMember)
  (hQ:∀h',fM e s.heap h'->(∃ob,h'.get? e=aa ob/\ob.cls=.type "AttributeError")->Q () {s with heap:=h' }):aS (ba prog w) A (noteAttr (.ref e) ov nm) Q E s:=by
 have hT:s.TypeIs (.ref e) "AttributeError":=#[_,he,rfl];refine af<|af<|eo hT Ga ?_;simp only[la,fv,if_false];refine af<|ib he ?_;simp only[h6,h7];rw[T8 (by decide),T8 (by decide)]
 refine ay ?_;simp only[if_true];refine af<|dv<|af<|dD hT ?_;simp only[layMembers];refine af<|ib he<|wpAny_update he<|hQ _ (eT ..).extBut #[_,ee _ he<|gB<|fw rfl _,iT ..]
def Gr{Q:m->au->Prop}(hh:A.handled=ab)(hm:msg.length<=aQ)(hq:∀h' t' e,(∀b o,s.heap.get? b=aa o->h'.get? b=aa o)->(∃ob,h'.get? e=aa ob/\ob.cls=.type "AttributeError")->E (.ref e) {s with heap:=h',toks:=t' }):aS (ba prog w) A (raiseAttrError (.ref a) name msg:kY m) Q E s:=by
 refine af<|wpAny_mkStr ?_ hm;simp only[newExc,newTuple];refine af<|af<|bo ?_ (by size_fits)
 refine af (wpAny_of_eq (by first|rfl|(simp only[firstArgMember];rfl)) ?_)
 refine bo ?_ (by size_fits)
 refine af<|wpAny_mkText<|af<|zT (aH _ rfl) rfl rfl λh' eb ob=>?_
 refine wpAny_raiseNew_none hh<|hq _ _ _ (λb o e=>eb b o (λz=>?_)<|ap _<|ap _ e) ob
 have q:=aC e;subst z;exact T7 q (by show¬(s.heap.push _).objs.size<s.heap.objs.size;rw[bR];omega)
end
section
variable{prog:br}{w:bK}{A:cg}{E:am->au->Prop}{h:bJ}{g:Array GenState}{d:Drawn}{t:Nat}{os:OsState}{a:aB}{its:Array am}{n:Nat}
def Go{Q:Fin->au->Prop}(hx:h.get? a=aa {cls:=.type "list",data:=.seq its n})(hh:A.handled=ab)(hq:∀h' t' e,(∀b o,h.get? b=aa o->h'.get? b=aa o)->(∃ob,h'.get? e=aa ob/\ob.cls=.type "AttributeError")->E (.ref e) #[h',g,d,t',os]) :
  aS (ba prog w) A (dR.«object.__getattribute__» #[[.ref a,.str "keys" tk],[]]) Q E #[h,g,d,t,os]:=by
 have hT:(#[h,g,d,t,os]:au).TypeIs (.ref a) "list":=#[_,hx,rfl];have f4:=U4
 repeat(any_goals (first|assumption|wp_step))
 exact Gr hh (by decide +kernel) hq
def zJ{R:Result->au->Prop}(hx:h.get? a=aa {cls:=.type "list",data:=.seq its n})(hh:A.handled=ab)(hq:∀h' t' e,(∀b o,h.get? b=aa o->h'.get? b=aa o)->(∃ob,h'.get? e=aa ob/\ob.cls=.type "AttributeError")->R (.error<|.ref e) #[h',g,d,t',os]) :
  gb (ba prog w) A (.call (.builtin "list.__getattribute__") #[[.ref a,.str "keys" tk],[]]) R #[h,g,d,t,os]:=
 codeAny_call_builtin F.slot_list_getattribute.plain F.entry_list_ga (F.slot_list_getattribute.check _ _ _ _ _ _ _ _ (#[_,hx,rfl]) (F.args_list_getattribute_2 _ _)<|Go hx hh hq)
def uN{Q:am->au->Prop}(hx:h.get? a=aa {cls:=.type "list",data:=.seq its n})(hh:A.handled=ab)(hq:∀h' t' e,(∀b o,h.get? b=aa o->h'.get? b=aa o)->(∃ob,h'.get? e=aa ob/\ob.cls=.type "AttributeError")->E (.ref e) #[h',g,d,t',os]):aS (ba prog w) A (getAttrBy (.ref a) (.str "keys" tk) ai) Q E #[h,g,d,t,os]:=by
 have hT:(#[h,g,d,t,os]:au).TypeIs (.ref a) "list":=#[_,hx,rfl];have f2:=F.slot_list_getattribute.lookup;have f3:=F.slot_list_getattribute.bind<|.ref a
 repeat(any_goals (first|assumption|wp_step))
 refine zJ hx hh λh' t' e k ob=>?_
 have hTe:(#[h',g,d,t',os]:au).TypeIs (.ref e) "AttributeError":=ob;have f9:kO (.type "list") "__getattr__" = cb ab:=by rw[typeLookup_type,gC];kernel_rfl
 have hE:=hq h' t' e k ob
 repeat(any_goals (first|assumption|with_reducible apply eo hTe Ga|wp_step))
def yn{Q:Option am->au->Prop}(hx:h.get? a=aa {cls:=.type "list",data:=.seq its n})(hh:A.handled=ab)(hq:∀h' t',(∀b o,h.get? b=aa o->h'.get? b=aa o)->Q ab #[h',g,d,t',os]):aS (ba prog w) A (getAttr? (.ref a) "keys") Q E #[h,g,d,t,os]:=by
 unfold getAttr? getAttrBy?
 refine af<|wpAny_mkText<|af<|hJ<|uN hx hh λh' t' e k ob=>?_
 exact af<|eo (ob) Ga<|ay<|hq h' t' k
end
def XC:plainId "dict.update.loop" = ag:=by decide +kernel
def V4:entryFor table "dict.update.loop" = aa dR.«dict.update.loop»:=entryFor_of_tree (by kernel_rfl)
section
variable{prog:br}{w:bK}{A:cg}{E:am->au->Prop}
def J2{Q:List am->au->Prop}(hp:iA s.heap p its)(h:Q its.toList s):aS (ba prog w) A (dR.Dict.pairItems<|.ref p) Q E s:=by
 obtain⟨o,ho,hc,n,hd⟩:=hp;refine af<|dD #[_,ho,hc] ?_;rw[T9 (by decide)]
 unfold seqItems?
 refine af<|af<|ib ho ?_;rw[hd];exact ay<|ay h
def zh{K:Type}[DecidableEq K]{knd:KeyKind prog w K}{h h':bJ}{k:List K}{a:aB}(x:(cw knd).is h k a)(hk:∀o,h.get? a=aa o->h'.get? a=aa o):(cw knd).is h' k a:=by
 obtain⟨o,its,n,h1,r⟩:=x;exact#[o,its,n,hk _ h1,r]
def XM{K:Type}[DecidableEq K]{knd:KeyKind prog w K}{h h':bJ}{d:aB}{xs:List (List K×aB×am)}(x:h.DictOfH (cw knd) d xs)(hd:∀o,h.get? d=aa o->h'.get? d=aa o)(hx:∀x∈xs,∀o,h.get? x.2.1=aa o->h'.get? x.2.1=aa o):h'.DictOfH (cw knd) d xs:=by
 obtain⟨o,es,ep,h1,h2,h3,h4,h5,h6⟩:=x;exact#[o,es,ep,hd _ h1,h2,h3,h4,λy hy=>zh (h5 y hy)<|hx y hy,h6]
abbrev Pr:=List Key×aB×aB
def xM{I d:aB}{fp wr:List aB}{its:Array am}{St:Nat->bJ->Prop}{R:Result->au->Prop}{h0:bJ}{ps:List Pr}{res:am}(W:Walks prog w A.in1 I fp wr its.size (λi v=>its[i]?=aa v) St)(hu:A.units+2<cI)(hf:d∉fp)
  (hl:ps.length=its.size)(hi:∀(i:Nat)(p:Pr),ps[i]?=aa p->its[i]?=aa (bO p.2.2))
  (hp:∀p∈ps,iA h0 p.2.2 [bO p.2.1,be ag].toArray/\(cw<|ZC prog w).is h0 p.1 p.2.1/\p.2.2∉wr/\p.2.2≠d/\p.2.1∉wr/\p.2.1≠d)(hn:(ps.map (·.1)).Nodup)(hz:ps.length<=aQ) :
  ∀(k i:Nat)(s:au),i+k=its.size->i<=its.size->St i s.heap->(∀b o,b∉wr->b≠d->h0.get? b=aa o->s.heap.get? b=aa o)->
  s.heap.DictOfH (cw<|ZC prog w) d ((ps.take i).map λp=>(p.1,p.2.1,be ag))->
  (∀h' tk,(∀b o,b∉wr->b≠d->h0.get? b=aa o->h'.get? b=aa o)->h'.DictOfH (cw<|ZC prog w) d (ps.map λp=>(p.1,p.2.1,be ag))->R (.ok<|.ret res) {s with heap:=h',toks:=tk})->
  gb (ba prog w) A (.builtin "dict.update.loop" #[[.ref d,.ref I,f8 i,res],[]]) R s:=by
 intro k
 induction k with
 |zero=>
  intro i s hk hi' hst kp dd hR;subst hk;refine codeAny_builtin V4 ?_;rw[gK XC _];show aS _ A.in1 (i7 (.ref I) >>= _) _ _ s;refine af<|W.done s _ _ hst λh' tk hk'=>?_
  refine af<|ay<|ay<|hR h' tk (λb o hb hd z=>hk' b o hb<|kp b o hb hd z) ?_
  rw[dg<|by omega]at dd
  exact XM dd (λo e=>hk' _ o (λz=>hf<|W.sub _ z) e) λx hx o e=>by
   obtain⟨y,hy,rfl⟩:=az.mp hx;exact hk' _ o (hp y hy).2.2.2.2.1 e
 |succ k ih=>
  intro i s hk hi' hst kp dd hR;have hlt:i<its.size:=by omega
  have hp':=hp _<|aJ (l:=ps) (n:=i) (by omega)
  have hv:=hi i _<|ao (l:=ps) (i:=i) (by omega)
  refine codeAny_builtin V4 ?_;rw[gK XC _];show aS _ A.in1 (i7 (.ref I) >>= _) _ _ s;refine af<|W.item i s _ _ hlt hst λv h' tk hP hst' hk'=>?_
  rw[hv]at hP;cases hP;obtain⟨p1,p2,p3,p4,p5,p6⟩:=hp';have kp2:∀b o,b∉wr->b≠d->h0.get? b=aa o->h'.get? b=aa o:=λb o hb hd z=>hk' b o hb<|kp b o hb hd z
  have dd2:h'.DictOfH (cw<|ZC prog w) d ((ps.take i).map λp=>(p.1,p.2.1,be ag)):=XM dd (λo e=>hk' _ o (λz=>hf<|W.sub _ z) e) λx hx o e=>by
   obtain⟨y,hy,rfl⟩:=az.mp hx;exact hk' _ o (hp y<|gL hy).2.2.2.2.1 e
  obtain⟨po,g1,g2,pn,g3⟩:=p1;refine af<|bS<|af<|wpAny_tryCatch<|J2 (its:=[bO ps[i].2.1,be ag].toArray) #[po,kp2 _ _ p3 p4 g1,g2,pn,g3] ?_;have hsz:((ps.take i).map λp=>(p.1,p.2.1,be ag)).length<=aQ:=by rw[aw,bC];exact bx (i9 ..) hz
  refine bS<|wpAny_dictSet_heap (hsz:=hsz) (ir<|by omega) (zh p2 λo e=>kp2 _ o p5 p6 e) dd2 λh2 dd3 sb=>?_
  refine ay #[plainId_quiet XC _,ih (i+1) _ (by omega) hlt (W.frame _ _ _ hst' λb hb o e=>(sb.2 b λz=>hf<|z▸hb).trans e) (λb o hb hd z=>(sb.2 b hd).trans<|kp2 b o hb hd z) ?_ hR]
  have hnew:kS ((ps.take i).map λp=>(p.1,p.2.1,be ag)) ps[i].1=ab:=by
   unfold kS;rw[gn,iz];intro x hx z;obtain⟨y,hy,rfl⟩:=az.mp hx;have hn2:=hn;rw[<-List.take_append_drop i ps,cU,List.nodup_append,ck<|by omega]at hn2
   exact hn2.2.2 _ (gW hy) _ (gW al)<|T6 z
  rw[storedH_new hnew]at dd3;rw[List.take_add_one,ao (by omega),cU]
  exact dd3
def Gm{s:au}{l:aB}{its:Array am}{n:Nat}{ps:List Pr}{Q:am->au->Prop}(hh:A.handled=ab)(hu:A.units+3<cI)(hx:s.heap.get? l=aa {cls:=.type "list",data:=.seq its n})
  (hl:ps.length=its.size)(hi:∀(i:Nat)(p:Pr),ps[i]?=aa p->its[i]?=aa (bO p.2.2))
  (hp:∀p∈ps,iA s.heap p.2.2 [bO p.2.1,be ag].toArray/\(cw<|ZC prog w).is s.heap p.1 p.2.1)(hn:(ps.map (·.1)).Nodup)(hz:ps.length<=aQ)
  (h:∀h' tk,(∀b o,s.heap.get? b=aa o->h'.get? b=aa o)->h'.DictOfH (cw<|ZC prog w) s.heap.objs.size (ps.map λp=>(p.1,p.2.1,be ag))->Q (.ref s.heap.objs.size) {s with heap:=h',toks:=tk}) :
  aS (ba prog w) A (call (.type "dict") [.ref l]) Q E s:=by
 refine callType_codes (Q₁:=λobj s₁=>obj=.ref s.heap.objs.size/\s₁={s with heap:=s.heap.push {cls:=.type "dict",data:=.dict #[]}}) F.kt_called_dict (F.kt_typeCall_dict_1 _) F.entry_dict_init (kt_code_dict_new _ #[rfl,rfl]) ?_
 rintro obj s₁ ⟨rfl,rfl⟩
 have hnew:(s.heap.push {cls:=.type "dict",data:=.dict #[]}).DictOfH (cw<|ZC prog w) s.heap.objs.size []:=bJ.DictOfH.new s.heap;have hx':=ap {cls:=.type "dict",data:=.dict #[]} hx;refine#[hnew.typeIs (s:={s with heap:=_}),F.args_dict_init_2 _ _,?_]
 unfold dR.«dict.__init__»;refine af ?_;unfold dR.Dict.selfAndRest;refine af<|wpAny_notOrdered_dict (hnew.typeIs (s:={s with heap:=_})) ?_
 show aS _ _ (cb (s.heap.objs.size,[bO l])) _ _ _;refine ay ?_;show aS _ _ (fZ "dict.__init__" s.heap.objs.size (.ref l) [] .none) _ _ _;unfold fZ;refine af<|dD (T:="list") #[_,hx',rfl] ?_;rw[T9 (by decide)]
 refine af<|yn hx' hh λh1 t1 k1=>?_
 rw[T9<|show(ab:Option am).isNone=ag from rfl]
 have hx1:=k1 _ _ hx';obtain⟨od,es,ep,g1,g2⟩:=id hnew;have hd1:s.heap.objs.size<h1.objs.size:=aC<|k1 _ _ g1;have hl0:l<s.heap.objs.size:=aC hx;refine af<|dv<|af<|dq (items:=its) #[_,hx1,rfl,n,rfl]<|ay #[plainId_quiet XC _,?_];have lt:∀{b:aB}{o:dJ},s.heap.get? b=aa o->b∉[h1.objs.size]/\b≠s.heap.objs.size:=λ{b o} e=>by
  have q:=aC e;exact#[λz=>T7 (aK.mp z)<|bn<|gj q hd1,bn q]
 refine xM (A:=A.in1) (h0:=s.heap) (ps:=ps) (i:=0) (s:={s with heap:=h1.push<|Yj ag l,toks:=t1}) (UA (A:=A.in1.in1) hh ag h1.objs.size l (bn<|gj hl0 hd1) its) (by show A.units+1+2<cI;omega) (λz=>?_) hl hi (λp hq=>?_) hn hz _ (iY _) (df _) #[Gx,?_] (λb o _ _ e=>ap _<|k1 _ _<|ap _ e) ?_ λh' tk kp dd=>#[rfl,h h' tk (λb o e=>kp b o (lt e).1 (lt e).2 e) dd]
 .simp only[ar,aR,or_false]at z
  rcases z with z|z
  .exact bn hd1 z
  .exact dY hl0 z
 .obtain⟨x1,x2⟩:=hp p hq
  obtain⟨_,y1,_⟩:=id x1;obtain⟨_,_,_,y2,_⟩:=id x2;exact#[x1,x2,(lt y1).1,(lt y1).2,(lt y2).1,(lt y2).2]
 .exact#[_,ap _ hx1,rfl,n,rfl]
 .exact XM hnew (λo e=>ap _<|k1 _ _ e) λx hx=>by cases hx
end
section
variable{X:Cx}{xw:Nat->Hp->Prop}{O:Mx}{H:Hp}
theorem QN:∀{ds:List D}{ks:List (List Int)}{ys:List V},Pv.XU ds=aa ks->Rq O H ds ys->∃ps:List Pr,ps.map (·.1)=ks.map (·.map bU)/\ps.length=ys.length/\
  ∀(i:Nat)(p:Pr),ps[i]?=aa p->ys[i]?=aa (.ref p.2.2)/\H p.2.2=aa (.tup [.ref p.2.1,.bl ag])/\H p.2.1=aa (.tup<|p.1.map kV)
 |[],ks,ys,h,r=>by
  cases h;subst r;exact#[[],rfl,rfl,λi p e=>by simp at e]
 |d::ds,ks,ys,h,r=>by
  obtain⟨v,vs,rfl,r1,r2⟩:=r;obtain⟨a,e1,h⟩:=aO.mp (h)
  obtain⟨b,e2,rfl⟩:=aW.mp h;obtain⟨ps,h1,h2,h3⟩:=QN e2 r2;unfold Pv.qt at e1;split at e1
  .split at e1
   .rename_i k b hb
    subst hb;obtain⟨p,zs,rfl,hp,rz⟩:=r1.tup';obtain⟨u,u2,rfl,ru,ru2⟩:=JA rz;rw[ru2.bl']at hp;obtain⟨q,ws,rfl,hq,rw'⟩:=ru.tup';rw[Wg e1 rw']at hq;refine#[(a.map bU,q,p)::ps,by rw[aN,h1];rfl,by simp[h2],λi y hy=>?_]
    cases i with|zero=>simp at hy;subst hy;exact#[rfl,hp,hq]|succ i=>exact h3 i y (by simpa using hy)
   .cases e1
  .cases e1
def Ug(hc:X.calm=ag)(hu:X.A.units+7<cI):ZL X (.type "dict") (Vu X.K xw .dictP):=by
 intro pq s U H vs us Q I r h;obtain⟨O,S,ds,st,rs,h⟩:=h;obtain⟨d,v,z,rfl,r1,hz,h3⟩:=VH h rs;have hd:∃ds ks,d=.lst ds/\Pv.XU ds=aa ks/\Ev.W9 ks=ag/\z=.dct (.inr ks):=by
  cases d with
  |lst ds=>
   obtain⟨ks,hk,hz⟩:=aO.mp hz;split at hz
   .cases hz;exact#[ds,ks,rfl,hk,‹_›,rfl]
   .cases hz
  |_=>exact Ev.nos hz
 obtain⟨ds,ks,rfl,hk,hok,rfl⟩:=hd;obtain⟨l,ys,rfl,hl,_,ry⟩:=r1.lst';obtain⟨u,rfl,ru⟩:=Vr r;cases ru;obtain⟨ps,p1,p2,p3⟩:=QN hk ry;obtain⟨_,its,c,rv,hg⟩:=(show Z5 X.prog X.w H s.heap l (.lst ys)from I.hok l _ hl)
 obtain⟨k1,k2⟩:=(ax _ _).mp hok;have hn:(ps.map (·.1)).Nodup:=by
  rw[p1];exact List.Pairwise.map _ (λa b ne e=>ne<|U3 e)<|T6 k2
 have hlen:ps.length=ks.length:=by have:=congrArg kz p1;simpa using this
 have hz:ps.length<=aQ:=by rw[hlen,<-Y4];exact T6 k1
 have hp0:H s.heap.objs.size=ab:=I.hok.fresh<|aD _;refine Gm (I.ok.hd hc) (by omega) hg (by rw[p2,rv.length,aq]) (λi p e=>?_) (λp hp=>?_) hn hz λh' tk kp dd=>?_
 .obtain⟨w',g',ru'⟩:=rv.get (p3 i p e).1
  rw[show w'=.ref p.2.2 from ru']at g'
  simpa using g'
 .obtain⟨i,hi,e⟩:=bL hp
  obtain⟨_,a2,a3⟩:=p3 i p (by rw[<-e];exact ao hi)
  obtain⟨_,zs,rz,tz⟩:=(show Z5 X.prog X.w H s.heap p.2.2 (.tup [.ref p.2.1,.bl ag])from I.hok _ _ a2)
  refine#[?_,JM I.hok a3];cases rz with
  |cons x rz=>cases rz with
   |cons y rz=>
    cases rz;cases(show _=bO p.2.1 from x)
    cases(show _=be ag from y)
    exact tz
 .obtain⟨od,es,ep,g1,g2,g3,g4,g5,g6⟩:=dd
  have hb:(s.heap.objs.size == cm)=ai:=beq_eq_false_iff_ne.mpr<|dY I.big;have hpr:∀{l:List Pr},(∀p∈l,H p.2.1=aa (.tup<|p.1.map kV))->Paired (λ(p:List Key×V) (q:List Key×aB×am)=>p.1=q.1/\upd H s.heap.objs.size (.frz od<|.dT<|ps.map λp=>(p.1,V.bl ag)) q.2.1=aa (.tup<|p.1.map kV)/\ZA p.2 q.2.2) (l.map λp=>(p.1,V.bl ag)) (l.map λp=>(p.1,p.2.1,be ag)):=λ{l}=>by
   induction l with|nil=>intro _;exact .nil|cons p l ih=>intro hl;exact .cons #[rfl,by rw[Zq<|Ya (hl p al) hp0];exact hl p al,rfl]<|ih λq hq=>hl q<|ak _ hq
  refine#[.ref s.heap.objs.size,upd H s.heap.objs.size<|.frz od<|.dT<|ps.map λp=>(p.1,V.bl ag),I.laid (t':=tk) kp (aD _) (show Z5 X.prog X.w _ h' _ (.frz od<|.dT<|ps.map λp=>(p.1,V.bl ag))from#[g1,by rw[aw];exact hz,hb,ps.map λp=>(p.1,p.2.1,be ag),hpr λp hp=>?_,od,es,ep,g1,g2,g3,g4,g6]),rfl,?_]
  .obtain⟨i,hi,e⟩:=bL hp
   exact(p3 i p<|by rw[<-e];exact ao hi).2.2
  .exact h3 O _ _ (Zs hp0) (st.fresh hp0) (by unfold Rep;exact#[_,rfl,od,_,Zu,by rw[bB];exact p1])
end
section
variable{X:Cx}{xw:Nat->Hp->Prop}{fr:Bool}{C:Calls}{ns:List Nat}{e a:Expr}{i:E}{pos p p' p2:fA}{n:Nat}{x:bc}{q:Option bc}
def vP{q}(ha:CE X xw C a i):CE X xw C (.Subscript a (.Constant (.int 0) q p2) pos) (.dix i ai):=.mk <| PE.imp (ve Qa ha.h Wi<|by intro _ _;with_unfolding_all rfl)<|by
 rintro U H Q ⟨O,l,S,st,lr,h⟩;rw[Pv.pv]at h;refine#[O,l,S,st,lr,h.bind λx S1 ρ1 H1 v f1 st1 r1 h1=>?_]
 cases x with|drw=>obtain⟨p,rfl,hn⟩:=r1.drw';exact#[p,_,0,_,rfl,rfl,SqL.of (st1.dw p hn).1,rfl,End.ok h1 st1<|ZY _]|_=>exact h1.elim
def uF{q}(ha:CE X xw C a i):CE X xw C (.Subscript a (.Constant (.int 1) q p2) pos) (.dix i ag):=.mk <| PE.imp (ve Qa ha.h Wi<|by intro _ _;with_unfolding_all rfl)<|by
 rintro U H Q ⟨O,l,S,st,lr,h⟩;rw[Pv.pv]at h;refine#[O,l,S,st,lr,h.bind λx S1 ρ1 H1 v f1 st1 r1 h1=>?_]
 cases x with|drw=>obtain⟨p,rfl,hn⟩:=r1.drw';exact#[p,_,1,_,rfl,rfl,SqL.of (st1.dw p hn).1,rfl,End.ok h1 st1<|Yd _]|_=>exact h1.elim
def uX{q}(he:CE X xw C e i)(hN:X.N[n]?=aa x)(hv:Vis X.env.scope x)(hd:(x == ("__debug__" : bc))=ai)
  (hcd:(x == ("__classdict__" : bc))=ai)
  (ha:∀v,b0 (.Subscript (.Name x p') (.Constant (.int 0) q p2) p) X.env v=(do
   let ov <-dC [v] (b9 (.Name x p') X.env)
   let iv <-dC [v,ov] (b9 (.Constant (.int 0) q p2) X.env)
   gS p
   dC [v,ov,iv] (kJ ov iv v)
   lj [v,ov,iv] []))(hs:cc [.Subscript (.Name x p') (.Constant (.int 0) q p2) p] e pos.line X.env=cb ai)(hw:cf [.Subscript (.Name x p') (.Constant (.int 0) q p2) p] e X.env=cb ab)
  (h1:(bv [.Subscript (.Name x p') (.Constant (.int 0) q p2) p] X.env).map (·.2)=[b0 (.Subscript (.Name x p') (.Constant (.int 0) q p2) p) X.env]):CS X xw fr C ns (.Assign [.Subscript (.Name x p') (.Constant (.int 0) q p2) p] e pos) (.dset n i):=.mk <|
 PS.imp (XX he.h (JJ (Y7 hN hv hd hcd) Wi (VD (X:=X)) ha) hs hw h1)<|by
 rintro D U H ⟨O,H0,W,l,os,S,st,en,h⟩;rw[Pv.rv]at h;refine#[O,l,S,st,en.all,Zw.bind en h λy S1 H1 v f1 st1 r1 h1=>?_]
 cases y with
 |int y=>
  obtain⟨hk,h1⟩:=h1.guard;have hx:l[n]?=aa (aa .drw):=by
   cases z:l[n]? with
   |none=>rw[z]at h1;exact h1.elim
   |some o=>cases o with
    |none=>rw[z]at h1;exact h1.elim
    |some d=>cases d<;>rw[z]at h1<;>first|rfl|exact h1.elim
  rw[hx]at h1;obtain⟨u,hu,r⟩:=(en.mono f1).all.val n .drw hx;obtain⟨a,rfl,hn⟩:=r.drw';obtain⟨e1,_⟩:=st1.dw a hn;refine#[.ref a,hu,a,_,0,0,rfl,rfl,e1,rfl,?_];rw[r1.int'];have f2:Fut O H1 O (upd H1 a<|.lst [.int y,.bl S1.2]):=#[rfl,λb o z=>by
   by_cases c:b=a
   .subst c;rw[e1]at z;cases z;exact .inr<|.inl #[hn,_,rfl]
   .exact .inl (by rw[Zq c];exact z)]
  refine h1 _ U W #[st1.hk,λb x=>?_,λb x=>?_,st1.tb.upd (λo u z=>by rw[e1]at z;cases z) λ_ z=>by cases z]<|(en.mono f1).mono f2
  .by_cases c:b=a
   .rw[c];show upd _ _ _ _≠ab;rw[Zu];intro z;cases z
   .show upd _ _ _ _≠ab;rw[Zq c];exact st1.xd b x
  .rw[hn]at x
   cases x;exact#[Zu,hk]
 |_=>exact h1.elim
end
open Ev in
noncomputable def XR:Fn:=#[2,4,
 [.ite (.dix (.v 0) ag) [.asg [2]<|.bin .mod (.dix (.v 0) ai)<|.v 1,
  .dset 0 (.bin .fdiv (.dix (.v 0) ai)<|.v 1),
  .ret (.v 2)] [],
  .dset 0 (.bin .mod (.bin .add (.bin .mul (.dix (.v 0) ai)<|.c<|.int 48271)<|.c<|.int 29)<|.c<|.int 2147483647),
  .asg [3] (.bin .mod (.bin .add (.bin .add (.bin .mul (.dix (.v 0) ai)<|.dix (.v 0) ai)<|.bin .mul (.c<|.int 39373)<|.dix (.v 0) ai)<|.c<|.int 7)<|.c<|.int 2147483629),
  .asg [3] (.bin .mod (.bin .add (.bin .mul (.v 3)<|.v 3)<|.bin .mul (.c<|.int 16807)<|.v 3)<|.c<|.int 2147483587),
  .ret (.bin .mod (.bin .fdiv (.v 3)<|.c<|.int 8)<|.v 1)]]
open Ev Pv in
def Xx(h0:0<=a)(h:a<4294967296):fits a=ag:=by
 refine T5 ?_;have h1:a.natAbs<2^32:=by lia
 exact aX h1<|dA (by decide) (by decide)
open Ev Pv in
def ZG{C:Calls}{s:Zp}{m:Int}(h:okS s.1 s.2=ag)(m0:0<m)(m1:m<1073741824):QS C XR [.drw,.int m] s=.ok (.int (Xi s m).1) (Xi s m).2:=by
 obtain⟨a,b⟩:=s;unfold okS at h;have hm:muts XR.body=[]:=rfl;unfold QS;rw[hm];have ha:0<=a:=T6 ((ax _ _).mp h).1;have lt8:(8:Int)<big:=x9 (by decide)
 cases b with
 |true=>
  have o2:okS (a / m) ag=ag:=by simp[okS];exact Int.ediv_nonneg ha (by lia)
  simp[XR,Xi,rvs,rv,pvA,Pv.pv.eq_1,Pv.pv.eq_2,Pv.pv.eq_7,Pv.pv.eq_28,Xp,PR.bind,po,Zo,ZM,ofD,Yt,Pv.VZ,m0,m1,x9 m1,o2,hide]
 |false=>
  have hb:a<2147483647:=by simpa using((ax _ _).mp h).2
  have h1:=Xx ha (by lia)
  have x0:0<=(a*48271+29)%2147483647:=by lia
  have x1:(a*48271+29)%2147483647<2147483647:=by lia
  generalize hxx:(a*48271+29)%2147483647=x at x0 x1;have y0:0<=(x*x+39373*x+7)%2147483629:=by lia
  have y1:(x*x+39373*x+7)%2147483629<2147483629:=by lia
  generalize hyy:(x*x+39373*x+7)%2147483629=y at y0 y1;have f1:=Xx x0 (by lia)
  have f2:=Xx y0 (by lia)
  have f3:fits 48271=ag:=Xx (by lia) (by lia)
  have f4:fits 39373=ag:=Xx (by lia) (by lia)
  have f5:fits 16807=ag:=Xx (by lia) (by lia)
  have o2:okS x ai=ag:=by simp[okS,x0,x1]
  simp[XR,Xi,rvs,rv,pvA,Pv.pv.eq_1,Pv.pv.eq_2,Pv.pv.eq_7,Pv.pv.eq_28,Xp,PR.bind,po,Zo,ZM,ofD,Yt,Pv.VZ,m0,m1,lt8,h1,hxx,hyy,f1,f2,f3,f4,f5,o2,hide]
def u4{K:aj}{F:List Fn}{tk d:Nat}:∀O S H ds vs,St3 K O S H->Rq O H ds vs->Pv.Zl F tk (d+1) tk ds S=.no\/Pv.Zl F tk (d+1) tk ds S=QS (Pv.Zl F tk d) XR ds S:=λO S H ds vs st r=>by
 rw[Pv.Zl,T9 rfl];unfold Pv.qv;split
 .rename_i m
  obtain⟨v,u,rfl,r1,_⟩:=JA r;obtain⟨a,_,hn⟩:=r1.drw';split
  .rename_i hm
   exact .inr (ZG (st.dw a hn).2 hm.1 hm.2).symm
  .exact .inl rfl
 .exact .inl rfl
def qk{K:aj}{F:List Fn}{tk n d:Nat}{fn:Fn}(hn:n≠tk)(hf:F[n]?=aa fn):∀O S H ds vs,St3 K O S H->Rq O H ds vs->Pv.Zl F tk (d+1) n ds S=.no\/Pv.Zl F tk (d+1) n ds S=QS (Pv.Zl F tk d) fn ds S:=λO S H ds vs st r=>by
 rw[Pv.Zl,T8 hn,hf]
 all_goals exact .inr rfl
def uG(h:Pv.Vz v=aa d):v=.lst [.int d.1,.bl d.2]/\Pv.okS d.1 d.2=ag:=by
 unfold Pv.Vz at h;split at h
 .split at h
  .cases h;exact#[rfl,‹_›]
  .cases h
 .cases h
def Jg{l:Lc}{i:Nat}{d:D}(h:(l.map Pv.WL)[i]?=aa (aa d)):l[i]?=aa (aa d)/\d.flat=ag:=by
 rw[aV]at h;cases q:l[i]? with
 |none=>rw[q]at h;cases h
 |some o=>
  rw[q]at h;have h:=ah h;obtain⟨a,b⟩:=Option.filter_eq_some_iff.mp h;exact#[by rw[a],b]
def wO{n:Nat}{l:Lc}{i:Nat}{d:D}(h:(Pv.Wc n l)[i]?=aa (aa d)):l[i]?=aa (aa d)/\d.flat=ag:=by
 unfold Pv.Wc at h;rw[List.getElem?_append]at h;split at h
 .obtain⟨a,b⟩:=Jg h
  rw[List.getElem?_take]at a;split at a
  .exact#[a,b]
  .cases a
 .rw[bP]at h
  split at h<;>cases h
def QW :(Pv.Wc n l).length=l.length:=by
 unfold Pv.Wc;rw[aP,aw,bC,bM];omega
def tCl(X:Cx)(xw:Nat->Hp->Prop)(C:Calls)(fi:Nat)(is:List E):TE:=λU H Q=>tA X xw (Pv.pvs C is) U H λvs H1=>∃O ds S,St3 X.K O S H1/\Rq O H1 ds vs/\End X.K xw (XG ag H1) O H1 Q (C fi ds S)
def js{xw:Nat->Hp->Prop}{fi:Nat}{y:bc}{es:List Expr}{is:List E}{ss:List dG}{B:List Sm}(hc:PE X (.Call (.Name y p') (e::es) [] p) (tCl X xw C fi is))(hB:CSs X xw fr C ns ss B)(hN:X.N.Nodup)
  (hi:X.N[n]?=aa x:=by rfl)(hx:L2.Loc X.env.scope x:=by first|exact Or.inl rfl|exact kj rfl)(hf:X.fn x=ag\/X.env.scope.names.lookup x=aa .local:=by first|exact .inl rfl|exact .inr rfl)
  (hs:cc [.Name x px] (.Call (.Name y p') (e::es) [] p) pos.line X.env=cb ai:=by rfl)(hw:cf [.Name x px] (.Call (.Name y p') (e::es) [] p) X.env=cb ab:=by rfl)
  (h1:(bv [.Name x px] X.env).map (·.2)=[b0 (.Name x px) X.env]:=by rfl) :
  CSs X xw fr C ns (.Assign [.Name x px] (.Call (.Name y p') (e::es) [] p) pos::ss) [.cel n fi is B]:=.mk <|
 PSs.imp (Jm (XX hc (W2 hN hi hx hf) hs hw h1) hB.h)<|by
 rintro D U H ⟨O,H0,W,l,os,S,st,en,h⟩;have h:Zw fr X.K xw O H0 D (Pv.rv C ns (.cel n fi is B) l os S):=by
  rw[Pv.rvs]at h;cases q:Pv.rv C ns (.cel n fi is B) l os S with|no=>rw[q]at h;exact h|ex c s=>rw[q]at h;exact h|ok g s=>rw[q]at h;cases g<;>exact h
 rw[Pv.rv]at h;obtain⟨ho,h⟩:=h.guard;refine#[O,l,S,st,en.all,Zw.bind en h λxs S1 H1 vs f1 st1 r1 h1=>?_]
 refine#[O,xs,S1,st1,r1,Zw.bind (en.mono f1) h1 λv S2 H2 u f2 st2 r2 h2=>?_]
 obtain⟨d,hd,h3⟩:=Zw.ob h2;obtain⟨rfl,hok⟩:=uG hd;obtain⟨a,rfl,na⟩:=r2.2 rfl _ rfl;obtain⟨_,us,z,ea,_,ru⟩:=r2.1.lst';cases z;obtain⟨u1,u2,rfl,q1,q2⟩:=JA ru;cases q1.int';cases q2.bl';have en2:=(en.mono f1).mono f2;have nX:∀q,O.X q->q≠a:=λq x z=>st1.xd q x<|z▸na
 let ρ':Mx:=#[O.K,aa a,λq=>O.X q\/q=a,λq h=>.inr (ah h).symm]
 have st':St3 X.K ρ' d H2:=#[st2.hk,λq x=>x.elim (st2.xd q) λz=>(by rw[z,ea];intro w;cases w),λq x=>(by cases x;exact#[ea,hok]),st2.tb]
 have en':Eu ρ' H2 (λ_=>ab) ((Pv.Wc n l).set n<|aa .drw) [] (U.set n<|aa<|.ref a) H2:=by
  refine#[Fut.refl _ _,st'.xd,by rw[bg,bg,QW];exact en.len,λ_=>rfl,λ_ _ _ z=>?_,λ_ _ z=>?_,λ_ _ z=>?_,λi w q _=>?_]
  .cases z
  .cases z
  .cases z
  .rcases Qh q with⟨rfl,z,hl⟩|⟨c,z⟩
   .cases z
    exact#[.ref a,bu (by rw[<-en.len,<-QW];exact hl),by exact#[a,rfl,rfl]]
   .obtain⟨z,hfl⟩:=wO z
    obtain⟨v,hv,r⟩:=en2.all.val i w z;exact#[v,by rw[aT c];exact hv,Rep.flat (O:=O) (ρ':=ρ'.ex λ_=>ab) rfl (λ_ _ z _ _=>z) hfl r]
 have n0:∀{b},b≠a->ρ'.n0≠aa b:=λc w=>T7 (ah w).symm c
 have keep:∀{H'},Fut ρ' H2 ρ' H'->∀b o,b≠a->H2 b=aa o->(∀ps,o≠.tbl ps)->H' b=aa o:=λ{H'} f b o c z n=>(f.keep b o z).elim id λw=>w.elim (λw=>T7 w.1<|n0 c) λ#[#[ps,e],_]=>T7 e<|n ps
 have back:∀{H':Hp}{s:Zp},Fut ρ' H2 ρ' H'->St3 X.K ρ' s H'->St3 X.K O S2 H'/\Fut O H0 O H':=λ{H' s} f w=>by
  refine#[#[st2.hk,λq x=>?_,λq x=>?_,w.tb],rfl,λb o z=>?_]
  .exact f.there (n0<|nX q x)<|st2.xd q x
  .obtain⟨e1,e2⟩:=st2.dw q x
   exact#[keep f q _ (nX q<|O.xz q x) e1 (by intro _ z;cases z),e2]
  .have ne:b≠a:=λc=>by rw[c,Jx (en.mono f1) st1 na]at z;cases z
   rcases en2.fut.keep b o z with y|y|⟨e,ps,y⟩
   .rcases f.keep b o y with q|q|q
    .exact .inl q
    .exact T7 q.1<|n0 ne
    .exact .inr<|.inr q
   .exact .inr<|.inl y
   .rcases f.keep b _ y with q|⟨_,xs,q⟩|⟨_,q⟩
    .exact .inr<|.inr #[e,ps,q]
    .cases q
    .exact .inr<|.inr #[e,q]
 have backE:∀{H':Hp}{s:Zp}{W':Own}{l':Lc}{os':List Nat}{σ':L2.St},Eu ρ' H2 W' l' os' σ' H'->St3 X.K ρ' s H'->St3 X.K O S2 H'/\Eu O H0 (λ_=>ab) (l'.map Pv.WL) [] σ' H':=λ{H' s W' l' os' σ'} g w=>by
  obtain⟨a1,a2⟩:=back g.fut w;refine#[a1,a2,en.xd,by rw[aw];exact g.len,λ_=>rfl,λ_ _ _ z=>?_,λ_ _ z=>?_,λ_ _ z=>?_,λi w q _=>?_]
  .cases z
  .cases z
  .cases z
  .obtain⟨z,hfl⟩:=Jg q
   obtain⟨v,hv,r⟩:=g.all.val i w z;exact#[v,hv,Rep.flat (O:=ρ') (ρ':=O.ex λ_=>ab) rfl (λ_ _ z _ _=>z) hfl r]
 refine#[ρ',H2,λ_=>ab,_,[],d,st',en',?_]
 cases q:Pv.rvs C ns B ((Pv.Wc n l).set n<|aa .drw) [] d with
 |no=>rw[q]at h3;exact h3
 |ex c s=>rw[q]at h3;exact h3.elim
 |ok g s=>
  rw[q]at h3;cases g with
  |nx l' os'=>exact λH' σ' W' w g=>let #[a1,a2]:=backE g w;h3 H' σ' _ a1 a2
  |brk l' os'=>exact λH' σ' W' w g=>let #[a1,a2]:=backE g w;h3 H' σ' _ a1 a2
  |cnt l' os'=>exact λH' σ' W' w g=>let #[a1,a2]:=backE g w;h3 H' σ' _ a1 a2
  |ret v=>
   obtain⟨hfl,h3⟩:=Zw.guard h3;exact λH' v' f w r=>let #[a1,a2]:=back f w;h3 H' v' a2 a1 #[Rep.flat (O:=ρ') (ρ':=O) rfl (λ_ _ z _ _=>z) hfl r.1,λ_ ds z=>by rw[z]at hfl;cases hfl]
open Ev (ltI YG ZR Yp)
end Sd
namespace Sd
open PySem PySem.Spec PyProof.Rows
open L2
open Ev (E Sm Fn Bop Cop Ty Bf Mf)
end Sd
namespace Sd
open PySem PySem.Spec PyProof.Rows
open L2
end Sd
namespace Sd
open PySem PySem.Spec PyProof.Rows
open L2
open Ev (ltI YG ZR)
open Ev (E Sm Fn Bop Cop Ty Bf Mf spcs qD Yp)
end Sd
namespace Sd
open PySem PyProof.Rows L2 Ev
variable{X:Cx}{xw:Nat->Hp->Prop}{C:Calls}{ns:List Nat}{e:Expr}{i:E}{pos:fA}
end Sd
namespace Sd
open PySem PySem.Spec PyProof.Rows L2
open Ev (ltP VX Xe)
open Ev (E Sm Fn Bop Cop Ty Bf Mf w4 Ys)
open Ev (So)
open PySem.Builtin.Str (occurrences partsBetween strKind)
theorem Jb{P:br}{w:bK}{h:bJ}:∀{es:List eX}{vs:List (Key×am)}{kvs:List (Int×Int)},Pairs (ZC P w) es vs->KV (kvs.map λp=>((bU p.1:Key),V.int p.2)) vs->
  iZ h (es.map (·.key)) (kvs.map λp=>PyData.int p.1) []/\iZ h (es.map (·.val)) (kvs.map λp=>PyData.int p.2) []
 |[],[],[],_,_=>#[.nil,.nil]
 |e::es,v::vs,p::kvs,h1,h2=>by
  cases h1 with
  |cons k w ps=>
   cases h2 with
   |cons r rs=>
    obtain⟨a,b⟩:=Jb (h:=h) ps rs;obtain⟨r1,t,r2⟩:=r;have k:VN (bU p.1) e.key=ag:=by rw[show(bU p.1:Key)=v.1 from r1];exact k
    rcases ZK k with⟨i,u,e1,e2⟩|⟨x,u,e1,_⟩
    .have e1:=kx e1
     refine#[?_,?_]
     .show iZ h (e.key::_) _ ([]++[])
      rw[e2,<-e1];exact .cons (.int _ _) a
     .show iZ h (e.val::_) _ ([]++[])
      rw[w,r2];exact .cons (.int _ _) b
    .cases e1
 |[],[],_::_,_,h2=>by cases h2
 |_::_,_::_,[],_,h2=>by cases h2
 |[],_::_,_,h1,_=>by cases h1
 |_::_,[],_,h1,_=>by cases h1
section
variable{X:Cx}{pq:List (aB×dJ)}{U:L2.St}{H:Hp}{s:au}{O:Mx}
mutual
theorem Js(I:Inv X pq U H s):∀{d:D}{v:V}{u:am}{p:PyData},Rep O H d v->ZA v u->Pv.pdV d=aa p->∃as,Reads s.heap u p as/\(Pv.noL d=ag->cm∉as)
 |.non,v,u,p,r,hu,hp=>by rw[r.non']at hu;rw[show u=eY from hu];cases hp;exact#[[],.none,λ_ z=>by cases z]
 |.bl b,v,u,p,r,hu,hp=>by rw[r.bl']at hu;rw[show u=be b from hu];cases hp;exact#[[],.bool b,λ_ z=>by cases z]
 |.int i,v,u,p,r,hu,hp=>by rw[r.int']at hu;obtain⟨t,rfl⟩:=hu;cases hp;exact#[[],.int i t,λ_ z=>by cases z]
 |.str x,v,u,p,r,hu,hp=>by rw[r.str']at hu;obtain⟨t,rfl⟩:=hu;cases hp;exact#[[],.str x t,λ_ z=>by cases z]
 |.tup ds,v,u,p,r,hu,hp=>by
  obtain⟨a,xs,rfl,ha,rs⟩:=r.tup';rw[show u=bO a from hu]
  obtain⟨ps,hq,rfl⟩:=aW.mp hp;obtain⟨z,its,rv,o,e,ec,n,ed⟩:=I.hok a _ ha;obtain⟨as,ra,hn⟩:=Wr I rs rv hq;exact#[as,.tuple e ec ed ra,hn]
 |.lst ds,v,u,p,r,hu,hp=>by
  obtain⟨a,xs,rfl,ha,_,rs⟩:=r.lst';rw[show u=bO a from hu]
  obtain⟨ps,hq,rfl⟩:=aW.mp hp;obtain⟨z,its,n,rv,e⟩:=I.hok a _ ha;obtain⟨as,ra,hn⟩:=Wr I rs rv hq;exact#[a::as,.list e rfl rfl ra,λz=>by cases z]
 |.dct (.inl kvs),v,u,p,r,hu,hp=>by
  obtain⟨a,rfl,ha⟩:=r.dct';rw[show u=bO a from hu]
  cases hp;obtain⟨z,hS,vs,kv,o,es,ep,e,ec,ed,_,pr,_⟩:=I.hok a _ ha;obtain⟨a1,a2⟩:=Jb pr kv (h:=s.heap);refine#[a::[]++[],.dict e ec.1 ed (by rw[bB];exact a1) (by rw[bB];exact a2),λ_ z=>?_]
  cases aK.mp z;exact T7 hS (by simp)
 |.dct (.inr _),_,_,_,_,_,hp|.drw,_,_,_,_,_,hp|.scr _,_,_,_,_,_,hp|.dow _,_,_,_,_,_,hp=>Ev.nos hp
theorem Wr(I:Inv X pq U H s):∀{ds:List D}{vs:List V}{us:List am}{ps:List PyData},Rq O H ds vs->Vals vs us->Pv.Gk ds=aa ps->∃as,iZ s.heap us ps as/\(Pv.x4 ds=ag->cm∉as)
 |[],vs,us,ps,r,hu,hp=>by
  unfold Rq at r;subst r;cases hu;cases hp;exact#[[],.nil,λ_ z=>by cases z]
 |d::ds,vs,us,ps,r,hu,hp=>by
  unfold Rq at r;obtain⟨v,vs',rfl,r1,r2⟩:=r;cases hu with
  |cons u1 u2=>
   obtain⟨p1,h1,hp⟩:=aO.mp hp;obtain⟨p2,h2,rfl⟩:=aW.mp hp;obtain⟨as,a1,a2⟩:=Js I r1 u1 h1;obtain⟨bs,b1,b2⟩:=Wr I r2 u2 h2;refine#[as++bs,.cons a1 b1,λz m=>?_]
   obtain⟨z1,z2⟩:=(ax _ _).mp z;exact(bw.mp m).elim (a2 z1)<|b2 z2
end
def vS{x:D}{d:PyData}(h:Pv.z9 x d=ag):d.showable=ag/\d.shown.length<=aQ/\d.depth<=20/\(d.hasDict=ag->Pv.noL x=ag):=by
 simp only[Pv.z9,ax,T3,cA,fO]at h;obtain⟨a,b,c,e,f⟩:=h;have:=PyData.shown_le_bulk 60 (by decide) d b
 have hz:aQ=16777216:=by decide
 exact#[a,by omega,e,λg=>f.elim (λz=>by rw[g]at z;cases z) id]
end
section
variable{X:Cx}{xw:Nat->Hp->Prop}{fr:Bool}{C:Calls}{ns:List Nat}{e a b c:Expr}{i j k:E}{pos p p' p2:fA}{s0:dG}{ms ms':List Sm}{n:Nat}{x:bc}
def xN{kk:Nat}(hr:Room kk X.A):ZL X (.builtin "repr") (Vu X.K xw .repr):=by
 rintro pq s U H vs us Q I rl ⟨O,S,ds,st,r,h⟩;obtain⟨d,v,z,rfl,r1,hz,h⟩:=VH h r;obtain⟨p,hp,hz⟩:=aO.mp<|show(Pv.pdV d).bind _=aa z from hz
 by_cases hc:Pv.z9 d p=ag
 case neg=>rw[T8 hc]at hz;exact Ev.nos hz
 rw[T9 hc]at hz;cases hz;obtain⟨o1,o2,o3,o4⟩:=vS hc;have un:=hr.units;obtain⟨u,rfl,ru⟩:=Vr rl;have q:∀{H':Hp},True:=trivial;cases d with
 |non=>rw[r1.non']at ru;rw[show u=eY from ru];cases hp;exact PySem.P.repr_of_none #[.str _,H,I.tok _,#[_,rfl],End.ok h st<|YM _]
 |bl b=>rw[r1.bl']at ru;rw[show u=be b from ru];cases hp;exact PySem.P.repr_of_bool #[.str _,H,I.tok _,#[_,rfl],End.ok h st<|YM _]
 |int i=>
  rw[r1.int']at ru;obtain⟨t,rfl⟩:=ru;cases hp;exact PySem.P.repr_of_int (by simpa only[PyData.showable,T3]using o1) #[.str _,H,I.tok _,#[_,rfl],End.ok h st<|YM _]
 |str y=>
  rw[r1.str']at ru;obtain⟨t,rfl⟩:=ru;cases hp;exact PySem.P.repr_of_str #[.str _,H,I.tok _,#[_,rfl],End.ok h st<|YM _] o2
 |drw=>exact Ev.nos hp
 |scr _=>exact Ev.nos hp
 |dow _=>exact Ev.nos hp
 |_=>
  obtain⟨as,rd,hn⟩:=Js I r1 ru hp;cases rd with
  |list e1 e2 e3 e4=>exact gM (.list e1 e2 e3 e4) o1 (λg=>hn<|o4 g) hr.gd (by omega) (λ_ _ e=>e) (λh' u tk hk=>#[.str _,H,I.kept (t':=tk) hk,#[_,rfl],End.ok h st<|YM _]) o2
  |tuple e1 e2 e3 e4=>exact gM (.tuple e1 e2 e3 e4) o1 (λg=>hn<|o4 g) hr.gd (by omega) (λ_ _ e=>e) (λh' u tk hk=>#[.str _,H,I.kept (t':=tk) hk,#[_,rfl],End.ok h st<|YM _]) o2
  |dict e1 e2 e3 e4 e5=>exact gM (.dict e1 e2 e3 e4 e5) o1 (λg=>hn<|o4 g) hr.gd (by omega) (λ_ _ e=>e) (λh' u tk hk=>#[.str _,H,I.kept (t':=tk) hk,#[_,rfl],End.ok h st<|YM _]) o2
  |_=>first|(obtain⟨a,xs,rfl,_⟩:=r1.tup';cases ru)|(obtain⟨a,xs,rfl,_⟩:=r1.lst';cases ru)|(obtain⟨a,rfl,_⟩:=r1.dct';cases ru)
def Zal{l:Pv.Env}{i j k:Nat}{w:D}{ys:List D}(h:Pv.Zaq l i j k w=aa ys):∃a b xs n m n' m',w=.tup [a,b]/\Pv.ZU [a,b]=ag/\Pv.XI l[i]?=aa xs/\
  l[j]?=aa (aa<|.int n)/\Ev.ixN xs.length n=aa n'/\l[k]?=aa (aa<|.int m)/\Ev.ixN xs.length m=aa m'/\ys=(xs.set n' a).set m' b:=by
 cases w with
 |tup zs=>
  match zs,h with
  |[a,b],h=>
   replace h:(if Pv.ZU [a,b]=ag then _ else ab)=aa ys:=h
   by_cases c:Pv.ZU [a,b]=ag
   case neg=>rw[T8 c]at h;exact Ev.nos h
   rw[T9 c]at h;obtain⟨xs,h1,h⟩:=aO.mp h;obtain⟨y,h2,h⟩:=aO.mp h;obtain⟨n,h3,h⟩:=aO.mp h;obtain⟨n',h4,h⟩:=aO.mp h;obtain⟨z,h5,h⟩:=aO.mp h;obtain⟨m,h6,h⟩:=aO.mp h;obtain⟨m',h7,h8⟩:=aW.mp h;cases Pv.WS h3;cases Pv.WS h6;exact#[a,b,xs,n,m,n',m',rfl,c,h1,f6.mp h2,h4,f6.mp h5,h7,h8.symm]
  |[],h=>exact Ev.nos h
  |[_],h=>exact Ev.nos h
  |_::_::_::_,h=>exact Ev.nos h
 |_=>exact Ev.nos h
def ZaI{m k:Nat}{y z:bc}{p1 p3 p4 p5 p6 pt:fA}{kt}(hc:X.calm=ag)(he:CE X xw C e (.tup [.ix (.v n)<|.v k,.ix (.v n)<|.v m]))(hN:X.N[n]?=aa x)(hv:Vis X.env.scope x)
  (hd:(x == ("__debug__" : bc))=ai)(hcd:(x == ("__classdict__" : bc))=ai)(hj:X.N[m]?=aa y)(hvj:Vis X.env.scope y)(hdj:(y == ("__debug__" : bc))=ai)(hcj:(y == ("__classdict__" : bc))=ai)
  (hk:X.N[k]?=aa z)(hvk:Vis X.env.scope z)(hdk:(z == ("__debug__" : bc))=ai)(hck:(z == ("__classdict__" : bc))=ai)
  (ha:∀v,b0 (.Subscript (.Name x p1) (.Name y p2) p3) X.env v=(do
   let ov <-dC [v] (b9 (.Name x p1) X.env)
   let iv <-dC [v,ov] (b9 (.Name y p2) X.env)
   gS p3
   dC [v,ov,iv] (kJ ov iv v)
   lj [v,ov,iv] []))
  (ha2:∀v,b0 (.Subscript (.Name x p4) (.Name z p5) p6) X.env v=(do
   let ov <-dC [v] (b9 (.Name x p4) X.env)
   let iv <-dC [v,ov] (b9 (.Name z p5) X.env)
   gS p6
   dC [v,ov,iv] (kJ ov iv v)
   lj [v,ov,iv] []))
  (hs:cc [.Tuple [.Subscript (.Name x p1) (.Name y p2) p3,.Subscript (.Name x p4) (.Name z p5) p6] kt pt] e pos.line X.env=cb ai)
  (hw:cf [.Tuple [.Subscript (.Name x p1) (.Name y p2) p3,.Subscript (.Name x p4) (.Name z p5) p6] kt pt] e X.env=cb ab)
  (h1:(bv [.Tuple [.Subscript (.Name x p1) (.Name y p2) p3,.Subscript (.Name x p4) (.Name z p5) p6] kt pt] X.env).map (·.2)=[b0 (.Tuple [.Subscript (.Name x p1) (.Name y p2) p3,.Subscript (.Name x p4) (.Name z p5) p6] kt pt) X.env]) :
  CS X xw fr C ns (.Assign [.Tuple [.Subscript (.Name x p1) (.Name y p2) p3,.Subscript (.Name x p4) (.Name z p5) p6] kt pt] e pos) (.swp n m k):=.mk <|
 PS.imp (XX he.h (y6 (n:=2) hc<|Vd (JJ (Y7 hN hv hd hcd) (Y7 hj hvj hdj hcj) (VD (X:=X)) ha)<|Vd (JJ (Y7 hN hv hd hcd) (Y7 hk hvk hdk hck) (VD (X:=X)) ha2) zC) hs hw h1)<|by
 rintro D U H ⟨O,H0,W,l,os,S,st,en,h⟩;rw[Pv.rv]at h;obtain⟨c,h⟩:=h.guard;refine#[O,l,S,st,en.all,Zw.bind en h λw S1 H1 v f1 st1 r1 h1=>?_]
 obtain⟨ys,hy,h1⟩:=Zw.ob h1;obtain⟨d1,d2,xs,nj,nk,i1,i2,rfl,hf,hx,hlj,x1,hlk,x2,rfl⟩:=Zal hy;obtain⟨pa,us,rfl,hp,rs⟩:=r1.tup';unfold Rq at rs;obtain⟨u1,_,rfl,q1,rs⟩:=rs;unfold Rq at rs;obtain⟨u2,_,rfl,q2,rs⟩:=rs;unfold Rq at rs;subst rs;obtain⟨f1',f2⟩:=(ax _ _).mp hf;obtain⟨f2,_⟩:=(ax _ _).mp f2;have en1:=en.mono f1;obtain⟨a,ha,q,vs,e2,r'⟩:=en1.at c hx;obtain⟨w1,s1,g1⟩:=en1.all.2 m _ hlj;obtain⟨w2,s2,g2⟩:=en1.all.2 k _ hlk;rw[g1.int']at s1;rw[g2.int']at s2;have R:=Rq.set (Rep.flat (O:=O) (ρ':=O.ex W) rfl (λ_ _ z _ _=>z) f2 q2) i2<|Rq.set (Rep.flat (O:=O) (ρ':=O.ex W) rfl (λ_ _ z _ _=>z) f1' q1) i1 r'
 have hl:=r'.length;refine#[pa,[u1,u2],rfl,.inl<|.inl hp,rfl,u1,[u2],rfl,.ref a,q,.int nj,s1,a,vs,nj,i1,rfl,rfl,e2,by rw[hl];exact x1,u2,[],rfl,.ref a,q,.int nk,s2,a,vs.set i1 u1,nk,i2,rfl,rfl,Zu,by rw[bg,hl];exact x2,rfl,?_]
 rw[GM];have en2:=en1.mut ha R;have hn:n<U.length:=(aM.mp q).1;obtain⟨a',ha',_,vs2,e3,R2⟩:=en2.at (xs:=(xs.set i1 d1).set i2 d2) c (by rw[bu (by rw[en1.len];exact hn)];rfl)
 rw[ha]at ha';cases ha';have e:=en2.drop (i:=n) (o:=aa<|.lst<|(xs.set i1 d1).set i2 d2) (v:=.ref a) λd z=>by
  cases z;refine Y1 e3 (λx=>x.elim (en1.nx ha) λ#[k,w]=>?_)<|R2.lat Lat.noW
  obtain⟨w1,w2⟩:=YI w;exact w1<|en1.inj k n a w2 ha
 rw[show U.set n (aa<|.ref a)=U by
  have:=(aM.mp q).2;rw[<-this];exact gA hn,List.set_set]at e
 exact h1 _ _ (noW W n) (st1.mut en1 ha) e
end
end Sd
namespace Gn
open PySem PySem.Spec PyProof.Rows L2
open Ev (E Sm Fn Bop Cop Ty Bf Mf)
open Sd (Calls spF CompScope cxC hu7 GQ yY)
structure FR where
 x:bc
 st:dG
 N:List bc
 k:Nat
noncomputable def FR.ps(r:FR):List bc:=r.N.take r.k
noncomputable def scB(N:List bc)(k:Nat)(sc:de):Bool:=
 (match sc.kind with|.function=>ag|_=>ai)&&(!sc.isCoroutine&&(!sc.isGenerator&&(decide N.Nodup&&((N.take k).all (λx=>ae (sc.names.lookup x=aa .local)||decide (sc.names.lookup x=aa .cell))&&sc.names.all λy=>ae<|y.2≠.free))))
def jj(h:scB N k sc=ag):FnScope N (N.take k) sc:=by
 unfold scB at h;simp only[ax,fO,T3,aL,cA]at h;obtain⟨h1,h2,h3,h4,h5,h6⟩:=h;refine#[?_,h2,h3,h4,?_,h5,h6]
 .cases e:sc.kind<;>rw[e]at h1<;>first|rfl|cases h1
 .rw[bC]
  by_cases hk:k<=N.length
  .rw[gy hk]
  .rw[Nat.min_eq_right (by omega),ki,dg (by omega)]
inductive Gv where
 |int (n:Int)|tab (t:List (Int×Int))|str (x:bc)
 deriving DecidableEq
def Zbf(K:aj)(mg:bc->Option am)(x:bc):Gv->Prop
 |.int n=>∃t:ll,mg x=aa (.int n t)
 |.str z=>∃t:ll,mg x=aa (.str z t)
 |.tab t=>∃tb:aB,(∀P w,Sd.Zba P w K tb t)/\mg x=aa (.ref tb)
structure Top(K:aj)(mg:bc->Option am)(fs:List FR)(zs:List bc)(gs:List (bc×Gv))(f:Nat->aB)(fd:Nat->bW):Prop where
 d:∀i r,fs[i]?=aa r->Fun K r.x r.x r.st (f i) (fd i)
 b:∀i r,fs[i]?=aa r->Va K (fd i) r.ps []
 m:∀i r,fs[i]?=aa r->mg r.x=aa (.ref<|f i)
 z:∀x∈zs,mg x=ab
 g:∀y∈gs,Zbf K mg y.1 y.2
def All(P:br)(w:bK)(K:aj)(mg:bc->Option am)(base:bJ)(fs:List FR)(F:List Fn)(tk:Nat)(sn:List Nat)(f:Nat->aB)(fd:Nat->bW)(d:Nat):Prop:=
 ∀i r,fs[i]?=aa r->FnOk P w K mg base CX0 d (f i) (fd i) r.ps (spF K (Pv.Zl F tk d) (sn.contains i) i)
def Bd(fs:List FR)(zs:List bc)(gs:List (bc×Gv))(F:List Fn)(tk:Nat)(sn:List Nat)(i:Nat)(r:FR)(fn:Fn):Prop:=
 ∀(P:br)(w:bK)(K:aj)(mg:bc->Option am)(base:bJ)(f:Nat->aB)(fd:Nat->bW)(d:Nat),Top K mg fs zs gs f fd->All P w K mg base fs F tk sn f fd d->r.N.Nodup->
  ∀(cdv:am)(A:cg)(outer:List Env)(s:au)(H:Hp)(E:XK),Room d (A.deeper<|fc r.x (Zy r.st) s.heap.objs.size (f i) cdv)->(A.deeper<|fc r.x (Zy r.st) s.heap.objs.size (f i) cdv).units+7<cI->
   Sd.CSs (QR CX0 P w K mg base r.N r.x (Zy r.st) (f i) cdv A outer s H E).nox (λ_ _=>False) (sn.contains i) (Pv.Zl F tk d) (Pv.muts fn.body) (Yg r.st) fn.body
def OkL(fs:List FR)(zs:List bc)(gs:List (bc×Gv))(F:List Fn)(tk:Nat)(sn:List Nat):Nat->List FR->List Fn->Prop
 |_,[],[]=>True
 |i,r::rs,fn::fns=>(fn.ns=r.N.length/\fn.ps=r.ps.length/\scB r.N r.k (Zy r.st)=ag/\Bd fs zs gs F tk sn i r fn)/\OkL fs zs gs F tk sn (i+1) rs fns
 |_,_,_=>False
theorem OkL.get{fs:List FR}{zs:List bc}{gs:List (bc×Gv)}{F:List Fn}{tk:Nat}{sn:List Nat}:∀{rs:List FR}{fns:List Fn}{i0:Nat},OkL fs zs gs F tk sn i0 rs fns->∀i r,rs[i]?=aa r->∃fn,fns[i]?=aa fn/\fn.ns=r.N.length/\fn.ps=r.ps.length/\scB r.N r.k (Zy r.st)=ag/\Bd fs zs gs F tk sn (i0+i) r fn
 |[],_,_,_,i,r,e=>by simp at e
 |_::_,[],_,h,_,_,_=>h.elim
 |r::rs,fn::fns,i0,h,0,r',e=>by
  simp at e;subst e;exact#[fn,rfl,h.1.1,h.1.2.1,h.1.2.2.1,h.1.2.2.2]
 |r::rs,fn::fns,i0,h,i+1,r',e=>by
  obtain⟨g,a,b,c,d,q⟩:=OkL.get h.2 i r' (by simpa using e)
  exact#[g,by simpa using a,b,c,d,by rw[Nat.add_assoc,Nat.add_comm 1 i]at q;exact q]
theorem wj{P:br}{w:bK}{K:aj}{mg:bc->Option am}{base:bJ}{fs:List FR}{zs:List bc}{gs:List (bc×Gv)}{F:List Fn}{tk:Nat}{sn:List Nat}{f:Nat->aB}{fd:Nat->bW}(O:OkL fs zs gs F tk sn 0 fs F)(hT:F[tk]?=aa Sd.XR)(T:Top K mg fs zs gs f fd):∀d,All P w K mg base fs F tk sn f fd d
 |0=>λi r h=>GQ
 |d+1=>λi r h=>by
  obtain⟨fn,a,b,c,e,q⟩:=O.get i r h;rw[iY]at q;have S:=jj e;have hb:=λcdv A outer s H E hr=>(q P w K mg base f fd d T (wj O hT T d) S.nd cdv A outer s H E hr<|hu7 hr)
  by_cases ht:i=tk
  .subst ht
   rw[hT]at a;cases a;exact Sd.wR Sd.u4 b c (T.d i r h) S hb
  .exact Sd.wR (Sd.qk ht a) b c (T.d i r h) S hb
def Uv(r:FR):Prop:=∀(kV doc pm:am)(an:Option aB)(cdv ct:am)(us:List am),us.length=r.ps.length->kN (cD r.x r.x (YN r.st) (Yg r.st) (Zy r.st) .none kV doc pm an cdv ct) #[us,[]]=cb (r.ps.zip us)
section
variable{x:bc}{st:dG}
noncomputable abbrev bA(x:bc)(st:dG)(kV doc pm:am)(an:Option aB)(cdv ct:am)(us:List am):=kN (cD x x (YN st) (Yg st) (Zy st) .none kV doc pm an cdv ct) #[us,[]]
def bd1(h:∀kV doc pm an cdv ct a0,bA x st kV doc pm an cdv ct [a0]=cb ((N.take n).zip [a0]))(hl:(N.take n).length=1:=by rfl):Uv #[x,st,N,n]:=λkV doc pm an cdv ct us e=>match us,e.trans hl with|[a0],_=>h kV doc pm an cdv ct a0
def bd2(h:∀kV doc pm an cdv ct a0 a1,bA x st kV doc pm an cdv ct [a0,a1]=cb ((N.take n).zip [a0,a1]))(hl:(N.take n).length=2:=by rfl):Uv #[x,st,N,n]:=λkV doc pm an cdv ct us e=>match us,e.trans hl with|[a0,a1],_=>h kV doc pm an cdv ct a0 a1
def bd3(h:∀kV doc pm an cdv ct a0 a1 a2,bA x st kV doc pm an cdv ct [a0,a1,a2]=cb ((N.take n).zip [a0,a1,a2]))(hl:(N.take n).length=3:=by rfl):Uv #[x,st,N,n]:=λkV doc pm an cdv ct us e=>match us,e.trans hl with|[a0,a1,a2],_=>h kV doc pm an cdv ct a0 a1 a2
def bd4(h:∀kV doc pm an cdv ct a0 a1 a2 a3,bA x st kV doc pm an cdv ct [a0,a1,a2,a3]=cb ((N.take n).zip [a0,a1,a2,a3]))(hl:(N.take n).length=4:=by rfl):Uv #[x,st,N,n]:=λkV doc pm an cdv ct us e=>match us,e.trans hl with|[a0,a1,a2,a3],_=>h kV doc pm an cdv ct a0 a1 a2 a3
end
inductive FnsAt(K:aj):List FR->List aB->List bW->Prop
 |nil:FnsAt K [] [] []
 |cons {x:bc} {st:dG} {N:List bc} {n:Nat} {a:aB} {rs:List FR} {as:List aB} {fds:List bW} {oc kV dc pm cd ct:am} {od an:Option aB} {sl:Array (Option am)}
   (h1:dE K bE x=aa (aa<|.ref a)) (h2:K.lookup a=aa #[oc,od,.func<|cD x x (YN st) (Yg st) (Zy st) .none kV dc pm an cd ct,sl])
   (h3:fe K cd x=ag) (h4:d3 K (.ref a)=ag) (h5:Uv #[x,st,N,n]) (t:FnsAt K rs as fds) :
   FnsAt K (#[x,st,N,n]::rs) (a::as) (cD x x (YN st) (Yg st) (Zy st) .none kV dc pm an cd ct::fds)
inductive ZsAt(K:aj):List bc->Prop
 |nil:ZsAt K []
 |cons {x:bc} {zs:List bc} (h:dE K bE x=aa ab) (t:ZsAt K zs):ZsAt K (x::zs)
inductive GsAt(K:aj):List (bc×Gv)->Prop
 |nil:GsAt K []
 |cons {x:bc} {n:Int} {u:ll} {gs:List (bc×Gv)} (h:dE K bE x=aa (aa<|.int n u)) (t:GsAt K gs):GsAt K ((x,.int n)::gs)
 |tab {x:bc} {a:aB} {es:Array eX} {n:Nat} {tb:List (Int×Int)} {gs:List (bc×Gv)} (h:dE K bE x=aa (aa<|.ref a)) (h2:K.lookup a=aa #[.type "dict",ab,.dict es n,#[]]) (h3:Sd.YT es.toList tb) (h4:(a == cm)=ai) (t:GsAt K gs):GsAt K ((x,.tab tb)::gs)
 |str {x z:bc} {u:ll} {gs:List (bc×Gv)} (h:dE K bE x=aa (aa<|.str z u)) (t:GsAt K gs):GsAt K ((x,.str z)::gs)
theorem GsAt.get{K:aj}{h:bJ}{mg:bc->Option am}(X:K.In h)(G:h.Ns bE mg):∀{gs:List (bc×Gv)},GsAt K gs->∀y∈gs,Zbf K mg y.1 y.2
 |_,.nil,x,h=>by simp at h
 |_,.cons h t,x,m=>by
  rcases ar.mp m with rfl|m
  .exact#[_,fS X G h]
  .exact t.get X G x m
 |_,.str h t,x,m=>by
  rcases ar.mp m with rfl|m
  .exact#[_,fS X G h]
  .exact t.get X G x m
 |_,.tab h h2 h3 h4 t,x,m=>by
  rcases ar.mp m with rfl|m
  .exact#[_,λP w=>Sd.vN h2 h3 h4,fS X G h]
  .exact t.get X G x m
theorem FnsAt.get{K:aj}{fd0:bW}:∀{fs:List FR}{as:List aB}{fds:List bW},FnsAt K fs as fds->∀i r,fs[i]?=aa r->
  dE K bE r.x=aa (aa<|.ref<|as.getD i 0)/\Fun K r.x r.x r.st (as.getD i 0) (fds.getD i fd0)/\Uv r
 |_,_,_,.nil,i,r,e=>by simp at e
 |_,_,_,.cons h1 h2 h3 h4 h5 t,0,r,e=>by
  simp at e;subst e;exact#[h1,je h2 h3 h4,h5]
 |_,_,_,.cons h1 h2 h3 h4 h5 t,i+1,r,e=>by
  obtain⟨a,b,c⟩:=t.get i r (by simpa using e)
  exact#[by simpa using a,by simpa using b,c]
theorem ZsAt.get{K:aj}:∀{zs:List bc},ZsAt K zs->∀x∈zs,dE K bE x=aa ab
 |_,.nil,x,h=>by simp at h
 |_,.cons h t,x,m=>by
  rcases ar.mp m with rfl|m
  .exact h
  .exact t.get x m
def ZaC{l:gu}{w:bK}{K:aj}{h:bJ}{mg:bc->Option am}{fa:aB}{fs:List FR}{zs:List bc}{gs:List (bc×Gv)}{F:List Fn}{tk L:Nat}{sn:List Nat}{st:dG}{N:List bc}{as:List aB}{fds:List bW}
  (X:K.In h)(G:h.Ns bE mg)(hfa:mg "law" = aa (.ref fa))(hL:fs[L]?=aa #["law",st,"_law_script" :: N,1])(O:OkL fs zs gs F tk sn 0 fs F)(hT:F[tk]?=aa Sd.XR)(hLs:sn.contains L=ai)(A:FnsAt K fs as fds)(Z:ZsAt K zs)(Y:GsAt K gs) :
  ∃fd:bW,(∀(s:au)(v:am),iG s fd #[[v],[]] [("_law_script",v)])/\∀base:bJ,K.In base->base.Ns bE mg->FnOk l.prog w K mg base CX0 65 fa fd ["_law_script"] (spF K (Pv.Zl F tk 65) ai L):=by
 cases fds with
 |nil=>cases A;simp at hL
 |cons fd0 fds'=>
 have T:Top K mg fs zs gs (λi=>as.getD i 0) (λi=>(fd0::fds').getD i fd0):=
  #[λi r e=>(A.get i r e).2.1,λi r e=>by
   obtain⟨_,F,B⟩:=A.get (fd0:=fd0) i r e;exact F.binds B,λi r e=>fS X G (A.get (fd0:=fd0) i r e).1,λx hx=>PySem.W.mg_none_of X G<|Z.get x hx,λy hy=>Y.get X G y hy]
 have e:=hfa.symm.trans<|T.m L _ hL;obtain⟨_,Fu,B⟩:=A.get (fd0:=fd0) L _ hL;cases e;refine#[(fd0::fds').getD L fd0,λs v=>?_,λbase _ _=>?_]
 .obtain⟨oc,od,kV,doc,pm,an,cdv,ct,osl,e,lk,hcd⟩:=Fu.ex
  rw[e];exact .of_eq<|B kV doc pm an cdv ct [v] rfl
 .have:=wj (P:=l.prog) (w:=w) (base:=base) O hT T 65 L _ hL
  rw[hLs]at this;exact this
def walk{l:gu}{q:br}{loose:List bc}{XP:(bc->Option am)->bJ->Prop}{YP:bK->bJ->Prop}{d:DefRec}{K:Params->aj}{F:List Fn}{tk L:Nat}(hok:∀(ns:List Int) s,∃S,Pv.Zl F tk 65 L [.scr ns] s=.ok (.bl ag) S)(hn:l.most=aa 63)(hdf:d.params.defaults=[])
  (hY:∀(w:bK)(h:bJ),YP w h->(K w.params).In h)
  (hF:∀(w:bK)(mg:bc->Option am)(fa:aB)(h:bJ),(K w.params).In h->h.Ns bE mg->mg d.name=aa (.ref fa)->
   ∃fd:bW,(∀(s:au)(u:am),iG s fd #[[u],[]] [("_law_script",u)])/\∀base:bJ,(K w.params).In base->base.Ns bE mg->FnOk l.prog w (K w.params) mg base CX0 65 fa fd ["_law_script"] (spF (K w.params) (Pv.Zl F tk 65) ai L)) :
  k7 q loose XP YP l.row.toRowW d [] (λf vs=>kR f vs):=
 L2.vX (n:=63) (k:=65) (x:="_law_script") (CX:=λ_=>CX0) (sp:=λw=>spF (K w.params) (Pv.Zl F tk 65) ai L) hn (by decide) hdf #[rfl,by decide,by decide,rfl] hY hF (λw H a ns hl hO hS=>yY hO hS<|hok ns) λ_ _ _ _ _ z=>z
def Top.no{K:aj}{mg:bc->Option am}{x:bc}(T:Top K mg fs zs gs f fd)(h:zs.contains x=ag):mg x=ab:=T.z x (by simpa using h)
def Za1{n:Nat}{x:bc}(T:Top X.K X.mg fs zs gs f fd)(h:All X.prog X.w X.K X.mg X.base fs F tk sn f fd d)(hr:Room d X.A)(ha:Sd.CA X (λ_ _=>False) (Pv.Zl F tk d) (e::es) is)(hx:(fs[n]?).map FR.x=aa x)(hg:Gl X x)(hdb:(x == ("__debug__" : bc))=ai)
  (he:aE (e::es) X.env=(ai,b9 e X.env)::aE es X.env)(hpl:(du pos<|aE es X.env).any (·.1)=ai):Sd.CE X (λ_ _=>False) (Pv.Zl F tk d) (.Call (.Name x p) (e::es) [] pos) (.call n is):=by
 cases e0:fs[n]? with
 |none=>rw[e0]at hx;cases hx
 |some r=>
  rw[e0]at hx;obtain rfl:r.x=x:=ah hx;exact Sd.qe (h n r e0) hr (T.m n r e0) (T.d n r e0).kp (T.b n r e0) ha hg hdb he hpl
def Zbn{x y:bc}{n k:Nat}{px p':fA}{ss:List dG}{B:List Sm}{fr:Bool}{ns:List Nat}(T:Top X.K X.mg fs zs gs f fd)(h:All X.prog X.w X.K X.mg X.base fs F tk sn f fd d)(hr:Room d X.A)(ha:Sd.CA X (λ_ _=>False) (Pv.Zl F tk d) (e::es) is)(hB:Sd.CSs X (λ_ _=>False) fr (Pv.Zl F tk d) ns ss B)(hN:X.N.Nodup)(hx:(fs[k]?).map FR.x=aa y)(hk:sn.contains k=ag)
  (hg:Gl X y)(hdb:(y == ("__debug__" : bc))=ai)(he:aE (e::es) X.env=(ai,b9 e X.env)::aE es X.env)(hpl:(du p<|aE es X.env).any (·.1)=ai)(hi:X.N[n]?=aa x)(hl:L2.Loc X.env.scope x)(hf:X.fn x=ag\/X.env.scope.names.lookup x=aa .local)
  (hs:cc [.Name x px] (.Call (.Name y p') (e::es) [] p) pos.line X.env=cb ai)(hw:cf [.Name x px] (.Call (.Name y p') (e::es) [] p) X.env=cb ab)(h1:(bv [.Name x px] X.env).map (·.2)=[b0 (.Name x px) X.env]) :
  Sd.CSs X (λ_ _=>False) fr (Pv.Zl F tk d) ns (.Assign [.Name x px] (.Call (.Name y p') (e::es) [] p) pos::ss) [.cel n k is B]:=by
 cases e0:fs[k]? with
 |none=>rw[e0]at hx;cases hx
 |some r=>
  rw[e0]at hx;obtain rfl:r.x=y:=ah hx;have q:=h k r e0;rw[hk]at q;refine Sd.js (Sd.PE.imp (zy q hr hg (T.m k r e0) (T.d k r e0).kp (T.b k r e0) .nil qI ha.h hdb he hpl) λU H Q z=>?_) hB hN hi hl hf hs hw h1
  unfold qB;simp only[cz];exact z
noncomputable def csB(sc:de)(N0:List bc)(scope:de)(N:List bc)(cap:List Nat)(nl:Nat):Bool:=
 ((N.take nl).all (λx=>ae (scope.names.lookup x=aa .local)||decide (scope.names.lookup x=aa .cell))&&(ae (N.length=nl+cap.length)&&(cap.zipIdx.all (λp=>ae (N[nl+p.2]?=N0[p.1]?)&&ae ((N0[p.1]?).map (λx=>ae<|(x,bd)∈scope.names)=aa ag)) &&
  ((match scope.kind with|.function=>ag|_=>ai)&&scope.names.all λy=>(!decide (y.2=.cell) || !decide ((y.1,bd)∈scope.names))&&((!decide (y.2=.local)||decide (scope.names.lookup y.1=aa .local))&&(!decide (y.2=.free)||((ae (sc.names.lookup y.1=aa .cell)||decide (sc.names.lookup y.1=aa .free))&&ae (scope.names.lookup y.1≠aa .local))))))))
def ZaF{sc:de}{N0:List bc}{scope:de}{N:List bc}{cap:List Nat}{nl:Nat}(h:csB sc N0 scope N cap nl=ag):CompScope sc N0 scope N cap nl:=by
 unfold csB at h;simp only[ax,cA,fO,T3,decide_eq_false_iff_not,aL]at h;obtain⟨_,h1,h2,h3,h4⟩:=h;refine#[?_,λy hy z=>(h4 y hy).1.resolve_left λq=>q z,λy hy z=>?_,λy hy z=>?_,λy hy z=>?_,h1,h2]
 .cases e:scope.kind<;>rw[e]at h3<;>first|rfl|cases h3
 .rcases(h4 y hy).2.1 with q|q
  .exact T7 z q
  .exact q
 .rcases(h4 y hy).2.2 with q|q
  .exact T7 z q
  .exact q.1
 .rcases(h4 y hy).2.2 with q|q
  .exact T7 z q
  .exact q.2
noncomputable def cN(scope:de)(nl:Nat)(cap:List Nat)(N0:List bc):List bc:=((scope.names.drop 1).take nl).map (·.1)++cap.map λi=>N0.getD i ""
def xF{sc:de}{N0:List bc}{scope:de}{cap:List Nat}{nl:Nat}(h:csB sc N0 scope (cN scope nl cap N0) cap nl=ag):CompScope sc N0 scope (cN scope nl cap N0) cap nl:=ZaF h
end Gn
namespace Sd
open PySem PySem.Spec PyProof.Rows L2
open Ev (E Sm Fn Bop Cop Ty Bf Mf)
def Zbi{i j:Int}{a b:Nat}{p1 p2 pos:fA}:CE X xw C (.Dict [aa<|.Constant (.int i) a p1] [.Constant (.int j) b p2] pos) (.dput1 (.c<|.int i)<|.c<|.int j):=.mk <|
 PE.imp (uK (wb Wi Wi qd) rfl rfl (by simp)<|by show 1<=15;lia) λU H Q #[O,l,S,st,lr,h]=>λp hp=>
  #[Zu,[(bU i,.int j)],rfl,by show 1<=15;lia,by
   rw[GM];have h:End X.K xw Rep O H Q (.ok (.dct<|.inl [(i,j)]) S):=h;exact h O _ _ (Zs hp) (st.fresh hp) (by unfold Rep;exact#[p,rfl,Zu])]
end Sd
namespace K61
open Ev
noncomputable def Vs:Fn:=#[2,2,
 [.ite (.cmp .lt (.v 1)<|.blt .len [(.v 0)]) [.ret<|.ix (.v 0)<|.v 1] [],
  .ret (.c<|.int 0)]]
noncomputable def Qm:Fn:=#[2,3,
 [.asg [2]<|.call 0 [(.v 0),(.v 1)],
  .ite (.cmp .ge (.v 2)<|.bin .pow (.c<|.int 10)<|.c<|.int 18) [.ret<|.lst [(.bin .sub (.v 2)<|.bin .pow (.c<|.int 10)<|.c<|.int 18),(.c<|.bl ag)]] [],
  .ret (.lst [(.bin .mod (.v 2)<|.c<|.int 2147483647),(.c<|.bl ai)])]]
noncomputable def QA:Fn:=#[2,4,
 [.ite (.dix (.v 0) ag) [.asg [2]<|.bin .mod (.dix (.v 0) ai)<|.v 1,
  .dset 0 (.bin .fdiv (.dix (.v 0) ai)<|.v 1),
  .ret (.v 2)] [],
  .dset 0 (.bin .mod (.bin .add (.bin .mul (.dix (.v 0) ai)<|.c<|.int 48271)<|.c<|.int 29)<|.c<|.int 2147483647),
  .asg [3] (.bin .mod (.bin .add (.bin .add (.bin .mul (.dix (.v 0) ai)<|.dix (.v 0) ai)<|.bin .mul (.c<|.int 39373)<|.dix (.v 0) ai)<|.c<|.int 7)<|.c<|.int 2147483629),
  .asg [3] (.bin .mod (.bin .add (.bin .mul (.v 3)<|.v 3)<|.bin .mul (.c<|.int 16807)<|.v 3)<|.c<|.int 2147483587),
  .ret (.bin .mod (.bin .fdiv (.v 3)<|.c<|.int 8)<|.v 1)]]
noncomputable def UR:Fn:=#[2,3,
 [.asg [2]<|.lst [(.tup [(.c<|.int 2),(.tup [(.c<|.int 2),(.c<|.int 1)])]),(.tup [(.c<|.int 4),(.tup [(.c<|.int 2),(.c<|.int 2)])]),(.tup [(.c<|.int 8),(.tup [(.c<|.int 2),(.c<|.int 3)])]),(.tup [(.c<|.int 16),(.tup [(.c<|.int 2),(.c<|.int 4)])]),(.tup [(.c<|.int 32),(.tup [(.c<|.int 2),(.c<|.int 5)])]),(.tup [(.c<|.int 64),(.tup [(.c<|.int 2),(.c<|.int 6)])]),(.tup [(.c<|.int 3),(.tup [(.c<|.int 3),(.c<|.int 1)])]),(.tup [(.c<|.int 9),(.tup [(.c<|.int 3),(.c<|.int 2)])])],
  .asg [2] (.bin .add (.v 2)<|.lst [(.tup [(.c<|.int 27),(.tup [(.c<|.int 3),(.c<|.int 3)])]),(.tup [(.c<|.int 81),(.tup [(.c<|.int 3),(.c<|.int 4)])]),(.tup [(.c<|.int 5),(.tup [(.c<|.int 5),(.c<|.int 1)])]),(.tup [(.c<|.int 25),(.tup [(.c<|.int 5),(.c<|.int 2)])]),(.tup [(.c<|.int 125),(.tup [(.c<|.int 5),(.c<|.int 3)])])]),
  .asg [2] (.comp1 [1] 2 [0,1] (.of<|.v 2) [(.cmp .le (.v 0)<|.v 2)]<|.v 1),
  .ret (.ix (.v 2)<|.call 2 [(.v 0),(.blt .len [(.v 2)])])]]
noncomputable def Jc:Fn:=#[4,4,
 [.ret<|.blt .tuple [(.comp1 [3,0] 2 [0,1] (.zip (.v 1)<|.v 2) []<|.bin .mod (.bin .add (.v 0)<|.bin .mul (.v 2)<|.v 1)<|.ix (.v 3)<|.c<|.int 0)]]]
noncomputable def Vv:Fn:=#[2,8,
 [.asg [2]<|.blt .list [(.v 1)],
  .asg [3] (.lst []),
  .forr [4] (.rng1<|.ix (.v 0)<|.c<|.int 1) [.asg [5]<|.comp1 [4] 1 [0] (.of<|.v 2) [(.cmp .ne (.ix (.v 0)<|.v 1)<|.c<|.int 0)]<|.v 0,
  .ite (.cmp .ne (.v 5)<|.lst []) [.asg [6]<|.ix (.comp1 [5,4,0] 1 [0] (.rng1<|.ix (.v 0)<|.c<|.int 0) [(.cmp .eq (.bin .mod (.bin .mul (.v 0)<|.ix (.ix (.v 1)<|.c<|.int 0)<|.v 2)<|.ix (.v 3)<|.c<|.int 0)<|.c<|.int 1)]<|.v 0)<|.c<|.int 0,
  .asg [7] (.blt .tuple [(.comp1 [6,0] 1 [0] (.of<|.ix (.v 5)<|.c<|.int 0) []<|.bin .mod (.bin .mul (.v 1)<|.v 0)<|.ix (.v 2)<|.c<|.int 0)]),
  .asg [2] (.comp1 [0,7,4] 1 [0] (.of<|.v 2) []<|.call 4 [(.v 1),(.v 0),(.v 2),(.neg<|.ix (.v 0)<|.v 3)]),
  .asg [3] (.bin .add (.comp1 [0,7,4] 1 [0] (.of<|.v 3) []<|.call 4 [(.v 1),(.v 0),(.v 2),(.neg<|.ix (.v 0)<|.v 3)])<|.lst [(.v 7)])] []],
  .ret (.blt .tuple [(.v 3)])]]
noncomputable def VQ:Fn:=#[2,2,
 [.ret<|.blt .tuple [(.comp1 [0,1] 1 [0] (.rng1<|.ix (.v 1)<|.c<|.int 1) []<|.call 2 [(.v 1),(.ix (.v 2)<|.c<|.int 0)])]]]
noncomputable def Xd:Fn:=#[2,6,
 [.asg [2]<|.tup [],
  .asg [3] (.bin .mul (.lst [(.tup [])])<|.call 2 [(.v 0),(.c<|.int 2)]),
  .forr [4] (.rng1<|.bin .mul (.c<|.int 2)<|.ix (.v 1)<|.c<|.int 1) [.asg [5]<|.call 5 [(.v 1),(.bin .add (.v 2)<|.tup [(.call 6 [(.v 0),(.v 1)])])],
  .ite (.cmp .gt (.blt .len [(.v 5)])<|.blt .len [(.v 2)]) [.asg [2]<|.v 5,
  .ite (.cmp .gt (.call 2 [(.v 0),(.c<|.int 3)])<|.c<|.int 0) [.ex<|.mt .append (.v 3) [(.v 2)]] []] []],
  .ret (.blt .tuple [(.v 3)])]]
noncomputable def zR:Fn:=#[1,3,
 [.forr [1,2] (.enum<|.v 0) [.ite (.cmp .ne (.v 2)<|.c<|.int 0) [.ret<|.v 1] []],
  .ret (.c .non)]]
noncomputable def Wb:Fn:=#[4,4,
 [.ret<|.blt .tuple [(.comp1 [3,0] 2 [0,1] (.zip (.v 1)<|.v 2) []<|.bin .mod (.bin .add (.v 0)<|.bin .mul (.v 2)<|.v 1)<|.v 3)]]]
noncomputable def Ui:Fn:=#[4,4,
 [.ret<|.call 9 [(.v 0),(.v 1),(.v 2),(.neg<|.ix (.v 1)<|.v 3)]]]
noncomputable def QM:Fn:=#[3,7,
 [.asg [3,4]<|.v 0,
  .asg [5] (.v 2),
  .forr [6] (.of<|.v 1) [.asg [5]<|.call 10 [(.v 3),(.v 5),(.v 6),(.call 8 [(.v 6)])]],
  .ret (.v 5)]]
noncomputable def yw:Fn:=#[3,3,
 [.ret<|.cmp .is (.call 8 [(.call 11 [(.v 0),(.v 1),(.v 2)])])<|.c .non]]
noncomputable def Jz:Fn:=#[3,3,
 [.ret<|.blt .all [(.comp1 [0,2] 1 [0] (.of<|.v 1) []<|.call 12 [(.v 1),(.v 2),(.v 0)])]]]
noncomputable def WJ:Fn:=#[1,1,
 [.ret<|.blt .all [(.comp1 [] 2 [0,1] (.zip (.v 0)<|.sl (.v 0) (aa<|.c<|.int 1) ab) []<|.cmp .lt (.v 0)<|.v 1)]]]
noncomputable def Wa:Fn:=#[2,2,
 [.ret<|.blt .all [(.comp1 [1] 1 [0] (.of<|.v 0) []<|.cmp .eq (.ix (.v 0)<|.v 1)<|.c<|.int 0)]]]
noncomputable def Xu:Fn:=#[3,3,
 [.ret<|.and (.cmp .eq (.ix (.ix (.v 0)<|.v 1)<|.v 2)<|.c<|.int 1)<|.call 15 [(.bin .add (.sl (.v 0) ab<|aa<|.v 1)<|.sl (.v 0) (aa<|.bin .add (.v 1)<|.c<|.int 1) ab),(.v 2)]]]
noncomputable def YC:Fn:=#[3,3,
 [.ret<|.and (.isi (.v 0) [.int])<|.and (.not<|.isi (.v 0) [.bool])<|.chain .le .le (.v 1) (.v 0)<|.v 2]]
noncomputable def Jt:Fn:=#[2,4,
 [.asg [2,3]<|.v 0,
  .ite (.or (.not<|.isi (.v 1) [.tuple])<|.cmp .ne (.blt .len [(.v 1)])<|.v 3) [.ret<|.c<|.bl ai] [],
  .ret (.blt .all [(.comp1 [2] 1 [0] (.of<|.v 1) []<|.call 17 [(.v 0),(.c<|.int 0),(.bin .sub (.v 1)<|.c<|.int 1)])])]]
noncomputable def WB:Fn:=#[2,3,
 [.ite (.or (.not<|.isi (.v 1) [.tuple])<|.not<|.blt .all [(.comp1 [0] 1 [0] (.of<|.v 1) []<|.call 18 [(.v 1),(.v 0)])]) [.ret<|.c<|.bl ai] [],
  .asg [2] (.comp1 [] 1 [0] (.of<|.v 1) []<|.call 8 [(.v 0)]),
  .ite (.or (.cmp .inn (.c .non)<|.v 2)<|.not<|.call 14 [(.v 2)]) [.ret<|.c<|.bl ai] [],
  .ret (.blt .all [(.comp1 [1] 2 [0,1] (.enum<|.v 2) []<|.call 16 [(.v 2),(.v 0),(.v 1)])])]]
noncomputable def Yc:Fn:=#[2,2,
 [.ite (.or (.not<|.isi (.v 1) [.tuple])<|.not<|.blt .all [(.comp1 [0] 1 [0] (.of<|.v 1) []<|.call 19 [(.v 1),(.v 0)])]) [.ret<|.c<|.bl ai] [],
  .ret (.blt .all [(.comp1 [0] 2 [0,1] (.zip (.v 1)<|.sl (.v 1) (aa<|.c<|.int 1) ab) []<|.and (.cmp .ne (.v 0)<|.v 1)<|.call 13 [(.v 2),(.v 0),(.v 1)])])]]
noncomputable def Z2:Fn:=#[3,11,
 [.ite (.cmp .eq (.v 2)<|.tup []) [.ret<|.ix (.lst [(.lst []),(.c .non),(.tup [(.tup [])]),(.tup [(.bin .mul (.tup [(.c<|.int 0)])<|.ix (.v 1)<|.c<|.int 1)]),(.tup [(.bin .mul (.tup [(.c<|.int 1)])<|.bin .add (.ix (.v 1)<|.c<|.int 1)<|.c<|.int 1)]),.dnew,(.c<|.str<|aU "none")])<|.call 2 [(.v 0),(.c<|.int 7)]] [],
  .asg [3] (.call 2 [(.v 0),(.blt .len [(.v 2)])]),
  .asg [4] (.ix (.v 2)<|.v 3),
  .asg [5] (.call 2 [(.v 0),(.ix (.v 1)<|.c<|.int 1)]),
  .asg [6] (.ix (.lst [(.c<|.int 0),(.c<|.int 1),(.ix (.v 1)<|.c<|.int 0),(.bin .sub (.ix (.v 1)<|.c<|.int 0)<|.c<|.int 1),(.neg<|.c<|.int 1),(.c<|.bl ag),(.c .non),(.c<|.str<|aU "1"),(.tup [(.c<|.int 1)]),(.bin .pow (.c<|.int 10)<|.c<|.int 29)])<|.call 2 [(.v 0),(.c<|.int 10)]),
  .asg [7] (.lst [(.bin .add (.bin .add (.sl (.v 4) ab<|aa<|.v 5)<|.tup [(.v 6)])<|.sl (.v 4) (aa<|.bin .add (.v 5)<|.c<|.int 1) ab),(.bin .add (.bin .add (.sl (.v 4) ab<|aa<|.v 5)<|.tup [(.v 6)])<|.sl (.v 4) (aa<|.v 5) ab),(.bin .add (.sl (.v 4) ab<|aa<|.v 5)<|.sl (.v 4) (aa<|.bin .add (.v 5)<|.c<|.int 1) ab),(.blt .list [(.v 4)]),(.c .non)]),
  .asg [7] (.bin .add (.v 7)<|.lst [(.blt .tuple [(.comp1 [1] 1 [0] (.of<|.v 4) []<|.bin .mod (.bin .mul (.c<|.int 2)<|.v 0)<|.ix (.v 1)<|.c<|.int 0)]),(.bin .mul (.tup [(.c<|.int 0)])<|.ix (.v 1)<|.c<|.int 1),(.call 6 [(.v 0),(.v 1)])]),
  .asg [8] (.ix (.v 7)<|.ix (.lst [(.c<|.int 0),(.c<|.int 0),(.c<|.int 0),(.c<|.int 0),(.c<|.int 1),(.c<|.int 2),(.c<|.int 3),(.c<|.int 4),(.c<|.int 5),(.c<|.int 6),(.c<|.int 7)])<|.call 2 [(.v 0),(.c<|.int 11)]),
  .asg [9] (.call 2 [(.v 0),(.c<|.int 8)]),
  .ite (.cmp .lt (.v 9)<|.c<|.int 4) [.ret<|.bin .add (.bin .add (.sl (.v 2) ab<|aa<|.v 3)<|.tup [(.v 8)])<|.sl (.v 2) (aa<|.bin .add (.v 3)<|.c<|.int 1) ab] [],
  .ite (.cmp .lt (.v 9)<|.c<|.int 6) [.ret<|.bin .add (.bin .add (.sl (.v 2) ab<|aa<|.v 3)<|.tup [(.v 8)])<|.sl (.v 2) (aa<|.v 3) ab] [],
  .asg [10] (.lst [(.bin .add (.sl (.v 2) ab<|aa<|.v 3)<|.sl (.v 2) (aa<|.bin .add (.v 3)<|.c<|.int 1) ab),(.rev<|.v 2),(.blt .list [(.v 2)]),(.tup [(.v 2)]),(.bin .add (.v 2)<|.sl (.v 2) (aa<|.neg<|.c<|.int 1) ab),(.bin .add (.sl (.v 2) (aa<|.v 3) ab)<|.sl (.v 2) ab<|aa<|.v 3)]),
  .ret (.ix (.v 10)<|.call 2 [(.v 0),(.c<|.int 6)])]]
noncomputable def Q8:Fn:=#[2,3,
 [.asg [2]<|.call 2 [(.v 0),(.bin .add (.ix (.v 1)<|.c<|.int 1)<|.c<|.int 1)],
  .ret (.call 5 [(.v 1),(.comp1 [0,1] 1 [0] (.rng1<|.v 2) []<|.call 6 [(.v 1),(.v 2)])])]]
noncomputable def ZX:Fn:=#[3,8,
 [.ite (.cmp .eq (.v 2)<|.tup []) [.ret<|.ix (.lst [(.lst []),(.c .non),(.tup [(.tup [])]),(.tup [(.tup []),(.tup [])]),(.tup [(.tup [(.tup [(.tup [(.c<|.int 1)])])])]),.dnew,(.c<|.str<|aU "none")])<|.call 2 [(.v 0),(.c<|.int 7)]] [],
  .par [3,4] [(.call 2 [(.v 0),(.blt .len [(.v 2)])]),(.call 2 [(.v 0),(.blt .len [(.v 2)])])],
  .asg [5] (.blt .list [(.v 2)]),
  .swp 5 3 4,
  .asg [6] (.ix (.lst [(.call 21 [(.v 0),(.v 1),(.ix (.v 2)<|.v 3)]),(.call 22 [(.v 0),(.v 1)]),(.sl (.ix (.v 2)<|.v 3) ab<|aa<|.neg<|.c<|.int 1),(.c .non)])<|.call 2 [(.v 0),(.c<|.int 4)]),
  .asg [7] (.lst [(.bin .add (.bin .add (.sl (.v 2) ab<|aa<|.v 3)<|.tup [(.v 6)])<|.sl (.v 2) (aa<|.bin .add (.v 3)<|.c<|.int 1) ab),(.bin .add (.bin .add (.sl (.v 2) ab<|aa<|.v 3)<|.tup [(.v 6)])<|.sl (.v 2) (aa<|.v 3) ab),(.blt .tuple [(.v 5)]),(.rev<|.v 2),(.v 5)]),
  .asg [7] (.bin .add (.v 7)<|.lst [(.bin .add (.sl (.v 2) ab<|aa<|.v 3)<|.sl (.v 2) (aa<|.bin .add (.v 3)<|.c<|.int 1) ab),(.bin .add (.sl (.v 2) ab<|aa<|.bin .add (.v 3)<|.c<|.int 1)<|.sl (.v 2) (aa<|.v 3) ab),(.tup [(.v 2)]),(.ix (.v 2)<|.v 3)]),
  .ret (.ix (.v 7)<|.ix (.lst [(.c<|.int 0),(.c<|.int 0),(.c<|.int 0),(.c<|.int 1),(.c<|.int 1),(.c<|.int 2),(.c<|.int 3),(.c<|.int 4),(.c<|.int 5),(.c<|.int 6),(.c<|.int 7),(.c<|.int 8)])<|.call 2 [(.v 0),(.c<|.int 12)])]]
noncomputable def XT:Fn:=#[1,2,
 [.asg [1]<|.lst [(.c .non),(.c<|.bl ag),(.c<|.bl ai),(.neg<|.c<|.int 1),(.c<|.int 0),(.c<|.int 1),(.c<|.str<|aU ""),(.c<|.str<|aU "1"),(.tup []),(.lst []),(.tup [(.tup [])]),(.tup [(.tup [(.c<|.int 0)])]),(.tup [(.tup [(.c<|.int 1)])]),(.lst [(.tup [(.c<|.int 1)])]),(.dput1 (.c<|.int 0)<|.c<|.int 1),(.tup [(.c .non)]),(.bin .pow (.c<|.int 10)<|.c<|.int 29)],
  .ret (.ix (.bin .add (.v 1)<|.lst [(.tup [(.tup [(.c<|.int 1),(.c<|.int 0)]),(.tup [(.c<|.int 0),(.c<|.int 1)])]),(.tup [(.tup [(.c<|.bl ag)])]),(.tup [(.tup [(.tup [(.c<|.int 1)])])])])<|.call 2 [(.v 0),(.c<|.int 20)])]]
noncomputable def Yv:Fn:=#[1,1,
 [.ret<|.and (.isi (.v 0) [.int])<|.not<|.isi (.v 0) [.bool]]]
noncomputable def YS:Fn:=#[2,2,
 [.ite (.or (.not<|.isi (.v 1) [.tuple])<|.cmp .ne (.blt .len [(.v 1)])<|.ix (.v 0)<|.c<|.int 1) [.ret<|.c<|.bl ai] [],
  .ret (.blt .all [(.comp1 [0] 1 [0] (.of<|.v 1) []<|.and (.call 25 [(.v 0)])<|.chain .le .lt (.c<|.int 0) (.v 0)<|.ix (.v 1)<|.c<|.int 0)])]]
noncomputable def Yz:Fn:=#[2,3,
 [.ite (.not<|.isi (.v 1) [.tuple]) [.ret<|.c<|.bl ai] [],
  .forr [2] (.of<|.v 1) [.ite (.or (.not<|.call 26 [(.v 0),(.v 2)])<|.not<|.blt .any [(.v 2)]) [.ret<|.c<|.bl ai] []],
  .ret (.cmp .eq (.call 5 [(.v 0),(.v 1)])<|.v 1)]]
noncomputable def Qy:Fn:=#[2,6,
 [.asg [2]<|.lst [(.bin .mul (.tup [(.c<|.int 0)])<|.ix (.v 0)<|.c<|.int 1)],
  .forr [3] (.of<|.v 1) [.asg [4]<|.lst [],
  .forr [5] (.rng1<|.ix (.v 0)<|.c<|.int 0) [.ex<|.mt .extend (.v 4) [(.comp1 [0,3,5] 1 [0] (.of<|.v 2) []<|.call 4 [(.v 1),(.v 0),(.v 2),(.v 3)])]],
  .mov 2 4],
  .ret (.blt .dictP [(.comp1 [] 1 [0] (.of<|.v 2) []<|.tup [(.v 0),(.c<|.bl ag)])])]]
noncomputable def WG:Fn:=#[3,4,
 [.asg [3]<|.call 28 [(.v 0),(.v 2)],
  .ret (.blt .all [(.comp1 [3] 1 [0] (.of<|.v 1) []<|.cmp .inn (.v 0)<|.v 1)])]]
noncomputable def Z9:Fn:=#[2,5,
 [.ite (.not<|.isi (.v 1) [.tuple]) [.ret<|.c<|.bl ai] [],
  .forr [2] (.of<|.v 1) [.ite (.not<|.call 27 [(.v 0),(.v 2)]) [.ret<|.c<|.bl ai] []],
  .forr [3,4] (.zip (.v 1)<|.sl (.v 1) (aa<|.c<|.int 1) ab) [.ite (.or (.cmp .ge (.blt .len [(.v 3)])<|.blt .len [(.v 4)])<|.not<|.call 29 [(.v 0),(.v 3),(.v 4)]) [.ret<|.c<|.bl ai] []],
  .ret (.c<|.bl ag)]]
noncomputable def Zbs:Fn:=#[1,8,
 [.forr [1] (.rng1<|.blt .max2 [(.c<|.int 1),(.blt .min2 [(.blt .len [(.v 0)]),(.c<|.int 8)])]) [.cel 2 1 [(.v 0),(.v 1)]
  [.asg [3]<|.call 3 [(.v 2),(.c<|.int 81)],
  .asg [4] (.call 7 [(.v 2),(.v 3)]),
  .ite (.cmp .isn (.call 20 [(.v 3),(.v 4)])<|.c<|.bl ag) [.ret<|.c<|.bl ai] [],
  .forr [5] (.of<|.bin .add (.comp1 [2,3,4] 1 [0] (.rng1<|.c<|.int 4) []<|.call 23 [(.v 1),(.v 2),(.v 3)])<|.lst [(.call 24 [(.v 2)])]) [.asg [6]<|.blt .repr [(.v 5)],
  .asg [7] (.call 20 [(.v 3),(.v 5)]),
  .ite (.or (.not<|.isi (.v 7) [.bool])<|.or (.cmp .ne (.v 7)<|.call 30 [(.v 3),(.v 5)])<|.cmp .ne (.blt .repr [(.v 5)])<|.v 6) [.ret<|.c<|.bl ai] []]]],
  .ret (.and (.cmp .is (.call 20 [(.tup [(.c<|.int 2),(.c<|.int 1)]),(.tup [])])<|.c<|.bl ag)<|.cmp .is (.call 20 [(.tup [(.c<|.int 2),(.c<|.int 1)]),(.tup [(.tup []),(.tup [(.tup [(.c<|.int 1)])])])])<|.c<|.bl ag)]]
noncomputable def fns:List Fn:=[Vs,Qm,QA,UR,Jc,Vv,VQ,Xd,zR,Wb,Ui,QM,yw,Jz,WJ,Wa,Xu,YC,Jt,WB,Yc,Z2,Q8,ZX,XT,Yv,YS,Yz,Qy,WG,Z9,Zbs]
noncomputable abbrev tk:Nat:=2
noncomputable abbrev sn:List Nat:=[1]
end K61
namespace La
variable{F:Type}[eU F]
noncomputable abbrev Vec(F:Type):=Nat->F
noncomputable abbrev Pt(F:Type):=List<|Nat×Vec F
noncomputable def pr:Pt F->Vec F->Vec F
 |[],_,_=>0
 |a::P,v,j=>v a.1*a.2 j+pr P v j
structure Rf(P:Pt F):Prop where
 inc:P.Pairwise λa b=>a.1<b.1
 low:∀a∈P,∀j,j<a.1->a.2 j=0
 one:∀a∈P,a.2 a.1=1
 zer:∀a∈P,∀b∈P,a.1≠b.1->b.2 a.1=0
def Mem(P:Pt F)(v:Vec F):Prop:=∀j,v j=pr P v j
theorem jU(P:Pt F)(u v:Vec F)(c:F)(j:Nat):pr P (λj=>u j+c*v j) j=pr P u j+c*pr P v j:=by
 induction P with|nil=>show(0:F)=0+c*0;grind|cons a P ih=>show(u a.1+c*v a.1)*a.2 j+pr P _ j=(u a.1*a.2 j+pr P u j)+c*(v a.1*a.2 j+pr P v j);grind
theorem UQ(P:Pt F)(u v:Vec F)(c:F)(j:Nat):pr P (λj=>u j-c*v j) j=pr P u j-c*pr P v j:=by
 induction P with|nil=>show(0:F)=0-c*0;grind|cons a P ih=>show(u a.1-c*v a.1)*a.2 j+pr P _ j=(u a.1*a.2 j+pr P u j)-c*(v a.1*a.2 j+pr P v j);grind
def xZ{P:Pt F}{u v:Vec F}(h:∀b∈P,u b.1=v b.1)(j:Nat):pr P u j=pr P v j:=by
 induction P with
 |nil=>rfl
 |cons a P ih=>
  show u a.1*a.2 j+pr P u j=v a.1*a.2 j+pr P v j;rw[h a<|al ..,ih λb hb=>h b<|ak _ hb]
theorem Xb{P:Pt F}{v:Vec F}{j:Nat}(h:∀b∈P,v b.1*b.2 j=0):pr P v j=0:=by
 induction P with
 |nil=>rfl
 |cons a P ih=>
  show v a.1*a.2 j+pr P v j=0;rw[h a<|al ..,ih λb hb=>h b<|ak _ hb];grind
theorem GO{P:Pt F}{v:Vec F}{j:Nat}{a:Nat×Vec F}(inc:P.Pairwise λa b=>a.1<b.1)(ha:a∈P)(h:∀b∈P,b.1≠a.1->v b.1*b.2 j=0):pr P v j=v a.1*a.2 j:=by
 induction P with
 |nil=>cases ha
 |cons b P ih=>
  rw[aZ]at inc;show v b.1*b.2 j+pr P v j=_;rcases ar.mp ha with e|hm
  .subst e
   rw[Xb λc hc=>h c (ak _ hc) (by have:=inc.1 c hc;lia)];grind
  .rw[ih inc.2 hm λc hc=>h c<|ak _ hc,h b (al ..) (by have:=inc.1 a hm;lia)];grind
def Rf.tail{a:Nat×Vec F}{P:Pt F}(h:Rf (a::P)):Rf P:=
 #[(aZ.mp h.inc).2,λb hb=>h.low b<|ak _ hb,λb hb=>h.one b<|ak _ hb,λb hb c hc=>h.zer b (ak _ hb) c<|ak _ hc]
def Rf.nil:Rf ([]:Pt F):=#[fJ,λ_ h=>(by cases h),λ_ h=>(by cases h),λ_ h=>(by cases h)]
theorem UM{P:Pt F}(h:Rf P){a:Nat×Vec F}(ha:a∈P)(v:Vec F):pr P v a.1=v a.1:=by
 rw[GO h.inc ha λb hb ne=>by rw[h.zer a ha b hb<|Ne.symm ne];grind,h.one a ha];grind
theorem Xy{P:Pt F}(h:Rf P){a:Nat×Vec F}(ha:a∈P):Mem P a.2:=λj=>by
 rw[GO h.inc ha λb hb ne=>by rw[h.zer b hb a ha ne];grind,h.one a ha];grind
def YO(c:F)(hu:Mem P u)(hv:Mem P v):Mem P λj=>u j+c*v j:=λj=>by
 rw[jU,<-hu j,<-hv j]
def Wd(c:F)(hu:Mem P u)(hv:Mem P v):Mem P λj=>u j-c*v j:=λj=>by
 rw[UQ,<-hu j,<-hv j]
theorem Xq{P:Pt F}:Mem P λ_=>0:=λj=>(Xb λb _=>by grind).symm
def JX{P:Pt F}(h:Rf P)(v:Vec F):Mem P (pr P v):=λj=>xZ (λb hb=>(UM h hb v).symm) j
theorem Q3{P:Pt F}{v:Vec F}(h:Mem P v)(z:∀b∈P,v b.1=0)(j:Nat):v j=0:=by
 rw[h j];exact Xb λb hb=>by rw[z b hb];grind
theorem wt{P:Pt F}(h:Rf P){v:Vec F}(hv:Mem P v){k:Nat}(hk:v k≠0)(hl:∀j,j<k->v j=0):∃a∈P,a.1=k:=by
 have inc:=h.inc;have low:=h.low;have gen:∀Q:Pt F,Q.Pairwise (λa b=>a.1<b.1)->(∀a∈Q,∀j,j<a.1->a.2 j=0)->(∀j,v j=pr Q v j)->∃a∈Q,v a.1≠0/\∀j,j<a.1->v j=0:=by
  intro Q
  induction Q with
  |nil=>intro _ _ e;exact T7 (e k) hk
  |cons a Q ih=>
   intro inc low e;rw[aZ]at inc;by_cases c:v a.1=0
   .obtain⟨b,hb,r⟩:=ih inc.2 (λb hb=>low b<|ak _ hb) λj=>by
     have:v j=v a.1*a.2 j+pr Q v j:=e j;rw[c]at this;grind
    exact#[b,ak _ hb,r]
   .refine#[a,al ..,c,λj hj=>?_]
    have e1:v j=v a.1*a.2 j+pr Q v j:=e j;have e2:pr Q v j=0:=Xb λb hb=>by rw[low b (ak _ hb) j (by have:=inc.1 b hb;lia)];grind
    rw[e1,e2,low a (al ..) j hj];grind
 obtain⟨a,ha,h1,h2⟩:=gen P inc low hv;refine#[a,ha,?_];by_cases c:a.1<k
 .exact T7 (hl _ c) h1
 .by_cases c2:k<a.1
  .exact T7 (h2 _ c2) hk
  .lia
def Wz{P Q:Pt F}(one0:(1:F)≠0)(hP:Rf P)(hQ:Rf Q)(h:∀v,Mem P v->Mem Q v):∀a∈P,∃b∈Q,b.1=a.1:=λa ha=>
 wt hQ (h _<|Xy hP ha) (by rw[hP.one a ha];exact one0) (hP.low a ha)
theorem Gb:∀{a b:List Nat},a.Pairwise (· < ·)->b.Pairwise (· < ·)->(∀x,x∈a↔x∈b)->a=b
 |[],[],_,_,_=>rfl
 |[],y::b,_,_,h=>by have:=(h y).mpr<|al ..;cases this
 |x::a,[],_,_,h=>by have:=(h x).mp<|al ..;cases this
 |x::a,y::b,ha,hb,h=>by
  rw[aZ]at ha hb;have e:x=y:=by
   rcases ar.mp ((h x).mp<|al ..)with e|e
   .exact e
   .rcases ar.mp ((h y).mpr<|al ..)with e'|e'
    .exact e'.symm
    .have:=hb.1 x e;have:=ha.1 y e';lia
  subst e;rw[Gb ha.2 hb.2 λz=>?_]
  constructor
  .intro hz
   rcases ar.mp ((h z).mp<|ak _ hz)with e|e
   .have:=ha.1 z hz;lia
   .exact e
  .intro hz
   rcases ar.mp ((h z).mpr<|ak _ hz)with e|e
   .have:=hb.1 z hz;lia
   .exact e
theorem UK:∀{a b:List Nat},a.Pairwise (· < ·)->b.Pairwise (· < ·)->(∀x∈a,x∈b)->a.length<=b.length/\(a.length=b.length->a=b)
 |[],b,_,_,_=>#[df _,λe=>(c9.mp e.symm).symm]
 |x::a,[],_,_,h=>by have:=h x<|al ..;cases this
 |x::a,y::b,ha,hb,h=>by
  have ha':=ha;rw[aZ]at ha hb;by_cases e:x=y
  .subst e
   obtain⟨h1,h2⟩:=UK ha.2 hb.2 λz hz=>by
    rcases ar.mp (h z<|ak _ hz)with e|e
    .have:=ha.1 z hz;lia
    .exact e
   refine#[by simp only[aI];lia,λe=>?_]
   rw[h2 (by simpa using e)]
  .have hxb:x∈b:=by
    rcases ar.mp (h x<|al ..)with e'|e'
    .exact T7 e' e
    .exact e'
   have:=hb.1 x hxb;obtain⟨h1,h2⟩:=UK ha' hb.2 λz hz=>by
    rcases ar.mp (h z hz)with e'|e'
    .rcases ar.mp hz with e2|e2
     .lia
     .have:=ha.1 z e2;lia
    .exact e'
   simp only[aI]at h1 ⊢;exact#[by lia,λe=>by lia]
def Rf.heads{P:Pt F}(h:Rf P):(P.map (·.1)).Pairwise (· < ·):=cX.mpr h.inc
theorem xa{P Q:Pt F}(one0:(1:F)≠0)(hP:Rf P)(hQ:Rf Q)(h:∀v,Mem P v->Mem Q v):P.length<=Q.length/\(P.length=Q.length->∀v,Mem Q v->Mem P v):=by
 obtain⟨h1,h2⟩:=UK hP.heads hQ.heads λx hx=>by
  obtain⟨a,ha,rfl⟩:=az.mp hx;obtain⟨b,hb,e⟩:=Wz one0 hP hQ h a ha;exact az.mpr #[b,hb,e]
 rw[aw,aw]at h1 h2;refine#[h1,λe v hv=>?_]
 have eh:=h2 e;have hd:Mem Q λj=>v j-1*pr P v j:=Wd 1 hv<|h _<|JX hP v
 have z:∀j,v j-1*pr P v j=0:=λj=>Q3 hd (λb hb=>by
  have:b.1∈P.map (·.1):=by rw[eh];exact az.mpr #[b,hb,rfl]
  obtain⟨a,ha,ea⟩:=az.mp this;show v b.1-1*pr P v b.1=0;rw[<-ea,UM hP ha v];grind) j
 intro j;have:=z j
 grind
theorem uniq{P Q:Pt F}(one0:(1:F)≠0)(hP:Rf P)(hQ:Rf Q)(h:∀v,Mem P v↔Mem Q v):P=Q:=by
 have eh:=Gb hP.heads hQ.heads λx=>by
  constructor
  .intro hx
   obtain⟨a,ha,rfl⟩:=az.mp hx;obtain⟨b,hb,e⟩:=Wz one0 hP hQ (λv=>(h v).mp) a ha
   exact az.mpr #[b,hb,e]
  .intro hx
   obtain⟨a,ha,rfl⟩:=az.mp hx;obtain⟨b,hb,e⟩:=Wz one0 hQ hP (λv=>(h v).mpr) a ha
   exact az.mpr #[b,hb,e]
 have ev:∀a∈P,∀b∈Q,a.1=b.1->a.2=b.2:=by
  intro a ha b hb e;have hd:=Wd 1 (Xy hP ha)<|(h _).mpr<|Xy hQ hb
  funext j
  have:=Q3 hd (λc hc=>by
   have:c.1∈Q.map (·.1):=by rw[<-eh];exact az.mpr #[c,hc,rfl]
   obtain⟨c',hc',ec⟩:=az.mp this;by_cases z:c.1=a.1
   .rw[z,hP.one a ha,e,hQ.one b hb];grind
   .rw[hP.zer c hc a ha z,<-ec,hQ.zer c' hc' b hb (by lia)];grind) j
  grind
 clear h hP hQ
 induction P generalizing Q with
 |nil=>cases Q with|nil=>rfl|cons b Q=>cases eh
 |cons a P ih=>cases Q with
  |nil=>cases eh
  |cons b Q=>
   rw[aN,aN]at eh;injection eh with e1 e2
   have e3:=ev a (al ..) b (al ..) e1;rw[ih e2 λx hx y hy=>ev x (ak _ hx) y<|ak _ hy]
   rw[Prod.ext e1 e3]
noncomputable def ins(x:Nat×Vec F):Pt F->Pt F
 |[]=>[x]
 |y::P=>if x.1<y.1 then x::y::P else y::ins x P
theorem Yo(x:Nat×Vec F):∀P:Pt F,(ins x P).Perm (x::P)
 |[]=>db _
 |y::P=>by
  unfold ins;split
  .exact db _
  .exact((Yo x P).cons y).trans<|gJ x y P
theorem zq(x:Nat×Vec F):∀{P:Pt F},P.Pairwise (λa b=>a.1<b.1)->(∀a∈P,a.1≠x.1)->(ins x P).Pairwise λa b=>a.1<b.1
 |[],_,_=>by exact fY ..
 |y::P,h,hn=>by
  have h':=aZ.mp h;unfold ins;split
  .rename_i c
   refine aZ.mpr #[λz hz=>?_,h]
   rcases ar.mp hz with rfl|hz
   .exact c
   .have:=h'.1 z hz;lia
  .rename_i c
   refine aZ.mpr #[λz hz=>?_,zq x h'.2 λa ha=>hn a<|ak _ ha]
   rcases ar.mp ((Yo x P).mem_iff.mp hz)with rfl|hz
   .have:=hn y<|al ..;lia
   .exact h'.1 z hz
theorem xQ(x:Nat×Vec F)(v:Vec F)(j:Nat):∀P:Pt F,pr (ins x P) v j=v x.1*x.2 j+pr P v j
 |[]=>rfl
 |y::P=>by
  unfold ins;split
  .rfl
  .show v y.1*y.2 j+pr (ins x P) v j=v x.1*x.2 j+(v y.1*y.2 j+pr P v j)
   rw[xQ x v j P];grind
noncomputable def off(h:Nat)(l:Vec F)(a:Nat×Vec F):Nat×Vec F:=(a.1,λj=>a.2 j-a.2 h*l j)
noncomputable def wid(P:Pt F)(h:Nat)(l:Vec F):Pt F:=ins (h,l)<|P.map<|off h l
theorem yN(h:Nat)(l v:Vec F)(j:Nat):∀P:Pt F,pr (P.map<|off h l) v j=pr P v j-pr P v h*l j
 |[]=>by show(0:F)=0-0*l j;grind
 |a::P=>by
  show v a.1*(a.2 j-a.2 h*l j)+pr (P.map<|off h l) v j=(v a.1*a.2 j+pr P v j)-(v a.1*a.2 h+pr P v h)*l j;rw[yN h l v j P];grind
structure Lead(P:Pt F)(h:Nat)(l:Vec F):Prop where
 one:l h=1
 low:∀j,j<h->l j=0
 zer:∀a∈P,l a.1=0
def Lead.ne{P:Pt F}{h:Nat}{l:Vec F}(one0:(1:F)≠0)(L:Lead P h l){a:Nat×Vec F}(ha:a∈P):a.1≠h:=λe=>by
 have:=L.zer a ha;rw[e,L.one]at this;exact one0 this
theorem xr{P:Pt F}{h:Nat}{l:Vec F}(one0:(1:F)≠0)(hP:Rf P)(L:Lead P h l):Rf (wid P h l):=by
 have mem:∀{x},x∈wid P h l->x=(h,l)\/∃a∈P,x=off h l a:=λ{x} hx=>by
  rcases ar.mp ((Yo _ _).mem_iff.mp hx)with e|e
  .exact .inl e
  .obtain⟨a,ha,e⟩:=az.mp e
   exact .inr #[a,ha,e.symm]
 refine#[zq _ ?_ ?_,λx hx j hj=>?_,λx hx=>?_,λx hx y hy ne=>?_]
 .exact cX.mpr hP.inc
 .intro a ha
  obtain⟨b,hb,rfl⟩:=az.mp ha;exact L.ne (a:=b) one0 hb
 .rcases mem hx with rfl|⟨a,ha,rfl⟩
  .exact L.low j hj
  .show a.2 j-a.2 h*l j=0
   rw[hP.low a ha j hj];by_cases c:h<a.1
   .rw[hP.low a ha h c];grind
   .have:j<a.1:=hj
    rw[L.low j (by have:=L.ne one0 ha;lia)];grind
 .rcases mem hx with rfl|⟨a,ha,rfl⟩
  .exact L.one
  .show a.2 a.1-a.2 h*l a.1=1
   rw[hP.one a ha,L.zer a ha];grind
 .rcases mem hx with rfl|⟨a,ha,rfl⟩
  .rcases mem hy with rfl|⟨b,hb,rfl⟩
   .exact T7 rfl ne
   .show b.2 h-b.2 h*l h=0
    rw[L.one];grind
  .rcases mem hy with rfl|⟨b,hb,rfl⟩
   .exact L.zer a ha
   .show b.2 a.1-b.2 h*l a.1=0
    rw[hP.zer a ha b hb ne,L.zer a ha];grind
def UT(P:Pt F)(h:Nat)(l:Vec F):(wid P h l).length=P.length+1:=by
 have:=(Yo (h,l)<|P.map<|off h l).length_eq;rw[aI,aw]at this;exact this
theorem ut{P:Pt F}{h:Nat}{l:Vec F}(hP:Rf P)(L:Lead P h l)(u:Vec F):Mem (wid P h l) u↔∃c,Mem P λj=>u j-c*l j:=by
 have e:∀j,pr (wid P h l) u j=u h*l j+(pr P u j-pr P u h*l j):=λj=>by
  unfold wid;rw[xQ,yN]
 have pl:∀j,pr P l j=0:=λj=>Xb λb hb=>by rw[L.zer b hb];grind
 constructor
 .intro hu
  refine#[u h-pr P u h,λj=>?_]
  rw[UQ,pl];have:=hu j;rw[e j]at this;show u j-(u h-pr P u h)*l j=_
  grind
 .rintro ⟨c,hc⟩ j
  rw[e j];have h1:=hc j;have h2:u h-c*l h=_:=hc h;rw[UQ,pl]at h1 h2;rw[L.one]at h2
  grind
noncomputable def rest(P:Pt F)(v:Vec F):Vec F:=λj=>v j-pr P v j
theorem xo(hP:Rf P)(v:Vec F)(ha:a∈P):rest P v a.1=0:=by
 unfold rest;rw[UM hP ha];grind
theorem Vc{P:Pt F}{v:Vec F}:(∀j,rest P v j=0)↔Mem P v:=by
 constructor
 .intro h j;have:=h j;unfold rest at this;grind
 .intro h j;have:=h j;unfold rest;grind
theorem G9{P:Pt F}(hP:Rf P){v:Vec F}{h:Nat}{i:F}(hi:i*rest P v h=1)(hl:∀j,j<h->rest P v j=0):Lead P h λj=>i*rest P v j:=
 #[hi,λj hj=>by rw[hl j hj];grind,λa ha=>by rw[xo hP v ha];grind]
theorem xR{P:Pt F}(hP:Rf P){v:Vec F}{h:Nat}{i:F}(hi:i*rest P v h=1)(hl:∀j,j<h->rest P v j=0)(u:Vec F) :
  Mem (wid P h λj=>i*rest P v j) u↔∃c,Mem P λj=>u j-c*v j:=by
 rw[ut hP<|G9 hP hi hl]
 constructor
 .rintro ⟨c,hc⟩
  refine#[c*i,?_];have:=Wd (c*i) hc<|JX hP v;have e:(λj=>(u j-c*(i*rest P v j))-c*i*pr P v j)=λj=>u j-c*i*v j:=by funext j;unfold rest;grind
  rw[e]at this;exact this
 .rintro ⟨c,hc⟩
  refine#[c*rest P v h,?_];have:=YO c hc<|JX hP v;have e:(λj=>(u j-c*v j)+c*pr P v j)=λj=>u j-c*rest P v h*(i*rest P v j):=by funext j;unfold rest at hi ⊢;grind
  rw[e]at this;exact this
theorem wJ(hv:Mem P v)(u:Vec F):Mem P u↔∃c,Mem P λj=>u j-c*v j:=by
 constructor
 .intro h;exact#[0,by have:=Wd 0 h hv;exact this]
 .rintro ⟨c,hc⟩
  have:=YO c hc hv;have e:(λj=>(u j-c*v j)+c*v j)=u:=by funext j;grind
  rw[e]at this;exact this
def Qq(P:Pt F):List (Vec F)->Vec F->Prop
 |[],u=>Mem P u
 |v::vs,u=>∃c,Qq P vs λj=>u j-c*v j
theorem Wt{P P':Pt F}{v:Vec F}(h:∀u,Mem P' u↔∃c,Mem P λj=>u j-c*v j):∀(vs:List (Vec F))(u:Vec F),Qq P' vs u↔Qq P (v::vs) u
 |[],u=>h u
 |w::vs,u=>by
  constructor
  .rintro ⟨d,hd⟩
   obtain⟨c,hc⟩:=(Wt h vs _).mp hd;refine#[c,d,?_];have e:(λj=>u j-c*v j-d*w j)=λj=>u j-d*w j-c*v j:=by funext j;grind
   show Qq P vs λj=>u j-c*v j-d*w j
   rw[e];exact hc
  .rintro ⟨c,d,hc⟩
   refine#[d,(Wt h vs _).mpr #[c,?_]];have e:(λj=>u j-d*w j-c*v j)=λj=>u j-c*v j-d*w j:=by funext j;grind
   show Qq P vs λj=>u j-d*w j-c*v j
   rw[e];exact hc
theorem yp{P Q:Pt F}(hQ:Rf Q)(u:Vec F):Qq P (Q.map (·.2)) u↔∃q,Mem Q q/\Mem P λj=>u j-q j:=by
 constructor
 .have gen:∀(ws:List (Vec F))(u:Vec F),(∀w∈ws,Mem Q w)->Qq P ws u->∃q,Mem Q q/\Mem P λj=>u j-q j:=by
   intro ws
   induction ws with
   |nil=>intro u _ h;exact#[λ_=>0,Xq,by
    have e:(λj=>u j-0)=u:=by funext j;grind
    rw[e];exact h]
   |cons w ws ih=>
    rintro u hw ⟨c,h⟩
    obtain⟨q,hq,hp⟩:=ih _ (λx hx=>hw x<|ak _ hx) h
    refine#[λj=>q j+c*w j,YO c hq<|hw w<|al ..,?_]
    have e:(λj=>u j-(q j+c*w j))=λj=>u j-c*w j-q j:=by funext j;grind
    rw[e];exact hp
  exact gen _ u λw hw=>by obtain⟨a,ha,rfl⟩:=az.mp hw;exact Xy hQ ha
 .rintro ⟨q,hq,hp⟩
  have gen:∀(R:Pt F)(u:Vec F),(Mem P λj=>u j-pr R q j)->Qq P (R.map (·.2)) u:=by
   intro R
   induction R with
   |nil=>
    intro u h;have e:(λj=>u j-pr [] q j)=u:=by funext j;show u j-0=u j;grind
    rw[e]at h;exact h
   |cons a R ih=>
    intro u h;refine#[q a.1,ih _ ?_];have e:(λj=>u j-q a.1*a.2 j-pr R q j)=λj=>u j-pr (a::R) q j:=by funext j;show _=u j-(q a.1*a.2 j+pr R q j);grind
    show Mem P λj=>u j-q a.1*a.2 j-pr R q j
    rw[e];exact h
  refine gen Q u ?_;have e:(λj=>u j-pr Q q j)=λj=>u j-q j:=by funext j;rw[<-hq j]
  rw[e];exact hp
variable{F:Type}[eU F][DecidableEq F]
def Supp(n:Nat)(v:Vec F):Prop:=∀j,n<=j->v j=0
structure Pn(n:Nat)(P:Pt F):Prop where
 rf:Rf P
 lt:∀a∈P,a.1<n
 sp:∀a∈P,Supp n a.2
theorem Pn.nil{n:Nat}:Pn n ([]:Pt F):=#[Rf.nil,λ_ h=>(by cases h),λ_ h=>(by cases h)]
theorem uD(h:Pn n P)(v:Vec F):Supp n (pr P v):=λj hj=>Xb λb hb=>by rw[h.sp b hb j hj];grind
noncomputable def hdV(n:Nat)(v:Vec F):Option Nat:=(aY n).find? λj=>ae<|v j≠0
theorem xD{n:Nat}{v:Vec F}(hs:Supp n v)(h:hdV n v=ab)(j:Nat):v j=0:=by
 by_cases c:j<n
 .have:=iz.mp h j (bm.mpr c)
  simpa using this
 .exact hs j (by lia)
def Q9{n:Nat}{v:Vec F}{k:Nat}(h:hdV n v=aa k):k<n/\v k≠0/\∀j,j<k->v j=0:=by
 unfold hdV at h;rw[fT]at h;obtain⟨h1,h2,h3⟩:=h;refine#[bm.mp h2,by simpa using h1,λj hj=>?_]
 have:=h3 j hj
 simpa using this
def Gp{n:Nat}{v:Vec F}{k:Nat}(hk:k<n)(h1:v k≠0)(h2:∀j,j<k->v j=0):hdV n v=aa k:=by
 unfold hdV;rw[fT];exact#[by simpa using h1,bm.mpr hk,λj hj=>by simpa using h2 j hj]
structure Fld(inv:F->F):Prop where
 inv:∀a,a≠0->inv a*a=1
 one0:(1:F)≠0
section
variable{inv:F->F}{n:Nat}
noncomputable def more(inv:F->F)(n:Nat)(P:Pt F)(v:Vec F):Pt F:=match hdV n (rest P v)with
 |none=>P
 |some h=>wid P h λj=>inv (rest P v h)*rest P v j
structure Grow(n:Nat)(P:Pt F)(v:Vec F)(P':Pt F):Prop where
 pn:Pn n P'
 mem:∀u,Mem P' u↔∃c,Mem P λj=>u j-c*v j
 same:Mem P v->P'=P
 len:¬Mem P v->P'.length=P.length+1
theorem UJ(f:Fld inv){P:Pt F}{v:Vec F}(hP:Pn n P)(hv:Supp n v):Grow n P v (more inv n P v):=by
 have hs:Supp n (rest P v):=λj hj=>by unfold rest;rw[hv j hj,uD hP v j hj];grind
 cases q:hdV n (rest P v)with
 |none=>
  have e:more inv n P v=P:=by unfold more;rw[q]
  have hm:=Vc.mp<|xD hs q;rw[e];exact#[hP,wJ hm,λ_=>rfl,λh=>T7 hm h]
 |some h=>
  have e:more inv n P v=wid P h λj=>inv (rest P v h)*rest P v j:=by unfold more;rw[q]
  obtain⟨h1,h2,h3⟩:=Q9 q;have hi:=f.inv _ h2;have L:=G9 hP.rf hi h3;rw[e];refine#[#[xr f.one0 hP.rf L,λa ha=>?_,λa ha=>?_],xR hP.rf hi h3,λhm=>T7 (Vc.mpr hm h) h2,λ_=>UT ..]
  .rcases ar.mp ((Yo _ _).mem_iff.mp ha)with e|e
   .rw[e];exact h1
   .obtain⟨b,hb,rfl⟩:=az.mp e
    exact hP.lt b hb
  .rcases ar.mp ((Yo _ _).mem_iff.mp ha)with e|e
   .rw[e];intro j hj
    show inv (rest P v h)*rest P v j=0;rw[hs j hj];grind
   .obtain⟨b,hb,rfl⟩:=az.mp e
    intro j hj;show b.2 j-b.2 h*(inv (rest P v h)*rest P v j)=0;rw[hP.sp b hb j hj,hs j hj];grind
noncomputable def VI(inv:F->F)(n:Nat)(P:Pt F)(vs:List (Vec F)):Pt F:=vs.foldl (more inv n) P
theorem Qu(f:Fld inv):∀(vs:List (Vec F)){P:Pt F},Pn n P->(∀v∈vs,Supp n v)->Pn n (VI inv n P vs)/\∀u,Mem (VI inv n P vs) u↔Qq P vs u
 |[],P,hP,_=>#[hP,λu=>Iff.rfl]
 |v::vs,P,hP,hv=>by
  have g:=UJ f hP<|hv v<|al ..;obtain⟨a,b⟩:=Qu f vs g.pn λw hw=>hv w<|ak _ hw
  exact#[a,λu=>(b u).trans<|Wt g.mem vs u]
noncomputable def join(inv:F->F)(n:Nat)(P Q:Pt F):Pt F:=VI inv n P (Q.map (·.2))
def Qz(f:Fld inv){P Q:Pt F}(hP:Pn n P)(hQ:Pn n Q)(u:Vec F):Mem (join inv n P Q) u↔∃q,Mem Q q/\Mem P λj=>u j-q j:=
 ((Qu f _ hP λv hv=>by obtain⟨a,ha,rfl⟩:=az.mp hv;exact hQ.sp a ha).2 u).trans (yp hQ.rf u)
def Zbe(f:Fld inv){P Q:Pt F}(hP:Pn n P)(hQ:Pn n Q)(h:∀v,Mem P v↔Mem Q v):P=Q:=uniq f.one0 hP.rf hQ.rf h
theorem xt(u:Vec F):(λj=>u j-u j)=λ_=>0:=by funext j;grind
def JP(f:Fld inv){P Q:Pt F}(hP:Pn n P)(hQ:Pn n Q){u:Vec F}(h:Mem Q u):Mem (join inv n P Q) u:=
 (Qz f hP hQ u).mpr #[u,h,by rw[xt];exact Xq]
theorem Gi(f:Fld inv){P Q R:Pt F}(hP:Pn n P)(hQ:Pn n Q)(h1:∀u,Mem P u->Mem R u)(h2:∀u,Mem Q u->Mem R u){u:Vec F}(h:Mem (join inv n P Q) u):Mem R u:=by
 obtain⟨q,a,b⟩:=(Qz f hP hQ u).mp h;have:=YO 1 (h1 _ b)<|h2 _ a;have e:(λj=>u j-q j+1*q j)=u:=by funext j;grind
 rw[e]at this;exact this
noncomputable def YF(P:Pt F)(j:Nat):Bool:=(P.map (·.1)).contains j
noncomputable def free(n:Nat)(P:Pt F):List Nat:=(aY n).filter λj=>!YF P j
noncomputable def av:Pt F->Nat->Vec F
 |[],f,j=>if j=f then 1 else 0
 |a::P,f,j=>if j=a.1 then-a.2 f else av P f j
def Y8 :YF P j=ag↔∃a∈P,a.1=j:=by
 unfold YF;rw[dm,az]
def Gq{P:Pt F}{f j:Nat}(h:YF P j=ai):av P f j=if j=f then 1 else 0:=by
 induction P with
 |nil=>rfl
 |cons a P ih=>
  have h1:¬∃b∈a::P,b.1=j:=λz=>by rw[Y8.mpr z]at h;cases h
  show(if j=a.1 then-a.2 f else av P f j)=_
  rw[T8 λz=>h1 #[a,al ..,z.symm]]
  exact ih (by
   cases q:YF P j with
   |false=>rfl
   |true=>obtain⟨b,hb,e⟩:=Y8.mp q;exact T7 #[b,ak _ hb,e] h1)
def VJ :j∈free n P↔j<n/\YF P j=ai:=by
 unfold free;rw[cy,bm];simp
theorem vE{P:Pt F}(hP:Pn n P){f:Nat}(hf:f<n):Supp n (av P f):=λj hj=>by
 rw[Gq (by
  cases q:YF P j with
  |false=>rfl
  |true=>obtain⟨b,hb,e⟩:=Y8.mp q;have:=hP.lt b hb;lia),T8 (by lia)]
noncomputable def perp(inv:F->F)(n:Nat)(P:Pt F):Pt F:=VI inv n []<|(free n P).map<|av P
theorem yq(f:Fld inv){P:Pt F}(hP:Pn n P):(perp inv n P).length+P.length=n:=by
 have gen:∀(L:List Nat)(A:Pt F)(D:List Nat),Pn n A->(∀k∈L,k∈free n P)->L.Nodup->(∀k∈L,k∉D)->(∀u,Mem A u->∀k∈free n P,k∉D->u k=0)->(VI inv n A<|L.map<|av P).length=A.length+L.length:=by
  intro L
  induction L with
  |nil=>intro A D _ _ _ _ _;rfl
  |cons k L ih=>
   intro A D hA hL hn hD hz;rw[cQ]at hn;have hk:=hL k<|al ..;have g:=UJ f hA<|vE hP (VJ.mp hk).1;have nm:¬Mem A (av P k):=λh=>by
    have:=hz _ h k hk<|hD k<|al ..;rw[Gq (VJ.mp hk).2,T9 rfl]at this;exact f.one0 this
   have:=ih (more inv n A<|av P k) (k::D) g.pn (λj hj=>hL j<|ak _ hj) hn.2 (λj hj=>by
    rw[ar]
    rintro (z|z)
    .exact hn.1<|z▸hj
    .exact hD j (ak _ hj) z) λu hu j hj hjD=>by
     obtain⟨c,hc⟩:=(g.mem u).mp hu;rw[ar]at hjD;have h1:=hz _ hc j hj λz=>hjD<|.inr z
     rw[Gq (VJ.mp hj).2,T8 λz=>hjD<|.inl z]at h1
     grind
   show(VI inv n (more inv n A<|av P k)<|L.map<|av P).length=_;rw[this,g.len nm,aI];lia
 have h1:=gen (free n P) [] [] Pn.nil (λ_ h=>h) (gN _ List.nodup_range) (λ_ _ h=>by cases h) λu hu k _ _=>hu k
 have h2:=Gb (gN _ List.pairwise_lt_range) hP.rf.heads λx=>by
  rw[cy,bm,Y8,az]
  constructor
  .rintro ⟨_,a,ha,e⟩;exact#[a,ha,e]
  .rintro ⟨a,ha,e⟩;exact#[by rw[<-e];exact hP.lt a ha,a,ha,e]
 have h3:((aY n).filter<|YF P).length+(free n P).length=n:=by
  have gen:∀L:List Nat,(L.filter<|YF P).length+(L.filter λj=>!YF P j).length=L.length:=by
   intro L
   induction L with
   |nil=>rfl
   |cons k L ih=>
    rw[f7,f7];cases YF P k<;>simp<;>lia
  have:=gen<|aY n;rw[bY]at this;exact this
 rw[h2,aw]at h3;have h4:(perp inv n P).length=(free n P).length:=by
  have e:(perp inv n P).length=0+(free n P).length:=h1;lia
 lia
end
end La
namespace Rw
open La
open Ev (ltI YG ZR)
section
variable{p:Nat}[NeZero p]
noncomputable def ph(p:Nat)[NeZero p](a:Int):Fin p:=Fin.ofNat p (a%p).toNat
theorem ppos:(0:Int)<p:=by have:=NeZero.ne p;lia
theorem YA(a:Int):((ph p a).val:Int)=a%p:=by
 have h:=ppos (p:=p);have h0:=dh a (by lia:(p:Int)≠0)
 have h1:=cO a h;show((((a%p).toNat)%p:Nat):Int)=a%p;rw[Nat.mod_eq_of_lt<|(Int.toNat_lt h0).mpr h1];exact gX h0
theorem WY{x y:Fin p}(h:(x.val:Int)=y.val):x=y:=Fin.ext (by lia)
def vd(a b:Int):ph p (a+b)=ph p a+ph p b:=WY (by
 rw[YA,Fin.val_add];show(a+b)%p=(((ph p a).val+(ph p b).val:Nat):Int)%p;rw[Int.natCast_add,YA,YA,<-Int.add_emod])
def xA(a b:Int):ph p (a*b)=ph p a*ph p b:=WY (by
 rw[YA,Fin.val_mul];show(a*b)%p=(((ph p a).val*(ph p b).val:Nat):Int)%p;rw[Int.natCast_mul,YA,YA,<-Int.mul_emod])
def xj(a:Int):ph p (a%p)=ph p a:=WY (by rw[YA,YA,Int.emod_emod])
def W3:ph p 0=0:=WY (by rw[YA];simp)
theorem J8(a:Int):ph p (-a) = - ph p a:=by
 have h:ph p (-a+a)=ph p (-a)+ph p a:=vd _ _;rw[show -a+a=0 by lia,W3]at h
 grind
def Gg{a b:Int}(ha:0<=a/\a<p)(hb:0<=b/\b<p)(h:ph p a=ph p b):a=b:=by
 have:=congrArg (λx:Fin p=>(x.val:Int)) h
 simp only[YA]at this;rw[d7 ha.1 ha.2,d7 hb.1 hb.2]at this;exact this
theorem ZaQ{a:Int}(ha:0<=a/\a<p):ph p a=0↔a=0:=by
 constructor
 .intro h;exact Gg ha #[by lia,ppos] (by rw[h,W3])
 .rintro rfl;exact W3
end
abbrev Row:=List Int
def Zh(p n:Nat)(r:Row):Prop:=r.length=n/\∀a∈r,0<=a/\a<(p:Int)
noncomputable def gt(r:Row)(j:Nat):Int:=r.getD j 0
def Xl{p n:Nat}(h0:(0:Int)<p){r:Row}(h:Zh p n r)(j:Nat):0<=gt r j/\gt r j<p:=by
 unfold gt;rw[bf];cases q:r[j]? with|none=>exact#[Int.le_refl _,h0]|some a=>exact h.2 a<|eD q
def JO(h:r.length<=j):gt r j=0:=by unfold gt;rw[bf,eg h];rfl
def j3(hl:r.length=s.length)(h:∀j,gt r j=gt s j):r=s:=by
 apply et hl;intro j h1 h2;have:=h j;unfold gt at this;rw[bf,bf,ao h1,ao h2]at this;exact this
noncomputable def hdI:Row->Option Nat
 |[]=>ab
 |a::r=>if a≠0 then aa 0 else(hdI r).map (· + 1)
theorem Ye:∀{r:Row}{k:Nat},hdI r=aa k->gt r k≠0/\k<r.length/\∀j,j<k->gt r j=0
 |[],k,h=>by cases h
 |a::r,k,h=>by
  unfold hdI at h;by_cases c:a≠0
  .rw[T9 c]at h;cases h;exact#[c,by simp,λj hj=>by lia]
  .rw[T8 c]at h
   cases q:hdI r with
   |none=>rw[q]at h;cases h
   |some m=>
    rw[q]at h;have e:m+1=k:=ah h;subst e;obtain⟨h1,h2,h3⟩:=Ye q;refine#[h1,by simp;lia,λj hj=>?_]
    cases j with|zero=>exact i3.mp c|succ j=>exact h3 j (by lia)
theorem YY:∀{r:Row},hdI r=ab->∀j,gt r j=0
 |[],_,j=>JO<|df _
 |a::r,h,j=>by
  unfold hdI at h;by_cases c:a≠0
  .rw[T9 c]at h;cases h
  .rw[T8 c]at h
   have h':=gn.mp h;cases j with|zero=>exact i3.mp c|succ j=>exact YY h' j
def jK(h1:gt r k≠0)(h2:∀j,j<k->gt r j=0):hdI r=aa k:=by
 cases q:hdI r with
 |none=>exact T7 (YY q k) h1
 |some m=>
  obtain⟨a,_,c⟩:=Ye q;have:¬k<m:=λz=>h1<|c k z
  have:¬m<k:=λz=>a<|h2 m z
  rw[show m=k by lia]
section
variable{p n:Nat}[NeZero p]
noncomputable def toV(p:Nat)[NeZero p](r:Row):Vec (Fin p):=λj=>ph p<|gt r j
def X0{r s:Row}(hr:Zh p n r)(hs:Zh p n s)(h:toV p r=toV p s):r=s:=
 j3 (by rw[hr.1,hs.1]) λj=>Gg (Xl ppos hr j) (Xl ppos hs j)<|congrFun h j
def Vb(hr:Zh p n r):Supp n (toV p r):=λj hj=>by unfold toV;rw[JO (by rw[hr.1];exact hj),W3]
def Yb{r:Row}(hr:Zh p n r){j:Nat}:toV p r j=0↔gt r j=0:=ZaQ<|Xl ppos hr j
def UI(hr:Zh p n r):hdV n (toV p r)=hdI r:=by
 cases q:hdI r with
 |none=>
  cases q2:hdV n (toV p r)with|none=>rfl|some k=>exact T7 ((Yb hr).mpr<|YY q k) (Q9 q2).2.1
 |some k=>
  obtain⟨a,b,c⟩:=Ye q;exact Gp (by rw[<-hr.1];exact b) (λz=>a<|(Yb hr).mp z) λj hj=>(Yb hr).mpr<|c j hj
noncomputable def ZJ(p:Nat)(r o:Row)(k:Int):Row:=List.zipWith (λa b=>(a+k*b)%p) r o
noncomputable def Xm(p:Nat)(r:Row)(k:Int):Row:=r.map λa=>k*a%p
theorem Zaw(hl:r.length=o.length)(h0:f 0 0=0)(j:Nat):gt (List.zipWith f r o) j=f (gt r j) (gt o j):=by
 unfold gt;simp only[bf];rw[List.getElem?_zipWith];by_cases c:j<r.length
 .rw[ao c,ao (by lia)];rfl
 .rw[eg (by lia),eg (by lia)];exact h0.symm
theorem Zx(hr:Zh p n r)(ho:Zh p n o):Zh p n (ZJ p r o k):=by
 refine#[by unfold ZJ;rw[List.length_zipWith,hr.1,ho.1];simp,λa ha=>?_]
 unfold ZJ at ha;rw[<-c0]at ha;obtain⟨⟨x,y⟩,_,rfl⟩:=az.mp ha;exact#[dh _ (by have:=ppos (p:=p);lia),cO _ ppos]
def W0(hr:Zh p n r)(ho:Zh p n o)(j:Nat):gt (ZJ p r o k) j=(gt r j+k*gt o j)%p:=by
 unfold ZJ;rw[Zaw (by rw[hr.1,ho.1]) (by simp)]
def Yf(hr:Zh p n r)(ho:Zh p n o):toV p (ZJ p r o k)=λj=>toV p r j+ph p k*toV p o j:=by
 funext j
 unfold toV;rw[W0 hr ho,xj,vd,xA]
def Vl(j:Nat):gt (Xm p r k) j=k*gt r j%p:=by
 unfold Xm gt;simp only[bf,aV];cases r[j]?<;>simp
theorem YW{r:Row}{k:Int}(hr:Zh p n r):Zh p n (Xm p r k):=by
 refine#[by unfold Xm;rw[aw,hr.1],λa ha=>?_]
 obtain⟨x,_,rfl⟩:=az.mp ha;exact#[dh _ (by have:=ppos (p:=p);lia),cO _ ppos]
def V2 :toV p (Xm p r k)=λj=>ph p k*toV p r j:=by
 funext j
 unfold toV;rw[Vl,xj,xA]
noncomputable def toP(p:Nat)[NeZero p](P:List Row):Pt (Fin p):=P.map λr=>((hdI r).getD 0,toV p r)
structure pZ(p n:Nat)[NeZero p](P:List Row):Prop where
 row:∀r∈P,Zh p n r
 pn:Pn n (toP p P)
theorem pZ.nil:pZ p n []:=#[λ_ h=>(by cases h),Pn.nil]
def Z3(h:r∈P):((hdI r).getD 0,toV p r)∈toP p P:=az.mpr #[r,h,rfl]
def pZ.head(one0:(1:Fin p)≠0)(h:pZ p n P)(hr:r∈P):∃k,hdI r=aa k/\k<n/\toV p r k=1:=by
 have h1:=h.pn.rf.one _<|Z3 hr;cases q:hdI r with
 |none=>
  rw[q]at h1;have:toV p r 0=1:=h1;have z:=(Yb<|h.row r hr).mpr<|YY q 0;rw[z]at this;exact T7 this.symm one0
 |some k=>
  rw[q]at h1;have h2:=h.pn.lt _<|Z3 hr;rw[q]at h2;exact#[k,rfl,h2,h1]
def ue(hP:∀r∈P,Zh p n r)(hQ:∀r∈Q,Zh p n r)(h:toP p P=toP p Q):P=Q:=by
 induction P generalizing Q with
 |nil=>cases Q with|nil=>rfl|cons b Q=>cases h
 |cons a P ih=>cases Q with
  |nil=>cases h
  |cons b Q=>
   have h':=h;injection h' with e1 e2
   have e3:=congrArg Prod.snd e1;rw[X0 (hP a<|al ..) (hQ b<|al ..) e3,ih (λr hr=>hP r<|ak _ hr) (λr hr=>hQ r<|ak _ hr) e2]
def vH(P:List Row):(toP p P).map (·.2)=P.map (toV p):=by unfold toP;rw[bB];rfl
def U7(P:List Row):(toP p P).length=P.length:=by unfold toP;rw[aw]
noncomputable def clr(p:Nat)(r o:Row)(h:Nat):Row:=ZJ p r o<|-(gt r h)
noncomputable def ZD(p:Nat)(P:List Row)(r:Row):Row:=P.foldl (λs o=>clr p s o<|(hdI o).getD 0) r
theorem Y3(hr:Zh p n r)(ho:Zh p n o):toV p (clr p r o h)=λj=>toV p r j-toV p r h*toV p o j:=by
 unfold clr;rw[Yf hr ho]
 funext j
 rw[J8];show toV p r j+(- toV p r h)*toV p o j=_
 grind
theorem UW:∀{P:List Row}{r:Row},(∀o∈P,Zh p n o)->Rf (toP p P)->Zh p n r->Zh p n (ZD p P r)/\toV p (ZD p P r)=rest (toP p P) (toV p r)
 |[],r,_,_,hr=>#[hr,by funext j;show toV p r j=toV p r j-0;grind]
 |o::P,r,hP,hf,hr=>by
  have ho:=hP o<|al ..;have hc:Zh p n (clr p r o<|(hdI o).getD 0):=Zx hr ho;obtain⟨a,b⟩:=UW (λo h=>hP o<|ak _ h) hf.tail hc
  refine#[a,?_];show toV p (ZD p P<|clr p r o<|(hdI o).getD 0)=_;rw[b,Y3 hr ho];have z:∀j,pr (toP p P) (toV p o) j=0:=λj=>Xb λc hc=>by
   have:toV p o c.1=0:=by
    have h1:c∈toP p (o::P):=ak _ hc;have h2:((hdI o).getD 0,toV p o)∈toP p (o::P):=al ..;have h3:=(aZ.mp hf.inc).1 c hc;exact hf.zer c h1 _ h2 (by simp only at h3 ⊢;lia)
   rw[this];grind
  funext j
  unfold rest;rw[UQ,z];show toV p r j-toV p r ((hdI o).getD 0)*toV p o j-(pr (toP p P) (toV p r) j-_*0)=toV p r j-(toV p r ((hdI o).getD 0)*toV p o j+pr (toP p P) (toV p r) j)
  grind
def x8(hP:pZ p n P)(hr:Zh p n r):hdI (ZD p P r)=ab↔Mem (toP p P) (toV p r):=by
 obtain⟨a,b⟩:=UW hP.row hP.pn.rf hr;rw[<-Vc,<-b]
 constructor
 .intro h j;exact(Yb a).mpr<|YY h j
 .intro h
  cases q:hdI (ZD p P r)with|none=>rfl|some k=>exact T7 ((Yb a).mp<|h k) (Ye q).1
end
noncomputable def YD(p:Nat)(a:Int):Int:=if a=1 then 1 else if p=3 then 2 else if a=2 then 3 else if a=3 then 2 else 4
noncomputable def U1(p:Nat)[NeZero p](x:Fin p):Fin p:=ph p<|YD p x.val
class Base(p:Nat):Prop where
 b:p=2\/p=3\/p=5
instance(p:Nat)[h:Base p]:NeZero p:=⟨by rcases h.b with e|e|e<;>lia⟩
section
variable{p n:Nat}[Base p]
def fld2:∀a:Fin 2,a≠0->U1 2 a*a=1:=by decide
def fld3:∀a:Fin 3,a≠0->U1 3 a*a=1:=by decide
def fld5:∀a:Fin 5,a≠0->U1 5 a*a=1:=by decide
def one2:(1:Fin 2)≠0:=by decide
def one3:(1:Fin 3)≠0:=by decide
def one5:(1:Fin 5)≠0:=by decide
def fld:Fld (U1 p):=by
 rcases(inferInstance:Base p).b with e|e|e<;>subst e
 .exact#[fld2,one2]
 .exact#[fld3,one3]
 .exact#[fld5,one5]
def u9{a:Int}(h:0<=a/\a<(p:Int)):((ph p a).val:Int)=a:=by rw[YA,d7 h.1 h.2]
noncomputable def lead(p:Nat)(s:Row)(h:Nat):Row:=Xm p s<|YD p<|gt s h
noncomputable def JE(p:Nat)(P:List Row)(r:Row):List Row:=match hdI (ZD p P r)with
 |none=>P
 |some h=>(ZR<|P.map (λo=>clr p o (lead p (ZD p P r) h) h)++[lead p (ZD p P r) h]).reverse
noncomputable def Jp(h:Nat)(x:Row):List Row->List Row
 |[]=>[x]
 |y::P=>if h<(hdI y).getD 0 then x::y::P else y::Jp h x P
theorem Wy(h:Nat)(x:Row):∀P:List Row,(Jp h x P).Perm (x::P)
 |[]=>db _
 |y::P=>by
  unfold Jp;split
  .exact db _
  .exact((Wy h x P).cons y).trans<|gJ x y P
theorem QG{h:Nat}{x:Row}(hx:hdI x=aa h):∀P:List Row,toP p (Jp h x P)=ins (h,toV p x) (toP p P)
 |[]=>by show[((hdI x).getD 0,toV p x)]=_;rw[hx];rfl
 |y::P=>by
  unfold Jp;show toP p (if h<(hdI y).getD 0 then _ else _)=(if h<(hdI y).getD 0 then _ else _)
  split
  .show((hdI x).getD 0,toV p x)::_=_;rw[hx];rfl
  .show((hdI y).getD 0,toV p y)::toP p (Jp h x P)=_;rw[QG hx P];rfl
theorem xJ:∀{a b:Row}{h:Nat},a.length=b.length->(∀j,j<h->gt a j=gt b j)->gt b h<gt a h->h<a.length->ltI b a=ag
 |[],_,_,_,_,_,hl=>by simp at hl
 |x::a,[],_,e,_,_,_=>by simp at e
 |x::a,y::b,0,_,_,hlt,_=>by
  have:y<x:=hlt;unfold ltI;rw[T8 (by lia)]
  exact T5 this
 |x::a,y::b,h+1,e,hj,hlt,hl=>by
  have:x=y:=hj 0 (by lia)
  unfold ltI;rw[T9 this.symm];exact xJ (by simpa using e) (λj h'=>hj (j+1)<|by lia) hlt (by simpa using hl)
theorem wU{a b:Row}{h k:Nat}(ha:Zh p n a)(hb:Zh p n b)(h1:hdI a=aa h)(h2:hdI b=aa k)(hk:h<k):ltI b a=ag:=by
 obtain⟨a1,a2,a3⟩:=Ye h1;obtain⟨b1,b2,b3⟩:=Ye h2;refine xJ (by rw[ha.1,hb.1]) (λj hj=>by rw[a3 j hj,b3 j<|by lia]) ?_ a2
 rw[b3 h hk];have:=(Xl ppos ha h).1;lia
def pZ.falls{P:List Row}(hP:pZ p n P):P.Pairwise λa b=>ltI b a=ag:=by
 have inc:P.Pairwise λa b=>(hdI a).getD 0<(hdI b).getD 0:=by
  have:=hP.pn.rf.inc;unfold toP at this;rw[cX]at this;exact this
 refine List.Pairwise.imp_of_mem (λ{a b} ha hb hab=>?_) inc
 obtain⟨h,e1,_⟩:=hP.head fld.one0 ha;obtain⟨k,e2,_⟩:=hP.head fld.one0 hb;rw[e1,e2]at hab;exact wU (hP.row a ha) (hP.row b hb) e1 e2 hab
def Q5{P:List Row}(h:P.Pairwise λa b=>ltI b a=ag):P.Nodup:=List.Pairwise.imp (λ{a b} hab e=>by
 rw[e]at hab;have:=Sd.US hab;rw[hab]at this;cases this) h
def uZ{P Q:List Row}(hp:Q.Perm P)(h:Q.Pairwise λa b=>ltI b a=ag):(ZR P).reverse=Q:=by
 have hn:P.Nodup:=(hp.nodup_iff).mp<|Q5 h;have e:ZR P=Q.reverse:=Sd.WK ((Sd.XS P).trans<|hp.symm.trans (List.reverse_perm Q).symm) (Sd.XZ hn)<|List.pairwise_reverse.mpr h;rw[e,List.reverse_reverse]
def Zas{P:List Row}{r:Row}(hP:pZ p n P)(hr:Zh p n r):pZ p n (JE p P r)/\toP p (JE p P r)=more (U1 p) n (toP p P) (toV p r):=by
 obtain⟨s1,s2⟩:=UW hP.row hP.pn.rf hr;have eh:=UI s1;rw[s2]at eh;have g:=UJ fld hP.pn<|Vb hr;unfold JE;cases q:hdI (ZD p P r)with
 |none=>
  rw[q]at eh;exact#[hP,by unfold more;rw[eh]]
 |some h=>
  rw[q]at eh;have em:more (U1 p) n (toP p P) (toV p r)=wid (toP p P) h (toV p<|lead p (ZD p P r) h):=by
   unfold more;rw[eh];show wid _ h _=_
   congr 1
   unfold lead;rw[V2,s2]
   funext j
   congr 1
   unfold U1;rw[<-s2];show ph p (YD p<|(ph p<|gt (ZD p P r) h).val)=_;rw[u9<|Xl ppos s1 h]
  have hl:Zh p n (lead p (ZD p P r) h):=YW s1;rw[em]at g;have mem:∀x∈wid (toP p P) h (toV p<|lead p (ZD p P r) h),hdV n x.2=aa x.1:=λx hx=>Gp (g.pn.lt x hx) (by rw[g.pn.rf.one x hx];exact fld.one0)<|g.pn.rf.low x hx
  have hx:hdI (lead p (ZD p P r) h)=aa h:=by
   rw[<-UI hl];exact mem (h,toV p<|lead p (ZD p P r) h)<|(Yo _ _).mem_iff.mpr<|al ..
  have e1:toP p (P.map λo=>clr p o (lead p (ZD p P r) h) h)=(toP p P).map (off h<|toV p<|lead p (ZD p P r) h):=by
   unfold toP;rw[bB,bB];refine c8 λo ho=>?_
   have ho':=hP.row o ho;have hc:Zh p n (clr p o (lead p (ZD p P r) h) h):=Zx ho' hl;have ev:toV p (clr p o (lead p (ZD p P r) h) h)=(off h (toV p<|lead p (ZD p P r) h) ((hdI o).getD 0,toV p o)).2:=Y3 ho' hl;show((hdI<|clr p o (lead p (ZD p P r) h) h).getD 0,toV p<|clr p o (lead p (ZD p P r) h) h)=off h _ ((hdI o).getD 0,toV p o);have:=mem (off h (toV p<|lead p (ZD p P r) h) ((hdI o).getD 0,toV p o))<|(Yo _ _).mem_iff.mpr<|ak _<|az.mpr #[_,Z3 ho,rfl];rw[<-ev,UI hc]at this;rw[this,ev];rfl
  have e2:toP p (Jp h (lead p (ZD p P r) h)<|P.map λo=>clr p o (lead p (ZD p P r) h) h)=wid (toP p P) h (toV p<|lead p (ZD p P r) h):=by
   rw[QG hx,e1];rfl
  have hQ:pZ p n (Jp h (lead p (ZD p P r) h)<|P.map λo=>clr p o (lead p (ZD p P r) h) h):=by
   refine#[λx hx=>?_,by rw[e2];exact g.pn]
   rcases ar.mp ((Wy _ _ _).mem_iff.mp hx)with e|e
   .rw[e];exact hl
   .obtain⟨o,ho,rfl⟩:=az.mp e
    exact Zx (hP.row o ho) hl
  have e3:=uZ ((Wy h (lead p (ZD p P r) h)<|P.map λo=>clr p o (lead p (ZD p P r) h) h).trans (List.perm_append_singleton _ _).symm) hQ.falls
  show pZ p n (ZR _).reverse/\toP p (ZR _).reverse=_;rw[e3];exact#[hQ,by rw[e2,em]]
noncomputable def VS(p:Nat)(P:List Row)(rs:List Row):List Row:=rs.foldl (JE p) P
theorem Gw:∀{rs:List Row}{P:List Row},pZ p n P->(∀r∈rs,Zh p n r)->pZ p n (VS p P rs)/\toP p (VS p P rs)=VI (U1 p) n (toP p P) (rs.map<|toV p)
 |[],P,hP,_=>#[hP,rfl]
 |r::rs,P,hP,hr=>by
  obtain⟨a,b⟩:=Zas hP<|hr r<|al ..;obtain⟨c,d⟩:=Gw (rs:=rs) a λx hx=>hr x<|ak _ hx
  refine#[c,?_];show toP p (VS p (JE p P r) rs)=_;rw[d,b];rfl
def W7{P Q:List Row}(hP:pZ p n P)(hQ:pZ p n Q):pZ p n (VS p P Q)/\toP p (VS p P Q)=join (U1 p) n (toP p P) (toP p Q):=by
 obtain⟨a,b⟩:=Gw hP hQ.row;exact#[a,by rw[b];unfold join;rw[vH]]
noncomputable def ZF(P:List Row):List Nat:=P.map λr=>(hdI r).getD 0
def Wq(P:List Row):(toP p P).map (·.1)=ZF P:=by unfold toP ZF;rw[bB];rfl
end
section
variable{p n:Nat}[Base p]
abbrev Mm(p:Nat)[NeZero p](P:List Row)(u:Vec (Fin p)):Prop:=Mem (toP p P) u
def eqP(hA:pZ p n A)(hB:pZ p n B)(h:∀u,Mm p A u↔Mm p B u):A=B:=ue hA.row hB.row<|Zbe fld hA.pn hB.pn h
def yZ{P Q:List Row}(hP:pZ p n P)(hQ:pZ p n Q){u:Vec (Fin p)}(h:Mm p Q u):Mm p (VS p P Q) u:=by
 unfold Mm;rw[(W7 hP hQ).2];exact JP fld hP.pn hQ.pn h
def wg{P Q R:List Row}(hP:pZ p n P)(hQ:pZ p n Q)(h1:∀u,Mm p P u->Mm p R u)(h2:∀u,Mm p Q u->Mm p R u){u:Vec (Fin p)}(h:Mm p (VS p P Q) u):Mm p R u:=by
 unfold Mm at h;rw[(W7 hP hQ).2]at h;exact Gi fld hP.pn hQ.pn h1 h2 h
def pJ{P Q:List Row}(hP:pZ p n P)(hQ:pZ p n Q):pZ p n (VS p P Q):=(W7 hP hQ).1
def xT{P Q:List Row}(hP:pZ p n P)(hQ:pZ p n Q)(h:∀u,Mm p P u->Mm p Q u):VS p P Q=Q:=eqP (pJ hP hQ) hQ λu=>
 #[wg hP hQ h λ_ h=>h,yZ hP hQ]
noncomputable def ZO(p:Nat)(P:List Row)(r:Row):Bool:=(hdI<|ZD p P r).isNone
def ZN(hP:pZ p n P)(hr:Zh p n r):ZO p P r=ag↔Mm p P (toV p r):=by
 unfold Mm;rw[<-x8 hP hr];unfold ZO;cases hdI (ZD p P r)<;>simp
theorem Yn(hP:pZ p n P)(hQ:pZ p n Q):P.all (ZO p Q)=ag↔∀u,Mm p P u->Mm p Q u:=by
 rw[aL]
 constructor
 .intro h u hu
  have gen:∀R:Pt (Fin p),(∀a∈R,Mm p Q a.2)->Mm p Q (pr R u):=by
   intro R
   induction R with
   |nil=>intro _;exact Xq
   |cons a R ih=>
    intro hR;have:=YO (u a.1) (ih λb hb=>hR b<|ak _ hb)<|hR a<|al ..
    have e:(λj=>pr R u j+u a.1*a.2 j)=pr (a::R) u:=by funext j;show _=u a.1*a.2 j+pr R u j;grind
    rw[e]at this;exact this
  have:=gen (toP p P) λa ha=>by
   obtain⟨r,hr,rfl⟩:=az.mp ha;exact(ZN hQ<|hP.row r hr).mp<|h r hr
  have e:=funext λj=>(hu j).symm
  rw[e]at this;exact this
 .intro h r hr
  exact(ZN hQ<|hP.row r hr).mpr<|h _<|Xy hP.pn.rf<|Z3 hr
theorem Gy{F:Type}[eU F]{x:Nat×Vec F}:∀{P:Pt F},(∀a∈P,a.1<x.1)->ins x P=P++[x]
 |[],_=>rfl
 |y::P,h=>by
  unfold ins;rw[T8 (by have:=h y<|al ..;lia),Gy λa ha=>h a<|ak _ ha];rfl
theorem ye{P:List Row}{l:Row}{j:Nat}(hP:pZ p n P)(hl:Zh p n l)(hj:j<n)(h1:gt l j=1)(h0:∀i,i<j->gt l i=0)(hh:∀r∈P,(hdI r).getD 0<j):pZ p n (P.map (λo=>clr p o l j)++[l])/\∀r∈P.map (λo=>clr p o l j)++[l],(hdI r).getD 0<j+1:=by
 have one:ph p 1=1:=by rcases(inferInstance:Base p).b with e|e|e<;>subst e<;>rfl
 have hlt:∀a∈toP p P,a.1<j:=λa ha=>by
  unfold toP at ha;obtain⟨r,hr,rfl⟩:=az.mp ha;exact hh r hr
 have L:Lead (toP p P) j (toV p l):=#[by unfold toV;rw[h1,one],λi hi=>(Yb hl).mpr<|h0 i hi,λa ha=>(Yb hl).mpr<|h0 _<|hlt a ha]
 have rf:=xr fld.one0 hP.pn.rf L;have ew:wid (toP p P) j (toV p l)=(toP p P).map (off j<|toV p l)++[(j,toV p l)]:=Gy λa ha=>by
  obtain⟨b,hb,rfl⟩:=az.mp ha;exact hlt b hb
 have hx:hdI l=aa j:=jK (by rw[h1];decide) h0
 have hmem:∀o∈P,off j (toV p l) ((hdI o).getD 0,toV p o)∈wid (toP p P) j (toV p l):=λo ho=>by
  rw[ew];exact cu _<|az.mpr #[_,Z3 ho,rfl]
 have eh:∀o∈P,hdI (clr p o l j)=aa ((hdI o).getD 0):=λo ho=>by
  have ho':=hP.row o ho;have hc:Zh p n (clr p o l j):=Zx ho' hl;have ev:toV p (clr p o l j)=(off j (toV p l) ((hdI o).getD 0,toV p o)).2:=Y3 ho' hl;rw[<-UI hc,ev];exact Gp (hP.pn.lt _<|Z3 ho) (λz=>fld.one0<|(rf.one _<|hmem o ho).symm.trans z)<|rf.low _<|hmem o ho
 have eP:toP p (P.map (λo=>clr p o l j)++[l])=wid (toP p P) j (toV p l):=by
  rw[ew];unfold toP;rw[cU,bB,bB]
  congr 1
  .refine c8 λo ho=>?_
   show((hdI<|clr p o l j).getD 0,toV p<|clr p o l j)=off j _ ((hdI o).getD 0,toV p o);rw[eh o ho,Y3 (hP.row o ho) hl];rfl
  .show[((hdI l).getD 0,toV p l)]=_
   rw[hx];rfl
 have hrow:∀r∈P.map (λo=>clr p o l j)++[l],Zh p n r:=λr hr=>by
  rcases bw.mp hr with z|z
  .obtain⟨o,ho,rfl⟩:=az.mp z
   exact Zx (hP.row o ho) hl
  .rw[aK.mp z];exact hl
 refine#[#[hrow,#[by rw[eP];exact rf,λa ha=>?_,λa ha=>?_]],λr hr=>?_]
 .unfold toP at ha
  obtain⟨r,hr,rfl⟩:=az.mp ha;rcases bw.mp hr with z|z
  .obtain⟨o,ho,rfl⟩:=az.mp z
   show(hdI _).getD 0<n;rw[eh o ho];exact hP.pn.lt _<|Z3 ho
  .rw[aK.mp z];rw[hx];exact hj
 .unfold toP at ha
  obtain⟨r,hr,rfl⟩:=az.mp ha;exact Vb<|hrow r hr
 .rcases bw.mp hr with z|z
  .obtain⟨o,ho,rfl⟩:=az.mp z
   rw[eh o ho];have:=hh o ho;show(hdI o).getD 0<j+1;lia
  .rw[aK.mp z,hx];show j<j+1;lia
theorem low3{a:Int}(h0:0<a)(h1:a<(3:Nat)):a=1\/a=2:=by lia
theorem low5{a:Int}(h0:0<a)(h1:a<(5:Nat)):a=1\/a=2\/a=3\/a=4:=by lia
theorem qi{a:Int}(h0:0<a)(h1:a<p):YD p a*a%p=1:=by
 rcases(inferInstance:Base p).b with e|e|e<;>subst e
 .have:a=1:=by lia
  subst this;rfl
 .rcases low3 h0 h1 with e|e<;>subst e<;>rfl
 .rcases low5 h0 h1 with e|e|e|e<;>subst e<;>rfl
theorem wS{a:Int}(h0:0<a)(h1:a<p):(aY p).filter (λk:Nat=>ae<|(k:Int)*a%p=1)=[(YD p a).toNat]/\((YD p a).toNat:Int)=YD p a:=by
 rcases(inferInstance:Base p).b with e|e|e<;>subst e
 .have:a=1:=by lia
  subst this;exact#[rfl,rfl]
 .rcases low3 h0 h1 with e|e<;>subst e<;>exact#[rfl,rfl]
 .rcases low5 h0 h1 with e|e|e|e<;>subst e<;>exact#[rfl,rfl]
structure Red(p n:Nat)[NeZero p](j:Nat)(rest found:List Row):Prop where
 row:∀r∈rest,Zh p n r
 low:∀r∈rest,∀i,i<j->gt r i=0
 part:pZ p n found
 head:∀r∈found,(hdI r).getD 0<j
theorem y8{j:Nat}{rest found:List Row}(h:Red p n j rest found)(hz:∀r∈rest,gt r j=0):Red p n (j+1) rest found:=
 #[h.row,λr hr i hi=>by
   by_cases c:i=j
   .rw[c];exact hz r hr
   .exact h.low r hr i (by lia),h.part,λr hr=>by have:=h.head r hr;lia]
theorem yC{j:Nat}{rest found:List Row}{f:Row}(h:Red p n j rest found)(hj:j<n)(hf:f∈rest)(hz:gt f j≠0):Red p n (j+1) (rest.map λr=>clr p r (lead p f j) j) (found.map (λr=>clr p r (lead p f j) j)++[lead p f j]):=by
 have hfr:=h.row f hf;have hg:=Xl ppos hfr j;have hl:Zh p n (lead p f j):=YW hfr;have h1:gt (lead p f j) j=1:=by unfold lead;rw[Vl];exact qi (by lia) hg.2
 have h0:∀i,i<j->gt (lead p f j) i=0:=λi hi=>by unfold lead;rw[Vl,h.low f hf i hi];simp
 obtain⟨a,b⟩:=ye h.part hl hj h1 h0 h.head;refine#[λr hr=>?_,λr hr i hi=>?_,a,b]
 .obtain⟨o,ho,rfl⟩:=az.mp hr
  exact Zx (h.row o ho) hl
 .obtain⟨o,ho,rfl⟩:=az.mp hr
  unfold clr;rw[W0 (h.row o ho) hl];by_cases c:i=j
  .rw[c,h1]
   rw[show gt o j + -(gt o j)*1=0 by lia];rfl
  .rw[h.low o ho i (by lia),h0 i (by lia)];simp
end
end Rw
namespace Pv
open Ev
open Rw
def Za{m β:Type}{a:m}{s:DS}{f:m->DS->PR β}:(PR.ok a s).bind f=f a s:=rfl
def zv(hf:F[f]?=aa fn)(hne:f≠tk)(hl:vs.length=fn.ps):Zl F tk (d+1) f vs s=(rvs (Zl F tk d) (muts fn.body) fn.body (ZM fn.ns vs) [] s).bind λg s=>match g with
  |.ret v=>.ok v s
  |.nx _ _=>.ok .non s
  |_=>.no:=by
 rw[Zl,T8 hne,hf];show(if vs.length=fn.ps then _ else _)=_
 rw[T9 hl]
 all_goals rfl
def y4(s:DS)(h:0<m):0<=(Xi s m).1/\(Xi s m).1<m:=by
 unfold Xi;split
 .exact#[dh _ (by lia),cO _ h]
 .exact#[dh _ (by lia),cO _ h]
def zc(s:DS)(h0:0<m)(h1:m<1073741824):∃v s',Zl F tk (d+1) tk [.drw,.int m] s=.ok (.int v) s'/\0<=v/\v<m:=by
 refine#[(Xi s m).1,(Xi s m).2,?_,y4 s h0];rw[Zl,T9 rfl];show(if 0<m/\m<1073741824 then _ else _)=_
 rw[T9 #[h0,h1]]
theorem JG{m:Type}{f:V->DS->PR (List V)}{s:DS}{e:m->V}{g:m->V}:∀{l:List m},(∀x∈l,f (e x) s=.ok [g x] s)->mapP f (l.map e) s=.ok (l.map g) s
 |[],_=>rfl
 |x::l,h=>by
  rw[aN,mapP,h x<|al ..];show(match mapP f (l.map e) s with|.ok zs s=>PR.ok ([g x]++zs) s|_=>.no)=_
  rw[JG λy hy=>h y<|ak _ hy];rfl
theorem WI{m:Type}{f:V->DS->PR (List V)}{s:DS}{e:m->V}{g:m->V}{q:m->Bool}:∀{l:List m},(∀x∈l,f (e x) s=.ok (if q x=ag then[g x]else[]) s)->mapP f (l.map e) s=.ok ((l.filter q).map g) s
 |[],_=>rfl
 |x::l,h=>by
  rw[aN,mapP,h x<|al ..];show(match mapP f (l.map e) s with|.ok zs s=>PR.ok ((if q x=ag then[g x]else[])++zs) s|_=>.no)=_
  rw[WI λy hy=>h y<|ak _ hy,f7]
  cases q x<;>rfl
theorem Uz{Q:V->Prop}(h:∀x s,∃y s',f x s=.ok [y] s'/\Q y):∀(l:List V)(s:DS),∃ys s',mapP f l s=.ok ys s'/\ys.length=l.length/\∀y∈ys,Q y
 |[],s=>#[[],s,rfl,rfl,λ_ h=>by cases h]
 |x::l,s=>by
  obtain⟨y,s1,e1,q1⟩:=h x s;obtain⟨ys,s2,e2,l2,q2⟩:=Uz h l s1;refine#[y::ys,s2,?_,by rw[aI,aI,l2],λz hz=>?_]
  .rw[mapP,e1]
   show(match mapP f l s1 with|.ok zs s=>PR.ok ([y]++zs) s|_=>.no)=_
   rw[e2];rfl
  .rcases ar.mp hz with rfl|hz
   .exact q1
   .exact q2 z hz
theorem Ul{U m:Type}{body:V->Env->List Nat->DS->PR FlV}{s:DS}{os:List Nat}{O:U->Option V->Env}{step:U->m->U}{e:m->V}(I:U->Prop):∀{l:List m}{st:U}{o:Option V},I st->(∀x∈l,∀st o,I st->I (step st x)/\∃o',body (e x) (O st o) os s=.ok (.nx (O (step st x) o') os) s)->∃o',I (l.foldl step st)/\YH body (l.map e) (O st o) os s=.ok (.nx (O (l.foldl step st) o') os) s
 |[],st,o,hI,_=>#[o,hI,rfl]
 |x::l,st,o,hI,h=>by
  obtain⟨h1,o1,e1⟩:=h x (al ..) st o hI;obtain⟨o2,h2,e2⟩:=Ul I h1 λy hy=>h y<|ak _ hy
  refine#[o2,h2,?_];rw[aN,YH,e1];exact e2
noncomputable def WC:Option Nat->V
 |none=>.non
 |some k=>.int k
noncomputable def spV(p n:Nat):V:=.tup [.int p,.int n]
def ZI{a:Int}(h:-4294967296<a)(h':a<4294967296):fits a=ag:=by
 refine T5 ?_;have h1:a.natAbs<2^32:=by lia
 exact aX h1<|dA (by decide) (by decide)
def Ww{m:Type}{xs:List m}{k:Nat}{x:m}(h:xs[k]?=aa x):at' xs (k:Int)=aa x:=by
 have hk:k<xs.length:=(aM.mp h).1;unfold at' ixN;rw[T9<|fz k,T9<|Int.ofNat_lt.mpr hk];exact h
def Wk{r:Row}{k:Nat}(hk:k<r.length):at' (r.map V.int) (k:Int)=aa (.int<|gt r k):=by
 refine Ww ?_;rw[aV,ao hk];unfold gt;rw[bf,ao hk];rfl
theorem ZP{m:Type}{g:m->Bool}:∀l:List m,ZH (l.map λx=>.bl<|g x)=aa (l.map g)
 |[]=>rfl
 |x::l=>by rw[aN,ZH,ZP l];rfl
theorem Vh{m:Type}{f:V->V->Option Bool}{e:m->V}{d:m->m->Bool}(hd:∀a b,d a b=ag↔a=b)(h:∀a b,f (e a) (e b)=aa (d a b)):∀a b:List m,∃c,Yh f (a.map e) (b.map e)=aa c/\(c=ag↔a=b)
 |[],[]=>#[ag,rfl,by simp]
 |[],_::_=>#[ai,rfl,by simp]
 |_::_,[]=>#[ai,rfl,by simp]
 |x::a,y::b=>by
  obtain⟨c,e1,e2⟩:=Vh hd h a b;refine#[d x y&&c,?_,?_]
  .rw[aN,aN,Yh,h,e1]
  .rw[ax,hd,e2];simp
def qf(k:Nat)(a b:Row):eqV (k+2) (Zd a) (Zd b)=aa (ae<|a=b):=by
 show Yh (eqV<|k+1) (a.map .int) (b.map .int)=_;obtain⟨c,e1,e2⟩:=Vh (f:=eqV<|k+1) (e:=V.int) (λa b=>by simp) (λa b=>rfl) a b
 rw[e1,show c=ae (a=b) by rw[bp,e2];simp]
def JI(k:Nat)(a b:List Row):eqV (k+3) (Zb a) (Zb b)=aa (ae<|a=b):=by
 show Yh (eqV<|k+2) (a.map Zd) (b.map Zd)=_;obtain⟨c,e1,e2⟩:=Vh (λa b=>by simp) (λa b=>qf k a b) a b
 rw[e1,show c=ae (a=b) by rw[bp,e2];simp]
theorem Vi:∀(r o:Row),((r.map V.int).zip<|o.map V.int).map (λq=>V.tup [q.1,q.2])=(r.zip o).map λq=>V.tup [.int q.1,.int q.2]
 |[],_=>rfl
 |_::_,[]=>rfl
 |a::r,b::o=>by rw[aN,aN,bI,aN,bI,aN,Vi r o]
theorem Yw:∀r:Row,intsV (r.map V.int)=aa r
 |[]=>rfl
 |a::r=>by show(intsV<|r.map V.int).map (a :: ·)=_;rw[Yw r];rfl
theorem Yx:∀P:List Row,Z4 (P.map Zd)=aa P
 |[]=>rfl
 |r::P=>by
  show(match intsV (r.map V.int),Z4 (P.map Zd)with|some a,aa b=>aa (a::b)|_,_=>ab)=_
  rw[Yw,Yx P]
theorem VO:∀r:Row,ZU (r.map V.int)=ag
 |[]=>rfl
 |a::r=>VO r
def vL(n:Nat):Z1 0 n=(aY n).map λ(k:Nat)=>V.int (k:Int):=by
 refine c8 λk _=>?_
 simp
def ZV{m:Type}{a:m}{s:DS}:po (aa a) s=.ok a s:=rfl
section
variable{C:ZB}{cap:List Nat}{nl:Nat}{t:List Nat}{it:W}{elt tst:E}{O:Env}{s:DS}{m:Type}
def Zz{l:List m}{e g:m->V}(hw:pvw C it O s=.ok (l.map e) s)(hl:l.length<=lim)(h:∀x∈l,∃U,Zk t (e x) (Z6 cap nl O)=aa U/\pv C elt U s=.ok (g x) s)(ho:own nl t=ag:=by rfl):pv C (.comp1 cap nl t it [] elt) O s=.ok (.lst<|l.map g) s:=by
 rw[pv,T9 ho,hw,Za,JG λx hx=>by
  obtain⟨U,e1,e2⟩:=h x hx;rw[e1,ZV,Za,pvt,Za];rw[e2];rfl]
 rw[Za,T9 (by rw[aw];exact hl)];rfl
def Xo{l:List m}{e g:m->V}{q:m->Bool}(hw:pvw C it O s=.ok (l.map e) s)(hl:l.length<=lim)(h:∀x∈l,∃U v,Zk t (e x) (Z6 cap nl O)=aa U/\pv C tst U s=.ok v s/\Zo v=aa (q x)/\(q x=ag->pv C elt U s=.ok (g x) s))(ho:own nl t=ag:=by rfl):pv C (.comp1 cap nl t it [tst] elt) O s=.ok (.lst<|(l.filter q).map g) s:=by
 rw[pv,T9 ho,hw,Za,WI (q:=q) λx hx=>by
  obtain⟨U,v,e1,e2,e3,e4⟩:=h x hx;rw[e1,ZV,Za,pvt,e2,Za,e3,ZV,Za];cases c:q x with
  |true=>
   rw[T9 rfl,pvt,Za,T9 rfl,T9 rfl,e4 c];rfl
  |false=>rw[T8 (by simp),Za,T8 (by simp),T8 (by simp)]]
 rw[Za,T9 (by rw[aw];exact bx (gD ..) hl)];rfl
def WA{Q:V->Prop}(hw:pvw C it O s=.ok (Z1 0 k) s)(hl:k<=lim)(h:∀(x:V)(s:DS),∃U y s',Zk t x (Z6 cap nl O)=aa U/\pv C elt U s=.ok y s'/\Q y)(ho:own nl t=ag:=by rfl) :
  ∃ys s',pv C (.comp1 cap nl t it [] elt) O s=.ok (.lst ys) s'/\ys.length=k/\∀y∈ys,Q y:=by
 obtain⟨ys,s',e1,e2,e3⟩:=Uz (f:=λx s=>(po (Zk t x<|Z6 cap nl O) s).bind λU s=>(pvt C [] U s).bind λb s=>if b then(pv C elt U s).bind λy s=>.ok [y] s else .ok [] s) (λx s=>by
  obtain⟨U,y,s',f1,f2,f3⟩:=h x s;refine#[y,s',?_,f3];rw[f1,ZV,Za,pvt,Za];rw[f2];rfl) (Z1 0 k) s
 have hk:(Z1 0 k).length=k:=by unfold Z1;simp
 refine#[ys,s',?_,by rw[e2,hk],e3]
 rw[pv,T9 ho,hw,Za,e1,Za,T9 (by rw[e2,hk];exact hl)];rfl
end
def jd{xs:List V}{k:Nat}(h:k<=xs.length):ZW xs ab (aa (k:Int))=xs.take k:=by
 show(xs.drop 0).take ((if(k:Int)<0 then((k:Int)+xs.length).toNat else ls (k:Int).toNat xs.length)-0)=_
 rw[T8<|Int.not_lt.mpr<|fz k,show ls (k:Int).toNat xs.length-0=k from gy h];rfl
def QY{xs:List V}{i:Int}{k:Nat}(hi:i=k)(h:k<=xs.length):ZW xs (aa i) ab=xs.drop k:=by
 subst hi;show(xs.drop<|if(k:Int)<0 then((k:Int)+xs.length).toNat else ls (k:Int).toNat xs.length).take (xs.length-(if(k:Int)<0 then((k:Int)+xs.length).toNat else ls (k:Int).toNat xs.length))=_
 rw[T8<|Int.not_lt.mpr<|fz k,show ls (k:Int).toNat xs.length=k from gy h]
 exact dg<|Nat.le_of_eq bV
def QU{xs:List V}:ZW xs (aa 1) ab=xs.tail:=by
 cases xs with|nil=>rfl|cons x xs=>exact QY rfl (by simp)
noncomputable def Zm(k:Nat):V:=.int k
def WT(n:Nat):Z1 0 n=(aY n).map Zm:=by rw[vL];rfl
def wo(h0:0<=i)(h1:i<1000000):Xr i=ag:=by
 unfold Xr;have e:(2:Int)^62=4611686018427387904:=by decide
 rw[e];exact T5 #[by lia,by lia]
def Zj(hf:F[f]?=aa fn)(hne:f≠tk)(hl:vs.length=fn.ps)(h:rvs (Zl F tk d) (muts fn.body) fn.body (ZM fn.ns vs) [] s=.ok (.ret v) s'):Zl F tk (d+1) f vs s=.ok v s':=by
 rw[zv hf hne hl,h];rfl
def Zi(h:rv C ms m O os s=.ok (.nx ρ' os') s'):rvs C ms (m::l) O os s=rvs C ms l ρ' os' s':=by rw[rvs,h];rfl
def Zg(h:rv C ms m O os s=.ok (.ret v) s'):rvs C ms (m::l) O os s=.ok (.ret v) s':=by rw[rvs,h];rfl
def Zv(h:pv C e O s=.ok v s'):rv C ms (.ret e) O os s=.ok (.ret v) s':=by rw[rv,h];rfl
def Yi{b:Bool}{t:E}{x y:List Sm}(h:Xp C t O s=.ok b s'):rv C ms (.ite t x y) O os s=if b=ag then rvs C ms x O os s' else rvs C ms y O os s':=by rw[rv,h];rfl
def ZZ{v:V}{b:Bool}{t:E}(h:pv C t O s=.ok v s')(hb:Zo v=aa b):Xp C t O s=.ok b s':=by unfold Xp;rw[h,Za,hb];rfl
def Zr{f:Nat}{as:List E}{vs:List V}{v:V}{s1:DS}(h:pvs C as O s=.ok vs s1)(hc:C f vs s1=.ok v s'):pv C (.call f as) O s=.ok v s':=by rw[pv,h];exact hc
def Ze:pvs C [] O s=.ok [] s:=by rw[pvs]
def Zc{e:E}{es:List E}{v:V}{vs:List V}{s1:DS}(h:pv C e O s=.ok v s1)(h2:pvs C es O s1=.ok vs s'):pvs C (e::es) O s=.ok (v::vs) s':=by rw[pvs,h,Za,h2];rfl
def Zf{i:Nat}{v:V}(h:O[i]?=aa (aa v)):pv C (.v i) O s=.ok v s:=by rw[pv,h];rfl
def ZE{i:Nat}{e:E}{v:V}(h:pv C e O s=.ok v s')(hm:(ms.contains i&&fresh e)=ai):rv C ms (.asg [i] e) O [] s=.ok (.nx (O.set i<|aa v) []) s':=by
 rw[rv];show(pv C e O s).bind _=_;rw[h,Za,T8 (by rw[hm];simp)];rfl
def jq{U m:Type}{t:List Nat}{it:W}{b:List Sm}{L:List m}{e:m->V}{step:U->m->U}{O:U->Option V->Env}{st:U}{o:Option V}(I:U->Prop)(hw:pvw C it (hide os<|O st o) s=.ok (L.map e) s)(hI:I st)(ht:(t.any os.contains)=ai)
  (h:∀x∈L,∀st o,I st->I (step st x)/\(os.isEmpty||(e x).flat)=ag/\∃ρ1 o',Zk t (e x) (O st o)=aa ρ1/\rvs C ms b ρ1 os s=.ok (.nx (O (step st x) o') os) s) :
  ∃o',I (L.foldl step st)/\rv C ms (.forr t it b) (O st o) os s=.ok (.nx (O (L.foldl step st) o') os) s:=by
 obtain⟨o',h1,h2⟩:=Ul (body:=λx O os s=>if(t.any os.contains)=ag then .no else(po (Zk t x O) s).bind λO s=>rvs C ms b O os s) (s:=s) (os:=os) (O:=O) (step:=step) (e:=e) I (l:=L) (st:=st) (o:=o) hI (λx hx st o hI=>by
  obtain⟨a,f,ρ1,o',b1,b2⟩:=h x hx st o hI;refine#[a,o',?_];rw[T8 (by rw[ht];simp),b1,ZV,Za,b2])
 refine#[o',h1,?_];rw[rv,hw,Za];exact h2
def Y2{e:E}{n:Nat}(h:pv C e O s=.ok (.int n) s')(hn:n<1000000):pvw C (.rng1 e) O s=.ok ((aY n).map Zm) s':=by
 rw[pvw,h,Za];show(if Xr (n:Int)=ag then PR.ok (Z1 0 (n:Int).toNat) s' else .no)=_
 rw[T9 (wo (by lia) (by lia)),dr,WT]
def GC{m:Type}{t:List Nat}{it:W}{b:List Sm}{L:List m}{e:m->V}(I:List m->Env->Prop)(hw:pvw C it (hide os O) s=.ok (L.map e) s)(hI:I L O)(ht:(t.any os.contains)=ai)
  (h:∀x l O,I (x::l) O->(os.isEmpty||(e x).flat)=ag/\∃ρ1 ρ',Zk t (e x) O=aa ρ1/\rvs C ms b ρ1 os s=.ok (.nx ρ' os) s/\I l ρ') :
  ∃ρ',I [] ρ'/\rv C ms (.forr t it b) O os s=.ok (.nx ρ' os) s:=by
 rw[rv,hw,Za];clear hw
 induction L generalizing O with
 |nil=>exact#[O,hI,rfl]
 |cons x L ih=>
  obtain⟨f,ρ1,ρ',b1,b2,b3⟩:=h x L O hI;obtain⟨ρ2,c1,c2⟩:=ih b3;refine#[ρ2,c1,?_];rw[aN,YH,T8 (by rw[ht];simp),b1,ZV,Za,b2,Za]
  exact c2
def vZ{U m:Type}{t:List Nat}{it:W}{b:List Sm}{L:List m}{e:m->V}{step:U->m->U}{O:U->Option V->Env}{st:U}{o:Option V}(I:List m->U->Prop)(hw:pvw C it (hide os<|O st o) s=.ok (L.map e) s)(hI:I L st)(ht:(t.any os.contains)=ai)
  (h:∀x l st o,I (x::l) st->I l (step st x)/\(os.isEmpty||(e x).flat)=ag/\∃ρ1 o',Zk t (e x) (O st o)=aa ρ1/\rvs C ms b ρ1 os s=.ok (.nx (O (step st x) o') os) s) :
  ∃o',I [] (L.foldl step st)/\rv C ms (.forr t it b) (O st o) os s=.ok (.nx (O (L.foldl step st) o') os) s:=by
 rw[rv,hw,Za];clear hw
 induction L generalizing st o with
 |nil=>exact#[o,hI,rfl]
 |cons x L ih=>
  obtain⟨a,f,ρ1,o',b1,b2⟩:=h x L st o hI;obtain⟨o2,c1,c2⟩:=ih (st:=step st x) (o:=o') a;refine#[o2,c1,?_];rw[aN,YH,T8 (by rw[ht];simp),b1,ZV,Za,b2,Za]
  exact c2
def pvF:(∀a,fresh (.lst a)=ag)/\(∀a b,fresh (.bin .mul (.lst a) b)=ag)/\(∀b,Zo (.bl b)=aa b)/\(∀i,Zo (.int i)=aa (ae<|i≠0))/\(∀xs,Zo (.tup xs)=aa (!xs.isEmpty))/\(∀xs,Zo (.lst xs)=aa (!xs.isEmpty))/\(Zo .non=aa ai)/\(∀xs i,ixV (.tup xs) (.int i)=at' xs i)/\(∀xs i,ixV (.lst xs) (.int i)=at' xs i)/\(∀xs,Yl (.tup xs)=aa xs)/\(∀xs,Yl (.lst xs)=aa xs)/\(∀x,Xs .len [x]=(Yl x).map λxs=>.int xs.length)/\(∀x,Xs .tuple [x]=(Yl x).map .tup)/\(∀x,Xs .list [x]=(Yl x).map .lst)/\(∀xs,Xs .all [.lst xs]=(ZH xs).map λbs=>.bl<|bs.all id)/\(∀a b,Xs .max2 [.int a,.int b]=aa (.int (if b>a then b else a)))/\(∀a b,Xs .min2 [.int a,.int b]=aa (.int (if b<a then b else a)))/\(∀a,Xs .toInt [.int a]=aa (.int a))/\(∀a,Xs .toInt [.bl a]=aa (.int<|b2i a))/\(∀xs,Xs .sortedR [.lst xs]=(Z4 xs).bind λrs=>if Yp rs=ag then aa (.lst<|(ZR rs).reverse.map Zd)else ab)/\(∀a b s,Y6 .add (.int a) (.int b) s=.ok (.int<|a+b) s)/\(∀a b s,Y6 .sub (.int a) (.int b) s=.ok (.int<|a-b) s)/\(∀a b s,Y6 .mul (.int a) (.int b) s=if(fits a&&fits b)=ag then .ok (.int<|a*b) s else .no)/\(∀a b s,Y6 .mod (.int a) (.int b) s=if 0<b then .ok (.int<|a%b) s else .no)/\(∀a b s,Y6 .add (.tup a) (.tup b) s=if a.length+b.length<=lim then .ok (.tup<|a++b) s else .no)/\(∀a b s,Y6 .mul (.tup a) (.int b) s=if 0<=b/\b<1000/\a.length<=1000 then .ok (.tup (aA b.toNat a).flatten) s else .no)/\(∀a b s,Y6 .mul (.lst a) (.int b) s=if 0<=b/\b<1000/\a.length<=1000 then .ok (.lst (aA b.toNat a).flatten) s else .no)/\(∀a b s,Y6 .add (.lst a) (.lst b) s=if a.length+b.length<=lim then .ok (.lst<|a++b) s else .no)/\(∀x y,Yq .eq x y=(eqV Zn x y).map .bl)/\(∀x y,Yq .ne x y=(eqV Zn x y).map λb=>.bl !b)/\(∀a b,Yq .lt (.int a) (.int b)=aa (.bl<|ae<|a<b))/\(∀a b,Yq .gt (.int a) (.int b)=aa (.bl<|ae<|b<a))/\(∀a b,Yq .le (.int a) (.int b)=aa (.bl<|ae<|a<=b))/\(∀a b,Yq .ge (.int a) (.int b)=aa (.bl<|ae<|b<=a))/\(∀x,Yq .is x .non=aa (.bl<|WN x))/\(∀x,Yq .isn x .non=aa (.bl !(WN x)))/\(∀a b,Yq .is (.bl a) (.bl b)=aa (.bl<|ae<|a=b))/\(∀a b,Yq .isn (.bl a) (.bl b)=aa (.bl !(ae<|a=b)))/\(∀x y,Yq .inn x y=(WF x y).map .bl)/\(∀x y,Yq .nin x y=(WF x y).map λb=>.bl !b)/\(WN .non=ag)/\(∀b,WN (.bl b)=ai)/\(∀b,WN (.int b)=ai)/\(∀b,WN (.tup b)=ai)/\(∀b,WN (.lst b)=ai)/\(ofD .non=aa .non)/\(∀b,ofD (.bl b)=aa (.bl b))/\(∀b,ofD (.int b)=aa (.int b))/\(∀O,YE [] [] O=aa O)/\(∀i t x xs O,YE (i::t) (x::xs) O=YE t xs (O.set i<|aa x))/\(∀i x O,Zk [i] x O=aa (O.set i<|aa x))/\(∀i j t xs O,Zk (i::j::t) (.tup xs) O=YE (i::j::t) xs O)/\(∀i j t xs O,Zk (i::j::t) (.lst xs) O=YE (i::j::t) xs O)/\(∀k a b,eqV (k+1) (.int a) (.int b)=aa (ae<|a=b))/\(∀k a b,eqV (k+1) (.bl a) (.bl b)=aa (ae<|a=b))/\(∀k a b,eqV (k+1) (.tup a) (.tup b)=Yh (eqV k) a b)/\(∀k a b,eqV (k+1) (.lst a) (.lst b)=if a.length=b.length then Yh (eqV k) a b else aa ai):=
 #[λ_=>rfl,λ_ _=>rfl,λ_=>rfl,λ_=>rfl,λ_=>rfl,λ_=>rfl,rfl,λ_ _=>rfl,λ_ _=>rfl,λ_=>rfl,λ_=>rfl,λ_=>rfl,λ_=>rfl,λ_=>rfl,λ_=>rfl,λ_ _=>rfl,λ_ _=>rfl,λ_=>rfl,λ_=>rfl,λ_=>rfl,λ_ _ _=>rfl,λ_ _ _=>rfl,λ_ _ _=>rfl,λ_ _ _=>rfl,λ_ _ _=>rfl,λ_ _ _=>rfl,λ_ _ _=>rfl,λ_ _ _=>rfl,λ_ _=>rfl,λ_ _=>rfl,λ_ _=>rfl,λ_ _=>rfl,λ_ _=>rfl,λ_ _=>rfl,λ_=>rfl,λ_=>rfl,λ_ _=>rfl,λ_ _=>rfl,λ_ _=>rfl,λ_ _=>rfl,rfl,λ_=>rfl,λ_=>rfl,λ_=>rfl,λ_=>rfl,rfl,λ_=>rfl,λ_=>rfl,λ_=>rfl,λ_ _ _ _ _=>rfl,λ_ _ _=>rfl,λ_ _ _ _ _=>rfl,λ_ _ _ _ _=>rfl,λ_ _ _=>rfl,λ_ _ _=>rfl,λ_ _ _=>rfl,λ_ _ _=>rfl]
def pvE:=aG (aG (aG (aG (aG (aG pvF @Za)<|aG @ZV @Xp.eq_1)<|aG (aG @ZM.eq_1 @hide.eq_1)<|aG @Z6.eq_1 @Option.join.eq_1.{0})<|aG (aG (aG @lim.eq_1 @rvs.eq_1)<|aG @rvs.eq_2 @rv.eq_1)<|aG (aG @rv.eq_2 @rv.eq_3)<|aG @rv.eq_4 @rv.eq_5)<|aG (aG (aG (aG @rv.eq_6 @rv.eq_7)<|aG @rv.eq_8 @rv.eq_9)<|aG (aG @rv.eq_10 @rv.eq_11)<|aG @rv.eq_12 @rv.eq_13)<|aG (aG (aG @rv.eq_14 @rv.eq_15)<|aG @rv.eq_16 @rv.eq_17)<|aG (aG @rv.eq_18 @pvA.eq_1)<|aG @pvA.eq_2<|aG @pvs.eq_1 @pvs.eq_2)<|aG (aG (aG (aG (aG @pvo.eq_1 @pvo.eq_2)<|aG @pvt.eq_1 @pvt.eq_2)<|aG (aG @pvw.eq_1 @pvw.eq_2)<|aG @pvw.eq_3 @pvw.eq_4)<|aG (aG (aG @pvw.eq_5 @pvw.eq_6)<|aG @pvw.eq_7 @pv.eq_1)<|aG (aG @pv.eq_2 @pv.eq_3)<|aG @pv.eq_4<|aG @pv.eq_5 @pv.eq_6)<|aG (aG (aG (aG @pv.eq_7 @pv.eq_8)<|aG @pv.eq_9 @pv.eq_10)<|aG (aG @pv.eq_11 @pv.eq_12)<|aG @pv.eq_13 @pv.eq_14)<|aG (aG (aG @pv.eq_15 @pv.eq_16)<|aG @pv.eq_17 @pv.eq_18)<|aG (aG @pv.eq_19 @pv.eq_20)<|aG @pv.eq_21<|aG @pv.eq_22 @pv.eq_23
end Pv
namespace K61
open Ev Pv Rw La
noncomputable abbrev CV(d:Nat):ZB:=Zl fns 2 d
theorem Uc(C:ZB)(s:DS)(v:V):∀(r:Row)(k:Nat)(a b:Option V),∃a' b',YH (λx O os s=>if(([1,2]:List Nat).any os.contains)=ag then .no else(po (Zk [1,2] x O) s).bind λO s=>rvs C [] [.ite (.cmp .ne (.v 2)<|.c<|.int 0) [.ret<|.v 1] []] O os s)
   (((Z1 k r.length).zip<|r.map V.int).map λp=>V.tup [p.1,p.2]) [aa v,a,b] [] s=match hdI r with
    |some m=>.ok (.ret<|.int (k+m:Nat)) s
    |none=>.ok (.nx [aa v,a',b'] []) s
 |[],k,a,b=>#[a,b,rfl]
 |x::r,k,a,b=>by
  have er:Z1 k (x::r).length=.int k::Z1 (k+1:Nat) r.length:=by
   unfold Z1;rw[aI,gk,aN,bB];refine List.cons_eq_cons.mpr #[by simp,?_]
   .refine c8 λj _=>?_
    show V.int ((k:Int)+((j+1:Nat):Int))=V.int (((k+1:Nat):Int)+(j:Int))
    congr 1
    lia
  obtain⟨a',b',ih⟩:=Uc C s v r (k+1) (aa<|.int k)<|aa<|.int x;refine#[a',b',?_];rw[er,aN,bI,aN,YH];by_cases c:x=0
  .subst c
   have e0:hdI (0::r)=(hdI r).map (· + 1):=by rw[hdI,T8 (by simp)]
   have e1:(if(([1,2]:List Nat).any ([]:List Nat).contains)=ag then(.no:PR FlV)else(po (Zk [1,2] (V.tup [.int k,.int 0]) [aa v,a,b]) s).bind λO s=>rvs C [] [.ite (.cmp .ne (.v 2)<|.c<|.int 0) [.ret<|.v 1] []] O [] s)=.ok (.nx [aa v,aa<|.int k,aa<|.int 0] []) s:=by
    simp[pvE,Zn]
   rw[e1,Za,e0];show YH _ _ [aa v,aa<|.int k,aa<|.int 0] [] s=_;rw[ih];cases hdI r with|none=>rfl|some m=>show PR.ok (FlV.ret<|.int ((k+1+m:Nat):Int)) s=PR.ok (FlV.ret<|.int ((k+(m+1):Nat):Int)) s;congr 3;lia
  .have e0:hdI (x::r)=aa 0:=by rw[hdI,T9 c]
   have e1:(if(([1,2]:List Nat).any ([]:List Nat).contains)=ag then(.no:PR FlV)else(po (Zk [1,2] (V.tup [.int k,.int x]) [aa v,a,b]) s).bind λO s=>rvs C [] [.ite (.cmp .ne (.v 2)<|.c<|.int 0) [.ret<|.v 1] []] O [] s)=.ok (.ret<|.int k) s:=by
    simp[pvE,Zn,c]
   rw[e1,Za,e0];rfl
def UU(d:Nat)(r:Row)(s:DS):CV (d+1) 8 [Zd r] s=.ok (WC<|hdI r) s:=by
 rw[CV,zv rfl (by decide) rfl]
 obtain⟨a,b,e⟩:=Uc (Zl fns 2 d) s (Zd r) r 0 ab ab;show((rv _ [] (.forr [1,2] (.enum<|.v 0) _) [aa<|Zd r,ab,ab] [] s).bind _).bind _=_;have e2:rv (Zl fns 2 d) [] (.forr [1,2] (.enum<|.v 0) [.ite (.cmp .ne (.v 2)<|.c<|.int 0) [.ret<|.v 1] []]) [aa<|Zd r,ab,ab] [] s=match hdI r with
    |some m=>.ok (.ret<|.int (m:Nat)) s
    |none=>.ok (.nx [aa<|Zd r,a,b] []) s:=by
  rw[rv];have ew:pvw (Zl fns 2 d) (.enum<|.v 0) (hide [] [aa<|Zd r,ab,ab]) s=.ok (((Z1 0 r.length).zip<|r.map V.int).map λp=>V.tup [p.1,p.2]) s:=by
   simp[pvE,Zd]
  rw[ew,Za];simp only[iY,Int.natCast_zero]at e;exact e
 rw[e2];cases hdI r with|none=>rfl|some m=>rfl
section
variable{p n:Nat}[Base p]
def WQ:(p:Int)<=5/\(2:Int)<=p:=by rcases(inferInstance:Base p).b with e|e|e<;>subst e<;>decide
theorem J3(d:Nat){r o:Row}{k:Int}(s:DS)(hn:n<=6)(hr:Zh p n r)(ho:Zh p n o)(hk:-1000<k/\k<1000):CV (d+1) 9 [.int p,Zd r,Zd o,.int k] s=.ok (Zd<|ZJ p r o k) s:=by
 rw[CV,zv rfl (by decide) rfl]
 have hp:=WQ (p:=p);have hc:=Zz (C:=Zl fns 2 d) (cap:=[3,0]) (nl:=2) (t:=[0,1]) (it:=.zip (.v 1)<|.v 2) (elt:=.bin .mod (.bin .add (.v 0)<|.bin .mul (.v 2)<|.v 1)<|.v 3) (O:=[aa<|.int p,aa<|Zd r,aa<|Zd o,aa<|.int k]) (s:=s) (l:=r.zip o) (e:=λq=>V.tup [.int q.1,.int q.2]) (g:=λq=>V.int<|(q.1+k*q.2)%p)
  (by simp[pvE,Zd,Vi]) (by rw[cT,hr.1,ho.1];unfold lim;lia) (λq hq=>by
   have h2:=ho.2 q.2 (cR hq).2;refine#[_,rfl,?_];have f1:=ZI (a:=k) (by lia) (by lia)
   have f2:=ZI (a:=q.2) (by lia) (by lia)
   have hp0:0<p:=by lia
   simp[pvE,f1,f2,hp0])
 have e:(r.zip o).map (λq=>V.int<|(q.1+k*q.2)%p)=(ZJ p r o k).map V.int:=by
  unfold ZJ;rw[<-c0,bB];rfl
 simp[Wb,pvE,hc,e];rfl
theorem vA(d:Nat){r o:Row}{h:Nat}(s:DS)(hn:n<=6)(hr:Zh p n r)(ho:Zh p n o)(hh:h<n):CV (d+2) 10 [.int p,Zd r,Zd o,.int h] s=.ok (Zd<|clr p r o h) s:=by
 rw[CV,zv rfl (by decide) rfl]
 have hg:=Xl ppos hr h;have hp:=WQ (p:=p);have e:=J3 d (k:=-(gt r h)) s hn hr ho #[by lia,by lia]
 have e2:=Wk (by rw[hr.1];exact hh)
 simp only[CV]at e;simp[Ui,pvE,Zd,e2];simp only[Zd]at e;rw[e];simp[pvE,clr]
end
section
variable{p n:Nat}[Base p]
def Ud(C:ZB)(ms:List Nat){i j:Nat}{O:Env}{os:List Nat}{s:DS}{e:E}(h:pvA C e O os s=.ok (spV p n) s)(ho:os.contains i=ai/\os.contains j=ai):rv C ms (.asg [i,j] e) O os s=.ok (.nx ((O.set i<|aa<|.int p).set j<|aa<|.int n) os) s:=by
 rw[rv,h,Za,T8 (by simpa using ho)]
 .rfl
 .simp
def zL(d:Nat){P:List Row}{r:Row}(s:DS)(hn:n<=6)(hP:pZ p n P)(hr:Zh p n r):CV (d+3) 11 [spV p n,Zb P,Zd r] s=.ok (Zd<|ZD p P r) s:=by
 refine Zj rfl (by decide) rfl ?_
 show rvs (CV<|d+2) [] (.asg [3,4] (.v 0) :: .asg [5] (.v 2) :: .forr [6] (.of<|.v 1) [.asg [5]<|.call 10 [(.v 3),(.v 5),(.v 6),(.call 8 [(.v 6)])]] :: .ret (.v 5)::[]) [aa<|spV p n,aa<|Zb P,aa<|Zd r,ab,ab,ab,ab] [] s=_;rw[Zi<|Ud (p:=p) (n:=n) _ _ (by simp[pvE]) (by simp)]
 rw[Zi (ρ':=[aa<|spV p n,aa<|Zb P,aa<|Zd r,aa<|.int p,aa<|.int n,aa<|Zd r,ab]) (os':=[]) (s':=s) (by simp[pvE])]
 obtain⟨o',hI,e⟩:=jq (C:=CV<|d+2) (ms:=[]) (t:=[6]) (it:=.of<|.v 1) (b:=[.asg [5]<|.call 10 [(.v 3),(.v 5),(.v 6),(.call 8 [(.v 6)])]]) (L:=P) (e:=Zd) (step:=λst o=>clr p st o<|(hdI o).getD 0) (O:=λst o=>[aa<|spV p n,aa<|Zb P,aa<|Zd r,aa<|.int p,aa<|.int n,aa<|Zd st,o]) (os:=[]) (s:=s) (Zh p n) (by simp[pvE,Zb]) hr rfl (λx hx st o hst=>by
  have hx':=hP.row x hx;obtain⟨k,hk,hkn,_⟩:=hP.head fld.one0 hx;refine#[Zx hst hx',rfl,_,aa<|Zd x,rfl,?_];have e1:=UU (d+1) x s;have e2:=vA d s hn hst hx' hkn;rw[hk]at e1;simp only[WC]at e1;have e3:=e1;simp[pvE,e3,e2,hk])
 rw[Zi e];exact Zg<|Zv (by simp[pvE,ZD])
theorem dsum{P:List Row}(hP:pZ p n P):P.length<=n:=by
 have:=yq fld hP.pn;rw[U7]at this;lia
end
end K61
namespace Rw
open La
open Ev (ltI YG ZR)
section
variable{p n:Nat}[Base p]
theorem V8:∀l:List Row,(ZR l).length=l.length
 |[]=>rfl
 |x::r=>by
  show(YG x<|ZR r).length=_;have:∀l:List Row,(YG x l).length=l.length+1:=λl=>by
   induction l with
   |nil=>rfl
   |cons y l ih=>
    unfold YG;split
    .rfl
    .rw[aI,ih];rfl
  rw[this,V8 r];rfl
def UT(P:List Row)(r:Row):P.length<=(JE p P r).length:=by
 unfold JE;split
 .exact aD _
 .rw[c7,V8,aP,aw];simp
theorem Jk:∀(rs P:List Row),P.length<=(VS p P rs).length
 |[],P=>aD _
 |r::rs,P=>bx (UT P r)<|Jk rs<|JE p P r
def zD{P Q:List Row}(hP:pZ p n P)(hQ:pZ p n Q)(h:P.all (ZO p Q)=ag):P.length<=Q.length:=by
 have e:=xT hP hQ<|(Yn hP hQ).mp h;have:=Jk (p:=p) Q P;rw[e]at this;exact this
end
end Rw
namespace Rw
open Ev (ltP Xe Ys)
noncomputable def jR:List (Nat×Nat):=[(2,1),(2,2),(2,3),(2,4),(3,1),(3,2),(3,3),(5,1),(5,2)]
noncomputable def jQ:List (Nat×Nat):=[(2,5),(2,6),(3,4),(5,3)]
open La
section
variable{p n:Nat}[Base p]
theorem QD(hW:pZ p n W)(hr:Zh p n r)(hl:Zh p n l)(h1:ZO p W l=ag)(h2:ZO p W (clr p r l j)=ag):ZO p W r=ag:=by
 rw[ZN hW hr];have a:=(ZN hW hl).mp h1;have b:=(ZN hW<|Zx hr hl).mp h2;rw[show toV p (ZJ p r l<|-gt r j)=_ from Y3 hr hl]at b
 have c:=YO (toV p r j) b a;have e:(λk=>(toV p r k-toV p r j*toV p l k)+toV p r j*toV p l k)=toV p r:=by funext k;grind
 rw[e]at c;exact c
def yX(hW:pZ p n W)(hr:Zh p n r)(hl:Zh p n l)(h1:ZO p W l=ag)(h2:ZO p W r=ag):ZO p W (clr p r l j)=ag:=by
 show ZO p W (ZJ p r l<|-gt r j)=ag;rw[ZN hW<|Zx hr hl];rw[show toV p (ZJ p r l<|-gt r j)=_ from Y3 hr hl]
 exact Wd (toV p r j) ((ZN hW hr).mp h2)<|(ZN hW hl).mp h1
theorem wD(hW:pZ p n W)(hr:Zh p n r)(h:ZO p W r=ag):ZO p W (Xm p r k)=ag:=by
 rw[ZN hW<|YW hr];rw[V2];have:=YO (ph p k) (Xq)<|(ZN hW hr).mp h;have e:(λj=>(0:Fin p)+ph p k*toV p r j)=λj=>ph p k*toV p r j:=by funext j;grind
 rw[e]at this;exact this
def zA(hW:pZ p n W)(hr:Zh p n r)(h:∀i,gt r i=0):ZO p W r=ag:=by
 rw[ZN hW hr];have e:toV p r=λ_=>0:=by funext k;exact(Yb hr).mpr<|h k
 rw[e];exact Xq
def WV(hW:pZ p n W)(hr:r∈W):ZO p W r=ag:=by
 rw[ZN hW<|hW.row r hr];exact Xy hW.pn.rf<|Z3 hr
def Bk(p n:Nat)[NeZero p](R rest found:List Row):Prop:=∀W,pZ p n W->(((∀r∈rest,ZO p W r=ag)/\∀r∈found,ZO p W r=ag)↔∀r∈R,ZO p W r=ag)
def Bk.take{R rest found:List Row}{j:Nat}{f:Row}(B:Bk p n R rest found)(h:Red p n j rest found)(hf:f∈rest):Bk p n R (rest.map λr=>clr p r (lead p f j) j) (found.map (λr=>clr p r (lead p f j) j)++[lead p f j]):=λW hW=>by
 have hl:Zh p n (lead p f j):=YW<|h.row f hf;rw[<-B W hW]
 constructor
 .intro#[h1,h2]
  have l1:=h2 _<|bi _<|aK.mpr rfl;exact#[λr hr=>QD hW (h.row r hr) hl l1<|h1 _<|az.mpr #[r,hr,rfl],λr hr=>QD hW (h.part.row r hr) hl l1<|h2 _<|cu _<|az.mpr #[r,hr,rfl]]
 .intro#[h1,h2]
  have l1:ZO p W (lead p f j)=ag:=wD hW (h.row f hf)<|h1 f hf;refine#[λr hr=>?_,λr hr=>?_]
  .obtain⟨o,ho,rfl⟩:=az.mp hr
   exact yX hW (h.row o ho) hl l1<|h1 o ho
  .rcases bw.mp hr with hr|hr
   .obtain⟨o,ho,rfl⟩:=az.mp hr
    exact yX hW (h.part.row o ho) hl l1<|h2 o ho
   .rw[aK.mp hr];exact l1
def Bk.fin{R rest found:List Row}{j:Nat}(B:Bk p n R rest found)(h:Red p n j rest found)(hj:n<=j):∀r∈R,ZO p found r=ag:=
 (B found h.part).mp #[λr hr=>zA h.part (h.row r hr) λi=>by
  by_cases c:i<j
  .exact h.low r hr i c
  .exact JO (by rw[(h.row r hr).1];omega),λr hr=>WV h.part hr]
structure Spans(p n:Nat)[NeZero p](R P:List Row):Prop where
 part:pZ p n P
 holds:∀r∈R,ZO p P r=ag
 least:∀W,pZ p n W->(∀r∈R,ZO p W r=ag)->∀r∈P,ZO p W r=ag
def Spans.uniq(hP:Spans p n R P)(hQ:Spans p n R Q):P=Q:=
 eqP hP.part hQ.part λu=>#[(Yn hP.part hQ.part).mp (aL.mpr<|hP.least Q hQ.part hQ.holds) u,(Yn hQ.part hP.part).mp (aL.mpr<|hQ.least P hP.part hP.holds) u]
def Spans.self(hP:pZ p n P):Spans p n P P:=#[hP,λr hr=>WV hP hr,λW hW h=>h]
def Bk.spans{R rest found:List Row}{j:Nat}(B:Bk p n R rest found)(h:Red p n j rest found)(hj:n<=j):Spans p n R found:=#[h.part,B.fin h hj,λW hW hR=>((B W hW).mpr hR).2]
end
noncomputable def rise(hs:List Nat):Bool:=(hs.zip hs.tail).all λq=>ae<|q.1<q.2
theorem Vm:∀{hs:List Nat},rise hs=ag↔hs.Pairwise (· < ·)
 |[]=>by simp[rise]
 |[a]=>by simp[rise]
 |a::b::l=>by
  have ih:=Vm (hs:=b::l);unfold rise at ih ⊢;rw[kX,bI,di,ax,T3];rw[kX]at ih
  constructor
  .intro#[h1,h2]
   have h3:=ih.mp h2;refine aZ.mpr #[λx hx=>?_,h3]
   rcases ar.mp hx with rfl|hx
   .exact h1
   .exact gj h1<|(aZ.mp h3).1 x hx
  .intro h
   obtain⟨h1,h2⟩:=aZ.mp h;exact#[h1 b<|al ..,ih.mpr h2]
noncomputable def WD(R:List Row)(i k:Nat):Bool:=ae (gt (R.getD i []) k=1)&&(R.take i++R.drop (i+1)).all λr=>ae<|gt r k=0
noncomputable def VB(R:List Row):Bool:=(R.all λr=>(hdI r).isSome)&&(rise (ZF R)&&(aY R.length).all λi=>WD R i<|(ZF R).getD i 0)
section
variable{p n:Nat}[Base p]
def UD{R:List Row}{i:Nat}(hi:i<R.length):R.getD i []=R[i]:=by rw[bf,ao hi];rfl
def Vx(hi:i<R.length):(ZF R).getD i 0=(hdI R[i]).getD 0:=by
 unfold ZF;rw[bf,aV,ao hi];rfl
def qY{R:List Row}{i j:Nat}(hj:j<R.length)(h:j≠i):R[j]∈R.take i++R.drop (i+1):=by
 by_cases c:j<i
 .refine cu _ ?_
  have hl:j<(R.take i).length:=by rw[bC];exact iw.mpr #[c,hj]
  rw[<-i4 (h:=hl)];exact aJ hl
 .refine bi _ ?_
  have c:=Nat.lt_of_le_of_ne (kc c)<|Ne.symm h;have hl:j-(i+1)<(R.drop<|i+1).length:=by rw[bV];exact Nat.sub_lt_sub_right c hj
  have e:(R.drop<|i+1)[j-(i+1)]=R[j]:=by rw[i5];congr 1;exact Nat.add_sub_cancel' c
  rw[<-e];exact aJ hl
def Uf{R:List Row}{i:Nat}{r:Row}(h:r∈R.take i++R.drop (i+1)):∃j,∃(hj:j<R.length),j≠i/\R[j]=r:=by
 rcases bw.mp h with z|z
 .obtain⟨j,hj,e⟩:=bL z
  rw[bC]at hj;have hj:=iw.mp hj;exact#[j,hj.2,bn hj.1,by rw[<-e,i4]]
 .obtain⟨j,hj,e⟩:=bL z
  rw[bV]at hj;exact#[i+1+j,Nat.add_lt_of_lt_sub' hj,by omega,by rw[<-e,i5]]
def Qf:ph p 1=1:=by
 rcases(inferInstance:Base p).b with e|e|e<;>subst e<;>rfl
def Qi(hr:Zh p n r):toV p r k=1↔gt r k=1:=by
 have hb:=(inferInstance:Base p).b
 constructor
 .intro h
  refine Gg (Xl ppos hr k) #[by omega,by omega] ?_
  rw[Qf];exact h
 .intro h
  unfold toV;rw[h,Qf]
def Wu{R:List Row}(hR:∀r∈R,Zh p n r):VB R=ag↔pZ p n R:=by
 unfold VB;simp only[ax,aL,bm]
 constructor
 .intro#[h1,h2,h3]
  have hd:∀i (hi:i<R.length),∃k,hdI R[i]=aa k/\gt R[i] k=1/\∀j (hj:j<R.length),j≠i->gt R[j] k=0:=λi hi=>by
   obtain⟨k,hk⟩:=bZ.mp<|h1 _<|aJ hi;have a:=h3 i hi;unfold WD at a;rw[Vx hi,UD hi,hk,ax,T3,aL]at a;exact#[k,hk,a.1,λj hj ne=>T6<|a.2 _<|qY hj ne]
  have inc:=Vm.mp h2;have memP:∀a∈toP p R,∃i,∃(hi:i<R.length),a=((hdI R[i]).getD 0,toV p R[i]):=λa ha=>by
   obtain⟨r,hr,rfl⟩:=az.mp ha;obtain⟨i,hi,rfl⟩:=bL hr;exact#[i,hi,rfl]
  refine#[hR,#[#[?_,λa ha j hj=>?_,λa ha=>?_,λa ha b hb ne=>?_],λa ha=>?_,λa ha=>?_]]
  .rw[<-Wq (p:=p)]at inc
   exact cX.mp inc
  .obtain⟨i,hi,rfl⟩:=memP a ha
   obtain⟨k,hk,_,_⟩:=hd i hi;rw[hk]at hj;exact(Yb<|hR _<|aJ hi).mpr<|(Ye hk).2.2 j hj
  .obtain⟨i,hi,rfl⟩:=memP a ha
   obtain⟨k,hk,h,_⟩:=hd i hi;rw[hk];exact(Qi<|hR _<|aJ hi).mpr h
  .obtain⟨i,hi,rfl⟩:=memP a ha
   obtain⟨j,hj,rfl⟩:=memP b hb;obtain⟨k,hk,_,h⟩:=hd i hi;rw[hk];refine(Yb<|hR _<|aJ hj).mpr<|h j hj λe=>?_
   subst e;exact ne rfl
  .obtain⟨i,hi,rfl⟩:=memP a ha
   obtain⟨k,hk,_,_⟩:=hd i hi;rw[hk,<-(hR _<|aJ hi).1];exact(Ye hk).2.1
  .obtain⟨i,hi,rfl⟩:=memP a ha
   exact Vb<|hR _<|aJ hi
 .intro hP
  have hk:∀r∈R,∃k,hdI r=aa k/\k<n/\toV p r k=1:=λr hr=>hP.head fld.one0 hr
  refine#[λr hr=>?_,Vm.mpr ?_,λi hi=>?_]
  .obtain⟨k,e,_⟩:=hk r hr
   rw[e];rfl
  .rw[<-Wq (p:=p)];exact hP.pn.rf.heads
  .obtain⟨k,e,_,h1⟩:=hk _ (aJ hi)
   unfold WD;rw[Vx hi,UD hi,e,ax,T3,aL];refine#[(Qi<|hR _<|aJ hi).mp h1,λr hr=>?_]
   obtain⟨j,hj,ne,rfl⟩:=Uf hr;refine T5 ?_;obtain⟨k2,e2,_,_⟩:=hk _<|aJ hj;have hh:((hdI R[i]).getD 0,toV p R[i]).1≠((hdI R[j]).getD 0,toV p R[j]).1:=by
    have inc:(ZF R).Pairwise (· < ·):=by rw[<-Wq (p:=p)];exact hP.pn.rf.heads
    have pw:=List.pairwise_iff_getElem.mp inc;have li:(ZF R).length=R.length:=by unfold ZF;rw[aw]
    have gi:∀m (hm:m<R.length),(ZF R)[m]'(by omega)=(hdI R[m]).getD 0:=λm hm=>by unfold ZF;rw[List.getElem_map]
    intro z;have z:=z;rcases Nat.lt_or_gt_of_ne ne with c|c
    .have:=pw j i (by omega) (by omega) c
     rw[gi j hj,gi i hi]at this;omega
    .have:=pw i j (by omega) (by omega) c
     rw[gi j hj,gi i hi]at this;omega
   have:=hP.pn.rf.zer _ (Z3<|aJ hi) _ (Z3<|aJ hj) hh;rw[e]at this;exact(Yb<|hR _<|aJ hj).mp this
end
end Rw
namespace K61
open Ev Pv Rw La
mutual
noncomputable def okV:V->Bool
 |.tup xs=>U8 xs
 |.lst xs=>U8 xs
 |.drw=>ai
 |.scr _=>ai
 |.dct (.inr _)=>ai
 |.dow _=>ai
 |_=>ag
noncomputable def U8:List V->Bool
 |[]=>ag
 |x::xs=>okV x&&U8 xs
end
theorem VA:∀{xs:List V},U8 xs=ag->∀x∈xs,okV x=ag
 |[],_,x,h=>by cases h
 |y::xs,h,x,m=>by
  obtain⟨h1,h2⟩:=(ax _ _).mp h;rcases ar.mp m with rfl|m
  .exact h1
  .exact VA h2 x m
noncomputable def isW(x:V)(lo hi:Int):Bool:=match x with
 |.int i=>ae (lo<=i)&&ae (i<=hi)
 |_=>ai
def qW{x:V}{lo hi:Int}(h:∀i,x≠.int i):isW x lo hi=ai:=by
 cases x with|int i=>exact T7 rfl<|h i|_=>rfl
def vx{x:V}(hx:okV x=ag):(∃i,x=.int i)\/(∃b,x=.bl b)\/Z8 x [.int]=aa ai/\∀i,x≠.int i:=by
 cases x with
 |int i=>exact .inl #[i,rfl]
 |bl b=>exact .inr<|.inl #[b,rfl]
 |drw=>cases hx
 |scr _=>cases hx
 |dow _=>cases hx
 |dct o=>cases o with|inl _=>exact .inr<|.inr #[rfl,nofun]|inr _=>cases hx
 |_=>exact .inr<|.inr #[rfl,nofun]
def VC{x:V}(hx:okV x=ag):(∃xs,x=.tup xs)\/Z8 x [.tuple]=aa ai/\∀xs,x≠.tup xs:=by
 cases x with
 |tup xs=>exact .inl #[xs,rfl]
 |drw=>cases hx
 |scr _=>cases hx
 |dow _=>cases hx
 |dct o=>cases o with|inl _=>exact .inr #[rfl,nofun]|inr _=>cases hx
 |_=>exact .inr #[rfl,nofun]
def vh(d:Nat){x:V}{lo hi:Int}(s:DS)(hx:okV x=ag):CV (d+1) 17 [x,.int lo,.int hi] s=.ok (.bl<|isW x lo hi) s:=by
 refine Zj rfl (by decide) rfl ?_
 rcases vx hx with⟨i,rfl⟩|⟨b,rfl⟩|⟨ha,no⟩
 .by_cases h:lo<=i
  .simp[YC,pvE,isW,Z8,YZ,h]
  .simp[YC,pvE,isW,Z8,YZ,h]
 .simp[YC,pvE,isW,Z8,YZ]
 .rw[qW no]
  simp[YC,pvE,ha]
noncomputable def ZT(p n:Nat)(x:V):Bool:=match x with
 |.tup xs=>ae (xs.length=n)&&xs.all λv=>isW v 0<|(p:Int)-1
 |_=>ai
def xi{p n:Nat}{x:V}(h:∀xs,x≠.tup xs):ZT p n x=ai:=by
 cases x with|tup xs=>exact T7 rfl<|h xs|_=>rfl
theorem zb{p:Nat}:∀{xs:List V},(xs.all λv=>isW v 0<|(p:Int)-1)=ag->∃r:Row,xs=r.map .int/\∀a∈r,0<=a/\a<(p:Int)
 |[],_=>#[[],rfl,λ_ h=>by cases h]
 |x::xs,h=>by
  rw[di,ax]at h;obtain⟨r,rfl,hr⟩:=zb h.2;cases x with
  |int i=>
   have:=h.1;simp only[isW,ax,T3]at this;refine#[i::r,rfl,λa ha=>?_]
   rcases ar.mp ha with rfl|ha
   .lia
   .exact hr a ha
  |_=>cases h.1
def xy{p n:Nat}{x:V}(h:ZT p n x=ag):∃r:Row,x=Zd r/\Zh p n r:=by
 cases x with
 |tup xs=>
  unfold ZT at h;rw[ax,T3]at h;obtain⟨r,rfl,hr⟩:=zb h.2;exact#[r,rfl,by simpa using h.1,hr]
 |_=>cases h
def qm{p n:Nat}{r:Row}(hr:Zh p n r):ZT p n (Zd r)=ag:=by
 unfold ZT Zd;rw[ax,T3,aw];refine#[hr.1,aL.mpr λv hv=>?_]
 obtain⟨a,ha,rfl⟩:=az.mp hv;have:=hr.2 a ha;simp only[isW,ax,T3];lia
theorem GN:∀r:Row,U8 (r.map .int)=ag
 |[]=>rfl
 |a::r=>GN r
def Zac(r:Row):okV (Zd r)=ag:=GN r
section
variable{p n:Nat}[Base p]
theorem u7(d:Nat){x:V}(s:DS)(hn:n<=6)(hx:okV x=ag):CV (d+2) 18 [spV p n,x] s=.ok (.bl<|ZT p n x) s:=by
 refine Zj rfl (by decide) rfl ?_
 dsimp only[Jt]
 rw[Zi<|Ud (p:=p) (n:=n) _ _ (by simp[pvE]) (by simp)]
 rcases VC hx with⟨xs,rfl⟩|⟨ha,no⟩
 ·
  by_cases hl:xs.length=n
  .rw[Zi (ρ':=[aa<|spV p n,aa<|.tup xs,aa<|.int p,aa<|.int n]) (os':=[]) (s':=s) (by simp[pvE,Z8,YZ,Zn,hl])]
   refine Zg<|Zv ?_;have hc:=Zz (C:=CV<|d+1) (cap:=[2]) (nl:=1) (t:=[0]) (it:=.of<|.v 1) (elt:=.call 17 [(.v 0),(.c<|.int 0),(.bin .sub (.v 1)<|.c<|.int 1)]) (O:=[aa<|spV p n,aa<|.tup xs,aa<|.int p,aa<|.int n]) (s:=s) (l:=xs) (e:=id) (g:=λv=>V.bl<|isW v 0<|(p:Int)-1)
    (by simp[pvE]) (by unfold lim;lia) (λv hv=>#[_,rfl,by
     have e:=vh d (lo:=0) (hi:=(p:Int)-1) s<|VA hx v hv;simp[pvE,e]])
   have ht:=ZP (g:=λv:V=>isW v 0<|(p:Int)-1) xs
   simp[pvE,hc,ht,ZT,hl]
  .refine Zg ?_
   simp[pvE,Z8,YZ,Zn,ZT,hl];lia
 .rw[xi no]
  exact Zg (by simp[pvE,ha])
theorem zP(d:Nat){hs:List Nat}(s:DS)(hl:hs.length<=1000):CV (d+1) 14 [.lst<|hs.map Zm] s=.ok (.bl<|rise hs) s:=by
 refine Zj rfl (by decide) rfl ?_
 have ez:∀(a b:List Nat),((a.map Zm).zip<|b.map Zm).map (λq=>V.tup [q.1,q.2])=(a.zip b).map λq=>V.tup [Zm q.1,Zm q.2]:=by
  intro a
  induction a with
  |nil=>intro b;rfl
  |cons x a ih=>intro b;cases b with|nil=>rfl|cons y b=>simp only[aN,bI];rw[ih]
 have hc:=Zz (C:=CV d) (cap:=[]) (nl:=2) (t:=[0,1]) (it:=.zip (.v 0)<|.sl (.v 0) (aa<|.c<|.int 1) ab) (elt:=.cmp .lt (.v 0)<|.v 1) (O:=[aa<|.lst<|hs.map Zm]) (s:=s) (l:=hs.zip hs.tail) (g:=λq=>V.bl<|ae<|q.1<q.2)
  (by
   have e1:ZW (hs.map Zm) (aa 1) ab=hs.tail.map Zm:=by rw[QU,hU]
   simp[pvE,slV,e1];rw[<-hU,ez]) (by rw[cT];unfold lim;lia) (λq hq=>#[_,rfl,by simp[pvE,Zm]])
 have ht:=ZP (g:=λq:Nat×Nat=>ae<|q.1<q.2)<|hs.zip hs.tail
 simp[WJ,pvE,hc,ht,rise]
theorem Gu(d:Nat){R:List Row}{k:Nat}(s:DS)(hl:R.length<=1000)(hk:∀r∈R,k<r.length):CV (d+1) 15 [Zb R,.int k] s=.ok (.bl<|R.all λr=>ae<|gt r k=0) s:=by
 refine Zj rfl (by decide) rfl ?_
 have hc:=Zz (C:=CV d) (cap:=[1]) (nl:=1) (t:=[0]) (it:=.of<|.v 0) (elt:=.cmp .eq (.ix (.v 0)<|.v 1)<|.c<|.int 0) (O:=[aa<|Zb R,aa<|.int k]) (s:=s) (l:=R) (e:=Zd) (g:=λr=>V.bl<|ae<|gt r k=0)
  (by simp[pvE,Zb]) (by unfold lim;lia) (λr hr=>#[_,rfl,by
   have:=Wk<|hk r hr;simp[pvE,Zd,this,Zn]])
 have ht:=ZP (g:=λr:Row=>ae<|gt r k=0) R
 simp[Wa,pvE,hc,ht]
theorem UV(d:Nat){R:List Row}{i k:Nat}(s:DS)(hR:∀r∈R,Zh p n r)(hl:R.length<=1000)(hi:i<R.length)(hk:k<n):CV (d+2) 16 [Zb R,Zm i,Zm k] s=.ok (.bl<|WD R i k) s:=by
 refine Zj rfl (by decide) rfl ?_
 show rvs (CV<|d+1) [] Xu.body [aa<|Zb R,aa<|.int i,aa<|.int k] [] s=_;have hrow:=hR _<|aJ hi;have e1:at' (R.map Zd) (i:Int)=aa (Zd R[i]):=Ww (by rw[aV,ao hi];rfl)
 have e2:=Wk (by rw[hrow.1];exact hk)
 have e3:=Gu d (R:=R.take i++R.drop (i+1)) s (by rw[aP,bC,bV];lia) (λr hr=>by
  obtain⟨j,hj,ne,rfl⟩:=Uf hr;rw[(hR _<|aJ hj).1];exact hk)
 have c1:ZW (R.map Zd) ab (aa (i:Int))=(R.take i).map Zd:=by rw[jd (by rw[aw];lia),List.map_take]
 have c2:ZW (R.map Zd) (aa<|(i:Int)+1) ab=(R.drop<|i+1).map Zd:=by rw[QY (k:=i+1) (by lia) (by rw[aw];lia),List.map_drop]
 have g0:pv (CV<|d+1) (.ix (.ix (.v 0)<|.v 1)<|.v 2) [aa<|Zb R,aa<|.int i,aa<|.int k] s=.ok (.int<|gt R[i] k) s:=by
  rw[pv,pv,Zf rfl,Za,Zf rfl,Za];show((po (at' (R.map Zd) (i:Int)) s).bind _)=_;rw[e1,ZV,Za,Zf rfl,Za];show po (at' (R[i].map V.int) (k:Int)) s=_;rw[e2];rfl
 have g1:pv (CV<|d+1) (.cmp .eq (.ix (.ix (.v 0)<|.v 1)<|.v 2)<|.c<|.int 1) [aa<|Zb R,aa<|.int i,aa<|.int k] s=.ok (.bl<|ae<|gt R[i] k=1) s:=by
  rw[pv,g0,Za];simp[pvE,ofD,Zn]
 have g2:pv (CV<|d+1) (.bin .add (.sl (.v 0) ab<|aa<|.v 1)<|.sl (.v 0) (aa<|.bin .add (.v 1)<|.c<|.int 1) ab) [aa<|Zb R,aa<|.int i,aa<|.int k] s=.ok (Zb<|R.take i++R.drop (i+1)) s:=by
  have c3:(R.take i).length+(R.drop<|i+1).length<=16777216:=by rw[bC,bV];lia
  rw[bC,bV]at c3;simp[pvE,Zb,slV,c1,c2,c3]
 have g3:=Zr (Zc g2<|Zc (Zf (i:=2) rfl) Ze) e3;refine Zg<|Zv ?_;rw[pv,g1,Za];unfold WD;rw[UD hi];cases ae (gt R[i] k=1)with|true=>exact g3|false=>rfl
theorem zn:∀R:List Row,XO .non (R.map λr=>WC<|hdI r)=aa (!(R.all λr=>(hdI r).isSome))
 |[]=>rfl
 |r::R=>by
  show(match eqV Zn (WC<|hdI r) .non,XO .non (R.map λr=>WC<|hdI r)with|some a,aa b=>aa (a||b)|_,_=>ab)=_
  rw[zn R,di];cases hdI r with|none=>simp[WC,xC,wC,Zn]|some k=>simp[WC,xC,wC,Zn]
def wV{R:List Row}(h:(R.all λr=>(hdI r).isSome)=ag):R.map (λr=>WC<|hdI r)=(ZF R).map Zm:=by
 unfold ZF;rw[bB];refine c8 λr hr=>?_
 obtain⟨k,hk⟩:=bZ.mp<|aL.mp h r hr;show WC (hdI r)=Zm ((hdI r).getD 0);rw[hk];rfl
theorem xf(d:Nat){R:List Row}(s:DS)(hn:n<=6)(hR:∀r∈R,Zh p n r)(hl:R.length<=1000):rvs (CV<|d+2) [] (WB.body.drop 1) [aa<|spV p n,aa<|Zb R,ab] [] s=.ok (.ret<|.bl<|VB R) s:=by
 show rvs _ _ (.asg [2] (.comp1 [] 1 [0] (.of<|.v 1) []<|.call 8 [(.v 0)]) ::
  .ite (.or (.cmp .inn (.c .non)<|.v 2)<|.not<|.call 14 [(.v 2)]) [.ret<|.c<|.bl ai] [] ::
  .ret (.blt .all [(.comp1 [1] 2 [0,1] (.enum<|.v 2) []<|.call 16 [(.v 2),(.v 0),(.v 1)])])::[]) _ _ _=_
 have hc2:=Zz (C:=CV<|d+2) (cap:=[]) (nl:=1) (t:=[0]) (it:=.of<|.v 1) (elt:=.call 8 [(.v 0)]) (O:=[aa<|spV p n,aa<|Zb R,ab]) (s:=s) (l:=R) (e:=Zd) (g:=λr=>WC<|hdI r)
  (by simp[pvE,Zb]) (by unfold lim;lia) (λx hx=>#[_,rfl,by
   have e:=UU (d+1) x s;simp[pvE,e]])
 rw[Zi (ρ':=[aa<|spV p n,aa<|Zb R,aa<|.lst<|R.map λr=>WC<|hdI r]) (os':=[]) (s':=s) (by simp[pvE,hc2])]
 have hin:=zn R;unfold VB;cases hh:R.all λr=>(hdI r).isSome with
 |false=>
  rw[hh]at hin;exact Zg (by simp[pvE,WF,hin])
 |true=>
  rw[hh]at hin;rw[wV hh]at hin ⊢;have hln:(ZF R).length=R.length:=by unfold ZF;rw[aw]
  have e3:=zP (d+1) (hs:=ZF R) s (by lia)
  cases hr:rise (ZF R)with
  |false=>
   rw[hr]at e3;exact Zg (by simp[pvE,WF,hin,e3])
  |true=>
  rw[hr]at e3;rw[Zi (ρ':=[aa<|spV p n,aa<|Zb R,aa<|.lst<|(ZF R).map Zm]) (os':=[]) (s':=s) (by simp[pvE,WF,hin,e3])]
  refine Zg<|Zv ?_;have ew:((Z1 0 (ZF R).length).zip<|(ZF R).map Zm).map (λq=>V.tup [q.1,q.2])=(aY R.length).map λi=>V.tup [Zm i,Zm<|(ZF R).getD i 0]:=by
   apply et
   .simp[Z1,hln]
   .intro i h1 h2
    have h3:i<R.length:=by simpa using h2
    have h4:i<(ZF R).length:=by lia
    simp[Z1,Zm,h4]
  have hc3:=Zz (cap:=[1]) (nl:=2) (t:=[0,1]) (elt:=.call 16 [(.v 2),(.v 0),(.v 1)]) (l:=aY R.length)
   (by
    have:pvw (CV<|d+2) (.enum<|.v 2) [aa<|spV p n,aa<|Zb R,aa<|.lst<|(ZF R).map Zm] s=.ok (((Z1 0 ((ZF R).map Zm).length).zip<|(ZF R).map Zm).map λq=>V.tup [q.1,q.2]) s:=by simp[pvE]
    rw[this,aw,ew]) (by rw[bY];unfold lim;lia) (λi hi=>#[_,rfl,by
    have hi':=bm.mp hi;have hk:(ZF R).getD i 0<n:=by
     rw[Vx hi'];obtain⟨k,hk⟩:=bZ.mp<|aL.mp hh _<|aJ hi';rw[hk,<-(hR _<|aJ hi').1];exact(Ye hk).2.1
    exact Zr (Zc (Zf rfl)<|Zc (Zf rfl)<|Zc (Zf rfl) Ze)<|UV d s hR hl hi' hk])
  have ht3:=ZP (g:=λi:Nat=>WD R i<|(ZF R).getD i 0)<|aY R.length
  rw[pv,Zc hc3 Ze,Za];show po ((ZH _).map λbs=>V.bl<|bs.all id) s=_
  rw[ht3];show PR.ok (V.bl<|(lq _ _).all id) s=_;rw[cE];rfl
noncomputable def isP(p n:Nat)(x:V):Bool:=match x with
 |.tup xs=>xs.all (ZT p n)&&match Z4 xs with
  |some R=>VB R
  |none=>ai
 |_=>ai
theorem XE:∀{xs:List V},xs.all (ZT p n)=ag->∃R:List Row,xs=R.map Zd/\∀r∈R,Zh p n r
 |[],_=>#[[],rfl,λ_ h=>by cases h]
 |x::xs,h=>by
  rw[di,ax]at h;obtain⟨R,rfl,hR⟩:=XE h.2;obtain⟨r,rfl,hr⟩:=xy h.1;refine#[r::R,rfl,λa ha=>?_]
  rcases ar.mp ha with rfl|ha
  .exact hr
  .exact hR a ha
def WX{x:V}:isP p n x=ag↔∃P,x=Zb P/\pZ p n P:=by
 constructor
 .intro h
  cases x with
  |tup xs=>
   unfold isP at h;rw[ax]at h;obtain⟨R,rfl,hR⟩:=XE h.1;have h2:=h.2;rw[Yx]at h2;exact#[R,rfl,(Wu hR).mp h2]
  |_=>cases h
 .rintro ⟨P,rfl,hP⟩
  show(_&&_)=ag;rw[ax,Yx];refine#[aL.mpr λv hv=>?_,(Wu hP.row).mpr hP]
  obtain⟨r,hr,rfl⟩:=az.mp hv;exact qm<|hP.row r hr
def xl{x:V}(h:∀xs,x≠.tup xs):isP p n x=ai:=by
 cases x with|tup xs=>exact T7 rfl<|h xs|_=>rfl
theorem JC(d:Nat){x:V}(s:DS)(hn:n<=6)(hx:okV x=ag)(hl:∀xs,x=.tup xs->xs.length<=1000):CV (d+3) 19 [spV p n,x] s=.ok (.bl<|isP p n x) s:=by
 refine Zj rfl (by decide) rfl ?_
 show rvs (CV<|d+2) [] (.ite (.or (.not<|.isi (.v 1) [.tuple])<|.not<|.blt .all [(.comp1 [0] 1 [0] (.of<|.v 1) []<|.call 18 [(.v 1),(.v 0)])]) [.ret<|.c<|.bl ai] []::WB.body.drop 1) [aa<|spV p n,aa x,ab] [] s=_;rcases VC hx with⟨xs,rfl⟩|⟨ha,no⟩
 ·
  have hl:=hl xs rfl;have hc1:=Zz (C:=CV<|d+2) (cap:=[0]) (nl:=1) (t:=[0]) (it:=.of<|.v 1) (elt:=.call 18 [(.v 1),(.v 0)]) (O:=[aa<|spV p n,aa<|.tup xs,ab]) (s:=s) (l:=xs) (e:=id) (g:=λv=>V.bl<|ZT p n v)
   (by simp[pvE]) (by unfold lim;lia) (λv hv=>#[_,rfl,by
    have e:=u7 (p:=p) d s hn<|VA hx v hv;simp[pvE,e]])
  have ht:=ZP (g:=λv:V=>ZT p n v) xs
  have hpt:Z8 (.tup xs) [.tuple]=aa ag:=rfl;cases ha:xs.all (ZT p n)with
  |false=>
   have hf:(xs.map λv=>ZT p n v).all id=ai:=by rw[cE];exact ha
   refine Zg ?_;simp[pvE,hpt,hc1,ht,isP,ha,hf]
  |true=>
   have hf:(xs.map λv=>ZT p n v).all id=ag:=by rw[cE];exact ha
   rw[Zi (ρ':=[aa<|spV p n,aa<|.tup xs,ab]) (os':=[]) (s':=s) (by simp[pvE,hpt,hc1,ht,hf])]
   obtain⟨R,rfl,hR⟩:=XE ha;have e:=xf d s hn hR (by simpa using hl)
   have eb:isP p n (.tup<|R.map Zd)=VB R:=by
    show((R.map Zd).all (ZT p n)&&match Z4 (R.map Zd)with|some R=>VB R|none=>ai)=_
    rw[ha,Yx];rfl
   rw[eb];exact e
 .rw[xl no]
  exact Zg (by simp[pvE,ha])
theorem GG:∀P:List Row,U8 (P.map Zd)=ag
 |[]=>rfl
 |r::P=>by
  show(okV (Zd r)&&U8 (P.map Zd))=ag;rw[Zac,GG P];rfl
def uk(P:List Row):okV (Zb P)=ag:=GG P
def JT{P:List Row}(hP:pZ p n P):∀xs,Zb P=.tup xs->xs.length<=n:=λxs e=>by
 cases e;rw[aw];exact dsum hP
theorem vQ(d:Nat){P:List Row}(s:DS)(hn:n<=6)(hP:pZ p n P):CV (d+3) 19 [spV p n,Zb P] s=.ok (.bl ag) s:=by
 have e:=JC (p:=p) d s hn (uk P) λxs z=>by have:=JT hP xs z;lia
 rw[WX.mpr #[P,rfl,hP]]at e;exact e
end
section
variable{p n:Nat}[Base p]
def vV(d:Nat){P:List Row}{r:Row}(s:DS)(hn:n<=6)(hP:pZ p n P)(hr:Zh p n r):CV (d+4) 12 [spV p n,Zb P,Zd r] s=.ok (.bl<|ZO p P r) s:=by
 refine Zj rfl (by decide) rfl ?_
 show rvs (CV<|d+3) [] (.ret (.cmp .is (.call 8 [(.call 11 [(.v 0),(.v 1),(.v 2)])])<|.c .non)::[]) [aa<|spV p n,aa<|Zb P,aa<|Zd r] [] s=_;have e1:pv (CV<|d+3) (.call 8 [(.call 11 [(.v 0),(.v 1),(.v 2)])]) [aa<|spV p n,aa<|Zb P,aa<|Zd r] s=.ok (WC<|hdI<|ZD p P r) s:=
  Zr (Zc (Zr (Zc (Zf rfl)<|Zc (Zf rfl)<|Zc (Zf rfl) Ze)<|zL d s hn hP hr) Ze) (UU (d+2) _ s)
 refine Zg<|Zv ?_;rw[pv,e1,Za];unfold ZO;cases hdI (ZD p P r)<;>simp[pvE,WC]
def yf(d:Nat){P Q:List Row}(s:DS)(hn:n<=6)(hP:pZ p n P)(hQ:pZ p n Q):CV (d+5) 13 [spV p n,Zb P,Zb Q] s=.ok (.bl<|P.all<|ZO p Q) s:=by
 refine Zj rfl (by decide) rfl ?_
 show rvs (CV<|d+4) [] (.ret (.blt .all [(.comp1 [0,2] 1 [0] (.of<|.v 1) []<|.call 12 [(.v 1),(.v 2),(.v 0)])])::[]) [aa<|spV p n,aa<|Zb P,aa<|Zb Q] [] s=_;have hd:=dsum hP;have hc:=Zz (cap:=[0,2]) (nl:=1) (t:=[0]) (it:=.of<|.v 1) (elt:=.call 12 [(.v 1),(.v 2),(.v 0)]) (O:=[aa<|spV p n,aa<|Zb P,aa<|Zb Q])
  (by simp[pvE,Zb]) (by unfold lim;omega) (λx hx=>#[_,rfl,Zr (Zc (Zf rfl)<|Zc (Zf rfl)<|Zc (Zf rfl) Ze)<|vV d s hn hQ<|hP.row x hx])
 have ht:=ZP (g:=ZO p Q) P;refine Zg<|Zv ?_;rw[pv,Zc hc Ze,Za];simp[pvE,ht,cE,Function.comp]
end
section
variable{p n:Nat}[Base p]
def ix0{C:ZB}{i:Nat}{O:Env}{s:DS}(h:O[i]?=aa (aa<|spV p n)):pv C (.ix (.v i)<|.c<|.int 0) O s=.ok (.int p) s:=by
 rw[pv,Zf h,Za,pv];rfl
def ix1{C:ZB}{i:Nat}{O:Env}{s:DS}(h:O[i]?=aa (aa<|spV p n)):pv C (.ix (.v i)<|.c<|.int 1) O s=.ok (.int n) s:=by
 rw[pv,Zf h,Za,pv];rfl
def WR{C:ZB}{e:E}{x:V}{xs:List V}{O:Env}{s:DS}(h:pv C e O s=.ok (.lst (x::xs)) s):pv C (.ix e<|.c<|.int 0) O s=.ok x s:=by
 rw[pv,h,Za,pv];show po (at' (x::xs) 0) s=_;simp[at',ixN,po]
theorem QL(d:Nat){r o:Row}{k:Int}(s:DS)(hn:n<=6)(hr:Zh p n r)(ho:Zh p n o)(hk:-1000<k/\k<1000):CV (d+1) 4 [spV p n,Zd r,Zd o,.int k] s=.ok (Zd<|ZJ p r o k) s:=by
 refine Zj rfl (by decide) rfl ?_
 show rvs (CV d) [] (.ret (.blt .tuple [(.comp1 [3,0] 2 [0,1] (.zip (.v 1)<|.v 2) []<|.bin .mod (.bin .add (.v 0)<|.bin .mul (.v 2)<|.v 1)<|.ix (.v 3)<|.c<|.int 0)])::[]) [aa<|spV p n,aa<|Zd r,aa<|Zd o,aa<|.int k] [] s=_;have hp:=WQ (p:=p);have hc:=Zz (cap:=[3,0]) (nl:=2) (t:=[0,1]) (it:=.zip (.v 1)<|.v 2) (elt:=.bin .mod (.bin .add (.v 0)<|.bin .mul (.v 2)<|.v 1)<|.ix (.v 3)<|.c<|.int 0) (O:=[aa<|spV p n,aa<|Zd r,aa<|Zd o,aa<|.int k]) (l:=r.zip o) (e:=λq=>V.tup [.int q.1,.int q.2]) (g:=λq=>V.int<|(q.1+k*q.2)%p)
  (by simp[pvE,Zd,Vi]) (by rw[cT,hr.1,ho.1];unfold lim;lia) (λq hq=>by
   have h2:=ho.2 q.2 (cR hq).2;refine#[_,rfl,?_];have f1:=ZI (a:=k) (by lia) (by lia)
   have f2:=ZI (a:=q.2) (by lia) (by lia)
   have hp0:0<p:=by lia
   have e0:=ix0 (C:=CV d) (i:=3) (O:=[aa<|.int q.1,aa<|.int q.2,aa<|.int k,aa<|spV p n]) (s:=s) rfl;show pv (CV d) _ [aa<|.int q.1,aa<|.int q.2,aa<|.int k,aa<|spV p n] s=_;have g:pv (CV d) (.bin .add (.v 0)<|.bin .mul (.v 2)<|.v 1) [aa<|.int q.1,aa<|.int q.2,aa<|.int k,aa<|spV p n] s=.ok (.int<|q.1+k*q.2) s:=by simp[pvE,f1,f2]
   rw[pv,g,Za,e0,Za];simp[pvF,hp0])
 have e:(r.zip o).map (λq=>V.int<|(q.1+k*q.2)%p)=(ZJ p r o k).map V.int:=by
  unfold ZJ;rw[<-c0,bB];rfl
 refine Zg<|Zv ?_;rw[pv,Zc hc Ze,e];rfl
theorem XQ(d:Nat)(s:DS)(hn:n<=6):∃r s',CV (d+2) 6 [.drw,spV p n] s=.ok (Zd r) s'/\Zh p n r:=by
 have hp:=WQ (p:=p);obtain⟨ys,s',e1,e2,e3⟩:=WA (C:=CV<|d+1) (cap:=[0,1]) (nl:=1) (t:=[0]) (it:=.rng1<|.ix (.v 1)<|.c<|.int 1) (elt:=.call 2 [(.v 1),(.ix (.v 2)<|.c<|.int 0)]) (O:=[aa .drw,aa<|spV p n]) (s:=s) (Q:=λy=>∃a:Int,y=.int a/\0<=a/\a<p)
  (by rw[WT];exact Y2 (ix1 rfl)<|by lia) (by unfold lim;lia) (λx s=>by
   obtain⟨v,s',f1,f2,f3⟩:=zc (m:=p) s (by lia) (by lia)
   refine#[[aa x,aa .drw,aa<|spV p n],.int v,s',rfl,Zr (Zc (Zf rfl)<|Zc (ix0 rfl) Ze) f1,v,rfl,f2,f3])
 have:∃r:Row,ys=r.map V.int/\∀a∈r,0<=a/\a<(p:Int):=by
  clear e1 e2
  induction ys with
  |nil=>exact#[[],rfl,λ_ h=>by cases h]
  |cons y ys ih=>
   obtain⟨r,h1,h2⟩:=ih λz hz=>e3 z<|ak _ hz
   obtain⟨a,rfl,h3⟩:=e3 y<|al ..;refine#[a::r,by rw[h1];rfl,λx hx=>?_]
   rcases ar.mp hx with rfl|hx
   .exact h3
   .exact h2 x hx
 obtain⟨r,rfl,h2⟩:=this;refine#[r,s',Zj rfl (by decide) rfl ?_,by simpa using e2,h2]
 show rvs (CV<|d+1) [] (.ret (.blt .tuple [(.comp1 [0,1] 1 [0] (.rng1<|.ix (.v 1)<|.c<|.int 1) []<|.call 2 [(.v 1),(.ix (.v 2)<|.c<|.int 0)])])::[]) [aa .drw,aa<|spV p n] [] s=_;refine Zg<|Zv ?_;rw[pv,Zc e1 Ze];rfl
noncomputable def ui:List Sm:=[.asg [5]<|.comp1 [4] 1 [0] (.of<|.v 2) [(.cmp .ne (.ix (.v 0)<|.v 1)<|.c<|.int 0)]<|.v 0,
  .ite (.cmp .ne (.v 5)<|.lst []) [.asg [6]<|.ix (.comp1 [5,4,0] 1 [0] (.rng1<|.ix (.v 0)<|.c<|.int 0) [(.cmp .eq (.bin .mod (.bin .mul (.v 0)<|.ix (.ix (.v 1)<|.c<|.int 0)<|.v 2)<|.ix (.v 3)<|.c<|.int 0)<|.c<|.int 1)]<|.v 0)<|.c<|.int 0,
  .asg [7] (.blt .tuple [(.comp1 [6,0] 1 [0] (.of<|.ix (.v 5)<|.c<|.int 0) []<|.bin .mod (.bin .mul (.v 1)<|.v 0)<|.ix (.v 2)<|.c<|.int 0)]),
  .asg [2] (.comp1 [0,7,4] 1 [0] (.of<|.v 2) []<|.call 4 [(.v 1),(.v 0),(.v 2),(.neg<|.ix (.v 0)<|.v 3)]),
  .asg [3] (.bin .add (.comp1 [0,7,4] 1 [0] (.of<|.v 3) []<|.call 4 [(.v 1),(.v 0),(.v 2),(.neg<|.ix (.v 0)<|.v 3)])<|.lst [(.v 7)])] []]
theorem xg(d:Nat){rest found:List Row}{j:Nat}{v:V}{a5 a6 a7:Option V}(s:DS)(hn:n<=6)(hj:j<n){R:List Row}(hR:Red p n j rest found)(hB:Bk p n R rest found)(hl:rest.length<=1000)(hl2:found.length<=1000):∃rest' found' b5 b6 b7,rvs (CV<|d+1) [] ui [aa<|spV p n,aa v,aa<|.lst<|rest.map Zd,aa<|.lst<|found.map Zd,aa<|Zm j,a5,a6,a7] [] s=.ok (.nx [aa<|spV p n,aa v,aa<|.lst<|rest'.map Zd,aa<|.lst<|found'.map Zd,aa<|Zm j,b5,b6,b7] []) s/\Red p n (j+1) rest' found'/\rest'.length=rest.length/\found'.length<=found.length+1/\Bk p n R rest' found':=by
 have hp:=WQ (p:=p);have hatj:=λr hr=>Wk (by rw[(hR.row r hr).1];exact hj)
 have hc1:=Xo (C:=CV<|d+1) (cap:=[4]) (nl:=1) (t:=[0]) (it:=.of<|.v 2) (tst:=.cmp .ne (.ix (.v 0)<|.v 1)<|.c<|.int 0) (elt:=.v 0) (O:=[aa<|spV p n,aa v,aa<|.lst<|rest.map Zd,aa<|.lst<|found.map Zd,aa<|Zm j,a5,a6,a7]) (s:=s) (l:=rest)
  (by simp[pvE]) (by unfold lim;lia) (λr hr=>#[[aa<|Zd r,aa<|Zm j],.bl<|ae<|gt r j≠0,rfl,by
   have:=hatj r hr;simp[pvE,Zd,Zm,this,Zn],rfl,λ_=>Zf rfl])
 unfold ui;rw[Zi<|ZE hc1 rfl];show ∃rest' found' b5 b6 b7,rvs (CV<|d+1) [] _ [aa<|spV p n,aa v,aa<|.lst<|rest.map Zd,aa<|.lst<|found.map Zd,aa<|Zm j,aa<|.lst<|(rest.filter λr=>ae<|gt r j≠0).map Zd,_,_] [] s=_/\_
 cases q:rest.filter λr=>ae (gt r j≠0)with
 |nil=>
  refine#[rest,found,aa<|.lst<|[].map Zd,a6,a7,?_,y8 hR λr hr=>?_,rfl,by lia,hB]
  .have e1:Xp (CV<|d+1) (.cmp .ne (.v 5)<|.lst []) [aa<|spV p n,aa v,aa<|.lst<|rest.map Zd,aa<|.lst<|found.map Zd,aa<|Zm j,aa<|.lst<|[].map Zd,a6,a7] s=.ok ai s:=by
    refine ZZ (v:=.bl ai) ?_ rfl;rw[pv,Zf rfl];simp[pvE,Zn,Yh]
   rw[Zi ((Yi e1).trans (by rw[T8 (by simp),rvs])),rvs]
  .have:=List.filter_eq_nil_iff.mp q r hr
   simpa using this
 |cons f fs=>
  have hf:f∈rest/\gt f j≠0:=by
   have:f∈rest.filter λr=>ae (gt r j≠0):=by rw[q];exact al ..
   rw[cy]at this;exact#[this.1,by simpa using this.2]
  have hfr:=hR.row f hf.1;have hg:=Xl ppos hfr j;obtain⟨io1,io2⟩:=wS (p:=p) (by lia) hg.2
  have hl1:Zh p n (lead p f j):=YW hfr;have hi:0<=YD p (gt f j)/\YD p (gt f j)<1000:=by
   unfold YD
   repeat' split
   all_goals lia
  let ρ0:Env:=[aa<|spV p n,aa v,aa<|.lst<|rest.map Zd,aa<|.lst<|found.map Zd,aa<|Zm j,aa<|.lst<|(f::fs).map Zd,a6,a7]
  have e1:Xp (CV<|d+1) (.cmp .ne (.v 5)<|.lst []) ρ0 s=.ok ag s:=by
   refine ZZ (v:=.bl ag) ?_ rfl;rw[pv,Zf rfl];simp[pvE,Zn]
  have ef:pv (CV<|d+1) (.ix (.v 5)<|.c<|.int 0) ρ0 s=.ok (Zd f) s:=by
   exact WR<|Zf rfl
  have hatf:=Wk (r:=f) (k:=j) (by rw[hfr.1];exact hj)
  have hc2:=Xo (cap:=[5,4,0]) (nl:=1) (t:=[0]) (it:=.rng1<|.ix (.v 0)<|.c<|.int 0) (tst:=.cmp .eq (.bin .mod (.bin .mul (.v 0)<|.ix (.ix (.v 1)<|.c<|.int 0)<|.v 2)<|.ix (.v 3)<|.c<|.int 0)<|.c<|.int 1) (elt:=.v 0) (O:=ρ0) (s:=s)
   (Y2 (ix0 rfl)<|by lia) (by rw[bY];unfold lim;lia) (λk hk=>#[[aa<|Zm k,aa<|.lst<|(f::fs).map Zd,aa<|Zm j,aa<|spV p n],.bl<|ae<|(k:Int)*gt f j%p=1,rfl,by
    have hk':=bm.mp hk;have f1:=ZI (a:=(k:Int)) (by lia) (by lia)
    have f2:=ZI (a:=gt f j) (by lia) (by lia)
    have g1:pv (CV<|d+1) (.ix (.ix (.v 1)<|.c<|.int 0)<|.v 2) [aa<|Zm k,aa<|.lst<|(f::fs).map Zd,aa<|Zm j,aa<|spV p n] s=.ok (.int<|gt f j) s:=by
     have g0:pv (CV<|d+1) (.ix (.v 1)<|.c<|.int 0) [aa<|Zm k,aa<|.lst<|(f::fs).map Zd,aa<|Zm j,aa<|spV p n] s=.ok (Zd f) s:=by
      exact WR<|Zf rfl
     rw[pv,g0,Za,Zf rfl,Za];show po (at' (f.map V.int) (j:Int)) s=_;rw[hatf];rfl
    have g2:=ix0 (p:=p) (n:=n) (C:=CV<|d+1) (i:=3) (O:=[aa<|Zm k,aa<|.lst<|(f::fs).map Zd,aa<|Zm j,aa<|spV p n]) (s:=s) rfl;have g3:pv (CV<|d+1) (.bin .mul (.v 0)<|.ix (.ix (.v 1)<|.c<|.int 0)<|.v 2) [aa<|Zm k,aa<|.lst<|(f::fs).map Zd,aa<|Zm j,aa<|spV p n] s=.ok (.int<|(k:Int)*gt f j) s:=by
     rw[pv,Zf rfl,Za,g1,Za];simp[Zm,Yt,VZ,f1,f2]
    have hp0:0<p:=by lia
    rw[pv,pv,g3,Za,g2,Za];simp[pvE,Zn,hp0],rfl,λ_=>Zf rfl])
  rw[io1]at hc2;have e6:pv (CV<|d+1) (.ix (.comp1 [5,4,0] 1 [0] (.rng1<|.ix (.v 0)<|.c<|.int 0) [(.cmp .eq (.bin .mod (.bin .mul (.v 0)<|.ix (.ix (.v 1)<|.c<|.int 0)<|.v 2)<|.ix (.v 3)<|.c<|.int 0)<|.c<|.int 1)]<|.v 0)<|.c<|.int 0) ρ0 s=.ok (.int<|YD p<|gt f j) s:=by
   have:=WR hc2;rw[Zm,io2]at this;exact this
  let ρ1:Env:=[aa<|spV p n,aa v,aa<|.lst<|rest.map Zd,aa<|.lst<|found.map Zd,aa<|Zm j,aa<|.lst<|(f::fs).map Zd,aa<|.int<|YD p<|gt f j,a7]
  have ef1:pv (CV<|d+1) (.ix (.v 5)<|.c<|.int 0) ρ1 s=.ok (Zd f) s:=by
   exact WR<|Zf rfl
  have hc3:=Zz (cap:=[6,0]) (nl:=1) (t:=[0]) (it:=.of<|.ix (.v 5)<|.c<|.int 0) (elt:=.bin .mod (.bin .mul (.v 1)<|.v 0)<|.ix (.v 2)<|.c<|.int 0) (s:=s) (l:=f) (g:=λa=>V.int<|YD p (gt f j)*a%p)
   (by rw[pvw,ef1];rfl) (by rw[hfr.1];unfold lim;lia) (λa ha=>#[[aa<|.int a,aa<|.int<|YD p<|gt f j,aa<|spV p n],rfl,by
    have h2:=hfr.2 a ha;have f1:=ZI (a:=YD p<|gt f j) (by lia) (by lia)
    have f2:=ZI (a:=a) (by lia) (by lia)
    have g2:=ix0 (p:=p) (n:=n) (C:=CV<|d+1) (i:=2) (O:=[aa<|.int a,aa<|.int<|YD p<|gt f j,aa<|spV p n]) (s:=s) rfl;have hp0:0<p:=by lia
    have g:pv (CV<|d+1) (.bin .mul (.v 1)<|.v 0) [aa<|.int a,aa<|.int<|YD p<|gt f j,aa<|spV p n] s=.ok (.int<|YD p (gt f j)*a) s:=by simp[pvE,f1,f2]
    rw[pv,g,Za,g2,Za];simp[pvF,hp0]])
  have el:f.map (λa=>V.int<|YD p (gt f j)*a%p)=(lead p f j).map V.int:=by unfold lead Xm;rw[bB];rfl
  rw[el]at hc3;have e7:pv (CV<|d+1) (.blt .tuple [(.comp1 [6,0] 1 [0] (.of<|.ix (.v 5)<|.c<|.int 0) []<|.bin .mod (.bin .mul (.v 1)<|.v 0)<|.ix (.v 2)<|.c<|.int 0)]) ρ1 s=.ok (Zd<|lead p f j) s:=by
   rw[pv,Zc hc3 Ze];rfl
  let ρ2:Env:=[aa<|spV p n,aa v,aa<|.lst<|rest.map Zd,aa<|.lst<|found.map Zd,aa<|Zm j,aa<|.lst<|(f::fs).map Zd,aa<|.int<|YD p<|gt f j,aa<|Zd<|lead p f j]
  have elt:∀r:Row,Zh p n r->pv (CV<|d+1) (.call 4 [(.v 1),(.v 0),(.v 2),(.neg<|.ix (.v 0)<|.v 3)]) [aa<|Zd r,aa<|spV p n,aa<|Zd<|lead p f j,aa<|Zm j] s=.ok (Zd<|clr p r (lead p f j) j) s:=λr hr=>by
   have hgr:=Xl ppos hr j;have h3:=Wk (r:=r) (k:=j) (by rw[hr.1];exact hj)
   have g1:pv (CV<|d+1) (.neg<|.ix (.v 0)<|.v 3) [aa<|Zd r,aa<|spV p n,aa<|Zd<|lead p f j,aa<|Zm j] s=.ok (.int<|-(gt r j)) s:=by
    simp[pvE,Zd,Zm,h3]
   exact Zr (Zc (Zf rfl)<|Zc (Zf rfl)<|Zc (Zf rfl)<|Zc g1 Ze)<|QL d s hn hr hl1 #[by lia,by lia]
  have hc4:=Zz (cap:=[0,7,4]) (nl:=1) (t:=[0]) (it:=.of<|.v 2) (O:=ρ2) (s:=s)
   (by rw[pvw,Zf rfl];rfl) (by unfold lim;lia) (λr hr=>#[_,rfl,elt r<|hR.row r hr])
  let ρ3:Env:=[aa<|spV p n,aa v,aa<|.lst<|rest.map λr=>Zd<|clr p r (lead p f j) j,aa<|.lst<|found.map Zd,aa<|Zm j,aa<|.lst<|(f::fs).map Zd,aa<|.int<|YD p<|gt f j,aa<|Zd<|lead p f j]
  have hc5:=Zz (cap:=[0,7,4]) (nl:=1) (t:=[0]) (it:=.of<|.v 3) (O:=ρ3) (s:=s)
   (by rw[pvw,Zf rfl];rfl) (by unfold lim;lia) (λr hr=>#[_,rfl,elt r<|hR.part.row r hr])
  have e9:pv (CV<|d+1) (.bin .add (.comp1 [0,7,4] 1 [0] (.of<|.v 3) []<|.call 4 [(.v 1),(.v 0),(.v 2),(.neg<|.ix (.v 0)<|.v 3)])<|.lst [(.v 7)]) ρ3 s=.ok (.lst<|(found.map λr=>Zd<|clr p r (lead p f j) j)++[Zd<|lead p f j]) s:=by
   have hll:pv (CV<|d+1) (.lst [(.v 7)]) ρ3 s=.ok (.lst [Zd<|lead p f j]) s:=by
    rw[pv,Zc (Zf rfl) Ze,Za,T9 (by simp[lim])]
   rw[pv,hc5,Za,hll,Za];show(if(found.map λr=>Zd<|clr p r (lead p f j) j).length+[Zd<|lead p f j].length<=lim then _ else _)=_
   rw[T9 (by rw[aw,dj];unfold lim;lia)]
  refine#[rest.map λr=>clr p r (lead p f j) j,found.map (λr=>clr p r (lead p f j) j)++[lead p f j],aa<|.lst<|(f::fs).map Zd,aa<|.int<|YD p<|gt f j,aa<|Zd<|lead p f j,?_,yC hR hj hf.1 hf.2,by rw[aw],by simp,hB.take hR hf.1]
  rw[Zi (ρ':=[aa<|spV p n,aa v,aa<|.lst<|rest.map λr=>Zd<|clr p r (lead p f j) j,aa<|.lst<|(found.map λr=>Zd<|clr p r (lead p f j) j)++[Zd<|lead p f j],aa<|Zm j,aa<|.lst<|(f::fs).map Zd,aa<|.int<|YD p<|gt f j,aa<|Zd<|lead p f j]) (s':=s) ((Yi e1).trans (by
   rw[T9 rfl,Zi<|ZE e6 rfl];show rvs _ _ _ ρ1 [] s=_;rw[Zi<|ZE e7 rfl];show rvs _ _ _ ρ2 [] s=_;rw[Zi<|ZE hc4 rfl];show rvs _ _ _ ρ3 [] s=_;rw[Zi<|ZE e9 rfl,rvs];rfl)),rvs]
  rw[bB,cU,bB];rfl
theorem JS{n j:Nat}{x:Nat}{l:List Nat}(h:x::l=(aY n).drop j):x=j/\j<n/\l=(aY n).drop (j+1):=by
 have hj:j<n:=by
  by_cases c:j<n
  .exact c
  .rw[List.drop_eq_nil_of_le<|by rw[bY];lia]at h;cases h
 rw[ck<|by rw[bY];exact hj]at h
 injection h with h1 h2
 exact#[by rw[h1,List.getElem_range],hj,h2]
theorem Xk(d:Nat){R:List Row}{v:V}(s:DS)(hn:n<=6)(hR:∀r∈R,Zh p n r)(hl:R.length<=1000)(hv:Yl v=aa (R.map Zd)):∃P,CV (d+2) 5 [spV p n,v] s=.ok (Zb P) s/\Spans p n R P:=by
 let I:List Nat->Env->Prop:=λl O=>∃rest found j a4 a5 a6 a7,O=[aa<|spV p n,aa v,aa<|.lst<|rest.map Zd,aa<|.lst<|found.map Zd,a4,a5,a6,a7]/\l=(aY n).drop j/\Red p n j rest found/\rest.length<=1000/\found.length<=j/\Bk p n R rest found
 obtain⟨ρ',hI,e⟩:=GC (t:=[4]) (it:=.rng1<|.ix (.v 0)<|.c<|.int 1) (O:=[aa<|spV p n,aa v,aa<|.lst<|R.map Zd,aa<|.lst [],ab,ab,ab,ab]) I
  (Y2 (ix1 rfl)<|by lia) #[R,[],0,ab,ab,ab,ab,rfl,rfl,#[hR,λr _ i hi=>by lia,pZ.nil,λr hr=>by cases hr],hl,aD _,λW hW=>#[λh=>h.1,λh=>#[h,λr hr=>by cases hr]]] rfl (λx l O hx=>by
   obtain⟨rest,found,j,a4,a5,a6,a7,rfl,hl',hred,h1,h2,h3⟩:=hx;obtain⟨rfl,hj,hl2⟩:=JS hl';obtain⟨rest',found',b5,b6,b7,e1,e2,e3,e4,e5⟩:=xg d s hn hj hred h3 h1 (by lia)
   exact#[rfl,_,_,rfl,e1,rest',found',x+1,_,_,_,_,rfl,hl2,e2,by lia,by lia,e5])
 obtain⟨rest,found,j,a4,a5,a6,a7,rfl,hz,hred,_,_,hB⟩:=hI;have hj:n<=j:=by
  have:=congrArg kz hz;rw[bV,bY,eL]at this;lia
 refine#[found,Zj rfl (by decide) rfl ?_,hB.spans hred hj]
 show rvs (CV<|d+1) [] (.asg [2] (.blt .list [(.v 1)]) :: .asg [3] (.lst []) :: .forr [4] (.rng1<|.ix (.v 0)<|.c<|.int 1) ui :: .ret (.blt .tuple [(.v 3)])::[]) [aa<|spV p n,aa v,ab,ab,ab,ab,ab,ab] [] s=_;have hlst:pv (CV<|d+1) (.blt .list [(.v 1)]) [aa<|spV p n,aa v,ab,ab,ab,ab,ab,ab] s=.ok (.lst<|R.map Zd) s:=by
  rw[pv,Zc (Zf rfl) Ze,Za];show po ((Yl v).map V.lst) s=_;rw[hv];rfl
 rw[Zi<|ZE hlst rfl];rw[Zi (ρ':=[aa<|spV p n,aa v,aa<|.lst<|R.map Zd,aa<|.lst [],ab,ab,ab,ab]) (os':=[]) (s':=s) (by simp[pvE])]
 show rvs _ _ (.forr [4] (.rng1<|.ix (.v 0)<|.c<|.int 1) ui::_) _ _ _=_;rw[Zi e];exact Zg<|Zv (by simp[pvE,Zb])
theorem xI(d:Nat)(s:DS)(hn:n<=6):∃P s',CV (d+3) 22 [.drw,spV p n] s=.ok (Zb P) s'/\pZ p n P:=by
 obtain⟨v,s1,f1,f2,f3⟩:=zc (m:=(n:Int)+1) s (by lia) (by lia)
 obtain⟨k,rfl⟩:∃k:Nat,v=k:=#[v.toNat,by lia]
 obtain⟨ys,s2,e1,e2,e3⟩:=WA (C:=CV<|d+2) (cap:=[0,1]) (nl:=1) (t:=[0]) (it:=.rng1<|.v 2) (elt:=.call 6 [(.v 1),(.v 2)]) (O:=[aa .drw,aa<|spV p n,aa<|.int k]) (s:=s1) (Q:=λy=>∃r:Row,y=Zd r/\Zh p n r)
  (by rw[WT];exact Y2 (Zf rfl)<|by lia) (by unfold lim;lia) (λx s=>by
   obtain⟨r,s',g1,g2⟩:=XQ (p:=p) d s hn;exact#[[aa x,aa .drw,aa<|spV p n],Zd r,s',rfl,Zr (Zc (Zf rfl)<|Zc (Zf rfl) Ze) g1,r,rfl,g2])
 have:∃R:List Row,ys=R.map Zd/\∀r∈R,Zh p n r:=by
  clear e1 e2
  induction ys with
  |nil=>exact#[[],rfl,λ_ h=>by cases h]
  |cons y ys ih=>
   obtain⟨r,h1,h2⟩:=ih λz hz=>e3 z<|ak _ hz
   obtain⟨a,rfl,h3⟩:=e3 y<|al ..;refine#[a::r,by rw[h1];rfl,λx hx=>?_]
   rcases ar.mp hx with rfl|hx
   .exact h3
   .exact h2 x hx
 obtain⟨R,rfl,hR⟩:=this;rw[aw]at e2;obtain⟨P,e4,hP⟩:=Xk d (v:=.lst<|R.map Zd) s2 hn hR (by lia) rfl
 refine#[P,s2,Zj rfl (by decide) rfl ?_,hP.part]
 show rvs (CV<|d+2) [] (.asg [2] (.call 2 [(.v 0),(.bin .add (.ix (.v 1)<|.c<|.int 1)<|.c<|.int 1)]) :: .ret (.call 5 [(.v 1),(.comp1 [0,1] 1 [0] (.rng1<|.v 2) []<|.call 6 [(.v 1),(.v 2)])])::[]) [aa .drw,aa<|spV p n,ab] [] s=_;have g1:pv (CV<|d+2) (.bin .add (.ix (.v 1)<|.c<|.int 1)<|.c<|.int 1) [aa .drw,aa<|spV p n,ab] s=.ok (.int<|(n:Int)+1) s:=by
  rw[pv,ix1 rfl];simp[pvE]
 rw[Zi<|ZE (Zr (Zc (Zf rfl)<|Zc g1 Ze) f1) rfl];exact Zg<|Zv<|Zr (Zc (Zf rfl)<|Zc e1 Ze) e4
end
section
variable{C:ZB}{O:Env}{s:DS}{a b:E}
def QJ{c:Bool}(h1:pv C a O s=.ok (.bl ai) s)(h2:pv C b O s=.ok (.bl c) s):pv C (.or a b) O s=.ok (.bl c) s:=by rw[pv,h1];exact h2
def wa{c c':Bool}(h1:pv C a O s=.ok (.bl c) s)(h2:pv C b O s=.ok (.bl c') s):pv C (.and a b) O s=.ok (.bl<|c&&c') s:=by
 rw[pv,h1];cases c
 .rfl
 .exact h2
def XW{c:Bool}(h1:pv C a O s=.ok (.bl c) s):pv C (.not a) O s=.ok (.bl !c) s:=by rw[pv,h1];rfl
def ul{P Q:List Row}(h1:pv C a O s=.ok (Zb P) s)(h2:pv C b O s=.ok (Zb Q) s):pv C (.cmp .ne a b) O s=.ok (.bl !decide (P=Q)) s:=by
 rw[pv,h1,Za,h2,Za];show po ((eqV Zn (Zb P)<|Zb Q).map λb=>V.bl !b) s=_
 rw[Zn,JI];rfl
def Qd{P Q:List Row}(h1:pv C a O s=.ok (Zb P) s)(h2:pv C b O s=.ok (Zb Q) s):pv C (.cmp .eq a b) O s=.ok (.bl<|ae<|P=Q) s:=by
 rw[pv,h1,Za,h2,Za];show po ((eqV Zn (Zb P)<|Zb Q).map V.bl) s=_;rw[Zn,JI];rfl
def Za7{c c':Bool}(h1:pv C a O s=.ok (.bl c) s)(h2:pv C b O s=.ok (.bl c') s)(h:c=c'):pv C (.cmp .ne a b) O s=.ok (.bl ai) s:=by
 subst h;rw[pv,h1,Za,h2,Za];cases c<;>rfl
def yT(h1:pv C a O s=.ok (.bl ag) s):pv C (.cmp .isn a<|.c<|.bl ag) O s=.ok (.bl ai) s:=by
 rw[pv,h1,Za,pv];rfl
def WM{f:Nat}{x y:E}{v w r:V}(h1:pv C x O s=.ok v s)(h2:pv C y O s=.ok w s)(h:C f [v,w] s=.ok r s):pv C (.call f [x,y]) O s=.ok r s:=Zr (Zc h1<|Zc h2 Ze) h
def qx{f:Nat}{x y z:E}{v w u r:V}(h1:pv C x O s=.ok v s)(h2:pv C y O s=.ok w s)(h3:pv C z O s=.ok u s)(h:C f [v,w,u] s=.ok r s):pv C (.call f [x,y,z]) O s=.ok r s:=Zr (Zc h1<|Zc h2<|Zc h3 Ze) h
def guard{ms:List Nat}{t:E}{x l:List Sm}(h:pv C t O s=.ok (.bl ai) s):rvs C ms (.ite t x []::l) O [] s=rvs C ms l O [] s:=by
 rw[Zi<|(Yi<|ZZ h rfl).trans (by rw[T8 (by simp),rvs])]
def Xt{P:List Row}(h1:pv C a O s=.ok (Zb P) s):pv C (.blt .len [a]) O s=.ok (.int P.length) s:=by
 rw[pv,Zc h1 Ze,Za];show po (aa<|V.int (P.map Zd).length) s=_;rw[aw];rfl
def xE{x y:Int}(h1:pv C a O s=.ok (.int x) s)(h2:pv C b O s=.ok (.int y) s):pv C (.bin .add a b) O s=.ok (.int<|x+y) s:=by
 rw[pv,h1,Za,h2,Za];rfl
def UB{x y:List V}(h1:pv C a O s=.ok (.lst x) s)(h2:pv C b O s=.ok (.lst y) s)(h:x.length+y.length<=lim):pv C (.bin .add a b) O s=.ok (.lst<|x++y) s:=by
 rw[pv,h1,Za,h2,Za];show(if x.length+y.length<=lim then _ else _)=_
 rw[T9 h]
end
noncomputable def menu:List (Nat×Nat×Nat):=[(2,2,1),(4,2,2),(8,2,3),(16,2,4),(32,2,5),(64,2,6),(3,3,1),(9,3,2),(27,3,3),(81,3,4),(5,5,1),(25,5,2),(125,5,3)]
def uU:∀q∈menu,(q.2.1=2\/q.2.1=3\/q.2.1=5)/\1<=q.2.2/\q.2.2<=6/\q.2∈jR++jQ:=by decide
def zM(d:Nat){m:Int}(s:DS)(hm:2<=m):∃p n s',CV (d+2) 3 [.drw,.int m] s=.ok (spV p n) s'/\(p=2\/p=3\/p=5)/\1<=n/\n<=6/\(p,n)∈jR++jQ:=by
 let L:=menu.filter λq=>ae<|(q.1:Int)<=m
 have hL:0<L.length:=List.length_pos_of_mem<|cy.mpr #[al ..,T5 hm];have hL2:L.length<=13:=gD ..;have hc:=Xo (C:=CV<|d+1) (cap:=[1]) (nl:=2) (t:=[0,1]) (it:=.of<|.v 2) (tst:=.cmp .le (.v 0)<|.v 2) (elt:=.v 1) (O:=[aa .drw,aa<|.int m,aa<|.lst<|menu.map λq=>.tup [.int q.1,spV q.2.1 q.2.2]]) (s:=s) (l:=menu)
  (by rw[pvw,Zf rfl];rfl) (by decide) (λq _=>#[[aa<|.int q.1,aa<|spV q.2.1 q.2.2,aa<|.int m],.bl<|ae<|(q.1:Int)<=m,rfl,by
   rw[pv,Zf rfl,Za,Zf rfl];rfl,rfl,λ_=>Zf rfl])
 obtain⟨v,s',f1,f2,f3⟩:=zc (m:=L.length) s (by omega) (by omega)
 obtain⟨k,rfl⟩:∃k:Nat,v=k:=#[v.toNat,by omega]
 have hk:k<L.length:=by omega
 have hq:=uU _ (cy.mp<|aJ hk).1;refine#[L[k].2.1,L[k].2.2,s',Zj rfl (by decide) rfl ?_,hq]
 show rvs (CV<|d+1) [] (.asg [2] (.lst [(.tup [(.c<|.int 2),(.tup [(.c<|.int 2),(.c<|.int 1)])]),(.tup [(.c<|.int 4),(.tup [(.c<|.int 2),(.c<|.int 2)])]),(.tup [(.c<|.int 8),(.tup [(.c<|.int 2),(.c<|.int 3)])]),(.tup [(.c<|.int 16),(.tup [(.c<|.int 2),(.c<|.int 4)])]),(.tup [(.c<|.int 32),(.tup [(.c<|.int 2),(.c<|.int 5)])]),(.tup [(.c<|.int 64),(.tup [(.c<|.int 2),(.c<|.int 6)])]),(.tup [(.c<|.int 3),(.tup [(.c<|.int 3),(.c<|.int 1)])]),(.tup [(.c<|.int 9),(.tup [(.c<|.int 3),(.c<|.int 2)])])]) ::
  .asg [2] (.bin .add (.v 2)<|.lst [(.tup [(.c<|.int 27),(.tup [(.c<|.int 3),(.c<|.int 3)])]),(.tup [(.c<|.int 81),(.tup [(.c<|.int 3),(.c<|.int 4)])]),(.tup [(.c<|.int 5),(.tup [(.c<|.int 5),(.c<|.int 1)])]),(.tup [(.c<|.int 25),(.tup [(.c<|.int 5),(.c<|.int 2)])]),(.tup [(.c<|.int 125),(.tup [(.c<|.int 5),(.c<|.int 3)])])]) ::
  .asg [2] (.comp1 [1] 2 [0,1] (.of<|.v 2) [(.cmp .le (.v 0)<|.v 2)]<|.v 1) ::
  .ret (.ix (.v 2)<|.call 2 [(.v 0),(.blt .len [(.v 2)])])::[]) [aa .drw,aa<|.int m,ab] [] s=_
 rw[Zi (ρ':=[aa .drw,aa<|.int m,aa<|.lst<|(menu.take 8).map λq=>.tup [.int q.1,spV q.2.1 q.2.2]]) (os':=[]) (s':=s) (by simp[pvE,menu,spV])]
 rw[Zi (ρ':=[aa .drw,aa<|.int m,aa<|.lst<|menu.map λq=>.tup [.int q.1,spV q.2.1 q.2.2]]) (os':=[]) (s':=s) (by simp[pvE,menu,spV])]
 rw[Zi<|ZE hc rfl];show rvs _ _ _ [aa .drw,aa<|.int m,aa<|.lst<|L.map λq=>spV q.2.1 q.2.2] _ _=_
 refine Zg<|Zv ?_;have e1:pv (CV<|d+1) (.blt .len [(.v 2)]) [aa .drw,aa<|.int m,aa<|.lst<|L.map λq=>spV q.2.1 q.2.2] s=.ok (.int L.length) s:=by
  rw[pv,Zc (Zf rfl) Ze,Za];show po (aa<|V.int (L.map λq=>spV q.2.1 q.2.2).length) s=_
  rw[aw];rfl
 rw[pv,Zf rfl,Za,Zr (Zc (Zf rfl)<|Zc e1 Ze) f1,Za];show po (at' (L.map λq=>spV q.2.1 q.2.2) (k:Int)) s'=_
 rw[Ww (by rw[aV,ao hk];rfl)];rfl
section
variable{C:ZB}{O:Env}{s s1 s2:DS}{a b:E}{x y:V}{xs ys:List V}
def ZQ{i:Int}:pv C (.c<|.int i) O s=.ok (.int i) s:=by rw[pv];rfl
theorem pick{i:E}{v:Int}(h1:pv C a O s=.ok (.lst xs) s1)(h2:pv C i O s1=.ok (.int v) s2)(h0:0<=v)(hv:v<xs.length):∃x,x∈xs/\pv C (.ix a i) O s=.ok x s2:=by
 obtain⟨k,rfl⟩:∃k:Nat,v=k:=#[v.toNat,by lia]
 have hk:k<xs.length:=by lia
 refine#[xs[k],aJ hk,?_];rw[pv,h1,Za,h2,Za];show po (at' xs (k:Int)) s2=_;rw[Ww<|ao hk];rfl
theorem ZG(d:Nat)(s:DS){m:Int}{O:Env}{i:Nat}{e:E}(hd:O[i]?=aa (aa .drw))(he:pv (CV<|d+1) e O s=.ok (.int m) s)(h0:0<m)(h1:m<1000):∃v s',pv (CV<|d+1) (.call 2 [(.v i),e]) O s=.ok (.int v) s'/\0<=v/\v<m:=by
 obtain⟨v,s',e1,b⟩:=zc s h0 (by lia)
 exact#[v,s',Zr (Zc (Zf hd)<|Zc he Ze) e1,b]
theorem YU(h1:pv C a O s=.ok (.tup xs) s)(h2:pv C b O s=.ok (.tup ys) s)(h:xs.length+ys.length<=1000):pv C (.bin .add a b) O s=.ok (.tup<|xs++ys) s:=by
 rw[pv,h1,Za,h2,Za];show(if xs.length+ys.length<=lim then _ else _)=_
 rw[T9 (by unfold lim;lia)]
def QO(h1:pv C a O s=.ok (.tup xs) s){k:Int}(h2:pv C b O s=.ok (.int k) s):pv C (.sl a ab<|aa b) O s=.ok (.tup<|ZW xs ab<|aa k) s:=by
 rw[pv,h1,Za,pvo,Za,pvo,h2,Za];rfl
def Xw(h1:pv C a O s=.ok (.tup xs) s){k:Int}(h2:pv C b O s=.ok (.int k) s):pv C (.sl a (aa b) ab) O s=.ok (.tup<|ZW xs (aa k) ab) s:=by
 rw[pv,h1,Za,pvo,h2,Za];rw[Za,pvo,Za];rfl
theorem ZS{lo hi:Option Int}:(ZW xs lo hi).length<=xs.length:=by
 unfold ZW;rw[bC,bV];lia
def Z7(h:pv C a O s=.ok x s):pv C (.tup [a]) O s=.ok (.tup [x]) s:=by
 rw[pv,Zc h Ze];rfl
def zf{m:Type}{ms:List Nat}{i:Nat}{it:W}{b:List Sm}{L:List m}{e:m->V}{q:m->Bool}{v:V}{O:Option V->Env}(o:Option V)(hw:pvw C it (hide []<|O o) s=.ok (L.map e) s)(hs:∀o x,(O o).set i (aa x)=O (aa x))(hb:∀x∈L,rvs C ms b (O<|aa<|e x) [] s=if q x=ag then .ok (.ret v) s else .ok (.nx (O<|aa<|e x) []) s) :
  (L.any q=ag->rv C ms (.forr [i] it b) (O o) [] s=.ok (.ret v) s)/\(L.any q=ai->∃o',rv C ms (.forr [i] it b) (O o) [] s=.ok (.nx (O o') []) s):=by
 rw[rv,hw,Za];clear hw
 induction L generalizing o with
 |nil=>exact#[λh=>(by cases h),λ_=>#[o,rfl]]
 |cons x L ih=>
  have ih:=ih (aa<|e x) λy hy=>hb y<|ak _ hy
  have h1:=hb x<|al ..;have step:YH (λx O os s=>if(([i]:List Nat).any os.contains)=ag then .no else(po (Zk [i] x O) s).bind λO s=>rvs C ms b O os s) ((x::L).map e) (O o) [] s=if q x=ag then .ok (.ret v) s else YH (λx O os s=>if(([i]:List Nat).any os.contains)=ag then .no else(po (Zk [i] x O) s).bind λO s=>rvs C ms b O os s) (L.map e) (O<|aa<|e x) [] s:=by
   rw[aN,YH,T8 (by simp)]
   show((PR.ok ((O o).set i<|aa<|e x) s).bind λO s=>rvs C ms b O [] s).bind _=_
   rw[Za,hs o<|e x,h1];cases q x<;>rfl
  rw[step,cF];cases hq:q x with
  |true=>exact#[λ_=>rfl,λh=>(by cases h)]
  |false=>
   rw[T8 (by simp),eC]
   exact ih
theorem GX{Q:V->Prop}:∀{es:List E},(∀e∈es,∃v,pv C e O s=.ok v s/\Q v)->∃vs,pvs C es O s=.ok vs s/\vs.length=es.length/\∀v∈vs,Q v
 |[],_=>#[[],Ze,rfl,λ_ h=>by cases h]
 |e::es,h=>by
  obtain⟨v,e1,q1⟩:=h e<|al ..;obtain⟨vs,e2,l2,q2⟩:=GX λe he=>h e<|ak _ he
  refine#[v::vs,Zc e1 e2,by rw[aI,aI,l2],λu hu=>?_]
  rcases ar.mp hu with rfl|hu
  .exact q1
  .exact q2 u hu
end
section
variable{p n:Nat}[Base p]
noncomputable def isI(x:V):Bool:=match x with
 |.int _=>ag
 |_=>ai
def jW{x:V}(h:∀i,x≠.int i):isI x=ai:=by
 cases x with|int i=>exact T7 rfl<|h i|_=>rfl
def yc(d:Nat){x:V}(s:DS)(hx:okV x=ag):CV (d+1) 25 [x] s=.ok (.bl<|isI x) s:=by
 refine Zj rfl (by decide) rfl ?_
 rcases vx hx with⟨i,rfl⟩|⟨b,rfl⟩|⟨ha,no⟩
 .simp[Yv,pvE,Z8,YZ,isI]
 .simp[Yv,pvE,Z8,YZ,isI]
 .rw[jW no]
  simp[Yv,pvE,ha]
theorem Ge(d:Nat){x:V}(s:DS)(hn:n<=6)(hx:okV x=ag):CV (d+2) 26 [spV p n,x] s=.ok (.bl<|ZT p n x) s:=by
 refine Zj rfl (by decide) rfl ?_
 show rvs (CV<|d+1) [] YS.body [aa<|spV p n,aa x] [] s=_
 dsimp only[YS]
 have e1:=ix1 (C:=CV<|d+1) (i:=0) (O:=[aa<|spV p n,aa x]) (s:=s) rfl;rcases VC hx with⟨xs,rfl⟩|⟨ha,no⟩
 ·
  have g:pv (CV<|d+1) (.or (.not<|.isi (.v 1) [.tuple])<|.cmp .ne (.blt .len [(.v 1)])<|.ix (.v 0)<|.c<|.int 1) [aa<|spV p n,aa<|.tup xs] s=.ok (.bl !(ae<|xs.length=n)) s:=by
   rw[pv];have:pv (CV<|d+1) (.not<|.isi (.v 1) [.tuple]) [aa<|spV p n,aa<|.tup xs] s=.ok (.bl ai) s:=by simp[pvE,Z8,YZ]
   rw[this,Za];rw[pv];have:pv (CV<|d+1) (.blt .len [(.v 1)]) [aa<|spV p n,aa<|.tup xs] s=.ok (.int xs.length) s:=by simp[pvE]
   rw[this,Za,e1,Za];show po (aa<|V.bl !(ae<|(xs.length:Int)=n)) s=_;rw[show(ae<|(xs.length:Int)=n)=ae (xs.length=n) by rw[decide_eq_decide];lia];rfl
  by_cases hl:xs.length=n
  .rw[T5 hl]at g
   rw[guard g];refine Zg<|Zv ?_;have hc:=Zz (cap:=[0]) (nl:=1) (t:=[0]) (it:=.of<|.v 1) (elt:=.and (.call 25 [(.v 0)])<|.chain .le .lt (.c<|.int 0) (.v 0)<|.ix (.v 1)<|.c<|.int 0) (O:=[aa<|spV p n,aa<|.tup xs]) (l:=xs) (g:=λv=>V.bl<|isW v 0<|(p:Int)-1)
    (by simp[pvE]) (by unfold lim;lia) (λv hv=>#[[aa v,aa<|spV p n],rfl,by
     have e:=Zr (Zc (Zf (i:=0) (O:=[aa v,aa<|spV p n]) rfl) Ze)<|yc d s<|VA hx v hv;have e0:=ix0 (C:=CV<|d+1) (i:=1) (O:=[aa v,aa<|spV p n]) (s:=s) rfl;rw[pv,e,Za];cases v with
     |int i=>
      show pv _ _ _ _=_;rw[pv,ZQ,Za,Zf rfl,Za];show(po (aa<|V.bl<|ae<|0<=i) s).bind _=_;rw[ZV,Za];by_cases c:0<=i
      .rw[T5 c]
       show(if ag=ag then _ else _)=_
       rw[T9 rfl,e0,Za];show po (aa<|V.bl<|ae<|i<(p:Int)) s=PR.ok (V.bl<|ae (0<=i)&&ae (i<=(p:Int)-1)) s;rw[T5 c,hV,show ae (i<(p:Int))=ae (i<=(p:Int)-1) by rw[decide_eq_decide];lia];rfl
      .rw[T4 c]
       show _=PR.ok (V.bl<|ae (0<=i)&&ae (i<=(p:Int)-1)) s;rw[T4 c];rfl
     |_=>rfl])
   have ht:=ZP (g:=λv:V=>isW v 0<|(p:Int)-1) xs
   rw[pv,Zc hc Ze,Za];show po ((ZH _).map λbs=>V.bl<|bs.all id) s=_
   rw[ht];show PR.ok (V.bl<|(xs.map _).all id) s=PR.ok (V.bl<|ae (xs.length=n)&&_) s;rw[cE,T5 hl];rfl
  .rw[T4 hl,cM]at g
   refine Zg ?_;rw[Yi<|ZZ g rfl,T9 rfl,Zg<|Zv (by rw[pv];rfl)]
   show _=PR.ok (FlV.ret<|V.bl<|ae (xs.length=n)&&_) s;rw[T4 hl];rfl
 .rw[xi no]
  exact Zg (by simp[pvE,ha])
noncomputable def vU(v:V):Bool:=match v with
 |.tup xs=>match intsV xs with
  |some r=>(hdI r).isSome
  |none=>ai
 |_=>ai
theorem WE:∀r:Row,ZH (r.map V.int)=aa (r.map λa=>ae<|a≠0)
 |[]=>rfl
 |a::r=>by rw[aN,ZH,WE r];rfl
theorem wF:∀r:Row,(r.map λa=>ae<|a≠0).any id=(hdI r).isSome
 |[]=>rfl
 |a::r=>by
  rw[aN,cF,wF r,hdI];by_cases c:a=0
  .subst c
   rw[T8 (by simp)]
   cases hdI r<;>rfl
  .rw[T9 c,T5 c];rfl
def uf{C:ZB}{O:Env}{i:Nat}{r:Row}(s:DS)(h:O[i]?=aa (aa<|Zd r)):pv C (.blt .any [(.v i)]) O s=.ok (.bl (hdI r).isSome) s:=by
 rw[pv,Zc (Zf h) Ze,Za];show po ((ZH<|r.map V.int).map λbs=>V.bl<|bs.any id) s=_
 rw[WE];show PR.ok (V.bl _) s=_;rw[wF]
def Jv(d:Nat){x:V}(s:DS)(hn:n<=6)(hx:okV x=ag)(hl:∀xs,x=.tup xs->xs.length<=1000):CV (d+3) 27 [spV p n,x] s=.ok (.bl<|isP p n x) s:=by
 refine Zj rfl (by decide) rfl ?_
 show rvs (CV<|d+2) [] Yz.body [aa<|spV p n,aa x,ab] [] s=_
 dsimp only[Yz]
 rcases VC hx with⟨xs,rfl⟩|⟨ha,no⟩
 ·
  have hl:=hl xs rfl;rw[guard (by simp[pvE,Z8,YZ])]
  obtain⟨f1,f2⟩:=zf (C:=CV<|d+2) (ms:=[]) (i:=2) (it:=.of<|.v 1) (b:=[.ite (.or (.not<|.call 26 [(.v 0),(.v 2)])<|.not<|.blt .any [(.v 2)]) [.ret<|.c<|.bl ai] []]) (L:=xs) (q:=λv=>!(ZT p n v&&vU v)) (v:=.bl ai) (O:=λo=>[aa<|spV p n,aa<|.tup xs,o]) ab
   (by rw[gO];simp[pvE]) (λ_ _=>rfl) (λv hv=>by
    have e:=Ge (p:=p) d s hn<|VA hx v hv;have e1:=Zr (Zc (Zf (i:=0) (O:=[aa<|spV p n,aa<|.tup xs,aa v]) rfl)<|Zc (Zf (i:=2) rfl) Ze) e;show rvs _ _ _ [aa<|spV p n,aa<|.tup xs,aa v] _ _=if _ then _ else PR.ok (FlV.nx [aa<|spV p n,aa<|.tup xs,aa v] []) s
    cases hb:ZT p n v with
    |false=>
     rw[hb]at e1;rw[T9 (by simp[hb])]
     refine Zg ?_;rw[Yi (ZZ (by rw[pv,XW e1];rfl) rfl),T9 rfl]
     exact Zg<|Zv (by rw[pv];rfl)
    |true=>
     rw[hb]at e1;obtain⟨r,rfl,hr⟩:=xy hb;have e2:=uf (C:=CV<|d+2) (O:=[aa<|spV p n,aa<|.tup xs,aa<|Zd r]) (i:=2) s rfl;have e3:vU (Zd r)=(hdI r).isSome:=by
      show(match intsV (r.map V.int)with|some r=>(hdI r).isSome|none=>ai)=_
      rw[Yw]
     have e4:=ZZ (QJ (XW e1)<|XW e2) rfl;rw[e3,hV];cases hh:(hdI r).isSome with
     |false=>
      rw[hh,cM]at e4;rw[cM,T9 rfl];refine Zg ?_;rw[Yi e4,T9 rfl];exact Zg<|Zv (by rw[pv];rfl)
     |true=>
      rw[hh]at e4;rw[T8 (by simp),Zi ((Yi e4).trans (by rw[T8 (by simp),rvs])),rvs])
  cases ha:xs.any λv=>!(ZT p n v&&vU v)with
  |true=>
   rw[Zg<|f1 ha];have:isP p n (.tup xs)=ai:=by
    cases hp:isP p n (.tup xs)with
    |false=>rfl
    |true=>
     exfalso
     obtain⟨P,e,hP⟩:=WX.mp hp;cases e;obtain⟨v,hv,hq⟩:=cq.mp ha;obtain⟨r,hr,rfl⟩:=az.mp hv;obtain⟨k,hk,_⟩:=hP.head fld.one0 hr;have e3:vU (Zd r)=(hdI r).isSome:=by
      show(match intsV (r.map V.int)with|some r=>(hdI r).isSome|none=>ai)=_
      rw[Yw]
     rw[qm<|hP.row r hr,e3,hk]at hq;cases hq
   rw[this]
  |false=>
   obtain⟨o,f3⟩:=f2 ha;rw[Zi f3];have hall:=λv hv=>by
    have:=dZ.mp ha v hv;simp at this;exact this.1
   obtain⟨R,rfl,hR⟩:=XE<|aL.mpr hall;obtain⟨P,e4,hS⟩:=Xk d (v:=.tup<|R.map Zd) s hn hR (by simpa using hl) rfl
   refine Zg<|Zv ?_;have e5:=Qd (O:=[aa<|spV p n,aa<|Zb R,o]) (Zr (Zc (Zf (i:=0) rfl)<|Zc (Zf (i:=1) rfl) Ze) e4)<|Zf (i:=1) rfl;rw[show ae (P=R)=isP p n (.tup<|R.map Zd)from ?_]at e5
   .exact e5
   .rw[bp,T3,WX]
    constructor
    .rintro rfl
     exact#[P,rfl,hS.part]
    .rintro ⟨Q,e,hQ⟩
     have e:=e;have e:R=Q:=by
      have:=congrArg (λv=>match v with|V.tup ks=>Z4 ks|_=>ab) e
      have:Z4 (R.map Zd)=Z4 (Q.map Zd):=this;rw[Yx,Yx]at this;exact ah this
     subst e;exact hS.uniq<|Spans.self hQ
 .rw[xl no]
  exact Zg (by simp[pvE,ha])
end
noncomputable def Uu(i:Int):Bool:=ae (-1<=i/\i<=9)||i == 10^29
noncomputable def nr0(m:Bool)(x:V):Bool:=match x with
 |.non=>ag
 |.bl _=>ag
 |.int i=>Uu i
 |.str s=>s == aU "" || (s == aU "1" || s == aU "none")
 |.tup []=>ag
 |.tup [.int i]=>Uu i
 |.lst []=>m
 |.dct (.inl [])=>!m
 |.dct (.inl [q])=>!m&&q == (0,1)
 |_=>ai
noncomputable def nr(m:Bool):Nat->V->Bool
 |0,x=>nr0 m x
 |k+1,x=>match x with
  |.tup xs=>ae (xs.length<=if k=3 then 15 else 13)&&xs.all (nr m k)
  |.lst xs=>m&&(ae (xs.length<=if k=3 then 15 else 13)&&xs.all (nr m k))
  |x=>nr0 m x
noncomputable def shB:Nat->Nat
 |0=>4
 |k+1=>(if k=3 then 15 else 13)*(shB k+1)
structure Sh(m:Bool)(k:Nat)(x:V)(d:d6):Prop where
 ok:okV x=ag
 sh:d.showable=ag
 lv:d.leavesShort 60=ag
 bk:d.bulk<=shB k
 dp:d.depth<=k+1
 nd:m=ag->d.hasDict=ai
 nl:m=ai->noL x=ag
def Jf{i:Int}(h:Uu i=ag):(ku i).showable=ag/\(ku i).leavesShort 60=ag:=by
 rcases(cA _ _).mp h with h|h
 .have h:=T6 h
  obtain rfl|rfl|rfl|rfl|rfl|rfl|rfl|rfl|rfl|rfl|rfl:i = -1\/i=0\/i=1\/i=2\/i=3\/i=4\/i=5\/i=6\/i=7\/i=8\/i=9:=by omega
  all_goals exact#[by decide +kernel,by decide +kernel]
 .cases cn h
  exact#[by decide +kernel,by decide +kernel]
def xp{m:Bool}{x:V}(h:nr m 0 x=ag):∃d,pdV x=aa d/\Sh m 0 x d:=by
 cases x with
 |non=>exact#[_,rfl,rfl,rfl,rfl,by decide,by decide,λ_=>rfl,λ_=>rfl]
 |bl b=>exact#[_,rfl,rfl,rfl,rfl,by show 0<=4;decide,by show 0<=1;decide,λ_=>rfl,λ_=>rfl]
 |int i=>
  obtain⟨a,b⟩:=Jf h;exact#[_,rfl,rfl,a,b,by show 0<=4;decide,by show 0<=1;decide,λ_=>rfl,λ_=>rfl]
 |str s=>
  have h:(s == aU "" || (s == aU "1" || s == aU "none"))=ag:=h;rcases(cA _ _).mp h with h|h
  .cases cn h;exact#[_,rfl,rfl,rfl,by decide +kernel,by decide +kernel,by show 0<=1;decide,λ_=>rfl,λ_=>rfl]
  .rcases(cA _ _).mp h with h|h<;>(cases cn h;exact#[_,rfl,rfl,rfl,by decide +kernel,by decide +kernel,by show 0<=1;decide,λ_=>rfl,λ_=>rfl])
 |tup xs=>
  match xs,h with
  |[],_=>exact#[_,rfl,rfl,rfl,rfl,by decide,by decide,λ_=>rfl,λ_=>rfl]
  |[.int i],h=>
   obtain⟨a,b⟩:=Jf (show Uu i=ag from h)
   exact#[.tuple [.int i],rfl,rfl,by show(_&&ag)=ag;rw[a];rfl,by show(_&&ag)=ag;rw[b];rfl,by show 0+1+0<=4;decide,by show max 0 0+1<=1;decide,λ_=>rfl,λ_=>rfl]
 |lst xs=>
  match xs,h with
  |[],h=>exact#[.list [],rfl,rfl,rfl,rfl,by decide,by decide,λ_=>rfl,λe=>(by rw[show m=ag from h]at e;cases e)]
 |dct o=>
  match o,h with
  |.inl [],h=>exact#[.dict [],rfl,rfl,rfl,rfl,by decide,by decide,λe=>(by rw[e]at h;cases h),λ_=>rfl]
  |.inl [q],h=>
   obtain⟨h1,h2⟩:=(ax _ _).mp<|show(!m&&q == (0,1))=ag from h
   cases cn h2;exact#[_,rfl,rfl,by decide +kernel,by decide +kernel,by decide +kernel,by decide +kernel,λe=>(by rw[e]at h1;cases h1),λ_=>rfl]
 |_=>cases h
structure Shs(m:Bool)(k:Nat)(xs:List V)(ds:List d6):Prop where
 ok:U8 xs=ag
 sh:d6.showableAll ds=ag
 lv:d6.leavesShortAll 60 ds=ag
 bk:eJ ds<=xs.length*(shB k+1)
 dp:gE ds<=k+1
 nd:m=ag->d6.hasDictAll ds=ai
 nl:m=ai->x4 xs=ag
theorem wY{m:Bool}{k:Nat}(ih:∀{x:V},nr m k x=ag->∃d,pdV x=aa d/\Sh m k x d):∀{xs:List V},xs.all (nr m k)=ag->∃ds,Gk xs=aa ds/\Shs m k xs ds
 |[],_=>#[[],rfl,rfl,rfl,rfl,by show 0<=_;omega,by show 0<=_;omega,λ_=>rfl,λ_=>rfl]
 |x::xs,h=>by
  rw[di,ax]at h;obtain⟨d,e1,a⟩:=ih h.1;obtain⟨ds,e2,b⟩:=wY ih h.2;refine#[d::ds,by rw[Gk,e1,e2];rfl,?_,?_,?_,?_,?_,λe=>?_,λe=>?_]
  .show(okV x&&U8 xs)=ag;rw[a.ok,b.ok];rfl
  .show(d.showable&&_)=ag;rw[a.sh,b.sh];rfl
  .show(d.leavesShort 60&&_)=ag;rw[a.lv,b.lv];rfl
  .show d.bulk+1+eJ ds<=_
   have:=a.bk;have:=b.bk;rw[aI,iL];omega
  .show max d.depth (gE ds)<=_
   exact Nat.max_le.mpr #[a.dp,b.dp]
  .show(d.hasDict||_)=ai;rw[a.nd e,b.nd e];rfl
  .show(noL x&&x4 xs)=ag;rw[a.nl e,b.nl e];rfl
def ZaO{m:Bool}{k:Nat}{x:V}{d:d6}(h:Sh m 0 x d):Sh m (k+1) x d:=#[h.ok,h.sh,h.lv,by
 have:=h.bk;show _<=(if k=3 then 15 else 13)*(shB k+1)
 have h4:∀k,4<=shB k:=λk=>by
  induction k with|zero=>exact aD 4|succ k ih=>show 4<=(if k=3 then 15 else 13)*(shB k+1);split<;>omega
 have:=h4 k;have:shB 0=4:=rfl;split<;>omega,by have:=h.dp;omega,h.nd,h.nl]
theorem xx{m:Bool}:∀{k:Nat}{x:V},nr m k x=ag->∃d,pdV x=aa d/\Sh m k x d
 |0,x,h=>xp h
 |k+1,x,h=>by
  have up:nr m 0 x=ag->∃d,pdV x=aa d/\Sh m (k+1) x d:=λh=>by
   obtain⟨d,e,a⟩:=xp h;exact#[d,e,ZaO a]
  have many:∀{xs:List V}{l:Nat},(ae (xs.length<=l)&&xs.all (nr m k))=ag->∃ds,Gk xs=aa ds/\Shs m k xs ds/\eJ ds<=l*(shB k+1):=λ{xs l} h=>by
   obtain⟨h1,h2⟩:=(ax _ _).mp h;obtain⟨ds,e,a⟩:=wY xx h2;exact#[ds,e,a,bx a.bk<|Nat.mul_le_mul_right _<|T6 h1]
  cases x with
  |tup xs=>
   obtain⟨ds,e,a,b⟩:=many<|show(ae (xs.length<=if k=3 then 15 else 13)&&xs.all (nr m k))=ag from h
   exact#[.tuple ds,by rw[pdV,e];rfl,a.ok,a.sh,a.lv,b,by show _+1<=_;have:=a.dp;omega,a.nd,a.nl]
  |lst xs=>
   obtain⟨hm,h⟩:=(ax _ _).mp<|show(m&&(ae (xs.length<=if k=3 then 15 else 13)&&xs.all (nr m k)))=ag from h
   obtain⟨ds,e,a,b⟩:=many h;exact#[.list ds,by rw[pdV,e];rfl,a.ok,a.sh,a.lv,b,by show _+1<=_;have:=a.dp;omega,a.nd,λz=>by rw[hm]at z;cases z]
  |_=>exact up h
def Tr(k:Nat)(x:V):Prop:=∃m,nr m k x=ag
def wT{k:Nat}{x:V}(h:Tr k x):okV x=ag:=let #[_,h]:=h;let #[_,_,a]:=xx h;a.ok
def xB{k:Nat}{xs:List V}(h:Tr k (.tup xs)):xs.length<=15:=by
 obtain⟨m,h⟩:=h;cases k with
 |zero=>
  match xs,h with
  |[],_=>exact df _
  |[.int i],_=>show 1<=15;decide
 |succ k=>
  obtain⟨h1,_⟩:=(ax _ _).mp<|show(ae (xs.length<=if k=3 then 15 else 13)&&xs.all (nr m k))=ag from h
  have:=T6 h1;split at this<;>omega
def uT{x:V}(h:Tr 4 x):∃t,blt1 .repr x=aa (.str t):=by
 obtain⟨m,h⟩:=h;obtain⟨d,e,a⟩:=xx h;refine#[d.shown,?_];show(pdV x).bind _=_;rw[e];show(if z9 x d=ag then _ else _)=_
 have hb:shB 4=167520:=by decide
 have:=a.bk;have:=a.dp;have hc:(!d.hasDict||noL x)=ag:=by
  cases m with|true=>rw[a.nd rfl];rfl|false=>rw[a.nl rfl,Bool.or_true]
 rw[T9];unfold z9;rw[a.sh,a.lv,hc,T5 (by omega),T5 (by omega)];rfl
theorem Ym{m:Bool}:∀{k:Nat}{x:V},k<=3->nr m k x=ag->nr m (k+1) x=ag
 |0,x,_,h=>by
  cases x with
  |tup xs=>
   match xs,h with
   |[],_=>rfl
   |[.int i],h=>show(ae (1<=13)&&(Uu i&&ag))=ag;rw[show Uu i=ag from h];rfl
  |lst xs=>
   match xs,h with
   |[],h=>show(m&&ag)=ag;rw[show m=ag from h];rfl
  |_=>exact h
 |k+1,x,hk,h=>by
  have many:∀{xs:List V},(ae (xs.length<=if k=3 then 15 else 13)&&xs.all (nr m k))=ag->(ae (xs.length<=if k+1=3 then 15 else 13)&&xs.all (nr m<|k+1))=ag:=λ{xs} h=>by
   obtain⟨h1,h2⟩:=(ax _ _).mp h;have h1:=T6 h1;rw[T8<|by omega]at h1
   rw[ax,T3];exact#[by split<;>omega,aL.mpr λx hx=>Ym (by omega)<|aL.mp h2 x hx]
  cases x with
  |tup xs=>exact many h
  |lst xs=>
   obtain⟨hm,h⟩:=(ax _ _).mp<|show(m&&(ae (xs.length<=if k=3 then 15 else 13)&&xs.all (nr m k)))=ag from h
   subst hm;show(ag&&_)=ag;rw[hV];exact many h
  |_=>exact h
def Z0{m:Bool}{k:Nat}{xs:List V}(hl:xs.length<=13)(h:∀x∈xs,nr m k x=ag):nr m (k+1) (.tup xs)=ag:=by
 show(ae (xs.length<=if k=3 then 15 else 13)&&xs.all (nr m k))=ag
 rw[ax,T3];exact#[by split<;>omega,aL.mpr h]
def vc{k:Nat}{xs:List V}(hl:xs.length<=13)(h:∀x∈xs,nr ag k x=ag):nr ag (k+1) (.lst xs)=ag:=Z0 (m:=ag) hl h
def Wn{m:Bool}{a:Int}(h:0<=a/\a<6):nr m 0 (.int a)=ag:=by
 show(ae (-1<=a/\a<=9)||_)=ag;rw[T5 (by omega)];rfl
def UX{m:Bool}{p n:Nat}[Base p]{r:Row}(hn:n<=6)(h:Zh p n r):nr m 1 (Zd r)=ag:=Z0 (by rw[aw,h.1];omega) λx hx=>by
 obtain⟨a,ha,rfl⟩:=az.mp hx;have:=h.2 a ha;have:=WQ (p:=p);exact Wn (by omega)
noncomputable def Q7:List V:=[.non,.bl ag,.bl ai,.int<|-1,.int 0,.int 1,.str<|aU "",.str<|aU "1",.tup [],.lst [],.tup [.tup []],.tup [.tup [.int 0]],.tup [.tup [.int 1]],.lst [.tup [.int 1]],.dct<|.inl [(0,1)],.tup [.non],.int<|10^29]
noncomputable def xK:List V:=[.tup [.tup [.int 1,.int 0],.tup [.int 0,.int 1]],.tup [.tup [.bl ag]],.tup [.tup [.tup [.int 1]]]]
def jN:∀v∈Q7++xK,Tr 4 v:=by
 intro v h;have:(Q7++xK).all (λv=>nr ag 4 v||nr ai 4 v)=ag:=by decide +kernel
 exact((cA _ _).mp<|aL.mp this v h).elim (λh=>#[ag,h]) λh=>#[ai,h]
def uo(d:Nat)(s:DS):∃x s',CV (d+2) 24 [.drw] s=.ok x s'/\Tr 4 x:=by
 obtain⟨v,s1,t1,t2,t3⟩:=ZG d s (m:=20) (i:=0) (O:=[aa .drw,aa<|.lst Q7]) rfl ZQ (by decide) (by decide)
 have e1:pv (CV<|d+1) (.bin .add (.v 1)<|.lst [(.tup [(.tup [(.c<|.int 1),(.c<|.int 0)]),(.tup [(.c<|.int 0),(.c<|.int 1)])]),(.tup [(.tup [(.c<|.bl ag)])]),(.tup [(.tup [(.tup [(.c<|.int 1)])])])]) [aa .drw,aa<|.lst Q7] s=.ok (.lst<|Q7++xK) s:=by
  have g:pv (CV<|d+1) (.lst [(.tup [(.tup [(.c<|.int 1),(.c<|.int 0)]),(.tup [(.c<|.int 0),(.c<|.int 1)])]),(.tup [(.tup [(.c<|.bl ag)])]),(.tup [(.tup [(.tup [(.c<|.int 1)])])])]) [aa .drw,aa<|.lst Q7] s=.ok (.lst xK) s:=by simp[pvE,ofD,xK]
  exact UB (Zf rfl) g (by decide)
 obtain⟨x,hx,e2⟩:=pick e1 t1 t2 t3;refine#[x,s1,Zj rfl (by decide) rfl ?_,jN x hx]
 show rvs (CV<|d+1) [] XT.body [aa .drw,ab] [] s=_
 dsimp only[XT]
 rw[Zi (ρ':=[aa .drw,aa<|.lst Q7]) (os':=[]) (s':=s) (by simp[pvE,ofD,Q7,pv.eq_6,Yt,VZ])]
 exact Zg<|Zv e2
section
variable{C:ZB}{O:Env}{s:DS}{a b e:E}{x y:V}{xs ys:List V}
def UO{m:Bool}{i:Int}{k:Nat}(hi:0<=i/\i<6)(he:pv C e O s=.ok (.int k) s)(hk:k<8):∃ys,pv C (.bin .mul (.tup [(.c<|.int i)]) e) O s=.ok (.tup ys) s/\nr m 1 (.tup ys)=ag:=by
 refine#[(aA k [V.int i]).flatten,?_,Z0 ?_ λx hx=>?_]
 .rw[pv,Z7 ZQ,Za,he,Za]
  show(if 0<=(k:Int)/\(k:Int)<1000/\[V.int i].length<=1000 then PR.ok (V.tup (aA (k:Int).toNat [V.int i]).flatten) s else .no)=_
  rw[T9 #[by omega,by omega,by show 1<=1000;omega],dr]
 .rw[List.length_flatten,List.map_replicate]
  simp;omega
 .obtain⟨l,hl,hx⟩:=List.mem_flatten.mp hx
  rw[dP hl]at hx;rw[aK.mp hx];exact Wn hi
def Y9{Q:V->Prop}{es:List E}(hl:es.length<=1000)(h:∀e∈es,∃v,pv C e O s=.ok v s/\Q v):∃vs,pv C (.lst es) O s=.ok (.lst vs) s/\vs.length=es.length/\∀v∈vs,Q v:=by
 obtain⟨vs,e,l,q⟩:=GX h;refine#[vs,?_,l,q];rw[pv,e,Za,T9 (by unfold lim;omega)]
def YQ{k:Int}(h:pv C a O s=.ok (.int k) s):pv C (.bin .add a<|.c<|.int 1) O s=.ok (.int<|k+1) s:=xE h ZQ
def Gf{ms:List Nat}{t:E}{z l:List Sm}(h:pv C t O s=.ok (.bl ai) s):rvs C ms (.ite t z []::l) O [] s=rvs C ms l O [] s:=guard h
def Yk{q:V->Prop}{lo hi:Option Int}(h:∀x∈xs,q x):∀x∈ZW xs lo hi,q x:=λx hx=>h x<|List.mem_of_mem_drop<|gL hx
def XD{q:V->Prop}(h:∀x∈xs,q x)(h2:∀x∈ys,q x):∀x∈xs++ys,q x:=λx hx=>(bw.mp hx).elim (h x)<|h2 x
def U6{lo hi:E}{j k:Int}(ha:pv C a O s=.ok (.tup xs) s)(hlo:pv C lo O s=.ok (.int j) s)(hhi:pv C hi O s=.ok (.int k) s)(hb:pv C b O s=.ok x s)(hl:xs.length<=7):pv C (.bin .add (.bin .add (.sl a ab<|aa lo)<|.tup [b])<|.sl a (aa hi) ab) O s=.ok (.tup<|(ZW xs ab (aa j)++[x])++ZW xs (aa k) ab) s:=by
 have l1:=ZS (xs:=xs) (lo:=ab) (hi:=aa j);have l2:=ZS (xs:=xs) (lo:=aa k) (hi:=ab);exact YU (YU (QO ha hlo) (Z7 hb)<|by simp;omega) (Xw ha hhi) (by simp;omega)
def v8{j k:Int}(hl:xs.length<=7):((ZW xs ab (aa j)++[x])++ZW xs (aa k) ab).length<=15:=by
 have l1:=ZS (xs:=xs) (lo:=ab) (hi:=aa j);have l2:=ZS (xs:=xs) (lo:=aa k) (hi:=ab);simp;omega
def zu{q:V->Prop}{j k:Int}(ho:∀x∈xs,q x)(hx:q x):∀y∈(ZW xs ab (aa j)++[x])++ZW xs (aa k) ab,q y:=XD (XD (Yk ho) λy hy=>by rw[aK.mp hy];exact hx)<|Yk ho
def UG{m:Bool}{c:Nat}{lo hi:E}{j k:Int}(ha:pv C a O s=.ok (.tup xs) s)(hlo:pv C lo O s=.ok (.int j) s)(hhi:pv C hi O s=.ok (.int k) s)(hb:pv C b O s=.ok x s)(hl:xs.length<=6)(ho:∀x∈xs,nr m c x=ag)(hx:nr m c x=ag):∃ys,pv C (.bin .add (.bin .add (.sl a ab<|aa lo)<|.tup [b])<|.sl a (aa hi) ab) O s=.ok (.tup ys) s/\nr m (c+1) (.tup ys)=ag:=by
 have l1:=ZS (xs:=xs) (lo:=ab) (hi:=aa j);have l2:=ZS (xs:=xs) (lo:=aa k) (hi:=ab);exact#[_,U6 ha hlo hhi hb (by omega),Z0 (by simp;omega)<|zu ho hx]
def za{m:Bool}{c:Nat}{lo hi:E}{j k:Int}(ha:pv C a O s=.ok (.tup xs) s)(hlo:pv C lo O s=.ok (.int j) s)(hhi:pv C hi O s=.ok (.int k) s)(hl:xs.length<=6)(ho:∀x∈xs,nr m c x=ag):∃ys,pv C (.bin .add (.sl a ab<|aa lo)<|.sl a (aa hi) ab) O s=.ok (.tup ys) s/\nr m (c+1) (.tup ys)=ag:=by
 have l1:=ZS (xs:=xs) (lo:=ab) (hi:=aa j);have l2:=ZS (xs:=xs) (lo:=aa k) (hi:=ab);exact#[_,YU (QO ha hlo) (Xw ha hhi) (by omega),Z0 (by simp;omega)<|XD (Yk ho)<|Yk ho]
end
section
variable{p n:Nat}[Base p]
def zF(d:Nat)(s:DS)(hn:n<=6):∃x s',CV (d+3) 21 [.drw,spV p n,Zb []] s=.ok x s'/\Tr 3 x:=by
 let O:Env:=[aa .drw,aa<|spV p n,aa<|Zb [],ab,ab,ab,ab,ab,ab,ab,ab]
 have e1:∀s,pv (CV<|d+2) (.ix (.v 1)<|.c<|.int 1) O s=.ok (.int n) s:=λs=>ix1 rfl
 obtain⟨vs,e2,l2,q2⟩:=Y9 (Q:=Tr 3) (C:=CV<|d+2) (O:=O) (s:=s) (es:=[(.lst []),(.c .non),(.tup [(.tup [])]),(.tup [(.bin .mul (.tup [(.c<|.int 0)])<|.ix (.v 1)<|.c<|.int 1)]),(.tup [(.bin .mul (.tup [(.c<|.int 1)])<|.bin .add (.ix (.v 1)<|.c<|.int 1)<|.c<|.int 1)]),.dnew,(.c<|.str<|aU "none")]) (by decide) (λe he=>by
  simp only[ar,aR,or_false]at he;rcases he with rfl|rfl|rfl|rfl|rfl|rfl|rfl
  .exact#[.lst [],by simp[pvE],ag,rfl]
  .exact#[.non,by rw[pv];rfl,ag,rfl]
  .exact#[.tup [.tup []],by simp[pvE],ag,rfl]
  .obtain⟨ys,g,ho⟩:=UO (m:=ag) (i:=0) (by decide) (e1 s) (by omega)
   exact#[_,Z7 g,ag,Ym (by decide)<|Z0 (by show 1<=13;decide) λx hx=>by rw[aK.mp hx];exact ho]
  .obtain⟨ys,g,ho⟩:=UO (m:=ag) (i:=1) (k:=n+1) (by decide) (by have:=YQ<|e1 s;rw[this];rfl) (by omega)
   exact#[_,Z7 g,ag,Ym (by decide)<|Z0 (by show 1<=13;decide) λx hx=>by rw[aK.mp hx];exact ho]
  .exact#[.dct<|.inl [],by rw[pv],ai,rfl]
  .exact#[.str<|aU "none",by rw[pv];rfl,ag,by decide +kernel])
 obtain⟨v,s1,t1,t2,t3⟩:=ZG (d+1) s (m:=7) (i:=0) (O:=O) rfl ZQ (by decide) (by decide)
 obtain⟨x,hx,e3⟩:=pick e2 t1 t2 (by rw[l2];exact t3)
 refine#[x,s1,Zj rfl (by decide) rfl ?_,q2 x hx]
 show rvs (CV<|d+2) [] Z2.body O [] s=_;have g:pv (CV<|d+2) (.cmp .eq (.v 2)<|.tup []) O s=.ok (.bl ag) s:=by
  have:=Qd (C:=CV<|d+2) (O:=O) (s:=s) (Q:=[]) (a:=.v 2) (b:=.tup []) (Zf rfl) (by rw[pv,pvs];rfl)
  rw[T5 rfl]at this;exact this
 refine Zg ?_;rw[Yi<|ZZ g rfl,T9 rfl];exact Zg<|Zv e3
def zY(d:Nat){P:List Row}(s:DS)(hn:n<=6)(h1:1<=n)(hP:pZ p n P)(h0:P≠[]):∃x s',CV (d+3) 21 [.drw,spV p n,Zb P] s=.ok x s'/\Tr 3 x:=by
 have hz:=dsum hP;have hpos:=gY.mpr h0
 let O (a3 a4 a5 a6 a7 a8 a9 a10:Option V):Env:=[aa .drw,aa<|spV p n,aa<|Zb P,a3,a4,a5,a6,a7,a8,a9,a10]
 have ep:∀a3 a4 a5 a6 a7 a8 a9 a10 s,pv (CV<|d+2) (.v 2) (O a3 a4 a5 a6 a7 a8 a9 a10) s=.ok (.tup<|P.map Zd) s:=λ_ _ _ _ _ _ _ _ s=>Zf rfl
 have e0:∀a3 a4 a5 a6 a7 a8 a9 a10 s,pv (CV<|d+2) (.ix (.v 1)<|.c<|.int 0) (O a3 a4 a5 a6 a7 a8 a9 a10) s=.ok (.int p) s:=λ_ _ _ _ _ _ _ _ s=>ix0 rfl
 have e1:∀a3 a4 a5 a6 a7 a8 a9 a10 s,pv (CV<|d+2) (.ix (.v 1)<|.c<|.int 1) (O a3 a4 a5 a6 a7 a8 a9 a10) s=.ok (.int n) s:=λ_ _ _ _ _ _ _ _ s=>ix1 rfl
 have op:∀x∈P.map Zd,nr ag 1 x=ag:=λx hx=>by
  obtain⟨r,hr,rfl⟩:=az.mp hx;exact UX hn<|hP.row r hr
 have lp:(P.map Zd).length<=6:=by rw[aw];omega
 obtain⟨v1,s1,t1,t2,t3⟩:=ZG (d+1) s (i:=0) (e:=.blt .len [(.v 2)]) (O:=O ab ab ab ab ab ab ab ab) rfl (Xt<|Zf rfl) (by omega) (by omega)
 obtain⟨j,rfl⟩:∃j:Nat,v1=j:=#[v1.toNat,by omega]
 have hj:j<P.length:=by omega
 have hr:=hP.row _<|aJ hj;have er:pv (CV<|d+2) (.ix (.v 2)<|.v 3) (O (aa<|.int j) ab ab ab ab ab ab ab) s1=.ok (Zd P[j]) s1:=by
  rw[pv,Zf rfl,Za,Zf rfl,Za];show po (at' (P.map Zd) (j:Int)) s1=_;rw[Ww (by rw[aV,ao hj];rfl)];rfl
 obtain⟨v2,s2,u1,u2,u3⟩:=ZG (d+1) s1 (i:=0) rfl (e1 ..) (by omega) (by omega)
 let ρ5:Env:=O (aa<|.int j) (aa<|Zd P[j]) (aa<|.int v2) ab ab ab ab ab
 obtain⟨os,m1,m2,m3⟩:=Y9 (C:=CV<|d+2) (O:=ρ5) (s:=s2) (Q:=λv=>nr ag 0 v=ag) (es:=[(.c<|.int 0),(.c<|.int 1),(.ix (.v 1)<|.c<|.int 0),(.bin .sub (.ix (.v 1)<|.c<|.int 0)<|.c<|.int 1),(.neg<|.c<|.int 1),(.c<|.bl ag),(.c .non),(.c<|.str<|aU "1"),(.tup [(.c<|.int 1)]),(.bin .pow (.c<|.int 10)<|.c<|.int 29)]) (by decide) (λe he=>by
  simp only[ar,aR,or_false]at he;rcases he with rfl|rfl|rfl|rfl|rfl|rfl|rfl|rfl|rfl|rfl
  .exact#[_,ZQ,rfl]
  .exact#[_,ZQ,rfl]
  .exact#[_,e0 ..,Wn (by have:=WQ (p:=p);omega)]
  .exact#[.int<|(p:Int)-1,by rw[pv,e0,Za,ZQ,Za];rfl,Wn (by have:=WQ (p:=p);omega)]
  .exact#[.int<|-1,by rw[pv,ZQ];rfl,rfl]
  .exact#[.bl ag,by rw[pv];rfl,rfl]
  .exact#[.non,by rw[pv];rfl,rfl]
  .exact#[.str<|aU "1",by rw[pv];rfl,by decide +kernel]
  .exact#[_,Z7 ZQ,rfl]
  .exact#[.int<|10^29,by simp[pvE,ofD,Yt,VZ],by decide +kernel])
 obtain⟨v3,s3,w1,w2,w3⟩:=ZG (d+1) s2 (m:=10) (i:=0) (O:=ρ5) rfl ZQ (by decide) (by decide)
 obtain⟨od,hod,e6⟩:=pick m1 w1 w2 (by rw[m2];exact w3)
 have ho:=m3 od hod
 let ρ6 (a7:Option V):Env:=O (aa<|.int j) (aa<|Zd P[j]) (aa<|.int v2) (aa od) a7 ab ab ab
 have e4:∀a s,pv (CV<|d+2) (.v 4) (ρ6 a) s=.ok (.tup<|P[j].map .int) s:=λa s=>Zf rfl
 have e5:∀a s,pv (CV<|d+2) (.v 5) (ρ6 a) s=.ok (.int v2) s:=λa s=>Zf rfl
 have or':∀x∈P[j].map V.int,nr ag 0 x=ag:=λx hx=>by
  obtain⟨a,ha,rfl⟩:=az.mp hx;have:=hr.2 a ha;have:=WQ (p:=p);exact Wn (by omega)
 have lr:(P[j].map V.int).length<=6:=by rw[aw,hr.1];omega
 obtain⟨ra,a1,a2,a3⟩:=Y9 (Q:=λv=>nr ag 1 v=ag) (es:=[(.bin .add (.bin .add (.sl (.v 4) ab<|aa<|.v 5)<|.tup [(.v 6)])<|.sl (.v 4) (aa<|.bin .add (.v 5)<|.c<|.int 1) ab),(.bin .add (.bin .add (.sl (.v 4) ab<|aa<|.v 5)<|.tup [(.v 6)])<|.sl (.v 4) (aa<|.v 5) ab),(.bin .add (.sl (.v 4) ab<|aa<|.v 5)<|.sl (.v 4) (aa<|.bin .add (.v 5)<|.c<|.int 1) ab),(.blt .list [(.v 4)]),(.c .non)]) (by decide) (λe he=>by
  simp only[ar,aR,or_false]at he;rcases he with rfl|rfl|rfl|rfl|rfl
  .obtain⟨ys,g,h⟩:=UG (e4 ab s3) (e5 ab s3) (YQ<|e5 ab s3) (Zf (i:=6) rfl) lr or' ho
   exact#[_,g,h]
  .obtain⟨ys,g,h⟩:=UG (e4 ab s3) (e5 ab s3) (e5 ab s3) (Zf (i:=6) rfl) lr or' ho
   exact#[_,g,h]
  .obtain⟨ys,g,h⟩:=za (e4 ab s3) (e5 ab s3) (YQ<|e5 ab s3) lr or'
   exact#[_,g,h]
  .exact#[.lst<|P[j].map .int,by rw[pv,Zc (e4 ab s3) Ze];rfl,vc (by omega) or']
  .exact#[.non,by rw[pv];rfl,rfl])
 have hp:=WQ (p:=p);have b1:=Zz (cap:=[1]) (nl:=1) (t:=[0]) (it:=.of<|.v 4) (elt:=.bin .mod (.bin .mul (.c<|.int 2)<|.v 0)<|.ix (.v 1)<|.c<|.int 0) (O:=ρ6<|aa<|.lst ra) (s:=s3)
  (by rw[pvw,e4];rfl) (by rw[hr.1];unfold lim;omega) (λa ha=>#[[aa<|.int a,aa<|spV p n],rfl,by
   have h2:=hr.2 a ha;have f1:=ZI (a:=2) (by omega) (by omega)
   have f2:=ZI (a:=a) (by omega) (by omega)
   have g2:=ix0 (C:=CV<|d+2) (i:=1) (O:=[aa<|.int a,aa<|spV p n]) (s:=s3) rfl;have g:pv (CV<|d+2) (.bin .mul (.c<|.int 2)<|.v 0) [aa<|.int a,aa<|spV p n] s3=.ok (.int<|2*a) s3:=by simp[pvE,ofD,Yt,VZ,f1,f2]
   have hp0:(0:Int)<p:=by omega
   rw[pv,g,Za,g2,Za];show(if(0:Int)<p then _ else _)=_
   rw[T9 hp0]])
 have b2:pv (CV<|d+2) (.blt .tuple [(.comp1 [1] 1 [0] (.of<|.v 4) []<|.bin .mod (.bin .mul (.c<|.int 2)<|.v 0)<|.ix (.v 1)<|.c<|.int 0)]) (ρ6<|aa<|.lst ra) s3=.ok (.tup<|P[j].map λa=>V.int<|2*a%p) s3:=by
  rw[pv,Zc b1 Ze];rfl
 obtain⟨zs,b3,b4⟩:=UO (m:=ag) (i:=0) (by decide) (e1 ..) (by omega)
 obtain⟨r2,s4,b5,b6⟩:=XQ (p:=p) d s3 hn;have b7:pv (CV<|d+2) (.lst [(.blt .tuple [(.comp1 [1] 1 [0] (.of<|.v 4) []<|.bin .mod (.bin .mul (.c<|.int 2)<|.v 0)<|.ix (.v 1)<|.c<|.int 0)]),(.bin .mul (.tup [(.c<|.int 0)])<|.ix (.v 1)<|.c<|.int 1),(.call 6 [(.v 0),(.v 1)])]) (ρ6<|aa<|.lst ra) s3=.ok (.lst [.tup<|P[j].map λa=>V.int<|2*a%p,.tup zs,Zd r2]) s4:=by
  rw[pv,Zc b2<|Zc b3<|Zc (Zr (Zc (Zf rfl)<|Zc (Zf rfl) Ze) b5) Ze];rfl
 let rb:List V:=ra++[.tup<|P[j].map λa=>V.int<|2*a%p,.tup zs,Zd r2]
 have hrb:∀v∈rb,nr ag 1 v=ag:=λv hv=>by
  rcases bw.mp hv with z|z
  .exact a3 v z
  .simp only[ar,aR,or_false]at z
   rcases z with rfl|rfl|rfl
   .exact Z0 (by rw[aw,hr.1];omega) λx hx=>by
     obtain⟨a,_,rfl⟩:=az.mp hx;have h1:=dh (2*a) (b:=(p:Int)) (by omega)
     have h2:=cO (2*a) (b:=(p:Int)) (by omega)
     exact Wn (by omega)
   .exact b4
   .exact UX hn b6
 have lrb:rb.length=8:=by rw[aP,a2];rfl
 have b8:pv (CV<|d+2) (.bin .add (.v 7)<|.lst [(.blt .tuple [(.comp1 [1] 1 [0] (.of<|.v 4) []<|.bin .mod (.bin .mul (.c<|.int 2)<|.v 0)<|.ix (.v 1)<|.c<|.int 0)]),(.bin .mul (.tup [(.c<|.int 0)])<|.ix (.v 1)<|.c<|.int 1),(.call 6 [(.v 0),(.v 1)])]) (ρ6<|aa<|.lst ra) s3=.ok (.lst rb) s4:=by
  rw[pv,Zf rfl,Za,b7,Za];show(if ra.length+3<=lim then _ else _)=_
  rw[T9 (by rw[a2];decide)]
 obtain⟨v5,s5,c1,c2,c3⟩:=ZG (d+1) s4 (m:=11) (i:=0) (O:=ρ6<|aa<|.lst rb) rfl ZQ (by decide) (by decide)
 obtain⟨ix,hix,c4⟩:=pick (a:=.lst [(.c<|.int 0),(.c<|.int 0),(.c<|.int 0),(.c<|.int 0),(.c<|.int 1),(.c<|.int 2),(.c<|.int 3),(.c<|.int 4),(.c<|.int 5),(.c<|.int 6),(.c<|.int 7)]) (xs:=[.int 0,.int 0,.int 0,.int 0,.int 1,.int 2,.int 3,.int 4,.int 5,.int 6,.int 7]) (s:=s4) (by simp[pvE,ofD]) c1 c2 c3
 obtain⟨q,rfl,hq0,hq⟩:∃q:Int,ix=.int q/\0<=q/\q<8:=by
  simp at hix;rcases hix with rfl|rfl|rfl|rfl|rfl|rfl|rfl|rfl<;>exact#[_,rfl,by decide,by decide]
 obtain⟨one,hone,c5⟩:=pick (a:=.v 7) (Zf rfl) c4 hq0 (by rw[lrb];exact hq)
 have oone:=hrb one hone
 let ρ8 (a9 a10:Option V):Env:=O (aa<|.int j) (aa<|Zd P[j]) (aa<|.int v2) (aa od) (aa<|.lst rb) (aa one) a9 a10
 obtain⟨v6,s6,g1,g2,g3⟩:=ZG (d+1) s5 (m:=8) (i:=0) (O:=ρ8 ab ab) rfl ZQ (by decide) (by decide)
 have e3:∀a b s,pv (CV<|d+2) (.v 3) (ρ8 a b) s=.ok (.int j) s:=λ_ _ s=>Zf rfl
 have lt9:∀k:Int,pv (CV<|d+2) (.cmp .lt (.v 9)<|.c<|.int k) (ρ8 (aa<|.int v6) ab) s6=.ok (.bl<|ae<|v6<k) s6:=λk=>by
  rw[pv,Zf rfl,Za,ZQ,Za];rfl
 have start:∀x s',rvs (CV<|d+2) [] (Z2.body.drop 9) (ρ8 (aa<|.int v6) ab) [] s6=.ok (.ret x) s'->CV (d+3) 21 [.drw,spV p n,Zb P] s=.ok x s':=λx s' h=>by
  refine Zj rfl (by decide) rfl ?_
  show rvs (CV<|d+2) [] Z2.body (O ab ab ab ab ab ab ab ab) [] s=_;have g:pv (CV<|d+2) (.cmp .eq (.v 2)<|.tup []) (O ab ab ab ab ab ab ab ab) s=.ok (.bl ai) s:=by
   have:=Qd (C:=CV<|d+2) (O:=O ab ab ab ab ab ab ab ab) (s:=s) (Q:=[]) (a:=.v 2) (b:=.tup []) (Zf rfl) (by rw[pv,pvs];rfl)
   rw[T4 h0]at this;exact this
  dsimp only[Z2]
  rw[guard g,Zi<|ZE t1 rfl];show rvs _ _ _ (O (aa<|.int j) ab ab ab ab ab ab ab) _ _=_;rw[Zi<|ZE er rfl];show rvs _ _ _ (O (aa<|.int j) (aa<|Zd P[j]) ab ab ab ab ab ab) _ _=_;rw[Zi<|ZE u1 rfl];show rvs _ _ _ ρ5 _ _=_;rw[Zi<|ZE e6 rfl];show rvs _ _ _ (ρ6 ab) _ _=_;rw[Zi<|ZE a1 rfl];show rvs _ _ _ (ρ6<|aa<|.lst ra) _ _=_;rw[Zi<|ZE b8 rfl];show rvs _ _ _ (ρ6<|aa<|.lst rb) _ _=_;rw[Zi<|ZE c5 rfl];show rvs _ _ _ (ρ8 ab ab) _ _=_;rw[Zi<|ZE g1 rfl];exact h
 by_cases k4:v6<4
 .obtain⟨ys,h1,h2⟩:=UG (b:=.v 8) (ep ..) (e3 (aa<|.int v6) ab s6) (YQ<|e3 (aa<|.int v6) ab s6) (Zf rfl) lp op oone
  refine#[.tup ys,s6,start _ _ ?_,ag,Ym (by decide) h2]
  refine Zg ?_;rw[Yi<|ZZ (lt9 4) rfl,T9<|T5 k4];exact Zg<|Zv h1
 by_cases k6:v6<6
 .obtain⟨ys,h1,h2⟩:=UG (b:=.v 8) (ep ..) (e3 (aa<|.int v6) ab s6) (e3 (aa<|.int v6) ab s6) (Zf rfl) lp op oone
  refine#[.tup ys,s6,start _ _ ?_,ag,Ym (by decide) h2]
  dsimp only[Z2,lh]
  have z:=lt9 4;rw[T4 k4]at z;rw[Gf z];refine Zg ?_;rw[Yi<|ZZ (lt9 6) rfl,T9<|T5 k6];exact Zg<|Zv h1
 let ρ9 (a10:Option V):Env:=ρ8 (aa<|.int v6) a10
 obtain⟨ws,y1,y2,y3⟩:=Y9 (Q:=Tr 3) (es:=[(.bin .add (.sl (.v 2) ab<|aa<|.v 3)<|.sl (.v 2) (aa<|.bin .add (.v 3)<|.c<|.int 1) ab),(.rev<|.v 2),(.blt .list [(.v 2)]),(.tup [(.v 2)]),(.bin .add (.v 2)<|.sl (.v 2) (aa<|.neg<|.c<|.int 1) ab),(.bin .add (.sl (.v 2) (aa<|.v 3) ab)<|.sl (.v 2) ab<|aa<|.v 3)]) (by decide) (λe he=>by
  simp only[ar,aR,or_false]at he;have ep':pv (CV<|d+2) (.v 2) (ρ9 ab) s6=.ok (.tup<|P.map Zd) s6:=ep ..;have e3':=e3 (aa<|.int v6) ab s6;rcases he with rfl|rfl|rfl|rfl|rfl|rfl
  .obtain⟨ys,h1,h2⟩:=za ep' e3' (YQ e3') lp op
   exact#[_,h1,ag,Ym (by decide) h2]
  .refine#[.tup (P.map Zd).reverse,by rw[pv,ep'];rfl,ag,Ym (by decide)<|Z0 (by rw[c7];omega) λx hx=>op x<|kw.mp hx]
  .exact#[.lst<|P.map Zd,by rw[pv,Zc ep' Ze];rfl,ag,Ym (by decide)<|vc (by omega) op]
  .exact#[_,Z7 ep',ag,Z0 (by show 1<=13;decide) λx hx=>by rw[aK.mp hx];exact Z0 (by omega) op]
  .have l1:=ZS (xs:=P.map Zd) (lo:=aa<|-1) (hi:=ab)
   exact#[_,YU ep' (Xw ep'<|by rw[pv,ZQ];rfl) (by omega),ag,Ym (by decide)<|Z0 (by rw[aP];omega)<|XD op<|Yk op]
  .have l1:=ZS (xs:=P.map Zd) (lo:=aa (j:Int)) (hi:=ab)
   have l2:=ZS (xs:=P.map Zd) (lo:=ab) (hi:=aa (j:Int));exact#[_,YU (Xw ep' e3') (QO ep' e3') (by omega),ag,Ym (by decide)<|Z0 (by rw[aP];omega)<|XD (Yk op)<|Yk op])
 obtain⟨v7,s7,z1,z2,z3⟩:=ZG (d+1) s6 (m:=6) (i:=0) (O:=ρ9<|aa<|.lst ws) rfl ZQ (by decide) (by decide)
 obtain⟨x,hx,z4⟩:=pick (a:=.v 10) (Zf rfl) z1 z2 (by rw[y2];exact z3)
 refine#[x,s7,start _ _ ?_,y3 x hx]
 dsimp only[Z2,lh]
 have z:=lt9 4;rw[T4 k4]at z;have zz:=lt9 6;rw[T4 k6]at zz;rw[Gf z,Gf zz,Zi<|ZE y1 rfl];exact Zg<|Zv z4
def xh(d:Nat){P:List Row}(s:DS)(hn:n<=6)(h1:1<=n)(hP:pZ p n P):∃x s',CV (d+3) 21 [.drw,spV p n,Zb P] s=.ok x s'/\Tr 3 x:=by
 cases P with|nil=>exact zF d s hn|cons r P=>exact zY d s hn h1 hP (by simp)
end
end K61
namespace Rw
open La
noncomputable def Xf(p:Nat)(L:List Row)(o:Row):List Row:=(aY p).flatMap λ(k:Nat)=>L.map λr=>ZJ p r o (k:Int)
noncomputable def Yr(p n:Nat)(P:List Row):List Row:=P.foldl (Xf p) [aA n 0]
def Uw(L:List Row)(o:Row):(Xf p L o).length=L.length*p:=by
 unfold Xf;rw[List.length_flatMap,show((aY p).map λ(k:Nat)=>(L.map λr=>ZJ p r o (k:Int)).length)=aA p L.length from et (by simp) λi h1 h2=>by simp,List.sum_replicate_nat,iQ]
def wG(P:List Row):(Yr p n P).length=p^P.length:=by
 unfold Yr
 suffices ∀(P L:List Row),(P.foldl (Xf p) L).length=L.length*p^P.length by rw[this];simp
 intro P
 induction P with|nil=>intro L;simp|cons o P ih=>intro L;rw[gr,ih,Uw,aI,Nat.pow_succ,Nat.mul_assoc,iQ p]
section
variable{p n:Nat}[Base p]
def Yy:Zh p n (aA n 0):=#[bM,λa ha=>by
 have:=(inferInstance:Base p).b;rw[dP ha];omega]
def U0(j:Nat):gt (aA n 0) j=0:=by
 unfold gt;rw[bf,bP];split<;>rfl
def Ut(hL:∀r∈L,Zh p n r)(ho:Zh p n o):∀r∈Xf p L o,Zh p n r:=λr hr=>by
 obtain⟨k,_,h⟩:=eA.mp hr;obtain⟨q,hq,rfl⟩:=az.mp h;exact Zx (hL q hq) ho
def uh(hW:pZ p n W)(hr:Zh p n r)(ho:Zh p n o)(h1:ZO p W r=ag)(h2:ZO p W o=ag):ZO p W (ZJ p r o k)=ag:=by
 rw[ZN hW<|Zx hr ho];rw[Yf hr ho];exact YO (ph p k) ((ZN hW hr).mp h1)<|(ZN hW ho).mp h2
theorem ze(hW:pZ p n W):∀{P L:List Row},(∀r∈P,r∈W)->(∀r∈L,Zh p n r/\ZO p W r=ag)->∀r∈P.foldl (Xf p) L,Zh p n r/\ZO p W r=ag
 |[],_,_,h=>h
 |o::P,L,hP,h=>by
  have ho:=hP o<|al ..;refine ze hW (P:=P) (λr hr=>hP r<|ak _ hr) λr hr=>?_
  obtain⟨k,_,h3⟩:=eA.mp hr;obtain⟨q,hq,rfl⟩:=az.mp h3;exact#[Zx (h q hq).1<|hW.row o ho,uh hW (h q hq).1 (hW.row o ho) (h q hq).2<|WV hW ho]
theorem GZ:∀{P L:List Row}{a r:Row},(∀o∈P,Zh p n o)->a∈L->Zh p n a->Zh p n r->hdI (ZD p P<|ZJ p r a<|-1)=ab->r∈P.foldl (Xf p) L
 |[],L,a,r,_,ha,h1,h2,h=>by
  have e:r=a:=X0 h2 h1 (by
   funext j
   have z:=(Yb<|Zx h2 h1).mpr<|YY h j;rw[Yf h2 h1,J8,Qf]at z
   grind)
  rw[e];exact ha
 |o::P,L,a,r,hP,ha,h1,h2,h=>by
  have ho:=hP o<|al ..
  let x:=ZJ p r a<|-1
  have hx:Zh p n x:=Zx h2 h1;have hk:=Xl ppos hx<|(hdI o).getD 0;have e:clr p x o ((hdI o).getD 0)=ZJ p r (ZJ p a o<|gt x<|(hdI o).getD 0) (-1):=X0 (Zx hx ho) (Zx h2<|Zx h1 ho) (by
   rw[Y3 hx ho,Yf h2<|Zx h1 ho,Yf h1 ho]
   funext j
   show toV p (ZJ p r a<|-1) j-toV p x ((hdI o).getD 0)*toV p o j=toV p r j+ph p (-1)*(toV p a j+toV p x ((hdI o).getD 0)*toV p o j);rw[Yf h2 h1,J8,Qf]
   grind)
  refine GZ (P:=P) (λq hq=>hP q<|ak _ hq) (eA.mpr #[(gt x<|(hdI o).getD 0).toNat,bm.mpr (by omega),az.mpr #[a,ha,by rw[gX hk.1]]]) (Zx h1 ho) h2 ?_
  rw[<-e];exact h
theorem vf(hP:pZ p n P):r∈Yr p n P↔Zh p n r/\ZO p P r=ag:=by
 constructor
 .exact ze hP (λ_ h=>h) (λq hq=>by rw[aK.mp hq];exact#[Yy,zA hP Yy U0]) r
 .intro#[h1,h2]
  refine GZ hP.row (aK.mpr rfl) Yy h1 ?_;have e:ZJ p r (aA n 0) (-1)=r:=X0 (Zx h1 Yy) h1 (by
   rw[Yf h1 Yy]
   funext j
   rw[(Yb Yy).mpr<|U0 j]
   grind)
  rw[e];exact Option.isNone_iff_eq_none.mp h2
theorem Jy:∀{P L:List Row},(∀o∈P,Zh p n o/\gt o ((hdI o).getD 0)=1)->(P.Pairwise λo q=>gt o ((hdI q).getD 0)=0)->(∀r∈L,Zh p n r/\∀o∈P,gt r ((hdI o).getD 0)=0)->L.Nodup->(P.foldl (Xf p) L).Nodup
 |[],_,_,_,_,h=>h
 |o::P,L,hP,hz,hL,h=>by
  obtain⟨ho,h1⟩:=hP o<|al ..;obtain⟨z1,z2⟩:=aZ.mp hz;have hp:=(inferInstance:Base p).b;refine Jy (P:=P) (λq hq=>hP q<|ak _ hq) z2 (λr hr=>#[Ut (λr hr=>(hL r hr).1) ho r hr,λq hq=>?_]) ?_
  .obtain⟨k,_,h3⟩:=eA.mp hr
   obtain⟨s,hs,rfl⟩:=az.mp h3;rw[W0 (hL s hs).1 ho,(hL s hs).2 q<|ak _ hq,z1 q hq];simp
  .have at_:∀(k:Nat) r,k<p->r∈L->gt (ZJ p r o (k:Int)) ((hdI o).getD 0)=k:=λk r hk hr=>by
    rw[W0 (hL r hr).1 ho,(hL r hr).2 o<|al ..,h1,Int.zero_add,Int.mul_one,d7 (by omega) (by omega)]
   refine List.pairwise_flatMap.mpr #[λk hk=>?_,?_]
   .refine cX.mpr (h.imp_of_mem λ{a b} ha hb ne e=>ne<|X0 (hL a ha).1 (hL b hb).1 ?_)
    have q:=congrArg (toV p) e;rw[Yf (hL a ha).1 ho,Yf (hL b hb).1 ho]at q
    funext j
    have:=congrFun q j
    grind
   .refine List.nodup_range.imp_of_mem λ{a b} ha hb ne x hx y hy e=>ne ?_
    obtain⟨r,hr,rfl⟩:=az.mp hx;obtain⟨q,hq,rfl⟩:=az.mp hy;have:=at_ a r (bm.mp ha) hr;rw[e,at_ b q (bm.mp hb) hq]at this;omega
def u6(hP:pZ p n P):(Yr p n P).Nodup:=by
 have rf:=hP.pn.rf;refine Jy (λo ho=>#[hP.row o ho,(Qi<|hP.row o ho).mp<|rf.one _<|Z3 ho]) ?_ (λr hr=>?_)<|cQ.mpr #[by simp,List.nodup_nil]
 .exact(cX.mp rf.inc).imp_of_mem λ{a b} ha hb lt=>(Yb<|hP.row a ha).mp<|rf.zer _ (Z3 hb) _ (Z3 ha)<|dY lt
 .rw[aK.mp hr]
  exact#[Yy,λo _=>U0 _]
end
end Rw
namespace K61
open Ev Pv Rw La
def Za9(h:Nat):(aA h [V.int 0]).flatten=(aA h (0:Int)).map V.int:=by
 induction h with|zero=>rfl|succ k ih=>rw[bq,bN,ih];rfl
def wy(r:Row):V.flat (Zd r)=ag:=VO r
theorem XB:∀L:List Row,ZU (L.map Zd)=ag
 |[]=>rfl
 |r::L=>by
  show(V.flat (Zd r)&&ZU (L.map Zd))=ag;rw[wy,XB L];rfl
theorem Q4:∀L:List Row,XU (L.map λr=>V.tup [Zd r,.bl ag])=aa L
 |[]=>rfl
 |r::L=>by
  show((intsV<|r.map V.int).bind λa=>(XU<|L.map λr=>V.tup [Zd r,.bl ag]).map (a :: ·))=_
  rw[Yw,Q4 L];rfl
section
variable{p n:Nat}[Base p]
noncomputable def xq:List Sm:=[.asg [4]<|.lst [],
  .forr [5] (.rng1<|.ix (.v 0)<|.c<|.int 0) [.ex<|.mt .extend (.v 4) [(.comp1 [0,3,5] 1 [0] (.of<|.v 2) []<|.call 4 [(.v 1),(.v 0),(.v 2),(.v 3)])]],
  .mov 2 4]
def yg(d:Nat){L:List Row}{o:Row}{v:V}{a5:Option V}(s:DS)(hn:n<=6)(hL:∀r∈L,Zh p n r)(ho:Zh p n o)(hl:L.length<=15625):∃b5,rvs (CV<|d+1) [4] xq [aa<|spV p n,aa v,aa<|.lst<|L.map Zd,aa<|Zd o,ab,a5] [] s=.ok (.nx [aa<|spV p n,aa v,aa<|.lst<|(Xf p L o).map Zd,aa<|Zd o,ab,b5] []) s:=by
 have hp:=WQ (p:=p);unfold xq;obtain⟨o5,_,e5⟩:=vZ (C:=CV<|d+1) (t:=[5]) (it:=.rng1<|.ix (.v 0)<|.c<|.int 0) (b:=[.ex<|.mt .extend (.v 4) [(.comp1 [0,3,5] 1 [0] (.of<|.v 2) []<|.call 4 [(.v 1),(.v 0),(.v 2),(.v 3)])]]) (step:=λ(acc:List Row) (k:Nat)=>acc++L.map λr=>ZJ p r o (k:Int)) (O:=λacc x=>[aa<|spV p n,aa v,aa<|.lst<|L.map Zd,aa<|Zd o,aa<|.lst<|acc.map Zd,x]) (os:=[4]) (s:=s)
  (λl acc=>(∀k∈l,k<5)/\acc.length+l.length*L.length<=100000) (by
   exact Y2 (ix0 rfl)<|by omega) #[λk hk=>by have:=bm.mp hk;omega,by
    rw[bY,eL];have:p*L.length<=5*15625:=fq (by omega) hl
    omega] rfl (λk l acc x hI=>by
   obtain⟨h1,h2⟩:=hI;rw[aI,iL]at h2;have hk:=h1 k<|al ..;refine#[#[λq hq=>h1 q<|ak _ hq,by rw[aP,aw];omega],rfl,[aa<|spV p n,aa v,aa<|.lst<|L.map Zd,aa<|Zd o,aa<|.lst<|acc.map Zd,aa<|Zm k],aa<|Zm k,rfl,?_]
   have hc:=Zz (cap:=[0,3,5]) (nl:=1) (t:=[0]) (it:=.of<|.v 2) (elt:=.call 4 [(.v 1),(.v 0),(.v 2),(.v 3)]) (O:=[aa<|spV p n,aa v,aa<|.lst<|L.map Zd,aa<|Zd o,ab,aa<|Zm k])
    (by rw[pvw,Zf rfl];rfl) (by unfold lim;omega) (λr hr=>#[[aa<|Zd r,aa<|spV p n,aa<|Zd o,aa<|Zm k],rfl,Zr (Zc (Zf rfl)<|Zc (Zf rfl)<|Zc (Zf rfl)<|Zc (Zf rfl) Ze)<|QL d s hn (hL r hr) ho #[by omega,by omega]])
   have hm:(L.map λr=>Zd<|ZJ p r o (k:Int))=(L.map λr=>ZJ p r o (k:Int)).map Zd:=by rw[bB];rfl
   rw[hm]at hc;rw[Zi (ρ':=[aa<|spV p n,aa v,aa<|.lst<|L.map Zd,aa<|Zd o,aa<|.lst<|(acc++L.map λr=>ZJ p r o (k:Int)).map Zd,aa<|Zm k]) (by
    rw[rv];show(if ag=ag then((PR.ok (acc.map Zd) s).bind λxs s=>(pv (CV<|d+1) _ [aa<|spV p n,aa v,aa<|.lst<|L.map Zd,aa<|Zd o,ab,aa<|Zm k] s).bind _)else _)=_
    rw[T9 rfl,Za,hc,Za];show(if ZU ((L.map λr=>ZJ p r o (k:Int)).map Zd)=ag/\_<=lim then _ else _)=_
    rw[T9 #[XB _,by rw[aw,aw,aw];unfold lim;omega],cU]
    rfl),rvs])
 have hfold:∀(l:List Nat)(acc:List Row),l.foldl (λ(acc:List Row) (k:Nat)=>acc++L.map λr=>ZJ p r o (k:Int)) acc=acc++l.flatMap λ(k:Nat)=>L.map λr=>ZJ p r o (k:Int):=λl=>by
  induction l with|nil=>intro acc;simp|cons r l ih=>intro acc;rw[gr,ih,List.flatMap_cons,fI]
 rw[hfold,gv]at e5;refine#[o5,?_];rw[Zi (ρ':=[aa<|spV p n,aa v,aa<|.lst<|L.map Zd,aa<|Zd o,aa<|.lst<|([]:List Row).map Zd,a5]) (os':=[4]) (s':=s) (by simp[pvE,ZU]),Zi e5]
 rw[Zi (ρ':=[aa<|spV p n,aa v,aa<|.lst<|(Xf p L o).map Zd,aa<|Zd o,ab,o5]) (os':=[]) (by rw[rv];rfl),rvs]
def yQ(d:Nat){P:List Row}(s:DS)(hn:n<=6)(hP:pZ p n P)(hl:p^n<=1000):CV (d+2) 28 [spV p n,Zb P] s=.ok (.dct<|.inr<|Yr p n P) s:=by
 have hp:=WQ (p:=p);refine Zj rfl (by decide) rfl ?_
 show rvs (CV<|d+1) [4] (.asg [2] (.lst [(.bin .mul (.tup [(.c<|.int 0)])<|.ix (.v 0)<|.c<|.int 1)]) :: .forr [3] (.of<|.v 1) xq :: .ret (.blt .dictP [(.comp1 [] 1 [0] (.of<|.v 2) []<|.tup [(.v 0),(.c<|.bl ag)])])::[]) [aa<|spV p n,aa<|Zb P,ab,ab,ab,ab] [] s=_;have z0:pv (CV<|d+1) (.lst [(.bin .mul (.tup [(.c<|.int 0)])<|.ix (.v 0)<|.c<|.int 1)]) [aa<|spV p n,aa<|Zb P,ab,ab,ab,ab] s=.ok (.lst<|[aA n 0].map Zd) s:=by
  have g:pv (CV<|d+1) (.bin .mul (.tup [(.c<|.int 0)])<|.ix (.v 0)<|.c<|.int 1) [aa<|spV p n,aa<|Zb P,ab,ab,ab,ab] s=.ok (Zd<|aA n 0) s:=by
   rw[pv,Z7 ZQ,Za,ix1 rfl,Za];show(if(0:Int)<=n/\(n:Int)<1000/\1<=1000 then PR.ok (V.tup (aA (n:Int).toNat [V.int 0]).flatten) s else .no)=_
   rw[T9 #[by omega,by omega,by omega],dr]
   rw[Za9];rfl
  rw[pv,Zc g Ze];rfl
 rw[Zi<|ZE z0 rfl];show rvs _ _ _ [aa<|spV p n,aa<|Zb P,aa<|.lst<|[aA n 0].map Zd,ab,ab,ab] [] s=_;have hpow:∀(l:List Row)(k:Nat),k+l.length=P.length->p^k*p^l.length<=1000:=λl k h=>by
  rw[<-Nat.pow_add,h];exact bx (dA (by omega)<|dsum hP) hl
 obtain⟨ρ',⟨L,a3,a5,rfl,hL,_⟩,e⟩:=GC (C:=CV<|d+1) (t:=[3]) (it:=.of<|.v 1) (os:=[]) (s:=s)
  (λl O=>∃(L:List Row)(a3 a5:Option V),O=[aa<|spV p n,aa<|Zb P,aa<|.lst<|L.map Zd,a3,ab,a5]/\l.foldl (Xf p) L=Yr p n P/\(∀r∈L,Zh p n r)/\(∀r∈l,Zh p n r)/\∃k,k+l.length=P.length/\L.length=p^k)
  (by rw[pvw];rw[Zf rfl];rfl)
  #[[aA n 0],ab,ab,rfl,rfl,λr hr=>by
   rw[aK.mp hr];exact#[bM,λa ha=>by rw[dP ha];omega],λr hr=>hP.row r hr,0,by omega,by simp] rfl (λr l O hI=>by
   obtain⟨L,a3,a5,rfl,h1,h2,h3,k,h4,h5⟩:=hI;have hr:=h3 r<|al ..;rw[aI]at h4;have hz:=hpow l (k+1) (by omega)
   have hL1:L.length<=1000:=by
    rw[h5];have:=hpow (r::l) k (by rw[aI];omega)
    have h0:0<p^(r::l).length:=Nat.pow_pos (by omega)
    exact bx (Nat.le_mul_of_pos_right _ h0) this
   obtain⟨b5,e1⟩:=yg d s hn h2 hr (by omega)
   refine#[by rfl,_,_,rfl,e1,Xf p L r,_,b5,rfl,h1,Ut h2 hr,λq hq=>h3 q<|ak _ hq,k+1,by omega,?_]
   rw[Uw,h5,Nat.pow_succ])
 rw[Zi e];rw[List.foldl_nil]at hL;subst hL;have hlen:(Yr p n P).length<=1000:=by
  rw[wG];exact bx (dA (by omega)<|dsum hP) hl
 have hc:=Zz (C:=CV<|d+1) (cap:=[]) (nl:=1) (t:=[0]) (it:=.of<|.v 2) (elt:=.tup [(.v 0),(.c<|.bl ag)]) (O:=[aa<|spV p n,aa<|Zb P,aa<|.lst<|(Yr p n P).map Zd,a3,ab,a5]) (s:=s)
  (by rw[pvw,Zf rfl];rfl) (by unfold lim;omega) (λr hr=>#[[aa<|Zd r],rfl,by
   rw[pv,Zc (Zf rfl)<|Zc (by rw[pv];rfl) Ze];rfl])
 refine Zg<|Zv ?_;rw[pv,Zc hc Ze,Za];show po ((XU<|(Yr p n P).map λr=>V.tup [Zd r,.bl ag]).bind λks=>if W9 ks=ag then aa (V.dct<|.inr ks)else ab) s=_
 rw[Q4];show po (if W9 (Yr p n P)=ag then aa (V.dct<|.inr<|Yr p n P)else ab) s=_
 rw[T9 (by
  unfold W9;rw[ax,T3,T3];exact#[by unfold lim;omega,u6 hP])];rfl
def jh{C:ZB}{O:Env}{s:DS}{j i:Nat}{P Q:List Row}(hP:pZ p n P)(hQ:pZ p n Q)(hn:n<=6)(h1:O[i]?=aa (aa<|Zb P))(h2:O[j]?=aa (aa<|.dct<|.inr<|Yr p n Q)):pv C (.blt .all [(.comp1 [j] 1 [0] (.of<|.v i) []<|.cmp .inn (.v 0)<|.v 1)]) O s=.ok (.bl<|P.all<|ZO p Q) s:=by
 have hd:=dsum hP;have hm:∀r∈P,(Yr p n Q).contains r=ZO p Q r:=λr hr=>by
  rw[bp,dm,vf hQ];exact#[λh=>h.2,λh=>#[hP.row r hr,h]]
 have hc:=Zz (C:=C) (cap:=[j]) (nl:=1) (t:=[0]) (it:=.of<|.v i) (elt:=.cmp .inn (.v 0)<|.v 1) (s:=s)
  (by rw[pvw,Zf h1];rfl) (by unfold lim;omega) (λr hr=>#[[aa<|Zd r,aa<|.dct<|.inr<|Yr p n Q],by
   show aa [aa<|Zd r,(O[j]?).join]=_;rw[h2];rfl,by
   rw[pv,Zf rfl,Za,Zf rfl,Za];show po (((intsV<|r.map V.int).map λk=>(Yr p n Q).contains k).map V.bl) s=_
   rw[Yw];show PR.ok (V.bl<|(Yr p n Q).contains r) s=_;rw[hm r hr]])
 rw[pv,Zc hc Ze,Za];show po ((ZH<|P.map λr=>V.bl<|ZO p Q r).map λbs=>V.bl<|bs.all id) s=_
 rw[ZP P];show PR.ok (V.bl<|(P.map λr=>ZO p Q r).all id) s=_
 rw[cE];rfl
def wI(d:Nat){P Q:List Row}(s:DS)(hn:n<=6)(hP:pZ p n P)(hQ:pZ p n Q)(hp:p^n<=1000):CV (d+3) 29 [spV p n,Zb P,Zb Q] s=.ok (.bl<|P.all<|ZO p Q) s:=by
 refine Zj rfl (by decide) rfl ?_
 dsimp only[WG]
 rw[Zi<|ZE (WM (Zf rfl) (Zf rfl)<|yQ d s hn hQ hp) rfl];exact Zg<|Zv<|jh hP hQ hn rfl rfl
end
def qR{C:ZB}{ms os:List Nat}{O:Env}{s:DS}{t:E}{x l:List Sm}(h:pv C t O s=.ok (.bl ai) s):rvs C ms (.ite t x []::l) O os s=rvs C ms l O os s:=by
 rw[Zi (by rw[Yi<|ZZ h rfl,T8 (by simp),rvs])]
def GL{C:ZB}{ms os:List Nat}{O:Env}{s:DS}{m:Type}{t:List Nat}{it:W}{b:List Sm}{L:List m}{e:m->V}(I:List m->Env->Prop){s0:DS}(hw:pvw C it (hide os O) s=.ok (L.map e) s0)(hI:I L O)(ht:(t.any os.contains)=ai)
  (h:∀x l O s,I (x::l) O->∃ρ1 ρ' s',Zk t (e x) O=aa ρ1/\rvs C ms b ρ1 os s=.ok (.nx ρ' os) s'/\I l ρ') :
  ∃ρ' s',I [] ρ'/\rv C ms (.forr t it b) O os s=.ok (.nx ρ' os) s':=by
 rw[rv,hw,Za];clear hw
 induction L generalizing O s0 with
 |nil=>exact#[O,s0,hI,rfl]
 |cons x L ih=>
  obtain⟨ρ1,ρ',s',b1,b2,b3⟩:=h x L O s0 hI;obtain⟨ρ2,s2,c1,c2⟩:=ih b3;refine#[ρ2,s2,c1,?_];rw[aN,YH,T8 (by rw[ht];simp),b1,ZV,Za,b2,Za]
  exact c2
end K61
namespace Lv
open Ev Pv
noncomputable def Vo:Fn:=#[2,2,[.ite (.cmp .lt (.v 1)<|.blt .len [(.v 0)]) [.ret<|.ix (.v 0)<|.v 1] [],.ret<|.c<|.int 0]]
noncomputable def WW(c:Nat):Fn:=#[2,3,[.asg [2]<|.call c [(.v 0),(.v 1)],.ite (.cmp .ge (.v 2)<|.bin .pow (.c<|.int 10)<|.c<|.int 18) [.ret<|.lst [(.bin .sub (.v 2)<|.bin .pow (.c<|.int 10)<|.c<|.int 18),(.c<|.bl ag)]] [],.ret<|.lst [(.bin .mod (.v 2)<|.c<|.int 2147483647),(.c<|.bl ai)]]]
noncomputable def JV(nn:Nat)(M:Int)(st:Nat)(B:List Sm)(r:E):Fn:=#[1,nn,[.forr [1] (.rng1<|.blt .max2 [(.c<|.int 1),(.blt .min2 [(.blt .len [(.v 0)]),(.c<|.int M)])]) [.cel 2 st [(.v 0),(.v 1)] B],.ret r]]
def uE(ht:ca≠tk)(hC:F[ca]?=aa Vo){s:DS}{ns:List Int}{k:Int}(d:Nat)(k0:0<=k):∃c,Zl F tk (d+1) ca [.scr ns,.int k] s=.ok (.int c) s:=by
 by_cases c:k<ns.length
 .have hk:k.toNat<ns.length:=by lia
  refine#[ns[k.toNat],?_];simp[Zl,ht,hC,Vo,rvs,rv,pvs,Pv.pv.eq_1,Pv.pv.eq_2,pv,Xp,PR.bind,po,ZM,Yq,int2,Xs,VG,Yl,Zo,ixV,at',ixN,k0,c,hk,ofD]
 .refine#[0,?_]
  simp[Zl,ht,hC,Vo,rvs,rv,pvs,pv,Xp,PR.bind,po,ZM,Yq,int2,Xs,VG,Yl,Zo,ixV,at',ixN,k0,c,ofD]
def vg(ht:ca≠tk)(hts:st≠tk)(hC:F[ca]?=aa Vo)(hS:F[st]?=aa (WW ca)){s:DS}{ns:List Int}{k:Int}(d:Nat)(k0:0<=k):∃v d0,Zl F tk (d+2) st [.scr ns,.int k] s=.ok v s/\Vz v=aa d0/\okS d0.1 d0.2=ag:=by
 obtain⟨c,e⟩:=uE ht hC (s:=s) (ns:=ns) d k0;rw[show d+2=(d+1)+1 from rfl,Zl,T8 hts,hS]
 generalize Zl F tk (d+1)=C at e ⊢;by_cases h:10^18<=c
 .have h':(1000000000000000000:Int)<=c:=by simpa using h
  have o:okS (c-1000000000000000000) ag=ag:=by simp[okS];lia
  refine#[.lst [.int<|c-1000000000000000000,.bl ag],(c-1000000000000000000,ag),?_,by simp[Vz,o],o]
  simp[WW,rvs,rv,pvA,pvs,pv,Xp,PR.bind,po,ZM,Yq,int2,Zo,ofD,Yt,Pv.VZ,e,h',JD,Um,wf,ww,xn,lim]
 .have h':¬(1000000000000000000:Int)<=c:=by simpa using h
  have o:okS (c%2147483647) ai=ag:=by simp[okS];lia
  refine#[.lst [.int<|c%2147483647,.bl ai],(c%2147483647,ai),?_,by simp[Vz,o],o]
  simp[WW,rvs,rv,pvA,pvs,pv,Xp,PR.bind,po,ZM,Yq,int2,Zo,ofD,Yt,Pv.VZ,e,h',JD,Um,wf,ww,xn,lim]
theorem Q6(P:Env->Prop):∀(xs:List V),(∀x∈xs,∀O s,P O->∃ρ' s',P ρ'/\body x O [] s=.ok (.nx ρ' []) s')->∀O s,P O->∃ρ' s',P ρ'/\YH body xs O [] s=.ok (.nx ρ' []) s'
 |[],_,O,s,h=>#[O,s,h,rfl]
 |x::xs,hb,O,s,h=>by
  obtain⟨ρ1,s1,h1,e1⟩:=hb x (al ..) O s h;obtain⟨ρ2,s2,h2,e2⟩:=Q6 P xs (λy hy=>hb y<|ak _ hy) ρ1 s1 h1
  refine#[ρ2,s2,h2,?_];rw[YH,e1];exact e2
def We :hide [] O=O:=by
 unfold hide;apply iS
 intro i;rw[eF];cases O[i]?<;>rfl
def vj(h0:O[0]?=aa (aa<|.scr ns))(h1:O[1]?=aa (aa<|.int k))(hl:O.length=nn+3):(Wc 2 O).set 2 (aa .drw)=aa (.scr ns)::aa (.int k)::aa .drw::aA nn ab:=by
 match O,h0,h1,hl with
 |a::b::l,h0,h1,hl=>
  cases h0;cases h1;have:l.length=nn+1:=by simpa using hl
  unfold Wc;simp[WL,V.flat,this,bq]
def law_ofR{r:E}(d:Nat)(ht:ca≠tk)(hts:st≠tk)(htl:L≠tk)(hC:F[ca]?=aa Vo)(hS:F[st]?=aa (WW ca))(hL:F[L]?=aa (JV (nn+3) M st B r))(hM:M<2^62)(hr:∀O s,pv (Zl F tk<|d+2) r O s=.ok (.bl ag) s)
  (hv:∀(o:Option V)(k:Nat)(s:DS),∃O os s',rvs (Zl F tk<|d+2) (muts B) B (o::aa (.int k)::aa .drw::aA nn ab) [] s=.ok (.nx O os) s'/\O[0]?=aa o/\O.length=nn+3)(ns:List Int)(s:DS) :
  ∃S,Zl F tk (d+3) L [.scr ns] s=.ok (.bl ag) S:=by
 rw[show d+3=(d+2)+1 from rfl,Zl,T8 htl,hL]
 have hst:=λk (k0:0<=k) s=>vg ht hts hC hS (s:=s) (ns:=ns) (k:=k) d k0
 generalize Zl F tk (d+2)=C at hv hst hr ⊢;have hR:=hr;clear hr;have hr:∃m,pvw C (.rng1<|.blt .max2 [(.c<|.int 1),(.blt .min2 [(.blt .len [(.v 0)]),(.c<|.int M)])]) (ZM (nn+3) [.scr ns]) s=.ok (Z1 0 m) s:=by
  have e:pv C (.blt .max2 [(.c<|.int 1),(.blt .min2 [(.blt .len [(.v 0)]),(.c<|.int M)])]) (ZM (nn+3) [.scr ns]) s=.ok (.int<|if(if M<(ns.length:Int)then M else(ns.length:Int))>1 then(if M<(ns.length:Int)then M else(ns.length:Int))else 1) s:=by
   simp[pv,pvs,PR.bind,po,ZM,ofD,Xs,VG,blt2,Q2,Yl]
  rw[pvw,e];refine#[_,(T9 ?_ :)];unfold Xr;refine T5 ?_;split<;>split<;>lia
 obtain⟨m,hr⟩:=hr;have hm:muts (JV (nn+3) M st B r).body=muts B:=(cz _).trans<|cz _;simp only[hm];show ∃S,(if 1=1 then _ else _)=_
 rw[T9 rfl];unfold JV;simp only;rw[rvs,rv,We,hr]
 let body:V->Env->List Nat->DS->PR FlV:=λx O os s=>if([1].any os.contains)=ag then .no else(po (Zk [1] x O) s).bind λO s=>rvs C (muts B) [.cel 2 st [(.v 0),(.v 1)] B] O os s
 have hb:∀x∈Z1 0 m,∀O s,(O[0]?=aa (aa<|.scr ns)/\O.length=nn+3)->∃ρ' s',(ρ'[0]?=aa (aa<|.scr ns)/\ρ'.length=nn+3)/\body x O [] s=.ok (.nx ρ' []) s':=by
  intro x hx O s #[h0,hl];unfold Z1 at hx;obtain⟨k,_,rfl⟩:=az.mp hx;rw[Int.zero_add];obtain⟨v,d0,e1,e2,e3⟩:=hst (k:Int) (by lia) s
  obtain⟨ρ2,os2,s2,e4,h2,l2⟩:=hv (aa<|.scr ns) k d0;have q0:(O.set 1<|aa<|.int (k:Int))[0]?=aa (aa<|.scr ns):=by rw[aT (by decide)];exact h0
  have q1:(O.set 1<|aa<|.int (k:Int))[1]?=aa (aa<|.int (k:Int)):=bu (by lia)
  have ql:(O.set 1<|aa<|V.int (k:Int)).length=nn+3:=by rw[bg];exact hl
  have a:pvs C [(.v 0),(.v 1)] (O.set 1<|aa<|.int (k:Int)) s=.ok [.scr ns,.int (k:Int)] s:=by
   simp only[pvs,pv,q0,q1,PR.bind,po,Option.join];rfl
  refine#[ρ2.map WL,s,#[by rw[aV,h2];rfl,by rw[aw];exact l2],?_]
  show(rvs C (muts B) [.cel 2 st [(.v 0),(.v 1)] B] (O.set 1<|aa<|.int (k:Int)) [] s)=_;rw[rvs,rv,T9 (by rfl),a]
  show PR.bind (PR.bind (C st [.scr ns,.int (k:Int)] s) _) _=_;rw[e1];show PR.bind (PR.bind (po (Vz v) s) _) _=_;rw[e2];simp only[po,PR.bind,vj q0 q1 ql,e4,rvs]
 obtain⟨O,s',h,e⟩:=Q6 (body:=body) (λO=>O[0]?=aa (aa<|.scr ns)/\O.length=nn+3) (Z1 0 m) hb (ZM (nn+3) [.scr ns]) s #[rfl,by simp[ZM]]
 refine#[s',?_];show PR.bind (PR.bind (YH body (Z1 0 m) _ _ s) _) _=_;rw[e];show PR.bind (rvs C (muts B) [.ret r] O [] s') _=_;rw[rvs,rv,hR];rfl
end Lv
namespace K61
open Ev Pv Rw La
def qN{k:Nat}{xs:List V}(h:Tr (k+1) (.tup xs)):∀y∈xs,Tr k y:=λy hy=>by
 obtain⟨m,h⟩:=h;obtain⟨_,h⟩:=(ax _ _).mp<|show(ae (xs.length<=if k=3 then 15 else 13)&&xs.all (nr m k))=ag from h
 exact#[m,aL.mp h y hy]
def Jq{k:Nat}{x:V}(h:Tr k x):∀xs,x=.tup xs->xs.length<=1000:=λxs e=>by
 subst e;have:=xB h;omega
theorem G3:∀t:List Nat,(t.any ([]:List Nat).contains)=ai
 |[]=>rfl
 |i::t=>by rw[cF,G3 t];rfl
def vM{C:ZB}{s:DS}{m:Type}{ms t:List Nat}{it:W}{b:List Sm}{e:m->V}{q:m->Bool}{v:V}(I:Env->Prop){L:List m}{O:Env}(hw:pvw C it (hide [] O) s=.ok (L.map e) s)(h0:I O)
  (hb:∀x∈L,∀O,I O->∃ρ1,Zk t (e x) O=aa ρ1/\((q x=ag/\rvs C ms b ρ1 [] s=.ok (.ret v) s)\/(q x=ai/\∃ρ2,I ρ2/\rvs C ms b ρ1 [] s=.ok (.nx ρ2 []) s))) :
  (L.any q=ag->rv C ms (.forr t it b) O [] s=.ok (.ret v) s)/\(L.any q=ai->∃ρ',I ρ'/\rv C ms (.forr t it b) O [] s=.ok (.nx ρ' []) s):=by
 rw[rv,hw,Za];clear hw;have hn:=G3 t
 induction L generalizing O with
 |nil=>exact#[λz=>(by cases z),λ_=>#[O,h0,rfl]]
 |cons x L ih=>
  obtain⟨ρ1,h1,h2⟩:=hb x (al ..) O h0;rw[aN,YH,T8 (by rw[hn];simp),h1,ZV,Za,cF]
  rcases h2 with⟨hq,h2⟩|⟨hq,ρ2,h3,h2⟩
  .rw[hq,h2,Za]
   exact#[λ_=>rfl,λz=>(by cases z)]
  .rw[hq,h2,Za,eC]
   exact ih h3 λy hy=>hb y<|ak _ hy
section
variable{p n:Nat}[Base p]
noncomputable def good(p:Nat)(q:List Row×List Row):Bool:=!decide (q.1=q.2)&&q.1.all (ZO p q.2)
noncomputable def chB(p:Nat):List (List Row)->Bool
 |[]=>ag
 |P::L=>(match L.head? with|some Q=>good p (P,Q)|none=>ag)&&chB p L
theorem UF:∀L:List (List Row),chB p L=(L.zip L.tail).all (good p)
 |[]=>rfl
 |[P]=>rfl
 |P::Q::L=>by
  have:=UF (Q::L);rw[chB,this];rfl
theorem GJ{M:List Row}:∀{L:List (List Row)},chB p L=ag->(∀P,L.getLast? = aa P->good p (P,M)=ag)->chB p (L++[M])=ag
 |[],_,_=>rfl
 |[P],_,h=>by
  show(good p (P,M)&&(ag&&ag))=ag;rw[h P rfl];rfl
 |P::Q::L,h1,h2=>by
  obtain⟨a,b⟩:=(ax _ _).mp<|show(good p (P,Q)&&chB p (Q::L))=ag from h1
  show(good p (P,Q)&&chB p ((Q::L)++[M]))=ag;rw[a,GJ b λR hR=>h2 R (by rw[List.getLast?_cons_cons];exact hR)];rfl
def ya{P Q:List Row}(hP:pZ p n P)(hQ:pZ p n Q)(h:P.all (ZO p Q)=ag)(hl:Q.length<=P.length):P=Q:=by
 have:=xa fld.one0 hP.pn.rf hQ.pn.rf<|(Yn hP hQ).mp h;rw[U7,U7]at this;exact eqP hP hQ λu=>#[(Yn hP hQ).mp h u,this.2 (by omega) u]
def xb{P Q:List Row}(hP:pZ p n P)(hQ:pZ p n Q):(ae ((Q.length:Int)<=(P.length:Int)) || !P.all (ZO p Q)) = !good p (P,Q):=by
 unfold good;cases h:P.all (ZO p Q)with
 |false=>simp
 |true=>
  have hl:=zD hP hQ h;rw[la,k8,hX,Bool.not_not];by_cases c:P=Q
  .subst c;simp
  .rw[T4 c,T4]
   intro z;exact c<|ya hP hQ h (by omega)
theorem GB:∀{xs:List V},xs.all (isP p n)=ag->∃Ps:List (List Row),xs=Ps.map Zb/\∀P∈Ps,pZ p n P
 |[],_=>#[[],rfl,λ_ h=>by cases h]
 |x::xs,h=>by
  rw[di,ax]at h;obtain⟨Ps,rfl,hR⟩:=GB h.2;obtain⟨P,rfl,hP⟩:=WX.mp h.1;refine#[P::Ps,rfl,λx hx=>?_]
  rcases ar.mp hx with rfl|hx
  .exact hP
  .exact hR x hx
theorem Up:∀(a b:List (List Row)),((a.map Zb).zip<|b.map Zb).map (λq=>V.tup [q.1,q.2])=(a.zip b).map λq=>V.tup [Zb q.1,Zb q.2]
 |[],_=>rfl
 |_::_,[]=>rfl
 |x::a,y::b=>by simp only[aN,bI];rw[Up a b]
def Vy{C:ZB}{O:Env}{s:DS}{Ps:List (List Row)}(h:O[1]?=aa (aa<|.tup<|Ps.map Zb)):pvw C (.zip (.v 1)<|.sl (.v 1) (aa<|.c<|.int 1) ab) O s=.ok ((Ps.zip Ps.tail).map λq=>V.tup [Zb q.1,Zb q.2]) s:=by
 rw[pvw,Zf h,Za,Xw (Zf h) ZQ,Za,QU];show PR.ok _ s=_;rw[<-hU,Up]
def zd{P Q:List Row}{Ps:List (List Row)}(h:(P,Q)∈Ps.zip Ps.tail):P∈Ps/\Q∈Ps:=#[(cR h).1,List.mem_of_mem_tail (cR h).2]
def XJ(d:Nat){Ps:List (List Row)}(s:DS)(hn:n<=6)(hP:∀P∈Ps,pZ p n P)(hl:Ps.length<=15):CV (d+6) 20 [spV p n,.tup<|Ps.map Zb] s=.ok (.bl<|chB p Ps) s:=by
 refine Zj rfl (by decide) rfl ?_
 show rvs (CV<|d+5) [] Yc.body [aa<|spV p n,aa<|.tup<|Ps.map Zb] [] s=_
 dsimp only[Yc]
 have hc1:=Zz (C:=CV<|d+5) (cap:=[0]) (nl:=1) (t:=[0]) (it:=.of<|.v 1) (elt:=.call 19 [(.v 1),(.v 0)]) (O:=[aa<|spV p n,aa<|.tup<|Ps.map Zb]) (s:=s) (l:=Ps) (e:=Zb) (g:=λv=>V.bl ag)
  (by rw[pvw,Zf rfl];rfl) (by unfold lim;omega) (λv hv=>#[[aa<|Zb v,aa<|spV p n],rfl,WM (Zf rfl) (Zf rfl)<|vQ (d+2) s hn<|hP v hv])
 have ht:=ZP (g:=λ_:List Row=>ag) Ps
 have e1:pv (CV<|d+5) (.blt .all [(.comp1 [0] 1 [0] (.of<|.v 1) []<|.call 19 [(.v 1),(.v 0)])]) [aa<|spV p n,aa<|.tup<|Ps.map Zb] s=.ok (.bl ag) s:=by
  rw[pv,Zc hc1 Ze,Za];show po ((ZH<|Ps.map λ_=>V.bl ag).map λbs=>V.bl<|bs.all id) s=_
  rw[ht];show PR.ok (V.bl<|(Ps.map λ_=>ag).all id) s=_
  rw[cE,show Ps.all (id∘λ_=>ag)=ag from aL.mpr λ_ _=>rfl]
 have e2:pv (CV<|d+5) (.not<|.isi (.v 1) [.tuple]) [aa<|spV p n,aa<|.tup<|Ps.map Zb] s=.ok (.bl ai) s:=by rw[pv,pv,Zf rfl];rfl
 rw[guard<|QJ e2<|XW e1];have hc2:=Zz (C:=CV<|d+5) (cap:=[0]) (nl:=2) (t:=[0,1]) (it:=.zip (.v 1)<|.sl (.v 1) (aa<|.c<|.int 1) ab) (elt:=.and (.cmp .ne (.v 0)<|.v 1)<|.call 13 [(.v 2),(.v 0),(.v 1)]) (O:=[aa<|spV p n,aa<|.tup<|Ps.map Zb]) (s:=s) (g:=λq=>V.bl<|good p q)
  (Vy rfl) (by rw[cT];unfold lim;omega) (λq hq=>#[[aa<|Zb q.1,aa<|Zb q.2,aa<|spV p n],rfl,by
   obtain⟨a,b⟩:=zd hq;exact wa (ul (Zf rfl)<|Zf rfl)<|qx (Zf rfl) (Zf rfl) (Zf rfl)<|yf d s hn (hP _ a)<|hP _ b])
 have ht:=ZP (g:=good p)<|Ps.zip Ps.tail;refine Zg<|Zv ?_;rw[pv,Zc hc2 Ze,Za];show po ((ZH<|(Ps.zip Ps.tail).map λq=>V.bl<|good p q).map λbs=>V.bl<|bs.all id) s=_
 rw[ht,UF];show PR.ok (V.bl<|((Ps.zip Ps.tail).map<|good p).all id) s=_;rw[cE];rfl
def yd(d:Nat){x:V}(s:DS)(hn:n<=6)(hp:p^n<=1000)(hx:Tr 4 x):∃b,CV (d+6) 20 [spV p n,x] s=.ok (.bl b) s/\CV (d+6) 30 [spV p n,x] s=.ok (.bl b) s:=by
 rcases VC (wT hx)with⟨xs,rfl⟩|⟨ha,no⟩
 case inr=>
  refine#[ai,Zj rfl (by decide) rfl ?_,Zj rfl (by decide) rfl ?_]
  .show rvs (CV<|d+5) [] Yc.body [aa<|spV p n,aa x] [] s=_
   dsimp only[Yc]
   exact Zg (by simp[pvE,ha])
  .show rvs (CV<|d+5) [] Z9.body [aa<|spV p n,aa x,ab,ab,ab] [] s=_
   dsimp only[Z9]
   exact Zg (by simp[pvE,ha])
 have hl:=xB hx;have hm:=qN hx;have g0:∀O:Env,O[1]?=aa (aa<|.tup xs)->pv (CV<|d+5) (.not<|.isi (.v 1) [.tuple]) O s=.ok (.bl ai) s:=λO h=>by rw[pv,pv,Zf h];rfl
 obtain⟨f1,f2⟩:=zf (C:=CV<|d+5) (ms:=[]) (s:=s) (i:=2) (it:=.of<|.v 1) (b:=[.ite (.not<|.call 27 [(.v 0),(.v 2)]) [.ret<|.c<|.bl ai] []]) (L:=xs) (e:=id) (q:=λv=>!isP p n v) (v:=.bl ai) (O:=λo=>[aa<|spV p n,aa<|.tup xs,o,ab,ab]) ab
  (by rw[gO];show pvw _ _ [aa<|spV p n,aa<|.tup xs,ab,ab,ab] s=_;rw[pvw,Zf rfl];rfl) (λ_ _=>rfl) (λv hv=>by
   have e:=Jv (p:=p) (n:=n) (d+2) s hn (wT<|hm v hv)<|Jq<|hm v hv;have e1:=XW<|WM (O:=[aa<|spV p n,aa<|.tup xs,aa v,ab,ab]) (Zf (i:=0) rfl) (Zf (i:=2) rfl) e;show rvs _ _ _ [aa<|spV p n,aa<|.tup xs,aa v,ab,ab] _ _=if _ then _ else PR.ok (FlV.nx [aa<|spV p n,aa<|.tup xs,aa v,ab,ab] []) s
   cases hb:isP p n v with
   |false=>
    rw[hb]at e1;rw[T9 (by simp[hb])]
    refine Zg ?_;rw[Yi<|ZZ e1 rfl,cM,T9 rfl];exact Zg<|Zv (by rw[pv];rfl)
   |true=>
    rw[hb]at e1;rw[T8 (by simp[hb]),guard e1,rvs])
 cases hall:xs.all (isP p n)with
 |false=>
  have hany:(xs.any λv=>!isP p n v)=ag:=by
   rw[i6]at hall;obtain⟨v,hv,h⟩:=hall;exact cq.mpr #[v,hv,by simpa using h]
  refine#[ai,Zj rfl (by decide) rfl ?_,Zj rfl (by decide) rfl ?_]
  .show rvs (CV<|d+5) [] Yc.body [aa<|spV p n,aa<|.tup xs] [] s=_
   dsimp only[Yc]
   have hc1:=Zz (C:=CV<|d+5) (cap:=[0]) (nl:=1) (t:=[0]) (it:=.of<|.v 1) (elt:=.call 19 [(.v 1),(.v 0)]) (O:=[aa<|spV p n,aa<|.tup xs]) (s:=s) (l:=xs) (e:=id) (g:=λv=>V.bl<|isP p n v)
    (by rw[gO,pvw,Zf rfl];rfl) (by unfold lim;omega) (λv hv=>#[[aa v,aa<|spV p n],rfl,WM (Zf rfl) (Zf rfl)<|JC (d+2) s hn (wT<|hm v hv)<|Jq<|hm v hv])
   have ht:=ZP (g:=λv:V=>isP p n v) xs
   have e1:pv (CV<|d+5) (.blt .all [(.comp1 [0] 1 [0] (.of<|.v 1) []<|.call 19 [(.v 1),(.v 0)])]) [aa<|spV p n,aa<|.tup xs] s=.ok (.bl ai) s:=by
    rw[pv,Zc hc1 Ze,Za];show po ((ZH<|xs.map λv=>V.bl<|isP p n v).map λbs=>V.bl<|bs.all id) s=_
    rw[ht];show PR.ok (V.bl<|(xs.map λv=>isP p n v).all id) s=_
    rw[cE,show xs.all (id∘λv=>isP p n v)=ai from hall]
   refine Zg ?_;rw[Yi<|ZZ (QJ (g0 _ rfl)<|XW e1) rfl,cM,T9 rfl];exact Zg<|Zv (by rw[pv];rfl)
  .show rvs (CV<|d+5) [] Z9.body [aa<|spV p n,aa<|.tup xs,ab,ab,ab] [] s=_
   dsimp only[Z9]
   rw[guard<|g0 _ rfl];exact Zg<|f1 hany
 |true=>
  obtain⟨Ps,rfl,hP⟩:=GB hall;have hany:((Ps.map Zb).any λv=>!isP p n v)=ai:=by
   rw[dZ];intro v hv;rw[aL.mp hall v hv];simp
  rw[aw]at hl;obtain⟨o,f3⟩:=f2 hany;refine#[chB p Ps,XJ d s hn hP hl,Zj rfl (by decide) rfl ?_]
  show rvs (CV<|d+5) [] Z9.body [aa<|spV p n,aa<|.tup<|Ps.map Zb,ab,ab,ab] [] s=_
  dsimp only[Z9]
  rw[guard<|g0 _ rfl,Zi f3];obtain⟨h1,h2⟩:=vM (C:=CV<|d+5) (ms:=[]) (s:=s) (t:=[3,4]) (it:=.zip (.v 1)<|.sl (.v 1) (aa<|.c<|.int 1) ab) (b:=[.ite (.or (.cmp .ge (.blt .len [(.v 3)])<|.blt .len [(.v 4)])<|.not<|.call 29 [(.v 0),(.v 3),(.v 4)]) [.ret<|.c<|.bl ai] []]) (L:=Ps.zip Ps.tail) (q:=λq=>!good p q) (v:=.bl ai) (O:=[aa<|spV p n,aa<|.tup<|Ps.map Zb,o,ab,ab])
   (λO=>∃a b,O=[aa<|spV p n,aa<|.tup<|Ps.map Zb,o,a,b]) (Vy rfl) #[ab,ab,rfl] (λq hq O hI=>by
    obtain⟨a,b,rfl⟩:=hI;obtain⟨m1,m2⟩:=zd hq;refine#[[aa<|spV p n,aa<|.tup<|Ps.map Zb,o,aa<|Zb q.1,aa<|Zb q.2],rfl,?_];have c1:pv (CV<|d+5) (.cmp .ge (.blt .len [(.v 3)])<|.blt .len [(.v 4)]) [aa<|spV p n,aa<|.tup<|Ps.map Zb,o,aa<|Zb q.1,aa<|Zb q.2] s=.ok (.bl<|ae<|(q.2.length:Int)<=(q.1.length:Int)) s:=by
     rw[pv,Xt<|Zf rfl,Za,Xt<|Zf rfl,Za];rfl
    have c2:=XW<|qx (O:=[aa<|spV p n,aa<|.tup<|Ps.map Zb,o,aa<|Zb q.1,aa<|Zb q.2]) (Zf (i:=0) rfl) (Zf (i:=3) rfl) (Zf (i:=4) rfl)<|wI (d+2) s hn (hP _ m1) (hP _ m2) hp;have c3:pv (CV<|d+5) (.or (.cmp .ge (.blt .len [(.v 3)])<|.blt .len [(.v 4)])<|.not<|.call 29 [(.v 0),(.v 3),(.v 4)]) [aa<|spV p n,aa<|.tup<|Ps.map Zb,o,aa<|Zb q.1,aa<|Zb q.2] s=.ok (.bl<|!good p q) s:=by
     rw[<-xb (hP _ m1) (hP _ m2),pv,c1,Za];cases ae ((q.2.length:Int)<=(q.1.length:Int))with|true=>rfl|false=>exact c2
    cases hg:good p q with
    |false=>
     rw[hg]at c3;refine .inl #[rfl,Zg ?_];rw[Yi<|ZZ c3 rfl,cM,T9 rfl];exact Zg<|Zv (by rw[pv];rfl)
    |true=>
     rw[hg]at c3;exact .inr #[rfl,_,#[_,_,rfl],by rw[guard c3,rvs]])
  rw[UF];cases hz:(Ps.zip Ps.tail).all (good p)with
  |false=>
   refine Zg<|h1 ?_;rw[i6]at hz;obtain⟨v,hv,h⟩:=hz;exact cq.mpr #[v,hv,by simpa using h]
  |true=>
   obtain⟨ρ',_,h3⟩:=h2 (by
    rw[dZ];intro v hv;rw[aL.mp hz v hv];simp)
   rw[Zi h3];exact Zg<|Zv (by rw[pv];rfl)
end
section
variable{C:ZB}{ms os:List Nat}{O:Env}{s s':DS}{e a b:E}{i j:Nat}{x:V}{xs:List V}
def GP{o:Nat}{v:V}(h:pv C e (hide (o::os) O) s=.ok v s')(hm:(ms.contains i&&fresh e)=ai):rv C ms (.asg [i] e) O (o::os) s=.ok (.nx (O.set i<|aa v) ((o::os).filter (· != i))) s':=by
 have h1:pvA C e O (o::os) s=.ok v s':=by unfold pvA;dsimp only;rw[h]
 rw[rv,h1,Za,T8 (by rw[hm];simp)]
def G0{xs:List V}(h:pv C e O s=.ok (.lst xs) s')(hm:(ms.contains i&&fresh e)=ag)(hf:ZU xs=ag)(hi:i<O.length):rv C ms (.asg [i] e) O [] s=.ok (.nx (O.set i<|aa<|.lst xs) [i]) s':=by
 have h1:pvA C e O [] s=.ok (.lst xs) s':=h;rw[rv,h1,Za,T9 hm];show(if ZU xs=ag/\i<O.length then _ else _)=_
 rw[T9 #[hf,hi]];rfl
def ne_str{t:PySem.Str}(h1:pv C a O s=.ok (.str t) s)(h2:pv C b O s=.ok (.str t) s):pv C (.cmp .ne a b) O s=.ok (.bl ai) s:=by
 rw[pv,h1,Za,h2,Za];show po (aa<|V.bl !(ae<|t=t)) s=_;rw[T5 rfl];rfl
end
theorem YK:∀L:List (List Row),ZU (L.map Zb)=ag
 |[]=>rfl
 |P::L=>by
  show(V.flat (Zb P)&&ZU (L.map Zb))=ag;rw[YK L,hX];exact XB P
section
variable{p n:Nat}[Base p]
structure ChI(p n:Nat)[Base p](P:List Row)(Ps:List (List Row)):Prop where
 part:pZ p n P
 all:∀Q∈Ps,pZ p n Q
 ch:chB p Ps=ag
 last:∀L,Ps.getLast? = aa L->L.all (ZO p P)=ag
 len:Ps.length<=P.length+1
def ChI.grow{P M:List Row}{Ps:List (List Row)}(h:ChI p n P Ps)(hM:pZ p n M)(hs:P.all (ZO p M)=ag)(hl:P.length<M.length):ChI p n M Ps/\ChI p n M (Ps++[M]):=by
 have up:∀L,Ps.getLast? = aa L->L.all (ZO p M)=ag:=λL e=>
  have hL:=h.all L<|gP e
  (Yn hL hM).mpr λu z=>(Yn h.part hM).mp hs u<|(Yn hL h.part).mp (h.last L e) u z
 have hn:=h.len;refine#[#[hM,h.all,h.ch,up,by omega],hM,λQ hQ=>?_,GJ h.ch λL e=>?_,λL e=>?_,by rw[aP,dj];omega]
 .rcases bw.mp hQ with z|z
  .exact h.all Q z
  .rw[aK.mp z];exact hM
 .have hL:=h.all L (gP e)
  have:=zD hL h.part<|h.last L e;show(!decide (L=M)&&L.all (ZO p M))=ag;rw[up L e,T4 λz=>by rw[z]at this;omega];rfl
 .rw[List.getLast?_concat]at e
  cases e;exact aL.mpr λr hr=>WV hM hr
noncomputable def v9:List Sm:=[.asg [5]<|.call 5 [(.v 1),(.bin .add (.v 2)<|.tup [(.call 6 [(.v 0),(.v 1)])])],
  .ite (.cmp .gt (.blt .len [(.v 5)])<|.blt .len [(.v 2)]) [.asg [2]<|.v 5,
  .ite (.cmp .gt (.call 2 [(.v 0),(.c<|.int 3)])<|.c<|.int 0) [.ex<|.mt .append (.v 3) [(.v 2)]] []] []]
def JL(d:Nat){P:List Row}{Ps:List (List Row)}{a4 a5:Option V}(s:DS)(hn:n<=6)(h:ChI p n P Ps):∃P' Ps' b5 s',rvs (CV<|d+2) [3] v9 [aa .drw,aa<|spV p n,aa<|Zb P,aa<|.lst<|Ps.map Zb,a4,a5] [3] s=.ok (.nx [aa .drw,aa<|spV p n,aa<|Zb P',aa<|.lst<|Ps'.map Zb,a4,b5] [3]) s'/\ChI p n P' Ps':=by
 let O (P:List Row) (Ps:List (List Row)) (a5:Option V):Env:=[aa .drw,aa<|spV p n,aa<|Zb P,aa<|.lst<|Ps.map Zb,a4,a5]
 have hd:=dsum h.part;have hh:∀P Ps a5,hide [3] (O P Ps a5)=[aa .drw,aa<|spV p n,aa<|Zb P,ab,a4,a5]:=λP Ps a5=>by simp[hide,List.mapIdx_cons,O]
 obtain⟨r,s1,e1,hr⟩:=XQ (p:=p) d s hn;have hR:∀x∈P++[r],Zh p n x:=λx hx=>(bw.mp hx).elim (h.part.row x) λz=>by rw[aK.mp z];exact hr
 obtain⟨M,e2,hS⟩:=Xk d (v:=.tup<|(P++[r]).map Zd) s1 hn hR (by rw[aP,dj];omega) rfl
 have e3:pv (CV<|d+2) (.bin .add (.v 2)<|.tup [(.call 6 [(.v 0),(.v 1)])]) [aa .drw,aa<|spV p n,aa<|Zb P,ab,a4,a5] s=.ok (.tup<|(P++[r]).map Zd) s1:=by
  rw[pv,Zf rfl,Za,pv,Zc (Zr (Zc (Zf rfl)<|Zc (Zf rfl) Ze) e1) Ze,Za,T9 (by show 1<=lim;decide),Za]
  show(if(P.map Zd).length+1<=lim then PR.ok (V.tup<|P.map Zd++[Zd r]) s1 else .no)=_
  rw[T9 (by rw[aw];unfold lim;omega),cU];rfl
 have hPM:P.all (ZO p M)=ag:=aL.mpr λx hx=>hS.holds x<|cu _ hx
 have e4:pv (CV<|d+2) (.call 5 [(.v 1),(.bin .add (.v 2)<|.tup [(.call 6 [(.v 0),(.v 1)])])]) (hide [3]<|O P Ps a5) s=.ok (Zb M) s1:=by
  rw[hh];exact Zr (Zc (Zf rfl)<|Zc e3 Ze) e2
 unfold v9;rw[show[aa .drw,aa<|spV p n,aa<|Zb P,aa<|.lst<|Ps.map Zb,a4,a5]=O P Ps a5 from rfl,Zi<|GP e4 rfl]
 show ∃P' Ps' b5 s',rvs _ _ _ (O P Ps<|aa<|Zb M) [3] s1=_/\_;have e5:pv (CV<|d+2) (.cmp .gt (.blt .len [(.v 5)])<|.blt .len [(.v 2)]) (O P Ps<|aa<|Zb M) s1=.ok (.bl<|ae<|(P.length:Int)<(M.length:Int)) s1:=by
  rw[pv,Xt<|Zf rfl,Za,Xt<|Zf rfl,Za];rfl
 by_cases c:P.length<M.length
 case neg=>
  rw[T4<|by omega]at e5
  exact#[P,Ps,_,s1,by rw[qR e5,rvs],h]
 rw[T5<|by omega]at e5
 obtain⟨g1,g2⟩:=h.grow hS.part hPM c;have e6:pv (CV<|d+2) (.v 5) (hide [3]<|O P Ps<|aa<|Zb M) s1=.ok (Zb M) s1:=by rw[hh];exact Zf rfl
 obtain⟨v,s2,t1,_,_⟩:=ZG (d+1) s1 (m:=3) (i:=0) (O:=O M Ps<|aa<|Zb M) rfl ZQ (by decide) (by decide)
 have e7:pv (CV<|d+2) (.cmp .gt (.call 2 [(.v 0),(.c<|.int 3)])<|.c<|.int 0) (O M Ps<|aa<|Zb M) s1=.ok (.bl<|ae<|0<v) s2:=by
  rw[pv,t1,Za,ZQ,Za];rfl
 have run:∀{ρ' s'},rvs (CV<|d+2) [3] [.ite (.cmp .gt (.call 2 [(.v 0),(.c<|.int 3)])<|.c<|.int 0) [.ex<|.mt .append (.v 3) [(.v 2)]] []] (O M Ps<|aa<|Zb M) [3] s1=.ok (.nx ρ' [3]) s'->
   rvs (CV<|d+2) [3] [.ite (.cmp .gt (.blt .len [(.v 5)])<|.blt .len [(.v 2)]) [.asg [2]<|.v 5,.ite (.cmp .gt (.call 2 [(.v 0),(.c<|.int 3)])<|.c<|.int 0) [.ex<|.mt .append (.v 3) [(.v 2)]] []] []] (O P Ps<|aa<|Zb M) [3] s1=.ok (.nx ρ' [3]) s':=λ{ρ' s'} q=>by
  rw[Zi (ρ':=ρ') (os':=[3]) (s':=s') (by rw[Yi<|ZZ e5 rfl,T9 rfl,Zi<|GP e6 rfl];exact q),rvs]
 by_cases cv:0<v
 case neg=>
  rw[T4 cv]at e7;refine#[M,Ps,_,s2,run (ρ':=O M Ps<|aa<|Zb M) ?_,g1];rw[Zi (ρ':=O M Ps<|aa<|Zb M) (os':=[3]) (s':=s2) (by rw[Yi<|ZZ e7 rfl,T8 (by simp),rvs]),rvs]
 rw[T5 cv]at e7;refine#[M,Ps++[M],_,s2,run (ρ':=O M (Ps++[M])<|aa<|Zb M) ?_,g2];have hl:=h.len;have e8:rv (CV<|d+2) [3] (.ex<|.mt .append (.v 3) [(.v 2)]) (O M Ps<|aa<|Zb M) [3] s2=.ok (.nx (O M (Ps++[M])<|aa<|Zb M) [3]) s2:=by
  rw[rv];show(if ag=ag then(PR.ok (Ps.map Zb) s2).bind λxs s=>(pv (CV<|d+2) (.v 2) (O M Ps<|aa<|Zb M) s).bind _ else _)=_
  rw[T9 rfl,Za,Zf (v:=Zb M) rfl,Za];show(if V.flat (Zb M)=ag/\(Ps.map Zb).length<lim then _ else _)=_
  rw[T9 #[XB M,by rw[aw];unfold lim;omega]]
  show PR.ok (FlV.nx [aa .drw,aa<|spV p n,aa<|Zb M,aa<|.lst<|Ps.map Zb++[Zb M],a4,aa<|Zb M] [3]) s2=_;rw[show Ps.map Zb++[Zb M]=(Ps++[M]).map Zb by rw[cU];rfl]
 rw[Zi (ρ':=O M (Ps++[M])<|aa<|Zb M) (os':=[3]) (s':=s2) (by rw[Yi<|ZZ e7 rfl,T9 rfl,Zi e8,rvs]),rvs]
def yh(d:Nat)(s:DS)(hn:n<=6):∃Ps s',CV (d+3) 7 [.drw,spV p n] s=.ok (.tup<|Ps.map Zb) s'/\(∀P∈Ps,pZ p n P)/\chB p Ps=ag/\Ps.length<=7:=by
 obtain⟨v,s1,t1,t2,t3⟩:=ZG (d+1) s (m:=2) (i:=0) (O:=[aa .drw,aa<|spV p n,aa<|Zb [],ab,ab,ab]) rfl ZQ (by decide) (by decide)
 have nil:pZ p n []:=pZ.nil;obtain⟨Ps,e1,hI⟩:∃Ps,pv (CV<|d+2) (.bin .mul (.lst [(.tup [])])<|.call 2 [(.v 0),(.c<|.int 2)]) [aa .drw,aa<|spV p n,aa<|Zb [],ab,ab,ab] s=.ok (.lst<|Ps.map Zb) s1/\ChI p n [] Ps:=by
  have e0:pv (CV<|d+2) (.lst [(.tup [])]) [aa .drw,aa<|spV p n,aa<|Zb [],ab,ab,ab] s=.ok (.lst [.tup []]) s:=by simp[pvE]
  obtain rfl|rfl:v=0\/v=1:=by omega
  .exact#[[],by rw[pv,e0,Za,t1,Za];rfl,nil,λ_ h=>(by cases h),rfl,λ_ h=>(by cases h),by simp]
  .exact#[[[]],by rw[pv,e0,Za,t1,Za];rfl,nil,λQ h=>by rw[aK.mp h];exact nil,rfl,λL h=>(by cases h;rfl),by simp]
 have hI0:=hI;obtain⟨ρ',s2,⟨P,Qs,a4,a5,rfl,hC⟩,e2⟩:=GL (C:=CV<|d+2) (ms:=[3]) (os:=[3]) (t:=[4]) (it:=.rng1<|.bin .mul (.c<|.int 2)<|.ix (.v 1)<|.c<|.int 1) (b:=v9) (L:=aY<|2*n) (e:=Zm) (O:=[aa .drw,aa<|spV p n,aa<|Zb [],aa<|.lst<|Ps.map Zb,ab,ab]) (s:=s1) (s0:=s1)
  (λ_ O=>∃P Ps a4 a5,O=[aa .drw,aa<|spV p n,aa<|Zb P,aa<|.lst<|Ps.map Zb,a4,a5]/\ChI p n P Ps)
  (by
   show pvw _ _ [aa .drw,aa<|spV p n,aa<|Zb [],ab,ab,ab] s1=_;have f1:=ZI (a:=2) (by omega) (by omega)
   have f2:=ZI (a:=(n:Int)) (by omega) (by omega)
   have g:pv (CV<|d+2) (.bin .mul (.c<|.int 2)<|.ix (.v 1)<|.c<|.int 1) [aa .drw,aa<|spV p n,aa<|Zb [],ab,ab,ab] s1=.ok (.int ((2*n:Nat):Int)) s1:=by
    rw[pv,ZQ,Za,ix1 rfl,Za,Yt];show(if(fits 2&&fits (n:Int))=ag then PR.ok (V.int<|2*(n:Int)) s1 else .no)=_
    rw[f1,f2,hX,T9 rfl,show((2*n:Nat):Int)=2*(n:Int) by omega]
   exact Y2 g<|by omega) #[[],Ps,ab,ab,rfl,hI] rfl (λx l O s hI=>by
   obtain⟨P,Ps,a4,a5,rfl,hC⟩:=hI;obtain⟨P',Ps',b5,s',q1,q2⟩:=JL d (a4:=aa<|Zm x) (a5:=a5) s hn hC;exact#[_,_,s',rfl,q1,P',Ps',_,b5,rfl,q2])
 have hl:=hC.len;have hd:=dsum hC.part;refine#[Qs,s2,Zj rfl (by decide) rfl ?_,hC.all,hC.ch,by omega]
 show rvs (CV<|d+2) [3] Xd.body [aa .drw,aa<|spV p n,ab,ab,ab,ab] [] s=_
 dsimp only[Xd]
 rw[Zi<|ZE (v:=Zb []) (by rw[pv,Ze];rfl) rfl]
 show rvs _ _ _ [aa .drw,aa<|spV p n,aa<|Zb [],ab,ab,ab] _ _=_;rw[Zi<|G0 e1 rfl (YK Ps) (by show 3<6;decide)]
 show rvs _ _ _ [aa .drw,aa<|spV p n,aa<|Zb [],aa<|.lst<|Ps.map Zb,ab,ab] [3] _=_;rw[show[Sm.asg [5]<|.call 5 [(.v 1),(.bin .add (.v 2)<|.tup [(.call 6 [(.v 0),(.v 1)])])],
  .ite (.cmp .gt (.blt .len [(.v 5)])<|.blt .len [(.v 2)]) [.asg [2]<|.v 5,
  .ite (.cmp .gt (.call 2 [(.v 0),(.c<|.int 3)])<|.c<|.int 0) [.ex<|.mt .append (.v 3) [(.v 2)]] []] []]=v9 from rfl,Zi e2]
 exact Zg<|Zv (by rw[pv,Zc (Zf rfl) Ze];rfl)
end
def X1{m:Bool}{xs:List V}(hl:xs.length<=15)(h:∀x∈xs,nr m 3 x=ag):nr m 4 (.tup xs)=ag:=by
 show(ae (xs.length<=15)&&xs.all (nr m 3))=ag;rw[ax,T3];exact#[hl,aL.mpr h]
section
variable{p n:Nat}[Base p]
def X2{m:Bool}{P:List Row}(hn:n<=6)(hP:pZ p n P):nr m 2 (Zb P)=ag:=by
 have:=dsum hP;exact Z0 (by rw[aw];omega) λx hx=>by
  obtain⟨r,hr,rfl⟩:=az.mp hx;exact UX hn<|hP.row r hr
def jD(d:Nat)(s:DS):∃x s',CV (d+4) 23 [.drw,spV p n,.tup []] s=.ok x s'/\Tr 4 x:=by
 let O:Env:=[aa .drw,aa<|spV p n,aa<|.tup [],ab,ab,ab,ab,ab]
 obtain⟨vs,e2,l2,q2⟩:=Y9 (Q:=Tr 4) (C:=CV<|d+3) (O:=O) (s:=s) (es:=[(.lst []),(.c .non),(.tup [(.tup [])]),(.tup [(.tup []),(.tup [])]),(.tup [(.tup [(.tup [(.tup [(.c<|.int 1)])])])]),.dnew,(.c<|.str<|aU "none")]) (by decide) (λe he=>by
  simp only[ar,aR,or_false]at he;rcases he with rfl|rfl|rfl|rfl|rfl|rfl|rfl
  .exact#[.lst [],by simp[pvE],ag,rfl]
  .exact#[.non,by rw[pv];rfl,ag,rfl]
  .exact#[.tup [.tup []],by simp[pvE],ag,rfl]
  .exact#[.tup [.tup [],.tup []],by simp[pvE],ag,rfl]
  .exact#[.tup [.tup [.tup [.tup [.int 1]]]],Z7<|Z7<|Z7<|Z7 ZQ,ag,rfl]
  .exact#[.dct<|.inl [],by rw[pv],ai,rfl]
  .exact#[.str<|aU "none",by rw[pv];rfl,ag,by decide +kernel])
 obtain⟨v,s1,t1,t2,t3⟩:=ZG (d+2) s (m:=7) (i:=0) (O:=O) rfl ZQ (by decide) (by decide)
 obtain⟨x,hx,e3⟩:=pick e2 t1 t2 (by rw[l2];exact t3)
 refine#[x,s1,Zj rfl (by decide) rfl ?_,q2 x hx]
 show rvs (CV<|d+3) _ ZX.body O [] s=_;have g:pv (CV<|d+3) (.cmp .eq (.v 2)<|.tup []) O s=.ok (.bl ag) s:=by
  rw[pv,Zf rfl,Za,pv,Ze];rfl
 refine Zg ?_;rw[Yi<|ZZ g rfl,T9 rfl];exact Zg<|Zv e3
def jI(d:Nat){Ps:List (List Row)}(s:DS)(hn:n<=6)(h1:1<=n)(hP:∀P∈Ps,pZ p n P)(hl:Ps.length<=7)(h0:Ps≠[]):∃x s',CV (d+4) 23 [.drw,spV p n,.tup<|Ps.map Zb] s=.ok x s'/\Tr 4 x:=by
 have hpos:=gY.mpr h0;have op:∀m,∀x∈Ps.map Zb,nr m 2 x=ag:=λm x hx=>by
  obtain⟨P,hP',rfl⟩:=az.mp hx;exact X2 hn<|hP P hP'
 have op3:∀m,∀x∈Ps.map Zb,nr m 3 x=ag:=λm x hx=>Ym (by decide)<|op m x hx
 have lp:(Ps.map Zb).length<=7:=by rw[aw];exact hl
 let O (a3 a4 a5 a6 a7:Option V):Env:=[aa .drw,aa<|spV p n,aa<|.tup<|Ps.map Zb,a3,a4,a5,a6,a7]
 have ep:∀a3 a4 a5 a6 a7 s,pv (CV<|d+3) (.v 2) (O a3 a4 a5 a6 a7) s=.ok (.tup<|Ps.map Zb) s:=λ_ _ _ _ _ s=>Zf rfl
 have el:∀s,pv (CV<|d+3) (.blt .len [(.v 2)]) (O ab ab ab ab ab) s=.ok (.int Ps.length) s:=λs=>by
  rw[pv,Zc (ep ..) Ze,Za];show PR.ok (V.int ((Ps.map Zb).length:Int)) s=_;rw[aw]
 obtain⟨v1,s1,t1,t2,t3⟩:=ZG (d+2) s (i:=0) (O:=O ab ab ab ab ab) rfl (el s) (by omega) (by omega)
 obtain⟨j,rfl⟩:∃j:Nat,v1=j:=#[v1.toNat,by omega]
 have hj:j<Ps.length:=by omega
 obtain⟨v2,s2,u1,u2,u3⟩:=ZG (d+2) s1 (i:=0) (O:=O ab ab ab ab ab) rfl (el s1) (by omega) (by omega)
 obtain⟨k,rfl⟩:∃k:Nat,v2=k:=#[v2.toNat,by omega]
 have hk:k<Ps.length:=by omega
 have at_:∀{i:Nat}(h:i<Ps.length),at' (Ps.map Zb) (i:Int)=aa (Zb Ps[i]):=λ{i} h=>Ww (by rw[aV,ao h];rfl)
 let ys:List V:=((Ps.map Zb).set j<|Zb Ps[k]).set k<|Zb Ps[j]
 have oys:∀x∈ys,nr ag 3 x=ag:=λx hx=>by
  rcases fE hx with hx|rfl
  .rcases fE hx with hx|rfl
   .exact op3 _ x hx
   .exact Ym (by decide)<|X2 hn<|hP _<|aJ hk
  .exact Ym (by decide)<|X2 hn<|hP _<|aJ hj
 have lys:ys.length<=7:=by rw[bg,bg];exact lp
 let ρ5 (a6 a7:Option V):Env:=O (aa<|Zm j) (aa<|Zm k) (aa<|.lst ys) a6 a7
 have e1:rv (CV<|d+3) [5] (.par [3,4] [(.call 2 [(.v 0),(.blt .len [(.v 2)])]),(.call 2 [(.v 0),(.blt .len [(.v 2)])])]) (O ab ab ab ab ab) [] s=.ok (.nx (O (aa<|Zm j) (aa<|Zm k) ab ab ab) []) s2:=by
  rw[rv];show(pvs (CV<|d+3) _ _ s).bind _=_;rw[Zc t1<|Zc u1 Ze,Za];rfl
 have e2:rv (CV<|d+3) [5] (.asg [5]<|.blt .list [(.v 2)]) (O (aa<|Zm j) (aa<|Zm k) ab ab ab) [] s2=.ok (.nx (O (aa<|Zm j) (aa<|Zm k) (aa<|.lst<|Ps.map Zb) ab ab) [5]) s2:=
  G0 (by rw[pv,Zc (ep ..) Ze];rfl) rfl (YK Ps) (by show 5<8;decide)
 have ix5:∀{i:Nat}{c:Nat}(h:i<Ps.length),(O (aa<|Zm j) (aa<|Zm k) (aa<|.lst<|Ps.map Zb) ab ab)[c]?=aa (aa<|Zm i)->pv (CV<|d+3) (.ix (.v 5)<|.v c) (O (aa<|Zm j) (aa<|Zm k) (aa<|.lst<|Ps.map Zb) ab ab) s2=.ok (Zb Ps[i]) s2:=λ{i c} h hc=>by
  rw[pv,Zf (v:=.lst<|Ps.map Zb) rfl,Za,Zf hc,Za];show po (at' (Ps.map Zb) (i:Int)) s2=_;rw[at_ h];rfl
 have e3:rv (CV<|d+3) [5] (.swp 5 3 4) (O (aa<|Zm j) (aa<|Zm k) (aa<|.lst<|Ps.map Zb) ab ab) [5] s2=.ok (.nx (ρ5 ab ab) []) s2:=by
  rw[rv,T9 (by rfl),pv,Zc (ix5 (c:=4) hk rfl)<|Zc (ix5 (c:=3) hj rfl) Ze,Za,T9 (by show 2<=lim;decide),Za]
  have hs:Zaq (O (aa<|Zm j) (aa<|Zm k) (aa<|.lst<|Ps.map Zb) ab ab) 5 3 4 (.tup [Zb Ps[k],Zb Ps[j]])=aa ys:=by
   show(if ZU [Zb Ps[k],Zb Ps[j]]=ag then(ixN (Ps.map Zb).length (j:Int)).bind λn=>(ixN (Ps.map Zb).length (k:Int)).map λm=>((Ps.map Zb).set n<|Zb Ps[k]).set m (Zb Ps[j])else ab)=_
   have ixl:∀{i:Nat},i<Ps.length->ixN (Ps.map Zb).length (i:Int)=aa i:=λ{i} h=>by
    unfold ixN;rw[aw,T9 (by omega),T9 (by omega)];rfl
   rw[T9 (show ZU [Zb Ps[k],Zb Ps[j]]=ag from YK [Ps[k],Ps[j]]),ixl hj,Option.bind_some,ixl hk];rfl
  rw[hs,ZV,Za];rfl
 have ei:∀a s,pv (CV<|d+3) (.ix (.v 2)<|.v 3) (ρ5 a ab) s=.ok (Zb Ps[j]) s:=λa s=>by
  rw[pv,Zf (v:=.tup<|Ps.map Zb) rfl,Za,Zf (v:=Zm j) rfl,Za];show po (at' (Ps.map Zb) (j:Int)) s=_;rw[at_ hj];rfl
 have hPj:=hP _<|aJ hj;obtain⟨b,s3,b1,b2⟩:=xh d s2 hn h1 hPj;obtain⟨Q,s4,b3,b4⟩:=xI d (p:=p) (n:=n) s3 hn;have b5:pv (CV<|d+3) (.lst [(.call 21 [(.v 0),(.v 1),(.ix (.v 2)<|.v 3)]),(.call 22 [(.v 0),(.v 1)]),(.sl (.ix (.v 2)<|.v 3) ab<|aa<|.neg<|.c<|.int 1),(.c .non)]) (ρ5 ab ab) s2=.ok (.lst [b,Zb Q,.tup<|ZW (Ps[j].map Zd) ab<|aa<|-1,.non]) s4:=by
  have n1:pv (CV<|d+3) (.neg<|.c<|.int 1) (ρ5 ab ab) s4=.ok (.int<|-1) s4:=by rw[pv,ZQ];rfl
  rw[pv,Zc (Zr (Zc (Zf rfl)<|Zc (Zf rfl)<|Zc (ei ab s2) Ze) b1)<|Zc (Zr (Zc (Zf rfl)<|Zc (Zf rfl) Ze) b3)<|Zc (QO (ei ab s4) n1)<|Zc (by rw[pv];rfl) Ze];rfl
 have hb:∀x∈[b,Zb Q,.tup<|ZW (Ps[j].map Zd) ab<|aa<|-1,.non],Tr 3 x:=λx hx=>by
  simp only[ar,aR,or_false]at hx;rcases hx with rfl|rfl|rfl|rfl
  .exact b2
  .exact#[ag,Ym (by decide)<|X2 hn b4]
  .have:=dsum hPj
   have l1:=ZS (xs:=Ps[j].map Zd) (lo:=ab) (hi:=aa<|-1);rw[aw]at l1;exact#[ag,Ym (by decide) (Z0 (by omega) (Yk λx hx=>by
    obtain⟨r,hr,rfl⟩:=az.mp hx;exact UX hn<|hPj.row r hr))]
  .exact#[ag,rfl]
 obtain⟨v3,s5,c1,c2,c3⟩:=ZG (d+2) s4 (m:=4) (i:=0) (O:=ρ5 ab ab) rfl ZQ (by decide) (by decide)
 obtain⟨o,ho,e4⟩:=pick b5 c1 c2 c3;obtain⟨m,om⟩:=hb o ho
 let ρ6 (a7:Option V):Env:=ρ5 (aa o) a7
 have q2:∀a s,pv (CV<|d+3) (.v 2) (ρ6 a) s=.ok (.tup<|Ps.map Zb) s:=λa s=>Zf rfl
 have q3:∀a s,pv (CV<|d+3) (.v 3) (ρ6 a) s=.ok (.int j) s:=λa s=>Zf rfl
 have q6:∀a s,pv (CV<|d+3) (.v 6) (ρ6 a) s=.ok o s:=λa s=>Zf rfl
 have put:∀k:Int,Tr 4 (.tup<|(ZW (Ps.map Zb) ab (aa (j:Int))++[o])++ZW (Ps.map Zb) (aa k) ab):=λk=>#[m,X1 (v8 lp)<|zu (op3 m) om]
 have two:∀j k:Int,Tr 4 (.tup<|ZW (Ps.map Zb) ab (aa j)++ZW (Ps.map Zb) (aa k) ab):=λj k=>#[ag,X1 (by
  have l1:=ZS (xs:=Ps.map Zb) (lo:=ab) (hi:=aa j);have l2:=ZS (xs:=Ps.map Zb) (lo:=aa k) (hi:=ab);rw[aP];omega)<|XD (Yk<|op3 ag)<|Yk<|op3 ag]
 have twor:∀a s {x y:E} {jx ky:Int},pv (CV<|d+3) x (ρ6 a) s=.ok (.int jx) s->pv (CV<|d+3) y (ρ6 a) s=.ok (.int ky) s->pv (CV<|d+3) (.bin .add (.sl (.v 2) ab<|aa x)<|.sl (.v 2) (aa y) ab) (ρ6 a) s=.ok (.tup<|ZW (Ps.map Zb) ab (aa jx)++ZW (Ps.map Zb) (aa ky) ab) s:=λa s {x y jx ky} hx hy=>by
  have l1:=ZS (xs:=Ps.map Zb) (lo:=ab) (hi:=aa jx);have l2:=ZS (xs:=Ps.map Zb) (lo:=aa ky) (hi:=ab);exact YU (QO (q2 a s) hx) (Xw (q2 a s) hy) (by omega)
 obtain⟨w1,f1,f2,f3⟩:=Y9 (Q:=Tr 4) (C:=CV<|d+3) (O:=ρ6 ab) (s:=s5) (es:=[(.bin .add (.bin .add (.sl (.v 2) ab<|aa<|.v 3)<|.tup [(.v 6)])<|.sl (.v 2) (aa<|.bin .add (.v 3)<|.c<|.int 1) ab),(.bin .add (.bin .add (.sl (.v 2) ab<|aa<|.v 3)<|.tup [(.v 6)])<|.sl (.v 2) (aa<|.v 3) ab),(.blt .tuple [(.v 5)]),(.rev<|.v 2),(.v 5)]) (by decide) (λe he=>by
  simp only[ar,aR,or_false]at he;rcases he with rfl|rfl|rfl|rfl|rfl
  .exact#[_,U6 (q2 ab s5) (q3 ab s5) (YQ<|q3 ab s5) (q6 ab s5) lp,put _]
  .exact#[_,U6 (q2 ab s5) (q3 ab s5) (q3 ab s5) (q6 ab s5) lp,put _]
  .exact#[.tup ys,by rw[pv,Zc (Zf rfl) Ze];rfl,ag,X1 (by omega) oys]
  .exact#[.tup (Ps.map Zb).reverse,by rw[pv,q2];rfl,ag,X1 (by rw[c7];omega) λx hx=>op3 ag x<|kw.mp hx]
  .exact#[.lst ys,Zf rfl,ag,X1 (m:=ag) (by omega) oys])
 obtain⟨w2,g1,g2,g3⟩:=Y9 (Q:=Tr 4) (C:=CV<|d+3) (O:=ρ6<|aa<|.lst w1) (s:=s5) (es:=[(.bin .add (.sl (.v 2) ab<|aa<|.v 3)<|.sl (.v 2) (aa<|.bin .add (.v 3)<|.c<|.int 1) ab),(.bin .add (.sl (.v 2) ab<|aa<|.bin .add (.v 3)<|.c<|.int 1)<|.sl (.v 2) (aa<|.v 3) ab),(.tup [(.v 2)]),(.ix (.v 2)<|.v 3)]) (by decide) (λe he=>by
  simp only[ar,aR,or_false]at he;rcases he with rfl|rfl|rfl|rfl
  .exact#[_,twor _ s5 (q3 _ s5)<|YQ<|q3 _ s5,two _ _]
  .exact#[_,twor _ s5 (YQ<|q3 _ s5)<|q3 _ s5,two _ _]
  .exact#[_,Z7<|q2 _ s5,ag,Z0 (by show 1<=13;decide) λx hx=>by rw[aK.mp hx];exact Z0 (by omega)<|op ag]
  .refine#[Zb Ps[j],?_,ag,Ym (by decide)<|Ym (by decide)<|X2 hn hPj]
   rw[pv,q2,Za,q3,Za];show po (at' (Ps.map Zb) (j:Int)) s5=_;rw[at_ hj];rfl)
 have e8:=UB (Zf (i:=7) (O:=ρ6<|aa<|.lst w1) (C:=CV<|d+3) (s:=s5) (v:=.lst w1) rfl) g1 (by rw[f2,g2];decide)
 have lw:(w1++w2).length=9:=by rw[aP,f2,g2];rfl
 obtain⟨v5,s6,z1,z2,z3⟩:=ZG (d+2) s5 (m:=12) (i:=0) (O:=ρ6<|aa<|.lst<|w1++w2) rfl ZQ (by decide) (by decide)
 obtain⟨ix,hix,z4⟩:=pick (a:=.lst [(.c<|.int 0),(.c<|.int 0),(.c<|.int 0),(.c<|.int 1),(.c<|.int 1),(.c<|.int 2),(.c<|.int 3),(.c<|.int 4),(.c<|.int 5),(.c<|.int 6),(.c<|.int 7),(.c<|.int 8)]) (xs:=[.int 0,.int 0,.int 0,.int 1,.int 1,.int 2,.int 3,.int 4,.int 5,.int 6,.int 7,.int 8]) (s:=s5) (by simp[pvE,ofD]) z1 z2 z3
 obtain⟨q,rfl,hq0,hq⟩:∃q:Int,ix=.int q/\0<=q/\q<9:=by
  simp at hix;rcases hix with rfl|rfl|rfl|rfl|rfl|rfl|rfl|rfl|rfl<;>exact#[_,rfl,by decide,by decide]
 obtain⟨x,hx,z5⟩:=pick (a:=.v 7) (Zf rfl) z4 hq0 (by rw[lw];exact hq)
 refine#[x,s6,Zj rfl (by decide) rfl ?_,(bw.mp hx).elim (f3 x)<|g3 x]
 show rvs (CV<|d+3) [5] ZX.body (O ab ab ab ab ab) [] s=_;have g:pv (CV<|d+3) (.cmp .eq (.v 2)<|.tup []) (O ab ab ab ab ab) s=.ok (.bl ai) s:=by
  rw[pv,ep,Za,pv,Ze];cases Ps with|nil=>exact T7 rfl h0|cons P L=>rfl
 dsimp only[ZX]
 rw[guard g,Zi e1,Zi e2,Zi e3,Zi<|ZE e4 rfl];show rvs _ _ _ (ρ6 ab) [] _=_;rw[Zi<|ZE f1 rfl];show rvs _ _ _ (ρ6<|aa<|.lst w1) [] _=_;rw[Zi<|ZE e8 rfl];exact Zg<|Zv z5
def zZ(d:Nat){Ps:List (List Row)}(s:DS)(hn:n<=6)(h1:1<=n)(hP:∀P∈Ps,pZ p n P)(hl:Ps.length<=7):∃x s',CV (d+4) 23 [.drw,spV p n,.tup<|Ps.map Zb] s=.ok x s'/\Tr 4 x:=by
 cases Ps with|nil=>exact jD d s|cons P L=>exact jI d s hn h1 hP hl (by simp)
end
def x5:∀q∈jR++jQ,q.1^q.2<=1000:=by decide
noncomputable def zt:List Sm:=[.asg [3]<|.call 3 [(.v 2),(.c<|.int 81)],
  .asg [4] (.call 7 [(.v 2),(.v 3)]),
  .ite (.cmp .isn (.call 20 [(.v 3),(.v 4)])<|.c<|.bl ag) [.ret<|.c<|.bl ai] [],
  .forr [5] (.of<|.bin .add (.comp1 [2,3,4] 1 [0] (.rng1<|.c<|.int 4) []<|.call 23 [(.v 1),(.v 2),(.v 3)])<|.lst [(.call 24 [(.v 2)])]) [.asg [6]<|.blt .repr [(.v 5)],
  .asg [7] (.call 20 [(.v 3),(.v 5)]),
  .ite (.or (.not<|.isi (.v 7) [.bool])<|.or (.cmp .ne (.v 7)<|.call 30 [(.v 3),(.v 5)])<|.cmp .ne (.blt .repr [(.v 5)])<|.v 6) [.ret<|.c<|.bl ai] []]]
def vm(d:Nat)(o:Option V)(k:Nat)(s:DS):∃ρ' os' s',rvs (CV<|d+6) [] zt (o::aa (.int k)::aa .drw::aA 5 ab) [] s=.ok (.nx ρ' os') s'/\ρ'[0]?=aa o/\ρ'.length=5+3:=by
 obtain⟨p,n,s1,e1,h2,h3,h4,h5⟩:=zM (d+4) (m:=81) s (by omega)
 haveI:Base p:=⟨h2⟩
 have hp:p^n<=1000:=x5 _ h5;obtain⟨Ps,s2,e2,hP,hC,hl⟩:=yh (d+3) (p:=p) (n:=n) s1 h4;have e3:=XJ d s2 h4 hP (by omega)
 rw[hC]at e3
 let O (a3 a4 a5 a6 a7:Option V):Env:=[o,aa<|.int k,aa .drw,a3,a4,a5,a6,a7]
 let ρ4 (a5 a6 a7:Option V):Env:=O (aa<|spV p n) (aa<|.tup<|Ps.map Zb) a5 a6 a7
 obtain⟨ys,s3,e4,l4,q4⟩:=WA (C:=CV<|d+6) (cap:=[2,3,4]) (nl:=1) (t:=[0]) (it:=.rng1<|.c<|.int 4) (elt:=.call 23 [(.v 1),(.v 2),(.v 3)]) (O:=ρ4 ab ab ab) (s:=s2) (Q:=Tr 4) (k:=4)
  (by rw[WT];exact Y2 ZQ<|by omega) (by unfold lim;omega) (λx s=>by
   obtain⟨v,s',f1,f2⟩:=zZ (d+2) s h4 h3 hP hl;exact#[[aa x,aa .drw,aa<|spV p n,aa<|.tup<|Ps.map Zb],v,s',rfl,Zr (Zc (Zf rfl)<|Zc (Zf rfl)<|Zc (Zf rfl) Ze) f1,f2])
 obtain⟨z,s4,e5,q5⟩:=uo (d+4) s3;have e6:pv (CV<|d+6) (.bin .add (.comp1 [2,3,4] 1 [0] (.rng1<|.c<|.int 4) []<|.call 23 [(.v 1),(.v 2),(.v 3)])<|.lst [(.call 24 [(.v 2)])]) (ρ4 ab ab ab) s2=.ok (.lst<|ys++[z]) s4:=by
  rw[pv,e4,Za,pv,Zc (Zr (Zc (Zf rfl) Ze) e5) Ze,Za,T9 (by show 1<=lim;decide),Za,vW,T9 (by rw[l4];show 4+1<=lim;decide)]
 obtain⟨ρ',s',hI,e7⟩:=GL (C:=CV<|d+6) (ms:=[]) (os:=[]) (t:=[5]) (it:=.of<|.bin .add (.comp1 [2,3,4] 1 [0] (.rng1<|.c<|.int 4) []<|.call 23 [(.v 1),(.v 2),(.v 3)])<|.lst [(.call 24 [(.v 2)])]) (b:=[.asg [6]<|.blt .repr [(.v 5)],
  .asg [7] (.call 20 [(.v 3),(.v 5)]),
  .ite (.or (.not<|.isi (.v 7) [.bool])<|.or (.cmp .ne (.v 7)<|.call 30 [(.v 3),(.v 5)])<|.cmp .ne (.blt .repr [(.v 5)])<|.v 6) [.ret<|.c<|.bl ai] []]) (L:=ys++[z]) (e:=id) (O:=ρ4 ab ab ab) (s:=s2) (s0:=s4)
  (λl O=>(∀v∈l,Tr 4 v)/\∃a5 a6 a7,O=ρ4 a5 a6 a7)
  (by
   show pvw (CV<|d+6) _ (ρ4 ab ab ab) s2=_;rw[pvw,e6,Za,gO];rfl) #[λv hv=>(bw.mp hv).elim (q4 v) λh=>by rw[aK.mp h];exact q5,ab,ab,ab,rfl] rfl (λx l O s hI=>by
   obtain⟨hx,a5,a6,a7,rfl⟩:=hI;have ox:=hx x<|al ..;obtain⟨t,g1⟩:=uT ox;obtain⟨b,g2,g3⟩:=yd d (p:=p) (n:=n) s h4 hp ox;have r1:∀a6 a7,pv (CV<|d+6) (.blt .repr [(.v 5)]) (ρ4 (aa x) a6 a7) s=.ok (.str t) s:=λa6 a7=>by
    rw[pv,Zc (Zf rfl) Ze,Za];show po (blt1 .repr x) s=_;rw[g1];rfl
   refine#[ρ4 (aa x) a6 a7,ρ4 (aa x) (aa<|.str t)<|aa<|.bl b,s,rfl,?_,λy hy=>hx y<|ak _ hy,_,_,_,rfl]
   rw[Zi<|ZE (r1 _ _) rfl];show rvs _ _ _ (ρ4 (aa x) (aa<|.str t) a7) [] s=_;rw[Zi<|ZE (WM (Zf rfl) (Zf rfl) g2) rfl];show rvs _ _ _ (ρ4 (aa x) (aa<|.str t)<|aa<|.bl b) [] s=_;have g4:pv (CV<|d+6) (.not<|.isi (.v 7) [.bool]) (ρ4 (aa x) (aa<|.str t)<|aa<|.bl b) s=.ok (.bl ai) s:=by
    rw[pv,pv,Zf rfl];rfl
   rw[guard<|QJ g4<|QJ (Za7 (Zf rfl) (WM (Zf rfl) (Zf rfl) g3) rfl)<|ne_str (r1 _ _)<|Zf rfl,rvs])
 obtain⟨_,a5,a6,a7,rfl⟩:=hI;refine#[ρ4 a5 a6 a7,[],s',?_,rfl,rfl];show rvs _ _ zt (O ab ab ab ab ab) [] s=_;unfold zt;rw[Zi<|ZE (Zr (Zc (Zf rfl)<|Zc ZQ Ze) e1) rfl];show rvs _ _ _ (O (aa<|spV p n) ab ab ab ab) [] s1=_;rw[Zi<|ZE (Zr (Zc (Zf rfl)<|Zc (Zf rfl) Ze) e2) rfl];show rvs _ _ _ (ρ4 ab ab ab) [] s2=_;rw[guard<|yT<|WM (Zf rfl) (Zf rfl) e3,Zi e7,rvs]
def vq(d:Nat)(O:Env)(s:DS):pv (CV<|d+6) (.and (.cmp .is (.call 20 [(.tup [(.c<|.int 2),(.c<|.int 1)]),(.tup [])])<|.c<|.bl ag)<|.cmp .is (.call 20 [(.tup [(.c<|.int 2),(.c<|.int 1)]),(.tup [(.tup []),(.tup [(.tup [(.c<|.int 1)])])])])<|.c<|.bl ag) O s=.ok (.bl ag) s:=by
 haveI:Base 2:=⟨.inl rfl⟩
 have sp:pv (CV<|d+6) (.tup [(.c<|.int 2),(.c<|.int 1)]) O s=.ok (spV 2 1) s:=by simp[pvE,ofD,spV]
 have bt:pv (CV<|d+6) (.c<|.bl ag) O s=.ok (.bl ag) s:=by rw[pv];rfl
 have one:∀{e:E}{Ps:List (List Row)},pv (CV<|d+6) e O s=.ok (.tup<|Ps.map Zb) s->(∀P∈Ps,pZ 2 1 P)->Ps.length<=15->chB 2 Ps=ag->pv (CV<|d+6) (.cmp .is (.call 20 [(.tup [(.c<|.int 2),(.c<|.int 1)]),e])<|.c<|.bl ag) O s=.ok (.bl ag) s:=λ{e Ps} h1 h2 h3 h4=>by
  have a:=XJ d (p:=2) (n:=1) s (by omega) h2 h3
  rw[h4]at a;rw[pv,WM sp h1 a,Za,bt,Za];rfl
 have u1:=one (Ps:=[]) (e:=.tup []) (by rw[pv,Ze];rfl) (λ_ h=>by cases h) (by decide) rfl
 have r1:∀r∈[([1]:Row)],Zh 2 1 r:=λr hr=>by
  rw[aK.mp hr];exact#[rfl,λa ha=>by rw[aK.mp ha];omega]
 have u2:=one (Ps:=[[],[[1]]]) (e:=.tup [(.tup []),(.tup [(.tup [(.c<|.int 1)])])]) (by simp[pvE,ofD,Zb,Zd]) (λP h=>by
  simp only[ar,aR,or_false]at h;rcases h with rfl|rfl
  .exact pZ.nil
  .exact(Wu r1).mp<|by decide +kernel) (by decide) (by decide +kernel)
 exact wa u1 u2
def law_ok(ns:List Int)(s:DS):∃S,CV 65 31 [.scr ns] s=.ok (.bl ag) S:=
 Lv.law_ofR (B:=zt) 62 (ca:=0) (st:=1) (nn:=5) (M:=8) (by decide) (by decide) (by decide) rfl rfl rfl (by decide) (λO s=>vq 58 O s) (λo k s=>vm 58 o k s) ns s
end K61
namespace K61
open PySem PySem.Spec PyProof.Rows L2 Sd Gn
open Sd (Jl GY yR xX GE wW qG yG G2 GK xc yB GU Uy wu yK xU J6 yF G8 zi G4 V3 QV GV zk Ug)
def ZbA(s:dG):bc:=match s with|.FunctionDef x _ _ _ _ _ _ _ _ _=>x|_=>""
def top(i:Nat):dG:=PySem.Challenge.pw_fewspaces_k61_chains_looked_at.main.body.getD i<|.Pass #[0,0,0,0]
noncomputable abbrev R(i m k:Nat):FR:=#[ZbA<|top i,top i,((Zy<|top i).names.map (·.1)).take m,k]
noncomputable abbrev r0:=R 18 2 2
noncomputable abbrev r1:=R 19 3 2
noncomputable abbrev r2:=R 20 4 2
noncomputable abbrev r3:=R 21 3 2
noncomputable abbrev r4:=R 23 4 4
noncomputable abbrev r5:=R 24 8 2
noncomputable abbrev r6:=R 22 2 2
noncomputable abbrev r7:=R 33 6 2
noncomputable abbrev r8:=R 3 3 1
noncomputable abbrev r9:=R 4 4 4
noncomputable abbrev r10:=R 5 4 4
noncomputable abbrev r11:=R 11 7 3
noncomputable abbrev r12:=R 12 3 3
noncomputable abbrev r13:=R 14 3 3
noncomputable abbrev r14:=R 2 1 1
noncomputable abbrev r15:=R 6 2 2
noncomputable abbrev r16:=R 10 3 3
noncomputable abbrev r17:=R 1 3 3
noncomputable abbrev r18:=R 8 4 2
noncomputable abbrev r19:=R 9 3 2
noncomputable abbrev r20:=R 16 2 2
noncomputable abbrev r21:=R 32 11 3
noncomputable abbrev r22:=R 26 3 2
noncomputable abbrev r23:=R 35 8 3
noncomputable abbrev r24:=R 31 2 1
noncomputable abbrev r25:=R 28 1 1
noncomputable abbrev r26:=R 29 2 2
noncomputable abbrev r27:=R 30 3 2
noncomputable abbrev r28:=R 25 6 2
noncomputable abbrev r29:=R 27 4 3
noncomputable abbrev r30:=R 34 5 2
abbrev r31:FR:=#["law",top 36,["_law_script","_law_k","_law_state_here","_law_space_here","_law_chain_here","_law_thing","_law_kept","_law_found"],1]
noncomputable abbrev fs:List FR:=[r0,r1,r2,r3,r4,r5,r6,r7,r8,r9,r10,r11,r12,r13,r14,r15,r16,r17,r18,r19,r20,r21,r22,r23,r24,r25,r26,r27,r28,r29,r30,r31]
abbrev zs:List bc:=["all","any","bool","dict","enumerate","int","isinstance","len","list","max","min","range","repr","tuple","zip"]
abbrev gs:List (bc×Gv):=[]
noncomputable abbrev jE{X xw C e}(i:Ev.E):=Sd.CE X xw C e i
noncomputable abbrev jF{X xw C e}(i:Ev.E):=Sd.CF X xw C e i
noncomputable abbrev jT{X xw C e}(i:Ev.E):=Sd.CT X xw C e i
noncomputable abbrev jS{X xw a C b e}(i:Ev.Sm):=Sd.CS X xw a C b e i
def okl:OkL fs zs gs fns tk sn 0 fs fns:=by
 repeat'(first|exact cZ|refine#[#[rfl,rfl,by decide +kernel,?_],?_]|intro P w K mg base f fd d T h hn cdv A outer s H E hr hu)
 all_goals
 (repeat'(first
 |(with_reducible refine (?_:aE _ _=_));(first|exact GY|exact Jl|exact G2|exact yG|exact yR|exact wW|exact GK|exact xX|exact qG|exact GE)
 |(with_reducible refine (?_:Cx.mg _ _=_));(exact Top.no (by assumption) (by kernel_rfl!))
 |(with_reducible refine (?_:_=_));first|exact Zag _|kernel_rfl!
 |(with_reducible refine (?_:Gl _ _));show _=_;kernel_rfl!
 |refine (?_:Sd.CSs _ _ _ _ _ _ [.cel _ _ _ _]);refine Zbn (by assumption) (by assumption) (by assumption) ?_ ?_ (by assumption) (by kernel_rfl!) rfl rfl (by kernel_rfl!) (by first|exact GY|exact Jl|exact G2|exact yG|exact yR|exact wW|exact GK|exact xX|exact qG|exact GE) rfl (by kernel_rfl!) (by first|exact Or.inl (by kernel_rfl!)|exact kj (by kernel_rfl!)|exact kj (Or.inl (by kernel_rfl!))|exact kj (kj (by kernel_rfl!))) (by first|exact .inl rfl|exact .inr<|by kernel_rfl!) (by kernel_rfl!) (by kernel_rfl!) (by kernel_rfl!)
 |refine (?_:Sd.CSs _ _ _ _ _ _ _);first|apply jM|apply uJ
 |refine (?_:Sd.CA _ _ _ _ _);first|apply Zam|apply vG
 |refine (?_:jF (.blt .list _));apply vK QV
 |refine (?_:jF (.lst _));apply qP
 |refine (?_:jF (.bin _ _ _));apply Zar
 |refine (?_:jF (.comp1 _ _ _ _ _ _));refine wQ rfl (by first|assumption|exact T6<|by kernel_rfl!) (xF<|by kernel_rfl!) ?_ (λ_ _ _ _=>#[?_,?_,?_]) (hs:=by intro _;kernel_rfl!)
 |refine (?_:Sd.CE _ _ _ (.BoolOp _ [_] _) _);apply jw
 |refine (?_:jE (.dix _ ai));apply vP
 |refine (?_:jE (.dix _ ag));apply uF
 |refine (?_:jE (.v _));apply ZbL
 |refine (?_:jE (.c _));first|apply ji|apply ZaR|apply ZaH|apply Zao
 |refine (?_:jE (.call _ _));refine Za1 (by assumption) (by assumption) (by assumption) ?_ (by kernel_rfl!) rfl (by kernel_rfl!) (by first|exact GY|exact Jl|exact G2|exact yG|exact yR|exact wW|exact GK|exact xX|exact qG|exact GE) rfl
 |refine (?_:jE .dnew);apply uw
 |refine (?_:jE (.dput1 _ _));apply Zbi
 |refine (?_:jE (.ix _ _));apply Zbv
 |refine (?_:jE (.blt .len _));apply Xz G8
 |refine (?_:jE (.blt .tuple _));apply G5 V3
 |refine (?_:jE (.blt .all _));apply Xz (GV rfl)
 |refine (?_:jE (.blt .any _));apply Xz (zk rfl)
 |refine (?_:jE (.blt .max2 _));apply Xz (zi rfl)
 |refine (?_:jE (.blt .min2 _));apply Xz (G4 rfl)
 |refine (?_:jE (.blt .dictP _));apply G5 (Ug rfl (by assumption))
 |refine (?_:jE (.blt .repr _));apply Xz (xN (by assumption))
 |refine (?_:jE (.bin _ _ _));first|apply jg|apply qJ|apply j5|apply j6|apply uV|apply jp
 |refine (?_:jE (.tup _));apply qZ
 |refine (?_:jE (.neg _));apply qU
 |refine (?_:jE (.not _));apply jf
 |refine (?_:jE (.cmp .eq _ _));apply Y0 (xc (by assumption))
 |refine (?_:jE (.cmp .ne _ _));apply Y0 (yB (by assumption))
 |refine (?_:jE (.cmp .lt _ _));apply Y0 (GU (by assumption))
 |refine (?_:jE (.cmp .le _ _));apply Y0 (Uy (by assumption))
 |refine (?_:jE (.cmp .gt _ _));apply Y0 (wu (by assumption))
 |refine (?_:jE (.cmp .ge _ _));apply Y0 (yK (by assumption))
 |refine (?_:jE (.cmp .is _ _));apply Y0 (xU (by assumption))
 |refine (?_:jE (.cmp .isn _ _));apply Y0 (J6 (by assumption))
 |refine (?_:jE (.cmp .inn _ _));apply Y0 (yF (by assumption))
 |refine (?_:jE (.chain _ _ _ _ _));first|apply Jh (Uy<|by assumption) (Uy (by assumption))|apply Jh (Uy<|by assumption) (GU (by assumption))
 |refine (?_:jE (.sl _ _ _));apply ZbD
 |refine (?_:jE (.rev _));apply ZaE
 |refine (?_:jE (.isi _ _));first|apply Vq (T:="int") (t:=.int)|apply Vq (T:="bool") (t:=.bool)|apply Vq (T:="tuple") (t:=.tuple)|apply Vq (T:="list") (t:=.list)|apply Vq (T:="dict") (t:=.dict)
 |(first|show jE (.callF _ _)|show jE (.lst _)|show jE (.comp1 _ _ _ _ _ _)|show jE (.comp2 _ _ _ _ _ _ _ _ _)|show jE (.blt .list _)|show jE (.blt .sorted _)|show jE (.blt .listD _)|show jE (.blt .sortedD _)|show jE (.blt .sortedS _)|show jE (.blt .sortedT _)|show jE (.blt .sortedU _));refine CF.ce ?_
 |refine (?_:jE _);apply jo
 |refine (?_:Sd.CO _ _ _ _ _);first|apply ur|apply uW
 |refine (?_:jS (.ret _));first|apply jC|apply ub
 |refine (?_:jS (.mov _ _));apply qK
 |refine (?_:jS (.swp _ _ _));apply ZaI
 |refine (?_:jS (.dset _ _));apply uX
 |refine (?_:jS (.par _ _));apply j7
 |refine (?_:jS (.asg _<|.comp1 _ _ _ _ _ _));refine wP rfl (by assumption) (xF<|by kernel_rfl!) ?_ (λ_ _ _ _=>#[?_,?_,?_]) (hsw:=by kernel_rfl!) (hy:=by kernel_rfl!) (hx:=by first|exact Or.inl (by kernel_rfl!)|exact kj (by kernel_rfl!)|exact kj (Or.inl (by kernel_rfl!))|exact kj (kj (by kernel_rfl!))) (hf:=by first|exact .inl rfl|exact .inr<|by kernel_rfl!) (hs:=by intro _;kernel_rfl!)
 |refine (?_:jS (.asg [_] _));first|refine u8 ?_ ?_ (hf:=by kernel_rfl!) (hs:=by kernel_rfl!) (hw:=by kernel_rfl!) (h1:=by kernel_rfl!)|apply uA
 |refine (?_:jS (.asg _ _));apply jm
 |refine (?_:jS (.ex<|.mt .append _ _));apply zN
 |refine (?_:jS (.ex<|.mt .extend _ _));apply yA
 |refine (?_:jS (.ite _ _ _));apply Zbj
 |refine (?_:jS (.forr _ _ _));apply jk PassesOwn.never
 |refine (?_:jT (.not _));apply qL
 |refine (?_:jT (.cmp .eq _ _));apply Xa (xc (by assumption))
 |refine (?_:jT (.cmp .ne _ _));apply Xa (yB (by assumption))
 |refine (?_:jT (.cmp .lt _ _));apply Xa (GU (by assumption))
 |refine (?_:jT (.cmp .le _ _));apply Xa (Uy (by assumption))
 |refine (?_:jT (.cmp .gt _ _));apply Xa (wu (by assumption))
 |refine (?_:jT (.cmp .ge _ _));apply Xa (yK (by assumption))
 |refine (?_:jT (.cmp .is _ _));apply Xa (xU (by assumption))
 |refine (?_:jT (.cmp .isn _ _));apply Xa (J6 (by assumption))
 |refine (?_:jT (.cmp .inn _ _));apply Xa (yF (by assumption))
 |refine (?_:jT (.or _ _));refine CWh.ct<|qw ?_ ?_
 |refine (?_:jT _);apply jr
 |refine (?_:Sd.CWh _ _ _ _ _);first|apply qw|apply Zad
 |refine (?_:Sd.CTs _ _ _ _ _);first|apply vD|apply vT
 |refine (?_:Sd.CW _ _ _ _ _ _);first|apply uB|apply Zaj|apply vO|apply ZaZ
 |refine (?_:Sd.CG _ _ _);first|apply v4|apply j4
 |refine (?_:Sd.CGs _ _ _);first|apply uy|apply yD
 |(first|exact Or.inl (by kernel_rfl!)|exact kj (by kernel_rfl!)|exact kj (Or.inl (by kernel_rfl!))|exact kj (kj (by kernel_rfl!)))
 |assumption
 |exact T6 (by kernel_rfl!)
 |decide
 |(intro _;kernel_rfl!)
 |(intro _ _;kernel_rfl!)
 |(intro m h;cases h)))
end K61
namespace PySem.W.Fast
def tw9271832009907239046:=0
def tw9500946122723333585:=0
def tw4172844846389033931:=0
def tw13576003483852939030:=0
def tw14389756296852283946:=0
def tw8888737488768542977:=0
def tw2477948167502267596:=0
def tw11587133175108224163:=0
def tw12370705569379519687:=0
def tw7091281072111221259:=0
def tw16753921530177543068:=0
def tw11220749321306229288:=0
def tw17639388320184900882:=0
def tw17186398330146511379:=0
def tw9147489821060607961:=0
def tw7385483903377769019:=0
def tw7234332613503695805:=0
def tw6038216092696348004:=0
def tw14552360322409767703:=0
def tw11384469389743330415:=0
def tw8321514573928267935:=0
def tw396462118874668019:=0
def tw12615974359547635341:=0
def tw13337984699384013884:=0
def tw13254828636258690888:=0
def tw1888400328953016645:=0
def tw11881604713870412972:=0
def tw2011842533522641203:=0
def tw16400607794244501896:=0
def tw1213409265847609346:=0
def tw15257451485428152834:=0
def tw11470492613806133427:=0
def tw15389842047852619722:=0
def tw15447503100706147510:=0
def tw13753492035948945932:=0
def tw11044441415673012142:=0
def tw11951609089761983341:=0
def tw12546859563627718052:=0
def tw10475502735406658531:=0
def tw9124787406692212769:=0
def tw8879104813590106008:=0
def tw3596338426839055909:=0
def tw15280895645853284937:=0
def tw5505692241967361513:=0
def tw17808672674562678330:=0
def tw10912109080651422874:=0
def tw14618568725674006587:=0
def tw9676911863968603326:=0
def tw10585014175974860647:=0
def tw7910157694517225591:=0
def tw5909604930225109673:=0
def tw16002241467779525987:=0
def tw6349551388389699323:=0
def tw12231985047245835480:=0
def tw2430688195088034010:=0
def tw17361851195843018964:=0
def tw10450072206477969866:=0
def tw10165176279033448934:=0
def tw8089809372335183619:=0
def tw16313605771652601437:=0
def tw7146764710786893938:=0
def tw10987873604592848709:=0
def tw8347839193889377761:=0
def tw5129926516737778590:=0
def tw6991972891980221696:=0
def tw2338541680854213167:=0
def tw14951235560050727198:=0
def tw11516510530623465248:=0
def tw2989783550219314504:=0
def tw9027587713242144624:=0
def tw4738725426455128897:=0
def tw798139938879975085:=0
def tw14622961347647064246:=0
def tw8328004782506991931:=0
def tw18242137985619596498:=0
def tw827405704934098673:=0
def tw12674063873120849907:=0
def tw5599036247418922209:=0
def tw13799874679332525196:=0
def tw5358237431768600662:=0
def tw14615598522401763161:=0
def tw12998368408476521790:=0
def tw4212296673287431067:=0
def tw11850214275879749738:=0
def tw6139757519609755665:=0
def tw16918795300299848392:=0
def tw18226497172812207072:=0
def tw15124421236967591577:=0
def tw10085089292470535222:=0
def tw18268432899519984082:=0
def tw2397039924667443934:=0
def tw5655755995100061305:=0
def tw2661156337741085167:=0
def tw13288680872848333864:=0
def tw17974099768147865369:=0
def tw11013695969096815673:=0
def tw4308296710746479214:=0
def tw6373864149350411261:=0
def tw6620721613214448407:=0
def tw6995745789740019043:=0
def tw5543307402586117322:=0
def tw4919008928741990854:=0
def tw12960429572970023297:=0
def tw12396540366831720052:=0
def tw15601734445674486026:=0
def tw12334079428800778356:=0
def tw8291014337929775572:=0
def tw569262398081505659:=0
def tw1760891349172847967:=0
def tw5472482293595422197:=0
def tw7024091541738695207:=0
def tw8862413402102477639:=0
def tw14938673663086490093:=0
def tw16987284694623066745:=0
def tw13413442565318323401:=0
def tw14770967270276032103:=0
def tw2770566492828045304:=0
def tw7800869276745810132:=0
def tw958921995640079535:=0
def tw8380549552286356146:=0
def tw1386076491677996790:=0
def tw9247266478191376434:=0
def tw12809386005461157358:=0
def tw1184010924432882434:=0
def tw979002237712378070:=0
def tw5573526903556055653:=0
def tw6039799508511702662:=0
def tw2558689284545619708:=0
def tw9678458255462324458:=0
def tw3171935681677270720:=0
def tw8739311583133358027:=0
def tw611906488917666667:=0
def tw4719289398454223173:=0
def tw457013783102552227:=0
def tw109618006293822394:=0
def tw9839232474915351196:=0
def tw4937048959432538656:=0
def tw10195230640767722797:=0
def tw17088266815006256228:=0
def tw14071008297162998819:=0
def tw2254342662153053640:=0
def tw77173297234019203:=0
def tw6302659715694974696:=0
def tw12907581907766739470:=0
def tw52441651639026963:=0
def tw17704500663987068256:=0
def tw5086706964031779478:=0
def tw17906516522955884234:=0
def tw12478257723503328168:=0
def tw18373373712344029093:=0
def tw8445070886331134216:=0
def tw14614927594138449623:=0
def tw10446321420810802357:=0
def tw4665042520526780285:=0
def tw7287569247802318094:=0
def tw5013102179882163303:=0
def tw5040567371499232187:=0
def tw3395389565757183390:=0
def tw11983439919464894178:=0
def tw11267141201400702726:=0
def tw9330167341176931769:=0
def tw10868141046096728331:=0
def tw17246412439572133293:=0
def tw50715505027032040:=0
def tw14413420643614359229:=0
def tw9737214789327280835:=0
def tw3063933812955014429:=0
def tw5663511048721093438:=0
def tw2325946723831597402:=0
def tw3045021127966273927:=0
def tw13541434368376113158:=0
def tw13199294527469967763:=0
def tw17014198902670651923:=0
def tw15039973946898766365:=0
def tw17710823676881108204:=0
def tw3148093986973514113:=0
def tw2910728014134743652:=0
def tw5016355014643920125:=0
end PySem.W.Fast
open PySem PySem.W PyProof.Rows Gn
set_option maxRecDepth 100000 in
set_option maxHeartbeats 0 in
theorem PySem.Challenge.cw_fewspaces_k61_chains_looked_at_holds : PySem.Challenge.rw_fewspaces_k61_chains_looked_at.Holds := by
  w_on; o_law; k_head; (case hw => w_witness2)
  k_fill
  refine Gn.walk (l := PySem.Challenge.rw_fewspaces_k61_chains_looked_at) (F := K61.fns) (tk := K61.tk) (L := 31) (fun ns s => K61.law_ok ns s) rfl rfl (fun w h Y => PySem.W.kIn_of Y) ?F
  case F =>
    intro w mg fa h KX G hmg;refine' Gn.ZaC (fs := K61.fs) (zs := K61.zs) (gs := K61.gs) (sn := K61.sn) KX G hmg rfl K61.okl rfl (by decide) ?A ?Z ?Y
    case A => repeat' (first|exact FnsAt.nil|refine' FnsAt.cons ?h1 ?h2 ?h3 ?h4 ?h5 ?_; (case h1 => k_is); (case h2 => k_is); (case h3 => k_is); (case h4 => k_is); (case h5 => first|exact bd1 fun _ _ _ _ _ _ _ => rfl|exact bd2 fun _ _ _ _ _ _ _ _ => rfl|exact bd3 fun _ _ _ _ _ _ _ _ _ => rfl|exact bd4 fun _ _ _ _ _ _ _ _ _ _ => rfl|exact bd5 fun _ _ _ _ _ _ _ _ _ _ _ => rfl|exact bd6 fun _ _ _ _ _ _ _ _ _ _ _ _ => rfl))
    case Z => repeat' (first|exact ZsAt.nil|refine' ZsAt.cons ?h1 ?_; (case h1 => k_is))
    case Y => repeat' (first|exact GsAt.nil|refine' GsAt.cons ?h1 ?_; (case h1 => k_is))
