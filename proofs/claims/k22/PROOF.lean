import PyProof.Rows.All
import Wide.All
import OpenK.AllK
import Wide.FinOn
import Lean
import PyProof.EqAt
import PyProof.EqKinds
import PyProof.TupleCall
import PySem.Str
import PyProof.CodeObj
import PyProof.ListMulAny
import PyProof.NeKinds
import PyProof.ConsumeWalk
import PyProof.CompFree
import PyProof.ZipIter
import PyProof.Draws
import PyProof.EnumMake
import PyProof.SumWalk
import PyProof.Rows.SortRuns
import KE.KSortTup
import PyProof.Rows.SortRev
import PyProof.FactsAll.tuple
import KE.KRevIter
import PyProof.FactsAll.range_2
import PyProof.ListRange
import PyProof.TupleOfSeq
import PyProof.TupleOfGen
import PyProof.CallType
import PyProof.DictWalks
import PyProof.IsiH_list
import PyProof.RulesTry
import KE.KDictOf
import PyProof.StationsW
import PyProof.Rows.Own
import PyProof.ExcBaseAll.ValueError
import KE.KTryMore
import PyProof.ExcArgsOwn
import PyProof.IsiH_tuple
import PyProof.NsDelKeeps
import PyProof.RulesAs
import KE.KLam
import PyProof.P3Eq
import OpenK.KOwn
import PySem.Challenge.RW_fewspaces_k22_parts_in_one_another
set_option Elab.async false
set_option linter.all false
set_option compiler.extract_closed false
set_option maxRecDepth 100000
set_option maxHeartbeats 0
abbrev T9:=@if_pos
abbrev T8:=@if_neg
abbrev T7:=@absurd
abbrev T6:=@of_decide_eq_true
abbrev T5:=@decide_eq_true
abbrev T4:=@decide_eq_false
abbrev T0:=@decide_eq_true_eq
open Option renaming some → aa,none → af,bind_eq_some_iff → b9,map_eq_some_iff → cp,isSome_iff_exists → cV,ne_none_iff_exists' → kA,map_eq_none_iff → lW,isSome_map → oa,getD_none → oH,map_some → pC
open PySem renaming wpAny_bind → ae,Value → au,Shared → ax,wpAny_pure → aA,Addr → aC,starEach → aE,model → aS,wpAny → bc,sizeLine → bi,Str → bn,Program → bq,mainGlobals → bF,World → bK,wpAny_newObj_type → bL,Around → bQ,Heap → bX,foldedSetIterable → bZ,wpAny_holding → cz,FuncData → cB,assignEach → cD,wpAny_mono → cJ,compareOp → cK,wpAny_callSpecial?_slot → cL,wpAny_field → cO,eval → cR,wpAny_call_entry → da,sizeLine_eq → dm,bootBuiltins → dy,cLine → dz,wpAny_truthy_bool → dB,mem_of_lookup → dD,sysModules → dF,swapsWithSole → dJ,swappedStores → dL,Scope → dQ,backTo → dU,wpAny_rule → dW,assign → d7,behindInMarks → d8,wpAny_standAt → d9,tupleKind → ee,wpAny_seqItems → eo,wpAny_setField_rec → eA,codeAny → eC,Builtin → eD,Stmt → eF,Obj → eG,swapsWith → eK,binaryOp → eO,Pos → eY,NameKind → eZ,wpAny_typeNameOfWhole_keyiter → fm,wpAny_Call_Name_kw → fu,wpAny_typeOf → fv,wpAny_pyIter_list → fO,wpAny_loadPart_at → fU,call_meets → fY,wpAny_execs_cons → gf,wpAny_isInstance → gp,rawInt → gA,wpAny_typeNameOf_keyiter → gH,wpAny_execs_nil → gJ,wpAny_passesOwn → gK,wpAny_pyIter_tuple → gO,sliceBounds → gT,cellsFrom → iu,closureFor → iA,DictEntry → iB,holding → iF,wpAny_attempt → iH,wpAny_updateSeq_pair → iM,codeAny_call_builtin → iQ,wpAny_loadPart' → i5,intKind → kf,codeAny_mono → kh,codeAmong → kl,wpAny_Name → km,wpAny_newFunctionEnv_cells → kq,IsPart → kr,typeLookup → ky,tupleKind_room_in1 → kz,wpAny_setField → kG,wpAny_binaryOp_repeat_ref → kQ,standAt → kR,wpAny_assign_Name → kS,getItem → kT,wpAny_sequenceKey → kU,wpAny_onRaise → lg,wpAny_eqBool_int → lv,noFill_tuple_add → lw,wpAny_pyNext_list_item → lL,typeIs_int → lP,IsPair → lS,richCompare_meets_room → lV,letOwnedTupleGo → l4,codeAny_builtin → l7,wpAny_isTrue_Compare1 → l9,wpAny_pyNext_list_end → md,codeAny_call_function → me,exec_Assign_Name_used → mf,wpAny_notOrdered_dict → mi,wpAny_isOneOf_keyiter → ml,builtinLookup_eq_fast → mm,wpAny_loadName_local → mv,pyIter → mw,bindArgs → mB,wpAny_newFunctionEnv → mE,wpAny_of_eq → mF,firstArgMember → mG,ZipApart → mH,BindsTo → mR,callerA → mS,wpAny_loadName_cell → mU,wpAny_loadName_free → mV,assignInOrder → mZ,seq_tuple_add → m5,evalPart_none → m8,wpAny_load → nv,Sem → nL,rule → nN,concat_meets → nU,seqIndex_neg → nV,valueAt → nZ,wpAny_pyIter_enum → on,wpAny_dictEntries → ou,pyNext → oA,Result → oF,Arguments → oG,TriplesOk → oI,seqSlot_of → oJ,preSum → oP,seqIndex_of → o6,IsZip → o7,wpAny_letGo → o8,unsupported → o9,builtinsNs → pH,GenState → pI,wpAny_call → pK,call → pN,atKey → pO,Meets → pP,compTurn → pQ,getAttr? → pY,bindL → rM,bindC → rO,truthy → rP,Keyword → rQ,DefRec → rR,Tok → rS,CmpOp → rT,ret → rV
open Decidable renaming decide → ag
open List renaming getElem?_eq_getElem → ai,mem_cons_self → ao,mem_cons_of_mem → aq,size_toArray → ay,mem_cons → az,length_map → aB,getD_eq_getElem?_getD → aF,getElem?_eq_some_iff → aG,replicate → aH,mem_map → aP,length_cons → aQ,getElem?_map → aR,mem_singleton → aU,map_cons → aW,getElem_mem → aX,range → aY,pairwise_cons → aZ,getElem?_set_ne → ba,all_eq_true → bf,getElem?_set_self → bg,mem_append_right → bh,length_append → bp,mem_range → bt,length_take → bz,length_drop → bB,length_set → bC,not_mem_nil → bE,getElem?_append_right → bI,append_assoc → bM,map_append → bP,length_range → bS,lookup_cons → bT,replicate_succ → bU,mem_append_left → bV,zip_cons_cons → cc,getElem?_append_left → cf,drop_eq_getElem_cons → cg,pairwise_iff_getElem → ck,take_of_length_le → cq,mem_of_mem_drop → cr,mem_append → cu,getElem?_replicate → cx,filterMap_cons → cy,getElem_of_mem → cA,take_append_drop → cG,map_map → cI,flatten_cons → cM,mem_of_getElem? → cN,getElem?_take → cQ,append_nil → cT,length_replicate → cW,ext_getElem? → cX,pairwise_map → cY,mem_of_mem_take → c6,mem_filter → c7,nodup_cons → c8,toArray → de,getElem?_eq_none → dq,pairwise_append → dA,getElem?_range → dE,find?_cons → dZ,mem_map_of_mem → d4,drop_length → eg,mem_reverse → ei,contains_iff_mem → eE,foldl_cons → eL,nil_append → eM,reverse_cons → eQ,map_uncurry_zip_eq_zipWith → eV,map_congr_left → eX,length_eq_zero_iff → fc,pairwise_singleton → fj,mem_flatMap → fk,getElem?_drop → fA,drop_of_length_le → fB,of_mem_zip → fE,length_zip → fF,any_cons → fI,length_singleton → fK,pairwise_reverse → fM,length_filter_le → fN,nodup_append → fP,getElem_take → fQ,getElem_drop → fR,reverse_perm → fT,any_eq_true → gj,take_length → gn,getElem?_zip_eq_some → gu,extract_eq_take_drop → gw,filter_sublist → gB,eq_of_mem_replicate → gI,zip_nil_right → gR,all_map → gZ,drop_drop → g7,getElem?_inj → hJ,zip_nil_left → hV,sum_replicate_nat → h9,ext_getElem → iD,all_cons → iG,length → iJ,isEmpty_toArray → iK,getElem?_mapIdx → iL,drop_append_of_le_length → iO,take_append_of_le_length → iP,length_nil → iS,mem_zipIdx_iff_getElem? → iV,length_reverse → i9,length_flatMap → ke,drop_zero → kF,drop_left → kJ,take_left → kK,find?_eq_none → kM,map_replicate → kP,take_add_one → k7,find?_range_eq_some → lq,cons_append → lB,zipIdx_cons → lC,filter_cons → lJ,range_succ_eq_map → lR,pairwise_lt_range → lZ,forIn_cons → l6,getElem?_reverse → mh,pairwise_flatMap → mn,nodup_nil → mD,mem_iff_getElem → mJ,map → mK,take → mT,reverse_append → mX,contains → m9,mem_filterMap → ny,filterMap_map → nE,find?_toArray → nH,mem_replicate → nJ,any_eq_false → nO,take_sublist → nS,map_nil → nY,getElem?_set → oh,drop_sublist → oq,drop → oN,drop_append → oQ,countP_cons → oR,nodup_range → oS,zipIdx_nil → pe,map_const' → pD,forIn_nil → pR,take_take → pT,perm_cons → pU,tail_cons → rm,set_comm → rA,map_tail → rF,map_take → rG,map_drop → rH,zip → rW
open Bool renaming true → aj,false → al,and_eq_true → aD,false_ne_true → aM,eq_iff_iff → cw,false_eq_true → cE,not_false → hZ,not_true → iI,or_eq_true → i6,not_eq_true' → k8,false_or → k9,true_and → rK
open PySem.W renaming Frag → ak,katRev → bx,kia_one → cS,hideAll_none → cZ,kia_tup → c9,CodeHd → dv,fnOf → d6,hideAll → eJ,kat_len → eN,envX → fC,kla_obj → fH,kitOne → fV,keepIn → fW,kitAny → gd,hideAll_get → gy,of_hideAll → gM,kitx_list → gU,kitx_dict → gV,cellsFrom_some → gW,nsIn → h8,kat_nil → i4,codeIn → ko,katRev → lj,mg_of → lm,instObj → l0,OpenLaw → l8,lookIn → my,noTabs → mO,kitx_float → nA,kitx_tuple → nB,callWith_K → nC,codeRec_of → nD,kitx_none → nP,kitx_bool → nQ,looks_findIn → ow,plainGet → oB,kitx_int → oC,kitx_str → oD,kitx_own → oE,kat_cons → oW,kat_kind → oX,kat_yes → pj,kat_one → pz,KatTups → pA,kat_len → pG,findIn → pJ,KatLex → pV,kat_no → pW,kat_lt → pX,findIn → rc,exmOne → re,kla_fn → rg,tabObj → rh,tabIn → rC,WalkO → rE
open Option.some renaming inj → am
open PySem.Heap renaming get?_push_of_some → aw,lt_size → aJ,get?_push_size → aO,size_push → eB,SameBut → fq,get?_update_self → fJ,ExtBut → fZ,get?_push_ne → hU,size_update → lF,get?_update_other → lO,get?_update_ne → mY
open Nat renaming le_refl → aI,ne_of_lt → br,lt_of_lt_of_le → bu,lt_irrefl → bH,le_trans → bY,lt_trans → db,zero_le → dN,pow_le_pow_right → dO,lt_of_succ_lt → dR,lt_succ_of_lt → eR,le_of_not_lt → fb,le_add_right → fg,ne_of_gt → gh,lt_of_le_of_ne → gP,min_eq_left → iY,le_of_lt → kg,add_comm → ki,mul_le_mul → kD,le_succ → kZ,add_assoc → lh,lt_succ_self → lD,not_lt_of_le → lG,le_mul_of_pos_right → lK,mul_comm → lQ,min_self → oj,le_of_eq → oo,pow_succ → oy,min_eq_right → o4,mul_assoc → rJ
open PyProof.Rows renaming wpS_bind → aK,wpS_pure → aT,arrOf → bj,pendingOf → bo,SortSt → bR,Keyed → bW,slot_tuple_getitem → cF,wpS_forRange → cH,envOfC → dG,callWith_type1 → d5,wpS_mono → eS,wpS_modify → fz,SortKind → fG,elem' → gv,failedOf → gF,wpS_get → g9,setPending → iC,AllBare → iE,seqObj → iZ,entry_tuple_getitem → i8,assignInOrder_cons → kn,slicePart_none → ku,args_tuple_getitem → kx,list_sort_rev → kL,subscriptTail_builtinR → lN,wpS → mr,tupleItemsOf_ → m7,listUpdate_at → nj,IsTup → nK,assignInOrder_nil → nM,seqEpoch_at → pb,IntsAre → pE,minRun' → pF,Subscript_ → pL
open Array renaming length_toList → aN,getElem?_toList → bv,getElem?_eq_getElem → bG,perm_iff_toList_perm → bJ,toList_append → cn,size_push → d3,toList_push → fS,size_extract → gQ,size_append → g8,toList_extract → iN,toList_setIfInBounds → kI,append_empty → kN,toList_inj → lE,getElem?_eq_none → lT,mem_toList_iff → mz,toList_reverse → mI,append_assoc → nr,size_reverse → nI,toList_map → oU
open And renaming intro → aV
open PySem.Str renaming ofString → bw
open PySem.Value renaming none → bD,bool → bO,ref → cU,builtin → ln,int → lu,isStrOf → rq
open PySem.NameKind renaming free → bN,cell → ni
open Pure renaming pure → cC
open PySem.Builtin.Slice renaming slicePlaces → cP,sliceAdjust → gq,sliceApplied → kw
open True renaming intro → dg
open List.Perm renaming refl → du,swap → mL,nil_eq → oV,of_eq → pi
open Int renaming toNat_natCast → dC,emod_eq_of_lt → dS,emod_lt_of_pos → fD,emod_nonneg → gL,natCast_add → pf
open PySem.AutoSeq1 renaming wpAny_loadPart' → dH,sub_tuple_tuple → dM,wpAny_loadPart' → gE,idx_int → ly
open Sum renaming inl → dP,inr → mQ
open PySem.F renaming slot_tuple_iterator_next → ej,plainAttrs_list → fe,args_tuple_add_2 → gC,entry_tuple_add → gS,slot_tuple_add → gX,typeOf_object_class → ip,slot_int_rmul → iT,args_tuple_iterator_next_1 → iW,slot_zip_next → iX,slot_dict_keyiterator_next → i7,entry_tuple_iterator_next → kj,args_tuple_mul_2 → kC,entry_tuple_mul → kW,slot_tuple_mul → lz,slot_list_index → lH,type_list_index → lI,args_int_rmul_2 → oi,args_zip_next_1 → om,args_tuple_lt_2 → ot,entry_int_rmul → oK,entry_zip_next → oO,entry_tuple_lt → oY,slot_dict_iter → oZ,fills_int_mul → pc,slot_tuple_lt → pB
open PySem.Builtin.SmallTypes renaming nextOf → eI
open PySem.Obj renaming mapSeq → eT,data_mapFields → fw,isFreed_of_fields → im,cls_mapFields → kY
open Or renaming inr → eU,inl → gN
open PySem.Heap.SameBut renaming update → eW
open PySem.Builtin.Tuple renaming tupleItemsOf → fX,tupleCompareSizes → ig,tupleTooMany → kB
open PySem.Builtin.List renaming listTooLong → gD
open List.Pairwise renaming imp_of_mem → gG,nil → gY,filter → mP
open PyProof.Rows.IsTup renaming new → iq
open PySem.SeqAt renaming EqAt → iz
open PySem.SeqAt.EqAt renaming same → iR,of_refs → kE,bool_bool → kO,int_str → nk,str_int → nq,int_int → nG
open ForInStep renaming yield → iU
open Lean.Grind renaming CommRing → kc
open Break renaming runK → kH
open PySem.SeqAt.RcAt renaming tuples → kX,lists_lengths → lc,lists → oM
open LawfulBEq renaming eq_of_beq → lx
open PySem.Builtin.Dict renaming showsAll → mj
open PySem.Around renaming frames_deeper → mC,under_plainId → mM
open PySem.Builtin.Int renaming intBits → mW
open ForIn renaming forIn → ng
open PySem.P renaming truthy_int → nz
open PySem.Heap.IsSliceOf renaming new → nF
open Classical renaming not_not → ox
open PyProof.Rows.SortSt renaming mk' → pS
open PySem.Value.type renaming inj → rj
open Min renaming min → rn
open PySem.Code renaming compLoop → rB
namespace L2
open PySem PySem.Spec PyProof.Rows
abbrev Key:=Sum Int bn
noncomputable def QL:Key->au->Bool
 |.inl k,v=>au.isInt k v
 |.inr x,v=>rq x v
noncomputable def Zfc(w:bK):Key->Int
 |.inl k=>hashInt k
 |.inr x=>hashStr w x
def ZU:∀{k:Key}{v:au},QL k v=aj->(∃i t,k=dP i/\v=lu i t)\/(∃x t,k=mQ x/\v=au.str x t)
 |.inl i,v,h=>by
  obtain⟨t,e⟩:=au.isInt_shape h;exact .inl ⟨i,t,rfl,e⟩
 |.inr x,v,h=>by
  obtain⟨t,e⟩:=au.isStrOf_shape h;exact .inr ⟨x,t,rfl,e⟩
def vL(i:Int)(t:rS):QL (.inl i) (.int i t)=aj:=by simp[QL,au.isInt]
def uh(x:bn)(t:rS):QL (.inr x) (.str x t)=aj:=by simp[QL,rq]
def Zdk(a b:Int):ag ((dP a:Key)=dP b)=(a == b):=by
 by_cases e:a=b
 ·subst e;simp
 ·have h:¬(dP a:Key)=dP b:=λq=>e (dP.inj q)
  rw[T4 h];exact(beq_eq_false_iff_ne.mpr e).symm
def Zdg(a b:bn):ag ((mQ a:Key)=mQ b)=ag (a=b):=by
 by_cases e:a=b
 ·subst e;simp
 ·have h:¬(mQ a:Key)=mQ b:=λq=>e (mQ.inj q)
  rw[T4 h,T4 e]
def ZcW(a:Int)(b:bn):ag ((dP a:Key)=mQ b)=al:=T4 (λq=>nomatch q)
def ZdD(a:bn)(b:Int):ag ((mQ a:Key)=dP b)=al:=T4 (λq=>nomatch q)
noncomputable def ZP(prog:bq)(w:bK):PySem.KeyKind prog w Key where
 is:=QL
 hash:=Zfc w
 inj:=λv a b ha hb=>by
  rcases ZU ha with⟨i,t,rfl,rfl⟩|⟨x,t,rfl,rfl⟩
  ·rcases ZU hb with⟨j,u,rfl,e⟩|⟨y,u,rfl,e⟩
   ·injection e with e1 _;rw[e1]
   ·exact nomatch e
  ·rcases ZU hb with⟨j,u,rfl,e⟩|⟨y,u,rfl,e⟩
   ·exact nomatch e
   ·injection e with e1 _;rw[e1]
 byValue:=λk v h=>by
  rcases ZU h with⟨i,t,rfl,rfl⟩|⟨x,t,rfl,rfl⟩<;>rfl
 pyHash:=λhv h=>by
  rcases ZU hv with⟨i,t,rfl,rfl⟩|⟨x,t,rfl,rfl⟩
  ·exact wpAny_pyHash_int h
  ·exact wpAny_pyHash_str h
 eqBool:=λhu hv h=>by
  rcases ZU hu with⟨i,t,rfl,rfl⟩|⟨x,t,rfl,rfl⟩
  ·rcases ZU hv with⟨j,u,rfl,rfl⟩|⟨y,u,rfl,rfl⟩
   ·rw[Zdk]at h;exact lv h
   ·rw[ZcW]at h;exact nk i t y u _ _ _ _ h
  ·rcases ZU hv with⟨j,u,rfl,rfl⟩|⟨y,u,rfl,rfl⟩
   ·rw[ZdD]at h;exact nq x t j u _ _ _ _ h
   ·rw[Zdg]at h;exact wpAny_eqBool_str h
 «strs»:=λk x t v h=>by
  rcases ZU h with⟨i,u,rfl,e⟩|⟨y,u,rfl,e⟩
  ·exact nomatch e
  ·injection e with e1 _
   subst e1;cases v<;>rfl
def GX(prog:bq)(w:bK)(i:Int)(t:rS):(ZP prog w).is (.inl i) (.int i t)=aj:=vL i t
def GV(prog:bq)(w:bK)(x:bn)(t:rS):(ZP prog w).is (.inr x) (.str x t)=aj:=uh x t
inductive V where
 |non|bl (b:Bool)|int (i:Int)|str (x:bn)|byt (b:Array UInt8)|flt (b:UInt64)|ref (a:aC)|ty (n:String)
 deriving DecidableEq
def Zu:V->au->Prop
 |.non,u=>u=bD
 |.bl b,u=>u=bO b
 |.int i,u=>∃t,u=lu i t
 |.str x,u=>∃t,u=au.str x t
 |.byt b,u=>∃t,u=au.bytes b t
 |.flt b,u=>∃t,u=au.float b t
 |.ref a,u=>u=cU a
 |.ty n,u=>u=au.type n
abbrev Vals:List V->List au->Prop:=Paired Zu
theorem Vals.length{xs:List V}{us:List au}(r:Vals xs us):xs.length=us.length:=Paired.length r
theorem Vals.get:∀{xs:List V}{us:List au}{i:Nat}{x:V},Vals xs us->xs[i]?=aa x->∃u,us[i]?=aa u/\Zu x u
 |_,_,_,_,.nil,e=>by simp at e
 |_,_,0,_,.cons r _,e=>by simp at e;subst e;exact⟨_,rfl,r⟩
 |_,_,i+1,x,.cons _ t,e=>by
  obtain⟨u,h1,h2⟩:=Vals.get t (by simpa using e)
  exact⟨u,by simpa using h1,h2⟩
theorem Vals.set(r:Zu x u):∀{xs:List V}{us:List au}(i:Nat),Vals xs us->Vals (xs.set i x) (us.set i u)
 |_,_,_,.nil=>.nil
 |_,_,0,.cons _ t=>.cons r t
 |_,_,i+1,.cons q t=>.cons q (Vals.set r i t)
theorem Vals.append:∀{xs ys:List V}{us ws:List au},Vals xs us->Vals ys ws->Vals (xs++ys) (us++ws)
 |_,_,_,_,.nil,s=>s
 |_,_,_,_,.cons r t,s=>.cons r (Vals.append t s)
theorem Vals.take:∀{xs:List V}{us:List au}(n:Nat),Vals xs us->Vals (xs.take n) (us.take n)
 |_,_,0,_=>.nil
 |_,_,_+1,.nil=>.nil
 |_,_,n+1,.cons r t=>.cons r (Vals.take n t)
theorem Vals.drop:∀{xs:List V}{us:List au}(n:Nat),Vals xs us->Vals (xs.drop n) (us.drop n)
 |_,_,0,r=>r
 |_,_,_+1,.nil=>.nil
 |_,_,n+1,.cons _ t=>Vals.drop n t
def xJ:Option V->Option au->Prop
 |some v,aa u=>Zu v u
 |none,af=>True
 |_,_=>False
def KV{κ:Type}:List (κ×V)->List (κ×au)->Prop:=Paired λ(p:κ×V) (q:κ×au)=>p.1=q.1/\Zu p.2 q.2
noncomputable def kV:Key->V
 |.inl i=>.int i
 |.inr x=>.str x
inductive HO where
 |lst (xs:List V)
 |tup (xs:List V)
 |dK (kvs:List (Key×V))|dT (kvs:List (List Key×V))
 |set (S:Int->Bool) (n:Nat)
 |ins (C dx:aC) (fs:List (bn×V))
 |own (x:aC)
 |xd (fs:List (bn×V))
 |met (f x:aC)
 |rng (lo hi:Int)
 |frz (o:eG) (u:HO)
 |tbl (ps:Array au)
 |ext (φ:bX->Prop)
abbrev Hp:=aC->Option HO
noncomputable def upd(H:Hp)(a:aC)(o:HO):Hp:=λb=>if b=a then aa o else H b
def Zk :upd H a o a=aa o:=by unfold upd;rw[T9 rfl]
def Zi(h:b≠a):upd H a o b=H b:=by unfold upd;rw[T8 h]
def Zb5 :upd (upd H a o) a u=upd H a u:=by
 funext b;unfold upd;split<;>rfl
def ZH{H:Hp}{a b:aC}{o:HO}(h:H a=aa o)(h':H b=af):a≠b:=by
 intro e;subst e;rw[h]at h';cases h'
section
variable(P:bq)(w:bK)
def Z7(H:Hp)(h:bX)(a:aC):HO->Prop
 |.lst xs=>xs.length<=bi/\∃(its:List au)(n:Nat),Vals xs its/\h.get? a=aa {cls:=.type "list",data:=.seq its.toArray n}
 |.tup xs=>xs.length<=bi/\∃its:List au,Vals xs its/\nK h a its.toArray
 |.dK kvs=>kvs.length<=bi/\(a == dF)=al/\∃vs,KV kvs vs/\h.DictOf (ZP P w) a vs
 |.dT kvs=>kvs.length<=bi/\(a == dF)=al/\∃xs:List (List Key×aC×au),
   Paired (λ(p:List Key×V) (q:List Key×aC×au)=>p.1=q.1/\H q.2.1=aa (.tup (p.1.map kV))/\Zu p.2 q.2.2) kvs xs/\
   ∃o es ep,h.get? a=aa o/\o.ExactDict/\o.data=.dict es ep/\es.toList=xs.map (entryOfKey (ee (ZP P w)))/\(xs.map (·.1)).Nodup
 |.set S n=>h.SetOf (kf P w) a S n
 |.ins C dx fs=>H dx=aa (.own a)/\fs.length<=1000/\dx≠a/\h.get? a=aa (l0 C dx)/\
   ∃mA,h.Ns1 dx mA/\(∀f,xJ (fs.lookup f) (mA f))/\PySem.Within mA (fs.map (·.1))
 |.own _=>∃o,h.get? a=aa o
 |.xd fs=>∃mA,h.Ns1 a mA/\∀f,xJ (fs.lookup f) (mA f)
 |.rng lo hi=>∃t u v,h.get? a=aa {cls:=.type "range",data:=.fields #[.int lo t,.int hi u,.int 1 v]}
 |.frz o u=>h.get? a=aa o/\Z7 H h a u
 |.tbl ps=>h.get? a=aa {cls:=.none,data:=.fields ps}
 |.met f x=>h.get? a=aa (PySem.W.methodObj (.ref f) (.ref x))
 |.ext φ=>φ h/\(∃o,h.get? a=aa o)/\∀h1 h2:bX,φ h1->(∀o,h1.get? a=aa o->h2.get? a=aa o)->φ h2
def HOk(H:Hp)(h:bX):Prop:=∀a o,H a=aa o->Z7 P w H h a o
end
section
variable{P:bq}{w:bK}{H H':Hp}{h h':bX}{a:aC}{o:HO}
theorem Z7.lt(x:Z7 P w H h a o):a<h.objs.size:=by
 cases o with|lst xs=>obtain⟨_,_,_,_,e⟩:=x;exact aJ e|tup xs=>obtain⟨_,_,_,p⟩:=x;exact p.lt|dK kvs=>obtain⟨_,_,_,_,o,_,_,e,_⟩:=x;exact aJ e|dT kvs=>obtain⟨_,_,_,_,o,_,_,e,_⟩:=x;exact aJ e|set S n=>obtain⟨o,_,_,_,e,_⟩:=x;exact aJ e|ins C dx fs=>obtain⟨_,_,_,e,_⟩:=x;exact aJ e|own y=>obtain⟨_,e⟩:=x;exact aJ e|xd fs=>obtain⟨_,⟨_,_,_,e,_⟩,_⟩:=x;exact aJ e|rng lo hi=>obtain⟨_,_,_,e⟩:=x;exact aJ e|frz ob u=>obtain⟨e,_⟩:=x;exact aJ e|tbl ps=>exact aJ (x)|met f y=>exact aJ (x)|ext φ=>obtain⟨_,⟨_,e⟩,_⟩:=x;exact aJ e
theorem Paired.mapP{α β:Type}{F G:α->β->Prop}:∀{l₁:List α}{l₂:List β},Paired F l₁ l₂->(∀a b,F a b->G a b)->Paired G l₁ l₂
 |_,_,.nil,_=>.nil
 |_,_,.cons r t,f=>.cons (f _ _ r) (Paired.mapP t f)
def Z7.stay(x:Z7 P w H h a o)(k:∀b u,(b=a\/H b=aa (.own a))->h.get? b=aa u->h'.get? b=aa u)
  (ho:∀b,H b=aa (.own a)->H' b=aa (.own a))(ht:∀b xs,H b=aa (.tup xs)->H' b=aa (.tup xs)):Z7 P w H' h' a o:=by
 induction o with
 |lst xs=>obtain⟨z,its,n,r,e⟩:=x;exact⟨z,its,n,r,k _ _ (.inl rfl) e⟩
 |tup xs=>obtain⟨z,its,r,ob,e,c⟩:=x;exact⟨z,its,r,ob,k _ _ (.inl rfl) e,c⟩
 |dK kvs=>obtain⟨z,y,vs,r,ob,es,ep,e,c⟩:=x;exact⟨z,y,vs,r,ob,es,ep,k _ _ (.inl rfl) e,c⟩
 |dT kvs=>
  obtain⟨z,y,xs,r,ob,es,ep,e,c⟩:=x;exact⟨z,y,xs,Paired.mapP r λp q z=>⟨z.1,ht _ _ z.2.1,z.2.2⟩,ob,es,ep,k _ _ (.inl rfl) e,c⟩
 |set S n=>obtain⟨ob,es,ep,t,e,c⟩:=x;exact⟨ob,es,ep,t,k _ _ (.inl rfl) e,c⟩
 |ins C dx fs=>
  obtain⟨d,z,ne,e,mA,⟨od,es,ep,e2,c⟩,r⟩:=x;exact⟨ho _ d,z,ne,k _ _ (.inl rfl) e,mA,⟨od,es,ep,k _ _ (.inr d) e2,c⟩,r⟩
 |own y=>obtain⟨ob,e⟩:=x;exact⟨ob,k _ _ (.inl rfl) e⟩
 |xd fs=>obtain⟨mA,⟨od,es,ep,e,c⟩,r⟩:=x;exact⟨mA,⟨od,es,ep,k _ _ (.inl rfl) e,c⟩,r⟩
 |rng lo hi=>obtain⟨t,u,v,e⟩:=x;exact⟨t,u,v,k _ _ (.inl rfl) e⟩
 |frz ob u ih=>obtain⟨e,q⟩:=x;exact⟨k _ _ (.inl rfl) e,ih q⟩
 |tbl ps=>
  have e:=x;exact k a _ (.inl rfl) e
 |met f y=>
  have e:=x;exact k a _ (.inl rfl) e
 |ext φ=>obtain⟨p,⟨o,e⟩,st⟩:=x;exact⟨st _ _ p λo q=>k _ _ (.inl rfl) q,⟨o,k _ _ (.inl rfl) e⟩,st⟩
theorem HOk.lt(x:HOk P w H h)(e:H a=aa o):a<h.objs.size:=(x a o e).lt
def HOk.fresh(x:HOk P w H h)(e:h.objs.size<=a):H a=af:=by
 cases q:H a with|none=>rfl|some u=>exact T7 (bu (x.lt q) e) (bH _)
def HOk.kept(x:HOk P w H h)(k:∀b u,h.get? b=aa u->h'.get? b=aa u):HOk P w H h':=λa o e=>
 (x a o e).stay (λb u _ q=>k b u q) (λ_ q=>q) λ_ _ q=>q
def HOk.laid(x:HOk P w H h)(k:∀b u,h.get? b=aa u->h'.get? b=aa u)(hp:h.objs.size<=a)(new:Z7 P w (upd H a o) h' a o):HOk P w (upd H a o) h':=λb u e=>by
 have hn:=x.fresh hp;by_cases hb:b=a
 ·subst hb;rw[Zk]at e;cases e;exact new
 ·rw[Zi hb]at e
  exact(x b u e).stay (λc v _ q=>k c v q) (λc q=>by rw[Zi (ZH q hn)];exact q) λc xs q=>by rw[Zi (ZH q hn)];exact q
end
def Rd(H:Hp)(a:aC)(u:HO):Prop:=H a=aa u\/∃o,H a=aa (.frz o u)
def Rd.ok(r:Rd H a u)(x:HOk P w H h):Z7 P w H h a u:=by
 rcases r with r|⟨o,r⟩
 ·exact x a u r
 ·obtain⟨_,q⟩:=x a _ r
  exact q
def Mut:Option HO->Prop
 |some (.lst _)=>True
 |some (.dK _)=>True
 |some (.dT _)=>True
 |some (.set _ _)=>True
 |some (.ins _ _ _)=>True
 |some (.ext _)=>True
 |_=>False
section
variable{P:bq}{w:bK}{H:Hp}{h h':bX}{x e:aC}{o':HO}
def HOk.write(ok:HOk P w H h)(mu:Mut (H x))(he:e=x\/H e=aa (.own x))(k:∀b u,b≠e->h.get? b=aa u->h'.get? b=aa u)(heo:∃u,h'.get? e=aa u)
  (new:Z7 P w (upd H x o') h' x o'):HOk P w (upd H x o') h':=λb u q=>by
 have nown:∀c y,H c=aa (.own y)->c≠x:=λc y r z=>by subst z;rw[r]at mu;exact mu
 have ntup:∀c xs,H c=aa (.tup xs)->c≠x:=λc xs r z=>by subst z;rw[r]at mu;exact mu
 by_cases hb:b=x
 ·subst hb;rw[Zk]at q;cases q;exact new
 ·rw[Zi hb]at q
  by_cases hbe:b=e
  ·have q':H b=aa (.own x):=by
    rcases he with z|z
    ·exact T7 (hbe.trans z) hb
    ·rw[hbe];exact z
   rw[q]at q';cases q';obtain⟨v,hv⟩:=heo;exact⟨v,by rw[hbe];exact hv⟩
  ·refine(ok b u q).stay (λc v hc r=>k c v ?_ r) (λc r=>by rw[Zi (nown c b r)];exact r) λc xs r=>by rw[Zi (ntup c xs r)];exact r
   rcases hc with rfl|hc
   ·exact hbe
   ·rintro rfl
    rcases he with z|z
    ·exact nown c b hc z
    ·rw[hc]at z;cases z;exact hb rfl
end
structure Un(fs ex:List aC)(H H':Hp)(h h':bX):Prop where
 keep:∀b o,h.get? b=aa o->H b=af->b∉fs->b∉ex->h'.get? b=aa o
 slot:∀b o,h.get? b=aa o->H b=af->b∈fs->b∉ex->∃sl,h'.get? b=aa {o with slots:=sl}
 free:∀b o,h.get? b=aa o->H b=af->b∉ex->H' b=af
 there:∀b o,h.get? b=aa o->b∉ex->∃o',h'.get? b=aa o'
 tups:∀b xs,H b=aa (.tup xs)->H' b=aa (.tup xs)
 frzs:∀b o u,H b=aa (.frz o u)->H' b=aa (.frz o u)
 tbls:∀b ps,H b=aa (.tbl ps)->∃more,H' b=aa (.tbl (ps++more))
section
variable{fs fs' ex ex':List aC}{H H1 H2:Hp}{h h1 h2 h':bX}{a x e:aC}{o:HO}
def Un.any(u:Un fs ex H H1 h h1)(q:h.get? b=aa ob)(n:H b=af)(hx:b∉ex):∃sl,h1.get? b=aa {ob with slots:=sl}:=by
 by_cases hb:b∈fs
 ·exact u.slot b ob q n hb hx
 ·exact⟨ob.slots,u.keep b ob q n hb hx⟩
def Un.kept(k:∀b u,h.get? b=aa u->h'.get? b=aa u):Un fs ex H H h h':=
 ⟨λb ob q _ _ _=>k b ob q,λb ob q _ _ _=>⟨ob.slots,k b ob q⟩,λ_ _ _ n _=>n,λb ob q _=>⟨ob,k b ob q⟩,λ_ _ q=>q,λ_ _ _ q=>q,λ_ ps q=>⟨#[],by rw[q];simp⟩⟩
def Un.refl:Un fs ex H H h h:=Un.kept λ_ _ q=>q
def Un.laid(k:∀b u,h.get? b=aa u->h'.get? b=aa u)(hp:h.objs.size<=a)(hn:H a=af):Un fs ex H (upd H a o) h h' where
 keep:=λb u q _ _ _=>k b u q
 slot:=λb u q _ _ _=>⟨u.slots,k b u q⟩
 free:=λb u q n _=>by rw[Zi (br (bu (aJ q) hp))];exact n
 there:=λb u q _=>⟨u,k b u q⟩
 tups:=λb xs q=>by rw[Zi (ZH q hn)];exact q
 frzs:=λb u xs q=>by rw[Zi (ZH q hn)];exact q
 tbls:=λb ps q=>⟨#[],by rw[Zi (ZH q hn),q];simp⟩
def Un.write(mu:Mut (H x))(he:e=x\/H e=aa (.own x))(k:∀b u,b≠e->h.get? b=aa u->h'.get? b=aa u)(heo:∃u,h'.get? e=aa u):Un fs ex H (upd H x o) h h':=by
 have hx:∀b,H b=af->b≠x:=λb n z=>by subst z;rw[n]at mu;exact mu
 have hb:∀b,H b=af->b≠e:=λb n z=>by
  subst z;rcases he with r|r
  ·exact hx b n r
  ·rw[n]at r;cases r
 have hm:∀b u,H b=aa u->¬Mut (aa u)->b≠x:=λb u q nm z=>by subst z;rw[q]at mu;exact nm mu
 refine⟨λb u q n _ _=>k b u (hb b n) q,λb u q n _ _=>⟨u.slots,k b u (hb b n) q⟩,λb u q n _=>by rw[Zi (hx b n)];exact n,λb u q _=>?_,
  λb xs q=>by rw[Zi (hm b _ q λz=>z)];exact q,λb u xs q=>by rw[Zi (hm b _ q λz=>z)];exact q,λb ps q=>⟨#[],by rw[Zi (hm b _ q λz=>z),q];simp⟩⟩
 by_cases hbe:b=e
 ·subst hbe;exact heo
 ·exact⟨u,k b u hbe q⟩
end
noncomputable def trk(h:bX)(H:Hp):List aC:=(aY h.objs.size).filter λa=>(H a).isSome
noncomputable def Qp(h:bX)(H:Hp):bX:=eJ h (trk h H)
def uz(h:bX)(H:Hp):(Qp h H).objs.size=h.objs.size:=PySem.W.hideAll_size _ _
def jr(e:h.get? b=aa o)(n:H b=af):(Qp h H).get? b=aa o:=
 gy _ e λhm=>by
  have q:=(c7.mp hm).2;rw[n]at q;simp at q
def Zbk(e:(Qp h H).get? b=aa o):h.get? b=aa o/\H b=af:=by
 have e':=gM (trk h H) e;refine⟨e',?_⟩;cases q:H b with
 |none=>rfl
 |some x=>
  have hm:b∈trk h H:=c7.mpr ⟨bt.mpr (aJ e'),by simp[q]⟩
  have z:(Qp h H).get? b=af:=cZ (trk h H) hm;rw[z]at e;cases e
structure Mod(K:ak)(mg:bn->Option au)(base:bX):Prop where
 kin:K.In base
 glob:base.Ns bF mg
 blt:∃mb,base.Ns pH mb/\∀x:bn,x≠"__name__"->mb x=dy x
 nolimit:base.NoLimit
structure Cx where
 prog:bq
 w:bK
 K:ak
 mg:bn->Option au
 base:bX
 A:bQ
 N:List bn
 s₀:ax
 H₀:Hp
 env:Env
 outer:List Env
 stack:List Env
 ex:List aC
 fn:bn->Bool
 calm:Bool
 pn:List (aC×eG)
 xe:au->ax->Prop
noncomputable def frs(l:List Env):List aC:=l.filterMap (·.frame)
noncomputable abbrev Cx.fs(X:Cx):List aC:=frs X.outer
def Vis(sc:dQ)(x:bn):Prop:=sc.names.lookup x=aa .local\/sc.names.lookup x=aa .cell\/sc.names.lookup x=aa .free
def Loc(sc:dQ)(x:bn):Prop:=sc.names.lookup x=aa .local\/sc.names.lookup x=aa .cell
def Look(env:Env)(h:bX)(m:bn->Option au)(x:bn)(u:au):Prop:=
 (env.kindOf x=aa .local/\m x=aa u)\/((env.kindOf x=aa .cell\/env.kindOf x=aa .free)/\∃c,env.cells.lookup x=aa c/\h.IsCell c (aa u))
structure Cx.Ok(X:Cx):Prop where
 mod:Mod X.K X.mg X.base
 kind:X.env.scope.kind=.function
 glob:X.env.globals=bF
 blt:X.env.builtins=pH
 above:X.s₀.heap.objs.size<=X.env.locals
 inj:∀x y c,X.env.cells.lookup x=aa c->X.env.cells.lookup y=aa c->x=y
 has:∀x,(X.env.kindOf x=aa .cell\/X.env.kindOf x=aa .free)->∃c,X.env.cells.lookup x=aa c
 cab:∀x c,X.fn x=aj->X.env.cells.lookup x=aa c->X.s₀.heap.objs.size<=c
 hd:X.calm=aj->X.A.handled=af
 frames:X.A.frames=aa X.stack
 stk:X.stack=X.outer\/(X.stack=X.env::X.outer/\X.env.frame=aa X.env.locals)
 exf:∀b∈X.ex,b≠X.env.locals/\∀x c,X.env.cells.lookup x=aa c->c≠b
 bs:∀b o,X.base.get? b=aa o->X.s₀.heap.get? b=aa o/\X.H₀ b=af
 bsz:X.base.objs.size<=X.s₀.heap.objs.size
 noex:∀b o,X.base.get? b=aa o->b∉X.ex
 exfs:∀b∈X.ex,b∉X.fs
 funs:X.s₀.heap.FunFrames X.base X.outer
 frf:∀b∈X.fs,X.H₀ b=af
structure Inv(X:Cx)(pq:List (aC×eG))(σ:List (Option V))(H:Hp)(s:ax):Prop where
 ok:X.Ok
 os:s.os=X.s₀.os
 bare:iE s.gens
 base:Un X.fs X.ex X.H₀ H X.s₀.heap s.heap
 loc:∃m,s.heap.Ns X.env.locals m/\∀(i:Nat)(x:bn)(v:V),X.N[i]?=aa x->σ[i]?=aa (aa v)->Vis X.env.scope x->∃u,Zu v u/\Look X.env s.heap m x u
 cell:∀x c,X.env.cells.lookup x=aa c->∃v,s.heap.IsCell c v
 free:H X.env.locals=af
 freeC:∀x c,X.env.cells.lookup x=aa c->H c=af
 pin:∀p∈X.pn++pq,s.heap.get? p.1=aa p.2/\H p.1=af/\p.1≠X.env.locals/\p.1∉X.fs/\∀v,p.2.data≠.cell v
 hok:HOk X.prog X.w H s.heap
 len:σ.length=X.N.length
section
variable{X:Cx}{pq:List (aC×eG)}{σ:List (Option V)}{H H':Hp}{s:ax}{h':bX}
def Cx.Ok.nofr(ok:X.Ok)(e:X.base.get? b=aa o):b∉X.fs:=λhb=>by
 have:=(ok.funs.mem hb).1;rw[e]at this;cases this
theorem Inv.bs(I:Inv X pq σ H s):∀b o,X.base.get? b=aa o->s.heap.get? b=aa o/\H b=af:=λb o e=>
 ⟨I.base.keep b o (I.ok.bs b o e).1 (I.ok.bs b o e).2 (I.ok.nofr e) (I.ok.noex b o e),I.base.free b o (I.ok.bs b o e).1 (I.ok.bs b o e).2 (I.ok.noex b o e)⟩
def Inv.bk(I:Inv X pq σ H s):∀b o,X.base.get? b=aa o->s.heap.get? b=aa o:=λb o e=>(I.bs b o e).1
theorem Inv.mod(I:Inv X pq σ H s):Mod X.K X.mg X.base:=I.ok.mod
def Inv.kIn(I:Inv X pq σ H s):X.K.In s.heap:=I.ok.mod.kin.keeps I.bk
theorem Inv.lt(I:Inv X pq σ H s):X.env.locals<s.heap.objs.size:=let ⟨_,hn,_⟩:=I.loc;hn.lt
def Inv.sz(I:Inv X pq σ H s):X.s₀.heap.objs.size<=s.heap.objs.size:=bY I.ok.above (kg I.lt)
def Inv.nofs(I:Inv X pq σ H s)(h:s.heap.objs.size<=a):a∉X.fs:=λhb=>by
 obtain⟨_,o,ho,_⟩:=I.ok.funs.mem hb;exact T7 (bu (aJ ho) (bY I.sz h)) (bH _)
def Inv.cne(I:Inv X pq σ H s):∀x c,X.env.cells.lookup x=aa c->c≠X.env.locals:=λx c e z=>by
 obtain⟨v,o,ho,hd⟩:=I.cell x c e;obtain⟨m,⟨o',es,ep,ho',hd',_⟩,_⟩:=I.loc;rw[z,ho']at ho;cases ho;rw[hd']at hd;cases hd
theorem Inv.funs(I:Inv X pq σ H s):s.heap.FunFrames X.base X.outer:=by
 have all:∀(l:List Env),(∀b∈frs l,b∈X.fs)->X.s₀.heap.FunFrames X.base l->s.heap.FunFrames X.base l:=by
  intro l
  induction l with
  |nil=>intro _ _;trivial
  |cons env r ih=>
   intro hs hl;obtain⟨hk,⟨L,o,hf,hn,ho,hd⟩,hr⟩:=hl;have hL:=hs L (by unfold frs;rw[cy,hf];exact ao)
   obtain⟨sl,e⟩:=I.base.slot L o ho (I.ok.frf L hL) hL λz=>I.ok.exfs L z hL
   exact⟨hk,⟨L,_,hf,hn,e,hd⟩,ih (λb hb=>hs b (by unfold frs;rw[cy,hf];exact aq _ hb)) hr⟩
 exact all X.outer (λ_ hb=>hb) I.ok.funs
theorem Inv.stack(I:Inv X pq σ H s):s.heap.FunFrames X.base X.stack:=by
 rcases I.ok.stk with e|⟨e,hf⟩
 ·rw[e];exact I.funs
 ·rw[e]
  obtain⟨m,hn,_⟩:=I.loc;refine .cons (by rw[I.ok.kind];decide) hf hn ?_ I.funs
  exact bX.get?_none_of_le (bY I.ok.bsz I.ok.above)
def Inv.stkSub(I:Inv X pq σ H s):∀b∈frs X.stack,b∈X.env.locals::X.fs:=λb hb=>by
 rcases I.ok.stk with e|⟨e,hf⟩
 ·rw[e]at hb;exact aq _ hb
 ·rw[e]at hb
  unfold frs at hb;rw[cy,hf]at hb;exact hb
def Inv.stkFree(I:Inv X pq σ H s):∀b∈frs X.stack,H b=af:=λb hb=>by
 rcases az.mp (I.stkSub b hb)with e|hb
 ·rw[e];exact I.free
 ·obtain⟨_,o,ho,_⟩:=I.ok.funs.mem hb
  exact I.base.free b o ho (I.ok.frf b hb) λz=>I.ok.exfs b z hb
def Inv.step{g':Array pI}{t':Nat}{d':Drawn}{ch:List aC}(I:Inv X pq σ H s)
  (hch:∀b∈ch,(b∈X.ex\/X.s₀.heap.objs.size<=b)/\b≠X.env.locals/\(∀x c,X.env.cells.lookup x=aa c->c≠b)/\∀p∈X.pn++pq,p.1≠b)
  (keep:∀b o,b≠X.env.locals->b∉X.fs->b∉ch->s.heap.get? b=aa o->H b=af->h'.get? b=aa o)
  (slot:∀b o,b≠X.env.locals->b∈X.fs->b∉ch->s.heap.get? b=aa o->H b=af->∃sl,h'.get? b=aa {o with slots:=sl})(free:∀b o,b∉ch->s.heap.get? b=aa o->H b=af->H' b=af)
  (there:∀b o,b∉ch->s.heap.get? b=aa o->∃o',h'.get? b=aa o')
  (tups:∀b xs,H b=aa (.tup xs)->H' b=aa (.tup xs))(frzs:∀b o u,H b=aa (.frz o u)->H' b=aa (.frz o u))(tbls:∀b ps,H b=aa (.tbl ps)->∃more,H' b=aa (.tbl (ps++more)))
  (ns:∀m,s.heap.Ns X.env.locals m->h'.Ns X.env.locals m)(hok:HOk X.prog X.w H' h')(hg:iE g') :
  Inv X pq σ H' {s with heap:=h',gens:=g',drawn:=d',toks:=t' }:=by
 have neL:∀b o,X.s₀.heap.get? b=aa o->b≠X.env.locals:=λb o e=>br (bu (aJ e) I.ok.above)
 have neC:∀b o,X.s₀.heap.get? b=aa o->b∉X.ex->b∉ch:=λb o e hx hb=>by
  rcases(hch b hb).1 with z|z
  ·exact hx z
  ·exact T7 (bu (aJ e) z) (bH _)
 have cellK:∀x c,X.env.cells.lookup x=aa c->∀v,s.heap.IsCell c v->h'.IsCell c v:=λx c e v ⟨o,ho,hd⟩=>by
  have nch:=λz=>(hch c z).2.2.1 x c e rfl
  by_cases hc:c∈X.fs
  ·obtain⟨sl,q⟩:=slot c o (I.cne x c e) hc nch ho (I.freeC x c e)
   exact⟨_,q,hd⟩
  ·exact⟨o,keep c o (I.cne x c e) hc nch ho (I.freeC x c e),hd⟩
 refine⟨I.ok,I.os,hg,⟨λb o e n hb hx=>?_,λb o e n hb hx=>?_,λb o e n hx=>?_,λb o e hx=>?_,λb xs e=>tups b xs (I.base.tups b xs e),λb o xs e=>frzs b o xs (I.base.frzs b o xs e),λb ps e=>?_⟩,?_,λx c e=>?_,?_,λx c e=>?_,λp hp=>?_,hok,I.len⟩
 ·exact keep b o (neL b o e) hb (neC b o e hx) (I.base.keep b o e n hb hx) (I.base.free b o e n hx)
 ·obtain⟨sl,e1⟩:=I.base.slot b o e n hb hx
  obtain⟨sl',e2⟩:=slot b _ (neL b o e) hb (neC b o e hx) e1 (I.base.free b o e n hx);exact⟨sl',e2⟩
 ·obtain⟨o',e1⟩:=I.base.there b o e hx
  exact free b o' (neC b o e hx) e1 (I.base.free b o e n hx)
 ·obtain⟨o',e1⟩:=I.base.there b o e hx
  exact there b o' (neC b o e hx) e1
 ·obtain⟨m1,e1⟩:=I.base.tbls b ps e
  obtain⟨m2,e2⟩:=tbls b _ e1;exact⟨m1++m2,by rw[e2,nr]⟩
 ·obtain⟨m,hn,hl⟩:=I.loc
  refine⟨m,ns m hn,λi x v e1 e2 e3=>?_⟩
  obtain⟨u,r,l⟩:=hl i x v e1 e2 e3;refine⟨u,r,?_⟩;rcases l with l|⟨k,c,e,z⟩
  ·exact .inl l
  ·exact .inr ⟨k,c,e,cellK x c e _ z⟩
 ·obtain⟨v,z⟩:=I.cell x c e
  exact⟨v,cellK x c e v z⟩
 ·obtain⟨m,⟨o,_,_,ho,_⟩,_⟩:=I.loc
  exact free _ o (λz=>(hch _ z).2.1 rfl) ho I.free
 ·obtain⟨v,o,ho,hd⟩:=I.cell x c e
  exact free c o (λz=>(hch c z).2.2.1 x c e rfl) ho (I.freeC x c e)
 ·obtain⟨e,n,ne,nf,d⟩:=I.pin p hp
  have nch:=λz=>(hch p.1 z).2.2.2 p hp rfl
  exact⟨keep p.1 p.2 ne nf nch e n,free p.1 p.2 nch e n,ne,nf,d⟩
def Inv.un{t':Nat}(I:Inv X pq σ H s)(u:Un X.fs [] H H' s.heap h')(hok:HOk X.prog X.w H' h'):Inv X pq σ H' {s with heap:=h',toks:=t' }:=by
 obtain⟨m,⟨o,es,ep,ho,r⟩,_⟩:=id I.loc;obtain⟨sl,hL⟩:=u.any ho I.free (by simp)
 exact I.step (g':=s.gens) (d':=s.drawn) (ch:=[]) (λ_ z=>nomatch z) (λb o _ hb _ e n=>u.keep b o e n hb (by simp)) (λb o _ hb _ e n=>u.slot b o e n hb (by simp)) (λb o _ e n=>u.free b o e n (by simp)) (λb o _ e=>u.there b o e (by simp)) u.tups u.frzs u.tbls (λm' hm=>by
  obtain⟨o',es',ep',ho',r'⟩:=hm;rw[ho]at ho';cases ho';exact⟨_,es',ep',hL,r'⟩) hok I.bare
def Inv.call{g':Array pI}{t':Nat}{d':Drawn}{ch:List aC}(I:Inv X pq σ H s)(u:Un (frs X.stack) ch H H' s.heap h')(hok:HOk X.prog X.w H' h')(hg:iE g')
  (hch:∀b∈ch,(b∈X.ex\/X.s₀.heap.objs.size<=b)/\b≠X.env.locals/\(∀x c,X.env.cells.lookup x=aa c->c≠b)/\∀p∈X.pn++pq,p.1≠b) :
  Inv X pq σ H' {s with heap:=h',gens:=g',drawn:=d',toks:=t' }:=by
 obtain⟨m,⟨o,es,ep,ho,r⟩,_⟩:=id I.loc;obtain⟨sl,hL⟩:=u.any ho I.free λz=>(hch _ z).2.1 rfl
 exact I.step hch (λb o hL hb hc e n=>u.keep b o e n (λz=>(az.mp (I.stkSub b z)).elim hL hb) hc) (λb o _ _ hc e n=>u.any e n hc) (λb o hc e n=>u.free b o e n hc) (λb o hc e=>u.there b o e hc) u.tups u.frzs u.tbls (λm' hm=>by
  obtain⟨o',es',ep',ho',r'⟩:=hm;rw[ho]at ho';cases ho';exact⟨_,es',ep',hL,r'⟩) hok hg
def Inv.turned{t':Nat}{it:aC}(I:Inv X pq σ H s)(k:∀b o,b≠it->s.heap.get? b=aa o->h'.get? b=aa o)(hn:H it=af)(hL:it≠X.env.locals)
  (h1:it∈X.ex\/X.s₀.heap.objs.size<=it)(h2:∀x c,X.env.cells.lookup x=aa c->c≠it)(h3:∀p∈X.pn++pq,p.1≠it):Inv X pq σ H {s with heap:=h',toks:=t' }:=by
 have nit:∀b u,H b=aa u->b≠it:=λb u e z=>by rw[z,hn]at e;cases e
 refine I.step (g':=s.gens) (d':=s.drawn) (ch:=[it]) (λb hb=>?_) (λb o _ _ hc e _=>k b o (λz=>hc (by simp[z])) e) (λb o _ _ hc e _=>⟨o.slots,k b o (λz=>hc (by simp[z])) e⟩) (λ_ _ _ _ n=>n)
  (λb o hc e=>⟨o,k b o (λz=>hc (by simp[z])) e⟩) (λ_ _ e=>e) (λ_ _ _ e=>e) (λb ps e=>⟨#[],by rw[e];simp⟩) (λm hm=>?_) (λb u e=>?_) I.bare
 ·have e:b=it:=by simpa using hb
  subst e;exact⟨h1,hL,h2,h3⟩
 ·obtain⟨o,es,ep,ho,r⟩:=hm
  exact⟨o,es,ep,k _ o (Ne.symm hL) ho,r⟩
 ·refine(I.hok b u e).stay (λc v hc q=>k c v ?_ q) (λ_ q=>q) λ_ _ q=>q
  rcases hc with z|z
  ·rw[z];exact nit b u e
  ·exact nit c _ z
def Inv.tok(I:Inv X pq σ H s)(t:Nat):Inv X pq σ H {s with toks:=t}:=I.un (h':=s.heap) (t':=t) Un.refl I.hok
theorem Inv.kept(I:Inv X pq σ H s)(k:∀b u,s.heap.get? b=aa u->h'.get? b=aa u):Inv X pq σ H {s with heap:=h',toks:=t' }:=I.un (Un.kept k) (I.hok.kept k)
theorem Inv.laid(I:Inv X pq σ H s)(k:∀b u,s.heap.get? b=aa u->h'.get? b=aa u)(hp:s.heap.objs.size<=a)(new:Z7 X.prog X.w (upd H a o) h' a o) :
  Inv X pq σ (upd H a o) {s with heap:=h',toks:=t' }:=I.un (Un.laid k hp (I.hok.fresh hp)) (I.hok.laid k hp new)
theorem Inv.write(I:Inv X pq σ H s)(mu:Mut (H x))(he:e=x\/H e=aa (.own x))(k:∀b u,b≠e->s.heap.get? b=aa u->h'.get? b=aa u)(heo:∃u,h'.get? e=aa u)
  (new:Z7 X.prog X.w (upd H x o) h' x o):Inv X pq σ (upd H x o) {s with heap:=h',toks:=t' }:=I.un (Un.write mu he k heo) (I.hok.write mu he k heo new)
def Inv.pins_of(I:Inv X pq σ H s)(h:∀p∈pins',s.heap.get? p.1=aa p.2/\H p.1=af/\p.1≠X.env.locals/\p.1∉X.fs/\∀v,p.2.data≠.cell v):Inv X pins' σ H s:=
 ⟨I.ok,I.os,I.bare,I.base,I.loc,I.cell,I.free,I.freeC,λp hp=>(cu.mp hp).elim (λz=>I.pin p (bV _ z)) (h p),I.hok,I.len⟩
def UK{N:List bn}(hN:N.Nodup){i j:Nat}{x:bn}(a:N[i]?=aa x)(b:N[j]?=aa x):i=j:=by
 obtain⟨h1,e1⟩:=aG.mp a;obtain⟨h2,e2⟩:=aG.mp b;exact(List.getElem_inj hN).mp (e1.trans e2.symm)
def Vw{M:Model}{A:bQ}{E:au->ax->Prop}{i:Nat}{x:bn}{v:V}{u:au}{Q:Unit->ax->Prop}(I:Inv X pq σ H s)(hN:X.N.Nodup)(hi:X.N[i]?=aa x)(hx:Loc X.env.scope x)(r:Zu v u)
  (h:∀s',Inv X pq (σ.set i (aa v)) H s'->(∃a,fq a s.heap s'.heap/\(a=X.env.locals\/X.env.cells.lookup x=aa a))->Q () s')(hf:X.fn x=aj\/X.env.scope.names.lookup x=aa .local:=by first|exact .inl rfl|exact .inr rfl|assumption):bc M A (storeName X.env x u) Q E s:=by
 obtain⟨m,hn,hl⟩:=id I.loc;have hcls:(X.env.scope.kind == .class||(X.env.scope.kind == .module&&X.env.locals != X.env.globals))=al:=by rw[I.ok.kind];rfl
 have hiσ:i<σ.length:=by rw[I.len];exact(aG.mp hi).1
 have cne:=I.cne;have tracked:∀{a:aC}{h':bX},(∃o,s.heap.get? a=aa o/\H a=af)->fq a s.heap h'->HOk X.prog X.w H h':=λ{a h'} ha hs b ob e=>by
  obtain⟨_,_,hfree⟩:=ha;refine(I.hok b ob e).stay (λc w' hc q=>(hs.2 c ?_).trans q) (λ_ q=>q) λ_ _ q=>q
  rintro rfl
  rcases hc with rfl|hc
  ·rw[hfree]at e;cases e
  ·rw[hfree]at hc;cases hc
 rcases hx with hk|hk
 ·refine wpAny_storeName_local hk hn (λh' hn' hs=>?_) hcls
  obtain⟨oL,_,_,hoL,_⟩:=id hn;refine h _ ⟨I.ok,I.os,I.bare,⟨λb o e n hb hx=>?_,λb o e n hb hx=>?_,I.base.free,λb o e hx=>?_,I.base.tups,I.base.frzs,I.base.tbls⟩,⟨_,hn',λj y v' e1 e2 e3=>?_⟩,λy c e=>?_,I.free,I.freeC,λp hp=>?_,tracked ⟨oL,hoL,I.free⟩ hs,by simpa using I.len⟩ ⟨_,hs,.inl rfl⟩
  ·exact(hs.2 b (br (bu (aJ e) I.ok.above))).trans (I.base.keep b o e n hb hx)
  ·obtain⟨sl,e1⟩:=I.base.slot b o e n hb hx
   exact⟨sl,(hs.2 b (br (bu (aJ e) I.ok.above))).trans e1⟩
  ·obtain⟨o',e1⟩:=I.base.there b o e hx
   exact⟨o',(hs.2 b (br (bu (aJ e) I.ok.above))).trans e1⟩
  ·by_cases hj:j=i
   ·subst hj
    rw[hi]at e1;cases e1;rw[bg hiσ]at e2;cases e2;exact⟨u,r,.inl ⟨hk,by simp⟩⟩
   ·rw[ba (Ne.symm hj)]at e2
    obtain⟨u',r',q⟩:=hl j y v' e1 e2 e3;refine⟨u',r',?_⟩;rcases q with⟨k,e⟩|⟨k,c,e,z⟩
    ·refine .inl ⟨k,?_⟩
     have:y≠x:=λe=>hj (UK hN e1 (e▸hi))
     simp[this,e]
    ·exact .inr ⟨k,c,e,z.sameBut hs (cne y c e)⟩
  ·obtain⟨w',z⟩:=I.cell y c e
   exact⟨w',z.sameBut hs (cne y c e)⟩
  ·obtain⟨e,n,ne,nf,d⟩:=I.pin p hp
   exact⟨(hs.2 p.1 ne).trans e,n,ne,nf,d⟩
 ·have hfn:X.fn x=aj:=by
   rcases hf with z|z
   ·exact z
   ·rw[z]at hk;cases hk
  obtain⟨c,hc⟩:=I.ok.has x (.inl hk);obtain⟨w',z⟩:=I.cell x c hc;refine wpAny_storeName_cell I.ok.kind hk hc z (λh' hc' hs=>?_)
  obtain⟨oc,hoc,hocd⟩:=id z;refine h {s with heap:=h' } ⟨I.ok,I.os,I.bare,⟨λb o e n hb hx=>?_,λb o e n hb hx=>?_,I.base.free,λb o e hx=>?_,I.base.tups,I.base.frzs,I.base.tbls⟩,⟨m,hn.sameBut hs (Ne.symm (cne x c hc)),λj y v' e1 e2 e3=>?_⟩,λy c' e=>?_,I.free,I.freeC,λp hp=>?_,tracked ⟨oc,hoc,I.freeC x c hc⟩ hs,by simpa using I.len⟩ ⟨c,hs,.inr hc⟩
  ·exact(hs.2 b (br (bu (aJ e) (I.ok.cab x c hfn hc)))).trans (I.base.keep b o e n hb hx)
  ·obtain⟨sl,e1⟩:=I.base.slot b o e n hb hx
   exact⟨sl,(hs.2 b (br (bu (aJ e) (I.ok.cab x c hfn hc)))).trans e1⟩
  ·obtain⟨o',e1⟩:=I.base.there b o e hx
   exact⟨o',(hs.2 b (br (bu (aJ e) (I.ok.cab x c hfn hc)))).trans e1⟩
  ·by_cases hj:j=i
   ·subst hj
    rw[hi]at e1;cases e1;rw[bg hiσ]at e2;cases e2;exact⟨u,r,.inr ⟨.inl hk,c,hc,hc'⟩⟩
   ·rw[ba (Ne.symm hj)]at e2
    obtain⟨u',r',q⟩:=hl j y v' e1 e2 e3;refine⟨u',r',?_⟩;rcases q with q|⟨k,c',e,z'⟩
    ·exact .inl q
    ·refine .inr ⟨k,c',e,z'.sameBut hs ?_⟩
     rintro rfl
     exact hj (UK hN e1 (I.ok.inj _ _ _ e hc▸hi))
  ·by_cases hcc:c'=c
   ·subst hcc;exact⟨_,hc'⟩
   ·obtain⟨w2,z2⟩:=I.cell y c' e
    exact⟨w2,z2.sameBut hs hcc⟩
  ·obtain⟨e,n,ne,nf,d⟩:=I.pin p hp
   refine⟨(hs.2 p.1 ?_).trans e,n,ne,nf,d⟩;intro q;rw[q,hoc]at e;have q':=am e;exact d w' (by rw[<-q'];exact hocd)
def XH{E:au->ax->Prop}{Q:Unit->ax->Prop}(I:Inv X pq σ H s)(hN:X.N.Nodup)(hi:X.N[i]?=aa x)(hx:Loc X.env.scope x)(r:Zu v u)
  (h:∀s',Inv X pq (σ.set i (aa v)) H s'->Q () s')(hf:X.fn x=aj\/X.env.scope.names.lookup x=aa .local:=by first|exact .inl rfl|exact .inr rfl|assumption):bc M A (storeName X.env x u) Q E s:=
 Vw I hN hi hx r (λs' I' _=>h s' I') hf
def Inv.call'(I:Inv X pq σ H s)(ho:s'.os=s.os)(u:Un (frs X.stack) ch H H' s.heap s'.heap)(hok:HOk X.prog X.w H' s'.heap)(hg:iE s'.gens)
  (hch:∀b∈ch,(b∈X.ex\/X.s₀.heap.objs.size<=b)/\b≠X.env.locals/\(∀x c,X.env.cells.lookup x=aa c->c≠b)/\∀p∈X.pn++pq,p.1≠b):Inv X pq σ H' s':=by
 obtain⟨h',g',d',t',o'⟩:=s';have e:=ho;subst e;exact I.call (g':=g') (t':=t') (d':=d') u hok hg hch
end
abbrev XK:=au->Option aC->Hp->Prop
abbrev St:=List (Option V)
abbrev VK:=V->Hp->Prop
abbrev TE:=St->Hp->VK->Prop
abbrev TT:=St->Hp->(Bool->Hp->Prop)->Prop
abbrev TA:=St->Hp->(List V->Hp->Prop)->Prop
structure Ends where
 nx:St->Hp->Prop
 rt:VK
 bk:St->Hp->Prop:=λ_ _=>False
 ct:St->Hp->Prop:=λ_ _=>False
abbrev TS:=Ends->St->Hp->Prop
def EP(X:Cx)(pq:List (aC×eG))(σ:St)(Q:VK)(u:au)(s':ax):Prop:=∃v H',Inv X pq σ H' s'/\Zu v u/\Q v H'
def TP(X:Cx)(pq:List (aC×eG))(σ:St)(Q:Bool->Hp->Prop)(b:Bool)(s':ax):Prop:=∃H',Inv X pq σ H' s'/\Q b H'
def AP(X:Cx)(pq:List (aC×eG))(σ:St)(Q:List V->Hp->Prop)(us:List au)(s':ax):Prop:=∃vs H',Inv X pq σ H' s'/\Vals vs us/\Q vs H'
def SP(X:Cx)(pq:List (aC×eG))(D:Ends)(f:Flow)(s':ax):Prop:=
 match f with
 |.next=>∃σ' H',Inv X pq σ' H' s'/\D.nx σ' H'
 |.brk=>∃σ' H',Inv X pq σ' H' s'/\D.bk σ' H'
 |.cont=>∃σ' H',Inv X pq σ' H' s'/\D.ct σ' H'
 |.ret u=>∃v σ' H',Inv X pq σ' H' s'/\Zu v u/\D.rt v H'
def PE(X:Cx)(e:Expr)(t:TE):Prop:=
 ∀(pq:List (aC×eG))(s:ax)(σ:St)(H:Hp)(Q:VK),Inv X pq σ H s->t σ H Q->bc (aS X.prog X.w) X.A (cR e X.env) (EP X pq σ Q) X.xe s
def PT(X:Cx)(e:Expr)(t:TT):Prop:=
 ∀(pq:List (aC×eG))(s:ax)(σ:St)(H:Hp)(Q:Bool->Hp->Prop),Inv X pq σ H s->t σ H Q->bc (aS X.prog X.w) X.A (isTrue e X.env (cR e X.env)) (TP X pq σ Q) X.xe s
def PW(X:Cx)(e:Expr)(t:TT):Prop:=
 ∀(whole:nL au)(pq:List (aC×eG))(s:ax)(σ:St)(H:Hp)(Q:Bool->Hp->Prop),Inv X pq σ H s->t σ H Q->bc (aS X.prog X.w) X.A (isTrue e X.env whole) (TP X pq σ Q) X.xe s
def PW.pt(h:PW X e t):PT X e t:=h _
def PA(X:Cx)(es:List Expr)(t:TA):Prop:=
 ∀(pos:eY)(pq:List (aC×eG))(s:ax)(σ:St)(H:Hp)(Q:List V->Hp->Prop),Inv X pq σ H s->t σ H Q->bc (aS X.prog X.w) X.A (spliced (dU pos (aE es X.env))) (AP X pq σ Q) X.xe s
def PS(X:Cx)(st:eF)(t:TS):Prop:=
 ∀(pq:List (aC×eG))(s:ax)(σ:St)(H:Hp)(D:Ends),Inv X pq σ H s->t D σ H->bc (aS X.prog X.w) X.A (exec st X.env) (SP X pq D) X.xe s
def PSs(X:Cx)(st:List eF)(t:TS):Prop:=
 ∀(pq:List (aC×eG))(s:ax)(σ:St)(H:Hp)(D:Ends),Inv X pq σ H s->t D σ H->bc (aS X.prog X.w) X.A (execs st X.env) (SP X pq D) X.xe s
def thn{α:Type}{t:nL α}{Q Q':α->ax->Prop}{M:Model}{A:bQ}{E:au->ax->Prop}{s:ax}(h:bc M A t Q E s)(hQ:∀a s,Q a s->Q' a s):bc M A t Q' E s:=cJ h hQ λ_ _ x=>x
section
variable{X:Cx}
def Jw(i:Nat):TE:=λσ H Q=>∃v,σ[i]?=aa (aa v)/\Q v H
def tC(v:V):TE:=λ_ H Q=>Q v H
def Yk(hN:X.N[i]?=aa x)(hv:Vis X.env.scope x)(hd:(x == ("__debug__" : bn))=al:=by decide)(hcd:(x == ("__classdict__" : bn))=al:=by decide):PE X (.Name x pos) (Jw i):=by
 intro pq s σ H Q I h;obtain⟨v,e,h⟩:=h;obtain⟨m,hn,hl⟩:=I.loc;obtain⟨u,r,l⟩:=hl i x v hN e hv;have fin:EP X pq σ Q u s:=⟨v,H,I,r,h⟩;rcases l with⟨hk,hm⟩|⟨hk,c,hc,hcell⟩
 ·exact km (mv I.ok.kind hk hn hm fin) hd
 ·rcases hk with hk|hk
  ·exact km (mU I.ok.kind hk hc hcell fin) hd
  ·exact km (mV I.ok.kind hk hc hcell fin hcd) hd
def Ws{i j pos}:PE X (.Constant (.int i) j pos) (tC (.int i)):=λ_ _ _ H _ I h=>wpAny_Constant_int ⟨.int i,H,I.tok _,⟨_,rfl⟩,h⟩
def qF{b j pos}:PE X (.Constant (.bool b) j pos) (tC (.bl b)):=λ_ _ _ H _ I h=>Constant_bool ⟨.bl b,H,I,rfl,h⟩
def yy{j pos}:PE X (.Constant .none j pos) (tC .non):=λ_ _ _ H _ I h=>Constant_none ⟨.non,H,I,rfl,h⟩
def Gp{x j pos}:PE X (.Constant (.str x) j pos) (tC (.str x)):=λ_ _ _ H _ I h=>Calls.Constant_str ⟨.str x,H,I.tok _,⟨_,rfl⟩,h⟩
def Gl(X:Cx)(x:bn):Prop:=X.env.kindOf x=aa .globalImplicit
def WH{E:au->ax->Prop}{Q:au->ax->Prop}(I:Inv X pq σ H s)(hg:Gl X x)(hm:X.mg x=aa u)(h:Q u s)
  (hd:(x == ("__debug__" : bn))=al:=by decide):bc (aS X.prog X.w) X.A (cR (.Name x pos) X.env) Q E s:=
 Calls.Name_function_global I.ok.kind hg (Calls.loadGlobal_global (by rw[I.ok.glob];exact I.mod.glob.keeps I.bk) hm h) hd
def Vk{E:au->ax->Prop}{Q:au->ax->Prop}(I:Inv X pq σ H s)(hg:Gl X x)(hm:X.mg x=af)(hv:dy x=aa u)(h:Q u s)
  (hn:x≠"__name__":=by decide)(hd:(x == ("__debug__" : bn))=al:=by decide):bc (aS X.prog X.w) X.A (cR (.Name x pos) X.env) Q E s:=by
 obtain⟨mb,h1,h2⟩:=I.mod.blt;exact Calls.Name_function_global I.ok.kind hg (Calls.loadGlobal_builtin (by rw[I.ok.glob];exact I.mod.glob.keeps I.bk) hm (by rw[I.ok.blt];exact h1.keeps I.bk) ((h2 x hn).trans hv) h) hd
def ZbW(hg:Gl X x)(hm:X.mg x=aa u)(r:Zu v u)(hd:(x == ("__debug__" : bn))=al:=by decide):PE X (.Name x pos) (tC v):=
 λ_ _ _ H _ I h=>WH I hg hm ⟨v,H,I,r,h⟩ hd
def Ua(hg:Gl X x)(hm:X.mg x=af)(hv:dy x=aa u)(r:Zu v u)(hn:x≠"__name__":=by decide)(hd:(x == ("__debug__" : bn))=al:=by decide):PE X (.Name x pos) (tC v):=
 λ_ _ _ H _ I h=>Vk I hg hm hv ⟨v,H,I,r,h⟩ hn hd
variable{a b:Expr}{ta tb:TE}{pos:eY}
def PC(X:Cx)(op:rT)(a b:Expr)(t:TE):Prop:=
 ∀(pq:List (aC×eG))(s:ax)(σ:St)(H:Hp)(Q:VK),Inv X pq σ H s->t σ H Q->
  bc (aS X.prog X.w) X.A (cR a X.env) (λv s₁=>bc (aS X.prog X.w) X.A (cR b X.env) (λu s₂=>bc (aS X.prog X.w) X.A (cK op v u) (EP X pq σ Q) X.xe s₂) X.xe s₁) X.xe s
def jO(b:Expr)(h:op≠.In)(h2:op≠.NotIn):d8 op b=al:=by
 have e1:(op == rT.In)=al:=by cases op<;>first|rfl|exact T7 rfl h
 have e2:(op == rT.NotIn)=al:=by cases op<;>first|rfl|exact T7 rfl h2
 cases b<;>simp[d8,e1,e2]
def ZeE(ta:TE):TE:=λσ H Q=>ta σ H λx H1=>Q (.bl (ag (x=.non))) H1
def Zu.none_iff(r:Zu x v):(v == bD)=ag (x=.non):=by
 cases x with|non=>cases r;rfl|bl _=>cases r;rfl|int _=>obtain⟨t,rfl⟩:=r;rfl|str _=>obtain⟨t,rfl⟩:=r;rfl|byt _=>obtain⟨t,rfl⟩:=r;rfl|flt _=>obtain⟨t,rfl⟩:=r;rfl|ref _=>cases r;rfl|ty _=>cases r;rfl
def Zdl{j pos'}(ha:PE X a ta):PC X .Is a (.Constant .none j pos') (ZeE ta):=by
 intro pq s σ H Q I h;refine thn (ha pq s σ H _ I h) λv s1 ⟨x,H1,I1,r1,q1⟩=>?_
 exact Constant_none (is_none_gen ⟨.bl _,H1,I1,by rw[r1.none_iff];rfl,q1⟩)
def tB(t:TE):TT:=λσ H Q=>t σ H λx H1=>∃c,x=.bl c/\Q c H1
def ZdI{op:rT}{t:TE}(h:PC X op a b t)(h1:d8 op b=al:=by first|exact jO _ (by decide) (by decide)|rfl):PT X (.Compare a [op] [b] pos) (tB t):=by
 intro pq s σ H Q I hw;refine l9 (thn (h pq s σ H _ I hw) λv s1 h1=>thn h1 λu s2 h2=>thn h2 λc s3 ⟨x,H1,I1,r1,q1⟩=>?_) h1
 obtain⟨d,rfl,q⟩:=q1;cases r1;exact dB ⟨H1,I1,q⟩
def ZdO{e:Expr}{t:TE}(h:PE X e t)(he:∀whole,isTrue e X.env whole=(do let v <-whole;kR e.pos;iF [v] (rP v)):=by intro _;rfl):PT X e (tB t):=by
 intro pq s σ H Q I hw;refine isTrue_plain (thn (h pq s σ H _ I hw) λv s1 ⟨x,H1,I1,r1,q1⟩=>?_) (he _)
 obtain⟨d,rfl,q⟩:=q1;cases r1;exact dB ⟨H1,I1,q⟩
variable{tA tB':TT}{rest:List Expr}
def tOr(t u:TT):TT:=λσ H Q=>t σ H λc H1=>if c=aj then Q aj H1 else u σ H1 Q
def Zeu(t:TT):TT:=λσ H Q=>t σ H λc H1=>Q (!c) H1
def u6(ha:PT X a tA):PW X (.BoolOp .Or [a] pos) tA:=by
 intro wh pq s σ H Q I h;refine isTrue_or (thn (ha pq s σ H Q I h) λc s1 e=>?_)
 cases c with|false=>exact isTrue_or_nil e|true=>exact e
def ZcO(ha:PT X a tA)(hb:PW X (.BoolOp .Or (b::rest) pos) tB'):PW X (.BoolOp .Or (a::b::rest) pos) (tOr tA tB'):=by
 intro wh pq s σ H Q I h;refine isTrue_or (thn (ha pq s σ H _ I h) λc s1 ⟨H1,I1,q1⟩=>?_)
 cases c with|true=>exact⟨H1,I1,q1⟩|false=>exact hb wh pq s1 σ H1 Q I1 q1
def j6(ha:PT X a tA):PT X (.UnaryOp .Not a pos) (Zeu tA):=by
 intro pq s σ H Q I h;exact isTrue_not (ha pq s σ H (λc H1=>Q (!c) H1) I h)
def Zew(ta tb:TE):TE:=λσ H Q=>ta σ H λx H1=>∃c,x=.bl c/\if c=aj then tb σ H1 Q else Q (.bl al) H1
def Zfl(ta tb:TE):TE:=λσ H Q=>ta σ H λx H1=>∃c,x=.bl c/\if c=aj then Q (.bl aj) H1 else tb σ H1 Q
def ZcU(ha:PE X a ta)(hb:PE X (.BoolOp .And (b::rest) pos) tb):PE X (.BoolOp .And (a::b::rest) pos) (Zew ta tb):=by
 intro pq s σ H Q I h;refine BoolOp_and (thn (ha pq s σ H _ I h) λv s1 ⟨x,H1,I1,r1,q1⟩=>?_)
 obtain⟨c,rfl,q1⟩:=q1;cases r1;refine dB ?_;cases c with|true=>exact hb pq s1 σ H1 Q I1 q1|false=>exact⟨.bl al,H1,I1,rfl,q1⟩
def Zeo(ha:PE X a ta)(hb:PE X (.BoolOp .Or (b::rest) pos) tb):PE X (.BoolOp .Or (a::b::rest) pos) (Zfl ta tb):=by
 intro pq s σ H Q I h;refine BoolOp_or (thn (ha pq s σ H _ I h) λv s1 ⟨x,H1,I1,r1,q1⟩=>?_)
 obtain⟨c,rfl,q1⟩:=q1;cases r1;refine dB ?_;cases c with|false=>exact hb pq s1 σ H1 Q I1 q1|true=>exact⟨.bl aj,H1,I1,rfl,q1⟩
end
def SqL(K:ak)(H:Hp)(a:aC)(xs:List V):Prop:=
 Rd H a (.lst xs)\/
  ∃(o:eG)(its:Array au)(n:Nat),K.lookup a=aa o/\o.cls=.type "list"/\o.dict=af/\o.data=.seq its n/\its.size<=bi/\Vals xs its.toList
def SqT(K:ak)(H:Hp)(a:aC)(xs:List V):Prop:=
 Rd H a (.tup xs)\/
  ∃(o:eG)(its:Array au)(n:Nat),K.lookup a=aa o/\o.cls=.type "tuple"/\o.data=.seq its n/\its.size<=bi/\Vals xs its.toList
noncomputable def Zfs:au->Option V
 |.none=>aa .non
 |.bool b=>aa (.bl b)
 |.int i _=>aa (.int i)
 |.str x _=>aa (.str x)
 |.bytes b _=>aa (.byt b)
 |.float b _=>aa (.flt b)
 |.ref a=>aa (.ref a)
 |.type n=>aa (.ty n)
 |_=>af
def Zu.abs(r:Zu x u):Zfs u=aa x:=by
 cases x with|non=>cases r;rfl|bl _=>cases r;rfl|int _=>obtain⟨t,rfl⟩:=r;rfl|str _=>obtain⟨t,rfl⟩:=r;rfl|byt _=>obtain⟨t,rfl⟩:=r;rfl|flt _=>obtain⟨t,rfl⟩:=r;rfl|ref _=>cases r;rfl|ty _=>cases r;rfl
def Zu.inj{x y:V}{u:au}(r:Zu x u)(q:Zu y u):x=y:=am (r.abs.symm.trans q.abs)
theorem Vals.inj:∀{xs ys:List V}{us:List au},Vals xs us->Vals ys us->xs=ys
 |_,_,_,.nil,.nil=>rfl
 |_,_,_,.cons r t,.cons r' t'=>by rw[r.inj r',Vals.inj t t']
section
variable{X:Cx}{pq:List (aC×eG)}{σ:St}{H:Hp}{s:ax}{a:aC}{xs ys:List V}
def SqL.of{K:ak}(h:H a=aa (.lst xs)):SqL K H a xs:=.inl (.inl h)
def SqT.of{K:ak}(h:H a=aa (.tup xs)):SqT K H a xs:=.inl (.inl h)
theorem Inv.list(I:Inv X pq σ H s)(h:SqL X.K H a xs):∃its:List au,Vals xs its/\PlainL s.heap a its.toArray/\xs.length<=bi:=by
 rcases h with h|⟨o,its,n,hk,hc,hd,hs,hz,r⟩
 ·obtain⟨z,its,n,r,e⟩:=h.ok I.hok
  exact⟨its,r,⟨_,n,e,rfl,rfl,rfl⟩,z⟩
 ·refine⟨its.toList,r,⟨o,n,I.kIn a o hk,hc,hd,by simpa using hs⟩,?_⟩
  have e:=r.length;simp only[aN]at e;lia
theorem Inv.tuple(I:Inv X pq σ H s)(h:SqT X.K H a xs):∃its:List au,Vals xs its/\nK s.heap a its.toArray/\xs.length<=bi:=by
 rcases h with h|⟨o,its,n,hk,hc,hs,hz,r⟩
 ·obtain⟨z,its,r,p⟩:=h.ok I.hok
  exact⟨its,r,p,z⟩
 ·refine⟨its.toList,r,⟨o,I.kIn a o hk,hc,n,by simpa using hs⟩,?_⟩
  have e:=r.length;simp only[aN]at e;lia
def Inv.list_inj(I:Inv X pq σ H s)(h:SqL X.K H a xs)(h':SqL X.K H a ys):xs=ys:=by
 obtain⟨its,r,⟨o,n,e,_,_,d⟩,_⟩:=I.list h;obtain⟨its',r',⟨o',n',e',_,_,d'⟩,_⟩:=I.list h';rw[e]at e';cases e';rw[d]at d';injection d' with d1 _
 have:its=its':=by simpa using congrArg Array.toList d1
 subst this;exact r.inj r'
def Inv.tuple_inj(I:Inv X pq σ H s)(h:SqT X.K H a xs)(h':SqT X.K H a ys):xs=ys:=by
 obtain⟨its,r,⟨o,e,_,n,d⟩,_⟩:=I.tuple h;obtain⟨its',r',⟨o',e',_,n',d'⟩,_⟩:=I.tuple h';rw[e]at e';cases e';rw[d]at d';injection d' with d1 _
 have:its=its':=by simpa using congrArg Array.toList d1
 subst this;exact r.inj r'
end
section
variable{X:Cx}{st:eF}{rest:List eF}{t u:TS}{e:Expr}{te:TE}{pos:eY}
def Zas:TS:=λD σ H=>D.nx σ H
def Jo(t u:TS):TS:=λD σ H=>t {D with nx:=u D} σ H
def JP:PSs X [] Zas:=λ_ _ σ H _ I h=>gJ ⟨σ,H,I,h⟩
def Yp(h1:PS X st t)(h2:PSs X rest u):PSs X (st::rest) (Jo t u):=by
 intro pq s σ H D I h;refine gf (thn (h1 pq s σ H {D with nx:=u D} I h) λf s1 q=>?_)
 cases f with
 |next=>
  obtain⟨σ',H',I',q⟩:=q;exact h2 pq s1 σ' H' D I' q
 |ret v=>exact q
 |brk=>exact q
 |cont=>exact q
def WN(h1:PS X st t):PSs X [st] t:=by
 intro pq s σ H D I h;refine gf (thn (h1 pq s σ H D I h) λf s1 q=>?_)
 cases f with|next=>exact gJ q|ret v=>exact q|brk=>exact q|cont=>exact q
def Inv.quiet(I:Inv X pq σ H s):interactive X.env=al:=by simp[interactive,I.ok.kind]
def Zcr(te:TE):TS:=λD σ H=>te σ H λ_ H1=>D.nx σ H1
def Go(he:PE X e te)(hs:eK e af pos.line X.env=cC al:=by rfl):PS X (.Expr e pos) (Zcr te):=by
 intro pq s σ H D I h;exact wpAny_Expr_any (thn (he pq s σ H _ I h) λv s1 ⟨x,H1,I1,r1,q1⟩=>⟨σ,H1,I1,q1⟩) I.quiet hs
def qB(te:TE):TS:=λD σ H=>te σ H D.rt
def VD(he:PE X e te):PS X (.Return (aa e) pos) (qB te):=by
 intro pq s σ H D I h;exact wpAny_Return_some (thn (he pq s σ H _ I h) λv s1 ⟨x,H1,I1,r1,q1⟩=>⟨x,σ,H1,I1,r1,q1⟩)
def Zdp(c:TT)(t u:TS):TS:=λD σ H=>c σ H λb H1=>if b=aj then t D σ H1 else u D σ H1
def jJ{c:Expr}{a b:List eF}{tc:TT}(hc:PT X c tc)(ha:PSs X a t)(hb:PSs X b u):PS X (.If c a b pos) (Zdp tc t u):=by
 intro pq s σ H D I h;refine wpAny_If (thn (hc pq s σ H _ I h) λd s1 ⟨H1,I1,q1⟩=>?_)
 cases d with|true=>exact ha pq s1 σ H1 D I1 q1|false=>exact hb pq s1 σ H1 D I1 q1
end
abbrev TG:=V->St->Hp->(St->Hp->Prop)->Prop
abbrev TGs:=List V->St->Hp->(St->Hp->Prop)->Prop
def PG(X:Cx)(target:Expr)(t:TG):Prop:=
 ∀(pq:List (aC×eG))(s:ax)(σ:St)(H:Hp)(v:V)(u:au)(Q:St->Hp->Prop),Inv X pq σ H s->Zu v u->t v σ H Q->
  bc (aS X.prog X.w) X.A (assign target X.env u) (λ_ s'=>∃σ' H',Inv X pq σ' H' s'/\Q σ' H') X.xe s
def PGs(X:Cx)(ts:List Expr)(t:TGs):Prop:=
 ∀(pq:List (aC×eG))(s:ax)(σ:St)(H:Hp)(vs:List V)(us:List au)(Q:St->Hp->Prop),Inv X pq σ H s->Vals vs us->t vs σ H Q->
  bc (aS X.prog X.w) X.A (mZ ((cD ts X.env).map (·.2)) us) (λ_ s'=>∃σ' H',Inv X pq σ' H' s'/\Q σ' H') X.xe s
abbrev TSet:=V->V->V->Hp->(Hp->Prop)->Prop
def PSet(X:Cx)(t:TSet):Prop:=
 ∀(pq:List (aC×eG))(s:ax)(σ:St)(H:Hp)(o i v:V)(ov iv u:au)(Q:Hp->Prop),Inv X pq σ H s->Zu o ov->Zu i iv->Zu v u->t o i v H Q->
  bc (aS X.prog X.w) X.A (setItem ov iv u) (λ_ s'=>∃H',Inv X pq σ H' s'/\Q H') X.xe s
section
variable{X:Cx}{pos:eY}
def Us(i:Nat):TG:=λv σ H Q=>Q (σ.set i (aa v)) H
def V5(hN:X.N.Nodup)(hi:X.N[i]?=aa x)(hx:Loc X.env.scope x)(hf:X.fn x=aj\/X.env.scope.names.lookup x=aa .local:=by first|exact .inl rfl|exact .inr rfl|assumption):PG X (.Name x pos) (Us i):=by
 intro pq s σ H v u Q I r h;exact kS (XH I hN hi hx r (λs' I'=>⟨_,H,I',h⟩) hf)
def Zfo:TGs:=λvs σ H Q=>vs=[]/\Q σ H
def ZeA(t:TG)(u:TGs):TGs:=λvs σ H Q=>∃v r,vs=v::r/\t v σ H λσ' H'=>u r σ' H' Q
def ZbI:PGs X [] Zfo:=by
 intro pq s σ H vs us Q I r h;obtain⟨e,h⟩:=h;subst e;cases r;exact nM ⟨σ,H,I,h⟩
def jR{e:Expr}{es:List Expr}{t:TG}{u:TGs}(h1:PG X e t)(h2:PGs X es u)
  (hs:(cD (e::es) X.env).map (·.2)=assign e X.env::(cD es X.env).map (·.2):=by rfl):PGs X (e::es) (ZeA t u):=by
 intro pq s σ H vs us Q I r h;obtain⟨v,vr,e1,h⟩:=h;subst e1;cases r with
 |cons r rr=>
  rw[hs];refine kn (thn (h1 pq s σ H _ _ _ I r h) λ_ s1 ⟨σ1,H1,I1,q1⟩=>?_)
  exact h2 pq s1 σ1 H1 _ _ Q I1 rr q1
def Zfu(K:ak)(n:Nat)(t:TGs):TG:=λv σ H Q=>∃a xs,v=.ref a/\SqT K H a xs/\xs.length=n/\t xs σ H Q
def Zc0(hc:X.calm=aj)(h:PGs X es t)
  (hn:(cD es X.env).length=n:=by rfl)(hst:(cD es X.env).findIdx? (·.1)=af:=by rfl):PG X (.Tuple es k pos) (Zfu X.K n t):=by
 intro pq s σ H v u Q I r hw;obtain⟨a,xs,e1,hq,hl,hw⟩:=hw;subst e1;cases r;obtain⟨its,rv,ht,hz⟩:=I.tuple hq;refine assign_Tuple_tuple (I.ok.hd hc) ht (by simp[hn,<-hl,rv.length]) hst λh' hx=>?_
 have I1:=I.kept (t':=s.toks) λb o e=>hx b o (br (aJ e)) e
 exact h pq _ σ H xs _ Q I1 (by simpa using rv) hw
def Zfb(to ti:TE)(t:TSet):TG:=λv σ H Q=>to σ H λo H1=>ti σ H1 λi H2=>t o i v H2 λH3=>Q σ H3
def Zd6{o i:Expr}{to ti:TE}{t:TSet}(ho:PE X o to)(hi:PE X i ti)(hs:PSet X t)
  (ha:∀v,assign (.Subscript o i pos) X.env v=(do
   let ov <-iF [v] (cR o X.env)
   let iv <-iF [v,ov] (cR i X.env)
   kR pos
   iF [v,ov,iv] (setItem ov iv v)
   release [v,ov,iv] []):=by intro _;rfl):PG X (.Subscript o i pos) (Zfb to ti t):=by
 intro pq s σ H v u Q I r h;rw[ha];refine ae (cz (thn (ho pq s σ H _ I h) λov s1 ⟨x,H1,I1,r1,q1⟩=>?_))
 refine ae (cz (thn (hi pq s1 σ H1 _ I1 q1) λiv s2 ⟨y,H2,I2,r2,q2⟩=>?_))
 refine ae (d9 (ae (cz (thn (hs pq s2 σ H2 x y v ov iv u _ I2 r1 r2 r q2) λ_ s3 ⟨H3,I3,q3⟩=>?_))))
 exact wpAny_release ⟨σ,H3,I3,q3⟩
def xg(te:TE)(g:TG):TS:=λD σ H=>te σ H λx H1=>g x σ H1 D.nx
def Vg{tg e:Expr}{te:TE}{g:TG}(he:PE X e te)(hg:PG X tg g)(hs:dJ [tg] e pos.line X.env=cC al:=by rfl)(hw:dL [tg] e X.env=cC af:=by rfl)
  (h1:(cD [tg] X.env).map (·.2)=[assign tg X.env]:=by rfl):PS X (.Assign [tg] e pos) (xg te g):=by
 intro pq s σ H D I h;refine wpAny_Assign_stores (thn (he pq s σ H _ I h) λv s1 ⟨x,H1,I1,r1,q1⟩=>?_) hs hw
 rw[h1];exact thn (hg pq s1 σ H1 x v _ I1 r1 q1) λ_ s2 q=>q
def Vq{i:Nat}{x:bn}{e:Expr}{te:TE}{pos':eY}(hN:X.N.Nodup)(hi:X.N[i]?=aa x)(hx:Loc X.env.scope x)(he:PE X e te)(hs:eK e (aa (.Name x pos')) pos.line X.env=cC al:=by rfl)(hf:X.fn x=aj\/X.env.scope.names.lookup x=aa .local:=by first|exact .inl rfl|exact .inr rfl|assumption) :
  PS X (.Assign [.Name x pos'] e pos) (xg te (Us i)):=by
 intro pq s σ H D I h;refine wpAny_Assign_Name (thn (he pq s σ H _ I h) λv s1 ⟨y,H1,I1,r1,q1⟩=>?_) hs
 exact XH I1 hN hi hx r1 (λs2 I2=>⟨_,H1,I2,q1⟩) hf
def Zfm(i j:Nat)(ta:TA):TS:=λD σ H=>ta σ H λvs H1=>∃v w,vs=[v,w]/\D.nx ((σ.set i (aa v)).set j (aa w)) H1
def ZdC{i j:Nat}{x y:bn}{a b:Expr}{ta:TA}{px py pt:eY}{kt k2 pt2}(hc:X.calm=aj)(hN:X.N.Nodup)(hi:X.N[i]?=aa x)(hj:X.N[j]?=aa y)(hij:i≠j)
  (hx:X.env.scope.names.lookup x=aa .local)(hy:X.env.scope.names.lookup y=aa .local)(ha:PA X [a,b] ta)
  (hw:dL [.Tuple [.Name x px,.Name y py] kt pt] (.Tuple [a,b] k2 pt2) X.env=cC (aa [x,y]))
  (hs:dJ [.Tuple [.Name x px,.Name y py] kt pt] (.Tuple [a,b] k2 pt2) pos.line X.env=cC al:=by rfl) :
  PS X (.Assign [.Tuple [.Name x px,.Name y py] kt pt] (.Tuple [a,b] k2 pt2) pos) (Zfm i j ta):=by
 intro pq s σ H D I h;rw[exec_Assign_arm];refine ae (d9 ?_);rw[hs];refine ae (aA ?_);rw[T8 (by decide)]
 refine ae (Tuple_ (thn (ha _ pq s σ H _ I h) λus s1 ⟨vs,H1,I1,r1,q1⟩=>?_))
 obtain⟨v,w,e1,q1⟩:=q1;subst e1;obtain⟨u1,u2,rfl,rv,rw'⟩:∃u1 u2,us=[u1,u2]/\Zu v u1/\Zu w u2:=by
  cases r1 with
  |cons p q=>
   cases q with
   |cons p' q'=>
    cases q';exact⟨_,_,rfl,p,p'⟩
 refine bL ?_ (by show 2<=bi;decide)
 have I2:Inv X pq σ H1 {s1 with heap:=s1.heap.push {cls:=.type "tuple",data:=.seq [u1,u2].toArray}}:=I1.kept (t':=s1.toks) λb o e=>aw _ e
 rw[hw];refine ae (aA ?_);show bc (aS X.prog X.w) X.A (do nN "assign.swapped-stores";let items <-unpackItems (.ref s1.heap.objs.size) 2 af;mZ [λv=>bindName X.env y v,λv=>bindName X.env x v] items.reverse;cC Flow.next) _ _ _
 refine ae (dW (ae (unpackItems_tuple (items:=#[u1,u2]) (I.ok.hd hc) (iq s1.heap _) λh' hx'=>?_)))
 have I3:=I2.kept (h':=h') (t':=s1.toks) λb o e=>hx' b o (br (aJ e)) e
 refine ae (kn (wpAny_bindName (XH I3 hN hj (.inl hy) rw' (λs2 I4=>?_) (.inr hy))))
 refine kn (wpAny_bindName (XH I4 hN hi (.inl hx) rv (λs3 I5=>nM (aA ?_)) (.inr hx)))
 rw[rA _ _ (Ne.symm hij)]at I5;exact⟨_,H1,I5,q1⟩
end
structure It where
 go:Nat->Hp->Prop
 yld:Nat->Hp->V->Hp->Prop
 stop:Nat->Hp->Prop
def WT(X:Cx)(pq:List (aC×eG))(H:Hp)(b:aC):Prop:=
 H b=af/\b≠X.env.locals/\b∉X.fs/\(b∈X.ex\/X.s₀.heap.objs.size<=b)/\(∀x c,X.env.cells.lookup x=aa c->c≠b)/\∀p∈X.pn++pq,p.1≠b
def Inv.fpOk(I:Inv X pq σ H s)(hb:s.heap.objs.size<=b)(hn:H' b=af):WT X pq H' b:=by
 refine⟨hn,gh (bu I.lt hb),I.nofs hb,.inr (bY I.sz hb),λx c e z=>?_,λp hp z=>?_⟩
 ·obtain⟨v,q⟩:=I.cell x c e
  exact T7 (bu q.lt (by rw[z];exact hb)) (bH _)
 ·exact T7 (bu (aJ (I.pin p hp).1) (by rw[z];exact hb)) (bH _)
structure Turn(P:bq)(w:bK)(K:ak)(tg:Expr)(J:It)(fp:List aC)(it:aC)(tn:Nat->bX->Prop):Prop where
 mem:it∈fp
 obj:∀i h,tn i h->∀b∈fp,∃o,h.get? b=aa o/\∀v,o.data≠.cell v
 keep:∀i h h',tn i h->(∀b∈fp,∀o,h.get? b=aa o->h'.get? b=aa o)->tn i h'
 item:∀(X:Cx),X.prog=P->X.w=w->X.K=K->X.calm=aj->∀(i:Nat)(pq:List (aC×eG))(s:ax)(σ:St)(H:Hp)(E:au->ax->Prop),Inv X pq σ H s->(∀b∈fp,WT X pq H b)->tn i s.heap->J.go i H->
  bc (aS P w) X.A (oA (.ref it)) (λr s1=>∃u,r=aa u/\
   bc (aS P w) X.A (l4 tg (.ref it) u) (λ_ s2=>∃x H',Inv X pq σ H' s2/\Zu x u/\J.yld i H x H'/\tn (i+1) s2.heap/\∀b∈fp,H' b=af) E s1) E s
 done:∀(X:Cx),X.prog=P->X.w=w->X.K=K->X.calm=aj->∀(i:Nat)(pq:List (aC×eG))(s:ax)(σ:St)(H:Hp)(E:au->ax->Prop),Inv X pq σ H s->(∀b∈fp,WT X pq H b)->tn i s.heap->J.stop i H->
  bc (aS P w) X.A (oA (.ref it)) (λr s1=>r=af/\Inv X pq σ H s1) E s
 self:∀(A:bQ)(i:Nat)(s:ax)(Q:au->ax->Prop)(E:au->ax->Prop),tn i s.heap->Q (.ref it) s->bc (aS P w) A (mw (.ref it)) Q E s
abbrev TI:=St->Hp->(It->Hp->Prop)->Prop
def PIE(X:Cx)(pq:List (aC×eG))(σ:St)(tg:Expr)(R:It->Hp->Prop)(itv:au)(s2:ax):Prop:=
 ∃(it:aC)(fp:List aC)(tn:Nat->bX->Prop)(J:It)(H':Hp),itv=.ref it/\Inv X pq σ H' s2/\Turn X.prog X.w X.K tg J fp it tn/\tn 0 s2.heap/\(∀b∈fp,WT X pq H' b)/\R J H'
def PI(X:Cx)(tg iter:Expr)(wi:TI):Prop:=
 ∀(pq:List (aC×eG))(s:ax)(σ:St)(H:Hp)(R:It->Hp->Prop),Inv X pq σ H s->wi σ H R->
  bc (aS X.prog X.w) X.A (cR iter X.env) (λv s1=>bc (aS X.prog X.w) X.A (mw v) (PIE X pq σ tg R) X.xe s1) X.xe s
def xX{E:au->ax->Prop}{Q:Unit->ax->Prop}(ho:s.heap.get? it=aa o)(hc:o.cls=.type n)(hd:o.data=.fields vs)
  (hn:["enumerate","zip","dict_itemiterator","dict_reverseitemiterator","odict_iterator","itertools.zip_longest","itertools.pairwise"].contains n=al)(hQ:Q () s):bc M A (l4 tg (.ref it) u) Q E s:=by
 cases tg<;>first
  |exact aA hQ
  |(cases u<;>first
    |exact aA hQ
    |(refine ae (nv ho ?_)
      rw[hc,hd];show bc M A (if(["enumerate","zip","dict_itemiterator","dict_reverseitemiterator","odict_iterator","itertools.zip_longest","itertools.pairwise"].contains n&&vs[0]? == aa (gA _))=aj then _ else _) Q E s
      rw[T8 (by intro h;rw[hn,Bool.false_and]at h;cases h)]
      exact aA hQ))
noncomputable def Itl(K:ak)(a:aC):It:=
 ⟨λi H=>∃xs x,SqL K H a xs/\xs[i]?=aa x,λi H x H'=>H'=H/\∀xs,SqL K H a xs->xs[i]?=aa x,λi H=>∃xs,SqL K H a xs/\xs.length<=i⟩
noncomputable def Itt(K:ak)(a:aC):It:=
 ⟨λi H=>∃xs x,SqT K H a xs/\xs[i]?=aa x,λi H x H'=>H'=H/\∀xs,SqT K H a xs->xs[i]?=aa x,λi H=>∃xs,SqT K H a xs/\xs.length<=i⟩
noncomputable def Itr(lo:Int)(n:Nat):It:=⟨λi _=>i<n,λi H x H'=>H'=H/\x=.int (lo+i),λi _=>n<=i⟩
def uB{P:bq}{w:bK}{K:ak}{tg:Expr}(a it:aC):Turn P w K tg (Itl K a) [it] it (λi h=>h.IsListIter it a i) where
 mem:=by simp
 obj:=λi h st b hb=>by
  have e:b=it:=by simpa using hb
  subst e;obtain⟨o,e,c,d⟩:=st;exact⟨o,e,λv z=>by rw[d]at z;cases z⟩
 keep:=λi h h' st k=>st.at λo e=>k it (by simp) o e
 item:=by
  intro X hP hw hK hc i pq s σ H E I hf st hg;subst hP hw hK;obtain⟨xs,x,hq,hx⟩:=hg;obtain⟨its,rv,p,hz⟩:=I.list hq;obtain⟨u,hu,ru⟩:=rv.get hx;obtain⟨f0,f1,f2,f3,f4,f5⟩:=hf it (by simp)
  refine lL st p.isList (by simpa using hu) λh' st' sb=>?_
  have I1:=I.turned (t':=s.toks) (λb o hb e=>(sb.2 b hb).trans e) f0 f1 f3 f4 f5
  obtain⟨o,e,c,d⟩:=id st';exact⟨u,rfl,xX e c d (by decide) ⟨x,H,I1,ru,⟨rfl,λys hy=>by rw[I.list_inj hy hq];exact hx⟩,st',λb hb=>(hf b hb).1⟩⟩
 done:=by
  intro X hP hw hK hc i pq s σ H E I hf st hg;subst hP hw hK;obtain⟨xs,hq,hx⟩:=hg;obtain⟨its,rv,p,hz⟩:=I.list hq;obtain⟨f0,f1,f2,f3,f4,f5⟩:=hf it (by simp)
  have hl:=rv.length;exact md (I.ok.hd hc) st p.isList (by simp;lia) λh' eb=>⟨rfl,I.turned (t':=s.toks) (λb o hb e=>eb b o hb e) f0 f1 f3 f4 f5⟩
 self:=λ_ _ _ _ _ st h=>wpAny_pyIter_listiter st h
def yc{P:bq}{w:bK}{K:ak}{tg:Expr}(a it:aC):Turn P w K tg (Itt K a) [it] it (λi h=>h.IsTupleIter it a i) where
 mem:=by simp
 obj:=λi h st b hb=>by
  have e:b=it:=by simpa using hb
  subst e;obtain⟨o,e,c,d⟩:=st;exact⟨o,e,λv z=>by rw[d]at z;cases z⟩
 keep:=λi h h' st k=>st.at λo e=>k it (by simp) o e
 item:=by
  intro X hP hw hK hc i pq s σ H E I hf st hg;subst hP hw hK;obtain⟨xs,x,hq,hx⟩:=hg;obtain⟨its,rv,p,hz⟩:=I.tuple hq;obtain⟨u,hu,ru⟩:=rv.get hx;obtain⟨f0,f1,f2,f3,f4,f5⟩:=hf it (by simp)
  refine wpAny_pyNext_tuple_item st (p) (by simpa using hu) λh' st' sb=>?_
  have I1:=I.turned (t':=s.toks) (λb o hb e=>(sb.2 b hb).trans e) f0 f1 f3 f4 f5
  obtain⟨o,e,c,d⟩:=id st';exact⟨u,rfl,xX e c d (by decide) ⟨x,H,I1,ru,⟨rfl,λys hy=>by rw[I.tuple_inj hy hq];exact hx⟩,st',λb hb=>(hf b hb).1⟩⟩
 done:=by
  intro X hP hw hK hc i pq s σ H E I hf st hg;subst hP hw hK;obtain⟨xs,hq,hx⟩:=hg;obtain⟨its,rv,p,hz⟩:=I.tuple hq;obtain⟨f0,f1,f2,f3,f4,f5⟩:=hf it (by simp)
  have hl:=rv.length;exact wpAny_pyNext_tuple_end (I.ok.hd hc) st (p) (by simp;lia) λh' eb=>⟨rfl,I.turned (t':=s.toks) (λb o hb e=>eb b o hb e) f0 f1 f3 f4 f5⟩
 self:=λ_ _ _ _ _ st h=>wpAny_pyIter_tupleiter st h
def yT{P:bq}{w:bK}{K:ak}{tg:Expr}(it:aC)(lo:Int)(n:Nat):Turn P w K tg (Itr lo n) [it] it (λi h=>IsRangeIter h it (lo+(i:Nat)*1) ((n:Int)-(i:Nat)) 1) where
 mem:=by simp
 obj:=λi h st b hb=>by
  have e:b=it:=by simpa using hb
  subst e;exact⟨_,st,λv z=>by
   have z':=z;cases z'⟩
 keep:=λi h h' st k=>k it (by simp) _ st
 item:=by
  intro X hP hw hK hc i pq s σ H E I hf st hg;subst hP hw hK;obtain⟨f0,f1,f2,f3,f4,f5⟩:=hf it (by simp)
  have W:=Walks.range (prog:=X.prog) (w:=X.w) (I.ok.hd hc) it lo 1 n;refine W.item i s _ _ hg st λv h' tk hv st' kk=>?_
  obtain⟨t,rfl⟩:=hv;have I1:Inv X pq σ H {s with heap:=h',toks:=tk}:=I.turned (λb o hb e=>kk b o (by simpa using hb) e) f0 f1 f3 f4 f5
  refine⟨_,rfl,xX st' rfl rfl (by decide) ⟨.int (lo+i),H,I1,⟨t,?_⟩,⟨rfl,rfl⟩,st',λb hb=>(hf b hb).1⟩⟩
  rw[Int.mul_one]
 done:=by
  intro X hP hw hK hc i pq s σ H E I hf st hg;subst hP hw hK;obtain⟨f0,f1,f2,f3,f4,f5⟩:=hf it (by simp)
  exact wpAny_pyNext_range_end (I.ok.hd hc) st (by have:n<=i:=hg;lia) λh' eb=>⟨rfl,I.turned (t':=s.toks) (λb o hb e=>eb b o hb e) f0 f1 f3 f4 f5⟩
 self:=λ_ _ _ _ _ st h=>wpAny_pyIter_rangeiter st h
section
variable{X:Cx}{tg:Expr}
theorem jc{pq:List (aC×eG)}{σ:St}{H:Hp}{s:ax}{R:It->Hp->Prop}{E:au->ax->Prop}{lo hi:Int}{t u v:rS}{tk:Nat}(I:Inv X pq σ H s)(h1:-(2^62)<=lo)(h2:lo<2^62)(h3:-(2^62)<=hi)(h4:hi<2^62)
  (q:R (Itr lo (hi-lo).toNat) H):bc (aS X.prog X.w) X.A (mw (.ref s.heap.objs.size)) (PIE X pq σ tg R) E {s with heap:=s.heap.push {cls:=.type "range",data:=.fields #[.int lo t,.int hi u,.int 1 v]},toks:=tk}:=by
 refine wpAny_pyIter_range (IsRange.new ..) (small_one h1 h2 h3 h4) ?_;have I1:Inv X pq σ H {s with heap:=s.heap.push {cls:=.type "range",data:=.fields #[.int lo t,.int hi u,.int 1 v]},toks:=tk}:=I.kept λb o e=>aw _ e
 refine⟨(s.heap.push {cls:=.type "range",data:=.fields #[.int lo t,.int hi u,.int 1 v]}).objs.size,[(s.heap.push {cls:=.type "range",data:=.fields #[.int lo t,.int hi u,.int 1 v]}).objs.size],_,_,H,rfl,
  I1.kept (t':=tk) λb o e=>aw _ e,yT _ lo (hi-lo).toNat,?_,λb hb=>?_,q⟩
 ·have e1:lo+((0:Nat):Int)*1=lo:=by simp
  have e2:(((hi-lo).toNat:Nat):Int)-((0:Nat):Int)=eD.Range.rangeSize lo hi 1:=by rw[rangeSize_one];split<;>lia
  rw[e1,e2];exact aO _ rfl
 ·have e:b=(s.heap.push {cls:=.type "range",data:=.fields #[.int lo t,.int hi u,.int 1 v]}).objs.size:=by simpa using hb
  subst e;exact I1.fpOk (aI _) (I1.hok.fresh (aI _))
def Zel(ta:TA):TI:=λσ H R=>ta σ H λvs H1=>∃j:Int,vs=[.int j]/\-(2^62)<=j/\j<2^62/\R (Itr 0 j.toNat) H1
theorem uL{a:Expr}{ta:TA}{p pos:eY}(hg:Gl X "range")(hm:X.mg "range" = af)(ha:PA X [a] ta)(hs:aE [a] X.env=[(al,cR a X.env)]:=by rfl):PI X tg (.Call (.Name "range" p) [a] [] pos) (Zel ta):=by
 intro pq s σ H R I h;refine Call_ (Vk I hg hm boot_range (d5 (thn (ha pos pq s σ H _ I h) λus s1 ⟨vs,H1,I1,r1,q1⟩=>?_) hs rfl))
 obtain⟨j,e,q1,q2,q⟩:=q1;subst e;cases r1 with
 |cons r rr=>
  cases rr;obtain⟨t,rfl⟩:=r;exact call_range_1 (jc I1 (by lia) (by lia) q1 q2 (by simpa using q))
def Zfr(wi:TI)(g:TG)(tb:TS):TS:=λD σ H=>wi σ H λJ H1=>∃W:Nat->Nat->St->Hp->Prop,(∃m,W 0 m σ H1)/\∀i m σ H,W i m σ H->
 (J.stop i H/\D.nx σ H)\/(J.go i H/\∃N:St->Hp->Prop,(∀σ' H',N σ' H'->∃m',m'<m/\W (i+1) m' σ' H')/\∀x H',J.yld i H x H'->g x σ H' λσ2 H2=>tb {D with nx:=N,ct:=N,bk:=D.nx} σ2 H2)
noncomputable def Um(fp:List aC)(h:bX):List (aC×eG):=fp.filterMap λb=>(h.get? b).map λo=>(b,o)
def Xu(hb:b∈fp)(e:h.get? b=aa o):(b,o)∈Um fp h:=ny.mpr ⟨b,hb,by rw[e];rfl⟩
def vS(hp:p∈Um fp h):p.1∈fp/\h.get? p.1=aa p.2:=by
 obtain⟨b,hb,e⟩:=ny.mp hp;cases q:h.get? b with
 |none=>rw[q]at e;cases e
 |some o=>
  rw[q]at e;have e':=am e;subst e';exact⟨hb,q⟩
def Inv.pinned(I:Inv X pq σ H s)(hf:∀b∈fp,WT X pq H b)(ho:∀b∈fp,∃o,s.heap.get? b=aa o/\∀v,o.data≠.cell v):Inv X (pq++Um fp s.heap) σ H s:=
 I.pins_of λp hp=>(cu.mp hp).elim (λz=>I.pin p (bh _ z)) λz=>by
  obtain⟨hb,e⟩:=vS z;obtain⟨f0,f1,f2,_⟩:=hf p.1 hb;obtain⟨o,e',d⟩:=ho p.1 hb;rw[e]at e';cases e';exact⟨e,f0,f1,f2,d⟩
def Inv.unpinned(I:Inv X (pq++pl) σ H s):Inv X pq σ H s:=I.pins_of λp hp=>I.pin p (bh _ (bV _ hp))
def Zdd{iter:Expr}{body:List eF}{wi:TI}{g:TG}{tb:TS}{pos:eY}(hp:PassesOwn (aS X.prog X.w) X.A X.env X.xe)(hc:X.calm=aj)(hi:PI X tg iter wi)(hg:PG X tg g)(hb:PSs X body tb)
  (hs:∀x,bZ iter X.env x=cC x:=by intro _;rfl):PS X (.For tg iter body [] pos) (Zfr wi g tb):=by
 intro pq s σ H D I h;refine wpAny_For (thn (hi pq s σ H _ I h) λv s1 h1=>thn h1 λitv s2 h2=>?_) hs
 obtain⟨it,fp,tn,J,H2,e,I2,T,st2,f2,W,⟨m0,w0⟩,turn⟩:=h2;subst e;have stat:∀{H':Hp},(∀b∈fp,H' b=af)->∀b∈fp,WT X pq H' b:=λhn b hb=>⟨hn b hb,(f2 b hb).2⟩
 refine codeAny_forLoop_any (λn s'=>∃i σ' H',Inv X pq σ' H' s'/\tn i s'.heap/\(∀b∈fp,H' b=af)/\W i n σ' H') ?_ m0 ⟨0,σ,H2,I2,st2,λb hb=>(f2 b hb).1,w0⟩
 rintro n s3 ⟨i,σ3,H3,I3,st3,fr3,w3⟩
 rcases turn i n σ3 H3 w3 with⟨stop,qn⟩|⟨go,N,hN,step⟩
 ·refine gK hp (thn (T.done X rfl rfl rfl hc i pq s3 σ3 H3 X.xe I3 (stat fr3) st3 stop) λr s4 ⟨hr,I4⟩=>?_)
  subst hr;exact gJ ⟨σ3,H3,I4,qn⟩
 ·refine gK hp (thn (T.item X rfl rfl rfl hc i pq s3 σ3 H3 X.xe I3 (stat fr3) st3 go) λr s4 ⟨u,hr,h4⟩=>?_)
  subst hr;refine gK hp (thn h4 λ_ s5 ⟨x,H5,I5,r5,y5,st5,fr5⟩=>?_)
  have I5':=I5.pinned (stat fr5) (T.obj _ _ st5);refine gK hp (thn (hg _ s5 σ3 H5 x u _ I5' r5 (step x H5 y5)) λ_ s6 ⟨σ6,H6,I6,q6⟩=>?_)
  refine gK hp (thn (hb _ s6 σ6 H6 _ I6 q6) λf s7 q7=>?_)
  have again:∀{σ7:St}{H7:Hp},Inv X (pq++Um fp s5.heap) σ7 H7 s7->N σ7 H7->∃m,m<n/\∃i σ' H',Inv X pq σ' H' s7/\tn i s7.heap/\(∀b∈fp,H' b=af)/\W i m σ' H':=λ{σ7 H7} I7 n7=>by
   obtain⟨m',hm,w7⟩:=hN σ7 H7 n7;refine⟨m',hm,i+1,σ7,H7,I7.unpinned,T.keep _ _ _ st5 λb hb o e=>(I7.pin (b,o) (bh _ (bh _ (Xu hb e)))).1,λb hb=>?_,w7⟩
   obtain⟨o,e,d⟩:=T.obj _ _ st5 b hb;exact(I7.pin (b,o) (bh _ (bh _ (Xu hb e)))).2.1
  cases f with|next=>obtain⟨σ7,H7,I7,n7⟩:=q7;exact again I7 n7|cont=>obtain⟨σ7,H7,I7,n7⟩:=q7;exact again I7 n7|brk=>obtain⟨σ7,H7,I7,q7⟩:=q7;exact⟨σ7,H7,I7.unpinned,q7⟩|ret v=>obtain⟨x7,σ7,H7,I7,r7,q7⟩:=q7;exact⟨x7,σ7,H7,I7.unpinned,r7,q7⟩
end
abbrev R2:=V->V->Hp->VK->Prop
def OpR(X:Cx)(f:au->au->nL au)(r:R2):Prop:=
 ∀(pq:List (aC×eG))(s:ax)(σ:St)(H:Hp)(x y:V)(v u:au)(Q:VK),Inv X pq σ H s->Zu x v->Zu y u->r x y H Q->
  bc (aS X.prog X.w) X.A (f v u) (EP X pq σ Q) X.xe s
def UnR(X:Cx)(f:au->nL au)(r:V->Hp->VK->Prop):Prop:=
 ∀(pq:List (aC×eG))(s:ax)(σ:St)(H:Hp)(x:V)(v:au)(Q:VK),Inv X pq σ H s->Zu x v->r x H Q->
  bc (aS X.prog X.w) X.A (f v) (EP X pq σ Q) X.xe s
def Zz(X:Cx)(f:au)(r:List V->Hp->VK->Prop):Prop:=
 ∀(pq:List (aC×eG))(s:ax)(σ:St)(H:Hp)(xs:List V)(us:List au)(Q:VK),Inv X pq σ H s->Vals xs us->r xs H Q->
  bc (aS X.prog X.w) X.A (call f us) (EP X pq σ Q) X.xe s
def Ze6(X:Cx)(r:V->Hp->(Bool->Hp->Prop)->Prop):Prop:=
 ∀(pq:List (aC×eG))(s:ax)(σ:St)(H:Hp)(x:V)(v:au)(Q:Bool->Hp->Prop),Inv X pq σ H s->Zu x v->r x H Q->
  bc (aS X.prog X.w) X.A (rP v) (TP X pq σ Q) X.xe s
def tOp(r:R2)(ta tb:TE):TE:=λσ H Q=>ta σ H λx H1=>tb σ H1 λy H2=>r x y H2 Q
def tUn(r:V->Hp->VK->Prop)(ta:TE):TE:=λσ H Q=>ta σ H λx H1=>r x H1 Q
def rI(C:Int->Int->Prop)(g:Int->Int->V):R2:=λx y H Q=>∃i j,x=.int i/\y=.int j/\C i j/\Q (g i j) H
def rI0(g:Int->Int->V):R2:=λx y H Q=>∃i j,x=.int i/\y=.int j/\Q (g i j) H
def rU(g:Int->V):V->Hp->VK->Prop:=λx H Q=>∃i,x=.int i/\Q (g i) H
section
variable{X:Cx}{a b c:Expr}{ta tb tc:TE}{pos:eY}
def Zc2(ha:PE X a ta)(hb:PE X b tb){pq:List (aC×eG)}{s:ax}{σ:St}{H:Hp}{R:V->V->Hp->Prop}(I:Inv X pq σ H s)
  (h:ta σ H λx H1=>tb σ H1 λy H2=>R x y H2){Q:au->ax->Prop}{f:au->au->nL au}
  (hf:∀v u s2 x y H2,Inv X pq σ H2 s2->Zu x v->Zu y u->R x y H2->bc (aS X.prog X.w) X.A (f v u) Q X.xe s2) :
  bc (aS X.prog X.w) X.A (cR a X.env) (λv s₁=>bc (aS X.prog X.w) X.A (cR b X.env) (λu s₂=>bc (aS X.prog X.w) X.A (f v u) Q X.xe s₂) X.xe s₁) X.xe s:=by
 refine thn (ha pq s σ H _ I h) λv s1 ⟨x,H1,I1,r1,q1⟩=>?_
 refine thn (hb pq s1 σ H1 _ I1 q1) λu s2 ⟨y,H2,I2,r2,q2⟩=>?_
 exact hf v u s2 x y H2 I2 r1 r2 q2
def VJ(ho:OpR X (eO op) r)(ha:PE X a ta)(hb:PE X b tb):PE X (.BinOp a op b pos) (tOp r ta tb):=by
 intro pq s σ H Q I h;exact wpAny_BinOp (Zc2 ha hb I h λv u s2 x y H2 I2 rx ry q=>ho pq s2 σ H2 x y v u Q I2 rx ry q)
def ZcJ{op:UnaryOp}{r:V->Hp->VK->Prop}(ho:UnR X (unaryOp op) r)(ha:PE X a ta):PE X (.UnaryOp op a pos) (tUn r ta):=by
 intro pq s σ H Q I h;exact UnaryOp_ (thn (ha pq s σ H _ I h) λv s1 ⟨x,H1,I1,r1,q1⟩=>ho pq s1 σ H1 x v Q I1 r1 q1)
def opI{f:au->au->nL au}{C:Int->Int->Prop}{g:Int->Int->Int}
  (nN:∀(i j:Int)(t u:rS)(s:ax)(Q:au->ax->Prop)(E:au->ax->Prop),C i j->Q (.int (g i j) s.toks) {s with toks:=s.toks+1}->bc (aS X.prog X.w) X.A (f (.int i t) (.int j u)) Q E s) :
  OpR X f (rI C λi j=>.int (g i j)):=by
 intro pq s σ H x y v u Q I rx ry h;obtain⟨i,j,rfl,rfl,hc,q⟩:=h;obtain⟨t,rfl⟩:=rx;obtain⟨t',rfl⟩:=ry;exact nN i j t t' s _ _ hc ⟨.int (g i j),H,I.tok _,⟨_,rfl⟩,q⟩
def Zer{f:au->au->nL au}{g:Int->Int->Int}
  (nN:∀(i j:Int)(t u:rS)(s:ax)(Q:au->ax->Prop)(E:au->ax->Prop),Q (.int (g i j) s.toks) {s with toks:=s.toks+1}->bc (aS X.prog X.w) X.A (f (.int i t) (.int j u)) Q E s) :
  OpR X f (rI0 λi j=>.int (g i j)):=by
 intro pq s σ H x y v u Q I rx ry h;obtain⟨i,j,rfl,rfl,q⟩:=h;obtain⟨t,rfl⟩:=rx;obtain⟨t',rfl⟩:=ry;exact nN i j t t' s _ _ ⟨.int (g i j),H,I.tok _,⟨_,rfl⟩,q⟩
def ZdY{f:au->au->nL au}{g:Int->Int->Bool}
  (nN:∀(i j:Int)(t u:rS)(s:ax)(Q:au->ax->Prop)(E:au->ax->Prop),Q (.bool (g i j)) s->bc (aS X.prog X.w) X.A (f (.int i t) (.int j u)) Q E s) :
  OpR X f (rI0 λi j=>.bl (g i j)):=by
 intro pq s σ H x y v u Q I rx ry h;obtain⟨i,j,rfl,rfl,q⟩:=h;obtain⟨t,rfl⟩:=rx;obtain⟨t',rfl⟩:=ry;exact nN i j t t' s _ _ ⟨.bl (g i j),H,I,rfl,q⟩
def CPow(i j:Int):Prop:=0<=j/\j<=1000000/\i.natAbs<2^64
def ZcY:OpR X (eO .Add) (rI0 λi j=>.int (i+j)):=Zer λ_ _ _ _ _ _ _ q=>add_int q
def Zdj:OpR X (eO .Sub) (rI0 λi j=>.int (i-j)):=Zer λ_ _ _ _ _ _ _ q=>sub_int q
theorem ZdK:OpR X (eO .Mod) (rI (λ_ j=>0<j) λi j=>.int (i%j)):=opI λi j _ _ _ _ _ hc q=>by
 have h1:=hc;exact mod_int' (by lia) (by rw[Int.fmod_eq_emod_of_nonneg i (by lia)];exact q)
def Zdy:OpR X (eO .Pow) (rI CPow λi j=>.int (i^j.toNat)):=opI λ_ _ _ _ _ _ _ hc q=>pow_int_small hc.1 hc.2.1 hc.2.2 q
def unI{f:au->nL au}{g:Int->Int}
  (nN:∀(i:Int)(t:rS)(s:ax)(Q:au->ax->Prop)(E:au->ax->Prop),Q (.int (g i) s.toks) {s with toks:=s.toks+1}->bc (aS X.prog X.w) X.A (f (.int i t)) Q E s) :
  UnR X f (rU λi=>.int (g i)):=by
 intro pq s σ H x v Q I rx h;obtain⟨i,rfl,q⟩:=h;obtain⟨t,rfl⟩:=rx;exact nN i t s _ _ ⟨.int (g i),H,I.tok _,⟨_,rfl⟩,q⟩
def jS:UnR X (unaryOp .USub) (rU λi=>.int (-i)):=unI λ_ _ _ _ _ q=>neg_int q
end
noncomputable def scal:V->V->Bool
 |.non,.non=>aj|.non,.int _=>aj|.int _,.non=>aj|.non,.bl _=>aj|.bl _,.non=>aj|.non,.str _=>aj|.str _,.non=>aj
 |.int _,.int _=>aj|.bl _,.bl _=>aj|.str _,.str _=>aj|.byt _,.byt _=>aj
 |.int _,.str _=>aj|.str _,.int _=>aj|.bl _,.str _=>aj|.str _,.bl _=>aj
 |_,_=>al
def rEq:R2:=λx y H Q=>scal x y=aj/\Q (.bl (ag (x=y))) H
def rNe:R2:=λx y H Q=>scal x y=aj/\Q (.bl (!decide (x=y))) H
def vy :ag (V.int i=V.int j)=(i == j):=by
 rw[cw];simp
def jN :ag (V.bl i=V.bl j)=(i == j):=by
 rw[cw];simp
def wS :ag (V.str i=V.str j)=(i == j):=by
 rw[cw];simp
def xP :ag (V.byt i=V.byt j)=(i.toList == j.toList):=by
 rw[cw];cases i;cases j;simp
section
variable{X:Cx}{a b c:Expr}{ta tb tc:TE}{pos:eY}
def ZA(I:Inv X pq σ H s)(q:Q (.bl k) H)(e:k=k'):EP X pq σ Q (.bool k') s:=by
 subst e;exact⟨.bl k,H,I,rfl,q⟩
def ZeK:OpR X (cK .Eq) rEq:=by
 intro pq s σ H x y v u Q I rx ry h;obtain⟨hs,q⟩:=h;cases x with
 |non=>
  cases rx;cases y with|non=>cases ry;exact PySem.EqNone.eq_none_none (ZA I q (by simp))|bl j=>cases ry;exact PySem.EqNone.eq_none_bool (ZA I q (by simp))|int j=>obtain⟨t',rfl⟩:=ry;exact PySem.EqNone.eq_none_int (ZA I q (by simp))|str j=>obtain⟨t',rfl⟩:=ry;exact PySem.EqNone.eq_none_str (ZA I q (by simp))|_=>exact T7 (hs) aM
 |bl i=>
  cases rx;cases y with|non=>cases ry;exact PySem.EqNone.eq_bool_none (ZA I q (by simp))|bl j=>cases ry;exact eq_bool (ZA I q jN)|str j=>obtain⟨t',rfl⟩:=ry;exact PySem.EqMixed.eq_bool_str (ZA I q (by simp))|_=>exact T7 (hs) aM
 |int i=>
  obtain⟨t,rfl⟩:=rx;cases y with|non=>cases ry;exact PySem.EqNone.eq_int_none (ZA I q (by simp))|int j=>obtain⟨t',rfl⟩:=ry;exact eq_int (ZA I q vy)|str j=>obtain⟨t',rfl⟩:=ry;exact PySem.EqMixed.eq_int_str (ZA I q (by simp))|_=>exact T7 (hs) aM
 |str i=>
  obtain⟨t,rfl⟩:=rx;cases y with|non=>cases ry;exact PySem.EqNone.eq_str_none (ZA I q (by simp))|bl j=>cases ry;exact PySem.EqMixed.eq_str_bool (ZA I q (by simp))|int j=>obtain⟨t',rfl⟩:=ry;exact PySem.EqMixed.eq_str_int (ZA I q (by simp))|str j=>obtain⟨t',rfl⟩:=ry;exact eq_str (ZA I q wS)|_=>exact T7 (hs) aM
 |byt i=>
  obtain⟨t,rfl⟩:=rx;cases y with|byt j=>obtain⟨t',rfl⟩:=ry;exact PySem.W.eq_bytes (ZA I q xP)|_=>exact T7 (hs) aM
 |_=>cases y<;>exact T7 (hs) aM
def ZeL:OpR X (cK .NotEq) rNe:=by
 intro pq s σ H x y v u Q I rx ry h;obtain⟨hs,q⟩:=h;cases x with
 |non=>
  cases rx;cases y with|non=>cases ry;exact PySem.EqNone.ne_none_none (ZA I q (by simp))|bl j=>cases ry;exact PySem.EqNone.ne_none_bool (ZA I q (by simp))|int j=>obtain⟨t',rfl⟩:=ry;exact PySem.EqNone.ne_none_int (ZA I q (by simp))|str j=>obtain⟨t',rfl⟩:=ry;exact PySem.EqNone.ne_none_str (ZA I q (by simp))|_=>exact T7 (hs) aM
 |bl i=>
  cases rx;cases y with|non=>cases ry;exact PySem.EqNone.ne_bool_none (ZA I q (by simp))|bl j=>cases ry;exact ne_bool (ZA I q (congrArg not jN))|str j=>obtain⟨t',rfl⟩:=ry;exact PySem.EqMixed.ne_bool_str (ZA I q (by simp))|_=>exact T7 (hs) aM
 |int i=>
  obtain⟨t,rfl⟩:=rx;cases y with|non=>cases ry;exact PySem.EqNone.ne_int_none (ZA I q (by simp))|int j=>obtain⟨t',rfl⟩:=ry;exact ne_int (ZA I q (congrArg not vy))|str j=>obtain⟨t',rfl⟩:=ry;exact PySem.EqMixed.ne_int_str (ZA I q (by simp))|_=>exact T7 (hs) aM
 |str i=>
  obtain⟨t,rfl⟩:=rx;cases y with|non=>cases ry;exact PySem.EqNone.ne_str_none (ZA I q (by simp))|bl j=>cases ry;exact PySem.EqMixed.ne_str_bool (ZA I q (by simp))|int j=>obtain⟨t',rfl⟩:=ry;exact PySem.EqMixed.ne_str_int (ZA I q (by simp))|str j=>obtain⟨t',rfl⟩:=ry;exact ne_str (ZA I q (congrArg not wS))|_=>exact T7 (hs) aM
 |byt i=>
  obtain⟨t,rfl⟩:=rx;cases y with|byt j=>obtain⟨t',rfl⟩:=ry;exact PySem.W.ne_bytes (ZA I q (congrArg not xP))|_=>exact T7 (hs) aM
 |_=>cases y<;>exact T7 (hs) aM
def Zey:OpR X (cK .Lt) (rI0 λi j=>.bl (ag (i<j))):=ZdY λ_ _ _ _ _ _ _ q=>lt_int q
def ZeH:OpR X (cK .LtE) (rI0 λi j=>.bl (ag (i<=j))):=ZdY λ_ _ _ _ _ _ _ q=>le_int q
def ZeC:OpR X (cK .GtE) (rI0 λi j=>.bl (ag (j<=i))):=ZdY λ_ _ _ _ _ _ _ q=>ge_int q
def ZdZ:OpR X (cK .Is) (λx y H Q=>y=.non/\Q (.bl (ag (x=.non))) H):=by
 intro pq s σ H x y v u Q I rx ry h;obtain⟨rfl,q⟩:=h;cases ry;refine is_none_gen (ZA I q ?_);cases x<;>first
  |(cases rx;rfl)
  |(obtain⟨t,rfl⟩:=rx;rfl)
def OpR.or(h:OpR X f r)(h':OpR X f r'):OpR X f (λx y H Q=>r x y H Q\/r' x y H Q):=by
 intro pq s σ H x y v u Q I rx ry q;rcases q with q|q
 ·exact h pq s σ H x y v u Q I rx ry q
 ·exact h' pq s σ H x y v u Q I rx ry q
def Z8(b:Expr)(h:op≠.In:=by decide)(h2:op≠.NotIn:=by decide):d8 op b=al:=by
 have e1:(op == rT.In)=al:=by cases op<;>first|rfl|exact T7 rfl h
 have e2:(op == rT.NotIn)=al:=by cases op<;>first|rfl|exact T7 rfl h2
 cases b<;>simp[d8,e1,e2]
def ZbG(ho:OpR X (cK op) r)(ha:PE X a ta)(hb:PE X b tb)(hm:d8 op b=al):PE X (.Compare a [op] [b] pos) (tOp r ta tb):=by
 intro pq s σ H Q I h;exact wpAny_Compare1 (Zc2 ha hb I h λv u s2 x y H2 I2 rx ry q=>ho pq s2 σ H2 x y v u Q I2 rx ry q) hm
def ZeD(t:TE):TT:=λσ H Q=>t σ H λx H'=>∃k,x=.bl k/\Q k H'
def Zbz(ho:OpR X (cK op) r)(ha:PE X a ta)(hb:PE X b tb)(hm:d8 op b=al):PT X (.Compare a [op] [b] pos) (ZeD (tOp r ta tb)):=by
 intro pq s σ H Q I h;refine l9 (thn (ha pq s σ H _ I h) λv s1 ⟨x,H1,I1,r1,q1⟩=>thn (hb pq s1 σ H1 _ I1 q1) λu s2 ⟨y,H2,I2,r2,q2⟩=>
  thn (ho pq s2 σ H2 x y v u _ I2 r1 r2 q2) λc s3 ⟨z,H3,I3,r3,k,e,q3⟩=>?_) hm
 subst e;cases r3;exact dB ⟨H3,I3,q3⟩
def Zd8(r r':R2)(ta tb tc:TE):TE:=λσ H Q=>ta σ H λx H1=>tb σ H1 λy H2=>r x y H2 λz H3=>∃k,z=.bl k/\
 (if k=aj then tc σ H3 λw' H4=>r' y w' H4 Q else Q (.bl al) H3)
def ZaH(ho:OpR X (cK op) r)(ho':OpR X (cK op') r')(ha:PE X a ta)(hb:PE X b tb)(hc:PE X c tc)
  (hm:lastMarks [op,op'] [b,c]=al:=by with_unfolding_all rfl):PE X (.Compare a [op,op'] [b,c] pos) (Zd8 r r' ta tb tc):=by
 intro pq s σ H Q I h;refine Compare_chain (thn (ha pq s σ H _ I h) λv s1 ⟨x,H1,I1,r1,q1⟩=>chain_link (thn (hb pq s1 σ H1 _ I1 q1) λu s2 ⟨y,H2,I2,r2,q2⟩=>
  thn (ho pq s2 σ H2 x y v u _ I2 r1 r2 q2) λd s3 ⟨z,H3,I3,r3,k,e,q3⟩=>?_)) hm
 subst e;cases r3;refine dB ?_;cases k with|false=>exact ite_ff ⟨.bl al,H3,I3,rfl,q3⟩|true=>exact ite_tt (chain_last (thn (hc pq s3 σ H3 _ I3 q3) λw' s4 ⟨z',H4,I4,r4,q4⟩=>ho' pq s4 σ H4 y z' u w' Q I4 r2 r4 q4))
def Zb3(K:ak)(x:V)(H:Hp)(k:Bool):Prop:=
 match x with
 |.non=>k=al
 |.bl b=>k=b
 |.int i=>k=(i != 0)
 |.str y=>y.length<=bi/\k=((y.length:Int) != 0)
 |.byt y=>y.size<=bi/\k=((y.size:Int) != 0)
 |.ref p=>(∃xs,SqL K H p xs/\k = !xs.isEmpty)\/(∃xs,SqT K H p xs/\k = !xs.isEmpty)\/∃kvs,H p=aa (.dK kvs)/\k = !kvs.isEmpty
 |_=>False
def xx{κ:Type}{kvs:List (κ×V)}{vs:List (κ×au)}(r:KV kvs vs):(!vs.isEmpty) = !kvs.isEmpty:=by
 cases r<;>rfl
def UG{xs:List V}{its:List au}(r:Vals xs its):(!its.toArray.isEmpty) = !xs.isEmpty:=by
 cases r<;>simp
def Qg:(bi:Nat)<2^63:=by rw[dm];decide
theorem qR:Ze6 X (λx H Q=>∃k,Zb3 X.K x H k/\Q k H):=by
 intro pq s σ H x v Q I rx h;obtain⟨k,e,q⟩:=h;have hl:=Qg;have hs:=dm;cases x with
 |non=>
  cases rx;have e':=e;subst e';exact truthy_none ⟨H,I,q⟩
 |bl b=>
  cases rx;have e':k=b:=e;subst e';exact dB ⟨H,I,q⟩
 |int i=>
  obtain⟨t,rfl⟩:=rx;have e':=e;subst e';exact nz ⟨H,I,q⟩
 |str y=>
  obtain⟨t,rfl⟩:=rx;obtain⟨hy,e'⟩:=e;subst e';exact PySem.P.truthy_str (by lia) ⟨H,I.tok _,q⟩
 |byt y=>
  obtain⟨t,rfl⟩:=rx;obtain⟨hy,e'⟩:=e;subst e';exact PySem.W.truthy_bytes (by lia) ⟨H,I.tok _,q⟩
 |ref p=>
  cases rx;have e':=e;rcases e' with⟨xs,hx,e'⟩|⟨xs,hx,e'⟩|⟨kvs,hx,e'⟩
  ·subst e'
   obtain⟨its,r,pl,hz⟩:=I.list hx;have hlen:=r.length;exact wpAny_truthy_list pl.isList (by simp only[ay];lia) ⟨H,I.tok _,by rw[UG r];exact q⟩
  ·subst e'
   obtain⟨its,r,pl,hz⟩:=I.tuple hx;have hlen:=r.length;exact truthy_tuple pl (by simp only[ay];lia) ⟨H,I.tok _,by rw[UG r];exact q⟩
  ·subst e'
   obtain⟨hz,hS,vs,r,m⟩:=I.hok p _ hx;have hlen:=Paired.length r;exact wpAny_truthy_dict hS m (by lia) ⟨H,I.tok _,by rw[xx r];exact q⟩
 |_=>exact(e).elim
def jq(ha:PE X a ta)(he:∀whole,isTrue a X.env whole=(do let v <-whole;kR a.pos;iF [v] (rP v))) :
  PT X a (λσ H Q=>ta σ H λx H'=>∃k,Zb3 X.K x H' k/\Q k H'):=by
 intro pq s σ H Q I h;exact isTrue_plain (thn (ha pq s σ H _ I h) λv s1 ⟨x,H1,I1,r1,q1⟩=>qR pq s1 σ H1 x v Q I1 r1 q1) (he _)
def XR(r:Vals [x] us):∃u,us=[u]/\Zu x u:=by
 cases r with|cons r1 r2=>cases r2;exact⟨_,rfl,r1⟩
def zH(r:Vals [x,y] us):∃u w',us=[u,w']/\Zu x u/\Zu y w':=by
 cases r with
 |cons r1 r2=>
  cases r2 with|cons r3 r4=>cases r4;exact⟨_,_,rfl,r1,r3⟩
def uF(hc:X.calm=aj):Zz X (.builtin "max") (λxs H Q=>∃i j,xs=[.int i,.int j]/\Q (.int (if j>i then j else i)) H):=by
 intro pq s σ H xs us Q I r h;obtain⟨i,j,rfl,q⟩:=h;obtain⟨u,w',rfl,⟨t,rfl⟩,⟨t',rfl⟩⟩:=zH r;refine max_two_ints (I.ok.hd hc) λh' tk k=>⟨_,H,I.kept k,?_,q⟩
 by_cases hj:j>i
 ·rw[T9 hj,T9 hj];exact⟨_,rfl⟩
 ·rw[T8 hj,T8 hj];exact⟨_,rfl⟩
def uN(hc:X.calm=aj):Zz X (.builtin "min") (λxs H Q=>∃i j,xs=[.int i,.int j]/\Q (.int (if j<i then j else i)) H):=by
 intro pq s σ H xs us Q I r h;obtain⟨i,j,rfl,q⟩:=h;obtain⟨u,w',rfl,⟨t,rfl⟩,⟨t',rfl⟩⟩:=zH r;refine min_two_ints (I.ok.hd hc) λh' tk k=>⟨_,H,I.kept k,?_,q⟩
 by_cases hj:j<i
 ·rw[T9 hj,T9 hj];exact⟨_,rfl⟩
 ·rw[T8 hj,T8 hj];exact⟨_,rfl⟩
def uE:Zz X (.type "int") (λxs H Q=>(∃i,xs=[.int i]/\Q (.int i) H)\/∃k,xs=[.bl k]/\Q (.int (if k then 1 else 0)) H):=by
 intro pq s σ H xs us Q I r h;rcases h with⟨i,rfl,q⟩|⟨k,rfl,q⟩
 ·obtain⟨u,rfl,t,rfl⟩:=XR r
  exact call_int_int ⟨.int i,H,I,⟨_,rfl⟩,q⟩
 ·obtain⟨u,rfl,r1⟩:=XR r
  cases r1;exact call_int_bool ⟨.int (if k then 1 else 0),H,I.tok _,⟨_,rfl⟩,q⟩
end
structure ObjM(h:bX)(x dx C:aC)(mA:bn->Option au):Prop where
 obj:h.get? x=aa (l0 C dx)
 ns:h.Ns1 dx mA
 ne:dx≠x
def vF{h:bX}{dx:aC}{mA:bn->Option au}(n:h.Ns1 dx mA):∃od,h.get? dx=aa od/\∀name,my name od=aa (mA name):=by
 obtain⟨o,es,ep,ho,hd,hk,_,hm⟩:=n;refine⟨o,ho,λname=>?_⟩
 have e:=hm name;unfold nsFind findBy at e;rw[<-Array.find?_toList]at e;unfold my;rw[hd]
 dsimp only
 split
 ·rename_i y q
  rw[q]at e;exact congrArg aa e
 ·rename_i q
  rw[q]at e;have a:es.toList.any (·.refKey)=al:=by
   rw[nO];intro y hy;obtain⟨z,t,hkey⟩:=hk y (mz.mp hy);simp[iB.refKey,hkey]
  have a':¬es.toList.any (·.refKey)=aj:=by rw[a];exact aM
  rw[T8 a'];exact congrArg aa e
def ObjM.look(I:ObjM h x dx C mA):∃od,PySem.W.InstAt h x (l0 C dx) C (aa od)/\∀name,my name od=aa (mA name):=
 let ⟨od,ho,hl⟩:=vF I.ns
 ⟨od,⟨I.obj,rfl,rfl,ho⟩,hl⟩
section
variable{P:bq}{w:bK}{H H':Hp}{h h':bX}{a C dx:aC}{fs fs':List (bn×V)}
def wL(hok:HOk P w H h)(e:H a=aa (.ins C dx fs)):∃mA,ObjM h a dx C mA/\(∀f,xJ (fs.lookup f) (mA f))/\PySem.Within mA (fs.map (·.1))/\fs.length<=1000/\H dx=aa (.own a):=by
 obtain⟨d,z,ne,ob,mA,n,r,q⟩:=(hok a _ e)
 exact⟨mA,⟨ob,n,ne⟩,r,q,z,d⟩
end
structure Cls(K:ak)(C:aC):Prop where
 pg:oB K C bn.empty=aj
 hd:PySem.W.hasDictIn K C=aj
 po:PySem.W.plainOver K C=aj
 sa:pJ K (.ref C) "__setattr__" = aa (aa (.builtin "object.__setattr__"))
def Cls.get{K:ak}{C:aC}(c:Cls K C)(f:bn):oB K C f=aj:=c.pg
section
variable{X:Cx}{pq:List (aC×eG)}{σ:St}{H:Hp}{s:ax}{A:bQ}{E:au->ax->Prop}{Q:au->ax->Prop}{c:au}{b:Bool}
inductive TyOf(K:ak)(H:Hp):V->au->Prop where
 |non:TyOf K H .non (.type "NoneType")
 |bl (x:Bool):TyOf K H (.bl x) (.type "bool")
 |int (i:Int):TyOf K H (.int i) (.type "int")
 |str (x:bn):TyOf K H (.str x) (.type "str")
 |flt (x:UInt64):TyOf K H (.flt x) (.type "float")
 |lst {a:aC} {xs:List V} (e:H a=aa (.lst xs)):TyOf K H (.ref a) (.type "list")
 |frz {a:aC} {o:eG} {xs:List V} (e:H a=aa (.frz o (.lst xs))):TyOf K H (.ref a) (.type "list")
 |tup {a:aC} {xs:List V} (e:H a=aa (.tup xs)):TyOf K H (.ref a) (.type "tuple")
 |dK {a:aC} {kvs:List (Key×V)} (e:H a=aa (.dK kvs)):TyOf K H (.ref a) (.type "dict")
 |dT {a:aC} {kvs:List (List Key×V)} (e:H a=aa (.dT kvs)):TyOf K H (.ref a) (.type "dict")
 |ins {a C dx:aC} {fs:List (bn×V)} (e:H a=aa (.ins C dx fs)) (cl:Cls K C) (ha:pJ K (.ref C) "__class__" = aa (aa (.builtin "object.__class__")))
   (hn:PySem.W.specialIn K (.builtin "object.__class__") "__get__" = aa (aa (.builtin "getset_descriptor.__get__"))) (htk:PySem.W.takesIn K (.builtin "object.__class__")=aa aj)
   (hm:PySem.W.mroIn K C (.type "object")=aa aj):TyOf K H (.ref a) (.ref C)
def ue(I:Inv X pq σ H s)(rx:Zu x u)(ty:TyOf X.K H x t)(e:fV X.K t c=aa b)(h:∀tk,Q (.bool b) {s with toks:=tk}) :
  bc (aS X.prog X.w) A (call (.builtin "isinstance") [u,c]) Q E s:=by
 cases ty with
 |non=>cases(show u=bD from rx);exact cS nP I.kIn dg e (λz=>nomatch z) h
 |bl y=>cases(rx);exact cS nQ I.kIn dg e (λz=>nomatch z) h
 |int i=>obtain⟨t,q⟩:=(rx);cases q;exact cS oC I.kIn dg e (λz=>nomatch z) h
 |str y=>obtain⟨t,q⟩:=(rx);cases q;exact cS oD I.kIn dg e (λz=>nomatch z) h
 |flt y=>obtain⟨t,q⟩:=(rx);cases q;exact cS nA I.kIn dg e (λz=>nomatch z) h
 |@lst a xs ea=>
  cases(rx)
  obtain⟨_,_,n,_,h1⟩:=(I.hok a _ ea)
  exact cS gU I.kIn ⟨_,h1,rfl⟩ e (λz=>nomatch z) h
 |@frz a ob xs ea=>
  cases(rx)
  obtain⟨_,_,_,n,_,h1⟩:=(I.hok a _ ea)
  exact cS gU I.kIn ⟨_,h1,rfl⟩ e (λz=>nomatch z) h
 |@tup a xs ea=>
  cases(rx)
  obtain⟨_,_,_,p⟩:=(I.hok a _ ea)
  obtain⟨o,h1,h2,_⟩:=p;exact cS nB I.kIn ⟨o,h1,h2⟩ e (λz=>nomatch z) h
 |@dK a kvs ea=>
  cases(show u=cU a from rx)
  obtain⟨_,_,vs,_,p⟩:=(I.hok a _ ea)
  obtain⟨o,es,ep,h1,h2,_⟩:=p;exact cS gV I.kIn ⟨o,h1,h2.1⟩ e (λz=>nomatch z) h
 |@dT a kvs ea=>
  cases(show u=cU a from rx)
  obtain⟨_,_,xs,_,o,es,ep,h1,h2,_⟩:=(I.hok a _ ea)
  exact cS gV I.kIn ⟨o,h1,h2.1⟩ e (λz=>nomatch z) h
 |@ins a C dx fs ea cl ha hn htk hm=>
  cases(show u=cU a from rx)
  obtain⟨mA,O,_⟩:=wL I.hok ea;obtain⟨od,J,_⟩:=O.look;exact cS (oE (cl.get _) cl.hd ha hn htk hm) I.kIn J e (λz=>nomatch z) h
end
structure Room(k:Nat)(A:bQ):Prop where
 hd:A.handled=af
 dp:A.depth+3*k+5<recursionLimit
 un:A.units+16*k+200<dz
def Room.mono(r:Room k A)(h:j<=k):Room j A:=⟨r.hd,by have:=r.dp;lia,by have:=r.un;lia⟩
theorem Room.deeper(r:Room (k+1) A)(env:Env):Room k (A.deeper env):=
 ⟨r.hd,by have:=r.dp;show A.depth+1+3*k+5<_;lia,by have:=r.un;show A.units+3+16*k+200<_;lia⟩
theorem Room.depth(r:Room k A):A.depth<recursionLimit:=by have:=r.dp;lia
def Gg:TA:=λ_ H Q=>Q [] H
def YB(ta:TE)(tr:TA):TA:=λσ H Q=>ta σ H λx H1=>tr σ H1 λxs H2=>Q (x::xs) H2
section
variable{X:Cx}{e:Expr}{es:List Expr}{te:TE}{t:TA}{pos:eY}
def Yj:PA X [] Gg:=λ_ _ _ _ H Q I h=>Calls.spliced_nil ⟨[],H,I,.nil,h⟩
def Zw(ha:PE X e te)(hr:PA X es t)(hs:aE (e::es) X.env=(al,cR e X.env)::aE es X.env:=by rfl):PA X (e::es) (YB te t):=by
 intro pos pq s σ H Q I h;rw[hs];refine Calls.spliced_cons (thn (ha pq s σ H _ I h) λu s1 ⟨x,H1,I1,r1,q1⟩=>?_)
 exact thn (hr pos pq s1 σ H1 _ I1 q1) λus s2 ⟨xs,H2,I2,r2,q2⟩=>⟨x::xs,H2,I2,.cons r1 r2,q2⟩
def Zff(t:TA):TE:=λσ H Q=>t σ H λxs H1=>xs.length<=bi/\∀p,H1 p=af->Q (.ref p) (upd H1 p (.tup xs))
def ui(t:TA):TE:=λσ H Q=>t σ H λxs H1=>xs.length<=bi/\∀p,H1 p=af->Q (.ref p) (upd H1 p (.lst xs))
def jb{x1}(h:PA X es t):PE X (.Tuple es x1 pos) (Zff t):=by
 intro pq s σ H Q I hq;refine wpAny_Tuple_spliced (thn (h pos pq s σ H _ I hq) λus s1 ⟨xs,H1,I1,r,z,q⟩=>⟨by rw[<-r.length];exact z,?_⟩)
 have hf:=I1.hok.fresh (aI _);refine⟨.ref s1.heap.objs.size,upd H1 s1.heap.objs.size (.tup xs),I1.laid (t':=s1.toks) (λb u e=>aw _ e) (aI _) ?_,rfl,q _ hf⟩
 exact⟨z,us,r,⟨_,aO _ rfl,rfl,_,rfl⟩⟩
def UP(h:PA X es t):PE X (.List es pos) (ui t):=by
 intro pq s σ H Q I hq;refine wpAny_List_spliced (thn (h pos pq s σ H _ I hq) λus s1 ⟨xs,H1,I1,r,z,q⟩=>⟨by rw[<-r.length];exact z,?_⟩)
 have hf:=I1.hok.fresh (aI _);refine⟨.ref s1.heap.objs.size,upd H1 s1.heap.objs.size (.lst xs),I1.laid (t':=s1.toks) (λb u e=>aw _ e) (aI _) ?_,rfl,q _ hf⟩
 exact⟨z,us,0,r,aO _ rfl⟩
end
abbrev Sp:=List V->Hp->VK->XK->Prop
abbrev CXT:=List Env->Hp->ax->XK->au->ax->Prop
structure Env0(P:bq)(w:bK)(K:ak)(mg:bn->Option au)(base:bX)(A:bQ)(outer:List Env)(s:ax)(H:Hp):Prop where
 frames:A.frames=aa outer
 mod:Mod K mg base
 bs:∀b o,base.get? b=aa o->s.heap.get? b=aa o/\H b=af
 bsz:base.objs.size<=s.heap.objs.size
 funs:s.heap.FunFrames base outer
 frf:∀b∈frs outer,H b=af
 hok:HOk P w H s.heap
 bare:iE s.gens
def CE(outer:List Env)(P:bq)(w:bK)(H:Hp)(s:ax)(Q:VK)(u:au)(s':ax):Prop:=
 ∃v H',s'.os=s.os/\iE s'.gens/\Un (frs outer) [] H H' s.heap s'.heap/\HOk P w H' s'.heap/\Zu v u/\Q v H'
def CR(CX:CXT)(outer:List Env)(P:bq)(w:bK)(H:Hp)(s:ax)(Q:VK)(E:XK)(r:oF)(s':ax):Prop:=
 match r with
 |.ok (.ret u)=>CE outer P w H s Q u s'
 |.ok _=>False
 |.error e=>CX outer H s E e s'
structure FnOk(P:bq)(w:bK)(K:ak)(mg:bn->Option au)(base:bX)(CX:CXT)(k:Nat)(f:aC)(fd:cB)(ps:List bn)(sp:Sp):Prop where
 len:∀vs H Q E,sp vs H Q E->vs.length=ps.length
 run:∀(A:bQ)(outer:List Env)(s:ax)(H:Hp)(args:Args)(us:List au)(vs:List V)(Q:VK)(E:XK),Room k A->Env0 P w K mg base A outer s H->mR s fd args (ps.zip us)->Vals vs us->sp vs H Q E->
  eC (aS P w) A (.call (.ref f) args) (CR CX outer P w H s Q E) s
section
variable{X:Cx}{pq:List (aC×eG)}{σ:St}{H:Hp}{s s':ax}
def Inv.env0(I:Inv X pq σ H s):Env0 X.prog X.w X.K X.mg X.base X.A X.stack s H:=
 ⟨I.ok.frames,I.ok.mod,I.bs,bY I.ok.bsz I.sz,I.stack,I.stkFree,I.hok,I.bare⟩
def Inv.after(I:Inv X pq σ H s)(h:CE X.stack X.prog X.w H s Q u s'):EP X pq σ Q u s':=by
 obtain⟨v,H',os,bare,un,hok,r,q⟩:=h;obtain⟨hh,g,d,t,os'⟩:=s';obtain rfl:os'=s.os:=os;exact⟨v,H',I.call (h':=hh) (g':=g) (d':=d) (t':=t) un hok bare (λb z=>T7 z (by simp)),r,q⟩
end
def ZcR(sp:Sp)(dvs:List V)(E:XK)(t:TA):TE:=λσ H Q=>t σ H λvs H1=>sp (vs++dvs) H1 Q E
def VR(K:ak)(fd:cB)(ps:List bn)(ds:List au):Prop:=
 ∀(s:ax)(us:List au),K.In s.heap->(us++ds).length=ps.length->mR s fd ⟨us,[]⟩ (ps.zip (us++ds))
def VR.all{K:ak}{fd:cB}{ps:List bn}(h:∀us:List au,us.length=ps.length->mB fd ⟨us,[]⟩=cC (ps.zip us)):VR K fd ps []:=λs us _ hl=>by
 rw[cT]at hl ⊢;exact .of_eq (h us hl)
def Qd(CX:CXT)(X:Cx)(E:XK):Prop:=∀(pq:List (aC×eG))(σ:St)(H:Hp)(s:ax)(e:au)(s':ax),Inv X pq σ H s->CX X.stack H s E e s'->X.xe e s'
section
variable{X:Cx}{CX:CXT}{k:Nat}{f C:aC}{fd:cB}{ps:List bn}{sp:Sp}{dvs:List V}{ds:List au}{E:XK}{x m:bn}{p pos apos:eY}{e o:Expr}{es:List Expr}{ta:TE}{t:TA}
def Zee(F:FnOk X.prog X.w X.K X.mg X.base CX k f fd ps sp)(hr:Room k X.A)(hb:VR X.K fd ps ds)(hd:Vals dvs ds)(hx:Qd CX X E)
  (I:Inv X pq σ H s)(r:Vals vs us)(h:sp (vs++dvs) H Q E):bc (aS X.prog X.w) X.A (call (.ref f) us) (EP X pq σ Q) X.xe s:=by
 have r2:=r.append hd;have hl:(us++ds).length=ps.length:=by rw[<-r2.length];exact F.len _ _ _ _ h
 refine pK (kh (F.run X.A X.stack s H ⟨us,[]⟩ (us++ds) (vs++dvs) Q E hr I.env0 (hb s us I.kIn hl) r2 h) λr s' hq=>?_)
 cases r with
 |error e=>exact hx pq σ H s e s' I hq
 |ok fl=>
  cases fl with|ret u=>exact I.after hq|next=>exact False.elim hq|brk=>exact False.elim hq|cont=>exact False.elim hq
def wK(F:FnOk X.prog X.w X.K X.mg X.base CX k f fd ps sp)(hr:Room k X.A)(hg:Gl X x)(hm:X.mg x=aa (.ref f))(hk:fW X.K (.ref f)=aj)(hb:VR X.K fd ps ds)(hd:Vals dvs ds)(hx:Qd CX X E)
  (ha:PA X (e::es) t)(hdb:(x == ("__debug__" : bn))=al:=by decide)(he:aE (e::es) X.env=(al,cR e X.env)::aE es X.env:=by rfl)(hpl:(dU pos (aE es X.env)).any (·.1)=al:=by rfl) :
  PE X (.Call (.Name x p) (e::es) [] pos) (ZcR sp dvs E t):=by
 intro pq s σ H Q I h;refine fu (WH I hg hm ?_ hdb);refine nC I.ok.mod.kin hk (thn (ha pos pq s σ H _ I h) λus s1 ⟨vs,H1,I1,r,q⟩=>⟨I1.kIn,?_⟩) he hpl
 exact Zee F hr hb hd hx I1 r q
end
structure FnScope(N P:List bn)(sc:dQ):Prop where
 kind:sc.kind=.function
 co:sc.isCoroutine=al
 gen:sc.isGenerator=al
 nd:N.Nodup
 pre:N.take P.length=P
 par:∀x∈P,sc.names.lookup x=aa .local\/sc.names.lookup x=aa .cell
 nofree:∀y∈sc.names,y.2≠.free
theorem Jb{kindOf:bn->Option eZ}{x:bn}:∀{binds:List (bn×au)}{m:bn->Option au},(∀v,(x,v)∉binds)->rM kindOf binds m x=m x
 |[],_,_=>rfl
 |(n,v)::r,m,h=>by
  unfold rM;rw[Jb λw hw=>h w (aq _ hw)]
  split
  ·have:x≠n:=by rintro rfl;exact h v ao
   simp[this]
  ·rfl
theorem QH{kindOf:bn->Option eZ}{x:bn}:∀{binds:List (bn×au)}{m:bn->Option au},(∀v,(x,v)∉binds)->rO kindOf binds m x=m x
 |[],_,_=>rfl
 |(n,v)::r,m,h=>by
  unfold rO;rw[QH λw hw=>h w (aq _ hw)]
  split
  ·rfl
  ·have:x≠n:=by rintro rfl;exact h v ao
   simp[this]
theorem QK{kindOf:bn->Option eZ}{x:bn}{v:au}:∀{P:List bn}{vs:List au}{i:Nat}{m:bn->Option au},P.Nodup->P[i]?=aa x->vs[i]?=aa v->kindOf x=aa .local->
  rM kindOf (P.zip vs) m x=aa v
 |[],_,_,_,_,h,_,_=>by simp at h
 |_::_,[],_,_,_,_,h,_=>by simp at h
 |p::P,w::vs,0,m,nd,h1,h2,hk=>by
  simp at h1 h2;subst h1;subst h2;show rM kindOf ((p,w)::P.zip vs) m p=_;unfold rM;rw[Jb λv hv=>(c8.mp nd).1 (fE hv).1,T9 hk]
  simp
 |p::P,w::vs,i+1,m,nd,h1,h2,hk=>by
  unfold rM;exact QK (c8.mp nd).2 (by simpa using h1) (by simpa using h2) hk
theorem QJ{kindOf:bn->Option eZ}{x:bn}{v:au}:∀{P:List bn}{vs:List au}{i:Nat}{m:bn->Option au},P.Nodup->P[i]?=aa x->vs[i]?=aa v->kindOf x≠aa .local->
  rO kindOf (P.zip vs) m x=aa v
 |[],_,_,_,_,h,_,_=>by simp at h
 |_::_,[],_,_,_,_,h,_=>by simp at h
 |p::P,w::vs,0,m,nd,h1,h2,hk=>by
  simp at h1 h2;subst h1;subst h2;show rO kindOf ((p,w)::P.zip vs) m p=_;unfold rO;rw[QH λv hv=>(c8.mp nd).1 (fE hv).1,T8 hk]
  simp
 |p::P,w::vs,i+1,m,nd,h1,h2,hk=>by
  unfold rO;exact QJ (c8.mp nd).2 (by simpa using h1) (by simpa using h2) hk
noncomputable def start(N:List bn)(vs:List V):St:=vs.map aa++aH (N.length-vs.length) af
noncomputable def XG(CX:CXT)(P:bq)(w:bK)(K:ak)(mg:bn->Option au)(base:bX)(N:List bn)(qual:bn)(scope:dQ)(f:aC)(cd:au)(A:bQ)(outer:List Env)(s:ax)(H:Hp)(E:XK):Cx where
 prog:=P
 w:=w
 K:=K
 mg:=mg
 base:=base
 A:=A.deeper (dG qual scope s.heap.objs.size f cd)
 N:=N
 s₀:=s
 H₀:=H
 env:=dG qual scope s.heap.objs.size f cd
 outer:=outer
 stack:=dG qual scope s.heap.objs.size f cd::outer
 ex:=[]
 calm:=aj
 fn:=λ_=>aj
 pn:=[]
 xe:=λe s'=>bc (aS P w) (A.deeper (dG qual scope s.heap.objs.size f cd)) (leaving (dG qual scope s.heap.objs.size f cd) e) (λ_ s''=>CX outer H s E e s'') (λe' s''=>CX outer H s E e' s'') s'
def Qh{sc:dQ}{n:Nat}{x:bn}(h:sc.names.lookup x=aa .cell):∃c,(iu n sc.names []).lookup x=aa c:=by
 have q:=gW sc.names n [] (.inl h);exact cV.mp q
def Q9{CX:CXT}{P:bq}{w:bK}{K:ak}{mg:bn->Option au}{base:bX}{N ps:List bn}{qual:bn}{scope:dQ}{f:aC}{cd:au}{A:bQ}{outer:List Env}{s s1:ax}{H:Hp}{E:XK}{us:List au}{vs:List V}
  (S:FnScope N ps scope)(hd:A.handled=af)(e0:Env0 P w K mg base A outer s H)(hl:vs.length=ps.length)(r:Vals vs us)
  (x:InCallC s s.heap.objs.size (rM (dG qual scope s.heap.objs.size f cd).kindOf (ps.zip us) λ_=>af) (iu (s.heap.objs.size+1) scope.names []) (rO (dG qual scope s.heap.objs.size f cd).kindOf (ps.zip us) λ_=>af) s1) :
  Inv (XG CX P w K mg base N qual scope f cd A outer s H E) [] (start N vs) H s1:=by
 have hpl:ps.length<=N.length:=by have:=congrArg iJ S.pre;rw[bz]at this;lia
 obtain⟨h1,tk,rfl,hk⟩:=x.done;have noA:∀b:aC,b∉(XG CX P w K mg base N qual scope f cd A outer s H E).ex:=λb z=>T7 (show b∈([]:List aC)from z) (by simp)
 refine⟨⟨e0.mod,S.kind,rfl,rfl,aI _,λy z c h1 h2=>?_,λy hy=>?_,λy c _ h=>?_,λ_=>hd,mC e0.frames,.inr ⟨rfl,rfl⟩,λb z=>T7 z (noA b),e0.bs,e0.bsz,λb _ _=>noA b,λb z=>T7 z (noA b),e0.funs,e0.frf⟩,
  rfl,e0.bare,Un.kept hk,⟨_,x.toInCall.ns,λi y v h1 h2 h3=>?_⟩,λy c h=>⟨_,x.cell y c h⟩,e0.hok.fresh (aI _),λy c h=>?_,λp hp=>T7 (show p∈([]:List (aC×eG))from hp) (by simp),e0.hok.kept hk,?_⟩
 ·exact name_of_addr x.apart (dD h1) (dD h2)
 ·have hy:=hy
  rcases hy with hy|hy
  ·exact Qh hy
  ·exact T7 rfl (S.nofree _ (dD hy))
 ·exact kg (x.above y c (dD h))
 ·have hi:i<vs.length:=by
   unfold start at h2;by_cases hi:i<vs.length
   ·exact hi
   ·rw[bI (by simpa using hi)]at h2
    rw[cx]at h2;split at h2<;>cases h2
  have ha:vs[i]?=aa v:=by
   unfold start at h2;rw[cf (by simpa using hi),aR]at h2
   cases e:vs[i]? with|none=>rw[e]at h2;cases h2|some a=>rw[e]at h2;cases h2;rfl
  obtain⟨u,hu,rv⟩:=r.get ha;have hp:ps[i]?=aa y:=by
   rw[<-S.pre,List.getElem?_take_of_lt (by lia)];exact h1
  have ndP:ps.Nodup:=by rw[<-S.pre];exact S.nd.sublist (nS _ _)
  refine⟨u,rv,?_⟩;rcases S.par y (cN hp)with k|k
  ·exact .inl ⟨k,QK ndP hp hu k⟩
  ·obtain⟨c,e⟩:=Qh k
   refine .inr ⟨.inl k,c,e,?_⟩;have q:=x.cell y c e;rw[QJ ndP hp hu (by show scope.names.lookup y≠_;rw[k];decide)]at q
   exact q
 ·exact e0.hok.fresh (kg (x.above y c (dD h)))
 ·unfold start
  show _=N.length;rw[bp,aB,cW];lia
def Zcm{CX:CXT}{P:bq}{w:bK}{K:ak}{mg:bn->Option au}{base:bX}{k:Nat}{f:aC}{name qual:bn}{params:oG}{body:List eF}{scope:dQ}{dV kV doc pm cdv ct oc:au}{an od:Option aC}
  {osl:Array (Option au)}{N ps:List bn}{sp:Sp}(lk:K.lookup f=aa ⟨oc,od,.func (d6 name qual params body scope dV kV doc pm an cdv ct),osl⟩)(hcd:ko K cdv qual=aj)(S:FnScope N ps scope)
  (len:∀vs H Q E,sp vs H Q E->vs.length=ps.length)
  (hbody:∀(A:bQ)(outer:List Env)(s:ax)(H:Hp)(vs:List V)(Q:VK)(E:XK),Room k (A.deeper (dG qual scope s.heap.objs.size f cdv))->sp vs H Q E->
   ∃t,PSs (XG CX P w K mg base N qual scope f cdv A outer s H E) body t/\t {nx:=λ_ H'=>Q .non H',rt:=Q} (start N vs) H) :
  FnOk P w K mg base CX (k+1) f (d6 name qual params body scope dV kV doc pm an cdv ct) ps sp:=by
 refine⟨len,λA outer s H args us vs Q E hr e0 hb r hsp=>?_⟩
 have hl:=len _ _ _ _ hsp;have KX:=e0.mod.kin.keeps λb o e=>(e0.bs b o e).1
 have lim:=e0.mod.nolimit.keeps λb o e=>(e0.bs b o e).1
 have hkind:∀y∈ps.zip us,scope.names.lookup y.1=aa .local\/(scope.names.lookup y.1=aa .cell/\((iu (s.heap.objs.size+1) scope.names []).lookup y.1).isSome=aj):=λ⟨n,v⟩ hy=>by
  rcases S.par n (fE hy).1 with q|q
  ·exact .inl q
  ·exact .inr ⟨q,gW _ _ _ (.inl q)⟩
 refine me hr.depth (KX _ _ lk) rfl S.co S.gen rfl (nD KX hcd) (hb _ _ _ _ ?_);refine kq S.kind hkind λenv he s1 x=>?_
 subst he;refine⟨lim.keeps x.toInCall.keep,codeAny_func ?_⟩;obtain⟨t,ht,hq⟩:=hbody A outer s H vs Q E (hr.deeper _) hsp;have I:Inv (XG CX P w K mg base N qual scope f cdv A outer s H E) [] (start N vs) H s1:=Q9 S hr.hd e0 hl r x;refine cJ (ht [] s1 (start N vs) H _ I hq) (λfl s' hs=>?_) λe s' hs=>hs
 have fin:∀{σ':St}{H':Hp}{v:V}{u:au},Inv (XG CX P w K mg base N qual scope f cdv A outer s H E) [] σ' H' s'->Zu v u->Q v H'->CE outer P w H s Q u s':=
  λ{σ' H' v u} J rv q=>⟨v,H',J.os,J.bare,J.base,J.hok,rv,q⟩
 cases fl with
 |ret u=>
  obtain⟨v,σ',H',J,rv,q⟩:=hs;exact fin J rv q
 |next=>
  obtain⟨σ',H',J,q⟩:=hs;exact fin (v:=V.non) J rfl q
 |brk=>
  obtain⟨_,_,_,q⟩:=hs;exact False.elim q
 |cont=>
  obtain⟨_,_,_,q⟩:=hs;exact False.elim q
section
variable{X:Cx}{x:bn}{p pos:eY}{e:Expr}{es:List Expr}{t:TA}{id T:String}{r:List V->Hp->VK->Prop}
def tCB(r:List V->Hp->VK->Prop)(t:TA):TE:=λσ H Q=>t σ H λvs H1=>r vs H1 Q
def Xi(hc:Zz X (.builtin id) r)(hg:Gl X x)(hm:X.mg x=af)(hv:dy x=aa (.builtin id))(ha:PA X (e::es) t)(hn:x≠"__name__":=by decide)(hdb:(x == ("__debug__" : bn))=al:=by decide)
  (he:aE (e::es) X.env=(al,cR e X.env)::aE es X.env:=by rfl)(hpl:(dU pos (aE es X.env)).any (·.1)=al:=by rfl):PE X (.Call (.Name x p) (e::es) [] pos) (tCB r t):=by
 intro pq s σ H Q I h;refine fu (Vk I hg hm hv ?_ hn hdb);exact PyProof.Rows.callWith_builtin1 (thn (ha pos pq s σ H _ I h) λus s1 ⟨vs,H1,I1,r1,q1⟩=>hc pq s1 σ H1 vs us Q I1 r1 q1) he hpl
def QC(hc:Zz X (.type T) r)(hg:Gl X x)(hm:X.mg x=af)(hv:dy x=aa (.type T))(ha:PA X (e::es) t)(hn:x≠"__name__":=by decide)(hdb:(x == ("__debug__" : bn))=al:=by decide)
  (he:aE (e::es) X.env=(al,cR e X.env)::aE es X.env:=by rfl)(hpl:(dU pos (aE es X.env)).any (·.1)=al:=by rfl):PE X (.Call (.Name x p) (e::es) [] pos) (tCB r t):=by
 intro pq s σ H Q I h;refine fu (Vk I hg hm hv ?_ hn hdb);exact d5 (thn (ha pos pq s σ H _ I h) λus s1 ⟨vs,H1,I1,r1,q1⟩=>hc pq s1 σ H1 vs us Q I1 r1 q1) he hpl
end
end L2
namespace HT
open PySem PyProof.Rows
section
variable{prog:bq}{w:bK}{A:bQ}{E:au->ax->Prop}{s:ax}
def Zca{Q:au->ax->Prop}(ht:nK s.heap t vs.toArray)(hb:nK s.heap b ws.toArray)(hv:vs≠[])
  (h1:ws=[]->Q (.ref t) s)(h2:ws≠[]->Q (.ref s.heap.objs.size) {s with heap:=s.heap.push {cls:=.type "tuple",data:=.seq (vs++ws).toArray}})
  (hsz:vs.length+ws.length<=bi):bc (aS prog w) A (eO .Add (.ref t) (.ref b)) Q E s:=by
 obtain⟨⟨cls,dd,data,sl⟩,ho,hc,n,hd⟩:=id ht;obtain⟨⟨cls2,dd2,data2,sl2⟩,ho2,hc2,n2,hd2⟩:=id hb;simp only at hc hd hc2 hd2;subst hc hd hc2 hd2;have e:vs.toArray++ws.toArray=(vs++ws).toArray:=by simp
 by_cases hw:ws=[]
 ·exact nU ⟨_,ho,rfl⟩ ⟨_,ho2,rfl⟩ lw m5 gX gS (gC _ _)
   (tuple_addW1 t b vs.toArray ws.toArray n n2 dd dd2 sl sl2 (by simpa using hv) (by simp[hw])) ⟨ho,ho2,h1 hw⟩
 ·refine nU ⟨_,ho,rfl⟩ ⟨_,ho2,rfl⟩ lw m5 gX gS (gC _ _)
   (tuple_addW2 t b vs.toArray ws.toArray n n2 dd dd2 sl sl2 (by simpa using hv) (by simpa using hw) (by rw[ay,ay];exact hsz)) ⟨ho,ho2,?_⟩
  rw[e];exact h2 hw
noncomputable def sIx(n d:Nat):Option Int->Nat
 |none=>d
 |some v=>if v<0 then(v+(n:Int)).toNat else rn v.toNat n
theorem Zdc(n d:Nat)(hd:d<=n)(o:Option Int):sIx n d o<=n:=by
 cases o with
 |none=>exact hd
 |some v=>
  show(if v<0 then(v+(n:Int)).toNat else rn v.toNat n)<=n
  by_cases hv:v<0
  ·rw[T9 hv];lia
  ·rw[T8 hv];exact Nat.min_le_right _ _
theorem wF(v:Int)(n d:Nat):(if v<0 then max (v+(n:Int)) 0 else rn v (n:Int))=((sIx n d (aa v):Nat):Int):=by
 show(if v<0 then max (v+(n:Int)) 0 else rn v (n:Int))=(((if v<0 then(v+(n:Int)).toNat else rn v.toNat n):Nat):Int)
 by_cases hv:v<0
 ·simp only[T9 hv];lia
 ·simp only[T8 hv];lia
theorem yp(lo hi:Option Int)(n:Nat):gq lo hi 1 (n:Int)=(((sIx n 0 lo:Nat):Int),((sIx n n hi:Nat):Int)):=by
 have h1:¬((1:Int)<0):=by lia
 unfold gq;simp only[h1,if_false];refine Prod.ext ?_ ?_
 ·cases lo with|none=>rfl|some v=>exact wF v n 0
 ·cases hi with|none=>rfl|some v=>exact wF v n n
theorem yX(i j:Nat):cP (i:Int) (j:Int) 1=j-i:=by
 unfold cP;have h1:(1:Int)>0:=by lia
 simp only[h1,if_true,Int.ediv_one];split<;>lia
def Wg{Q:Option Int->ax->Prop}(p:kr v o)(h:Q o s):bc (aS prog w) A (eD.Slice.slicePartIndex v) Q E s:=by
 cases p with|none=>exact ku h|int i t=>exact slicePart_int h
def Xj{sl:aC}{vl vu:au}{lo hi:Option Int}{n:Nat}{Q:Int×Int×Nat->ax->Prop}(hs:s.heap.IsSliceOf sl vl vu .none)(pl:kr vl lo)(pu:kr vu hi)
  (h:Q (((sIx n 0 lo:Nat):Int),1,sIx n n hi-sIx n 0 lo) s):bc (aS prog w) A (kw (.ref sl) (cC (n:Int))) Q E s:=by
 obtain⟨os,hos,hcs,hds⟩:=id hs;refine ae (ae (cO hos hds rfl (ae (cO hos hds rfl (ae (cO hos hds rfl (aA ?_)))))));refine ae (ku ?_);show bc _ _ (if((1:Int) == 0)=aj then _ else _) _ _ s
 rw[T8 (by decide)]
 refine ae (Wg pl (ae (Wg pu (ae (aA ?_)))));show bc _ _ (match gq lo hi 1 (n:Int)with|(lo,hi)=>cC (lo,(1:Int),cP lo hi 1)) _ _ s
 rw[yp lo hi n];show bc _ _ (cC (((sIx n 0 lo:Nat):Int),(1:Int),cP ((sIx n 0 lo:Nat):Int) ((sIx n n hi:Nat):Int) 1)) _ _ s;rw[yX];exact aA h
theorem jQ(xs:Array au)(i k:Nat):((aY k).filterMap λ(m:Nat)=>xs[((i:Int)+(m:Int)*1).toNat]?).toArray=((xs.toList.drop i).take k).toArray:=by
 have e:(λ(m:Nat)=>xs[((i:Int)+(m:Int)*1).toNat]?)=λm=>xs[i+m]?:=by
  funext m
  have:((i:Int)+(m:Int)*1).toNat=i+m:=by lia
  rw[this]
 rw[e];have:=pick_run xs i k;rw[nE]at this;have e2:((λx=>xs[x]?)∘λx=>i+x)=λm=>xs[i+m]?:=rfl
 rw[e2]at this;rw[this]
theorem Vc{t sl:aC}{items:Array au}{vl vu:au}{lo hi:Option Int}{Q:au->ax->Prop}(ht:nK s.heap t items)(hs:s.heap.IsSliceOf sl vl vu .none)(pl:kr vl lo)(pu:kr vu hi)
  (hw:¬(sIx items.size 0 lo=0/\sIx items.size items.size hi=items.size))
  (h:Q (.ref s.heap.objs.size) {s with heap:=s.heap.push {cls:=.type "tuple",data:=.seq ((items.toList.drop (sIx items.size 0 lo)).take (sIx items.size items.size hi-sIx items.size 0 lo)).toArray}})
  (hsz:items.size<=bi):bc (aS prog w) A (kT (.ref t) (.ref sl)) Q E s:=by
 have htake:sizeOk (.seq ((items.toList.drop (sIx items.size 0 lo)).take (sIx items.size items.size hi-sIx items.size 0 lo)).toArray):=by
  show((items.toList.drop (sIx items.size 0 lo)).take (sIx items.size items.size hi-sIx items.size 0 lo)).toArray.size<=bi;rw[ay,bz,bB,aN];lia
 have hj:sIx items.size items.size hi<=items.size:=Zdc _ _ (aI _) hi;obtain⟨os,hos,hcs,hds⟩:=id hs;have hTs:s.TypeIs (.ref sl) "slice":=⟨os,hos,hcs⟩;unfold kT
 try with_reducible refine cz ?_
 first|refine ae (aA ?_)|skip
 refine ae (kU ht.typeIs (by decide) ?_)
 refine ae (cL ht.typeIs cF
  (da cF ht.typeIs i8 ?_ (kx _ _)))
 show bc _ _ (fX (.ref t) >>= _) _ _ s;refine ae (m7 ht ?_);refine ae (fv hTs ?_);rw[T9 (by decide)]
 refine ae (Xj hs pl pu ?_);have hno:¬((((sIx items.size 0 lo:Nat):Int) == 0&&(1:Int) == 1&&(sIx items.size items.size hi-sIx items.size 0 lo) == items.size)=aj):=by
  intro q;rw[aD,aD]at q;have q1:=lx q.1.1;have q2:=lx q.2;exact hw ⟨by lia,by lia⟩
 show bc _ _ (if(((sIx items.size 0 lo:Nat):Int) == 0&&(1:Int) == 1&&(sIx items.size items.size hi-sIx items.size 0 lo) == items.size)=aj then _ else _) _ _ s
 rw[T8 hno,jQ]
 first
  |exact ae (bL (aA ⟨_,rfl,aA h⟩) htake)
  |exact ae (bL (ae (aA (aA ⟨_,rfl,aA h⟩))) htake)
  |exact ae (ae (bL (aA (aA ⟨_,rfl,aA h⟩)) htake))
  |exact ae (ae (m:=eD.Tuple.tupleExact _) (bL (aA ⟨_,rfl,aA h⟩) htake))
end
end HT
namespace L2
open PySem PySem.Spec PyProof.Rows
abbrev TO:=St->Hp->(Option Int->Hp->Prop)->Prop
def PO(X:Cx)(e:Option Expr)(t:TO):Prop:=
 ∀(pq:List (aC×eG))(s:ax)(σ:St)(H:Hp)(Q:Option Int->Hp->Prop),Inv X pq σ H s->t σ H Q->
  bc (aS X.prog X.w) X.A (evalPart e X.env) (λu s'=>∃o H',Inv X pq σ H' s'/\kr u o/\Q o H') X.xe s
def ZbC:TO:=λ_ H Q=>Q af H
def ZeO(t:TE):TO:=λσ H Q=>t σ H λx H1=>∃i,x=.int i/\Q (aa i) H1
section
variable{X:Cx}{e:Expr}{te:TE}{lo hi:Option Expr}{tl th:TO}{pos p2:eY}
def ZbU:PO X af ZbC:=by
 intro pq s σ H Q I h;rw[m8];exact aA ⟨af,H,I,.none,h⟩
def Yc(h:PE X e te):PO X (aa e) (ZeO te):=by
 intro pq s σ H Q I hw;rw[evalPart_some];refine thn (h pq s σ H _ I hw) λu s1 ⟨x,H1,I1,r1,q1⟩=>?_
 obtain⟨i,rfl,q⟩:=q1;obtain⟨t,rfl⟩:=r1;exact⟨aa i,H1,I1,.int i t,q⟩
def SlR(X:Cx)(r:V->Option Int->Option Int->Hp->VK->Prop):Prop:=
 ∀(pq:List (aC×eG))(s:ax)(σ:St)(H:Hp)(x:V)(v vl vu:au)(lo hi:Option Int)(sl:aC)(Q:VK),Inv X pq σ H s->Zu x v->s.heap.IsSliceOf sl vl vu .none->kr vl lo->kr vu hi->r x lo hi H Q->
  ∃T id,ky (.type T) "__getitem__" = cC (aa (.builtin id))/\s.TypeIs v T/\bc (aS X.prog X.w) X.A (kT v (.ref sl)) (EP X pq σ Q) X.xe s
def SlR.or{r r':V->Option Int->Option Int->Hp->VK->Prop}(h:SlR X r)(h':SlR X r'):SlR X (λx lo hi H Q=>r x lo hi H Q\/r' x lo hi H Q):=by
 intro pq s σ H x v vl vu lo hi sl Q I rx hs pl pu q;rcases q with q|q
 ·exact h pq s σ H x v vl vu lo hi sl Q I rx hs pl pu q
 ·exact h' pq s σ H x v vl vu lo hi sl Q I rx hs pl pu q
def tSl(r:V->Option Int->Option Int->Hp->VK->Prop)(te:TE)(tl th:TO):TE:=λσ H Q=>te σ H λx H1=>tl σ H1 λl H2=>th σ H2 λu H3=>r x l u H3 Q
def j5{r:V->Option Int->Option Int->Hp->VK->Prop}(hr:SlR X r)(he:PE X e te)(hl:PO X lo tl)(hu:PO X hi th):PE X (.Subscript e (.Slice lo hi af p2) pos) (tSl r te tl th):=by
 intro pq s σ H Q I h;refine pL (thn (he pq s σ H _ I h) λv s1 ⟨x,H1,I1,r1,q1⟩=>?_)
 refine wpAny_Slice (thn (hl pq s1 σ H1 _ I1 q1) λvl s2 ⟨l,H2,I2,pl,q2⟩=>thn (hu pq s2 σ H2 _ I2 q2) λvu s3 ⟨u,H3,I3,pu,q3⟩=>?_)
 rw[m8];refine aA ?_;have I4:Inv X pq σ H3 {s3 with heap:=s3.heap.push {cls:=.type "slice",data:=.fields #[vl,vu,.none]}}:=I3.kept (t':=s3.toks) λb ob q=>aw _ q
 obtain⟨T,id,hT,ht,hg⟩:=hr pq {s3 with heap:=s3.heap.push {cls:=.type "slice",data:=.fields #[vl,vu,.none]}} σ H3 x v vl vu l u s3.heap.objs.size Q I4 r1 (nF ..) pl pu q3
 exact tail_any ht hT hg (by with_unfolding_all rfl)
noncomputable def Yr(xs:List V)(lo hi:Option Int):List V:=(xs.drop (HT.sIx xs.length 0 lo)).take (HT.sIx xs.length xs.length hi-HT.sIx xs.length 0 lo)
theorem VW(xs:List V)(lo hi:Option Int):(Yr xs lo hi).length<=xs.length:=by
 unfold Yr;rw[bz,bB];lia
def Zfp(K:ak):V->Option Int->Option Int->Hp->VK->Prop:=λx lo hi H Q=>∃a xs,x=.ref a/\SqT K H a xs/\
 ¬(HT.sIx xs.length 0 lo=0/\HT.sIx xs.length xs.length hi=xs.length)/\∀p,H p=af->Q (.ref p) (upd H p (.tup (Yr xs lo hi)))
def Zde:SlR X (Zfp X.K):=by
 intro pq s σ H x v vl vu lo hi sl Q I rx hs pl pu h;obtain⟨a,xs,rfl,hx,hw,q⟩:=h;cases rx;obtain⟨its,r,ht,hz⟩:=I.tuple hx;have hlen:its.toArray.size=xs.length:=by rw[ay];exact r.length.symm
 refine⟨"tuple",_,cF.lookup,ht.typeIs,?_⟩;refine HT.Vc ht hs pl pu (by rw[hlen];exact hw) ?_ (by rw[hlen];exact hz)
 rw[hlen];refine⟨.ref s.heap.objs.size,_,I.laid (t':=s.toks) (λb ob q=>aw _ q) (aI _) ?_,rfl,q _ (I.hok.fresh (aI _))⟩
 exact⟨bY (VW xs lo hi) hz,_,(r.drop (HT.sIx xs.length 0 lo)).take (HT.sIx xs.length xs.length hi-HT.sIx xs.length 0 lo),iq _ _⟩
def ZcI(K:ak):R2:=λx y H Q=>∃a b xs ys,x=.ref a/\y=.ref b/\SqT K H a xs/\SqT K H b ys/\xs≠[]/\xs.length+ys.length<=bi/\
 (ys=[]->Q (.ref a) H)/\(ys≠[]->∀p,H p=af->Q (.ref p) (upd H p (.tup (xs++ys))))
def Vals.nil_iff(r:Vals xs us):us=[]↔xs=[]:=by
 cases r with|nil=>simp|cons _ _=>simp
def Zbw:OpR X (eO .Add) (ZcI X.K):=by
 intro pq s σ H x y v u Q I rx ry h;obtain⟨a,b,xs,ys,rfl,rfl,ha,hb,hx,hz,q1,q2⟩:=h;cases rx;cases ry;obtain⟨its,r1,p1,_⟩:=I.tuple ha;obtain⟨its2,r2,p2,_⟩:=I.tuple hb;refine HT.Zca p1 p2 (λz=>hx (r1.nil_iff.mp z)) (λz=>⟨.ref a,H,I,rfl,q1 (r2.nil_iff.mp z)⟩) (λz=>?_) (by rw[<-r1.length,<-r2.length];exact hz)
 refine⟨.ref s.heap.objs.size,_,I.laid (t':=s.toks) (λb ob q=>aw _ q) (aI _) ?_,rfl,q2 (λw=>z (r2.nil_iff.mpr w)) _ (I.hok.fresh (aI _))⟩
 exact⟨by rw[bp];exact hz,_,r1.append r2,iq _ _⟩
end
noncomputable def ixN(n:Nat)(i:Int):Option Nat:=if 0<=i then(if i<n then aa i.toNat else af)else if -(n:Int)<=i then aa (i+n).toNat else af
noncomputable def atI{α:Type}(xs:List α)(i:Int):Option α:=(ixN xs.length i).bind λj=>xs[j]?
def wb(h:ixN n i=aa j):seqIndex? i n=aa j/\j<n/\-(n:Int)<=i/\i<n:=by
 unfold ixN at h;by_cases h0:0<=i
 ·rw[T9 h0]at h
  by_cases h1:i<n
  ·rw[T9 h1]at h
   have e:=am h;exact⟨by rw[o6 h0 h1,e],by lia,by lia,h1⟩
  ·rw[T8 h1]at h;cases h
 ·rw[T8 h0]at h
  by_cases h1:-(n:Int)<=i
  ·rw[T9 h1]at h
   have e:=am h;exact⟨by rw[nV (by lia) h1,e],by lia,h1,by lia⟩
  ·rw[T8 h1]at h;cases h
def vi{α:Type}{xs:List α}{i:Int}{v:α}(h:atI xs i=aa v):∃j,seqIndex? i xs.length=aa j/\xs[j]?=aa v/\j<xs.length/\-(xs.length:Int)<=i/\i<xs.length:=by
 unfold atI at h;cases e:ixN xs.length i with
 |none=>rw[e]at h;cases h
 |some j=>
  rw[e]at h;obtain⟨h1,h2,h3,h4⟩:=wb e;exact⟨j,h1,h,h2,h3,h4⟩
def wD(b:Expr):Prop:=∀o i,subscripted b al o i=operate [o,i] (kT o i)
def IxR(X:Cx)(r:R2):Prop:=
 ∀(value slice:Expr)(pq:List (aC×eG))(s:ax)(σ:St)(H:Hp)(x y:V)(v u:au)(Q:VK),Inv X pq σ H s->Zu x v->Zu y u->r x y H Q->
  subscripted slice al v u=operate [v,u] (kT v u)->bc (aS X.prog X.w) X.A (subscriptTail value slice v u) (EP X pq σ Q) X.xe s
def MtR(X:Cx)(id:String)(r:V->List V->Hp->VK->Prop):Prop:=
 ∀(pq:List (aC×eG))(s:ax)(σ:St)(H:Hp)(x:V)(xs:List V)(v:au)(us:List au)(Q:VK),Inv X pq σ H s->Zu x v->Vals xs us->r x xs H Q->
  bc (aS X.prog X.w) X.A (call (.builtin id) (v::us)) (EP X pq σ Q) X.xe s
section
variable{X:Cx}{a b:Expr}{ta tb:TE}{pos:eY}
def IxR.or(h:IxR X r)(h':IxR X r'):IxR X (λx y H Q=>r x y H Q\/r' x y H Q):=by
 intro value slice pq s σ H x y v u Q I rx ry q hs;rcases q with q|q
 ·exact h value slice pq s σ H x y v u Q I rx ry q hs
 ·exact h' value slice pq s σ H x y v u Q I rx ry q hs
def vn(hr:IxR X r)(ha:PE X a ta)(hb:PE X b tb)(hs:wD b):PE X (.Subscript a b pos) (tOp r ta tb):=by
 intro pq s σ H Q I h;exact pL (Zc2 ha hb I h λv u s2 x y H2 I2 rx ry q=>hr a b pq s2 σ H2 x y v u Q I2 rx ry q (hs _ _))
def Ze3(K:ak):R2:=λx y H Q=>∃p xs i v,x=.ref p/\y=.int i/\SqL K H p xs/\atI xs i=aa v/\Q v H
def Zfv(K:ak):R2:=λx y H Q=>∃p xs i v,x=.ref p/\y=.int i/\SqT K H p xs/\atI xs i=aa v/\Q v H
theorem Ue:IxR X (Ze3 X.K):=by
 intro value slice pq s σ H x y v u Q I rx ry h hs;obtain⟨p,xs,i,z,rfl,rfl,hq,he,q⟩:=h;cases rx;obtain⟨t,rfl⟩:=ry;obtain⟨its,r,pl,hz⟩:=I.list hq;obtain⟨j,h1,h2,h3,h4,h5⟩:=vi he;obtain⟨w,ew,rw'⟩:=r.get h2;have hl:=r.length;have hn:=Qg;have fin:EP X pq σ Q w s:=⟨z,H,I,rw',q⟩;by_cases h0:0<=i
 ·have hj:i.toNat=j:=by
   rw[o6 h0 h5]at h1;exact am h1
  exact item_listR pl.isList h0 (by lia) (by rw[hj];simpa using ew) fin hs
 ·have hj:(i+(its.toArray.size:Int)).toNat=j:=by
   rw[nV (by lia) h4]at h1
   rw[ay,<-hl];exact am h1
  exact lN pl.isList.typeIs slot_list_getitem.lookup
   (wpAny_getItem_list_neg pl.isList (by lia) (by rw[ay]<;>lia) (by lia) (by rw[hj];simpa using ew) ⟨rfl,fin⟩) hs
theorem ZdE:IxR X (Zfv X.K):=by
 intro value slice pq s σ H x y v u Q I rx ry h hs;obtain⟨p,xs,i,z,rfl,rfl,hq,he,q⟩:=h;cases rx;obtain⟨t,rfl⟩:=ry;obtain⟨its,r,pl,hz⟩:=I.tuple hq;obtain⟨j,h1,h2,h3,h4,h5⟩:=vi he;obtain⟨w,ew,rw'⟩:=r.get h2;have hl:=r.length;have hn:=Qg;have fin:EP X pq σ Q w s:=⟨z,H,I,rw',q⟩;exact lN pl.typeIs slot_tuple_getitem.lookup
  (getItem_tuple pl (by lia) (by lia) (by rw[ay,<-hl];exact h1) (by simpa using ew) ⟨rfl,fin⟩) hs
def xE(its:List au)(n j:Nat)(u:au):eT (·.setIfInBounds j u) {cls:=.type "list",data:=.seq its.toArray n}={cls:=.type "list",data:=.seq (its.set j u).toArray n}:=by
 simp[eT]
theorem Inv.lst{pq:List (aC×eG)}{σ:St}{H:Hp}{s:ax}{p:aC}{xs:List V}(I:Inv X pq σ H s)(h:H p=aa (.lst xs)) :
  ∃(its:List au)(n:Nat),Vals xs its/\s.heap.get? p=aa {cls:=.type "list",data:=.seq its.toArray n}/\xs.length<=bi:=by
 obtain⟨z,its,n,r,e⟩:=I.hok p _ h;exact⟨its,n,r,e,z⟩
def Inv.lstUpd{pq:List (aC×eG)}{σ:St}{H:Hp}{s:ax}{p:aC}{xs ys:List V}{its its':List au}{n n':Nat}{f:eG->eG}(I:Inv X pq σ H s)(h:H p=aa (.lst xs))
  (ho:s.heap.get? p=aa {cls:=.type "list",data:=.seq its.toArray n})(hf:f {cls:=.type "list",data:=.seq its.toArray n}={cls:=.type "list",data:=.seq its'.toArray n' })(r:Vals ys its')(hz:ys.length<=bi)(t:Nat) :
  Inv X pq σ (upd H p (.lst ys)) {s with heap:=s.heap.update p f,toks:=t}:=by
 have e:(s.heap.update p f).get? p=aa {cls:=.type "list",data:=.seq its'.toArray n' }:=by
  rw[fJ f ho (by rw[hf]<;>rfl),hf]
 refine I.write (by rw[h];trivial) (.inl rfl) (λb u hb q=>(lO _ _ (Ne.symm hb)).trans q) ⟨_,e⟩ ?_
 exact⟨hz,its',n',r,e⟩
def Zej:V->V->V->Hp->(Hp->Prop)->Prop:=λo i v H Q=>∃p xs k j,o=.ref p/\i=.int k/\H p=aa (.lst xs)/\ixN xs.length k=aa j/\Q (upd H p (.lst (xs.set j v)))
theorem uW:PSet X Zej:=by
 intro pq s σ H o i v ov iv u Q I ro ri rv h;obtain⟨p,xs,k,j,rfl,rfl,hp,hj,q⟩:=h;cases ro;obtain⟨t,rfl⟩:=ri;obtain⟨its,n,r,ho,hz⟩:=I.lst hp;obtain⟨h1,h2,h3,h4⟩:=wb hj;have hl:=r.length;have hn:=Qg;have I':=
  I.lstUpd hp ho (xE its n j u) (r.set rv j) (by rw[bC];exact hz) s.toks
 by_cases h0:0<=k
 ·have hk:k.toNat=j:=by
   rw[o6 h0 h4]at h1;exact am h1
  exact PySem.W.ki_setAt ho h0 (by lia) (by rw[ay,<-hl];exact h4) (by rw[hk];exact⟨_,I',q⟩)
 ·have hk:(k+(its.toArray.size:Int)).toNat=j:=by
   rw[nV (by lia) h3]at h1
   rw[ay,<-hl];exact am h1
  exact PySem.W.ki_setBack ho (by lia) (by rw[ay,<-hl];exact h3) (by lia) (by rw[hk];exact⟨_,I',q⟩)
theorem Jp(lo hi:Option Int)(n:Nat):(gT lo hi af n).1=((HT.sIx n 0 lo:Nat):Int)/\(gT lo hi af n).2.1=((HT.sIx n n hi:Nat):Int)/\(gT lo hi af n).2.2=1:=by
 refine⟨?_,?_,rfl⟩
 ·cases lo with
  |none=>simp[gT,HT.sIx]
  |some i=>
   simp only[gT,HT.sIx,oH,show(1:Int)>0 by decide,if_true]
   by_cases h:i<0
   ·simp only[h,if_true]<;>lia
   ·simp only[h,if_false]<;>lia
 ·cases hi with
  |none=>simp[gT,HT.sIx]
  |some i=>
   simp only[gT,HT.sIx,oH,show(1:Int)>0 by decide,if_true]
   by_cases h:i<0
   ·simp only[h,if_true]<;>lia
   ·simp only[h,if_false]<;>lia
def Ql(its:List au)(lo hi:Option Int):slicePick its.toArray lo hi af=((its.drop (HT.sIx its.length 0 lo)).take (HT.sIx its.length its.length hi-HT.sIx its.length 0 lo)).toArray:=by
 obtain⟨h1,h2,h3⟩:=Jp lo hi its.toArray.size;unfold slicePick;rw[h1,h2,h3];simp only[sliceRange_one,pick_run,ay]<;>rfl
def Zfa(K:ak):V->Option Int->Option Int->Hp->VK->Prop:=λx lo hi H Q=>∃a xs,x=.ref a/\SqL K H a xs/\∀p,H p=af->Q (.ref p) (upd H p (.lst (Yr xs lo hi)))
theorem Za3:SlR X (Zfa X.K):=by
 intro pq s σ H x v vl vu lo hi sl Q I rx hs pl pu h;obtain⟨a,xs,rfl,hx,q⟩:=h;cases rx;obtain⟨its,r,ht,hz⟩:=I.list hx;have hlen:=r.length;refine⟨"list",_,slot_list_getitem.lookup,ht.isList.typeIs,?_⟩;refine wpAny_getItem_list_slice ht.isList hs pl pu .none (by simp) ?_ (by rw[ay]<;>lia)
 rw[Ql,<-hlen];refine⟨.ref s.heap.objs.size,_,I.laid (t':=s.toks) (λb ob q=>aw _ q) (aI _) ?_,rfl,q _ (I.hok.fresh (aI _))⟩
 exact⟨bY (VW xs lo hi) hz,_,0,(r.drop (HT.sIx xs.length 0 lo)).take (HT.sIx xs.length xs.length hi-HT.sIx xs.length 0 lo),aO _ rfl⟩
noncomputable def vg:V->Bool
 |.non=>aj
 |.bl _=>aj
 |.int _=>aj
 |.str _=>aj
 |_=>al
noncomputable def eqV:V->V->Bool
 |.non,.non=>aj
 |.bl a,.bl b=>a == b
 |.bl a,.int b=>(if a then 1 else 0) == b
 |.int a,.bl b=>a == (if b then 1 else 0)
 |.int a,.int b=>a == b
 |.str a,.str b=>a == b
 |_,_=>al
def ZcX{A:bQ}{s:ax}{y x:V}{u v:au}(ry:Zu y u)(rx:Zu x v)(fy:vg y=aj)(fx:vg x=aj):iz A s u v (eqV y x):=by
 cases y with
 |non=>
  cases ry;cases x with|non=>cases rx;exact iR _|bl b=>cases rx;exact iz.none_bool b|int b=>obtain⟨t,rfl⟩:=rx;exact iz.none_int b t|str b=>obtain⟨t,rfl⟩:=rx;exact iz.none_str b t|_=>exact T7 (fx) aM
 |bl a=>
  cases ry;cases x with|non=>cases rx;exact iz.bool_none a|bl b=>cases rx;exact iz.bool_bool a b|int b=>obtain⟨t,rfl⟩:=rx;exact iz.bool_int a b t|str b=>obtain⟨t,rfl⟩:=rx;exact iz.bool_str a b t|_=>exact T7 (fx) aM
 |int a=>
  obtain⟨t',rfl⟩:=ry;cases x with|non=>cases rx;exact iz.int_none a t'|bl b=>cases rx;exact iz.int_bool a t' b|int b=>obtain⟨t,rfl⟩:=rx;exact nG a t' b t|str b=>obtain⟨t,rfl⟩:=rx;exact nk a t' b t|_=>exact T7 (fx) aM
 |str a=>
  obtain⟨t',rfl⟩:=ry;cases x with|non=>cases rx;exact iz.str_none a t'|bl b=>cases rx;exact iz.str_bool a t' b|int b=>obtain⟨t,rfl⟩:=rx;exact nq a t' b t|str b=>obtain⟨t,rfl⟩:=rx;exact iz.str_str a t' b t|_=>exact T7 (fx) aM
 |_=>exact T7 (fy) aM
theorem Gh:Zz X (.builtin "len") (λxs H Q=>∃p ys,xs=[.ref p]/\(SqL X.K H p ys\/SqT X.K H p ys)/\Q (.int ys.length) H):=by
 intro pq s σ H xs us Q I r h;obtain⟨p,ys,rfl,hq,q⟩:=h;obtain⟨u,rfl,rx⟩:=XR r;cases rx;have hn:=Qg;rcases hq with hq|hq
 ·obtain⟨its,r',pl,hz⟩:=I.list hq
  have hlen:=r'.length;exact Calls.call_len_list pl.isList (by simp only[ay]<;>lia) ⟨.int ys.length,H,I.tok _,⟨s.toks+1,by rw[ay,hlen]⟩,q⟩
 ·obtain⟨its,r',pl,hz⟩:=I.tuple hq
  have hlen:=r'.length;exact len_tuple pl (by simp only[ay]<;>lia) ⟨.int ys.length,H,I.tok _,⟨s.toks+1,by rw[ay,hlen]⟩,q⟩
theorem JI:Zz X (.type "list") (λxs H Q=>∃p ys,xs=[.ref p]/\(SqL X.K H p ys\/SqT X.K H p ys)/\∀l,H l=af->Q (.ref l) (upd H l (.lst ys))):=by
 intro pq s σ H xs us Q I r h;obtain⟨p,ys,rfl,hq,q⟩:=h;obtain⟨u,rfl,rx⟩:=XR r;cases rx;have fin:∀(its:List au),Vals ys its->ys.length<=bi->∀(h':bX)(c':Nat),(∀b o',s.heap.get? b=aa o'->h'.get? b=aa o')->
   h'.get? s.heap.objs.size=aa {cls:=.type "list",dict:=af,data:=.seq its.toArray c',slots:=#[]}->EP X pq σ Q (.ref s.heap.objs.size) {s with heap:=h' }:=λits r' hz h' c' kp e=>
  ⟨.ref s.heap.objs.size,_,I.laid (t':=s.toks) kp (aI _) (show Z7 X.prog X.w _ h' _ (.lst ys)from⟨hz,its,c',r',e⟩),rfl,q _ (I.hok.fresh (aI _))⟩
 rcases hq with hq|hq
 ·obtain⟨its,r',pl,hz⟩:=I.list hq
  have hlen:=r'.length;obtain⟨o,ho,hc,n,hd⟩:=pl.isList;exact call_list_seq p (.inl rfl) ho hc hd (λh' c' kp e=>fin its r' hz h' c' kp e) (by simp only[ay]<;>lia)
 ·obtain⟨its,r',pl,hz⟩:=I.tuple hq
  have hlen:=r'.length;obtain⟨o,ho,hc,n,hd⟩:=pl;exact call_list_seq p (.inr rfl) ho hc hd (λh' c' kp e=>fin its r' hz h' c' kp e) (by simp only[ay]<;>lia)
theorem Qj:Zz X (.type "tuple") (λxs H Q=>∃p ys,xs=[.ref p]/\((SqL X.K H p ys/\∀l,H l=af->Q (.ref l) (upd H l (.tup ys)))\/(SqT X.K H p ys/\Q (.ref p) H))):=by
 intro pq s σ H xs us Q I r h;obtain⟨p,ys,rfl,h⟩:=h;obtain⟨u,rfl,rx⟩:=XR r;cases rx;rcases h with⟨hq,q⟩|⟨hq,q⟩
 ·obtain⟨its,r',pl,hz⟩:=I.list hq
  have hlen:=r'.length;refine call_tuple_list pl.isList (λh' kp=>?_) (by simp only[ay]<;>lia)
  have I1:=I.kept (t':=s.toks) kp
  have I2:=
   I1.laid (t':=s.toks) (λb o e=>aw _ e) (aI _) (show Z7 X.prog X.w _ _ _ (.tup ys)from⟨hz,its,r',iq _ _⟩)
  exact⟨.ref h'.objs.size,_,I2,rfl,q _ (I1.hok.fresh (aI _))⟩
 ·obtain⟨its,r',pl,hz⟩:=I.tuple hq
  exact call_tuple_same pl ⟨.ref p,H,I,rfl,q⟩
def tyV(K:ak)(T:String)(x:V)(H:Hp):Prop:=match x with
 |.str _=>T = "str"
 |.int _=>T = "int"
 |.ref p=>(T = "list"/\∃xs,SqL K H p xs)\/(T = "tuple"/\∃o,K.lookup p=aa o/\o.cls=.type "tuple"/\o.dict=af)\/
   (T = "dict"/\((∃kvs,H p=aa (.dK kvs))\/∃kvs,H p=aa (.dT kvs)))\/(T = "set"/\∃S n,H p=aa (.set S n))
 |_=>False
def Zdz(I:Inv X pq σ H s)(r:Zu x v)(ty:tyV X.K T x H) :
  s.TypeIs v T/\∀a,v=.ref a->∃ob,s.heap.get? a=aa ob/\ob.dict=af:=by
 cases x with
 |str z=>
  obtain⟨t,rfl⟩:=r;cases(ty)
  exact⟨typeIs_str s z t,λ_ e=>nomatch e⟩
 |int i=>
  obtain⟨t,rfl⟩:=r;cases(ty)
  exact⟨lP s i t,λ_ e=>nomatch e⟩
 |ref p=>
  cases r;rcases ty with⟨rfl,xs,hq⟩|⟨rfl,o,hk,hc,hd⟩|⟨rfl,hk⟩|⟨rfl,S,n,hk⟩
  ·obtain⟨its,_,pl,_⟩:=I.list hq
   refine⟨pl.isList.typeIs,λa e=>?_⟩
   cases e;obtain⟨o,n,e,c,hd,_⟩:=pl;exact⟨o,e,hd⟩
  ·refine⟨⟨o,I.kIn p o hk,hc⟩,λa e=>?_⟩
   cases e;exact⟨o,I.kIn _ o hk,hd⟩
  ·have z:∃o,s.heap.get? p=aa o/\o.ExactDict:=by
    rcases hk with⟨kvs,hk⟩|⟨kvs,hk⟩
    ·obtain⟨_,_,_,_,o,_,_,e,ex,_⟩:=I.hok p _ hk
     exact⟨o,e,ex⟩
    ·obtain⟨_,_,_,_,o,_,_,e,ex,_⟩:=I.hok p _ hk
     exact⟨o,e,ex⟩
   obtain⟨o,e,ex⟩:=z;refine⟨⟨o,e,ex.1⟩,λa e2=>?_⟩
   cases e2;exact⟨o,e,ex.2.1⟩
  ·obtain⟨o,_,_,_,e,ex,_⟩:=I.hok p _ hk
   refine⟨⟨o,e,ex.1⟩,λa e2=>?_⟩
   cases e2;exact⟨o,e,ex.2.1⟩
 |_=>exact False.elim ty
def tBM(K:ak)(T:String)(r:V->List V->Hp->VK->Prop)(to:TE)(t:TA):TE:=λσ H Q=>to σ H λx H1=>tyV K T x H1/\t σ H1 λxs H2=>r x xs H2 Q
variable{o e:Expr}{es:List Expr}{to:TE}{t:TA}{name:bn}{apos cpos:eY}{T id:String}{r:V->List V->Hp->VK->Prop}
def wv(pa:PlainAttrs T)(slot:Slot T name id)(hty:typeOf (.builtin id)=cC (.type "method_descriptor"))(hm:MtR X id r)(ho:PE X o to)(ha:PA X (e::es) t)
  (hbase:attributeBase o name X.env (cR o X.env)=cR o X.env:=by rfl)
  (hfew:((dU cpos (aE (e::es) X.env)).all (λx=>!x.1)&&(backToKw cpos (keywordEach [] X.env)).all (λx=>x.1.isSome)
   && ag ((e::es).length+([]:List rQ).length+(if([]:List rQ).isEmpty then 0 else 1)<30))=aj:=by rfl)
  (hline:(apos.endLine == cpos.line)=aj:=by rfl)(hs:aE (e::es) X.env=(al,cR e X.env)::aE es X.env:=by rfl)(hplain:(dU cpos (aE es X.env)).any (·.1)=al:=by rfl) :
  PE X (.Call (.Attribute o name apos) (e::es) [] cpos) (tBM X.K T r to t):=by
 intro pq s σ H Q I h;refine wpAny_Call_method_late hbase hfew hline rfl (thn (ho pq s σ H _ I h) λv s1 ⟨x,H1,I1,r1,ty,q1⟩=>?_)
 obtain⟨h1,h2⟩:=Zdz I1 r1 ty;refine⟨T,id,pa,slot,hty,h1,h2,?_⟩;have hA:=ha cpos pq s1 σ H1 _ I1 q1;rw[hs]at hA ⊢;refine Calls.callWith_builtin (by show(al||(dU cpos (aE es X.env)).any (·.1))=al;rw[hplain]<;>rfl) (Calls.evalArgs_plain ?_)
 exact thn hA λus s2 ⟨vs,H2,I2,r2,q2⟩=>hm pq s2 σ H2 x vs v us Q I2 r1 r2 q2
end
def MtM(X:Cx)(id:String)(r:V->List V->Hp->VK->Prop):Prop:=
 ∀(pq:List (aC×eG))(s:ax)(σ:St)(H:Hp)(x:V)(xs:List V)(v:au)(us:List au)(Q:VK),Inv X pq σ H s->Zu x v->Vals xs us->r x xs H Q->
  bc (aS X.prog X.w) X.A (call (.builtin id) (v::us)) (EP X pq σ Q) X.xe s
def Vals.one:∀{x:V}{us:List au},Vals [x] us->∃u,us=[u]/\Zu x u
 |_,_,.cons r .nil=>⟨_,rfl,r⟩
theorem Vals.reverse(h:Vals xs us):Vals xs.reverse us.reverse:=by
 induction h with|nil=>exact .nil|cons r t ih=>rw[eQ,eQ];exact Vals.append ih (.cons r .nil)
theorem Vals.rep(h:Vals xs us):∀k:Nat,Vals (aH k xs).flatten (aH k us).flatten
 |0=>.nil
 |k+1=>by
  rw[bU,bU,cM,cM];exact Vals.append h (Vals.rep h k)
theorem Vj(its:List au):∀(k:Nat)(acc:List au),
  List.foldl (λx1 x2=>x1++x2) acc.toArray (aH k its.toArray)=(acc++(aH k its).flatten).toArray
 |0,acc=>by simp
 |k+1,acc=>by
  have e:acc.toArray++its.toArray=(acc++its).toArray:=by simp
  have e2:(acc++its)++(aH k its).flatten=acc++(aH (k+1) its).flatten:=by
   rw[bU,cM,bM]
  rw[<-e2,<-Vj its k (acc++its),<-e,bU,eL]
section
variable{X:Cx}{pq:List (aC×eG)}{σ:St}{H:Hp}{s:ax}{l b:aC}{xs ys zs:List V}
def Inv.lset{its its':List au}{n:Nat}{f:Array au->Array au}{t':Nat}(I:Inv X pq σ H s)(hH:H l=aa (.lst xs))
  (e:s.heap.get? l=aa {cls:=.type "list",data:=.seq its.toArray n})(hf:f its.toArray=its'.toArray)(hv:Vals ys its')(hz:ys.length<=bi) :
  Inv X pq σ (upd H l (.lst ys)) {s with heap:=s.heap.update l (eT f),toks:=t' }:=by
 have q:=PySem.IsL.update e f;rw[hf]at q;refine I.write (by rw[hH];exact trivial) (.inl rfl) (λb' u hb hu=>(lO s.heap (eT f) (Ne.symm hb)).trans hu) ⟨_,q⟩ ?_
 exact⟨hz,its',_,hv,q⟩
def Inv.lnew(I:Inv X pq σ H s)(hv:Vals ys its)(hz:ys.length<=bi) :
  Inv X pq σ (upd H s.heap.objs.size (.lst ys)) {s with heap:=s.heap.push {cls:=.type "list",data:=.seq its.toArray},toks:=t' }:=
 I.laid (λ_ _ q=>aw _ q) (aI _) ⟨hz,its,0,hv,aO _ rfl⟩
theorem Inv.fresh(I:Inv X pq σ H s):H s.heap.objs.size=af:=I.hok.fresh (aI _)
def Inv.lstM(I:Inv X pq σ H s)(hH:H l=aa (.lst xs)):xs.length<=bi/\∃(its:List au)(n:Nat),Vals xs its/\xs.length=its.length/\s.heap.get? l=aa {cls:=.type "list",data:=.seq its.toArray n}:=by
 obtain⟨z,its,n,r,e⟩:=I.hok l _ hH;exact⟨z,its,n,r,r.length,e⟩
theorem Zaw(h:n<=bi):gD n=al:=by
 exact T4 (by lia)
end
section
variable{X:Cx}
def xQ:V->List V->Hp->VK->Prop:=λx vs H Q=>∃l xs y,x=.ref l/\vs=[y]/\H l=aa (.lst xs)/\xs.length<bi/\Q .non (upd H l (.lst (xs++[y])))
theorem Jg:MtM X "list.append" xQ:=by
 intro pq s σ H x vs v us Q I rx rv h;obtain⟨l,xs,y,rfl,rfl,hH,hz,q⟩:=h;cases rx;obtain⟨u,rfl,ru⟩:=rv.one;obtain⟨z,its,n,r,hl,e⟩:=I.lstM hH;refine fY F.slot_list_append ⟨_,e,rfl⟩ F.entry_list_append (F.args_list_append_2 _ _) (PySem.list_append l its.toArray n u (by rw[ay];lia)) ⟨e,?_⟩
 refine⟨.non,_,I.lset (its':=its++[u]) hH e (by simp) (r.append (.cons ru .nil)) ?_,rfl,q⟩
 rw[bp,fK];lia
def Zby:V->List V->Hp->VK->Prop:=λx vs H Q=>∃l b xs zs,x=.ref l/\vs=[.ref b]/\H l=aa (.lst xs)/\H b=aa (.lst zs)/\xs.length+zs.length<=bi/\Q .non (upd H l (.lst (xs++zs)))
theorem vW:MtM X "list.extend" Zby:=by
 intro pq s σ H x vs v us Q I rx rv h;obtain⟨l,b,xs,zs,rfl,rfl,hH,hB,hz,q⟩:=h;cases rx;obtain⟨u,rfl,ru⟩:=rv.one;cases ru;obtain⟨z,its,n,r,hl,e⟩:=I.lstM hH;obtain⟨z2,its2,n2,r2,hl2,e2⟩:=I.lstM hB;have hsz:its.toArray.size+its2.toArray.size<=bi:=by rw[ay,ay];lia
 have hlong:¬(!its.toArray.isEmpty&&gD (its.toArray.size+its2.toArray.size))=aj:=by
  rw[Zaw hsz,Bool.and_false];exact aM
 refine fY F.slot_list_extend ⟨_,e,rfl⟩ F.entry_list_extend (F.args_list_extend_2 _ _)
  (AutoSeq1.list_extend_list_list_0 l its.toArray n b its2.toArray n2 hlong (by rw[ay];lia) (by lia)) ⟨e,e2,?_⟩
 refine⟨.non,_,I.lset (its':=its++its2) hH e (by simp) (r.append r2) ?_,rfl,q⟩
 rw[bp];lia
def ZbD:R2:=λx y H Q=>∃l b xs zs,x=.ref l/\y=.ref b/\H l=aa (.lst xs)/\H b=aa (.lst zs)/\xs.length+zs.length<=bi/\∀p,H p=af->Q (.ref p) (upd H p (.lst (xs++zs)))
theorem yJ:OpR X (eO .Add) ZbD:=by
 intro pq s σ H x y v u Q I rx ry h;obtain⟨l,b,xs,zs,rfl,rfl,hH,hB,hz,q⟩:=h;cases rx;cases ry;obtain⟨z,its,n,r,hl,e⟩:=I.lstM hH;obtain⟨z2,its2,n2,r2,hl2,e2⟩:=I.lstM hB;refine PySem.P.add_list e e2 ?_ (by rw[ay,ay];lia)
 have ea:its.toArray++its2.toArray=(its++its2).toArray:=by simp
 rw[ea];exact⟨.ref _,_,I.lnew (t':=s.toks) (r.append r2) (by rw[bp];lia),rfl,q _ I.fresh⟩
def JM{α:Type}(xs:List α)(k:Nat):(aH k xs).flatten.length=k*xs.length:=by
 induction k with|zero=>simp|succ k ih=>rw[bU,cM,bp,ih,Nat.succ_mul,ki]
end
end L2
namespace Att
open PySem PySem.W PySem.Calls PyProof.Rows
def VY :∀(ns:List Int)(vs:List au),WellAll P h vs (ns.map WData.int)->pE vs ns:=by
 intro ns
 induction ns with
 |nil=>
  intro vs w;rw[nY]at w;cases w;exact .nil
 |cons n ns ih=>
  intro vs w;rw[aW]at w;cases w with
  |cons a b=>
   cases a;exact .cons _ _ (ih _ b)
def vz{l:OpenLaw}{n:Nat}(hn:l.most=aa n){P:Params}{h:bX}{args:List WData}{vals:List au}
  (hpre:l.row.toRowW.claim.pre args=aj)(hwl:WellAll P h vals args) :
  ∃a vs ns,vals=[cU a]/\args=[WData.list (ns.map WData.int)]/\h.get? a=aa {cls:=.type "list",data:=.seq vs.toArray}/\pE vs ns/\ns.length<=n:=by
 have hsh:=(pre_splitW hpre).1;have hc:l.pre.holds [] {args:=args}=aj:=(pre_splitW hpre).2;obtain⟨d,r,rfl,h1,h2⟩:=hasAllW_cons hsh;obtain rfl:=hasAllW_nil h2;obtain⟨xs,rfl,h3⟩:=hasW_list h1;obtain⟨ns,rfl⟩:=items_int h3;have hlen:ns.length<=n:=by
  have h4:(WTm.not (.lt (.lit (.int (n:Int))) (.len (.arg 0)))).holds [] {args:=[.list (ns.map .int)]}=aj:=by
   have h4:=(holds_andW hc).1;rw[hn]at h4;exact h4
  have h5:=condW_of h4 (w_not (w_lt w_lit (w_len_list (w_arg rfl))));rw[aB]at h5;refine fb λq=>?_
  have q':(n:Int)<((ns.length:Nat):Int):=by lia
  first
   |(rw[T5 q']at h5;exact T7 h5 (by decide))
   |(simp at h5;lia)
 cases hwl with
 |cons w1 w2=>
  cases w2;cases w1 with|list ho hall=>exact⟨_,_,ns,rfl,rfl,ho,VY ns _ hall,hlen⟩
def vN(l:OpenLaw)(args:List WData):l.row.toRowW.claim.post args (.bool aj) args=aj:=
 postW_of
  (by first|rfl|decide|simp[WShape.has,WShape.arms,WShape.armsAll])
  (w_eq_bool (w_res rfl) w_lit) rfl
def GR{l:OpenLaw}{n:Nat}{q:bq}{loose:List bn}{XP:(bn->Option au)->bX->Prop}{YP:bK->bX->Prop}{d:rR}
  (hn:l.most=aa n)(hdf:d.params.defaults=[])
  (call:∀(w:bK)(s₀ s₁:ax)(mg mb:bn->Option au)(fa:aC)(o:eG)(pm cd doc:au)(a:aC)(vs:List au)(ns:List Int),
   Ground q loose [] XP w s₀ mg mb s₁.heap->YP w s₁.heap->
   s₁.heap.get? fa=aa o->o.data=.func (docDef d.name d.params d.body d.scope pm cd doc)->s₁.heap.CodeRec cd d.name->mg d.name=aa (.ref fa)->
   s₁.heap.get? a=aa {cls:=.type "list",data:=.seq vs.toArray}->pE vs ns->ns.length<=n->s₁.gens = #[]->
   eC (aS l.prog w) mS (.call (.ref fa) ⟨[.ref a],[]⟩) (λr s'=>r=.ok (.ret (.bool aj))/\OldK s₁.heap s'.heap/\s'.os=s₁.os/\iE s'.gens) s₁) :
  WalkO q loose XP YP l.row.toRowW d [] (λf vs=>pN f vs):=by
 intro w s₀ s₁ mg mb G Y fa o pm cd doc dV kV ho hd hcd hD hmg hg args vals as hpre hlay hrd hwl hlo;obtain rfl:dV=.none:=Dflts.none hD hdf;obtain rfl:kV=.none:=Dflts.noKw hD;obtain⟨a,vs,ns,rfl,rfl,hobj,hints,hlen⟩:=vz hn hpre hwl;refine enter_call (kh (call w s₀ s₁ mg mb fa o pm cd doc a vs ns G Y ho (fd_plain hd) hcd hmg hobj hints hlen hg) λr s' hq=>?_)
 obtain⟨rfl,h2,h3,h4⟩:=hq;exact⟨.inl ⟨.bool aj,.bool aj,[],rfl,λ_=>rfl,.bool aj,vN l _,λ_=>⟨gY,λ_ hm=>(nomatch hm)⟩⟩,h2,h3,h4⟩
end Att
namespace L2
open PySem PySem.Spec PyProof.Rows
theorem QY:∀{vs:List au}{ns:List Int},pE vs ns->Vals (ns.map V.int) vs
 |_,_,.nil=>.nil
 |_,_,.cons n t h=>.cons ⟨t,rfl⟩ (QY h)
noncomputable def Y7(s:eF):oG:=match s with
 |.FunctionDef _ a _ _ _ _ _ _ _ _=>a
 |_=>{posonlyargs:=[],args:=[],vararg:=af,kwonlyargs:=[],kw_defaults:=[],kwarg:=af,defaults:=[]}
noncomputable def Zy(s:eF):List eF:=match s with
 |.FunctionDef _ _ b _ _ _ _ _ _ _=>b
 |_=>[]
noncomputable def Zg(s:eF):dQ:=match s with
 |.FunctionDef _ _ _ _ _ _ sc _ _ _=>sc
 |_=>{kind:=.function,names:=[],isGenerator:=al,isCoroutine:=al}
noncomputable abbrev E0:XK:=λ_ _ _=>False
structure Fun(K:ak)(x qual:bn)(st:eF)(f:aC)(fd:cB):Prop where
 ex:∃(oc:au)(od:Option aC)(kV doc pm:au)(an:Option aC)(cdv ct:au)(osl:Array (Option au)),
  fd=d6 x qual (Y7 st) (Zy st) (Zg st) .none kV doc pm an cdv ct/\K.lookup f=aa ⟨oc,od,.func fd,osl⟩/\ko K cdv qual=aj
 kp:fW K (.ref f)=aj
section
variable{P:bq}{w:bK}{K:ak}{mg:bn->Option au}{base:bX}
def Fun.binds{x qual:bn}{st:eF}{f:aC}{fd:cB}{ps:List bn}(F:Fun K x qual st f fd)
  (h:∀(kV doc pm:au)(an:Option aC)(cdv ct:au)(us:List au),us.length=ps.length->mB (d6 x qual (Y7 st) (Zy st) (Zg st) .none kV doc pm an cdv ct) ⟨us,[]⟩=cC (ps.zip us)):VR K fd ps []:=by
 obtain⟨oc,od,kV,doc,pm,an,cdv,ct,osl,rfl,lk,hcd⟩:=F.ex;exact .all (h kV doc pm an cdv ct)
def Zdh{x qual:bn}{st:eF}{f:aC}{oc:au}{od an:Option aC}{osl:Array (Option au)}{kV doc pm cdv ct:au}(l:K.lookup f=aa ⟨oc,od,.func (d6 x qual (Y7 st) (Zy st) (Zg st) .none kV doc pm an cdv ct),osl⟩)
  (c:ko K cdv qual=aj)(k:fW K (.ref f)=aj):Fun K x qual st f (d6 x qual (Y7 st) (Zy st) (Zg st) .none kV doc pm an cdv ct):=⟨⟨oc,od,kV,doc,pm,an,cdv,ct,osl,rfl,l,c⟩,k⟩
end
section
variable{κ:Type}[DecidableEq κ]
noncomputable def Uf(kvs:List (κ×V))(k:κ):Option V:=(kvs.find? λkv=>ag (kv.1=k)).map (·.2)
noncomputable def zF(kvs:List (κ×V))(k:κ)(v:V):List (κ×V):=
 if(kvs.any λkv=>ag (kv.1=k))=aj then kvs.map (λkv=>if kv.1=k then(kv.1,v)else kv)else kvs++[(k,v)]
def Ui{p:κ×V}{r:List (κ×V)}{k:κ}(e:p.1=k):Uf (p::r) k=aa p.2:=by simp[Uf,dZ,e]
def Qa{p:κ×V}{r:List (κ×V)}{k:κ}(e:¬p.1=k):Uf (p::r) k=Uf r k:=by simp[Uf,dZ,e]
theorem zo(k:κ):∀kvs:List (κ×V),(kvs.any λkv=>ag (kv.1=k))=(Uf kvs k).isSome
 |[]=>rfl
 |p::r=>by
  rw[fI];by_cases e:p.1=k
  ·simp only[Ui e,T5 e,Bool.true_or,Option.isSome_some]
  ·rw[Qa e,T4 e,k9];exact zo k r
theorem GM(kvs:List (κ×V))(k:κ)(v:V):(zF kvs k v).length<=kvs.length+1:=by
 unfold zF;split
 ·rw[aB];lia
 ·rw[bp,aQ,iS];lia
def xJ.isSome_eq(r:xJ o u):o.isSome=u.isSome:=by
 cases o with
 |none=>cases u with|none=>rfl|some _=>exact(r).elim
 |some _=>cases u with|none=>exact(r).elim|some _=>rfl
def KV.val{kvs:List (κ×V)}{vs:List (κ×au)}(r:KV kvs vs)(k:κ):xJ (Uf kvs k) (nZ vs k):=by
 unfold KV at r
 induction r with
 |nil=>exact dg
 |@cons p q ps qs h t ih=>
  obtain⟨h1,h2⟩:=h;by_cases e:p.1=k
  ·have e':=h1.symm.trans e
   have b:nZ (q::qs) k=aa q.2:=by simp[nZ,dZ,e']
   rw[Ui e,b];exact h2
  ·have e':¬q.1=k:=λz=>e (h1.trans z)
   have b:nZ (q::qs) k=nZ qs k:=by simp[nZ,dZ,e']
   rw[Qa e,b];exact ih
theorem KV.any(r:KV kvs vs)(k:κ):(kvs.any λkv=>ag (kv.1=k))=vs.any λkv=>ag (kv.1=k):=by
 unfold KV at r
 induction r with|nil=>rfl|cons h t ih=>rw[fI,fI,ih,h.1]
def KV.repl(r:KV kvs vs)(k:κ)(ry:Zu y u) :
  KV (kvs.map λkv=>if kv.1=k then(kv.1,y)else kv) (vs.map λkv=>if kv.1=k then(kv.1,u)else kv):=by
 unfold KV at r ⊢
 induction r with
 |nil=>exact .nil
 |@cons p q ps qs h t ih=>
  rw[aW,aW];refine .cons ?_ ih;obtain⟨h1,h2⟩:=h;by_cases e:p.1=k
  ·rw[T9 e,T9 (h1.symm.trans e)];exact⟨h1,ry⟩
  ·rw[T8 e,T8 (λz=>e (h1.trans z))];exact⟨h1,h2⟩
def KV.put(r:KV kvs vs)(k:κ)(ry:Zu y u):KV (zF kvs k y) (stored vs k u):=by
 unfold zF stored;rw[r.any k];by_cases e:(vs.any λkv=>ag (kv.1=k))=aj
 ·rw[T9 e,T9 e];exact r.repl k ry
 ·rw[T8 e,T8 e];exact Paired.snoc r ⟨rfl,ry⟩
end
def wB(r:Zu (kV k) u):(ZP P w).is k u=aj:=by
 cases k with|inl i=>obtain⟨t,e⟩:=(r);subst e;exact GX P w i t|inr x=>obtain⟨t,e⟩:=(r);subst e;exact GV P w x t
theorem QB :∀{ks:List Key}{us:List au},Vals (ks.map kV) us->ItemsAre (ZP P w) ks us
 |[],_,r=>by rw[nY]at r;cases r;exact .nil
 |k::ks,_,r=>by
  rw[aW]at r;cases r with|cons h t=>exact .cons (wB h) (QB t)
abbrev KT(H:Hp):List (List Key×V)->List (List Key×aC×au)->Prop:=Paired λp q=>p.1=q.1/\H q.2.1=aa (.tup (p.1.map kV))/\Zu p.2 q.2.2
def KT.val{H:Hp}{kvs:List (List Key×V)}{xs:List (List Key×aC×au)}(r:KT H kvs xs)(k:List Key):xJ (Uf kvs k) ((pO xs k).map (·.2)):=by
 induction r with
 |nil=>exact dg
 |@cons p q ps qs h t ih=>
  obtain⟨h1,_,h2⟩:=h;by_cases e:p.1=k
  ·have e':=h1.symm.trans e
   have b:pO (q::qs) k=aa q.2:=by simp[pO,dZ,e']
   rw[Ui e,b];exact h2
  ·have e':¬q.1=k:=λz=>e (h1.trans z)
   have b:pO (q::qs) k=pO qs k:=by simp[pO,dZ,e']
   rw[Qa e,b];exact ih
section
variable{P:bq}{w:bK}{H:Hp}{h:bX}{a:aC}
def ZcH(ok:HOk P w H h)(e:Rd H a u):Z7 P w H h a u:=e.ok ok
def ZaK(ok:HOk P w H h)(e:Rd H a (.dK kvs)):kvs.length<=bi/\(a == dF)=al/\∃vs,KV kvs vs/\h.DictOf (ZP P w) a vs:=
 ZcH ok e
def ZeZ(ok:HOk P w H h)(e:H a=aa (.dK kvs)):kvs.length<=bi/\(a == dF)=al/\∃vs,KV kvs vs/\h.DictOf (ZP P w) a vs:=ZaK ok (.inl e)
def Jz(ok:HOk P w H h)(e:H a=aa (.tup (ks.map kV))):(ee (ZP P w)).is h ks a:=by
 obtain⟨_,its,r,o,h1,h2,n,h3⟩:=(ok a _ e)
 exact⟨o,its.toArray,n,h1,h2,h3,by simpa using QB r⟩
def ZcB(ok:HOk P w H h)(e:Rd H a (.dT kvs)):kvs.length<=bi/\(a == dF)=al/\
  ∃xs,KT H kvs xs/\h.DictOfH (ee (ZP P w)) a xs:=by
 obtain⟨z,y,xs,r,o,es,ep,h1,h2,h3,h4,h5⟩:=(ZcH ok e)
 refine⟨z,y,xs,r,o,es,ep,h1,h2,h3,h4,λx hx=>?_,h5⟩
 have all:∀{l:List (List Key×V)}{m:List (List Key×aC×au)},KT H l m->∀x∈m,(ee (ZP P w)).is h x.1 x.2.1:=by
  intro l m q
  induction q with
  |nil=>intro x hx;exact nomatch hx
  |@cons p q ps qs hq t ih=>
   intro x hx;rcases az.mp hx with e|hx
   ·subst e
    exact Jz ok (by rw[<-hq.1];exact hq.2.1)
   ·exact ih x hx
 exact all r x hx
end
def DGet(H:Hp)(a:aC)(y:V)(r:Option V):Prop:=
 (∃kvs k,Rd H a (.dK kvs)/\y=kV k/\r=Uf kvs k)\/∃kvs k b,Rd H a (.dT kvs)/\y=.ref b/\H b=aa (.tup (k.map kV))/\r=Uf kvs k
section
variable{X:Cx}{pq:List (aC×eG)}{σ:St}{H:Hp}{s:ax}{a:aC}{y v:V}{u r:au}{o:Option V}{A:bQ}{E:au->ax->Prop}
def Inv.big(I:Inv X pq σ H s):dF<s.heap.objs.size:=by
 have h:=(I.mod.glob.keeps I.bk).lt;exact db (by decide) h
def Zfw{Q:au->ax->Prop}(hu:A.units+1<dz)(I:Inv X pq σ H s)(g:DGet H a y o)(ry:Zu y u)(h:∀s',Inv X pq σ H s'->Q (.bool o.isSome) s') :
  bc (aS X.prog X.w) A (cK .In u (.ref a)) Q E s:=by
 rcases g with⟨kvs,k,e,ey,l⟩|⟨kvs,k,b,e,ey,eb,l⟩
 ·subst ey
  obtain⟨z,hd,vs,rel,dd⟩:=ZaK I.hok e;refine wpAny_in_of (wB ry) hd dd.mapOf ?_;rw[<-(rel.val k).isSome_eq,<-l];exact h _ (I.tok _)
 ·subst ey
  cases(ry)
  obtain⟨z,hd,xs,rel,dd⟩:=ZcB I.hok e;refine wpAny_in_heap (kz hu) (Jz I.hok eb) hd dd ?_;have q:=(rel.val k).isSome_eq;rw[oa]at q;rw[<-q,<-l];exact h _ (I.tok _)
def Zbg{Q:au->ax->Prop}(hu:A.units+1<dz)(I:Inv X pq σ H s)(g:DGet H a y o)(ry:Zu y u)(h:∀s',Inv X pq σ H s'->Q (.bool (!o.isSome)) s') :
  bc (aS X.prog X.w) A (cK .NotIn u (.ref a)) Q E s:=by
 rcases g with⟨kvs,k,e,ey,l⟩|⟨kvs,k,b,e,ey,eb,l⟩
 ·subst ey
  obtain⟨z,hd,vs,rel,dd⟩:=ZaK I.hok e;refine wpAny_notIn_of (wB ry) hd dd.mapOf ?_;rw[<-(rel.val k).isSome_eq,<-l];exact h _ (I.tok _)
 ·subst ey
  cases(ry)
  obtain⟨z,hd,xs,rel,dd⟩:=ZcB I.hok e;refine wpAny_notIn_heap (kz hu) (Jz I.hok eb) hd dd ?_;have q:=(rel.val k).isSome_eq;rw[oa]at q;rw[<-q,<-l];exact h _ (I.tok _)
def Za5(I:Inv X pq σ H s)(mu:Mut (H a))(hs:fq a s.heap h')(he:∃q,h'.get? a=aa q)(new:Z7 X.prog X.w (upd H a ob) h' a ob) :
  Inv X pq σ (upd H a ob) {s with heap:=h',toks:=t' }:=
 I.write mu (.inl rfl) (λb q hb z=>(hs.2 b hb).trans z) he new
def Zda(z:kvs.length<=bi)(hd:(a == dF)=al)(rel:KV kvs vs)(dd:h'.DictOf (ZP P w) a vs) :
  Z7 P w H' h' a (.dK kvs):=⟨z,hd,vs,rel,dd⟩
end
def qt(h:bX)(hb:dF<h.objs.size):Z7 P w H (h.push {cls:=.type "dict",data:=.dict #[]}) h.objs.size (.dK []):=
 ⟨dN _,beq_eq_false_iff_ne.mpr (Ne.symm (br hb)),[],.nil,bX.DictOf.new h⟩
def Zap(h:bX)(hb:dF<h.objs.size):Z7 P w H (h.push {cls:=.type "dict",data:=.dict #[]}) h.objs.size (.dT []):=
 ⟨dN _,beq_eq_false_iff_ne.mpr (Ne.symm (br hb)),[],.nil,_,#[],0,aO _ rfl,⟨rfl,rfl,rfl⟩,rfl,rfl,mD⟩
def Zdi:TE:=λ_ H Q=>∀p,H p=af->Q (.ref p) (upd H p (.dT []))
section
variable{X:Cx}{pos:eY}
def jD:PE X (.Dict [] [] pos) Zdi:=λpq s σ H Q I h=>
 wpAny_Dict_empty ⟨.ref s.heap.objs.size,_,I.laid (t':=s.toks) (λ_ _ q=>aw _ q) (aI _) (Zap s.heap I.big),rfl,h _ (I.hok.fresh (aI _))⟩
end
def xB:List (TE×TE)->St->Hp->(List (V×V)->Hp->Prop)->Prop
 |[],_,H,Q=>Q [] H
 |(tk,tv)::r,σ,H,Q=>tk σ H λx H1=>tv σ H1 λy H2=>xB r σ H2 λps H3=>Q ((x,y)::ps) H3
abbrev VV:List (V×V)->List (au×au)->Prop:=Paired λp q=>Zu p.1 q.1/\Zu p.2 q.2
def PPs(X:Cx)(pos:eY)(keys:List (Option Expr))(values:List Expr)(trs:List (TE×TE)):Prop:=
 ∀(pq:List (aC×eG))(s:ax)(σ:St)(H:Hp)(Q:List (V×V)->Hp->Prop),Inv X pq σ H s->xB trs σ H Q->
  bc (aS X.prog X.w) X.A (evalPairs (pairTrees keys values X.env pos)) (λvs s'=>∃ps H',Inv X pq σ H' s'/\VV ps vs/\Q ps H') X.xe s
def ZbN :PPs X pos [] [] []:=λpq s σ H Q I h=>pairTrees_nil_walk ⟨[],H,I,.nil,h⟩
def jo(hk:PE X k tk)(hv:PE X v tv)(hr:PPs X pos ks vs trs) :
  PPs X pos (aa k::ks) (v::vs) ((tk,tv)::trs):=λpq s σ H Q I h=>
 pairTrees_cons_walk (thn (hk pq s σ H _ I h) λu s1 ⟨x,H1,I1,rx,q1⟩=>thn (hv pq s1 σ H1 _ I1 q1) λw2 s2 ⟨y,H2,I2,ry,q2⟩=>
  thn (hr pq s2 σ H2 _ I2 q2) λws s3 ⟨ps,H3,I3,rel,q3⟩=>⟨(x,y)::ps,H3,I3,.cons ⟨rx,ry⟩ rel,q3⟩)
noncomputable def Uj(kvs more:List (Key×V)):List (Key×V):=more.foldl (λacc kv=>zF acc kv.1 kv.2) kvs
def KV.merge:∀{more:List (Key×V)}{rs:List (Key×au)}{kvs:List (Key×V)}{vs:List (Key×au)},KV more rs->KV kvs vs->KV (Uj kvs more) (merged vs rs):=by
 intro more rs kvs vs r;unfold KV at r
 induction r generalizing kvs vs with
 |nil=>intro q;exact q
 |@cons p q ps qs h t ih=>
  intro r0;have e:KV (zF kvs p.1 p.2) (stored vs q.1 q.2):=by
   have:=r0.put p.1 h.2;rw[<-h.1];exact this
  exact ih e
theorem Wd:∀(more kvs:List (Key×V)),(Uj kvs more).length<=kvs.length+more.length
 |[],kvs=>by show kvs.length<=kvs.length+0;lia
 |p::r,kvs=>by
  have h1:=Wd r (zF kvs p.1 p.2);have h2:=GM kvs p.1 p.2;show(Uj (zF kvs p.1 p.2) r).length<=_;rw[aQ];lia
theorem UH :∀{kvs:List (Key×V)}{ws:List (au×au)},VV (kvs.map λkv=>(kV kv.1,kv.2)) ws->∃rs,Carries (ZP P w) ws rs/\KV kvs rs
 |[],_,r=>by rw[nY]at r;cases r;exact⟨[],dg,.nil⟩
 |p::kvs,_,r=>by
  rw[aW]at r;cases r with
  |@cons a b as bs h t=>
   obtain⟨rs,c,q⟩:=UH t;obtain⟨b1,b2⟩:=b;exact⟨(p.1,b2)::rs,⟨wB h.1,rfl,c⟩,.cons ⟨rfl,h.2⟩ q⟩
def ZeG(trs:List (TE×TE)):TE:=λσ H Q=>∀p,H p=af->xB trs σ (upd H p (.dK [])) λps H2=>H2 p=aa (.dK [])/\∃kvs:List (Key×V),ps=kvs.map (λkv=>(kV kv.1,kv.2))/\kvs.length<=15/\Q (.ref p) (upd H2 p (.dK (Uj [] kvs)))
def Zb7(h:PPs X pos keys values trs)(hall:keys.all (·.isSome)=aj)(hl:keys.length=values.length)(h0:keys≠[])
  (h15:keys.length<=15):PE X (.Dict keys values pos) (ZeG trs):=by
 intro pq s σ H Q I q;have hn:=I.hok.fresh (aI s.heap.objs.size);have I1:=I.laid (h':=s.heap.push {cls:=.type "dict",data:=.dict #[]}) (t':=s.toks) (λ_ _ q=>aw _ q) (aI _) (qt s.heap I.big)
 refine wpAny_Dict_walk (knd:=ZP X.prog X.w) hall hl h0 h15 (thn (h pq _ σ _ _ I1 (q _ hn)) λws s2 ⟨ps,H2,I2,rel,e,kvs,ep,lk,q2⟩=>?_)
 subst ep;obtain⟨rs,c,rk⟩:=UH rel;obtain⟨z,hd,vs0,r0,dd⟩:=ZeZ I2.hok e;cases r0;refine⟨rs,c,dd,λh' dd' hs=>⟨.ref s.heap.objs.size,_,?_,rfl,q2⟩⟩
 have hz:(Uj [] kvs).length<=bi:=by
  have h1:=Wd kvs [];rw[iS]at h1;rw[dm];lia
 have he:∃q,h'.get? s.heap.objs.size=aa q:=let ⟨q,_,_,hq,_⟩:=dd';⟨q,hq⟩;exact Za5 I2 (by rw[e];exact dg) hs he (Zda hz hd (rk.merge .nil) dd')
end L2
namespace Pv
open PySem (Str)
inductive V where
 |non|bl (b:Bool)|int (i:Int)|str (x:bn)|tup (xs:List V)|lst (xs:List V)|drw|dct (ks:Option (List (List Int)))|scr (ns:List Int)
 deriving Inhabited
end Pv
namespace Ev
open PySem (Str)
def nos{α:Type}{P:Prop}{b:α}(h:af=aa b):P:=by cases h
noncomputable def lim:Nat:=16777216
inductive Bop where|add|sub|mul|fdiv|mod|pow
 deriving DecidableEq
inductive Cop where|eq|ne|lt|le|gt|ge|is|isn|inn|nin
 deriving DecidableEq
inductive Ty where|int|bool|str|tuple|list|dict|cls (c:Nat)
 deriving DecidableEq
inductive Bf where|len|max2|min2|toInt|tuple|list|all|any|sum|sorted|sortedR|dictP|listD|sortedD|rangeT
 deriving DecidableEq
inductive Mf where|append|extend|index
 deriving DecidableEq
mutual
inductive E where
 |c (d:Pv.V)|v (i:Nat)
 |tup (es:List E)|lst (es:List E)|dnew
 |bin (op:Bop) (a b:E)|neg (a:E)|not (a:E)|and (a b:E)|or (a b:E)|ite (t a b:E)
 |cmp (op:Cop) (a b:E)|chain (o p:Cop) (a b d:E)
 |ix (a i:E)|sl (a:E) (lo hi:Option E)|rev (a:E)
 |call (f:Nat) (as:List E)|blt (f:Bf) (as:List E)|mt (m:Mf) (o:E) (as:List E)
 |isi (a:E) (ts:List Ty)
 |inT (a:E) (tab:List (Int×Int))|getT (tab:List (Int×Int)) (a:E)
 |dput1 (k v:E)
 |comp1 (cap:List Nat) (nl:Nat) (t:List Nat) (it:W) (ifs:List E) (elt:E)
 |comp2 (cap:List Nat) (nl:Nat) (t:List Nat) (it:W) (ifs:List E) (u:List Nat) (jt:W) (jfs:List E) (elt:E)
 |fi (e:E)
 |refu (w:Bool) (e:E)
 |dix (a:E) (k:Bool)
inductive W where
 |of (e:E)|rng1 (a:E)|rng2 (a b:E)|zip (a b:E)|enum (a:E)|rrng (a b:E)|rtup (a:E)|dk (e:E)
end
inductive Sm where
 |asg (t:List Nat) (e:E)|par (t:List Nat) (es:List E)|aug (i:Nat) (op:Bop) (e:E)|put (o i e:E)|dput (o i e:E)
 |ret (e:E)|ex (e:E)|ite (t:E) (a b:List Sm)|forr (t:List Nat) (it:W) (b:List Sm)|whl (t:E) (b:List Sm)
 |raise (c:Nat) (as:List E)|pas|brk|cnt
 |mov (i j:Nat)
 |dset (i:Nat) (e:E)|cel (i f:Nat) (as:List E) (b:List Sm)
noncomputable def b2i(b:Bool):Int:=if b then 1 else 0
noncomputable def Zt:Nat:=6
noncomputable def ixN(n:Nat)(i:Int):Option Nat:=if 0<=i then(if i<n then aa i.toNat else af)else if -(n:Int)<=i then aa (i+n).toNat else af
noncomputable def at'{α:Type}(xs:List α)(i:Int):Option α:=(ixN xs.length i).bind λj=>xs[j]?
noncomputable def sIx(n d:Nat):Option Int->Nat
 |none=>d
 |some i=>if i<0 then(i+n).toNat else rn i.toNat n
noncomputable def fits(i:Int):Bool:=ag (i.natAbs<2^8000)
noncomputable def big:Int:=2^8000
def qd(h:b<1073741824):b<big:=Int.lt_trans h (by decide +kernel)
noncomputable def ltI:List Int->List Int->Bool
 |[],[]=>al
 |[],_::_=>aj
 |_::_,[]=>al
 |a::x,b::y=>if a=b then ltI x y else ag (a<b)
noncomputable def Wb(x:List Int):List (List Int)->List (List Int)
 |[]=>[x]
 |y::r=>if ltI x y then x::y::r else y::Wb x r
noncomputable def Z2:List (List Int)->List (List Int)
 |[]=>[]
 |x::r=>Wb x (Z2 r)
noncomputable def VZ{α:Type}(lt:α->α->Bool)(x:α):List α->List α
 |[]=>[x]
 |y::r=>if lt x y then x::y::r else y::VZ lt x r
noncomputable def YA{α:Type}(lt:α->α->Bool):List α->List α
 |[]=>[]
 |x::r=>VZ lt x (YA lt r)
noncomputable def ltP:List (List Int)->List (List Int)->Bool
 |[],[]=>al
 |[],_::_=>aj
 |_::_,[]=>al
 |a::x,b::y=>if a=b then ltP x y else ltI a b
noncomputable def qX(is:List Int):Bool:=ag (is.length<=1000)&&is.all λi=>ag (-1099511627776<=i/\i<=1099511627776)
noncomputable def Ym(rs:List (List Int)):Bool:=ag (rs.length<=100000)&&decide rs.Nodup&&rs.all λr=>!r.isEmpty
noncomputable def YK(ps:List (List (List Int))):Bool:=ag (ps.length<=100000)&&decide ps.Nodup&&(ag (ps.length<=1)||ps.all λP=>!P.isEmpty)
noncomputable def UC(ks:List (List Int)):Bool:=ag (ks.length<=lim)&&decide ks.Nodup
noncomputable def We(i:Int):Bool:=ag (-(2^62)<=i/\i<2^62)
noncomputable def few(i:Int):Bool:=ag (0<=i/\i<=1000)
noncomputable def ZaJ:Nat:=1000
noncomputable def XJ:List bn:=["row","part","number","heads","not beside","not in","turn","lot","many","note"]
structure Fn where
 ps:Nat
 ns:Nat
 body:List Sm
end Ev
namespace Pv
open Ev
open PySem (Str)
noncomputable abbrev DS:=Int×Bool
inductive PR(α:Type) where
 |ok (a:α) (s:DS)|ex (c:Nat) (s:DS)|no
noncomputable def PR.bind{α β:Type}(r:PR α)(f:α->DS->PR β):PR β:=match r with
 |.ok a s=>f a s
 |.ex c s=>.ex c s
 |.no=>.no
noncomputable def PR.nox{α:Type}(r:PR α):PR α:=match r with
 |.ex _ _=>.no
 |r=>r
noncomputable def po{α:Type}(o:Option α)(s:DS):PR α:=match o with
 |some a=>.ok a s
 |none=>.no
abbrev Env:=List (Option V)
mutual
noncomputable def V.flat:V->Bool
 |.tup xs=>Yh xs
 |.lst _=>al
 |.drw=>al
 |.dct _=>al
 |_=>aj
noncomputable def Yh:List V->Bool
 |[]=>aj
 |x::xs=>x.flat&&Yh xs
end
mutual
noncomputable def ofD:V->Option V
 |.non=>aa .non
 |.bl b=>aa (.bl b)
 |.int i=>aa (.int i)
 |.str x=>aa (.str x)
 |.tup xs=>(ZeB xs).map .tup
 |_=>af
noncomputable def ZeB:List V->Option (List V)
 |[]=>aa []
 |x::xs=>match ofD x,ZeB xs with
  |some a,aa b=>aa (a::b)
  |_,_=>af
end
noncomputable def Zv:V->Option Bool
 |.non=>aa al
 |.bl b=>aa b
 |.int i=>aa (ag (i≠0))
 |.tup xs=>aa (!xs.isEmpty)
 |.lst xs=>aa (!xs.isEmpty)
 |_=>af
noncomputable def Ys(f:V->V->Option Bool):List V->List V->Option Bool
 |[],[]=>aa aj
 |x::xs,y::ys=>match f x y,Ys f xs ys with
  |some a,aa b=>aa (a&&b)
  |_,_=>af
 |_,_=>aa al
noncomputable def eqV:Nat->V->V->Option Bool
 |0,_,_=>af
 |k+1,x,y=>match x with
  |.non=>match y with
   |.non=>aa aj
   |.bl _|.int _|.str _=>aa al
   |_=>af
  |.bl a=>match y with
   |.bl b=>aa (ag (a=b))
   |.int b=>aa (ag (b2i a=b))
   |.non|.str _=>aa al
   |_=>af
  |.int a=>match y with
   |.int b=>aa (ag (a=b))
   |.bl b=>aa (ag (a=b2i b))
   |.non|.str _=>aa al
   |_=>af
  |.str a=>match y with
   |.str b=>aa (ag (a=b))
   |.non|.bl _|.int _=>aa al
   |_=>af
  |.tup xs=>match y with
   |.tup ys=>Ys (eqV k) xs ys
   |_=>af
  |.lst xs=>match y with
   |.lst ys=>if xs.length=ys.length then Ys (eqV k) xs ys else aa al
   |_=>af
  |_=>af
noncomputable def Wj(x:V):List V->Option Bool
 |[]=>aa al
 |y::ys=>match eqV Zt y x,Wj x ys with
  |some a,aa b=>aa (a||b)
  |_,_=>af
noncomputable def Yn:V->Ty->Option Bool
 |.non,_=>aa al
 |.bl _,t=>aa (ag (t=.bool\/t=.int))
 |.int _,t=>aa (ag (t=.int))
 |.str _,t=>aa (ag (t=.str))
 |.tup _,t=>aa (ag (t=.tuple))
 |.lst _,t=>aa (ag (t=.list))
 |.dct af,t=>aa (ag (t=.dict))
 |_,_=>af
noncomputable def Z1(x:V):List Ty->Option Bool
 |[]=>aa al
 |t::ts=>match Yn x t with
  |some aj=>aa aj
  |some al=>Z1 x ts
  |none=>af
noncomputable def Yr(xs:List V)(lo hi:Option Int):List V:=(xs.drop (sIx xs.length 0 lo)).take (sIx xs.length xs.length hi-sIx xs.length 0 lo)
noncomputable def Jn(op:Bop)(a b:Int)(s:DS):PR V:=match op with
 |.add=>.ok (.int (a+b)) s
 |.sub=>.ok (.int (a-b)) s
 |.mul=>if(fits a&&fits b)=aj then .ok (.int (a*b)) s else .no
 |.fdiv=>if 0<b/\b<Ev.big then .ok (.int (a / b)) s else .no
 |.mod=>if 0<b then .ok (.int (a%b)) s else .no
 |.pow=>if 0<=b/\b<=1000/\a.natAbs<2^64 then .ok (.int (a^b.toNat)) s else .no
noncomputable def YG(op:Bop)(x y:V)(s:DS):PR V:=match x with
 |.int a=>match y with
  |.int b=>Jn op a b s
  |_=>.no
 |.tup a=>match y with
  |.tup b=>match op with
   |.add=>if a.length+b.length<=lim then .ok (.tup (a++b)) s else .no
   |_=>.no
  |.int b=>match op with
   |.mul=>if 0<=b/\b<1000/\a.length<=1000 then .ok (.tup (aH b.toNat a).flatten) s else .no
   |_=>.no
  |_=>.no
 |.lst a=>match y with
  |.lst b=>match op with
   |.add=>if a.length+b.length<=lim then .ok (.lst (a++b)) s else .no
   |_=>.no
  |.int b=>match op with
   |.mul=>if 0<=b/\b<1000/\a.length<=1000 then .ok (.lst (aH b.toNat a).flatten) s else .no
   |_=>.no
  |_=>.no
 |_=>.no
noncomputable def Ze9(op:Bop)(x y:V)(s:DS):PR V:=match x,y with
 |.int _,.int _=>YG op x y s
 |_,_=>.no
noncomputable def intsV:List V->Option (List Int)
 |[]=>aa []
 |.int i::r=>(intsV r).map (i :: ·)
 |_::_=>af
noncomputable def VO(x y:V):Option Bool:=match y with
 |.tup ys=>Wj x ys
 |.lst ys=>Wj x ys
 |.dct (aa ks)=>match x with
  |.tup k=>(intsV k).map λk=>ks.contains k
  |_=>af
 |_=>af
noncomputable def VS:V->Bool
 |.non=>aj
 |_=>al
noncomputable def Zc(r:List Int):V:=.tup (r.map .int)
noncomputable def Z3:List V->Option (List (List Int))
 |[]=>aa []
 |.tup x::r=>match intsV x,Z3 r with
  |some a,aa b=>aa (a::b)
  |_,_=>af
 |_::_=>af
noncomputable def int2(x y:V):Option (Int×Int):=match x with
 |.int a=>match y with
  |.int b=>aa (a,b)
  |_=>af
 |_=>af
noncomputable def isV(x y:V):Option Bool:=match y with
 |.non=>aa (VS x)
 |.bl b=>match x with
  |.bl a=>aa (ag (a=b))
  |_=>af
 |_=>af
noncomputable def Yq(op:Cop)(x y:V):Option V:=match op with
 |.eq=>(eqV Zt x y).map .bl
 |.ne=>(eqV Zt x y).map λb=>.bl !b
 |.lt=>match x with
  |.tup a=>match y with
   |.tup b=>(Z3 a).bind λP=>(Z3 b).map λQ=>.bl (ltP P Q)
   |_=>af
  |x=>(int2 x y).map λz=>.bl (ag (z.1<z.2))
 |.gt=>(int2 x y).map λz=>.bl (ag (z.2<z.1))
 |.le=>(int2 x y).map λz=>.bl (ag (z.1<=z.2))
 |.ge=>(int2 x y).map λz=>.bl (ag (z.2<=z.1))
 |.is=>(isV x y).map .bl
 |.isn=>(isV x y).map λb=>.bl !b
 |.inn=>(VO x y).map .bl
 |.nin=>(VO x y).map λb=>.bl !b
noncomputable def ixV(x y:V):Option V:=match x,y with
 |.tup xs,.int i=>at' xs i
 |.lst xs,.int i=>at' xs i
 |.scr xs,.int i=>(at' xs i).map .int
 |_,_=>af
noncomputable def slV(x:V)(lo hi:Option Int):Option V:=match x with
 |.tup xs=>aa (.tup (Yr xs lo hi))
 |.lst xs=>aa (.lst (Yr xs lo hi))
 |_=>af
noncomputable def ZeQ:V->Option V
 |.tup xs=>aa (.tup xs.reverse)
 |_=>af
noncomputable def V4:V->Option Bool
 |.non=>aa al
 |.bl b=>aa b
 |.int i=>aa (ag (i≠0))
 |_=>af
noncomputable def ZZ:List V->Option (List Bool)
 |[]=>aa []
 |x::xs=>match V4 x,ZZ xs with
  |some b,aa bs=>aa (b::bs)
  |_,_=>af
noncomputable def Zd(P:List (List Int)):V:=.tup (P.map Zc)
noncomputable def ZdW:V->Option (List (List Int))
 |.tup ks=>Z3 ks
 |_=>af
noncomputable def Xo:List V->Option (List (List (List Int)))
 |[]=>aa []
 |x::r=>match ZdW x,Xo r with
  |some a,aa b=>aa (a::b)
  |_,_=>af
noncomputable def Zbo:List V->Bool
 |.tup (.int _::_)::_=>aj
 |_=>al
noncomputable def Yy:V->Option (List V)
 |.tup xs=>aa xs
 |.lst xs=>aa xs
 |.scr ns=>aa (ns.map .int)
 |_=>af
noncomputable def ZeT:V->Option (List V)
 |.dct (aa ks)=>aa (ks.map Zc)
 |_=>af
noncomputable def Yg(lo:Int)(n:Nat):List V:=(aY n).map λ(k:Nat)=>.int (lo+(k:Int))
noncomputable def Zcs:V->Option (List Int)
 |.tup [.tup k,.bl b]=>if b=aj then intsV k else af
 |_=>af
noncomputable def Wn:List V->Option (List (List Int))
 |[]=>aa []
 |v::r=>(Zcs v).bind λa=>(Wn r).map (a :: ·)
noncomputable def blt1(f:Bf)(x:V):Option V:=match f with
 |.len=>(Yy x).map λxs=>.int xs.length
 |.toInt=>match x with
  |.int a=>aa (.int a)
  |.bl b=>aa (.int (b2i b))
  |_=>af
 |.tuple=>(Yy x).map .tup
 |.list=>(Yy x).map .lst
 |.all=>match x with
  |.lst xs=>(ZZ xs).map λbs=>.bl (bs.all id)
  |_=>af
 |.any=>(Yy x).bind λxs=>(ZZ xs).map λbs=>.bl (bs.any id)
 |.sum=>match x with
  |.lst xs=>(intsV xs).bind λis=>if qX is=aj then aa (.int is.sum)else af
  |_=>af
 |.sorted=>match x with
  |.lst xs=>if Zbo xs=aj then(Z3 xs).bind λrs=>if Ym rs=aj then aa (.lst ((Z2 rs).map Zc))else af else(Xo xs).bind λps=>if YK ps=aj then aa (.lst ((YA ltP ps).map Zd))else af
  |_=>af
 |.sortedR=>match x with
  |.lst xs=>(Z3 xs).bind λrs=>if Ym rs=aj then aa (.lst ((Z2 rs).reverse.map Zc))else af
  |_=>af
 |.rangeT=>match x with
  |.int i=>if few i then aa (.tup (Yg 0 i.toNat))else af
  |_=>af
 |.dictP=>match x with
  |.lst xs=>(Wn xs).bind λks=>if UC ks=aj then aa (.dct (aa ks))else af
  |_=>af
 |_=>af
noncomputable def blt2(f:Bf)(x y:V):Option V:=match x,y with
 |.int a,.int b=>match f with
  |.max2=>aa (.int (if b>a then b else a))
  |.min2=>aa (.int (if b<a then b else a))
  |_=>af
 |_,_=>af
noncomputable def Xk(f:Bf)(as:List V):Option V:=match as with
 |[x]=>blt1 f x
 |[x,y]=>blt2 f x y
 |_=>af
noncomputable def YO:List Nat->List V->Env->Option Env
 |[],[],ρ=>aa ρ
 |i::t,x::xs,ρ=>YO t xs (ρ.set i (aa x))
 |_,_,_=>af
noncomputable def qV:V->Option (List V)
 |.tup xs=>aa xs
 |.lst xs=>aa xs
 |_=>af
noncomputable def Zo(t:List Nat)(x:V)(ρ:Env):Option Env:=match t with
 |[i]=>aa (ρ.set i (aa x))
 |t=>match qV x with
  |some xs=>YO t xs ρ
  |none=>af
abbrev ZB:=Nat->List V->DS->PR V
noncomputable def Z5(cap:List Nat)(nl:Nat)(ρ:Env):Env:=aH nl af++cap.map λi=>(ρ[i]?).join
noncomputable def mapP(f:V->DS->PR (List V)):List V->DS->PR (List V)
 |[],s=>.ok [] s
 |x::xs,s=>match f x s with
  |.ok ys s=>match mapP f xs s with
   |.ok zs s=>.ok (ys++zs) s
   |_=>.no
  |_=>.no
noncomputable def jV(w:Bool)(c:Nat):V:=if w then .str (XJ.getD c "")else .int c
noncomputable def own(nl:Nat)(t:List Nat):Bool:=t.all λi=>ag (i<nl)
noncomputable def own2(nl:Nat)(t u:List Nat):Bool:=own nl t&&u.all λi=>ag (i<nl) && !t.contains i
mutual
noncomputable def pv(C:ZB):E->Env->DS->PR V
 |.c d,_,s=>po (ofD d) s
 |.v i,ρ,s=>po (ρ[i]?).join s
 |.tup es,ρ,s=>(pvs C es ρ s).bind λxs s=>if xs.length<=lim then .ok (.tup xs) s else .no
 |.lst es,ρ,s=>(pvs C es ρ s).bind λxs s=>if xs.length<=lim then .ok (.lst xs) s else .no
 |.dnew,_,s=>.ok (.dct af) s
 |.dput1 k v,ρ,s=>(pv C k ρ s).bind λx s=>(pv C v ρ s).bind λy s=>match x,y with
  |.int _,.int _=>.ok (.dct af) s
  |_,_=>.no
 |.bin op a b,ρ,s=>(pv C a ρ s).bind λx s=>(pv C b ρ s).bind λy s=>YG op x y s
 |.neg a,ρ,s=>(pv C a ρ s).bind λx s=>match x with
  |.int i=>.ok (.int (-i)) s
  |_=>.no
 |.not a,ρ,s=>(pv C a ρ s).bind λx s=>(po (Zv x) s).bind λb s=>.ok (.bl !b) s
 |.and a b,ρ,s=>(pv C a ρ s).bind λx s=>match x with
  |.bl c=>if c then pv C b ρ s else .ok (.bl al) s
  |_=>.no
 |.or a b,ρ,s=>(pv C a ρ s).bind λx s=>match x with
  |.bl c=>if c then .ok (.bl aj) s else pv C b ρ s
  |_=>.no
 |.ite t a b,ρ,s=>(pv C t ρ s).bind λx s=>(po (Zv x) s).bind λc s=>if c then pv C a ρ s else pv C b ρ s
 |.cmp op a b,ρ,s=>(pv C a ρ s).bind λx s=>(pv C b ρ s).bind λy s=>po (Yq op x y) s
 |.chain o p a b d,ρ,s=>(pv C a ρ s).bind λx s=>(pv C b ρ s).bind λy s=>(po (Yq o x y) s).bind λz s=>match z with
  |.bl c=>if c then(pv C d ρ s).bind λw s=>po (Yq p y w) s else .ok (.bl al) s
  |_=>.no
 |.ix a i,ρ,s=>(pv C a ρ s).bind λx s=>(pv C i ρ s).bind λy s=>po (ixV x y) s
 |.sl a lo hi,ρ,s=>(pv C a ρ s).bind λx s=>(pvo C lo ρ s).bind λl s=>(pvo C hi ρ s).bind λh s=>po (slV x l h) s
 |.rev a,ρ,s=>(pv C a ρ s).bind λx s=>po (ZeQ x) s
 |.call f as,ρ,s=>(pvs C as ρ s).bind λxs s=>C f xs s
 |.blt f as,ρ,s=>(pvs C as ρ s).bind λxs s=>po (Xk f xs) s
 |.mt _ _ _,_,_=>.no
 |.isi a ts,ρ,s=>(pv C a ρ s).bind λx s=>(po (Z1 x ts) s).bind λb s=>.ok (.bl b) s
 |.inT a tab,ρ,s=>(pv C a ρ s).bind λx s=>match x with
  |.int i=>.ok (.bl ((tab.map (·.1)).contains i)) s
  |_=>.no
 |.getT tab a,ρ,s=>(pv C a ρ s).bind λx s=>match x with
  |.int i=>(po (tab.lookup i) s).bind λj s=>.ok (.int j) s
  |_=>.no
 |.comp1 cap nl t it ifs elt,ρ,s=>if own nl t=aj then(pvw C it ρ s).bind λw s=>
   ((mapP (λx s=>(po (Zo t x (Z5 cap nl ρ)) s).bind λσ s=>(pvt C ifs σ s).bind λb s=>if b then(pv C elt σ s).bind λy s=>.ok [y] s else .ok [] s) w s).bind
    λys s=>if ys.length<=lim then .ok (.lst ys) s else .no).nox
  else .no
 |.comp2 cap nl t it ifs u jt jfs elt,ρ,s=>if own2 nl t u=aj then(pvw C it ρ s).bind λw s=>
   ((mapP (λx s=>(po (Zo t x (Z5 cap nl ρ)) s).bind λσ s=>(pvt C ifs σ s).bind λb s=>if b then
    (pvw C jt σ s).bind λw2 s=>mapP (λx s=>(po (Zo u x σ) s).bind λσ s=>(pvt C jfs σ s).bind λb s=>if b then(pv C elt σ s).bind λy s=>.ok [y] s else .ok [] s) w2 s
    else .ok [] s) w s).bind
    λys s=>if ys.length<=lim then .ok (.lst ys) s else .no).nox
  else .no
 |.fi a,ρ,s=>(pv C a ρ s).bind λx s=>match x with
  |.int i=>if We i=aj then .ok (.int i) s else .no
  |_=>.no
 |.refu w e,ρ,s=>match pv C e ρ s with
  |.ok _ s=>.ok .non s
  |.ex c s=>if 1<=c/\c<=10 then .ok (jV w (c-1)) s else .no
  |.no=>.no
 |.dix a k,ρ,s=>(pv C a ρ s).bind λx s=>match x with
  |.drw=>.ok (if k then .bl s.2 else .int s.1) s
  |_=>.no
noncomputable def pvs(C:ZB):List E->Env->DS->PR (List V)
 |[],_,s=>.ok [] s
 |e::es,ρ,s=>(pv C e ρ s).bind λx s=>(pvs C es ρ s).bind λxs s=>.ok (x::xs) s
noncomputable def pvo(C:ZB):Option E->Env->DS->PR (Option Int)
 |none,_,s=>.ok af s
 |some e,ρ,s=>(pv C e ρ s).bind λx s=>match x with
  |.int i=>.ok (aa i) s
  |_=>.no
noncomputable def pvt(C:ZB):List E->Env->DS->PR Bool
 |[],_,s=>.ok aj s
 |e::es,ρ,s=>(pv C e ρ s).bind λx s=>(po (Zv x) s).bind λb s=>if b then pvt C es ρ s else .ok al s
noncomputable def pvw(C:ZB):W->Env->DS->PR (List V)
 |.rng1 a,ρ,s=>(pv C a ρ s).bind λx s=>match x with
  |.int i=>if We i then .ok (Yg 0 i.toNat) s else .no
  |_=>.no
 |.rng2 a b,ρ,s=>(pv C a ρ s).bind λx s=>(pv C b ρ s).bind λy s=>match x,y with
  |.int i,.int j=>if(We i&&We j)=aj then .ok (Yg i (j-i).toNat) s else .no
  |_,_=>.no
 |.rrng a b,ρ,s=>(pv C a ρ s).bind λx s=>(pv C b ρ s).bind λy s=>match x,y with
  |.int i,.int j=>if(We i&&We j)=aj then .ok (Yg i (j-i).toNat).reverse s else .no
  |_,_=>.no
 |.rtup a,ρ,s=>(pv C a ρ s).bind λx s=>match x with
  |.tup xs=>.ok xs.reverse s
  |_=>.no
 |.zip a b,ρ,s=>(pv C a ρ s).bind λx s=>(pv C b ρ s).bind λy s=>match Yy x,Yy y with
  |some v,aa w=>.ok ((v.zip w).map λp=>.tup [p.1,p.2]) s
  |_,_=>.no
 |.enum a,ρ,s=>(pv C a ρ s).bind λx s=>match Yy x with
  |some w=>.ok (((Yg 0 w.length).zip w).map λp=>.tup [p.1,p.2]) s
  |none=>.no
 |.of e,ρ,s=>(pv C e ρ s).bind λx s=>po (Yy x) s
 |.dk e,ρ,s=>(pv C e ρ s).bind λx s=>po (ZeT x) s
end
inductive FlV where|nx (ρ:Env) (os:List Nat)|ret (v:V)|brk (ρ:Env) (os:List Nat)|cnt (ρ:Env) (os:List Nat)
noncomputable def hide(os:List Nat)(ρ:Env):Env:=ρ.mapIdx λi o=>if os.contains i then af else o
noncomputable def fresh:E->Bool
 |.lst _=>aj
 |.comp1 .. => aj
 |.comp2 .. => aj
 |.bin .mul (.lst _) _=>aj
 |.blt .list _=>aj
 |.blt .sorted _=>aj
 |_=>al
noncomputable def pvA(C:ZB)(e:E)(ρ:Env)(os:List Nat)(s:DS):PR V:=match os with
 |[]=>pv C e ρ s
 |os=>match pv C e (hide os ρ) s with
  |.ok v s=>.ok v s
  |.ex c s=>.ex c s
  |.no=>(pv C e ρ s).bind λv s=>if v.flat then .ok v s else .no
noncomputable def Zfg(C:ZB)(es:List E)(ρ:Env)(os:List Nat)(s:DS):PR (List V):=match os with
 |[]=>pvs C es ρ s
 |_=>(pvs C es ρ s).bind λv s=>if Yh v then .ok v s else .no
noncomputable def YN(C:ZB)(e:E)(ρ:Env)(s:DS):PR Bool:=(pv C e ρ s).bind λx s=>po (Zv x) s
noncomputable def Yz(body:V->Env->List Nat->DS->PR FlV):List V->Env->List Nat->DS->PR FlV
 |[],ρ,os,s=>.ok (.nx ρ os) s
 |x::xs,ρ,os,s=>(body x ρ os s).bind λf s=>match f with
  |.nx ρ os=>Yz body xs ρ os s
  |.cnt ρ os=>Yz body xs ρ os s
  |.brk ρ os=>.ok (.nx ρ os) s
  |.ret v=>.ok (.ret v) s
noncomputable def yq(test:Env->DS->PR Bool)(body:Env->List Nat->DS->PR FlV):Nat->Env->List Nat->DS->PR FlV
 |0,_,_,_=>.no
 |n+1,ρ,os,s=>(test ρ s).bind λb s=>if b then(body ρ os s).bind λf s=>match f with
  |.nx ρ os=>yq test body n ρ os s
  |.cnt ρ os=>yq test body n ρ os s
  |.brk ρ os=>.ok (.nx ρ os) s
  |.ret v=>.ok (.ret v) s
  else .ok (.nx ρ os) s
noncomputable def okS(x:Int)(b:Bool):Bool:=ag (0<=x)&&(b||decide (x<2147483647))
noncomputable def U6:V->Option DS
 |.lst [.int a,.bl b]=>if okS a b=aj then aa (a,b)else af
 |_=>af
noncomputable def VQ(o:Option V):Option V:=o.filter V.flat
noncomputable def WP(i:Nat)(ρ:Env):Env:=(ρ.take i).map VQ++aH (ρ.length-i) af
noncomputable def zN:Option (Option V)->Option (List V)
 |some (aa (.lst xs))=>aa xs
 |_=>af
mutual
noncomputable def rv(C:ZB)(ms:List Nat):Sm->Env->List Nat->DS->PR FlV
 |.asg [i] e,ρ,os,s=>(pvA C e ρ os s).bind λv s=>if(ms.contains i&&fresh e)=aj then match v with
   |.lst xs=>if Yh xs=aj/\i<ρ.length then .ok (.nx (ρ.set i (aa v)) (i::os.filter (· != i))) s else .no
   |_=>.no
  else .ok (.nx (ρ.set i (aa v)) (os.filter (· != i))) s
 |.asg t e,ρ,os,s=>(pvA C e ρ os s).bind λv s=>if(t.any os.contains)=aj then .no else(po (Zo t v ρ) s).bind λρ s=>.ok (.nx ρ os) s
 |.par t es,ρ,os,s=>(Zfg C es ρ os s).bind λvs s=>if(t.any os.contains)=aj then .no else(po (YO t vs ρ) s).bind λρ s=>.ok (.nx ρ os) s
 |.aug i op e,ρ,os,s=>if os.contains i then .no else(po (ρ[i]?).join s).bind λx s=>(pv C e ρ s).bind λy s=>(Ze9 op x y s).bind λz s=>.ok (.nx (ρ.set i (aa z)) os) s
 |.put (.v i) k e,ρ,os,s=>if os.contains i then(pv C e ρ s).bind λv s=>if v.flat then(po (zN ρ[i]?) s).bind λxs s=>(pv C k ρ s).bind λy s=>match y with
   |.int n=>(po (ixN xs.length n) s).bind λj s=>.ok (.nx (ρ.set i (aa (.lst (xs.set j v)))) os) s
   |_=>.no
  else .no else .no
 |.put _ _ _,_,_,_=>.no
 |.dput _ _ _,_,_,_=>.no
 |.ret e,ρ,os,s=>(pv C e ρ s).bind λv s=>.ok (.ret v) s
 |.ex (.mt .append (.v i) [e]),ρ,os,s=>if os.contains i then(po (zN ρ[i]?) s).bind λxs s=>(pv C e ρ s).bind λv s=>if v.flat=aj/\xs.length<lim then .ok (.nx (ρ.set i (aa (.lst (xs++[v])))) os) s else .no else .no
 |.ex (.mt .extend (.v i) [e]),ρ,os,s=>if os.contains i then(po (zN ρ[i]?) s).bind λxs s=>(pv C e (hide os ρ) s).bind λv s=>match v with
   |.lst ys=>if Yh ys=aj/\xs.length+ys.length<=lim then .ok (.nx (ρ.set i (aa (.lst (xs++ys)))) os) s else .no
   |_=>.no
  else .no
 |.ex e,ρ,os,s=>(pv C e ρ s).bind λ_ s=>.ok (.nx ρ os) s
 |.ite t a b,ρ,os,s=>(YN C t ρ s).bind λc s=>if c then rvs C ms a ρ os s else rvs C ms b ρ os s
 |.forr t it b,ρ,os,s=>(pvw C it (hide os ρ) s).bind λw s=>Yz (λx ρ os s=>if(t.any os.contains)=aj then .no else if(os.isEmpty||x.flat)=aj then(po (Zo t x ρ) s).bind λρ s=>rvs C ms b ρ os s else .no) w ρ os s
 |.whl t b,ρ,os,s=>yq (YN C t) (rvs C ms b) ZaJ ρ os s
 |.raise c as,ρ,os,s=>(pvs C as ρ s).bind λ_ s=>.ex c s
 |.pas,ρ,os,s=>.ok (.nx ρ os) s
 |.brk,ρ,os,s=>.ok (.brk ρ os) s
 |.cnt,ρ,os,s=>.ok (.cnt ρ os) s
 |.mov i j,ρ,os,s=>if(os.contains j&&(!os.contains i&&ag (i≠j)))=aj then(po (zN ρ[j]?) s).bind λxs s=>.ok (.nx ((ρ.set i (aa (.lst xs))).set j af) (os.filter (· != j))) s else .no
 |.dset i e,ρ,os,s=>(pv C e ρ s).bind λv s=>match v with
  |.int x=>if okS x s.2=aj then match(ρ[i]?).join with
   |some .drw=>.ok (.nx ρ os) (x,s.2)
   |_=>.no
   else .no
  |_=>.no
 |.cel i f as b,ρ,os,s=>if os.isEmpty=aj then(pvs C as ρ s).bind λxs s=>(C f xs s).bind λv s=>(po (U6 v) s).bind λd s=>match rvs C ms b ((WP i ρ).set i (aa .drw)) [] d with
  |.ok (.nx ρ _) _=>.ok (.nx (ρ.map VQ) []) s
  |.ok (.cnt ρ _) _=>.ok (.cnt (ρ.map VQ) []) s
  |.ok (.brk ρ _) _=>.ok (.brk (ρ.map VQ) []) s
  |.ok (.ret v) _=>if v.flat=aj then .ok (.ret v) s else .no
  |_=>.no
  else .no
noncomputable def rvs(C:ZB)(ms:List Nat):List Sm->Env->List Nat->DS->PR FlV
 |[],ρ,os,s=>.ok (.nx ρ os) s
 |m::ss,ρ,os,s=>(rv C ms m ρ os s).bind λf s=>match f with
  |.nx ρ os=>rvs C ms ss ρ os s
  |f=>.ok f s
end
mutual
noncomputable def qm:Sm->List Nat
 |.put (.v i) _ _=>[i]
 |.ex (.mt .append (.v i) _)=>[i]
 |.ex (.mt .extend (.v i) _)=>[i]
 |.ite _ a b=>muts a++muts b
 |.forr _ _ b=>muts b
 |.whl _ b=>muts b
 |_=>[]
noncomputable def muts:List Sm->List Nat
 |[]=>[]
 |m::ss=>qm m++muts ss
end
noncomputable def ZM(n:Nat)(xs:List V):Env:=xs.map aa++aH (n-xs.length) af
noncomputable def XM(s:DS)(m:Int):Int×DS:=
 if s.2 then(s.1%m,(s.1 / m,aj))else
  let x:=(s.1*48271+29)%2147483647
  let y:=(x*x+39373*x+7)%2147483629
  let z:=(y*y+16807*y)%2147483587
  (z / 8%m,(x,al))
noncomputable def Zcv(vs:List V)(s:DS):PR V:=match vs with
 |[.drw,.int m]=>if 0<m/\m<1073741824 then .ok (.int (XM s m).1) (XM s m).2 else .no
 |_=>.no
noncomputable def Zn(F:List Fn)(tk:Nat):Nat->ZB
 |0,_,_,_=>.no
 |d+1,f,xs,s=>if f=tk then Zcv xs s else match F[f]? with
  |some fn=>if xs.length=fn.ps then(rvs (Zn F tk d) (muts fn.body) fn.body (ZM fn.ns xs) [] s).bind λf s=>match f with
    |.ret v=>.ok v s
    |.nx _ _=>.ok .non s
    |_=>.no
   else .no
  |none=>.no
end Pv
namespace Sd
open PySem PySem.Spec PyProof.Rows L2
open Ev (E Sm Fn Bop Cop Ty Bf Mf)
noncomputable abbrev D:=Pv.V
noncomputable abbrev Zr:=Pv.DS
noncomputable abbrev Lc:=Pv.Env
noncomputable abbrev R:=Pv.PR
noncomputable abbrev Calls:=Pv.ZB
structure Mx where
 K:ak
 n0:Option aC
 X:aC->Prop
 xz:∀a,n0=aa a->X a
def Scr(K:ak)(H:Hp)(a:aC)(ns:List Int):Prop:=
 (∃o,H a=aa (.frz o (.lst (ns.map V.int))))\/
  ∃(o:eG)(its:Array au)(n:Nat),K.lookup a=aa o/\o.cls=.type "list"/\o.dict=af/\o.data=.seq its n/\its.size<=bi/\Vals (ns.map V.int) its.toList
def Scr.sq{K:ak}{H:Hp}{a:aC}{ns:List Int}(h:Scr K H a ns):SqL K H a (ns.map V.int):=by
 rcases h with⟨o,h⟩|h
 ·exact .inl (.inr ⟨o,h⟩)
 ·exact .inr h
def Dct(H:Hp)(a:aC):Option (List (List Int))->Prop
 |none=>(∃vs,H a=aa (.dT vs))\/∃vs,H a=aa (.dK vs)
 |some ks=>∃o vs,H a=aa (.frz o (.dT vs))/\vs.map (·.1)=ks.map (·.map dP)
mutual
def Rep(ρ:Mx)(H:Hp):D->V->Prop
 |.non,v=>v=.non
 |.bl b,v=>v=.bl b
 |.int i,v=>v=.int i
 |.str x,v=>v=.str x
 |.tup ds,v=>∃a xs,v=.ref a/\H a=aa (.tup xs)/\Rq ρ H ds xs
 |.lst ds,v=>∃a xs,v=.ref a/\H a=aa (.lst xs)/\¬ρ.X a/\Rq ρ H ds xs
 |.drw,v=>∃a,v=.ref a/\ρ.n0=aa a
 |.dct o,v=>∃a,v=.ref a/\Dct H a o
 |.scr ns,v=>∃a,v=.ref a/\Scr ρ.K H a ns
def Rq(ρ:Mx)(H:Hp):List D->List V->Prop
 |[],xs=>xs=[]
 |d::ds,xs=>∃v vs,xs=v::vs/\Rep ρ H d v/\Rq ρ H ds vs
end
structure Fut(ρ:Mx)(H:Hp)(ρ':Mx)(H':Hp):Prop where
 eq:ρ'=ρ
 keep:∀a o,H a=aa o->H' a=aa o\/(ρ.n0=aa a/\∃xs,o=.lst xs)\/((∃ps,o=.tbl ps)/\∃ps,H' a=aa (.tbl ps))
def Fut.refl(ρ:Mx)(H:Hp):Fut ρ H ρ H:=⟨rfl,λ_ _ h=>.inl h⟩
def Fut.trans{ρ ρ1 ρ2:Mx}{H H1 H2:Hp}(a:Fut ρ H ρ1 H1)(b:Fut ρ1 H1 ρ2 H2):Fut ρ H ρ2 H2:=by
 obtain⟨rfl,f⟩:=a;obtain⟨rfl,g⟩:=b;refine⟨rfl,λa o h=>(f a o h).elim (λh=>g a o h) λz=>z.elim (λz=>.inr (.inl z)) λ⟨e,ps,h⟩=>?_⟩
 rcases g a _ h with q|⟨_,xs,q⟩|⟨_,q⟩
 ·exact .inr (.inr ⟨e,ps,q⟩)
 ·cases q
 ·exact .inr (.inr ⟨e,q⟩)
def Fut.there(f:Fut ρ H ρ' H')(n:ρ.n0≠.some a)(h:H a≠af):H' a≠af:=by
 obtain⟨o,e⟩:=kA.mp h;rcases f.keep a o e with q|q|⟨_,_,q⟩
 ·rw[q];intro z;cases z
 ·exact T7 q.1 n
 ·rw[q];intro z;cases z
def Fut.new(f:Fut ρ H ρ' H')(h:H' a=af)(xd:∀a,ρ.X a->H' a≠af):H a=af:=by
 cases q:H a with
 |none=>rfl
 |some o=>
  rcases f.keep a o q with e|e|⟨_,_,e⟩
  ·rw[h]at e;cases e
  ·exact T7 h (xd a (ρ.xz a e.1))
  ·rw[h]at e;cases e
structure Lat(ρ:Mx)(H:Hp)(ρ':Mx)(H':Hp):Prop where
 K:ρ'.K=ρ.K
 n0:ρ'.n0=ρ.n0
 keep':∀a o,H a=aa o->(∀xs,o=.lst xs->¬ρ.X a)->(∀ps,o≠.tbl ps)->H' a=aa o
 X:∀a,H a≠af->ρ'.X a->ρ.X a
def Lat.keep(f:Lat ρ H ρ' H')(a:aC)(o:HO)(h:H a=aa o)(x:∀xs,o=.lst xs->¬ρ.X a)(n:∀ps,o≠.tbl ps:=by intro _ z;cases z):H' a=aa o:=f.keep' a o h x n
mutual
theorem Rep.lat(f:Lat ρ H ρ' H'):∀{d:D}{v:V},Rep ρ H d v->Rep ρ' H' d v
 |.non,_,h|.bl _,_,h|.int _,_,h|.str _,_,h=>by exact h
 |.tup ds,v,h=>by
  obtain⟨a,xs,e,t,r⟩:=h;exact⟨a,xs,e,f.keep a _ t (λ_ z=>by cases z),r.lat f⟩
 |.lst ds,v,h=>by
  obtain⟨a,xs,e,t,x,r⟩:=h;exact⟨a,xs,e,f.keep a _ t λ_ _=>x,λz=>x (f.X a (by rw[t];intro z;cases z) z),r.lat f⟩
 |.drw,v,h=>by unfold Rep at h ⊢;rw[f.n0];exact h
 |.dct o,v,h=>by
  obtain⟨a,e,t⟩:=h;refine⟨a,e,?_⟩;cases o with
  |none=>
   rcases t with⟨vs,t⟩|⟨vs,t⟩
   ·exact .inl ⟨vs,f.keep a _ t λ_ z=>by cases z⟩
   ·exact .inr ⟨vs,f.keep a _ t λ_ z=>by cases z⟩
  |some ks=>obtain⟨o,vs,t,q⟩:=t;exact⟨o,vs,f.keep a _ t (λ_ z=>by cases z),q⟩
 |.scr ns,v,h=>by
  unfold Rep at h ⊢;obtain⟨a,e,t⟩:=h;rw[f.K];refine⟨a,e,?_⟩;rcases t with⟨o,t⟩|t
  ·exact .inl ⟨o,f.keep a _ t λ_ z=>by cases z⟩
  ·exact .inr t
theorem Rq.lat(f:Lat ρ H ρ' H'):∀{ds:List D}{xs:List V},Rq ρ H ds xs->Rq ρ' H' ds xs
 |[],_,h=>by exact h
 |d::ds,xs,h=>by
  obtain⟨v,vs,e,r,rs⟩:=h;exact⟨v,vs,e,r.lat f,rs.lat f⟩
end
noncomputable def YD:bn:="law.<locals>.<lambda>"
def Tb(H:Hp):Prop:=∀(P:aC)(ps:Array au),H P=aa (.tbl ps)->oI ps.toList/\∀(pos:eY)(cv:au),kl pos ps.toList=aa cv->
 ∃(c:aC)(oc:eG)(vs:Array au)(t:rS),cv=.ref c/\H c=aa (.frz oc (.own c))/\oc.data=.fields vs/\vs[1]?=aa (.str YD t)
theorem Tb.upd(h:Tb H)(hp:∀ob u,H p≠aa (.frz ob u))(ho:∀ps,o≠.tbl ps):Tb (upd H p o):=λP ps e=>by
 by_cases z:P=p
 ·subst z;rw[Zk]at e;cases e;exact T7 rfl (ho ps)
 ·rw[Zi z]at e
  obtain⟨a,b⟩:=h P ps e;refine⟨a,λpos cv q=>?_⟩
  obtain⟨c,oc,vs,t,e1,e2,e3⟩:=b pos cv q;exact⟨c,oc,vs,t,e1,by rw[Zi (λz=>hp oc (.own c) (by rw[<-z];exact e2))];exact e2,e3⟩
structure St3(K:ak)(ρ:Mx)(S:Zr)(H:Hp):Prop where
 hk:ρ.K=K
 xd:∀a,ρ.X a->H a≠af
 dw:∀a,ρ.n0=aa a->H a=aa (.lst [.int S.1,.bl S.2])/\Pv.okS S.1 S.2=aj
 tb:Tb H
def Fut.lat(f:Fut ρ H ρ' H'):Lat ρ H ρ' H':=by
 obtain⟨rfl,f⟩:=f;exact⟨rfl,rfl,λa o h x n=>(f a o h).elim id λz=>z.elim (λz=>T7 (ρ'.xz a z.1) (let ⟨xs,e⟩:=z.2;x xs e)) λ⟨⟨ps,e⟩,_⟩=>T7 e (n ps),λ_ _ h=>h⟩
def Rep.mono(f:Fut ρ H ρ' H')(h:Rep ρ H d v):Rep ρ' H' d v:=h.lat f.lat
def Rq.mono(f:Fut ρ H ρ' H')(h:Rq ρ H d v):Rq ρ' H' d v:=h.lat f.lat
section
variable{ρ:Mx}{H:Hp}{v:V}
def Rq.nil:Rq ρ H [] []:=by rfl
def Rq.cons{d:D}{v:V}{ds:List D}{vs:List V}(r:Rep ρ H d v)(rs:Rq ρ H ds vs):Rq ρ H (d::ds) (v::vs):=by
 exact⟨v,vs,rfl,r,rs⟩
theorem Rq.length:∀{ds:List D}{xs:List V},Rq ρ H ds xs->xs.length=ds.length
 |[],_,h=>by rw[h];rfl
 |d::ds,xs,h=>by
  obtain⟨v,vs,rfl,_,rs⟩:=h;rw[aQ,aQ,Rq.length rs]
theorem Rq.append:∀{ds es:List D}{xs ys:List V},Rq ρ H ds xs->Rq ρ H es ys->Rq ρ H (ds++es) (xs++ys)
 |[],_,_,_,h,r=>by rw[h];exact r
 |d::ds,_,_,_,h,r=>by
  obtain⟨v,vs,rfl,a,rs⟩:=h;exact Rq.cons a (Rq.append rs r)
theorem Rq.take:∀{ds:List D}{xs:List V}(k:Nat),Rq ρ H ds xs->Rq ρ H (ds.take k) (xs.take k)
 |_,_,0,_=>Rq.nil
 |[],_,k+1,h=>by rw[h];exact Rq.nil
 |d::ds,_,k+1,h=>by
  obtain⟨v,vs,rfl,a,rs⟩:=h;exact Rq.cons a (Rq.take k rs)
theorem Rq.drop:∀{ds:List D}{xs:List V}(k:Nat),Rq ρ H ds xs->Rq ρ H (ds.drop k) (xs.drop k)
 |_,_,0,h=>h
 |[],_,k+1,h=>by rw[h];exact Rq.nil
 |d::ds,_,k+1,h=>by
  obtain⟨v,vs,rfl,a,rs⟩:=h;exact Rq.drop k rs
theorem Rq.get:∀{ds:List D}{xs:List V}{i:Nat}{d:D},Rq ρ H ds xs->ds[i]?=aa d->∃v,xs[i]?=aa v/\Rep ρ H d v
 |[],_,_,_,_,e=>by simp at e
 |d::ds,_,0,_,h,e=>by
  obtain⟨v,vs,rfl,a,rs⟩:=h;simp at e;subst e;exact⟨v,rfl,a⟩
 |d::ds,_,i+1,_,h,e=>by
  obtain⟨v,vs,rfl,a,rs⟩:=h;obtain⟨u,q,r⟩:=Rq.get rs (by simpa using e)
  exact⟨u,by simpa using q,r⟩
theorem Rq.reverse:∀{ds:List D}{xs:List V},Rq ρ H ds xs->Rq ρ H ds.reverse xs.reverse
 |[],_,h=>by rw[h];exact Rq.nil
 |d::ds,_,h=>by
  obtain⟨v,vs,rfl,a,rs⟩:=h;rw[eQ,eQ];exact Rq.append (Rq.reverse rs) (Rq.cons a Rq.nil)
theorem Rq.rep(h:Rq ρ H ds xs):∀k:Nat,Rq ρ H (aH k ds).flatten (aH k xs).flatten
 |0=>Rq.nil
 |k+1=>by
  rw[bU,bU,cM,cM];exact Rq.append h (Rq.rep h k)
theorem Rq.ints:∀ns:List Int,Rq ρ H (ns.map Pv.V.int) (ns.map V.int)
 |[]=>Rq.nil
 |n::ns=>Rq.cons (by rfl) (Rq.ints ns)
def Rep.int'{i:Int}(h:Rep ρ H (.int i) v):v=.int i:=by exact h
def Rep.bl'{b:Bool}(h:Rep ρ H (.bl b) v):v=.bl b:=by exact h
def Rep.non'(h:Rep ρ H .non v):v=.non:=by exact h
def Rep.str'{x:bn}(h:Rep ρ H (.str x) v):v=.str x:=by exact h
def Rep.tup'{ds:List D}(h:Rep ρ H (.tup ds) v):∃a xs,v=.ref a/\H a=aa (.tup xs)/\Rq ρ H ds xs:=by exact h
def Rep.lst'{ds:List D}(h:Rep ρ H (.lst ds) v):∃a xs,v=.ref a/\H a=aa (.lst xs)/\¬ρ.X a/\Rq ρ H ds xs:=by exact h
def Rep.drw'(h:Rep ρ H .drw v):∃a,v=.ref a/\ρ.n0=aa a:=by exact h
def Rep.dct'(h:Rep ρ H (.dct o) v):∃a,v=.ref a/\Dct H a o:=by exact h
def Rep.scr'(h:Rep ρ H (.scr ns) v):∃a,v=.ref a/\Scr ρ.K H a ns:=by exact h
def ZT(i:Int):Rep ρ H (.int i) (.int i):=by rfl
def Z9(b:Bool):Rep ρ H (.bl b) (.bl b):=by rfl
def V9:Rep ρ H .non .non:=by rfl
def wn(x:bn):Rep ρ H (.str x) (.str x):=by rfl
def Y3(h:H a=aa (.tup xs))(r:Rq ρ H ds xs):Rep ρ H (.tup ds) (.ref a):=by exact⟨a,xs,rfl,h,r⟩
def Wa(h:H a=aa (.lst xs))(x:¬ρ.X a)(r:Rq ρ H ds xs):Rep ρ H (.lst ds) (.ref a):=by exact⟨a,xs,rfl,h,x,r⟩
def Rep.seq(h:Rep ρ H x v)(e:Pv.Yy x=aa ds):∃p xs,v=.ref p/\(SqL ρ.K H p xs\/SqT ρ.K H p xs)/\Rq ρ H ds xs:=by
 cases x with|tup es=>cases e;obtain⟨p,xs,rfl,h,r⟩:=h.tup';exact⟨p,xs,rfl,.inr (SqT.of h),r⟩|lst es=>cases e;obtain⟨p,xs,rfl,h,_,r⟩:=h.lst';exact⟨p,xs,rfl,.inl (SqL.of h),r⟩|scr ns=>cases e;obtain⟨p,e,q⟩:=h.scr';exact⟨p,_,e,.inl q.sq,Rq.ints ns⟩|_=>cases e
end
structure LocR(ρ:Mx)(H:Hp)(l:Lc)(σ:L2.St):Prop where
 len:l.length=σ.length
 val:∀(i:Nat)(d:D),l[i]?=aa (aa d)->∃v,σ[i]?=aa (aa v)/\Rep ρ H d v
theorem LocR.mono(f:Fut ρ H ρ' H')(r:LocR ρ H l σ):LocR ρ' H' l σ:=
 ⟨r.len,λi d e=>let ⟨v,q,h⟩:=r.val i d e;⟨v,q,h.mono f⟩⟩
theorem LocR.set(r:LocR ρ H l σ)(i:Nat)(h:Rep ρ H d v):LocR ρ H (l.set i (aa d)) (σ.set i (aa v)):=
 ⟨by rw[bC,bC];exact r.len,λj e q=>by
  rw[oh]at q ⊢;split at q
  ·rename_i hij
   subst hij;split at q
   ·rename_i hl
    cases q;rw[T9 rfl,T9 (by rw[<-r.len];exact hl)]
    exact⟨v,rfl,h⟩
   ·cases q
  ·rename_i hij
   rw[T8 hij];exact r.val j e q⟩
def End{α β:Type}(K:ak)(xw:Nat->Hp->Prop)(rep:Mx->Hp->α->β->Prop)(ρ:Mx)(H:Hp)(Q:β->Hp->Prop):R α->Prop
 |.ok d S=>∀ρ' H' v,Fut ρ H ρ' H'->St3 K ρ' S H'->rep ρ' H' d v->Q v H'
 |.ex c S=>∀ρ' H',Fut ρ H ρ' H'->St3 K ρ' S H'->xw c H'
 |.no=>False
section
variable{K:ak}{xw:Nat->Hp->Prop}{ρ ρ':Mx}{H H':Hp}{α β α' β':Type}{rep:Mx->Hp->α->β->Prop}{rep':Mx->Hp->α'->β'->Prop}
def End.mono{Q:β->Hp->Prop}(f:Fut ρ H ρ' H')(h:End K xw rep ρ H Q r):End K xw rep ρ' H' Q r:=by
 cases r with|ok d S=>exact λρ2 H2 v g st r=>h ρ2 H2 v (f.trans g) st r|ex c S=>exact λρ2 H2 g st=>h ρ2 H2 (f.trans g) st|no=>exact h
theorem End.bind{Q:β'->Hp->Prop}{Q1:β->Hp->Prop}(h:End K xw rep' ρ H Q (r.bind f))
  (k:∀d S ρ1 H1 v,Fut ρ H ρ1 H1->St3 K ρ1 S H1->rep ρ1 H1 d v->End K xw rep' ρ1 H1 Q (f d S)->Q1 v H1):End K xw rep ρ H Q1 r:=by
 cases r with|ok d S=>exact λρ1 H1 v g st r=>k d S ρ1 H1 v g st r (End.mono g h)|ex c S=>exact h|no=>exact h
theorem End.ok{Q:β->Hp->Prop}(h:End K xw rep ρ H Q (.ok a S))(st:St3 K ρ S H)(r:rep ρ H a v):Q v H:=h ρ H v (Fut.refl ρ H) st r
def End.ob{Q:β'->Hp->Prop}(h:End K xw rep' ρ H Q ((Pv.po o S).bind f)):∃a,o=aa a/\End K xw rep' ρ H Q (f a S):=by
 cases o with|none=>exact h.elim|some a=>exact⟨a,rfl,h⟩
theorem End.po{Q:β->Hp->Prop}(h:End K xw rep ρ H Q (Pv.po o S)):∃a,o=aa a/\End K xw rep ρ H Q (.ok a S):=by
 cases o with|none=>exact h.elim|some a=>exact⟨a,rfl,h⟩
theorem End.map{Q:β->Hp->Prop}(h:End K xw rep ρ H Q (Pv.po (o.map f) S)):∃a,o=aa a/\End K xw rep ρ H Q (.ok (f a) S):=by
 cases o with|none=>exact h.elim|some a=>exact⟨a,rfl,h⟩
def End.ite{c:Prop}[Decidable c]{Q:β->Hp->Prop}(h:End K xw rep ρ H Q (if c then a else b)):(c/\End K xw rep ρ H Q a)\/(¬c/\End K xw rep ρ H Q b):=by
 split at h
 ·exact .inl ⟨‹_›,h⟩
 ·exact .inr ⟨‹_›,h⟩
def End.guard{c:Prop}[Decidable c]{Q:β->Hp->Prop}(h:End K xw rep ρ H Q (if c then a else .no)):c/\End K xw rep ρ H Q a:=by
 rcases h.ite with h|⟨_,h⟩
 ·exact h
 ·exact h.elim
end
abbrev nx:Nat->Hp->Prop:=λ_ _=>False
theorem End.nox{α β:Type}{K:ak}{xw:Nat->Hp->Prop}{ρ:Mx}{H:Hp}{rep:Mx->Hp->α->β->Prop}{Q:β->Hp->Prop}{r:R α}(h:End K xw rep ρ H Q r.nox):End K nx rep ρ H Q r:=by
 cases r with|ok d S=>exact h|ex c S=>exact h.elim|no=>exact h
def J7(_:Mx)(_:Hp)(a b:Bool):Prop:=a=b
def Zfj(_:Mx)(_:Hp)(a b:Option Int):Prop:=a=b
section
variable(X:Cx)(xw:Nat->Hp->Prop)
def tE(f:Lc->Zr->R D):TE:=λσ H Q=>∃ρ l S,St3 X.K ρ S H/\LocR ρ H l σ/\End X.K xw Rep ρ H Q (f l S)
def tA(f:Lc->Zr->R (List D)):TA:=λσ H Q=>∃ρ l S,St3 X.K ρ S H/\LocR ρ H l σ/\End X.K xw Rq ρ H Q (f l S)
def tB3(f:Lc->Zr->R Bool):TT:=λσ H Q=>∃ρ l S,St3 X.K ρ S H/\LocR ρ H l σ/\End X.K xw J7 ρ H Q (f l S)
def tO(f:Lc->Zr->R (Option Int)):TO:=λσ H Q=>∃ρ l S,St3 X.K ρ S H/\LocR ρ H l σ/\End X.K xw Zfj ρ H Q (f l S)
variable(C:Calls)
def CE(e:Expr)(i:E):Prop:=PE X e (tE X xw (Pv.pv C i))
def CT(e:Expr)(i:E):Prop:=PT X e (tB3 X xw (Pv.YN C i))
def CA(es:List Expr)(is:List E):Prop:=PA X es (tA X xw (Pv.pvs C is))
def CO(e:Option Expr)(i:Option E):Prop:=PO X e (tO X xw (Pv.pvo C i))
end
def PE.imp(h:PE X e t)(k:∀σ H Q,t' σ H Q->t σ H Q):PE X e t':=λpq s σ H Q I q=>h pq s σ H Q I (k σ H Q q)
def PT.imp(h:PT X e t)(k:∀σ H Q,t' σ H Q->t σ H Q):PT X e t':=λpq s σ H Q I q=>h pq s σ H Q I (k σ H Q q)
def PA.imp(h:PA X e t)(k:∀σ H Q,t' σ H Q->t σ H Q):PA X e t':=λpos pq s σ H Q I q=>h pos pq s σ H Q I (k σ H Q q)
def PO.imp(h:PO X e t)(k:∀σ H Q,t' σ H Q->t σ H Q):PO X e t':=λpq s σ H Q I q=>h pq s σ H Q I (k σ H Q q)
section
variable{K:ak}{ρ ρ':Mx}{S:Zr}{H H':Hp}{a p:aC}
def Zs(hp:H p=af):Fut ρ H ρ (upd H p o):=⟨rfl,λb u h=>.inl (by rw[Zi (ZH h hp)];exact h)⟩
def St3.fresh(st:St3 K ρ S H)(hp:H p=af)(ho:∀ps,o≠.tbl ps:=by intro _ z;cases z):St3 K ρ S (upd H p o):=
 have n:∀b,H b≠af->b≠p:=λb h z=>h (by rw[z];exact hp)
 ⟨st.hk,λb h=>by rw[Zi (n b (st.xd b h))];exact st.xd b h,λb h=>by
  have:=st.dw b h;rw[Zi (n b (by rw[this.1];intro z;cases z))];exact this,st.tb.upd (λob u z=>by rw[hp]at z;cases z) ho⟩
def St3.nx(st:St3 K ρ S H)(hp:H p=af):¬ρ.X p:=λz=>st.xd p z hp
end
def Wt:Ev.lim=bi:=by rw[dm];rfl
section
variable{K:ak}{xw:Nat->Hp->Prop}{ρ:Mx}{H:Hp}{S:Zr}{Q:VK}
def End.newT(h:End K xw Rep ρ H Q (.ok (.tup ds) S))(st:St3 K ρ S H)(r:Rq ρ H ds xs):∀p,H p=af->Q (.ref p) (upd H p (.tup xs)):=λp hp=>
 h ρ _ _ (Zs hp) (st.fresh hp) (Y3 Zk (r.mono (Zs hp)))
def End.newL(h:End K xw Rep ρ H Q (.ok (.lst ds) S))(st:St3 K ρ S H)(r:Rq ρ H ds xs):∀p,H p=af->Q (.ref p) (upd H p (.lst xs)):=λp hp=>
 h ρ _ _ (Zs hp) (st.fresh hp) (Wa Zk (st.nx hp) (r.mono (Zs hp)))
end
section
variable{X:Cx}{xw:Nat->Hp->Prop}{C:Calls}{e a b c:Expr}{i j k:E}{pos:eY}
def yi{n:Int}{q}:CE X xw C (.Constant (.int n) q pos) (.c (.int n)):=PE.imp Ws λσ H Q ⟨ρ,l,S,st,lr,h⟩=>End.ok h st (ZT n)
def jC{n:Bool}{q}:CE X xw C (.Constant (.bool n) q pos) (.c (.bl n)):=PE.imp qF λσ H Q ⟨ρ,l,S,st,lr,h⟩=>End.ok h st (Z9 n)
def yD{q}:CE X xw C (.Constant .none q pos) (.c .non):=PE.imp yy λσ H Q ⟨ρ,l,S,st,lr,h⟩=>End.ok h st V9
def yQ{x:bn}{q}:CE X xw C (.Constant (.str x) q pos) (.c (.str x)):=PE.imp Gp λσ H Q ⟨ρ,l,S,st,lr,h⟩=>End.ok h st (wn x)
def ZdN(n:Nat){x:bn}(hN:X.N[n]?=aa x:=by rfl)(hv:Vis X.env.scope x:=by first|exact gN rfl|exact eU (gN rfl)|exact eU (eU rfl))(hd:(x == ("__debug__" : bn))=al:=by decide)
  (hcd:(x == ("__classdict__" : bn))=al:=by decide):CE X xw C (.Name x pos) (.v n):=PE.imp (Yk hN hv hd hcd) λσ H Q ⟨ρ,l,S,st,lr,h⟩=>by
 rw[Pv.pv]at h;cases q:l[n]? with
 |none=>rw[q]at h;exact h.elim
 |some o=>
  cases o with
  |none=>rw[q]at h;exact h.elim
  |some d=>
   rw[q]at h;obtain⟨v,q2,r⟩:=lr.val n d q;exact⟨v,q2,End.ok h st r⟩
def yV:CA X xw C [] []:=PA.imp Yj λσ H Q ⟨ρ,l,S,st,lr,h⟩=>by
 rw[Pv.pvs]at h;exact End.ok h st Rq.nil
def JZ{es:List Expr}{is:List E}(ha:CE X xw C e i)(hr:CA X xw C es is)(hs:aE (e::es) X.env=(al,cR e X.env)::aE es X.env:=by rfl):CA X xw C (e::es) (i::is):=
 PA.imp (Zw ha hr hs) λσ H Q ⟨ρ,l,S,st,lr,h⟩=>by
  rw[Pv.pvs]at h;exact⟨ρ,l,S,st,lr,h.bind λx S1 ρ1 H1 v f1 st1 r1 h1=>⟨ρ1,l,S1,st1,lr.mono f1,h1.bind λxs S2 ρ2 H2 vs f2 st2 r2 h2=>h2.ok st2 (Rq.cons (r1.mono f2) r2)⟩⟩
def xA{es:List Expr}{is:List E}{q}(h:CA X xw C es is):CE X xw C (.Tuple es q pos) (.tup is):=PE.imp (jb h) λσ H Q ⟨ρ,l,S,st,lr,h⟩=>by
 rw[Pv.pv]at h;refine⟨ρ,l,S,st,lr,h.bind λxs S1 ρ1 H1 vs f1 st1 r1 h1=>?_⟩
 obtain⟨hl,h1⟩:=h1.guard;exact⟨by rw[r1.length,<-Wt];exact hl,h1.newT st1 r1⟩
def XX{r:R2}{g:D->D->Zr->R D}(hg:∀{ρ H S x y v u Q},St3 X.K ρ S H->Rep ρ H x v->Rep ρ H y u->End X.K xw Rep ρ H Q (g x y S)->r v u H Q) :
  ∀σ H Q,tE X xw (λl S=>(Pv.pv C i l S).bind λx S=>(Pv.pv C j l S).bind λy S=>g x y S) σ H Q->tOp r (tE X xw (Pv.pv C i)) (tE X xw (Pv.pv C j)) σ H Q:=λσ H Q ⟨ρ,l,S,st,lr,h⟩=>
 ⟨ρ,l,S,st,lr,h.bind λx S1 ρ1 H1 v f1 st1 r1 h1=>⟨ρ1,l,S1,st1,lr.mono f1,h1.bind λy S2 ρ2 H2 u f2 st2 r2 h2=>hg st2 (r1.mono f2) r2 h2⟩⟩
end
section
variable{X:Cx}
def Zav(K:ak):R2:=λx y H Q=>∃a b ys,x=.ref a/\y=.ref b/\SqT K H a []/\SqT K H b ys/\Q (.ref b) H
def qN:OpR X (eO .Add) (Zav X.K):=by
 intro pq s σ H x y v u Q I rx ry h;obtain⟨a,b,ys,rfl,rfl,ha,hb,q⟩:=h;cases rx;cases ry;obtain⟨its,r1,p1,_⟩:=I.tuple ha;obtain⟨its2,r2,p2,_⟩:=I.tuple hb;have e0:=r1.nil_iff.mpr rfl;obtain⟨⟨cls,dd,data,sl⟩,ho,hc,n,hd⟩:=id p1;obtain⟨⟨cls2,dd2,data2,sl2⟩,ho2,hc2,n2,hd2⟩:=id p2;simp only at hc hd hc2 hd2;subst hc hd hc2 hd2;exact nU ⟨_,ho,rfl⟩ ⟨_,ho2,rfl⟩ lw m5 gX gS (gC _ _)
   (tuple_addW0 a b its.toArray its2.toArray n n2 dd dd2 sl sl2 (by rw[e0];rfl)) ⟨ho,ho2,⟨.ref b,H,I,rfl,q⟩⟩
def Zfn(K:ak):V->Option Int->Option Int->Hp->VK->Prop:=λx lo hi H Q=>∃a xs,x=.ref a/\SqT K H a xs/\
 (HT.sIx xs.length 0 lo=0/\HT.sIx xs.length xs.length hi=xs.length)/\Q (.ref a) H
def Wc{prog:bq}{w:bK}{A:bQ}{E:au->ax->Prop}{s:ax}{t sl:aC}{items:Array au}{vl vu:au}{lo hi:Option Int}{Q:au->ax->Prop}(ht:nK s.heap t items)(hs:s.heap.IsSliceOf sl vl vu .none)(pl:kr vl lo)(pu:kr vu hi)
  (hw:HT.sIx items.size 0 lo=0/\HT.sIx items.size items.size hi=items.size)(h:Q (.ref t) s):bc (aS prog w) A (kT (.ref t) (.ref sl)) Q E s:=by
 obtain⟨os,hos,hcs,hds⟩:=id hs;have hTs:s.TypeIs (.ref sl) "slice":=⟨os,hos,hcs⟩;unfold kT
 try with_reducible refine cz ?_
 first|refine ae (aA ?_)|skip
 refine ae (kU ht.typeIs (by decide) ?_)
 refine ae (cL ht.typeIs cF
  (da cF ht.typeIs i8 ?_ (kx _ _)))
 show bc _ _ (fX (.ref t) >>= _) _ _ s;refine ae (m7 ht ?_);refine ae (fv hTs ?_);rw[T9 (by decide)]
 refine ae (HT.Xj hs pl pu ?_);have hyes:((((HT.sIx items.size 0 lo:Nat):Int) == 0&&(1:Int) == 1&&(HT.sIx items.size items.size hi-HT.sIx items.size 0 lo) == items.size)=aj):=by
  rw[hw.1,hw.2];simp
 show bc _ _ (if(((HT.sIx items.size 0 lo:Nat):Int) == 0&&(1:Int) == 1&&(HT.sIx items.size items.size hi-HT.sIx items.size 0 lo) == items.size)=aj then _ else _) _ _ s
 rw[T9 hyes];refine ae (ae (fv ht.typeIs (aA ?_)));rw[T9 (by decide)]
 exact ae (dW (aA ⟨_,rfl,aA h⟩))
def jL:SlR X (Zfn X.K):=by
 intro pq s σ H x v vl vu lo hi sl Q I rx hs pl pu h;obtain⟨a,xs,rfl,hx,hw,q⟩:=h;cases rx;obtain⟨its,r,ht,hz⟩:=I.tuple hx;have hlen:its.toArray.size=xs.length:=by rw[ay];exact r.length.symm
 refine⟨"tuple",_,cF.lookup,ht.typeIs,?_⟩;exact Wc ht hs pl pu (by rw[hlen];exact hw) ⟨.ref a,H,I,rfl,q⟩
def wy(h:Ev.fits i=aj):mW i<=2^20:=by
 have h1:=T6 h;unfold mW;split
 ·exact dN _
 ·rename_i hz
  have hne:i.natAbs≠0:=by intro z;exact hz (by simp[Int.natAbs_eq_zero.mp z])
  have:=(Nat.log2_lt hne).mpr h1;have e:(2:Nat)^20=1048576:=by decide
  omega
def qJ:OpR X (eO .FloorDiv) (rI (λ_ j=>0<j/\j<Ev.big) λi j=>.int (i / j)):=opI λi j _ _ _ _ _ hc q=>by
 have h1:=hc.1;have h2:=hc.2;have hne:j.natAbs≠0:=by omega
 have h3:j.natAbs<2^8000:=by
  have e:(j.natAbs:Int)=j:=Int.natAbs_of_nonneg (by omega)
  have h4:(j.natAbs:Int)<((2^8000:Nat):Int):=by rw[e,Int.natCast_pow];exact h2
  exact Int.ofNat_lt.mp h4
 have h5:=(Nat.log2_lt hne).mpr h3;exact floordiv_int (by omega) (by rw[Int.fdiv_eq_ediv_of_nonneg i (by omega)];exact q) (.inl (PyProof.noPylong_of_log2 (by omega)))
def Zbu:OpR X (eO .Mult) (rI (λi j=>Ev.fits i=aj/\Ev.fits j=aj) λi j=>.int (i*j)):=opI λ_ _ _ _ _ _ _ hc q=>mul_int q (IntMulOk.of_bits (wy hc.1) (wy hc.2))
def ZdB:OpR X (cK .Is) (λx y H Q=>∃a b,x=.bl a/\y=.bl b/\Q (.bl (ag (a=b))) H):=by
 intro pq s σ H x y v u Q I rx ry h;obtain⟨a,b,rfl,rfl,q⟩:=h;cases rx;cases ry;cases a<;>cases b<;>exact aA ⟨.bl _,H,I,rfl,q⟩
end
end Sd
namespace Sd
open PySem PySem.Spec PyProof.Rows L2
def Qi:fillsNumberSlot (.type "tuple") "mul" = cC al:=
 PySem.fillsNumberSlot_seq lz.lookup (by decide +kernel) F.slot_tuple_rmul.lookup (by decide +kernel)
def JD:seqRepeat? (.type "tuple")=cC (aa (.builtin "tuple.__mul__")):=by
 unfold seqRepeat?
 rw[oJ (name:="__mul__") lz.lookup (by decide +kernel),oJ (name:="__rmul__") F.slot_tuple_rmul.lookup (by decide +kernel)]
 rfl
def U5(a:Int)(t:rS)(l:aC)(items:Array au)(n:Nat)(dd:Option aC)(sl:Array (Option au)) :
  pP (eD.«int.__rmul__» ⟨[.int a t,.ref l],[]⟩) (λ_ R s=>s.heap.get? l=aa {cls:=.type "tuple",dict:=dd,data:=.seq items n,slots:=sl}/\R (.ok (.ret au.notImplemented)) s):=
 .of_wp λprog w A R s h=>by obtain⟨hp,g,d,tk,os⟩:=s;obtain⟨hl,h⟩:=h;wp_walk;exact⟨_,rfl,h⟩
def GF(l:aC)(items:Array au)(n:Nat)(dd:Option aC)(sl:Array (Option au))(x:Int)(u:rS)(h0:¬(x < -(2^63)||x>=2^63)=aj)(hc:(items.isEmpty||x == 1)=aj) :
  pP (eD.«tuple.__mul__» ⟨[.ref l,.int x u],[]⟩) (λ_ R s=>s.heap.get? l=aa {cls:=.type "tuple",dict:=dd,data:=.seq items n,slots:=sl}/\R (.ok (.ret (cU l))) {s with heap:=s.heap,toks:=s.toks}):=
 .of_wp λprog w A R s h=>by obtain⟨hp,g,d,tk,os⟩:=s;obtain⟨hl,h⟩:=h;have f1:=ly;have f2:=dM;wp_walk;rw[T8 h0];wp_walk using dH hl;exact⟨_,rfl,h⟩
def JJ(l:aC)(items:Array au)(n:Nat)(dd:Option aC)(sl:Array (Option au))(x:Int)(u:rS)(h0:¬(x < -(2^63)||x>=2^63)=aj)(hc:¬(items.isEmpty||x == 1)=aj)(h1:(x<=0||items.isEmpty)=aj) :
  pP (eD.«tuple.__mul__» ⟨[.ref l,.int x u],[]⟩) (λ_ R s=>s.heap.get? l=aa {cls:=.type "tuple",dict:=dd,data:=.seq items n,slots:=sl}/\R (.ok (.ret (cU s.heap.objs.size))) {s with heap:=s.heap.push {cls:=.type "tuple",data:=.seq #[]},toks:=s.toks}):=
 .of_wp λprog w A R s h=>by obtain⟨hp,g,d,tk,os⟩:=s;obtain⟨hl,h⟩:=h;have f1:=ly;have f2:=dM;wp_walk;rw[T8 h0];wp_walk using dH hl;exact⟨_,rfl,h⟩
def zc(l:aC)(items:Array au)(n:Nat)(dd:Option aC)(sl:Array (Option au))(x:Int)(u:rS)(h0:¬(x < -(2^63)||x>=2^63)=aj)(hc:¬(items.isEmpty||x == 1)=aj)(h1:¬(x<=0||items.isEmpty)=aj)
  (h2:¬(items.size*x>(2^63-1) / 8))(h3:¬kB (items.size*x)=aj)(hsz:((aH x.toNat items).foldl (·++·) #[]).size<=bi) :
  pP (eD.«tuple.__mul__» ⟨[.ref l,.int x u],[]⟩) (λ_ R s=>s.heap.get? l=aa {cls:=.type "tuple",dict:=dd,data:=.seq items n,slots:=sl}/\R (.ok (.ret (cU s.heap.objs.size))) {s with heap:=s.heap.push {cls:=.type "tuple",data:=.seq ((aH x.toNat items).foldl (·++·) #[])},toks:=s.toks}):=
 .of_wp λprog w A R s h=>by obtain⟨hp,g,d,tk,os⟩:=s;obtain⟨hl,h⟩:=h;have f1:=ly;have f2:=dM;wp_walk;rw[T8 h0];wp_walk using dH hl;rw[T8 h2];wp_walk using dH hl;exact⟨_,rfl,h⟩
def ZcE(K:ak):R2:=λx y H Q=>∃a k xs,x=.ref a/\y=.int k/\SqT K H a xs/\(0<=k/\k<1000/\xs.length<=1000)/\
 ((xs=[]\/k=1)->Q (.ref a) H)/\(¬(xs=[]\/k=1)->∀p,H p=af->Q (.ref p) (upd H p (.tup (aH k.toNat xs).flatten)))
def Zcf :OpR X (eO .Mult) (ZcE X.K):=by
 intro pq s σ H x y v u Q I rx ry h;obtain⟨a,k,xs,rfl,rfl,hx,⟨k0,k1,hz⟩,q1,q2⟩:=h;cases rx;obtain⟨t,rfl⟩:=ry;obtain⟨its,r,pt,_⟩:=I.tuple hx;have hl:=r.length;obtain⟨⟨cls,dd,data,sl⟩,ho,hc,n,hd⟩:=id pt;simp only at hc hd;subst hc hd;have h0:¬(ag (k < -(2^63))||decide (k>=2^63))=aj:=by
  rw[T4 (by lia),T4 (by lia)];exact aM
 refine kQ (by decide) ⟨_,ho,rfl⟩ (λs'=>lP s' k t) Qi pc iT JD F.slot_int_index.lookup
  (fY iT (lP s k t) oK (oi _ _) (U5 k t a its.toArray n dd sl) ⟨ho,rfl,⟨_,ho,rfl⟩,?_⟩)
 have hnil:=r.nil_iff;by_cases c:xs=[]\/k=1
 ·have c':(its.toArray.isEmpty||k == 1)=aj:=by
   rcases c with c|c
   ·rw[hnil.mpr c];rfl
   ·rw[c];simp
  exact fY lz ⟨_,ho,rfl⟩ kW (kC _ _) (GF a its.toArray n dd sl k t h0 c') ⟨ho,⟨.ref a,H,I,rfl,q1 c⟩⟩
 ·have ne:=λz=>c (.inl (hnil.mp z))
  have k1:k≠1:=λz=>c (.inr z)
  have c':¬(its.toArray.isEmpty||k == 1)=aj:=by
   rw[beq_eq_false_iff_ne.mpr k1,Bool.or_false,iK];cases its with|nil=>exact T7 rfl ne|cons _ _=>exact aM
  have fin:∀arr:List au,arr=(aH k.toNat its).flatten->EP X pq σ Q (cU s.heap.objs.size) {s with heap:=s.heap.push {cls:=.type "tuple",data:=.seq arr.toArray}}:=λarr e=>by
   subst e;refine⟨.ref s.heap.objs.size,_,I.laid (t':=s.toks) (λb ob q=>aw _ q) (aI _) ?_,rfl,q2 c _ (I.hok.fresh (aI _))⟩
   refine⟨?_,_,r.rep k.toNat,iq _ _⟩;rw[JM,dm];have:k.toNat*xs.length<=1000*1000:=kD (by lia) hz
   lia
  by_cases z:k=0
  ·have h1:(ag (k<=0)||its.toArray.isEmpty)=aj:=by rw[z];rfl
   refine fY lz ⟨_,ho,rfl⟩ kW (kC _ _) (JJ a its.toArray n dd sl k t h0 c' h1) ⟨ho,?_⟩;exact fin [] (by rw[z];rfl)
  ·have h1:¬(ag (k<=0)||its.toArray.isEmpty)=aj:=by
    rw[T4 (by lia),k9,iK]
    cases its with|nil=>exact T7 rfl ne|cons _ _=>exact aM
   have hm:(its.toArray.size:Int)*k<=1000*1000:=by
    rw[ay,<-hl];exact Int.mul_le_mul (by lia) (by lia) k0 (by lia)
   have joined:(aH k.toNat its.toArray).foldl (·++·) #[]=(aH k.toNat its).flatten.toArray:=by
    have:=Vj its k.toNat [];rw[eM]at this;exact this
   have hsz:((aH k.toNat its.toArray).foldl (·++·) #[]).size<=bi:=by
    rw[joined,ay,JM,dm,<-hl];have:k.toNat*xs.length<=1000*1000:=kD (by lia) hz
    lia
   refine fY lz ⟨_,ho,rfl⟩ kW (kC _ _) (zc a its.toArray n dd sl k t h0 c' h1 (by lia) (by
    unfold kB;rw[T4 (by rw[dm];lia)]
    exact aM) hsz) ⟨ho,?_⟩
   rw[joined];exact fin _ rfl
def Zco:R2:=λx y H Q=>∃a k xs,x=.ref a/\y=.int k/\H a=aa (.lst xs)/\(0<=k/\k<1000/\xs.length<=1000)/\∀p,H p=af->Q (.ref p) (upd H p (.lst (aH k.toNat xs).flatten))
def Zcb :OpR X (eO .Mult) Zco:=by
 intro pq s σ H x y v u Q I rx ry h;obtain⟨a,k,xs,rfl,rfl,hx,⟨k0,k1,hz⟩,q2⟩:=h;cases rx;obtain⟨t,rfl⟩:=ry;obtain⟨its,r,pl,_⟩:=I.list (SqL.of hx);have hl:=r.length;obtain⟨⟨cls,dd,data,sl⟩,n,ho,hc,hd2,hd⟩:=id pl;simp only at hc hd hd2;subst hc hd;have hm:k.toNat*its.length<=1000*1000:=kD (by lia) (by lia)
 have hm2:its.length*k.toNat<=1000*1000:=by rw[lQ];exact hm
 refine kQ (by decide) ⟨_,ho,rfl⟩ (λs'=>lP s' k t) noFill_list_mul pc iT repeat_list F.slot_int_index.lookup
  (fY iT (lP s k t) oK (oi _ _) (lm_int_rmul_list_any k t a its.toArray n dd sl) ⟨ho,rfl,⟨_,ho,rfl⟩,
   fY F.slot_list_mul ⟨_,ho,rfl⟩ F.entry_list_mul (F.args_list_mul_2 _ _) (lm_list_mul_any a its.toArray n dd sl k t (by simp[eD.List.listFitsIndex];lia) (by rw[ay];lia) (by rw[ay];simp[gD,bi];lia)) ⟨ho,?_⟩⟩)
 have joined:(aH (if its.toArray.isEmpty=aj then 0 else k.toNat) its.toArray).foldl (λx1 x2=>x1++x2) #[]=(aH k.toNat its).flatten.toArray:=by
  have h0:=Vj its k.toNat [];rw[eM]at h0;by_cases z:its=[]
  ·subst z
   have e:∀m:Nat,(aH m ([]:List au)).flatten=[]:=λm=>by induction m with|zero=>rfl|succ m ih=>rw[bU,cM,ih];rfl
   rw[e];rfl
  ·rw[T8 (by rw[iK];cases its with|nil=>exact T7 rfl z|cons _ _=>exact aM)]
   exact h0
 rw[joined];refine⟨.ref s.heap.objs.size,_,I.laid (t':=s.toks) (λb ob q=>aw _ q) (aI _) ?_,rfl,q2 _ (I.hok.fresh (aI _))⟩
 refine⟨?_,_,0,r.rep k.toNat,aO _ rfl⟩;rw[JM,dm];rw[hl];lia
end Sd
namespace Sd
open PySem PySem.Spec PyProof.Rows L2
open Ev (E Sm Fn Bop Cop Ty Bf Mf)
section
variable{X:Cx}{xw:Nat->Hp->Prop}{C:Calls}{e a b c:Expr}{i j k:E}{pos:eY}
variable{ρ:Mx}{H:Hp}{S:Zr}{x y:D}{v u:V}{Q:VK}{K:ak}
def Zcw(K:ak):R2:=λx y H Q=>rI0 (λi j=>.int (i+j)) x y H Q\/(ZcI K x y H Q\/(Zav K x y H Q\/ZbD x y H Q))
def ZaV:OpR X (eO .Add) (Zcw X.K):=ZcY.or (Zbw.or (qN.or yJ))
def Zd7(st:St3 K ρ S H)(rx:Rep ρ H x v)(ry:Rep ρ H y u)(h:End K xw Rep ρ H Q (Pv.YG .add x y S)):Zcw K v u H Q:=by
 cases x with
 |int i=>cases y with|int j=>exact .inl ⟨i,j,rx.int',ry.int',End.ok h st (ZT _)⟩|_=>exact False.elim h
 |tup ds=>cases y with
  |tup es=>
   obtain⟨hl,h⟩:=End.guard h;obtain⟨p,xs,rfl,hp,r1⟩:=rx.tup';obtain⟨q,ys,rfl,hq,r2⟩:=ry.tup';have l1:=r1.length;have l2:=r2.length;by_cases z:xs=[]
   ·subst z
    have e1:=fc.mp l1.symm;subst e1;exact .inr (.inr (.inl ⟨p,q,ys,rfl,rfl,SqT.of hp,SqT.of hq,End.ok h st (Y3 hq r2)⟩))
   ·refine .inr (.inl ⟨p,q,xs,ys,rfl,rfl,SqT.of hp,SqT.of hq,z,by rw[l1,l2,<-Wt];exact hl,λz2=>?_,λ_=>h.newT st (r1.append r2)⟩)
    subst z2;have e2:=fc.mp l2.symm;subst e2;refine End.ok h st ?_;rw[cT];exact Y3 hp r1
  |_=>exact False.elim h
 |lst ds=>cases y with
  |lst es=>
   obtain⟨hl,h⟩:=End.guard h;obtain⟨p,xs,rfl,hp,_,r1⟩:=rx.lst';obtain⟨q,ys,rfl,hq,_,r2⟩:=ry.lst';exact .inr (.inr (.inr ⟨p,q,xs,ys,rfl,rfl,hp,hq,by rw[r1.length,r2.length,<-Wt];exact hl,h.newL st (r1.append r2)⟩))
  |_=>exact False.elim h
 |_=>cases y<;>exact False.elim h
def Zd1(st:St3 K ρ S H)(rx:Rep ρ H x v)(ry:Rep ρ H y u)(h:End K xw Rep ρ H Q (Pv.YG .sub x y S)):rI0 (λi j=>.int (i-j)) v u H Q:=by
 cases x with
 |int i=>cases y with|int j=>exact⟨i,j,rx.int',ry.int',End.ok h st (ZT _)⟩|_=>exact False.elim h
 |_=>cases y<;>exact False.elim h
def ZcM(K:ak):R2:=λx y H Q=>rI (λi j=>Ev.fits i=aj/\Ev.fits j=aj) (λi j=>.int (i*j)) x y H Q\/(ZcE K x y H Q\/Zco x y H Q)
def ZaU:OpR X (eO .Mult) (ZcM X.K):=Zbu.or (Zcf.or Zcb)
def Zc6(st:St3 K ρ S H)(rx:Rep ρ H x v)(ry:Rep ρ H y u)(h:End K xw Rep ρ H Q (Pv.YG .mul x y S)):ZcM K v u H Q:=by
 cases x with
 |int i=>cases y with
  |int j=>
   obtain⟨hc,h⟩:=End.guard h;exact .inl ⟨i,j,rx.int',ry.int',(aD _ _).mp hc,End.ok h st (ZT _)⟩
  |_=>exact False.elim h
 |tup ds=>cases y with
  |int k=>
   obtain⟨⟨h0,h1,h2⟩,h⟩:=End.guard h;obtain⟨p,xs,rfl,hp,r1⟩:=rx.tup';have l1:=r1.length;refine .inr <| .inl ⟨p,k,xs,rfl,ry.int',SqT.of hp,⟨h0,h1,by rw[l1];exact h2⟩,λz=>?_,λ_=>h.newT st (r1.rep k.toNat)⟩
   refine End.ok h st (Y3 hp ?_);rcases z with z|z
   ·subst z
    have e1:=fc.mp l1.symm;subst e1;have:∀m:Nat,(aH m ([]:List D)).flatten=[]:=λm=>by induction m with|zero=>rfl|succ m ih=>rw[bU,cM,ih];rfl
    rw[this];exact Rq.nil
   ·subst z
    show Rq ρ H (aH 1 ds).flatten xs;rw[bU,List.replicate_zero,cM,List.flatten_nil,cT];exact r1
  |_=>exact False.elim h
 |lst ds=>cases y with
  |int k=>
   obtain⟨⟨h0,h1,h2⟩,h⟩:=End.guard h;obtain⟨p,xs,rfl,hp,_,r1⟩:=rx.lst';exact .inr (.inr ⟨p,k,xs,rfl,ry.int',hp,⟨h0,h1,by rw[r1.length];exact h2⟩,h.newL st (r1.rep k.toNat)⟩)
  |_=>exact False.elim h
 |_=>cases y<;>exact False.elim h
def Zbi(st:St3 K ρ S H)(rx:Rep ρ H x v)(ry:Rep ρ H y u)(h:End K xw Rep ρ H Q (Pv.YG .fdiv x y S)):rI (λ_ j=>0<j/\j<Ev.big) (λi j=>.int (i / j)) v u H Q:=by
 cases x with
 |int i=>cases y with
  |int j=>
   obtain⟨hc,h⟩:=End.guard h;exact⟨i,j,rx.int',ry.int',hc,End.ok h st (ZT _)⟩
  |_=>exact False.elim h
 |_=>cases y<;>exact False.elim h
def Zdb(st:St3 K ρ S H)(rx:Rep ρ H x v)(ry:Rep ρ H y u)(h:End K xw Rep ρ H Q (Pv.YG .mod x y S)):rI (λ_ j=>0<j) (λi j=>.int (i%j)) v u H Q:=by
 cases x with
 |int i=>cases y with
  |int j=>
   obtain⟨hc,h⟩:=End.guard h;exact⟨i,j,rx.int',ry.int',hc,End.ok h st (ZT _)⟩
  |_=>exact False.elim h
 |_=>cases y<;>exact False.elim h
theorem ZcZ(st:St3 K ρ S H)(rx:Rep ρ H x v)(ry:Rep ρ H y u)(h:End K xw Rep ρ H Q (Pv.YG .pow x y S)):rI CPow (λi j=>.int (i^j.toNat)) v u H Q:=by
 cases x with
 |int i=>cases y with
  |int j=>
   obtain⟨hc,h⟩:=End.guard h;exact⟨i,j,rx.int',ry.int',⟨hc.1,by lia,hc.2.2⟩,End.ok h st (ZT _)⟩
  |_=>exact False.elim h
 |_=>cases y<;>exact False.elim h
def yz(ha:CE X xw C a i)(hb:CE X xw C b j):CE X xw C (.BinOp a .Add b pos) (.bin .add i j):=PE.imp (VJ ZaV ha hb) (XX λst rx ry h=>Zd7 st rx ry h)
def yw(ha:CE X xw C a i)(hb:CE X xw C b j):CE X xw C (.BinOp a .Sub b pos) (.bin .sub i j):=PE.imp (VJ Zdj ha hb) (XX λst rx ry h=>Zd1 st rx ry h)
def xI(ha:CE X xw C a i)(hb:CE X xw C b j):CE X xw C (.BinOp a .Mult b pos) (.bin .mul i j):=PE.imp (VJ ZaU ha hb) (XX λst rx ry h=>Zc6 st rx ry h)
def J1(ha:CE X xw C a i)(hb:CE X xw C b j):CE X xw C (.BinOp a .FloorDiv b pos) (.bin .fdiv i j):=PE.imp (VJ qJ ha hb) (XX λst rx ry h=>Zbi st rx ry h)
def yR(ha:CE X xw C a i)(hb:CE X xw C b j):CE X xw C (.BinOp a .Mod b pos) (.bin .mod i j):=PE.imp (VJ ZdK ha hb) (XX λst rx ry h=>Zdb st rx ry h)
def xy(ha:CE X xw C a i)(hb:CE X xw C b j):CE X xw C (.BinOp a .Pow b pos) (.bin .pow i j):=PE.imp (VJ Zdy ha hb) (XX λst rx ry h=>ZcZ st rx ry h)
def xi(ha:CE X xw C a i):CE X xw C (.UnaryOp .USub a pos) (.neg i):=PE.imp (ZcJ jS ha) λσ H Q ⟨ρ,l,S,st,lr,h⟩=>by
 refine⟨ρ,l,S,st,lr,End.bind (h) λx S1 ρ1 H1 v f1 st1 r1 h1=>?_⟩
 cases x with|int n=>exact⟨n,r1.int',End.ok h1 st1 (ZT _)⟩|_=>exact False.elim h1
def GP(st:St3 K ρ S H)(rx:Rep ρ H x v)(h:Pv.Zv x=aa n):Zb3 K v H n:=by
 cases x with
 |non=>rw[rx.non'];exact(am h).symm
 |bl b=>rw[rx.bl'];exact(am h).symm
 |int i=>
  rw[rx.int'];have h':=am h;rw[<-h'];by_cases z:i=0
  ·subst z;rfl
  ·rw[T5 z];exact(bne_iff_ne.mpr z).symm
 |tup ds=>
  obtain⟨p,xs,rfl,hp,r⟩:=rx.tup';have h':=am h;refine .inr (.inl ⟨xs,SqT.of hp,?_⟩);rw[<-h'];have:=r.length;cases ds<;>cases xs<;>first|rfl|(simp at this)
 |lst ds=>
  obtain⟨p,xs,rfl,hp,_,r⟩:=rx.lst';refine .inl ⟨xs,SqL.of hp,?_⟩;rw[<-am h];have:=r.length;cases ds<;>cases xs<;>first|rfl|(simp at this)
 |_=>cases h
def xu(ha:CE X xw C a i)(he:∀whole,isTrue a X.env whole=(do let v <-whole;kR a.pos;iF [v] (rP v)):=by intro _;rfl):CT X xw C a i:=
 PT.imp (jq ha he) λσ H Q ⟨ρ,l,S,st,lr,h⟩=>by
  refine⟨ρ,l,S,st,lr,End.bind (h) λx S1 ρ1 H1 v f1 st1 r1 h1=>?_⟩
  cases q:Pv.Zv x with|none=>rw[q]at h1;exact False.elim h1|some n=>rw[q]at h1;exact⟨n,GP st1 r1 q,End.ok h1 st1 rfl⟩
def yM(ha:CT X xw C a i):CT X xw C (.UnaryOp .Not a pos) (.not i):=PT.imp (j6 ha) λσ H Q ⟨ρ,l,S,st,lr,h⟩=>by
 refine⟨ρ,l,S,st,lr,?_⟩;have h':End X.K xw J7 ρ H Q (((Pv.pv C i l S).bind λx S=>(Pv.po (Pv.Zv x) S).bind λb S=>.ok (.bl !b) S).bind λx S=>Pv.po (Pv.Zv x) S):=h
 show End X.K xw J7 ρ H (λc H1=>Q (!c) H1) ((Pv.pv C i l S).bind λx S=>Pv.po (Pv.Zv x) S)
 cases q:Pv.pv C i l S with
 |no=>rw[q]at h';exact h'
 |ex c S1=>rw[q]at h';exact h'
 |ok x S1=>
  rw[q]at h';show End X.K xw J7 ρ H _ (Pv.po (Pv.Zv x) S1);have h2:End X.K xw J7 ρ H Q (((Pv.po (Pv.Zv x) S1).bind λb S=>.ok (.bl !b) S).bind λx S=>Pv.po (Pv.Zv x) S):=h'
  cases t:Pv.Zv x with
  |none=>rw[t]at h2;exact h2
  |some n=>
   rw[t]at h2;intro ρ1 H1 w f1 st1 e;exact h2 ρ1 H1 (!w) f1 st1 (by rw[<-(e)];rfl)
def xK(ha:CE X xw C a i):CE X xw C (.UnaryOp .Not a pos) (.not i):=by
 intro pq s σ H Q I hq;obtain⟨ρ,l,S,st,lr,h⟩:=hq;have h':=h
 refine UnaryOp_ (thn (ha pq s σ H (λv H1=>∃k,Zb3 X.K v H1 k/\Q (.bl !k) H1) I ⟨ρ,l,S,st,lr,End.bind h' λx S1 ρ1 H1 v f1 st1 r1 h1=>?_⟩) λv s1 ⟨x,H1,I1,r1,q1⟩=>?_)
 ·cases q:Pv.Zv x with|none=>rw[q]at h1;exact False.elim h1|some n=>rw[q]at h1;exact⟨n,GP st1 r1 q,End.ok h1 st1 (Z9 _)⟩
 ·obtain⟨k,tk,q2⟩:=q1
  refine not_of (thn (qR pq s1 σ H1 x v (λk' H'=>Q (.bl !k') H') I1 r1 ⟨k,tk,q2⟩) λk' s2 ⟨H2,I2,q3⟩=>?_)
  exact⟨.bl (!k'),H2,I2,rfl,q3⟩
def xt{rest:List Expr}(ha:CE X xw C a i)(hb:CE X xw C (.BoolOp .And (b::rest) pos) j):CE X xw C (.BoolOp .And (a::b::rest) pos) (.and i j):=PE.imp (ZcU ha hb) λσ H Q ⟨ρ,l,S,st,lr,h⟩=>by
 refine⟨ρ,l,S,st,lr,End.bind (h) λx S1 ρ1 H1 v f1 st1 r1 h1=>?_⟩
 cases x with
 |bl c=>
  refine⟨c,r1.bl',?_⟩;cases c with|true=>exact⟨ρ1,l,S1,st1,lr.mono f1,h1⟩|false=>exact End.ok h1 st1 (Z9 _)
 |_=>exact False.elim h1
def jG{rest:List Expr}(ha:CE X xw C a i)(hb:CE X xw C (.BoolOp .Or (b::rest) pos) j):CE X xw C (.BoolOp .Or (a::b::rest) pos) (.or i j):=PE.imp (Zeo ha hb) λσ H Q ⟨ρ,l,S,st,lr,h⟩=>by
 refine⟨ρ,l,S,st,lr,End.bind (h) λx S1 ρ1 H1 v f1 st1 r1 h1=>?_⟩
 cases x with
 |bl c=>
  refine⟨c,r1.bl',?_⟩;cases c with|false=>exact⟨ρ1,l,S1,st1,lr.mono f1,h1⟩|true=>exact End.ok h1 st1 (Z9 _)
 |_=>exact False.elim h1
def CWh(X:Cx)(xw:Nat->Hp->Prop)(C:Calls)(e:Expr)(i:E):Prop:=PW X e (tB3 X xw (Pv.YN C i))
def CWh.ct(h:CWh X xw C e i):CT X xw C e i:=PW.pt h
def PW.imp(h:PW X e t)(k:∀σ H Q,t' σ H Q->t σ H Q):PW X e t':=λwh pq s σ H Q I q=>h wh pq s σ H Q I (k σ H Q q)
def xF(ha:CT X xw C a i):CWh X xw C (.BoolOp .Or [a] pos) i:=u6 ha
def vj{rest:List Expr}(ha:CT X xw C a i)(hb:CWh X xw C (.BoolOp .Or (b::rest) pos) j):CWh X xw C (.BoolOp .Or (a::b::rest) pos) (.or i j):=PW.imp (ZcO ha hb) λσ H Q ⟨ρ,l,S,st,lr,h⟩=>by
 have h':End X.K xw J7 ρ H Q (((Pv.pv C i l S).bind λx S=>match x with|.bl c=>if c then .ok (.bl aj) S else Pv.pv C j l S|_=>.no).bind λx S=>Pv.po (Pv.Zv x) S):=h
 refine⟨ρ,l,S,st,lr,?_⟩;show End X.K xw J7 ρ H _ ((Pv.pv C i l S).bind λx S=>Pv.po (Pv.Zv x) S)
 cases q:Pv.pv C i l S with
 |no=>rw[q]at h';exact h'
 |ex c S1=>rw[q]at h';exact h'
 |ok x S1=>
  rw[q]at h';cases x with
  |bl n=>
   intro ρ1 H1 w f1 st1 e;have e':n=w:=e;subst e';cases n with|false=>exact⟨ρ1,l,S1,st1,lr.mono f1,End.mono f1 (h')⟩|true=>exact(h') ρ1 H1 aj f1 st1 rfl
  |_=>exact False.elim h'
end
section
variable{K:ak}{ρ:Mx}{H:Hp}{S:Zr}
theorem U4{f:D->D->Option Bool}(hf:∀x y v b,Rep ρ H x v->Rep ρ H y v->f x y=aa b->b=aj):∀{ds es:List D}{xs:List V}{b:Bool},Rq ρ H ds xs->Rq ρ H es xs->Pv.Ys f ds es=aa b->b=aj
 |[],[],_,b,_,_,h=>(am h).symm
 |d::ds,e::es,_,b,r1,r2,h=>by
  obtain⟨v,vs,rfl,a1,b1⟩:=r1;obtain⟨v',vs',e',a2,b2⟩:=r2;cases e';unfold Pv.Ys at h;cases q1:f d e with
  |none=>rw[q1]at h;cases h
  |some p=>
   cases q2:Pv.Ys f ds es with
   |none=>rw[q1,q2]at h;cases h
   |some q=>
    rw[q1,q2]at h;have h':=am h;rw[<-h',hf d e v p a1 a2 q1,U4 hf b1 b2 q2];rfl
 |[],_::_,_,b,r1,r2,h=>by
  have l1:=r1.length;have l2:=r2.length;rw[l1]at l2;simp at l2
 |_::_,[],_,b,r1,r2,h=>by
  have l1:=r1.length;have l2:=r2.length;rw[l1]at l2;simp at l2
def Rep.sc{x y:D}{v:V}(r1:Rep ρ H x v)(r2:Rep ρ H y v)(h:∀a,v≠.ref a):x=y:=by
 cases x<;>cases y<;>unfold Rep at r1 r2<;>subst_vars<;>first
  |rfl
  |(cases r2;rfl)
  |(cases r1;rfl)
  |(obtain⟨a,z,_⟩:=r1;exact T7 z (h a))
  |(obtain⟨a,z,_⟩:=r2;exact T7 z (h a))
  |(obtain⟨a,_,z,_⟩:=r1;exact T7 z (h a))
  |(obtain⟨a,_,z,_⟩:=r2;exact T7 z (h a))
  |cases r1
  |cases r2
def j4{k:Nat}{x:D}{v:V}{b:Bool}(r:Rep ρ H x v)(hv:∀a,v≠.ref a)(h:Pv.eqV (k+1) x x=aa b):b=aj:=by
 cases x<;>first
  |exact(am h).symm
  |(rw[<-am h];exact T5 rfl)
  |exact Ev.nos h
  |(obtain⟨a,_,z,_⟩:=r.tup';exact T7 z (hv a))
  |(obtain⟨a,_,z,_⟩:=r.lst';exact T7 z (hv a))
theorem Rep.ref{x:D}{p:aC}(r:Rep ρ H x (.ref p)){y:D}{k:Nat}{b:Bool}(h:Pv.eqV (k+1) x y=aa b\/Pv.eqV (k+1) y x=aa b):(∃ds es,x=.tup ds/\y=.tup es)\/∃ds es,x=.lst ds/\y=.lst es:=by
 cases x with
 |tup ds=>cases y<;>first|exact .inl ⟨_,_,rfl,rfl⟩|(rcases h with h|h<;>exact Ev.nos h)
 |lst ds=>cases y<;>first|exact .inr ⟨_,_,rfl,rfl⟩|(rcases h with h|h<;>exact Ev.nos h)
 |non=>cases r.non'
 |bl _=>cases r.bl'
 |int _=>cases r.int'
 |str _=>cases r.str'
 |_=>cases y<;>rcases h with h|h<;>exact Ev.nos h
theorem WC:∀(k:Nat)(x y:D)(v:V)(b:Bool),Rep ρ H x v->Rep ρ H y v->Pv.eqV k x y=aa b->b=aj
 |0,_,_,_,_,_,_,h=>by cases h
 |k+1,x,y,v,b,r1,r2,h=>by
  by_cases hv:∃a,v=.ref a
  ·obtain⟨p,rfl⟩:=hv
   rcases r1.ref (.inl h)with⟨ds,es,rfl,rfl⟩|⟨ds,es,rfl,rfl⟩
   ·obtain⟨_,_,z,e1,q1⟩:=r1.tup'
    cases z;obtain⟨_,_,z,e2,q2⟩:=r2.tup';cases z;rw[e1]at e2;cases e2;exact U4 (λx y v b=>WC k x y v b) q1 q2 h
   ·obtain⟨_,_,z,e1,_,q1⟩:=r1.lst'
    cases z;obtain⟨_,_,z,e2,_,q2⟩:=r2.lst';cases z;rw[e1]at e2;cases e2;have h:(if ds.length=es.length then Pv.Ys (Pv.eqV k) ds es else aa al)=aa b:=h
    rw[T9 (by rw[<-q1.length,q2.length])]at h
    exact U4 (λx y v b=>WC k x y v b) q1 q2 h
  ·have hv:=λa z=>hv ⟨a,z⟩
   cases r1.sc r2 hv;exact j4 r1 hv h
noncomputable def eAt(f:D->D->Option Bool)(ds es:List D)(j:Nat):Bool:=match ds[j]?,es[j]? with
 |some x,aa y=>(f x y).getD al
 |_,_=>al
theorem Y4{f:D->D->Option Bool}:∀{ds es:List D}{b:Bool},Pv.Ys f ds es=aa b->
  ((aY (rn ds.length es.length)).all (eAt f ds es)&&ds.length == es.length)=b/\∀j x y,ds[j]?=aa x->es[j]?=aa y->f x y=aa (eAt f ds es j)
 |[],[],b,h=>⟨am h,λj x y e=>by simp at e⟩
 |[],_::es,b,h=>⟨by rw[<-am h];simp,λj x y e=>by simp at e⟩
 |_::ds,[],b,h=>⟨by rw[<-am h];simp,λj x y _ e=>by simp at e⟩
 |d::ds,e::es,b,h=>by
  unfold Pv.Ys at h;cases q1:f d e with
  |none=>rw[q1]at h;cases h
  |some p=>
   cases q2:Pv.Ys f ds es with
   |none=>rw[q1,q2]at h;cases h
   |some q=>
    rw[q1,q2]at h;obtain⟨ih,ih2⟩:=Y4 q2;have h':=am h;have e0:eAt f (d::ds) (e::es) 0=p:=by simp[eAt,q1]
    have es':∀j,eAt f (d::ds) (e::es) (j+1)=eAt f ds es j:=λj=>by simp[eAt]
    refine⟨?_,λj x y hx hy=>?_⟩
    ·rw[<-h',<-ih,aQ,aQ,Nat.succ_min_succ,lR,iG,e0,gZ]
     have:((aY (rn ds.length es.length)).all (eAt f (d::ds) (e::es)∘Nat.succ))=(aY (rn ds.length es.length)).all (eAt f ds es):=by
      exact congrArg (λg=>(aY (rn ds.length es.length)).all g) (funext λj=>es' j)
     rw[this,Bool.and_assoc]
     congr 2
     simp
    ·cases j with
     |zero=>
      simp at hx hy;subst hx hy;rw[e0];exact q1
     |succ j=>
      rw[es' j];exact ih2 j x y (by simpa using hx) (by simpa using hy)
end
section
variable{X:Cx}{pq:List (aC×eG)}{σ:L2.St}{H:Hp}{s:ax}{ρ:Mx}{S:Zr}
theorem YM{A:bQ}{k:Nat}(h:A.units+(k+1)<dz):A.in1.units+k<dz:=by
 have e:A.in1.units<=A.units+1:=by
  first|exact aI _|(simp[bQ.in1,bQ.units]<;>lia)
 lia
theorem y8(I:Inv X pq σ H s):∀(k:Nat)(A:bQ)(x y:D)(v u:V)(vv uu:au)(b:Bool),A.units+k<dz->Rep ρ H x v->Rep ρ H y u->Zu v vv->Zu u uu->Pv.eqV k x y=aa b->iz A s vv uu b
 |0,_,_,_,_,_,_,_,_,_,_,_,_,_,h=>by cases h
 |k+1,A,x,y,v,u,vv,uu,b,hu,r1,r2,e1,e2,h=>by
  have flat:vg v=aj->vg u=aj->eqV v u=b->iz A s vv uu b:=λf1 f2 e=>by rw[<-e];exact ZcX e1 e2 f1 f2
  have bb:∀{a c:Bool},(a == c)=ag (a=c):=λ{a c}=>by cases a<;>cases c<;>rfl
  have ii:∀{a c:Int},(a == c)=ag (a=c):=λ{a c}=>by rw[cw];simp
  have ss:∀{a c:bn},(a == c)=ag (a=c):=λ{a c}=>by rw[cw];simp
  have item:∀{ds es:List D}{xs ys:List V}(j:Nat)(its its2:List au)(j1:j<its.toArray.size)(j2:j<its2.toArray.size),its.toArray.size=ds.length->its2.toArray.size=es.length->Vals xs its->Vals ys its2->Rq ρ H ds xs->Rq ρ H es ys->(∀j x y,ds[j]?=aa x->es[j]?=aa y->Pv.eqV k x y=aa (eAt (Pv.eqV k) ds es j))->iz A.in1 s its.toArray[j] its2.toArray[j] (eAt (Pv.eqV k) ds es j):=λ{ds es xs ys} j its its2 j1 j2 n1 n2 v1 v2 q1 q2 ea=>by
   have d1:ds[j]?=aa ds[j]:=ai (by lia)
   have d2:es[j]?=aa es[j]:=ai (by lia)
   obtain⟨w1,g1,z1⟩:=q1.get d1;obtain⟨w2,g2,z2⟩:=q2.get d2;obtain⟨m1,k1,y1⟩:=v1.get g1;obtain⟨m2,k2,y2⟩:=v2.get g2;have o1:its.toArray[j]=m1:=by simpa using(aG.mp k1).2
   have o2:its2.toArray[j]=m2:=by simpa using(aG.mp k2).2
   rw[o1,o2];exact y8 I k A.in1 ds[j] es[j] w1 w2 m1 m2 _ (YM hu) z1 z2 y1 y2 (ea j _ _ d1 d2)
  cases x with
  |non=>
   cases r1.non';cases y with|non=>cases r2.non';exact flat rfl rfl (am h)|bl _=>cases r2.bl';exact flat rfl rfl (am h)|int _=>cases r2.int';exact flat rfl rfl (am h)|str _=>cases r2.str';exact flat rfl rfl (am h)|_=>exact Ev.nos h
  |bl i=>
   cases r1.bl';cases y with|non=>cases r2.non';exact flat rfl rfl (am h)|bl _=>cases r2.bl';exact flat rfl rfl (bb.trans (am h))|int _=>cases r2.int';exact flat rfl rfl (ii.trans (am h))|str _=>cases r2.str';exact flat rfl rfl (am h)|_=>exact Ev.nos h
  |int i=>
   cases r1.int';cases y with|non=>cases r2.non';exact flat rfl rfl (am h)|bl _=>cases r2.bl';exact flat rfl rfl (ii.trans (am h))|int _=>cases r2.int';exact flat rfl rfl (ii.trans (am h))|str _=>cases r2.str';exact flat rfl rfl (am h)|_=>exact Ev.nos h
  |str i=>
   cases r1.str';cases y with|non=>cases r2.non';exact flat rfl rfl (am h)|bl _=>cases r2.bl';exact flat rfl rfl (am h)|int _=>cases r2.int';exact flat rfl rfl (am h)|str _=>cases r2.str';exact flat rfl rfl (ss.trans (am h))|_=>exact Ev.nos h
  |tup ds=>
   obtain⟨p,xs,rfl,hp,q1⟩:=r1.tup';cases e1;cases y with
   |tup es=>
    obtain⟨p',ys,rfl,hp',q2⟩:=r2.tup';cases e2;by_cases hpp:p=p'
    ·subst hpp
     rw[WC (k+1) (.tup ds) (.tup es) (.ref p) b r1 r2 h];exact iR _
    ·obtain⟨its,v1,t1,_⟩:=I.tuple (SqT.of hp)
     obtain⟨its2,v2,t2,_⟩:=I.tuple (SqT.of hp');have h':=h;obtain⟨ev,ea⟩:=Y4 h';have n1:its.toArray.size=ds.length:=by rw[ay,<-v1.length,q1.length]
     have n2:its2.toArray.size=es.length:=by rw[ay,<-v2.length,q2.length]
     refine kE hpp ?_;rw[<-ev,<-n1,<-n2];exact kX t1 t2 (by lia) λj j1 j2=>item j its its2 j1 j2 n1 n2 v1 v2 q1 q2 ea
   |_=>exact Ev.nos h
  |lst ds=>
   obtain⟨p,xs,rfl,u1,_,q1⟩:=r1.lst';cases e1;cases y with
   |lst es=>
    obtain⟨p',ys,rfl,u2,_,q2⟩:=r2.lst';cases e2;by_cases hpp:p=p'
    ·subst hpp
     rw[WC (k+1) (.lst ds) (.lst es) (.ref p) b r1 r2 h];exact iR _
    ·obtain⟨its,v1,p1,_⟩:=I.list (SqL.of u1)
     obtain⟨its2,v2,p2,_⟩:=I.list (SqL.of u2);have n1:its.toArray.size=ds.length:=by rw[ay,<-v1.length,q1.length]
     have n2:its2.toArray.size=es.length:=by rw[ay,<-v2.length,q2.length]
     refine kE hpp ?_;have h2:(if ds.length=es.length then Pv.Ys (Pv.eqV k) ds es else aa al)=aa b:=h
     by_cases hl:ds.length=es.length
     ·rw[T9 hl]at h2
      obtain⟨ev,ea⟩:=Y4 h2;have ev':(aY ds.length).all (eAt (Pv.eqV k) ds es)=b:=by
       rw[<-ev,<-hl,oj];simp
      rw[<-ev',<-n1];exact oM p1.isList p2.isList (by lia) (by lia) λj j1 j2=>item j its its2 j1 j2 n1 n2 v1 v2 q1 q2 ea
     ·rw[T8 hl]at h2
      rw[<-am h2];exact lc p1.isList p2.isList (bne_iff_ne.mpr (by lia)) (by lia)
   |_=>exact Ev.nos h
  |_=>exact Ev.nos h
end
section
variable{X:Cx}{pq:List (aC×eG)}{σ:L2.St}{H:Hp}{s:ax}{ρ:Mx}{S:Zr}
theorem WR(I:Inv X pq σ H s){k:Nat}{A:bQ}{ds es:List D}{xs ys:List V}{its its2:List au}{b:Bool}(hu:A.units+(k+1)<dz)
  (q1:Rq ρ H ds xs)(q2:Rq ρ H es ys)(v1:Vals xs its)(v2:Vals ys its2)(h:Pv.Ys (Pv.eqV k) ds es=aa b) :
  ∀j (h1:j<its.toArray.size) (h2:j<its2.toArray.size),iz A.in1 s its.toArray[j] its2.toArray[j] (eAt (Pv.eqV k) ds es j):=λj j1 j2=>by
 obtain⟨_,ea⟩:=Y4 h;have n1:its.toArray.size=ds.length:=by rw[ay,<-v1.length,q1.length]
 have n2:its2.toArray.size=es.length:=by rw[ay,<-v2.length,q2.length]
 have d1:ds[j]?=aa ds[j]:=ai (by lia)
 have d2:es[j]?=aa es[j]:=ai (by lia)
 obtain⟨w1,g1,z1⟩:=q1.get d1;obtain⟨w2,g2,z2⟩:=q2.get d2;obtain⟨m1,k1,y1⟩:=v1.get g1;obtain⟨m2,k2,y2⟩:=v2.get g2;have o1:its.toArray[j]=m1:=by
  have:=aG.mp k1
  simpa using this.2
 have o2:its2.toArray[j]=m2:=by
  have:=aG.mp k2
  simpa using this.2
 rw[o1,o2];exact y8 I k A.in1 ds[j] es[j] w1 w2 m1 m2 _ (YM hu) z1 z2 y1 y2 (ea j _ _ d1 d2)
end
section
variable{X:Cx}{xw:Nat->Hp->Prop}{C:Calls}{e a b c:Expr}{i j k:E}{pos p p':eY}
def Zbn(K:ak)(xw:Nat->Hp->Prop)(op:Cop):R2:=λv u H Q=>∃ρ S x y,St3 K ρ S H/\Rep ρ H x v/\Rep ρ H y u/\End K xw Rep ρ H Q (Pv.po (Pv.Yq op x y) S)
def Zef :∀σ H Q,tE X xw (Pv.pv C (.cmp op i j)) σ H Q->tOp (Zbn X.K xw op) (tE X xw (Pv.pv C i)) (tE X xw (Pv.pv C j)) σ H Q:=λσ H Q h=>
 XX (λ{ρ H S x y v u Q} st rx ry h=>⟨ρ,S,x,y,st,rx,ry,h⟩) σ H Q h
def dI{a c:Int}:(a == c)=ag (a=c):=by rw[cw];simp
def wc{H:Hp}{ρ:Mx}{k:Nat}{x y:D}{v u:V}{b:Bool}(rx:Rep ρ H x v)(ry:Rep ρ H y u)(hb:Pv.eqV (k+1) x y=aa b):(scal v u=aj/\ag (v=u)=b)\/(∃i j,v=.bl i/\u=.int j/\ag (Ev.b2i i=j)=b)\/(∃i j,v=.int i/\u=.bl j/\ag (i=Ev.b2i j)=b)\/(∃ds es,x=.tup ds/\y=.tup es/\Pv.Ys (Pv.eqV k) ds es=aa b)\/∃ds es,x=.lst ds/\y=.lst es/\(if ds.length=es.length then Pv.Ys (Pv.eqV k) ds es else aa al)=aa b:=by
 cases x with
 |non=>cases rx.non';cases y with|non=>cases ry.non';exact .inl ⟨rfl,am hb▸by simp⟩|bl _=>cases ry.bl';exact .inl ⟨rfl,am hb⟩|int _=>cases ry.int';exact .inl ⟨rfl,am hb⟩|str _=>cases ry.str';exact .inl ⟨rfl,am hb⟩|_=>exact Ev.nos hb
 |bl i=>cases rx.bl';cases y with|non=>cases ry.non';exact .inl ⟨rfl,am hb⟩|bl j=>cases ry.bl';exact .inl ⟨rfl,am hb▸by simp⟩|int j=>cases ry.int';exact .inr (.inl ⟨i,j,rfl,rfl,am hb⟩)|str _=>cases ry.str';exact .inl ⟨rfl,am hb⟩|_=>exact Ev.nos hb
 |int i=>cases rx.int';cases y with|non=>cases ry.non';exact .inl ⟨rfl,am hb⟩|bl j=>cases ry.bl';exact .inr (.inr (.inl ⟨i,j,rfl,rfl,am hb⟩))|int _=>cases ry.int';exact .inl ⟨rfl,am hb▸by simp⟩|str _=>cases ry.str';exact .inl ⟨rfl,am hb⟩|_=>exact Ev.nos hb
 |str i=>cases rx.str';cases y with|non=>cases ry.non';exact .inl ⟨rfl,am hb⟩|bl _=>cases ry.bl';exact .inl ⟨rfl,am hb⟩|int _=>cases ry.int';exact .inl ⟨rfl,am hb⟩|str _=>cases ry.str';exact .inl ⟨rfl,am hb▸by simp⟩|_=>exact Ev.nos hb
 |tup ds=>cases y with|tup es=>exact .inr (.inr (.inr (.inl ⟨ds,es,rfl,rfl,hb⟩)))|_=>exact Ev.nos hb
 |lst ds=>cases y with|lst es=>exact .inr (.inr (.inr (.inr ⟨ds,es,rfl,rfl,hb⟩)))|_=>exact Ev.nos hb
 |_=>exact Ev.nos hb
theorem ZdV(hu:X.A.units+6<dz):OpR X (cK .Eq) (Zbn X.K xw .eq):=by
 intro pq s σ H v u vv uu Q I e1 e2 h;obtain⟨ρ,S,x,y,st,rx,ry,h⟩:=h;obtain⟨b,hb,h1⟩:=End.map h;have q:=End.ok h1 st (Z9 b);rcases wc rx ry hb with⟨hs,e⟩|⟨i,j,rfl,rfl,e⟩|⟨i,j,rfl,rfl,e⟩|⟨ds,es,rfl,rfl,hb'⟩|⟨ds,es,rfl,rfl,h2⟩
 ·exact ZeK pq s σ H v u vv uu Q I e1 e2 ⟨hs,by rw[e];exact q⟩
 ·cases e1
  obtain⟨t,rfl⟩:=e2;refine EqBoolInt.eq_bool_int ⟨.bl b,H,I,?_,q⟩;show bO ((if i then 1 else 0) == j)=bO b
  rw[dI];exact congrArg bO e
 ·cases e2
  obtain⟨t,rfl⟩:=e1;refine EqBoolInt.eq_int_bool ⟨.bl b,H,I,?_,q⟩;show bO (i == (if j then 1 else 0))=bO b
  rw[dI];exact congrArg bO e
 ·
  obtain⟨p,xs,rfl,hp,q1⟩:=rx.tup';cases e1;obtain⟨p',ys,rfl,hp',q2⟩:=ry.tup';cases e2;obtain⟨its,v1,t1,_⟩:=I.tuple (SqT.of hp);obtain⟨its2,v2,t2,_⟩:=I.tuple (SqT.of hp');obtain⟨ev,_⟩:=Y4 hb';have n1:its.toArray.size=ds.length:=by rw[ay,<-v1.length,q1.length]
  have n2:its2.toArray.size=es.length:=by rw[ay,<-v2.length,q2.length]
  refine kX t1 t2 (by lia) (WR I hu q1 q2 v1 v2 hb') X.prog X.w X.xe _ ?_
  rw[n1,n2,ev];exact⟨.bl b,H,I,rfl,q⟩
 ·
  obtain⟨p,xs,rfl,u1,_,q1⟩:=rx.lst';cases e1;obtain⟨p',ys,rfl,u2,_,q2⟩:=ry.lst';cases e2;obtain⟨its,v1,p1,_⟩:=I.list (SqL.of u1);obtain⟨its2,v2,p2,_⟩:=I.list (SqL.of u2);have n1:its.toArray.size=ds.length:=by rw[ay,<-v1.length,q1.length]
  have n2:its2.toArray.size=es.length:=by rw[ay,<-v2.length,q2.length]
  by_cases hl:ds.length=es.length
  ·rw[T9 hl]at h2
   obtain⟨ev,_⟩:=Y4 h2;have ev':(aY ds.length).all (eAt (Pv.eqV 5) ds es)=b:=by
    rw[<-ev,<-hl,oj];simp
   refine oM p1.isList p2.isList (by lia) (by lia) (WR I hu q1 q2 v1 v2 h2) X.prog X.w X.xe _ ?_
   rw[n1,ev'];exact⟨.bl b,H,I,rfl,q⟩
  ·rw[T8 hl]at h2
   refine lc p1.isList p2.isList (bne_iff_ne.mpr (by lia)) (by lia) X.prog X.w X.xe _ ?_
   exact⟨.bl b,H,I,congrArg bO (am h2),q⟩
theorem Zdf(hu:X.A.units+6<dz):OpR X (cK .NotEq) (Zbn X.K xw .ne):=by
 intro pq s σ H v u vv uu Q I e1 e2 h;obtain⟨ρ,S,x,y,st,rx,ry,h⟩:=h;obtain⟨b,hb,h1⟩:=End.map h;have q:=End.ok h1 st (Z9 _);rcases wc rx ry hb with⟨hs,e⟩|⟨i,j,rfl,rfl,e⟩|⟨i,j,rfl,rfl,e⟩|⟨ds,es,rfl,rfl,hb'⟩|⟨ds,es,rfl,rfl,h2⟩
 ·exact ZeL pq s σ H v u vv uu Q I e1 e2 ⟨hs,by rw[e];exact q⟩
 ·cases e1
  obtain⟨t,rfl⟩:=e2;refine EqBoolInt.ne_bool_int ⟨.bl !b,H,I,?_,q⟩;show bO (!((if i then 1 else 0) == j))=bO !b
  rw[dI];exact congrArg (λz=>bO !z) e
 ·cases e2
  obtain⟨t,rfl⟩:=e1;refine EqBoolInt.ne_int_bool ⟨.bl !b,H,I,?_,q⟩;show bO (!(i == (if j then 1 else 0)))=bO !b
  rw[dI];exact congrArg (λz=>bO !z) e
 ·
  obtain⟨p,xs,rfl,hp,q1⟩:=rx.tup';cases e1;obtain⟨p',ys,rfl,hp',q2⟩:=ry.tup';cases e2;obtain⟨its,v1,t1,_⟩:=I.tuple (SqT.of hp);obtain⟨its2,v2,t2,_⟩:=I.tuple (SqT.of hp');obtain⟨ev,_⟩:=Y4 hb';have n1:its.toArray.size=ds.length:=by rw[ay,<-v1.length,q1.length]
  have n2:its2.toArray.size=es.length:=by rw[ay,<-v2.length,q2.length]
  refine SeqAt.RcNeAt.tuples t1 t2 (by lia) (WR I hu q1 q2 v1 v2 hb') X.prog X.w X.xe _ ?_
  rw[n1,n2,ev];exact⟨.bl !b,H,I,rfl,q⟩
 ·
  obtain⟨p,xs,rfl,u1,_,q1⟩:=rx.lst';cases e1;obtain⟨p',ys,rfl,u2,_,q2⟩:=ry.lst';cases e2;obtain⟨its,v1,p1,_⟩:=I.list (SqL.of u1);obtain⟨its2,v2,p2,_⟩:=I.list (SqL.of u2);have n1:its.toArray.size=ds.length:=by rw[ay,<-v1.length,q1.length]
  have n2:its2.toArray.size=es.length:=by rw[ay,<-v2.length,q2.length]
  by_cases hl:ds.length=es.length
  ·rw[T9 hl]at h2
   obtain⟨ev,_⟩:=Y4 h2;have ev':(aY ds.length).all (eAt (Pv.eqV 5) ds es)=b:=by
    rw[<-ev,<-hl,oj];simp
   refine SeqAt.RcNeAt.lists p1.isList p2.isList (by lia) (by lia) (WR I hu q1 q2 v1 v2 h2) X.prog X.w X.xe _ ?_
   rw[n1,ev'];exact⟨.bl !b,H,I,rfl,q⟩
  ·rw[T8 hl]at h2
   refine SeqAt.RcNeAt.lists_lengths p1.isList p2.isList (bne_iff_ne.mpr (by lia)) (by lia) X.prog X.w X.xe _ ?_
   exact⟨.bl !b,H,I,congrArg (λz=>bO !z) (am h2),q⟩
end
section
variable{K:ak}{ρ:Mx}{H:Hp}{S:Zr}
theorem Ju(hf:∀x x' y v b b',Rep ρ H x v->Rep ρ H x' v->f x y=aa b->f x' y=aa b'->b=b') :
  ∀{ds ds' es:List D}{xs:List V}{b b':Bool},Rq ρ H ds xs->Rq ρ H ds' xs->Pv.Ys f ds es=aa b->Pv.Ys f ds' es=aa b'->b=b'
 |[],[],[],_,b,b',_,_,h,h'=>(am h).symm.trans (am h')
 |[],[],_::_,_,b,b',_,_,h,h'=>(am h).symm.trans (am h')
 |_::_,_::_,[],_,b,b',_,_,h,h'=>(am h).symm.trans (am h')
 |d::ds,d'::ds',e::es,_,b,b',r1,r2,h,h'=>by
  obtain⟨v,vs,rfl,a1,b1⟩:=r1;obtain⟨v',vs',e',a2,b2⟩:=r2;cases e';unfold Pv.Ys at h h';cases q1:f d e with
  |none=>rw[q1]at h;cases h
  |some p=>
   cases q2:Pv.Ys f ds es with
   |none=>rw[q1,q2]at h;cases h
   |some q=>
    cases q3:f d' e with
    |none=>rw[q3]at h';cases h'
    |some p'=>
     cases q4:Pv.Ys f ds' es with
     |none=>rw[q3,q4]at h';cases h'
     |some q'=>
      rw[q1,q2]at h;rw[q3,q4]at h';have z1:=am h;have z2:=am h';rw[<-z1,<-z2,hf d d' e v p p' a1 a2 q1 q3,Ju hf b1 b2 q2 q4]
 |[],_::_,_,_,b,b',r1,r2,_,_=>by
  have l1:=r1.length;have l2:=r2.length;rw[l1]at l2;simp at l2
 |_::_,[],_,_,b,b',r1,r2,_,_=>by
  have l1:=r1.length;have l2:=r2.length;rw[l1]at l2;simp at l2
theorem JU:∀(k:Nat)(x x' y:D)(v:V)(b b':Bool),Rep ρ H x v->Rep ρ H x' v->Pv.eqV k x y=aa b->Pv.eqV k x' y=aa b'->b=b'
 |0,_,_,_,_,_,_,_,_,h,_=>by cases h
 |k+1,x,x',y,v,b,b',r1,r2,h,h'=>by
  by_cases hv:∃a,v=.ref a
  ·obtain⟨p,rfl⟩:=hv
   rcases r1.ref (.inl h)with⟨ds,es,rfl,rfl⟩|⟨ds,es,rfl,rfl⟩<;>rcases r2.ref (.inl h')with⟨ds',es',rfl,z⟩|⟨ds',es',rfl,z⟩<;>cases z
   ·obtain⟨_,_,z,e1,q1⟩:=r1.tup'
    cases z;obtain⟨_,_,z,e2,q2⟩:=r2.tup';cases z;rw[e1]at e2;cases e2;exact Ju (λx x' y v b b'=>JU k x x' y v b b') q1 q2 h h'
   ·obtain⟨_,_,z,e1,_,q1⟩:=r1.lst'
    cases z;obtain⟨_,_,z,e2,_,q2⟩:=r2.lst';cases z;rw[e1]at e2;cases e2;have l:ds'.length=ds.length:=by rw[<-q1.length,q2.length]
    have h:(if ds.length=es.length then Pv.Ys (Pv.eqV k) ds es else aa al)=aa b:=h
    have h':(if ds'.length=es.length then Pv.Ys (Pv.eqV k) ds' es else aa al)=aa b':=h'
    rw[l]at h';by_cases c:ds.length=es.length
    ·rw[T9 c]at h h'
     exact Ju (λx x' y v b b'=>JU k x x' y v b b') q1 q2 h h'
    ·rw[T8 c]at h h'
     exact am (h.symm.trans h')
  ·cases r1.sc r2 λa z=>hv ⟨a,z⟩
   exact am (h.symm.trans h')
theorem J3 :∀{ds:List D}{b:Bool},Pv.Wj x ds=aa b->∀d∈ds,∃c,Pv.eqV Ev.Zt d x=aa c
 |[],_,_,d,hd=>by cases hd
 |y::ys,b,h,d,hd=>by
  unfold Pv.Wj at h;cases q1:Pv.eqV Ev.Zt y x with
  |none=>rw[q1]at h;cases h
  |some p=>
   cases q2:Pv.Wj x ys with
   |none=>rw[q1,q2]at h;cases h
   |some q=>
    rcases az.mp hd with rfl|hd
    ·exact⟨p,q1⟩
    ·exact J3 q2 d hd
theorem xY :∀{ds:List D}{b:Bool},Pv.Wj x ds=aa b->(ds.any λd=>(Pv.eqV Ev.Zt d x).getD al)=b
 |[],_,h=>am h
 |y::ys,b,h=>by
  unfold Pv.Wj at h;cases q1:Pv.eqV Ev.Zt y x with
  |none=>rw[q1]at h;cases h
  |some p=>
   cases q2:Pv.Wj x ys with
   |none=>rw[q1,q2]at h;cases h
   |some q=>
    rw[q1,q2]at h;rw[fI,xY q2,q1,<-am h];rfl
end
section
variable{X:Cx}{pq:List (aC×eG)}{σ:L2.St}{H:Hp}{s:ax}{ρ:Mx}{S:Zr}
open Classical in
def Wz(I:Inv X pq σ H s)(hu:A.units+6<dz)(rx:Rep ρ H x v)(ex:Zu v vv)
  (q:Rq ρ H ds xs)(vs:Vals xs its)(h:Pv.Wj x ds=aa b):∃e:au->Bool,(∀u,u∈its.toArray->iz A s u vv (e u))/\its.toArray.any e=b:=by
 refine⟨λu=>ag (∃d∈ds,∃w,Rep ρ H d w/\Zu w u/\Pv.eqV Ev.Zt d x=aa aj),λu hu'=>?_,?_⟩
 ·have hu2:u∈its:=by simpa using hu'
  obtain⟨j,hj,e⟩:=cA hu2;have hl:j<ds.length:=by rw[<-q.length,vs.length];exact hj
  obtain⟨w,g,r⟩:=q.get (ai hl);obtain⟨u',g',r'⟩:=vs.get g;have eu:u'=u:=by
   rw[ai hj]at g';exact(am g').symm.trans e
  subst eu;obtain⟨c,hc⟩:=J3 h ds[j] (aX hl);have ec:ag (∃d∈ds,∃w,Rep ρ H d w/\Zu w u'/\Pv.eqV Ev.Zt d x=aa aj)=c:=by
   cases c with
   |true=>exact T5 ⟨ds[j],aX hl,w,r,r',hc⟩
   |false=>
    refine T4 ?_
    rintro ⟨d,hd,w',a1,a2,a3⟩
    cases a2.inj r';exact T7 (JU 6 d ds[j] x w aj al a1 r a3 hc) (by decide)
  dsimp only
  rw[ec];exact y8 I 6 A ds[j] x w v u' vv c hu r rx r' ex hc
 ·rw[<-xY h,List.any_toArray,cw,gj,gj]
  constructor
  ·rintro ⟨u,hu1,h1⟩
   obtain⟨d,hd,w,a1,a2,a3⟩:=T6 h1;exact⟨d,hd,by rw[a3];rfl⟩
  ·rintro ⟨d,hd,h1⟩
   obtain⟨j,hj,e⟩:=cA hd;subst e;obtain⟨w,g,r⟩:=q.get (ai hj);obtain⟨u,g',r'⟩:=vs.get g;refine⟨u,cN g',T5 ⟨ds[j],hd,w,r,r',?_⟩⟩;obtain⟨c,hc⟩:=J3 h ds[j] hd;rw[hc]at h1 ⊢;exact congrArg aa h1
end
section
variable{X:Cx}{xw:Nat->Hp->Prop}{C:Calls}{e a b c:Expr}{i j k:E}{pos p p':eY}
def ZdM(hu:X.A.units+7<dz):OpR X (cK .In) (λv u H Q=>∃ρ S x ds b,St3 X.K ρ S H/\Rep ρ H x v/\(Rep ρ H (.tup ds) u\/Rep ρ H (.lst ds) u)/\Pv.Wj x ds=aa b/\Q (.bl b) H):=by
 intro pq s σ H v u vv uu Q I e1 e2 h;obtain⟨ρ,S,x,ds,b,st,rx,ry,hb,q⟩:=h;rcases ry with ry|ry
 ·obtain⟨p,xs,rfl,hp,q1⟩:=ry.tup'
  cases e2;obtain⟨its,v1,t1,_⟩:=I.tuple (SqT.of hp);obtain⟨f,h1,h2⟩:=Wz I (YM hu) rx e1 q1 v1 hb;exact SeqAt.in_tupleAt f t1 h1 (by rw[h2];exact⟨.bl b,H,I,rfl,q⟩)
 ·obtain⟨p,xs,rfl,hx,_,q1⟩:=ry.lst'
  cases e2;obtain⟨its,v1,t1,_⟩:=I.list (SqL.of hx);obtain⟨f,h1,h2⟩:=Wz I (YM hu) rx e1 q1 v1 hb;exact SeqAt.in_listAt f t1.isList h1 (by rw[h2];exact⟨.bl b,H,I,rfl,q⟩)
def ZaX(hu:X.A.units+7<dz):OpR X (cK .NotIn) (λv u H Q=>∃ρ S x ds b,St3 X.K ρ S H/\Rep ρ H x v/\(Rep ρ H (.tup ds) u\/Rep ρ H (.lst ds) u)/\Pv.Wj x ds=aa b/\Q (.bl !b) H):=by
 intro pq s σ H v u vv uu Q I e1 e2 h;obtain⟨ρ,S,x,ds,b,st,rx,ry,hb,q⟩:=h;rcases ry with ry|ry
 ·obtain⟨p,xs,rfl,hp,q1⟩:=ry.tup'
  cases e2;obtain⟨its,v1,t1,_⟩:=I.tuple (SqT.of hp);obtain⟨f,h1,h2⟩:=Wz I (YM hu) rx e1 q1 v1 hb;exact SeqAt.notIn_tupleAt f t1 h1 (by rw[h2];exact⟨.bl !b,H,I,rfl,q⟩)
 ·obtain⟨p,xs,rfl,hx,_,q1⟩:=ry.lst'
  cases e2;obtain⟨its,v1,t1,_⟩:=I.list (SqL.of hx);obtain⟨f,h1,h2⟩:=Wz I (YM hu) rx e1 q1 v1 hb;exact SeqAt.notIn_listAt f t1.isList h1 (by rw[h2];exact⟨.bl !b,H,I,rfl,q⟩)
variable{ρ:Mx}{H:Hp}{S:Zr}{x y:D}{v u:V}{Q:VK}{K:ak}
def Za2(h:Pv.int2 x y=aa z):x=.int z.1/\y=.int z.2:=by
 cases x<;>first|exact Ev.nos h|(cases y<;>first|exact Ev.nos h|(cases h;exact⟨rfl,rfl⟩))
def xG{f:Int×Int->Bool}(st:St3 K ρ S H)(rx:Rep ρ H x v)(ry:Rep ρ H y u)(h:End K xw Rep ρ H Q (Pv.po ((Pv.int2 x y).map λz=>.bl (f z)) S)):rI0 (λi j=>.bl (f (i,j))) v u H Q:=by
 obtain⟨z,hz,h⟩:=End.map h;obtain⟨rfl,rfl⟩:=Za2 hz;exact⟨_,_,rx.int',ry.int',End.ok h st (Z9 _)⟩
def Ze4(st:St3 K ρ S H)(rx:Rep ρ H x v)(ry:Rep ρ H y u)(h:End K xw Rep ρ H Q (Pv.po (Pv.Yq .lt x y) S)):rI0 (λi j=>.bl (ag (i<j))) v u H Q\/∃a b A B,x=.tup a/\y=.tup b/\Pv.Z3 a=aa A/\Pv.Z3 b=aa B/\Q (.bl (Ev.ltP A B)) H:=by
 cases x with
 |tup a=>cases y with
  |tup b=>
   obtain⟨z,hz,h⟩:=End.po h;obtain⟨A,hA,hz⟩:=b9.mp hz;obtain⟨B,hB,rfl⟩:=cp.mp hz;exact .inr ⟨a,b,A,B,rfl,rfl,hA,hB,End.ok h st (Z9 _)⟩
  |_=>exact False.elim h
 |_=>exact .inl (xG (f:=λz=>ag (z.1<z.2)) st rx ry h)
end
section
variable{X:Cx}{xw:Nat->Hp->Prop}{C:Calls}{e a b c:Expr}{i j k:E}{pos p p':eY}
def XO{α β γ:Type}(r:R α)(f:α->Zr->R β)(g:β->Zr->R γ):(r.bind f).bind g=r.bind λa S=>(f a S).bind g:=by cases r<;>rfl
def ym{α:Type}{o:Option α}{f:α->Bool}{z:D}(h:o.map (λa=>Pv.V.bl (f a))=aa z):∃b,z=.bl b:=by
 obtain⟨a,_,rfl⟩:=cp.mp h;exact⟨_,rfl⟩
def u8{o:Cop}{x y:D}{S S':Zr}{z:D}(h:Pv.po (Pv.Yq o x y) S=.ok z S'):∃b,z=.bl b:=by
 have h:Pv.Yq o x y=aa z:=by
  cases q:Pv.Yq o x y<;>rw[q]at h<;>cases h;rfl
 cases o with
 |lt=>
  cases x with
  |tup a=>
   cases y with|tup b=>obtain⟨A,_,h⟩:=b9.mp h;exact ym h|_=>exact Ev.nos h
  |int i=>exact ym h
  |_=>exact Ev.nos h
 |_=>exact ym h
def XD(X:Cx)(xw:Nat->Hp->Prop)(op:rT)(o:Cop):Prop:=OpR X (cK op) (Zbn X.K xw o)
def OpR.imp(h:OpR X f r)(k:∀v u H Q,r' v u H Q->r v u H Q):OpR X f r':=λpq s σ H x y v u Q I e1 e2 q=>h pq s σ H x y v u Q I e1 e2 (k x y H Q q)
theorem qT(hu:X.A.units+7<dz):XD X xw .Eq .eq:=ZdV (by lia)
theorem ZaL(hu:X.A.units+7<dz):XD X xw .NotEq .ne:=Zdf (by lia)
def QU(hu:X.A.units+7<dz):XD X xw .LtE .le:=OpR.imp ZeH λv u H Q ⟨ρ,S,x,y,st,rx,ry,h⟩=>xG st rx ry h
def jZ(hu:X.A.units+7<dz):XD X xw .GtE .ge:=OpR.imp ZeC λv u H Q ⟨ρ,S,x,y,st,rx,ry,h⟩=>xG st rx ry h
def Zc8{ρ:Mx}{H:Hp}{x y:D}{v u:V}{b:Bool}(rx:Rep ρ H x v)(ry:Rep ρ H y u)(h:Pv.isV x y=aa b):(u=.non/\ag (v=.non)=b)\/∃i j,v=.bl i/\u=.bl j/\ag (i=j)=b:=by
 cases y with
 |non=>
  refine .inl ⟨ry.non',?_⟩;rw[<-am h];cases x<;>unfold Rep at rx<;>first
   |(subst rx;rfl)
   |(obtain⟨_,z,_⟩:=rx;subst z;rfl)
   |(obtain⟨_,_,z,_⟩:=rx;subst z;rfl)
 |bl j=>cases x with|bl i=>exact .inr ⟨i,j,rx.bl',ry.bl',am h⟩|_=>exact Ev.nos h
 |_=>exact Ev.nos h
def uV(hu:X.A.units+7<dz):XD X xw .Is .is:=OpR.imp (ZdZ.or ZdB) λv u H Q ⟨ρ,S,x,y,st,rx,ry,h⟩=>by
 obtain⟨b,hb,h⟩:=End.map h;have q:=End.ok h st (Z9 b);rcases Zc8 rx ry hb with⟨e,z⟩|⟨i,j,e,e2,z⟩
 ·exact .inl ⟨e,by rw[z];exact q⟩
 ·exact .inr ⟨i,j,e,e2,by rw[z];exact q⟩
def zB{ρ:Mx}{H:Hp}{x y:D}{u:V}{b:Bool}(ry:Rep ρ H y u)(h:Pv.VO x y=aa b) :
  (∃ds,(Rep ρ H (.tup ds) u\/Rep ρ H (.lst ds) u)/\Pv.Wj x ds=aa b)\/
  (∃l k ks,Rep ρ H (.dct (aa l)) u/\x=.tup k/\Pv.intsV k=aa ks/\l.contains ks=b):=by
 cases y with
 |tup ys=>exact .inl ⟨ys,.inl ry,h⟩
 |lst ys=>exact .inl ⟨ys,.inr ry,h⟩
 |dct o=>
  cases o with
  |none=>exact Ev.nos h
  |some l=>
   cases x with
   |tup k=>
    obtain⟨ks,e,z⟩:=cp.mp h;exact .inr ⟨l,k,ks,ry,rfl,e,z⟩
   |_=>exact Ev.nos h
 |_=>exact Ev.nos h
def Xa{op:rT}{o:Cop}(hc:XD X xw op o)(ha:CE X xw C a i)(hb:CE X xw C b j)(hm:d8 op b=al:=by first|exact Z8 _|rfl|(with_unfolding_all rfl)):CE X xw C (.Compare a [op] [b] pos) (.cmp o i j):=
 PE.imp (ZbG hc ha hb hm) (Zef)
def Y9{op:rT}{o:Cop}(hc:XD X xw op o)(ha:CE X xw C a i)(hb:CE X xw C b j)(hm:d8 op b=al:=by first|exact Z8 _|rfl|(with_unfolding_all rfl)):CT X xw C (.Compare a [op] [b] pos) (.cmp o i j):=
 PT.imp (Zbz hc ha hb hm) λσ H Q ⟨ρ,l,S,st,lr,h⟩=>by
  have h':End X.K xw J7 ρ H Q (((Pv.pv C i l S).bind λx S=>(Pv.pv C j l S).bind λy S=>Pv.po (Pv.Yq o x y) S).bind λx S=>Pv.po (Pv.Zv x) S):=h
  simp only[XO]at h';refine⟨ρ,l,S,st,lr,h'.bind λx S1 ρ1 H1 v f1 st1 r1 h1=>⟨ρ1,l,S1,st1,lr.mono f1,h1.bind λy S2 ρ2 H2 u f2 st2 r2 h2=>⟨ρ2,S2,x,y,st2,r1.mono f2,r2,?_⟩⟩⟩
  have h3:∀{r:R D},(∀z S',r=.ok z S'->∃b,z=.bl b)->End X.K xw J7 ρ2 H2 Q (r.bind λx S=>Pv.po (Pv.Zv x) S)->End X.K xw Rep ρ2 H2 (λx H'=>∃k,x=V.bl k/\Q k H') r:=λ{r} hr h=>by
   cases r with
   |no=>exact h
   |ex _ _=>exact h
   |ok z S3=>
    obtain⟨b,rfl⟩:=hr z S3 rfl;exact λρ3 H3 w f3 st3 r3=>⟨b,r3.bl',h ρ3 H3 b f3 st3 rfl⟩
  exact h3 (λz S' e=>u8 e) h2
def WF{op op':rT}{o o':Cop}{d:Expr}{k:E}(hc:XD X xw op o)(hc':XD X xw op' o')(ha:CE X xw C a i)(hb:CE X xw C b j)(hd:CE X xw C d k)
  (hm:lastMarks [op,op'] [b,d]=al:=by with_unfolding_all rfl):CE X xw C (.Compare a [op,op'] [b,d] pos) (.chain o o' i j k):=
 PE.imp (ZaH hc hc' ha hb hd hm) λσ H Q ⟨ρ,l,S,st,lr,h⟩=>by
  refine⟨ρ,l,S,st,lr,End.bind (h) λx S1 ρ1 H1 v f1 st1 r1 h1=>⟨ρ1,l,S1,st1,lr.mono f1,h1.bind λy S2 ρ2 H2 u f2 st2 r2 h2=>⟨ρ2,S2,x,y,st2,r1.mono f2,r2,h2.bind λz S3 ρ3 H3 w f3 st3 r3 h3=>?_⟩⟩⟩
  cases z with
  |bl n=>
   refine⟨n,r3.bl',?_⟩;cases n with|true=>exact⟨ρ3,l,S3,st3,((lr.mono f1).mono f2).mono f3,End.bind (h3) λt S4 ρ4 H4 t' f4 st4 r4 h4=>⟨ρ4,S4,y,t,st4,(r2.mono f3).mono f4,r4,h4⟩⟩|false=>exact End.ok h3 st3 (Z9 _)
  |_=>exact False.elim h3
end
section
variable{X:Cx}{xw:Nat->Hp->Prop}{C:Calls}{e a b c:Expr}{i j k:E}{pos p p' p2:eY}
variable{ρ:Mx}{H:Hp}{S:Zr}{x y:D}{v u:V}{Q:VK}{K:ak}
def VE{d:D}{ks:List D}{k:List Int}(h:Pv.intsV (d::ks)=aa k):∃n r,d=.int n/\Pv.intsV ks=aa r/\k=n::r:=by
 cases d<;>first|exact Ev.nos h|(obtain⟨r,e,z⟩:=cp.mp h;exact⟨_,r,rfl,e,z.symm⟩)
theorem X4:∀{ks:List D}{k:List Int}{xs:List V},Pv.intsV ks=aa k->Rq ρ H ks xs->xs=(k.map (dP:Int->Key)).map kV
 |[],k,xs,h,r=>by cases h;rw[r];rfl
 |d::ks,k,xs,h,r=>by
  obtain⟨v,vs,rfl,a1,b1⟩:=r;obtain⟨n,r,rfl,e,rfl⟩:=VE h;rw[a1.int',X4 e b1];rfl
theorem Jl:∀{k k':List Int},k.map (dP:Int->Key)=k'.map dP->k=k'
 |[],[],_=>rfl
 |[],_::_,h=>by simp at h
 |_::_,[],h=>by simp at h
 |a::k,b::k',h=>by
  rw[aW,aW]at h;injection h with h1 h2
  rw[dP.inj h1,Jl h2]
def QA{k:List Int}{l:List (List Int)}{vs:List (List Key×V)}(h:vs.map (·.1)=l.map (·.map (dP:Int->Key))):(Uf vs (k.map dP)).isSome=l.contains k:=by
 rw[<-zo,show(vs.any λkv=>ag (kv.1=k.map dP))=(vs.map (·.1)).any λy=>ag (y=k.map dP) by rw[List.any_map];rfl,h,List.any_map,List.contains_eq_any_beq]
 congr 1
 funext y
 show ag (y.map dP=k.map dP)=(k == y);by_cases z:y=k
 ·subst z;simp
 ·rw[T4 λw=>z (Jl w),beq_eq_false_iff_ne.mpr (Ne.symm z)]
theorem ZdX(hu:X.A.units+7<dz):OpR X (cK .In) (λv u H Q=>∃a y o,u=.ref a/\v=y/\DGet H a y o/\Q (.bl o.isSome) H):=by
 intro pq s σ H v u vv uu Q I e1 e2 h;obtain⟨a,y,o,rfl,rfl,g,q⟩:=h;cases e2;exact Zfw (by lia) I g e1 λs' I'=>⟨.bl o.isSome,H,I',rfl,q⟩
theorem Za6(hu:X.A.units+7<dz):OpR X (cK .NotIn) (λv u H Q=>∃a y o,u=.ref a/\v=y/\DGet H a y o/\Q (.bl !o.isSome) H):=by
 intro pq s σ H v u vv uu Q I e1 e2 h;obtain⟨a,y,o,rfl,rfl,g,q⟩:=h;cases e2;exact Zbg (by lia) I g e1 λs' I'=>⟨.bl !o.isSome,H,I',rfl,q⟩
def qr(hu:X.A.units+7<dz):XD X xw .In .inn:=OpR.imp ((ZdM hu).or (ZdX hu)) λv u H Q ⟨ρ,S,x,y,st,rx,ry,h⟩=>by
 obtain⟨b,hb,h⟩:=End.map h;have q:=End.ok h st (Z9 _);rcases zB ry hb with⟨ds,hy,hb⟩|⟨l,k,ks,hy,rfl,hk,e⟩
 ·exact .inl ⟨ρ,S,x,ds,b,st,rx,hy,hb,q⟩
 ·obtain⟨p,rfl,o,vs,hx,r⟩:=hy.dct'
  obtain⟨a,xs,rfl,ha,r2⟩:=rx.tup';refine .inr ⟨p,.ref a,_,rfl,rfl,.inr ⟨vs,_,a,.inr ⟨o,hx⟩,rfl,by rw[ha,X4 hk r2],rfl⟩,?_⟩
  rw[QA r,e];exact q
def xj(hu:X.A.units+7<dz):XD X xw .NotIn .nin:=OpR.imp ((ZaX hu).or (Za6 hu)) λv u H Q ⟨ρ,S,x,y,st,rx,ry,h⟩=>by
 obtain⟨b,hb,h⟩:=End.map h;have q:=End.ok h st (Z9 _);rcases zB ry hb with⟨ds,hy,hb⟩|⟨l,k,ks,hy,rfl,hk,e⟩
 ·exact .inl ⟨ρ,S,x,ds,b,st,rx,hy,hb,q⟩
 ·obtain⟨p,rfl,o,vs,hx,r⟩:=hy.dct'
  obtain⟨a,xs,rfl,ha,r2⟩:=rx.tup';refine .inr ⟨p,.ref a,_,rfl,rfl,.inr ⟨vs,_,a,.inr ⟨o,hx⟩,rfl,by rw[ha,X4 hk r2],rfl⟩,?_⟩
  rw[QA r,e];exact q
def ZdS(r:Rq ρ H ds xs)(q:Ev.at' ds n=aa d):∃w,atI xs n=aa w/\Rep ρ H d w:=by
 obtain⟨m,q2,q⟩:=b9.mp q;obtain⟨w,g,rw'⟩:=r.get q;refine⟨w,?_,rw'⟩;unfold atI;rw[r.length,show ixN ds.length n=aa m from q2]
 exact g
def ZaO(ha:CE X xw C a i)(hb:CE X xw C b j)(hs:wD b:=by intro _ _;with_unfolding_all rfl):CE X xw C (.Subscript a b pos) (.ix i j):=PE.imp (vn (Ue.or ZdE) ha hb hs) (XX λ{ρ H S x y v u Q} st rx ry h=>by
 obtain⟨d,hd,g0⟩:=End.po h;have k:∃ds n,Pv.Yy x=aa ds/\y=.int n/\Ev.at' ds n=aa d:=by
  cases y with
  |int n=>
   cases x with
   |tup ds=>exact⟨ds,n,rfl,rfl,hd⟩
   |lst ds=>exact⟨ds,n,rfl,rfl,hd⟩
   |scr ns=>
    obtain⟨z,e,rfl⟩:=cp.mp hd;obtain⟨m,q2,q⟩:=b9.mp e;refine⟨_,n,rfl,rfl,?_⟩;unfold Ev.at';rw[aB,q2];show(ns.map Pv.V.int)[m]?=_;rw[aR,q];rfl
   |_=>exact Ev.nos hd
  |_=>cases x<;>exact Ev.nos hd
 obtain⟨ds,n,e,rfl,hn⟩:=k;obtain⟨p,xs,rfl,hp,r⟩:=rx.seq e;obtain⟨w,g,rw'⟩:=ZdS r hn;rw[st.hk]at hp;have q:=End.ok g0 st rw';rcases hp with hp|hp
 ·exact .inl ⟨p,xs,n,w,rfl,ry.int',hp,g,q⟩
 ·exact .inr ⟨p,xs,n,w,rfl,ry.int',hp,g,q⟩)
def Gx:CO X xw C af af:=PO.imp ZbU λσ H Q ⟨ρ,l,S,st,lr,h⟩=>End.ok h st rfl
def J0(h:CE X xw C e i):CO X xw C (aa e) (aa i):=PO.imp (Yc h) λσ H Q ⟨ρ,l,S,st,lr,h⟩=>by
 refine⟨ρ,l,S,st,lr,End.bind (h) λx S1 ρ1 H1 v f1 st1 r1 h1=>?_⟩
 cases x with|int n=>exact⟨n,r1.int',End.ok h1 st1 rfl⟩|_=>exact False.elim h1
def Gd(n d:Nat)(o:Option Int):Ev.sIx n d o=HT.sIx n d o:=by
 cases o with
 |none=>rfl
 |some i=>first|rfl|(rfl)
def wl(r:Rq ρ H ds xs)(lo hi:Option Int):Rq ρ H (Pv.Yr ds lo hi) (Yr xs lo hi):=by
 unfold Pv.Yr Yr;rw[Gd,Gd,r.length];exact(r.drop _).take _
def ZaI{lo hi:Option Expr}{il ih:Option E}(ha:CE X xw C a i)(hl:CO X xw C lo il)(hh:CO X xw C hi ih):CE X xw C (.Subscript a (.Slice lo hi af p2) pos) (.sl i il ih):=
 PE.imp (j5 (Zde.or (jL.or Za3)) ha hl hh) λσ H Q ⟨ρ,l,S,st,lr,h⟩=>by
  refine⟨ρ,l,S,st,lr,End.bind (h) λx S1 ρ1 H1 v f1 st1 r1 h1=>⟨ρ1,l,S1,st1,lr.mono f1,h1.bind λy S2 ρ2 H2 u f2 st2 r2 h2=>⟨ρ2,l,S2,st2,(lr.mono f1).mono f2,h2.bind λz S3 ρ3 H3 w f3 st3 r3 h3=>?_⟩⟩⟩
  have e1:y=u:=r2;have e2:z=w:=r3;subst e1 e2;have r0:=(r1.mono f2).mono f3;cases x with
  |tup ds=>
   obtain⟨p,xs,rfl,hp,r⟩:=r0.tup';have h':=h3;by_cases hw:HT.sIx xs.length 0 y=0/\HT.sIx xs.length xs.length z=xs.length
   ·refine .inr (.inl ⟨p,xs,rfl,SqT.of hp,hw,End.ok h' st3 ?_⟩)
    have ew:Pv.Yr ds y z=ds:=by
     unfold Pv.Yr;rw[Gd,Gd,<-r.length,hw.1,hw.2,kF,Nat.sub_zero,r.length,gn]
    rw[ew];exact Y3 hp r
   ·exact .inl ⟨p,xs,rfl,SqT.of hp,hw,h'.newT st3 (wl r y z)⟩
  |lst ds=>
   obtain⟨p,xs,rfl,hp,_,r⟩:=r0.lst';exact .inr (.inr ⟨p,xs,rfl,SqL.of hp,End.newL (h3) st3 (wl r y z)⟩)
  |_=>exact False.elim h3
def VX(K:ak)(xw:Nat->Hp->Prop)(f:Bf):List V->Hp->VK->Prop:=λvs H Q=>∃ρ S ds,St3 K ρ S H/\Rq ρ H ds vs/\End K xw Rep ρ H Q (Pv.po (Pv.Xk f ds) S)
def Zz.imp{r r':List V->Hp->VK->Prop}(h:Zz X f r)(k:∀vs H Q,r' vs H Q->r vs H Q):Zz X f r':=λpq s σ H xs us Q I e q=>h pq s σ H xs us Q I e (k xs H Q q)
def qc :∀σ H Q,tE X xw (Pv.pv C (.blt f is)) σ H Q->tCB (VX X.K xw f) (tA X xw (Pv.pvs C is)) σ H Q:=λσ H Q ⟨ρ,l,S,st,lr,h⟩=>
 ⟨ρ,l,S,st,lr,End.bind (h) λxs S1 ρ1 H1 vs f1 st1 r1 h1=>⟨ρ1,S1,xs,st1,r1,h1⟩⟩
def uZ(r:Rq ρ H [d] vs):∃v,vs=[v]/\Rep ρ H d v:=by
 obtain⟨v,ws,rfl,a1,b1⟩:=r;exact⟨v,by rw[b1],a1⟩
def zt{d e:D}{vs:List V}(r:Rq ρ H [d,e] vs):∃v w,vs=[v,w]/\Rep ρ H d v/\Rep ρ H e w:=by
 obtain⟨v,ws,rfl,a1,b1⟩:=r;obtain⟨w,rfl,b2⟩:=uZ b1;exact⟨v,w,rfl,a1,b2⟩
def WQ{rep:Mx->Hp->D->V->Prop}(h:End K xw rep ρ H Q (Pv.po (Pv.Xk f ds) S))(r:Rq ρ H ds vs)(h1:f≠.max2:=by decide)(h2:f≠.min2:=by decide):∃d v z,vs=[v]/\Rep ρ H d v/\Pv.blt1 f d=aa z/\End K xw rep ρ H Q (.ok z S):=by
 obtain⟨z,hz,g⟩:=End.po h
 match ds,hz with
 |[d],hz=>obtain⟨v,rfl,rv⟩:=uZ r;exact⟨d,v,z,rfl,rv,hz,g⟩
 |[x,y],hz=>
  have hz:=hz;cases x<;>first|exact Ev.nos hz|(cases y<;>first|exact Ev.nos hz|(cases f<;>first|exact Ev.nos hz|contradiction))
def ZcA(h:End K xw Rep ρ H Q (Pv.po (Pv.Xk f ds) S))(r:Rq ρ H ds vs)(h1:∀d,Pv.blt1 f d=af):∃m n z,vs=[.int m,.int n]/\Pv.blt2 f (.int m) (.int n)=aa z/\End K xw Rep ρ H Q (.ok z S):=by
 obtain⟨z,hz,g⟩:=End.po h
 match ds,hz with
 |[d],hz=>exact Ev.nos ((h1 d).symm.trans hz)
 |[x,y],hz=>
  have hz:=hz;cases x<;>first|exact Ev.nos hz|(cases y<;>first|exact Ev.nos hz|(obtain⟨v,w,rfl,r1,r2⟩:=zt r;exact⟨_,_,z,by rw[r1.int',r2.int'],hz,g⟩))
def xO:Zz X (.builtin "len") (VX X.K xw .len):=Zz.imp Gh λvs H Q ⟨ρ,S,ds,st,r,h⟩=>by
 obtain⟨d,v,z,rfl,rv,hz,h⟩:=WQ h r;obtain⟨xs,hx,rfl⟩:=cp.mp hz;obtain⟨p,ys,rfl,hq,r2⟩:=rv.seq hx;refine⟨p,ys,rfl,by rw[<-st.hk];exact hq,?_⟩
 rw[r2.length];exact End.ok h st (ZT _)
def vb(hc:X.calm=aj):Zz X (.builtin "max") (VX X.K xw .max2):=Zz.imp (uF hc) λvs H Q ⟨ρ,S,ds,st,r,h⟩=>by
 obtain⟨m,n,z,rfl,hz,h⟩:=ZcA h r λ_=>rfl
 cases hz;exact⟨m,n,rfl,End.ok h st (ZT _)⟩
def x9(hc:X.calm=aj):Zz X (.builtin "min") (VX X.K xw .min2):=Zz.imp (uN hc) λvs H Q ⟨ρ,S,ds,st,r,h⟩=>by
 obtain⟨m,n,z,rfl,hz,h⟩:=ZcA h r λ_=>rfl
 cases hz;exact⟨m,n,rfl,End.ok h st (ZT _)⟩
def wE:Zz X (.type "int") (VX X.K xw .toInt):=Zz.imp uE λvs H Q ⟨ρ,S,ds,st,r,h⟩=>by
 obtain⟨d,v,z,rfl,r1,hz,h⟩:=WQ h r;cases d with|int m=>cases hz;exact .inl ⟨m,by rw[r1.int'],End.ok h st (ZT _)⟩|bl m=>cases hz;exact .inr ⟨m,by rw[r1.bl'],End.ok h st (ZT _)⟩|_=>exact Ev.nos hz
def QN:Zz X (.type "tuple") (VX X.K xw .tuple):=Zz.imp Qj λvs H Q ⟨ρ,S,ds,st,r,h⟩=>by
 obtain⟨d,v,z,rfl,r1,hz,h⟩:=WQ h r;cases d with|tup ds=>cases hz;obtain⟨p,xs,rfl,hp,r2⟩:=r1.tup';exact⟨p,xs,rfl,.inr ⟨SqT.of hp,End.ok h st r1⟩⟩|lst ds=>cases hz;obtain⟨p,xs,rfl,hp,_,r2⟩:=r1.lst';exact⟨p,xs,rfl,.inl ⟨SqL.of hp,h.newT st r2⟩⟩|scr ns=>cases hz;obtain⟨p,rfl,hp⟩:=r1.scr';rw[st.hk]at hp;exact⟨p,_,rfl,.inl ⟨hp.sq,h.newT st (Rq.ints ns)⟩⟩|_=>exact Ev.nos hz
def Y1{f:Bf}{id:String}{x:bn}{es:List Expr}{is:List E}(hc:Zz X (.builtin id) (VX X.K xw f))(hm:X.mg x=af)(ha:CA X xw C (e::es) is)(hg:Gl X x:=by rfl)(hv:dy x=aa (.builtin id):=by rfl)(hn:x≠"__name__":=by decide)(hdb:(x == ("__debug__" : bn))=al:=by decide)
  (he:aE (e::es) X.env=(al,cR e X.env)::aE es X.env:=by rfl)(hpl:(dU pos (aE es X.env)).any (·.1)=al:=by rfl):CE X xw C (.Call (.Name x p) (e::es) [] pos) (.blt f is):=
 PE.imp (Xi hc hg hm hv ha hn hdb he hpl) qc
def WD{f:Bf}{id:String}{x:bn}{es:List Expr}{is:List E}(hc:Zz X (.type id) (VX X.K xw f))(hm:X.mg x=af)(ha:CA X xw C (e::es) is)(hg:Gl X x:=by rfl)(hv:dy x=aa (.type id):=by rfl)(hn:x≠"__name__":=by decide)(hdb:(x == ("__debug__" : bn))=al:=by decide)
  (he:aE (e::es) X.env=(al,cR e X.env)::aE es X.env:=by rfl)(hpl:(dU pos (aE es X.env)).any (·.1)=al:=by rfl):CE X xw C (.Call (.Name x p) (e::es) [] pos) (.blt f is):=
 PE.imp (QC hc hg hm hv ha hn hdb he hpl) qc
end
section
variable{X:Cx}{xw:Nat->Hp->Prop}{C:Calls}{e a b c:Expr}{i j k:E}{pos p p' p2:eY}
theorem Wo:∀{ds:List D}{bs:List Bool},Pv.ZZ ds=aa bs->bs.length=ds.length/\∀j d,ds[j]?=aa d->Pv.V4 d=aa (bs.getD j al)
 |[],bs,h=>by cases h;exact⟨rfl,λj d e=>by simp at e⟩
 |d::ds,bs,h=>by
  unfold Pv.ZZ at h;cases q1:Pv.V4 d with
  |none=>rw[q1]at h;cases h
  |some b=>
   cases q2:Pv.ZZ ds with
   |none=>rw[q1,q2]at h;cases h
   |some cs=>
    rw[q1,q2]at h;cases h;obtain⟨l,ih⟩:=Wo q2;refine⟨by rw[aQ,aQ,l],λj d' e=>?_⟩
    cases j with|zero=>simp at e;subst e;simpa using q1|succ j=>simpa using ih j d' (by simpa using e)
def ut(bs:List Bool):(aY bs.length).all (λj=>bs.getD j al)=bs.all id:=by
 rw[cw,bf,bf]
 constructor
 ·intro h b hb
  obtain⟨j,hj,e⟩:=cA hb;have:=h j (bt.mpr hj)
  simpa[ai hj,e]using this
 ·intro h j hj
  have hj':=bt.mp hj
  simpa[ai hj']using h bs[j] (aX hj')
def ug(bs:List Bool):(aY bs.length).any (λj=>bs.getD j al)=bs.any id:=by
 rw[cw,gj,gj]
 constructor
 ·rintro ⟨j,hj,h⟩
  have hj':=bt.mp hj;exact⟨bs[j],aX hj',by simpa[ai hj']using h⟩
 ·rintro ⟨b,hb,h⟩
  obtain⟨j,hj,e⟩:=cA hb;exact⟨j,bt.mpr hj,by simpa[ai hj,e]using h⟩
def WY(r:Rep ρ H d v)(e:Zu v u)(h:Pv.V4 d=aa n)(s:ax)(Q:Bool->ax->Prop)(E:au->ax->Prop)(q:Q n s) :
  bc (aS prog w) A (rP u) Q E s:=by
 cases d with
 |non=>cases r.non';cases e;cases h;exact truthy_none q
 |bl b=>cases r.bl';cases e;cases h;exact dB q
 |int m=>
  cases r.int';obtain⟨t,rfl⟩:=e;have h':=am h;refine nz ?_;have:(m != 0)=n:=by
   rw[<-h'];by_cases z:m=0
   ·subst z;rfl
   ·rw[T5 z];exact bne_iff_ne.mpr z
  rw[this];exact q
 |_=>cases h
def ux(hc:X.calm=aj):Zz X (.builtin "all") (λvs H Q=>∃ρ ds v bs,vs=[v]/\Rep ρ H (.lst ds) v/\Pv.ZZ ds=aa bs/\Q (.bl (bs.all id)) H):=by
 intro pq s σ H vs us Q I r h;obtain⟨ρ,ds,v,bs,rfl,rs,hb,q⟩:=h;obtain⟨p,xs,rfl,hx,_,rx⟩:=rs.lst';obtain⟨u,rfl,ru⟩:=XR r;cases ru;obtain⟨its,rv,pl,hz⟩:=I.list (SqL.of hx);obtain⟨lb,tb⟩:=Wo hb;have hlt:p<s.heap.objs.size:=by obtain⟨_,e,_⟩:=pl.isList;exact aJ e
 have hlen:its.toArray.size=bs.length:=by rw[ay,<-rv.length,rx.length,lb]
 refine call_all_walk (fO pl.isList ⟨s.heap.objs.size,[s.heap.objs.size,p],[s.heap.objs.size],its.toArray.size,(λi v=>its.toArray[i]?=aa v),(λi h=>h.IsListIter s.heap.objs.size p i/\h.IsList p its.toArray),λj=>bs.getD j al,rfl,Walks.list (A:=X.A.in1) (I.ok.hd hc) s.heap.objs.size p (br hlt) its.toArray,⟨⟨_,aO _ rfl,rfl,rfl⟩,pl.isList.push _⟩,?_,?_⟩)
 ·intro j v s' Q' E' hv hQ'
  have hj:its[j]?=aa v:=by simpa using hv
  have jl:j<ds.length:=by
   have:=(aG.mp hj).1;rw[<-rv.length,rx.length]at this;exact this
  obtain⟨w',g,r'⟩:=rx.get (ai jl);obtain⟨u',g',ru'⟩:=rv.get g;rw[hj]at g';cases g';exact WY r' ru' (tb j _ (ai jl)) s' Q' E' hQ'
 ·intro h' tk hk
  rw[hlen,ut];have kp:=λb o e=>hk b o (λhm=>by
   have:b=s.heap.objs.size:=by simpa using hm
   exact T7 (this▸aJ e) (bH _)) (aw _ e)
  exact⟨.bl (bs.all id),H,I.kept (t':=tk) kp,rfl,q⟩
def wz(hc:X.calm=aj):Zz X (.builtin "all") (VX X.K xw .all):=Zz.imp (ux hc) λvs H Q ⟨ρ,S,ds,st,r,h⟩=>by
 obtain⟨d,v,z,rfl,r1,hz,h⟩:=WQ h r;cases d with|lst ds=>obtain⟨bs,hb,rfl⟩:=cp.mp hz;exact⟨ρ,ds,v,bs,rfl,r1,hb,End.ok h st (Z9 _)⟩|_=>exact Ev.nos hz
noncomputable def ZQ:Ty->String
 |.int=>"int" | .bool=>"bool" | .str=>"str" | .tuple=>"tuple" | .list=>"list" | .dict=>"dict" | .cls _=>""
def yK{K:ak}{ρ:Mx}{H:Hp}{x:D}{v:V}{t:Ty}{n:Bool}(rx:Rep ρ H x v)(ht:∀m,t≠.cls m)(h:Pv.Yn x t=aa n) :
  ∃tv,TyOf K H v tv/\fV K tv (.type (ZQ t))=aa n:=by
 cases x with
 |non=>rw[rx.non'];refine⟨_,.non,?_⟩;cases h;cases t<;>first|rfl|exact T7 rfl (ht _)
 |bl b=>rw[rx.bl'];refine⟨_,.bl b,?_⟩;cases h;cases t<;>first|rfl|exact T7 rfl (ht _)
 |int b=>rw[rx.int'];refine⟨_,.int b,?_⟩;cases h;cases t<;>first|rfl|exact T7 rfl (ht _)
 |str b=>rw[rx.str'];refine⟨_,.str b,?_⟩;cases h;cases t<;>first|rfl|exact T7 rfl (ht _)
 |tup ds=>
  obtain⟨p,xs,rfl,hp,_⟩:=rx.tup';refine⟨_,.tup hp,?_⟩;cases h;cases t<;>first|rfl|exact T7 rfl (ht _)
 |lst ds=>
  obtain⟨p,xs,rfl,hp,_⟩:=rx.lst';refine⟨_,.lst hp,?_⟩;cases h;cases t<;>first|rfl|exact T7 rfl (ht _)
 |dct o=>
  cases o with
  |some _=>exact Ev.nos h
  |none=>
   obtain⟨p,rfl,⟨_,e⟩|⟨_,e⟩⟩:=rx.dct'
   ·refine⟨_,.dT e,?_⟩;cases h;cases t<;>first|rfl|exact T7 rfl (ht _)
   ·refine⟨_,.dK e,?_⟩;cases h;cases t<;>first|rfl|exact T7 rfl (ht _)
 |_=>exact Ev.nos h
def ZaD(T:String):Zz X (.builtin "isinstance") (λvs H Q=>∃v tv n,vs=[v,.ty T]/\TyOf X.K H v tv/\fV X.K tv (.type T)=aa n/\Q (.bl n) H):=by
 intro pq s σ H vs us Q I r h;obtain⟨v,tv,n,rfl,ty,e,q⟩:=h;obtain⟨u,w',rfl,r1,r2⟩:=zH r;cases r2;exact ue I r1 ty e λtk=>⟨.bl n,H,I.tok tk,rfl,q⟩
def Wi{T:bn}{t:Ty}(ht:∀m,t≠.cls m)(hm:X.mg "isinstance" = af)(hmT:X.mg T=af)(ha:CE X xw C a i)(hg:Gl X "isinstance":=by rfl)(hgT:Gl X T:=by rfl)(hvT:dy T=aa (.type (ZQ t)):=by rfl)(hnT:T≠"__name__":=by decide)(hdT:(T == ("__debug__" : bn))=al:=by decide)
  (hs1:aE [a,.Name T p2] X.env=(al,cR a X.env)::aE [.Name T p2] X.env:=by rfl)(hs2:aE [.Name T p2] X.env=(al,cR (.Name T p2) X.env)::aE [] X.env:=by rfl)(hpl:(dU pos (aE [.Name T p2] X.env)).any (·.1)=al:=by rfl) :
  CE X xw C (.Call (.Name "isinstance" p) [a,.Name T p2] [] pos) (.isi i [t]):=
 PE.imp (Xi (ZaD (ZQ t)) hg hm (by rfl) (Zw ha (Zw (Ua (v:=.ty (ZQ t)) hgT hmT hvT rfl hnT hdT) Yj hs2) hs1) (by decide) (by decide) hs1 hpl) λσ H Q ⟨ρ,l,S,st,lr,h⟩=>by
  refine⟨ρ,l,S,st,lr,End.bind (h) λx S1 ρ1 H1 v f1 st1 r1 h1=>?_⟩
  obtain⟨n,hn,h2⟩:=End.ob h1;have hn':Pv.Yn x t=aa n:=by
   unfold Pv.Z1 at hn;cases q:Pv.Yn x t with|none=>rw[q]at hn;cases hn|some m=>rw[q]at hn;cases m<;>exact hn
  obtain⟨tv,ty,e⟩:=yK r1 ht hn';exact⟨v,tv,n,rfl,ty,e,End.ok h2 st1 (Z9 _)⟩
def ZeW(P:bq)(w:bK)(K:ak)(a:aC)(tab:List (Int×Int)):Prop:=(a == dF)=al/\∃f:Int->Option au,(∀h:bX,K.In h->h.MapOf (kf P w) a f)/\∀k,(tab.lookup k=af->f k=af)/\∀j,tab.lookup k=aa j->∃t,f k=aa (.int j t)
def GA:CE X xw C (.Dict [] [] pos) .dnew:=PE.imp jD λσ H Q ⟨ρ,l,S,st,lr,h⟩=>λp hp=>
 (h) ρ _ _ (Zs hp) (st.fresh hp) (by exact⟨p,rfl,.inl ⟨[],Zk⟩⟩)
def XT(fr:Bool)(H0:Hp)(ρ:Mx)(H:Hp)(d:D)(v:V):Prop:=Rep ρ H d v/\(fr=aj->∀ds,d=.lst ds->∃a,v=.ref a/\H0 a=af)
theorem End.fr{K:ak}{xw:Nat->Hp->Prop}{ρ:Mx}{H H0:Hp}{Q:VK}{r:R D}{fr:Bool}(h:End K xw Rep ρ H Q r):End K xw (XT fr H0) ρ H Q r:=by
 cases r with|ok d S=>exact λρ' H' v f st r=>h ρ' H' v f st r.1|_=>exact h
end
abbrev Own:=Nat->Option aC
noncomputable def Mx.ex(ρ:Mx)(W:Own):Mx:=⟨ρ.K,ρ.n0,λa=>ρ.X a\/∃i,W i=aa a,λa h=>.inl (ρ.xz a h)⟩
mutual
theorem Rep.flat(hk:ρ'.K=ρ.K)(k:∀a o,H a=aa o->(∀xs,o≠.lst xs)->H' a=aa o):∀{d:D}{v:V},d.flat=aj->Rep ρ H d v->Rep ρ' H' d v
 |.non,_,_,h|.bl _,_,_,h|.int _,_,_,h|.str _,_,_,h=>by exact h
 |.tup ds,v,f,h=>by
  obtain⟨a,xs,e,t,r⟩:=h;exact⟨a,xs,e,k a _ t (λ_ z=>by cases z),r.flat hk k (by exact f)⟩
 |.scr ns,v,_,h=>by
  unfold Rep at h ⊢;obtain⟨a,e,t⟩:=h;rw[hk];refine⟨a,e,?_⟩;rcases t with⟨o,t⟩|t
  ·exact .inl ⟨o,k a _ t λ_ z=>by cases z⟩
  ·exact .inr t
 |.lst _,_,f,_|.drw,_,f,_|.dct _,_,f,_=>by cases f
theorem Rq.flat(hk:ρ'.K=ρ.K)(k:∀a o,H a=aa o->(∀xs,o≠.lst xs)->H' a=aa o):∀{ds:List D}{xs:List V},Pv.Yh ds=aj->Rq ρ H ds xs->Rq ρ' H' ds xs
 |[],_,_,h=>by exact h
 |d::ds,xs,f,h=>by
  obtain⟨v,vs,e,r,rs⟩:=h;have f:=(aD _ _).mp f;exact⟨v,vs,e,r.flat hk k f.1,rs.flat hk k f.2⟩
end
structure Eu(ρ:Mx)(H0:Hp)(W:Own)(l:Lc)(os:List Nat)(σ:L2.St)(H:Hp):Prop where
 fut:Fut ρ H0 ρ H
 xd:∀a,ρ.X a->H0 a≠af
 len:l.length=σ.length
 osW:∀i,os.contains i=(W i).isSome
 inj:∀i j a,W i=aa a->W j=aa a->i=j
 new:∀i a,W i=aa a->H0 a=af
 own:∀i a,W i=aa a->∃xs us,l[i]?=aa (aa (.lst xs))/\Pv.Yh xs=aj/\σ[i]?=aa (aa (.ref a))/\H a=aa (.lst us)/\Rq ρ H xs us
 val:∀(i:Nat)(d:D),l[i]?=aa (aa d)->W i=af->∃v,σ[i]?=aa (aa v)/\Rep (ρ.ex W) H d v
section
variable{K:ak}{ρ:Mx}{H0 H H':Hp}{W W':Own}{l:Lc}{os:List Nat}{σ:L2.St}{S:Zr}
def Lat.unex:Lat (ρ.ex W) H ρ H:=⟨rfl,rfl,λ_ _ h _ _=>h,λ_ _ x=>.inl x⟩
theorem Fut.ex(f:Fut ρ H ρ H'):Fut (ρ.ex W) H (ρ.ex W) H':=⟨rfl,f.keep⟩
def St3.unex(st:St3 K (ρ.ex W) S H):St3 K ρ S H:=⟨st.hk,λa x=>st.xd a (.inl x),st.dw,st.tb⟩
def Eu.nx(h:Eu ρ H0 W l os σ H)(e:W i=aa a):¬ρ.X a:=λz=>h.xd a z (h.new i a e)
theorem Eu.st(h:Eu ρ H0 W l os σ H)(st:St3 K ρ S H):St3 K (ρ.ex W) S H:=
 ⟨st.hk,λa x=>x.elim (st.xd a) λ⟨i,e⟩=>by(obtain⟨_,_,_,_,_,z,_⟩:=h.own i a e;rw[z];intro q;cases q),st.dw,st.tb⟩
def Zcq(f:Fut ρ H ρ H')(x:¬ρ.X a)(h:H a=aa o)(n:∀ps,o≠.tbl ps:=by intro _ z;cases z):H' a=aa o:=(f.keep a o h).elim id λz=>z.elim (λz=>T7 (ρ.xz a z.1) x) λ⟨⟨ps,e⟩,_⟩=>T7 e (n ps)
def Eu.all(h:Eu ρ H0 W l os σ H):LocR ρ H l σ:=⟨h.len,λi v e=>by
 cases q:W i with
 |none=>obtain⟨d,a,b⟩:=h.val i v e q;exact⟨d,a,b.lat Lat.unex⟩
 |some n=>
  obtain⟨xs,us,a,b,c,d,r⟩:=h.own i n q;rw[a]at e;cases e;exact⟨_,c,Wa d (h.nx q) r⟩⟩
def ZaC(e:(Pv.hide os l)[i]?=aa (aa v)):l[i]?=aa (aa v)/\os.contains i=al:=by
 unfold Pv.hide at e;rw[iL]at e;cases q:l[i]? with
 |none=>rw[q]at e;cases e
 |some o=>
  rw[q]at e;have e':(if os.contains i=aj then af else o)=aa v:=am e
  by_cases c:os.contains i=aj
  ·rw[T9 c]at e';cases e'
  ·rw[T8 c]at e';exact⟨by rw[e'],by simpa using c⟩
def Ve:Pv.hide [] l=l:=by
 unfold Pv.hide;refine cX λi=>?_
 rw[iL];cases l[i]?<;>rfl
def Eu.nW(h:Eu ρ H0 W l os σ H){i:Nat}(b:os.contains i=al):W i=af:=by
 rw[h.osW]at b;cases q:W i with|none=>rfl|some _=>rw[q]at b;cases b
def Eu.hid(h:Eu ρ H0 W l os σ H):LocR (ρ.ex W) H (Pv.hide os l) σ:=⟨by unfold Pv.hide;rw[List.length_mapIdx];exact h.len,λi v e=>by
 obtain⟨a,b⟩:=ZaC e;exact h.val i v a (h.nW b)⟩
theorem Eu.mono(h:Eu ρ H0 W l os σ H)(f:Fut ρ H ρ H'):Eu ρ H0 W l os σ H':=
 ⟨h.fut.trans f,h.xd,h.len,h.osW,h.inj,h.new,λi a q=>by
  obtain⟨xs,us,p,b,c,d,r⟩:=h.own i a q;exact⟨xs,us,p,b,c,Zcq f (h.nx q) d,r.mono f⟩,λi v a b=>by
  obtain⟨d,c,r⟩:=h.val i v a b;exact⟨d,c,r.mono f.ex⟩⟩
def Gb{α:Type}{l:List (Option α)}{i j:Nat}{o:Option α}{v:α}(e:(l.set i o)[j]?=aa (aa v)):(i=j/\o=aa v/\i<l.length)\/(i≠j/\l[j]?=aa (aa v)):=by
 rw[oh]at e;by_cases c:i=j
 ·rw[T9 c]at e
  by_cases z:i<l.length
  ·rw[T9 z]at e;exact .inl ⟨c,am e,z⟩
  ·rw[T8 z]at e;cases e
 ·rw[T8 c]at e;exact .inr ⟨c,e⟩
theorem Eu.set{i:Nat}{o:Option D}{v:V}(h:Eu ρ H0 W l os σ H)(hi:os.contains i=al)(r:∀d,o=aa d->Rep (ρ.ex W) H d v):Eu ρ H0 W (l.set i o) os (σ.set i (aa v)) H:=by
 have hw:=h.nW hi;refine⟨h.fut,h.xd,by rw[bC,bC];exact h.len,h.osW,h.inj,h.new,λj n q=>?_,λj w e q=>?_⟩
 ·obtain⟨xs,us,a,b,c,e⟩:=h.own j n q
  have ij:i≠j:=λz=>by rw[z,q]at hw;cases hw
  exact⟨xs,us,by rw[ba ij];exact a,b,by rw[ba ij];exact c,e⟩
 ·rcases Gb e with⟨rfl,z,hl⟩|⟨c,z⟩
  ·exact⟨v,bg (by rw[<-h.len];exact hl),r w z⟩
  ·rw[ba c];exact h.val j w z q
noncomputable def Uv:List Nat->List V->L2.St->L2.St
 |i::t,x::xs,σ=>Uv t xs (σ.set i (aa x))
 |_,_,σ=>σ
theorem Eu.fill:∀{t:List Nat}{vs:List D}{us:List V}{l l':Lc}{σ:L2.St},Eu ρ H0 W l os σ H->(t.any os.contains)=al->Rq (ρ.ex W) H vs us->Pv.YO t vs l=aa l'->us.length=t.length/\Eu ρ H0 W l' os (Uv t us σ) H
 |[],[],_,l,l',σ,h,_,r,e=>by rw[r];cases e;exact⟨rfl,h⟩
 |[],_::_,_,_,_,_,_,_,_,e=>by cases e
 |_::_,[],_,_,_,_,_,_,_,e=>by cases e
 |i::t,v::vs,_,l,l',σ,h,ht,r,e=>by
  obtain⟨d,ds,rfl,a,b⟩:=r;rw[fI,Bool.or_eq_false_iff]at ht;obtain⟨z,q⟩:=Eu.fill (h.set ht.1 λ_ z=>by cases z;exact a) ht.2 b e
  exact⟨by rw[aQ,aQ,z],q⟩
def tGU(K:ak)(t:List Nat):TG:=λv σ H Q=>match t with
 |[i]=>Q (σ.set i (aa v)) H
 |t=>∃a xs,v=.ref a/\(SqT K H a xs\/H a=aa (.lst xs))/\xs.length=t.length/\Q (Uv t xs σ) H
def Eu.assign{Q:L2.St->Hp->Prop}(h:Eu ρ H0 W l os σ H)(ht:(t.any os.contains)=al)(r:Rep (ρ.ex W) H d v)(e:Pv.Zo t d l=aa l')(q:∀σ',Eu ρ H0 W l' os σ' H->Q σ' H):tGU K t v σ H Q:=by
 have gen:∀t:List Nat,(t.any os.contains)=al->(match Pv.qV d with
   |some xs=>Pv.YO t xs l
   |none=>af)=aa l'->∃a xs,v=.ref a/\(SqT K H a xs\/H a=aa (.lst xs))/\xs.length=t.length/\Q (Uv t xs σ) H:=by
  intro t ht e;cases d with|tup vs=>obtain⟨p,ds,rfl,hp,rs⟩:=r.tup';obtain⟨z,y⟩:=h.fill ht rs e;exact⟨p,ds,rfl,.inl (SqT.of hp),z,q _ y⟩|lst vs=>obtain⟨p,ds,rfl,hp,_,rs⟩:=r.lst';obtain⟨z,y⟩:=h.fill ht rs e;exact⟨p,ds,rfl,.inr hp,z,q _ y⟩|_=>cases e
 match t,ht,e with
 |[i],ht,e=>cases e;exact q _ (h.set (by simpa using ht) λ_ z=>by cases z;exact r)
 |[],ht,e=>exact gen [] ht e
 |i::j::t,ht,e=>exact gen (i::j::t) ht e
noncomputable def noW(W:Own)(i:Nat):Own:=λj=>if j=i then af else W j
def Xz{i j:Nat}{a:aC}(z:noW W i j=aa a):j≠i/\W j=aa a:=by
 unfold noW at z;by_cases c:j=i
 ·rw[T9 c]at z;cases z
 ·rw[T8 c]at z;exact⟨c,z⟩
theorem Lat.noW{i:Nat}:Lat (ρ.ex W) H (ρ.ex (noW W i)) H:=⟨rfl,rfl,λ_ _ h _ _=>h,λ_ _ x=>x.elim .inl λ⟨j,e⟩=>.inr ⟨j,(Xz e).2⟩⟩
def Ww{i:Nat}(h:∀i,os.contains i=(W i).isSome)(j:Nat):(os.filter (· != i)).contains j=(noW W i j).isSome:=by
 unfold noW;by_cases c:j=i
 ·simp[c]
 ·simp only[c,if_false]
  rw[<-h j,cw,eE,eE,c7];simp[c]
def Eu.drop{i:Nat}{o:Option D}{v:V}(h:Eu ρ H0 W l os σ H)(r:∀d,o=aa d->Rep (ρ.ex (noW W i)) H d v):Eu ρ H0 (noW W i) (l.set i o) (os.filter (· != i)) (σ.set i (aa v)) H:=by
 refine⟨h.fut,h.xd,by rw[bC,bC];exact h.len,Ww h.osW,λa b n x y=>h.inj a b n (Xz x).2 (Xz y).2,λj n z=>h.new j n (Xz z).2,λj n z=>?_,λj w e z=>?_⟩
 ·obtain⟨xs,us,a,b,c,e⟩:=h.own j n (Xz z).2
  have ij:i≠j:=Ne.symm (Xz z).1;exact⟨xs,us,by rw[ba ij];exact a,b,by rw[ba ij];exact c,e⟩
 ·rcases Gb e with⟨rfl,e,hl⟩|⟨c,e⟩
  ·exact⟨v,bg (by rw[<-h.len];exact hl),r w e⟩
  ·rw[ba c]
   unfold Sd.noW at z;rw[T8 (Ne.symm c)]at z;obtain⟨d',a,b⟩:=h.val j w e z;exact⟨d',a,b.lat Lat.noW⟩
noncomputable def vB(W:Own)(i:Nat)(a:aC):Own:=λj=>if j=i then aa a else W j
def Eu.take(h:Eu ρ H0 W l os σ H)(hd:∀a,ρ.X a->H a≠af)(f:Fut ρ H ρ H')(hn:H a=af)(hf:Pv.Yh xs=aj)(r:Rep (ρ.ex W) H' (.lst xs) (.ref a))(hi:i<l.length) :
  Eu ρ H0 (vB W i a) (l.set i (aa (.lst xs))) (i::os.filter (· != i)) (σ.set i (aa (.ref a))) H':=by
 obtain⟨_,us,en,hs,hx,rs⟩:=r.lst';cases en;have h1:=h.mono f;have get:∀{j m},vB W i a j=aa m->(j=i/\a=m)\/(j≠i/\W j=aa m):=λ{j m} z=>by
  unfold vB at z;by_cases c:j=i
  ·rw[T9 c]at z;exact .inl ⟨c,am z⟩
  ·rw[T8 c]at z;exact .inr ⟨c,z⟩
 have na:=h.fut.new hn hd;have lt:Lat (ρ.ex W) H (ρ.ex (vB W i a)) H':=⟨rfl,rfl,f.ex.lat.keep',λb hb x=>by
  rcases x with x|⟨j,x⟩
  ·exact .inl x
  ·rcases get x with⟨_,z⟩|⟨_,z⟩
   ·exact T7 hn (z▸hb)
   ·exact .inr ⟨j,z⟩⟩
 refine⟨h1.fut,h.xd,by rw[bC,bC];exact h.len,λj=>?_,λp q m x y=>?_,λj m z=>?_,λj m z=>?_,λj w q z=>?_⟩
 ·have:=Ww (i:=i) h.osW j
  unfold vB;by_cases c:j=i
  ·simp[c]
  ·unfold noW at this
   rw[T8 c]at this ⊢;rw[List.contains_cons,this,beq_eq_false_iff_ne.mpr c,k9]
 ·rcases get x with⟨x1,x2⟩|⟨x1,x2⟩<;>rcases get y with⟨y1,y2⟩|⟨y1,y2⟩
  ·rw[x1,y1]
  ·exact T7 (.inr ⟨q,x2▸y2⟩) hx
  ·exact T7 (.inr ⟨p,y2▸x2⟩) hx
  ·exact h.inj p q m x2 y2
 ·rcases get z with⟨_,z⟩|⟨_,z⟩
  ·exact z▸na
  ·exact h.new j m z
 ·rcases get z with⟨z1,z2⟩|⟨z1,z2⟩
  ·subst z1 z2
   exact⟨xs,us,bg hi,hf,bg (by rw[<-h.len];exact hi),hs,rs.lat Lat.unex⟩
  ·obtain⟨ys,vs,p,b,c,q⟩:=h1.own j m z2
   exact⟨ys,vs,by rw[ba (Ne.symm z1)];exact p,b,by rw[ba (Ne.symm z1)];exact c,q⟩
 ·unfold vB at z
  by_cases c:j=i
  ·rw[T9 c]at z;cases z
  ·rw[T8 c]at z
   rw[ba (Ne.symm c)]at q ⊢;obtain⟨d,p,b⟩:=h.val j w q z;exact⟨d,p,b.lat lt⟩
def Eu.mut(h:Eu ρ H0 W l os σ H)(hw:W i=aa a)(hf:Pv.Yh ys=aj)(r:Rq ρ H ys us):Eu ρ H0 W (l.set i (aa (.lst ys))) os σ (upd H a (.lst us)):=by
 obtain⟨xs,vs,p,b,c,e,_⟩:=h.own i a hw;have hi:=(aG.mp p).1;have kp:∀b o,H b=aa o->(∀xs,o≠.lst xs)->upd H a (.lst us) b=aa o:=λb o z n=>by
  rw[Zi (λq=>n vs (by rw[q,e]at z;exact(am z).symm))];exact z
 refine⟨⟨rfl,λb o z=>?_⟩,h.xd,by rw[bC];exact h.len,h.osW,h.inj,h.new,λj m z=>?_,λj w q z=>?_⟩
 ·rw[Zi (λq=>by rw[q,h.new i a hw]at z;cases z)]
  exact h.fut.keep b o z
 ·by_cases k:i=j
  ·subst k
   rw[hw]at z;cases z;exact⟨ys,us,bg hi,hf,c,Zk,r.flat rfl kp hf⟩
  ·obtain⟨zs,ws,a',b',c',e',r'⟩:=h.own j m z
   exact⟨zs,ws,by rw[ba k];exact a',b',c',by rw[Zi (λq:m=a=>k (h.inj i j a hw (q▸z)))];exact e',r'.flat rfl kp b'⟩
 ·have k:i≠j:=λk=>by rw[<-k,hw]at z;cases z
  rw[ba k]at q;obtain⟨d,a',b'⟩:=h.val j w q z;exact⟨d,a',b'.lat ⟨rfl,rfl,λm o hs nx _=>by rw[Zi (λq:m=a=>nx vs (by rw[q,e]at hs;exact(am hs).symm) (.inr ⟨i,q▸hw⟩))];exact hs,λ_ _ q=>q⟩⟩
def St3.mut{K:ak}{i:Nat}{a:aC}{us:List V}(st:St3 K ρ S H)(h:Eu ρ H0 W l os σ H)(hw:W i=aa a):St3 K ρ S (upd H a (.lst us)):=by
 obtain⟨xs,vs,p,b,c,e,_⟩:=h.own i a hw;have ne:∀b,ρ.X b->b≠a:=λb x z=>h.nx hw (z▸x)
 exact⟨st.hk,λb x=>by rw[Zi (ne b x)];exact st.xd b x,λb x=>by rw[Zi (ne b (ρ.xz b x))];exact st.dw b x,st.tb.upd (λo u z=>by rw[e]at z;cases z) λ_ z=>by cases z⟩
structure Base(ρ:Mx)(H0 H1:Hp):Prop where
 fut:Fut ρ H0 ρ H1
 dom:∀a,H1 a=af->H0 a=af
def Eu.rebase(b:Base ρ H0 H1)(x:∀a,ρ.X a->H0 a≠af)(h:Eu ρ H1 W l os σ H):Eu ρ H0 W l os σ H:=⟨b.fut.trans h.fut,x,h.len,h.osW,h.inj,λi a e=>b.dom a (h.new i a e),h.own,h.val⟩
open Classical in
noncomputable def Qo(H:Hp)(W:Own):Hp:=λa=>if ∃i,W i=aa a then af else H a
def Eu.off(h:Eu ρ H0 W l os σ H)(hd:∀a,ρ.X a->H a≠af):Base ρ H0 (Qo H W)/\Eu ρ (Qo H W) W l os σ H:=by
 have nw:∀a,H0 a≠af->Qo H W a=H a:=λa z=>T8 λ⟨i,e⟩=>z (h.new i a e)
 refine⟨⟨⟨rfl,λa o e=>?_⟩,λa e=>?_⟩,⟨rfl,λa o e=>.inl ?_⟩,λa x=>?_,h.len,h.osW,h.inj,λi a e=>T9 ⟨i,e⟩,h.own,h.val⟩
 ·rw[nw a (by rw[e];intro z;cases z)];exact h.fut.keep a o e
 ·cases q:H0 a with
  |none=>rfl
  |some o=>
   rw[nw a (by rw[q];intro z;cases z)]at e
   rw[h.fut.new e hd]at q;cases q
 ·unfold Qo at e
  split at e
  ·cases e
  ·exact e
 ·rw[nw a (h.xd a x)];exact hd a x
def Eu.walk(h:Eu ρ H0 W l os σ H)(h':Eu ρ (Qo H W) W' l' os' σ' H'):Lat (ρ.ex W) H (ρ.ex W') H':=by
 refine⟨rfl,rfl,λa o e x n=>?_,λa e x=>?_⟩
 ·have nw:¬∃i,W i=aa a:=λ⟨i,w⟩=>by
   obtain⟨_,us,_,_,_,z,_⟩:=h.own i a w;rw[e]at z;exact x us (am z) (.inr ⟨i,w⟩)
  rcases h'.fut.keep a o (by unfold Qo;rw[T8 nw];exact e)with z|⟨z,xs,q⟩|⟨⟨ps,q⟩,_⟩
  ·exact z
  ·exact T7 (.inl (ρ.xz a z)) (x xs q)
  ·exact T7 q (n ps)
 ·rcases x with x|⟨i,x⟩
  ·exact .inl x
  ·have:=h'.new i a x
   unfold Qo at this;split at this
   ·exact .inr ‹_›
   ·exact T7 this e
end
section
variable(X:Cx)(xw:Nat->Hp->Prop)(C:Calls)
def tF(f:Lc->Zr->R D):TE:=λσ H Q=>∃ρ l S,St3 X.K ρ S H/\LocR ρ H l σ/\End X.K xw (XT aj H) ρ H Q (f l S)
def CF(e:Expr)(i:E):Prop:=PE X e (tF X xw (Pv.pv C i))
end
def CF.ce{X:Cx}{xw:Nat->Hp->Prop}{C:Calls}{e:Expr}{i:E}(h:CF X xw C e i):CE X xw C e i:=PE.imp h λσ H Q ⟨ρ,l,S,st,lr,h⟩=>⟨ρ,l,S,st,lr,h.fr⟩
def End.newF{K:ak}{xw:Nat->Hp->Prop}{ρ:Mx}{H0 H:Hp}{Q:VK}{S S0:Zr}{ds:List D}{xs:List V}(h:End K xw (XT aj H0) ρ H Q (.ok (.lst ds) S))(f:Fut ρ H0 ρ H)(s0:St3 K ρ S0 H0)(st:St3 K ρ S H)(r:Rq ρ H ds xs):∀p,H p=af->Q (.ref p) (upd H p (.lst xs)):=λp hp=>
 h ρ _ _ (Zs hp) (st.fresh hp) ⟨Wa Zk (st.nx hp) (r.mono (Zs hp)),λ_ _ _=>⟨p,rfl,f.new hp st.xd⟩⟩
def GY(K:ak)(xw:Nat->Hp->Prop)(f:Bf):List V->Hp->VK->Prop:=λvs H Q=>∃ρ S ds,St3 K ρ S H/\Rq ρ H ds vs/\∃H0 S0,Fut ρ H0 ρ H/\St3 K ρ S0 H0/\End K xw (XT aj H0) ρ H Q (Pv.po (Pv.Xk f ds) S)
def wW{xw:Nat->Hp->Prop}:∀σ H Q,tF X xw (Pv.pv C (.blt f is)) σ H Q->tCB (GY X.K xw f) (tA X xw (Pv.pvs C is)) σ H Q:=λσ H Q ⟨ρ,l,S,st,lr,h⟩=>
 ⟨ρ,l,S,st,lr,End.bind (h) λxs S1 ρ1 H1 vs f1 st1 r1 h1=>by cases f1.eq;exact⟨ρ,S1,xs,st1,r1,H,S,f1,st,h1⟩⟩
def Gc{X:Cx}{xw:Nat->Hp->Prop}{C:Calls}{e:Expr}{pos p:eY}{f:Bf}{id:String}{x:bn}{es:List Expr}{is:List E}(hc:Zz X (.builtin id) (GY X.K xw f))(hm:X.mg x=af)(ha:CA X xw C (e::es) is)(hg:Gl X x:=by rfl)(hv:dy x=aa (.builtin id):=by rfl)(hn:x≠"__name__":=by decide)(hdb:(x == ("__debug__" : bn))=al:=by decide)
  (he:aE (e::es) X.env=(al,cR e X.env)::aE es X.env:=by rfl)(hpl:(dU pos (aE es X.env)).any (·.1)=al:=by rfl):CF X xw C (.Call (.Name x p) (e::es) [] pos) (.blt f is):=
 PE.imp (Xi hc hg hm hv ha hn hdb he hpl) wW
def Gz{X:Cx}{xw:Nat->Hp->Prop}{C:Calls}{e:Expr}{pos p:eY}{f:Bf}{id:String}{x:bn}{es:List Expr}{is:List E}(hc:Zz X (.type id) (GY X.K xw f))(hm:X.mg x=af)(ha:CA X xw C (e::es) is)(hg:Gl X x:=by rfl)(hv:dy x=aa (.type id):=by rfl)(hn:x≠"__name__":=by decide)(hdb:(x == ("__debug__" : bn))=al:=by decide)
  (he:aE (e::es) X.env=(al,cR e X.env)::aE es X.env:=by rfl)(hpl:(dU pos (aE es X.env)).any (·.1)=al:=by rfl):CF X xw C (.Call (.Name x p) (e::es) [] pos) (.blt f is):=
 PE.imp (QC hc hg hm hv ha hn hdb he hpl) wW
def GW{X:Cx}{xw:Nat->Hp->Prop}:Zz X (.type "list") (GY X.K xw .list):=Zz.imp JI λvs H Q ⟨ρ,S,ds,st,r,H0,S0,f0,s0,h⟩=>by
 obtain⟨d,v,z,rfl,r1,hz,h⟩:=WQ h r;obtain⟨xs,hx,rfl⟩:=cp.mp hz;obtain⟨p,ys,rfl,hq,r2⟩:=r1.seq hx;exact⟨p,ys,rfl,by rw[<-st.hk];exact hq,h.newF f0 s0 st r2⟩
def ZK(fr:Bool)(K:ak)(xw:Nat->Hp->Prop)(ρ:Mx)(H0:Hp)(D:Ends):R Pv.FlV->Prop
 |.ok (.nx l os) S=>∀H' σ' W',St3 K ρ S H'->Eu ρ H0 W' l os σ' H'->D.nx σ' H'
 |.ok (.brk l os) S=>∀H' σ' W',St3 K ρ S H'->Eu ρ H0 W' l os σ' H'->D.bk σ' H'
 |.ok (.cnt l os) S=>∀H' σ' W',St3 K ρ S H'->Eu ρ H0 W' l os σ' H'->D.ct σ' H'
 |.ok (.ret d) S=>∀H' v,Fut ρ H0 ρ H'->St3 K ρ S H'->XT fr H0 ρ H' d v->D.rt v H'
 |.ex c S=>∀H',Fut ρ H0 ρ H'->St3 K ρ S H'->xw c H'
 |.no=>False
section
variable{fr:Bool}{K:ak}{xw:Nat->Hp->Prop}{ρ:Mx}{H0 H:Hp}{α β:Type}{rep:Mx->Hp->α->β->Prop}{D:Ends}{W:Own}{l:Lc}{os:List Nat}{σ:L2.St}{S:Zr}
theorem ZK.bind{Q1:β->Hp->Prop}(he:Eu ρ H0 W l os σ H)(h:ZK fr K xw ρ H0 D (r.bind f))
  (k:∀d S H1 v,Fut ρ H ρ H1->St3 K ρ S H1->rep ρ H1 d v->ZK fr K xw ρ H0 D (f d S)->Q1 v H1):End K xw rep ρ H Q1 r:=by
 cases r with|ok d S=>exact λρ1 H1 v g st r=>by cases g.eq;exact k d S H1 v g st r h|ex c S=>exact λρ1 H1 g st=>by cases g.eq;exact h H1 (he.fut.trans g) st|no=>exact h
def ZK.bindW{Q1:β->Hp->Prop}(he:Eu ρ H0 W l os σ H)(h:ZK fr K xw ρ H0 D (r.bind f))
  (k:∀d S H1 v,Fut ρ H ρ H1->St3 K ρ S H1->rep (ρ.ex W) H1 d v->ZK fr K xw ρ H0 D (f d S)->Q1 v H1):End K xw rep (ρ.ex W) H Q1 r:=by
 cases r with|ok d S=>exact λρ1 H1 v g st r=>by cases g.eq;exact k d S H1 v ⟨rfl,g.keep⟩ st.unex r h|ex c S=>exact λρ1 H1 g st=>by cases g.eq;exact h H1 (he.fut.trans ⟨rfl,g.keep⟩) st.unex|no=>exact h
def ZK.ob(h:ZK fr K xw ρ H0 D ((Pv.po o S).bind f)):∃a,o=aa a/\ZK fr K xw ρ H0 D (f a S):=by
 cases o with|none=>exact h.elim|some a=>exact⟨a,rfl,h⟩
def ZK.guard{c:Prop}[Decidable c](h:ZK fr K xw ρ H0 D (if c then a else .no)):c/\ZK fr K xw ρ H0 D a:=by
 split at h
 ·exact⟨‹_›,h⟩
 ·exact h.elim
def ZK.guardN{c:Prop}[Decidable c](h:ZK fr K xw ρ H0 D (if c then .no else a)):¬c/\ZK fr K xw ρ H0 D a:=by
 split at h
 ·exact h.elim
 ·exact⟨‹_›,h⟩
theorem ZK.rebase(b:Base ρ H0 H1)(x:∀a,ρ.X a->H0 a≠af)(h:ZK fr K xw ρ H0 D r):ZK fr K xw ρ H1 D r:=by
 cases r with
 |ok f S=>
  cases f with|nx l os=>exact λH' σ' W' st e=>h H' σ' W' st (e.rebase b x)|brk l os=>exact λH' σ' W' st e=>h H' σ' W' st (e.rebase b x)|cnt l os=>exact λH' σ' W' st e=>h H' σ' W' st (e.rebase b x)|ret d=>exact λH' v f st r=>h H' v (b.fut.trans f) st ⟨r.1,λz ds y=>let ⟨a,e,q⟩:=r.2 z ds y;⟨a,e,b.dom a q⟩⟩
 |ex c S=>exact λH' f st=>h H' (b.fut.trans f) st
 |no=>exact h
end
section
variable(X:Cx)(xw:Nat->Hp->Prop)(fr:Bool)
def tS3(f:Lc->List Nat->Zr->R Pv.FlV):TS:=λD σ H=>∃ρ H0 W l os S,St3 X.K ρ S H/\Eu ρ H0 W l os σ H/\ZK fr X.K xw ρ H0 D (f l os S)
variable(C:Calls)(ms:List Nat)
def CS(st:eF)(s:Sm):Prop:=PS X st (tS3 X xw fr (Pv.rv C ms s))
def CSs(st:List eF)(s:List Sm):Prop:=PSs X st (tS3 X xw fr (Pv.rvs C ms s))
def CG(tg:Expr)(t:List Nat):Prop:=PG X tg (tGU X.K t)
def Ze7(t:List Nat):TGs:=λvs σ H Q=>vs.length=t.length/\Q (Uv t vs σ) H
def CGs(tgs:List Expr)(t:List Nat):Prop:=PGs X tgs (Ze7 t)
end
def PS.imp(h:PS X e t)(k:∀D σ H,t' D σ H->t D σ H):PS X e t':=λpq s σ H D I q=>h pq s σ H D I (k D σ H q)
def PSs.imp(h:PSs X e t)(k:∀D σ H,t' D σ H->t D σ H):PSs X e t':=λpq s σ H D I q=>h pq s σ H D I (k D σ H q)
def PG.imp(h:PG X e t)(k:∀v σ H Q,t' v σ H Q->t v σ H Q):PG X e t':=λpq s σ H v u Q I r q=>h pq s σ H v u Q I r (k v σ H Q q)
def PGs.imp(h:PGs X e t)(k:∀v σ H Q,t' v σ H Q->t v σ H Q):PGs X e t':=λpq s σ H v u Q I r q=>h pq s σ H v u Q I r (k v σ H Q q)
section
variable{X:Cx}{xw:Nat->Hp->Prop}{fr:Bool}{C:Calls}{ns:List Nat}{e a b c:Expr}{i j k:E}{pos p p' p2:eY}{s0:eF}{ss:List eF}{m0:Sm}{ms ms':List Sm}
def yj{es:List Expr}{is:List E}(h:CA X xw C es is):CF X xw C (.List es pos) (.lst is):=PE.imp (UP h) λσ H Q ⟨ρ,l,S,st,lr,h⟩=>by
 rw[Pv.pv]at h;refine⟨ρ,l,S,st,lr,h.bind λxs S1 ρ1 H1 vs f1 st1 r1 h1=>?_⟩
 obtain⟨hl,h1⟩:=h1.guard;cases f1.eq;exact⟨by rw[r1.length,<-Wt];exact hl,h1.newF f1 st st1 r1⟩
def xb:CSs X xw fr C ns [] []:=PSs.imp JP λD σ H ⟨ρ,H0,W,l,os,S,st,he,h⟩=>h H σ W st he
def GG(h1:CS X xw fr C ns s0 m0)(h2:CSs X xw fr C ns ss ms):CSs X xw fr C ns (s0::ss) (m0::ms):=PSs.imp (Yp h1 h2) λD σ H ⟨ρ,H0,W,l,os,S,st,he,h⟩=>by
 refine⟨ρ,H0,W,l,os,S,st,he,?_⟩;rw[Pv.rvs]at h;cases q:Pv.rv C ns m0 l os S with
 |no=>rw[q]at h;exact h
 |ex c S1=>rw[q]at h;exact h
 |ok fl S1=>
  rw[q]at h;cases fl with|nx l1 os1=>exact λH1 σ1 W1 st1 he1=>⟨ρ,H0,W1,l1,os1,S1,st1,he1,h⟩|_=>exact h
def yS(he:CE X xw C e i):CS X xw al C ns (.Return (aa e) pos) (.ret i):=PS.imp (VD he) λD σ H ⟨ρ,H0,W,l,os,S,st,en,h⟩=>by
 rw[Pv.rv]at h;exact⟨ρ,l,S,st,en.all,ZK.bind en h λx S1 H1 v f1 st1 r1 h1=>h1 H1 v (en.fut.trans f1) st1 ⟨r1,λz=>by cases z⟩⟩
def G9{K:ak}{ρ:Mx}{H0 H:Hp}{W:Own}{l:Lc}{os:List Nat}{σ:L2.St}{S:Zr}{a:aC}(en:Eu ρ H0 W l os σ H)(st:St3 K ρ S H)(h:H a=af):H0 a=af:=en.fut.new h st.xd
def JH(he:CF X xw C e i):CS X xw fr C ns (.Return (aa e) pos) (.ret i):=PS.imp (VD he) λD σ H ⟨ρ,H0,W,l,os,S,st,en,h⟩=>by
 rw[Pv.rv]at h;exact⟨ρ,l,S,st,en.all,ZK.bind en h λx S1 H1 v f1 st1 r1 h1=>h1 H1 v (en.fut.trans f1) st1 ⟨r1.1,λ_ ds y=>let ⟨a,e,q⟩:=r1.2 rfl ds y;⟨a,e,G9 en st q⟩⟩⟩
def GC{n:Nat}{is:List E}(he:CE X xw C e (.call n is))(hs:eK e af pos.line X.env=cC al:=by rfl):CS X xw fr C ns (.Expr e pos) (.ex (.call n is)):=PS.imp (Go he hs) λD σ H ⟨ρ,H0,W,l,os,S,st,en,h⟩=>
 ⟨ρ,l,S,st,en.all,ZK.bind en (h) λx S1 H1 v f1 st1 r1 h1=>h1 H1 σ W st1 (en.mono f1)⟩
def jH{sa sb:List eF}(hc:CT X xw C c k)(ha:CSs X xw fr C ns sa ms)(hb:CSs X xw fr C ns sb ms'):CS X xw fr C ns (.If c sa sb pos) (.ite k ms ms'):=PS.imp (jJ hc ha hb) λD σ H ⟨ρ,H0,W,l,os,S,st,en,h⟩=>by
 rw[Pv.rv]at h;refine⟨ρ,l,S,st,en.all,ZK.bind en h λx S1 H1 v f1 st1 r1 h1=>?_⟩
 have e1:x=v:=r1;subst e1;cases x with|true=>exact⟨ρ,H0,W,l,os,S1,st1,en.mono f1,h1⟩|false=>exact⟨ρ,H0,W,l,os,S1,st1,en.mono f1,h1⟩
def JE{n:Nat}{x:bn}(hN:X.N.Nodup)(hi:X.N[n]?=aa x:=by rfl)(hx:L2.Loc X.env.scope x:=by first|exact gN rfl|exact eU rfl)(hf:X.fn x=aj\/X.env.scope.names.lookup x=aa .local:=by first|exact .inl rfl|exact .inr rfl):CG X (.Name x pos) [n]:=
 PG.imp (V5 hN hi hx hf) λv σ H Q q=>q
def Gt:CGs X [] []:=PGs.imp ZbI λvs σ H Q ⟨h,q⟩=>by
 cases vs with|nil=>exact⟨rfl,q⟩|cons _ _=>cases h
def UB{tgs:List Expr}{n:Nat}{t:List Nat}{x:bn}(hN:X.N.Nodup)(h2:CGs X tgs t)(hi:X.N[n]?=aa x:=by rfl)(hx:L2.Loc X.env.scope x:=by first|exact gN rfl|exact eU rfl)(hf:X.fn x=aj\/X.env.scope.names.lookup x=aa .local:=by first|exact .inl rfl|exact .inr rfl)
  (hs:(cD (.Name x pos::tgs) X.env).map (·.2)=d7 (.Name x pos) X.env::(cD tgs X.env).map (·.2):=by rfl):CGs X (.Name x pos::tgs) (n::t):=
 PGs.imp (jR (V5 hN hi hx hf) h2 hs) λvs σ H Q ⟨h,q⟩=>by
  cases vs with|nil=>cases h|cons v vs=>exact⟨v,vs,rfl,Nat.succ.inj h,q⟩
theorem Jd{E:au->ax->Prop}(hne:t≠it):∀(n i:Nat)(s:ax)(Q:List au->ax->Prop),s.heap.IsListIter it t i->s.heap.IsList t items->i+n<=items.size->
  (∀h',bX.IsListIter h' it t (i+n)->fq it s.heap h'->Q ((items.toList.drop i).take n) {s with heap:=h' })->bc (aS prog w) A (draw (.ref it) n) Q E s
 |0,i,s,Q,hit,_,_,hQ=>by
  exact aA (by simpa using hQ s.heap hit (fq.refl ..))
 |n+1,i,s,Q,hit,ht,hle,hQ=>by
  have hlt:i<items.size:=by lia
  refine ae (lL hit ht (x:=items[i]) (by simp[hlt]) λh₁ hit₁ hs₁=>?_)
  refine ae (cz (Jd hne n (i+1) _ _ hit₁ (ht.extBut hs₁.extBut hne) (by lia) λh₂ hit₂ hs₂=>aA ?_))
  have hd:items.toList.drop i=items[i]::items.toList.drop (i+1):=by simp[cg,hlt]
  have:=hQ h₂ (by rw[show i+(n+1)=i+1+n by lia];exact hit₂) (hs₁.trans hs₂)
  rw[hd,List.take_succ_cons]at this;exact this
theorem zP{E:au->ax->Prop}{x1}{Q:Unit->ax->Prop}(hh:A.handled=af)(ht:s.heap.IsList t items)
  (hn:(cD elts env).length=items.size)(hstar:(cD elts env).findIdx? (·.1)=af)
  (h:∀h',fZ s.heap.objs.size s.heap h'->bc (aS prog w) A (mZ ((cD elts env).map (·.2)) items.toList) Q E {s with heap:=h' }) :
  bc (aS prog w) A (d7 (.Tuple elts x1 pos) env (.ref t)) Q E s:=by
 rw[assign_Tuple];refine ae (d9 ?_);have hlt:t≠s.heap.objs.size:=by obtain⟨o,ho,_⟩:=ht;exact br (aJ ho)
 unfold unpack;rw[hn,hstar];refine ae (cz ?_);refine ae ?_;refine ae (wpAny_specialOf ht.typeIs slot_list_iter.lookup ?_);refine aA ?_;simp only[cE,if_false];refine ae (cz (fO ht ?_));refine ae (cz (Jd hlt items.size 0 _ _ ⟨_,aO _ rfl,rfl,rfl⟩ (ht.push _) (by lia) λh₁ hit₁ hs₁=>?_))
 have hall:mT items.size (oN 0 items.toList)=items.toList:=by
  rw[kF];exact cq (by simp)
 rw[hall];rw[T8 (by simp)]
 have ht₁:=(ht.push _).extBut hs₁.extBut hlt;refine ae (cz (md hh hit₁ ht₁ (by simp) λh₂ he₂=>?_))
 simp only[Option.isSome_none,cE,if_false];exact aA (h h₂ λb o hb e=>he₂ b o hb (hs₁.extBut b o hb (aw _ e)))
def gTL(K:ak)(n:Nat)(t:TGs):TG:=λv σ H Q=>∃a xs,v=.ref a/\(SqT K H a xs\/H a=aa (.lst xs))/\xs.length=n/\t xs σ H Q
def ZeX{X:Cx}{pos:eY}{es:List Expr}{k:Nat}{t:TGs}{n:Nat}(hc:X.calm=aj)(h:PGs X es t)
  (hn:(cD es X.env).length=n:=by rfl)(hst:(cD es X.env).findIdx? (·.1)=af:=by rfl):PG X (.Tuple es k pos) (gTL X.K n t):=by
 intro pq s σ H v u Q I r hw;obtain⟨a,xs,e1,hq|hq,hl,hw⟩:=hw
 ·exact Zc0 hc h hn hst pq s σ H v u Q I r ⟨a,xs,e1,hq,hl,hw⟩
 ·subst e1
  cases r;obtain⟨its,rv,pl,hz⟩:=I.list (SqL.of hq);refine zP (I.ok.hd hc) pl.isList (by simp[hn,<-hl,rv.length]) hst λh' hx=>?_
  have I1:=I.kept (t':=s.toks) λb o e=>hx b o (br (aJ e)) e
  exact h pq _ σ H xs _ Q I1 (by simpa using rv) hw
def yC{tgs:List Expr}{q2:Nat}{n m:Nat}{r:List Nat}(hc:X.calm=aj)(h:CGs X tgs (n::m::r))(hn:(cD tgs X.env).length=(n::m::r).length:=by rfl)(hst:(cD tgs X.env).findIdx? (·.1)=af:=by rfl):CG X (.Tuple tgs q2 pos) (n::m::r):=
 PG.imp (ZeX hc h hn hst) λv σ H Q ⟨a,xs,e,hp,hl,q⟩=>⟨a,xs,e,hp,hl,hl,q⟩
def ZK.evA{D:Ends}{K:ak}{ρ:Mx}{H0 H:Hp}{W:Own}{l:Lc}{os:List Nat}{σ:L2.St}{S:Zr}{f:Pv.V->Zr->R Pv.FlV}{Q1:VK}(z:Bool)(st:St3 K ρ S H)(en:Eu ρ H0 W l os σ H)(h:ZK fr K xw ρ H0 D ((Pv.pvA C i l os S).bind f))
  (k:∀d S1 H1 v,Fut ρ H ρ H1->St3 K ρ S1 H1->XT z H (ρ.ex W) H1 d v->ZK fr K xw ρ H0 D (f d S1)->Q1 v H1):∃ρ' l' S,St3 K ρ' S H/\LocR ρ' H l' σ/\End K xw (XT z H) ρ' H Q1 (Pv.pv C i l' S):=by
 have hid:ZK fr K xw ρ H0 D ((Pv.pv C i (Pv.hide os l) S).bind f)->∃ρ' l' S,St3 K ρ' S H/\LocR ρ' H l' σ/\End K xw (XT z H) ρ' H Q1 (Pv.pv C i l' S):=λh=>⟨ρ.ex W,Pv.hide os l,S,en.st st,en.hid,ZK.bindW en h k⟩
 cases os with
 |nil=>exact hid (by rw[Ve];exact h)
 |cons o os=>
  have h:ZK fr K xw ρ H0 D (Pv.PR.bind (match Pv.pv C i (Pv.hide (o::os) l) S with
   |.ok v s=>.ok v s
   |.ex c s=>.ex c s
   |.no=>(Pv.pv C i l S).bind λv s=>if v.flat then .ok v s else .no) f):=h
  cases q:Pv.pv C i (Pv.hide (o::os) l) S with
  |ok v s=>rw[q]at h;exact hid (by rw[q];exact h)
  |ex c s=>rw[q]at h;exact hid (by rw[q];exact h)
  |no=>
   rw[q]at h;have h:=h
   rw[XO]at h;refine⟨ρ,l,S,st,en.all,ZK.bind en h λd S1 H1 v f1 st1 r1 h1=>?_⟩
   by_cases c:d.flat=aj
   ·rw[T9 c]at h1
    exact k d S1 H1 v f1 st1 ⟨Rep.flat (ρ:=ρ) (ρ':=ρ.ex W) rfl (λ_ _ z _=>z) c r1.1,r1.2⟩ h1
   ·rw[T8 c]at h1;exact h1.elim
def End.unfr{K:ak}{ρ:Mx}{H H0:Hp}{Q:VK}{r:R D}(h:End K xw (XT al H0) ρ H Q r):End K xw Rep ρ H Q r:=by
 cases r with|ok d S=>exact λρ' H' v f st r=>h ρ' H' v f st ⟨r,λz=>by cases z⟩|_=>exact h
def Ji{n:Nat}{tg:Expr}(he:CE X xw C e i)(hg:CG X tg [n])(hf:(ns.contains n&&Pv.fresh i)=al:=by rfl)(hs:dJ [tg] e pos.line X.env=cC al:=by rfl)(hw:dL [tg] e X.env=cC af:=by rfl)
  (h1:(cD [tg] X.env).map (·.2)=[d7 tg X.env]:=by rfl):CS X xw fr C ns (.Assign [tg] e pos) (.asg [n] i):=PS.imp (Vg he hg hs hw h1) λD σ H ⟨ρ,H0,W,l,os,S,st,en,h⟩=>by
 rw[Pv.rv]at h;obtain⟨ρ',l',S',a,b,c⟩:=ZK.evA al st en h λd S1 H1 v f1 st1 r1 h1=>by
  rw[hf,T8 aM]at h1;exact h1 H1 _ _ st1 ((en.mono f1).drop λ_ z=>by cases z;exact r1.1.lat Lat.noW)
 exact⟨ρ',l',S',a,b,c.unfr⟩
def Zdw{D:Ends}{ρ:Mx}{H0 H:Hp}{W:Own}{l:Lc}{os:List Nat}{σ:L2.St}{S:Zr}{n:Nat}(st:St3 X.K ρ S H)(en:Eu ρ H0 W l os σ H)(h:ZK fr X.K xw ρ H0 D (Pv.rv C ns (.asg [n] i) l os S)):tF X xw (Pv.pv C i) σ H λx H1=>D.nx (σ.set n (aa x)) H1:=by
 rw[Pv.rv]at h;refine ZK.evA aj st en h λd S1 H1 v f1 st1 r1 h1=>?_
 by_cases c:(ns.contains n&&Pv.fresh i)=aj
 ·rw[T9 c]at h1
  cases d with
  |lst xs=>
   obtain⟨⟨hf,hl⟩,h1⟩:=ZK.guard h1;obtain⟨a,rfl,ha⟩:=r1.2 rfl xs rfl;exact h1 H1 _ _ st1 (en.take st.xd f1 ha hf r1.1 hl)
  |_=>exact h1.elim
 ·rw[T8 c]at h1
  exact h1 H1 _ _ st1 ((en.mono f1).drop λ_ z=>by cases z;exact r1.1.lat Lat.noW)
def Gm{n:Nat}{tg:Expr}(he:CF X xw C e i)(hg:CG X tg [n])(hs:dJ [tg] e pos.line X.env=cC al:=by rfl)(hw:dL [tg] e X.env=cC af:=by rfl)
  (h1:(cD [tg] X.env).map (·.2)=[d7 tg X.env]:=by rfl):CS X xw fr C ns (.Assign [tg] e pos) (.asg [n] i):=PS.imp (Vg he hg hs hw h1) λD σ H ⟨ρ,H0,W,l,os,S,st,en,h⟩=>Zdw st en h
def yZ{n m:Nat}{t:List Nat}{tg:Expr}(he:CE X xw C e i)(hg:CG X tg (n::m::t))(hs:dJ [tg] e pos.line X.env=cC al:=by rfl)(hw:dL [tg] e X.env=cC af:=by rfl)
  (h1:(cD [tg] X.env).map (·.2)=[d7 tg X.env]:=by rfl):CS X xw fr C ns (.Assign [tg] e pos) (.asg (n::m::t) i):=PS.imp (Vg he hg hs hw h1) λD σ H ⟨ρ,H0,W,l,os,S,st,en,h⟩=>by
 rw[Pv.rv]at h
 ·obtain⟨ρ',l',S',a,b,c⟩:=ZK.evA (Q1:=λx H1=>tGU X.K (n::m::t) x σ H1 D.nx) al st en h λd S1 H1 v f1 st1 r1 h1=>by
   obtain⟨ht,h1⟩:=h1.guardN;obtain⟨l',hl,h1⟩:=ZK.ob h1;exact(en.mono f1).assign (by simpa using ht) r1.1 hl λσ' e'=>h1 H1 σ' W st1 e'
  exact⟨ρ',l',S',a,b,c.unfr⟩
 ·intro _ z;cases z
end
theorem WW:∀{a b:List D},Pv.Yh a=aj->Pv.Yh b=aj->Pv.Yh (a++b)=aj
 |[],_,_,h=>h
 |x::a,b,h,h'=>by
  rw[lB,Pv.Yh]at *;have:=(aD _ _).mp h;rw[this.1,WW this.2 h'];rfl
theorem Eu.at{ρ:Mx}{H0 H:Hp}{W:Own}{l:Lc}{os:List Nat}{σ:L2.St}{i:Nat}{xs:List D}(h:Eu ρ H0 W l os σ H)(hi:os.contains i=aj)(hx:Pv.zN l[i]?=aa xs):∃a,W i=aa a/\Pv.Yh xs=aj/\σ[i]?=aa (aa (.ref a))/\∃us,H a=aa (.lst us)/\Rq ρ H xs us:=by
 rw[h.osW]at hi;obtain⟨a,w⟩:=cV.mp hi;obtain⟨ys,us,p,b,c,e,r⟩:=h.own i a w;rw[p]at hx;cases hx;exact⟨a,w,b,c,us,e,r⟩
section
variable{X:Cx}{xw:Nat->Hp->Prop}{fr:Bool}{C:Calls}{ns:List Nat}{e a b c:Expr}{i j k:E}{pos p p' p2:eY}{s0:eF}{ms ms':List Sm}{n:Nat}{x:bn}
def Vp{apos cpos:eY}(he:CE X xw C e i)(hN:X.N[n]?=aa x:=by rfl)(hv:Vis X.env.scope x:=by first|exact gN rfl|exact eU (gN rfl)|exact eU (eU rfl))(hd:(x == ("__debug__" : bn))=al:=by decide)
  (hcd:(x == ("__classdict__" : bn))=al:=by decide)
  (hbase:attributeBase (.Name x p) "extend" X.env (cR (.Name x p) X.env)=cR (.Name x p) X.env:=by rfl)
  (hfew:((dU cpos (aE [e] X.env)).all (λx=>!x.1)&&(backToKw cpos (keywordEach [] X.env)).all (λx=>x.1.isSome)
   && ag (([e]:List Expr).length+([]:List rQ).length+(if([]:List rQ).isEmpty then 0 else 1)<30))=aj:=by rfl)
  (hline:(apos.endLine == cpos.line)=aj:=by rfl)(hs:aE [e] X.env=(al,cR e X.env)::aE [] X.env:=by rfl)(hplain:(dU cpos (aE [] X.env)).any (·.1)=al:=by rfl)
  (hw:eK (.Call (.Attribute (.Name x p) "extend" apos) [e] [] cpos) af pos.line X.env=cC al:=by rfl) :
  CS X xw fr C ns (.Expr (.Call (.Attribute (.Name x p) "extend" apos) [e] [] cpos) pos) (.ex (.mt .extend (.v n) [i])):=
 PS.imp (Go (wv fe PySem.F.slot_list_extend PySem.F.type_list_extend vW (Yk hN hv hd hcd) (Zw he Yj hs) hbase hfew hline hs hplain) hw) λD σ H ⟨ρ,H0,W,l,os,S,st,en,h⟩=>by
 rw[Pv.rv]at h;obtain⟨c,h⟩:=h.guard;obtain⟨xs,hx,h⟩:=ZK.ob h;obtain⟨a,ha,_,q,us,e1,_⟩:=en.at c hx;refine⟨.ref a,q,.inl ⟨rfl,us,SqL.of e1⟩,ρ.ex W,Pv.hide os l,S,en.st st,en.hid,ZK.bindW en h λy S1 H1 v f1 st1 r1 h1=>?_⟩
 cases y with
 |lst ys=>
  obtain⟨⟨hf,hl⟩,h1⟩:=ZK.guard h1;have en1:=en.mono f1;obtain⟨a',ha',hg,_,us,e2,r'⟩:=en1.at c hx;rw[ha]at ha';cases ha';obtain⟨b,ws,rfl,e3,_,r3⟩:=r1.lst';have r3:=r3.lat Lat.unex;exact⟨a,b,us,ws,rfl,rfl,e2,e3,by rw[r'.length,r3.length,<-Wt];exact hl,h1 _ _ W (st1.mut en1 ha) (en1.mut ha (WW hg hf) (r'.append r3))⟩
 |_=>exact h1.elim
def yF{m:Nat}{y:bn}{px py pt:eY}{kt k2 pt2}(hc:X.calm=aj)(hN:X.N.Nodup)(ha:CA X xw C [a,b] [i,j])(hnm:n≠m:=by decide)(hi:X.N[n]?=aa x:=by rfl)(hj:X.N[m]?=aa y:=by rfl)
  (hx:X.env.scope.names.lookup x=aa .local:=by rfl)(hy:X.env.scope.names.lookup y=aa .local:=by rfl)
  (hw:dL [.Tuple [.Name x px,.Name y py] kt pt] (.Tuple [a,b] k2 pt2) X.env=cC (aa [x,y]):=by rfl)
  (hs:dJ [.Tuple [.Name x px,.Name y py] kt pt] (.Tuple [a,b] k2 pt2) pos.line X.env=cC al:=by rfl) :
  CS X xw fr C ns (.Assign [.Tuple [.Name x px,.Name y py] kt pt] (.Tuple [a,b] k2 pt2) pos) (.par [n,m] [i,j]):=
 PS.imp (ZdC hc hN hi hj hnm hx hy ha hw hs) λD σ H ⟨ρ,H0,W,l,os,S,st,en,h⟩=>by
 rw[Pv.rv]at h;have fin:∀{vs:List Pv.V}{us:List V}{S1:Zr}{H1:Hp},Fut ρ H ρ H1->St3 X.K ρ S1 H1->Rq (ρ.ex W) H1 vs us->ZK fr X.K xw ρ H0 D (if([n,m].any os.contains)=aj then .no else(Pv.po (Pv.YO [n,m] vs l) S1).bind λρ s=>.ok (.nx ρ os) s)->∃v w,us=[v,w]/\D.nx ((σ.set n (aa v)).set m (aa w)) H1:=λ{vs us S1 H1} f1 st1 r1 h1=>by
  obtain⟨ht,h1⟩:=h1.guardN;obtain⟨l',hl,h1⟩:=ZK.ob h1;obtain⟨hz,e'⟩:=(en.mono f1).fill (by simpa using ht) r1 hl
  match us,hz,e' with
  |[v,w],_,e'=>exact⟨v,w,rfl,h1 H1 _ W st1 e'⟩
 cases os with
 |nil=>exact⟨ρ.ex W,Pv.hide [] l,S,en.st st,en.hid,ZK.bindW en (by rw[Ve];exact h) λvs S1 H1 us f1 st1 r1 h1=>fin f1 st1 r1 h1⟩
 |cons o os=>
  have h:ZK fr X.K xw ρ H0 D (((Pv.pvs C [i,j] l S).bind λv s=>if Pv.Yh v=aj then Pv.PR.ok v s else .no).bind _):=h
  rw[XO]at h;refine⟨ρ,l,S,st,en.all,ZK.bind en h λvs S1 H1 us f1 st1 r1 h1=>?_⟩
  by_cases c:Pv.Yh vs=aj
  ·rw[T9 c]at h1
   exact fin f1 st1 (Rq.flat (ρ:=ρ) (ρ':=ρ.ex W) rfl (λ_ _ z _=>z) c r1) h1
  ·rw[T8 c]at h1;exact h1.elim
def xn{m:Nat}{y:bn}{px py:eY}(hN:X.N.Nodup)(hj:X.N[m]?=aa y:=by rfl)(hv:Vis X.env.scope y:=by first|exact gN rfl|exact eU (gN rfl)|exact eU (eU rfl))(hd:(y == ("__debug__" : bn))=al:=by decide)
  (hcd:(y == ("__classdict__" : bn))=al:=by decide)(hi:X.N[n]?=aa x:=by rfl)(hx:L2.Loc X.env.scope x:=by first|exact gN rfl|exact eU rfl)(hf:X.fn x=aj\/X.env.scope.names.lookup x=aa .local:=by first|exact .inl rfl|exact .inr rfl)
  (hs:dJ [.Name x px] (.Name y py) pos.line X.env=cC al:=by rfl)(hw:dL [.Name x px] (.Name y py) X.env=cC af:=by rfl)
  (h1:(cD [.Name x px] X.env).map (·.2)=[d7 (.Name x px) X.env]:=by rfl):CS X xw fr C ns (.Assign [.Name x px] (.Name y py) pos) (.mov n m):=
 PS.imp (Vg (Yk hj hv hd hcd) (V5 hN hi hx hf) hs hw h1) λD σ H ⟨ρ,H0,W,l,os,S,st,en,h⟩=>by
 rw[Pv.rv]at h;obtain⟨c,h⟩:=h.guard;obtain⟨c1,c⟩:=(aD _ _).mp c;obtain⟨c2,c3⟩:=(aD _ _).mp c;have c3:n≠m:=T6 c3;have c2:os.contains n=al:=by simpa using c2
 obtain⟨xs,hx,h⟩:=ZK.ob h;obtain⟨a,ha,hf,q,us,e1,r⟩:=en.at c1 hx;have nx:=en.nx ha;refine⟨.ref a,q,h H _ (noW W m) st ?_⟩;have e:=en.drop (i:=m) (o:=af) (v:=.ref a) λ_ z=>by cases z
 have hl:=(aG.mp q).1;rw[show σ.set m (aa (.ref a))=σ by
  have:=(aG.mp q).2;rw[<-this];exact List.set_getElem_self hl]at e
 have e:=e.set (o:=aa (.lst xs)) (by
  rw[Ww en.osW];unfold noW;rw[T8 c3,en.nW c2];rfl) λ_ z=>by
   cases z;refine Wa e1 (λx=>x.elim nx λ⟨k,w⟩=>?_) (Rq.flat (ρ:=ρ) (ρ':=ρ.ex (noW W m)) rfl (λ_ _ z _=>z) hf r)
   obtain⟨w1,w2⟩:=Xz w;exact w1 (en.inj k m a w2 ha)
 rw[rA _ _ (Ne.symm c3)]at e;exact e
end
structure WRel(K:ak)(ρ:Mx)(H:Hp)(w:List D)(J:It):Prop where
 go:∀(i:Nat) ρ' S' H',Lat ρ H ρ' H'->St3 K ρ' S' H'->i<w.length->J.go i H'/\∀x H'',J.yld i H' x H''->Fut ρ' H' ρ' H''/\St3 K ρ' S' H''/\∀d,w[i]?=aa d->Rep ρ' H'' d x
 stop:∀ρ' S' H',Lat ρ H ρ' H'->St3 K ρ' S' H'->J.stop w.length H'
section
variable(X:Cx)(xw:Nat->Hp->Prop)
def tW3(f:Lc->Zr->R (List D)):TI:=λσ H Q=>∃ρ l S,St3 X.K ρ S H/\LocR ρ H l σ/\End X.K xw (WRel X.K) ρ H Q (f l S)
def CW(C:Calls)(tg it:Expr)(w:Ev.W):Prop:=PI X tg it (tW3 X xw (Pv.pvw C w))
end
def PI.imp(h:PI X tg it t)(k:∀σ H Q,t' σ H Q->t σ H Q):PI X tg it t':=λpq s σ H R I q=>h pq s σ H R I (k σ H R q)
section
variable{X:Cx}{xw:Nat->Hp->Prop}{C:Calls}{e a b c tg it:Expr}{i j k:E}{pos p p' p2:eY}
def Zft(K:ak)(tl:TE):TI:=λσ H R=>tl σ H λx H1=>∃a,x=.ref a/\(((∃xs,SqL K H1 a xs)/\R (Itl K a) H1)\/((∃xs,SqT K H1 a xs)/\R (Itt K a) H1))
def Zd0(hl:PE X l tl):PI X tg l (Zft X.K tl):=by
 intro pq s σ H R I h;refine thn (hl pq s σ H _ I h) λv s1 ⟨x,H1,I1,r1,a,e,q⟩=>?_
 subst e;cases r1;rcases q with⟨⟨xs,hq⟩,q⟩|⟨⟨xs,hq⟩,q⟩
 ·obtain⟨its,rv,p,hz⟩:=I1.list hq
  refine fO p.isList ?_;refine⟨s1.heap.objs.size,[s1.heap.objs.size],_,_,H1,rfl,I1.kept (t':=s1.toks) λb o e=>aw _ e,uB a _,⟨_,aO _ rfl,rfl,rfl⟩,λb hb=>?_,q⟩
  have e:b=s1.heap.objs.size:=by simpa using hb
  subst e;exact I1.fpOk (aI _) (I1.hok.fresh (aI _))
 ·obtain⟨its,rv,p,hz⟩:=I1.tuple hq
  refine gO (p) ?_
  refine⟨s1.heap.objs.size,[s1.heap.objs.size],_,_,H1,rfl,I1.kept (t':=s1.toks) λb o e=>aw _ e,yc a _,⟨_,aO _ rfl,rfl,rfl⟩,λb hb=>?_,q⟩
  have e:b=s1.heap.objs.size:=by simpa using hb
  subst e;exact I1.fpOk (aI _) (I1.hok.fresh (aI _))
def Vv{K:ak}{ρ:Mx}{H:Hp}{ds:List D}{xs:List V}{J:It}(r:Rq ρ H ds xs)(hg:∀ρ' H',Lat ρ H ρ' H'->(∀i x,xs[i]?=aa x->J.go i H'/\∀y H'',J.yld i H' y H''->H''=H'/\y=x)/\∀n,n=xs.length->J.stop n H'):WRel K ρ H ds J where
 go:=λi ρ' S' H' f st hi=>by
  obtain⟨v,g,r'⟩:=(r.lat f).get (ai hi);obtain⟨a,b⟩:=(hg ρ' H' f).1 i v g;refine⟨a,λx H'' y=>?_⟩
  obtain⟨rfl,rfl⟩:=b x H'' y;exact⟨Fut.refl _ _,st,λd hd=>by rw[ai hi]at hd;cases hd;exact r'⟩
 stop:=λρ' S' H' f st=>(hg ρ' H' f).2 _ r.length.symm
def Zai{K K':ak}{ρ:Mx}{H:Hp}{ds:List D}{a:aC}{xs:List V}(hp:H a=aa (.tup xs))(r:Rq ρ H ds xs):WRel K ρ H ds (Itt K' a):=Vv r λρ' H' f=>by
 have h:=SqT.of (K:=K') (f.keep a _ hp λ_ z=>by cases z)
 exact⟨λi x g=>⟨⟨xs,x,h,g⟩,λy H'' z=>⟨z.1,by have:=z.2 xs h;rw[g]at this;exact(am this).symm⟩⟩,λn e=>⟨xs,h,by omega⟩⟩
def wa{K K':ak}{ρ:Mx}{H:Hp}{ds:List D}{a:aC}{xs:List V}(hp:∀ρ' H',Lat ρ H ρ' H'->SqL K' H' a xs)(r:Rq ρ H ds xs):WRel K ρ H ds (Itl K' a):=Vv r λρ' H' f=>by
 have h:=hp ρ' H' f;exact⟨λi x g=>⟨⟨xs,x,h,g⟩,λy H'' z=>⟨z.1,by have:=z.2 xs h;rw[g]at this;exact(am this).symm⟩⟩,λn e=>⟨xs,h,by omega⟩⟩
def Q8(lo:Int)(n:Nat):(Pv.Yg lo n).length=n:=by unfold Pv.Yg;rw[aB,bS]
theorem Q2(lo:Int):∀(l:List Nat),Rq ρ H (l.map λ(k:Nat)=>Pv.V.int (lo+(k:Int))) (l.map λ(k:Nat)=>V.int (lo+(k:Int)))
 |[]=>Rq.nil
 |_::l=>Rq.cons (ZT _) (Q2 lo l)
def uU{K:ak}{ρ:Mx}{H:Hp}{lo:Int}{n:Nat}:WRel K ρ H (Pv.Yg lo n) (Itr lo n):=Vv (Q2 lo (aY n)) λρ' H' f=>by
 refine⟨λi x g=>?_,λm e=>?_⟩
 ·have hi:i<n:=by have:=(aG.mp g).1;simpa using this
  rw[aR,dE hi]at g;exact⟨hi,λy H'' z=>⟨z.1,z.2.trans (am g)⟩⟩
 ·rw[aB,bS]at e;show n<=m;omega
def Zar(he:CE X xw C e i):CW X xw C tg e (.of i):=PI.imp (Zd0 he) λσ H Q ⟨ρ,l,S,st,lr,h⟩=>by
 rw[Pv.pvw]at h;refine⟨ρ,l,S,st,lr,h.bind λx S1 ρ1 H1 v f1 st1 r1 h1=>?_⟩
 obtain⟨ds,hd,h1⟩:=End.po h1;have q:∀{J},WRel X.K ρ1 H1 ds J->Q J H1:=λw=>End.ok h1 st1 w
 cases x with
 |tup ds=>cases hd;obtain⟨a,xs,rfl,hp,r⟩:=r1.tup';exact⟨a,rfl,.inr ⟨⟨xs,SqT.of hp⟩,q (Zai hp r)⟩⟩
 |lst ds=>cases hd;obtain⟨a,xs,rfl,hp,hx,r⟩:=r1.lst';exact⟨a,rfl,.inl ⟨⟨xs,SqL.of hp⟩,q (wa (λρ' H' f=>SqL.of (f.keep a _ hp λ_ _=>hx)) r)⟩⟩
 |scr ns=>
  cases hd;obtain⟨a,rfl,hp⟩:=r1.scr';rw[st1.hk]at hp;refine⟨a,rfl,.inl ⟨⟨_,hp.sq⟩,q (wa (λρ' H' f=>?_) (Rq.ints ns))⟩⟩
  rcases hp with⟨o,hp⟩|hp
  ·exact .inl (.inr ⟨o,f.keep a _ hp λ_ z=>by cases z⟩)
  ·exact .inr hp
 |_=>exact Ev.nos hd
def Zcn{α β:Type}{rep:Mx->Hp->α->β->Prop}{ρ:Mx}{l:Lc}{S:Zr}{σ:L2.St}{H:Hp}{Q:β->Hp->Prop}{Q1:List V->Hp->Prop}{g:D->Zr->R α}(st:St3 X.K ρ S H)(lr:LocR ρ H l σ)(h:End X.K xw rep ρ H Q ((Pv.pv C i l S).bind g))
  (k:∀x S1 ρ1 H1 v,St3 X.K ρ1 S1 H1->Rep ρ1 H1 x v->End X.K xw rep ρ1 H1 Q (g x S1)->Q1 [v] H1):tA X xw (Pv.pvs C [i]) σ H Q1:=by
 refine⟨ρ,l,S,st,lr,?_⟩;show End X.K xw Rq ρ H _ ((Pv.pv C i l S).bind λx S=>.ok [x] S)
 cases q:Pv.pv C i l S with
 |no=>rw[q]at h;exact h
 |ex c S1=>rw[q]at h;exact h
 |ok x S1=>
  rw[q]at h;intro ρ1 H1 vs f1 st1 r1;obtain⟨v,rfl,r⟩:=uZ r1;exact k x S1 ρ1 H1 v st1 r (End.mono f1 h)
def ZeI{α β:Type}{rep:Mx->Hp->α->β->Prop}{ρ:Mx}{l:Lc}{S:Zr}{σ:L2.St}{H:Hp}{Q:β->Hp->Prop}{Q1:List V->Hp->Prop}{g:D->D->Zr->R α}(st:St3 X.K ρ S H)(lr:LocR ρ H l σ)(h:End X.K xw rep ρ H Q ((Pv.pv C i l S).bind λx S=>(Pv.pv C j l S).bind λy S=>g x y S))
  (k:∀x y S1 ρ1 H1 v u,St3 X.K ρ1 S1 H1->Rep ρ1 H1 x v->Rep ρ1 H1 y u->End X.K xw rep ρ1 H1 Q (g x y S1)->Q1 [v,u] H1):tA X xw (Pv.pvs C [i,j]) σ H Q1:=by
 refine⟨ρ,l,S,st,lr,?_⟩;show End X.K xw Rq ρ H _ ((Pv.pv C i l S).bind λx S=>((Pv.pv C j l S).bind λy S=>.ok [y] S).bind λxs S=>.ok (x::xs) S)
 cases q:Pv.pv C i l S with
 |no=>rw[q]at h;exact h
 |ex c S1=>rw[q]at h;exact h
 |ok x S1=>
  rw[q]at h;have h:End X.K xw rep ρ H Q ((Pv.pv C j l S1).bind λy S=>g x y S):=h
  show End X.K xw Rq ρ H _ (((Pv.pv C j l S1).bind λy S=>.ok [y] S).bind λxs S=>.ok (x::xs) S)
  cases q2:Pv.pv C j l S1 with
  |no=>rw[q2]at h;exact h
  |ex c S2=>rw[q2]at h;exact h
  |ok y S2=>
   rw[q2]at h;intro ρ1 H1 vs f1 st1 r1;obtain⟨v,u,rfl,rv,ru⟩:=zt r1;exact k x y S2 ρ1 H1 v u st1 rv ru (End.mono f1 h)
def zS(h:Ev.We n=aj):-(2^62)<=n/\n<2^62:=T6 h
def JK(hm:X.mg "range" = af)(ha:CA X xw C [a] [i])(hg:Gl X "range":=by rfl)(hs:aE [a] X.env=[(al,cR a X.env)]:=by rfl):CW X xw C tg (.Call (.Name "range" p) [a] [] pos) (.rng1 i):=
 PI.imp (uL hg hm ha hs) λσ H Q ⟨ρ,l,S,st,lr,h⟩=>Zcn st lr h λx S1 ρ1 H1 v st1 r h1=>by
  cases x with
  |int n=>
   obtain⟨hs,h2⟩:=End.guard h1;exact⟨n,by rw[r.int'],(zS hs).1,(zS hs).2,End.ok h2 st1 uU⟩
  |_=>exact False.elim h1
def yr{body:List eF}{fr:Bool}{ns:List Nat}{ms:List Sm}{w:Ev.W}{t:List Nat}(hp:PassesOwn (aS X.prog X.w) X.A X.env X.xe)(hc:X.calm=aj)(hw:CW X xw C tg it w)(hg:CG X tg t)(hb:CSs X xw fr C ns body ms)
  (hs:∀x,bZ it X.env x=cC x:=by intro _;rfl):CS X xw fr C ns (.For tg it body [] pos) (.forr t w ms):=PS.imp (Zdd hp hc hw hg hb hs) λD σ H ⟨ρ,H0,W,l,os,S,st,en,h⟩=>by
 rw[Pv.rv]at h;refine⟨ρ.ex W,Pv.hide os l,S,en.st st,en.hid,ZK.bindW en h λwk S1 H1 J f1 st1 r1 h1=>?_⟩
 obtain⟨bs,en1⟩:=(en.mono f1).off st1.xd;have h1:=h1.rebase bs en.xd;generalize hB:(λx ρ os s=>if(t.any (m9 os))=aj then(.no:Pv.PR Pv.FlV)else if(os.isEmpty||x.flat)=aj then(Pv.po (Pv.Zo t x ρ) s).bind λρ s=>Pv.rvs C ns ms ρ os s else .no)=B at h1
 let I:Nat->L2.St->Hp->Prop:=λn σ' H'=>∃W' l' os' S',St3 X.K ρ S' H'/\Eu ρ (Qo H1 W) W' l' os' σ' H'/\ZK fr X.K xw ρ (Qo H1 W) D (Pv.Yz B (wk.drop n) l' os' S')
 refine⟨λn m σ' H'=>m=wk.length-n/\n<=wk.length/\I n σ' H',⟨wk.length,rfl,dN _,W,l,os,S1,st1,en1,h1⟩,?_⟩
 rintro n m σ' H' ⟨rfl,hn,W',l',os',S',st',en',e'⟩
 have lat:=(en.mono f1).walk en';by_cases hlt:n<wk.length
 ·right
  rw[cg hlt,Pv.Yz]at e';obtain⟨go,yl⟩:=r1.go n _ S' H' lat (en'.st st') hlt;refine⟨go,I (n+1),λσ2 H2 q=>⟨wk.length-(n+1),by omega,rfl,hlt,q⟩,λx H3 y=>?_⟩
  obtain⟨f3,st3,rp⟩:=yl x H3 y;have rx:=rp _ (ai hlt);have f3:Fut ρ H' ρ H3:=⟨rfl,f3.keep⟩;have hBn:B wk[n] l' os' S'=if(t.any (m9 os'))=aj then(.no:Pv.PR Pv.FlV)else if(os'.isEmpty||(wk[n]).flat)=aj then(Pv.po (Pv.Zo t wk[n] l') S').bind λρ s=>Pv.rvs C ns ms ρ os' s else .no:=by rw[<-hB]
  rw[hBn]at e';by_cases c:(t.any (m9 os'))=aj
  ·rw[T9 c]at e';exact e'.elim
  rw[T8 c]at e';by_cases c2:(os'.isEmpty||(wk[n]).flat)=aj
  ·rw[T9 c2]at e'
   cases ha:Pv.Zo t wk[n] l' with
   |none=>rw[ha]at e';exact e'.elim
   |some l2=>
    rw[ha]at e';refine(en'.mono f3).assign (by simpa using c) rx ha λσ2 e2=>⟨ρ,_,W',l2,os',S',st3.unex,e2,?_⟩
    have e':ZK fr X.K xw ρ (Qo H1 W) D ((Pv.rvs C ns ms l2 os' S').bind _):=e';cases q:Pv.rvs C ns ms l2 os' S' with
    |no=>rw[q]at e';exact e'
    |ex c S2=>rw[q]at e';exact e'
    |ok fl S2=>
     rw[q]at e';cases fl with|nx l3 os3=>exact λH4 σ4 W4 st4 lr4=>⟨W4,l3,os3,S2,st4,lr4,e'⟩|cnt l3 os3=>exact λH4 σ4 W4 st4 lr4=>⟨W4,l3,os3,S2,st4,lr4,e'⟩|brk l3 os3=>exact e'|ret d=>exact e'
  ·rw[T8 c2]at e';exact e'.elim
 ·left
  have en2:n=wk.length:=by omega
  subst en2;rw[eg]at e';exact⟨r1.stop _ S' H' lat (en'.st st'),e' H' σ' W' st' en'⟩
end
end Sd
namespace Sd
open PySem PySem.Spec PyProof.Rows L2
noncomputable def vT(env:Env):List (bn×eZ)->List (bn×aC)->List (bn×aC)
 |[],acc=>acc
 |x::r,acc=>vT env r (if(x.2 == bN)=aj then(x.1,(env.cells.lookup x.1).getD 0)::acc else acc)
theorem Uo{env:Env}{f:bn×eZ->List (bn×aC)->nL (ForInStep (List (bn×aC)))}:∀(names:List (bn×eZ))(acc:List (bn×aC)),
  (∀x∈names,∀c,f x c=cC (.yield (if(x.2 == bN)=aj then(x.1,(env.cells.lookup x.1).getD 0)::c else c)))->ng names acc f=cC (vT env names acc)
 |[],acc,_=>rfl
 |x::r,acc,h=>by
  rw[l6,h x ao,pure_bind];exact Uo r _ λy hy=>h y (aq _ hy)
theorem zJ :∀(names:List (bn×eZ))(acc:List (bn×aC)),(vT env names acc).lookup x=aa c->acc.lookup x=aa c\/(∃y∈names,y.1=x/\y.2=.free/\c=(env.cells.lookup x).getD 0)
 |[],acc,h=>.inl h
 |y::r,acc,h=>by
  rcases zJ r _ h with h|⟨z,hz,e⟩
  ·by_cases hf:(y.2 == bN)=aj
   ·rw[T9 hf,bT]at h
    cases q:(x == y.1)with
    |true=>
     rw[q]at h;have e:=lx q;exact .inr ⟨y,ao,e.symm,lx hf,by rw[e];exact(am h).symm⟩
    |false=>rw[q]at h;exact .inl h
   ·rw[T8 hf]at h;exact .inl h
  ·exact .inr ⟨z,aq _ hz,e⟩
theorem zq :∀(names:List (bn×eZ))(acc:List (bn×aC)),(acc.lookup x).isSome=aj->((vT env names acc).lookup x).isSome=aj
 |[],acc,h=>h
 |y::r,acc,h=>by
  refine zq r _ ?_;split
  ·rw[bT]
   cases(x == y.1)with|true=>rfl|false=>exact h
  ·exact h
theorem zn :∀(names:List (bn×eZ))(acc:List (bn×aC)),(x,bN)∈names->((vT env names acc).lookup x).isSome=aj
 |[],acc,h=>by cases h
 |y::r,acc,h=>by
  rcases az.mp h with h|h
  ·subst h
   refine zq r _ ?_;rw[T9 (by rfl),bT,beq_self_eq_true]
   rfl
  ·exact zn r _ h
def Wk{scope:dQ}{env:Env}(h:∀y∈scope.names,y.2=.free->∃c,env.cells.lookup y.1=aa c) :
  ∃cl,iA scope env=cC cl/\(∀x c,cl.lookup x=aa c->env.cells.lookup x=aa c)/\∀x,(x,bN)∈scope.names->∃c,cl.lookup x=aa c:=by
 refine⟨vT env scope.names [],?_,λx c e=>?_,λx hx=>cV.mp (zn _ _ hx)⟩
 ·simp only[iA]
  rw[Uo (env:=env) scope.names [] (λx hx c=>by
   obtain⟨n,kind⟩:=x;by_cases hk:(kind == bN)=aj
   ·obtain⟨a,ha⟩:=h (n,kind) hx (lx hk)
    have ha':=ha;simp only[hk,if_true,cellOf,ha',pure_bind,Option.getD_some]
   ·simp only[hk,if_false]
    rfl),pure_bind]
 ·rcases zJ _ _ e with e|⟨y,hy,e1,e2,e3⟩
  ·cases e
  ·obtain⟨a,ha⟩:=h y hy e2
   rw[e1]at ha;rw[e3,ha];rfl
noncomputable def cxC(X:Cx)(N:List bn)(scope:dQ)(cl:List (bn×aC))(s:ax)(H:Hp)(fp:List aC):Cx:=
 {X with N:=N,s₀:=s,H₀:=H,env:=compEnvC scope cl s.heap.objs.size X.env,outer:=X.stack,ex:=fp,fn:=λ_=>al,pn:=[],xe:=λ_ _=>False}
def PTs(X:Cx)(ifs:List Expr)(t:TT):Prop:=
 ∀(pq:List (aC×eG))(s:ax)(σ:L2.St)(H:Hp)(Q:Bool->Hp->Prop),Inv X pq σ H s->t σ H Q->
  bc (aS X.prog X.w) X.A (ng ifs aj λc r=>if r=aj then do let ok <-isTrue c X.env (cR c X.env);cC (iU ok)else cC (iU r)) (TP X pq σ Q) X.xe s
def Zb0 :PTs X [] (λσ H Q=>Q aj H):=λpq s σ H Q I h=>wpAny_tests_nil ⟨H,I,h⟩
def Zb8(h:PT X c t):PTs X [c] t:=λpq s σ H Q I hq=>wpAny_tests_one (h pq s σ H Q I hq)
structure CompScope(sc:dQ)(N0:List bn)(scope:dQ)(N:List bn)(cap:List Nat)(nl:Nat):Prop where
 kind:scope.kind=.function
 nocell:∀y∈scope.names,y.2≠.cell
 names:∀y∈scope.names,y.2=.local->scope.names.lookup y.1=aa .local
 free:∀y∈scope.names,y.2=.free->sc.names.lookup y.1=aa .cell\/sc.names.lookup y.1=aa .free
 apart:∀y∈scope.names,y.2=.free->scope.names.lookup y.1≠aa .local
 len:N.length=nl+cap.length
 cap:∀p∈cap.zipIdx,N[nl+p.2]?=N0[p.1]?/\(N0[p.1]?).map (λx=>ag ((x,bN)∈scope.names))=aa aj
def CompScope.capt{sc:dQ}{N0:List bn}{scope:dQ}{N:List bn}{cap:List Nat}{nl:Nat}(h:CompScope sc N0 scope N cap nl)(i j:Nat)(e:cap[i]?=aa j):∃x,N[nl+i]?=aa x/\N0[j]?=aa x/\(x,bN)∈scope.names:=by
 have hm:(j,i)∈cap.zipIdx:=by
  rw[iV];exact e
 obtain⟨h1,h2⟩:=h.cap (j,i) hm;cases q:N0[j]? with
 |none=>rw[q]at h2;cases h2
 |some x=>
  rw[q]at h1 h2
  exact⟨x,h1,rfl,T6 (am h2)⟩
noncomputable def Xe(cap:List Nat)(nl:Nat)(σ:L2.St):L2.St:=aH nl af++cap.map λi=>(σ[i]?).join
section
variable{X:Cx}{pq:List (aC×eG)}{σ:L2.St}{H:Hp}{s:ax}
theorem WL{scope:dQ}{env:Env}:∀{names:List (bn×eZ)}{x:bn},(names.map λ(n,k)=>if(k == bN&&env.scope.kind == .function&&env.kindOf n == aa .cell)then(n,ni)else(n,k)).lookup x=aa .cell\/
  (names.map λ(n,k)=>if(k == bN&&env.scope.kind == .function&&env.kindOf n == aa .cell)then(n,ni)else(n,k)).lookup x=aa .free->(∀y∈names,y.2≠.cell)->(x,bN)∈names
 |[],x,h,_=>by rcases h with h|h<;>cases h
 |(n,k)::r,x,h,hc=>by
  have ih:=@WL scope env r x;have hk:=hc (n,k) ao;by_cases e:x=n
  ·subst e
   have hk2:k=.free:=by
    rcases h with h|h
    ·rw[aW]at h
     by_cases c:(k == bN&&env.scope.kind == .function&&env.kindOf x == aa .cell)=aj
     ·have:=(aD _ _).mp c
      exact lx ((aD _ _).mp this.1).1
     ·simp only[T8 c,bT,beq_self_eq_true]at h
      exact T7 (am h) hk
    ·rw[aW]at h
     by_cases c:(k == bN&&env.scope.kind == .function&&env.kindOf x == aa .cell)=aj
     ·simp only[T9 c,bT,beq_self_eq_true]at h
      cases h
     ·simp only[T8 c,bT,beq_self_eq_true]at h
      exact am h
   rw[hk2];exact ao
  ·have hb:=beq_eq_false_iff_ne.mpr e
   refine aq _ (ih ?_ λy hy=>hc y (aq _ hy))
   rcases h with h|h
   ·left
    rw[aW]at h;by_cases c:(k == bN&&env.scope.kind == .function&&env.kindOf n == aa .cell)=aj
    ·simp only[T9 c,bT,hb]at h;exact h
    ·simp only[T8 c,bT,hb]at h;exact h
   ·right
    rw[aW]at h;by_cases c:(k == bN&&env.scope.kind == .function&&env.kindOf n == aa .cell)=aj
    ·simp only[T9 c,bT,hb]at h;exact h
    ·simp only[T8 c,bT,hb]at h;exact h
theorem jf{N:List bn}{scope:dQ}{cl:List (bn×aC)}{fp:List aC}{cap:List Nat}{nl:Nat}{h1:bX}{tk:Nat}(I:Inv X pq σ H s)(CS:CompScope X.env.scope X.N scope N cap nl)(hN:X.N.Nodup)
  (c1:∀x c,cl.lookup x=aa c->X.env.cells.lookup x=aa c)(c2:∀x,(x,bN)∈scope.names->∃c,cl.lookup x=aa c)
  (hf:∀b∈fp,WT X pq H b)(hb:∀b∈fp,∃o,s.heap.get? b=aa o)(hns:∃m,h1.Ns s.heap.objs.size m)(hk:∀b o,s.heap.get? b=aa o->h1.get? b=aa o) :
  Inv (cxC X N scope cl s H fp) [] (Xe cap nl σ) H {s with heap:=h1,toks:=tk}:=by
 have bne:∀b∈fp,b≠s.heap.objs.size:=λb hb' e=>by
  obtain⟨o,ho⟩:=hb b hb';exact T7 (aJ ho) (by rw[e];exact bH _)
 refine⟨⟨I.ok.mod,CS.kind,I.ok.glob,I.ok.blt,aI _,λx y c h1 h2=>I.ok.inj x y c (c1 x c h1) (c1 y c h2),λx hx=>c2 x (WL (scope:=scope) hx CS.nocell),λx c h=>(by cases h),I.ok.hd,I.ok.frames,.inl rfl,
  λb hb'=>⟨bne b hb',λx c e=>(hf b hb').2.2.2.2.1 x c (c1 x c e)⟩,I.bs,bY I.ok.bsz I.sz,λb o e hb'=>?_,λb hb' hm=>?_,I.stack,I.stkFree⟩,
  rfl,I.bare,Un.kept hk,?_,λx c e=>?_,I.hok.fresh (aI _),λx c e=>I.freeC x c (c1 x c e),λp hp=>T7 hp (by simp[cxC]),I.hok.kept hk,?_⟩
 ·rcases(hf b hb').2.2.2.1 with z|z
  ·exact I.ok.noex b o e z
  ·exact T7 (aJ e) (Nat.not_lt.mpr (bY I.ok.bsz z))
 ·rcases az.mp (I.stkSub b hm)with e|e
  ·exact(hf b hb').2.1 e
  ·exact(hf b hb').2.2.1 e
 ·obtain⟨m1,hm1⟩:=hns
  refine⟨m1,hm1,λi x v e1 e2 e3=>?_⟩
  obtain⟨m,hm,hl⟩:=I.loc;have hi:nl<=i:=by
   by_cases hi:nl<=i
   ·exact hi
   ·have z:(Xe cap nl σ)[i]?=aa af:=by
     unfold Xe;rw[cf (by simp;lia),cx,T9 (by lia)]
    rw[z]at e2;cases e2
  have e2':(cap.map λi=>(σ[i]?).join)[i-nl]?=aa (aa v):=by
   have:=e2;unfold Xe at this
   rwa [bI (by simp;exact hi),cW]at this
  rw[aR]at e2';cases hj:cap[i-nl]? with
  |none=>rw[hj]at e2';cases e2'
  |some j=>
   rw[hj]at e2';have hv:σ[j]?=aa (aa v):=by
    have:(σ[j]?).join=aa v:=am e2';cases q:σ[j]? with
    |none=>rw[q]at this;cases this
    |some o=>rw[q]at this;cases o with|none=>cases this|some w=>cases this;rfl
   obtain⟨x',n1,n2,fr⟩:=CS.capt _ _ hj;have ex:x'=x:=by
    have:N[nl+(i-nl)]?=aa x:=by rw[show nl+(i-nl)=i by lia];exact e1
    rw[n1]at this;exact am this
   subst ex;have kd:=CS.free _ fr rfl;have vis:Vis X.env.scope x':=by
    rcases kd with z|z
    ·exact .inr (.inl z)
    ·exact .inr (.inr z)
   obtain⟨u,r,lk⟩:=hl j x' v n2 hv vis;refine⟨u,r,?_⟩;rcases lk with⟨k,_⟩|⟨k,c,ec,hc⟩
   ·have k':X.env.scope.names.lookup x'=aa .local:=k
    rcases kd with z|z<;>(rw[z]at k';cases k')
   ·obtain⟨c',ec'⟩:=c2 x' fr
    have ecc:c'=c:=by
     have:=c1 x' c' ec';rw[ec]at this;exact(am this).symm
    subst ecc;have vis2:=e3;refine .inr ⟨?_,c',ec',?_⟩
    ·rcases vis2 with z|z|z
     ·have z':=z
      exfalso
      have:∀(names:List (bn×eZ)),(∀y∈names,y.2=eZ.local->y.1≠x')->(names.map λ(n,k)=>if(k == bN&&X.env.scope.kind == .function&&X.env.kindOf n == aa .cell)then(n,ni)else(n,k)).lookup x'≠aa .local:=by
       intro names
       induction names with
       |nil=>intro _ h;cases h
       |cons y r ih=>
        obtain⟨n,k⟩:=y;intro hy h;rw[aW]at h;by_cases e:x'=n
        ·subst e
         by_cases c:(k == bN&&X.env.scope.kind == .function&&X.env.kindOf x' == aa .cell)=aj
         ·simp only[T9 c,bT,beq_self_eq_true]at h;cases h
         ·simp only[T8 c,bT,beq_self_eq_true]at h
          exact hy (x',k) ao (am h) rfl
        ·have hb:=beq_eq_false_iff_ne.mpr e
         refine ih (λy hy'=>hy y (aq _ hy')) ?_
         by_cases c:(k == bN&&X.env.scope.kind == .function&&X.env.kindOf n == aa .cell)=aj
         ·simp only[T9 c,bT,hb]at h;exact h
         ·simp only[T8 c,bT,hb]at h;exact h
      refine this scope.names (λy hy hl e=>?_) z'
      have l1:=CS.names y hy hl;rw[e]at l1;exact CS.apart (x',.free) fr rfl l1
     ·exact .inl z
     ·exact .inr z
    ·obtain⟨o,ho,hd⟩:=hc
     exact⟨o,hk c' o ho,hd⟩
 ·obtain⟨v,o,ho,hd⟩:=I.cell x c (c1 x c e)
  exact⟨v,o,hk c o ho,hd⟩
 ·unfold Xe
  show _=N.length;rw[bp,cW,aB,CS.len]
end
abbrev TEm:=L2.St->Hp->(L2.St->Hp->Prop)->Prop
def z9(X:Cx)(act:nL Fin->nL Fin)(te:TEm):Prop:=
 ∀(pq:List (aC×eG))(s:ax)(σ:L2.St)(H:Hp)(Q:L2.St->Hp->Prop)(k:nL Fin)(QF:Fin->ax->Prop)(EE:au->ax->Prop),Inv X pq σ H s->te σ H Q->(∀s' σ' H',Inv X pq σ' H' s'->Q σ' H'->bc (aS X.prog X.w) X.A k QF EE s')->
  bc (aS X.prog X.w) X.A (act k) QF EE s
noncomputable def Qb(ipos:eY)(tg:Expr)(ifs:List Expr)(act:nL Fin->nL Fin)(it:au)(env:Env)(c:Code):nL Fin:=do
 kR ipos
 match <-oA it with
 |none=>cC (.done .next)
 |some v=>
  l4 tg it v
  assign tg env v
  let mut ok:=aj
  for c in ifs do
   if ok then ok <-isTrue c env (cR c env)
  if ok then act (again c)else again c
def wf(J:It)(g:TG)(tt:TT)(te:TEm)(W:Nat->Nat->L2.St->Hp->Prop)(Q:L2.St->Hp->Prop):Prop:=∀i m σ' H',W i m σ' H'->
  (J.stop i H'/\Q σ' H')\/(J.go i H'/\∀x H'',J.yld i H' x H''->g x σ' H'' λσ2 H2=>tt σ2 H2 λok H3=>if ok=aj then te σ2 H3 λσ3 H4=>∃m',m'<m/\W (i+1) m' σ3 H4 else ∃m',m'<m/\W (i+1) m' σ2 H3)
def Qy{tn:Nat->bX->Prop}{Rr:oF->ax->Prop}{Q:L2.St->Hp->Prop}{W:Nat->Nat->L2.St->Hp->Prop}
  (hc:Y.calm=aj)(hx:∀a b,Y.xe a b->False)(hT:pQ e depth (.ref it) acc Y.env=Qb ipos tg ifs act (.ref it) Y.env (.compLoop e depth (.ref it) acc Y.env))(hquiet:(rB e depth (.ref it) acc Y.env).isFrame=al)
  (hq:(rB e depth (.ref it) acc Y.env).quiet=aj)(T:Turn Y.prog Y.w Y.K tg J fp it tn)(hg:PG Y tg g)(ht:PTs Y ifs tt)(he:z9 Y act te)(stat:∀{H':Hp},(∀b∈fp,H' b=af)->∀b∈fp,WT Y pq H' b)
  (turn:wf J g tt te W Q)(fin:∀σ H s,Inv Y pq σ H s->Q σ H->Rr (.ok .next) s)
  (I0:Inv Y pq σ H s)(st0:tn 0 s.heap)(fr0:∀b∈fp,H b=af)(w0:W 0 m σ H)(hden:(aS Y.prog Y.w).den (.compLoop e depth (.ref it) acc Y.env)=(pQ e depth (.ref it) acc Y.env).onRaise (λx=>do noteFrame x Y.env;theTreesLotGoes x))
  (hund:Y.A.under (.compLoop e depth (.ref it) acc Y.env)=Y.A):eC (aS Y.prog Y.w) Y.A (.compLoop e depth (.ref it) acc Y.env) Rr s:=by
 refine codeAny_loop hq (λn s'=>∃i σ' H',Inv Y pq σ' H' s'/\tn i s'.heap/\(∀b∈fp,H' b=af)/\W i n σ' H') (λn s5 hI=>?_) m ⟨0,σ,H,I0,st0,fr0,w0⟩
 rw[hund,hden,hT];refine wpAny_noted ?_;obtain⟨i,σ5,H5,I5,st5,fr5,w5⟩:=hI;refine ae (d9 (ae ?_));rcases turn i n σ5 H5 w5 with⟨stop,qn⟩|⟨go,step⟩
 ·refine cJ (T.done Y rfl rfl rfl hc i pq s5 σ5 H5 (λ_ _=>False) I5 (stat fr5) st5 stop) (λr s6 ⟨hr,I6⟩=>?_) λ_ _ h'=>h'.elim
  subst hr;exact aA (fin σ5 H5 s6 I6 qn)
 ·refine cJ (T.item Y rfl rfl rfl hc i pq s5 σ5 H5 (λ_ _=>False) I5 (stat fr5) st5 go) (λr s6 ⟨u,hr,h6⟩=>?_) λ_ _ h'=>h'.elim
  subst hr;refine ae (cJ h6 (λ_ s7 ⟨x,H7,I7,r7,y7,st7,fr7⟩=>?_) λ_ _ h'=>h'.elim)
  have I7':=I7.pinned (stat fr7) (T.obj _ _ st7);have back:∀{σ8:L2.St}{H8:Hp}{s8:ax}{m':Nat},Inv Y (pq++Um fp s7.heap) σ8 H8 s8->m'<n->W (i+1) m' σ8 H8->∃m,m<n/\∃i σ' H',Inv Y pq σ' H' s8/\tn i s8.heap/\(∀b∈fp,H' b=af)/\W i m σ' H':=λ{σ8 H8 s8 m'} I8 hm w8=>by
   refine⟨m',hm,i+1,σ8,H8,I8.unpinned,T.keep _ _ _ st7 λb hb' o e=>(I8.pin (b,o) (bh _ (bh _ (Xu hb' e)))).1,λb hb'=>?_,w8⟩
   obtain⟨o,e,d⟩:=T.obj _ _ st7 b hb';exact(I8.pin (b,o) (bh _ (bh _ (Xu hb' e)))).2.1
  refine ae (cJ (hg _ s7 σ5 H7 x u _ I7' r7 (step x H7 y7)) (λ_ s8 ⟨σ8,H8,I8,q8⟩=>?_) λ_ _ h'=>(hx _ _ h').elim)
  refine ae (cJ (ht _ s8 σ8 H8 _ I8 q8) (λok s9 ⟨H9,I9,q9⟩=>?_) λ_ _ h'=>(hx _ _ h').elim)
  cases ok with
  |false=>
   rw[T8 aM]at q9;obtain⟨m',hm,w9⟩:=q9;exact aA ⟨rfl,back I9 hm w9⟩
  |true=>
   rw[T9 rfl]at q9;exact he _ s9 σ8 H9 _ _ _ _ I9 q9 λs10 σ10 H10 I10 ⟨m',hm,w10⟩=>aA ⟨rfl,back I10 hm w10⟩
def U9{Y:Cx}{elt:Expr}{te:TE}{D:aC}(hx:∀a b,Y.xe a b->False)(he:PE Y elt te):z9 Y (λk=>(do let _ <-call (.builtin "list.append") [.ref D,<-cR elt Y.env]:nL Unit) >>= λ_=>k) (λσ H Q=>te σ H λy H4=>∃ys,H4 D=aa (.lst ys)/\ys.length<bi/\Q σ (upd H4 D (.lst (ys++[y])))):=by
 intro pq s σ H Q k QF EE I h hk;refine ae ?_;refine ae (cJ (he pq s σ H _ I h) (λxv s10 ⟨y,H10,I10,r10,ys,hDy,hz,q⟩=>?_) λ_ _ h'=>(hx _ _ h').elim)
 refine ae (cJ (Jg pq s10 σ H10 (.ref D) [y] (.ref D) [xv] (λv H'=>v=.non/\H'=upd H10 D (.lst (ys++[y]))) I10 rfl (.cons r10 .nil) ⟨D,ys,y,rfl,rfl,hDy,hz,rfl,rfl⟩) (λ_ s11 ⟨v11,H11,I11,_,_,eH⟩=>?_) λ_ _ h'=>(hx _ _ h').elim)
 subst eH;exact aA (hk _ _ _ I11 q)
def yx(wi:TI)(g:TG)(tt:TT)(te:aC->TEm)(cap:List Nat)(nl:Nat):TE:=λσ H Q=>wi σ H λJ H1=>∀D,H1 D=af->∃W:Nat->Nat->L2.St->Hp->Prop,(∃m,W 0 m (Xe cap nl σ) (upd H1 D (.lst [])))/\wf J g tt (te D) W λ_ H'=>Q (.ref D) H'
def Zab(wi:TI)(g:TG)(tt:TT)(te:TE)(cap:List Nat)(nl:Nat):TE:=λσ H Q=>wi σ H λJ H1=>∀D,H1 D=af->∃W:Nat->Nat->L2.St->Hp->Prop,(∃m,W 0 m (Xe cap nl σ) (upd H1 D (.lst [])))/\∀i m σ' H',W i m σ' H'->
  (J.stop i H'/\Q (.ref D) H')\/(J.go i H'/\∀x H'',J.yld i H' x H''->g x σ' H'' λσ2 H2=>tt σ2 H2 λok H3=>if ok=aj then te σ2 H3 λy H4=>∃ys,H4 D=aa (.lst ys)/\ys.length<bi/\∃m',m'<m/\W (i+1) m' σ2 (upd H4 D (.lst (ys++[y])))else ∃m',m'<m/\W (i+1) m' σ2 H3)
section
variable{X:Cx}
structure Gone(X:Cx)(pq:List (aC×eG))(H:Hp)(s:ax)(C:aC):Prop where
 free:H C=af
 ns:∃m,s.heap.Ns C m
 loc:C≠X.env.locals
 big:X.s₀.heap.objs.size<=C
 cel:∀x c,X.env.cells.lookup x=aa c->c≠C
 pin:∀p∈X.pn++pq,p.1≠C
def Vo{tg iter elt:Expr}{ifs:List Expr}{scope:dQ}{pos fpos:eY}{N:List bn}{cap:List Nat}{nl:Nat}{wi:TI}{g:TG}{tt:TT}{te:aC->TEm}{act:au->Env->nL Fin->nL Fin}{rest:List Comprehension}{pq:List (aC×eG)}{s:ax}{σ:L2.St}{H:Hp}{Q:VK}{use:Option (au->nL Unit)}{QQ:au->ax->Prop}(hc:X.calm=aj)(hN:X.N.Nodup)(CS:CompScope X.env.scope X.N scope N cap nl)(hi:PI X tg iter wi)
  (hT:∀it acc env,pQ (.ListComp elt (⟨tg,iter,ifs,0⟩::rest) scope pos) 0 it acc env=Qb iter.pos tg ifs (act acc env) it env (.compLoop (.ListComp elt (⟨tg,iter,ifs,0⟩::rest) scope pos) 0 it acc env))
  (hb:∀cl s H fp,PG (cxC X N scope cl s H fp) tg g/\PTs (cxC X N scope cl s H fp) ifs tt/\∀D,z9 (cxC X N scope cl s H fp) (act (.ref D) (cxC X N scope cl s H fp).env) (te D))
  (hs:∀x,bZ iter X.env x=cC x)(I:Inv X pq σ H s)(h:yx wi g tt te cap nl σ H Q)
  (fin:∀D C H5 s6,Inv X pq σ H5 s6->Gone X pq H5 s6 C->Q (.ref D) H5->compPost (aS X.prog X.w) X.A X.xe use QQ (.ref D) C (.ok .next) s6) :
  bc (aS X.prog X.w) X.A (comprehension (.ListComp elt (⟨tg,iter,ifs,0⟩::rest) scope pos) scope X.env fpos (newList []) al (cR iter X.env) use) QQ X.xe s:=by
 obtain⟨cl,hcl,c1,c2⟩:=Wk (scope:=scope) (env:=X.env) λy hy hf=>I.ok.has y.1 (CS.free y hy hf)
 refine wpAny_comprehension_free (use:=use) rfl hs hcl CS.kind CS.names ?_;refine thn (hi pq s σ H _ I h) λv s1 h1=>thn h1 λitv s2 h2=>?_
 obtain⟨it,fp,tn,J,H2,rfl,I2,T,st2,f2,q2⟩:=h2;obtain⟨W,⟨m0,w0⟩,turn⟩:=q2 s2.heap.objs.size (I2.hok.fresh (aI _));refine bL (mE CS.nocell (by intro y hy;simp at hy) (λh₁ hns₁ hsb₁=>?_) CS.kind)
 dsimp only at hns₁ hsb₁ ⊢
 have I3:Inv X pq σ (upd H2 s2.heap.objs.size (.lst [])) {s2 with heap:=s2.heap.push {cls:=.type "list",dict:=af,data:=.seq ([]:List au).toArray},toks:=s2.toks}:=
  I2.laid (λb u e=>aw _ e) (aI _) ⟨dN _,[],0,.nil,aO _ rfl⟩
 generalize hD:s2.heap.objs.size=D at I3 w0 turn hns₁ hsb₁ ⊢;generalize hs3:({s2 with heap:=s2.heap.push {cls:=.type "list",dict:=af,data:=.seq ([]:List au).toArray},toks:=s2.toks}:ax)=s3 at I3
 have hh3:s2.heap.push {cls:=.type "list",dict:=af,data:=.seq ([]:List au).toArray}=s3.heap:=by rw[<-hs3]
 rw[hh3]at hns₁ hsb₁;have old:∀b o,s2.heap.get? b=aa o->s3.heap.get? b=aa o:=λb o e=>by rw[<-hh3];exact aw _ e
 have neD:∀b∈fp,b≠D:=λb hb' e=>by
  obtain⟨o,ho,_⟩:=T.obj _ _ st2 b hb';exact T7 (aJ ho) (by rw[e,<-hD];exact bH _)
 have f3:∀b∈fp,WT X pq (upd H2 D (.lst [])) b:=λb hb'=>⟨by rw[Zi (neD b hb')];exact(f2 b hb').1,(f2 b hb').2⟩
 have keep4:=λb o e=>hsb₁.extBut b o (br (aJ e)) (aw _ e)
 have I4:=jf (tk:=s2.toks+([]:List (bn×au)).length) I3 CS hN c1 c2 f3 (λb hb'=>let ⟨o,ho,_⟩:=T.obj _ _ st2 b hb';⟨o,old b o ho⟩) ⟨_,hns₁⟩ keep4
 have e4:({s3 with heap:=h₁,toks:=s2.toks+([]:List (bn×au)).length}:ax)={s2 with heap:=h₁,toks:=s2.toks+([]:List (bn×au)).length}:=by rw[<-hs3]
 rw[e4]at I4;obtain⟨hg,ht,he⟩:=hb cl s3 (upd H2 D (.lst [])) fp;generalize hY:cxC X N scope cl s3 (upd H2 D (.lst [])) fp=Y at I4 hg ht he;have yP:Y.prog=X.prog:=by rw[<-hY];rfl
 have stat:∀{H':Hp},(∀b∈fp,H' b=af)->∀b∈fp,WT Y [] H' b:=λhn b hb'=>by
  subst hY;refine⟨hn b hb',λe=>?_,λhm=>?_,.inl hb',λx c e=>(f3 b hb').2.2.2.2.1 x c (c1 x c e),λp hp=>T7 hp (by simp[cxC])⟩
  ·obtain⟨o,ho,_⟩:=T.obj _ _ st2 b hb'
   have:=aJ (old b o ho);rw[e]at this;exact T7 this (bH _)
  ·rcases az.mp (I3.stkSub b hm)with e|e
   ·exact(f3 b hb').2.1 e
   ·exact(f3 b hb').2.2.1 e
 subst hY
 let Y:=cxC X N scope cl s3 (upd H2 D (.lst [])) fp
 have st4:tn 0 h₁:=T.keep _ _ _ st2 λb hb' o e=>keep4 b o (old b o e)
 have fr4:=λb hb'=>(f3 b hb').1
 have loop:eC (aS X.prog X.w) X.A (.compLoop (.ListComp elt (⟨tg,iter,ifs,0⟩::rest) scope pos) 0 (.ref it) (.ref D) (compEnvC scope cl s3.heap.objs.size X.env))
   (compPost (aS X.prog X.w) X.A X.xe use QQ (.ref D) s3.heap.objs.size) {s2 with heap:=h₁,toks:=s2.toks+([]:List (bn×au)).length}:=by
  refine Qy (Y:=cxC X N scope cl s3 (upd H2 D (.lst [])) fp) (pq:=[]) (W:=W) hc (λ_ _ z=>z) (hT _ _ _) rfl rfl T hg ht (he D) stat turn (λσ5 H5 s6 I6 qn=>?_) I4 st4 fr4 w0 rfl rfl
  obtain⟨m6,hn6,_⟩:=I6.loc;have u:=I6.base;have IX:=Inv.call' (s':=s6) (ch:=fp) I3 I6.os ⟨u.keep,u.slot,u.free,u.there,u.tups,u.frzs,u.tbls⟩ I6.hok I6.bare λb hb'=>⟨(f3 b hb').2.2.2.1,(f3 b hb').2.1,(f3 b hb').2.2.2.2.1,λp hp e=>(f3 b hb').2.2.2.2.2 p hp e⟩
  refine fin D s3.heap.objs.size H5 s6 IX ⟨I6.free,⟨m6,hn6⟩,Ne.symm (br I3.lt),I3.sz,λx c e z=>?_,λp hp z=>?_⟩ qn
  ·obtain⟨v,q⟩:=I3.cell x c e
   exact T7 q.lt (by rw[z];exact bH _)
  ·exact T7 (aJ (I3.pin p hp).1) (by rw[z];exact bH _)
 subst hs3;exact codeAny_compStart_list loop (T.self _ 0 _ _ _ st4 loop)
def Gone.inv(G:Gone X pq H s C)(I:Inv X pq σ H s)(hsb:fq C s.heap h'):Inv X pq σ H {s with heap:=h' }:=
 I.turned (t':=s.toks) (λb o hb e=>(hsb.2 b hb).trans e) G.free G.loc (.inr G.big) G.cel G.pin
def Zc4(te:TE)(D:aC):TEm:=λσ H Q=>te σ H λy H4=>∃ys,H4 D=aa (.lst ys)/\ys.length<bi/\Q σ (upd H4 D (.lst (ys++[y])))
def ZaZ(hc:X.calm=aj)(hN:X.N.Nodup)(CS:CompScope X.env.scope X.N scope N cap nl)(hi:PI X tg iter wi)
  (hb:∀cl s H fp,PG (cxC X N scope cl s H fp) tg g/\PTs (cxC X N scope cl s H fp) ifs tt/\PE (cxC X N scope cl s H fp) elt te)
  (hs:∀x,bZ iter X.env x=cC x:=by intro _;rfl):PE X (.ListComp elt [⟨tg,iter,ifs,0⟩] scope pos) (Zab wi g tt te cap nl):=by
 intro pq s σ H Q I h;rw[eval_ListComp];refine Vo (act:=λacc env k=>(do let _ <-call (.builtin "list.append") [acc,<-cR elt env]:nL Unit) >>= λ_=>k) hc hN CS hi (λ_ _ _=>rfl) (λcl s H fp=>⟨(hb cl s H fp).1,(hb cl s H fp).2.1,λD=>U9 (λ_ _ z=>z) (hb cl s H fp).2.2⟩) hs I h λD C H5 s6 I6 G q=>?_
 obtain⟨m6,hn6⟩:=G.ns;exact⟨m6,hn6,λh' hsb=>⟨.ref D,H5,G.inv I6 hsb,rfl,q⟩⟩
def qf(hc:X.calm=aj)(hN:X.N.Nodup)(CS:CompScope X.env.scope X.N scope N cap nl)(hi:PI X tg iter wi)
  (hb:∀cl s H fp,PG (cxC X N scope cl s H fp) tg g/\PTs (cxC X N scope cl s H fp) ifs tt/\PE (cxC X N scope cl s H fp) elt te)
  (hsw:eK (.ListComp elt [⟨tg,iter,ifs,0⟩] scope pos) (aa (.Name y py)) spos.line X.env=cC aj)
  (hy:X.N[i]?=aa y)(hx:L2.Loc X.env.scope y)(hf:X.fn y=aj\/X.env.scope.names.lookup y=aa .local)
  (hs:∀x,bZ iter X.env x=cC x:=by intro _;rfl):PS X (.Assign [.Name y py] (.ListComp elt [⟨tg,iter,ifs,0⟩] scope pos) spos) (λD σ H=>Zab wi g tt te cap nl σ H λv H1=>D.nx (σ.set i (aa v)) H1):=by
 intro pq s σ H D I h;rw[mf _ _ _ _ hsw];refine ae (d9 (ae ?_));refine ae (cJ (Vo (Q:=λv H1=>D.nx (σ.set i (aa v)) H1) (act:=λacc env k=>(do let _ <-call (.builtin "list.append") [acc,<-cR elt env]:nL Unit) >>= λ_=>k) hc hN CS hi (λ_ _ _=>rfl) (λcl s H fp=>⟨(hb cl s H fp).1,(hb cl s H fp).2.1,λD=>U9 (λ_ _ z=>z) (hb cl s H fp).2.2⟩) hs I h λA C H5 s6 I6 G q=>?_) (λ_ s' hq=>aA (aA hq)) λ_ _ e=>e)
 refine kS (Vw (v:=V.ref A) I6 hN hy hx rfl (λs7 I7 ⟨a,hsb,ha⟩=>?_) hf)
 have hCa:C≠a:=by
  rcases ha with e|e
  ·rw[e];exact G.loc
  ·exact Ne.symm (G.cel y a e)
 obtain⟨m6,hn6⟩:=G.ns;have G7:Gone X pq H5 s7 C:=⟨G.free,⟨m6,hn6.sameBut hsb hCa⟩,G.loc,G.big,G.cel,G.pin⟩;exact⟨m6,hn6.sameBut hsb hCa,λh' hs'=>⟨σ.set i (aa (.ref A)),H5,G7.inv I7 hs',q⟩⟩
def yO(wi:TI)(g:TG)(tt:TT)(te:TEm):TEm:=λσ H Q=>wi σ H λJ H1=>∃W:Nat->Nat->L2.St->Hp->Prop,(∃m,W 0 m σ H1)/\wf J g tt te W Q
def yh(hc:Y.calm=aj)(hx:∀a b,Y.xe a b->False)(hi:PI Y t2 i2 wi)(hg:PG Y t2 g)(ht:PTs Y f2 tt)(he:z9 Y act te)
  (hs:∀x,bZ i2 Y.env x=cC x)
  (hstart:∀(it:au)(R:oF->ax->Prop)(s:ax),eC (aS Y.prog Y.w) Y.A (.compLoop (.ListComp elt gens scope pos) 1 it acc Y.env) R s->bc (aS Y.prog Y.w) Y.A (mw it) (λit' s'=>eC (aS Y.prog Y.w) Y.A (.compLoop (.ListComp elt gens scope pos) 1 it' acc Y.env) R s') (notedBy (aS Y.prog Y.w) Y.A Y.env λx s'=>R (.error x) s') s->eC (aS Y.prog Y.w) Y.A (.compStart (.ListComp elt gens scope pos) 1 it acc Y.env) R s)
  (hT:∀it,pQ (.ListComp elt gens scope pos) 1 it acc Y.env=Qb i2.pos t2 f2 act it Y.env (.compLoop (.ListComp elt gens scope pos) 1 it acc Y.env)) :
  z9 Y (λk=>do let x <-cR i2 Y.env;kR i2.pos;let x <-bZ i2 Y.env x;let _ <-runOwn (.compStart (.ListComp elt gens scope pos) 1 (<-iF [x] (mw x)) acc Y.env) Y.env;k) (yO wi g tt te):=by
 intro pq s σ H Q k QF EE I h hk;refine ae (cJ (hi pq s σ H _ I h) (λv s1 h1=>ae (d9 (ae (mF (hs v) (ae (cz (cJ h1 (λitv s2 h2=>?_) λ_ _ z=>(hx _ _ z).elim))))))) λ_ _ z=>(hx _ _ z).elim)
 obtain⟨it,fp,tn,J,H2,rfl,I2,T,st2,f2',W,⟨m0,w0⟩,turn⟩:=h2;have stat:∀{H':Hp},(∀b∈fp,H' b=af)->∀b∈fp,WT Y pq H' b:=λhn b hb=>⟨hn b hb,(f2' b hb).2⟩
 have loop:eC (aS Y.prog Y.w) Y.A (.compLoop (.ListComp elt gens scope pos) 1 (.ref it) acc Y.env) (λr s'=>match r with|.ok f=>bc (aS Y.prog Y.w) Y.A k QF EE s'|.error x=>cameBackBy (aS Y.prog Y.w) Y.A Y.env EE x s') s2:=
  Qy hc hx (hT _) rfl rfl T hg ht he stat turn (λσ5 H5 s6 I6 qn=>hk s6 σ5 H5 I6 qn) I2 st2 (λb hb=>(f2' b hb).1) w0 rfl rfl
 exact ae (wpAny_runOwn (hstart _ _ _ loop (T.self _ 0 _ _ _ st2 loop)))
def Zc5{R:oF->ax->Prop}
  (h0:eC (aS prog w) A (.compLoop (.ListComp elt [⟨t1,i1,f1,0⟩,⟨t2,i2,f2,0⟩] scope pos) 1 it acc env) R s)
  (h:bc (aS prog w) A (mw it) (λit' s'=>eC (aS prog w) A (.compLoop (.ListComp elt [⟨t1,i1,f1,0⟩,⟨t2,i2,f2,0⟩] scope pos) 1 it' acc env) R s') (notedBy (aS prog w) A env λx s'=>R (.error x) s') s) :
  eC (aS prog w) A (.compStart (.ListComp elt [⟨t1,i1,f1,0⟩,⟨t2,i2,f2,0⟩] scope pos) 1 it acc env) R s:=by
 refine codeAny_of_tree ?_;show bc _ _ ((compStart (.ListComp elt [⟨t1,i1,f1,0⟩,⟨t2,i2,f2,0⟩] scope pos) 1 it acc env).onRaise (λx=>do noteFrame x env;kR theWindowsPlace)) _ _ s
 refine wpAny_notedAt ?_;refine ae (wpAny_askSetting (wpAny_ite ?_));split
 ·first|exact ae (aA (aA (aV rfl h0)))|exact aA (aV rfl h0)
 ·first|exact ae (dW (ae (d9 (ae (cJ h (λit' s' h'=>aA (aV rfl h')) λ_ _ x=>x)))))|(refine ae (dW ?_);exact ae (d9 (ae (cJ h (λit' s' h'=>aA (aV rfl h')) λ_ _ x=>x))))
def v4(hc:X.calm=aj)(hN:X.N.Nodup)(CS:CompScope X.env.scope X.N scope N cap nl)(hi:PI X t1 i1 wi)
  (hb:∀cl s H fp,PG (cxC X N scope cl s H fp) t1 g1/\PTs (cxC X N scope cl s H fp) f1 tt1/\PI (cxC X N scope cl s H fp) t2 i2 wj/\PG (cxC X N scope cl s H fp) t2 g2/\PTs (cxC X N scope cl s H fp) f2 tt2/\PE (cxC X N scope cl s H fp) elt te)
  (hsw:eK (.ListComp elt [⟨t1,i1,f1,0⟩,⟨t2,i2,f2,0⟩] scope pos) (aa (.Name y py)) spos.line X.env=cC aj)
  (hy:X.N[i]?=aa y)(hx:L2.Loc X.env.scope y)(hf:X.fn y=aj\/X.env.scope.names.lookup y=aa .local)
  (hs:∀x,bZ i1 X.env x=cC x:=by intro _;rfl)(hs2:∀env x,bZ i2 env x=cC x:=by intro _ _;rfl) :
  PS X (.Assign [.Name y py] (.ListComp elt [⟨t1,i1,f1,0⟩,⟨t2,i2,f2,0⟩] scope pos) spos) (λD σ H=>yx wi g1 tt1 (λD=>yO wj g2 tt2 (Zc4 te D)) cap nl σ H λv H1=>D.nx (σ.set i (aa v)) H1):=by
 intro pq s σ H D I h;rw[mf _ _ _ _ hsw];refine ae (d9 (ae ?_));refine ae (cJ (Vo (act:=λacc env k=>do let x <-cR i2 env;kR i2.pos;let x <-bZ i2 env x;let _ <-runOwn (.compStart (.ListComp elt [⟨t1,i1,f1,0⟩,⟨t2,i2,f2,0⟩] scope pos) 1 (<-iF [x] (mw x)) acc env) env;k) hc hN CS hi (λ_ _ _=>rfl) (λcl s H fp=>?_) hs I h λA C H5 s6 I6 G q=>?_) (λ_ s' hq=>aA (aA hq)) λ_ _ e=>e)
 ·obtain⟨a1,a2,a3,a4,a5,a6⟩:=hb cl s H fp
  exact⟨a1,a2,λD=>yh hc (λ_ _ z=>z) a3 a4 a5 (U9 (λ_ _ z=>z) a6) (λx=>hs2 _ x) (λit R s k1 k2=>Zc5 k1 k2) λit=>rfl⟩
 refine kS (Vw (v:=V.ref A) I6 hN hy hx rfl (λs7 I7 ⟨a,hsb,ha⟩=>?_) hf)
 have hCa:C≠a:=by
  rcases ha with e|e
  ·rw[e];exact G.loc
  ·exact Ne.symm (G.cel y a e)
 obtain⟨m6,hn6⟩:=G.ns;have G7:Gone X pq H5 s7 C:=⟨G.free,⟨m6,hn6.sameBut hsb hCa⟩,G.loc,G.big,G.cel,G.pin⟩;exact⟨m6,hn6.sameBut hsb hCa,λh' hs'=>⟨σ.set i (aa (.ref A)),H5,G7.inv I7 hs',q⟩⟩
end
end Sd
namespace Sd
open PySem PySem.Spec PyProof.Rows L2
open Ev (E Sm Fn Bop Cop Ty Bf Mf)
section
variable{X:Cx}{xw:Nat->Hp->Prop}{C:Calls}{e a b c tg it:Expr}{i j k:E}{pos p p' p2:eY}
def CTs(X:Cx)(xw:Nat->Hp->Prop)(C:Calls)(ifs:List Expr)(is:List E):Prop:=PTs X ifs (tB3 X xw (Pv.pvt C is))
def PTs.imp{X:Cx}{e:List Expr}{t t':TT}(h:PTs X e t)(k:∀σ H Q,t' σ H Q->t σ H Q):PTs X e t':=λpq s σ H Q I q=>h pq s σ H Q I (k σ H Q q)
def JX:CTs X xw C [] []:=PTs.imp Zb0 λσ H Q ⟨ρ,l,S,st,lr,h⟩=>End.ok (h) st rfl
def ZbL(σ:Lc)(S:Zr):Pv.pvt C [i] σ S=Pv.YN C i σ S:=by
 show((Pv.pv C i σ S).bind λx S=>(Pv.po (Pv.Zv x) S).bind λb S=>if b then Pv.pvt C [] σ S else .ok al S)=(Pv.pv C i σ S).bind λx S=>Pv.po (Pv.Zv x) S
 congr 1
 funext x S
 cases Pv.Zv x with|none=>rfl|some b=>cases b<;>rfl
def Gf(h:CT X xw C c i):CTs X xw C [c] [i]:=PTs.imp (Zb8 h) λσ H Q ⟨ρ,l,S,st,lr,h⟩=>⟨ρ,l,S,st,lr,by rw[<-ZbL];exact h⟩
def LocR.caught(lr:LocR ρ H l σ)(cap:List Nat)(nl:Nat):LocR ρ H (Pv.Z5 cap nl l) (Xe cap nl σ):=by
 refine⟨by unfold Pv.Z5 Xe;simp,λn d e=>?_⟩
 unfold Pv.Z5 at e;by_cases hn:n<nl
 ·rw[cf (by simp;exact hn),cx,T9 hn]at e
  cases e
 ·rw[bI (by simp;omega),cW,aR]at e
  unfold Xe;rw[bI (by simp;omega),cW,aR]
  cases q:cap[n-nl]? with
  |none=>rw[q]at e;cases e
  |some m=>
   rw[q]at e;have e':(l[m]?).join=aa d:=am e;have:l[m]?=aa (aa d):=by
    cases z:l[m]? with
    |none=>rw[z]at e';cases e'
    |some o=>rw[z]at e';cases o with|none=>cases e'|some w=>cases e';rfl
   obtain⟨v,hv,r⟩:=lr.val m d this;exact⟨v,by show aa ((σ[m]?).join)=_;rw[hv];rfl,r⟩
noncomputable def Mx.at(ρ:Mx)(A:aC):Mx:=⟨ρ.K,ρ.n0,λa=>ρ.X a\/a=A,λa h=>.inl (ρ.xz a h)⟩
def Xs(ρ:Mx)(A:aC)(H H':Hp):Prop:=∀a o,a≠A->H a=aa o->H' a=aa o\/(ρ.n0=aa a/\∃xs,o=.lst xs)\/((∃ps,o=.tbl ps)/\∃ps,H' a=aa (.tbl ps))
def Xs.trans(f:Xs ρ A H H1)(g:Xs ρ A H1 H2):Xs ρ A H H2:=λa o n h=>(f a o n h).elim (g a o n) λz=>z.elim (λz=>.inr (.inl z)) λ⟨e,ps,h⟩=>by
 rcases g a _ n h with q|⟨_,xs,q⟩|⟨_,q⟩
 ·exact .inr (.inr ⟨e,ps,q⟩)
 ·cases q
 ·exact .inr (.inr ⟨e,q⟩)
def Xs.of(f:Fut (ρ.at A) H ρ' H1):Xs ρ A H H1:=λa o _ h=>f.keep a o h
structure CI(K:ak)(ρ:Mx)(A:aC)(acc:List D)(l:Lc)(σ:L2.St)(H:Hp)(S:Zr):Prop where
 st:St3 K (ρ.at A) S H
 lr:LocR (ρ.at A) H l σ
 ac:∃us,H A=aa (.lst us)/\Rq (ρ.at A) H acc us
section
variable{K:ak}{ρ:Mx}{A:aC}{acc:List D}{l l':Lc}{σ:L2.St}{H H':Hp}{S S':Zr}
def Xs.lat(f:Xs ρ A H H')(ha:H A=aa (.lst us)):Lat (ρ.at A) H (ρ.at A) H':=⟨rfl,rfl,λa o h x n=>by
 by_cases c:a=A
 ·subst c;rw[ha]at h;cases h;exact T7 (.inr rfl) (x us rfl)
 ·rcases f a o c h with z|⟨z,xs,e⟩|⟨⟨ps,e⟩,_⟩
  ·exact z
  ·exact T7 (.inl (ρ.xz a z)) (x xs e)
  ·exact T7 e (n ps),λ_ _ x=>x⟩
theorem CI.mono(h:CI K ρ A acc l σ H S)(na:ρ.n0≠aa A)(f:Fut (ρ.at A) H ρ' H')(st:St3 K (ρ.at A) S' H'):CI K ρ A acc l σ H' S':=by
 obtain⟨us,e,r⟩:=h.ac;cases f.eq;exact⟨st,h.lr.mono f,us,(f.keep A _ e).elim id λz=>z.elim (λz=>T7 z.1 na) λ⟨⟨_,z⟩,_⟩=>(by cases z),r.mono f⟩
def ZdQ{Q:L2.St->Hp->Prop}(lr:LocR ρ H l σ)(r:Rep ρ H d v)(e:Pv.Zo t d l=aa l')(q:∀σ',LocR ρ H l' σ'->Q σ' H):tGU K t v σ H Q:=by
 have fill:∀{t:List Nat}{vs:List D}{us:List V}{l l':Lc}{σ:L2.St},LocR ρ H l σ->Rq ρ H vs us->Pv.YO t vs l=aa l'->us.length=t.length/\LocR ρ H l' (Uv t us σ):=λ{t}=>by
  induction t with
  |nil=>intro vs us l l' σ h r e;cases vs with|nil=>rw[r];cases e;exact⟨rfl,h⟩|cons _ _=>cases e
  |cons i t ih=>intro vs us l l' σ h r e;cases vs with
   |nil=>cases e
   |cons v vs=>
    obtain⟨d,ds,rfl,a,b⟩:=r;obtain⟨z,q⟩:=ih (h.set i a) b e;exact⟨by rw[aQ,aQ,z],q⟩
 have gen:∀t:List Nat,(match Pv.qV d with
   |some xs=>Pv.YO t xs l
   |none=>af)=aa l'->∃a xs,v=.ref a/\(SqT K H a xs\/H a=aa (.lst xs))/\xs.length=t.length/\Q (Uv t xs σ) H:=by
  intro t e;cases d with|tup vs=>obtain⟨p,ds,rfl,hp,rs⟩:=r.tup';obtain⟨z,y⟩:=fill lr rs e;exact⟨p,ds,rfl,.inl (SqT.of hp),z,q _ y⟩|lst vs=>obtain⟨p,ds,rfl,hp,_,rs⟩:=r.lst';obtain⟨z,y⟩:=fill lr rs e;exact⟨p,ds,rfl,.inr hp,z,q _ y⟩|_=>cases e
 match t,e with
 |[i],e=>cases e;exact q _ (lr.set i r)
 |[],e=>exact gen [] e
 |i::j::t,e=>exact gen (i::j::t) e
theorem Jh:∀{t:List Nat}{vs:List D}{l l':Lc},Pv.YO t vs l=aa l'->l'.length=l.length/\∀j,j∉t->l'[j]?=l[j]?
 |[],[],l,l',h=>by cases h;exact⟨rfl,λ_ _=>rfl⟩
 |[],_::_,_,_,h=>by cases h
 |_::_,[],_,_,h=>by cases h
 |i::t,v::vs,l,l',h=>by
  obtain⟨a,b⟩:=Jh (t:=t) h;exact⟨by rw[a,bC],λj hj=>by rw[b j λz=>hj (aq _ z),ba λz=>hj (by rw[z];exact ao ..)]⟩
def VT(e:Pv.Zo t v l=aa l'):l'.length=l.length/\∀j,j∉t->l'[j]?=l[j]?:=by
 have gen:∀t:List Nat,(match Pv.qV v with
   |some xs=>Pv.YO t xs l
   |none=>af)=aa l'->l'.length=l.length/\∀j,j∉t->l'[j]?=l[j]?:=λt e=>by
  cases q:Pv.qV v with|none=>rw[q]at e;cases e|some xs=>rw[q]at e;exact Jh e
 match t,e with
 |[i],e=>cases e;exact⟨bC ..,λj hj=>ba λz=>hj (by rw[z];exact ao ..)⟩
 |[],e=>exact gen [] e
 |i::j::t,e=>exact gen (i::j::t) e
def LocR.back(e:Pv.Zo t v l=aa l')(hn:∀i∈t,∀d,l[i]?≠aa (aa d))(lr:LocR ρ H l' σ):LocR ρ H l σ:=by
 obtain⟨a,b⟩:=VT e;exact⟨by rw[<-a];exact lr.len,λi d q=>lr.val i d (by rw[b i λz=>hn i z d q];exact q)⟩
end
noncomputable def ZcN(C:Calls)(t:List Nat)(is:List E)(G:Lc->Zr->R (List D))(l:Lc)(x:D)(S:Zr):R (List D):=(Pv.po (Pv.Zo t x l) S).bind λl S=>(Pv.pvt C is l S).bind λb S=>if b then G l S else .ok [] S
def Uc{α β:Type}{r:R α}{f:α->Zr->R β}{b:β}{S:Zr}(h:r.bind f=.ok b S):∃a S1,r=.ok a S1/\f a S1=.ok b S:=by
 cases r with|ok a S1=>exact⟨a,S1,rfl,h⟩|ex _ _=>cases h|no=>cases h
def ud(h:Pv.mapP f (x::w) S=.ok rs S2):∃y S1 zs,f x S=.ok y S1/\Pv.mapP f w S1=.ok zs S2/\rs=y++zs:=by
 rw[Pv.mapP]at h;split at h
 ·split at h
  ·cases h;exact⟨_,_,_,‹_›,‹_›,rfl⟩
  ·cases h
 ·cases h
def Zeh(K:ak)(ρ:Mx)(A:aC)(P:Lc->Prop)(te:TEm)(G:Lc->Zr->R (List D)):Prop:=∀acc l σ H S ys S2 QQ,P l->CI K ρ A acc l σ H S->G l S=.ok ys S2->(acc++ys).length<=Ev.lim->(∀σ3 H3,Xs ρ A H H3->CI K ρ A (acc++ys) l σ3 H3 S2->QQ σ3 H3)->te σ H QQ
def Uq{ρ ρw:Mx}{A:aC}{Hw:Hp}{w:List D}{J:It}(r:WRel X.K ρw Hw w J)(na:ρ.n0≠aa A){t:List Nat}{is:List E}{te:TEm}{G:Lc->Zr->R (List D)}{P:Lc->Prop}(em:Zeh X.K ρ A P te G){l:Lc}(hn:∀i∈t,∀d,l[i]?≠aa (aa d))(hP:∀x l2,Pv.Zo t x l=aa l2->P l2){acc ys:List D}{σ:L2.St}{H:Hp}{S S2:Zr}{QQ:L2.St->Hp->Prop}
  (hl:∀H',Xs ρ A H H'->Lat ρw Hw (ρ.at A) H')(c:CI X.K ρ A acc l σ H S)(h:Pv.mapP (ZcN C t is G l) w S=.ok ys S2)(hz:(acc++ys).length<=Ev.lim)(k:∀σ3 H3,Xs ρ A H H3->CI X.K ρ A (acc++ys) l σ3 H3 S2->QQ σ3 H3) :
  ∃W:Nat->Nat->L2.St->Hp->Prop,(∃m,W 0 m σ H)/\wf J (tGU X.K t) (tB3 X nx (Pv.pvt C is)) te W QQ:=by
 refine⟨λn m σ' H'=>m=w.length-n/\n<=w.length/\Xs ρ A H H'/\∃ac rs S',ac++rs=acc++ys/\Pv.mapP (ZcN C t is G l) (w.drop n) S'=.ok rs S2/\CI X.K ρ A ac l σ' H' S',⟨w.length,rfl,dN _,λ_ _ _ h=>.inl h,acc,ys,S,rfl,h,c⟩,?_⟩
 rintro n m σ' H' ⟨rfl,hn',ff,ac,rs,S',ea,e',c'⟩
 have lat:=hl H' ff;by_cases hlt:n<w.length
 ·right
  rw[cg hlt]at e';obtain⟨y1,S1,r1,q1,q2,rfl⟩:=ud e';obtain⟨go,yl⟩:=r.go n _ S' H' lat c'.st hlt;refine⟨go,λx H3 y=>?_⟩
  obtain⟨f3,st3,rp⟩:=yl x H3 y;have rx:=rp _ (ai hlt);obtain⟨l2,Sa,ha,q1⟩:=Uc q1;obtain⟨b,Sb,hb,q1⟩:=Uc q1;have hal:Pv.Zo t w[n] l=aa l2/\Sa=S':=by
   cases z:Pv.Zo t w[n] l<;>rw[z]at ha<;>cases ha;exact⟨rfl,rfl⟩
  obtain⟨hal,rfl⟩:=hal;have ff3:=ff.trans (Xs.of f3);have c3:=c'.mono na f3 st3;refine ZdQ c3.lr rx hal λσ2 lr2=>⟨ρ.at A,l2,Sa,st3,lr2,?_⟩
  rw[hb];intro ρ4 H4 b' f4 st4 eb;have eb:=eb;subst eb;cases f4.eq;have ff4:=ff3.trans (Xs.of f4);have c4:=c3.mono na f4 st4;cases b with
  |false=>
   rw[T8 aM]at q1 ⊢;cases q1;exact⟨w.length-(n+1),by omega,rfl,hlt,ff4,ac,r1,_,ea,q2,c4.st,(lr2.mono f4).back hal hn,c4.ac⟩
  |true=>
   rw[T9 rfl]at q1 ⊢;refine em ac l2 σ2 H4 Sb y1 S1 _ (hP _ _ hal) ⟨c4.st,lr2.mono f4,c4.ac⟩ q1 ?_ λσ3 H5 f5 c5=>⟨w.length-(n+1),by omega,rfl,hlt,ff4.trans f5,ac++y1,r1,S1,by rw[bM];exact ea,q2,c5.st,c5.lr.back hal hn,c5.ac⟩
   rw[<-ea]at hz;simp only[bp]at hz ⊢;omega
 ·left
  have en:n=w.length:=by omega
  subst en;rw[eg]at e';cases e';rw[cT]at ea;subst ea;exact⟨r.stop _ _ H' lat c'.st,k σ' H' ff c'⟩
def ZaN{ρ:Mx}{A:aC}(na:ρ.n0≠aa A)(ie:E):Zeh X.K ρ A (λ_=>True) (Zc4 (tE X nx (Pv.pv C ie)) A) (λl S=>(Pv.pv C ie l S).bind λy S=>.ok [y] S):=λacc l σ H S ys S2 QQ _ c h hz k=>by
 obtain⟨y,S1,hy,h⟩:=Uc h;cases h;refine⟨ρ.at A,l,S,c.st,c.lr,?_⟩;rw[hy];intro ρ4 H4 v f4 st4 r4;cases f4.eq;have c4:=c.mono na f4 st4;obtain⟨us,e,r⟩:=c4.ac;rw[bp]at hz;have hz:acc.length+1<=Ev.lim:=hz;have fa:Xs ρ A H4 (upd H4 A (.lst (us++[v]))):=λa o n h=>.inl (by rw[Zi n];exact h)
 have lt:=fa.lat e;refine⟨us,e,by rw[r.length,<-Wt];omega,k σ _ ((Xs.of f4).trans fa) ⟨⟨st4.hk,λb x=>?_,λb x=>?_,st4.tb.upd (λo u z=>by rw[e]at z;cases z) λ_ z=>by cases z⟩,⟨c4.lr.len,λi d q=>let ⟨u,a,b⟩:=c4.lr.val i d q;⟨u,a,b.lat lt⟩⟩,_,Zk,(r.lat lt).append (Rq.cons (r4.lat lt) Rq.nil)⟩⟩
 ·by_cases z:b=A
  ·rw[z,Zk];intro q;cases q
  ·rw[Zi z];exact st4.xd b x
 ·rw[Zi λz=>na (by rw[<-z];exact x)];exact st4.dw b x
def wu(st:St3 X.K ρ S H)(lr:LocR ρ H l σ)(hA:H A=af):ρ.n0≠aa A/\CI X.K ρ A [] l σ (upd H A (.lst [])) S/\∀H',Xs ρ A (upd H A (.lst [])) H'->Fut ρ H ρ H'/\Lat ρ H (ρ.at A) H':=by
 have ne:∀a,H a≠af->a≠A:=λa h z=>h (z▸hA)
 have f:∀H',Xs ρ A (upd H A (.lst [])) H'->Fut ρ H ρ H'/\Lat ρ H (ρ.at A) H':=λH' g=>by
  have f:Fut ρ H ρ H':=⟨rfl,λa o h=>g a o (ne a (by rw[h];intro z;cases z)) (by rw[Zi (ne a (by rw[h];intro z;cases z))];exact h)⟩
  exact⟨f,rfl,rfl,f.lat.keep',λa h x=>x.elim id λz=>T7 z (ne a h)⟩
 have s:=st.fresh (o:=.lst []) hA;obtain⟨f1,lt⟩:=f _ λ_ _ _ h=>.inl h
 refine⟨λz=>st.xd A (ρ.xz A z) hA,⟨⟨s.hk,λb x=>x.elim (s.xd b) λz=>(by rw[z,Zk];intro q;cases q),s.dw,s.tb⟩,⟨lr.len,λi d q=>let ⟨u,a,b⟩:=lr.val i d q;⟨u,a,b.lat lt⟩⟩,[],Zk,Rq.nil⟩,f⟩
def VC{l:Lc}{cap:List Nat}{nl i:Nat}(h:i<nl)(v:D):(Pv.Z5 cap nl l)[i]?≠aa (aa v):=by
 unfold Pv.Z5;rw[cf (by simpa using h),cx,T9 h]
 intro z;cases z
def zM(f0:Fut ρ H0 ρ H)(hA:H A=af)(st:St3 X.K ρ S H)(f:Fut ρ H ρ H')(c:CI X.K ρ A ys l σ H' S')(h:End X.K nx (XT aj H0) ρ H Q (.ok (.lst ys) S')):Q (.ref A) H':=by
 obtain⟨us,e,r⟩:=c.ac;have lt:Lat (ρ.at A) H' ρ H':=⟨rfl,rfl,λ_ _ h _ _=>h,λ_ _ x=>.inl x⟩
 refine h ρ H' _ f ⟨c.st.hk,λb x=>c.st.xd b (.inl x),c.st.dw,c.st.tb⟩ ⟨Wa e (st.nx hA) (r.lat lt),λ_ _ _=>⟨A,rfl,f0.new hA st.xd⟩⟩
def za{K:ak}{rep:Mx->Hp->D->V->Prop}{ρ:Mx}{H:Hp}{Q:VK}{r:R (List D)}(h:End K xw rep ρ H Q (r.bind λys s=>if ys.length<=Ev.lim then Pv.PR.ok (.lst ys) s else .no).nox):∃ys S,r=.ok ys S/\ys.length<=Ev.lim/\End K nx rep ρ H Q (.ok (.lst ys) S):=by
 cases r with
 |no=>exact h.elim
 |ex c S=>exact h.elim
 |ok ys S=>
  have h:=End.nox h
  obtain⟨hl,h⟩:=End.guard h;exact⟨ys,S,rfl,hl,h⟩
def GU{is:List E}{ie:E}{cap:List Nat}{nl:Nat}{w:Ev.W}{t:List Nat}{σ:L2.St}{H:Hp}{Q:VK}(hyp:tF X xw (Pv.pv C (.comp1 cap nl t w is ie)) σ H Q):Zab (tW3 X xw (Pv.pvw C w)) (tGU X.K t) (tB3 X nx (Pv.pvt C is)) (tE X nx (Pv.pv C ie)) cap nl σ H Q:=by
 obtain⟨ρ,l,S,st,lr,h⟩:=hyp;rw[Pv.pv]at h;obtain⟨ho,h⟩:=End.guard h;refine⟨ρ,l,S,st,lr,h.bind λwk S1 ρ1 H1 J f1 st1 r1 h1=>λA hA=>?_⟩
 cases f1.eq;obtain⟨ys,S2,hm,hl,h1⟩:=za h1;obtain⟨na,ci,ft⟩:=wu st1 ((lr.mono f1).caught cap nl) hA;exact Uq r1 na (ZaN na ie) (λi hi d=>VC (T6 (bf.mp ho i hi)) d) (λ_ _ _=>dg) (λH' f=>(ft H' f).2) ci hm hl λσ3 H3 f3 c3=>zM f1 hA st1 (ft H3 f3).1 c3 h1
def ua{is js:List E}{ie:E}{cap:List Nat}{nl:Nat}{w w2:Ev.W}{t u:List Nat}{σ:L2.St}{H:Hp}{Q:VK}(hyp:tF X xw (Pv.pv C (.comp2 cap nl t w is u w2 js ie)) σ H Q) :
  yx (tW3 X xw (Pv.pvw C w)) (tGU X.K t) (tB3 X nx (Pv.pvt C is)) (λD=>yO (tW3 X nx (Pv.pvw C w2)) (tGU X.K u) (tB3 X nx (Pv.pvt C js)) (Zc4 (tE X nx (Pv.pv C ie)) D)) cap nl σ H Q:=by
 obtain⟨ρ,l,S,st,lr,h⟩:=hyp;rw[Pv.pv]at h;obtain⟨ho,h⟩:=End.guard h;obtain⟨ho,hu⟩:=(aD _ _).mp ho;refine⟨ρ,l,S,st,lr,h.bind λwk S1 ρ1 H1 J f1 st1 r1 h1=>λA hA=>?_⟩
 cases f1.eq;obtain⟨ys,S2,hm,hl,h1⟩:=za h1;obtain⟨na,ci,ft⟩:=wu st1 ((lr.mono f1).caught cap nl) hA;have hu:∀i∈u,i<nl/\i∉t:=λi hi=>by
  have:=(aD _ _).mp (bf.mp hu i hi);exact⟨T6 this.1,by simpa using this.2⟩
 refine Uq (P:=λl=>∀i∈u,∀d,l[i]?≠aa (aa d)) r1 na (λacc l σ H S ys S2 QQ pl c h hz k=>?_) (λi hi d=>VC (T6 (bf.mp ho i hi)) d) (λx l2 e i hi d=>?_) (λH' f=>(ft H' f).2) ci hm hl λσ3 H3 f3 c3=>zM f1 hA st1 (ft H3 f3).1 c3 h1
 ·obtain⟨wk2,S5,hw,h⟩:=Uc h
  refine⟨ρ.at A,l,S,c.st,c.lr,?_⟩;rw[hw];intro ρ5 H5 J5 f5 st5 r5;cases f5.eq;have c5:=c.mono na f5 st5;obtain⟨us,e,_⟩:=c5.ac;exact Uq r5 na (ZaN na ie) pl (λ_ _ _=>dg) (λH' f=>f.lat e) c5 h hz λσ3 H3 f3 c3=>k σ3 H3 ((Xs.of f5).trans f3) c3
 ·rw[(VT e).2 i (hu i hi).2]
  exact VC (hu i hi).1 d
def UD{elt:Expr}{ifs:List Expr}{is:List E}{ie:E}{scope:dQ}{N:List bn}{cap:List Nat}{nl:Nat}{w:Ev.W}{t:List Nat}(hc:X.calm=aj)(hN:X.N.Nodup)(CSc:CompScope X.env.scope X.N scope N cap nl)(hi:CW X xw C tg it w)
  (hb:∀cl s H fp,CG (cxC X N scope cl s H fp) tg t/\CTs (cxC X N scope cl s H fp) nx C ifs is/\CE (cxC X N scope cl s H fp) nx C elt ie)
  (hs:∀x,bZ it X.env x=cC x:=by intro _;rfl):CF X xw C (.ListComp elt [⟨tg,it,ifs,0⟩] scope pos) (.comp1 cap nl t w is ie):=
 PE.imp (ZaZ (g:=tGU X.K t) (tt:=tB3 X nx (Pv.pvt C is)) (te:=tE X nx (Pv.pv C ie)) hc hN CSc hi (λcl s H fp=>hb cl s H fp) hs) λσ H Q hyp=>GU hyp
def UF{fr:Bool}{ns:List Nat}{elt:Expr}{ifs:List Expr}{is:List E}{ie:E}{scope:dQ}{N:List bn}{cap:List Nat}{nl:Nat}{w:Ev.W}{t:List Nat}{n:Nat}{y:bn}{spos py:eY}(hc:X.calm=aj)(hN:X.N.Nodup)(CSc:CompScope X.env.scope X.N scope N cap nl)(hi:CW X xw C tg it w)
  (hb:∀cl s H fp,CG (cxC X N scope cl s H fp) tg t/\CTs (cxC X N scope cl s H fp) nx C ifs is/\CE (cxC X N scope cl s H fp) nx C elt ie)
  (hsw:eK (.ListComp elt [⟨tg,it,ifs,0⟩] scope pos) (aa (.Name y py)) spos.line X.env=cC aj:=by rfl)
  (hy:X.N[n]?=aa y:=by rfl)(hx:L2.Loc X.env.scope y:=by first|exact gN rfl|exact eU rfl)(hf:X.fn y=aj\/X.env.scope.names.lookup y=aa .local:=by first|exact .inl rfl|exact .inr rfl)
  (hs:∀x,bZ it X.env x=cC x:=by intro _;rfl):CS X xw fr C ns (.Assign [.Name y py] (.ListComp elt [⟨tg,it,ifs,0⟩] scope pos) spos) (.asg [n] (.comp1 cap nl t w is ie)):=
 PS.imp (qf (g:=tGU X.K t) (tt:=tB3 X nx (Pv.pvt C is)) (te:=tE X nx (Pv.pv C ie)) hc hN CSc hi (λcl s H fp=>hb cl s H fp) hsw hy hx hf hs) λD σ H ⟨ρ,H0,W,l,os,S,st,en,h⟩=>GU (Zdw st en h)
def Vl{fr:Bool}{ns:List Nat}{elt t1 i1 t2 i2:Expr}{f1' f2':List Expr}{is js:List E}{ie:E}{scope:dQ}{N:List bn}{cap:List Nat}{nl:Nat}{w w2:Ev.W}{t u:List Nat}{n:Nat}{y:bn}{spos py:eY}(hc:X.calm=aj)(hN:X.N.Nodup)(CSc:CompScope X.env.scope X.N scope N cap nl)(hi:CW X xw C t1 i1 w)
  (hb:∀cl s H fp,CG (cxC X N scope cl s H fp) t1 t/\CTs (cxC X N scope cl s H fp) nx C f1' is/\CW (cxC X N scope cl s H fp) nx C t2 i2 w2/\CG (cxC X N scope cl s H fp) t2 u/\CTs (cxC X N scope cl s H fp) nx C f2' js/\CE (cxC X N scope cl s H fp) nx C elt ie)
  (hsw:eK (.ListComp elt [⟨t1,i1,f1',0⟩,⟨t2,i2,f2',0⟩] scope pos) (aa (.Name y py)) spos.line X.env=cC aj:=by rfl)
  (hy:X.N[n]?=aa y:=by rfl)(hx:L2.Loc X.env.scope y:=by first|exact gN rfl|exact eU rfl)(hf:X.fn y=aj\/X.env.scope.names.lookup y=aa .local:=by first|exact .inl rfl|exact .inr rfl)
  (hs:∀x,bZ i1 X.env x=cC x:=by intro _;rfl)(hs2:∀env x,bZ i2 env x=cC x:=by intro _ _;rfl) :
  CS X xw fr C ns (.Assign [.Name y py] (.ListComp elt [⟨t1,i1,f1',0⟩,⟨t2,i2,f2',0⟩] scope pos) spos) (.asg [n] (.comp2 cap nl t w is u w2 js ie)):=
 PS.imp (v4 (wj:=tW3 X nx (Pv.pvw C w2)) (g1:=tGU X.K t) (tt1:=tB3 X nx (Pv.pvt C is)) (g2:=tGU X.K u) (tt2:=tB3 X nx (Pv.pvt C js)) (te:=tE X nx (Pv.pv C ie)) hc hN CSc hi (λcl s H fp=>hb cl s H fp) hsw hy hx hf hs hs2) λD σ H ⟨ρ,H0,W,l,os,S,st,en,h⟩=>ua (Zdw st en h)
end
theorem LocR.start(r:Rq ρ H ds vs)(N:List bn)(n:Nat)(hn:n=N.length):LocR ρ H (Pv.ZM n ds) (L2.start N vs):=by
 subst hn;have hl:=r.length;refine⟨by unfold Pv.ZM L2.start;simp[hl],λi d e=>?_⟩
 unfold Pv.ZM at e;by_cases hi:i<ds.length
 ·rw[cf (by simpa using hi),aR]at e
  cases q:ds[i]? with
  |none=>rw[q]at e;cases e
  |some d'=>
   rw[q]at e;cases e;obtain⟨v,hv,r'⟩:=r.get q;refine⟨v,?_,r'⟩;unfold L2.start;rw[cf (by simp;lia),aR,hv]
   rfl
 ·rw[bI (by simp;lia),cx]at e
  split at e<;>cases e
theorem Eu.start{K:ak}{ρ:Mx}{H:Hp}{S:Zr}{ds:List D}{vs:List V}(st:St3 K ρ S H)(r:Rq ρ H ds vs)(N:List bn)(n:Nat)(hn:n=N.length):Eu ρ H (λ_=>af) (Pv.ZM n ds) [] (L2.start N vs) H:=by
 have lr:=LocR.start r N n hn;refine⟨Fut.refl _ _,st.xd,lr.len,λ_=>rfl,λ_ _ _ h=>?_,λ_ _ h=>?_,λ_ _ h=>?_,λi d e _=>?_⟩
 ·cases h
 ·cases h
 ·cases h
 ·obtain⟨v,a,b⟩:=lr.val i d e
  exact⟨v,a,Rep.lat (ρ:=ρ) (ρ':=ρ.ex λ_=>af) ⟨rfl,rfl,λ_ _ h _ _=>h,λ_ _ x=>Or.elim x id λ⟨_,z⟩=>by cases z⟩ b⟩
section
variable{P:bq}{w:bK}{K:ak}{mg:bn->Option au}{base:bX}
noncomputable def JS(C:Calls)(fn:Fn)(ds:List D)(S:Zr):R D:=if ds.length=fn.ps then(Pv.rvs C (Pv.muts fn.body) fn.body (Pv.ZM fn.ns ds) [] S).bind λf S=>match f with
  |.ret x=>.ok x S
  |.nx _ _=>.ok .non S
  |_=>.no
 else .no
def G8{C:Calls}{fn:Fn}{fr:Bool}{xw:Nat->Hp->Prop}{ρ:Mx}{H:Hp}{ds:List D}{S:Zr}{Q:VK}{E:L2.Ends}(hE:∀v H',Q v H'->E.rt v H')(hN:∀σ H',Q .non H'->E.nx σ H')(h:End K xw (XT fr H) ρ H Q (JS C fn ds S)):ZK fr K xw ρ H E (Pv.rvs C (Pv.muts fn.body) fn.body (Pv.ZM fn.ns ds) [] S):=by
 obtain⟨_,h⟩:=End.guard h;cases q:Pv.rvs C (Pv.muts fn.body) fn.body (Pv.ZM fn.ns ds) [] S with
 |no=>rw[q]at h;exact h
 |ex c S2=>rw[q]at h;exact λH' f st=>h ρ H' f st
 |ok fl S2=>
  rw[q]at h;cases fl with|ret x=>exact λH' v f st r=>hE v H' (h ρ H' v f st r)|nx l os=>exact λH' σ' W' st en=>hN σ' H' (h ρ H' .non en.fut st ⟨V9,λ_ _ z=>by cases z⟩)|brk l os=>exact False.elim h|cnt l os=>exact False.elim h
end
section
variable{prog:bq}{w:bK}{A:bQ}{E:au->ax->Prop}{s:ax}
theorem vU(n:Nat):cP ((n:Int)-1) (-1) (-1)=n:=by
 unfold cP;have h1:¬((-1:Int)>0):=by decide
 rw[T8 h1];by_cases h:(n:Int)-1 > -1
 ·rw[T9 h,show(- -1:Int)=1 by decide,Int.ediv_one]
  lia
 ·rw[T8 h]
  lia
def Vs{sl:aC}{vk:au}{n:Nat}{Q:Int×Int×Nat->ax->Prop}(hs:s.heap.IsSliceOf sl .none .none vk)(pk:kr vk (aa (-1)))
  (h:Q ((n:Int)-1,-1,n) s):bc (aS prog w) A (kw (.ref sl) (cC (n:Int))) Q E s:=by
 obtain⟨os,hos,hcs,hds⟩:=id hs;refine ae (ae (cO hos hds rfl (ae (cO hos hds rfl (ae (cO hos hds rfl (aA ?_)))))));refine ae (HT.Wg pk ?_);show bc _ _ (if((-1:Int) == 0)=aj then _ else _) _ _ s
 rw[T8 (by decide)]
 refine ae (ku (ae (ku (ae (aA ?_)))));show bc _ _ (cC ((n:Int)-1,(-1:Int),cP ((n:Int)-1) (-1) (-1))) _ _ s;rw[vU];exact aA h
theorem Zay(xs:Array au):((aY xs.size).filterMap λ(k:Nat)=>xs[((xs.size:Int)-1+(k:Int) * -1).toNat]?).toArray=xs.toList.reverse.toArray:=by
 congr 1
 have e:(aY xs.size).filterMap (λ(k:Nat)=>xs[((xs.size:Int)-1+(k:Int) * -1).toNat]?)=((aY xs.size).map λk=>xs.size-1-k).filterMap (xs[·]?):=by
  rw[nE]
  congr 1
  funext k
  have:((xs.size:Int)-1+(k:Int) * -1).toNat=xs.size-1-k:=by lia
  rw[this];rfl
 rw[e,PySem.W.krv_range,List.filterMap_reverse,PySem.W.krv_all]
def WX{Q:au->ax->Prop}(ht:nK s.heap t items)(hs:s.heap.IsSliceOf sl .none .none vk)(pk:kr vk (aa (-1)))
  (h:Q (.ref s.heap.objs.size) {s with heap:=s.heap.push {cls:=.type "tuple",data:=.seq items.toList.reverse.toArray}})
  (hsz:items.size<=bi):bc (aS prog w) A (kT (.ref t) (.ref sl)) Q E s:=by
 have htake:sizeOk (.seq items.toList.reverse.toArray):=by
  show items.toList.reverse.toArray.size<=bi;rw[ay,i9,aN];exact hsz
 obtain⟨os,hos,hcs,hds⟩:=id hs;have hTs:s.TypeIs (.ref sl) "slice":=⟨os,hos,hcs⟩;unfold kT
 try with_reducible refine cz ?_
 first|refine ae (aA ?_)|skip
 refine ae (kU ht.typeIs (by decide) ?_)
 refine ae (cL ht.typeIs cF
  (da cF ht.typeIs i8 ?_ (kx _ _)))
 show bc _ _ (fX (.ref t) >>= _) _ _ s;refine ae (m7 ht ?_);refine ae (fv hTs ?_);rw[T9 (by decide)]
 refine ae (Vs hs pk ?_);have hno:¬(((items.size:Int)-1 == 0&&(-1:Int) == 1&&items.size == items.size)=aj):=by
  intro q;rw[aD,aD]at q;exact T7 q.1.2 (by decide)
 show bc _ _ (if((items.size:Int)-1 == 0&&(-1:Int) == 1&&items.size == items.size)=aj then _ else _) _ _ s
 rw[T8 hno,Zay]
 first
  |exact ae (bL (aA ⟨_,rfl,aA h⟩) htake)
  |exact ae (bL (ae (aA (aA ⟨_,rfl,aA h⟩))) htake)
  |exact ae (ae (bL (aA (aA ⟨_,rfl,aA h⟩)) htake))
  |exact ae (ae (bL (aA ⟨_,rfl,aA h⟩) htake))
end
section
variable{X:Cx}{xw:Nat->Hp->Prop}{C:Calls}{e a b c tg it:Expr}{i j k:E}{pos p p' p2 p3:eY}{q1:Option bn}
def yt{e1:Expr}(ha:CE X xw C a i)(h1:CE X xw C e1 (.neg (.c (.int 1)))):CE X xw C (.Subscript a (.Slice af af (aa e1) p2) pos) (.rev i):=by
 intro pq s σ H Q I hq;obtain⟨ρ,l,S,st,lr,h⟩:=hq;have h':=h
 refine pL (thn (ha pq s σ H (λx H1=>∃ρ1 S1 d,St3 X.K ρ1 S1 H1/\LocR ρ1 H1 l σ/\Rep ρ1 H1 d x/\End X.K xw Rep ρ1 H1 Q (Pv.po (Pv.ZeQ d) S1)) I ⟨ρ,l,S,st,lr,h'.bind λd S1 ρ1 H1 v f1 st1 r1 h1=>⟨ρ1,S1,d,st1,lr.mono f1,r1,h1⟩⟩) λv s1 ⟨x,H1,I1,r1,ρ1,S1,d,st1,lr1,rd,h2⟩=>?_)
 refine wpAny_Slice ?_;rw[m8];refine aA (aA ?_);rw[evalPart_some];refine thn (h1 pq s1 σ H1 (λy H2=>y=.int (-1)/\∃ρ2,Fut ρ1 H1 ρ2 H2/\St3 X.K ρ2 S1 H2) I1 ⟨ρ1,l,S1,st1,lr1,λρ2 H2 y f2 st2 ry=>⟨ry.int',ρ2,f2,st2⟩⟩) λvk s2 ⟨y,H2,I2,ry,ey,ρ2,f2,st2⟩=>?_
 subst ey;obtain⟨t,rfl⟩:=ry;have rd2:=rd.mono f2;have h3:=End.mono f2 h2;cases d with
 |tup ds=>
  obtain⟨q,xs,rfl,hp,rs⟩:=rd2.tup';cases r1;have I4:Inv X pq σ H2 {s2 with heap:=s2.heap.push {cls:=.type "slice",data:=.fields #[.none,.none,.int (-1) t]}}:=I2.kept (t':=s2.toks) λb ob q=>aw _ q
  obtain⟨its,r,ht,hz⟩:=I4.tuple (SqT.of hp);have hlen:its.toArray.size=xs.length:=by rw[ay];exact r.length.symm
  refine tail_any ht.typeIs cF.lookup ?_ (by with_unfolding_all rfl)
  refine WX ht (nF ..) (kr.int _ _) ?_ (by rw[hlen];exact hz)
  refine⟨.ref _,_,I4.laid (t':=s2.toks) (o:=.tup xs.reverse) (λb ob q=>aw _ q) (aI _) ⟨by rw[i9];exact hz,_,r.reverse,iq _ _⟩,rfl,h3.newT st2 rs.reverse _ (I4.hok.fresh (aI _))⟩
 |_=>exact False.elim h3
end
section
variable{es:List Expr}{env:Env}
def ya{a b c}:aE (.Constant a b c::es) env=(al,cR (.Constant a b c) env)::aE es env:=rfl
def vw{a b}:aE (.Name a b::es) env=(al,cR (.Name a b) env)::aE es env:=rfl
def qy{a b c}:aE (.Tuple a b c::es) env=(al,cR (.Tuple a b c) env)::aE es env:=rfl
def jh{a b}:aE (.List a b::es) env=(al,cR (.List a b) env)::aE es env:=rfl
def wq{a b c}:aE (.Dict a b c::es) env=(al,cR (.Dict a b c) env)::aE es env:=rfl
def jv{a b c d}:aE (.BinOp a b c d::es) env=(al,cR (.BinOp a b c d) env)::aE es env:=rfl
def ZcL{a b c}:aE (.UnaryOp a b c::es) env=(al,cR (.UnaryOp a b c) env)::aE es env:=rfl
def wT{a b c}:aE (.BoolOp a b c::es) env=(al,cR (.BoolOp a b c) env)::aE es env:=rfl
def ZaS{a b c d}:aE (.Compare a b c d::es) env=(al,cR (.Compare a b c d) env)::aE es env:=rfl
def jA{a b c}:aE (.Subscript a b c::es) env=(al,cR (.Subscript a b c) env)::aE es env:=rfl
def x6{a b c d}:aE (.Call a b c d::es) env=(al,cR (.Call a b c d) env)::aE es env:=rfl
def wP{a b c d}:aE (.ListComp a b c d::es) env=(al,cR (.ListComp a b c d) env)::aE es env:=rfl
end
def Xd:List iB->List (Int×Int)->Prop
 |[],[]=>True
 |e::r,(k,j)::q=>(∃t,e.key=.int k t)/\e.hash=hashInt k/\(∃u,e.val=.int j u)/\Xd r q
 |_,_=>False
theorem Xd.mem :∀{es:List iB}{tab:List (Int×Int)},Xd es tab->∀e∈es,∃k,(kf P w).is k e.key=aj/\e.hash=(kf P w).hash k
 |[],_,_,e,h=>by cases h
 |e::r,[],h,_,_=>h.elim
 |e::r,(k,j)::q,h,x,hx=>by
  obtain⟨⟨t,h1⟩,h2,_,h4⟩:=h;rcases az.mp hx with rfl|hx
  ·exact⟨k,by rw[h1];exact intKind_is P w k t,h2⟩
  ·exact Xd.mem h4 x hx
theorem Xd.find(k:Int):∀{es:List iB}{tab:List (Int×Int)},Xd es tab->(tab.lookup k=af->(es.find? λe=>(kf P w).is k e.key)=af)/\∀j,tab.lookup k=aa j->∃e t,(es.find? λe=>(kf P w).is k e.key)=aa e/\e.val=.int j t
 |[],[],_=>⟨λ_=>rfl,λj h=>by cases h⟩
 |[],_::_,h=>h.elim
 |e::r,[],h=>h.elim
 |e::r,(k',j')::q,h=>by
  obtain⟨⟨t,h1⟩,h2,⟨u,h3⟩,h4⟩:=h;obtain⟨i1,i2⟩:=Xd.find k h4;rw[bT,dZ];have hd:(kf P w).is k e.key=ag (k=k'):=KeyKind.is_eq_decide (by rw[h1];exact intKind_is P w k' t) k
  rw[hd];by_cases z:k=k'
  ·subst z
   rw[beq_self_eq_true,T5 rfl];exact⟨λz=>(by cases z),λj z=>(by cases z;exact⟨e,u,rfl,h3⟩)⟩
  ·rw[beq_eq_false_iff_ne.mpr z,T4 z]
   exact⟨i1,i2⟩
def Za8{P:bq}{w:bK}{K:ak}{a:aC}{es:Array iB}{n:Nat}{tab:List (Int×Int)}(hl:K.lookup a=aa ⟨.type "dict",af,.dict es n,#[]⟩)(ht:Xd es.toList tab)(ha:(a == dF)=al):ZeW P w K a tab:=by
 refine⟨ha,λk=>findBy (kf P w).is es k,λh X=>⟨_,es,n,X _ _ hl,⟨rfl,rfl,rfl⟩,rfl,λe he=>ht.mem e (mz.mpr he),λ_=>rfl⟩,λk=>?_⟩
 obtain⟨l⟩:=es;obtain⟨i1,i2⟩:=Xd.find k ht;refine⟨λz=>?_,λj z=>?_⟩
 ·show((l.toArray.find? λe=>(kf P w).is k e.key).map (·.val))=af
  rw[nH,i1 z];rfl
 ·obtain⟨e,t,q1,q2⟩:=i2 j z
  refine⟨t,?_⟩;show((l.toArray.find? λe=>(kf P w).is k e.key).map (·.val))=_
  rw[nH,q1];exact congrArg aa q2
def hu7(hr:Room k A):A.units+7<dz:=Nat.lt_of_le_of_lt (by lia) hr.un
end Sd
namespace Sd
open PySem PySem.Spec PyProof.Rows L2
def Src(b:Bool)(h:bX)(it l:aC)(k:Nat):Prop:=match b with
 |true=>h.IsListIter it l k
 |false=>h.IsTupleIter it l k
def YF(b:Bool)(h:bX)(l:aC)(xs:Array au):Prop:=match b with
 |true=>h.IsList l xs
 |false=>h.IsTuple l xs
def Src.ext(x:Src b h it l k)(e:fZ c h h')(n:it≠c):Src b h' it l k:=by
 cases b
 ·exact bX.IsTupleIter.extBut x e n
 ·exact bX.IsListIter.extBut x e n
def Src.keep(x:Src b h it l k)(e:∀o,h.get? it=aa o->h'.get? it=aa o):Src b h' it l k:=by
 cases b
 ·obtain⟨o,ho,r⟩:=x;exact⟨o,e o ho,r⟩
 ·obtain⟨o,ho,r⟩:=x;exact⟨o,e o ho,r⟩
def Src.obj(x:Src b h it l k):∃o,h.get? it=aa o/\∀v,o.data≠.cell v:=by
 cases b
 ·obtain⟨o,ho,_,d⟩:=x;exact⟨o,ho,λv z=>by rw[d]at z;cases z⟩
 ·obtain⟨o,ho,_,d⟩:=x;exact⟨o,ho,λv z=>by rw[d]at z;cases z⟩
def YF.keep(x:YF b h l xs)(e:∀o,h.get? l=aa o->h'.get? l=aa o):YF b h' l xs:=by
 cases b
 ·obtain⟨o,ho,r⟩:=x;exact⟨o,e o ho,r⟩
 ·obtain⟨o,ho,r⟩:=x;exact⟨o,e o ho,r⟩
section
variable{prog:bq}{w:bK}{A:bQ}{E:au->ax->Prop}{s:ax}
def qI{Q:au->ax->Prop}(hit:s.heap.IsTupleIter it t i)(ht:s.heap.IsTuple t items)(hx:items[i]?=aa x)
  (hQ:∀h',h'.IsTupleIter it t (i+1)->fq it s.heap h'->Q x {s with heap:=h' }):bc (aS prog w) A (eI (.ref it)) Q E s:=by
 obtain⟨o,ho,hc,hd⟩:=id hit;obtain⟨ol,hol,_,nl,hdl⟩:=ht;refine ae (cL hit.typeIs ej (da ej hit.typeIs kj ?_ (iW _)));show bc _ _ (field (.ref it) 0 >>= _) _ _ s;refine ae (cO ho hd rfl ?_);show bc _ _ (if(cU t == bD)=aj then _ else _) _ _ s
 rw[T8 (by exact aM)];refine ae (cO ho hd rfl ?_)
 refine ae (eo hol hdl ?_);simp only[dC,hx];refine ae (kG ho hd (by simp) (aA ⟨x,rfl,aA (hQ _ ⟨_,fJ _ ho (im (fw hd _)),(kY ..).trans hc,?_⟩ (eW ..))⟩))
 rw[fw hd];simp[gA]
def JN{Q:au->ax->Prop}(hh:A.handled=af)(hit:s.heap.IsTupleIter it t i)(ht:s.heap.IsTuple t items)(hx:items[i]?=af)
  (hE:∀h' e,fZ it s.heap h'->(∃o,h'.get? e=aa o/\o.cls=.type "StopIteration")->E (.ref e) {s with heap:=h' }):bc (aS prog w) A (eI (.ref it)) Q E s:=by
 obtain⟨o,ho,hc,hd⟩:=id hit;obtain⟨ol,hol,_,nl,hdl⟩:=ht;refine ae (cL hit.typeIs ej (da ej hit.typeIs kj ?_ (iW _)));show bc _ _ (field (.ref it) 0 >>= _) _ _ s;refine ae (cO ho hd rfl ?_);show bc _ _ (if(cU t == bD)=aj then _ else _) _ _ s
 rw[T8 (by exact aM)];refine ae (cO ho hd rfl ?_)
 refine ae (eo hol hdl ?_);simp only[dC,hx];refine ae (dW (ae (kG ho hd (by simp) ?_)));show bc _ _ (newExc (.type "StopIteration") [] >>= _) _ _ _
 refine ae ?_;simp only[newExc,newTuple];refine ae (bL ?_ (by size_fits))
 refine ae (mF (by first|rfl|(simp only[mG];rfl)) (bL ?_ (by size_fits)))
 simp only[raiseNew];refine ae (wpAny_handled ?_);first|rw[hh]|rw[hh]
 exact ae (aA (wpAny_throw (hE _ _ (((eW ..).extBut.push _).push _) ⟨_,aO _ rfl,rfl⟩)))
def Vf{Q:au->ax->Prop}(hit:Src b s.heap it l k)(hl:YF b s.heap l xs)(hx:xs[k]?=aa x)
  (hQ:∀h',Src b h' it l (k+1)->fq it s.heap h'->Q x {s with heap:=h' }):bc (aS prog w) A (eI (.ref it)) Q E s:=by
 cases b
 ·exact qI hit hl hx hQ
 ·exact wpAny_nextOf_list_item hit hl hx hQ
def Jy{Q:au->ax->Prop}(hh:A.handled=af)(hit:Src b s.heap it l k)(hl:YF b s.heap l xs)(hx:xs[k]?=af)
  (hE:∀h' e,fZ it s.heap h'->(∃o,h'.get? e=aa o/\o.cls=.type "StopIteration")->E (.ref e) {s with heap:=h' }):bc (aS prog w) A (eI (.ref it)) Q E s:=by
 cases b
 ·exact JN hh hit hl hx hE
 ·exact wpAny_nextOf_list_end hh hit hl hx hE
noncomputable def Yu(b:Bool)(l:aC):eG:={cls:=.type (if b then "list_iterator" else "tuple_iterator"),data:=.fields #[.ref l,.int 0 0]}
def WU{Q:au->ax->Prop}(hl:YF b s.heap l xs)(h:Q (.ref s.heap.objs.size) {s with heap:=s.heap.push (Yu b l)}):bc (aS prog w) A (mw (.ref l)) Q E s:=by
 cases b
 ·exact gO hl h
 ·exact fO hl h
structure ZipSt(b1 b2:Bool)(z TI TO i1 i2 l1 l2:aC)(k:Nat)(f0:au)(h:bX):Prop where
 zp:o7 h z TI TO f0
 ti:lS h TI (.ref i1) (.ref i2)
 to:∃a b,lS h TO a b
 s1:Src b1 h i1 l1 k
 s2:Src b2 h i2 l2 k
def Zad{b1 b2:Bool}{z TI TO i1 i2 l1 l2:aC}{k:Nat}{xs ys:Array au}{x y:au}{Q:au->ax->Prop}(D:mH z TI TO i1 i2 l1 l2)(Z:ZipSt b1 b2 z TI TO i1 i2 l1 l2 k .none s.heap)(hl1:YF b1 s.heap l1 xs)(hl2:YF b2 s.heap l2 ys)(hx:xs[k]?=aa x)(hy:ys[k]?=aa y)
  (hQ:∀h',ZipSt b1 b2 z TI TO i1 i2 l1 l2 (k+1) (gA s.heap.objs.size) h'->lS h' s.heap.objs.size x y->(∀c o,c∉[z,TO,i1,i2]->s.heap.get? c=aa o->h'.get? c=aa o)->Q (.ref s.heap.objs.size) {s with heap:=h' }) :
  bc (aS prog w) A (eD.«zip.__next__» ⟨[.ref z],[]⟩) (λfin s'=>∃v,fin=.done (.ret v)/\Q v s') E s:=by
 obtain⟨hz,hTI,⟨a,b,hTO⟩,h1,h2⟩:=Z;show bc _ _ (field (.ref z) 2 >>= _) _ _ _;refine ae (cO hz rfl (x:=.bool al) rfl ?_);refine ae (cO hz rfl (x:=.ref TI) rfl (ae (eo hTI rfl ?_)));refine ae ?_;refine ae (cO hz rfl (x:=.none) rfl (aA ?_));simp only[if_true];refine ae (dW (ae (cO hz rfl (x:=.ref TO) rfl (ae (eA hz (by simp) λh₁ hz₁ hs₁=>?_)))))
 replace hz₁:o7 h₁ z TI TO .ellipsis:=by exact hz₁
 refine ae ?_;simp only[lC,pe,l6,pR];refine ae (ae (lg ?_));refine ae (Vf (h1.ext hs₁.extBut D.i1z) (hl1.keep λo e=>hs₁.extBut _ o D.l1z e) hx λh₂ h1₂ hs₂=>aA ?_)
 have hTO₂:lS h₂ TO a b:=by exact hs₂.extBut _ _ D.TOi1 (hs₁.extBut _ _ D.TOz hTO)
 refine ae (eo hTO₂ rfl (ae (iM hTO₂ λh₃ hTO₃ hs₃=>?_)))
 replace hTO₃:lS h₃ TO x b:=by exact hTO₃
 refine ae (o8 (aA (ae (ae (lg ?_)))));have to3:∀c o,c≠z->c≠TO->c≠i1->s.heap.get? c=aa o->h₃.get? c=aa o:=λc o c1 c2 c3 e=>hs₃.extBut _ _ c2 (hs₂.extBut _ _ c3 (hs₁.extBut _ _ c1 e))
 refine ae (Vf (h2.keep λo e=>to3 _ o D.i2z D.TOi2.symm D.i12.symm e) (hl2.keep λo e=>to3 _ o D.l2z D.l2TO D.l2i1 e) hy λh₄ h2₄ hs₄=>aA ?_)
 have hTO₄:lS h₄ TO x b:=by exact hs₄.extBut _ _ D.TOi2 hTO₃
 refine ae (eo hTO₄ rfl (ae (iM hTO₄ λh₅ hTO₅ hs₅=>?_)))
 replace hTO₅:lS h₅ TO x y:=by exact hTO₅
 refine ae (o8 (aA (aA (ae (eo hTO₅ rfl (ae (wpAny_newTuple ?_)))))));have hsz:h₅.objs.size=s.heap.objs.size:=by rw[hs₅.1,hs₄.1,hs₃.1,hs₂.1,hs₁.1]
 have to5:=λc o c1 c2 c3 c4 e=>hs₅.extBut _ _ c2 (hs₄.extBut _ _ c4 (to3 c o c1 c2 c3 e))
 have hz₅:o7 h₅ z TI TO .ellipsis:=by exact hs₅.extBut _ _ D.TOz.symm (hs₄.extBut _ _ D.i2z.symm (hs₃.extBut _ _ D.TOz.symm (hs₂.extBut _ _ D.i1z.symm hz₁)))
 have h1₅:Src b1 h₅ i1 l1 (k+1):=((h1₂.ext hs₃.extBut D.TOi1.symm).ext hs₄.extBut D.i12).ext hs₅.extBut D.TOi1.symm;have h2₅:Src b2 h₅ i2 l2 (k+1):=h2₄.ext hs₅.extBut D.TOi2.symm;have zl:z<h₅.objs.size:=aJ hz₅;refine ae ?_;have hz₆:o7 (h₅.push {cls:=.type "tuple",data:=.seq #[x,y]}) z TI TO .ellipsis:=by exact aw _ hz₅
 refine ae (eA hz₆ (by simp) λh₇ hz₇ hs₇=>?_)
 replace hz₇:o7 h₇ z TI TO (gA h₅.objs.size):=by exact hz₇
 refine eA hz₇ (by simp) λh₈ hz₈ hs₈=>aA ⟨_,rfl,?_⟩
 replace hz₈:o7 h₈ z TI TO (gA h₅.objs.size):=by exact hz₈
 have up:∀c o,c≠z->h₅.get? c=aa o->h₈.get? c=aa o:=λc o c1 e=>by exact hs₈.extBut _ _ c1 (hs₇.extBut _ _ c1 (aw _ e))
 have hT₈:lS h₈ h₅.objs.size x y:=by exact hs₈.extBut _ _ (gh zl) (hs₇.extBut _ _ (gh zl) (aO _ rfl))
 show Q (.ref h₅.objs.size) _;rw[hsz]at hz₈ hT₈ ⊢;refine hQ h₈ ⟨hz₈,up _ _ D.TIz (to5 _ _ D.TIz D.TITO D.TIi1 D.TIi2 hTI),⟨x,y,up _ _ D.TOz hTO₅⟩,h1₅.keep λo e=>up _ o D.i1z e,h2₅.keep λo e=>up _ o D.i2z e⟩ hT₈ λc o hc e=>?_
 simp only[az,bE,or_false,not_or]at hc;exact up c o hc.1 (to5 c o hc.1 hc.2.1 hc.2.2.1 hc.2.2.2 e)
end
section
variable{prog:bq}{w:bK}{A:bQ}{E:au->ax->Prop}{s:ax}
def Qn{b1 b2:Bool}{z TI TO i1 i2 l1 l2:aC}{k:Nat}{xs ys:Array au}{Q:Fin->ax->Prop}(hh:A.handled=af)(D:mH z TI TO i1 i2 l1 l2)(Z:ZipSt b1 b2 z TI TO i1 i2 l1 l2 k .none s.heap)(hl1:YF b1 s.heap l1 xs)(hl2:YF b2 s.heap l2 ys)(hend:xs[k]?=af\/ys[k]?=af)
  (hE:∀h' e,(∀c o,c∉[z,TO,i1,i2]->s.heap.get? c=aa o->h'.get? c=aa o)->(∃o,h'.get? e=aa o/\o.cls=.type "StopIteration")->E (.ref e) {s with heap:=h' }) :
  bc (aS prog w) A (eD.«zip.__next__» ⟨[.ref z],[]⟩) Q E s:=by
 obtain⟨hz,hTI,⟨a,b,hTO⟩,h1,h2⟩:=Z;have hk:∀{c:aC},c∉[z,TO,i1,i2]->c≠z/\c≠TO/\c≠i1/\c≠i2:=λhc=>by
  simp only[az,bE,or_false,not_or]at hc;exact hc
 show bc _ _ (field (.ref z) 2 >>= _) _ _ _;refine ae (cO hz rfl rfl ?_);refine ae (cO hz rfl (x:=.ref TI) rfl (ae (eo hTI rfl ?_)));refine ae ?_;refine ae (cO hz rfl (x:=.none) rfl (aA ?_));simp only[if_true];refine ae (dW (ae (cO hz rfl (x:=.ref TO) rfl (ae (eA hz (by simp) λh₁ hz₁ hs₁=>?_)))))
 replace hz₁:o7 h₁ z TI TO .ellipsis:=by exact hz₁
 refine ae ?_;simp only[lC,pe,l6,pR];refine ae (ae (lg ?_));have l1₁:=hl1.keep λo e=>hs₁.extBut _ o D.l1z e
 cases hx:xs[k]? with
 |none=>
  refine ae (Jy hh (h1.ext hs₁.extBut D.i1z) l1₁ hx λh₂ e hs₂ he=>?_)
  obtain⟨oe,hoe,hce⟩:=he;have hz₂:o7 h₂ z TI TO .ellipsis:=by exact hs₂ _ _ D.i1z.symm hz₁
  have hez:e≠z:=λx=>by subst x;rw[hz₂]at hoe;cases hoe;simp at hce
  exact eA hz₂ (by simp) λh₃ _ hs₃=>hE h₃ e (λc o hc x=>hs₃.extBut _ _ (hk hc).1 (hs₂ _ _ (hk hc).2.2.1 (hs₁.extBut _ _ (hk hc).1 x))) ⟨oe,hs₃.extBut _ _ hez hoe,hce⟩
 |some x=>
  have hy:ys[k]?=af:=by rcases hend with q|q;rw[hx]at q;cases q;exact q
  refine ae (Vf (h1.ext hs₁.extBut D.i1z) l1₁ hx λh₂ h1₂ hs₂=>aA ?_)
  have hTO₂:lS h₂ TO a b:=by exact hs₂.extBut _ _ D.TOi1 (hs₁.extBut _ _ D.TOz hTO)
  refine ae (eo hTO₂ rfl (ae (iM hTO₂ λh₃ hTO₃ hs₃=>?_)))
  refine ae (o8 (aA (ae (ae (lg ?_)))));have to3:∀c o,c≠z->c≠TO->c≠i1->s.heap.get? c=aa o->h₃.get? c=aa o:=λc o c1 c2 c3 e=>hs₃.extBut _ _ c2 (hs₂.extBut _ _ c3 (hs₁.extBut _ _ c1 e))
  refine ae (Jy hh (h2.keep λo e=>to3 _ o D.i2z D.TOi2.symm D.i12.symm e) (hl2.keep λo e=>to3 _ o D.l2z D.l2TO D.l2i1 e) hy λh₄ e hs₄ he=>?_)
  obtain⟨oe,hoe,hce⟩:=he;have hz₄:o7 h₄ z TI TO .ellipsis:=by exact hs₄ _ _ D.i2z.symm (hs₃.extBut _ _ D.TOz.symm (hs₂.extBut _ _ D.i1z.symm hz₁))
  have hez:e≠z:=λx=>by subst x;rw[hz₄]at hoe;cases hoe;simp at hce
  exact eA hz₄ (by simp) λh₅ _ hs₅=>hE h₅ e (λc o hc x=>hs₅.extBut _ _ (hk hc).1 (hs₄ _ _ (hk hc).2.2.2 (to3 c o (hk hc).1 (hk hc).2.1 (hk hc).2.2.1 x))) ⟨oe,hs₅.extBut _ _ hez hoe,hce⟩
def yY{b1 b2:Bool}{z TI TO i1 i2 l1 l2:aC}{k:Nat}{xs ys:Array au}{x y:au}{Q:Option au->ax->Prop}(D:mH z TI TO i1 i2 l1 l2)(Z:ZipSt b1 b2 z TI TO i1 i2 l1 l2 k .none s.heap)(hl1:YF b1 s.heap l1 xs)(hl2:YF b2 s.heap l2 ys)(hx:xs[k]?=aa x)(hy:ys[k]?=aa y)
  (hQ:∀h',ZipSt b1 b2 z TI TO i1 i2 l1 l2 (k+1) (gA s.heap.objs.size) h'->lS h' s.heap.objs.size x y->(∀c o,c∉[z,TO,i1,i2]->s.heap.get? c=aa o->h'.get? c=aa o)->Q (aa (.ref s.heap.objs.size)) {s with heap:=h' }) :
  bc (aS prog w) A (oA (.ref z)) Q E s:=by
 have hT:s.TypeIs (.ref z) "zip":=⟨_,Z.zp,rfl⟩;exact ae (iH (cL hT iX (da iX hT oO (Zad D Z hl1 hl2 hx hy λh' a1 a2 a3=>aA (hQ h' a1 a2 a3)) (om _))))
def Qc{b1 b2:Bool}{z TI TO i1 i2 l1 l2:aC}{k:Nat}{xs ys:Array au}{Q:Option au->ax->Prop}(hh:A.handled=af)(D:mH z TI TO i1 i2 l1 l2)(Z:ZipSt b1 b2 z TI TO i1 i2 l1 l2 k .none s.heap)(hl1:YF b1 s.heap l1 xs)(hl2:YF b2 s.heap l2 ys)(hend:xs[k]?=af\/ys[k]?=af)
  (hQ:∀h',(∀c o,c∉[z,TO,i1,i2]->s.heap.get? c=aa o->h'.get? c=aa o)->Q af {s with heap:=h' }):bc (aS prog w) A (oA (.ref z)) Q E s:=by
 have hT:s.TypeIs (.ref z) "zip":=⟨_,Z.zp,rfl⟩;refine ae (iH (cL hT iX (da iX hT oO (Qn hh D Z hl1 hl2 hend λh' e hk he=>?_) (om _))))
 obtain⟨o,ho,hc⟩:=he;exact ae (gp ⟨o,ho,hc⟩ isSubtype_stop (aA (hQ _ hk)))
noncomputable def zH1(h:bX)(b1:Bool)(l1:aC):bX:=h.push (Yu b1 l1)
noncomputable def zH2(h:bX)(b1 b2:Bool)(l1 l2:aC):bX:=(zH1 h b1 l1).push (Yu b2 l2)
noncomputable def zH3(h:bX)(b1 b2:Bool)(l1 l2:aC):bX:=(zH2 h b1 b2 l1 l2).push {cls:=.type "tuple",data:=.seq #[.ref h.objs.size,.ref (zH1 h b1 l1).objs.size]}
noncomputable def zH4(h:bX)(b1 b2:Bool)(l1 l2:aC):bX:=(zH3 h b1 b2 l1 l2).push {cls:=.type "tuple",data:=.seq #[.none,.none]}
noncomputable def zH5(h:bX)(b1 b2:Bool)(l1 l2:aC):bX:=(zH4 h b1 b2 l1 l2).push {cls:=.type "zip",data:=.fields #[.none,.bool al,.bool al,.ref (zH2 h b1 b2 l1 l2).objs.size,.ref (zH3 h b1 b2 l1 l2).objs.size]}
def Zb1(b1 b2:Bool)(l1 l2:aC)(xs ys:Array au) :
  pP (eD.«zip.__new__» ⟨[.type "zip",.ref l1,.ref l2],[]⟩) (λ_ R s=>YF b1 s.heap l1 xs/\YF b2 s.heap l2 ys/\R (.ok (.ret (.ref (zH4 s.heap b1 b2 l1 l2).objs.size))) {s with heap:=zH5 s.heap b1 b2 l1 l2}):=
 .of_wp λprog w A R s h=>by
  obtain⟨hp,g,d,tk,os⟩:=s;obtain⟨hl1,hl2,h⟩:=h;have hsub:=sub_zip;have hL1:=hl1;have hL2:YF b2 (ax.heap ⟨hp.push (Yu b1 l1),g,d,tk,os⟩) l2 ys:=hl2.keep λo e=>aw _ e
  wp_walk using WU hL1,WU hL2
  exact⟨_,rfl,h⟩
def qk{Q:au->ax->Prop}(hl1:YF b1 s.heap l1 xs)(hl2:YF b2 s.heap l2 ys)
  (h:∀h' n,n=s.heap.objs.size->ZipSt b1 b2 (n+4) (n+2) (n+3) n (n+1) l1 l2 0 .none h'->(∀c o,s.heap.get? c=aa o->h'.get? c=aa o)->Q (.ref (n+4)) {s with heap:=h' }) :
  bc (aS prog w) A (call (.type "zip") [.ref l1,.ref l2]) Q E s:=by
 refine callType_new F.called_zip (by decide) (F.typeCall_zip_2 _ _) (F.newCall_zip_2 _ _) (λobj=>F.args_object_init_3 obj _ _) F.entry_zip_new (Zb1 b1 b2 l1 l2 xs ys) ⟨hl1,hl2,?_⟩
 have z1:(zH1 s.heap b1 l1).objs.size=s.heap.objs.size+1:=eB ..;have z2:(zH2 s.heap b1 b2 l1 l2).objs.size=s.heap.objs.size+2:=by unfold zH2;rw[eB,z1]
 have z3:(zH3 s.heap b1 b2 l1 l2).objs.size=s.heap.objs.size+3:=by unfold zH3;rw[eB,z2]
 have z4:(zH4 s.heap b1 b2 l1 l2).objs.size=s.heap.objs.size+4:=by unfold zH4;rw[eB,z3]
 have g5:(zH5 s.heap b1 b2 l1 l2).get? (zH4 s.heap b1 b2 l1 l2).objs.size=aa {cls:=.type "zip",data:=.fields #[.none,.bool al,.bool al,.ref (zH2 s.heap b1 b2 l1 l2).objs.size,.ref (zH3 s.heap b1 b2 l1 l2).objs.size]}:=aO _ rfl;have k4:∀c o,(zH4 s.heap b1 b2 l1 l2).get? c=aa o->(zH5 s.heap b1 b2 l1 l2).get? c=aa o:=λc o e=>aw _ e
 have k3:=λc o e=>k4 c o (aw _ e)
 have k2:=λc o e=>k3 c o (aw _ e)
 have k1:=λc o e=>k2 c o (aw _ e)
 have g4:=k4 _ _ (aO (zH3 s.heap b1 b2 l1 l2) rfl);have g3:=k3 _ _ (aO (zH2 s.heap b1 b2 l1 l2) rfl);have g2:=k2 _ _ (aO (zH1 s.heap b1 l1) rfl);have g1:=k1 _ _ (aO s.heap rfl);rw[z2,z3,z4]at g5;rw[z1,z2]at g3;rw[z3]at g4;rw[z1]at g2;rw[z4];have src:∀b l it,(zH5 s.heap b1 b2 l1 l2).get? it=aa (Yu b l)->Src b (zH5 s.heap b1 b2 l1 l2) it l 0:=λb l it e=>by
  cases b
  ·exact⟨_,e,rfl,rfl⟩
  ·exact⟨_,e,rfl,rfl⟩
 exact⟨⟨_,g5,rfl⟩,h _ _ rfl ⟨g5,g3,⟨_,_,g4⟩,src b1 l1 _ g1,src b2 l2 _ g2⟩ λc o e=>k1 c o (aw _ e)⟩
end
end Sd
namespace Sd
open PySem PySem.Spec PyProof.Rows L2
open Ev (E Sm Fn Bop Cop Ty Bf Mf)
def X6{X:Cx}{pq:List (aC×eG)}{σ:L2.St}{H:Hp}{s:ax}{h':bX}{t':Nat}{ch:List aC}(I:Inv X pq σ H s)(k:∀b o,b∉ch->s.heap.get? b=aa o->h'.get? b=aa o)(hf:∀b∈ch,WT X pq H b):Inv X pq σ H {s with heap:=h',toks:=t' }:=by
 have nit:∀b u,H b=aa u->b∉ch:=λb u e z=>by have:=(hf b z).1;rw[e]at this;cases this
 refine I.step (g':=s.gens) (d':=s.drawn) (λb hb=>?_) (λb o _ _ hc e _=>k b o hc e) (λb o _ _ hc e _=>⟨o.slots,k b o hc e⟩) (λ_ _ _ _ n=>n) (λb o hc e=>⟨o,k b o hc e⟩) (λ_ _ e=>e) (λ_ _ _ e=>e) (λb ps e=>⟨#[],by rw[e];simp⟩) (λm hm=>?_) (λb u e=>?_) I.bare
 ·exact⟨(hf b hb).2.2.2.1,(hf b hb).2.1,(hf b hb).2.2.2.2.1,(hf b hb).2.2.2.2.2⟩
 ·obtain⟨o,es,ep,ho,r⟩:=hm
  exact⟨o,es,ep,k _ o (λz=>(hf _ z).2.1 rfl) ho,r⟩
 ·refine(I.hok b u e).stay (λc v hc q=>k c v ?_ q) (λ_ q=>q) λ_ _ q=>q
  rcases hc with z|z
  ·rw[z];exact nit b u e
  ·exact nit c _ z
def Jc{h:bX}{o o':eG}{b:aC}(e:(h.push o').get? b=aa o)(n:b≠h.objs.size):h.get? b=aa o:=by
 unfold bX.get? bX.push at *;simp only[Array.getElem?_push]at e;rw[T8 n]at e;exact e
def XU{a b:Nat}(h:a<b\/b<a):(a:aC)≠b:=λe=>by
 have e':=e;omega
def Sq(b:Bool)(K:ak)(H:Hp)(l:aC)(xs:List V):Prop:=match b with
 |true=>SqL K H l xs
 |false=>SqT K H l xs
section
variable{X:Cx}{pq:List (aC×eG)}{σ:L2.St}{H:Hp}{s:ax}
def YQ(I:Inv X pq σ H s)(h:Sq b X.K H l xs):∃its:List au,Vals xs its/\YF b s.heap l its.toArray:=by
 cases b
 ·obtain⟨its,r,p,_⟩:=I.tuple h;exact⟨its,r,p⟩
 ·obtain⟨its,r,p,_⟩:=I.list h;exact⟨its,r,p.isList⟩
def xm(I:Inv X pq σ H s)(h:Sq b X.K H l xs)(h':Sq b X.K H l ys):xs=ys:=by
 cases b
 ·exact I.tuple_inj h h'
 ·exact I.list_inj h h'
def W7(x:YF b h l xs):l<h.objs.size:=by
 cases b
 ·obtain⟨o,ho,_⟩:=x;exact aJ ho
 ·obtain⟨o,ho,_⟩:=x;exact aJ ho
end
noncomputable def Itz(K:ak)(b1 b2:Bool)(l1 l2:aC):It:=
 ⟨λi H=>∃xs ys x y,Sq b1 K H l1 xs/\Sq b2 K H l2 ys/\xs[i]?=aa x/\ys[i]?=aa y,
  λi H v H'=>∃T x y,(∀xs,Sq b1 K H l1 xs->xs[i]?=aa x)/\(∀ys,Sq b2 K H l2 ys->ys[i]?=aa y)/\H T=af/\H'=upd H T (.tup [x,y])/\v=.ref T,
  λi H=>∃xs ys,Sq b1 K H l1 xs/\Sq b2 K H l2 ys/\(xs.length<=i\/ys.length<=i)⟩
def qb{P:bq}{w:bK}{K:ak}{elts:List Expr}{kk:Nat}{tp:eY}{b1 b2:Bool}{z TI TO i1 i2 l1 l2:aC}(D:mH z TI TO i1 i2 l1 l2) :
  Turn P w K (.Tuple elts kk tp) (Itz K b1 b2 l1 l2) [z,TI,TO,i1,i2] z (λi h=>ZipSt b1 b2 z TI TO i1 i2 l1 l2 i .none h) where
 mem:=by simp
 obj:=λi h st b hb=>by
  simp only[az,bE,or_false]at hb;obtain⟨a,c,hTO⟩:=st.to;rcases hb with e|e|e|e|e<;>subst e
  ·exact⟨_,st.zp,λv q=>by cases q⟩
  ·exact⟨_,st.ti,λv q=>by cases q⟩
  ·exact⟨_,hTO,λv q=>by cases q⟩
  ·exact st.s1.obj
  ·exact st.s2.obj
 keep:=λi h h' st k=>by
  obtain⟨a,c,hTO⟩:=st.to;exact⟨k z (by simp) _ st.zp,k TI (by simp) _ st.ti,⟨a,c,k TO (by simp) _ hTO⟩,st.s1.keep λo e=>k i1 (by simp) o e,st.s2.keep λo e=>k i2 (by simp) o e⟩
 item:=by
  intro X hP hw hK hc i pq s σ H E I hf st hg;subst hP hw hK;obtain⟨xs,ys,x,y,hq1,hq2,hx,hy⟩:=hg;obtain⟨its,rv,o1⟩:=YQ I hq1;obtain⟨its2,rv2,o2⟩:=YQ I hq2;obtain⟨u,hu,ru⟩:=rv.get hx;obtain⟨u2,hu2,ru2⟩:=rv2.get hy;refine yY D st o1 o2 (x:=u) (y:=u2) (by simpa using hu) (by simpa using hu2) λh' Z' hT hk=>?_
  have hfree:=I.hok.fresh (aI _);have ltz:∀b∈[z,TI,TO,i1,i2],b≠s.heap.objs.size:=λb hb e=>by
   simp only[az,bE,or_false]at hb;obtain⟨a,c,hTO⟩:=st.to;rcases hb with q|q|q|q|q<;>subst q
   ·exact T7 (aJ st.zp) (by rw[e];exact bH _)
   ·exact T7 (aJ st.ti) (by rw[e];exact bH _)
   ·exact T7 (aJ hTO) (by rw[e];exact bH _)
   ·obtain⟨o,ho,_⟩:=st.s1.obj;exact T7 (aJ ho) (by rw[e];exact bH _)
   ·obtain⟨o,ho,_⟩:=st.s2.obj;exact T7 (aJ ho) (by rw[e];exact bH _)
  have IA:Inv X pq σ (upd H s.heap.objs.size (.tup [x,y])) {s with heap:=s.heap.push {cls:=.type "tuple",data:=.seq [u,u2].toArray},toks:=s.toks}:=
   I.laid (λb o e=>aw _ e) (aI _) ⟨by show 2<=bi;decide,[u,u2],.cons ru (.cons ru2 .nil),iq _ _⟩
  have hf2:∀b∈[z,TI,TO,i1,i2],WT X pq (upd H s.heap.objs.size (.tup [x,y])) b:=λb hb=>⟨by rw[Zi (ltz b hb)];exact(hf b hb).1,(hf b hb).2⟩
  have IB:Inv X pq σ (upd H s.heap.objs.size (.tup [x,y])) {s with heap:=h',toks:=s.toks}:=by
   refine X6 (s:={s with heap:=s.heap.push {cls:=.type "tuple",data:=.seq [u,u2].toArray},toks:=s.toks}) (ch:=[z,TO,i1,i2]) IA (λb o hb e=>?_) λb hb=>hf2 b (by simp only[az,bE,or_false]at hb ⊢;rcases hb with q|q|q|q<;>simp[q])
   by_cases hbs:b=s.heap.objs.size
   ·subst hbs
    have e':=e;rw[aO _ rfl]at e';cases e';exact hT
   ·refine hk b o hb ?_
    have e':=e;have hlt:=aJ e';rw[eB]at hlt;exact Jc e' hbs
  refine⟨.ref s.heap.objs.size,rfl,wpAny_letOwnedTupleGo_zip Z'.zp λh2 hz2 hs2=>?_⟩
  have IC:Inv X pq σ (upd H s.heap.objs.size (.tup [x,y])) {s with heap:=h2,toks:=s.toks}:=X6 (s:={s with heap:=h',toks:=s.toks}) (ch:=[z]) IB (λb o hb e=>(hs2.2 b (by simpa using hb)).trans e) λb hb=>hf2 b (by simp only[aU]at hb;simp[hb])
  obtain⟨a,c,hTO⟩:=Z'.to;refine⟨.ref s.heap.objs.size,_,IC,rfl,⟨_,x,y,λzs hz=>by rw[xm I hz hq1];exact hx,λzs hz=>by rw[xm I hz hq2];exact hy,hfree,rfl,rfl⟩,?_,λb hb=>(hf2 b hb).1⟩
  exact⟨hz2,hs2.extBut _ _ D.TIz Z'.ti,⟨a,c,hs2.extBut _ _ D.TOz hTO⟩,Z'.s1.ext hs2.extBut D.i1z,Z'.s2.ext hs2.extBut D.i2z⟩
 done:=by
  intro X hP hw hK hc i pq s σ H E I hf st hg;subst hP hw hK;obtain⟨xs,ys,hq1,hq2,hend⟩:=hg;obtain⟨its,rv,o1⟩:=YQ I hq1;obtain⟨its2,rv2,o2⟩:=YQ I hq2;have e1:=rv.length;have e2:=rv2.length;refine Qc (I.ok.hd hc) D st o1 o2 (by rcases hend with q|q;exact .inl (by simp;omega);exact .inr (by simp;omega)) λh' hk=>⟨rfl,X6 (t':=s.toks) (ch:=[z,TO,i1,i2]) I (λb o hb e=>hk b o hb e) λb hb=>hf b (by simp only[az,bE,or_false]at hb ⊢;rcases hb with q|q|q|q<;>simp[q])⟩
 self:=λ_ _ _ _ _ st h=>wpAny_pyIter_zip st.zp h
section
variable{X:Cx}{elts:List Expr}{kk:Nat}{tp:eY}
def Zfq(K:ak)(ta:TA):TI:=λσ H R=>ta σ H λvs H1=>∃b1 b2 l1 l2,vs=[.ref l1,.ref l2]/\(∃xs,Sq b1 K H1 l1 xs)/\(∃ys,Sq b2 K H1 l2 ys)/\R (Itz K b1 b2 l1 l2) H1
def ZdF{a b:Expr}{ta:TA}{p pos:eY}(hg:Gl X "zip")(hm:X.mg "zip" = af)(ha:PA X [a,b] ta)(hs:aE [a,b] X.env=[(al,cR a X.env),(al,cR b X.env)]:=by rfl)(hs2:aE [b] X.env=[(al,cR b X.env)]:=by rfl) :
  PI X (.Tuple elts kk tp) (.Call (.Name "zip" p) [a,b] [] pos) (Zfq X.K ta):=by
 intro pq s σ H R I h;refine Call_ (Vk I hg hm (by rfl) (d5 (thn (ha pos pq s σ H _ I h) λus s1 ⟨vs,H1,I1,r1,q1⟩=>?_) (by rw[hs,hs2]) (by rw[hs2];rfl)))
 obtain⟨b1,b2,l1,l2,e,⟨xs,hq1⟩,⟨ys,hq2⟩,q⟩:=q1;subst e;cases r1 with
 |cons r rr=>
  cases rr with
  |cons r' rr=>
   cases rr;cases r;cases r';obtain⟨its,rv,o1⟩:=YQ I1 hq1;obtain⟨its2,rv2,o2⟩:=YQ I1 hq2;have lt1:=W7 o1;have lt2:=W7 o2;refine qk o1 o2 λh' n hn Z hk=>?_
   have I2:=I1.kept (t':=s1.toks) hk
   have q1:(l1:Nat)<n:=by rw[hn];exact lt1
   have q2:(l2:Nat)<n:=by rw[hn];exact lt2
   have D:mH (n+4) (n+2) (n+3) n (n+1) l1 l2:=by constructor<;>first|exact XU (by omega)|exact XU (.inl (bu q1 (fg n _)))|exact XU (.inl (bu q2 (fg n _)))|exact XU (.inl q1)|exact XU (.inl q2)
   refine wpAny_pyIter_zip Z.zp ⟨n+4,[n+4,n+2,n+3,n,n+1],_,_,H1,rfl,I2,qb D,Z,λb hb=>?_,q⟩
   have hbn:s1.heap.objs.size<=b:=by
    rw[<-hn];simp only[az,bE,or_false]at hb;rcases hb with e|e|e|e|e<;>rw[e]
    ·exact fg n 4
    ·exact fg n 2
    ·exact fg n 3
    ·exact aI n
    ·exact fg n 1
   exact I1.fpOk hbn (I1.hok.fresh hbn)
end
def Side(K:ak)(ρ:Mx)(H:Hp)(wk:List D)(b:Bool)(l:aC):Prop:=∀ρ' H',Lat ρ H ρ' H'->∃vs,Sq b K H' l vs/\Rq ρ' H' wk vs
def Js{K:ak}{ρ:Mx}{H:Hp}{x:D}{v:V}{wk:List D}(hk:ρ.K=K)(r:Rep ρ H x v)(h:Pv.Yy x=aa wk):∃b l,v=.ref l/\(∃xs,Sq b K H l xs)/\Side K ρ H wk b l:=by
 cases x with
 |tup ds=>
  obtain⟨a,xs,rfl,hp,rs⟩:=r.tup';cases h;exact⟨al,a,rfl,⟨xs,SqT.of hp⟩,λρ' H' f=>⟨xs,SqT.of (f.keep a _ hp λ_ z=>by cases z),rs.lat f⟩⟩
 |lst ds=>
  obtain⟨a,xs,rfl,hp,hx,rs⟩:=r.lst';cases h;exact⟨aj,a,rfl,⟨xs,SqL.of hp⟩,λρ' H' f=>⟨xs,SqL.of (f.keep a _ hp λ_ _=>hx),rs.lat f⟩⟩
 |scr ns=>
  obtain⟨a,rfl,hp⟩:=r.scr';cases h;rw[hk]at hp;refine⟨aj,a,rfl,⟨_,hp.sq⟩,λρ' H' f=>⟨_,?_,Rq.ints ns⟩⟩
  rcases hp with⟨o,hp⟩|hp
  ·exact .inl (.inr ⟨o,f.keep a _ hp λ_ z=>by cases z⟩)
  ·exact .inr hp
 |_=>exact Ev.nos h
def jd{K:ak}{ρ:Mx}{H:Hp}{v w:List D}{b1 b2:Bool}{l1 l2:aC}(h1:Side K ρ H v b1 l1)(h2:Side K ρ H w b2 l2):WRel K ρ H ((v.zip w).map λp=>.tup [p.1,p.2]) (Itz K b1 b2 l1 l2) where
 go:=λi ρ' S' H' f st hi=>by
  obtain⟨xs,q1,r1⟩:=h1 ρ' H' f;obtain⟨ys,q2,r2⟩:=h2 ρ' H' f;have hi':i<rn v.length w.length:=by simpa using hi
  obtain⟨x,g1,rx⟩:=r1.get (ai (show i<v.length by omega))
  obtain⟨y,g2,ry⟩:=r2.get (ai (show i<w.length by omega))
  refine⟨⟨xs,ys,x,y,q1,q2,g1,g2⟩,λu H'' ⟨T,x',y',e1,e2,hT,eH,eu⟩=>?_⟩
  subst eH eu;have ex:=(e1 xs q1).symm.trans g1;have ey:=(e2 ys q2).symm.trans g2;cases ex;cases ey;refine⟨Zs hT,st.fresh hT,λd hd=>?_⟩
  have hz:(v.zip w)[i]?=aa (v[i],w[i]):=gu.mpr ⟨ai (by omega),ai (by omega)⟩
  rw[aR,hz]at hd;cases hd;exact Y3 Zk (Rq.cons (rx.mono (Zs hT)) (Rq.cons (ry.mono (Zs hT)) Rq.nil))
 stop:=λρ' S' H' f st=>by
  obtain⟨xs,q1,r1⟩:=h1 ρ' H' f;obtain⟨ys,q2,r2⟩:=h2 ρ' H' f;refine⟨xs,ys,q1,q2,?_⟩;show xs.length<=((v.zip w).map λp=>Pv.V.tup [p.1,p.2]).length\/_
  rw[r1.length,r2.length,aB,fF];omega
section
variable{X:Cx}{xw:Nat->Hp->Prop}{C:Calls}{a b:Expr}{i j:E}{pos p tp:eY}{elts:List Expr}{kk:Nat}
def y9(hm:X.mg "zip" = af)(ha:CA X xw C [a,b] [i,j])(hg:Gl X "zip":=by rfl)(hs:aE [a,b] X.env=[(al,cR a X.env),(al,cR b X.env)]:=by rfl)(hs2:aE [b] X.env=[(al,cR b X.env)]:=by rfl) :
  CW X xw C (.Tuple elts kk tp) (.Call (.Name "zip" p) [a,b] [] pos) (.zip i j):=
 PI.imp (ZdF hg hm ha hs hs2) λσ H Q ⟨ρ,l,S,st,lr,h⟩=>ZeI st lr h λx y S1 ρ1 H1 v u st1 rv ru h1=>by
  cases e1:Pv.Yy x with
  |none=>rw[e1]at h1;exact False.elim h1
  |some v1=>
   cases e2:Pv.Yy y with
   |none=>rw[e1,e2]at h1;exact False.elim h1
   |some v2=>
    rw[e1,e2]at h1;obtain⟨b1,l1,rfl,s1,d1⟩:=Js st1.hk rv e1;obtain⟨b2,l2,rfl,s2,d2⟩:=Js st1.hk ru e2;exact⟨b1,b2,l1,l2,rfl,s1,s2,End.ok h1 st1 (jd d1 d2)⟩
end
def Q0(hh:A.handled=af)(b:Bool)(it l:aC)(hne:l≠it)(xs:Array au) :
  Draws prog w A it [it,l] xs.size (λi v=>xs[i]?=aa v) (λi h=>Src b h it l i/\YF b h l xs) where
 live:=λ_ _ st=>let ⟨o,ho,_⟩:=st.1.obj;⟨o,ho⟩
 frame:=λ_ _ _ st hk=>⟨st.1.keep λo e=>hk it (by simp) o e,st.2.keep λo e=>hk l (by simp) o e⟩
 item:=λi s Q E hi st hQ=>Vf st.1 st.2 (bG hi) λh' hit' hs'=>hQ _ h' s.toks (bG hi) ⟨hit',st.2.keep λo e=>hs'.extBut _ o hne e⟩ hs'
 done:=λs Q E st hE=>Jy hh st.1 st.2 (lT (aI _)) hE
noncomputable def Ite(K:ak)(b:Bool)(l:aC):It:=
 ⟨λi H=>∃xs x,Sq b K H l xs/\xs[i]?=aa x,
  λi H v H'=>∃T x,(∀xs,Sq b K H l xs->xs[i]?=aa x)/\H T=af/\H'=upd H T (.tup [.int i,x])/\v=.ref T,
  λi H=>∃xs,Sq b K H l xs/\xs.length=i⟩
def vD{P:bq}{w:bK}{K:ak}{elts:List Expr}{kk:Nat}{tp:eY}{b:Bool}{e it l:aC}(hei:e≠it)(hle:l≠e)(hli:l≠it) :
  Turn P w K (.Tuple elts kk tp) (Ite K b l) [e,it] e (λi h=>(∃old,IsEnum h e it i old)/\Src b h it l i) where
 mem:=by simp
 obj:=λi h st c hc=>by
  simp only[az,bE,or_false]at hc;obtain⟨⟨old,he⟩,hs⟩:=st;rcases hc with q|q<;>subst q
  ·exact⟨_,he,λv q=>by cases q⟩
  ·exact hs.obj
 keep:=λi h h' st k=>by
  obtain⟨⟨old,he⟩,hs⟩:=st;exact⟨⟨old,k e (by simp) _ he⟩,hs.keep λo q=>k it (by simp) o q⟩
 item:=by
  intro X hP hw hK hc i pq s σ H E I hf st hg;subst hP hw hK;obtain⟨xs,x,hq,hx⟩:=hg;obtain⟨its,rv,o1⟩:=YQ I hq;obtain⟨⟨old,he⟩,hs⟩:=st;obtain⟨u,hu,ru⟩:=rv.get hx;have hlt:i<its.toArray.size:=by
   have:=(aG.mp hu).1
   simpa using this
  have hh:X.A.in1.handled=af:=I.ok.hd hc;refine wpAny_pyNext_enum_itemD (Q0 hh b it l hli its.toArray) he ⟨hs,o1⟩ hlt hei (by simp only[az,bE,or_false,not_or];exact⟨hei,Ne.symm hle⟩) λx' h' tk hP ho hst hT hsz hk=>?_
  have ex:x'=u:=by
   have:its.toArray[i]?=aa u:=by simpa using hu
   rw[this]at hP;exact(am hP).symm
  subst ex;have hfree:=I.hok.fresh (aI _);have ltz:∀c∈[e,it],c≠s.heap.objs.size:=λc hc q=>by
   simp only[az,bE,or_false]at hc;rcases hc with z|z<;>subst z
   ·exact T7 (aJ he) (by rw[q];exact bH _)
   ·obtain⟨o,ho,_⟩:=hs.obj;exact T7 (aJ ho) (by rw[q];exact bH _)
  have IA:Inv X pq σ (upd H s.heap.objs.size (.tup [.int i,x])) {s with heap:=s.heap.push {cls:=.type "tuple",data:=.seq [.int i tk,x'].toArray},toks:=tk+1}:=
   I.laid (λc o q=>aw _ q) (aI _) ⟨by show 2<=bi;decide,[.int i tk,x'],.cons ⟨tk,rfl⟩ (.cons ru .nil),iq _ _⟩
  have hf2:∀c∈[e,it],WT X pq (upd H s.heap.objs.size (.tup [.int i,x])) c:=λc hc=>⟨by rw[Zi (ltz c hc)];exact(hf c hc).1,(hf c hc).2⟩
  have IB:Inv X pq σ (upd H s.heap.objs.size (.tup [.int i,x])) {s with heap:=h',toks:=tk+1}:=by
   refine X6 (s:={s with heap:=s.heap.push {cls:=.type "tuple",data:=.seq [.int i tk,x'].toArray},toks:=tk+1}) (ch:=[e,it]) IA (λc o hc q=>?_) hf2
   by_cases hcs:c=s.heap.objs.size
   ·subst hcs
    have q':=q;rw[aO _ rfl]at q';cases q';exact hT
   ·simp only[az,bE,or_false,not_or]at hc
    exact hk c o hc.1 hc.2 (Jc q hcs)
  refine⟨.ref s.heap.objs.size,rfl,wpAny_letOwnedTupleGo_enum ho λh2 he2 hs2=>?_⟩
  have IC:Inv X pq σ (upd H s.heap.objs.size (.tup [.int i,x])) {s with heap:=h2,toks:=tk+1}:=X6 (s:={s with heap:=h',toks:=tk+1}) (ch:=[e]) IB (λc o hc q=>(hs2.2 c (by simpa using hc)).trans q) λc hc=>hf2 c (by simp only[aU]at hc;simp[hc])
  refine⟨.ref s.heap.objs.size,_,IC,rfl,⟨_,x,λzs hz=>by rw[xm I hz hq];exact hx,hfree,rfl,rfl⟩,⟨⟨x',by simpa using he2⟩,hst.1.ext hs2.extBut (Ne.symm hei)⟩,λc hc=>(hf2 c hc).1⟩
 done:=by
  intro X hP hw hK hc i pq s σ H E I hf st hg;subst hP hw hK;obtain⟨xs,hq,hend⟩:=hg;obtain⟨its,rv,o1⟩:=YQ I hq;obtain⟨⟨old,he⟩,hs⟩:=st;have e1:=rv.length;have hh:X.A.in1.handled=af:=I.ok.hd hc;have en:i=its.toArray.size:=by simp;lia
  subst en;exact wpAny_pyNext_enum_endD (Q0 hh b it l hli its.toArray) he ⟨hs,o1⟩ λh' hx=>⟨rfl,X6 (t':=s.toks) (ch:=[e,it]) I (λc o hc q=>hx c o (λz=>hc (by simp[z])) q) hf⟩
 self:=λ_ _ _ _ _ st h=>by
  obtain⟨⟨old,he⟩,_⟩:=st;exact on he h
section
variable{prog:bq}{w:bK}{A:bQ}{E:au->ax->Prop}{s:ax}
def jX(l:aC)(items:Array au)(n:Nat)(dct:Option aC)(sl:Array (Option au)) :
  pP (eD.«enumerate.__new__» ⟨[.type "enumerate",.ref l],[]⟩) (λ_ R s=>s.heap.get? l=aa {cls:=.type "tuple",dict:=dct,data:=.seq items n,slots:=sl}/\
   R (.ok (.ret (.ref (s.heap.push (Yu al l)).objs.size))) {s with heap:=(s.heap.push (Yu al l)).push {cls:=.type "enumerate",data:=.fields #[.none,.bool al,.ref s.heap.objs.size,gA 0,.none,.none]}}):=
 .of_wp λprog w A R s h=>by
  obtain⟨hp,g,d,tk,os⟩:=s;obtain⟨hl,h⟩:=h;have hsub:=sub_enumerate;have hL:bX.IsTuple (ax.heap ⟨hp,g,d,tk,os⟩) l items:=⟨_,hl,rfl,n,rfl⟩
  wp_walk using gE hl;refine wpAny_stack_any λst=>aA ?_;split
  ·rename_i c _ _ _ _ _;cases(c == au.type "enumerate")<;>(wp_walk using gE hl,gO hL;exact⟨_,rfl,h⟩)
  ·wp_walk using gE hl,gO hL;exact⟨_,rfl,h⟩
def vI{Q:au->ax->Prop}(hL:YF b s.heap l xs)
  (h:∀h' n,n=s.heap.objs.size->IsEnum h' (n+1) n 0 .none->Src b h' n l 0->(∀c o,s.heap.get? c=aa o->h'.get? c=aa o)->Q (.ref (n+1)) {s with heap:=h' }):bc (aS prog w) A (call (.type "enumerate") [.ref l]) Q E s:=by
 cases b with
 |true=>exact call_enumerate_list hL λh' a1 a2 _ a4=>h h' _ rfl a1 a2 a4
 |false=>
  obtain⟨⟨c,dct,dt,sl⟩,hl,hc,n,hd⟩:=hL;simp only at hc hd;subst hc hd;refine callType_new F.called_enumerate (by decide) (F.typeCall_enumerate_1 _) (F.newCall_enumerate_1 _) (λobj=>F.args_object_init_2 obj _) F.entry_enumerate_new (jX l xs n dct sl) ⟨hl,?_⟩
  have hz:(s.heap.push (Yu al l)).objs.size=s.heap.objs.size+1:=eB ..;have g2:=aO (s.heap.push (Yu al l)) (o:={cls:=.type "enumerate",data:=.fields #[.none,.bool al,.ref s.heap.objs.size,gA 0,.none,.none]}) rfl;have g1:((s.heap.push (Yu al l)).push {cls:=.type "enumerate",data:=.fields #[.none,.bool al,.ref s.heap.objs.size,gA 0,.none,.none]}).get? s.heap.objs.size=aa (Yu al l):=aw _ (aO _ rfl);rw[hz]at g2 ⊢;exact⟨⟨_,g2,rfl⟩,h _ _ rfl g2 ⟨_,g1,rfl,rfl⟩ λc o q=>aw _ (aw _ q)⟩
end
section
variable{X:Cx}{elts:List Expr}{kk:Nat}{tp:eY}
def Zex(K:ak)(ta:TA):TI:=λσ H R=>ta σ H λvs H1=>∃b l,vs=[.ref l]/\(∃xs,Sq b K H1 l xs)/\R (Ite K b l) H1
def Za7{a:Expr}{ta:TA}{p pos:eY}(hg:Gl X "enumerate")(hm:X.mg "enumerate" = af)(ha:PA X [a] ta)(hs:aE [a] X.env=[(al,cR a X.env)]:=by rfl):PI X (.Tuple elts kk tp) (.Call (.Name "enumerate" p) [a] [] pos) (Zex X.K ta):=by
 intro pq s σ H R I h;refine Call_ (Vk I hg hm (by rfl) (d5 (thn (ha pos pq s σ H _ I h) λus s1 ⟨vs,H1,I1,r1,q1⟩=>?_) hs rfl))
 obtain⟨b,l,e,⟨xs,hq⟩,q⟩:=q1;subst e;cases r1 with
 |cons r rr=>
  cases rr;cases r;obtain⟨its,rv,o1⟩:=YQ I1 hq;have lt1:=W7 o1;refine vI o1 λh' n hn he hs' hk=>?_
  have I2:=I1.kept (t':=s1.toks) hk
  have q1:(l:Nat)<n:=by rw[hn];exact lt1
  refine on he ⟨n+1,[n+1,n],_,_,H1,rfl,I2,vD (XU (.inr (lD n))) (XU (.inl (eR q1))) (XU (.inl q1)),⟨⟨_,he⟩,hs'⟩,λc hc=>?_,q⟩
  have hbn:s1.heap.objs.size<=c:=by
   rw[<-hn];simp only[az,bE,or_false]at hc;rcases hc with e|e<;>rw[e]
   ·exact kZ n
   ·exact aI n
  exact I1.fpOk hbn (I1.hok.fresh hbn)
end
def qU{lo:Int}{n i:Nat}(h:i<n):(Pv.Yg lo n)[i]?=aa (.int (lo+i)):=by
 unfold Pv.Yg;rw[aR,dE h];rfl
def vY{K:ak}{ρ:Mx}{H:Hp}{w:List D}{b:Bool}{l:aC}(h1:Side K ρ H w b l):WRel K ρ H (((Pv.Yg 0 w.length).zip w).map λp=>.tup [p.1,p.2]) (Ite K b l) where
 go:=λi ρ' S' H' f st hi=>by
  obtain⟨xs,q1,r1⟩:=h1 ρ' H' f;have hi':i<w.length:=by
   rw[aB,fF,Q8]at hi;lia
  obtain⟨x,g1,rx⟩:=r1.get (ai hi');refine⟨⟨xs,x,q1,g1⟩,λu H'' ⟨T,x',e1,hT,eH,eu⟩=>?_⟩
  subst eH eu;have ex:=(e1 xs q1).symm.trans g1;cases ex;refine⟨Zs hT,st.fresh hT,λd hd=>?_⟩
  have hz:((Pv.Yg 0 w.length).zip w)[i]?=aa (.int (0+i),w[i]):=gu.mpr ⟨qU hi',ai hi'⟩;rw[aR,hz]at hd;cases hd;refine Y3 Zk (Rq.cons ?_ (Rq.cons (rx.mono (Zs hT)) Rq.nil));rw[show((0:Int)+i)=i by lia]
  exact ZT _
 stop:=λρ' S' H' f st=>by
  obtain⟨xs,q1,r1⟩:=h1 ρ' H' f;refine⟨xs,q1,?_⟩;show xs.length=(((Pv.Yg 0 w.length).zip w).map λp=>Pv.V.tup [p.1,p.2]).length
  rw[aB,fF,Q8,r1.length];lia
section
variable{X:Cx}{xw:Nat->Hp->Prop}{C:Calls}{a b:Expr}{i j:E}{pos p tp:eY}{elts:List Expr}{kk:Nat}
def Gu(hm:X.mg "enumerate" = af)(ha:CA X xw C [a] [i])(hg:Gl X "enumerate":=by rfl)(hs:aE [a] X.env=[(al,cR a X.env)]:=by rfl) :
  CW X xw C (.Tuple elts kk tp) (.Call (.Name "enumerate" p) [a] [] pos) (.enum i):=
 PI.imp (Za7 hg hm ha hs) λσ H Q ⟨ρ,l,S,st,lr,h⟩=>Zcn st lr h λx S1 ρ1 H1 v st1 r h1=>by
  cases e1:Pv.Yy x with
  |none=>rw[e1]at h1;exact False.elim h1
  |some wk=>
   rw[e1]at h1;obtain⟨b1,l1,rfl,s1,d1⟩:=Js st1.hk r e1;exact⟨b1,l1,rfl,s1,End.ok h1 st1 (vY d1)⟩
end
def Vt(hh:A.handled=af)(b:Bool)(it l:aC)(hne:l≠it)(xs:Array au) :
  Walks prog w A it [it,l] [it] xs.size (λi v=>xs[i]?=aa v) (λi h=>Src b h it l i/\YF b h l xs):=by
 cases b
 ·exact Walks.tuple hh it l hne xs
 ·exact Walks.list hh it l hne xs
def Jx{b:Bool}{h:bX}{l:aC}:Src b (h.push (Yu b l)) h.objs.size l 0:=by
 cases b
 ·exact⟨_,aO _ rfl,rfl,rfl⟩
 ·exact⟨_,aO _ rfl,rfl,rfl⟩
def Zeq{K:ak}{H:Hp}{p:aC}{xs:List V}(h:SqL K H p xs\/SqT K H p xs):∃b,Sq b K H p xs:=by
 rcases h with h|h
 ·exact⟨aj,h⟩
 ·exact⟨al,h⟩
section
variable{X:Cx}{xw:Nat->Hp->Prop}{C:Calls}{e a b c:Expr}{i j k:E}{pos p p' p2:eY}
def uG(hc:X.calm=aj):Zz X (.builtin "any") (λvs H Q=>∃ρ ds x v bs,ρ.K=X.K/\vs=[v]/\Rep ρ H x v/\Pv.Yy x=aa ds/\Pv.ZZ ds=aa bs/\Q (.bl (bs.any id)) H):=by
 intro pq s σ H vs us Q I r h;obtain⟨ρ,ds,x,v,bs,hk,rfl,r1,hl,hb,q⟩:=h;obtain⟨l,xs,rfl,hsq,rx⟩:=r1.seq hl;rw[hk]at hsq;obtain⟨kb,hq⟩:=Zeq hsq;obtain⟨u,rfl,ru⟩:=XR r;cases ru;obtain⟨its,rv,o1⟩:=YQ I hq;obtain⟨lb,tb⟩:=Wo hb;have hlt:=W7 o1;have hlen:its.toArray.size=bs.length:=by rw[ay,<-rv.length,rx.length,lb]
 refine call_any_walk (WU o1 ⟨s.heap.objs.size,[s.heap.objs.size,l],[s.heap.objs.size],its.toArray.size,_,_,λj=>bs.getD j al,rfl,Vt (A:=X.A.in1) (I.ok.hd hc) kb s.heap.objs.size l (br hlt) its.toArray,⟨Jx,o1.keep λo q=>aw _ q⟩,?_,?_⟩)
 ·intro j v s' Q' E' hv hQ'
  have hj:its[j]?=aa v:=by simpa using hv
  have jl:j<ds.length:=by
   have:=(aG.mp hj).1;rw[<-rv.length,rx.length]at this;exact this
  obtain⟨w',g,r'⟩:=rx.get (ai jl);obtain⟨u',g',ru'⟩:=rv.get g;rw[hj]at g';cases g';exact WY r' ru' (tb j _ (ai jl)) s' Q' E' hQ'
 ·intro h' tk hk
  rw[hlen,ug];exact⟨.bl (bs.any id),H,I.kept (t':=tk) λb o e=>hk b o (λhm=>by
   have:b=s.heap.objs.size:=by simpa using hm
   exact T7 (this▸aJ e) (bH _)) (aw _ e),rfl,q⟩
def wJ(hc:X.calm=aj):Zz X (.builtin "any") (VX X.K xw .any):=Zz.imp (uG hc) λvs H Q ⟨ρ,S,ds,st,r,h⟩=>by
 obtain⟨d,v,z,rfl,r1,hz,h⟩:=WQ h r;obtain⟨xs,hx,hz⟩:=b9.mp hz;obtain⟨bs,hb,rfl⟩:=cp.mp hz;exact⟨ρ,xs,d,v,bs,st.hk,rfl,r1,hx,hb,End.ok h st (Z9 _)⟩
theorem UV :∀{ds:List D}{is:List Int}{xs:List V},Pv.intsV ds=aa is->Rq ρ H ds xs->xs=is.map V.int
 |[],is,xs,h,r=>by cases h;rw[r];rfl
 |d::ds,is,xs,h,r=>by
  obtain⟨v,vs,rfl,a1,b1⟩:=r;obtain⟨n,r,rfl,e,rfl⟩:=VE h;rw[a1.int',UV e b1];rfl
def Uy(f:Nat->Int)(n:Nat):oP f (n+1)=oP f n+f n:=rfl
theorem zb:∀(is:List Int),oP (λj=>is.getD j 0) is.length=is.sum:=by
 have gen:∀(is:List Int)(n:Nat),n<=is.length->oP (λj=>is.getD j 0) n=(is.take n).sum:=by
  intro is n
  induction n with
  |zero=>intro _;rfl
  |succ n ih=>
   intro h;rw[Uy,ih (by lia),k7,List.sum_append]
   have:is[n]?=aa is[n]:=ai (by lia)
   simp[this]
 intro is;rw[gen is is.length (aI _),gn]
theorem WB(h:∀j,-M<=f j/\f j<=M)(hM:0<=M):∀n:Nat,-(M*n)<=oP f n/\oP f n<=M*n
 |0=>by rw[show oP f 0=0 from rfl];simp
 |n+1=>by
  obtain⟨a,b⟩:=WB h hM n;obtain⟨c,d⟩:=h n;rw[Uy];have:M*((n+1:Nat):Int)=M*n+M:=by rw[pf,Int.mul_add];simp
  rw[this];lia
theorem uo(hc:X.calm=aj):Zz X (.builtin "sum") (λvs H Q=>∃ρ ds v is,vs=[v]/\Rep ρ H (.lst ds) v/\Pv.intsV ds=aa is/\Ev.qX is=aj/\Q (.int is.sum) H):=by
 intro pq s σ H vs us Q I r h;obtain⟨ρ,ds,v,is,rfl,r1,hb,hok,q⟩:=h;obtain⟨l,xs,rfl,hx,_,rx⟩:=r1.lst';obtain⟨u,rfl,ru⟩:=XR r;cases ru;have hq:Sq aj X.K H l xs:=SqL.of hx;obtain⟨its,rv,o1⟩:=YQ I hq;have hlt:=W7 o1;have ex:=UV hb rx;subst ex;have hlen:its.toArray.size=is.length:=by rw[ay,<-rv.length,aB]
 obtain⟨k1,k2⟩:=(aD _ _).mp hok;have k1':=T6 k1;have bd:∀j,-1099511627776<=is.getD j 0/\is.getD j 0<=1099511627776:=λj=>by
  cases e:is[j]? with
  |none=>rw[aF,e];simp
  |some y=>
   have:=T6 (bf.mp k2 y (cN e));rw[aF,e];exact this
 refine call_sum_walk (WU o1 ⟨s.heap.objs.size,[s.heap.objs.size,l],[s.heap.objs.size],its.toArray.size,_,_,λj=>is.getD j 0,rfl,Vt (A:=X.A.in1) (I.ok.hd hc) aj s.heap.objs.size l (br hlt) its.toArray,⟨Jx,o1.keep λo q=>aw _ q⟩,λb hb=>?_,λj v hv=>?_,λj hj=>?_,?_⟩)
 ·rw[eB]
  simp only[az,bE,or_false]at hb;rcases hb with q|q<;>rw[q]
  ·exact lD _
  ·exact eR hlt
 ·have hj:its[j]?=aa v:=by simpa using hv
  have jl:j<is.length:=by
   have:=(aG.mp hj).1;rw[<-rv.length,aB]at this;exact this
  obtain⟨u',g',ru'⟩:=rv.get (by rw[aR,ai jl];rfl)
  rw[hj]at g';cases g';obtain⟨t,e⟩:=ru';exact⟨t,by rw[e];show lu is[j] t=lu (is.getD j 0) t;rw[aF,ai jl];rfl⟩
 ·have b1:=bd j
  have b2:=WB bd (by lia) (j+1)
  have jl:j+1<=1000:=by lia
  have b3:(1099511627776:Int)*((j+1:Nat):Int)<=1099511627776*1000:=Int.mul_le_mul_of_nonneg_left (by lia) (by lia)
  refine⟨show InLong (is.getD j 0)from ?_,?_⟩<;>(unfold InLong;lia)
 ·intro h' tk t' hk
  rw[hlen,zb];exact⟨.int is.sum,H,I.kept (t':=tk) λb o e=>hk b o (λhm=>by
   have:b=s.heap.objs.size:=by simpa using hm
   exact T7 (this▸aJ e) (bH _)) (aw _ e),⟨t',rfl⟩,q⟩
def wg(hc:X.calm=aj):Zz X (.builtin "sum") (VX X.K xw .sum):=Zz.imp (uo hc) λvs H Q ⟨ρ,S,ds,st,r,h⟩=>by
 obtain⟨d,v,z,rfl,r1,hz,h⟩:=WQ h r;cases d with
 |lst ds=>
  obtain⟨is,hb,hz⟩:=b9.mp hz;split at hz
  ·cases hz;exact⟨ρ,ds,v,is,rfl,r1,hb,‹_›,End.ok h st (ZT _)⟩
  ·cases hz
 |_=>exact Ev.nos hz
end
end Sd
namespace Tq
open PySem PyProof.Rows
noncomputable def Yl:Bool->bW->Array bW->Nat->Nat->Nat->StateT bR nL (Option Nat):=sortPriv% PySem.Builtin.gallop
def xo(lf:Bool)(k:bW)(ar:Array bW)(bs n hn:Nat):Yl lf k ar bs n hn=(do
 let bd (i:Nat):StateT bR nL (Option Bool):=do
  let x <-gv ar (bs+i)
  if lf then lt' x k else return (<-lt' k x).map (!·)
 let mut la:=0
 let mut of:=1
 let mut lo:=0
 let mut hi:=0
 let aa rt <-bd hn|return af
 if rt then
  let mx:=n-hn
  for _ in [0:n] do
   if of>=mx then break
   let aa mo <-bd (hn+of)|return af
   if !mo then break
   la:=of
   of:=2*of+1
  lo:=hn+la+1
  hi:=hn+rn of mx
 else
  let mx:=hn+1
  for _ in [0:n] do
   if of>=mx then break
   let aa fo <-bd (hn-of)|return af
   if fo then break
   la:=of
   of:=2*of+1
  lo:=hn+1-rn of mx
  hi:=hn-la
 for _ in [0:n] do
  if lo>=hi then break
  let m:=lo+(hi-lo) / 2
  let aa mo <-bd m|return af
  if mo then lo:=m+1 else hi:=m
 return aa hi):=rfl
section
variable{prog:bq}{w:bK}{A:bQ}{E:au->ax->Prop}{s:ax}
noncomputable abbrev BT:=Option (Option Nat)×Nat×Nat
def ZaA{F:Nat->BT->StateT bR nL (ForInStep BT)}{n:Nat}{τ:bR}{B:Nat->Bool}{Q:BT->bR->Prop}
  (hF:∀i lo hi (Q:ForInStep BT->bR->Prop),hi<=n->(lo>=hi->Q (.done (af,lo,hi)) τ)->(lo<hi->Q (.yield (af,if B (lo+(hi-lo) / 2)=aj then(lo+(hi-lo) / 2+1,hi)else(lo,lo+(hi-lo) / 2))) τ)->mr (aS prog w) A E s (F i (af,lo,hi)) Q τ)
  (mono:∀i j,i<=j->j<n->B j=aj->B i=aj)(hq:∀r,r<=n->(∀i,i<n->(B i=aj↔i<r))->Q (af,r,r) τ){lo hi:Nat}(h1:lo<=hi)(h2:hi<=n)(h3:∀i,i<lo->B i=aj)(h4:∀i,hi<=i->i<n->B i=al) :
  mr (aS prog w) A E s (ng [0:n] ((af,lo,hi):BT) F) Q τ:=by
 have fin:∀lo,lo<=n->(∀i,i<lo->B i=aj)->(∀i,lo<=i->i<n->B i=al)->Q (af,lo,lo) τ:=λlo a2 a4 a5=>hq _ a2 λi hi=>by
  refine⟨λhB=>?_,a4 i⟩
  by_cases c:i<lo
  ·exact c
  ·rw[a5 i (by omega) hi]at hB;cases hB
 refine cH
  (I:=λi c st'=>st'=τ/\c.1=af/\c.2.1<=c.2.2/\c.2.2<=n/\c.2.2-c.2.1+i<=n/\(∀i,i<c.2.1->B i=aj)/\∀i,c.2.2<=i->i<n->B i=al) ?_ ?_ ⟨rfl,rfl,h1,h2,by dsimp only;omega,h3,h4⟩
 ·rintro i ⟨r,lo,hi⟩ st' hi0 hin ⟨rfl,rfl,a1,a2,a3,a4,a5⟩
  dsimp only at a1 a2 a3 a4 a5 ⊢
  refine hF i lo hi _ a2 (λc=>?_) λc=>?_
  ·have e:lo=hi:=by omega
   subst e;exact fin lo a2 a4 a5
  ·cases hm:B (lo+(hi-lo) / 2)with
   |true=>
    simp only[if_true];exact⟨trivial,trivial,by omega,a2,by omega,λj hj=>mono j _ (by omega) (by omega) hm,a5⟩
   |false=>
    simp only[cE,if_false];refine⟨trivial,trivial,by omega,by omega,by omega,a4,λj hj hn=>?_⟩
    cases hj2:B j with|false=>rfl|true=>rw[mono _ j hj hn hj2]at hm;cases hm
 ·rintro ⟨r,lo,hi⟩ st' ⟨rfl,rfl,a1,a2,a3,a4,a5⟩
  dsimp only at a1 a2 a3 a4 a5 ⊢
  have e:lo=hi:=by omega
  subst e;exact fin lo a2 a4 a5
def Zed{lf:Bool}{k:bW}{ar:Array bW}{bs n hn:Nat}{τ:bR}{B:Nat->Bool}{Q:Option Nat->bR->Prop}(hh:hn<n)
  (hb:∀i,i<n->∀Q:Option Bool->bR->Prop,Q (aa (B i)) τ->mr (aS prog w) A E s (do
   let x <-gv ar (bs+i)
   if lf then lt' x k else return (<-lt' k x).map (!·)) Q τ)
  (mono:∀i j,i<=j->j<n->B j=aj->B i=aj)(hq:∀r,r<=n->(∀i,i<n->(B i=aj↔i<r))->Q (aa r) τ):mr (aS prog w) A E s (Yl lf k ar bs n hn) Q τ:=by
 have no:∀{i j},i<=j->j<n->B i=al->B j=al:=λ{i j} h hj hi=>by
  cases q:B j with|false=>rfl|true=>rw[mono i j h hj q]at hi;cases hi
 rw[xo]
 dsimp only
 refine aK (hb hn hh _ ?_)
 dsimp only
 cases h0:B hn with
 |true=>
  rw[T9 rfl];refine aK (eS (cH
   (I:=λi (c:BT) st'=>st'=τ/\c.1=af/\c.2.1<c.2.2/\i<c.2.2/\hn+c.2.1<n/\B (hn+c.2.1)=aj)
   (Q:=λ(c:BT) st'=>st'=τ/\c.1=af/\c.2.1<c.2.2/\hn+c.2.1<n/\B (hn+c.2.1)=aj/\(n<=hn+c.2.2\/B (hn+c.2.2)=al)) ?_ ?_ ⟨rfl,rfl,by decide,by decide,hh,h0⟩) ?_)
  ·rintro i ⟨r,la,f⟩ st' _ hin ⟨rfl,rfl,a1,a2,a3,a4⟩
   dsimp only at a1 a2 a3 a4 ⊢
   by_cases c:f>=n-hn
   ·rw[T9 c]
    exact aT ⟨rfl,rfl,a1,a3,a4,.inl (by dsimp only;omega)⟩
   ·rw[T8 c]
    refine aK (hb _ (by omega) _ ?_)
    dsimp only
    cases hm:B (hn+f)with|true=>exact aT ⟨rfl,rfl,by dsimp only;omega,by dsimp only;omega,by dsimp only;omega,hm⟩|false=>exact aT ⟨rfl,rfl,a1,a3,a4,.inr hm⟩
  ·rintro ⟨r,la,f⟩ st' ⟨rfl,rfl,a1,a2,a3,a4⟩
   dsimp only at a1 a2 a3 a4 ⊢
   exact⟨rfl,rfl,a1,a3,a4,.inl (by omega)⟩
  ·rintro ⟨r,la,f⟩ st' ⟨rfl,rfl,a1,a3,a4,a5⟩
   dsimp only at a1 a3 a4 a5 ⊢
   refine aK (ZaA (n:=n) (B:=B) (λi lo hi Q h1 h2 h3=>by
    by_cases c:lo>=hi
    ·simp only[T9 c];exact aT (h2 c)
    ·simp only[T8 c]
     refine aK (hb _ (by omega) _ ?_)
     have h3:=h3 (by omega)
     cases hm:B (lo+(hi-lo) / 2)<;>(rw[hm]at h3;exact aT h3)) mono (λr hr hB=>aT (hq r hr hB)) (by omega) (by omega) (λi hi=>mono i _ (by omega) a3 a4) λi h1 h2=>?_)
   rcases a5 with a5|a5
   ·omega
   ·exact no (by omega) h2 a5
 |false=>
  rw[T8 (by simp)]
  refine aK (eS (cH
   (I:=λi (c:BT) st'=>st'=τ/\c.1=af/\c.2.1<c.2.2/\i<c.2.2/\c.2.1<=hn/\B (hn-c.2.1)=al)
   (Q:=λ(c:BT) st'=>st'=τ/\c.1=af/\c.2.1<c.2.2/\c.2.1<=hn/\B (hn-c.2.1)=al/\(hn<c.2.2\/B (hn-c.2.2)=aj)) ?_ ?_ ⟨rfl,rfl,by decide,by decide,dN _,h0⟩) ?_)
  ·rintro i ⟨r,la,f⟩ st' _ hin ⟨rfl,rfl,a1,a2,a3,a4⟩
   dsimp only at a1 a2 a3 a4 ⊢
   by_cases c:f>=hn+1
   ·rw[T9 c]
    exact aT ⟨rfl,rfl,a1,a3,a4,.inl (by dsimp only;omega)⟩
   ·rw[T8 c]
    refine aK (hb _ (by omega) _ ?_)
    dsimp only
    cases hm:B (hn-f)with|true=>exact aT ⟨rfl,rfl,a1,a3,a4,.inr hm⟩|false=>exact aT ⟨rfl,rfl,by dsimp only;omega,by dsimp only;omega,by dsimp only;omega,hm⟩
  ·rintro ⟨r,la,f⟩ st' ⟨rfl,rfl,a1,a2,a3,a4⟩
   dsimp only at a1 a2 a3 a4 ⊢
   exact⟨rfl,rfl,a1,a3,a4,.inl (by omega)⟩
  ·rintro ⟨r,la,f⟩ st' ⟨rfl,rfl,a1,a3,a4,a5⟩
   dsimp only at a1 a3 a4 a5 ⊢
   refine aK (ZaA (n:=n) (B:=B) (λi lo hi Q h1 h2 h3=>by
    by_cases c:lo>=hi
    ·simp only[T9 c];exact aT (h2 c)
    ·simp only[T8 c]
     refine aK (hb _ (by omega) _ ?_)
     have h3:=h3 (by omega)
     cases hm:B (lo+(hi-lo) / 2)<;>(rw[hm]at h3;exact aT h3)) mono (λr hr hB=>aT (hq r hr hB)) (by omega) (by omega) (λi hi=>?_) λi h1 h2=>no h1 h2 a4)
   rcases a5 with a5|a5
   ·omega
   ·exact mono i _ (by omega) (by omega) a5
end
section
variable{α:Type}{R:α->α->Prop}
abbrev Srt(R:α->α->Prop)(l:List α):Prop:=l.Pairwise R
abbrev lr(rk:α->Nat):α->α->Prop:=λx y=>rk x<rk y
abbrev gr(rk:α->Nat):α->α->Prop:=λx y=>rk y<rk x
structure ML(R:α->α->Prop)(T o ra rb:List α):Prop where
 perm:(o++ra++rb).Perm T
 so:Srt R o
 sa:Srt R ra
 sb:Srt R rb
 lt:∀x∈o,∀y,y∈ra\/y∈rb->R x y
def ML.as{T o xs ra rb:List α}(h:ML R T o (xs++ra) rb)(hx:∀x∈xs,∀y∈rb,R x y):ML R T (o++xs) ra rb:=by
 obtain⟨s1,s2,s3⟩:=dA.mp h.sa;refine⟨by simpa[bM]using h.perm,dA.mpr ⟨h.so,s1,λx hx y hy=>h.lt x hx y (.inl (bV _ hy))⟩,s2,h.sb,λx hx2 y hy=>?_⟩
 rcases cu.mp hx2 with z|z
 ·exact h.lt x z y (hy.imp (bh _) id)
 ·rcases hy with hy|hy
  ·exact s3 x z y hy
  ·exact hx x z y hy
def ML.swap{T o ra rb:List α}(h:ML R T o ra rb):ML R T o rb ra:=by
 refine⟨List.Perm.trans ?_ h.perm,h.so,h.sb,h.sa,λx hx y hy=>h.lt x hx y hy.symm⟩
 rw[bM,bM];exact List.perm_append_comm.append_left _
def ML.bs(h:ML R T o ra (xs++rb))(hx:∀x∈xs,∀y∈ra,R x y):ML R T (o++xs) ra rb:=(h.swap.as hx).swap
def ML.fin{T o ra:List α}(h:ML R T o ra []):(o++ra).Perm T/\Srt R (o++ra):=by
 have h':=ML.as (ra:=[]) (by simpa using h) λx _ y hy=>by cases hy
 exact⟨by simpa using h'.perm,h'.so⟩
def ML.ne(h:ML R T o ra rb)(hT:(T.map rk).Nodup)(hx:x∈ra)(hy:y∈rb):rk x≠rk y:=by
 have n:=((h.perm.map rk).nodup_iff).mpr hT;rw[bP,fP]at n;exact n.2.2 _ (d4 (bh _ hx)) _ (d4 hy)
end
structure Od(prog:bq)(w:bK)(A:bQ)(E:au->ax->Prop)(s:ax)(κ:fG)(In:bW->Prop)(rk:bW->Nat):Prop where
 ask:∀{x y:bW}{τ:bR}{Q:Option Bool->bR->Prop},In x->In y->kindOf τ=κ->Q (aa (ag (rk x<rk y))) τ->mr (aS prog w) A E s (lt' x y) Q τ
def Sg(τ st':bR):Prop:=kindOf st'=kindOf τ/\bj st'=bj τ/\bo st'=bo τ/\gF st'=gF τ
section
variable{prog:bq}{w:bK}{A:bQ}{E:au->ax->Prop}{s:ax}{κ:fG}{In:bW->Prop}{rk:bW->Nat}
def ZF{Q:bW->bR->Prop}(h:ar[i]?=aa x)(hq:Q x τ):mr (aS prog w) A E s (gv ar i) Q τ:=by
 rw[elem'_eq,h];exact aT hq
def X1{Q:Unit->bR->Prop}(hq:Q () τ):mr (aS prog w) A E s (liftM (nN t):StateT bR nL Unit) Q τ:=wpS_lift (dW ⟨rfl,hq⟩)
theorem wG(O:Od prog w A E s κ In rk){Q:Option Nat->bR->Prop}(hk:kindOf τ=κ)(ik:In k)(hh:h0<n)(hn:i+n<=ar.size)(ia:∀x∈ar.toList,In x)
  (so:Srt (lr rk) ((ar.toList.drop i).take n))(ne:∀x∈(ar.toList.drop i).take n,rk x≠rk k)
  (hq:∀r,r<=n->(∀x∈((ar.toList.drop i).take n).take r,rk x<rk k)->(∀x∈((ar.toList.drop i).take n).drop r,rk k<rk x)->Q (aa r) τ):mr (aS prog w) A E s (Yl lf k ar i n h0) Q τ:=by
 generalize hl:(ar.toList.drop i).take n=l at so ne hq;have ll:l.length=n:=by rw[<-hl,bz,bB,aN];lia
 have at_:∀j (hj:j<n),ar[i+j]?=aa (l[j]'(by lia)):=λj hj=>by
  have:ar.toList[i+j]?=aa (l[j]'(by lia)):=by
   subst hl;rw[fQ,fR];exact ai _
  simpa using this
 have mem:∀j (hj:j<n),In (l[j]'(by lia)):=λj hj=>ia _ (by
  have h2:∀x∈l,x∈ar.toList:=λx hx=>by rw[<-hl]at hx;exact cr (c6 hx)
  exact h2 _ (aX _))
 have hB:∀j (hj:j<n),((l[j]?).any λx=>ag (rk x<rk k))=ag (rk (l[j]'(by lia))<rk k):=λj hj=>by
  rw[ai (by lia)];rfl
 refine Zed (B:=λj=>(l[j]?).any λx=>ag (rk x<rk k)) hh (λj hj Q hQ=>?_) (λa b hab hb h=>?_) λr hr hr2=>hq r hr (λx hx=>?_) λx hx=>?_
 ·rw[hB j hj]at hQ
  refine aK (ZF (at_ j hj) ?_);cases lf with
  |true=>exact O.ask (mem j hj) ik hk hQ
  |false=>
   refine aK (O.ask ik (mem j hj) hk (aT ?_));have e:(!decide (rk k<rk (l[j]'(by lia))))=ag (rk (l[j]'(by lia))<rk k):=by
    have:=ne _ (aX (n:=j) (by lia))
    by_cases c:rk k<rk (l[j]'(by lia))
    ·rw[T5 c,T4 (by lia)];rfl
    ·rw[T4 c,T5 (by lia)];rfl
   show Q (aa (!decide (rk k<rk (l[j]'(by lia))))) τ
   rw[e];exact hQ
 ·rw[hB b hb]at h
  rw[hB a (by lia)]
  rcases Nat.lt_or_eq_of_le hab with c|c
  ·have:=ck.mp so a b (by lia) (by lia) c
   have h:=T6 h;exact T5 (by lia)
  ·subst c;exact h
 ·obtain⟨j,hj,rfl⟩:=cA hx
  rw[bz]at hj;have:=(hr2 j (by lia)).mpr (by lia)
  rw[hB j (by lia)]at this
  rw[fQ];exact T6 this
 ·obtain⟨j,hj,rfl⟩:=cA hx
  rw[bB]at hj;rw[fR];have h1:=hr2 (r+j) (by lia)
  rw[hB _ (by lia)]at h1
  have h2:=ne _ (aX (n:=r+j) (by lia))
  have h3:¬rk (l[r+j]'(by lia))<rk k:=λz=>T7 (h1.mp (T5 z)) (by lia)
  lia
end
noncomputable abbrev KA:=Array bW
noncomputable abbrev SM:=StateT bR nL
noncomputable def UR:KA->KA->SM KA:=sortPriv% PySem.Builtin.mergeLo
noncomputable def QD:Nat->SM Unit:=sortPriv% PySem.Builtin.setMinGallop
def ZaP(g:Nat):QD g=modify λs=>pS (kindOf s) (bj s) (bo s) g (gF s):=rfl
noncomputable abbrev dn(a b o:KA)(i j:Nat):KA:=o++a.extract i a.size++b.extract j b.size
noncomputable abbrev ls(a b o:KA)(i j:Nat):KA:=o++b.extract j b.size++a.extract i a.size
noncomputable abbrev T2:=Option KA×KA×Nat×Nat×Nat×Nat
noncomputable abbrev T3:=Option KA×KA×Nat×Nat×Nat×Nat×Nat
noncomputable abbrev T1:=Option KA×KA×Nat×Nat×Nat
noncomputable def F1(a b:KA)(g:Nat)(c:T2):SM (ForInStep T2):=do
 let o:=c.2.1
 let i:=c.2.2.1
 let j:=c.2.2.2.1
 let ca:=c.2.2.2.2.1
 let cb:=c.2.2.2.2.2
 let aa t <-lt' (<-gv b j) (<-gv a i)|return .done (aa (dn a b o i j),o,i,j,ca,cb)
 if t then
  let o:=o.push (<-gv b j)
  let j:=j+1
  if j == b.size then return .done (aa (dn a b o i j),o,i,j,0,cb+1)
  if cb+1>=g then return .done (af,o,i,j,0,cb+1)
  return .yield (af,o,i,j,0,cb+1)
 else
  let o:=o.push (<-gv a i)
  let i:=i+1
  if i+1 == a.size then return .done (aa (ls a b o i j),o,i,j,ca+1,0)
  if ca+1>=g then return .done (af,o,i,j,ca+1,0)
  return .yield (af,o,i,j,ca+1,0)
noncomputable def G3(a b:KA)(g ca cb i:Nat)(o:KA)(j:Nat):SM (ForInStep T3):=do
 let o:=o.push (<-gv a i)
 let i:=i+1
 if i+1 == a.size then return .done (aa (ls a b o i j),o,i,j,g,ca,cb)
 if ca<7&&cb<7 then return .done (af,o,i,j,g,ca,cb)
 return .yield (af,o,i,j,g,ca,cb)
noncomputable def G2(a b:KA)(g ca cb j:Nat)(o:KA)(i:Nat):SM (ForInStep T3):=do
 let o:=o.push (<-gv b j)
 let j:=j+1
 if j == b.size then return .done (aa (dn a b o i j),o,i,j,g,ca,cb)
 let aa k <-Yl aj (<-gv a i) b j (b.size-j) 0|return .done (aa (dn a b o i j),o,i,j,g,ca,cb)
 if k>0 then
  let o:=o++b.extract j (j+k)
  let j:=j+k
  if j == b.size then return .done (aa (dn a b o i j),o,i,j,g,ca,k)
  else G3 a b g ca k i o j
 else G3 a b g ca k i o j
noncomputable def G1(a b:KA)(o:KA)(i j ca cb g:Nat):SM (ForInStep T3):=do
 QD g
 let aa k <-Yl al (<-gv b j) a i (a.size-i) 0|return .done (aa (dn a b o i j),o,i,j,g,ca,cb)
 if k>0 then
  let o:=o++a.extract i (i+k)
  let i:=i+k
  if i+1 == a.size then return .done (aa (ls a b o i j),o,i,j,g,k,cb)
  else if i == a.size then return .done (aa (dn a b o i j),o,i,j,g,k,cb)
  else G2 a b g k cb j o i
 else G2 a b g k cb j o i
noncomputable def F2(a b:KA)(c:T3):SM (ForInStep T3):=
 if c.2.2.2.2.1>1 then G1 a b c.2.1 c.2.2.1 c.2.2.2.1 c.2.2.2.2.2.1 c.2.2.2.2.2.2 (c.2.2.2.2.1-1)
 else G1 a b c.2.1 c.2.2.1 c.2.2.2.1 c.2.2.2.2.2.1 c.2.2.2.2.2.2 c.2.2.2.2.1
noncomputable def F0(a b:KA)(c:T1):SM (ForInStep T1):=do
 let d <-ng [0:a.size+b.size] ((af,c.2.1,c.2.2.1,c.2.2.2.1,0,0):T2) λ_ d=>F1 a b c.2.2.2.2 d
 kH d.1 (λ_=>do
  nN "list.sort.gallop"
  let e <-ng [0:a.size+b.size] ((af,d.2.1,d.2.2.1,d.2.2.2.1,c.2.2.2.2+1,d.2.2.2.2.1,d.2.2.2.2.2):T3) λ_ d=>F2 a b d
  kH e.1 (λ_=>do
   QD (e.2.2.2.2.1+1)
   cC (.yield (af,e.2.1,e.2.2.1,e.2.2.2.1,e.2.2.2.2.1+1))) λr=>cC (.done (aa r,e.2.1,e.2.2.1,e.2.2.2.1,e.2.2.2.2.1))) λr=>cC (.done (aa r,d.2.1,d.2.2.1,d.2.2.2.1,c.2.2.2.2))
def zv(a b:KA):UR a b=(do
 nN "list.sort.merge-lo"
 let y <-gv b 0
 if 1 == b.size then return dn a b #[y] 0 1
 if 0+1 == a.size then return ls a b #[y] 0 1
 let τ <-get
 let c <-ng [0:a.size+b.size] ((af,#[y],0,1,gallopOf τ):T1) λ_ c=>F0 a b c
 kH c.1 (λ_=>o9 "internal:list.sort.merge-bound") λr=>cC r):=rfl
def X9(a:KA)(i:Nat):(a.extract i a.size).toList=a.toList.drop i:=by
 rw[iN,gw,<-aN];exact cq (by rw[bB];exact aI _)
def wV(a:KA)(i k:Nat):(a.extract i (i+k)).toList=(a.toList.drop i).take k:=by
 rw[iN,gw,Nat.add_sub_cancel_left]
def Yb{a:KA}{i:Nat}(h:i<a.size):a.toList.drop i=a[i]::a.toList.drop (i+1):=by
 rw[cg (by simpa using h)];rfl
def td{α:Type}(l:List α)(n r:Nat):(l.drop n).take r++l.drop (n+r)=l.drop n:=by rw[<-g7,cG]
def ZO{a:KA}{i:Nat}(h:i<a.size):a[i]?=aa a[i]:=bG h
section
variable{prog:bq}{w:bK}{A:bQ}{E:au->ax->Prop}{s:ax}{κ:fG}{In:bW->Prop}{rk:bW->Nat}
def ZC{α:Type}{c:Prop}[Decidable c]{x y:SM α}{Q:α->bR->Prop}{τ:bR}(h1:c->mr (aS prog w) A E s x Q τ)(h2:¬c->mr (aS prog w) A E s y Q τ):mr (aS prog w) A E s (if c then x else y) Q τ:=by
 by_cases h:c
 ·rw[T9 h];exact h1 h
 ·rw[T8 h];exact h2 h
theorem xR(O:Od prog w A E s κ In rk){Q:Option Nat->bR->Prop}(hk:kindOf τ=κ)(ik:In k)(hi:i<ar.size)(ia:∀x∈ar.toList,In x)(so:Srt (lr rk) (ar.toList.drop i))(ne:∀x∈ar.toList.drop i,rk x≠rk k)
  (hq:∀r,i+r<=ar.size->(∀x∈(ar.toList.drop i).take r,rk x<rk k)->(∀x∈ar.toList.drop (i+r),rk k<rk x)->Q (aa r) τ):mr (aS prog w) A E s (Yl lf k ar i (ar.size-i) 0) Q τ:=by
 have e:(ar.toList.drop i).take (ar.size-i)=ar.toList.drop i:=cq (by rw[bB,aN];exact aI _)
 refine wG O hk ik (Nat.sub_pos_of_lt hi) (oo (Nat.add_sub_cancel' (kg hi))) ia (e.symm▸so) (e.symm▸ne) λr h1 h2 h3=>?_
 rw[e]at h2 h3;rw[g7]at h3;exact hq r (by lia) h2 h3
structure Mg(κ:fG)(In:bW->Prop)(rk:bW->Nat)(a b:KA)(T:List bW):Prop where
 nd:(T.map rk).Nodup
 ia:∀x∈a.toList,In x
 ib:∀x∈b.toList,In x
 last:∀y∈b.toList,∀x∈a.toList.drop (a.size-1),rk y<rk x
def Res(rk:bW->Nat)(T:List bW)(r:KA):Prop:=r.toList.Perm T/\Srt (lr rk) r.toList
abbrev Lo(rk:bW->Nat)(a b:KA)(T:List bW)(o:KA)(i j:Nat):Prop:=ML (lr rk) T o.toList (a.toList.drop i) (b.toList.drop j)
structure Iv(rk:bW->Nat)(a b:KA)(T:List bW)(o:KA)(i j:Nat):Prop where
 m:Lo rk a b T o i j
 hi:i+1<a.size
 hj:j<b.size
 z:o.size=i+j
variable{a b:KA}{T:List bW}{o:KA}{i j:Nat}
def J9(h:Lo rk a b T o i j)(hj:(j == b.size)=aj):Res rk T (dn a b o i j):=by
 have hj:=beq_iff_eq.mp hj;unfold Lo at h;rw[hj,<-aN,eg]at h;have:=h.fin;unfold Res dn;rw[cn,cn,X9,X9,hj,<-aN,eg,cT];exact this
def ZbK(h:Lo rk a b T o i j)(hi:(i == a.size)=aj):Res rk T (dn a b o i j):=by
 have hi:=beq_iff_eq.mp hi;unfold Lo at h;rw[hi,<-aN,eg]at h;have:=h.swap.fin;unfold Res dn;rw[cn,cn,X9,X9,hi,<-aN,eg,cT];exact this
theorem JG(G:Mg κ In rk a b T)(h:Lo rk a b T o i j)(hi:(i+1 == a.size)=aj):Res rk T (ls a b o i j):=by
 have hi:=beq_iff_eq.mp hi;have e:a.size-1=i:=by lia
 have:=(ML.bs (by rw[cT];exact h) λy hy x hx=>G.last y (cr hy) x (by rw[e];exact hx)).fin
 unfold Res ls;rw[cn,cn,X9,X9];exact this
def uQ(h:Lo rk a b T o i j)(hj:j<b.size)(hy:∀x∈a.toList.drop i,rk b[j]<rk x):Lo rk a b T (o.push b[j]) i (j+1):=by
 unfold Lo at h ⊢;rw[Yb hj]at h;rw[fS];exact ML.bs h λx hx y hy'=>by rw[aU.mp hx];exact hy y hy'
def ZcD(h:Lo rk a b T o i j)(hi:i<a.size)(hx:∀y∈b.toList.drop j,rk a[i]<rk y):Lo rk a b T (o.push a[i]) (i+1) j:=by
 unfold Lo at h ⊢;rw[Yb hi]at h;rw[fS];exact ML.as h λx hx' y hy'=>by rw[aU.mp hx'];exact hx y hy'
def vd(h:Srt (lr rk) (x::l))(hx:rk y<rk x):∀z∈x::l,rk y<rk z:=λz hz=>by
 rcases az.mp hz with rfl|hz
 ·exact hx
 ·exact db hx ((aZ.mp h).1 z hz)
def UM(h:m<n)(q:¬(m+1 == n)=aj):m+1<n:=gP h λz=>q (beq_iff_eq.mpr z)
theorem ZeU(O:Od prog w A E s κ In rk)(G:Mg κ In rk a b T){g ca cb:Nat}{r0:Option KA}{τ:bR}{Q:ForInStep T2->bR->Prop}(hk:kindOf τ=κ)(I:Iv rk a b T o i j)
  (hd:∀r c,Res rk T r->Q (.done (aa r,c)) τ)(hb:∀o' i' j' ca cb,Iv rk a b T o' i' j'->o'.size=o.size+1->Q (.done (af,o',i',j',ca,cb)) τ/\Q (.yield (af,o',i',j',ca,cb)) τ):mr (aS prog w) A E s (F1 a b g (r0,o,i,j,ca,cb)) Q τ:=by
 have hi:=dR I.hi;have ha:a[i]∈a.toList.drop i:=by rw[Yb hi];exact ao ..
 have hb':b[j]'I.hj∈b.toList.drop j:=by rw[Yb I.hj];exact ao ..
 have sa:=I.m.sa;have sb:=I.m.sb;rw[Yb hi]at sa;rw[Yb I.hj]at sb;refine aK (ZF (ZO I.hj) (aK (ZF (ZO hi) (aK (O.ask (G.ib _ (cr hb')) (G.ia _ (cr ha)) hk ?_)))));by_cases c:rk (b[j]'I.hj)<rk a[i]
 ·rw[T5 c]
  refine aK (ZF (ZO I.hj) ?_);have m:=uQ I.m I.hj (by rw[Yb hi];exact vd sa c)
  have z:(o.push (b[j]'I.hj)).size=o.size+1:=d3 ..;refine ZC (λq=>aT (hd _ _ (J9 m q))) λq=>?_
  have h:=hb _ _ _ 0 (cb+1) ⟨m,I.hi,UM I.hj q,by rw[z,I.z];lia⟩ z
  exact ZC (λ_=>aT h.1) λ_=>aT h.2
 ·rw[T4 c]
  refine aK (ZF (ZO hi) ?_);have c':=gP (fb c) (I.m.ne G.nd ha hb');have m:=ZcD I.m hi (by rw[Yb I.hj];exact vd sb c')
  have z:(o.push a[i]).size=o.size+1:=d3 ..;refine ZC (λq=>aT (hd _ _ (JG G m q))) λq=>?_
  have h:=hb _ _ _ (ca+1) 0 ⟨m,UM I.hi q,I.hj,by rw[z,I.z];lia⟩ z
  exact ZC (λ_=>aT h.1) λ_=>aT h.2
theorem Sg.trans(h:Sg s1 s2)(k:Sg s2 s3):Sg s1 s3:=⟨k.1.trans h.1,k.2.1.trans h.2.1,k.2.2.1.trans h.2.2.1,k.2.2.2.trans h.2.2.2⟩
def V7{Q:Unit->bR->Prop}(h:∀st',Sg τ st'->Q () st'):mr (aS prog w) A E s (QD g) Q τ:=by
 rw[ZaP];exact fz (h _ ⟨rfl,rfl,rfl,rfl⟩)
section
variable(O:Od prog w A E s κ In rk)(G:Mg κ In rk a b T){Q:ForInStep T3->bR->Prop}
include O G
theorem Zcz{g ca cb:Nat}{τ:bR}(m:Lo rk a b T o i j)(hi:i+1<a.size)(hj:j<b.size)(z:o.size=i+j)(hx:∀y∈b.toList.drop j,rk a[i]<rk y)
  (hd:∀r c,Res rk T r->Q (.done (aa r,c)) τ)(hb:∀o' i' j' g ca cb,Iv rk a b T o' i' j'->o'.size=o.size+1->Q (.done (af,o',i',j',g,ca,cb)) τ/\Q (.yield (af,o',i',j',g,ca,cb)) τ):mr (aS prog w) A E s (G3 a b g ca cb i o j) Q τ:=by
 have hi':=dR hi;refine aK (ZF (ZO hi') ?_);have m:=ZcD m hi' hx;have z':(o.push a[i]).size=o.size+1:=d3 ..;refine ZC (λq=>aT (hd _ _ (JG G m q))) λq=>?_
 have h:=hb _ _ _ g ca cb ⟨m,UM hi q,hj,by rw[z',z];lia⟩ z'
 exact ZC (λ_=>aT h.1) λ_=>aT h.2
theorem ZcK{g ca cb:Nat}{τ:bR}(hk:kindOf τ=κ)(m:Lo rk a b T o i j)(hi:i+1<a.size)(hj:j<b.size)(z:o.size=i+j)(hy:∀x∈a.toList.drop i,rk b[j]<rk x)
  (hd:∀r c,Res rk T r->Q (.done (aa r,c)) τ)(hb:∀o' i' j' g ca cb,Iv rk a b T o' i' j'->o.size<o'.size->Q (.done (af,o',i',j',g,ca,cb)) τ/\Q (.yield (af,o',i',j',g,ca,cb)) τ):mr (aS prog w) A E s (G2 a b g ca cb j o i) Q τ:=by
 have hi':=dR hi;refine aK (ZF (ZO hj) ?_);have m:=uQ m hj hy;have z':(o.push b[j]).size=o.size+1:=d3 ..;refine ZC (λq=>aT (hd _ _ (J9 m q))) λq=>?_
 have hj:=UM hj q;have ha:a[i]∈a.toList.drop i:=by rw[Yb hi'];exact ao ..
 refine aK (ZF (ZO hi') (aK (xR O hk (G.ia _ (cr ha)) hj G.ib m.sb (λy hy=>(m.ne G.nd ha hy).symm) λr hr h1 h2=>?_)))
 refine ZC (λ_=>?_) λc=>?_
 ·have m2:Lo rk a b T (o.push b[j]++b.extract (j+1) (j+1+r)) i (j+1+r):=by
   unfold Lo;rw[cn,wV];refine ML.bs ?_ λy hy x hx=>?_
   ·rw[td];exact m
   ·have sa:=m.sa
    rw[Yb hi']at sa hx;exact vd sa (h1 y hy) x hx
  have z2:(o.push b[j]++b.extract (j+1) (j+1+r)).size=o.size+1+r:=by rw[g8,z',gQ];lia
  refine ZC (λq=>aT (hd _ _ (J9 m2 q))) λq=>?_
  have hj2:=gP hr λz=>q (beq_iff_eq.mpr z)
  exact Zcz O G m2 hi hj2 (by rw[z2,z];lia) h2 hd λo' i' j' g ca cb I e=>hb o' i' j' g ca cb I (by lia)
 ·have e:r=0:=by lia
  subst e;exact Zcz O G m hi hj (by rw[z',z];lia) h2 hd λo' i' j' g ca cb I e=>hb o' i' j' g ca cb I (by lia)
theorem Zcu{g ca cb:Nat}{τ:bR}(hk:kindOf τ=κ)(I:Iv rk a b T o i j)
  (hd:∀r c st',Sg τ st'->Res rk T r->Q (.done (aa r,c)) st')(hb:∀o' i' j' g ca cb st',Sg τ st'->Iv rk a b T o' i' j'->o.size<o'.size->Q (.done (af,o',i',j',g,ca,cb)) st'/\Q (.yield (af,o',i',j',g,ca,cb)) st'):mr (aS prog w) A E s (G1 a b o i j ca cb g) Q τ:=by
 obtain⟨m,hi,hj,z⟩:=I;have hi':=dR hi;have hb':b[j]∈b.toList.drop j:=by rw[Yb hj];exact ao ..
 refine aK (V7 λst' sg=>aK (ZF (ZO hj) (aK (xR O (sg.1.trans hk) (G.ib _ (cr hb')) hi' G.ia m.sa (λx hx=>m.ne G.nd hx hb') λr hr h1 h2=>?_))))
 refine ZC (λ_=>?_) λc=>?_
 ·have m2:Lo rk a b T (o++a.extract i (i+r)) (i+r) j:=by
   unfold Lo;rw[cn,wV];refine ML.as ?_ λx hx y hy=>?_
   ·rw[td];exact m
   ·have sb:=m.sb
    rw[Yb hj]at sb hy;exact vd sb (h1 x hx) y hy
  have z2:(o++a.extract i (i+r)).size=o.size+r:=by rw[g8,gQ];lia
  refine ZC (λq=>aT (hd _ _ st' sg (JG G m2 q))) λq=>ZC (λq=>aT (hd _ _ st' sg (ZbK m2 q))) λq2=>?_
  have q2:i+r≠a.size:=λz=>q2 (beq_iff_eq.mpr z)
  exact ZcK O G (sg.1.trans hk) m2 (UM (by lia) q) hj (by rw[z2,z];lia) h2 (λr c=>hd r c st' sg) λo' i' j' g ca cb I e=>hb o' i' j' g ca cb st' sg I (by lia)
 ·have e:r=0:=by lia
  subst e;exact ZcK O G (sg.1.trans hk) m hi hj z h2 (λr c=>hd r c st' sg) λo' i' j' g ca cb I e=>hb o' i' j' g ca cb st' sg I (by lia)
theorem Zem{g ca cb:Nat}{r0:Option KA}{τ:bR}(hk:kindOf τ=κ)(I:Iv rk a b T o i j)
  (hd:∀r c st',Sg τ st'->Res rk T r->Q (.done (aa r,c)) st')(hb:∀o' i' j' g ca cb st',Sg τ st'->Iv rk a b T o' i' j'->o.size<o'.size->Q (.done (af,o',i',j',g,ca,cb)) st'/\Q (.yield (af,o',i',j',g,ca,cb)) st'):mr (aS prog w) A E s (F2 a b (r0,o,i,j,g,ca,cb)) Q τ:=by
 exact ZC (λ_=>Zcu O G hk I hd hb) λ_=>Zcu O G hk I hd hb
theorem ZeM{Q:ForInStep T1->bR->Prop}(hk:kindOf τ=κ)(I:Iv rk a b T o i j)
  (hd:∀r c st',Sg τ st'->Res rk T r->Q (.done (aa r,c)) st')(hy:∀o' i' j' g st',Sg τ st'->Iv rk a b T o' i' j'->o.size<o'.size->Q (.yield (af,o',i',j',g)) st'):mr (aS prog w) A E s (F0 a b (r0,o,i,j,g)) Q τ:=by
 refine aK (eS (cH
  (I:=λx (c:T2) st'=>st'=τ/\c.1=af/\Iv rk a b T c.2.1 c.2.2.1 c.2.2.2.1/\o.size+x<=c.2.1.size)
  (Q:=λ(c:T2) st'=>st'=τ/\((∃r,c.1=aa r/\Res rk T r)\/c.1=af/\Iv rk a b T c.2.1 c.2.2.1 c.2.2.2.1/\o.size<c.2.1.size)) ?_ ?_ ⟨rfl,rfl,I,aI _⟩) ?_)
 ·rintro x ⟨r,o',i',j',ca,cb⟩ st' _ _ ⟨rfl,rfl,I',hz⟩
  exact ZeU O G hk I' (λr c h=>⟨rfl,.inl ⟨r,rfl,h⟩⟩) λo2 i2 j2 ca cb I2 e=>⟨⟨rfl,.inr ⟨rfl,I2,by dsimp only at hz ⊢;lia⟩⟩,rfl,rfl,I2,by dsimp only at hz ⊢;lia⟩
 ·rintro ⟨r,o',i',j',ca,cb⟩ st' ⟨rfl,rfl,I',hz⟩
  have:=I'.hi;have:=I'.hj;have:=I'.z;lia
 ·rintro ⟨r,o',i',j',ca,cb⟩ st' ⟨rfl,⟨r',rfl,h⟩|⟨rfl,I',hz⟩⟩
  ·exact aT (hd _ _ _ ⟨rfl,rfl,rfl,rfl⟩ h)
  ·dsimp only at I' hz
   refine aK (X1 (aK (eS (cH
    (I:=λx (c:T3) st''=>Sg st' st''/\c.1=af/\Iv rk a b T c.2.1 c.2.2.1 c.2.2.2.1/\o'.size+x<=c.2.1.size)
    (Q:=λ(c:T3) st''=>Sg st' st''/\((∃r,c.1=aa r/\Res rk T r)\/c.1=af/\Iv rk a b T c.2.1 c.2.2.1 c.2.2.2.1/\o'.size<c.2.1.size)) ?_ ?_ ⟨⟨rfl,rfl,rfl,rfl⟩,rfl,I',aI _⟩) ?_)))
   ·rintro x ⟨r,o2,i2,j2,g,ca,cb⟩ st2 _ _ ⟨sg,rfl,I2,hz2⟩
    dsimp only at I2 hz2
    exact Zem O G (sg.1.trans hk) I2 (λr c st3 s3 h=>⟨sg.trans s3,.inl ⟨r,rfl,h⟩⟩) λo3 i3 j3 g ca cb st3 s3 I3 e=>⟨⟨sg.trans s3,.inr ⟨rfl,I3,by dsimp only;lia⟩⟩,sg.trans s3,rfl,I3,by dsimp only;lia⟩
   ·rintro ⟨r,o2,i2,j2,g,ca,cb⟩ st2 ⟨sg,rfl,I2,hz2⟩
    have:=I2.hi;have:=I2.hj;have:=I2.z;lia
   ·rintro ⟨r,o2,i2,j2,g,ca,cb⟩ st2 ⟨sg,⟨r',rfl,h⟩|⟨rfl,I2,hz2⟩⟩
    ·exact aT (hd _ _ _ sg h)
    ·exact aK (V7 λst3 s3=>aT (hy _ _ _ _ _ (sg.trans s3) I2 (db hz hz2)))
theorem yH{τ:bR}{Q:KA->bR->Prop}(hk:kindOf τ=κ)(ha:0<a.size)(hb:0<b.size)(sa:Srt (lr rk) a.toList)(sb:Srt (lr rk) b.toList)(hT:(a.toList++b.toList).Perm T)(h0:∀x∈a.toList,rk b[0]<rk x)
  (hq:∀r st',Sg τ st'->Res rk T r->Q r st'):mr (aS prog w) A E s (UR a b) Q τ:=by
 rw[zv];refine aK (X1 (aK (ZF (ZO hb) ?_)));have m0:Lo rk a b T #[] 0 0:=⟨by simpa using hT,.nil,by simpa using sa,by simpa using sb,λx hx=>by cases hx⟩
 have m:=uQ m0 hb (by simpa using h0)
 have sg0:Sg τ τ:=⟨rfl,rfl,rfl,rfl⟩;refine ZC (λq=>aT (hq _ _ sg0 (J9 m q))) λq1=>ZC (λq=>aT (hq _ _ sg0 (JG G m q))) λq2=>aK (g9 (aK (eS (cH
  (I:=λx (c:T1) st''=>Sg τ st''/\c.1=af/\Iv rk a b T c.2.1 c.2.2.1 c.2.2.2.1/\x<=c.2.1.size)
  (Q:=λ(c:T1) st''=>Sg τ st''/\∃r,c.1=aa r/\Res rk T r) ?_ ?_ ⟨sg0,rfl,⟨m,UM ha q2,UM hb q1,rfl⟩,dN _⟩) ?_)))
 ·rintro x ⟨r,o,i,j,g⟩ st2 _ _ ⟨sg,rfl,I,hz⟩
  dsimp only at I hz
  exact ZeM O G (sg.1.trans hk) I (λr c st3 s3 h=>⟨sg.trans s3,r,rfl,h⟩) λo3 i3 j3 g st3 s3 I3 e=>⟨sg.trans s3,rfl,I3,by dsimp only;lia⟩
 ·rintro ⟨r,o,i,j,g⟩ st2 ⟨sg,rfl,I,hz⟩
  have:=I.hi;have:=I.hj;have:=I.z;lia
 ·rintro ⟨r,o,i,j,g⟩ st2 ⟨sg,r',rfl,h⟩
  exact aT (hq _ _ sg h)
end
end
noncomputable def Ur:KA->KA->SM KA:=sortPriv% PySem.Builtin.mergeHi
noncomputable abbrev dh(a b o:KA)(i j:Nat):KA:=a.extract 0 i++b.extract 0 j++o.reverse
noncomputable abbrev fh(a b o:KA)(i j:Nat):KA:=b.extract 0 j++a.extract 0 i++o.reverse
noncomputable abbrev U1:=Option KA×Nat×Nat×KA×Nat
noncomputable abbrev U2:=Option KA×Nat×Nat×KA×Nat×Nat
noncomputable abbrev U3:=Option KA×Nat×Nat×KA×Nat×Nat×Nat
noncomputable def H1(a b:KA)(g:Nat)(c:U2):SM (ForInStep U2):=do
 let i:=c.2.1
 let j:=c.2.2.1
 let o:=c.2.2.2.1
 let ca:=c.2.2.2.2.1
 let cb:=c.2.2.2.2.2
 let aa t <-lt' (<-gv b (j-1)) (<-gv a (i-1))|return .done (aa (dh a b o i j),i,j,o,ca,cb)
 if t then
  let i:=i-1
  let o:=o.push (<-gv a i)
  if i == 0 then return .done (aa (dh a b o i j),i,j,o,ca+1,0)
  if ca+1>=g then return .done (af,i,j,o,ca+1,0)
  return .yield (af,i,j,o,ca+1,0)
 else
  let j:=j-1
  let o:=o.push (<-gv b j)
  if j == 1 then return .done (aa (fh a b o i j),i,j,o,0,cb+1)
  if cb+1>=g then return .done (af,i,j,o,0,cb+1)
  return .yield (af,i,j,o,0,cb+1)
noncomputable def K3(a b:KA)(g ca cb i:Nat)(o:KA)(j:Nat):SM (ForInStep U3):=do
 let i:=i-1
 let o:=o.push (<-gv a i)
 if i == 0 then return .done (aa (dh a b o i j),i,j,o,g,ca,cb)
 if ca<7&&cb<7 then return .done (af,i,j,o,g,ca,cb)
 return .yield (af,i,j,o,g,ca,cb)
noncomputable def K2(a b:KA)(g ca cb j:Nat)(o:KA)(i:Nat):SM (ForInStep U3):=do
 let j:=j-1
 let o:=o.push (<-gv b j)
 if j == 1 then return .done (aa (fh a b o i j),i,j,o,g,ca,cb)
 let aa t <-Yl aj (<-gv a (i-1)) b 0 j (j-1)|return .done (aa (dh a b o i j),i,j,o,g,ca,cb)
 if j-t>0 then
  let o:=o++(b.extract t j).reverse
  if t == 1 then return .done (aa (fh a b o i t),i,t,o,g,ca,j-t)
  else if t == 0 then return .done (aa (dh a b o i t),i,t,o,g,ca,j-t)
  else K3 a b g ca (j-t) i o t
 else K3 a b g ca (j-t) i o j
noncomputable def K1(a b:KA)(o:KA)(i j ca cb g:Nat):SM (ForInStep U3):=do
 QD g
 let aa t <-Yl al (<-gv b (j-1)) a 0 i (i-1)|return .done (aa (dh a b o i j),i,j,o,g,ca,cb)
 if i-t>0 then
  let o:=o++(a.extract t i).reverse
  if t == 0 then return .done (aa (dh a b o t j),t,j,o,g,i-t,cb)
  else K2 a b g (i-t) cb j o t
 else K2 a b g (i-t) cb j o i
noncomputable def H2(a b:KA)(c:U3):SM (ForInStep U3):=
 if c.2.2.2.2.1>1 then K1 a b c.2.2.2.1 c.2.1 c.2.2.1 c.2.2.2.2.2.1 c.2.2.2.2.2.2 (c.2.2.2.2.1-1)
 else K1 a b c.2.2.2.1 c.2.1 c.2.2.1 c.2.2.2.2.2.1 c.2.2.2.2.2.2 c.2.2.2.2.1
noncomputable def TT(n:Nat)(f1:Nat->U2->SM (ForInStep U2))(f2:U3->SM (ForInStep U3))(c:U1):SM (ForInStep U1):=do
 let d <-ng [0:n] ((af,c.2.1,c.2.2.1,c.2.2.2.1,0,0):U2) λ_ d=>f1 c.2.2.2.2 d
 kH d.1 (λ_=>do
  nN "list.sort.gallop"
  let e <-ng [0:n] ((af,d.2.1,d.2.2.1,d.2.2.2.1,c.2.2.2.2+1,d.2.2.2.2.1,d.2.2.2.2.2):U3) λ_ d=>f2 d
  kH e.1 (λ_=>do
   QD (e.2.2.2.2.1+1)
   cC (.yield (af,e.2.1,e.2.2.1,e.2.2.2.1,e.2.2.2.2.1+1))) λr=>cC (.done (aa r,e.2.1,e.2.2.1,e.2.2.2.1,e.2.2.2.2.1))) λr=>cC (.done (aa r,d.2.1,d.2.2.1,d.2.2.2.1,c.2.2.2.2))
def zx(a b:KA):Ur a b=(do
 nN "list.sort.merge-hi"
 let x <-gv a (a.size-1)
 if a.size-1 == 0 then return dh a b #[x] (a.size-1) b.size
 if b.size == 1 then return fh a b #[x] (a.size-1) b.size
 let τ <-get
 let c <-ng [0:a.size+b.size] ((af,a.size-1,b.size,#[x],gallopOf τ):U1) λ_ c=>TT (a.size+b.size) (H1 a b) (H2 a b) c
 kH c.1 (λ_=>o9 "internal:list.sort.merge-bound") λr=>cC r):=rfl
def jW{a:KA}{t i:Nat}:(a.extract t i).toList=(a.toList.take i).drop t:=by
 rw[iN,gw,List.drop_take]
noncomputable abbrev rv(a:KA)(i:Nat):List bW:=(a.toList.take i).reverse
def WO{a:KA}{i:Nat}(h:0<i)(h2:i<=a.size):rv a i=a[i-1]::rv a (i-1):=by
 obtain⟨k,rfl⟩:∃k,i=k+1:=⟨i-1,by lia⟩
 show(a.toList.take (k+1)).reverse=_;rw[List.take_succ_eq_append_getElem (by rw[aN];exact h2),mX];rfl
def j9{a:KA}{t i:Nat}(h:t<=i):rv a i=((a.toList.take i).drop t).reverse++rv a t:=by
 rw[<-mX];have:=cG t (a.toList.take i);rw[pT,iY h]at this;rw[this]
section
variable{prog:bq}{w:bK}{A:bQ}{E:au->ax->Prop}{s:ax}{κ:fG}{In:bW->Prop}{rk:bW->Nat}{a b:KA}{T:List bW}{o:KA}{i j:Nat}
abbrev Hi(rk:bW->Nat)(a b:KA)(T:List bW)(o:KA)(i j:Nat):Prop:=ML (gr rk) T o.toList (rv a i) (rv b j)
structure Ih(rk:bW->Nat)(a b:KA)(T:List bW)(o:KA)(i j:Nat):Prop where
 m:Hi rk a b T o i j
 i0:0<i
 i1:i<=a.size
 j0:1<j
 j1:j<=b.size
 z:o.size+i+j=a.size+b.size
def Jv{l:List bW}{r:KA}(h:l.Perm T/\Srt (gr rk) l)(e:r.toList=l.reverse):Res rk T r:=by
 unfold Res;rw[e];exact⟨(fT l).trans h.1,fM.mpr h.2⟩
def Zbh(h:Hi rk a b T o i j)(hi:(i == 0)=aj):Res rk T (dh a b o i j):=by
 cases beq_iff_eq.mp hi;refine Jv (ML.fin h.swap) ?_;simp
def Zfi(h:Hi rk a b T o i j)(hj:(j == 0)=aj):Res rk T (dh a b o i j):=by
 cases beq_iff_eq.mp hj;refine Jv (ML.fin h) ?_;simp
def Ga(fs:∀x∈a.toList,∀y∈b.toList.take 1,rk y<rk x)(h:Hi rk a b T o i j)(hj:(j == 1)=aj):Res rk T (fh a b o i j):=by
 cases beq_iff_eq.mp hj;have:=(ML.as (by rw[cT];exact h) λx hx y hy=>fs x (c6 (ei.mp hx)) y (ei.mp hy)).swap.fin
 refine Jv this ?_;simp
def qa(h:Hi rk a b T o i j)(i0:0<i)(i1:i<=a.size)(hx:∀y∈rv b j,rk y<rk a[i-1]):Hi rk a b T (o.push a[i-1]) (i-1) j:=by
 unfold Hi at h ⊢;rw[WO i0 i1]at h;rw[fS];exact ML.as h λx hx' y hy'=>by rw[aU.mp hx'];exact hx y hy'
def Zcl(h:Hi rk a b T o i j)(j0:0<j)(j1:j<=b.size)(hx:∀y∈rv a i,rk y<rk b[j-1]):Hi rk a b T (o.push b[j-1]) i (j-1):=by
 unfold Hi at h ⊢;rw[WO j0 j1]at h;rw[fS];exact ML.bs h λx hx' y hy'=>by rw[aU.mp hx'];exact hx y hy'
def wp{l:List bW}{x y:bW}(h:Srt (gr rk) (x::l))(hx:rk x<rk y):∀z∈x::l,rk z<rk y:=λz hz=>by
 rcases az.mp hz with rfl|hz
 ·exact hx
 ·exact db ((aZ.mp h).1 z hz) hx
theorem vc(O:Od prog w A E s κ In rk){lf:Bool}{k:bW}{ar:KA}{n:Nat}{τ:bR}{Q:Option Nat->bR->Prop}(hk:kindOf τ=κ)(ik:In k)(hn:0<n)(h1:n<=ar.size)(ia:∀x∈ar.toList,In x)(so:Srt (gr rk) (rv ar n))(ne:∀x∈rv ar n,rk x≠rk k)
  (hq:∀r,r<=n->(∀x∈rv ar r,rk x<rk k)->(∀x∈((ar.toList.take n).drop r).reverse,rk k<rk x)->Q (aa r) τ):mr (aS prog w) A E s (Yl lf k ar 0 n (n-1)) Q τ:=by
 refine wG O hk ik (Nat.sub_lt hn Nat.one_pos) (by lia) ia (fM.mp so) (λx hx=>ne x (ei.mpr hx)) λr h2 h3 h4=>hq r h2 (λx hx=>h3 x ?_) λx hx=>h4 x (ei.mp hx)
 have hx:=ei.mp hx;rw[pT,iY h2];exact hx
def V8{a:KA}{i:Nat}(i0:0<i)(i1:i<=a.size):a[i-1]∈rv a i:=by rw[WO i0 i1];exact ao ..
def zK{a:KA}{i:Nat}{x:bW}(h:x∈rv a i):x∈a.toList:=c6 (ei.mp h)
section
variable(O:Od prog w A E s κ In rk)(G:Mg κ In rk a b T)(fs:∀x∈a.toList,∀y∈b.toList.take 1,rk y<rk x)
include O G fs
theorem Zen{g ca cb:Nat}{r0:Option KA}{τ:bR}{Q:ForInStep U2->bR->Prop}(hk:kindOf τ=κ)(I:Ih rk a b T o i j)
  (hd:∀r c,Res rk T r->Q (.done (aa r,c)) τ)(hb:∀o' i' j' ca cb,Ih rk a b T o' i' j'->o'.size=o.size+1->Q (.done (af,i',j',o',ca,cb)) τ/\Q (.yield (af,i',j',o',ca,cb)) τ):mr (aS prog w) A E s (H1 a b g (r0,i,j,o,ca,cb)) Q τ:=by
 obtain⟨m,i0,i1,j0,j1,z⟩:=I;have j0':=dR j0;have hja:j-1<b.size:=by lia
 have hia:i-1<a.size:=by lia
 have ha:=V8 i0 i1;have hb':=V8 j0' j1;have sa:=m.sa;have sb:=m.sb;rw[WO i0 i1]at sa;rw[WO j0' j1]at sb;refine aK (ZF (ZO hja) (aK (ZF (ZO hia) (aK (O.ask (G.ib _ (zK hb')) (G.ia _ (zK ha)) hk ?_)))));by_cases c:rk b[j-1]<rk a[i-1]
 ·rw[T5 c]
  refine aK (ZF (ZO hia) ?_);have m:=qa m i0 i1 (by rw[WO j0' j1];exact wp sb c)
  have z':(o.push a[i-1]).size=o.size+1:=d3 ..;refine ZC (λq=>aT (hd _ _ (Zbh m q))) λq=>?_
  have q:i-1≠0:=λz=>q (beq_iff_eq.mpr z)
  have h:=hb _ _ _ (ca+1) 0 ⟨m,by lia,by lia,j0,j1,by lia⟩ z'
  exact ZC (λ_=>aT h.1) λ_=>aT h.2
 ·rw[T4 c]
  refine aK (ZF (ZO hja) ?_);have c':=gP (fb c) (m.ne G.nd ha hb');have m:=Zcl m j0' j1 (by rw[WO i0 i1];exact wp sa c')
  have z':(o.push b[j-1]).size=o.size+1:=d3 ..;refine ZC (λq=>aT (hd _ _ (Ga fs m q))) λq=>?_
  have q:j-1≠1:=λz=>q (beq_iff_eq.mpr z)
  have h:=hb _ _ _ 0 (cb+1) ⟨m,i0,i1,by lia,by lia,by lia⟩ z'
  exact ZC (λ_=>aT h.1) λ_=>aT h.2
section
variable{Q:ForInStep U3->bR->Prop}
theorem ZcQ{g ca cb:Nat}{τ:bR}(I:Ih rk a b T o i j)(hx:∀y∈rv b j,rk y<rk (a[i-1]'(by have:=I.i0;have:=I.i1;lia)))
  (hd:∀r c,Res rk T r->Q (.done (aa r,c)) τ)(hb:∀o' i' j' g ca cb,Ih rk a b T o' i' j'->o'.size=o.size+1->Q (.done (af,i',j',o',g,ca,cb)) τ/\Q (.yield (af,i',j',o',g,ca,cb)) τ):mr (aS prog w) A E s (K3 a b g ca cb i o j) Q τ:=by
 obtain⟨m,i0,i1,j0,j1,z⟩:=I;refine aK (ZF (ZO (by lia)) ?_)
 have m:=qa m i0 i1 hx;have z':(o.push a[i-1]).size=o.size+1:=d3 ..;refine ZC (λq=>aT (hd _ _ (Zbh m q))) λq=>?_
 have q:i-1≠0:=λz=>q (beq_iff_eq.mpr z)
 have h:=hb _ _ _ g ca cb ⟨m,by lia,by lia,j0,j1,by lia⟩ z'
 exact ZC (λ_=>aT h.1) λ_=>aT h.2
theorem ZcF{g ca cb:Nat}{τ:bR}(hk:kindOf τ=κ)(I:Ih rk a b T o i j)(hy:∀y∈rv a i,rk y<rk (b[j-1]'(by have:=I.j0;have:=I.j1;lia)))
  (hd:∀r c,Res rk T r->Q (.done (aa r,c)) τ)(hb:∀o' i' j' g ca cb,Ih rk a b T o' i' j'->o.size<o'.size->Q (.done (af,i',j',o',g,ca,cb)) τ/\Q (.yield (af,i',j',o',g,ca,cb)) τ):mr (aS prog w) A E s (K2 a b g ca cb j o i) Q τ:=by
 obtain⟨m,i0,i1,j0,j1,z⟩:=I;refine aK (ZF (ZO (by lia)) ?_)
 have m:=Zcl m (dR j0) j1 hy;have z':(o.push b[j-1]).size=o.size+1:=d3 ..;refine ZC (λq=>aT (hd _ _ (Ga fs m q))) λq=>?_
 have q:j-1≠1:=λz=>q (beq_iff_eq.mpr z)
 have ha:=V8 i0 i1;refine aK (ZF (ZO (by lia)) (aK (vc O hk (G.ia _ (zK ha)) (by lia) (by lia) G.ib m.sb (λy hy=>(m.ne G.nd ha hy).symm) λr hr h1 h2=>?_)))
 refine ZC (λc=>?_) λc=>?_
 ·have m2:Hi rk a b T (o.push b[j-1]++(b.extract r (j-1)).reverse) i r:=by
   unfold Hi;rw[cn,mI,jW];refine ML.bs ?_ λy hy x hx=>?_
   ·rw[<-j9 hr];exact m
   ·have sa:=m.sa
    rw[WO i0 i1]at sa hx;exact wp sa (h2 y hy) x hx
  have z2:(o.push b[j-1]++(b.extract r (j-1)).reverse).size=o.size+1+(j-1-r):=by rw[g8,z',nI,gQ];lia
  refine ZC (λq=>aT (hd _ _ (Ga fs m2 q))) λq1=>ZC (λq=>aT (hd _ _ (Zfi m2 q))) λq2=>?_
  have q1:r≠1:=λz=>q1 (beq_iff_eq.mpr z)
  have q2:r≠0:=λz=>q2 (beq_iff_eq.mpr z)
  exact ZcQ O G fs ⟨m2,i0,i1,by lia,by lia,by lia⟩ h1 hd λo' i' j' g ca cb I e=>hb o' i' j' g ca cb I (by lia)
 ·have e:r=j-1:=by lia
  subst e;exact ZcQ O G fs ⟨m,i0,i1,by lia,by lia,by lia⟩ h1 hd λo' i' j' g ca cb I e=>hb o' i' j' g ca cb I (by lia)
theorem ZcC{g ca cb:Nat}{τ:bR}(hk:kindOf τ=κ)(I:Ih rk a b T o i j)
  (hd:∀r c st',Sg τ st'->Res rk T r->Q (.done (aa r,c)) st')(hb:∀o' i' j' g ca cb st',Sg τ st'->Ih rk a b T o' i' j'->o.size<o'.size->Q (.done (af,i',j',o',g,ca,cb)) st'/\Q (.yield (af,i',j',o',g,ca,cb)) st'):mr (aS prog w) A E s (K1 a b o i j ca cb g) Q τ:=by
 obtain⟨m,i0,i1,j0,j1,z⟩:=I;have j0':=dR j0;have hb':=V8 j0' j1;refine aK (V7 λst' sg=>aK (ZF (ZO (by lia)) (aK (vc O (sg.1.trans hk) (G.ib _ (zK hb')) i0 i1 G.ia m.sa (λx hx=>m.ne G.nd hx hb') λr hr h1 h2=>?_))))
 refine ZC (λc=>?_) λc=>?_
 ·have m2:Hi rk a b T (o++(a.extract r i).reverse) r j:=by
   unfold Hi;rw[cn,mI,jW];refine ML.as ?_ λx hx y hy=>?_
   ·rw[<-j9 hr];exact m
   ·have sb:=m.sb
    rw[WO j0' j1]at sb hy;exact wp sb (h2 x hx) y hy
  have z2:(o++(a.extract r i).reverse).size=o.size+(i-r):=by rw[g8,nI,gQ];lia
  refine ZC (λq=>aT (hd _ _ st' sg (Zbh m2 q))) λq=>?_
  have q:r≠0:=λz=>q (beq_iff_eq.mpr z)
  exact ZcF O G fs (sg.1.trans hk) ⟨m2,by lia,by lia,j0,j1,by lia⟩ h1 (λr c=>hd r c st' sg) λo' i' j' g ca cb I e=>hb o' i' j' g ca cb st' sg I (by lia)
 ·have e:r=i:=by lia
  subst e;exact ZcF O G fs (sg.1.trans hk) ⟨m,i0,i1,j0,j1,z⟩ h1 (λr c=>hd r c st' sg) λo' i' j' g ca cb I e=>hb o' i' j' g ca cb st' sg I (by lia)
theorem ZeV{g ca cb:Nat}{r0:Option KA}{τ:bR}(hk:kindOf τ=κ)(I:Ih rk a b T o i j)
  (hd:∀r c st',Sg τ st'->Res rk T r->Q (.done (aa r,c)) st')(hb:∀o' i' j' g ca cb st',Sg τ st'->Ih rk a b T o' i' j'->o.size<o'.size->Q (.done (af,i',j',o',g,ca,cb)) st'/\Q (.yield (af,i',j',o',g,ca,cb)) st'):mr (aS prog w) A E s (H2 a b (r0,i,j,o,g,ca,cb)) Q τ:=by
 exact ZC (λ_=>ZcC O G fs hk I hd hb) λ_=>ZcC O G fs hk I hd hb
end
theorem ZeF{g:Nat}{r0:Option KA}{τ:bR}{Q:ForInStep U1->bR->Prop}(hk:kindOf τ=κ)(I:Ih rk a b T o i j)
  (hd:∀r c st',Sg τ st'->Res rk T r->Q (.done (aa r,c)) st')(hy:∀o' i' j' g st',Sg τ st'->Ih rk a b T o' i' j'->o.size<o'.size->Q (.yield (af,i',j',o',g)) st'):mr (aS prog w) A E s (TT (a.size+b.size) (H1 a b) (H2 a b) (r0,i,j,o,g)) Q τ:=by
 refine aK (eS (cH
  (I:=λx (c:U2) st'=>st'=τ/\c.1=af/\Ih rk a b T c.2.2.2.1 c.2.1 c.2.2.1/\o.size+x<=c.2.2.2.1.size)
  (Q:=λ(c:U2) st'=>st'=τ/\((∃r,c.1=aa r/\Res rk T r)\/c.1=af/\Ih rk a b T c.2.2.2.1 c.2.1 c.2.2.1/\o.size<c.2.2.2.1.size)) ?_ ?_ ⟨rfl,rfl,I,aI _⟩) ?_)
 ·rintro x ⟨r,i',j',o',ca,cb⟩ st' _ _ ⟨rfl,rfl,I',hz⟩
  exact Zen O G fs hk I' (λr c h=>⟨rfl,.inl ⟨r,rfl,h⟩⟩) λo2 i2 j2 ca cb I2 e=>⟨⟨rfl,.inr ⟨rfl,I2,by dsimp only at hz ⊢;lia⟩⟩,rfl,rfl,I2,by dsimp only at hz ⊢;lia⟩
 ·rintro ⟨r,i',j',o',ca,cb⟩ st' ⟨rfl,rfl,I',hz⟩
  have:=I'.i0;have:=I'.j0;have:=I'.z;lia
 ·rintro ⟨r,i',j',o',ca,cb⟩ st' ⟨rfl,⟨r',rfl,h⟩|⟨rfl,I',hz⟩⟩
  ·exact aT (hd _ _ _ ⟨rfl,rfl,rfl,rfl⟩ h)
  ·dsimp only at I' hz
   refine aK (X1 (aK (eS (cH
    (I:=λx (c:U3) st''=>Sg st' st''/\c.1=af/\Ih rk a b T c.2.2.2.1 c.2.1 c.2.2.1/\o'.size+x<=c.2.2.2.1.size)
    (Q:=λ(c:U3) st''=>Sg st' st''/\((∃r,c.1=aa r/\Res rk T r)\/c.1=af/\Ih rk a b T c.2.2.2.1 c.2.1 c.2.2.1/\o'.size<c.2.2.2.1.size)) ?_ ?_ ⟨⟨rfl,rfl,rfl,rfl⟩,rfl,I',aI _⟩) ?_)))
   ·rintro x ⟨r,i2,j2,o2,g,ca,cb⟩ st2 _ _ ⟨sg,rfl,I2,hz2⟩
    dsimp only at I2 hz2
    exact ZeV O G fs (sg.1.trans hk) I2 (λr c st3 s3 h=>⟨sg.trans s3,.inl ⟨r,rfl,h⟩⟩) λo3 i3 j3 g ca cb st3 s3 I3 e=>⟨⟨sg.trans s3,.inr ⟨rfl,I3,by dsimp only;lia⟩⟩,sg.trans s3,rfl,I3,by dsimp only;lia⟩
   ·rintro ⟨r,i2,j2,o2,g,ca,cb⟩ st2 ⟨sg,rfl,I2,hz2⟩
    have:=I2.i0;have:=I2.j0;have:=I2.z;lia
   ·rintro ⟨r,i2,j2,o2,g,ca,cb⟩ st2 ⟨sg,⟨r',rfl,h⟩|⟨rfl,I2,hz2⟩⟩
    ·exact aT (hd _ _ _ sg h)
    ·exact aK (V7 λst3 s3=>aT (hy _ _ _ _ _ (sg.trans s3) I2 (db hz hz2)))
theorem xq{τ:bR}{Q:KA->bR->Prop}(hk:kindOf τ=κ)(ha:0<a.size)(hb:0<b.size)(sa:Srt (lr rk) a.toList)(sb:Srt (lr rk) b.toList)(hT:(a.toList++b.toList).Perm T)
  (hq:∀r st',Sg τ st'->Res rk T r->Q r st'):mr (aS prog w) A E s (Ur a b) Q τ:=by
 rw[zx];refine aK (X1 (aK (ZF (ZO (by lia)) ?_)))
 have ea:rv a a.size=a.toList.reverse:=by show(a.toList.take a.size).reverse=_;rw[<-aN,gn]
 have eb:rv b b.size=b.toList.reverse:=by show(b.toList.take b.size).reverse=_;rw[<-aN,gn]
 have m0:Hi rk a b T #[] a.size b.size:=by
  unfold Hi;rw[ea,eb];exact⟨by simpa using((fT _).append (fT _)).trans hT,.nil,fM.mpr sa,fM.mpr sb,λx hx=>by cases hx⟩
 have m:=qa m0 ha (aI _) λy hy=>G.last y (zK hy) _ (by rw[Yb (by lia)];exact ao ..)
 have sg0:Sg τ τ:=⟨rfl,rfl,rfl,rfl⟩;refine ZC (λq=>aT (hq _ _ sg0 (Zbh m q))) λq1=>ZC (λq=>aT (hq _ _ sg0 (Ga fs m q))) λq2=>?_
 have q1:a.size-1≠0:=λz=>q1 (beq_iff_eq.mpr z)
 have q2:b.size≠1:=λz=>q2 (beq_iff_eq.mpr z)
 refine aK (g9 (aK (eS (cH
  (I:=λx (c:U1) st''=>Sg τ st''/\c.1=af/\Ih rk a b T c.2.2.2.1 c.2.1 c.2.2.1/\x<=c.2.2.2.1.size)
  (Q:=λ(c:U1) st''=>Sg τ st''/\∃r,c.1=aa r/\Res rk T r) ?_ ?_ ⟨sg0,rfl,⟨m,by dsimp only;lia,by dsimp only;lia,by dsimp only;lia,aI _,by show 1+(a.size-1)+b.size=_;lia⟩,dN _⟩) ?_)))
 ·rintro x ⟨r,i,j,o,g⟩ st2 _ _ ⟨sg,rfl,I,hz⟩
  dsimp only at I hz
  exact ZeF O G fs (sg.1.trans hk) I (λr c st3 s3 h=>⟨sg.trans s3,r,rfl,h⟩) λo3 i3 j3 g st3 s3 I3 e=>⟨sg.trans s3,rfl,I3,by dsimp only;lia⟩
 ·rintro ⟨r,i,j,o,g⟩ st2 ⟨sg,rfl,I,hz⟩
  have:=I.i0;have:=I.j0;have:=I.z;lia
 ·rintro ⟨r,i,j,o,g⟩ st2 ⟨sg,r',rfl,h⟩
  exact aT (hq _ _ sg h)
end
end
noncomputable def Kr(rk:bW->Nat)(xs:Array bW)(i:Nat):Nat:=match xs[i]? with
 |some p=>rk p
 |none=>0
def WG(h:xs[i]?=ys[j]?):Kr rk xs i=Kr rk ys j:=by unfold Kr;rw[h]
structure Sb(κ:fG)(a₀:Array bW)(P:Array (Nat×Nat×Nat))(lo:Nat)(L:List bW)(τ:bR):Prop where
 kd:kindOf τ=κ
 pm:(bj τ).Perm a₀
 fl:gF τ=af
 pd:bo τ=P
 ah:(bj τ).toList.take lo=L
def Up(rk:bW->Nat)(xs:Array bW)(lo m:Nat):Prop:=∀i j,lo<=i->i<j->j<lo+m->Kr rk xs i<Kr rk xs j
def Dn(rk:bW->Nat)(xs:Array bW)(lo m:Nat):Prop:=∀i j,lo<=i->i<j->j<lo+m->Kr rk xs j<Kr rk xs i
section
variable{κ:fG}{a₀:Array bW}{P:Array (Nat×Nat×Nat)}{lo:Nat}{L:List bW}{τ:bR}{In:bW->Prop}{rk:bW->Nat}
theorem Sb.size(h:Sb κ a₀ P lo L τ):(bj τ).size=a₀.size:=h.pm.size_eq
def Sb.in(h:Sb κ a₀ P lo L τ)(ia:∀x∈a₀.toList,In x):∀x∈(bj τ).toList,In x:=λx hx=>ia x ((bJ.mp h.pm).mem_iff.mp hx)
def GI(hi:i<xs.size):Kr rk xs i=rk xs[i]:=by unfold Kr;rw[bG hi]
theorem Sb.ne(h:Sb κ a₀ P lo L τ)(nd:(a₀.toList.map rk).Nodup)(hi:i<a₀.size)(hj:j<a₀.size)(e:Kr rk (bj τ) i=Kr rk (bj τ) j):i=j:=by
 have hs:=h.size;have n:=(((bJ.mp h.pm).map rk).nodup_iff).mpr nd;have g:∀k,k<a₀.size->((bj τ).toList.map rk)[k]?=aa (Kr rk (bj τ) k):=λk hk=>by
  rw[aR,bv,bG (by lia),GI (by lia)];rfl
 exact(hJ (by rw[aB,aN];lia) n).mp (by rw[g i hi,g j hj,e])
def Sb.setA(h:Sb κ a₀ P lo L τ)(hp:xs.Perm (bj τ))(hf:∀k,k<lo->xs[k]?=(bj τ)[k]?):Sb κ a₀ P lo L (setArr τ xs):=
 ⟨h.kd,hp.trans h.pm,h.fl,h.pd,by
  rw[<-h.ah];refine cX λk=>?_
  rw[cQ,cQ];split
  ·rw[bv,bv];exact hf k ‹_›
  ·rfl⟩
variable{prog:bq}{w:bK}{A:bQ}{E:au->ax->Prop}{s:ax}
theorem Q3(O:Od prog w A E s κ In rk)(h:Sb κ a₀ P lo L τ)(ia:∀x∈a₀.toList,In x){Q:Option Bool->bR->Prop}(hi:i<a₀.size)(hj:j<a₀.size)(q:Q (aa (ag (Kr rk (bj τ) i<Kr rk (bj τ) j))) τ):mr (aS prog w) A E s (ltAt' i j) Q τ:=by
 have hs:=h.size;have m:∀k (hk:k<(bj τ).size),In (bj τ)[k]:=λk hk=>h.in ia _ (by simp)
 rw[ltAt'_eq];refine aK (g9 ?_);refine aK (ZF (ZO (by lia)) (aK (ZF (ZO (by lia)) ?_)))
 rw[GI (by lia),GI (by lia)]at q
 exact O.ask (m i _) (m j _) h.kd q
theorem ZcS(xs:Array bW):Up rk xs lo 1:=λi j a b c=>by lia
theorem ZbX(h1:1<=m)(u:Up rk xs lo m)(c:Kr rk xs (lo+m-1)<Kr rk xs (lo+m)):Up rk xs lo (m+1):=λi j a b d=>by
 by_cases z:j=lo+m
 ·subst z
  by_cases y:i=lo+m-1
  ·rw[y];exact c
  ·exact db (u i (lo+m-1) a (by lia) (by lia)) c
 ·exact u i j a b (by lia)
theorem ZbE(h1:1<=m)(u:Dn rk xs lo m)(c:Kr rk xs (lo+m)<Kr rk xs (lo+m-1)):Dn rk xs lo (m+1):=λi j a b d=>by
 by_cases z:j=lo+m
 ·subst z
  by_cases y:i=lo+m-1
  ·rw[y];exact c
  ·exact db c (u i (lo+m-1) a (by lia) (by lia))
 ·exact u i j a b (by lia)
theorem qi(O:Od prog w A E s κ In rk)(ia:∀x∈a₀.toList,In x)(nd:(a₀.toList.map rk).Nodup){Q:AscSt->bR->Prop}
  (hF:∀i m (Q:ForInStep AscSt->bR->Prop),1<=m->m<nrem->(Kr rk (bj τ) (lo+m)<Kr rk (bj τ) (lo+m-1)->Q (.done (af,m)) τ)->(¬Kr rk (bj τ) (lo+m)<Kr rk (bj τ) (lo+m-1)->Q (.yield (af,m+1)) τ)->mr (aS prog w) A E s (F i (af,m)) Q τ)
  (hn:lo+nrem<=a₀.size)(h1:1<=n0)(hl:n0<=nrem)(hB:Sb κ a₀ P lo L τ)(u:Up rk (bj τ) lo n0)
  (q:∀m,n0<=m->m<=nrem->Up rk (bj τ) lo m->(m<nrem->Kr rk (bj τ) (lo+m)<Kr rk (bj τ) (lo+m-1))->Q (af,m) τ):mr (aS prog w) A E s (ng [n0:nrem] ((af,n0):AscSt) F) Q τ:=by
 refine cH (I:=λi c st'=>st'=τ/\c=(af,i)/\Up rk (bj τ) lo i) ?_ ?_ ⟨rfl,rfl,u⟩
 ·rintro i c st' ha hb ⟨rfl,rfl,u⟩
  refine hF i i _ (by lia) hb (λc=>q i ha (by lia) u λ_=>c) λc=>⟨rfl,rfl,ZbX (by lia) u ?_⟩
  have:Kr rk (bj st') (lo+i-1)≠Kr rk (bj st') (lo+i):=λe=>by
   have:=hB.ne nd (by lia) (by lia) e
   lia
  lia
 ·rintro c st' ⟨rfl,rfl,u⟩
  have e:max n0 nrem=nrem:=by lia
  rw[e]at u ⊢;exact q nrem hl (aI _) u λz=>T7 z (bH _)
theorem ZaM(O:Od prog w A E s κ In rk)(ia:∀x∈a₀.toList,In x)(nd:(a₀.toList.map rk).Nodup){Q:Option Nat->bR->Prop}(hn:lo+nrem<=a₀.size)(h1:1<=nrem)(hB:Sb κ a₀ P lo L τ)
  (q:∀m st',Sb κ a₀ P lo L st'->1<=m->m<=nrem->Up rk (bj st') lo m->Q (aa m) st'):mr (aS prog w) A E s (countRun' lo nrem) Q τ:=by
 rw[countRun'_eq];refine aK (qi O ia nd (λi m Q a b k1 k2=>?_) hn (aI _) h1 hB (ZcS _) λm m1 m2 u c=>?_)
 ·refine aK (Q3 O hB ia (by lia) (by lia) ?_)
  dsimp only
  split
  ·exact aT (k1 (T6 ‹_›))
  ·exact aT (k2 λz=>‹¬_› (T5 z))
 dsimp only
 by_cases e:m=nrem
 ·rw[T9 (by simpa using e)]
  exact aT (q m τ hB m1 m2 u)
 rw[T8 (by simpa using e)]
 by_cases c1:m>1
 ·rw[T9 c1]
  refine aK (Q3 O hB ia (by lia) (by lia) ?_)
  dsimp only
  rw[T9 (T5 (u lo (lo+m-1) (aI _) (by lia) (by lia)))]
  exact aT (q m τ hB m1 m2 u)
 rw[T8 c1];obtain rfl:m=1:=by lia
 refine aK (X1 ?_);have nl:∀i j,i<a₀.size->j<a₀.size->i≠j->¬Kr rk (bj τ) i<Kr rk (bj τ) j->Kr rk (bj τ) j<Kr rk (bj τ) i:=λi j hi hj ne c=>by
  have:Kr rk (bj τ) i≠Kr rk (bj τ) j:=λe=>ne (hB.ne nd hi hj e)
  lia
 have d2:Dn rk (bj τ) lo 2:=λi j a b d=>by
  obtain⟨rfl,rfl⟩:i=lo/\j=lo+1:=by lia
  exact c (by lia)
 refine aK (eS (cH (I:=λi c st'=>st'=τ/\c=(af,i,0)/\Dn rk (bj τ) lo i) (Q:=λc st'=>st'=τ/\∃i,c=(af,i,0)/\2<=i/\i<=nrem/\Dn rk (bj τ) lo i) ?_ ?_ ⟨rfl,rfl,d2⟩) ?_)
 ·rintro i c st' ha hb ⟨rfl,rfl,u⟩
  dsimp only
  refine aK (Q3 O hB ia (by lia) (by lia) ?_)
  dsimp only
  split
  ·rw[T8 (bH 0)]
   exact aT ⟨rfl,rfl,ZbE (by lia) u (T6 ‹_›)⟩
  ·refine aK (Q3 O hB ia (by lia) (by lia) ?_)
   dsimp only
   rw[T9 (T5 (nl (lo+i) (lo+i-1) (by lia) (by lia) (by lia) λz=>‹¬_› (T5 z)))]
   exact aT ⟨rfl,i,rfl,by lia,by lia,u⟩
 ·rintro c st' ⟨rfl,rfl,u⟩
  have e:max (1+1) nrem=nrem:=by lia
  rw[e]at u ⊢;exact⟨rfl,nrem,rfl,by lia,aI _,u⟩
 ·rintro c st' ⟨rfl,i,rfl,h2,hi,u⟩
  dsimp only
  rw[T8 (bH 0)];refine aK (wpS_reverse ?_);have hs:=hB.size;have gm:=λk=>getElem?_mirror_all (xs:=bj st') (i:=lo) (j:=lo+i) (by lia) k
  have hB2:=hB.setA (mirror_perm ..) λk hk=>by
   rw[gm k,T8 (by lia)]
  have u2:Up rk (mirror (bj st') lo (lo+i) ((lo+i-lo) / 2)) lo i:=λa b h1 h2 h3=>by
   have e:∀k,lo<=k->k<lo+i->Kr rk (mirror (bj st') lo (lo+i) ((lo+i-lo) / 2)) k=Kr rk (bj st') (lo+(lo+i-1-k)):=λk ka kb=>WG (by rw[gm k,T9 ⟨ka,kb⟩];congr 1;lia)
   rw[e a h1 (by lia),e b (by lia) h3]
   exact u _ _ (by lia) (by lia) (by lia)
  refine aK (qi O ia nd (λi m Q a b k1 k2=>?_) hn (by lia) hi hB2 u2 λm m1 m2 u c=>?_)
  ·refine aK (Q3 O hB2 ia (by dsimp only;lia) (by dsimp only;lia) ?_)
   dsimp only
   split
   ·exact aT (k1 (T6 ‹_›))
   ·exact aT (k2 λz=>‹¬_› (T5 z))
  ·exact aT (q m _ hB2 (by lia) m2 u)
theorem Zce(O:Od prog w A E s κ In rk)(ia:∀x∈a₀.toList,In x)(nd:(a₀.toList.map rk).Nodup){Q:Bool->bR->Prop}(hn:lo+n<=a₀.size)(h1:1<=ok)(hok:ok<=n)(hB:Sb κ a₀ P lo L τ)(u:Up rk (bj τ) lo ok)
  (q:∀st',Sb κ a₀ P lo L st'->Up rk (bj st') lo n->Q aj st'):mr (aS prog w) A E s (binarySort' lo n ok) Q τ:=by
 rw[binarySort'_eq];refine aK (eS (cH (I:=λk c st'=>c=(af,())/\Sb κ a₀ P lo L st'/\Up rk (bj st') lo k) (Q:=λc st'=>c=(af,())/\Sb κ a₀ P lo L st'/\Up rk (bj st') lo n) ?_ ?_ ⟨rfl,hB,by rw[Nat.max_eq_left h1];exact u⟩) ?_)
 ·rintro k c st' ha hb ⟨rfl,B,u⟩
  have hs:=B.size;refine aK (eS (cH (I:=λx c st2=>st2=st'/\∃l r,c=(af,l,r)/\l<=r/\r<=k/\r-l<=k-x/\(∀i,i<l->Kr rk (bj st') (lo+i)<Kr rk (bj st') (lo+k))/\∀i,r<=i->i<k->Kr rk (bj st') (lo+k)<Kr rk (bj st') (lo+i))
   (Q:=λc st2=>st2=st'/\∃l r,c=(af,l,r)/\l<=k/\(∀i,i<l->Kr rk (bj st') (lo+i)<Kr rk (bj st') (lo+k))/\∀i,l<=i->i<k->Kr rk (bj st') (lo+k)<Kr rk (bj st') (lo+i)) ?_ ?_ ⟨rfl,0,k,rfl,by lia,by lia,by lia,λi hi=>by lia,λi a b=>by lia⟩) ?_)
  ·rintro x c st2 _ hx ⟨rfl,l,r,rfl,g1,g2,g3,g4,g5⟩
   dsimp only
   by_cases c:l>=r
   ·rw[T9 c]
    exact aT ⟨rfl,l,r,rfl,by lia,g4,λi a b=>g5 i (by lia) b⟩
   ·rw[T8 c]
    refine aK (Q3 O B ia (by lia) (by lia) ?_)
    dsimp only
    split
    ·have cm:=T6 ‹_›
     refine aT ⟨rfl,l,(l+r) / 2,rfl,by lia,by lia,by lia,g4,λi a b=>?_⟩
     by_cases y:i=(l+r) / 2
     ·rw[y];exact cm
     ·exact db cm (u _ _ (by lia) (by lia) (by lia))
    ·have cm:Kr rk (bj st2) (lo+(l+r) / 2)<Kr rk (bj st2) (lo+k):=by
      have z:¬Kr rk (bj st2) (lo+k)<Kr rk (bj st2) (lo+(l+r) / 2):=λz=>‹¬_› (T5 z)
      have:Kr rk (bj st2) (lo+k)≠Kr rk (bj st2) (lo+(l+r) / 2):=λe=>by
       have:=B.ne nd (by lia) (by lia) e
       lia
      lia
     refine aT ⟨rfl,(l+r) / 2+1,r,rfl,by lia,by lia,by lia,λi a=>?_,g5⟩
     by_cases y:i=(l+r) / 2
     ·rw[y];exact cm
     ·exact db (u _ _ (by lia) (by lia) (by lia)) cm
  ·rintro c st2 ⟨rfl,l,r,rfl,g1,g2,g3,g4,g5⟩
   exact⟨rfl,l,r,rfl,by lia,g4,λi a b=>g5 i (by lia) b⟩
  ·rintro c st2 ⟨rfl,l,r,rfl,g2,g4,g5⟩
   dsimp only
   rw[moveDown'_eq];refine aK (fz (aT ?_));have gb:=λi=>getElem?_bubble (xs:=bj st2) (src:=lo+k) (by lia) (lo+k-(lo+l)) (by lia) i
   have e1:lo+k-(lo+k-(lo+l))=lo+l:=by lia
   rw[e1]at gb;refine⟨rfl,B.setA (bubble_perm ..) λi hi=>?_,λi j a b d=>?_⟩
   ·rw[gb i,T8 (by lia),T8 (by lia)]
   ·have e:∀i,Kr rk (bubble (bj st2) (lo+k) (lo+k-(lo+l))) i=if i=lo+l then Kr rk (bj st2) (lo+k)else if lo+l<i/\i<=lo+k then Kr rk (bj st2) (i-1)else Kr rk (bj st2) i:=λi=>by
     have h:=gb i;split at h
     ·rw[T9 ‹_›];exact WG h
     ·rw[T8 ‹_›]
      split at h
      ·rw[T9 ‹_›];exact WG h
      ·rw[T8 ‹_›];exact WG h
    rw[e i,e j];have low:∀x,lo<=x->x<lo+l->Kr rk (bj st2) x<Kr rk (bj st2) (lo+k):=λx a b=>by
     have:=g4 (x-lo) (by lia)
     rwa [show lo+(x-lo)=x by lia]at this
    have high:∀x,lo+l<=x->x<lo+k->Kr rk (bj st2) (lo+k)<Kr rk (bj st2) x:=λx a b=>by
     have:=g5 (x-lo) (by lia) (by lia)
     rwa [show lo+(x-lo)=x by lia]at this
    by_cases ci:i=lo+l
    ·rw[T9 ci,T8 (by lia),T9 (by lia)]
     exact high _ (by lia) (by lia)
    ·rw[T8 ci]
     by_cases cj:j=lo+l
     ·rw[T9 cj,T8 (by lia)]
      exact low _ a (by lia)
     ·rw[T8 cj]
      by_cases di:lo+l<i/\i<=lo+k
      ·rw[T9 di,T9 (by lia)];exact u _ _ (by lia) (by lia) (by lia)
      ·rw[T8 di]
       by_cases dj:lo+l<j/\j<=lo+k
       ·rw[T9 dj]
        by_cases z:i=j-1
        ·lia
        ·exact u _ _ a (by lia) (by lia)
       ·rw[T8 dj];exact u _ _ a b (by lia)
 ·rintro c st' ⟨rfl,B,u⟩
  have e:max (max ok 1) n=n:=by lia
  rw[e]at u;exact⟨rfl,B,u⟩
 ·rintro c st' ⟨rfl,B,u⟩
  exact aT (q st' B u)
end
def zE(i:Nat):mergeAt' i=(do
 let t <-get
 let (aa (ia,ma,pw),aa (ib,mb,_)):=((bo t)[i]?,(bo t)[i+1]?)|unsupported "internal:list.sort.pending"
 set (iC t (((bo t).setIfInBounds i (ia,ma+mb,pw)).eraseIdxIfInBounds (i+1)))
 let aa r <-Yl al (<-gv (bj t) ib) (bj t) ia ma 0|return al
 let (ja,la):=(ia+r,ma-r)
 if la == 0 then return aj
 let aa lb <-Yl aj (<-gv (bj t) (ja+la-1)) (bj t) ib mb (mb-1)|return al
 if lb == 0 then return aj
 let u:=(bj t).extract ja ib
 let v:=(bj t).extract ib (ib+lb)
 let mg <-if la<=lb then UR u v else Ur u v
 modify λt=>setArr t (mg.toList.zipIdx.foldl (λa (p,j)=>a.setIfInBounds (ja+j) p) (bj t))
 return (gF (<-get)).isNone):=rfl
theorem zG(b:Nat):∀(m:List bW)(j:Nat)(a:Array bW),b+j+m.length<=a.size->((m.zipIdx j).foldl (λa q=>a.setIfInBounds (b+q.2) q.1) a).toList=a.toList.take (b+j)++m++a.toList.drop (b+j+m.length)
 |[],j,a,h=>by simp
 |x::r,j,a,h=>by
  rw[aQ]at h;rw[lC,eL,zG b r (j+1) _ (by rw[Array.size_setIfInBounds];lia)]
  dsimp only
  rw[kI,aQ,<-lh b j 1,k7,List.take_set_of_le (aI _),bg (by simpa using(by lia:b+j<a.size)),List.drop_set_of_lt (by lia)]
  simp[lh,ki 1]
def Runs(rk:bW->Nat):List (Nat×Nat)->Nat->Nat->List bW->Prop
 |[],a,b,_=>a=b
 |(i,n)::r,a,b,l=>i=a/\1<=n/\Srt (lr rk) ((l.drop a).take n)/\Runs rk r (a+n) b l
section
variable{rk:bW->Nat}
theorem Runs.le:∀{r:List (Nat×Nat)}{a b:Nat}{l:List bW},Runs rk r a b l->a+r.length<=b
 |[],a,b,l,h=>oo h
 |(i,n)::r,a,b,l,⟨_,h1,_,h⟩=>by have:=h.le;rw[aQ];lia
theorem Runs.app:∀{r q:List (Nat×Nat)}{a b:Nat}{l:List bW},Runs rk (r++q) a b l↔∃c,Runs rk r a c l/\Runs rk q c b l
 |[],q,a,b,l=>⟨λh=>⟨a,rfl,h⟩,λ⟨c,h1,h2⟩=>by cases h1;exact h2⟩
 |(i,n)::r,q,a,b,l=>by
  constructor
  ·rintro ⟨h1,h2,h3,h4⟩
   obtain⟨c,h5,h6⟩:=Runs.app.mp h4;exact⟨c,⟨h1,h2,h3,h5⟩,h6⟩
  ·rintro ⟨c,⟨h1,h2,h3,h4⟩,h5⟩
   exact⟨h1,h2,h3,Runs.app.mpr ⟨c,h4,h5⟩⟩
theorem Runs.congr:∀{r:List (Nat×Nat)}{a b:Nat}{l l':List bW},Runs rk r a b l->(∀k,a<=k->k<b->l'[k]?=l[k]?)->Runs rk r a b l'
 |[],a,b,l,l',h,_=>h
 |(i,n)::r,a,b,l,l',⟨h1,h2,h3,h4⟩,e=>by
  have:=h4.le;refine⟨h1,h2,?_,h4.congr λk ha hb=>e k (by lia) hb⟩
  have:(l'.drop a).take n=(l.drop a).take n:=cX λk=>by
   rw[cQ,cQ,fA,fA];split
   ·exact e _ (by lia) (by lia)
   ·rfl
  rw[this];exact h3
def Gw(hx:Srt (lr rk) x)(hy:Srt (lr rk) y)(h:∀a∈x,∀b∈y,rk a<rk b):Srt (lr rk) (x++y):=dA.mpr ⟨hx,hy,h⟩
structure Sc(κ:fG)(a₀:Array bW)(τ:bR):Prop where
 kd:kindOf τ=κ
 pm:(bj τ).Perm a₀
 fl:gF τ=af
variable{κ:fG}{a₀:Array bW}{τ:bR}{In:bW->Prop}{prog:bq}{w:bK}{A:bQ}{E:au->ax->Prop}{s:ax}
theorem yk(O:Od prog w A E s κ In rk)(ia:∀x∈a₀.toList,In x)(nd:(a₀.toList.map rk).Nodup){Q:Bool->bR->Prop}(h:Sc κ a₀ τ)(h1:(bo τ)[i]?=aa (a,na,pw))(h2:(bo τ)[i+1]?=aa (a+na,nb,qw))
  (hl:(bj τ).toList=U++(X++(Y++Z)))(lU:U.length=a)(lX:X.length=na)(lY:Y.length=nb)(xa:1<=na)(yb:1<=nb)(sx:Srt (lr rk) X)(sy:Srt (lr rk) Y)
  (q:∀st' M,Sc κ a₀ st'->bo st'=((bo τ).setIfInBounds i (a,na+nb,pw)).eraseIdxIfInBounds (i+1)->(bj st').toList=U++(M++Z)->M.length=na+nb->Srt (lr rk) M->Q aj st'):mr (aS prog w) A E s (mergeAt' i) Q τ:=by
 have hp:=bJ.mp h.pm;have ial:=λx hx=>ia x (hp.mem_iff.mp hx)
 have ndl:=((hp.map rk).nodup_iff).mpr nd;have hsz:(bj τ).size=a+(na+(nb+Z.length)):=by rw[<-aN,hl];simp[lU,lX,lY]
 have dX:((bj τ).toList.drop a).take na=X:=by rw[hl,<-lU,kJ,<-lX,kK]
 have dY:((bj τ).toList.drop (a+na)).take nb=Y:=by rw[hl,<-bM,<-lU,<-lX,<-bp,kJ,<-lY,kK]
 have ndXY:∀x∈X,∀y∈Y,rk x≠rk y:=λx hx y hy e=>by
  rw[hl,bP,fP,bP,fP]at ndl;exact ndl.2.1.2.2 _ (d4 hx) _ (by rw[bP];exact bV _ (d4 hy)) e
 have inX:∀x∈X,In x:=λx hx=>ial x (by rw[hl];simp[hx])
 have inY:∀y∈Y,In y:=λy hy=>ial y (by rw[hl];simp[hy])
 obtain⟨y0,Y',rfl⟩:∃y0 Y',Y=y0::Y':=by cases Y with|nil=>simp at lY;lia|cons y Y'=>exact⟨y,Y',rfl⟩
 have e0:(bj τ)[a+na]?=aa y0:=by
  rw[<-bv,hl,<-bM,bI (by simp;lia)]
  simp[lU,lX]
 rw[zE];refine aK (g9 ?_);rw[h1,h2]
 dsimp only
 refine aK (fz ?_)
 generalize hst:iC τ (((bo τ).setIfInBounds i (a,na+nb,pw)).eraseIdxIfInBounds (i+1))=st1;have S1:Sc κ a₀ st1:=by rw[<-hst];exact⟨h.kd,h.pm,h.fl⟩
 have P1:bo st1=((bo τ).setIfInBounds i (a,na+nb,pw)).eraseIdxIfInBounds (i+1):=by rw[<-hst]
 have A1:bj st1=bj τ:=by rw[<-hst]
 refine aK (ZF e0 (aK (wG O S1.kd (inY y0 (ao ..)) xa (by lia) ial (by rw[dX];exact sx) (by rw[dX];exact λx hx=>ndXY x hx y0 (ao ..)) λr hr r1 r2=>?_)))
 rw[dX]at r1 r2
 dsimp only
 have lowY:∀x∈X.take r,∀y∈y0::Y',rk x<rk y:=λx hx y hy=>by
  rcases az.mp hy with rfl|hy
  ·exact r1 x hx
  ·exact db (r1 x hx) ((aZ.mp sy).1 y hy)
 by_cases c:na-r=0
 ·rw[T9 (by simpa using c)]
  have:X.take r=X:=cq (by lia)
  rw[this]at lowY;exact aT (q st1 (X++y0::Y') S1 P1 (by rw[A1,hl,bM]) (by rw[bp,lX,lY]) (Gw sx sy lowY))
 rw[T8 (by simpa using c)]
 have exl:(bj τ)[a+r+(na-r)-1]?=X[na-1]?:=by
  rw[<-bv,hl,bI (by lia),cf (by lia)]
  congr 1;lia
 have xl:X[na-1]?=aa (X[na-1]'(by lia)):=ai _
 generalize hx0:X[na-1]'(by lia)=x0 at xl
 have mx0:x0∈X:=cN xl;have mx1:x0∈X.drop r:=cN (i:=na-1-r) (by rw[fA];rw[<-xl];congr 1;lia)
 have maxX:∀x∈X,x=x0\/rk x<rk x0:=λx hx=>by
  obtain⟨k,hk,rfl⟩:=mJ.mp hx;by_cases z:k=na-1
  ·subst z;exact .inl hx0
  ·right;rw[<-hx0];exact ck.mp sx k (na-1) hk (by lia) (by lia)
 refine aK (ZF (exl.trans xl) (aK (wG O S1.kd (inX x0 mx0) (by lia) (by lia) ial (by rw[dY];exact sy) (by rw[dY];exact λy hy=>Ne.symm (ndXY x0 mx0 y hy)) λt ht t1 t2=>?_)))
 rw[dY]at t1 t2
 dsimp only
 have t0:t≠0:=λz=>by
  subst z;have a1:=r2 x0 mx1;have a2:=t2 y0 (ao ..);lia
 rw[T8 (by simpa using t0)]
 generalize hY:y0::Y'=Y at *;have eu:((bj τ).extract (a+r) (a+na)).toList=X.drop r:=by
  have:a+na=(a+r)+(na-r):=by lia
  rw[this,wV,<-g7,hl,<-lU,kJ,iO (by lia)]
  rw[show na-r=(X.drop r).length by rw[bB,lX],kK]
 have ev:((bj τ).extract (a+na) (a+na+t)).toList=Y.take t:=by
  rw[wV,hl,<-bM,<-lU,<-lX,<-bp,kJ,iP (by lia)]
 generalize hu:(bj τ).extract (a+r) (a+na)=u at *;generalize hv:(bj τ).extract (a+na) (a+na+t)=v at *;have ul:u.size=na-r:=by rw[<-aN,eu,bB,lX]
 have vl:v.size=t:=by rw[<-aN,ev,bz,lY];lia
 have su:Srt (lr rk) u.toList:=by rw[eu];exact sx.sublist (oq ..)
 have sv:Srt (lr rk) v.toList:=by rw[ev];exact sy.sublist (nS ..)
 have v0:∀x∈u.toList,rk (v[0]'(by lia))<rk x:=λx hx=>by
  have:v.toList[0]?=aa y0:=by
   rw[ev,<-hY];obtain⟨t',rfl⟩:∃t',t=t'+1:=⟨t-1,by lia⟩
   rfl
  have e:v[0]'(by lia)=y0:=by
   rw[bv,bG (by lia)]at this
   exact am this
  rw[e];exact r2 x (by rw[<-eu];exact hx)
 have G:Mg κ In rk u v (u.toList++v.toList):=by
  refine⟨?_,λx hx=>inX x (cr (eu▸hx)),λy hy=>inY y (c6 (ev▸hy)),λy hy x hx=>?_⟩
  ·rw[bP,fP]
   have nx:∀{z:List bW},Srt (lr rk) z->(z.map rk).Nodup:=λ{z} hz=>cY.mpr (hz.imp λhab=>br hab)
   refine⟨nx su,nx sv,λp hp p' hp' e=>?_⟩
   obtain⟨x,hx,rfl⟩:=aP.mp hp;obtain⟨y,hy,rfl⟩:=aP.mp hp';exact ndXY x (cr (eu▸hx)) y (c6 (ev▸hy)) e
  ·have hx:x=x0:=by
    rw[eu,ul,g7,show r+(na-r-1)=na-1 by lia,cg (by lia),show na-1+1=X.length by lia,eg,aU]at hx
    rw[hx];exact hx0
   rw[hx];exact t1 y (by rw[<-ev];exact hy)
 have fin:∀r' st',Sg st1 st'->Res rk (u.toList++v.toList) r'->mr (aS prog w) A E s (do
   modify λt=>setArr t (r'.toList.zipIdx.foldl (λz (p,j)=>z.setIfInBounds (a+r+j) p) (bj t))
   return (gF (<-get)).isNone) Q st':=λr' st' sg hr'=>by
  obtain⟨g1,g2,g3,g4⟩:=sg;obtain⟨k1,k2⟩:=hr';have rl:r'.toList.length=(na-r)+t:=by rw[k1.length_eq,bp,aN,aN,ul,vl]
  refine aK (fz (aK (g9 (aT ?_))));have fo:=zG (a+r) r'.toList 0 (bj τ) (by lia)
  have el:((r'.toList.zipIdx.foldl (λz (q:bW×Nat)=>z.setIfInBounds (a+r+q.2) q.1) (bj τ)).toList)=U++((X.take r++(r'.toList++Y.drop t))++Z):=by
   rw[fo,Nat.add_zero,hl,<-lU,List.take_append,oQ,rl];have e1:U.length+r-U.length=r:=by lia
   have e2:U.length+r+(na-r+t)-U.length=na+t:=by lia
   rw[e1,e2,cq (by lia),fB (by lia),eM,iP (by lia),<-lX,oQ,fB (by lia),eM,show X.length+t-X.length=t by lia,iO (by lia)]
   simp[bM]
  have hX:X.take r++X.drop r=X:=cG ..;have hYt:Y.take t++Y.drop t=Y:=cG ..;have pM:(X.take r++(r'.toList++Y.drop t)).Perm (X++Y):=by
   rw[eu,ev]at k1;have:(X.take r++(r'.toList++Y.drop t)).Perm (X.take r++((X.drop r++Y.take t)++Y.drop t)):=(k1.append_right _).append_left _;refine this.trans (pi ?_);rw[bM (X.drop r),hYt,<-bM,hX]
  rw[g4,S1.fl];refine q (setArr st' (r'.toList.zipIdx.foldl (λz (q:bW×Nat)=>z.setIfInBounds (a+r+q.2) q.1) (bj st'))) (X.take r++(r'.toList++Y.drop t)) ⟨g1.trans S1.kd,?_,g4.trans S1.fl⟩ (g3.trans P1) (by rw[<-el,<-A1,<-g2]) (by rw[pM.length_eq,bp,lX,lY]) ?_
  ·refine(bJ.mpr ?_).trans h.pm
   rw[g2,A1,el,hl,<-bM X Y Z];exact(pM.append_right _).append_left _
  ·have memR:∀z∈r'.toList,z∈X.drop r\/z∈Y.take t:=λz hz=>by
    have:=k1.mem_iff.mp hz;rw[eu,ev]at this;exact cu.mp this
   have sX:=dA.mp (hX.symm▸sx);have sY:=dA.mp (hYt.symm▸sy);refine Gw sX.1 (Gw k2 sY.2.1 λp hp y hy=>?_) λx hx z hz=>?_
   ·rcases memR p hp with m|m
    ·have:=t2 y hy
     rcases maxX p (cr m)with rfl|m
     ·exact this
     ·exact db m this
    ·exact sY.2.2 p m y hy
   ·rcases cu.mp hz with m|m
    ·rcases memR z m with m|m
     ·exact sX.2.2 x hx z m
     ·exact lowY x hx z (c6 m)
    ·exact lowY x hx z (cr m)
 by_cases cl:na-r<=t
 ·rw[T9 cl]
  exact aK (yH O G S1.kd (by lia) (by lia) su sv (du _) v0 λr' st' sg hr'=>fin r' st' sg hr')
 ·rw[T8 cl]
  have fs:∀x∈u.toList,∀y∈v.toList.take 1,rk y<rk x:=λx hx y hy=>by
   have e:=Yb (a:=v) (i:=0) (by lia)
   rw[kF]at e;rw[e]at hy;rw[aU.mp hy];exact v0 x hx
  exact aK (xq O G fs S1.kd (by lia) (by lia) su sv (du _) λr' st' sg hr'=>fin r' st' sg hr')
end
section
variable{rk:bW->Nat}{κ:fG}{a₀:Array bW}{τ:bR}{In:bW->Prop}{prog:bq}{w:bK}{A:bQ}{E:au->ax->Prop}{s:ax}
noncomputable abbrev g2(q:Nat×Nat×Nat):Nat×Nat:=(q.1,q.2.1)
noncomputable def pl(τ:bR):List (Nat×Nat):=(bo τ).toList.map g2
def cut2{α:Type}{l:List α}{i:Nat}{x y:α}(h1:l[i]?=aa x)(h2:l[i+1]?=aa y):l=l.take i++(x::y::l.drop (i+2)):=by
 obtain⟨a,e1⟩:=aG.mp h1;obtain⟨b,e2⟩:=aG.mp h2
 conv=>lhs;rw[<-cG i l,cg a,cg b,e1,e2]
theorem Wf(O:Od prog w A E s κ In rk)(ia:∀x∈a₀.toList,In x)(nd:(a₀.toList.map rk).Nodup){Q:Bool->bR->Prop}{i b:Nat}{R3:List (Nat×Nat)}(h:Sc κ a₀ τ)(hi:i+1<(bo τ).size)(hb:b<=a₀.size)(hr:Runs rk (pl τ++R3) 0 b (bj τ).toList)
  (q:∀st',Sc κ a₀ st'->(bo st').size=(bo τ).size-1->Runs rk (pl st'++R3) 0 b (bj st').toList->Q aj st'):mr (aS prog w) A E s (mergeAt' i) Q τ:=by
 obtain⟨⟨a,na,pw⟩,h1⟩:∃x,(bo τ)[i]?=aa x:=⟨_,bG (by lia)⟩
 obtain⟨⟨b1,nb,qw⟩,h2⟩:∃x,(bo τ)[i+1]?=aa x:=⟨_,bG hi⟩;have e:=cut2 (by rw[bv];exact h1) (by rw[bv];exact h2)
 generalize hA:(bo τ).toList.take i=RA at e;generalize hC:(bo τ).toList.drop (i+2)=RC at e;have lA:RA.length=i:=by rw[<-hA,bz,aN];lia
 unfold pl at hr;rw[e,bP,bM]at hr;obtain⟨c,r1,r2⟩:=Runs.app.mp hr;obtain⟨z1,n1,s1,z2,n2,s2,r3⟩:=r2
 dsimp only[g2]at z1 n1 s1 z2 n2 s2 r3
 subst z1 z2;have hle:=r3.le;have hsz:(bj τ).toList.length=a₀.size:=by rw[aN];exact h.pm.size_eq
 generalize hl:(bj τ).toList=l at *;have el:l=l.take a++((l.drop a).take na++((l.drop (a+na)).take nb++l.drop (a+na+nb))):=by
  rw[td,td,cG]
 have lU:(l.take a).length=a:=by rw[bz];lia
 refine yk O ia nd h h1 h2 (hl.trans el) lU (by rw[bz,bB];lia) (by rw[bz,bB];lia) n1 n2 s1 s2 λst' M S' hp' hl' lM sM=>?_
 have hpl:(bo st').toList=RA++((a,na+nb,pw)::RC):=by
  rw[hp',Array.toList_eraseIdxIfInBounds,kI,e,List.set_append_right _ _ (by lia),lA,Nat.sub_self]
  rw[List.eraseIdx_append_of_length_le (by lia),lA,show i+1-i=1 by lia]
  rfl
 refine q st' S' ?_ ?_
 ·rw[<-aN,hpl,<-aN,e]
  simp
 ·have at_:∀k,(k<a\/a+na+nb<=k)->(bj st').toList[k]?=l[k]?:=λk hk=>by
   rw[hl']
   conv=>rhs;rw[el]
   rcases hk with hk|hk
   ·rw[cf (by lia),cf (by lia)]
   ·rw[bI (by lia),bI (by lia),bI (by lia),<-bM,bI (by simp;lia)]
    congr 1
    simp;lia
  unfold pl;rw[hpl,bP,bM];refine Runs.app.mpr ⟨a,r1.congr λk _ hk=>at_ k (.inl hk),rfl,by dsimp only[g2];lia,?_,?_⟩
  ·rw[hl',<-lM,List.drop_left' lU,kK];exact sM
  ·rw[<-lh];exact r3.congr λk hk _=>at_ k (.inr hk)
theorem qh{lo n:Nat}{xs:Array bW}(hn:lo+n<=xs.size)(u:Up rk xs lo n):Srt (lr rk) ((xs.toList.drop lo).take n):=by
 refine ck.mpr λi j hi hj hij=>?_
 rw[bz,bB,aN]at hi hj;have g:∀k (hk:k<((xs.toList.drop lo).take n).length),((xs.toList.drop lo).take n)[k]=xs[lo+k]'(by rw[bz,bB,aN]at hk;lia):=λk hk=>by
  rw[fQ,fR,Array.getElem_toList]
 rw[g,g];have:=u (lo+i) (lo+j) (by lia) (by lia) (by lia)
 rw[GI (by lia),GI (by lia)]at this
 exact this
def QV{P:Array (Nat×Nat×Nat)}{k pw:Nat}:(P.modify k λq=>(q.1,q.2.1,pw)).toList.map g2=P.toList.map g2:=by
 refine cX λi=>?_
 rw[aR,aR,bv,bv,Array.getElem?_modify];split
 ·cases P[i]?<;>rfl
 ·rfl
theorem sort_ok(O:Od prog w A E s κ In rk)(ia:∀x∈a₀.toList,In x)(nd:(a₀.toList.map rk).Nodup){Q:Unit->bR->Prop}(hk:kindOf τ=κ)(ha:bj τ=a₀)(hp:bo τ = #[])(hf:gF τ=af)(h1:1<=a₀.size)
  (q:∀st',(bj st').Perm a₀->gF st'=af->Srt (lr rk) (bj st').toList->Q () st'):mr (aS prog w) A E s sortRuns' Q τ:=by
 rw[sortRuns'_eq];refine aK (g9 ?_);rw[ha]
 dsimp only
 have S0:Sc κ a₀ τ:=⟨hk,by rw[ha],hf⟩
 refine aK (eS (cH
  (I:=λx c st'=>∃lo,c=(af,lo)/\x<=lo/\lo<=a₀.size/\Sc κ a₀ st'/\Runs rk (pl st') 0 lo (bj st').toList)
  (Q:=λc st'=>c=(af,a₀.size)/\Sc κ a₀ st'/\Runs rk (pl st') 0 a₀.size (bj st').toList) ?_ ?_ ⟨0,rfl,aI _,dN _,S0,by unfold pl;rw[hp];rfl⟩) ?_)
 ·rintro x c st1 _ hx ⟨lo,rfl,g1,g2',S1,R1⟩
  dsimp only
  by_cases c:lo>=a₀.size
  ·rw[T9 c]
   obtain rfl:lo=a₀.size:=by lia
   exact aT ⟨rfl,S1,R1⟩
  rw[T8 c];have B1:Sb κ a₀ (bo st1) lo ((bj st1).toList.take lo) st1:=⟨S1.kd,S1.pm,S1.fl,rfl,rfl⟩;refine aK (ZaM O ia nd (by lia) (by lia) B1 λm st2 B2 m1 m2 u2=>?_)
  dsimp only
  have done:∀n st3,1<=n->lo+n<=a₀.size->Sc κ a₀ st3->Runs rk (pl st3++[(lo,n)]) 0 (lo+n) (bj st3).toList->∃lo',((af,lo+n):Option PUnit×Nat)=(af,lo')/\x+1<=lo'/\lo'<=a₀.size/\Sc κ a₀ (iC st3 ((bo st3).push (lo,n,0)))/\Runs rk (pl (iC st3 ((bo st3).push (lo,n,0)))) 0 lo' (bj st3).toList:=λn st3 n1 n2 S3 R3=>
   ⟨lo+n,rfl,by lia,n2,⟨S3.kd,S3.pm,S3.fl⟩,by
    have:pl (iC st3 ((bo st3).push (lo,n,0)))=pl st3++[(lo,n)]:=by
     show mK g2 ((bo st3).push (lo,n,0)).toList=_;rw[fS,bP];rfl
    rw[this];exact R3⟩
  by_cases c2:m<pF a₀.size a₀.size 0
  ·rw[T9 c2]
   refine aK (X1 (aK (Zce (n:=rn (a₀.size-lo) (pF a₀.size a₀.size 0)) O ia nd (by lia) m1 (by lia) B2 u2 λst5 B u=>?_)))
   have n1:1<=rn (a₀.size-lo) (pF a₀.size a₀.size 0):=by lia
   have n2:lo+rn (a₀.size-lo) (pF a₀.size a₀.size 0)<=a₀.size:=by lia
   simp only[iI,cE,if_false];generalize rn (a₀.size-lo) (pF a₀.size a₀.size 0)=n at *;clear B2 u2;refine aK (g9 ?_);have S5:Sc κ a₀ st5:=⟨B.kd,B.pm,B.fl⟩;have hz:(bj st5).size=a₀.size:=B.size;have R5:Runs rk (pl st5++[(lo,n)]) 0 (lo+n) (bj st5).toList:=Runs.app.mpr ⟨lo,by
    unfold pl at R1 ⊢;rw[B.pd];refine R1.congr λk _ hk=>?_
    have e:(mT lo _)[k]?=(mT lo _)[k]?:=congrArg (λl=>l[k]?) B.ah
    rw[cQ,cQ,T9 hk,T9 hk]at e;exact e,rfl,n1,qh (by lia) u,rfl⟩
   cases hbk:(bo st5).back? with
   |none=>
    exact aK (fz (aT (done n st5 n1 n2 S5 R5)))
   |some q5=>
    obtain⟨x1,x2,x3⟩:=q5
    dsimp only
    refine aK (eS (cH (I:=λ_ c st3=>c=(af,())/\Sc κ a₀ st3/\Runs rk (pl st3++[(lo,n)]) 0 (lo+n) (bj st3).toList) ?_ (λc st3 h=>h) ⟨rfl,S5,R5⟩) ?_)
    ·rintro x c st3 _ _ ⟨rfl,S3,R3⟩
     refine aK (g9 ?_);by_cases c:(bo st3).size>1
     ·rw[T9 c,bG (show(bo st3).size-2<(bo st3).size by lia)]
      dsimp only
      split
      ·exact aT ⟨rfl,S3,R3⟩
      ·refine aK (Wf O ia nd S3 (by lia) n2 R3 λst4 S4 _ R4=>?_)
       simp only[iI,cE,if_false];exact aT ⟨rfl,S4,R4⟩
     ·rw[T8 c]
      exact aT ⟨rfl,S3,R3⟩
    ·rintro c st3 ⟨rfl,S3,R3⟩
     dsimp only
     exact aK (fz (aK (fz (aT (done n (iC st3 _) n1 n2 ⟨S3.kd,S3.pm,S3.fl⟩ (by
      show Runs rk (mK g2 (Array.modify _ _ _).toList++_) _ _ _;rw[QV];exact R3))))))
  ·rw[T8 c2]
   have n2:lo+m<=a₀.size:=by lia
   refine aK (g9 ?_);have S5:Sc κ a₀ st2:=⟨B2.kd,B2.pm,B2.fl⟩;have hz:(bj st2).size=a₀.size:=B2.size;have R5:Runs rk (pl st2++[(lo,m)]) 0 (lo+m) (bj st2).toList:=Runs.app.mpr ⟨lo,by
    unfold pl at R1 ⊢;rw[B2.pd];refine R1.congr λk _ hk=>?_
    have e:(mT lo _)[k]?=(mT lo _)[k]?:=congrArg (λl=>l[k]?) B2.ah
    rw[cQ,cQ,T9 hk,T9 hk]at e;exact e,rfl,m1,qh (by lia) u2,rfl⟩
   cases hbk:(bo st2).back? with
   |none=>
    exact aK (fz (aT (done m st2 m1 n2 S5 R5)))
   |some q5=>
    obtain⟨x1,x2,x3⟩:=q5
    dsimp only
    refine aK (eS (cH (I:=λ_ c st3=>c=(af,())/\Sc κ a₀ st3/\Runs rk (pl st3++[(lo,m)]) 0 (lo+m) (bj st3).toList) ?_ (λc st3 h=>h) ⟨rfl,S5,R5⟩) ?_)
    ·rintro x c st3 _ _ ⟨rfl,S3,R3⟩
     refine aK (g9 ?_);by_cases c:(bo st3).size>1
     ·rw[T9 c,bG (show(bo st3).size-2<(bo st3).size by lia)]
      dsimp only
      split
      ·exact aT ⟨rfl,S3,R3⟩
      ·refine aK (Wf O ia nd S3 (by lia) n2 R3 λst4 S4 _ R4=>?_)
       simp only[iI,cE,if_false];exact aT ⟨rfl,S4,R4⟩
     ·rw[T8 c]
      exact aT ⟨rfl,S3,R3⟩
    ·rintro c st3 ⟨rfl,S3,R3⟩
     dsimp only
     exact aK (fz (aK (fz (aT (done m (iC st3 _) m1 n2 ⟨S3.kd,S3.pm,S3.fl⟩ (by
      show Runs rk (mK g2 (Array.modify _ _ _).toList++_) _ _ _;rw[QV];exact R3))))))
 ·rintro c st1 ⟨lo,rfl,g1,g2',S1,R1⟩
  obtain rfl:lo=a₀.size:=by lia
  exact⟨rfl,S1,R1⟩
 ·rintro c st1 ⟨rfl,S1,R1⟩
  dsimp only
  have len1:=R1.le;refine aK (eS (cH
   (I:=λx c st2=>c=(af,())/\Sc κ a₀ st2/\Runs rk (pl st2) 0 a₀.size (bj st2).toList/\(bo st2).size<=max 1 (a₀.size-x))
   (Q:=λc st2=>c=(af,())/\Sc κ a₀ st2/\Runs rk (pl st2) 0 a₀.size (bj st2).toList/\(bo st2).size<=1) ?_ ?_ ⟨rfl,S1,R1,by unfold pl at len1;rw[aB,aN]at len1;lia⟩) ?_)
  ·rintro x c st2 _ hx ⟨rfl,S2,R2,l2⟩
   refine aK (g9 ?_);by_cases c:(bo st2).size<=1
   ·rw[T9 c]
    exact aT ⟨rfl,S2,R2,c⟩
   rw[T8 c];generalize hj:(if(Option.any (λx=>ag (x<((bo st2)[(bo st2).size-2+1]?).elim 0 λx=>x.2.1)) (if(bo st2).size-2>0 then Option.map (λx=>x.2.1) (bo st2)[(bo st2).size-2-1]? else af))=aj then(bo st2).size-2-1 else(bo st2).size-2)=j
   have hj1:j+1<(bo st2).size:=by
    have g:∀b:Bool,(if b=aj then(bo st2).size-2-1 else(bo st2).size-2)+1<(bo st2).size:=λb=>by cases b<;>simp<;>lia
    rw[<-hj];exact g _
   refine aK (Wf (R3:=[]) O ia nd S2 hj1 (aI _) (by rw[cT];exact R2) λst3 S3 l3 R3=>?_)
   rw[cT]at R3;simp only[iI,cE,if_false];exact aT ⟨rfl,S3,R3,by lia⟩
  ·rintro c st2 ⟨rfl,S2,R2,l2⟩
   exact⟨rfl,S2,R2,by lia⟩
  ·rintro c st2 ⟨rfl,S2,R2,l2⟩
   dsimp only
   refine aT (q st2 S2.pm S2.fl ?_);have hz:(bj st2).toList.length=a₀.size:=by rw[aN];exact S2.pm.size_eq
   unfold pl at R2
   match hP:(bo st2).toList,R2 with
   |[],R2=>exact T7 (show 0=a₀.size from R2) (by lia)
   |[(i,n,pw)],R2=>
    obtain⟨_,_,z,e⟩:=R2;have e:0+n=a₀.size:=e;rw[kF,cq (by dsimp only[g2];lia)]at z
    exact z
   |_::_::_,_=>rw[<-aN,hP]at l2;simp at l2
end
end Tq
namespace Sq
open PySem PySem.W PyProof.Rows
structure Ord(n:Nat)(lt:Nat->Nat->Bool):Prop where
 tot:∀i j,i<n->j<n->i≠j->lt i j=al->lt j i=aj
 asy:∀i j,i<n->j<n->lt i j=aj->lt j i=al
 tr:∀i j k,i<n->j<n->k<n->lt i j=aj->lt j k=aj->lt i k=aj
noncomputable abbrev g(p:Array Nat)(i:Nat):Nat:=p.getD i 0
def Pm(n:Nat)(p:Array Nat):Prop:=p.Perm (de (aY n))
theorem Pm.size(h:Pm n p):p.size=n:=by have:=Array.Perm.size_eq h;simpa using this
def u4(h:i<p.size):p[i]?=aa (g p i):=by simp[g,h]
def Pm.lt(h:Pm n p)(hi:i<n):g p i<n:=by
 have hs:=h.size;have h1:g p i∈p.toList:=by
  have:p.toList[i]?=aa (g p i):=by rw[bv];exact u4 (by lia)
  exact cN this
 have h2:p.toList.Perm (aY n):=by simpa using bJ.mp h
 exact bt.mp (h2.mem_iff.mp h1)
def Up(lt:Nat->Nat->Bool)(p:Array Nat)(m:Nat):Prop:=∀i j,i<j->j<m->lt (g p i) (g p j)=aj
theorem Q6{α:Type}{p q:α->Bool}:∀{l:List α},(∀x∈l,p x=aj->q x=aj)->(∃x∈l,q x=aj/\p x=al)->l.countP p<l.countP q
 |[],_,⟨x,hx,_⟩=>by cases hx
 |y::l,h,⟨x,hx,h1,h2⟩=>by
  have hm:=List.countP_mono_left λz hz=>h z (aq _ hz)
  rw[oR,oR];rcases az.mp hx with rfl|hx
  ·rw[h1,h2,T9 rfl,T8 aM];lia
  ·have:=Q6 (λz hz=>h z (aq _ hz)) ⟨x,hx,h1,h2⟩
   have hy:=h y (ao ..);cases e:p y with|false=>rw[T8 aM];lia|true=>rw[hy e,T9 rfl];lia
noncomputable def rank(n:Nat)(lt:Nat->Nat->Bool)(i:Nat):Nat:=(aY n).countP λj=>lt j i
def V6{n:Nat}{lt:Nat->Nat->Bool}(O:Ord n lt){i j:Nat}(hi:i<n)(hj:j<n):ag (rank n lt i<rank n lt j)=lt i j:=by
 have irr:∀k,k<n->lt k k=al:=λk hk=>by
  cases e:lt k k with|false=>rfl|true=>rw[<-e];exact O.asy k k hk hk e
 have up:=λ{a b} ha hb e=>
  Q6 (λx hx h=>O.tr x a b (bt.mp hx) ha hb h e) ⟨a,bt.mpr ha,e,irr a ha⟩
 cases e:lt i j with
 |true=>exact T5 (up hi hj e)
 |false=>
  refine T4 λh=>?_
  by_cases z:i=j
  ·subst z;exact bH _ h
  ·exact Nat.lt_asymm h (up hj hi (O.tot i j hi hj z e))
section
open Classical
noncomputable def idx(vs:List au)(v:au):Nat:=if h:∃i:Nat,vs[i]?=aa v then choose h else 0
def yB(nd:vs.Nodup)(h:vs[i]?=aa v):idx vs v=i:=by
 have hx:∃i:Nat,vs[i]?=aa v:=⟨i,h⟩;unfold idx;rw[dif_pos hx];have e:=choose_spec hx;have hl:=(aG.mp e).1;exact(hJ hl nd).mp (e.trans h.symm)
end
section
variable{prog:bq}{w:bK}{A:bQ}{E:au->ax->Prop}{s:ax}
theorem Zc1{vs:List au}{κ:fG}{lt:Nat->Nat->Bool}(nd:vs.Nodup)(h1:1<=vs.length)(O:Ord vs.length lt)
  (ask:∀i j,i<vs.length->j<vs.length->∀(C:Bool->ax->Prop)(E:au->ax->Prop),C (lt i j) s->bc (aS prog w) A (keyLt' κ (vs.getD i bD) (vs.getD j bD)) C E s) :
  bc (aS prog w) A ((sortRuns').run (pS κ (vs.toArray.zip vs.toArray) #[] 7 af)) (λr s'=>s'=s/\∃p,Pm vs.length p/\Up lt p vs.length/\gF r.2=af/\(bj r.2).map (·.2)=de (p.toList.map λi=>vs.getD i bD)) E s:=by
 have hz:(vs.toArray.zip vs.toArray).toList=vs.map λv=>(v,v):=by
  rw[ksk_zip];show rW vs vs=_;clear ask O h1 nd
  induction vs with|nil=>rfl|cons v l ih=>rw[cc,ih];rfl
 let rk:bW->Nat:=λx=>rank vs.length lt (idx vs x.1)
 let In:bW->Prop:=λx=>∃i:Nat,vs[i]?=aa x.1/\x=(x.1,x.1)
 have atI:∀{x:bW},In x->idx vs x.1<vs.length/\vs.getD (idx vs x.1) bD=x.1:=λ{x} ⟨i,e,_⟩=>by
  rw[yB nd e];exact⟨(aG.mp e).1,by rw[aF,e];rfl⟩
 have od:Tq.Od prog w A E s κ In rk:=⟨λ{x y τ Q} ix iy hk q=>by
  obtain⟨a1,a2⟩:=atI ix;obtain⟨b1,b2⟩:=atI iy;rw[lt'_eq];refine aK (g9 ?_);rw[hk];have:=ask _ _ a1 b1 (λb s'=>s'=s/\b=lt (idx vs x.1) (idx vs y.1)) (λ_ _=>False) ⟨rfl,rfl⟩
  rw[a2,b2]at this;refine aK (wpS_lift (iH (cJ this (λb s' h=>?_) λ_ _ h=>h.elim)))
  obtain⟨rfl,rfl⟩:=h;refine⟨rfl,aT ?_⟩;rw[<-V6 O a1 b1];exact q⟩
 have ia:∀x∈(vs.toArray.zip vs.toArray).toList,In x:=λx hx=>by
  rw[hz]at hx;obtain⟨v,hv,rfl⟩:=aP.mp hx;obtain⟨i,hi,e⟩:=mJ.mp hv;exact⟨i,by rw[ai hi,e],rfl⟩
 have rks:(vs.toArray.zip vs.toArray).toList.map rk=(aY vs.length).map (rank vs.length lt):=by
  rw[hz,cI];refine cX λi=>?_
  rw[aR,aR];by_cases h:i<vs.length
  ·rw[dE h,ai h]
   exact congrArg (λk=>aa (rank vs.length lt k)) (yB nd (ai h))
  ·rw[dq (by lia),dq (by rw[bS];lia)];rfl
 have ndr:((vs.toArray.zip vs.toArray).toList.map rk).Nodup:=by
  rw[rks];refine cY.mpr (gG ?_ oS);intro a b ha hb ne e;have ha:=bt.mp ha;have hb:=bt.mp hb;have h1:=V6 O ha hb;have h2:=V6 O hb ha;rw[e,T4 (bH _)]at h1 h2;exact T7 (O.tot a b ha hb ne h1.symm) (by rw[<-h2];simp)
 have sz:(vs.toArray.zip vs.toArray).size=vs.length:=by rw[<-aN,hz,aB]
 refine Tq.sort_ok (Q:=λ_ st'=>∃p,Pm vs.length p/\Up lt p vs.length/\gF st'=af/\(bj st').map (·.2)=de (p.toList.map λi=>vs.getD i bD)) od ia ndr rfl rfl rfl rfl (by lia) λst' pm fl so=>?_
 have pl:=bJ.mp pm;have inS:=λx hx=>ia x (pl.mem_iff.mp hx)
 have pp:((bj st').toList.map λx=>idx vs x.1).Perm (aY vs.length):=by
  refine(pl.map _).trans (pi ?_);rw[hz,cI];refine cX λi=>?_
  rw[aR];by_cases h:i<vs.length
  ·rw[dE h,ai h]
   exact congrArg aa (yB nd (ai h))
  ·rw[dq (by lia),dq (by rw[bS];lia)];rfl
 have sl:(bj st').toList.length=vs.length:=by rw[pl.length_eq,hz,aB]
 refine⟨de ((bj st').toList.map λx=>idx vs x.1),bJ.mpr pp,λi j hij hj=>?_,fl,?_⟩
 ·have gk:∀k (hk:k<(bj st').toList.length),g (de ((bj st').toList.map λx=>idx vs x.1)) k=idx vs ((bj st').toList[k]).1:=λk hk=>by
   show((de ((bj st').toList.map λx=>idx vs x.1)).getD k 0)=_
   rw[Array.getD_eq_getD_getElem?,List.getElem?_toArray,aR,ai hk];rfl
  rw[gk i (by lia),gk j (by lia)]
  have:=ck.mp so i j (by lia) (by lia) hij
  rw[<-V6 O (atI (inS _ (aX _))).1 (atI (inS _ (aX _))).1];exact T5 this
 ·apply lE.mp
  rw[oU,cI];refine eX λx hx=>?_
  have hi:=inS x hx;show x.2=vs.getD (idx vs x.1) bD;rw[(atI hi).2];obtain⟨_,_,e⟩:=hi;rw[e]
end
end Sq
namespace Sq
open PySem PySem.W PyProof.Rows PySem.Calls
section
variable{prog:bq}{w:bK}{A:bQ}{E:au->ax->Prop}{s:ax}
def Lat(h h':bX):Prop:=∀b o,h.get? b=aa o->h'.get? b=aa o
structure Asks(prog:bq)(w:bK)(A:bQ)(h:bX)(vs:List au)(κ:fG)(lt:Nat->Nat->Bool):Prop where
 kind:2<=vs.length->∀(s':ax)(E:au->ax->Prop)(Q:fG->ax->Prop),Lat h s'.heap->Q κ s'->bc (aS prog w) A (keyKind' vs.toArray) Q E s'
 nd:vs.Nodup
 cmp:∀i j,i<vs.length->j<vs.length->∀(s':ax)(C:Bool->ax->Prop)(E:au->ax->Prop),Lat h s'.heap->C (lt i j) s'->bc (aS prog w) A (keyLt' κ (vs.getD i bD) (vs.getD j bD)) C E s'
noncomputable def ltR(b:Bool)(n:Nat)(lt:Nat->Nat->Bool):Nat->Nat->Bool:=λi j=>if b=aj then lt (n-1-i) (n-1-j)else lt i j
theorem ZbA(O:Ord n lt):Ord n (ltR b n lt):=by
 cases b
 ·exact O
 ·exact⟨λi j hi hj ne h=>O.tot _ _ (by lia) (by lia) (by lia) h,λi j hi hj h=>O.asy _ _ (by lia) (by lia) h,λi j k hi hj hk h1 h2=>O.tr _ _ _ (by lia) (by lia) (by lia) h1 h2⟩
def GZ(hi:i<vs.length):(lj b vs).getD i bD=vs.getD (if b=aj then vs.length-1-i else i) bD:=by
 cases b
 ·rfl
 ·show vs.reverse.getD i bD=vs.getD (vs.length-1-i) bD
  simp only[aF];rw[mh hi]
def um(vs:List au):(aY vs.length).map (λi=>vs.getD i bD)=vs:=by
 apply cX
 intro i;rw[aR];by_cases h:i<vs.length
 ·rw[dE h];simp[h]
 ·simp[fb h]
theorem list_sort_rev{P:PySem.Fin->ax->Prop}(ho:s.heap.get? a=aa (iZ "list" vs.toArray n))(h64:vs.length<=100000)
  (h00:∀b o,h0.get? b=aa o->b≠a/\s.heap.get? b=aa o)(O:Ord vs.length lt)(K:Asks prog w A h0 vs κ lt)
  (h:∀p,Pm vs.length p->Up (ltR b vs.length lt) p vs.length->P (.done (.ret .none)) {s with heap:=sortedHeap s.heap a vs (de (lj b (p.toList.map λi=>(lj b vs).getD i bD)))}) :
  bc (aS prog w) A (eD.«list.sort» ⟨[.ref a],[(bn.ofString "reverse",.bool b)]⟩) P E s:=by
 rw[kL];have ha:=aJ ho;refine ae (listItems_at ho rfl ?_);refine ae (nj ho rfl ?_);obtain⟨e1,ho1⟩:∃e1,(s.heap.update a (eT λ_=>#[])).get? a=aa (iZ "list" #[] e1):=⟨_,get?_update_seq ho (λ_=>#[])⟩
 refine ae (pb ho1 rfl ?_);refine ae (wpAny_newTuple ?_);refine ae (wpAny_newList ?_);refine cz ?_;have ho6:(((s.heap.update a (eT λ_=>#[])).push (iZ "tuple" vs.toArray 0)).push (iZ "list" #[] 0)).get? a=aa (iZ "list" #[] e1):=by
  rw[hU _ _ _ (by rw[size_push',lF];exact br (eR ha)),hU _ _ _ (by rw[lF];exact br ha)]
  exact ho1
 have lat:Lat h0 (((s.heap.update a (eT λ_=>#[])).push (iZ "tuple" vs.toArray 0)).push (iZ "list" #[] 0)):=λb o e=>by
  obtain⟨nb,e⟩:=h00 b o e;exact aw _ (aw _ (by rw[mY _ _ _ _ nb];exact e))
 generalize hs':((s.heap.update a (eT λ_=>#[])).push (iZ "tuple" vs.toArray 0)).push (iZ "list" #[] 0)=h1 at ho6 lat ⊢
 dsimp only
 have step:∀t:nL PySem.Fin,bc (aS prog w) A t P E {s with heap:=h1}->bc (aS prog w) A (if b=aj then(do let _ <-nN "list.sort.reverse";t)else t) P E {s with heap:=h1}:=by
  intro t ht;split
  ·exact ae (dW ht)
  ·exact ht
 refine step _ ?_;have hrl:=pG b vs;have fin:∀out:List au,out.length=vs.length->(∃p,Pm vs.length p/\Up (ltR b vs.length lt) p vs.length/\out=p.toList.map λi=>(lj b vs).getD i bD)->
   P (.done (.ret .none)) {s with heap:=h1.update a (eT λ_=>de (lj b out))}:=by
  rintro out _ ⟨p,h1',h2',rfl⟩
  subst hs';exact h p h1' h2'
 by_cases h2:vs.toArray.size<2
 ·rw[T9 h2,T9 h2]
  refine ae (aA ?_);rw[StateT.run_pure];refine ae (aA ?_)
  dsimp only
  have hz:((bj (pS general' (if b=aj then(vs.toArray.zip vs.toArray).reverse else vs.toArray.zip vs.toArray) #[] 7 af)).map (·.2))=de (lj b vs):=by
   rw[kat_pairs b rfl];apply lE.mp;rw[oU,ksk_zip];exact List.map_snd_zip (aI _)
  rw[hz];refine ae (pb ho6 rfl ?_);rw[kat_outs];refine ae (nj ho6 rfl ?_ (hsz2:=by rw[ay];(try rw[pG]);(try rw[pG]);rw[dm];lia))
  simp only[bne_self_eq_false,cE,if_false];refine aA (fin (lj b vs) (pG b vs) ⟨de (aY vs.length),Array.Perm.refl _,λi j a1 a2=>by rw[ay]at h2;lia,?_⟩)
  rw[<-hrl];exact(um _).symm
 ·rw[T8 h2,T8 h2]
  have l2:2<=vs.length:=by rw[ay]at h2;lia
  refine ae (K.kind l2 _ _ _ lat ?_);rw[kat_pairs b rfl];have ndR:(lj b vs).Nodup:=by
   cases b
   ·exact K.nd
   ·exact(fT vs).nodup_iff.mpr K.nd
  refine ae (cJ (Zc1 ndR (by lia) (by rw[hrl];exact ZbA (b:=b) O) (by
    rw[hrl];intro i j hi hj C E hC;rw[GZ hi,GZ hj];cases b
    ·exact K.cmp i j hi hj _ _ _ lat hC
    ·exact K.cmp _ _ (by simp only[if_true];lia) (by simp only[if_true];lia) _ _ _ lat hC)) ?_ λ_ _ x=>x)
  rintro ⟨⟨⟩,st'⟩ s' ⟨rfl,p,e2,e3,hf,har⟩
  rw[hrl]at e2 e3
  dsimp only
  rw[har];have hl:(p.toList.map λi=>(lj b vs).getD i bD).length=vs.length:=by rw[aB,aN,e2.size]
  refine ae (pb ho6 rfl ?_);rw[kat_outs];refine ae (nj ho6 rfl ?_ (hsz2:=by rw[ay];(try rw[pG]);rw[hl,dm];lia))
  rw[hf];simp only[bne_self_eq_false,cE,if_false];exact aA (fin _ hl ⟨p,e2,e3,rfl⟩)
def v9(a:aC):eD.«list.sort» ⟨[.ref a],[]⟩=eD.«list.sort» ⟨[.ref a],[(bn.ofString "reverse",.bool al)]⟩:=by
 rw[PyProof.Rows.list_sort_plain,kL];rfl
theorem W8{Q:au->ax->Prop}(hl:s.heap.IsList l vs.toArray)(h64:vs.length<=100000)(O:Ord vs.length lt)(K:Asks prog w A.in1.in1 s.heap vs κ lt)
  (h:∀p,Pm vs.length p->Up (ltR al vs.length lt) p vs.length->Q (.ref (s.heap.objs.size+1)) {s with heap:=sortedAll s.heap vs (de (lj al (p.toList.map λi=>(lj al vs).getD i bD)))}) :
  bc (aS prog w) A (call (.builtin "sorted") [.ref l]) Q E s:=by
 refine Calls.call_function_entry kind_sorted plain_sorted entry_sorted (args_sorted1 _) ?_;unfold eD.«sorted»;refine ae (aA ?_);refine ae (collect_list hl ?_ (by rw[dm];lia))
 refine ae (wpAny_newList ?_ (by rw[dm];lia))
 have hsz:((s.heap.push (iZ "list" #[] 0)).update s.heap.objs.size (eT (·++vs.toArray))).objs.size=s.heap.objs.size+1:=by
  rw[lF,size_push']
 have hoL:(((s.heap.push (iZ "list" #[] 0)).update s.heap.objs.size (eT (·++vs.toArray))).push (iZ "list" vs.toArray 0)).get? (s.heap.objs.size+1)=aa (iZ "list" vs.toArray 0):=by
  rw[<-hsz];exact aO _ rfl
 rw[hsz];refine ae (cz (da slot_list_sort ⟨_,hoL,rfl⟩ entry_list_sort (by
  rw[v9];exact list_sort_rev hoL h64 (λb o e=>by
   have hlt:=aJ e;refine⟨br (eR hlt),?_⟩;rw[hU _ _ _ (by rw[hsz];exact br (eR hlt)),mY _ _ _ _ (br hlt),hU _ _ _ (br hlt)]
   exact e) O K λp a1 a2=>⟨_,rfl,aA ⟨_,rfl,h p a1 a2⟩⟩) (args_list_sort _)))
end
end Sq
namespace Sd
open PySem PySem.Spec PyProof.Rows L2
open Ev (E Sm Fn Bop Cop Ty Bf Mf)
section
variable{X:Cx}{pq:List (aC×eG)}{σ:L2.St}{H:Hp}{s:ax}{A:bQ}{E:au->ax->Prop}{b:Bool}{Q:au->ax->Prop}
def yd(I:Inv X pq σ H s)(rx:Zu x u)(ty:TyOf X.K H x t)(htp:s.heap.get? tp=aa ⟨.type "tuple",dd,.seq its.toArray n,sl⟩)
  (e:gd X.K t its=aa b)(h:∀tk,Q (.bool b) {s with toks:=tk}):bc (aS X.prog X.w) A (call (.builtin "isinstance") [u,.ref tp]) Q E s:=by
 cases ty with
 |non=>cases(show u=bD from rx);exact c9 nP I.kIn dg htp e (λz=>nomatch z) h
 |bl y=>cases(rx);exact c9 nQ I.kIn dg htp e (λz=>nomatch z) h
 |int i=>obtain⟨t,q⟩:=(rx);cases q;exact c9 oC I.kIn dg htp e (λz=>nomatch z) h
 |str y=>obtain⟨t,q⟩:=(rx);cases q;exact c9 oD I.kIn dg htp e (λz=>nomatch z) h
 |flt y=>obtain⟨t,q⟩:=(rx);cases q;exact c9 nA I.kIn dg htp e (λz=>nomatch z) h
 |@lst a xs ea=>
  cases(rx);obtain⟨_,_,n,_,h1⟩:=(I.hok a _ ea)
  exact c9 gU I.kIn ⟨_,h1,rfl⟩ htp e (λz=>nomatch z) h
 |@frz a ob xs ea=>
  cases(rx);obtain⟨_,_,_,n,_,h1⟩:=(I.hok a _ ea)
  exact c9 gU I.kIn ⟨_,h1,rfl⟩ htp e (λz=>nomatch z) h
 |@tup a xs ea=>
  cases(rx);obtain⟨_,_,_,p⟩:=(I.hok a _ ea)
  obtain⟨o,h1,h2,_⟩:=p;exact c9 nB I.kIn ⟨o,h1,h2⟩ htp e (λz=>nomatch z) h
 |@dK a kvs ea=>
  cases(show u=cU a from rx);obtain⟨_,_,vs,_,p⟩:=(I.hok a _ ea)
  obtain⟨o,es,ep,h1,h2,_⟩:=p;exact c9 gV I.kIn ⟨o,h1,h2.1⟩ htp e (λz=>nomatch z) h
 |@dT a kvs ea=>
  cases(show u=cU a from rx);obtain⟨_,_,xs,_,o,es,ep,h1,h2,_⟩:=(I.hok a _ ea)
  exact c9 gV I.kIn ⟨o,h1,h2.1⟩ htp e (λz=>nomatch z) h
 |@ins a C dx fs ea cl ha hn htk hm=>
  cases(show u=cU a from rx);obtain⟨mA,O,_⟩:=wL I.hok ea
  obtain⟨od,J,_⟩:=O.look;exact c9 (oE (cl.get _) cl.hd ha hn htk hm) I.kIn J htp e (λz=>nomatch z) h
end
section
variable{X:Cx}{xw:Nat->Hp->Prop}{C:Calls}{e a b c:Expr}{i j k:E}{pos p p' p2 p3:eY}
def ub(T U:String):Zz X (.builtin "isinstance") (λvs H Q=>∃v tv n q,vs=[v,.ref q]/\H q=aa (.tup [.ty T,.ty U])/\TyOf X.K H v tv/\gd X.K tv [.type T,.type U]=aa n/\Q (.bl n) H):=by
 intro pq s σ H vs us Q I r h;obtain⟨v,tv,n,q,rfl,hq,ty,e,qq⟩:=h;obtain⟨u,w',rfl,r1,r2⟩:=zH r;cases r2;obtain⟨its,rv,⟨o,ho,hc,m,hd⟩,_⟩:=I.tuple (SqT.of hq);obtain⟨cls,dd,data,sl⟩:=o;simp only at hc hd;subst hc hd;obtain⟨z1,z2,rfl,q1,q2⟩:=zH rv;cases q1;cases q2;exact yd I r1 ty ho e λtk=>⟨.bl n,H,I.tok tk,rfl,qq⟩
def TyOf.later{K:ak}{H:Hp}{v:V}{tv:au}{q:aC}{o:HO}(h:TyOf K H v tv)(hq:H q=af):TyOf K (upd H q o) v tv:=by
 cases h with|non=>exact .non|bl b=>exact .bl b|int b=>exact .int b|str b=>exact .str b|flt b=>exact .flt b|lst e=>exact .lst (by rw[Zi (ZH e hq)];exact e)|frz e=>exact .frz (by rw[Zi (ZH e hq)];exact e)|tup e=>exact .tup (by rw[Zi (ZH e hq)];exact e)|dK e=>exact .dK (by rw[Zi (ZH e hq)];exact e)|dT e=>exact .dT (by rw[Zi (ZH e hq)];exact e)|ins e a1 a2 a3 a4 a5=>exact .ins (by rw[Zi (ZH e hq)];exact e) a1 a2 a3 a4 a5
def TyOf.uniq{K:ak}{H:Hp}{v:V}{t1 t2:au}(h1:TyOf K H v t1)(h2:TyOf K H v t2):t1=t2:=by
 cases h1<;>cases h2<;>first|rfl|simp_all
theorem J2{T U:bn}{t u:Ty}{k0:Nat}{p4:eY}(ht:∀m,t≠.cls m)(hu:∀m,u≠.cls m)(hm:X.mg "isinstance" = af)(hmT:X.mg T=af)(hmU:X.mg U=af)(ha:CE X xw C a i)(hg:Gl X "isinstance":=by rfl)(hgT:Gl X T:=by rfl)(hgU:Gl X U:=by rfl)(hvT:dy T=aa (.type (ZQ t)):=by rfl)(hvU:dy U=aa (.type (ZQ u)):=by rfl)(hnT:T≠"__name__":=by decide)(hdT:(T == ("__debug__" : bn))=al:=by decide)(hnU:U≠"__name__":=by decide)(hdU:(U == ("__debug__" : bn))=al:=by decide)
  (hs0:aE [.Name T p2,.Name U p3] X.env=(al,cR (.Name T p2) X.env)::aE [.Name U p3] X.env:=by rfl)(hs00:aE [.Name U p3] X.env=(al,cR (.Name U p3) X.env)::aE [] X.env:=by rfl)
  (hs1:aE [a,.Tuple [.Name T p2,.Name U p3] k0 p4] X.env=(al,cR a X.env)::aE [.Tuple [.Name T p2,.Name U p3] k0 p4] X.env:=by rfl)(hs2:aE [.Tuple [.Name T p2,.Name U p3] k0 p4] X.env=(al,cR (.Tuple [.Name T p2,.Name U p3] k0 p4) X.env)::aE [] X.env:=by rfl)(hpl:(dU pos (aE [.Tuple [.Name T p2,.Name U p3] k0 p4] X.env)).any (·.1)=al:=by rfl) :
  CE X xw C (.Call (.Name "isinstance" p) [a,.Tuple [.Name T p2,.Name U p3] k0 p4] [] pos) (.isi i [t,u]):=
 PE.imp (Xi (ub (ZQ t) (ZQ u)) hg hm (by rfl) (Zw ha (Zw (jb (Zw (Ua (v:=.ty (ZQ t)) hgT hmT hvT rfl hnT hdT) (Zw (Ua (v:=.ty (ZQ u)) hgU hmU hvU rfl hnU hdU) Yj hs00) hs0)) Yj hs2) hs1) (by decide) (by decide) hs1 hpl) λσ H Q ⟨ρ,l,S,st,lr,h⟩=>by
  refine⟨ρ,l,S,st,lr,End.bind (h) λx S1 ρ1 H1 v f1 st1 r1 h1=>⟨by show 2<=bi;rw[dm];lia,λq hq=>?_⟩⟩
  obtain⟨n,hn,h2⟩:=End.ob h1;have st2:=st1.fresh (o:=.tup [.ty (ZQ t),.ty (ZQ u)]) hq;have f2:=Zs (ρ:=ρ1) (o:=.tup [.ty (ZQ t),.ty (ZQ u)]) hq;have fin:=λtv ty e=>(⟨v,tv,n,q,rfl,Zk,TyOf.later ty hq,e,h2 ρ1 _ _ f2 st2 (Z9 n)⟩:∃v' tv n q',[v,V.ref q]=[v',.ref q']/\upd H1 q (.tup [.ty (ZQ t),.ty (ZQ u)]) q'=aa (.tup [.ty (ZQ t),.ty (ZQ u)])/\TyOf X.K (upd H1 q (.tup [.ty (ZQ t),.ty (ZQ u)])) v' tv/\gd X.K tv [.type (ZQ t),.type (ZQ u)]=aa n/\Q (.bl n) (upd H1 q (.tup [.ty (ZQ t),.ty (ZQ u)])))
  unfold Pv.Z1 at hn;cases q1:Pv.Yn x t with
  |none=>rw[q1]at hn;cases hn
  |some m=>
   rw[q1]at hn;obtain⟨tv,ty,e⟩:=yK r1 ht q1;cases m with
   |true=>
    have hn':n=aj:=(am hn).symm;exact fin tv ty (by unfold gd;rw[e,hn'])
   |false=>
    have hn1:(match Pv.Yn x u with
     |some aj=>aa aj
     |some al=>Pv.Z1 x []
     |none=>af)=aa n:=hn
    cases q2:Pv.Yn x u with
    |none=>rw[q2]at hn1;cases hn1
    |some m2=>
     rw[q2]at hn1;obtain⟨tv2,ty2,e2⟩:=yK r1 hu q2;have et:tv2=tv:=TyOf.uniq ty2 ty;subst et;refine fin tv2 ty ?_;unfold gd;rw[e];unfold gd;rw[e2];cases m2 with|true=>exact hn1|false=>exact hn1
end
end Sd
namespace Sd
open Ev (ltI Wb Z2)
theorem V0:∀{x y:List Int},x≠y->ltI x y=al->ltI y x=aj
 |[],[],h,_=>T7 rfl h
 |[],_::_,_,h=>by cases h
 |_::_,[],_,_=>rfl
 |a::x,b::y,h,e=>by
  unfold ltI at e ⊢;by_cases c:a=b
  ·subst c
   rw[T9 rfl]at e ⊢;exact V0 (λz=>h (by rw[z])) e
  ·rw[T8 c]at e
   rw[T8 (Ne.symm c)];have:=of_decide_eq_false e;exact T5 (by omega)
theorem Y5:∀{x y:List Int},ltI x y=aj->ltI y x=al
 |[],[],h=>by cases h
 |[],_::_,_=>rfl
 |_::_,[],h=>by cases h
 |a::x,b::y,e=>by
  unfold ltI at e ⊢;by_cases c:a=b
  ·subst c
   rw[T9 rfl]at e ⊢;exact Y5 e
  ·rw[T8 c]at e
   rw[T8 (Ne.symm c)];have:=T6 e;exact T4 (by omega)
theorem Jt:∀{x y z:List Int},ltI x y=aj->ltI y z=aj->ltI x z=aj
 |[],[],_,h,_=>by cases h
 |_::_,[],_,h,_=>by cases h
 |_,_::_,[],_,h=>by cases h
 |[],_::_,_::_,_,_=>rfl
 |a::x,b::y,c::z,e,f=>by
  unfold ltI at e f ⊢;by_cases h1:a=b
  ·subst h1
   rw[T9 rfl]at e;by_cases h2:a=c
   ·subst h2
    rw[T9 rfl]at f ⊢;exact Jt e f
   ·rw[T8 h2]at f ⊢;exact f
  ·rw[T8 h1]at e
   have e':=T6 e;by_cases h2:b=c
   ·subst h2
    rw[T8 h1];exact e
   ·rw[T8 h2]at f
    have f':=T6 f;rw[T8 (by omega)]
    exact T5 (by omega)
theorem Vi(x:List Int):∀l:List (List Int),(Wb x l).Perm (x::l)
 |[]=>du _
 |y::r=>by
  unfold Wb;split
  ·exact du _
  ·exact((Vi x r).cons y).trans (mL x y r)
theorem YS:∀l:List (List Int),(Z2 l).Perm l
 |[]=>du _
 |x::r=>(Vi x (Z2 r)).trans ((YS r).cons x)
theorem VM(x:List Int):∀{l:List (List Int)},(∀y∈l,x≠y)->l.Pairwise (λa b=>ltI a b=aj)->(Wb x l).Pairwise (λa b=>ltI a b=aj)
 |[],_,_=>by exact fj ..
 |y::r,hn,h=>by
  rw[aZ]at h;unfold Wb;split
  ·rename_i c
   rw[aZ,aZ];refine⟨λz hz=>?_,h⟩
   rcases az.mp hz with rfl|hz
   ·exact c
   ·exact Jt c (h.1 z hz)
  ·rename_i c
   rw[aZ];refine⟨λz hz=>?_,VM x (λy hy=>hn y (aq _ hy)) h.2⟩
   rcases az.mp ((Vi x r).mem_iff.mp hz)with rfl|hz
   ·exact V0 (hn y (ao ..)) (by simpa using c)
   ·exact h.1 z hz
theorem Xv:∀{l:List (List Int)},l.Nodup->(Z2 l).Pairwise (λa b=>ltI a b=aj)
 |[],_=>gY
 |x::r,h=>by
  rw[c8]at h;exact VM x (λy hy e=>h.1 (by rw[e];exact(YS r).mem_iff.mp hy)) (Xv h.2)
theorem XZ:∀{a b:List (List Int)},a.Perm b->a.Pairwise (λx y=>ltI x y=aj)->b.Pairwise (λx y=>ltI x y=aj)->a=b
 |[],b,p,_,_=>(oV p)
 |x::a,[],p,_,_=>by have:=p.length_eq;simp at this
 |x::a,y::b,p,ha,hb=>by
  rw[aZ]at ha hb;have e:x=y:=by
   rcases az.mp (p.mem_iff.mp (ao ..))with h|h
   ·exact h
   ·rcases az.mp (p.mem_iff.mpr (ao))with h2|h2
    ·exact h2.symm
    ·have z1:=hb.1 x h
     have z2:=ha.1 y h2;rw[Y5 z1]at z2;cases z2
  subst e;rw[XZ (pU x |>.mp p) ha.2 hb.2]
end Sd
namespace Sd
open PySem PySem.Spec PyProof.Rows L2
open Ev (E Sm Fn Bop Cop Ty Bf Mf ltI Wb Z2 Ym VZ YA ltP YK)
noncomputable def Qr(fin:Bool):List Int->List Int->Bool
 |[],_=>fin
 |_::_,[]=>fin
 |a::x,b::y=>if a=b then Qr fin x y else ag (a<b)
theorem GE:∀(x y:List Int),Qr (ag (x.length<y.length)) x y=ltI x y
 |[],[]=>rfl
 |[],_::_=>by unfold Qr ltI;simp
 |_::_,[]=>by unfold Qr ltI;simp
 |a::x,b::y=>by
  unfold Qr ltI;have:ag ((a::x).length<(b::y).length)=ag (x.length<y.length):=by simp
  rw[this,GE x y]
section
variable{prog:bq}{w:bK}{A:bQ}{s:ax}
theorem zj{C:Bool->ax->Prop}:∀{x y:List Int}{u v:List au}{i:Nat},Vals (x.map V.int) u->Vals (y.map V.int) v->C (Qr fin x y) s->pV prog w A b fin C (u.zip v) i s
 |[],_,_,_,_,.nil,_,h=>by rw[hV];exact i4 h
 |_::_,[],_,_,_,_,.nil,h=>by rw[gR];exact i4 h
 |a::x,c::y,_,_,i,.cons ra ta,.cons rb tb,h=>by
  obtain⟨t,rfl⟩:=ra;obtain⟨t',rfl⟩:=rb;rw[cc];refine oW (lv ?_);unfold Qr at h;by_cases e:a=c
  ·rw[T9 e]at h
   rw[beq_iff_eq.mpr e];exact pj (zj ta tb h)
  ·rw[T8 e]at h
   rw[beq_eq_false_iff_ne.mpr e];refine pW ?_;cases q:(b&&i == 0)with|true=>exact oneLt_int h|false=>exact pz _ _ (lt_int h)
end
section
variable{X:Cx}{pq:List (aC×eG)}{σ:L2.St}{H:Hp}{s:ax}{ρ:Mx}
inductive RowsAt(h:bX):List (List Int)->List au->Prop where
 |nil:RowsAt h [] []
 |cons {r:List Int} {rs:List (List Int)} {vs:List au} {a:aC} {o:eG} {us:List au} {m:Nat} (ho:h.get? a=aa o) (hc:o.cls=.type "tuple") (hd:o.data=.seq us.toArray m) (hv:Vals (r.map V.int) us) (t:RowsAt h rs vs):RowsAt h (r::rs) (.ref a::vs)
theorem Ul:∀{ks:List D}{k:List Int},Pv.intsV ks=aa k->ks=k.map Pv.V.int
 |[],k,h=>by cases h;rfl
 |d::ks,k,h=>by
  obtain⟨n,r,rfl,e,rfl⟩:=VE h;rw[Ul e];rfl
def vO(h:Pv.Z3 (d::ds)=aa rs):∃a b,d=Pv.Zc a/\Pv.Z3 ds=aa b/\rs=a::b:=by
 cases d with
 |tup x=>
  have h:(match Pv.intsV x,Pv.Z3 ds with
   |some a,aa b=>aa (a::b)
   |_,_=>af)=aa rs:=h
  cases q1:Pv.intsV x with
  |none=>rw[q1]at h;cases h
  |some a=>
   cases q2:Pv.Z3 ds with
   |none=>rw[q1,q2]at h;cases h
   |some b=>
    rw[q1,q2]at h;exact⟨a,b,congrArg Pv.V.tup (Ul q1),rfl,(am h).symm⟩
 |_=>exact Ev.nos h
theorem Rq.intsV:∀{r:List Int}{xs:List V},Rq ρ H (r.map Pv.V.int) xs->xs=r.map V.int
 |[],xs,h=>by exact h
 |n::r,xs,h=>by
  have h':=h;obtain⟨v,vs,rfl,a,b⟩:=h';rw[a.int',Rq.intsV b];rfl
theorem WZ(I:Inv X pq σ H s):∀{ds:List D}{rs:List (List Int)}{xs:List V}{its:List au},Pv.Z3 ds=aa rs->Rq ρ H ds xs->Vals xs its->RowsAt s.heap rs its/\ds=rs.map Pv.Zc
 |[],rs,xs,its,h,r,v=>by
  subst r;cases v;cases h;exact⟨.nil,rfl⟩
 |d::ds,rs,xs,its,h,r,v=>by
  obtain⟨x,xs',rfl,r1,r2⟩:=r;cases v with
  |cons v1 v2=>
   obtain⟨a,b,rfl,q2,rfl⟩:=vO h;obtain⟨t,e⟩:=WZ I q2 r2 v2;obtain⟨p,ys,rfl,hp,ry⟩:=r1.tup';have ey:=Rq.intsV ry;subst ey;cases v1;obtain⟨us,rv,⟨o,ho,hc,m,hd⟩,_⟩:=I.tuple (SqT.of hp);exact⟨.cons ho hc hd rv t,by rw[e];rfl⟩
theorem RowsAt.length{h:bX}:∀{rs:List (List Int)}{vs:List au},RowsAt h rs vs->rs.length=vs.length
 |_,_,.nil=>rfl
 |_,_,.cons _ _ _ _ t=>by rw[aQ,aQ,RowsAt.length t]
theorem RowsAt.at{h:bX}:∀{rs:List (List Int)}{vs:List au}(i:Nat),RowsAt h rs vs->i<vs.length->∃a o us m,vs.getD i bD=.ref a/\h.get? a=aa o/\o.data=.seq us.toArray m/\Vals ((rs.getD i []).map V.int) us
 |_,_,_,.nil,hi=>by simp at hi
 |_,_,0,.cons ho hc hd hv t,_=>⟨_,_,_,_,rfl,ho,hd,hv⟩
 |_,_,i+1,.cons ho hc hd hv t,hi=>by
  obtain⟨a,o,us,m,e1,e2,e3,e4⟩:=RowsAt.at i t (by simpa using hi)
  exact⟨a,o,us,m,by simpa using e1,e2,e3,by simpa using e4⟩
theorem RowsAt.tups(k:Sq.Lat h h'):∀{rs:List (List Int)}{vs:List au},RowsAt h rs vs->(∀r∈rs,r≠[])->∃fs,pA h' vs fs/\fs.length=vs.length/\∀v∈fs,∃n t,v=lu n t
 |_,_,.nil,_=>⟨[],.nil,rfl,λv hv=>by cases hv⟩
 |_,_,.cons (r:=r) ho hc hd hv t,hn=>by
  obtain⟨fs,t1,t2,t3⟩:=RowsAt.tups k t λr hr=>hn r (aq _ hr)
  have hr:=hn r (ao ..);cases r with
  |nil=>exact T7 rfl hr
  |cons n r=>
   obtain⟨u,g,rel⟩:=hv.get (i:=0) rfl;refine⟨u::fs,.cons (k _ _ ho) hc hd (by simpa using g) t1,by rw[aQ,aQ,t2],λv hv=>?_⟩
   rcases az.mp hv with rfl|hv
   ·obtain⟨tk,e⟩:=rel
    exact⟨n,tk,e⟩
   ·exact t3 v hv
theorem WS:∀{x y:List Int}{us:List au},Vals (x.map V.int) us->Vals (y.map V.int) us->x=y
 |[],[],_,_,_=>rfl
 |[],_::_,_,.nil,h=>by cases h
 |_::_,[],_,h,.nil=>by cases h
 |a::x,b::y,_,.cons r t,.cons r' t'=>by
  obtain⟨k,rfl⟩:=r;obtain⟨k',e⟩:=r';cases e;rw[WS t t']
theorem zh{α:Type}{df:α}{rs:List α}{vs:List au}(hl:rs.length=vs.length)(nd:rs.Nodup)(h:∀i j,i<vs.length->j<vs.length->vs.getD i bD=vs.getD j bD->rs.getD i df=rs.getD j df):vs.Nodup:=by
 refine ck.mpr λi j hi hj hij e=>?_
 have:=h i j hi hj (by simp[hi,hj,e])
 simp only[aF,ai (show i<rs.length by lia),ai (show j<rs.length by lia)]at this
 exact ck.mp nd i j (by lia) (by lia) hij this
theorem vA{prog:bq}{w:bK}{A:bQ}{h:bX}{rs:List (List Int)}{vs:List au}(R:RowsAt h rs vs)(nd:rs.Nodup)(hn:∀r∈rs,r≠[]):Sq.Asks prog w A h vs (tuples' aj) (λi j=>ltI (rs.getD i []) (rs.getD j [])):=by
 refine⟨λh2 s' E Q k q=>?_,zh (df:=[]) R.length nd λi j hi hj e=>?_,λi j hi hj s' C E k q=>?_⟩
 ·obtain⟨fs,t1,t2,t3⟩:=R.tups k hn
  exact oX (T:=.type "int") t1 (by lia) (λv hv=>by obtain⟨n,t,rfl⟩:=t3 v hv;exact PySem.W.Looks.of_pure rfl) rfl q
 ·obtain⟨a,o,us,m,e1,e2,e3,e4⟩:=R.at i hi
  obtain⟨a',o',us',m',f1,f2,f3,f4⟩:=R.at j hj;rw[e1,f1]at e;cases e;rw[e2]at f2;cases f2;rw[e3]at f3;cases f3;exact WS e4 f4
 ·obtain⟨a,o,us,m,e1,e2,e3,e4⟩:=R.at i hi
  obtain⟨a',o',us',m',f1,f2,f3,f4⟩:=R.at j hj;rw[e1,f1];refine pX (k _ _ e2) e3 (k _ _ f2) f3 (zj e4 f4 ?_);have l1:us.toArray.size=(rs.getD i []).length:=by rw[ay,<-e4.length,aB]
  have l2:us'.toArray.size=(rs.getD j []).length:=by rw[ay,<-f4.length,aB]
  rw[l1,l2,GE];exact q
theorem j7{rs:List (List Int)}{n:Nat}(hn:rs.Nodup)(hl:rs.length=n):Sq.Ord n (λi j=>ltI (rs.getD i []) (rs.getD j [])):=by
 have hd:∀i j,i<n->j<n->i≠j->rs.getD i []≠rs.getD j []:=λi j hi hj ne e=>by
  simp only[aF]at e;have hi':i<rs.length:=by lia
  have hj':j<rs.length:=by lia
  refine ne ((hJ hi' hn).mp ?_);rw[ai hi',ai hj']at e ⊢;exact congrArg aa e
 exact⟨λi j hi hj ne e=>V0 (hd i j hi hj ne) e,λi j _ _ e=>Y5 e,λi j k _ _ _ e f=>Jt e f⟩
def Qf{α β:Type}(b:Bool)(f:α->β)(l:List α):bx b (l.map f)=(bx b l).map f:=by
 cases b
 ·rfl
 ·exact List.map_reverse.symm
def VL{α:Type}(b:Bool)(l:List α):(bx b l).Perm l:=by
 cases b
 ·exact du _
 ·exact fT l
def YZ{α:Type}{d:α}{b:Bool}{vs:List α}{i:Nat}(hi:i<vs.length):(bx b vs).getD i d=vs.getD (if b=aj then vs.length-1-i else i) d:=by
 cases b
 ·rfl
 ·show vs.reverse.getD i d=vs.getD (vs.length-1-i) d
  simp only[aF];rw[mh hi]
theorem qO{rs:List (List Int)}{b:Bool}{p:Array Nat}(hn:rs.Nodup)(h1:Sq.Pm rs.length p)(h2:Sq.Up (Sq.ltR b rs.length λi j=>ltI (rs.getD i []) (rs.getD j [])) p rs.length) :
  (p.toList.map λi=>(bx b rs).getD i [])=Z2 rs:=by
 have hp:p.toList.Perm (aY rs.length):=by simpa using bJ.mp h1
 have hl:p.toList.length=rs.length:=by rw[hp.length_eq,bS]
 refine XZ ?_ ?_ (Xv hn)
 ·refine((hp.map _).trans ?_).trans (YS rs).symm
  have e:(aY rs.length).map (λi=>(bx b rs).getD i [])=bx b rs:=by
   apply cX
   intro i;rw[aR];by_cases h:i<rs.length
   ·have:i<(bx b rs).length:=by rw[eN];exact h
    rw[dE h];simp[this]
   ·have:(bx b rs).length<=i:=by rw[eN];lia
    simp[fb h,this]
  rw[e];exact VL b rs
 ·rw[cY,ck]
  intro i j hi hj hij;have g1:p.toList[i]=Sq.g p i:=by
   have:=Sq.u4 (by simpa using hi)
   rw[<-bv,ai hi]at this;exact am this
  have g2:p.toList[j]=Sq.g p j:=by
   have:=Sq.u4 (by simpa using hj)
   rw[<-bv,ai hj]at this;exact am this
  rw[g1,g2,YZ (h1.lt (by lia)),YZ (h1.lt (by lia))]
  have:=h2 i j hij (by lia)
  cases b
  ·exact this
  ·exact this
def jx{F:List Nat}{xs:List V}{rs:List (List Int)}(h:Rq ρ H (rs.map Pv.Zc) xs)(hF:∀i∈F,i<rs.length):Rq ρ H ((F.map λi=>rs.getD i []).map Pv.Zc) (F.map λi=>xs.getD i V.non):=by
 induction F with
 |nil=>exact Rq.nil
 |cons i F ih=>
  refine Rq.cons ?_ (ih λj hj=>hF j (aq _ hj))
  have hi:=hF i (ao ..);obtain⟨v,g,r⟩:=h.get (by rw[aR,ai hi];rfl)
  show Rep ρ H (Pv.Zc (rs.getD i [])) (xs.getD i V.non);rw[aF,aF,g,ai hi];exact r
def zf{F:List Nat}{xs:List V}{us:List au}(h:Vals xs us)(hF:∀i∈F,i<xs.length):Vals (F.map λi=>xs.getD i V.non) (F.map λi=>us.getD i bD):=by
 induction F with
 |nil=>exact .nil
 |cons i F ih=>
  refine .cons ?_ (ih λj hj=>hF j (aq _ hj))
  have hi:=hF i (ao ..);obtain⟨u,g,r⟩:=h.get (ai hi);show Zu (xs.getD i V.non) (us.getD i bD);rw[aF,aF,g,ai hi];exact r
def z5(h:Rq ρ H ds xs):Rq ρ H (bx b ds) (bx b xs):=by
 cases b
 ·exact h
 ·exact h.reverse
def zV :∀{xs:List V}{us:List au},Vals xs us->Vals (bx b xs) (bx b us):=by
 cases b
 ·exact λh=>h
 ·have snoc:∀{xs:List V}{us:List au}{x:V}{u:au},Vals xs us->Zu x u->Vals (xs++[x]) (us++[u]):=by
   intro xs us x u h r
   induction h with|nil=>exact .cons r .nil|cons a _ ih=>exact .cons a ih
  intro xs us h;show Vals xs.reverse us.reverse
  induction h with|nil=>exact .nil|cons r t ih=>rw[eQ,eQ];exact snoc ih r
end
section
variable{X:Cx}{xw:Nat->Hp->Prop}{C:Calls}{e a b c:Expr}{i j k:E}{pos p p' p2 p3:eY}
def Zct(b:Bool):List V->Hp->VK->Prop:=λvs H Q=>∃ρ ds rws v,vs=[v]/\Rep ρ H (.lst ds) v/\Pv.Z3 ds=aa rws/\Ym rws=aj/\∀ys,Rq ρ H ((if b then(Z2 rws).reverse else Z2 rws).map Pv.Zc) ys->∀p,H p=af->Q (.ref p) (upd H p (.lst ys))
theorem uk{pq:List (aC×eG)}{s:ax}{σ:L2.St}{H:Hp}{vs:List V}{us:List au}{Q:VK}{b:Bool}(I:Inv X pq σ H s)(r:Vals vs us)(h:Zct b vs H Q) :
  ∃(l:aC)(its:List au)(rs:List (List Int)),us=[.ref l]/\s.heap.IsList l its.toArray/\its.length<=100000/\rs.length=its.length/\Sq.Ord its.length (λi j=>ltI (rs.getD i []) (rs.getD j []))/\(∀A,Sq.Asks X.prog X.w A s.heap its (tuples' aj) (λi j=>ltI (rs.getD i []) (rs.getD j [])))/\
   ∀p,Sq.Pm its.length p->Sq.Up (Sq.ltR b its.length λi j=>ltI (rs.getD i []) (rs.getD j [])) p its.length->
    EP X pq σ Q (.ref (s.heap.objs.size+1)) {s with heap:=sortedAll s.heap its (de (bx b (p.toList.map λi=>(bx b its).getD i bD)))}:=by
 obtain⟨ρ,ds,rws,v,rfl,r1,hrw,hok,h3⟩:=h;obtain⟨l,xs,rfl,hx,_,rx⟩:=r1.lst';obtain⟨u,rfl,ru⟩:=XR r;cases ru;obtain⟨its,rv,pl,hz⟩:=I.list (SqL.of hx);obtain⟨RA,ed⟩:=WZ I hrw rx rv;obtain⟨hok1,hok3⟩:=(aD _ _).mp hok;obtain⟨hok1,hok2⟩:=(aD _ _).mp hok1;have h64:=T6 hok1;have hnd:=T6 hok2;have hne:∀r∈rws,r≠[]:=λr hr e=>by
  have:=bf.mp hok3 r hr;rw[e]at this;cases this
 have hlen:=RA.length;refine⟨l,its,rws,rfl,pl.isList,by lia,hlen,j7 hnd hlen,λA=>vA RA hnd hne,λp hp hu=>?_⟩
 rw[<-hlen]at hp hu;have out:=qO hnd hp hu;have hmem:∀i∈p.toList,i<rws.length:=λi hi=>by
  have hp':p.toList.Perm (aY rws.length):=by simpa using bJ.mp hp
  exact bt.mp (hp'.mem_iff.mp hi)
 subst ed;have xl:xs.length=rws.length:=by rw[rx.length,aB]
 have rx1:Rq ρ H ((bx b rws).map Pv.Zc) (bx b xs):=by rw[<-Qf];exact z5 rx
 have rx2:=jx rx1 (by rw[eN];exact hmem)
 rw[out]at rx2;have rx3:=z5 (b:=b) rx2;have rv2:=zV (b:=b) (zf (zV (b:=b) rv) (by rw[eN,xl];exact hmem))
 have eb:(if b=aj then(Z2 rws).reverse else Z2 rws)=bx b (Z2 rws):=rfl
 rw[eb,<-Qf]at h3;obtain⟨ep,he⟩:=sortedAll_at s.heap its (de (bx b (p.toList.map λi=>(bx b its).getD i bD)))
 refine⟨.ref (s.heap.objs.size+1),_,I.laid (t':=s.toks) (λb ob q=>sortedAll_old q) (kZ _) ?_,rfl,h3 _ rx3 _ (I.hok.fresh (kZ _))⟩
 refine⟨?_,_,ep,rv2,he⟩;rw[eN,aB,aN,hp.size,dm];lia
def zQ:Zz X (.builtin "sorted") (Zct al):=by
 intro pq s σ H vs us Q I r h;obtain⟨l,its,rs,rfl,h1,h2,h3,h4,h5,h6⟩:=uk I r h;exact Sq.W8 h1 h2 h4 (h5 _) λp a b=>h6 p a b
end
end Sd
namespace Sd
open PySem PySem.Spec PyProof.Rows L2
open Ev (ltI)
open PySem.SeqAt PySem.MeetsSeq PySem.MeetsSeq2 PySem.MeetsSeq3 PySem.SeqRoads2
open PySem.AutoSeq1 (wpAny_loadPart')
def yN(l b:aC)(u v:List au)(n n2:Nat)(dd dd2:Option aC)(sl sl2:Array (Option au))(x y:List Int)(hx:Vals (x.map V.int) u)(hy:Vals (y.map V.int) v) :
  pP (eD.«tuple.__lt__» ⟨[.ref l,.ref b],[]⟩) (λA R s=>s.heap.get? l=aa {cls:=.type "tuple",dict:=dd,data:=.seq u.toArray n,slots:=sl}/\s.heap.get? b=aa {cls:=.type "tuple",dict:=dd2,data:=.seq v.toArray n2,slots:=sl2}/\R (.ok (.ret (.bool (ltI x y)))) s):=
 .of_wp λprog w A R s h=>by
  obtain⟨hp,g,d,tk,os⟩:=s;obtain⟨hl,hb,h⟩:=h;have f2:=dM;rw[<-GE]at h
  wp_walk using i5 hl,i5 hb,wpAny_forIn_list _ (λrest b s'=>b.1=af/\s'=⟨hp,g,d,tk,os⟩/\∃x' y' u' v',rest=rW u' v'/\Vals (mK V.int x') u'/\Vals (mK V.int y') v'/\R (.ok (.ret (.bool (Qr (ag (x.length<y.length)) x' y')))) ⟨hp,g,d,tk,os⟩) _
  case turn=>
   rintro ⟨a,c⟩ rest b s' ⟨hb',rfl,x',y',u',v',hz,hx',hy',hR⟩
   match x',y',u',v',hx',hy',hz,hR with
   |i::x',j::y',_::u',_::v',.cons ra ta,.cons rb tb,hz,hR=>
    obtain⟨t,rfl⟩:=ra;obtain⟨t',rfl⟩:=rb;rw[cc]at hz;injection hz with h1 h2
    cases h1;unfold Qr at hR;refine ae (lv ?_);by_cases e:i=j
    ·rw[T9 e]at hR
     rw[beq_iff_eq.mpr e]
     wp_walk
     exact⟨rfl,rfl,x',y',u',v',h2,ta,tb,hR⟩
    ·rw[T8 e]at hR
     rw[beq_eq_false_iff_ne.mpr e];simp only[hZ,if_true];refine ae (dW (ae (PyProof.Rows.lt_int ?_)))
     wp_walk
     exact⟨_,rfl,by simpa using hR⟩
   |[],_,_,_,.nil,_,hz,_=>rw[hV]at hz;cases hz
   |_::_,[],_,_,_,.nil,hz,_=>rw[gR]at hz;cases hz
  case fin=>
   rintro ⟨b1,b2⟩ s' ⟨hb',rfl,x',y',u',v',hz,hx',hy',hR⟩
   simp only at hb';subst hb';have hf:Qr (ag (x.length<y.length)) x' y'=ag (x.length<y.length):=by
    match x',y',u',v',hx',hy',hz with
    |[],_,_,_,_,_,_=>rfl
    |_::_,[],_,_,_,_,_=>rfl
    |_::_,_::_,_::_,_::_,.cons _ _,.cons _ _,hz=>rw[cc]at hz;cases hz
   rw[hf]at hR;have l1:u.length=x.length:=by rw[<-hx.length,aB]
   have l2:v.length=y.length:=by rw[<-hy.length,aB]
   wp_walk
   exact⟨_,rfl,by simpa[ig,l1,l2]using hR⟩
  case h=>
   exact⟨rfl,rfl,x,y,u,v,by simp,hx,hy,h⟩
def Zcj{E:au->ax->Prop}{Q:au->ax->Prop}(ha:s.heap.get? a=aa o)(hc:o.cls=.type "tuple")(hd:o.data=.seq u.toArray m)(hx:Vals (x.map V.int) u)
  (hb:s.heap.get? b=aa o')(hc':o'.cls=.type "tuple")(hd':o'.data=.seq v.toArray m')(hy:Vals (y.map V.int) v)(hu:A.units<dz)(q:Q (.bool (ltI x y)) s):bc (aS prog w) A (cK .Lt (.ref a) (.ref b)) Q E s:=by
 obtain⟨cls,dd,data,sl⟩:=o;obtain⟨cls2,dd2,data2,sl2⟩:=o';simp only at hc hd hc' hd';subst hc hd hc' hd';exact lV (op:=.Lt) ⟨_,ha,rfl⟩ ⟨_,hb,rfl⟩ pB oY (ot _ _) (yN a b u v m m' dd dd2 sl sl2 x y hx hy) ⟨ha,hb,⟨(λx=>nomatch x),q⟩⟩ hu
end Sd
namespace Sd
open Ev (ltI ltP VZ YA)
structure StrictB{α:Type}(lt:α->α->Bool):Prop where
 tot:∀{x y},x≠y->lt x y=al->lt y x=aj
 asy:∀{x y},lt x y=aj->lt y x=al
 tr:∀{x y z},lt x y=aj->lt y z=aj->lt x z=aj
theorem wM:∀{x y:List (List Int)},x≠y->ltP x y=al->ltP y x=aj
 |[],[],h,_=>T7 rfl h
 |[],_::_,_,h=>by cases h
 |_::_,[],_,_=>rfl
 |a::x,b::y,h,e=>by
  unfold ltP at e ⊢;by_cases c:a=b
  ·subst c
   rw[T9 rfl]at e ⊢;exact wM (λz=>h (by rw[z])) e
  ·rw[T8 c]at e
   rw[T8 (Ne.symm c)];exact V0 c e
theorem xZ:∀{x y:List (List Int)},ltP x y=aj->ltP y x=al
 |[],[],h=>by cases h
 |[],_::_,_=>rfl
 |_::_,[],h=>by cases h
 |a::x,b::y,e=>by
  unfold ltP at e ⊢;by_cases c:a=b
  ·subst c
   rw[T9 rfl]at e ⊢;exact xZ e
  ·rw[T8 c]at e
   rw[T8 (Ne.symm c)];exact Y5 e
theorem qZ:∀{x y z:List (List Int)},ltP x y=aj->ltP y z=aj->ltP x z=aj
 |[],[],_,h,_=>by cases h
 |_::_,[],_,h,_=>by cases h
 |_,_::_,[],_,h=>by cases h
 |[],_::_,_::_,_,_=>rfl
 |a::x,b::y,c::z,e,f=>by
  unfold ltP at e f ⊢;by_cases h1:a=b
  ·subst h1
   rw[T9 rfl]at e;by_cases h2:a=c
   ·subst h2
    rw[T9 rfl]at f ⊢;exact qZ e f
   ·rw[T8 h2]at f ⊢;exact f
  ·rw[T8 h1]at e
   by_cases h2:b=c
   ·subst h2
    rw[T8 h1];exact e
   ·rw[T8 h2]at f
    have g:=Jt e f;rw[T8 λz=>by subst z;rw[Y5 e]at f;cases f]
    exact g
def UN:StrictB ltP:=⟨wM,xZ,qZ⟩
section
variable{α:Type}{lt:α->α->Bool}
theorem Vx(x:α):∀l:List α,(VZ lt x l).Perm (x::l)
 |[]=>du _
 |y::r=>by
  unfold VZ;split
  ·exact du _
  ·exact((Vx x r).cons y).trans (mL x y r)
theorem Wu:∀l:List α,(YA lt l).Perm l
 |[]=>du _
 |x::r=>(Vx x (YA lt r)).trans ((Wu r).cons x)
theorem VH(O:StrictB lt)(x:α):∀{l:List α},(∀y∈l,x≠y)->l.Pairwise (λa b=>lt a b=aj)->(VZ lt x l).Pairwise (λa b=>lt a b=aj)
 |[],_,_=>by exact fj ..
 |y::r,hn,h=>by
  rw[aZ]at h;unfold VZ;split
  ·rename_i c
   rw[aZ,aZ];refine⟨λz hz=>?_,h⟩
   rcases az.mp hz with rfl|hz
   ·exact c
   ·exact O.tr c (h.1 z hz)
  ·rename_i c
   rw[aZ];refine⟨λz hz=>?_,VH O x (λy hy=>hn y (aq _ hy)) h.2⟩
   rcases az.mp ((Vx x r).mem_iff.mp hz)with rfl|hz
   ·exact O.tot (hn y (ao ..)) (by simpa using c)
   ·exact h.1 z hz
theorem W9(O:StrictB lt):∀{l:List α},l.Nodup->(YA lt l).Pairwise (λa b=>lt a b=aj)
 |[],_=>gY
 |x::r,h=>by
  rw[c8]at h;exact VH O x (λy hy e=>h.1 (by rw[e];exact(Wu r).mem_iff.mp hy)) (W9 O h.2)
theorem W5(O:StrictB lt):∀{a b:List α},a.Perm b->a.Pairwise (λx y=>lt x y=aj)->b.Pairwise (λx y=>lt x y=aj)->a=b
 |[],b,p,_,_=>(oV p)
 |x::a,[],p,_,_=>by have:=p.length_eq;simp at this
 |x::a,y::b,p,ha,hb=>by
  rw[aZ]at ha hb;have e:x=y:=by
   rcases az.mp (p.mem_iff.mp (ao ..))with h|h
   ·exact h
   ·rcases az.mp (p.mem_iff.mpr (ao))with h2|h2
    ·exact h2.symm
    ·have z1:=hb.1 x h
     have z2:=ha.1 y h2;rw[O.asy z1]at z2;cases z2
  subst e;rw[W5 O (pU x |>.mp p) ha.2 hb.2]
end
end Sd
namespace Sd
open PySem PySem.Spec PyProof.Rows L2
open Ev (ltI ltP)
theorem Jm:∀{x:List Int}{u:List au}{j:Nat}(h:j<u.length),Vals (x.map V.int) u->∃t,u[j]=lu (x.getD j 0) t
 |[],[],_,h,.nil=>by simp at h
 |_::_,_::_,0,_,.cons ra _=>by obtain⟨t,rfl⟩:=ra;exact⟨t,rfl⟩
 |_::x,_::u,j+1,h,.cons _ ta=>by
  obtain⟨t,e⟩:=Jm (by simpa using h) ta
  exact⟨t,by simpa using e⟩
def Zek:∀{x y:List Int},((aY (rn x.length y.length)).all (λj=>x.getD j 0 == y.getD j 0)&&x.length == y.length)=ag (x=y):=by
 intro x y;rw[cw,aD,bf,decide_eq_true_iff]
 constructor
 ·rintro ⟨h1,h2⟩
  have h2:x.length=y.length:=by simpa using h2
  apply iD h2;intro i hi hj;have:=h1 i (bt.mpr (by lia))
  simpa[hi,hj]using this
 ·rintro rfl
  exact⟨λj _=>by simp,by simp⟩
def WE(h:bX)(r:List Int)(v:au):Prop:=∃a o us m,v=.ref a/\h.get? a=aa o/\o.cls=.type "tuple"/\o.data=.seq us.toArray m/\Vals (r.map V.int) us
def WE.lat(k:Sq.Lat h h')(R:WE h r v):WE h' r v:=by
 obtain⟨a,o,us,m,e,ho,hc,hd,hv⟩:=R;exact⟨a,o,us,m,e,k _ _ ho,hc,hd,hv⟩
def xV(hx:WE s.heap x v)(hy:WE s.heap y u)(hu:A.units<dz):iz A s v u (ag (x=y)):=by
 obtain⟨a,o,us,m,rfl,ho,hc,hd,hv⟩:=hx;obtain⟨b,o',us',m',rfl,ho',hc',hd',hv'⟩:=hy;have l1:us.toArray.size=x.length:=by rw[ay,<-hv.length,aB]
 have l2:us'.toArray.size=y.length:=by rw[ay,<-hv'.length,aB]
 by_cases e:a=b
 ·subst e
  rw[ho]at ho';cases ho';rw[hd]at hd';injection hd' with h1 h2
  have h1:us=us':=by simpa using h1
  subst h1;rw[T5 (WS hv hv')];exact iR _
 ·refine kE e ?_
  have:=kX ⟨o,ho,hc,m,hd⟩ ⟨o',ho',hc',m',hd'⟩ hu (λj h1 h2=>by
   obtain⟨t,e1⟩:=Jm (by simpa using h1) hv
   obtain⟨t',e2⟩:=Jm (by simpa using h2) hv'
   rw[show us.toArray[j]=us[j]'(by simpa using h1) by simp,show us'.toArray[j]=us'[j]'(by simpa using h2) by simp,e1,e2]
   exact nG _ _ _ _)
  rw[l1,l2,Zek]at this;exact this
def zy{E:au->ax->Prop}{Q:au->ax->Prop}(hx:WE s.heap x v)(hy:WE s.heap y u)(hu:A.units<dz)(q:Q (.bool (ltI x y)) s):bc (aS prog w) A (cK .Lt v u) Q E s:=by
 obtain⟨a,o,us,m,rfl,ho,hc,hd,hv⟩:=hx;obtain⟨b,o',us',m',rfl,ho',hc',hd',hv'⟩:=hy;exact Zcj ho hc hd hv ho' hc' hd' hv' hu q
noncomputable def Qq(fin:Bool):List (List Int)->List (List Int)->Bool
 |[],_=>fin
 |_::_,[]=>fin
 |a::x,b::y=>if a=b then Qq fin x y else ltI a b
theorem Jr:∀(x y:List (List Int)),Qq (ag (x.length<y.length)) x y=ltP x y
 |[],[]=>rfl
 |[],_::_=>by unfold Qq ltP;simp
 |_::_,[]=>by unfold Qq ltP;simp
 |a::x,b::y=>by
  unfold Qq ltP;have:ag ((a::x).length<(b::y).length)=ag (x.length<y.length):=by simp
  rw[this,Jr x y]
inductive RowsIn(h:bX):List (List Int)->List au->Prop where
 |nil:RowsIn h [] []
 |cons {r:List Int} {rs:List (List Int)} {v:au} {vs:List au} (a:WE h r v) (t:RowsIn h rs vs):RowsIn h (r::rs) (v::vs)
theorem RowsIn.lat(k:Sq.Lat h h'):∀{rs:List (List Int)}{vs:List au},RowsIn h rs vs->RowsIn h' rs vs
 |_,_,.nil=>.nil
 |_,_,.cons a t=>.cons (a.lat k) (RowsIn.lat k t)
theorem RowsIn.length :∀{rs:List (List Int)}{vs:List au},RowsIn h rs vs->rs.length=vs.length
 |_,_,.nil=>rfl
 |_,_,.cons _ t=>by rw[aQ,aQ,RowsIn.length t]
theorem zO{C:Bool->ax->Prop}(hu:A.units<dz):∀{x y:List (List Int)}{u v:List au}{i:Nat},RowsIn s.heap x u->RowsIn s.heap y v->C (Qq fin x y) s->pV prog w A al fin C (u.zip v) i s
 |[],_,_,_,_,.nil,_,h=>by rw[hV];exact i4 h
 |_::_,[],_,_,_,_,.nil,h=>by rw[gR];exact i4 h
 |a::x,c::y,_,_,i,.cons ra ta,.cons rb tb,h=>by
  rw[cc];refine oW (xV ra rb hu prog w _ _ ?_);unfold Qq at h;by_cases e:a=c
  ·rw[T9 e]at h
   rw[T5 e];exact pj (zO hu ta tb h)
  ·rw[T8 e]at h
   rw[T4 e];refine pW ?_;exact pz _ _ (zy ra rb hu h)
end Sd
namespace Sd
open PySem PySem.Spec PyProof.Rows L2
open Ev (E Sm Fn Bop Cop Ty Bf Mf ltI Wb Z2 Ym VZ YA ltP YK)
section
variable{α:Type}{lt:α->α->Bool}{df:α}
theorem Ze8(O:StrictB lt){rs:List α}{n:Nat}(hn:rs.Nodup)(hl:rs.length=n):Sq.Ord n (λi j=>lt (rs.getD i df) (rs.getD j df)):=by
 have hd:∀i j,i<n->j<n->i≠j->rs.getD i df≠rs.getD j df:=λi j hi hj ne e=>by
  simp only[aF]at e;have hi':i<rs.length:=by lia
  have hj':j<rs.length:=by lia
  refine ne ((hJ hi' hn).mp ?_);rw[ai hi',ai hj']at e ⊢;exact congrArg aa e
 exact⟨λi j hi hj ne e=>O.tot (hd i j hi hj ne) e,λi j _ _ e=>O.asy e,λi j k _ _ _ e f=>O.tr e f⟩
theorem Zfe(O:StrictB lt)(hn:rs.Nodup)(h1:Sq.Pm rs.length p)(h2:Sq.Up (Sq.ltR b rs.length λi j=>lt (rs.getD i df) (rs.getD j df)) p rs.length) :
  (p.toList.map λi=>(bx b rs).getD i df)=YA lt rs:=by
 have hp:p.toList.Perm (aY rs.length):=by simpa using bJ.mp h1
 have hl:p.toList.length=rs.length:=by rw[hp.length_eq,bS]
 refine W5 O ?_ ?_ (W9 O hn)
 ·refine((hp.map _).trans ?_).trans (Wu rs).symm
  have e:(aY rs.length).map (λi=>(bx b rs).getD i df)=bx b rs:=by
   apply cX
   intro i;rw[aR];by_cases h:i<rs.length
   ·have:i<(bx b rs).length:=by rw[eN];exact h
    rw[dE h];simp[this]
   ·have:(bx b rs).length<=i:=by rw[eN];lia
    simp[fb h,this]
  rw[e];exact VL b rs
 ·rw[cY,ck]
  intro i j hi hj hij;have g1:p.toList[i]=Sq.g p i:=by
   have:=Sq.u4 (by simpa using hi)
   rw[<-bv,ai hi]at this;exact am this
  have g2:p.toList[j]=Sq.g p j:=by
   have:=Sq.u4 (by simpa using hj)
   rw[<-bv,ai hj]at this;exact am this
  rw[g1,g2,YZ (h1.lt (by lia)),YZ (h1.lt (by lia))]
  have:=h2 i j hij (by lia)
  cases b
  ·exact this
  ·exact this
def vV{ρ:Mx}{H:Hp}{enc:α->D}{F:List Nat}{xs:List V}{rs:List α}(h:Rq ρ H (rs.map enc) xs)(hF:∀i∈F,i<rs.length):Rq ρ H ((F.map λi=>rs.getD i df).map enc) (F.map λi=>xs.getD i V.non):=by
 induction F with
 |nil=>exact Rq.nil
 |cons i F ih=>
  refine Rq.cons ?_ (ih λj hj=>hF j (aq _ hj))
  have hi:=hF i (ao ..);obtain⟨v,g,r⟩:=h.get (by rw[aR,ai hi];rfl)
  show Rep ρ H (enc (rs.getD i df)) (xs.getD i V.non);rw[aF,aF,g,ai hi];exact r
end
section
variable{X:Cx}{pq:List (aC×eG)}{σ:L2.St}{H:Hp}{s:ax}{ρ:Mx}
inductive PartsAt(h:bX):List (List (List Int))->List au->Prop where
 |nil:PartsAt h [] []
 |cons {P:List (List Int)} {ps:List (List (List Int))} {vs:List au} {a:aC} {o:eG} {us:List au} {m:Nat} (ho:h.get? a=aa o) (hc:o.cls=.type "tuple") (hd:o.data=.seq us.toArray m) (hv:RowsIn h P us) (t:PartsAt h ps vs):PartsAt h (P::ps) (.ref a::vs)
theorem RowsAt.ins{h:bX}:∀{rs:List (List Int)}{vs:List au},RowsAt h rs vs->RowsIn h rs vs
 |_,_,.nil=>.nil
 |_,_,.cons ho hc hd hv t=>.cons ⟨_,_,_,_,rfl,ho,hc,hd,hv⟩ (RowsAt.ins t)
def xh(h:Pv.Xo (d::ds)=aa ps):∃ks a b,d=.tup ks/\Pv.Z3 ks=aa a/\Pv.Xo ds=aa b/\ps=a::b:=by
 cases d with
 |tup ks=>
  have h:(match Pv.Z3 ks,Pv.Xo ds with
   |some a,aa b=>aa (a::b)
   |_,_=>af)=aa ps:=h
  cases q1:Pv.Z3 ks with
  |none=>rw[q1]at h;cases h
  |some a=>
   cases q2:Pv.Xo ds with|none=>rw[q1,q2]at h;cases h|some b=>rw[q1,q2]at h;exact⟨ks,a,b,rfl,q1,rfl,(am h).symm⟩
 |_=>exact Ev.nos h
theorem zr(I:Inv X pq σ H s):∀{ds:List D}{ps:List (List (List Int))}{xs:List V}{its:List au},Pv.Xo ds=aa ps->Rq ρ H ds xs->Vals xs its->PartsAt s.heap ps its/\ds=ps.map Pv.Zd
 |[],ps,xs,its,h,r,v=>by
  subst r;cases v;cases h;exact⟨.nil,rfl⟩
 |d::ds,ps,xs,its,h,r,v=>by
  obtain⟨x,xs',rfl,r1,r2⟩:=r;cases v with
  |cons v1 v2=>
   obtain⟨ks,a,b,rfl,q1,q2,rfl⟩:=xh h;obtain⟨t,e⟩:=zr I q2 r2 v2;obtain⟨p,ys,rfl,hp,ry⟩:=r1.tup';cases v1;obtain⟨us,rv,⟨o,ho,hc,m,hd⟩,_⟩:=I.tuple (SqT.of hp);obtain⟨ra,ek⟩:=WZ I q1 ry rv;exact⟨.cons ho hc hd ra.ins t,by rw[e,ek];rfl⟩
theorem PartsAt.length :∀{ps:List (List (List Int))}{vs:List au},PartsAt h ps vs->ps.length=vs.length
 |_,_,.nil=>rfl
 |_,_,.cons _ _ _ _ t=>by rw[aQ,aQ,PartsAt.length t]
theorem PartsAt.at :∀{ps:List (List (List Int))}{vs:List au}(i:Nat),PartsAt h ps vs->i<vs.length->∃a o us m,vs.getD i bD=.ref a/\h.get? a=aa o/\o.data=.seq us.toArray m/\RowsIn h (ps.getD i []) us
 |_,_,_,.nil,hi=>by simp at hi
 |_,_,0,.cons ho hc hd hv t,_=>⟨_,_,_,_,rfl,ho,hd,hv⟩
 |_,_,i+1,.cons ho hc hd hv t,hi=>by
  obtain⟨a,o,us,m,e1,e2,e3,e4⟩:=PartsAt.at i t (by simpa using hi)
  exact⟨a,o,us,m,by simpa using e1,e2,e3,by simpa using e4⟩
theorem PartsAt.tups(k:Sq.Lat h h'):∀{ps:List (List (List Int))}{vs:List au},PartsAt h ps vs->(∀P∈ps,P≠[])->∃fs,pA h' vs fs/\fs.length=vs.length/\∀v∈fs,∃r,WE h' r v
 |_,_,.nil,_=>⟨[],.nil,rfl,λv hv=>by cases hv⟩
 |_,_,.cons (P:=P) ho hc hd hv t,hn=>by
  obtain⟨fs,t1,t2,t3⟩:=PartsAt.tups k t λr hr=>hn r (aq _ hr)
  have hr:=hn P (ao ..);cases hv with
  |nil=>exact T7 rfl hr
  |cons a tl=>
   rename_i r rs v vs
   refine⟨v::fs,.cons (k _ _ ho) hc hd (by simp) t1,by rw[aQ,aQ,t2],λz hz=>?_⟩
   rcases az.mp hz with rfl|hz
   ·exact⟨r,a.lat k⟩
   ·exact t3 z hz
theorem U7 :∀{P P':List (List Int)}{us:List au},RowsIn h P us->RowsIn h P' us->P=P'
 |_,_,_,.nil,.nil=>rfl
 |_,_,_,.cons r t,.cons r' t'=>by
  obtain⟨a,o,us,m,rfl,ho,_,hd,hv⟩:=r;obtain⟨a',o',us',m',e,ho',_,hd',hv'⟩:=r';cases e;rw[ho]at ho';cases ho';rw[hd]at hd';cases hd';rw[WS hv hv',U7 t t']
theorem xk(hu:A.units<dz)(R:PartsAt h ps vs)(nd:ps.Nodup)(hn:2<=vs.length->∀P∈ps,P≠[]):Sq.Asks prog w A h vs (tuples' al) (λi j=>ltP (ps.getD i []) (ps.getD j [])):=by
 refine⟨λh2 s' E Q k q=>?_,zh (df:=[]) R.length nd λi j hi hj e=>?_,λi j hi hj s' C E k q=>?_⟩
 ·obtain⟨fs,t1,t2,t3⟩:=R.tups k (hn h2)
  exact oX (T:=.type "tuple") t1 (by lia) (λv hv=>by
   obtain⟨r,a,o,us,m,rfl,ho,hc,_,_⟩:=t3 v hv;exact λA Q E s kk qq=>fv ⟨o,kk _ _ ho,hc⟩ qq) rfl q
 ·obtain⟨a,o,us,m,e1,e2,e3,e4⟩:=R.at i hi
  obtain⟨a',o',us',m',f1,f2,f3,f4⟩:=R.at j hj;rw[e1,f1]at e;cases e;rw[e2]at f2;cases f2;rw[e3]at f3;cases f3;exact U7 e4 f4
 ·obtain⟨a,o,us,m,e1,e2,e3,e4⟩:=R.at i hi
  obtain⟨a',o',us',m',f1,f2,f3,f4⟩:=R.at j hj;rw[e1,f1];refine pX (k _ _ e2) e3 (k _ _ f2) f3 (zO hu (e4.lat k) (f4.lat k) ?_);have l1:us.toArray.size=(ps.getD i []).length:=by rw[ay,<-e4.length]
  have l2:us'.toArray.size=(ps.getD j []).length:=by rw[ay,<-f4.length]
  rw[l1,l2,Jr];exact q
end
section
variable{X:Cx}{xw:Nat->Hp->Prop}{C:Calls}{e a b c:Expr}{i j k:E}{pos p p' p2 p3:eY}
theorem yv(hu:X.A.units+2<dz)(I:Inv X pq σ H s)(r:Vals [v] us)(r1:Rep ρ H (.lst ds) v)
  (hps:Pv.Xo ds=aa ps)(hok:YK ps=aj)(h3:∀ys,Rq ρ H ((YA ltP ps).map Pv.Zd) ys->∀p,H p=af->Q (.ref p) (upd H p (.lst ys))):bc (aS X.prog X.w) X.A (call (.builtin "sorted") us) (EP X pq σ Q) X.xe s:=by
 obtain⟨l,xs,rfl,hx,_,rx⟩:=r1.lst';obtain⟨u,rfl,ru⟩:=XR r;cases ru;obtain⟨its,rv,pl,hz⟩:=I.list (SqL.of hx);obtain⟨RA,ed⟩:=zr I hps rx rv;have hlen:=RA.length;obtain⟨hok1,hok3⟩:=(aD _ _).mp hok;obtain⟨hok1,hok2⟩:=(aD _ _).mp hok1;have h64:=T6 hok1;have hnd:=T6 hok2;refine Sq.W8 pl.isList (by lia) (Ze8 UN hnd hlen) (xk hu RA hnd λh2 P hP e=>?_) λp hp hu2=>?_
 ·rcases(i6 _ _).mp hok3 with h|h
  ·have:=T6 h;lia
  ·have:=bf.mp h P hP
   rw[e]at this;cases this
 rw[<-hlen]at hp hu2;have out:=Zfe UN hnd hp hu2
 have hmem:∀i∈p.toList,i<ps.length:=λi hi=>by
  have hp':p.toList.Perm (aY ps.length):=by simpa using bJ.mp hp
  exact bt.mp (hp'.mem_iff.mp hi)
 subst ed;have xl:xs.length=ps.length:=by rw[rx.length,aB]
 have rx2:=vV (df:=[]) rx hmem;have out':(p.toList.map λi=>ps.getD i [])=YA ltP ps:=out
 rw[out']at rx2;have rv2:=zf rv (by rw[xl];exact hmem)
 obtain⟨ep,he⟩:=sortedAll_at s.heap its (de (p.toList.map λi=>its.getD i bD))
 refine⟨.ref (s.heap.objs.size+1),_,I.laid (t':=s.toks) (λb ob q=>sortedAll_old q) (kZ _) ?_,rfl,h3 _ rx2 _ (I.hok.fresh (kZ _))⟩
 refine⟨?_,_,ep,rv2,he⟩;rw[aB,aN,hp.size,dm];lia
theorem Ux(hu:X.A.units+7<dz):Zz X (.builtin "sorted") (GY X.K xw .sorted):=by
 intro pq s σ H vs us Q I r ⟨ρ,S,ds,st,rs,H0,S0,f0,s0,h⟩;obtain⟨d,v,z,rfl,r1,hz,h⟩:=WQ h rs;cases d with
 |lst ds=>
  have hz:(if Pv.Zbo ds=aj then(Pv.Z3 ds).bind λrs=>if Ym rs=aj then aa (.lst ((Z2 rs).map Pv.Zc))else af else(Pv.Xo ds).bind λps=>if YK ps=aj then aa (.lst ((YA ltP ps).map Pv.Zd))else af)=aa z:=hz
  split at hz
  ·obtain⟨rws,hr,hz⟩:=b9.mp hz
   split at hz
   ·cases hz;exact zQ pq s σ H [v] us Q I r ⟨ρ,ds,rws,v,rfl,r1,hr,‹_›,λys r=>h.newF f0 s0 st r⟩
   ·cases hz
  ·obtain⟨ps,hr,hz⟩:=b9.mp hz
   split at hz
   ·cases hz;exact yv (by lia) I r r1 hr ‹_› λys r=>h.newF f0 s0 st r
   ·cases hz
 |_=>exact Ev.nos hz
end
end Sd
namespace Sd
open PySem PySem.Spec PyProof.Rows L2
open Ev (E Sm Fn Bop Cop Ty Bf Mf)
end Sd
namespace Sd
open PySem PySem.Spec PyProof.Rows L2
open Ev (E Sm Fn Bop Cop Ty Bf Mf ltI Wb Z2 Ym VZ YA ltP YK)
open PySem.SeqAt PySem.MeetsSeq PySem.MeetsSeq2 PySem.MeetsSeq3 PySem.SeqRoads2
open PySem.AutoSeq1 (wpAny_loadPart')
def yG(l b:aC)(u v:List au)(n n2:Nat)(dd dd2:Option aC)(sl sl2:Array (Option au))(x y:List (List Int)) :
  pP (eD.«tuple.__lt__» ⟨[.ref l,.ref b],[]⟩) (λA R s=>s.heap.get? l=aa {cls:=.type "tuple",dict:=dd,data:=.seq u.toArray n,slots:=sl}/\s.heap.get? b=aa {cls:=.type "tuple",dict:=dd2,data:=.seq v.toArray n2,slots:=sl2}/\A.units+1<dz/\RowsIn s.heap x u/\RowsIn s.heap y v/\R (.ok (.ret (.bool (ltP x y)))) s):=
 .of_wp λprog w A R s h=>by
  obtain⟨hp,g,d,tk,os⟩:=s;obtain⟨hl,hb,hu,hx,hy,h⟩:=h;have f2:=dM;rw[<-Jr]at h
  wp_walk using i5 hl,i5 hb,wpAny_forIn_list _ (λrest b s'=>b.1=af/\s'=⟨hp,g,d,tk,os⟩/\∃x' y' u' v',rest=rW u' v'/\RowsIn hp x' u'/\RowsIn hp y' v'/\R (.ok (.ret (.bool (Qq (ag (x.length<y.length)) x' y')))) ⟨hp,g,d,tk,os⟩) _
  case turn=>
   rintro ⟨a,c⟩ rest b s' ⟨hb',rfl,x',y',u',v',hz,hx',hy',hR⟩
   match x',y',u',v',hx',hy',hz,hR with
   |i::x',j::y',_::u',_::v',.cons ra ta,.cons rb tb,hz,hR=>
    rw[cc]at hz;injection hz with h1 h2
    cases h1;unfold Qq at hR;refine ae (xV ra rb (by lia) prog w _ _ ?_)
    by_cases e:i=j
    ·rw[T9 e]at hR
     rw[T5 e]
     wp_walk
     exact⟨rfl,rfl,x',y',u',v',h2,ta,tb,hR⟩
    ·rw[T8 e]at hR
     rw[T4 e];simp only[hZ,if_true];refine ae (dW (ae (zy ra rb (by lia) ?_)))
     wp_walk
     exact⟨_,rfl,by simpa using hR⟩
   |[],_,_,_,.nil,_,hz,_=>rw[hV]at hz;cases hz
   |_::_,[],_,_,_,.nil,hz,_=>rw[gR]at hz;cases hz
  case fin=>
   rintro ⟨b1,b2⟩ s' ⟨hb',rfl,x',y',u',v',hz,hx',hy',hR⟩
   simp only at hb';subst hb';have hf:Qq (ag (x.length<y.length)) x' y'=ag (x.length<y.length):=by
    match x',y',u',v',hx',hy',hz with
    |[],_,_,_,_,_,_=>rfl
    |_::_,[],_,_,_,_,_=>rfl
    |_::_,_::_,_::_,_::_,.cons _ _,.cons _ _,hz=>rw[cc]at hz;cases hz
   rw[hf]at hR;have l1:u.length=x.length:=by rw[<-hx.length]
   have l2:v.length=y.length:=by rw[<-hy.length]
   wp_walk
   exact⟨_,rfl,by simpa[ig,l1,l2]using hR⟩
  case h=>
   exact⟨rfl,rfl,x,y,u,v,by simp,hx,hy,h⟩
def qj{E:au->ax->Prop}{Q:au->ax->Prop}(ha:s.heap.get? a=aa o)(hc:o.cls=.type "tuple")(hd:o.data=.seq u.toArray m)(hx:RowsIn s.heap x u)
  (hb:s.heap.get? b=aa o')(hc':o'.cls=.type "tuple")(hd':o'.data=.seq v.toArray m')(hy:RowsIn s.heap y v)(hu:A.units+3<dz)(q:Q (.bool (ltP x y)) s):bc (aS prog w) A (cK .Lt (.ref a) (.ref b)) Q E s:=by
 obtain⟨cls,dd,data,sl⟩:=o;obtain⟨cls2,dd2,data2,sl2⟩:=o';simp only at hc hd hc' hd';subst hc hd hc' hd';exact lV (op:=.Lt) ⟨_,ha,rfl⟩ ⟨_,hb,rfl⟩ pB oY (ot _ _) (yG a b u v m m' dd dd2 sl sl2 x y) ⟨ha,hb,by first|exact hu|(lia)|lia,hx,hy,⟨(λx=>nomatch x),q⟩⟩ (by lia)
section
variable{X:Cx}{xw:Nat->Hp->Prop}
theorem wZ(hu:X.A.units+7<dz):XD X xw .Lt .lt:=by
 intro pq s σ H v0 u0 v u Q I rv ru ⟨ρ,S,x,y,st,rx,ry,h⟩;rcases Ze4 st rx ry h with z|⟨a,b,A,B,rfl,rfl,hA,hB,q⟩
 ·exact Zey pq s σ H v0 u0 v u Q I rv ru z
 ·obtain⟨p1,xs,rfl,hp1,r1⟩:=rx.tup'
  obtain⟨p2,ys,rfl,hp2,r2⟩:=ry.tup';cases rv;cases ru;obtain⟨us,w1,⟨o,ho,hc,m,hd⟩,_⟩:=I.tuple (SqT.of hp1);obtain⟨us',w2,⟨o',ho',hc',m',hd'⟩,_⟩:=I.tuple (SqT.of hp2);obtain⟨ra,_⟩:=WZ I hA r1 w1;obtain⟨rb,_⟩:=WZ I hB r2 w2;exact qj ho hc hd ra.ins ho' hc' hd' rb.ins (by lia) ⟨.bl (ltP A B),H,I,rfl,q⟩
end
end Sd
namespace Sd
open PySem PySem.Spec PyProof.Rows L2
open Ev (E Sm Fn Bop Cop Ty Bf Mf)
section
variable{prog:bq}{w:bK}{A:bQ}{E:au->ax->Prop}{s:ax}{it d:aC}{i n ep:Nat}{od:eG}{es:Array iB}
def uv{Q:au->ax->Prop}(hd:(d == dF)=al)(ho:s.heap.get? d=aa od)(hc:od.ExactDict)(hdat:od.data=.dict es ep)
  (hQ:Q (.ref s.heap.objs.size) {s with heap:=s.heap.push {cls:=.type "dict_keyiterator",data:=.fields #[.ref d,.int 0 0,.int es.size 0,.int ep 0]}}) :
  bc (aS prog w) A (mw (.ref d)) Q E s:=by
 have hT:s.TypeIs (.ref d) "dict":=⟨_,ho,hc.1⟩;refine wpAny_pyIter_slot hT oZ (da oZ hT F.entry_dict_iter ?_ (F.args_dict_iter_1 _));unfold eD.«dict.__iter__»;refine ae ?_;refine ae (mi hT (aA (show bc _ _ (mj d >>= _) _ _ s from ?_)))
 unfold mj;rw[T8 (by rw[hd];exact aM)]
 refine ae (aA (ae (ou ho hdat (ae (wpAny_dictEpoch ho hdat ?_)))));refine ae (bL (aA ⟨_,rfl,"dict_keyiterator",_,⟨_,aO _ rfl,rfl⟩,i7.lookup,?_⟩))
 simpa[gA]using hQ
def Jf{Q:Option au->ax->Prop}(hit:s.heap.IsKeyIter it d i es.size ep)(ho:s.heap.get? d=aa od)(hdat:od.data=.dict es ep)
  (h1:∀(hlt:i<es.size) h',h'.IsKeyIter it d (i+1) es.size ep->fq it s.heap h'->Q (aa es[i].key) {s with heap:=h' })
  (h2:es.size<=i->A.handled=af/\∀h',fZ it s.heap h'->Q af {s with heap:=h' }):bc (aS prog w) A (oA (.ref it)) Q E s:=by
 obtain⟨o,hi,hc,hd⟩:=id hit;unfold oA;refine ae (iH (cL hit.typeIs i7
  (da i7 hit.typeIs F.entry_dict_keyiterator_next ?_ (F.args_dict_keyiterator_next_1 _))))
 refine ae (aA (ae (ae ?_)))
 first|refine ae (fm hit.typeIs (aA ?_))|refine ae (gH hit.typeIs (aA ?_))
 refine ae (wpAny_fieldsOf hi hd ?_);have hown:eD.Dict_items.ownsTuple "dict_keyiterator" = al:=by decide
 simp only[hown,cE,if_false];show bc _ _ (if(cU d == bD)=aj then _ else _) _ _ s
 rw[T8 (show¬((cU d == bD)=aj)from aM)]
 refine ae (aA (ae (ou ho hdat ?_)));rw[T8 (by simp)]
 refine ae (aA (ae (wpAny_dictEpoch ho hdat ?_)));rw[T8 (by simp)]
 refine aA ?_;by_cases hlt:i<es.size
 ·simp only[by omega,if_false,dC,bG hlt]
  refine ae ?_
  first|refine ae (fm hit.typeIs (aA ?_))|refine ae (gH hit.typeIs (aA ?_))
  refine ae (ml hit.typeIs (show bc _ _ (setField (.ref it) 1 (gA ((i:Int)+1)) >>= _) _ _ s from ae (kG hi hd (by simp) ?_)))
  have hit':(s.heap.update it (eG.mapFields (·.setIfInBounds 1 (gA ((i:Int)+1))))).IsKeyIter it d (i+1) es.size ep:=
   ⟨_,fJ _ hi (im (fw hd _)),(kY ..).trans hc,by rw[fw hd];simp[gA]⟩
  refine ae (cz (ae (ml hit'.typeIs ?_)))
  exact aA (aA ⟨_,rfl,aA (h1 hlt _ hit' (eW ..))⟩)
 ·obtain⟨hh,hQ⟩:=h2 (by omega)
  simp only[by omega,if_false,dC,lT (show es.size<=i by omega)]
  refine ae ?_
  first|refine ae (fm hit.typeIs (aA ?_))|refine ae (gH hit.typeIs (aA ?_))
  show bc _ _ (setField (.ref it) 0 .none >>= _) _ _ s;refine ae (kG hi hd (by simp) (ae ?_))
  simp only[newExc,newTuple];refine ae (bL ?_ (by size_fits))
  refine ae (mF (a:=bD) (by first|rfl|(simp only[mG];rfl)) (bL ?_ (by size_fits)))
  simp only[raiseNew];refine ae (wpAny_handled ?_);rw[hh]
  refine ae (aA (wpAny_throw ?_));refine ae (gp (T:="StopIteration") (b:=aj) ⟨_,aO _ rfl,rfl⟩ isSubtype_stop ?_);exact aA (hQ _ (((eW ..).extBut.push _).push _))
end
noncomputable def Itk(a:aC)(o:eG)(kvs:List (List Key×V)):It:=⟨λi H=>H a=aa (.frz o (.dT kvs))/\i<kvs.length,λi H x H'=>H'=H/\∃p b,kvs[i]?=aa p/\x=.ref b/\H b=aa (.tup (p.1.map kV)),λi H=>H a=aa (.frz o (.dT kvs))/\kvs.length<=i⟩
theorem Q4{α β:Type}{F:α->β->Prop}:∀{l:List α}{m:List β}{i:Nat}{p:α},Paired F l m->l[i]?=aa p->∃q,m[i]?=aa q/\F p q
 |_,_,_,_,.nil,e=>by simp at e
 |_,_,0,_,.cons r t,e=>by simp at e;subst e;exact⟨_,rfl,r⟩
 |_,_,i+1,_,.cons r t,e=>by
  obtain⟨q,h1,h2⟩:=Q4 t (by simpa using e)
  exact⟨q,by simpa using h1,h2⟩
def Zaq(ok:HOk P w H h)(e:H a=aa (.frz o (.dT kvs))) :
  (a == dF)=al/\h.get? a=aa o/\∃es ep,o.ExactDict/\o.data=.dict es ep/\es.size=kvs.length/\∀i p,kvs[i]?=aa p->∃q:aC,∃hi:i<es.size,es[i].key=.ref q/\H q=aa (.tup (p.1.map kV)):=by
 obtain⟨h0,z,y,xs,r,o',es,ep,h1,h2,h3,h4,h5⟩:=(ok a _ e)
 rw[h0]at h1;cases h1;have hl:es.size=kvs.length:=by
  have:=congrArg iJ h4;rw[aB,<-Paired.length r]at this
  simpa using this
 refine⟨y,h0,es,ep,h2,h3,hl,λi p hp=>?_⟩
 obtain⟨q,hq,e1,e2,e3⟩:=Q4 r hp;have hi:i<es.size:=by rw[hl];exact(aG.mp hp).1
 refine⟨q.2.1,hi,?_,e2⟩;have:=congrArg (·[i]?) h4
 simp only[aR,hq,pC]at this;rw[bv,bG hi]at this;rw[am this];rfl
def vK{P:bq}{w:bK}{K:ak}{tg:Expr}(a it:aC)(o:eG)(kvs:List (List Key×V)){es:Array iB}{ep:Nat}(hd:o.data=.dict es ep)(hl:es.size=kvs.length)(hne:a≠it):Turn P w K tg (Itk a o kvs) [it] it (λi h=>h.IsKeyIter it a i es.size ep) where
 mem:=by simp
 obj:=λi h st b hb=>by
  have e:b=it:=by simpa using hb
  subst e;obtain⟨o,h1,h2,h3⟩:=st;exact⟨o,h1,λv z=>by rw[h3]at z;cases z⟩
 keep:=λi h h' st k=>st.at λo e=>k it (by simp) o e
 item:=by
  intro X hP hw hK hc i pq s σ H E I hf st hg;subst hP hw hK;obtain⟨f0,f1,f2,f3,f4,f5⟩:=hf it (by simp)
  obtain⟨hs,ho,es',ep',x1,x2,x3,x4⟩:=Zaq I.hok hg.1;rw[hd]at x2;cases x2;obtain⟨q,hi,e1,e2⟩:=x4 i _ (ai hg.2);refine Jf st ho hd (λhlt h' hit' sb=>?_) λz=>T7 hi (by omega)
  have I1:=I.turned (t':=s.toks) (λb o hb e=>sb.extBut b o (by simpa using hb) e) f0 f1 f3 f4 f5
  obtain⟨io,j1,j2,j3⟩:=id hit';refine⟨_,rfl,xX j1 j2 j3 (by decide) ⟨.ref q,H,I1,?_,⟨rfl,_,q,ai hg.2,rfl,e2⟩,hit',λb hb=>(hf b hb).1⟩⟩
  rw[e1];rfl
 done:=by
  intro X hP hw hK hc i pq s σ H E I hf st hg;subst hP hw hK;obtain⟨f0,f1,f2,f3,f4,f5⟩:=hf it (by simp)
  obtain⟨hs,ho,es',ep',x1,x2,x3,x4⟩:=Zaq I.hok hg.1;rw[hd]at x2;cases x2;exact Jf st ho hd (λhlt _ _ _=>T7 hlt (by have:=hg.2;omega)) λ_=>⟨I.ok.hd hc,λh' eb=>⟨rfl,I.turned (t':=s.toks) (λb o hb e=>eb b o (by simpa using hb) e) f0 f1 f3 f4 f5⟩⟩
 self:=λ_ _ _ _ _ st h=>wpAny_pyIter_keyiter st h
section
variable{X:Cx}{xw:Nat->Hp->Prop}{C:Calls}{e tg:Expr}{i:E}
def iDk(te:TE):TI:=λσ H R=>te σ H λx H1=>∃a o kvs,x=.ref a/\H1 a=aa (.frz o (.dT kvs))/\R (Itk a o kvs) H1
def ZeS{te:TE}(he:PE X e te):PI X tg e (iDk te):=by
 intro pq s σ H R I h;refine thn (he pq s σ H _ I h) λv s1 ⟨x,H1,I1,r1,a,o,kvs,e,q,hR⟩=>?_
 subst e;cases r1;obtain⟨hs,ho,es,ep,x1,x2,x3,x4⟩:=Zaq I1.hok q;refine uv hs ho x1 x2 ⟨s1.heap.objs.size,[s1.heap.objs.size],_,_,H1,rfl,I1.kept (t':=s1.toks) λb o e=>aw _ e,vK a _ o kvs x2 x3 (br (aJ ho)),⟨_,aO _ rfl,rfl,rfl⟩,λb hb=>?_,hR⟩
 have e:b=s1.heap.objs.size:=by simpa using hb
 subst e;exact I1.fpOk (aI _) (I1.hok.fresh (aI _))
def Zba{K:ak}{ρ:Mx}{H:Hp}{a:aC}{ks:List (List Int)}{o:eG}{kvs:List (List Key×V)}(f0:H a=aa (.frz o (.dT kvs)))(hk:kvs.map (·.1)=ks.map (·.map dP)):WRel K ρ H (ks.map Pv.Zc) (Itk a o kvs) where
 go:=λi ρ' S' H' f st hi=>by
  have hl:kvs.length=ks.length:=by have:=congrArg iJ hk;simpa using this
  have hi':i<ks.length:=by simpa using hi
  refine⟨⟨f.keep _ _ f0 (λ_ z=>by cases z),by omega⟩,λx H'' ⟨e,p,b,h1,h2,h3⟩=>?_⟩
  subst e h2;refine⟨Fut.refl _ _,st,λd hd=>?_⟩
  have e1:=congrArg (·[i]?) hk
  simp only[aR,h1,ai hi',pC,Option.some.injEq]at e1;rw[aR,ai hi']at hd;cases hd;rw[e1,cI]at h3;exact Y3 h3 (Rq.ints _)
 stop:=λρ' S' H' f st=>⟨f.keep _ _ f0 (λ_ z=>by cases z),by have:=congrArg iJ hk;simp at this ⊢;omega⟩
def qL(he:CE X xw C e i):CW X xw C tg e (.dk i):=PI.imp (ZeS he) λσ H Q ⟨ρ,l,S,st,lr,h⟩=>by
 rw[Pv.pvw]at h;refine⟨ρ,l,S,st,lr,h.bind λx S1 ρ1 H1 v f1 st1 r1 h1=>?_⟩
 obtain⟨w,hw,h1⟩:=End.po h1;cases x with
 |dct o=>
  cases o with
  |none=>exact Ev.nos hw
  |some ks=>
   cases hw;obtain⟨a,rfl,o,vs,hp,hk⟩:=r1.dct';exact⟨a,o,vs,rfl,hp,End.ok h1 st1 (Zba hp hk)⟩
 |_=>exact Ev.nos hw
end
def J6:ky (.type "list") "keys" = cC af:=by rw[typeLookup_type,mm];kernel_rfl
def xH:isSubtype (.type "AttributeError") (.type "AttributeError")=cC aj:=by rw[isSubtype_type];kernel_rfl
section
variable{prog:bq}{w:bK}{A:bQ}{E:au->ax->Prop}{s:ax}{a:aC}{α:Type}{name msg:bn}
def v8{Q:Unit->ax->Prop}(he:s.heap.get? e=aa {cls:=.type "AttributeError",data:=.fields vs})(h6:vs[6]?=aa unsetMember)(h7:vs[7]?=aa unsetMember)
  (hQ:∀h',fZ e s.heap h'->(∃ob,h'.get? e=aa ob/\ob.cls=.type "AttributeError")->Q () {s with heap:=h' }):bc (aS prog w) A (noteAttr (.ref e) ov nm) Q E s:=by
 have hT:s.TypeIs (.ref e) "AttributeError":=⟨_,he,rfl⟩;refine ae (ae (gp hT xH ?_));simp only[iI,cE,if_false];refine ae (nv he ?_);simp only[h6,h7];rw[T8 (by decide),T8 (by decide)]
 refine aA ?_;simp only[if_true];refine ae (dW (ae (fv hT ?_)));simp only[layMembers];refine ae (nv he (wpAny_update he (hQ _ (eW ..).extBut ⟨_,fJ _ he (im (fw rfl _)),kY ..⟩)))
theorem yW{Q:α->ax->Prop}(hh:A.handled=af)(hm:msg.length<=bi)(hq:∀h' t' e,(∀b o,s.heap.get? b=aa o->h'.get? b=aa o)->(∃ob,h'.get? e=aa ob/\ob.cls=.type "AttributeError")->E (.ref e) {s with heap:=h',toks:=t' }):bc (aS prog w) A (raiseAttrError (.ref a) name msg:nL α) Q E s:=by
 refine ae (wpAny_mkStr ?_ hm);simp only[newExc,newTuple];refine ae (ae (bL ?_ (by size_fits)))
 refine ae (mF (by first|rfl|(simp only[mG];rfl)) ?_)
 refine bL ?_ (by size_fits)
 refine ae (wpAny_mkText (ae (v8 (aO _ rfl) rfl rfl λh' eb ob=>?_)))
 refine wpAny_raiseNew_none hh (hq _ _ _ (λb o e=>eb b o (λz=>?_) (aw _ (aw _ e))) ob)
 have q:=aJ e;subst z;exact T7 q (by show¬(s.heap.push _).objs.size<s.heap.objs.size;rw[eB];lia)
end
section
variable{prog:bq}{w:bK}{A:bQ}{E:au->ax->Prop}{h:bX}{g:Array pI}{d:Drawn}{t:Nat}{os:OsState}{a:aC}{its:Array au}{n:Nat}
def yo{Q:Fin->ax->Prop}(hx:h.get? a=aa {cls:=.type "list",data:=.seq its n})(hh:A.handled=af)(hq:∀h' t' e,(∀b o,h.get? b=aa o->h'.get? b=aa o)->(∃ob,h'.get? e=aa ob/\ob.cls=.type "AttributeError")->E (.ref e) ⟨h',g,d,t',os⟩) :
  bc (aS prog w) A (eD.«object.__getattribute__» ⟨[.ref a,.str "keys" tk],[]⟩) Q E ⟨h,g,d,t,os⟩:=by
 have hT:(⟨h,g,d,t,os⟩:ax).TypeIs (.ref a) "list":=⟨_,hx,rfl⟩;have f4:=J6
 repeat(any_goals (first|assumption|wp_step))
 exact yW hh (by decide +kernel) hq
def vZ{R:oF->ax->Prop}(hx:h.get? a=aa {cls:=.type "list",data:=.seq its n})(hh:A.handled=af)(hq:∀h' t' e,(∀b o,h.get? b=aa o->h'.get? b=aa o)->(∃ob,h'.get? e=aa ob/\ob.cls=.type "AttributeError")->R (.error (.ref e)) ⟨h',g,d,t',os⟩) :
  eC (aS prog w) A (.call (.builtin "list.__getattribute__") ⟨[.ref a,.str "keys" tk],[]⟩) R ⟨h,g,d,t,os⟩:=
 iQ F.slot_list_getattribute.plain F.entry_list_ga (F.slot_list_getattribute.check _ _ _ _ _ _ _ _ (⟨_,hx,rfl⟩) (F.args_list_getattribute_2 _ _) (yo hx hh hq))
def ZbZ{Q:au->ax->Prop}(hx:h.get? a=aa {cls:=.type "list",data:=.seq its n})(hh:A.handled=af)(hq:∀h' t' e,(∀b o,h.get? b=aa o->h'.get? b=aa o)->(∃ob,h'.get? e=aa ob/\ob.cls=.type "AttributeError")->E (.ref e) ⟨h',g,d,t',os⟩):bc (aS prog w) A (getAttrBy (.ref a) (.str "keys" tk) al) Q E ⟨h,g,d,t,os⟩:=by
 have hT:(⟨h,g,d,t,os⟩:ax).TypeIs (.ref a) "list":=⟨_,hx,rfl⟩;have f2:=F.slot_list_getattribute.lookup;have f3:=F.slot_list_getattribute.bind (.ref a)
 repeat(any_goals (first|assumption|wp_step))
 refine vZ hx hh λh' t' e k ob=>?_
 have hTe:(⟨h',g,d,t',os⟩:ax).TypeIs (.ref e) "AttributeError":=ob;have f9:ky (.type "list") "__getattr__" = cC af:=by rw[typeLookup_type,mm];kernel_rfl
 have hE:=hq h' t' e k ob
 repeat(any_goals (first|assumption|with_reducible apply gp hTe xH|wp_step))
def vX{Q:Option au->ax->Prop}(hx:h.get? a=aa {cls:=.type "list",data:=.seq its n})(hh:A.handled=af)(hq:∀h' t',(∀b o,h.get? b=aa o->h'.get? b=aa o)->Q af ⟨h',g,d,t',os⟩):bc (aS prog w) A (pY (.ref a) "keys") Q E ⟨h,g,d,t,os⟩:=by
 unfold pY getAttrBy?
 refine ae (wpAny_mkText (ae (iH (ZbZ hx hh λh' t' e k ob=>?_))))
 exact ae (gp (ob) xH (aA (hq h' t' k)))
end
def X7:plainId "dict.update.loop" = aj:=by decide +kernel
def Ja:entryFor table "dict.update.loop" = aa eD.«dict.update.loop»:=entryFor_of_tree (by kernel_rfl)
section
variable{prog:bq}{w:bK}{A:bQ}{E:au->ax->Prop}
def yf{Q:List au->ax->Prop}(hp:nK s.heap p its)(h:Q its.toList s):bc (aS prog w) A (eD.Dict.pairItems (.ref p)) Q E s:=by
 obtain⟨o,ho,hc,n,hd⟩:=hp;refine ae (fv ⟨_,ho,hc⟩ ?_);rw[T9 (by decide)]
 unfold seqItems?
 refine ae (ae (nv ho ?_));rw[hd];exact aA (aA h)
def wI{K:Type}[DecidableEq K]{knd:KeyKind prog w K}{h h':bX}{k:List K}{a:aC}(x:(ee knd).is h k a)(hk:∀o,h.get? a=aa o->h'.get? a=aa o):(ee knd).is h' k a:=by
 obtain⟨o,its,n,h1,r⟩:=x;exact⟨o,its,n,hk _ h1,r⟩
def Wq{K:Type}[DecidableEq K]{knd:KeyKind prog w K}{h h':bX}{d:aC}{xs:List (List K×aC×au)}(x:h.DictOfH (ee knd) d xs)(hd:∀o,h.get? d=aa o->h'.get? d=aa o)(hx:∀x∈xs,∀o,h.get? x.2.1=aa o->h'.get? x.2.1=aa o):h'.DictOfH (ee knd) d xs:=by
 obtain⟨o,es,ep,h1,h2,h3,h4,h5,h6⟩:=x;exact⟨o,es,ep,hd _ h1,h2,h3,h4,λy hy=>wI (h5 y hy) (hx y hy),h6⟩
abbrev Pr:=List Key×aC×aC
theorem ZaB{I d:aC}{fp wr:List aC}{its:Array au}{St:Nat->bX->Prop}{R:oF->ax->Prop}{h0:bX}{ps:List Pr}{res:au}(W:Walks prog w A.in1 I fp wr its.size (λi v=>its[i]?=aa v) St)(hu:A.units+2<dz)(hf:d∉fp)
  (hl:ps.length=its.size)(hi:∀(i:Nat)(p:Pr),ps[i]?=aa p->its[i]?=aa (cU p.2.2))
  (hp:∀p∈ps,nK h0 p.2.2 #[cU p.2.1,bO aj]/\(ee (ZP prog w)).is h0 p.1 p.2.1/\p.2.2∉wr/\p.2.2≠d/\p.2.1∉wr/\p.2.1≠d)(hn:(ps.map (·.1)).Nodup)(hz:ps.length<=bi) :
  ∀(k i:Nat)(s:ax),its.size-i=k->i<=its.size->St i s.heap->(∀b o,b∉wr->b≠d->h0.get? b=aa o->s.heap.get? b=aa o)->
  s.heap.DictOfH (ee (ZP prog w)) d ((ps.take i).map λp=>(p.1,p.2.1,bO aj))->
  (∀h' tk,(∀b o,b∉wr->b≠d->h0.get? b=aa o->h'.get? b=aa o)->h'.DictOfH (ee (ZP prog w)) d (ps.map λp=>(p.1,p.2.1,bO aj))->R (.ok (.ret res)) {s with heap:=h',toks:=tk})->
  eC (aS prog w) A (.builtin "dict.update.loop" ⟨[.ref d,.ref I,gA i,res],[]⟩) R s:=by
 intro k
 induction k with
 |zero=>
  intro i s hk hi' hst kp dd hR;have e:i=its.size:=by lia
  subst e;refine l7 Ja ?_;rw[mM X7 _];refine ae (W.done s _ _ hst λh' tk hk'=>?_)
  refine ae (aA (aA (hR h' tk (λb o hb hd z=>hk' b o hb (kp b o hb hd z)) ?_)))
  rw[cq (by lia)]at dd
  exact Wq dd (λo e=>hk' _ o (λz=>hf (W.sub _ z)) e) λx hx o e=>by
   obtain⟨y,hy,rfl⟩:=aP.mp hx;exact hk' _ o (hp y hy).2.2.2.2.1 e
 |succ k ih=>
  intro i s hk hi' hst kp dd hR;have hlt:i<its.size:=by lia
  have hp':=hp _ (aX (n:=i) (by lia))
  have hv:=hi i _ (ai (by lia))
  refine l7 Ja ?_;rw[mM X7 _];refine ae (W.item i s _ _ hlt hst λv h' tk hP hst' hk'=>?_)
  rw[hv]at hP;cases hP;obtain⟨p1,p2,p3,p4,p5,p6⟩:=hp';have kp2:=λb o hb hd z=>hk' b o hb (kp b o hb hd z)
  have dd2:=Wq dd (λo e=>hk' _ o (λz=>hf (W.sub _ z)) e) λx hx o e=>by
   obtain⟨y,hy,rfl⟩:=aP.mp hx;exact hk' _ o (hp y (c6 hy)).2.2.2.2.1 e
  obtain⟨po,g1,g2,pn,g3⟩:=p1;refine ae (cz (ae (wpAny_tryCatch (yf ⟨po,kp2 _ _ p3 p4 g1,g2,pn,g3⟩ ?_))));have hsz:((ps.take i).map λp=>(p.1,p.2.1,bO aj)).length<=bi:=by rw[aB,bz];lia
  refine cz (wpAny_dictSet_heap (kz (by lia)) (wI p2 λo e=>kp2 _ o p5 p6 e) dd2 λh2 dd3 sb=>?_)
  refine aA ⟨plainId_quiet X7 _,ih (i+1) _ (by lia) hlt (W.frame _ _ _ hst' λb hb o e=>(sb.2 b λz=>hf (z▸hb)).trans e) (λb o hb hd z=>(sb.2 b hd).trans (kp2 b o hb hd z)) ?_ hR⟩
  have hnew:pO ((ps.take i).map λp=>(p.1,p.2.1,bO aj)) ps[i].1=af:=by
   unfold pO;rw[lW,kM];intro x hx z;obtain⟨y,hy,rfl⟩:=aP.mp hx;have hn2:=hn;rw[<-cG i ps,bP,fP,cg (by lia)]at hn2
   exact hn2.2.2 _ (d4 hy) _ (d4 ao) (T6 z)
  rw[storedH_new hnew]at dd3;rw[k7,ai (by lia),bP]
  exact dd3
theorem yU{s:ax}{l:aC}{its:Array au}{n:Nat}{ps:List Pr}{Q:au->ax->Prop}(hh:A.handled=af)(hu:A.units+3<dz)(hx:s.heap.get? l=aa {cls:=.type "list",data:=.seq its n})
  (hl:ps.length=its.size)(hi:∀(i:Nat)(p:Pr),ps[i]?=aa p->its[i]?=aa (cU p.2.2))
  (hp:∀p∈ps,nK s.heap p.2.2 #[cU p.2.1,bO aj]/\(ee (ZP prog w)).is s.heap p.1 p.2.1)(hn:(ps.map (·.1)).Nodup)(hz:ps.length<=bi)
  (h:∀h' tk,(∀b o,s.heap.get? b=aa o->h'.get? b=aa o)->h'.DictOfH (ee (ZP prog w)) s.heap.objs.size (ps.map λp=>(p.1,p.2.1,bO aj))->Q (.ref s.heap.objs.size) {s with heap:=h',toks:=tk}) :
  bc (aS prog w) A (call (.type "dict") [.ref l]) Q E s:=by
 refine callType_codes (Q₁:=λobj s₁=>obj=.ref s.heap.objs.size/\s₁={s with heap:=s.heap.push {cls:=.type "dict",data:=.dict #[]}}) F.kt_called_dict (F.kt_typeCall_dict_1 _) F.entry_dict_init (kt_code_dict_new _ ⟨rfl,rfl⟩) ?_
 rintro obj s₁ ⟨rfl,rfl⟩
 have hnew:(s.heap.push {cls:=.type "dict",data:=.dict #[]}).DictOfH (ee (ZP prog w)) s.heap.objs.size []:=bX.DictOfH.new s.heap;have hx':=aw {cls:=.type "dict",data:=.dict #[]} hx;refine⟨hnew.typeIs (s:={s with heap:=_}),F.args_dict_init_2 _ _,?_⟩
 unfold eD.«dict.__init__»;refine ae ?_;refine ae (mi (hnew.typeIs (s:={s with heap:=_})) ?_)
 refine aA ?_;refine ae (fv (T:="list") ⟨_,hx',rfl⟩ ?_);rw[T9 (by decide)]
 refine ae (vX hx' hh λh1 t1 k1=>?_)
 rw[T9 (show(af:Option au).isNone=aj from rfl)]
 have hx1:=k1 _ _ hx';obtain⟨od,es,ep,g1,g2⟩:=id hnew;have hd1:=aJ (k1 _ _ g1);have hl0:l<s.heap.objs.size:=aJ hx;refine ae (dW (ae (fO (items:=its) ⟨_,hx1,rfl,n,rfl⟩ (aA ⟨plainId_quiet X7 _,?_⟩))));have lt:∀{b:aC}{o:eG},s.heap.get? b=aa o->b∉[h1.objs.size]/\b≠s.heap.objs.size:=λ{b o} e=>by
  have q:=aJ e;exact⟨λz=>T7 (aU.mp z) (br (db q hd1)),br q⟩
 refine ZaB (A:=A.in1) (h0:=s.heap) (ps:=ps) (i:=0) (s:={s with heap:=h1.push (Yu aj l),toks:=t1}) (Vt (A:=A.in1.in1) hh aj h1.objs.size l (br (db hl0 hd1)) its) (by show A.units+1+2<dz;lia) (λz=>?_) hl hi (λp hq=>?_) hn hz _ rfl (dN _) ⟨Jx,?_⟩ (λb o _ _ e=>aw _ (k1 _ _ (aw _ e))) ?_ λh' tk kp dd=>⟨rfl,h h' tk (λb o e=>kp b o (lt e).1 (lt e).2 e) dd⟩
 ·simp only[az,bE,or_false]at z
  rcases z with z|z
  ·exact br hd1 z
  ·exact gh hl0 z
 ·obtain⟨x1,x2⟩:=hp p hq
  obtain⟨_,y1,_⟩:=id x1;obtain⟨_,_,_,y2,_⟩:=id x2;exact⟨x1,x2,(lt y1).1,(lt y1).2,(lt y2).1,(lt y2).2⟩
 ·exact⟨_,aw _ hx1,rfl,n,rfl⟩
 ·exact Wq hnew (λo e=>aw _ (k1 _ _ e)) λx hx=>by cases hx
end
section
variable{X:Cx}{xw:Nat->Hp->Prop}{ρ:Mx}{H:Hp}
theorem zL:∀{ds:List D}{ks:List (List Int)}{ys:List V},Pv.Wn ds=aa ks->Rq ρ H ds ys->∃ps:List Pr,ps.map (·.1)=ks.map (·.map dP)/\ps.length=ys.length/\
  ∀(i:Nat)(p:Pr),ps[i]?=aa p->ys[i]?=aa (.ref p.2.2)/\H p.2.2=aa (.tup [.ref p.2.1,.bl aj])/\H p.2.1=aa (.tup (p.1.map kV))
 |[],ks,ys,h,r=>by
  cases h;subst r;exact⟨[],rfl,rfl,λi p e=>by simp at e⟩
 |d::ds,ks,ys,h,r=>by
  obtain⟨v,vs,rfl,r1,r2⟩:=r;obtain⟨a,e1,h⟩:=b9.mp (h)
  obtain⟨b,e2,rfl⟩:=cp.mp h;obtain⟨ps,h1,h2,h3⟩:=zL e2 r2;unfold Pv.Zcs at e1;split at e1
  ·split at e1
   ·rename_i k b hb
    subst hb;obtain⟨p,zs,rfl,hp,rz⟩:=r1.tup';obtain⟨u,u2,rfl,ru,ru2⟩:=zt rz;rw[ru2.bl']at hp;obtain⟨q,ws,rfl,hq,rw'⟩:=ru.tup';rw[X4 e1 rw']at hq;refine⟨(a.map dP,q,p)::ps,by rw[aW,h1];rfl,by simp[h2],λi y hy=>?_⟩
    cases i with|zero=>simp at hy;subst hy;exact⟨rfl,hp,hq⟩|succ i=>exact h3 i y (by simpa using hy)
   ·cases e1
  ·cases e1
theorem Je(hc:X.calm=aj)(hu:X.A.units+7<dz):Zz X (.type "dict") (VX X.K xw .dictP):=by
 intro pq s σ H vs us Q I r h;obtain⟨ρ,S,ds,st,rs,h⟩:=h;obtain⟨d,v,z,rfl,r1,hz,h3⟩:=WQ h rs;have hd:∃ds ks,d=.lst ds/\Pv.Wn ds=aa ks/\Ev.UC ks=aj/\z=.dct (aa ks):=by
  cases d with
  |lst ds=>
   obtain⟨ks,hk,hz⟩:=b9.mp hz;split at hz
   ·cases hz;exact⟨ds,ks,rfl,hk,‹_›,rfl⟩
   ·cases hz
  |_=>exact Ev.nos hz
 obtain⟨ds,ks,rfl,hk,hok,rfl⟩:=hd;obtain⟨l,ys,rfl,hl,_,ry⟩:=r1.lst';obtain⟨u,rfl,ru⟩:=XR r;cases ru;obtain⟨ps,p1,p2,p3⟩:=zL hk ry;obtain⟨_,its,c,rv,hg⟩:=(I.hok l _ hl)
 obtain⟨k1,k2⟩:=(aD _ _).mp hok;have hn:(ps.map (·.1)).Nodup:=by
  rw[p1];exact List.Pairwise.map _ (λa b ne e=>ne (Jl e)) (T6 k2)
 have hlen:ps.length=ks.length:=by have:=congrArg iJ p1;simpa using this
 have hz:ps.length<=bi:=by rw[hlen,<-Wt];exact T6 k1
 have hp0:=I.hok.fresh (aI _);refine yU (I.ok.hd hc) (by lia) hg (by rw[p2,rv.length,ay]) (λi p e=>?_) (λp hp=>?_) hn hz λh' tk kp dd=>?_
 ·obtain⟨w',g',ru'⟩:=rv.get (p3 i p e).1
  rw[ru']at g'
  simpa using g'
 ·obtain⟨i,hi,e⟩:=cA hp
  obtain⟨_,a2,a3⟩:=p3 i p (by rw[<-e];exact ai hi)
  obtain⟨_,zs,rz,tz⟩:=(I.hok _ _ a2)
  refine⟨?_,Jz I.hok a3⟩;cases rz with
  |cons x rz=>cases rz with
   |cons y rz=>
    cases rz;cases(x)
    cases(y)
    exact tz
 ·obtain⟨od,es,ep,g1,g2,g3,g4,g5,g6⟩:=dd
  have hb:=beq_eq_false_iff_ne.mpr (gh I.big);have hpr:∀{l:List Pr},(∀p∈l,H p.2.1=aa (.tup (p.1.map kV)))->Paired (λ(p:List Key×V) (q:List Key×aC×au)=>p.1=q.1/\upd H s.heap.objs.size (.frz od (.dT (ps.map λp=>(p.1,V.bl aj)))) q.2.1=aa (.tup (p.1.map kV))/\Zu p.2 q.2.2) (l.map λp=>(p.1,V.bl aj)) (l.map λp=>(p.1,p.2.1,bO aj)):=λ{l}=>by
   induction l with|nil=>intro _;exact .nil|cons p l ih=>intro hl;exact .cons ⟨rfl,by rw[Zi (ZH (hl p ao) hp0)];exact hl p ao,rfl⟩ (ih λq hq=>hl q (aq _ hq))
  refine⟨.ref s.heap.objs.size,upd H s.heap.objs.size (.frz od (.dT (ps.map λp=>(p.1,V.bl aj)))),I.laid (t':=tk) kp (aI _) (⟨g1,by rw[aB];exact hz,hb,ps.map λp=>(p.1,p.2.1,bO aj),hpr λp hp=>?_,od,es,ep,g1,g2,g3,g4,g6⟩),rfl,?_⟩
  ·obtain⟨i,hi,e⟩:=cA hp
   exact(p3 i p (by rw[<-e];exact ai hi)).2.2
  ·exact h3 ρ _ _ (Zs hp0) (st.fresh hp0) (by exact⟨_,rfl,od,_,Zk,by rw[cI];exact p1⟩)
end
section
variable{X:Cx}{xw:Nat->Hp->Prop}{fr:Bool}{C:Calls}{ns:List Nat}{e a:Expr}{i:E}{pos p p' p2:eY}{n:Nat}{x:bn}{q:Option bn}
def JW{q}(ha:CE X xw C a i):CE X xw C (.Subscript a (.Constant (.int 0) q p2) pos) (.dix i al):=PE.imp (vn Ue ha Ws (by intro _ _;with_unfolding_all rfl)) λσ H Q ⟨ρ,l,S,st,lr,h⟩=>by
 rw[Pv.pv]at h;refine⟨ρ,l,S,st,lr,h.bind λx S1 ρ1 H1 v f1 st1 r1 h1=>?_⟩
 cases x with|drw=>obtain⟨p,rfl,hn⟩:=r1.drw';exact⟨p,_,0,_,rfl,rfl,SqL.of (st1.dw p hn).1,rfl,End.ok h1 st1 (ZT _)⟩|_=>exact h1.elim
def JB{q}(ha:CE X xw C a i):CE X xw C (.Subscript a (.Constant (.int 1) q p2) pos) (.dix i aj):=PE.imp (vn Ue ha Ws (by intro _ _;with_unfolding_all rfl)) λσ H Q ⟨ρ,l,S,st,lr,h⟩=>by
 rw[Pv.pv]at h;refine⟨ρ,l,S,st,lr,h.bind λx S1 ρ1 H1 v f1 st1 r1 h1=>?_⟩
 cases x with|drw=>obtain⟨p,rfl,hn⟩:=r1.drw';exact⟨p,_,1,_,rfl,rfl,SqL.of (st1.dw p hn).1,rfl,End.ok h1 st1 (Z9 _)⟩|_=>exact h1.elim
def Gj{q}(he:CE X xw C e i)(hN:X.N[n]?=aa x:=by rfl)(hv:Vis X.env.scope x:=by first|exact gN rfl|exact eU (gN rfl)|exact eU (eU rfl))(hd:(x == ("__debug__" : bn))=al:=by decide)
  (hcd:(x == ("__classdict__" : bn))=al:=by decide)
  (ha:∀v,d7 (.Subscript (.Name x p') (.Constant (.int 0) q p2) p) X.env v=(do
   let ov <-iF [v] (cR (.Name x p') X.env)
   let iv <-iF [v,ov] (cR (.Constant (.int 0) q p2) X.env)
   kR p
   iF [v,ov,iv] (setItem ov iv v)
   release [v,ov,iv] []):=by intro _;rfl)(hs:dJ [.Subscript (.Name x p') (.Constant (.int 0) q p2) p] e pos.line X.env=cC al:=by rfl)(hw:dL [.Subscript (.Name x p') (.Constant (.int 0) q p2) p] e X.env=cC af:=by rfl)
  (h1:(cD [.Subscript (.Name x p') (.Constant (.int 0) q p2) p] X.env).map (·.2)=[d7 (.Subscript (.Name x p') (.Constant (.int 0) q p2) p) X.env]:=by rfl):CS X xw fr C ns (.Assign [.Subscript (.Name x p') (.Constant (.int 0) q p2) p] e pos) (.dset n i):=
 PS.imp (Vg he (Zd6 (Yk hN hv hd hcd) Ws (uW) ha) hs hw h1) λD σ H ⟨ρ,H0,W,l,os,S,st,en,h⟩=>by
 rw[Pv.rv]at h;refine⟨ρ,l,S,st,en.all,ZK.bind en h λy S1 H1 v f1 st1 r1 h1=>?_⟩
 cases y with
 |int y=>
  obtain⟨hk,h1⟩:=h1.guard;have hx:l[n]?=aa (aa .drw):=by
   cases z:l[n]? with
   |none=>rw[z]at h1;exact h1.elim
   |some o=>cases o with
    |none=>rw[z]at h1;exact h1.elim
    |some d=>cases d<;>rw[z]at h1<;>first|rfl|exact h1.elim
  rw[hx]at h1;obtain⟨u,hu,r⟩:=(en.mono f1).all.val n .drw hx;obtain⟨a,rfl,hn⟩:=r.drw';obtain⟨e1,_⟩:=st1.dw a hn;refine⟨.ref a,hu,a,_,0,0,rfl,rfl,e1,rfl,?_⟩;rw[r1.int'];have f2:Fut ρ H1 ρ (upd H1 a (.lst [.int y,.bl S1.2])):=⟨rfl,λb o z=>by
   by_cases c:b=a
   ·subst c;rw[e1]at z;cases z;exact .inr (.inl ⟨hn,_,rfl⟩)
   ·exact .inl (by rw[Zi c];exact z)⟩
  refine h1 _ σ W ⟨st1.hk,λb x=>?_,λb x=>?_,st1.tb.upd (λo u z=>by rw[e1]at z;cases z) λ_ z=>by cases z⟩ ((en.mono f1).mono f2)
  ·by_cases c:b=a
   ·rw[c];rw[Zk];intro z;cases z
   ·rw[Zi c];exact st1.xd b x
  ·rw[hn]at x
   cases x;exact⟨Zk,hk⟩
 |_=>exact h1.elim
end
open Ev in
noncomputable def Wv:Fn:=⟨2,4,
 [.ite (.dix (.v 0) aj) [.asg [2] (.bin .mod (.dix (.v 0) al) (.v 1)),
  .dset 0 (.bin .fdiv (.dix (.v 0) al) (.v 1)),
  .ret (.v 2)] [],
  .dset 0 (.bin .mod (.bin .add (.bin .mul (.dix (.v 0) al) (.c (.int 48271))) (.c (.int 29))) (.c (.int 2147483647))),
  .asg [3] (.bin .mod (.bin .add (.bin .add (.bin .mul (.dix (.v 0) al) (.dix (.v 0) al)) (.bin .mul (.c (.int 39373)) (.dix (.v 0) al))) (.c (.int 7))) (.c (.int 2147483629))),
  .asg [3] (.bin .mod (.bin .add (.bin .mul (.v 3) (.v 3)) (.bin .mul (.c (.int 16807)) (.v 3))) (.c (.int 2147483587))),
  .ret (.bin .mod (.bin .fdiv (.v 3) (.c (.int 8))) (.v 1))]⟩
open Ev Pv in
def X8(h0:0<=a)(h:a<4294967296):fits a=aj:=by
 refine T5 ?_;have h1:a.natAbs<2^32:=by lia
 exact bu h1 (dO (by decide) (by decide))
open Ev Pv in
def Z6(h:okS s.1 s.2=aj)(m0:0<m)(m1:m<1073741824):JS C Wv [.drw,.int m] s=.ok (.int (XM s m).1) (XM s m).2:=by
 obtain⟨a,b⟩:=s;have hm:muts Wv.body=[]:=rfl;unfold JS;rw[hm];have ha:=T6 ((aD _ _).mp h).1;have lt8:(8:Int)<big:=qd (by decide)
 cases b with
 |true=>
  have o2:okS (a / m) aj=aj:=by simp[okS];exact Int.ediv_nonneg ha (by lia)
  simp[Wv,XM,rvs,rv,pvA,Pv.pv.eq_1,Pv.pv.eq_2,Pv.pv.eq_7,Pv.pv.eq_28,YN,PR.bind,po,Zv,ZM,ofD,YG,Pv.Jn,m0,m1,qd m1,o2,hide]
 |false=>
  have hb:a<2147483647:=by simpa using((aD _ _).mp h).2
  have h1:=X8 ha (by lia)
  have x0:0<=(a*48271+29)%2147483647:=by lia
  have x1:(a*48271+29)%2147483647<2147483647:=by lia
  generalize hxx:(a*48271+29)%2147483647=x at x0 x1;have y0:0<=(x*x+39373*x+7)%2147483629:=by lia
  have y1:(x*x+39373*x+7)%2147483629<2147483629:=by lia
  generalize hyy:(x*x+39373*x+7)%2147483629=y at y0 y1;have f1:=X8 x0 (by lia)
  have f2:=X8 y0 (by lia)
  have f3:fits 48271=aj:=X8 (by lia) (by lia)
  have f4:fits 39373=aj:=X8 (by lia) (by lia)
  have f5:fits 16807=aj:=X8 (by lia) (by lia)
  have o2:okS x al=aj:=by simp[okS,x0,x1]
  simp[Wv,XM,rvs,rv,pvA,Pv.pv.eq_1,Pv.pv.eq_2,Pv.pv.eq_7,Pv.pv.eq_28,YN,PR.bind,po,Zv,ZM,ofD,YG,Pv.Jn,m0,m1,lt8,h1,hxx,hyy,f1,f2,f3,f4,f5,o2,hide]
def ZbY{K:ak}{F:List Fn}{tk d:Nat}:∀ρ S H ds vs,St3 K ρ S H->Rq ρ H ds vs->Pv.Zn F tk (d+1) tk ds S=.no\/Pv.Zn F tk (d+1) tk ds S=JS (Pv.Zn F tk d) Wv ds S:=λρ S H ds vs st r=>by
 rw[Pv.Zn,T9 rfl];unfold Pv.Zcv;split
 ·rename_i m
  obtain⟨v,u,rfl,r1,_⟩:=zt r;obtain⟨a,_,hn⟩:=r1.drw';split
  ·rename_i hm
   exact .inr (Z6 (st.dw a hn).2 hm.1 hm.2).symm
  ·exact .inl rfl
 ·exact .inl rfl
def wU{K:ak}{F:List Fn}{tk n d:Nat}{fn:Fn}(hn:n≠tk)(hf:F[n]?=aa fn):∀ρ S H ds vs,St3 K ρ S H->Rq ρ H ds vs->Pv.Zn F tk (d+1) n ds S=.no\/Pv.Zn F tk (d+1) n ds S=JS (Pv.Zn F tk d) fn ds S:=λρ S H ds vs st r=>by
 rw[Pv.Zn,T8 hn,hf]
 all_goals exact .inr rfl
def Zb9(h:Pv.U6 v=aa d):v=.lst [.int d.1,.bl d.2]/\Pv.okS d.1 d.2=aj:=by
 unfold Pv.U6 at h;split at h
 ·split at h
  ·cases h;exact⟨rfl,‹_›⟩
  ·cases h
 ·cases h
def zi{l:Lc}{i:Nat}{d:D}(h:(l.map Pv.VQ)[i]?=aa (aa d)):l[i]?=aa (aa d)/\d.flat=aj:=by
 rw[aR]at h;cases q:l[i]? with
 |none=>rw[q]at h;cases h
 |some o=>
  rw[q]at h;have h:=am h;obtain⟨a,b⟩:=Option.filter_eq_some_iff.mp h;exact⟨by rw[a],b⟩
def qQ{n:Nat}{l:Lc}{i:Nat}{d:D}(h:(Pv.WP n l)[i]?=aa (aa d)):l[i]?=aa (aa d)/\d.flat=aj:=by
 unfold Pv.WP at h;rw[List.getElem?_append]at h;split at h
 ·obtain⟨a,b⟩:=zi h
  rw[cQ]at a;split at a
  ·exact⟨a,b⟩
  ·cases a
 ·rw[cx]at h
  split at h<;>cases h
def zu :(Pv.WP n l).length=l.length:=by
 unfold Pv.WP;rw[bp,aB,bz,cW];omega
section
variable{X:Cx}{fr:Bool}{C:Calls}{ns:List Nat}{e:Expr}{pos p px:eY}{n:Nat}{x:bn}
def tCl(X:Cx)(xw:Nat->Hp->Prop)(C:Calls)(fi:Nat)(is:List E):TE:=λσ H Q=>tA X xw (Pv.pvs C is) σ H λvs H1=>∃ρ ds S,St3 X.K ρ S H1/\Rq ρ H1 ds vs/\End X.K xw (XT aj H1) ρ H1 Q (C fi ds S)
def ZdU{xw:Nat->Hp->Prop}{fi:Nat}{y:bn}{es:List Expr}{is:List E}{ss:List eF}{B:List Sm}(hc:PE X (.Call (.Name y p') (e::es) [] p) (tCl X xw C fi is))(hB:CSs X xw fr C ns ss B)(hN:X.N.Nodup)
  (hi:X.N[n]?=aa x:=by rfl)(hx:L2.Loc X.env.scope x:=by first|exact gN rfl|exact eU rfl)(hf:X.fn x=aj\/X.env.scope.names.lookup x=aa .local:=by first|exact .inl rfl|exact .inr rfl)
  (hs:dJ [.Name x px] (.Call (.Name y p') (e::es) [] p) pos.line X.env=cC al:=by rfl)(hw:dL [.Name x px] (.Call (.Name y p') (e::es) [] p) X.env=cC af:=by rfl)
  (h1:(cD [.Name x px] X.env).map (·.2)=[d7 (.Name x px) X.env]:=by rfl) :
  CSs X xw fr C ns (.Assign [.Name x px] (.Call (.Name y p') (e::es) [] p) pos::ss) [.cel n fi is B]:=
 PSs.imp (Yp (Vg hc (V5 hN hi hx hf) hs hw h1) hB) λD σ H ⟨ρ,H0,W,l,os,S,st,en,h⟩=>by
 have h:ZK fr X.K xw ρ H0 D (Pv.rv C ns (.cel n fi is B) l os S):=by
  rw[Pv.rvs]at h;cases q:Pv.rv C ns (.cel n fi is B) l os S with|no=>rw[q]at h;exact h|ex c s=>rw[q]at h;exact h|ok g s=>rw[q]at h;cases g<;>exact h
 rw[Pv.rv]at h;obtain⟨ho,h⟩:=h.guard;refine⟨ρ,l,S,st,en.all,ZK.bind en h λxs S1 H1 vs f1 st1 r1 h1=>?_⟩
 refine⟨ρ,xs,S1,st1,r1,ZK.bind (en.mono f1) h1 λv S2 H2 u f2 st2 r2 h2=>?_⟩
 obtain⟨d,hd,h3⟩:=ZK.ob h2;obtain⟨rfl,hok⟩:=Zb9 hd;obtain⟨a,rfl,na⟩:=r2.2 rfl _ rfl;obtain⟨_,us,z,ea,_,ru⟩:=r2.1.lst';cases z;obtain⟨u1,u2,rfl,q1,q2⟩:=zt ru;cases q1.int';cases q2.bl';have en2:=(en.mono f1).mono f2;have nX:∀q,ρ.X q->q≠a:=λq x z=>st1.xd q x (z▸na)
 let ρ':Mx:=⟨ρ.K,aa a,λq=>ρ.X q\/q=a,λq h=>.inr (am h).symm⟩
 have st':St3 X.K ρ' d H2:=⟨st2.hk,λq x=>x.elim (st2.xd q) λz=>(by rw[z,ea];intro w;cases w),λq x=>(by cases x;exact⟨ea,hok⟩),st2.tb⟩
 have en':Eu ρ' H2 (λ_=>af) ((Pv.WP n l).set n (aa .drw)) [] (σ.set n (aa (.ref a))) H2:=by
  refine⟨Fut.refl _ _,st'.xd,by rw[bC,bC,zu];exact en.len,λ_=>rfl,λ_ _ _ z=>?_,λ_ _ z=>?_,λ_ _ z=>?_,λi w q _=>?_⟩
  ·cases z
  ·cases z
  ·cases z
  ·rcases Gb q with⟨rfl,z,hl⟩|⟨c,z⟩
   ·cases z
    exact⟨.ref a,bg (by rw[<-en.len,<-zu];exact hl),by exact⟨a,rfl,rfl⟩⟩
   ·obtain⟨z,hfl⟩:=qQ z
    obtain⟨v,hv,r⟩:=en2.all.val i w z;exact⟨v,by rw[ba c];exact hv,Rep.flat (ρ:=ρ) (ρ':=ρ'.ex λ_=>af) rfl (λ_ _ z _=>z) hfl r⟩
 have n0:∀{b},b≠a->ρ'.n0≠aa b:=λc w=>T7 (am w).symm c
 have keep:∀{H'},Fut ρ' H2 ρ' H'->∀b o,b≠a->H2 b=aa o->(∀ps,o≠.tbl ps)->H' b=aa o:=λ{H'} f b o c z n=>(f.keep b o z).elim id λw=>w.elim (λw=>T7 w.1 (n0 c)) λ⟨⟨ps,e⟩,_⟩=>T7 e (n ps)
 have back:∀{H':Hp}{s:Zr},Fut ρ' H2 ρ' H'->St3 X.K ρ' s H'->St3 X.K ρ S2 H'/\Fut ρ H0 ρ H':=λ{H' s} f w=>by
  refine⟨⟨st2.hk,λq x=>?_,λq x=>?_,w.tb⟩,rfl,λb o z=>?_⟩
  ·exact f.there (n0 (nX q x)) (st2.xd q x)
  ·obtain⟨e1,e2⟩:=st2.dw q x
   exact⟨keep f q _ (nX q (ρ.xz q x)) e1 (by intro _ z;cases z),e2⟩
  ·have ne:b≠a:=λc=>by rw[c,G9 (en.mono f1) st1 na]at z;cases z
   rcases en2.fut.keep b o z with y|y|⟨e,ps,y⟩
   ·rcases f.keep b o y with q|q|q
    ·exact .inl q
    ·exact T7 q.1 (n0 ne)
    ·exact .inr (.inr q)
   ·exact .inr (.inl y)
   ·rcases f.keep b _ y with q|⟨_,xs,q⟩|⟨_,q⟩
    ·exact .inr (.inr ⟨e,ps,q⟩)
    ·cases q
    ·exact .inr (.inr ⟨e,q⟩)
 have backE:∀{H':Hp}{s:Zr}{W':Own}{l':Lc}{os':List Nat}{σ':L2.St},Eu ρ' H2 W' l' os' σ' H'->St3 X.K ρ' s H'->St3 X.K ρ S2 H'/\Eu ρ H0 (λ_=>af) (l'.map Pv.VQ) [] σ' H':=λ{H' s W' l' os' σ'} g w=>by
  obtain⟨a1,a2⟩:=back g.fut w;refine⟨a1,a2,en.xd,by rw[aB];exact g.len,λ_=>rfl,λ_ _ _ z=>?_,λ_ _ z=>?_,λ_ _ z=>?_,λi w q _=>?_⟩
  ·cases z
  ·cases z
  ·cases z
  ·obtain⟨z,hfl⟩:=zi q
   obtain⟨v,hv,r⟩:=g.all.val i w z;exact⟨v,hv,Rep.flat (ρ:=ρ') (ρ':=ρ.ex λ_=>af) rfl (λ_ _ z _=>z) hfl r⟩
 refine⟨ρ',H2,λ_=>af,_,[],d,st',en',?_⟩
 cases q:Pv.rvs C ns B ((Pv.WP n l).set n (aa .drw)) [] d with
 |no=>rw[q]at h3;exact h3
 |ex c s=>rw[q]at h3;exact h3.elim
 |ok g s=>
  rw[q]at h3;cases g with
  |nx l' os'=>exact λH' σ' W' w g=>let ⟨a1,a2⟩:=backE g w;h3 H' σ' _ a1 a2
  |brk l' os'=>exact λH' σ' W' w g=>let ⟨a1,a2⟩:=backE g w;h3 H' σ' _ a1 a2
  |cnt l' os'=>exact λH' σ' W' w g=>let ⟨a1,a2⟩:=backE g w;h3 H' σ' _ a1 a2
  |ret v=>
   obtain⟨hfl,h3⟩:=ZK.guard h3;exact λH' v' f w r=>let ⟨a1,a2⟩:=back f w;h3 H' v' a2 a1 ⟨Rep.flat (ρ:=ρ') (ρ':=ρ) rfl (λ_ _ z _=>z) hfl r.1,λ_ ds z=>by rw[z]at hfl;cases hfl⟩
end
end Sd
structure Bx(P:Prop):Prop where
 h:P
namespace Wr
def bx3{P Q R:Prop}(h:Bx P/\Bx Q/\Bx R):P/\Q/\R:=⟨h.1.h,h.2.1.h,h.2.2.h⟩
def bx6{P Q R S T U:Prop}(h:Bx P/\Bx Q/\Bx R/\Bx S/\Bx T/\Bx U):P/\Q/\R/\S/\T/\U:=⟨h.1.h,h.2.1.h,h.2.2.1.h,h.2.2.2.1.h,h.2.2.2.2.1.h,h.2.2.2.2.2.h⟩
def yi{X xw C pos n q}:=Bx.mk (@Sd.yi X xw C pos n q)
def jC{X xw C pos n q}:=Bx.mk (@Sd.jC X xw C pos n q)
def yD{X xw C pos q}:=Bx.mk (@Sd.yD X xw C pos q)
def yQ{X xw C pos x q}:=Bx.mk (@Sd.yQ X xw C pos x q)
def ZdN{X xw C pos}(n){x}(hN hv hd hcd):=Bx.mk (@Sd.ZdN X xw C pos n x hN hv hd hcd)
def xA{X xw C pos es is q}(h):=Bx.mk (@Sd.xA X xw C pos es is q (Bx.h h))
def yj{X xw C pos es is}(h):=Bx.mk (@Sd.yj X xw C pos es is (Bx.h h))
def yz{X xw C a b i j pos}(ha hb):=Bx.mk (@Sd.yz X xw C a b i j pos (Bx.h ha) (Bx.h hb))
def yw{X xw C a b i j pos}(ha hb):=Bx.mk (@Sd.yw X xw C a b i j pos (Bx.h ha) (Bx.h hb))
def xI{X xw C a b i j pos}(ha hb):=Bx.mk (@Sd.xI X xw C a b i j pos (Bx.h ha) (Bx.h hb))
def J1{X xw C a b i j pos}(ha hb):=Bx.mk (@Sd.J1 X xw C a b i j pos (Bx.h ha) (Bx.h hb))
def yR{X xw C a b i j pos}(ha hb):=Bx.mk (@Sd.yR X xw C a b i j pos (Bx.h ha) (Bx.h hb))
def xy{X xw C a b i j pos}(ha hb):=Bx.mk (@Sd.xy X xw C a b i j pos (Bx.h ha) (Bx.h hb))
def xi{X xw C a i pos}(ha):=Bx.mk (@Sd.xi X xw C a i pos (Bx.h ha))
def xK{X xw C a i pos}(ha):=Bx.mk (@Sd.xK X xw C a i pos (Bx.h ha))
def xt{X xw C a b i j pos rest}(ha hb):=Bx.mk (@Sd.xt X xw C a b i j pos rest (Bx.h ha) (Bx.h hb))
def jG{X xw C a b i j pos rest}(ha hb):=Bx.mk (@Sd.jG X xw C a b i j pos rest (Bx.h ha) (Bx.h hb))
def Xa{X xw C a b i j pos op o}(hc ha hb)(hm):=Bx.mk (@Sd.Xa X xw C a b i j pos op o hc (Bx.h ha) (Bx.h hb) hm)
def WF{X xw C a b i j pos op op' o o' d k}(hc hc' ha hb hd)(hm):=Bx.mk (@Sd.WF X xw C a b i j pos op op' o o' d k hc hc' (Bx.h ha) (Bx.h hb) (Bx.h hd) hm)
def yt{X xw C a i pos p2 e1}(ha h1):=Bx.mk (@Sd.yt X xw C a i pos p2 e1 (Bx.h ha) (Bx.h h1))
def ZaI{X xw C a i pos p2 lo hi il ih}(ha hl hh):=Bx.mk (@Sd.ZaI X xw C a i pos p2 lo hi il ih (Bx.h ha) (Bx.h hl) (Bx.h hh))
def ZaO{X xw C a b i j pos}(ha hb)(hs):=Bx.mk (@Sd.ZaO X xw C a b i j pos (Bx.h ha) (Bx.h hb) hs)
def Wi{X xw C a i pos p p2 T t}(ht hm hmT ha)(hg hgT hvT hnT hdT hs1 hs2 hpl):=Bx.mk (@Sd.Wi X xw C a i pos p p2 T t ht hm hmT (Bx.h ha) hg hgT hvT hnT hdT hs1 hs2 hpl)
def Y1{X xw C e pos p f id x es is}(hc hm ha)(hg hv hn hdb he hpl):=Bx.mk (@Sd.Y1 X xw C e pos p f id x es is hc hm (Bx.h ha) hg hv hn hdb he hpl)
def WD{X xw C e pos p f id x es is}(hc hm ha)(hg hv hn hdb he hpl):=Bx.mk (@Sd.WD X xw C e pos p f id x es is hc hm (Bx.h ha) hg hv hn hdb he hpl)
def Gc{X xw C e pos p f id x es is}(hc hm ha)(hg hv hn hdb he hpl):=Bx.mk (@Sd.Gc X xw C e pos p f id x es is hc hm (Bx.h ha) hg hv hn hdb he hpl)
def Gz{X xw C e pos p f id x es is}(hc hm ha)(hg hv hn hdb he hpl):=Bx.mk (@Sd.Gz X xw C e pos p f id x es is hc hm (Bx.h ha) hg hv hn hdb he hpl)
def ZeN{X xw C e i}(h):=Bx.mk (@Sd.CF.ce X xw C e i (Bx.h h))
def yV{X xw C}:=Bx.mk (@Sd.yV X xw C)
def JZ{X xw C e i es is}(ha hr)(hs):=Bx.mk (@Sd.JZ X xw C e i es is (Bx.h ha) (Bx.h hr) hs)
def Gx{X xw C}:=Bx.mk (@Sd.Gx X xw C)
def J0{X xw C e i}(h):=Bx.mk (@Sd.J0 X xw C e i (Bx.h h))
def yM{X xw C a i pos}(ha):=Bx.mk (@Sd.yM X xw C a i pos (Bx.h ha))
def Y9{X xw C a b i j pos op o}(hc ha hb)(hm):=Bx.mk (@Sd.Y9 X xw C a b i j pos op o hc (Bx.h ha) (Bx.h hb) hm)
def xu{X xw C a i}(ha)(he):=Bx.mk (@Sd.xu X xw C a i (Bx.h ha) he)
def vj{X xw C a b i j pos rest}(ha hb):=Bx.mk (@Sd.vj X xw C a b i j pos rest (Bx.h ha) (Bx.h hb))
def xF{X xw C a i pos}(ha):=Bx.mk (@Sd.xF X xw C a i pos (Bx.h ha))
def JX{X xw C}:=Bx.mk (@Sd.JX X xw C)
def Gf{X xw C c i}(h):=Bx.mk (@Sd.Gf X xw C c i (Bx.h h))
def Zar{X xw C e tg i}(he):=Bx.mk (@Sd.Zar X xw C e tg i (Bx.h he))
def qL{X xw C e tg i}(he):=Bx.mk (@Sd.qL X xw C e tg i (Bx.h he))
def JK{X xw C a tg i pos p}(hm ha)(hg hs):=Bx.mk (@Sd.JK X xw C a tg i pos p hm (Bx.h ha) hg hs)
def JE{X pos n x}(hN)(hi hx hf):=Bx.mk (@Sd.JE X pos n x hN hi hx hf)
def yC{X pos tgs q2 n m r}(hc h)(hn hst):=Bx.mk (@Sd.yC X pos tgs q2 n m r hc (Bx.h h) hn hst)
def Gt{X}:=Bx.mk (@Sd.Gt X)
def UB{X pos tgs n t x}(hN h2)(hi hx hf hs):=Bx.mk (@Sd.UB X pos tgs n t x hN (Bx.h h2) hi hx hf hs)
def xb{X xw fr C ns}:=Bx.mk (@Sd.xb X xw fr C ns)
def GG{X xw fr C ns s0 ss m0 ms}(h1 h2):=Bx.mk (@Sd.GG X xw fr C ns s0 ss m0 ms (Bx.h h1) (Bx.h h2))
def Ji{X xw fr C ns e i pos n tg}(he hg)(hf hs hw h1):=Bx.mk (@Sd.Ji X xw fr C ns e i pos n tg (Bx.h he) (Bx.h hg) hf hs hw h1)
def Gm{X xw fr C ns e i pos n tg}(he hg)(hs hw h1):=Bx.mk (@Sd.Gm X xw fr C ns e i pos n tg (Bx.h he) (Bx.h hg) hs hw h1)
def yZ{X xw fr C ns e i pos n m t tg}(he hg)(hs hw h1):=Bx.mk (@Sd.yZ X xw fr C ns e i pos n m t tg (Bx.h he) (Bx.h hg) hs hw h1)
def Vp{X xw fr C ns e i pos p n x apos cpos}(he)(hN hv hd hcd hbase hfew hline hs hplain hw):=Bx.mk (@Sd.Vp X xw fr C ns e i pos p n x apos cpos (Bx.h he) hN hv hd hcd hbase hfew hline hs hplain hw)
def yS{X xw C ns e i pos}(he):=Bx.mk (@Sd.yS X xw C ns e i pos (Bx.h he))
def JH{X xw fr C ns e i pos}(he):=Bx.mk (@Sd.JH X xw fr C ns e i pos (Bx.h he))
def GC{X xw fr C ns e pos n is}(he)(hs):=Bx.mk (@Sd.GC X xw fr C ns e pos n is (Bx.h he) hs)
def jH{X xw fr C ns c k pos ms ms' sa sb}(hc ha hb):=Bx.mk (@Sd.jH X xw fr C ns c k pos ms ms' sa sb (Bx.h hc) (Bx.h ha) (Bx.h hb))
def yr{X xw C tg it pos body fr ns ms w t}(hp hc hw hg hb)(hs):=Bx.mk (@Sd.yr X xw C tg it pos body fr ns ms w t hp hc (Bx.h hw) (Bx.h hg) (Bx.h hb) hs)
def y9{X xw C a b i j pos p tp elts kk}(hm ha)(hg hs hs2):=Bx.mk (@Sd.y9 X xw C a b i j pos p tp elts kk hm (Bx.h ha) hg hs hs2)
def Gu{X xw C a i pos p tp elts kk}(hm ha)(hg hs):=Bx.mk (@Sd.Gu X xw C a i pos p tp elts kk hm (Bx.h ha) hg hs)
def yF{X xw fr C ns a b i j pos n x m y px py pt kt k2 pt2}(hc hN ha)(hnm hi hj hx hy hw hs):=Bx.mk (@Sd.yF X xw fr C ns a b i j pos n x m y px py pt kt k2 pt2 hc hN (Bx.h ha) hnm hi hj hx hy hw hs)
def J2{X xw C a i pos p p2 p3 T U t u k0 p4}(ht hu hm hmT hmU ha)(hg hgT hgU hvT hvU hnT hdT hnU hdU hs0 hs00 hs1 hs2 hpl):=Bx.mk (@Sd.J2 X xw C a i pos p p2 p3 T U t u k0 p4 ht hu hm hmT hmU (Bx.h ha) hg hgT hgU hvT hvU hnT hdT hnU hdU hs0 hs00 hs1 hs2 hpl)
def UD{X xw C tg it pos elt ifs is ie scope N cap nl w t}(hc hN CSc hi)(hb:∀c s H p,Bx _/\Bx _/\Bx _)(hs):=Bx.mk (@Sd.UD X xw C tg it pos elt ifs is ie scope N cap nl w t hc hN CSc (Bx.h hi) (λc s H p=>bx3 (hb c s H p)) hs)
def UF{X xw C tg it pos fr ns elt ifs is ie scope N cap nl w t n y spos py}(hc hN CSc hi)(hb:∀c s H p,Bx _/\Bx _/\Bx _)(hsw hy hx hf hs):=Bx.mk (@Sd.UF X xw C tg it pos fr ns elt ifs is ie scope N cap nl w t n y spos py hc hN CSc (Bx.h hi) (λc s H p=>bx3 (hb c s H p)) hsw hy hx hf hs)
def Vl{X xw C pos fr ns elt t1 i1 t2 i2 f1' f2' is js ie scope N cap nl w w2 t u n y spos py}(hc hN CSc hi)(hb:∀c s H p,Bx _/\Bx _/\Bx _/\Bx _/\Bx _/\Bx _)(hsw hy hx hf hs hs2):=Bx.mk (@Sd.Vl X xw C pos fr ns elt t1 i1 t2 i2 f1' f2' is js ie scope N cap nl w w2 t u n y spos py hc hN CSc (Bx.h hi) (λc s H p=>bx6 (hb c s H p)) hsw hy hx hf hs hs2)
def ZdL{X xw C e i}(h):=Bx.mk (@Sd.CWh.ct X xw C e i (Bx.h h))
def GA{X xw C pos}:=Bx.mk (@Sd.GA X xw C pos)
def JW{X xw C a i pos p2 q}(ha):=Bx.mk (@Sd.JW X xw C a i pos p2 q (Bx.h ha))
def JB{X xw C a i pos p2 q}(ha):=Bx.mk (@Sd.JB X xw C a i pos p2 q (Bx.h ha))
def Gj{X xw fr C ns e i pos p p' p2 n x q}(he)(hN hv hd hcd ha hs hw h1):=Bx.mk (@Sd.Gj X xw fr C ns e i pos p p' p2 n x q (Bx.h he) hN hv hd hcd ha hs hw h1)
def xn{X xw fr C ns pos n x m y px py}(hN)(hj hv hd hcd hi hx hf hs hw h1):=Bx.mk (@Sd.xn X xw fr C ns pos n x m y px py hN hj hv hd hcd hi hx hf hs hw h1)
end Wr
namespace Gn
open PySem PySem.Spec PyProof.Rows L2
open Ev (E Sm Fn Bop Cop Ty Bf Mf)
open Sd (Calls CompScope cxC hu7)
structure FR where
 x:bn
 st:eF
 N:List bn
 k:Nat
noncomputable def FR.ps(r:FR):List bn:=r.N.take r.k
noncomputable def scB(N:List bn)(k:Nat)(sc:dQ):Bool:=
 (match sc.kind with|.function=>aj|_=>al)&&(!sc.isCoroutine&&(!sc.isGenerator&&(decide N.Nodup&&((N.take k).all (λx=>ag (sc.names.lookup x=aa .local)||decide (sc.names.lookup x=aa .cell))&&sc.names.all λy=>ag (y.2≠.free)))))
def Vm(h:scB N k sc=aj):FnScope N (N.take k) sc:=by
 unfold scB at h;simp only[aD,k8,T0,bf,i6]at h;obtain⟨h1,h2,h3,h4,h5,h6⟩:=h;refine⟨?_,h2,h3,h4,?_,h5,h6⟩
 ·cases e:sc.kind<;>rw[e]at h1<;>first|rfl|cases h1
 ·rw[bz]
  by_cases hk:k<=N.length
  ·rw[iY hk]
  ·rw[o4 (by omega),gn,cq (by omega)]
inductive Gv where
 |int (n:Int)|tab (t:List (Int×Int))
 deriving DecidableEq
def Zev(K:ak)(mg:bn->Option au)(x:bn):Gv->Prop
 |.int n=>∃t:rS,mg x=aa (.int n t)
 |.tab t=>∃tb:aC,(∀P w,Sd.ZeW P w K tb t)/\mg x=aa (.ref tb)
structure Top(K:ak)(mg:bn->Option au)(fs:List FR)(zs:List bn)(gs:List (bn×Gv))(f:Nat->aC)(fd:Nat->cB):Prop where
 d:∀i r,fs[i]?=aa r->Fun K r.x r.x r.st (f i) (fd i)
 b:∀i r,fs[i]?=aa r->VR K (fd i) r.ps []
 m:∀i r,fs[i]?=aa r->mg r.x=aa (.ref (f i))
 z:∀x∈zs,mg x=af
 g:∀y∈gs,Zev K mg y.1 y.2
def Qw(r:FR):Prop:=∀(kV doc pm:au)(an:Option aC)(cdv ct:au)(us:List au),us.length=r.ps.length->mB (d6 r.x r.x (Y7 r.st) (Zy r.st) (Zg r.st) .none kV doc pm an cdv ct) ⟨us,[]⟩=cC (r.ps.zip us)
section
variable{x:bn}{st:eF}
noncomputable abbrev bA(x:bn)(st:eF)(kV doc pm:au)(an:Option aC)(cdv ct:au)(us:List au):=mB (d6 x x (Y7 st) (Zy st) (Zg st) .none kV doc pm an cdv ct) ⟨us,[]⟩
def bd1(h:∀kV doc pm an cdv ct a0,bA x st kV doc pm an cdv ct [a0]=cC ((N.take n).zip [a0]))(hl:(N.take n).length=1:=by rfl):Qw ⟨x,st,N,n⟩:=λkV doc pm an cdv ct us e=>match us,e.trans hl with|[a0],_=>h kV doc pm an cdv ct a0
def bd2(h:∀kV doc pm an cdv ct a0 a1,bA x st kV doc pm an cdv ct [a0,a1]=cC ((N.take n).zip [a0,a1]))(hl:(N.take n).length=2:=by rfl):Qw ⟨x,st,N,n⟩:=λkV doc pm an cdv ct us e=>match us,e.trans hl with|[a0,a1],_=>h kV doc pm an cdv ct a0 a1
def bd3(h:∀kV doc pm an cdv ct a0 a1 a2,bA x st kV doc pm an cdv ct [a0,a1,a2]=cC ((N.take n).zip [a0,a1,a2]))(hl:(N.take n).length=3:=by rfl):Qw ⟨x,st,N,n⟩:=λkV doc pm an cdv ct us e=>match us,e.trans hl with|[a0,a1,a2],_=>h kV doc pm an cdv ct a0 a1 a2
def bd4(h:∀kV doc pm an cdv ct a0 a1 a2 a3,bA x st kV doc pm an cdv ct [a0,a1,a2,a3]=cC ((N.take n).zip [a0,a1,a2,a3]))(hl:(N.take n).length=4:=by rfl):Qw ⟨x,st,N,n⟩:=λkV doc pm an cdv ct us e=>match us,e.trans hl with|[a0,a1,a2,a3],_=>h kV doc pm an cdv ct a0 a1 a2 a3
end
inductive FnsAt(K:ak):List FR->List aC->List cB->Prop
 |nil:FnsAt K [] [] []
 |cons {x:bn} {st:eF} {N:List bn} {n:Nat} {a:aC} {rs:List FR} {as:List aC} {fds:List cB} {oc kV dc pm cd ct:au} {od an:Option aC} {sl:Array (Option au)}
   (h1:h8 K bF x=aa (aa (.ref a))) (h2:K.lookup a=aa ⟨oc,od,.func (d6 x x (Y7 st) (Zy st) (Zg st) .none kV dc pm an cd ct),sl⟩)
   (h3:ko K cd x=aj) (h4:fW K (.ref a)=aj) (h5:Qw ⟨x,st,N,n⟩) (t:FnsAt K rs as fds) :
   FnsAt K (⟨x,st,N,n⟩::rs) (a::as) (d6 x x (Y7 st) (Zy st) (Zg st) .none kV dc pm an cd ct::fds)
inductive ZsAt(K:ak):List bn->Prop
 |nil:ZsAt K []
 |cons {x:bn} {zs:List bn} (h:h8 K bF x=aa af) (t:ZsAt K zs):ZsAt K (x::zs)
inductive GsAt(K:ak):List (bn×Gv)->Prop
 |nil:GsAt K []
 |cons {x:bn} {n:Int} {u:rS} {gs:List (bn×Gv)} (h:h8 K bF x=aa (aa (.int n u))) (t:GsAt K gs):GsAt K ((x,.int n)::gs)
 |tab {x:bn} {a:aC} {es:Array iB} {n:Nat} {tb:List (Int×Int)} {gs:List (bn×Gv)} (h:h8 K bF x=aa (aa (.ref a))) (h2:K.lookup a=aa ⟨.type "dict",af,.dict es n,#[]⟩) (h3:Sd.Xd es.toList tb) (h4:(a == dF)=al) (t:GsAt K gs):GsAt K ((x,.tab tb)::gs)
theorem GsAt.get{K:ak}{h:bX}{mg:bn->Option au}(X:K.In h)(G:h.Ns bF mg):∀{gs:List (bn×Gv)},GsAt K gs->∀y∈gs,Zev K mg y.1 y.2
 |_,.nil,x,h=>by simp at h
 |_,.cons h t,x,m=>by
  rcases az.mp m with rfl|m
  ·exact⟨_,lm X G h⟩
  ·exact t.get X G x m
 |_,.tab h h2 h3 h4 t,x,m=>by
  rcases az.mp m with rfl|m
  ·exact⟨_,λP w=>Sd.Za8 h2 h3 h4,lm X G h⟩
  ·exact t.get X G x m
theorem FnsAt.get{K:ak}{fd0:cB}:∀{fs:List FR}{as:List aC}{fds:List cB},FnsAt K fs as fds->∀i r,fs[i]?=aa r->
  h8 K bF r.x=aa (aa (.ref (as.getD i 0)))/\Fun K r.x r.x r.st (as.getD i 0) (fds.getD i fd0)/\Qw r
 |_,_,_,.nil,i,r,e=>by simp at e
 |_,_,_,.cons h1 h2 h3 h4 h5 t,0,r,e=>by
  simp at e;subst e;exact⟨h1,Zdh h2 h3 h4,h5⟩
 |_,_,_,.cons h1 h2 h3 h4 h5 t,i+1,r,e=>by
  obtain⟨a,b,c⟩:=t.get i r (by simpa using e)
  exact⟨by simpa using a,by simpa using b,c⟩
theorem ZsAt.get{K:ak}:∀{zs:List bn},ZsAt K zs->∀x∈zs,h8 K bF x=aa af
 |_,.nil,x,h=>by simp at h
 |_,.cons h t,x,m=>by
  rcases az.mp m with rfl|m
  ·exact h
  ·exact t.get x m
section
variable{X:Cx}{xw:Nat->Hp->Prop}{C:Calls}{e a b:Expr}{i j:E}{es:List Expr}{is:List E}{pos p p2 p3:eY}{fs:List FR}{zs:List bn}{gs:List (bn×Gv)}{F:List Fn}{tk sn:Nat}{f:Nat->aC}{fd:Nat->cB}{d:Nat}
def Top.no{K:ak}{mg:bn->Option au}{x:bn}(T:Top K mg fs zs gs f fd)(h:zs.contains x=aj):mg x=af:=T.z x (by simpa using h)
noncomputable def csB(sc:dQ)(N0:List bn)(scope:dQ)(N:List bn)(cap:List Nat)(nl:Nat):Bool:=
 ((N.take nl).all (λx=>ag (scope.names.lookup x=aa .local))&&(ag (N.length=nl+cap.length)&&(cap.zipIdx.all (λp=>ag (N[nl+p.2]?=N0[p.1]?)&&ag ((N0[p.1]?).map (λx=>ag ((x,bN)∈scope.names))=aa aj)) &&
  ((match scope.kind with|.function=>aj|_=>al)&&scope.names.all λy=>ag (y.2≠.cell)&&((!decide (y.2=.local)||decide (scope.names.lookup y.1=aa .local))&&(!decide (y.2=.free)||((ag (sc.names.lookup y.1=aa .cell)||decide (sc.names.lookup y.1=aa .free))&&ag (scope.names.lookup y.1≠aa .local))))))))
def ZS(h:csB sc N0 scope N cap nl=aj):CompScope sc N0 scope N cap nl:=by
 unfold csB at h;simp only[aD,i6,k8,T0,decide_eq_false_iff_not,bf]at h;obtain⟨_,h1,h2,h3,h4⟩:=h;refine⟨?_,λy hy=>(h4 y hy).1,λy hy z=>?_,λy hy z=>?_,λy hy z=>?_,h1,h2⟩
 ·cases e:scope.kind<;>rw[e]at h3<;>first|rfl|cases h3
 ·rcases(h4 y hy).2.1 with q|q
  ·exact T7 z q
  ·exact q
 ·rcases(h4 y hy).2.2 with q|q
  ·exact T7 z q
  ·exact q.1
 ·rcases(h4 y hy).2.2 with q|q
  ·exact T7 z q
  ·exact q.2
end
end Gn
namespace Sd
open PySem PySem.Spec PyProof.Rows L2
def Fly(h:bX)(e T C:aC):Prop:=
 ∃(oe:eG)(vs:Array au)(a0:au)(oT:eG)(ts:Array au),h.get? e=aa oe/\(oe.cls=.ref C/\vs[0]?=aa a0)/\oe.data=.fields vs/\vs[1]?=aa (.ref T)/\T≠e/\h.get? T=aa oT/\oT.data=.fields ts/\ts[3]?=aa .none
noncomputable def CX1(P:bq)(w:bK):CXT:=λouter H s E e s'=>
 ∃(a T C:aC)(H':Hp),e=.ref a/\s'.os=s.os/\iE s'.gens/\Un (frs outer) [] H H' s.heap s'.heap/\HOk P w H' s'.heap/\Fly s'.heap a T C/\s.heap.get? a=af/\s.heap.get? T=af/\H' a=af/\H' T=af/\E (.ref C) af H'
def Z7.there(x:Z7 P w H h a o):∃u,h.get? a=aa u:=by
 cases o with|lst xs=>obtain⟨_,_,_,_,e⟩:=x;exact⟨_,e⟩|tup xs=>obtain⟨_,_,_,_,e,_⟩:=x;exact⟨_,e⟩|dK kvs=>obtain⟨_,_,_,_,o,_,_,e,_⟩:=x;exact⟨_,e⟩|dT kvs=>obtain⟨_,_,_,_,o,_,_,e,_⟩:=x;exact⟨_,e⟩|set S n=>obtain⟨o,_,_,_,e,_⟩:=x;exact⟨_,e⟩|ins C dx fs=>obtain⟨_,_,_,e,_⟩:=x;exact⟨_,e⟩|own y=>obtain⟨_,e⟩:=x;exact⟨_,e⟩|xd fs=>obtain⟨_,⟨_,_,_,e,_⟩,_⟩:=x;exact⟨_,e⟩|rng lo hi=>obtain⟨_,_,_,e⟩:=x;exact⟨_,e⟩|frz ob u=>obtain⟨e,_⟩:=x;exact⟨_,e⟩|tbl ps=>exact⟨_,(x)⟩|met f y=>exact⟨_,(x)⟩|ext φ=>obtain⟨_,⟨_,e⟩,_⟩:=x;exact⟨_,e⟩
theorem FunFrames.rebase{h h' base base':bX}:∀{l:List Env},h.FunFrames base l->(∀b∈frs l,∀o,h.get? b=aa o->∃sl,h'.get? b=aa {o with slots:=sl})->(∀b∈frs l,base'.get? b=af)->h'.FunFrames base' l
 |[],_,_,_=>trivial
 |env::l,⟨hk,⟨L,o,hf,hn,ho,hd⟩,hr⟩,k,n=>by
  have hm:L∈frs (env::l):=by unfold frs;rw[cy,hf];exact ao ..
  obtain⟨sl,e⟩:=k L hm o ho;refine⟨hk,⟨L,_,hf,n L hm,e,hd⟩,FunFrames.rebase hr (λb hb=>k b ?_) λb hb=>n b ?_⟩
  all_goals unfold frs at hb ⊢;rw[cy,hf];exact aq _ hb
structure DefX(X:Cx)(E:XK):Prop where
 xe:X.xe=λe s'=>bc (aS X.prog X.w) X.A (leaving X.env e) (λ_ s''=>CX1 X.prog X.w X.outer X.H₀ X.s₀ E e s'') (λe' s''=>CX1 X.prog X.w X.outer X.H₀ X.s₀ E e' s'') s'
 st:X.stack=X.env::X.outer
 fr:X.env.frame=aa X.env.locals
 ex:X.ex=[]
section
variable{X:Cx}{E:XK}{pq:List (aC×eG)}{σ:L2.St}{H H':Hp}{s s':ax}
def Inv.outside(D:DefX X E)(I:Inv X pq σ H s)(un:Un (frs X.stack) [] H H' s.heap s'.heap)(hos:s'.os=s.os)(bare:iE s'.gens)(hok:HOk X.prog X.w H' s'.heap)(na:s.heap.get? a=af)(Ha:H' a=af)
   (hh:∀b∈hid,b∈frs X.stack\/(s.heap.get? b=af/\H' b=af))(st:(eJ s'.heap hid).StaysIn h')(up:s'.heap.UpToSlots h')(fl:Fly h' a T C)(hT:(eJ s'.heap hid).get? T=af)(hE:E (.ref C) af H') :
  CX1 X.prog X.w X.outer X.H₀ X.s₀ E (.ref a) {s' with heap:=h' }:=by
 have U1:=I.base;rw[D.ex]at U1;have sub:∀b∈frs X.outer,b∈frs X.stack:=λb hb=>by
  rw[D.st];unfold frs at hb ⊢;rw[cy,D.fr];exact aq _ hb
 have own:∀b o,X.s₀.heap.get? b=aa o->b∈frs X.stack->b∈frs X.outer:=λb o e hb=>by
  rw[D.st]at hb;unfold frs at hb ⊢;rw[cy,D.fr]at hb;rcases az.mp hb with z|z
  ·exact T7 (aJ e) (by rw[z];exact lG I.ok.above)
  ·exact z
 have nx:∀b:aC,b∉([]:List aC):=λb=>by simp
 have frN:∀b∈frs X.stack,H' b=af:=λb hb=>by
  obtain⟨_,o,ho,_⟩:=I.stack.mem hb;exact un.free b o ho (I.stkFree b hb) (nx b)
 have hidN:∀b∈hid,H' b=af:=λb hb=>by
  rcases hh b hb with z|z
  ·exact frN b z
  ·exact z.2
 have old:∀b o,s.heap.get? b=aa o->b∉frs X.stack->b∉hid:=λb o e hb hm=>by
  rcases hh b hm with z|z
  ·exact hb z
  ·rw[e]at z;cases z.1
 have keep:=λb u e n=>st b u (gy _ e n)
 have nof:∀b∈frs X.stack,∀o,s'.heap.get? b=aa o->∀vs,o.data≠.fields vs:=λb hb o e=>by
  obtain⟨_,o1,ho,hd⟩:=I.stack.mem hb;obtain⟨sl,e1⟩:=un.any ho (I.stkFree b hb) (nx b);rw[e]at e1;cases e1;exact hd
 have frS:=λb hb o e=>up b o e (nof b hb o e)
 have trk:∀b u,H' b=aa u->b∉hid:=λb u e hm=>by rw[hidN b hm]at e;cases e
 have hT2:∀o,s'.heap.get? T=aa o->H' T=af/\s.heap.get? T=af\/False:=λo e=>by
  by_cases hm:T∈hid
  ·rcases hh T hm with z|z
   ·obtain⟨oe,vs,a0,oT,ts,_,_,_,_,_,g1,g2,_⟩:=fl
    obtain⟨sl,e2⟩:=frS T z o e;rw[g1]at e2;cases e2;exact T7 g2 (nof T z o e ts)
   ·exact .inl ⟨z.2,z.1⟩
  ·rw[gy _ e hm]at hT;cases hT
 have there:∀b o,X.s₀.heap.get? b=aa o->∃o',s'.heap.get? b=aa o':=λb o e=>by
  obtain⟨o1,e1⟩:=U1.there b o e (nx b);exact un.there b o1 e1 (nx b)
 refine⟨a,T,C,H',rfl,hos.trans I.os,bare,⟨λb o e n hb _=>?_,λb o e n hb _=>?_,λb o e n _=>?_,λb o e _=>?_,λb xs e=>un.tups b xs (U1.tups b xs e),λb o u e=>un.frzs b o u (U1.frzs b o u e),λb ps e=>?_⟩,λc o e=>?_,fl,?_,?_,Ha,?_,hE⟩
 ·have e1:=U1.keep b o e n hb (nx b)
  have hn:b∉frs X.stack:=λz=>hb (own b o e z)
  exact keep b o (un.keep b o e1 (U1.free b o e n (nx b)) hn (nx b)) (old b o e1 hn)
 ·obtain⟨sl,e1⟩:=U1.slot b o e n hb (nx b)
  obtain⟨sl2,e2⟩:=un.slot b _ e1 (U1.free b o e n (nx b)) (sub b hb) (nx b);obtain⟨sl3,e3⟩:=frS b (sub b hb) _ e2;exact⟨sl3,e3⟩
 ·obtain⟨o1,e1⟩:=U1.there b o e (nx b)
  exact un.free b o1 e1 (U1.free b o e n (nx b)) (nx b)
 ·obtain⟨o1,e1⟩:=U1.there b o e (nx b)
  obtain⟨o2,e2⟩:=un.there b o1 e1 (nx b);by_cases hm:b∈frs X.stack
  ·obtain⟨sl,e3⟩:=frS b hm o2 e2
   exact⟨_,e3⟩
  ·exact⟨o2,keep b o2 e2 (old b o1 e1 hm)⟩
 ·obtain⟨m1,e1⟩:=U1.tbls b ps e
  obtain⟨m2,e2⟩:=un.tbls b _ e1;exact⟨m1++m2,by rw[e2,nr]⟩
 ·refine(hok c o e).stay (λb u hb q=>?_) (λ_ q=>q) λ_ _ q=>q
  rcases hb with rfl|hb
  ·exact keep _ u q (trk _ _ e)
  ·exact keep _ u q (trk _ _ hb)
 ·cases q:X.s₀.heap.get? a with
  |none=>rfl
  |some o=>
   obtain⟨o1,e1⟩:=U1.there a o q (nx a);rw[na]at e1;cases e1
 ·cases q:X.s₀.heap.get? T with
  |none=>rfl
  |some o=>
   obtain⟨o1,e1⟩:=U1.there T o q (nx T);obtain⟨o2,e2⟩:=un.there T o1 e1 (nx T);rcases hT2 o2 e2 with z|z
   ·rw[e1]at z;cases z.2
   ·exact z.elim
 ·cases q:H' T with
  |none=>rfl
  |some u=>
   obtain⟨o,e⟩:=Z7.there (hok T u q);rcases hT2 o e with z|z
   ·rw[q]at z;cases z.1
   ·exact z.elim
def Zcp(D:DefX X E):Qd (CX1 X.prog X.w) X E:=by
 rintro pq σ H s e s' I ⟨a,T,C,H',rfl,os,bare,un,hok,fly,na,nT,Ha,HT,hE⟩
 rw[D.xe];have nx:∀b:aC,b∉([]:List aC):=λb=>by simp
 have hfr:X.A.frames=aa (X.env::X.outer):=by rw[<-D.st];exact I.ok.frames
 let hid:=frs X.stack++[a,T]
 have hin:∀b∈frs X.stack,b∈hid:=λb hb=>bV _ hb
 have FF:s'.heap.FunFrames (eJ s'.heap hid) (X.env::X.outer):=by
  rw[<-D.st];exact FunFrames.rebase I.stack (λb hb o e=>un.any e (I.stkFree b hb) (nx b)) λb hb=>cZ _ (hin b hb)
 obtain⟨oe,vs,a0,oT,ts,f1,f2,f3,f4,f5,f6,f7,f8⟩:=fly;refine wpAny_leaves_onW hfr D.fr ⟨λb o e=>gM _ e,cZ _ (bh _ (ao ..)),FF,oe,vs,T,oT,ts,f1,f2,f3,f4,cZ _ (bh _ (aq _ (ao ..))),f5,f6,f7,f8⟩ λh' fl' up=>?_
 obtain⟨g1,_,_,oe',vs',T',oT',ts',e1,e2,e3,e4,e5,e6,e7,e8,e9⟩:=fl';refine Inv.outside D I un os bare hok na Ha (λb hb=>?_) g1 up ⟨oe',vs',a0,oT',ts',e1,e2,e3,e4,e6,e7,e8,e9⟩ e5 hE
 rcases cu.mp hb with z|z
 ·exact .inl z
 ·rcases az.mp z with rfl|z
  ·exact .inr ⟨na,Ha⟩
  ·rw[aU.mp z];exact .inr ⟨nT,HT⟩
end
end Sd
namespace Sd
open PySem PySem.Spec PyProof.Rows L2
open Ev (E Sm Fn Bop Cop Ty Bf Mf)
noncomputable abbrev veM:List au:=[.type "ValueError",.type "Exception",.type "BaseException",.type "object"]
structure Cls1(h:bX)(S C:aC):Prop where
 ob:∃bm N nm q bs hdct sn sub ab col dd k0 k1 k2 k3 k5 mN,h.get? C=aa (excClassObj nm q C N bs bm hdct sn sub ab col dd k0 k1 k2 k3 k5 "ValueError.__new__")/\h.Ns N mN/\mN "__init__" = af/\OwnTail h veM bm
section
variable{X:Cx}{E:XK}{S C:aC}{x:bn}{np cpos pos:eY}{e:Expr}{es:List Expr}{t:TA}
def Zdo(C:aC)(E:XK)(t:TA):TS:=λ_ σ H=>t σ H λvs H'=>vs.length<=bi/\E (.ref C) af H'
def jP(D:DefX X E)(hc:X.calm=aj)(O:Cls1 X.base S C)(hg:Gl X x)(hm:X.mg x=aa (.ref C))(ha:PA X (e::es) t)(hd:(x == ("__debug__" : bn))=al)
  (he:aE (e::es) X.env=(al,cR e X.env)::aE es X.env)(hpl:(dU cpos (aE es X.env)).any (·.1)=al) :
  PS X (.Raise (aa (.Call (.Name x np) (e::es) [] cpos)) af pos) (Zdo C E t):=by
 intro pq s σ H Dn I h;obtain⟨bm,N,nm,q,bs,hdct,sn,sub,ab,col,dd,k0,k1,k2,k3,k5,mN,hC,hN,hi,tl⟩:=O.ob;refine wpAny_Raise_call_subT (C:=C) (nm:=nm) (q:=q) (N:=N) (bs:=bs) (hdct:=hdct) (sn:=sn) (sub:=sub) (ab:=ab) (col:=col) (dd:=dd) (k0:=k0) (k1:=k1) (k2:=k2) (k3:=k3) (k5:=k5)
  PySem.F.excBase_ValueError (mN:=mN) (tl.hasType PySem.F.excBase_ValueError.hasBase) (I.ok.hd hc) (by rw[he];show(al||(dU cpos (aE es X.env)).any (·.1))=al;rw[hpl];rfl) hi (WH I hg hm ⟨rfl,?_⟩ hd)
 have ha':=ha cpos pq s σ H _ I h;rw[he]at ha' ⊢;refine Calls.evalArgs_plain (cJ ha' (λus s2 ⟨vs,H2,I2,r2,hl,hE⟩=>⟨rfl,by rw[<-r2.length];exact hl,I2.bk _ _ hC,hN.keeps I2.bk,tl.keeps I2.bk,λh' a hx=>?_⟩) λ_ _ y=>y)
 rw[D.xe];have hfr:X.A.frames=aa (X.env::X.outer):=by rw[<-D.st];exact I2.ok.frames
 let hid:=frs X.stack
 have FF:s2.heap.FunFrames (eJ s2.heap hid) (X.env::X.outer):=by
  rw[<-D.st];exact FunFrames.rebase I2.stack (λb hb o e=>⟨o.slots,e⟩) λb hb=>cZ _ hb
 have nx:∀b:aC,b∉([]:List aC):=λb=>by simp
 refine wpAny_leaves_madeW hfr D.fr (λb o e=>gM _ e) FF hx λh2 t fl _ _ up=>?_
 obtain⟨g1,_,_,oe,vs',T,oT,ts,e1,e2,e3,e4,e5,e6,e7,e8,e9⟩:=fl;have na:=hx.new;have Ha:H2 a=af:=by
  cases q:H2 a with
  |none=>rfl
  |some u=>
   obtain⟨o,e⟩:=Z7.there (I2.hok a u q);rw[na]at e;cases e
 exact Inv.outside (s':=s2) (H':=H2) D I2 (Un.kept λb o e=>e) rfl I2.bare I2.hok na Ha (λb hb=>.inl hb) g1
  ((bX.UpToSlots.of_keeps hx.keeps).trans up) (T:=T) ⟨oe,vs',.ref t,oT,ts,e1,e2,e3,e4,e6,e7,e8,e9⟩ e5 hE
variable{tj:TJ}
end
def xwE(cl:List aC)(E:XK):Nat->Hp->Prop:=λc H=>∃C,cl[c]?=aa C/\E (.ref C) af H
def End.ex_mono{α β:Type}{K:ak}{xw xw':Nat->Hp->Prop}{ρ:Mx}{H:Hp}{rep:Mx->Hp->α->β->Prop}{Q:β->Hp->Prop}{r:R α}(k:∀c H,xw c H->xw' c H)(h:End K xw rep ρ H Q r):End K xw' rep ρ H Q r:=by
 cases r with|ok d S=>exact h|ex c S=>exact λρ' H' f st=>k c H' (h ρ' H' f st)|no=>exact h
section
variable{X:Cx}{E:XK}{S C:aC}{x:bn}{np cpos pos jp p:eY}{e v1 v2:Expr}{es rest:List Expr}{xw:Nat->Hp->Prop}{cl:List aC}{Cc:Calls}{fr:Bool}{ns:List Nat}{n m:Nat}{is:List Ev.E}{i:Ev.E}
def Zam(D:DefX X E)(hc:X.calm=aj)(O:Cls1 X.base S C)(hn:cl[n]?=aa C)(hg:Gl X x)(hm:X.mg x=aa (.ref C))(hd:(x == ("__debug__" : bn))=al)
  (he:aE [.Constant (.str y) j p] X.env=(al,cR (.Constant (.str y) j p) X.env)::aE [] X.env)(hpl:(dU cpos (aE [] X.env)).any (·.1)=al) :
  CS X (xwE cl E) fr Cc ns (.Raise (aa (.Call (.Name x np) [.Constant (.str y) j p] [] cpos)) af pos) (.raise n []):=
 PS.imp (jP D hc O hg hm (Zw Gp Yj he) hd he hpl) λDn σ H ⟨ρ,H0,W,l,os,S,st,en,h⟩=>by
  refine⟨by show 1<=bi;decide,?_⟩
  have h:=h;obtain⟨C',e1,e2⟩:=h H en.fut st;rw[hn]at e1;cases e1;exact e2
def spX(K:ak)(cl:List aC)(C:Calls)(fr:Bool)(n:Nat):Sp:=λvs H Q E=>∃ρ ds S,St3 K ρ S H/\Rq ρ H ds vs/\End K (xwE cl E) (XT fr H) ρ H Q (C n ds S)
def zZ{kk:Nat}{f:aC}{fd:cB}{ps:List bn}(F:FnOk X.prog X.w X.K X.mg X.base (CX1 X.prog X.w) kk f fd ps (spX X.K cl Cc fr n))(hr:Room kk X.A)(hx:Qd (CX1 X.prog X.w) X E)(hw:∀c H,xw c H->xwE cl E c H)(hm:X.mg x=aa (.ref f))(hk:fW X.K (.ref f)=aj)(hb:VR X.K fd ps [])
  (ha:CA X xw Cc (e::es) is)(hg:Gl X x)(hdb:(x == ("__debug__" : bn))=al)(he:aE (e::es) X.env=(al,cR e X.env)::aE es X.env)(hpl:(dU pos (aE es X.env)).any (·.1)=al) :
  CE X xw Cc (.Call (.Name x p) (e::es) [] pos) (.call n is):=
 PE.imp (wK F hr hg hm hk hb .nil hx ha hdb he hpl) λσ H Q ⟨ρ,l,S,st,lr,h⟩=>
  ⟨ρ,l,S,st,lr,End.bind (h) λxs S1 ρ1 H1 vs f1 st1 r1 h1=>by
   rw[cT];exact⟨ρ1,xs,S1,st1,r1,(End.ex_mono hw h1).fr⟩⟩
end
section
variable{P:bq}{w:bK}{K:ak}{mg:bn->Option au}{base:bX}{cl:List aC}
def zT{C C':Calls}{n:Nat}{fn:Fn}{fr:Bool}{x qual:bn}{st:eF}{f:aC}{fd:cB}{N ps:List bn}{k:Nat}(hF:∀ρ S H ds vs,St3 K ρ S H->Rq ρ H ds vs->C' n ds S=.no\/C' n ds S=JS C fn ds S)(hns:fn.ns=N.length)(hps:fn.ps=ps.length)(Fu:Fun K x qual st f fd)(S:FnScope N ps (Zg st))
  (hb:∀(cdv:au)(A:bQ)(outer:List Env)(s:ax)(H:Hp)(E:XK),Room k (A.deeper (dG qual (Zg st) s.heap.objs.size f cdv))->
   CSs (XG (CX1 P w) P w K mg base N qual (Zg st) f cdv A outer s H E) (xwE cl E) fr C (Pv.muts fn.body) (Zy st) fn.body) :
  FnOk P w K mg base (CX1 P w) (k+1) f fd ps (spX K cl C' fr n):=by
 have eq:∀{ρ S H ds vs Q E},St3 K ρ S H->Rq ρ H ds vs->End K (xwE cl E) (XT fr H) ρ H Q (C' n ds S)->End K (xwE cl E) (XT fr H) ρ H Q (JS C fn ds S):=λ{ρ S H ds vs Q E} st r h=>by
  rcases hF ρ S H ds vs st r with e|e
  ·rw[e]at h;exact h.elim
  ·rw[e]at h;exact h
 obtain⟨oc,od,kV,doc,pm,an,cdv,ct,osl,rfl,lk,hcd⟩:=Fu.ex;refine Zcm lk hcd S (λvs H Q E ⟨ρ,ds,S,st,r,h⟩=>?_) λA outer s H vs Q E hr ⟨ρ,ds,S',st,r,h⟩=>⟨_,hb cdv A outer s H E hr,ρ,H,λ_=>af,Pv.ZM fn.ns ds,[],S',st,Eu.start st r N fn.ns hns,G8 (λ_ _ q=>q) (λ_ _ q=>q) (eq st r h)⟩
 have h:=eq st r h;obtain⟨hl,_⟩:=End.guard h;rw[r.length,hl,hps]
def jT :FnOk P w K mg base (CX1 P w) k f fd ps (spX K cl (Pv.Zn F tk 0) fr n):=
 ⟨λvs H Q E ⟨ρ,ds,S,st,r,h⟩=>False.elim h,λA outer s H args us vs Q E hr e0 hb r ⟨ρ,ds,S,st,r',h⟩=>False.elim h⟩
def qG{N:List bn}{qual:bn}{sc:dQ}{f:aC}{cdv:au}{A:bQ}{outer:List Env}{s:ax}{H:Hp}{E:XK}:DefX (XG (CX1 P w) P w K mg base N qual sc f cdv A outer s H E) E:=⟨rfl,rfl,rfl,rfl⟩
def ZeP :Qd (CX1 X.prog X.w) X E0:=λpq σ H s e s' I ⟨_,_,_,_,_,_,_,_,_,_,_,_,_,_,z⟩=>z.elim
end
end Sd
namespace Sd
open PySem PySem.Spec PyProof.Rows L2 PySem.W
structure ExK(K:Frag)(C:aC):Prop where
 cd:(clsIn K C).isSome=aj
 ga:rc K (.ref C) "__getattribute__" = aa (aa (.builtin "BaseException.__getattribute__"))
 gx:rc K (.ref C) "__getattr__" = aa af
 gc:rc K (.ref C) "__class__" = aa (aa (.builtin "object.__class__"))
 be:mroIn K C (.type "BaseException")=aa aj
 ob:mroIn K C (.type "object")=aa aj
section
variable{prog:bq}{w:bK}{A:bQ}{E:au->ax->Prop}{h:bX}{g:Array pI}{d:Drawn}{t:Nat}{os:OsState}{a C:aC}{o:eG}{K:Frag}
def Za9{R:oF->ax->Prop}(X:K.In h)(k:ExK K C)(hx:h.get? a=aa o)(hc:o.cls=.ref C)(hq:R (.ok (.ret (.ref C))) ⟨h,g,d,t,os⟩) :
  eC (aS prog w) A (.call (.builtin "getset_descriptor.__get__") ⟨[.builtin "object.__class__",.ref a,.ref C],[]⟩) R ⟨h,g,d,t,os⟩:=by
 have hT5:=ip;have L1:Looks (aS prog w) h (isSubtype (.ref C) (.type (".".intercalate ("object.__class__".cutAt '.').dropLast))) aj:=by
  rw[F.owner_object_class];exact looks_mroIn X k.ob
 refine iQ F.slot_gs_get.plain F.entry_gs_get (F.slot_gs_get.check _ _ _ _ _ _ _ _ hT5 (F.args_gs_get _ _ _) ?_)
 repeat(any_goals (first|assumption|(with_reducible refine fU hx ?_;rw[hc])|with_reducible refine L1.at ?_|wp_step))
 refine⟨Code.quiet_builtin _ (by decide +kernel),l7 F.entry_object_class ?_⟩
 repeat(any_goals (first|assumption|(with_reducible refine fU hx ?_;rw[hc])|wp_step))
def uf{Q:Unit->ax->Prop}(X:K.In h)(k:ExK K C)(hx:h.get? a=aa o)(hc:o.cls=.ref C)(hq:Q () ⟨h,g,d,t,os⟩) :
  bc M A (checkBuiltinCall "BaseException.__getattribute__" ⟨[.ref a,nameV],[]⟩) Q E ⟨h,g,d,t,os⟩:=by
 have hk:builtinKind "BaseException.__getattribute__" = aa .slot:=by decide +kernel
 have hsplit:splitId "BaseException.__getattribute__" = aa ("BaseException","__getattribute__"):=by decide +kernel
 have L1:Looks M h (isSubtype (.ref C) (.type "BaseException")) aj:=looks_mroIn X k.be;have ha:=F.args_bexc_ga (.ref a) nameV;simp only[checkBuiltinCall,hk,hsplit];refine ae ?_;unfold isInstance
 repeat(first|(with_reducible refine fU hx ?_;rw[hc])|with_reducible refine L1.at ?_|wp_step)
 exact hq
def vQ{Q:Fin->ax->Prop}(X:K.In h)(k:ExK K C)(hx:h.get? a=aa o)(hc:o.cls=.ref C)(hq:Q (.done (.ret (.ref C))) ⟨h,g,d,t,os⟩) :
  bc (aS prog w) A (eD.«object.__getattribute__» ⟨[.ref a,.str "__class__" tk],[]⟩) Q E ⟨h,g,d,t,os⟩:=by
 have hT5:=ip;have f5:=ip;have f6:=F.slot_gs_get.lookup;have f7:=F.slot_gs_set.lookup;have L1:Looks (aS prog w) h (ky (.ref C) "__class__") (aa (.builtin "object.__class__")):=ow X k.gc
 repeat(any_goals (first|assumption|(with_reducible refine fU hx ?_;rw[hc])|with_reducible refine L1.at ?_|wp_step))
 refine Za9 X k hx hc ?_
 repeat(any_goals (first|assumption|wp_step))
def Zdu{Q:au->ax->Prop}(X:K.In h)(k:ExK K C)(hx:h.get? a=aa o)(hc:o.cls=.ref C)(hq:Q (.ref C) ⟨h,g,d,t,os⟩) :
  bc (aS prog w) A (getAttrBy (.ref a) (.str "__class__" tk) al) Q E ⟨h,g,d,t,os⟩:=by
 have f3:=PySem.F.excAttr_ValueError.ga.bind (.ref a);have hx2:(ln "BaseException.__getattribute__" == ln "object.__getattribute__")=al:=by decide +kernel
 have hx1:(onTheHeap (cU C)&&ln "BaseException.__getattribute__" == ln "object.__getattribute__")=al:=by rw[hx2];rfl
 have L1:Looks (aS prog w) h (ky (.ref C) "__getattribute__") (aa (.builtin "BaseException.__getattribute__")):=ow X k.ga;have L2:Looks (aS prog w) h (ky (.ref C) "__getattr__") af:=ow X k.gx
 repeat(any_goals (first|assumption|(with_reducible refine fU hx ?_;rw[hc])|with_reducible refine L1.at ?_|with_reducible refine L2.at ?_|wp_step))
 refine iQ PySem.F.excAttr_ValueError.ga.plain F.entry_bexc_ga (uf X k hx hc (vQ X k hx hc ?_))
 repeat(any_goals (first|assumption|wp_step))
def uJ{Q:Option au->ax->Prop}(X:K.In h)(k:ExK K C)(hx:h.get? a=aa o)(hc:o.cls=.ref C)(hq:Q (aa (.ref C)) ⟨h,g,d,t+1,os⟩) :
  bc (aS prog w) A (pY (.ref a) "__class__") Q E ⟨h,g,d,t,os⟩:=by
 unfold pY getAttrBy?
 repeat(any_goals (first|assumption|with_reducible apply Zdu X k hx hc|wp_step))
end
def qE{K:Frag}{a C:aC}(k:ExK K C):KitX K (.ref a) (.ref C) (λh=>∃o,h.get? a=aa o/\o.cls=.ref C) where
 ty:=λ_ _ _ ⟨o,hx,hc⟩=>hc▸(Looks.ld hx).andThen .now
 it:=λ_ _ X _=>by
  have hcD:=k.cd;unfold clsIn at hcD;split at hcD
  ·rename_i c' d' cd' sl' ho
   intro A' Q' E' s' kk q;exact ae (wpAny_loadPart (kk _ _ (X _ _ ho)) (aA q))
  ·cases hcD
 ne:=λh tp dd its n sl X htp=>by
  have hcD:=k.cd;refine Bool.eq_false_iff.mpr λq=>?_
  have e:=cU.inj (beq_iff_eq.mp q);subst e;unfold clsIn at hcD;split at hcD
  ·rename_i c' d' cd' sl' ho
   have z:=(X _ _ ho).symm.trans htp;cases z
  ·cases hcD
 ca:=λ{_ _ _ _ _ s} X ⟨o,hx,hc⟩ q=>by obtain⟨h,g,d,t,os⟩:=s;exact uJ X k hx hc q
end Sd
namespace Sd
open PySem PySem.Spec PyProof.Rows L2
section
variable{X:Cx}{E:XK}{pq:List (aC×eG)}{σ:L2.St}{H:Hp}{s:ax}
def Inv.slots(D:DefX X E)(I:L2.Inv X pq σ H s)(hh:∀b∈hid,b∈frs X.stack\/(X.s₀.heap.get? b=af/\H b=af/\∀p∈X.pn++pq,p.1≠b))
  (st:(eJ s.heap hid).StaysIn h')(up:s.heap.UpToSlots h'):L2.Inv X pq σ H {s with heap:=h' }:=by
 have keep:=λb u e n=>st b u (gy _ e n)
 have nof:∀b∈frs X.stack,∀o,s.heap.get? b=aa o->∀vs,o.data≠.fields vs:=λb hb o e=>by
  obtain⟨_,o1,ho,hd⟩:=I.stack.mem hb;rw[e]at ho;cases ho;exact hd
 have frS:=λb hb o e=>up b o e (nof b hb o e)
 have frH:=I.stkFree;have sub:∀b∈X.fs,b∈frs X.stack:=λb hb=>by
  change b∈frs X.outer at hb
  rw[D.st];unfold frs at hb ⊢;rw[cy,D.fr];exact aq _ hb
 have own:∀b o,X.s₀.heap.get? b=aa o->b∈frs X.stack->b∈X.fs:=λb o e hb=>by
  rw[D.st]at hb;show b∈frs X.outer;unfold frs at hb ⊢;rw[cy,D.fr]at hb;rcases az.mp hb with z|z
  ·exact T7 (aJ e) (by rw[z];exact lG I.ok.above)
  ·exact z
 have hidN:∀b∈hid,H b=af:=λb hb=>(hh b hb).elim (frH b) λz=>z.2.1
 have old:∀b o,X.s₀.heap.get? b=aa o->b∉X.fs->b∉hid:=λb o e hb hm=>by
  rcases hh b hm with z|z
  ·exact hb (own b o e z)
  ·rw[e]at z;cases z.1
 have U:=I.base;refine⟨I.ok,I.os,I.bare,⟨λb o e n hb hx=>keep b o (U.keep b o e n hb hx) (old b o e hb),λb o e n hb hx=>?_,U.free,λb o e hx=>?_,U.tups,U.frzs,U.tbls⟩,?_,λy c e=>?_,I.free,I.freeC,λp hp=>?_,λc o e=>?_,I.len⟩
 ·obtain⟨sl,e1⟩:=U.slot b o e n hb hx
  obtain⟨sl2,e2⟩:=frS b (sub b hb) _ e1;exact⟨sl2,e2⟩
 ·obtain⟨o1,e1⟩:=U.there b o e hx
  by_cases hm:b∈frs X.stack
  ·obtain⟨sl,e2⟩:=frS b hm o1 e1
   exact⟨_,e2⟩
  ·refine⟨o1,keep b o1 e1 λz=>?_⟩
   rcases hh b z with q|q
   ·exact hm q
   ·rw[e]at q;cases q.1
 ·obtain⟨m,hn,hl⟩:=I.loc
  refine⟨m,up.ns hn,λi x v e1 e2 e3=>?_⟩
  obtain⟨u,r,q⟩:=hl i x v e1 e2 e3;refine⟨u,r,?_⟩;rcases q with q|⟨k,c,e,z⟩
  ·exact .inl q
  ·refine .inr ⟨k,c,e,?_⟩
   obtain⟨o,ho,hd⟩:=z;obtain⟨sl,e2⟩:=up c o ho λvs q=>by rw[hd]at q;cases q
   exact⟨_,e2,hd⟩
 ·obtain⟨v,o,ho,hd⟩:=I.cell y c e
  obtain⟨sl,e2⟩:=up c o ho λvs q=>by rw[hd]at q;cases q
  exact⟨v,_,e2,hd⟩
 ·obtain⟨e,n,ne,nf,d⟩:=I.pin p hp
  refine⟨keep _ _ e λz=>?_,n,ne,nf,d⟩
  rcases hh p.1 z with q|q
  ·rw[D.st]at q;unfold frs at q;rw[cy,D.fr]at q
   rcases az.mp q with q|q
   ·exact ne q
   ·exact nf q
  ·exact q.2.2 p hp rfl
 ·refine(I.hok c o e).stay (λb u hb q=>?_) (λ_ q=>q) λ_ _ q=>q
  have nh:∀b u,H b=aa u->b∉hid:=λb u e hm=>by rw[hidN b hm]at e;cases e
  rcases hb with rfl|hb
  ·exact keep _ u q (nh _ _ e)
  ·exact keep _ u q (nh _ _ hb)
def Inv.freeze(I:L2.Inv X pq σ H s)(ha:s.heap.get? a=aa o)(Ha:H a=af)(n0:X.s₀.heap.get? a=af)(hl:a≠X.env.locals)(hc:∀x c,X.env.cells.lookup x=aa c->c≠a)(hp:∀p∈X.pn++pq,p.1≠a) :
  L2.Inv X pq σ (upd H a (.frz o (.own a))) s:=by
 have nu:∀b u,H b=aa u->upd H a (.frz o (.own a)) b=aa u:=λb u e=>by rw[Zi (λz=>by rw[z,Ha]at e;cases e)];exact e
 have nn:∀b,b≠a->H b=af->upd H a (.frz o (.own a)) b=af:=λb z e=>by rw[Zi z];exact e
 have U:=I.base;refine⟨I.ok,I.os,I.bare,⟨U.keep,U.slot,λb o e n hx=>nn b (λz=>by rw[z,n0]at e;cases e) (U.free b o e n hx),U.there,λb xs e=>nu _ _ (U.tups b xs e),λb o u e=>nu _ _ (U.frzs b o u e),λb ps e=>?_⟩,I.loc,I.cell,nn _ (Ne.symm hl) I.free,λx c e=>nn _ (hc x c e) (I.freeC x c e),λp hp'=>?_,λc u e=>?_,I.len⟩
 ·obtain⟨more,e1⟩:=U.tbls b ps e
  exact⟨more,nu _ _ e1⟩
 ·obtain⟨e,n,r⟩:=I.pin p hp'
  exact⟨e,nn _ (hp p hp') n,r⟩
 ·by_cases z:c=a
  ·subst z
   rw[Zk]at e;cases e;exact⟨ha,_,ha⟩
  ·rw[Zi z]at e
   exact(I.hok c u e).stay (λb v hb q=>q) (λ_ q=>nu _ _ q) λ_ _ q=>nu _ _ q
def ZbT{E:au->ax->Prop}{Q:Unit->ax->Prop}(I:L2.Inv X pq σ H s)(hN:X.N.Nodup)(hi:X.N[i]?=aa n)(hk:X.env.kindOf n=aa .local)
  (h:∀s',L2.Inv X pq (σ.set i af) H s'->Q () s'):bc M A (do bindName X.env n .none;unbindBehindTheSuite X.env n pos) Q E s:=by
 obtain⟨m,hn,hl⟩:=id I.loc;have hcls:(X.env.scope.kind == .class||(X.env.scope.kind == .module&&X.env.locals != X.env.globals))=al:=by rw[I.ok.kind];rfl
 have hiσ:i<σ.length:=by rw[I.len];exact(aG.mp hi).1
 refine wpAny_nameGoes_keeps hk hn hcls λh' v hn' hs=>?_
 obtain⟨oL,_,_,hoL,_⟩:=id hn;have ab:∀b o,X.s₀.heap.get? b=aa o->b≠X.env.locals:=λb o e=>br (bu (aJ e) I.ok.above)
 have U:=I.base;refine h _ ⟨I.ok,I.os,I.bare,⟨λb o e n hb hx=>(hs.2 b (ab b o e)).trans (U.keep b o e n hb hx),λb o e n hb hx=>?_,U.free,λb o e hx=>?_,U.tups,U.frzs,U.tbls⟩,⟨_,hn',λj y v' e1 e2 e3=>?_⟩,λy c e=>?_,I.free,I.freeC,λp hp=>?_,λc o e=>?_,by simpa using I.len⟩
 ·obtain⟨sl,e1⟩:=U.slot b o e n hb hx
  exact⟨sl,(hs.2 b (ab b o e)).trans e1⟩
 ·obtain⟨o',e1⟩:=U.there b o e hx
  exact⟨o',(hs.2 b (ab b o e)).trans e1⟩
 ·by_cases hj:j=i
  ·subst hj
   rw[bg hiσ]at e2;cases e2
  ·rw[ba (Ne.symm hj)]at e2
   obtain⟨u',r',q⟩:=hl j y v' e1 e2 e3;refine⟨u',r',?_⟩;rcases q with⟨k,e⟩|⟨k,c,e,z⟩
   ·refine .inl ⟨k,?_⟩
    have:y≠n:=λe=>hj (UK hN e1 (e▸hi))
    simp[this,e]
   ·exact .inr ⟨k,c,e,z.sameBut hs (I.cne y c e)⟩
 ·obtain⟨w',z⟩:=I.cell y c e
  exact⟨w',z.sameBut hs (I.cne y c e)⟩
 ·obtain⟨e,n,ne,nf,d⟩:=I.pin p hp
  exact⟨(hs.2 p.1 ne).trans e,n,ne,nf,d⟩
 ·refine(I.hok c o e).stay (λb u hb q=>(hs.2 b λz=>?_).trans q) (λ_ q=>q) λ_ _ q=>q
  subst z;rcases hb with rfl|hb
  ·rw[I.free]at e;cases e
  ·rw[I.free]at hb;cases hb
end
section
variable{X:Cx}{E:XK}{pq:List (aC×eG)}{σ:L2.St}{H:Hp}{s:ax}
noncomputable abbrev Cx.held(X:Cx)(a:aC):Cx:={X with A:=X.A.mark (aa (.ref a)),calm:=al,xe:=λ_ _=>False}
theorem Inv.held(I:L2.Inv X pq σ H s):L2.Inv (Cx.held X a) pq σ H s:=
 ⟨⟨I.ok.mod,I.ok.kind,I.ok.glob,I.ok.blt,I.ok.above,I.ok.inj,I.ok.has,I.ok.cab,(λz=>by cases z),I.ok.frames,I.ok.stk,I.ok.exf,I.ok.bs,I.ok.bsz,I.ok.noex,I.ok.exfs,I.ok.funs,I.ok.frf⟩,I.os,I.bare,I.base,I.loc,I.cell,I.free,I.freeC,I.pin,I.hok,I.len⟩
def Inv.unheld(ok:X.Ok)(I:L2.Inv (Cx.held X a) pq σ H s):L2.Inv X pq σ H s:=
 ⟨ok,I.os,I.bare,I.base,I.loc,I.cell,I.free,I.freeC,I.pin,I.hok,I.len⟩
def Zdr{M:Model}{A:bQ}{E:au->ax->Prop}{i:Nat}{x:bn}{pos:eY}{v:V}{Q:au->ax->Prop}(I:L2.Inv X pq σ H s)(hi:X.N[i]?=aa x)(hv:Vis X.env.scope x)(e:σ[i]?=aa (aa v))(h:∀u,Zu v u->Q u s)
  (hd:(x == ("__debug__" : bn))=al)(hcd:(x == ("__classdict__" : bn))=al):bc M A (cR (.Name x pos) X.env) Q E s:=by
 obtain⟨m,hn,hl⟩:=I.loc;obtain⟨u,r,l⟩:=hl i x v hi e hv;rcases l with⟨hk,hm⟩|⟨hk,c,hc,hcell⟩
 ·exact km (mv I.ok.kind hk hn hm (h u r)) hd
 ·rcases hk with hk|hk
  ·exact km (mU I.ok.kind hk hc hcell (h u r)) hd
  ·exact km (mV I.ok.kind hk hc hcell (h u r) hcd) hd
def Za4{Dn:Ends}{E1:XK}{g S:aC}{ic ie ir:Nat}{xc n xr xS:bn}{p1 p2 p3 p4 p5 p6 p7 p8 p9:eY}(D:DefX X E)(I:L2.Inv X pq σ H s)(hN:X.N.Nodup)
  (hic:X.N[ic]?=aa xc)(hvc:Vis X.env.scope xc)(hsc:σ[ic]?=aa (aa (.ref g)))(hie:X.N[ie]?=aa n)(hke:X.env.scope.names.lookup n=aa .local)(hir:X.N[ir]?=aa xr)(hlr:X.env.scope.names.lookup xr=aa .local)
  (hgS:Gl X xS)(hmS:X.mg xS=aa (.ref S))(hg:PySem.W.FnAt g s.heap)
  (run:eC (aS X.prog X.w) X.A (.call (.ref g) ⟨[],[]⟩) (CR (CX1 X.prog X.w) X.stack X.prog X.w H s (λ_ H'=>Dn.nx σ H') E1) s)
  (hE1:∀C H',E1 (.ref C) af H'->re X.K (.ref C) (.ref S)=aa aj/\∀a oe,H' a=af->oe.cls=.ref C->Dn.nx (((σ.set ie (aa (.ref a))).set ir (aa (.ref a))).set ie af) (upd H' a (.frz oe (.own a))))
  (hd1:(xc == ("__debug__" : bn))=al)(hd2:(xc == ("__classdict__" : bn))=al)(hd3:(n == ("__debug__" : bn))=al)(hd4:(n == ("__classdict__" : bn))=al)(hd5:(xS == ("__debug__" : bn))=al)
  (hs1:eK (.Call (.Name xc p1) [] [] p2) af p3.line X.env=cC al)(hs2:eK (.Name n p6) (aa (.Name xr p5)) p7.line X.env=cC al) :
  bc (aS X.prog X.w) X.A (exec (.Try [.Expr (.Call (.Name xc p1) [] [] p2) p3] [.ExceptHandler (aa (.Name xS p4)) (aa n) [.Assign [.Name xr p5] (.Name n p6) p7] p8] [] [] p9) X.env) (SP X pq Dn) X.xe s:=by
 refine wpAny_Try_except (gf (wpAny_Expr_any ?_ I.quiet hs1));refine fu ?_;refine Zdr I hic hvc hsc (λu r=>?_) hd1 hd2
 obtain rfl:u=cU g:=r;refine PySem.W.callWith_F0 hg (pK (kh run λr s' hq=>?_))
 cases r with
 |ok fl=>
  cases fl with
  |ret u=>
   obtain⟨v,H',I',r',q'⟩:=I.after hq;exact gJ (gJ ⟨σ,H',I',q'⟩)
  |next=>exact False.elim hq
  |brk=>exact False.elim hq
  |cont=>exact False.elim hq
 |error e=>
  obtain⟨a,T,C,H',rfl,os,bare,un,hok,fly,na,nT,Ha,HT,hE⟩:=hq;obtain⟨exm,fin⟩:=hE1 C H' hE;have nx:∀b:aC,b∉([]:List aC):=λb=>by simp
  have hfr:X.A.frames=aa (X.env::X.outer):=by rw[<-D.st];exact I.ok.frames
  have I1:L2.Inv X pq σ H' s':=by
   obtain⟨hh,gg,d,t,os'⟩:=s';obtain rfl:os'=s.os:=os;exact I.call (h':=hh) (g':=gg) (d':=d) (t':=t) (ch:=[]) un hok bare (λb z=>T7 z (by simp))
  let hid:=frs X.stack++[a,T]
  have hin:∀b∈frs X.stack,b∈hid:=λb hb=>bV _ hb
  have old0:∀b,s.heap.get? b=af->X.s₀.heap.get? b=af:=λb e=>by
   cases q:X.s₀.heap.get? b with
   |none=>rfl
   |some o=>
    have U1:=I.base;rw[D.ex]at U1;obtain⟨o1,e1⟩:=U1.there b o q (nx b);rw[e]at e1;cases e1
  have pn:∀b,s.heap.get? b=af->∀p∈X.pn++pq,p.1≠b:=λb e p hp z=>by
   have:=(I.pin p hp).1;rw[z,e]at this;cases this
  have hhid:∀b∈hid,b∈frs X.stack\/(X.s₀.heap.get? b=af/\H' b=af/\∀p∈X.pn++pq,p.1≠b):=λb hb=>by
   rcases cu.mp hb with z|z
   ·exact .inl z
   ·rcases az.mp z with rfl|z
    ·exact .inr ⟨old0 _ na,Ha,pn _ na⟩
    ·rw[aU.mp z];exact .inr ⟨old0 _ nT,HT,pn _ nT⟩
  have FF:s'.heap.FunFrames (eJ s'.heap hid) (X.env::X.outer):=by
   rw[<-D.st];exact FunFrames.rebase I1.stack (λb hb o e=>⟨o.slots,e⟩) λb hb=>cZ _ (hin b hb)
  obtain⟨oe,vs,a0,oT,ts,f1,f2,f3,f4,f5,f6,f7,f8⟩:=fly;refine wpAny_looks_onW hfr D.fr (cls:=.ref C) (a0:=a0) (e:=a) ⟨λb o e=>gM _ e,cZ _ (bh _ (ao ..)),FF,oe,vs,T,oT,ts,f1,f2,f3,f4,cZ _ (bh _ (aq _ (ao ..))),f5,f6,f7,f8⟩ λh1 held up1=>?_
  refine wpAny_landsW held λh2 fly2 up2=>?_
  have I2:=Inv.slots D I1 hhid fly2.1 (up1.trans up2)
  obtain⟨oe2,ge2,ce2⟩:=fly2.there;have K2:=I2.kIn;refine wpAny_handleBy_cons (codeAny_handlers_test (WH (X:=Cx.held X a) (Inv.held I2) hgS hmS ?_ hd5)) (by intro q;cases q)
  refine(PySem.W.exm_one (h:=h2) K2 (ce2▸(PySem.W.Looks.ld ge2).andThen .now) exm).here ?_;refine codeAny_handlers_suite_as ?_;obtain⟨k1,k2,k3,k4⟩:=fly2;refine wpAny_setFlight_noneW k1 k3 k4 λh3 m1 m2 m3 m4=>?_
  have I3:=Inv.slots D I1 hhid m1 ((up1.trans up2).trans λb o e hn=>⟨o.slots,m4 b o e hn⟩)
  obtain⟨oe3,vs3,T3,oT3,ts3,ge3,⟨ce3,_⟩,de3,_⟩:=m3;have I4:=Inv.freeze I3 ge3 Ha (old0 _ na)
   (λz=>by
    obtain⟨m,⟨o,es,ep,ho,hd,_⟩,_⟩:=I3.loc;have e1:=ho;rw[<-z,ge3]at e1;cases e1;rw[de3]at hd;cases hd)
   (λx c e z=>by
    obtain⟨v,o,ho,hd⟩:=I3.cell x c e;have e1:h3.get? c=aa o:=ho;rw[z,ge3]at e1;cases e1;rw[de3]at hd;cases hd) (pn _ na)
  refine XH (X:=X) I4 hN hie (.inl hke) (v:=.ref a) rfl (λs4 I5=>?_) (.inr hke)
  have hiσ:ie<σ.length:=by rw[I.len];exact(aG.mp hie).1
  refine cJ ((WN (Vq (X:=Cx.held X a) (pos:=p7) (pos':=p5) hN hir (.inl hlr) (Yk (pos:=p6) hie (.inl hke) hd3 hd4) hs2 (.inr hlr))) pq s4 _ _
   {nx:=λσ' H1=>σ'=(σ.set ie (aa (.ref a))).set ir (aa (.ref a))/\H1=upd H' a (.frz oe3 (.own a)),rt:=λ_ _=>False} (Inv.held I5) ⟨.ref a,bg hiσ,rfl,rfl⟩) (λf s5 hsp=>?_) λ_ _ z=>False.elim z
  cases f with
  |next=>
   obtain⟨σ',H1,J,rfl,rfl⟩:=hsp;exact ZbT (Inv.unheld I.ok J) hN hie hke λs6 I6=>⟨_,_,I6,fin a oe3 Ha ce3⟩
  |ret u=>obtain⟨_,_,_,_,_,z⟩:=hsp;exact z.elim
  |brk=>obtain⟨_,_,_,z⟩:=hsp;exact False.elim z
  |cont=>obtain⟨_,_,_,z⟩:=hsp;exact False.elim z
end
end Sd
namespace Sd
open PySem PySem.Spec PyProof.Rows L2
open Ev (E Sm Fn Bop Cop Ty Bf Mf)
structure Gr(H H':Hp):Prop where
 k:∀b u,H b=aa u->(∀ps,u≠.tbl ps)->H' b=aa u
 t:∀b ps,H b=aa (.tbl ps)->∃qs,H' b=aa (.tbl qs)
def Gr.fut(g:Gr H H'):Fut ρ H ρ H':=⟨rfl,λa o e=>by
 cases o with
 |tbl ps=>exact .inr (.inr ⟨⟨ps,rfl⟩,g.t a ps e⟩)
 |_=>exact .inl (g.k a _ e λps z=>by cases z)⟩
def St3.grow{K:ak}{ρ:Mx}{S:Zr}{H H':Hp}(st:St3 K ρ S H)(g:Gr H H')(tb:Tb H'):St3 K ρ S H':=
 ⟨st.hk,λa x=>by
  obtain⟨o,e⟩:=kA.mp (st.xd a x);rcases(g.fut).keep a o e with q|⟨h,_⟩|⟨_,_,q⟩
  ·rw[q];intro z;cases z
  ·rw[g.k a _ (st.dw a h).1 λps z=>by cases z];intro z;cases z
  ·rw[q];exact Option.some_ne_none _,λa h=>⟨g.k a _ (st.dw a h).1 λps z=>(by cases z),(st.dw a h).2⟩,tb⟩
def yn(l:List au)(h:oI l)(e:kl q (l++[gA a,gA b,c])=aa cv):kl q l=aa cv\/cv=c:=by
 fun_induction oI l with
 |case1=>
  simp only[eM,kl,gA]at e;split at e
  ·cases e;exact .inr rfl
  ·cases e
 |case2 a' t b' u x rest ih=>
  simp only[lB,kl]at e ⊢;split at e
  ·rename_i z;rw[T9 z];exact .inl e
  ·rename_i z;rw[T8 z];exact ih h e
 |case3 l h1 h2=>exact h.elim
section
variable{X:Cx}{E:au->ax->Prop}{pq:List (aC×eG)}{σ:L2.St}{H:Hp}{s:ax}
theorem Inv.grow(I:L2.Inv X pq σ H s){h':bX}{tk:rS}{P:aC}{ps more:Array au}(hP:H P=aa (.tbl ps))(hx:fZ P s.heap h')(hT:h'.get? P=aa {cls:=.none,data:=.fields (ps++more)}){new:List (aC×eG)}
  (hn:∀p∈new,s.heap.objs.size<=p.1/\h'.get? p.1=aa p.2)(nd:(new.map (·.1)).Nodup) :
  let H':=new.foldl (λG p=>upd G p.1 (.frz p.2 (.own p.1))) (upd H P (.tbl (ps++more)))
  L2.Inv X pq σ H' {s with heap:=h',toks:=tk}/\Gr H H'/\(∀p∈new,H' p.1=aa (.frz p.2 (.own p.1)))/\H' P=aa (.tbl (ps++more))/\∀b qs,H' b=aa (.tbl qs)->(b=P/\qs=ps++more)\/H b=aa (.tbl qs):=by
 intro H';have hPs:=Z7.lt (I.hok P _ hP);have H0:∀b,(∀p∈new,p.1≠b)->H' b=upd H P (.tbl (ps++more)) b:=by
  have gen:∀(l:List (aC×eG))(G:Hp)(b:aC),(∀p∈l,p.1≠b)->l.foldl (λG p=>upd G p.1 (.frz p.2 (.own p.1))) G b=G b:=by
   intro l
   induction l with
   |nil=>intro G b _;rfl
   |cons p l ih=>
    intro G b h;rw[eL,ih _ b λq hq=>h q (aq _ hq),Zi (Ne.symm (h p (ao ..)))]
  exact λb h=>gen new _ b h
 have H1:∀p∈new,H' p.1=aa (.frz p.2 (.own p.1)):=by
  have gen:∀(l:List (aC×eG))(G:Hp),(l.map (·.1)).Nodup->∀p∈l,l.foldl (λG p=>upd G p.1 (.frz p.2 (.own p.1))) G p.1=aa (.frz p.2 (.own p.1)):=by
   intro l
   induction l with
   |nil=>intro G _ p hp;simp at hp
   |cons q l ih=>
    intro G hd p hp;rw[aW,c8]at hd;rw[eL];rcases az.mp hp with rfl|hp
    ·have rest:∀(l:List (aC×eG))(G:Hp)(b:aC),b∉l.map (·.1)->l.foldl (λG p=>upd G p.1 (.frz p.2 (.own p.1))) G b=G b:=by
      intro l
      induction l with
      |nil=>intro G b _;rfl
      |cons p l ih=>
       intro G b h;rw[aW,az,not_or]at h;rw[eL,ih _ b h.2,Zi h.1]
     rw[rest l _ _ hd.1,Zk]
    ·exact ih _ hd.2 p hp
  exact gen new _ nd
 have new0:∀b,b<s.heap.objs.size->∀p∈new,p.1≠b:=λb hb p hp z=>by have q:=(hn p hp).1;rw[z]at q;lia
 have old:∀b u,H b=aa u->b≠P->H' b=aa u:=λb u e z=>by
  rw[H0 b (new0 b (Z7.lt (I.hok b u e))),Zi z];exact e
 have HP:H' P=aa (.tbl (ps++more)):=by rw[H0 P (new0 P hPs),Zk]
 have cases':∀b u,H' b=aa u->(∃p∈new,p.1=b/\u=.frz p.2 (.own p.1))\/(b=P/\u=.tbl (ps++more))\/(b≠P/\H b=aa u):=λb u e=>by
  by_cases q:∃p∈new,p.1=b
  ·obtain⟨p,hp,rfl⟩:=q
   rw[H1 p hp]at e;cases e;exact .inl ⟨p,hp,rfl,rfl⟩
  ·rw[H0 b λp hp z=>q ⟨p,hp,z⟩]at e
   by_cases z:b=P
   ·subst z;rw[Zk]at e;cases e;exact .inr (.inl ⟨rfl,rfl⟩)
   ·rw[Zi z]at e;exact .inr (.inr ⟨z,e⟩)
 have gr:Gr H H':=⟨λb u e n=>old b u e λz=>(by rw[z,hP]at e;cases e;exact n ps rfl),λb qs e=>by
  by_cases z:b=P
  ·subst z;exact⟨_,HP⟩
  ·exact⟨qs,old b _ e z⟩⟩
 refine⟨I.un ⟨λb o e n _ _=>hx b o (λz=>by rw[z,hP]at n;cases n) e,λb o e n _ _=>⟨o.slots,hx b o (λz=>by rw[z,hP]at n;cases n) e⟩,λb o e n _=>?_,λb o e _=>?_,λb xs e=>gr.k b _ e (λps z=>by cases z),λb o u e=>gr.k b _ e (λps z=>by cases z),λb qs e=>?_⟩ λb u e=>?_,gr,H1,HP,λb qs e=>?_⟩
 ·rw[H0 b (new0 b (aJ e)),Zi (λz=>by rw[z,hP]at n;cases n)];exact n
 ·by_cases z:b=P
  ·subst z;exact⟨_,hT⟩
  ·exact⟨o,hx b o z e⟩
 ·by_cases z:b=P
  ·subst z;rw[hP]at e;cases e;exact⟨more,HP⟩
  ·exact⟨#[],by rw[old b _ e z];simp⟩
 ·rcases cases' b u e with⟨p,hp,rfl,rfl⟩|⟨rfl,rfl⟩|⟨z,e0⟩
  ·exact⟨(hn p hp).2,_,(hn p hp).2⟩
  ·exact hT
  ·refine(I.hok b u e0).stay (λc v hc q=>hx c v ?_ q) (λc q=>gr.k c _ q λps z=>by cases z) λc xs q=>gr.k c _ q λps z=>by cases z
   rcases hc with rfl|hc
   ·exact z
   ·intro y;rw[y,hP]at hc;cases hc
 ·rcases cases' b _ e with⟨p,hp,rfl,z⟩|⟨rfl,z⟩|⟨z,e0⟩
  ·cases z
  ·cases z;exact .inl ⟨rfl,rfl⟩
  ·exact .inr e0
def Tb.grow(tb:Tb H)(g:Gr H H')(hb:∀b rs,H' b=aa (.tbl rs)->(b=P/\rs=qs)\/H b=aa (.tbl rs))(ht:oI qs.toList)
  (hc:∀pos cv,kl pos qs.toList=aa cv->∃(c:aC)(oc:eG)(vs:Array au)(t:rS),cv=.ref c/\H' c=aa (.frz oc (.own c))/\oc.data=.fields vs/\vs[1]?=aa (.str YD t)):Tb H':=λb rs e=>by
 rcases hb b rs e with⟨_,rfl⟩|e0
 ·exact⟨ht,hc⟩
 ·obtain⟨h1,h2⟩:=tb b rs e0
  refine⟨h1,λpos cv q=>?_⟩
  obtain⟨c,oc,vs,t,e1,e2,e3⟩:=h2 pos cv q;exact⟨c,oc,vs,t,e1,g.k c _ e2 (λps z=>by cases z),e3⟩
def jI{P c:aC}{ps:Array au}{params:oG}{body:Expr}{scope:dQ}{pos:eY}{clos:List (bn×aC)}{Q:au->ax->Prop}(I:L2.Inv X pq σ H s)(tb:Tb H)(hP:H P=aa (.tbl ps))(hcode:X.env.code=.ref c)(C:dv X.base c P)(hB:X.base.BuiltinsAt X.mg P)(hgP:bF≠P)
  (hq:X.env.qual++"<lambda>" = YD)(hcl:iA scope X.env=cC clos)(hdef:defaultsOf params X.env=([],[]))
  (h:∀(g c':aC)(oc:eG)(vs:Array au)(t:rS)(pm ctv:au)(H':Hp)(s':ax),L2.Inv X pq σ H' s'->Gr H H'->Tb H'->(∃ps',H' P=aa (.tbl ps'))->H' g=aa (.frz (fH "<lambda>" YD params body scope clos pm c' ctv) (.own g))->
   H' c'=aa (.frz oc (.own c'))->oc.data=.fields vs->vs[1]?=aa (.str YD t)->Q (.ref g) s') :
  bc (aS X.prog X.w) X.A (cR (.Lambda params body scope pos) X.env) Q E s:=by
 refine PySem.W.kla_eval hdef ?_;rw[hq];have hPo:=I.hok P _ hP;obtain⟨ht,hcs⟩:=tb P ps hP;have hg:=I.ok.mod.glob.keeps I.bk;have hBs:s.heap.BuiltinsAt X.mg P:=by
  obtain⟨bm,o,b1,b2,b3,b4,b5,b6⟩:=hB;exact⟨bm,o,b1,b2,b3,b4,I.bk _ _ b5,b6⟩
 cases q:kl pos ps.toList with
 |some cv=>
  obtain⟨c',oc,vs,t,rfl,e2,e3,e4⟩:=hcs pos cv q;refine PySem.W.kla_makeFunctionHit hcl I.ok.glob hg hcode (C.keeps I.bk) hPo ht q hBs λctv h' tk hk hz=>?_
  have kp:∀b o,s.heap.get? b=aa o->(h'.push (fH "<lambda>" YD params body scope clos ((X.mg "__name__").getD .none) c' ctv)).get? b=aa o:=λb o e=>aw _ (hk b o e)
  obtain⟨I',gr,n1,hP',tbs⟩:=Inv.grow I hP (λb o _ e=>kp b o e) (by rw[kN];exact kp _ _ hPo)
   (new:=[(h'.objs.size,fH "<lambda>" YD params body scope clos ((X.mg "__name__").getD .none) c' ctv)]) (λp hp=>by
    rw[aU.mp hp];exact⟨hz,aO _ rfl⟩) (by simp)
  refine h _ c' oc vs t _ ctv _ _ I' gr (tb.grow gr tbs (by rw[kN];exact ht) λpos' cv' q'=>?_) ⟨_,hP'⟩ (n1 _ (ao ..)) (gr.k _ _ e2 λps z=>by cases z) e3 e4
  rw[kN]at q';obtain⟨c2,oc2,vs2,t2,f1,f2,f3⟩:=hcs pos' cv' q';exact⟨c2,oc2,vs2,t2,f1,gr.k _ _ f2 (λps z=>by cases z),f3⟩
 |none=>
  refine PySem.W.kla_makeFunction hcl I.ok.glob hg hcode (C.keeps I.bk) hPo ht q hgP hBs λc' ctv h' tk hx hge hlt hrec htb=>?_
  obtain⟨c2,oc,vs,t,e2,hoc,hd,hv⟩:=hrec;cases e2;have kp:fZ P s.heap (h'.push (fH "<lambda>" YD params body scope clos ((X.mg "__name__").getD .none) c' ctv)):=λb o hb e=>aw _ (hx b o hb e)
  have hsz:=bY hge (kg hlt);obtain⟨I',gr,n1,hP',tbs⟩:=Inv.grow (tk:=tk) I hP kp (aw _ htb)
   (new:=[(c',oc),(h'.objs.size,fH "<lambda>" YD params body scope clos ((X.mg "__name__").getD .none) c' ctv)]) (λp hp=>by
    rcases az.mp hp with rfl|hp
    ·exact⟨hge,aw _ hoc⟩
    ·rw[aU.mp hp];exact⟨hsz,aO _ rfl⟩) (c8.mpr ⟨λz=>T7 (aU.mp z) (br hlt),c8.mpr ⟨by simp,mD⟩⟩)
  refine h _ c' oc vs t _ ctv _ _ I' gr (tb.grow gr tbs (by rw[cn];exact TriplesOk_snoc _ _ _ _ ht) λpos' cv' q'=>?_) ⟨_,hP'⟩ (n1 _ (aq _ (ao ..))) (n1 _ (ao ..)) hd hv
  rw[cn]at q';rcases yn _ ht q' with z|rfl
  ·obtain⟨c2,oc2,vs2,t2,f1,f2,f3⟩:=hcs pos' cv' z
   exact⟨c2,oc2,vs2,t2,f1,gr.k _ _ f2 (λps z=>by cases z),f3⟩
  ·exact⟨c',oc,vs,t,rfl,n1 _ (ao ..),hd,hv⟩
end
end Sd
namespace Sd
open PySem PySem.Spec PyProof.Rows L2
noncomputable def cxL(P:bq)(w:bK)(K:ak)(mg:bn->Option au)(base:bX)(N:List bn)(scope:dQ)(g:aC)(cd:au)(clos:List (bn×aC))(A:bQ)(outer:List Env)(s:ax)(H:Hp)(E:XK):Cx where
 prog:=P
 w:=w
 K:=K
 mg:=mg
 base:=base
 A:=A.deeper (fC YD scope s.heap.objs.size g cd clos)
 N:=N
 s₀:=s
 H₀:=H
 env:=fC YD scope s.heap.objs.size g cd clos
 outer:=outer
 stack:=fC YD scope s.heap.objs.size g cd clos::outer
 ex:=[]
 calm:=aj
 fn:=λ_=>al
 pn:=[]
 xe:=λe s'=>bc (aS P w) (A.deeper (fC YD scope s.heap.objs.size g cd clos)) (leaving (fC YD scope s.heap.objs.size g cd clos) e) (λ_ s''=>CX1 P w outer H s E e s'') (λe' s''=>CX1 P w outer H s E e' s'') s'
section
variable{P:bq}{w:bK}{K:ak}{mg:bn->Option au}{base:bX}{N:List bn}{scope:dQ}{g c':aC}{clos:List (bn×aC)}{A:bQ}{outer:List Env}{s:ax}{H:Hp}{E:XK}
def Zfk :DefX (cxL P w K mg base N scope g cd clos A outer s H E) E:=⟨rfl,rfl,rfl,rfl⟩
structure LamS(scope:dQ)(clos:List (bn×aC)):Prop where
 kind:scope.kind=.function
 co:scope.isCoroutine=al
 gen:scope.isGenerator=al
 nc:∀x∈scope.names,x.2≠.cell
 vis:∀x,Vis scope x->scope.names.lookup x=aa .free
 has:∀x,scope.names.lookup x=aa .free->∃c,clos.lookup x=aa c
 inj:∀x y c,clos.lookup x=aa c->clos.lookup y=aa c->x=y
def jE(hr:Room (k+1) A)(e0:Env0 P w K mg base A outer s H)(L:LamS scope clos)
  (hg:s.heap.get? g=aa (fH "<lambda>" YD params body scope clos pm c' ctv))(hcd:s.heap.CodeRec (.ref c') YD)(hbind:mB (rg "<lambda>" YD params body scope clos pm (.ref c') ctv) ⟨[],[]⟩=cC [])
  (hcell:∀x c,clos.lookup x=aa c->(∃v,s.heap.IsCell c v)/\H c=af)(hlen:σ.length=N.length)
  (hval:∀(i:Nat)(x:bn)(v:V),N[i]?=aa x->σ[i]?=aa (aa v)->scope.names.lookup x=aa .free->∃u c,Zu v u/\clos.lookup x=aa c/\s.heap.IsCell c (aa u))
  (hb:PE (cxL P w K mg base N scope g (.ref c') clos A outer s H E) body t)(ht:t σ H Q) :
  eC (aS P w) A (.call (.ref g) ⟨[],[]⟩) (CR (CX1 P w) outer P w H s Q E) s:=by
 have lim:=e0.mod.nolimit.keeps λb o e=>(e0.bs b o e).1
 refine PySem.W.kla_callFunE hr.depth hg rfl L.co L.gen rfl hcd ?_;rw[hbind];refine aA (mE L.nc (λx hx=>by simp at hx) (λh1 hns hsb=>?_) L.kind)
 have hk1:=λb o e=>hsb.extBut b o (br (aJ e)) (aw _ e)
 refine⟨lim.keeps hk1,?_⟩;have noA:∀b:aC,b∉(cxL P w K mg base N scope g (.ref c') clos A outer s H E).ex:=λb z=>T7 (show b∈([]:List aC)from z) (by simp)
 have I:L2.Inv (cxL P w K mg base N scope g (.ref c') clos A outer s H E) [] σ H {s with heap:=h1,toks:=s.toks+([]:List (bn×au)).length}:=by
  refine⟨⟨e0.mod,L.kind,rfl,rfl,aI _,L.inj,λx hx=>?_,λx c z=>(by cases z),λ_=>hr.hd,mC e0.frames,.inr ⟨rfl,rfl⟩,λb z=>T7 z (noA b),e0.bs,e0.bsz,λb _ _=>noA b,λb z=>T7 z (noA b),e0.funs,e0.frf⟩,
   rfl,e0.bare,Un.kept hk1,⟨_,hns,λi x v e1 e2 e3=>?_⟩,λx c e=>?_,e0.hok.fresh (aI _),λx c e=>(hcell x c e).2,λp hp=>T7 (show p∈([]:List (aC×eG))from hp) (by simp),e0.hok.kept hk1,hlen⟩
  ·have hx:=hx
   rcases hx with z|z
   ·exact T7 rfl (L.nc _ (dD z))
   ·exact L.has x z
  ·have fr:=L.vis x e3
   obtain⟨u,c,r,e,z⟩:=hval i x v e1 e2 fr;refine⟨u,r,.inr ⟨.inr fr,c,e,?_⟩⟩;obtain⟨o,ho,hd⟩:=z;exact⟨o,hk1 _ _ ho,hd⟩
  ·obtain⟨⟨v,o,ho,hd⟩,_⟩:=hcell x c e
   exact⟨v,o,hk1 _ _ ho,hd⟩
 exact PySem.W.kla_codeExpr (cJ (hb [] _ σ H Q I ht) (λu s' ⟨v,H',J,r,q⟩=>⟨v,H',J.os,J.bare,J.base,J.hok,r,q⟩) λ_ _ y=>y)
end
section
variable{X:Cx}
def Ze5(K:ak):List V->Hp->VK->Prop:=λvs H Q=>∃a oe C Dv u b,vs=[.ref a,Dv]/\Zu Dv u/\(∀u',Zu Dv u'->u'=u)/\H a=aa (.frz oe (.own a))/\oe.cls=.ref C/\ExK K C/\fV K (.ref C) u=aa b/\Q (.bl b) H
def zR:Zz X (.builtin "isinstance") (Ze5 X.K):=by
 intro pq s σ H xs us Q I r h;obtain⟨a,oe,C,Dv,u,b,rfl,ru,uq,Ha,ce,k,e,q⟩:=h;cases r with
 |cons ra r=>
  cases r with
  |cons rD r=>
   cases r;cases ra;obtain rfl:=uq _ rD;obtain⟨ge,_⟩:=I.hok a _ Ha;exact cS (qE k) I.kIn ⟨oe,ge,ce⟩ e (by intro q;cases q) λtk=>⟨.bl b,H,I.tok tk,rfl,q⟩
def J4:V->List V->Hp->VK->Prop:=λx vs H Q=>∃(l:aC)(bs:List Bool)(j:Nat),x=.ref l/\vs=[.bl aj]/\H l=aa (.lst (bs.map .bl))/\bs[j]?=aa aj/\(∀m,m<j->bs[m]?=aa al)/\Q (.int j) H
theorem vf:∀{bs:List Bool}{us:List au},Vals (bs.map V.bl) us->us=bs.map bO
 |[],_,.nil=>rfl
 |b::bs,_,.cons r t=>by cases r;rw[vf t];rfl
theorem zd:MtM X "list.index" J4:=by
 intro pq s σ H x vs v us Q I rx rv h;obtain⟨l,bs,j,rfl,rfl,hH,hj,hno,q⟩:=h;cases rx;obtain⟨u,rfl,ru⟩:=rv.one;cases ru;obtain⟨z,its,n,r,hl,e⟩:=I.lstM hH;obtain rfl:=vf r;have hjl:=(aG.mp hj).1;have hsz:(bs.map bO).toArray.size=bs.length:=by simp
 have get:∀m (hm:m<(bs.map bO).toArray.size),(bs.map bO).toArray[m]=bO (bs[m]'(by rw[hsz]at hm;exact hm)):=λm hm=>by simp
 refine fY F.slot_list_index ⟨_,e,rfl⟩ F.entry_list_index (F.args_list_index_2 _ _) (PySem.SeqAt.list_indexAt l (bs.map bO).toArray n af #[] (.bool aj) (λy=>y == .bool aj) j (by rw[hsz];exact hjl) (by
  rw[aB]at z;have:bi=16777216:=rfl;lia) (by rw[get];rw[(aG.mp hj).2];rfl) λm hm hmj=>by
   rw[get];have:=aG.mp (hno m hmj);rw[this.2];rfl) ⟨e,λy hy=>?_,?_⟩
 ·obtain⟨b,_,rfl⟩:=aP.mp (List.mem_toArray.mp hy)
  cases b
  ·exact kO al aj
  ·exact kO aj aj
 ·exact⟨.int j,H,I.tok _,⟨_,rfl⟩,q⟩
end
def Ze1{CX:CXT}{P:bq}{w:bK}{K:ak}{mg:bn->Option au}{base:bX}{k:Nat}{f:aC}{x qual:bn}{st:eF}{fd:cB}{N ps:List bn}{A:bQ}{outer:List Env}{s:ax}{H:Hp}{args:Args}{us:List au}{vs:List V}{Q:VK}{E:XK}
  (Fu:Fun K x qual st f fd)(S:FnScope N ps (Zg st))(hr:Room (k+1) A)(e0:Env0 P w K mg base A outer s H)(hb:mR s fd args (ps.zip us))(r:Vals vs us)(hl:vs.length=ps.length)
  (hbody:∀(cdv:au)(s1:ax),Room k (A.deeper (dG qual (Zg st) s.heap.objs.size f cdv))->L2.Inv (XG CX P w K mg base N qual (Zg st) f cdv A outer s H E) [] (start N vs) H s1->
   bc (aS P w) (A.deeper (dG qual (Zg st) s.heap.objs.size f cdv)) (execs (Zy st) (dG qual (Zg st) s.heap.objs.size f cdv)) (SP (XG CX P w K mg base N qual (Zg st) f cdv A outer s H E) [] {nx:=λ_ H'=>Q .non H',rt:=Q}) (XG CX P w K mg base N qual (Zg st) f cdv A outer s H E).xe s1) :
  eC (aS P w) A (.call (.ref f) args) (CR CX outer P w H s Q E) s:=by
 obtain⟨oc,od,kV,doc,pm,an,cdv,ct,osl,rfl,lk,hcd⟩:=Fu.ex;have KX:=e0.mod.kin.keeps λb o e=>(e0.bs b o e).1
 have lim:=e0.mod.nolimit.keeps λb o e=>(e0.bs b o e).1
 have hkind:∀y∈ps.zip us,(Zg st).names.lookup y.1=aa .local\/((Zg st).names.lookup y.1=aa .cell/\((iu (s.heap.objs.size+1) (Zg st).names []).lookup y.1).isSome=aj):=λ⟨n,v⟩ hy=>by
  rcases S.par n (fE hy).1 with q|q
  ·exact .inl q
  ·exact .inr ⟨q,gW _ _ _ (.inl q)⟩
 refine me hr.depth (KX _ _ lk) rfl S.co S.gen rfl (nD KX hcd) (hb _ _ _ _ ?_);refine kq S.kind hkind λenv he s1 x=>?_
 subst he;refine⟨lim.keeps x.toInCall.keep,codeAny_func ?_⟩;have I:=Q9 (CX:=CX) (E:=E) S hr.hd e0 hl r x;refine cJ (hbody cdv s1 (hr.deeper _) I) (λfl s' hs=>?_) λe s' hs=>hs
 cases fl with
 |ret u=>
  obtain⟨v,σ',H',J,rv,q⟩:=hs;exact⟨v,H',J.os,J.bare,J.base,J.hok,rv,q⟩
 |next=>
  obtain⟨σ',H',J,q⟩:=hs;exact⟨.non,H',J.os,J.bare,J.base,J.hok,rfl,q⟩
 |brk=>
  obtain⟨_,_,_,q⟩:=hs;exact False.elim q
 |cont=>
  obtain⟨_,_,_,q⟩:=hs;exact False.elim q
def wm(Pt:aC)(H:Hp):Prop:=H Pt=aa (.tbl #[])/\∀b,b≠Pt->H b=af\/∃o xs,H b=aa (.frz o (.lst xs))
def vC{P:bq}{w:bK}{K:ak}{mg mb:bn->Option au}{CX:CXT}{k:Nat}{fa a c Pt:aC}{fd:cB}{x:bn}{sp:Sp}{s₁:ax}{vs:List au}{ns:List Int}
  (KX:K.In s₁.heap)(hns:s₁.heap.Ns bF mg)(hb:s₁.heap.Ns pH mb)(hbb:∀x:bn,x≠"__name__"->mb x=dy x)(hlim:s₁.heap.NoLimit)(hg:s₁.gens = #[])
  (hC:dv s₁.heap c Pt)(hPt:s₁.heap.get? Pt=aa (rh #[]))(hK:mO K=aj)(hB:s₁.heap.BuiltinsAt mg Pt)
  (ha:s₁.heap.get? a=aa {cls:=.type "list",data:=.seq vs.toArray})(hi:pE vs ns)(hl:ns.length<=bi)(hr:Room k mS)
  (F:∀base:bX,K.In base->base.Ns bF mg->dv base c Pt->base.BuiltinsAt mg Pt->bF≠Pt->FnOk P w K mg base CX k fa fd [x] sp)(hbind:∀(s:ax)(u:au),mR s fd ⟨[u],[]⟩ [(x,u)])
  (hsp:∀H:Hp,wm Pt H->SqL K H a (ns.map V.int)->sp [.ref a] H (λv _=>v=.bl aj) λ_ _ _=>False)
  (hCX:∀H e s',CX [] H s₁ (λ_ _ _=>False) e s'->False) :
  eC (aS P w) mS (.call (.ref fa) ⟨[.ref a],[]⟩) (λr s'=>r=.ok (.ret (.bool aj))/\OldK s₁.heap s'.heap/\s'.os=s₁.os/\iE s'.gens) s₁:=by
 have rv:=QY hi;have lenV:=hi.length;have hPa:Pt≠a:=λz=>by rw[z,ha]at hPt;cases hPt
 have hKP:K.lookup Pt=af:=by
  cases q:K.lookup Pt with
  |none=>rfl
  |some o=>
   have e:=KX Pt o q;rw[hPt]at e;cases e;have h2:=bf.mp hK (Pt,rh #[]) (PySem.W.mem_of_lookupK q);exact T7 (show al=aj from h2) aM
 have core:∀H:Hp,wm Pt H->SqL K H a (ns.map V.int)->HOk P w H s₁.heap->(∀b,H b≠af->b=a\/b=Pt)->(H a≠af->K.lookup a=af)->
   eC (aS P w) mS (.call (.ref fa) ⟨[.ref a],[]⟩) (λr s'=>r=.ok (.ret (.bool aj))/\OldK s₁.heap s'.heap/\s'.os=s₁.os/\iE s'.gens) s₁:=by
  intro H hO hS hok hA hK;have base_of:∀{b:aC}{o:eG},s₁.heap.get? b=aa o->H b=af->(Qp s₁.heap H).get? b=aa o:=λe n=>jr e n
  have noT:∀{b:aC}{o:eG},s₁.heap.get? b=aa o->b≠a->b≠Pt->H b=af:=λ{b o} e z1 z2=>by
   cases q:H b with|none=>rfl|some u=>exact((hA b (by rw[q];simp)).elim z1 z2).elim
  have noA:∀{b:aC}{o:eG}{es:Array iB}{ep:Nat},s₁.heap.get? b=aa o->o.data=.dict es ep->H b=af:=λ{b o es ep} e d=>
   noT e (λz=>by subst z;rw[ha]at e;cases e;cases d) λz=>by subst z;rw[hPt]at e;cases e;cases d
  have nsK:∀{b:aC}{m:bn->Option au},s₁.heap.Ns b m->(Qp s₁.heap H).Ns b m:=λ{b m} ⟨o,es,ep,e,d,r⟩=>⟨o,es,ep,base_of e (noA e d),d,r⟩
  have hKb:=λb o e=>base_of (KX b o e) (by
   cases q:H b with
   |none=>rfl
   |some u=>
    rcases hA b (by rw[q];simp)with z|z
    ·subst z;rw[hK (by rw[q];simp)]at e;cases e
    ·subst z;rw[hKP]at e;cases e)
  have hM:Mod K mg (Qp s₁.heap H):=⟨hKb,nsK hns,⟨mb,nsK hb,hbb⟩,let ⟨mc,h1,h2⟩:=hlim;⟨mc,nsK h1,h2⟩⟩;have e0:Env0 P w K mg (Qp s₁.heap H) mS [] s₁ H:=⟨rfl,hM,λb o e=>Zbk e,oo (uz _ _),trivial,λb hb=>T7 (show b∈([]:List aC)from hb) (by simp),hok,.of_eq hg⟩
  have hCb:dv (Qp s₁.heap H) c Pt:=by
   obtain⟨o,vs',file,tf,flags,tg,inF,text,tt,e1,r1,r⟩:=hC;refine⟨o,vs',file,tf,flags,tg,inF,text,tt,base_of e1 (noT e1 (λz=>?_) λz=>?_),r1,r⟩
   ·subst z;rw[ha]at e1;cases e1;exact T7 (rj r1) (by decide)
   ·subst z;rw[hPt]at e1;cases e1;cases r1
  have hBb:(Qp s₁.heap H).BuiltinsAt mg Pt:=by
   obtain⟨bm,o,b1,b2,b3,b4,b5,b6,b7,b8⟩:=hB;refine⟨bm,o,b1,b2,b3,b4,base_of b5 (noT b5 (λz=>?_) b4),b6,b7,b8⟩
   subst z;rw[ha]at b5;cases b5;exact T7 (rj b6) (by decide)
  have hgP:bF≠Pt:=λz=>by
   obtain⟨o,es,ep,e,d,_⟩:=hns;rw[z,hPt]at e;cases e;cases d
  refine kh ((F _ hKb (nsK hns) hCb hBb hgP).run mS [] s₁ H ⟨[.ref a],[]⟩ [.ref a] [.ref a] _ _ hr e0 (hbind s₁ (.ref a)) (.cons rfl .nil) (hsp H hO hS)) λr s' h=>?_
  cases r with
  |error e=>exact(hCX H e s' h).elim
  |ok fl=>
   cases fl with
   |next=>exact False.elim h
   |brk=>exact False.elim h
   |cont=>exact False.elim h
   |ret u=>
    obtain⟨v,H',os,bare,un,hok',r',q⟩:=h;have q':v=.bl aj:=q;subst q';obtain rfl:u=bO aj:=r';have keep:=λb o z e=>by
     cases q:H b with
     |none=>exact un.keep b o e q (by intro z;exact T7 (show b∈([]:List aC)from z) (by simp)) (by simp)
     |some u=>
      rcases hO.2 b z with z|⟨ob,xs,z⟩
      ·rw[q]at z;cases z
      ·have z2:=un.frzs b ob _ z
       obtain⟨e1,_⟩:=hok b _ z;obtain⟨e2,_⟩:=hok' b _ z2;rw[e]at e1;cases e1;exact e2
    obtain⟨more,hm⟩:=un.tbls Pt #[] hO.1;have hT':=hok' Pt _ hm;refine⟨rfl,⟨λb o e=>?_,λb o e=>?_⟩,os,bare⟩
    ·by_cases z:b=Pt
     ·subst z
      rw[hPt]at e;cases e;exact .inr (.inl ⟨(hC.tab hPt).isCodeTable,rfl,#[],more,rfl,hT'⟩)
     ·exact .inl (keep b o z e)
    ·by_cases z:b=Pt
     ·subst z;exact⟨_,hT'⟩
     ·exact⟨o,keep b o z e⟩
 have tbOk:=hPt
 cases hk:K.lookup a with
 |some o=>
  have e:=KX a o hk;rw[ha]at e;cases e;refine core (upd (λ_=>af) Pt (.tbl #[])) ⟨Zk,λb z=>.inl (Zi z)⟩ (.inr ⟨_,vs.toArray,_,hk,rfl,rfl,rfl,by rw[ay,lenV];exact hl,by simpa using rv⟩) (λb u z=>?_) (λb z=>?_) λz=>T7 (Zi (Ne.symm hPa)) z
  ·by_cases q:b=Pt
   ·subst q;rw[Zk]at z;cases z;exact hPt
   ·rw[Zi q]at z;cases z
  ·by_cases q:b=Pt
   ·exact .inr q
   ·exact T7 (Zi q) z
 |none=>
  refine core (upd (λb=>if b=a then aa (.frz {cls:=.type "list",data:=.seq vs.toArray} (.lst (ns.map V.int)))else af) Pt (.tbl #[])) ⟨Zk,λb z=>?_⟩ (.inl (.inr ⟨{cls:=.type "list",data:=.seq vs.toArray},by rw[Zi (Ne.symm hPa)];exact T9 rfl⟩)) (λb u z=>?_) (λb z=>?_) λ_=>hk
  ·rw[Zi z]
   by_cases hb:b=a
   ·exact .inr ⟨_,_,T9 hb⟩
   ·exact .inl (T8 hb)
  ·by_cases q:b=Pt
   ·subst q;rw[Zk]at z;cases z;exact hPt
   ·rw[Zi q]at z
    by_cases hb:b=a
    ·have z':=(T9 hb).symm.trans z
     cases z';subst hb;exact⟨ha,by rw[aB];exact hl,vs,_,rv,ha⟩
    ·have z':=(T8 hb).symm.trans z
     cases z'
  ·by_cases q:b=Pt
   ·exact .inr q
   ·rw[Zi q]at z
    by_cases hb:b=a
    ·exact .inl hb
    ·exact T7 (T8 hb) z
def je{l:l8}{n k:Nat}{q:bq}{loose:List bn}{XP:(bn->Option au)->bX->Prop}{YP:bK->bX->Prop}{d:rR}{K:Params->ak}{CX:bK->CXT}{sp:bK->aC->Sp}{x:bn}{c Pt:aC}{dr:rR}
  (hn:l.most=aa n)(hn2:n<=bi)(hdf:d.params.defaults=[])(hr:Room k mS)
  (hY:∀(w:bK)(h:bX),YP w h->(K w.params).In h)(hrec:(recsOf q).find? (λe=>e.name == d.name)=aa dr)(ht:∀w:bK,rC (K w.params) d.name=aa (c,Pt))(hK:∀w:bK,mO (K w.params)=aj)
  (F:∀(w:bK)(mg:bn->Option au)(fa:aC)(h:bX),(K w.params).In h->h.Ns bF mg->mg d.name=aa (.ref fa)->
   ∃fd:cB,(∀(s:ax)(u:au),mR s fd ⟨[u],[]⟩ [(x,u)])/\
    ∀base:bX,(K w.params).In base->base.Ns bF mg->dv base c Pt->base.BuiltinsAt mg Pt->bF≠Pt->FnOk l.prog w (K w.params) mg base (CX w) k fa fd [x] (sp w Pt))
  (hsp:∀(w:bK)(H:Hp)(a:aC)(ns:List Int),ns.length<=n->wm Pt H->SqL (K w.params) H a (ns.map V.int)->sp w Pt [.ref a] H (λv _=>v=.bl aj) λ_ _ _=>False)
  (hCX:∀(w:bK)(H:Hp)(s:ax)(e:au)(s':ax),CX w [] H s (λ_ _ _=>False) e s'->False) :
  rE q loose XP YP l.row.toRowW d [] (λf vs=>pN f vs):=by
 refine Att.GR hn hdf λw s₀ s₁ mg mb fa o pm cd doc a vs ns G Y ho hd hcd hmg hobj hints hlen hg=>?_
 have KX:=hY w _ Y;obtain⟨fd,hb,hF⟩:=F w mg fa _ KX G.T.g hmg;obtain⟨hC,hPt⟩:=PySem.W.tab_of G.T KX hrec (ht w);obtain⟨bm,ob,b1,b2,b3,b4,b5,b6⟩:=G.T.bmain;have hbP:bm≠Pt:=λz=>by rw[z,hPt]at b3;cases b3;cases b4
 have hbG:bm≠bF:=λz=>by
  obtain⟨o,es,ep,e,hd,_⟩:=G.T.g;rw[z,e]at b3;cases b3;rw[hd]at b6;cases b6
 exact vC KX G.T.g G.T.b G.T.builtins G.T.nolimit hg hC hPt (hK w) ⟨bm,ob,b1,b2,hbG,hbP,b3,b4,b5,b6⟩ hobj hints (bY hlen hn2) hr hF hb (λH hO hS=>hsp w H a ns hlen hO hS) λH e s'=>hCX w H s₁ e s'
end Sd
namespace Sd
open PySem PySem.Spec PyProof.Rows L2
open Ev (E Sm Fn Bop Cop Ty Bf Mf)
noncomputable def YX:List bn:=["SpaceError","NoRow","NoPart","NoNumber","NoHeads","NotBeside","NotIn","NoTurn","NoLot","TooMany","BadNote"]
structure Errs(K:ak)(mg:bn->Option au)(cl:List aC):Prop where
 len:cl.length=11
 nm:∀(j:Nat)(C:aC)(x:bn),cl[j]?=aa C->YX[j]?=aa x->mg x=aa (.ref C)
 exk:∀(j:Nat)(C:aC),cl[j+1]?=aa C->ExK K C
 one:∀(i j:Nat)(C D:aC),cl[i+1]?=aa C->cl[j+1]?=aa D->fV K (.ref C) (.ref D)=aa (ag (i=j))
 ve:∀(i:Nat)(C:aC),cl[i+1]?=aa C->fV K (.ref C) (.type "ValueError")=aa aj
 exm:∀(i:Nat)(C S:aC),cl[i+1]?=aa C->cl[0]?=aa S->re K (.ref C) (.ref S)=aa aj
def tIs(K:ak)(ir:Nat)(Dv:V):TE:=tCB (Ze5 K) (YB (Jw ir) (YB (tC Dv) Gg))
section
variable{X:Cx}{ir is:Nat}{σ:L2.St}{H:Hp}{Q:VK}{p p1 p2 pos:eY}{xr x:bn}{cl:List aC}
structure ErAt(K:ak)(cl:List aC)(ir c:Nat)(σ:L2.St)(H:Hp):Prop where
 ex:∃a oe C,σ[ir]?=aa (aa (.ref a))/\H a=aa (.frz oe (.own a))/\oe.cls=.ref C/\cl[c+1]?=aa C
theorem ErAt.upd{K:ak}{c:Nat}{q:aC}{o:HO}(e:ErAt K cl ir c σ H)(hq:H q=af):ErAt K cl ir c σ (L2.upd H q o):=by
 obtain⟨a,oe,C,h1,h2,h3⟩:=e.ex;exact⟨a,oe,C,h1,by rw[Zi (λz=>by rw[z,hq]at h2;cases h2)];exact h2,h3⟩
def ErAt.wr{K:ak}{c:Nat}{q:aC}{xs:List V}{o:HO}(e:ErAt K cl ir c σ H)(hq:H q=aa (.lst xs)):ErAt K cl ir c σ (L2.upd H q o):=by
 obtain⟨a,oe,C,h1,h2,h3⟩:=e.ex;exact⟨a,oe,C,h1,by rw[Zi (λz=>by rw[z,hq]at h2;cases h2)];exact h2,h3⟩
theorem ErAt.set{K:ak}{c j:Nat}{v:V}(e:ErAt K cl ir c σ H)(hj:ir≠j):ErAt K cl ir c (σ.set j (aa v)) H:=by
 obtain⟨a,oe,C,h1,h2⟩:=e.ex;exact⟨a,oe,C,by rw[ba (Ne.symm hj)];exact h1,h2⟩
def Xf{K:ak}{mg:bn->Option au}{c j:Nat}{Dj:aC}(R:Errs K mg cl)(e:ErAt K cl ir c σ H)(hj:cl[j+1]?=aa Dj)(q:Q (.bl (ag (c=j))) H):tIs K ir (.ref Dj) σ H Q:=by
 obtain⟨a,oe,C,h1,h2,h3,h4⟩:=e.ex;exact⟨.ref a,h1,a,oe,C,.ref Dj,.ref Dj,ag (c=j),rfl,rfl,λu' r=>r,h2,h3,R.exk c C h4,R.one c j C Dj h4 hj,q⟩
def Zc9{K:ak}{mg:bn->Option au}{c:Nat}(R:Errs K mg cl)(e:ErAt K cl ir c σ H)(q:Q (.bl aj) H):tIs K ir (.ty "ValueError") σ H Q:=by
 obtain⟨a,oe,C,h1,h2,h3,h4⟩:=e.ex;exact⟨.ref a,h1,a,oe,C,.ty "ValueError",.type "ValueError",aj,rfl,rfl,λu' r=>r,h2,h3,R.exk c C h4,R.ve c C h4,q⟩
def Zei(hi:X.N[ir]?=aa xr)(hv:Vis X.env.scope xr)(hg0:Gl X "isinstance")(hm0:X.mg "isinstance" = af)(hg:Gl X x)(hm:X.mg x=aa (.ref Dj))(hd1:(xr == ("__debug__" : bn))=al)(hd2:(xr == ("__classdict__" : bn))=al)(hd3:(x == ("__debug__" : bn))=al)
  (hs:aE [.Name xr p1,.Name x p2] X.env=(al,cR (.Name xr p1) X.env)::aE [.Name x p2] X.env:=by rfl)(hs2:aE [.Name x p2] X.env=(al,cR (.Name x p2) X.env)::aE [] X.env:=by rfl)(hpl:(dU pos (aE [.Name x p2] X.env)).any (·.1)=al:=by rfl) :
  PE X (.Call (.Name "isinstance" p) [.Name xr p1,.Name x p2] [] pos) (tIs X.K ir (.ref Dj)):=
 Xi zR hg0 hm0 rfl (Zw (Yk hi hv hd1 hd2) (Zw (ZbW hg hm rfl hd3) Yj hs2) hs) (by decide) (by decide) hs hpl
def Zd5(hi:X.N[ir]?=aa xr)(hv:Vis X.env.scope xr)(hg0:Gl X "isinstance")(hm0:X.mg "isinstance" = af)(hg:Gl X "ValueError")(hm:X.mg "ValueError" = af)(hd1:(xr == ("__debug__" : bn))=al)(hd2:(xr == ("__classdict__" : bn))=al)
  (hs:aE [.Name xr p1,.Name "ValueError" p2] X.env=(al,cR (.Name xr p1) X.env)::aE [.Name "ValueError" p2] X.env:=by rfl)(hs2:aE [.Name "ValueError" p2] X.env=(al,cR (.Name "ValueError" p2) X.env)::aE [] X.env:=by rfl)(hpl:(dU pos (aE [.Name "ValueError" p2] X.env)).any (·.1)=al:=by rfl) :
  PE X (.Call (.Name "isinstance" p) [.Name xr p1,.Name "ValueError" p2] [] pos) (tIs X.K ir (.ty "ValueError")):=
 Xi zR hg0 hm0 rfl (Zw (Yk hi hv hd1 hd2) (Zw (Ua hg hm rfl rfl) Yj hs2) hs) (by decide) (by decide) hs hpl
def WA(K:ak)(ir is:Nat)(cl:List aC)(ts:TT)(rb:TE)(fin:TS):TS:=
 let I:=λj=>tIs K ir (.ref (cl.getD (j+1) 0))
 Jo (Zdp (tB (ZeE (Jw ir))) (qB (tC .non)) Zas) (Jo (xg (ui (YB (I 0) (YB (I 1) (YB (I 2) Gg)))) (Us is))
  (Jo (xg (tOp ZbD (Jw is) (ui (YB (I 3) (YB (I 4) (YB (I 5) Gg))))) (Us is)) (Jo (xg (tOp ZbD (Jw is) (ui (YB (I 6) (YB (I 7) (YB (I 8) Gg))))) (Us is))
   (Jo (Zcr (tBM K "list" xQ (Jw is) (YB (I 9) Gg))) (Jo (Zdp (tOr (Zeu (tB (tIs K ir (.ty "ValueError")))) ts) (qB rb) Zas) fin)))))
def xD{K:ak}{ts:TT}{rb:TE}{fin:TS}{Dn:Ends}(h:σ[ir]?=aa (aa .non))(q:Dn.rt .non H):WA K ir is cl ts rb fin Dn σ H:=by
 refine⟨.non,h,aj,rfl,?_⟩
 change (if aj=aj then _ else _)
 rw[T9 rfl];exact q
def QM(xs:List V):∀ps,HO.lst xs≠.tbl ps:=λ_ z=>by cases z
noncomputable def ZW(c:Nat):List Bool:=(aY 10).map λj=>ag (c=j)
def ZaF:∀c,c<10->(ZW c)[c]?=aa aj:=by decide
def Zat:∀c,c<10->∀m,m<c->(ZW c)[m]?=aa al:=by decide
theorem wX :∀(bs:List Bool),Rq ρ H (bs.map Pv.V.bl) (bs.map V.bl)
 |[]=>Rq.nil
 |b::bs=>Rq.cons (Z9 b) (wX bs)
def upd2{H:Hp}{p:aC}{o u:HO}:upd (upd H p o) p u=upd H p u:=by
 funext b
 by_cases z:b=p
 ·subst z;rw[Zk,Zk]
 ·rw[Zi z,Zi z,Zi z]
theorem uM{K:ak}{mg:bn->Option au}{ts:TT}{rb:TE}{fi:TS}{Dn:Ends}{c:Nat}{ρ:Mx}{S:Zr}(R:Errs K mg cl)(hc:c<10)(e:ErAt K cl ir c σ H)(hne:ir≠is)(hsl:is<σ.length)(st:St3 K ρ S H)
  (hts:∀(σ':L2.St)(H':Hp)(p:aC)(Q':Bool->Hp->Prop),σ'[is]?=aa (aa (.ref p))->H' p=aa (.lst ((ZW c).map .bl))->¬ρ.X p->St3 K ρ S H'->(∀H2,Fut ρ H' ρ H2->St3 K ρ S H2->Q' al H2)->ts σ' H' Q')
  (fin:∀(σ':L2.St)(H':Hp)(q:aC),σ'[is]?=aa (aa (.ref q))->σ'.length=σ.length->H' q=aa (.lst ((ZW c).map .bl))->Fut ρ H ρ H'->St3 K ρ S H'->fi Dn σ' H'):WA K ir is cl ts rb fi Dn σ H:=by
 have cj:∀j,j<10->cl[j+1]?=aa (cl.getD (j+1) 0):=λj hj=>by
  have hl:j+1<cl.length:=by rw[R.len];lia
  rw[ai hl,aF,ai hl];rfl
 obtain⟨a,oe,C,h1,h2,h3,h4⟩:=id e.ex;refine⟨.ref a,h1,al,rfl,?_⟩
 change (if al=aj then _ else _)
 rw[T8 aM]
 let A1:HO:=.lst [.bl (ag (c=0)),.bl (ag (c=1)),.bl (ag (c=2))]
 let A2:HO:=.lst [.bl (ag (c=3)),.bl (ag (c=4)),.bl (ag (c=5))]
 let A3:HO:=.lst [.bl (ag (c=0)),.bl (ag (c=1)),.bl (ag (c=2)),.bl (ag (c=3)),.bl (ag (c=4)),.bl (ag (c=5))]
 let A4:HO:=.lst [.bl (ag (c=6)),.bl (ag (c=7)),.bl (ag (c=8))]
 let L5:List Bool:=[ag (c=0),ag (c=1),ag (c=2),ag (c=3),ag (c=4),ag (c=5),ag (c=6),ag (c=7),ag (c=8)]
 let A5:HO:=.lst (L5.map .bl)
 let A6:HO:=.lst ((ZW c).map .bl)
 have neq:∀{G:Hp}{b d:aC}{u:HO},G b=aa u->G d=af->b≠d:=λh1 h2 z=>by rw[z,h2]at h1;cases h1
 refine Xf R e (cj 0 (by lia)) (Xf R e (cj 1 (by lia)) (Xf R e (cj 2 (by lia)) ⟨by show 3<=bi;decide,λq1 hq1=>?_⟩))
 have e1:=(e.upd (o:=A1) hq1).set (j:=is) (v:=.ref q1) hne;have st1:=st.fresh (o:=A1) hq1 (QM _);have f1:Fut ρ H ρ (upd H q1 A1):=Zs hq1;have g1:upd H q1 A1 q1=aa A1:=Zk;have l1:(σ.set is (aa (.ref q1))).length=σ.length:=bC;refine⟨.ref q1,bg hsl,?_⟩;refine Xf R e1 (cj 3 (by lia)) (Xf R e1 (cj 4 (by lia)) (Xf R e1 (cj 5 (by lia)) ⟨by show 3<=bi;decide,λq2 hq2=>?_⟩))
 have g2:upd (upd H q1 A1) q2 A2 q1=aa A1:=by rw[Zi (neq g1 hq2)];exact g1
 have st2:=st1.fresh (o:=A2) hq2 (QM _);have f2:Fut ρ H ρ (upd (upd H q1 A1) q2 A2):=f1.trans (Zs hq2);refine⟨q1,q2,_,_,rfl,rfl,g2,Zk,by show 6<=bi;decide,λq3 hq3=>?_⟩
 let H3:=upd (upd (upd H q1 A1) q2 A2) q3 A3
 have e3:=((e1.upd (o:=A2) hq2).upd (o:=A3) hq3).set (j:=is) (v:=.ref q3) hne;have st3:St3 K ρ S H3:=st2.fresh (o:=A3) hq3 (QM _);have f3:Fut ρ H ρ H3:=f2.trans (Zs hq3);have g3:H3 q3=aa A3:=Zk;have l3:((σ.set is (aa (.ref q1))).set is (aa (.ref q3))).length=σ.length:=by rw[bC,l1]
 refine⟨.ref q3,bg (by rw[l1];exact hsl),?_⟩
 refine Xf R e3 (cj 6 (by lia)) (Xf R e3 (cj 7 (by lia)) (Xf R e3 (cj 8 (by lia)) ⟨by show 3<=bi;decide,λq4 hq4=>?_⟩))
 have g4:upd H3 q4 A4 q3=aa A3:=by rw[Zi (neq g3 hq4)];exact g3
 have st4:=st3.fresh (o:=A4) hq4 (QM _);have f4:Fut ρ H ρ (upd H3 q4 A4):=f3.trans (Zs hq4);refine⟨q3,q4,_,_,rfl,rfl,g4,Zk,by show 9<=bi;decide,λq5 hq5=>?_⟩
 let H5:=upd (upd H3 q4 A4) q5 A5
 let σ5:=((σ.set is (aa (.ref q1))).set is (aa (.ref q3))).set is (aa (.ref q5))
 have e5:ErAt K cl ir c σ5 H5:=((e3.upd (o:=A4) hq4).upd (o:=A5) hq5).set (j:=is) (v:=.ref q5) hne;have l5:σ5.length=σ.length:=by rw[bC,l3]
 have v5:σ5[is]?=aa (aa (.ref q5)):=bg (by rw[l3];exact hsl)
 have g5:H5 q5=aa A5:=Zk;refine⟨.ref q5,v5,.inl ⟨rfl,_,SqL.of g5⟩,?_⟩;refine Xf R e5 (cj 9 (by lia)) ⟨q5,_,_,rfl,rfl,g5,by show 9<bi;decide,?_⟩
 let H6:=upd H5 q5 A6
 have h6:H6=upd (upd H3 q4 A4) q5 A6:=upd2;have st6:St3 K ρ S H6:=by rw[h6];exact st4.fresh (o:=A6) hq5 (QM _)
 have f6:Fut ρ H ρ H6:=by rw[h6];exact f4.trans (Zs hq5)
 have e6:ErAt K cl ir c σ5 H6:=e5.wr g5;have g6:H6 q5=aa A6:=Zk;have nx5:¬ρ.X q5:=st4.nx hq5;refine Zc9 R e6 ⟨aj,rfl,?_⟩
 change (if al=aj then _ else _)
 rw[T8 aM];refine hts σ5 H6 q5 _ v5 g6 nx5 st6 λH7 f7 st7=>?_
 change (if al=aj then _ else _)
 rw[T8 aM];exact fin σ5 H7 q5 v5 l5 (Zcq f7 nx5 g6) (f6.trans f7) st7
def rbI:TE:=tUn (rU λi=>.int (-i)) (tC (.int 1))
def ZdA(K:ak)(is:Nat):TS:=qB (tBM K "list" J4 (Jw is) (YB (tC (.bl aj)) Gg))
def Zbc{K:ak}{c:Nat}{Dn:Ends}{q:aC}(hc:c<10)(v:σ[is]?=aa (aa (.ref q)))(h:H q=aa (.lst ((ZW c).map .bl)))(k:Dn.rt (.int c) H):ZdA K is Dn σ H:=
 ⟨.ref q,v,.inl ⟨rfl,_,SqL.of h⟩,q,ZW c,c,rfl,rfl,h,ZaF c hc,Zat c hc,k⟩
noncomputable def tWs:List bn->TA
 |[]=>Gg
 |w::ws=>YB (tC (.str w)) (tWs ws)
theorem uT{Q:List V->Hp->Prop}:∀{ws:List bn} ,Q (ws.map .str) H->tWs ws σ H Q
 |[],h=>h
 |w::ws,h=>uT (ws:=ws) h
def ZdJ(K:ak)(is iw:Nat):TS:=Jo (xg (ui (tWs Ev.XJ)) (Us iw)) (qB (tOp (Ze3 K) (Jw iw) (tBM K "list" J4 (Jw is) (YB (tC (.bl aj)) Gg))))
def jn:∀c:Nat,c<10->atI (Ev.XJ.map V.str) (c:Int)=aa (.str (Ev.XJ.getD c "")):=by decide +kernel
def Zbp{K:ak}{c iw:Nat}{Dn:Ends}{q:aC}{ρ:Mx}{S:Zr}(hc:c<10)(v:σ[is]?=aa (aa (.ref q)))(hw:iw<σ.length)(hne:iw≠is)(h:H q=aa (.lst ((ZW c).map .bl)))(st:St3 K ρ S H)(k:∀H',Fut ρ H ρ H'->St3 K ρ S H'->Dn.rt (.str (Ev.XJ.getD c "")) H'):ZdJ K is iw Dn σ H:=by
 refine uT ⟨by decide,λp hp=>?_⟩
 have hqp:q≠p:=λz=>by rw[z,hp]at h;cases h
 have h1:upd H p (.lst (Ev.XJ.map V.str)) q=aa (.lst ((ZW c).map .bl)):=by rw[Zi hqp];exact h
 refine⟨.ref p,bg hw,.ref q,by rw[ba hne];exact v,.inl ⟨rfl,_,SqL.of h1⟩,q,ZW c,c,rfl,rfl,h1,ZaF c hc,Zat c hc,p,_,_,_,rfl,rfl,SqL.of Zk,jn c hc,?_⟩
 exact k _ (Zs hp) (st.fresh hp (QM _))
end
structure LamIn(X:Cx)(scope:dQ)(clos:List (bn×aC)):Prop where
 S:LamS scope clos
 cl:∀x c,clos.lookup x=aa c->X.env.cells.lookup x=aa c
 kd:∀x,scope.names.lookup x=aa .free->X.env.scope.names.lookup x=aa .cell
section
variable{X:Cx}{E:XK}{cl:List aC}{Cc:Calls}{i:Ev.E}{xw:Nat->Hp->Prop}
noncomputable def vR(w:Bool)(c:Nat):V:=if w then .str (Ev.XJ.getD c "")else .int c
def ZdR(w:Bool)(c:Nat):Rep ρ H (Pv.jV w c) (vR w c):=by
 cases w
 ·exact ZT _
 ·exact wn _
theorem Zcd{wd:Bool}{rb:TE}{fi:TS}{k:Nat}{f P c S0:aC}{fd:cB}{xf xc xr n xS:bn}{st:eF}{Nr:List bn}{ic ie ir is:Nat}{params:oG}{body:Expr}{scope:dQ}{lp p pos p0 p1 p2 p3 p4 p5 p6 p7 p8 p9 q0 q1:eY}{j0:Nat}{clos:List (bn×aC)}{rest:List eF}{ts:Cx->TT}
  (D:DefX X E)(hfn:∀x,X.fn x=aj)(hr:Room (k+2) X.A)(R:Errs X.K X.mg cl)(hS0:cl[0]?=aa S0)
  (hP:∃ps,X.H₀ P=aa (.tbl ps))(hcode:X.env.code=.ref c)(C:dv X.base c P)(hB:X.base.BuiltinsAt X.mg P)(hgP:bF≠P)(hq:X.env.qual++"<lambda>" = YD)(hcl:iA scope X.env=cC clos)(hdef:defaultsOf params X.env=([],[]))(L:LamIn X scope clos)
  (hbind0:∀pm c' ctv,mB (rg "<lambda>" YD params body scope clos pm (.ref c') ctv) ⟨[],[]⟩=cC [])
  (hbody:∀(g:aC)(c':aC)(A:bQ)(outer:List Env)(s:ax)(H:Hp)(E1:XK),Room k (A.deeper (fC YD scope s.heap.objs.size g (.ref c') clos))->CE (cxL X.prog X.w X.K X.mg X.base X.N scope g (.ref c') clos A outer s H E1) (xwE cl E1) Cc body i)
  (hg:Gl X xf)(hm:X.mg xf=aa (.ref f))(hk:fW X.K (.ref f)=aj)(Fu:Fun X.K xf xf st f fd)(Sc:FnScope Nr [xc] (Zg st))(hb:VR X.K fd [xc] [])(hdb:(xf == ("__debug__" : bn))=al)
  (he:aE [.Lambda params body scope lp] X.env=(al,cR (.Lambda params body scope lp) X.env)::aE [] X.env)(hpl:(dU pos (aE [] X.env)).any (·.1)=al)
  (hst:Zy st=.Assign [.Name xr p0] (.Constant .none j0 q0) q1 :: .Try [.Expr (.Call (.Name xc p1) [] [] p2) p3] [.ExceptHandler (aa (.Name xS p4)) (aa n) [.Assign [.Name xr p5] (.Name n p6) p7] p8] [] [] p9::rest)
  (hN:Nr.Nodup)(hic:Nr[ic]?=aa xc)(hic0:ic=0)(hie:Nr[ie]?=aa n)(hir:Nr[ir]?=aa xr)(his:is<Nr.length)(hne:ir≠is)(hne2:ir≠ie)(hne3:ir≠0)
  (hkc:(Zg st).names.lookup xc=aa .local)(hke:(Zg st).names.lookup n=aa .local)(hkr:(Zg st).names.lookup xr=aa .local)(hkS:∀L f cdv,(dG xf (Zg st) L f cdv).kindOf xS=aa .globalImplicit)(hmS:X.mg xS=aa (.ref S0))
  (hd1:(xc == ("__debug__" : bn))=al)(hd2:(xc == ("__classdict__" : bn))=al)(hd3:(n == ("__debug__" : bn))=al)(hd4:(n == ("__classdict__" : bn))=al)(hd5:(xS == ("__debug__" : bn))=al)
  (hs0:∀L f cdv,eK (.Constant .none j0 q0) (aa (.Name xr p0)) q1.line (dG xf (Zg st) L f cdv)=cC al)(hs1:∀L f cdv,eK (.Call (.Name xc p1) [] [] p2) af p3.line (dG xf (Zg st) L f cdv)=cC al)
  (hs2:∀L f cdv,eK (.Name n p6) (aa (.Name xr p5)) p7.line (dG xf (Zg st) L f cdv)=cC al)
  (hrest:∀(cdv:au)(A:bQ)(outer:List Env)(s:ax)(H:Hp),Room (k+1) (A.deeper (dG xf (Zg st) s.heap.objs.size f cdv))->
   PSs (XG (CX1 X.prog X.w) X.prog X.w X.K X.mg X.base Nr xf (Zg st) f cdv A outer s H E0) rest (WA X.K ir is cl (ts (XG (CX1 X.prog X.w) X.prog X.w X.K X.mg X.base Nr xf (Zg st) f cdv A outer s H E0)) rb fi))
  (hts:∀(Y:Cx)(ρ:Mx)(S:Zr)(e:Nat)(σ':L2.St)(H':Hp)(q:aC)(Q':Bool->Hp->Prop),Y.K=X.K->e<10->σ'[is]?=aa (aa (.ref q))->H' q=aa (.lst ((ZW e).map .bl))->¬ρ.X q->St3 X.K ρ S H'->(∀H2,Fut ρ H' ρ H2->St3 X.K ρ S H2->Q' al H2)->ts Y σ' H' Q')
  (hfi:∀(Dn:Ends)(σ':L2.St)(ρ:Mx)(H':Hp)(S:Zr)(e:Nat)(q:aC),e<10->σ'[is]?=aa (aa (.ref q))->σ'.length=Nr.length->H' q=aa (.lst ((ZW e).map .bl))->St3 X.K ρ S H'->(∀H2,Fut ρ H' ρ H2->St3 X.K ρ S H2->Dn.rt (vR wd e) H2)->fi Dn σ' H') :
  CE X xw Cc (.Call (.Name xf p) [.Lambda params body scope lp] [] pos) (.refu wd i):=by
 rintro pq s σ H Q I ⟨ρ,l,S,st0,lr,h⟩
 obtain⟨ps0,hP0⟩:=hP;obtain⟨more,hPH⟩:=I.base.tbls P ps0 hP0;refine fu (WH I hg hm ?_ hdb);refine nC (h₀:=X.base) I.ok.mod.kin hk ?_ he hpl;rw[he];refine Calls.spliced_cons (jI I st0.tb hPH hcode C hB hgP hq hcl hdef λg c' oc vs t pm ctv H1 s1 I1 gr tb1 _ hg1 hc1 d1 v1=>Calls.spliced_nil ⟨I1.kIn,?_⟩)
 have nx:∀b:aC,b∉([]:List aC):=λb=>by simp
 have hbd:=hb s1 [.ref g] I1.kIn rfl;have st1:=st0.grow gr tb1;have f1:Fut ρ H ρ H1:=gr.fut;refine pK (kh (Ze1 (CX:=CX1 X.prog X.w) (k:=k+1) (Q:=Q) (E:=E0) (us:=[.ref g]) (vs:=[.ref g]) Fu Sc hr I1.env0 (by simpa using hbd) (.cons rfl .nil) rfl λcdv s2 hrm I2=>?_) λr s' hq=>?_)
 rotate_left
 ·cases r with
  |error e=>obtain⟨_,_,_,_,_,_,_,_,_,_,_,_,_,_,z⟩:=hq;exact z.elim
  |ok fl=>
   cases fl with|ret u=>exact I1.after hq|next=>exact False.elim hq|brk=>exact False.elim hq|cont=>exact False.elim hq
 rw[hst]
 let Xr:=XG (CX1 X.prog X.w) X.prog X.w X.K X.mg X.base Nr xf (Zg st) f cdv X.A X.stack s1 H1 E0
 let D0:Ends:={nx:=λ_ H'=>Q .non H',rt:=Q}
 let σ2:L2.St:=(start Nr [.ref g]).set ir (aa .non)
 have b0:=Vq (X:=Xr) (pos:=q1) (pos':=p0) hN hir (.inl hkr) (yy (j:=j0) (pos:=q0)) (hs0 _ _ _) (.inr hkr);refine gf (thn (b0 [] s2 _ H1 {nx:=λσ' H'=>σ'=σ2/\H'=H1,rt:=λ_ _=>False} I2 ⟨rfl,rfl⟩) λfl s3 hq3=>?_)
 cases fl with
 |ret v=>obtain⟨_,_,_,_,_,z⟩:=hq3;exact z.elim
 |brk=>obtain⟨_,_,_,z⟩:=hq3;exact False.elim z
 |cont=>obtain⟨_,_,_,z⟩:=hq3;exact False.elim z
 |next=>
 obtain⟨σx,Hx,I3,z1,z2⟩:=hq3;rw[z1,z2]at I3
 let E1:XK:=λCv _ H'=>∃e Ce S' ρ',Cv=.ref Ce/\cl[e]?=aa Ce/\Pv.pv Cc i l S=.ex e S'/\Fut ρ H1 ρ' H'/\St3 X.K ρ' S' H'
 have hl0:0<Nr.length:=by have:=(aG.mp hic).1;lia
 have hσl:=I3.len;have hirl:ir<σ2.length:=by rw[hσl];exact(aG.mp hir).1
 have hσ0:σ2[ic]?=aa (aa (.ref g)):=by
  rw[hic0,ba hne3];rfl
 have hσr:σ2[ir]?=aa (aa .non):=bg (by simpa[σ2]using hirl)
 have og:=(I3.hok g _ hg1).1;have oc':=(I3.hok c' _ hc1).1;have notin:∀x c0,X.env.cells.lookup x=aa c0->c0∉frs X.stack:=λx c0 hx hb=>by
  rw[D.st]at hb;unfold frs at hb;rw[cy,D.fr]at hb;rcases az.mp hb with z|z
  ·exact I1.cne x c0 hx z
  ·obtain⟨_,o,ho,_⟩:=I1.ok.funs.mem z
   exact T7 (aJ ho) (lG (I1.ok.cab x c0 (hfn x) hx))
 have cellKeep:∀x c0 v,X.env.cells.lookup x=aa c0->s1.heap.IsCell c0 v->s3.heap.IsCell c0 v:=λx c0 v hx ⟨o,ho,hd⟩=>
  ⟨o,I3.base.keep c0 o ho (I1.freeC x c0 hx) (notin x c0 hx) (nx c0),hd⟩
 have hEnd:End X.K (xwE cl E1) Rep ρ H1 (λ_ H'=>WA X.K ir is cl (ts Xr) rb fi D0 σ2 H') (Pv.pv Cc i l S):=by
  have h:End X.K xw Rep ρ H Q (match Pv.pv Cc i l S with
   |.ok _ S=>.ok .non S
   |.ex c S=>if 1<=c/\c<=10 then .ok (Pv.jV wd (c-1)) S else .no
   |.no=>.no):=by
   have h0:=h;rw[Pv.pv]at h0;exact h0
  cases q:Pv.pv Cc i l S with
  |no=>rw[q]at h;exact h.elim
  |ok d S'=>
   rw[q]at h;exact λρ' H' v f st' r=>xD hσr (h ρ' H' .non (f1.trans f) st' V9)
  |ex e S'=>
   rw[q]at h;have hg:=(End.guard h).1;intro ρ' H' f st';have he:e<cl.length:=by rw[R.len];lia
   exact⟨cl[e],ai he,e,cl[e],S',ρ',rfl,ai he,q,f,st'⟩
 refine gf (thn (Za4 (X:=Xr) (E:=E0) (Dn:={nx:=λσ' H'=>WA X.K ir is cl (ts Xr) rb fi D0 σ' H',rt:=λ_ _=>False}) (E1:=E1) (S:=S0) (ic:=ic) (ie:=ie) (ir:=ir) qG I3 hN hic (.inl hkc) hσ0 hie hke hir hkr (hkS _ _ _) hmS ⟨_,_,_,_,og⟩ ?run ?e1 hd1 hd2 hd3 hd4 hd5 (hs1 _ _ _) (hs2 _ _ _)) λfl s4 hq4=>?_)
 case run=>
  exact jE (k:=k) (N:=X.N) (σ:=σ) hrm I3.env0 L.S og ⟨c',oc,vs,t,rfl,oc',d1,v1⟩ (hbind0 pm c' ctv) (λx c0 e=>⟨let ⟨v,z⟩:=I1.cell x c0 (L.cl x c0 e);⟨v,cellKeep x c0 v (L.cl x c0 e) z⟩,I1.freeC x c0 (L.cl x c0 e)⟩) I1.len
   (λj x v e1 e2 fr=>by
    obtain⟨m,hn,hl⟩:=I1.loc;obtain⟨u,r,lk⟩:=hl j x v e1 e2 (.inr (.inl (L.kd x fr)));obtain⟨c1,hc1⟩:=L.S.has x fr;rcases lk with⟨k1,_⟩|⟨_,c0,hc0,z⟩
    ·have k1:X.env.scope.names.lookup x=aa .local:=k1
     rw[L.kd x fr]at k1;cases k1
    ·have:=L.cl x c1 hc1
     rw[hc0]at this;cases this;exact⟨u,c1,r,hc1,cellKeep x c1 _ hc0 z⟩)
   (hbody g c' Xr.A Xr.stack s3 H1 E1 (hrm.deeper _)) ⟨ρ,l,S,st1,lr.mono f1,hEnd⟩
 case e1=>
  rintro Ce H' ⟨e,Ce',S',ρ',z,hce,hev,f,st'⟩
  cases z;have h2:End X.K xw Rep ρ H Q (if 1<=e/\e<=10 then .ok (Pv.jV wd (e-1)) S' else .no):=by
   have h0:=h;rw[Pv.pv,hev]at h0;exact h0
  obtain⟨hge,h3⟩:=End.guard h2;obtain⟨e',rfl⟩:∃e',e=e'+1:=⟨e-1,by lia⟩
  refine⟨R.exm e' Ce S0 hce hS0,λa oe Ha ce=>?_⟩
  have stA:=st'.fresh (o:=.frz oe (.own a)) Ha;have er:ErAt X.K cl ir e' (((σ2.set ie (aa (.ref a))).set ir (aa (.ref a))).set ie af) (upd H' a (.frz oe (.own a))):=
   ⟨a,oe,Ce,by rw[ba (Ne.symm hne2),bg (by rw[bC];exact hirl)],Zk,ce,hce⟩
  have len':(((σ2.set ie (aa (.ref a))).set ir (aa (.ref a))).set ie af).length=Nr.length:=by rw[bC,bC,bC];exact hσl
  refine uM R (by lia) er hne (by rw[len'];exact his) stA (λσ' H2 q Q' a1 a2 a3 a4 a5=>hts Xr ρ' S' e' σ' H2 q Q' rfl (by lia) a1 a2 a3 a4 a5) λσ' H2 q b1 b2 b3 f2 st2=>?_
  refine hfi D0 σ' ρ' H2 S' e' q (by lia) b1 (b2.trans len') b3 st2 λH3 f3 st3=>?_
  exact h3 ρ' H3 (vR wd e') (f1.trans (f.trans ((Zs Ha).trans (f2.trans f3)))) st3 (by rw[Nat.add_sub_cancel];exact ZdR wd e')
 cases fl with
 |ret v=>obtain⟨_,_,_,_,_,z⟩:=hq4;exact z.elim
 |brk=>obtain⟨_,_,_,z⟩:=hq4;exact False.elim z
 |cont=>obtain⟨_,_,_,z⟩:=hq4;exact False.elim z
 |next=>
  obtain⟨σ4,H4,I4,q4⟩:=hq4;exact hrest cdv X.A X.stack s1 H1 hrm [] s4 σ4 H4 D0 I4 q4
end
noncomputable def ksum(is:Nat):Ev.E:=.cmp .ne (.blt .sum [.comp1 [] 1 [0] (.of (.v is)) [] (.blt .toInt [.v 0])]) (.c (.int 1))
section
variable{Cc:Calls}{S:Zr}{is:Nat}{l:Lc}
theorem xU:∀(bs:List Bool),Pv.mapP (λx s=>(Pv.po (Pv.Zo [0] x (Pv.Z5 [] 1 l)) s).bind λσ s=>(Pv.pvt Cc [] σ s).bind λb s=>if b then(Pv.pv Cc (.blt .toInt [.v 0]) σ s).bind λy s=>.ok [y] s else .ok [] s) (bs.map .bl) S=.ok (bs.map λb=>.int (Ev.b2i b)) S
 |[]=>rfl
 |b::bs=>by
  rw[aW,Pv.mapP,show((Pv.po (Pv.Zo [0] (Pv.V.bl b) (Pv.Z5 [] 1 l)) S).bind λσ s=>(Pv.pvt Cc [] σ s).bind λb s=>if b then(Pv.pv Cc (.blt .toInt [.v 0]) σ s).bind λy s=>.ok [y] s else .ok [] s)=Pv.PR.ok [Pv.V.int (Ev.b2i b)] S from rfl]
  dsimp only
  rw[xU bs];rfl
theorem zX:∀(bs:List Bool),Pv.intsV (bs.map λb=>Pv.V.int (Ev.b2i b))=aa (bs.map Ev.b2i)
 |[]=>rfl
 |b::bs=>by rw[aW,Pv.intsV,zX bs];rfl
def vh:∀e,e<10->((ZW e).map Ev.b2i).sum=1/\Ev.qX ((ZW e).map Ev.b2i)=aj:=by decide
def ZaW(he:e<10)(hl:l[is]?=aa (aa (.lst ((ZW e).map .bl)))):Pv.YN Cc (ksum is) l S=.ok al S:=by
 have w:Pv.pvw Cc (.of (.v is)) l S=.ok ((ZW e).map .bl) S:=by
  rw[Pv.pvw,Pv.pv,hl];rfl
 have c1:Pv.pv Cc (.comp1 [] 1 [0] (.of (.v is)) [] (.blt .toInt [.v 0])) l S=.ok (.lst ((ZW e).map λb=>.int (Ev.b2i b))) S:=by
  rw[Pv.pv,T9 (show Pv.own 1 [0]=aj from rfl),w]
  rw[show ∀(a:List Pv.V)(s:Pv.DS)(f:List Pv.V->Pv.DS->Pv.PR Pv.V),(Pv.PR.ok a s).bind f=f a s from λ_ _ _=>rfl,xU]
  rfl
 have c2:Pv.pv Cc (.blt .sum [.comp1 [] 1 [0] (.of (.v is)) [] (.blt .toInt [.v 0])]) l S=.ok (.int 1) S:=by
  rw[Pv.pv,Pv.pvs,c1];show Pv.po (Pv.Xk .sum [.lst ((ZW e).map λb=>.int (Ev.b2i b))]) S=_
  unfold Pv.Xk Pv.blt1;simp only[zX,Option.bind,(vh e he).2,if_true,(vh e he).1];rfl
 unfold Pv.YN ksum;rw[Pv.pv,c2];rfl
end
section
variable{X:Cx}{cl:List aC}{ir is:Nat}{Cc:Calls}
def Zdm{Q':Bool->Hp->Prop}{xw:Nat->Hp->Prop}(he:e<10)(h1:σ'[is]?=aa (aa (.ref q)))(h2:H' q=aa (.lst ((ZW e).map .bl)))(h3:¬ρ.X q)(st:St3 Y.K ρ S H')
  (hQ:∀H2,Fut ρ H' ρ H2->St3 Y.K ρ S H2->Q' al H2):tB3 Y xw (Pv.YN Cc (ksum is)) σ' H' Q':=by
 have hl:=(aG.mp h1).1;refine⟨ρ,(aH σ'.length af).set is (aa (.lst ((ZW e).map .bl))),S,st,⟨by simp,λi d e1=>?_⟩,?_⟩
 ·by_cases z:i=is
  ·subst z
   rw[bg (by simpa using hl)]at e1
   cases e1;exact⟨.ref q,h1,Wa h2 h3 (wX _)⟩
  ·rw[ba (Ne.symm z),cx]at e1
   split at e1<;>cases e1
 ·rw[ZaW he (bg (by simpa using hl))]
  exact λρ2 H2 v f s2 r=>by
   have r:=r;subst r;obtain rfl:=f.eq;exact hQ H2 f s2
def ZbS{xr xs:bn}{ts:TT}{rb:TE}{fi:TS}{badE:Expr}{last:List eF}{sumE:Expr}{P:Nat->eY}{J:Nat->Nat}(R:Errs X.K X.mg cl)(hN:X.N.Nodup)(hi:X.N[ir]?=aa xr)(hv:X.env.scope.names.lookup xr=aa .local)(hj:X.N[is]?=aa xs)(hw:X.env.scope.names.lookup xs=aa .local)
  (g0:Gl X "isinstance")(m0:X.mg "isinstance" = af)(g1:Gl X "ValueError")(m1:X.mg "ValueError" = af)(gc:∀x∈YX,Gl X x)
  (r1:(xr == ("__debug__" : bn))=al)(r2:(xr == ("__classdict__" : bn))=al)(s1:(xs == ("__debug__" : bn))=al)(s2:(xs == ("__classdict__" : bn))=al)(hs:PT X sumE ts)
  (l1:((P 30).endLine == (P 31).line)=aj)(hbad:PE X badE rb)(hlast:PSs X last fi) :
  PSs X (.If (.Compare (.Name xr (P 0)) [.Is] [.Constant .none (J 0) (P 1)] (P 2)) [.Return (aa (.Constant .none (J 1) (P 3))) (P 4)] [] (P 5) ::
   .Assign [.Name xs (P 6)] (.List [.Call (.Name "isinstance" (P 40)) [.Name xr (P 41),.Name "NoRow" (P 42)] [] (P 43),.Call (.Name "isinstance" (P 44)) [.Name xr (P 45),.Name "NoPart" (P 46)] [] (P 47),.Call (.Name "isinstance" (P 48)) [.Name xr (P 49),.Name "NoNumber" (P 50)] [] (P 51)] (P 7)) (P 8) ::
   .Assign [.Name xs (P 9)] (.BinOp (.Name xs (P 10)) .Add (.List [.Call (.Name "isinstance" (P 52)) [.Name xr (P 53),.Name "NoHeads" (P 54)] [] (P 55),.Call (.Name "isinstance" (P 56)) [.Name xr (P 57),.Name "NotBeside" (P 58)] [] (P 59),.Call (.Name "isinstance" (P 60)) [.Name xr (P 61),.Name "NotIn" (P 62)] [] (P 63)] (P 11)) (P 12)) (P 13) ::
   .Assign [.Name xs (P 14)] (.BinOp (.Name xs (P 15)) .Add (.List [.Call (.Name "isinstance" (P 64)) [.Name xr (P 65),.Name "NoTurn" (P 66)] [] (P 67),.Call (.Name "isinstance" (P 68)) [.Name xr (P 69),.Name "NoLot" (P 70)] [] (P 71),.Call (.Name "isinstance" (P 72)) [.Name xr (P 73),.Name "TooMany" (P 74)] [] (P 75)] (P 16)) (P 17)) (P 18) ::
   .Expr (.Call (.Attribute (.Name xs (P 19)) "append" (P 30)) [.Call (.Name "isinstance" (P 76)) [.Name xr (P 77),.Name "BadNote" (P 78)] [] (P 79)] [] (P 31)) (P 20) ::
   .If (.BoolOp .Or [.UnaryOp .Not (.Call (.Name "isinstance" (P 80)) [.Name xr (P 81),.Name "ValueError" (P 82)] [] (P 83)) (P 21),sumE] (P 22)) [.Return (aa badE) (P 25)] [] (P 26) ::
   last) (WA X.K ir is cl ts rb fi):=by
 have cj:∀j (x:bn),j<11->YX[j]?=aa x->X.mg x=aa (.ref (cl.getD j 0)):=λj x hj e=>by
  have hl:j<cl.length:=by rw[R.len];exact hj
  exact R.nm j _ x (by rw[ai hl,aF,ai hl];rfl) e
 have vr:Vis X.env.scope xr:=.inl hv;have vs:Vis X.env.scope xs:=.inl hw;have is:∀{a b c d:eY}(j:Nat)(x:bn),j<11->YX[j]?=aa x->(x == ("__debug__" : bn))=al->PE X (.Call (.Name "isinstance" a) [.Name xr b,.Name x c] [] d) (tIs X.K ir (.ref (cl.getD j 0))):=λj x h e hd=>
  Zei hi vr g0 m0 (gc x (cN e)) (cj j x h e) r1 r2 hd
 unfold WA
 dsimp only
 refine Yp (jJ (ZdI (Zdl (Yk hi vr r1 r2))) (WN (VD yy)) JP) ?_;refine Yp (Vq hN hj (.inl hw) (UP (Zw (is 1 "NoRow" (by decide) rfl (by decide)) (Zw (is 2 "NoPart" (by decide) rfl (by decide)) (Zw (is 3 "NoNumber" (by decide) rfl (by decide)) Yj)))) rfl (.inr hw)) ?_
 refine Yp (Vq hN hj (.inl hw) (VJ yJ (Yk hj vs s1 s2) (UP (Zw (is 4 "NoHeads" (by decide) rfl (by decide)) (Zw (is 5 "NotBeside" (by decide) rfl (by decide)) (Zw (is 6 "NotIn" (by decide) rfl (by decide)) Yj))))) rfl (.inr hw)) ?_
 refine Yp (Vq hN hj (.inl hw) (VJ yJ (Yk hj vs s1 s2) (UP (Zw (is 7 "NoTurn" (by decide) rfl (by decide)) (Zw (is 8 "NoLot" (by decide) rfl (by decide)) (Zw (is 9 "TooMany" (by decide) rfl (by decide)) Yj))))) rfl (.inr hw)) ?_
 refine Yp (Go (wv fe PySem.F.slot_list_append PySem.F.type_list_append Jg (Yk hj vs s1 s2) (Zw (is 10 "BadNote" (by decide) rfl (by decide)) Yj) rfl rfl l1 rfl rfl) rfl) ?_
 exact Yp (jJ (PW.pt (ZcO (j6 (ZdO (Zd5 hi vr g0 m0 g1 m1 r1 r2))) (u6 hs))) (WN (VD hbad)) JP) hlast
def Zeg{xs:bn}{P:Nat->eY}{J:Nat->Nat}(hj:X.N[is]?=aa xs)(hw:X.env.scope.names.lookup xs=aa .local)(s1:(xs == ("__debug__" : bn))=al)(s2:(xs == ("__classdict__" : bn))=al)(l2:((P 32).endLine == (P 33).line)=aj) :
  PSs X [.Return (aa (.Call (.Attribute (.Name xs (P 27)) "index" (P 32)) [.Constant (.bool aj) (J 3) (P 28)] [] (P 33))) (P 29)] (ZdA X.K is):=
 WN (VD (wv fe lH lI zd (Yk hj (.inl hw) s1 s2) (Zw qF Yj) rfl rfl l2 rfl rfl))
def Zfh{P:Nat->eY}{J:Nat->Nat}:PE X (.UnaryOp .USub (.Constant (.int 1) (J 2) (P 23)) (P 24)) rbI:=ZcJ jS Ws
structure BS(X:Cx)(s:eF)(t:TS):Prop where
 h:PS X s t
structure BSs(X:Cx)(s:List eF)(t:TS):Prop where
 h:PSs X s t
def Zci(hN:X.N.Nodup)(hk:X.N[iw]?=aa xw)(hv:X.env.scope.names.lookup xw=aa .local)(h:PA X es ta):BS X (.Assign [.Name xw p1] (.List es p2) p3) (xg (ui ta) (Us iw)):=
 ⟨Vq hN hk (.inl hv) (UP h) rfl (.inr hv)⟩
def ZbM(h1:BS X s1 t1)(h2:BS X s2 t2):BSs X [s1,s2] (Jo t1 t2):=⟨Yp h1.h (WN h2.h)⟩
structure BA(X:Cx)(es:List Expr)(ws:List bn):Prop where
 h:PA X es (tWs ws)
def paW(h:BA X es ws):BA X (.Constant (.str x) 0 p::es) (x::ws):=⟨Zw Gp h.h⟩
def Zfd:BA X [] []:=⟨Yj⟩
def ZdP{P:Nat->eY}:BA X [.Constant (.str "row") 0 (P 102),.Constant (.str "part") 0 (P 103),.Constant (.str "number") 0 (P 104),.Constant (.str "heads") 0 (P 105),.Constant (.str "not beside") 0 (P 106),.Constant (.str "not in") 0 (P 107),.Constant (.str "turn") 0 (P 108),.Constant (.str "lot") 0 (P 109),.Constant (.str "many") 0 (P 110),.Constant (.str "note") 0 (P 111)] Ev.XJ:=
 paW (paW (paW (paW (paW (paW (paW (paW (paW (paW Zfd)))))))))
def Zez{xs xw:bn}{iw:Nat}{P:Nat->eY}(hN:X.N.Nodup)(hj:X.N[is]?=aa xs)(hw:X.env.scope.names.lookup xs=aa .local)(s1:(xs == ("__debug__" : bn))=al)(s2:(xs == ("__classdict__" : bn))=al)(hk:X.N[iw]?=aa xw)(hv:X.env.scope.names.lookup xw=aa .local)(t1:(xw == ("__debug__" : bn))=al)(t2:(xw == ("__classdict__" : bn))=al)(l2:((P 32).endLine == (P 33).line)=aj) :
  BSs X [.Assign [.Name xw (P 34)] (.List [.Constant (.str "row") 0 (P 102),.Constant (.str "part") 0 (P 103),.Constant (.str "number") 0 (P 104),.Constant (.str "heads") 0 (P 105),.Constant (.str "not beside") 0 (P 106),.Constant (.str "not in") 0 (P 107),.Constant (.str "turn") 0 (P 108),.Constant (.str "lot") 0 (P 109),.Constant (.str "many") 0 (P 110),.Constant (.str "note") 0 (P 111)] (P 35)) (P 36),
   .Return (aa (.Subscript (.Name xw (P 37)) (.Call (.Attribute (.Name xs (P 27)) "index" (P 32)) [.Constant (.bool aj) 0 (P 28)] [] (P 33)) (P 38))) (P 29)] (ZdJ X.K is iw):=by
 refine ZbM (Zci hN hk hv ZdP.h) ⟨?_⟩;refine VD (vn Ue (Yk hk (.inl hv) t1 t2) (wv fe lH lI zd (Yk hj (.inl hw) s1 s2) (Zw qF Yj) rfl rfl l2 rfl rfl) ?_);intro _ _;with_unfolding_all rfl
end
end Sd
namespace Gn
open PySem PySem.Spec PyProof.Rows L2
open Ev (E Sm Fn Bop Cop Ty Bf Mf)
open Sd (hu7 Calls CX1 spX xwE Errs Cls1 DefX)
structure Cls(K:ak)(mg:bn->Option au)(base:bX)(cl:List aC):Prop where
 er:Errs K mg cl
 rs:∀(c:Nat)(S C:aC),cl[0]?=aa S->cl[c+1]?=aa C->Cls1 base S C
def xC(P:bq)(w:bK)(K:ak)(mg:bn->Option au)(base:bX)(cl:List aC)(fs:List FR)(F:List Fn)(tk sn:Nat)(f:Nat->aC)(fd:Nat->cB)(d:Nat):Prop:=
 ∀i r,fs[i]?=aa r->FnOk P w K mg base (CX1 P w) d (f i) (fd i) r.ps (spX K cl (Pv.Zn F tk d) (ag (i=sn)) i)
def BdX(fs:List FR)(zs:List bn)(gs:List (bn×Gv))(F:List Fn)(tk sn:Nat)(i:Nat)(r:FR)(fn:Fn):Prop:=
 ∀(P:bq)(w:bK)(K:ak)(mg:bn->Option au)(base:bX)(cl:List aC)(f:Nat->aC)(fd:Nat->cB)(d:Nat),Top K mg fs zs gs f fd->Cls K mg base cl->xC P w K mg base cl fs F tk sn f fd d->r.N.Nodup->
  ∀(cdv:au)(A:bQ)(outer:List Env)(s:ax)(H:Hp)(E:XK),Room d (A.deeper (dG r.x (Zg r.st) s.heap.objs.size (f i) cdv))->(A.deeper (dG r.x (Zg r.st) s.heap.objs.size (f i) cdv)).units+7<dz->
   Bx (Sd.CSs (XG (CX1 P w) P w K mg base r.N r.x (Zg r.st) (f i) cdv A outer s H E) (xwE cl E) (ag (i=sn)) (Pv.Zn F tk d) (Pv.muts fn.body) (Zy r.st) fn.body)
def OkX(fs:List FR)(zs:List bn)(gs:List (bn×Gv))(F:List Fn)(tk sn:Nat):Nat->List FR->List Fn->Prop
 |_,[],[]=>True
 |i,r::rs,fn::fns=>(fn.ns=r.N.length/\fn.ps=r.ps.length/\scB r.N r.k (Zg r.st)=aj/\BdX fs zs gs F tk sn i r fn)/\OkX fs zs gs F tk sn (i+1) rs fns
 |_,_,_=>False
theorem OkX.get :∀{rs:List FR}{fns:List Fn}{i0:Nat},OkX fs zs gs F tk sn i0 rs fns->∀i r,rs[i]?=aa r->∃fn,fns[i]?=aa fn/\fn.ns=r.N.length/\fn.ps=r.ps.length/\scB r.N r.k (Zg r.st)=aj/\BdX fs zs gs F tk sn (i0+i) r fn
 |[],_,_,_,i,r,e=>by simp at e
 |_::_,[],_,h,_,_,_=>h.elim
 |r::rs,fn::fns,i0,h,0,r',e=>by
  simp at e;subst e;exact⟨fn,rfl,h.1.1,h.1.2.1,h.1.2.2.1,h.1.2.2.2⟩
 |r::rs,fn::fns,i0,h,i+1,r',e=>by
  obtain⟨g,a,b,c,d,q⟩:=OkX.get h.2 i r' (by simpa using e)
  exact⟨g,by simpa using a,b,c,d,by rw[lh,ki 1 i]at q;exact q⟩
theorem wA{P:bq}{w:bK}{K:ak}{mg:bn->Option au}{base:bX}{cl:List aC}{fs:List FR}{zs:List bn}{gs:List (bn×Gv)}{F G:List Fn}{tk sn:Nat}{f:Nat->aC}{fd:Nat->cB}(O:OkX fs zs gs F tk sn 0 fs G)(hG:∀(i:Nat)(fn:Fn),G[i]?=aa fn->F[i]?=aa fn)(hT:F[tk]?=aa Sd.Wv)(T:Top K mg fs zs gs f fd)(L:Cls K mg base cl):∀d,xC P w K mg base cl fs F tk sn f fd d
 |0=>λi r h=>Sd.jT
 |d+1=>λi r h=>by
  obtain⟨fn,a,b,c,e,q⟩:=O.get i r h;rw[Nat.zero_add]at q;have S:=Vm e;have a:=hG i fn a;have hb:=λcdv A outer s H E hr=>(q P w K mg base cl f fd d T L (wA O hG hT T L d) S.nd cdv A outer s H E hr (hu7 hr)).h
  by_cases ht:i=tk
  ·subst ht
   rw[hT]at a;cases a;exact Sd.zT Sd.ZbY b c (T.d i r h) S hb
  ·exact Sd.zT (Sd.wU ht a) b c (T.d i r h) S hb
section
variable{X:Cx}{xw:Nat->Hp->Prop}{C:Calls}{e a b:Expr}{i j:Ev.E}{es:List Expr}{is:List Ev.E}{pos p p2 p3 jp np cpos:eY}{fs:List FR}{zs:List bn}{gs:List (bn×Gv)}{F:List Fn}{tk sn:Nat}{f:Nat->aC}{fd:Nat->cB}{d:Nat}{cl:List aC}{fr:Bool}{ns:List Nat}
def Zan{n:Nat}{x:bn}{E:XK}(D:DefX X E)(T:Top X.K X.mg fs zs gs f fd)(h:xC X.prog X.w X.K X.mg X.base cl fs F tk sn f fd d)(hr:Room d X.A)(ha:Bx (Sd.CA X (xwE cl E) (Pv.Zn F tk d) (e::es) is))(hx:(fs[n]?).map FR.x=aa x)(hg:Gl X x)(hdb:(x == ("__debug__" : bn))=al)
  (he:aE (e::es) X.env=(al,cR e X.env)::aE es X.env)(hpl:(dU pos (aE es X.env)).any (·.1)=al):Bx (Sd.CE X (xwE cl E) (Pv.Zn F tk d) (.Call (.Name x p) (e::es) [] pos) (.call n is)):=by
 cases e0:fs[n]? with
 |none=>rw[e0]at hx;cases hx
 |some r=>
  rw[e0]at hx;obtain rfl:r.x=x:=am hx;exact⟨Sd.zZ (h n r e0) hr (Sd.Zcp D) (λ_ _ z=>z) (T.m n r e0) (T.d n r e0).kp (T.b n r e0) ha.h hg hdb he hpl⟩
def ZcT(T:Top X.K X.mg fs zs gs f fd)(h:xC X.prog X.w X.K X.mg X.base cl fs F tk sn f fd d)(hr:Room d X.A)(ha:Bx (Sd.CA X Sd.nx (Pv.Zn F tk d) (e::es) is))(hx:(fs[n]?).map FR.x=aa x)(hg:Gl X x)(hdb:(x == ("__debug__" : bn))=al)
  (he:aE (e::es) X.env=(al,cR e X.env)::aE es X.env)(hpl:(dU pos (aE es X.env)).any (·.1)=al):Bx (Sd.CE X Sd.nx (Pv.Zn F tk d) (.Call (.Name x p) (e::es) [] pos) (.call n is)):=by
 cases e0:fs[n]? with
 |none=>rw[e0]at hx;cases hx
 |some r=>
  rw[e0]at hx;obtain rfl:r.x=x:=am hx;exact⟨Sd.zZ (h n r e0) hr Sd.ZeP (λ_ _ z=>z.elim) (T.m n r e0) (T.d n r e0).kp (T.b n r e0) ha.h hg hdb he hpl⟩
def Zc3{x y:bn}{n k:Nat}{px p':eY}{ss:List eF}{B:List Sm}{E:XK}(D:DefX X E)(T:Top X.K X.mg fs zs gs f fd)(h:xC X.prog X.w X.K X.mg X.base cl fs F tk sn f fd d)(hr:Room d X.A)(ha:Bx (Sd.CA X (xwE cl E) (Pv.Zn F tk d) (e::es) is))(hB:Bx (Sd.CSs X (xwE cl E) fr (Pv.Zn F tk d) ns ss B))(hN:X.N.Nodup)(hx:(fs[k]?).map FR.x=aa y)(hk:k=sn)
  (hg:Gl X y)(hdb:(y == ("__debug__" : bn))=al)(he:aE (e::es) X.env=(al,cR e X.env)::aE es X.env)(hpl:(dU p (aE es X.env)).any (·.1)=al)(hi:X.N[n]?=aa x)(hl:L2.Loc X.env.scope x)(hf:X.fn x=aj\/X.env.scope.names.lookup x=aa .local)
  (hs:dJ [.Name x px] (.Call (.Name y p') (e::es) [] p) pos.line X.env=cC al)(hw:dL [.Name x px] (.Call (.Name y p') (e::es) [] p) X.env=cC af)(h1:(cD [.Name x px] X.env).map (·.2)=[d7 (.Name x px) X.env]) :
  Bx (Sd.CSs X (xwE cl E) fr (Pv.Zn F tk d) ns (.Assign [.Name x px] (.Call (.Name y p') (e::es) [] p) pos::ss) [.cel n k is B]):=by
 cases e0:fs[k]? with
 |none=>rw[e0]at hx;cases hx
 |some r=>
  rw[e0]at hx;obtain rfl:r.x=y:=am hx;have q:=h k r e0;rw[T5 hk]at q;refine⟨Sd.ZdU (Sd.PE.imp (wK q hr hg (T.m k r e0) (T.d k r e0).kp (T.b k r e0) .nil (Sd.Zcp D) ha.h hdb he hpl) λσ H Q z=>?_) hB.h hN hi hl hf hs hw h1⟩
  unfold ZcR;simp only[cT];exact z
theorem Ze0{c:Nat}{x y:bn}{k:Nat}{E:XK}(D:DefX X E)(hc:X.calm=aj)(L:Cls X.K X.mg X.base cl)(hx:Sd.YX[c+1]?=aa x)(hg:Gl X x)(hd:(x == ("__debug__" : bn))=al)
  (he:aE [.Constant (.str y) k p] X.env=(al,cR (.Constant (.str y) k p) X.env)::aE [] X.env)(hpl:(dU cpos (aE [] X.env)).any (·.1)=al) :
  Bx (Sd.CS X (xwE cl E) fr C ns (.Raise (aa (.Call (.Name x np) [.Constant (.str y) k p] [] cpos)) af pos) (.raise (c+1) [])):=by
 have hl:c+1<cl.length:=by rw[L.er.len];have:=(aG.mp hx).1;exact this
 have h0:0<cl.length:=by lia
 exact⟨Sd.Zam D hc (L.rs c _ _ (ai h0) (ai hl)) (ai hl) hg (L.er.nm (c+1) _ x (ai hl) hx) hd he hpl⟩
end
end Gn
namespace Gn
open PySem PySem.Spec PyProof.Rows L2
open Ev (E Sm Fn Bop Cop Ty Bf Mf)
open Sd (Calls CX1 spX xwE Errs Cls1 DefX St3 End Rep Rq LocR V9)
def spL(Pt:aC)(K:ak)(cl:List aC)(C:Calls)(n:Nat):Sp:=λvs H Q E=>(∃ps,H Pt=aa (.tbl ps))/\spX K cl C al n vs H Q E
section
variable{P:bq}{w:bK}{K:ak}{mg:bn->Option au}{base:bX}{cl:List aC}
def jk{C C':Calls}{n:Nat}{fn:Fn}{x qual:bn}{st:eF}{f c Pt:aC}{fd:cB}{N ps:List bn}{k:Nat}(hF:∀ρ S H ds vs,St3 K ρ S H->Rq ρ H ds vs->C' n ds S=.no\/C' n ds S=Sd.JS C fn ds S)(hns:fn.ns=N.length)(hps:fn.ps=ps.length)(Fu:Fun K x qual st f fd)(S:FnScope N ps (Zg st))(hcd:fd.code=.ref c)
  (hb:∀(A:bQ)(outer:List Env)(s:ax)(H:Hp)(E:XK),(∃ps,H Pt=aa (.tbl ps))->Room k (A.deeper (dG qual (Zg st) s.heap.objs.size f (.ref c)))->
   Sd.CSs (XG (CX1 P w) P w K mg base N qual (Zg st) f (.ref c) A outer s H E) (xwE cl E) al C (Pv.muts fn.body) (Zy st) fn.body) :
  FnOk P w K mg base (CX1 P w) (k+1) f fd ps (spL Pt K cl C' n):=by
 have eq:∀{ρ S H ds vs Q E},St3 K ρ S H->Rq ρ H ds vs->End K (xwE cl E) (Sd.XT al H) ρ H Q (C' n ds S)->End K (xwE cl E) (Sd.XT al H) ρ H Q (Sd.JS C fn ds S):=λ{ρ S H ds vs Q E} st r h=>by
  rcases hF ρ S H ds vs st r with e|e
  ·rw[e]at h;exact h.elim
  ·rw[e]at h;exact h
 obtain⟨oc,od,kV,doc,pm,an,cdv,ct,osl,rfl,lk,hcode⟩:=Fu.ex;obtain rfl:cdv=.ref c:=hcd;refine Zcm lk hcode S (λvs H Q E ⟨_,ρ,ds,S,st,r,h⟩=>?_) λA outer s H vs Q E hr ⟨hP,ρ,ds,S',st,r,h⟩=>⟨_,hb A outer s H E hP hr,ρ,H,λ_=>af,Pv.ZM fn.ns ds,[],S',st,Sd.Eu.start st r N fn.ns hns,Sd.G8 (λ_ _ q=>q) (λ_ _ q=>q) (eq st r h)⟩
 have h:=eq st r h;obtain⟨hl,_⟩:=Sd.End.guard h;rw[r.length,hl,hps]
def ZbP(hO:Sd.wm Pt H)(hS:SqL K H a (ns.map V.int))(h:∀s,∃S',C n [.scr ns] s=.ok (.bl aj) S'):spL Pt K cl C n [.ref a] H (λv _=>v=.bl aj) λ_ _ _=>False:=by
 obtain⟨S',e⟩:=h (0,al);have sc:Sd.Scr K H a ns:=by
  rcases hS with(hS|hS)|hS
  ·by_cases z:a=Pt
   ·rw[z,hO.1]at hS;cases hS
   ·rcases hO.2 a z with z|⟨o,xs,z⟩
    ·rw[z]at hS;cases hS
    ·rw[z]at hS;cases hS
  ·exact .inl hS
  ·exact .inr hS
 refine⟨⟨_,hO.1⟩,⟨K,af,λ_=>False,λ_ h=>by cases h⟩,[.scr ns],(0,al),⟨rfl,λ_ h=>h.elim,λ_ h=>(by cases h),λQ ps e=>?_⟩,Sd.Rq.cons (by exact⟨a,rfl,sc⟩) Sd.Rq.nil,?_⟩
 ·by_cases z:Q=Pt
  ·subst z
   rw[hO.1]at e;cases e;exact⟨trivial,λpos cv q=>by cases q⟩
  ·rcases hO.2 Q z with z|⟨_,_,z⟩<;>(rw[z]at e;cases e)
 ·rw[e]
  exact λρ' H' v _ _ r=>r.1.bl'
end
def BdL(fs:List FR)(zs:List bn)(gs:List (bn×Gv))(F:List Fn)(tk sn:Nat)(r:FR)(fn:Fn):Prop:=
 ∀(P:bq)(w:bK)(K:ak)(mg:bn->Option au)(base:bX)(cl:List aC)(f:Nat->aC)(fd:Nat->cB)(fL c Pt:aC)(d:Nat),Top K mg fs zs gs f fd->Cls K mg base cl->xC P w K mg base cl fs F tk sn f fd d->r.N.Nodup->
  dv base c Pt->base.BuiltinsAt mg Pt->bF≠Pt->
  ∀(A:bQ)(outer:List Env)(s:ax)(H:Hp)(E:XK),(∃ps,H Pt=aa (.tbl ps))->Room (d+2) (A.deeper (dG r.x (Zg r.st) s.heap.objs.size fL (.ref c)))->(A.deeper (dG r.x (Zg r.st) s.heap.objs.size fL (.ref c))).units+7<dz->
   Bx (Sd.CSs (XG (CX1 P w) P w K mg base r.N r.x (Zg r.st) fL (.ref c) A outer s H E) (xwE cl E) al (Pv.Zn F tk d) (Pv.muts fn.body) (Zy r.st) fn.body)
end Gn
namespace Gn
open PySem PySem.Spec PyProof.Rows L2 PySem.W
open Sd (Errs Cls1 ExK YX veM)
noncomputable def ZbO(K:Frag)(cl:List aC)(i:Nat)(C:aC):Bool:=
 excIn K C veM "ValueError.__new__" && ((clsIn K C).isSome&&(rc K (.ref C) "__getattribute__" == aa (aa (.builtin "BaseException.__getattribute__"))&&(rc K (.ref C) "__getattr__" == aa af &&
  (rc K (.ref C) "__class__" == aa (aa (.builtin "object.__class__"))&&(mroIn K C (.type "BaseException") == aa aj&&(mroIn K C (.type "object") == aa aj&&(kitOne K (.ref C) (.type "ValueError") == aa aj &&
   (exmOne K (.ref C) (.ref (cl.getD 0 0)) == aa aj&&(cl.drop 1).zipIdx.all λq=>kitOne K (.ref C) (.ref q.1) == aa (ag (i=q.2))))))))))
noncomputable def Qu(K:Frag)(cl:List aC):Bool:=
 decide (cl.length=11)&&((cl.zip YX).all (λq=>nsIn K bF q.2 == aa (aa (.ref q.1)))&&(cl.drop 1).zipIdx.all λq=>ZbO K cl q.2 q.1)
def UY{α:Type}{l:List α}{f:α×Nat->Bool}(h:l.zipIdx.all f=aj){i:Nat}{a:α}(e:l[i]?=aa a):f (a,i)=aj:=by
 refine bf.mp h (a,i) ?_;rw[iV];exact e
section
variable{K:Frag}{cl:List aC}
def G6(h:Qu K cl=aj){i:Nat}{C:aC}(e:cl[i+1]?=aa C):ZbO K cl i C=aj:=by
 unfold Qu at h;rw[aD,aD]at h;have e1:(cl.drop 1)[i]?=aa C:=by rw[fA,ki];exact e
 exact UY h.2.2 e1
def ZbJ{hh:bX}{mg:bn->Option au}(X:K.In hh)(G:hh.Ns bF mg)(h:Qu K cl=aj):Errs K mg cl:=by
 have h0:=h;unfold Qu at h0;rw[aD,aD,T0]at h0;obtain⟨hl,hn,_⟩:=h0;have parts:∀{i:Nat}{C:aC},cl[i+1]?=aa C->_:=λ{i C} e=>by
  have:=G6 h e;unfold ZbO at this;simp only[aD,beq_iff_eq]at this;exact this
 refine⟨hl,λj C x e1 e2=>?_,λj C e=>?_,λi j C D e1 e2=>?_,λi C e=>?_,λi C S e1 e2=>?_⟩
 ·have:=bf.mp hn (C,x) (cN (by rw[gu];exact⟨e1,e2⟩))
  exact mg_of X G (beq_iff_eq.mp this)
 ·obtain⟨_,a,b,c,d,e5,e6,_⟩:=parts e
  exact⟨a,b,c,d,e5,e6⟩
 ·obtain⟨_,_,_,_,_,_,_,_,_,z⟩:=parts e1
  have e3:(cl.drop 1)[j]?=aa D:=by rw[fA,ki];exact e2
  exact beq_iff_eq.mp (UY z e3)
 ·obtain⟨_,_,_,_,_,_,_,z,_⟩:=parts e
  exact z
 ·obtain⟨_,_,_,_,_,_,_,_,z,_⟩:=parts e1
  have:cl.getD 0 0=S:=by rw[aF,e2];rfl
  rw[this]at z;exact z
def Zds(X:K.In base)(q:excIn K C veM "ValueError.__new__" = aj):Cls1 base S C:=by
 unfold excIn at q;split at q
 case h_2=>cases q
 case h_1 d0 k sl lk=>
  split at q
  case h_2=>cases q
  case h_1 c0 rest s0 s1 s2 s3 made s5 em es=>
   repeat rw[aD]at q
   obtain⟨⟨⟨⟨⟨y1,y2⟩,y3⟩,y4⟩,y5⟩,y6⟩:=q;cases beq_iff_eq.mp y1;cases beq_iff_eq.mp y2;have y3:k.hasDel=al:=by simpa using y3
   cases k;cases em;cases y3;have es:=lE.mp es;cases es;exact⟨rest,_,_,_,_,_,_,_,_,_,d0,s0,s1,s2,s3,s5,_,X _ _ lk,.of_isNs (isNs_of_in X y5),nsMap_none_of_in X y5 (beq_iff_eq.mp y6),tail_of_in X y4⟩
def Zcg(X:K.In hh)(G:hh.Ns bF mg)(XB:K.In base)(h:Qu K cl=aj):Cls K mg base cl:=by
 refine⟨ZbJ X G h,λc S C e0 e1=>Zds XB ?_⟩
 have:=G6 h e1;unfold ZbO at this;rw[aD]at this;exact this.1
end
end Gn
namespace Gn
open PySem PySem.Spec PyProof.Rows L2
open Ev (E Sm Fn Bop Cop Ty Bf Mf)
open Sd (Calls CX1)
def Zck{l:l8}{w:bK}{K:ak}{h:bX}{mg:bn->Option au}{fa c Pt aL:aC}{fs:List FR}{zs:List bn}{gs:List (bn×Gv)}{F G:List Fn}{tk sn L:Nat}{fnL:Fn}{fdL:cB}{st:eF}{N:List bn}{as cl:List aC}{fds:List cB}
  (X:K.In h)(Gs:h.Ns bF mg)(hfa:mg "law" = aa (.ref fa))(O:OkX fs zs gs F tk sn 0 fs G)(hG:∀(i:Nat)(fn:Fn),G[i]?=aa fn->F[i]?=aa fn)(hT:F[tk]?=aa Sd.Wv)(hLt:L≠tk)(A:FnsAt K fs as fds)(Z:ZsAt K zs)(Y:GsAt K gs)(Er:Qu K cl=aj)
  (AL:FnsAt K [⟨"law",st,"_law_script" :: N,1⟩] [aL] [fdL])(hFL:F[L]?=aa fnL)(h1:fnL.ns=N.length+1)(h2:fnL.ps=1)(hsc:scB ("_law_script" :: N) 1 (Zg st)=aj)(B:BdL fs zs gs F tk sn ⟨"law",st,"_law_script" :: N,1⟩ fnL)(hcode:fdL.code=.ref c) :
  ∃fd:cB,(∀(s:ax)(v:au),mR s fd ⟨[v],[]⟩ [("_law_script",v)])/\∀base:bX,K.In base->base.Ns bF mg->dv base c Pt->base.BuiltinsAt mg Pt->bF≠Pt->FnOk l.prog w K mg base (CX1 l.prog w) 65 fa fd ["_law_script"] (spL Pt K cl (Pv.Zn F tk 63) L):=by
 have T:Top K mg fs zs gs (λi=>as.getD i 0) (λi=>fds.getD i fdL):=
  ⟨λi r e=>(A.get i r e).2.1,λi r e=>by
   obtain⟨_,F,B⟩:=A.get i r e;exact F.binds B,λi r e=>lm X Gs (A.get (fd0:=fdL) i r e).1,λx hx=>PySem.W.mg_none_of X Gs (Z.get x hx),λy hy=>Y.get X Gs y hy⟩
 obtain⟨hn,Fu,Bn⟩:=AL.get (fd0:=fdL) 0 _ rfl;have e:=hfa.symm.trans (lm X Gs hn);cases e;have S:=Vm hsc;refine⟨fdL,λs v=>?_,λbase XB GB hC hB hP=>?_⟩
 ·obtain⟨oc,od,kV,doc,pm,an,cdv,ct,osl,e,lk,hcd⟩:=Fu.ex
  have e:fdL=_:=e;rw[e];exact .of_eq (Bn kV doc pm an cdv ct [v] rfl)
 ·have Lc:=Zcg X Gs XB Er
  exact jk (N:="_law_script" :: N) (Sd.wU hLt hFL) h1 h2 Fu S hcode λA outer s H E hp hr=>(B l.prog w K mg base cl _ _ _ c Pt 62 T Lc (wA O hG hT T Lc 62) S.nd hC hB hP A outer s H E hp hr (Sd.hu7 hr)).h
theorem je{l:l8}{q:bq}{loose:List bn}{XP:(bn->Option au)->bX->Prop}{YP:bK->bX->Prop}{d:rR}{K:Params->ak}{F:List Fn}{tk L:Nat}{c Pt:aC}{dr:rR}{cl:bK->List aC}(hok:∀(ns:List Int) s,∃S,Pv.Zn F tk 63 L [.scr ns] s=.ok (.bl aj) S)(hn:l.most=aa 63)(hdf:d.params.defaults=[])
  (hY:∀(w:bK)(h:bX),YP w h->(K w.params).In h)(hrec:(recsOf q).find? (λe=>e.name == d.name)=aa dr)(ht:∀w:bK,rC (K w.params) d.name=aa (c,Pt))(hK:∀w:bK,mO (K w.params)=aj)
  (hF:∀(w:bK)(mg:bn->Option au)(fa:aC)(h:bX),(K w.params).In h->h.Ns bF mg->mg d.name=aa (.ref fa)->
   ∃fd:cB,(∀(s:ax)(u:au),mR s fd ⟨[u],[]⟩ [("_law_script",u)])/\∀base:bX,(K w.params).In base->base.Ns bF mg->dv base c Pt->base.BuiltinsAt mg Pt->bF≠Pt->FnOk l.prog w (K w.params) mg base (CX1 l.prog w) 65 fa fd ["_law_script"] (spL Pt (K w.params) (cl w) (Pv.Zn F tk 63) L)) :
  rE q loose XP YP l.row.toRowW d [] (λf vs=>pN f vs):=
 Sd.je (sp:=λw Pt=>spL Pt (K w.params) (cl w) (Pv.Zn F tk 63) L) hn (by decide) hdf ⟨rfl,by decide,by decide⟩ hY hrec ht hK hF (λw H a ns hl hO hS=>ZbP hO hS (hok ns)) λ_ _ _ _ _ ⟨_,_,_,_,_,_,_,_,_,_,_,_,_,_,z⟩=>z
end Gn
namespace Sd
open PySem PySem.Spec PyProof.Rows L2
open Ev (E Sm Fn Bop Cop Ty Bf Mf)
section
variable{X:Cx}{xw:Nat->Hp->Prop}{C:Calls}
theorem Zau :CE X xw C (.Dict [aa (.Constant (.int i) a p1)] [.Constant (.int j) b p2] pos) (.dput1 (.c (.int i)) (.c (.int j))):=
 PE.imp (Zb7 (jo Ws Ws ZbN) rfl rfl (by simp) (by show 1<=15;lia)) λσ H Q ⟨ρ,l,S,st,lr,h⟩=>λp hp=>
  ⟨Zk,[(dP i,.int j)],rfl,by show 1<=15;lia,by
   rw[Zb5];have h:=h;exact h ρ _ _ (Zs hp) (st.fresh hp) (by exact⟨p,rfl,.inr ⟨_,Zk⟩⟩)⟩
end
end Sd
namespace Gn
open PySem PySem.Spec PyProof.Rows L2
open Ev (E Sm Fn Bop Cop Ty Bf Mf)
open Sd (Calls CX1 spX xwE Errs Cls1 DefX LamS LamIn WA tB3 ksum YD YX)
theorem Wm :∀(l:List (bn×eZ))(acc:List (bn×aC)),(∀y∈l,y.2=.free->(env.cells.lookup y.1).isSome=aj)->(∀x c,(x,c)∈acc->env.cells.lookup x=aa c)->
  ∃cs,(ng l acc (λy r=>if y.2 == .free then do let a <-cellOf env y.1;cC (iU ((y.1,a)::r))else cC (iU r)):nL _)=cC cs/\(∀x c,(x,c)∈cs->env.cells.lookup x=aa c)/\(∀x c,(x,c)∈acc->(x,c)∈cs)/\∀x,(x,bN)∈l->∃c,(x,c)∈cs
 |[],acc,_,ha=>⟨acc,rfl,ha,λ_ _ h=>h,λx h=>by simp at h⟩
 |(x,k)::l,acc,hl,ha=>by
  by_cases e:k=.free
  ·subst e
   have h0:=hl (x,.free) (by simp) rfl
   obtain⟨c,hc⟩:=cV.mp h0;obtain⟨cs,e1,h1,h2,h3⟩:=Wm l ((x,c)::acc) (λy hy=>hl y (by simp[hy])) (λy d hd=>by
    rcases az.mp hd with z|z
    ·cases z;exact hc
    ·exact ha y d z)
   refine⟨cs,?_,h1,λy d hd=>h2 y d (by simp[hd]),λy hy=>?_⟩
   ·rw[<-e1]
    unfold cellOf;have hc:=hc;simp[hc]
   ·rcases az.mp hy with z|z
    ·cases z;exact⟨c,h2 x c (by simp)⟩
    ·exact h3 y z
  ·obtain⟨cs,e1,h1,h2,h3⟩:=Wm l acc (λy hy=>hl y (by simp[hy])) ha
   refine⟨cs,?_,h1,h2,λy hy=>?_⟩
   ·rw[<-e1]
    simp[e]
   ·rcases az.mp hy with z|z
    ·cases z;exact T7 rfl e
    ·exact h3 y z
def Wk(hl:∀y∈scope.names,y.2=.free->(env.cells.lookup y.1).isSome=aj):∃cs,iA scope env=cC cs/\(∀x c,(x,c)∈cs->env.cells.lookup x=aa c)/\∀x,(x,bN)∈scope.names->∃c,(x,c)∈cs:=by
 obtain⟨cs,e,h1,_,h3⟩:=Wm scope.names [] hl (λx c h=>by simp at h)
 refine⟨cs,?_,h1,h3⟩;rw[<-e];unfold iA;simp
theorem XY:∀(names:List (bn×eZ))(n:Nat)(acc:List (bn×aC)),(acc.Pairwise λx y=>x.2≠y.2)->(∀y∈acc,y.2<n)->(iu n names acc).Pairwise λx y=>x.2≠y.2
 |[],_,_,h,_=>h
 |(x,k)::r,n,acc,h,hn=>by
  unfold iu;split
  ·refine XY r (n+1) _ (aZ.mpr ⟨λy hy z=>?_,h⟩) λy hy=>?_
   ·have:=hn y hy
    exact T7 (z) (gh this)
   ·rcases az.mp hy with rfl|hy
    ·exact lD n
    ·exact eR (hn y hy)
  ·exact XY r n acc h hn
def Yi{α:Type}{l:List (bn×α)}{x:bn}{a:α}(h:l.lookup x=aa a):(x,a)∈l:=dD h
def uj{l:List (bn×aC)}(h:l.Pairwise λx y=>x.2≠y.2){x y:bn}{c:aC}(h1:(x,c)∈l)(h2:(y,c)∈l):x=y:=by
 induction h with
 |nil=>simp at h1
 |cons hd _ ih=>
  rcases az.mp h1 with z1|z1<;>rcases az.mp h2 with z2|z2
  ·exact congrArg Prod.fst (z1.trans z2.symm)
  ·rw[<-z1]at hd;exact T7 rfl (hd (y,c) z2)
  ·rw[<-z2]at hd;exact T7 rfl (hd (x,c) z1)
  ·exact ih z1 z2
def Qs{l:List (bn×aC)}{x:bn}{c:aC}(h:(x,c)∈l):∃d,l.lookup x=aa d:=by
 induction l with
 |nil=>simp at h
 |cons p l ih=>
  obtain⟨y,d⟩:=p;rw[bT];by_cases e:x=y
  ·subst e;exact⟨d,by simp⟩
  ·rcases az.mp h with z|z
   ·cases z;exact T7 rfl e
   ·have:(x == y)=al:=by simpa using e
    rw[this];exact ih z
noncomputable def Zc7(sc scope:dQ):Bool:=
 (match scope.kind with|.function=>aj|_=>al)&&(!scope.isCoroutine&&(!scope.isGenerator&&scope.names.all λy=>ag (y.2≠.cell)&&(ag (y.2≠.local)&&(!decide (y.2=.free)||decide (sc.names.lookup y.1=aa .cell)))))
def Zdx{X:Cx}{sc scope:dQ}{n:Nat}(hs:X.env.scope=sc)(hc:X.env.cells=iu n sc.names [])(h:Zc7 sc scope=aj):∃clos,iA scope X.env=cC clos/\LamIn X scope clos:=by
 unfold Zc7 at h;simp only[aD,k8,T0,bf,i6,decide_eq_false_iff_not]at h;obtain⟨h1,h2,h3,h4⟩:=h;have fr:∀x,(x,bN)∈scope.names->sc.names.lookup x=aa .cell:=λx hx=>by
  rcases(h4 _ hx).2.2 with z|z
  ·exact T7 rfl z
  ·exact z
 obtain⟨cs,e,c1,c2⟩:=Wk λy hy z=>by
  obtain⟨x,k⟩:=y;cases z;obtain⟨c,q⟩:=L2.Qh (fr x hy);rw[hc,q];rfl
 have ap:=XY sc.names n [] (by simp) (by simp)
 have lk:=λx c q=>c1 x c (Yi q)
 refine⟨cs,e,⟨?_,h2,h3,λy hy=>(h4 y hy).1,λx v=>?_,λx q=>?_,λx y c q1 q2=>?_⟩,lk,λx q=>?_⟩
 ·cases e:scope.kind<;>rw[e]at h1<;>first|rfl|cases h1
 ·rcases v with v|v|v
  ·exact T7 rfl (h4 _ (Yi v)).2.1
  ·exact T7 rfl (h4 _ (Yi v)).1
  ·exact v
 ·obtain⟨c,q⟩:=c2 x (Yi q)
  exact Qs q
 ·have a1:=Yi (lk x c q1)
  have a2:=Yi (lk y c q2);rw[hc]at a1 a2;exact uj ap a1 a2
 ·rw[hs]
  exact fr x (Yi q)
noncomputable abbrev rN(wd:Bool):List bn:=if wd then["_law_call","_law_error","e","_law_sorts","_law_words"]else["_law_call","_law_error","e","_law_sorts"]
noncomputable def ZeR(wd:Bool)(P:Nat->eY):Expr:=if wd then .Constant (.str "none of these") 0 (P 24)else .UnaryOp .USub (.Constant (.int 1) 0 (P 23)) (P 24)
noncomputable def Zcy(wd:Bool)(P:Nat->eY):List eF:=if wd then[.Assign [.Name "_law_words" (P 34)] (.List [.Constant (.str "row") 0 (P 102),.Constant (.str "part") 0 (P 103),.Constant (.str "number") 0 (P 104),.Constant (.str "heads") 0 (P 105),.Constant (.str "not beside") 0 (P 106),.Constant (.str "not in") 0 (P 107),.Constant (.str "turn") 0 (P 108),.Constant (.str "lot") 0 (P 109),.Constant (.str "many") 0 (P 110),.Constant (.str "note") 0 (P 111)] (P 35)) (P 36),
   .Return (aa (.Subscript (.Name "_law_words" (P 37)) (.Call (.Attribute (.Name "_law_sorts" (P 27)) "index" (P 32)) [.Constant (.bool aj) 0 (P 28)] [] (P 33)) (P 38))) (P 29)]
 else[.Return (aa (.Call (.Attribute (.Name "_law_sorts" (P 27)) "index" (P 32)) [.Constant (.bool aj) 0 (P 28)] [] (P 33))) (P 29)]
def rbR(wd:Bool):TE:=if wd then tC (.str "none of these")else Sd.rbI
def fiR(K:ak)(wd:Bool):TS:=if wd then Sd.ZdJ K 3 4 else Sd.ZdA K 3
noncomputable def x8(wd:Bool)(P:Nat->eY)(sumE:Expr):List eF:=
 let n:="_law_error"
 let s:="_law_sorts"
 let i:=λ(x:bn) (k:Nat)=>Expr.Call (.Name "isinstance" (P k)) [.Name n (P (k+1)),.Name x (P (k+2))] [] (P (k+3))
 .If (.Compare (.Name n (P 0)) [.Is] [.Constant .none 0 (P 1)] (P 2)) [.Return (aa (.Constant .none 0 (P 3))) (P 4)] [] (P 5) ::
   .Assign [.Name s (P 6)] (.List [i "NoRow" 40,i "NoPart" 44,i "NoNumber" 48] (P 7)) (P 8) ::
   .Assign [.Name s (P 9)] (.BinOp (.Name s (P 10)) .Add (.List [i "NoHeads" 52,i "NotBeside" 56,i "NotIn" 60] (P 11)) (P 12)) (P 13) ::
   .Assign [.Name s (P 14)] (.BinOp (.Name s (P 15)) .Add (.List [i "NoTurn" 64,i "NoLot" 68,i "TooMany" 72] (P 16)) (P 17)) (P 18) ::
   .Expr (.Call (.Attribute (.Name s (P 19)) "append" (P 30)) [i "BadNote" 76] [] (P 31)) (P 20) ::
   .If (.BoolOp .Or [.UnaryOp .Not (i "ValueError" 80) (P 21),sumE] (P 22)) [.Return (aa (ZeR wd P)) (P 25)] [] (P 26)::Zcy wd P
noncomputable def wH(P:Nat->eY):List eF:=
 [.Assign [.Name "_law_error" (P 90)] (.Constant .none 0 (P 91)) (P 92),.Try [.Expr (.Call (.Name "_law_call" (P 93)) [] [] (P 94)) (P 95)] [.ExceptHandler (aa (.Name "SpaceError" (P 96))) (aa "e") [.Assign [.Name "_law_error" (P 97)] (.Name "e" (P 98)) (P 99)] (P 100)] [] [] (P 101)]
noncomputable def wQ(b:List eF):Expr:=match b.getD 7 (.Pass ⟨0,0,0,0⟩)with
 |.If (.BoolOp _ [_,e] _) _ _ _=>e
 |_=>.Constant .none 0 ⟨0,0,0,0⟩
noncomputable def Zah(wd:Bool)(P:Nat->eY)(sc:dQ):Bool:=
 (rN wd).all (λx=>ag (sc.names.lookup x=aa .local))&&(((["isinstance","ValueError"]:List bn)++YX).all (λx=>ag (sc.names.lookup x=aa .globalImplicit))&&((P 30).endLine == (P 31).line&&(P 32).endLine == (P 33).line))
noncomputable abbrev cxR(wd:Bool)(P:bq)(w:bK)(K:ak)(mg:bn->Option au)(base:bX)(st:eF)(f:aC)(cdv:au)(A:bQ)(outer:List Env)(s:ax)(H:Hp):Cx:=XG (CX1 P w) P w K mg base (rN wd) "_law_refused" (Zg st) f cdv A outer s H E0
def Zaf(wd:Bool)(P:bq)(w:bK)(K:ak)(mg:bn->Option au)(base:bX)(cl:List aC)(C:Calls)(d:Nat)(st:eF)(f:aC):Prop:=
 ∀(cdv:au)(A:bQ)(outer:List Env)(s:ax)(H:Hp),Room (d+1) (A.deeper (dG "_law_refused" (Zg st) s.heap.objs.size f cdv))->
  PSs (cxR wd P w K mg base st f cdv A outer s H) ((Zy st).drop 2) (WA K 1 3 cl (tB3 (cxR wd P w K mg base st f cdv A outer s H) Sd.nx (Pv.YN C (ksum 3))) (rbR wd) (fiR K wd))
section
variable{wd:Bool}{P:bq}{w:bK}{K:ak}{mg:bn->Option au}{base:bX}{cl:List aC}{fs:List FR}{zs:List bn}{gs:List (bn×Gv)}{F:List Fn}{f:Nat->aC}{fd:Nat->cB}{d nR:Nat}{st:eF}{Pp:Nat->eY}{C:Calls}
def wC(h:Zah wd Pp sc=aj):(∀x∈rN wd,sc.names.lookup x=aa .local)/\(∀x∈(["isinstance","ValueError"]:List bn)++YX,sc.names.lookup x=aa .globalImplicit)/\((Pp 30).endLine == (Pp 31).line)=aj/\((Pp 32).endLine == (Pp 33).line)=aj:=by
 unfold Zah at h;simp only[aD,bf,T0]at h;exact⟨h.1,h.2.1,h.2.2.1,h.2.2.2⟩
def Zea(T:Top K mg fs zs gs f fd)(L:Cls K mg base cl)(hst:(Zy st).drop 2=x8 wd Pp (wQ (Zy st)))(hB:Zah wd Pp (Zg st)=aj)(hsc:scB (rN wd) 1 (Zg st)=aj)(hz:zs.contains "isinstance" = aj)(hz2:zs.contains "ValueError" = aj)
  (hsum:∀(cdv:au)(A:bQ)(outer:List Env)(s:ax)(H:Hp),(A.deeper (dG "_law_refused" (Zg st) s.heap.objs.size (f nR) cdv)).units+7<dz->Bx (Sd.CT (cxR wd P w K mg base st (f nR) cdv A outer s H) Sd.nx C (wQ (Zy st)) (ksum 3))) :
  Zaf wd P w K mg base cl C d st (f nR):=by
 intro cdv A outer s H hr;obtain⟨b1,b2,b3,b4⟩:=wC hB;rw[hst];have gl:=λx hx=>b2 x hx
 have nd:=(Vm hsc).nd;have hs:=(hsum cdv A outer s H (Sd.hu7 hr)).h;have hl:Sd.BSs (cxR wd P w K mg base st (f nR) cdv A outer s H) (Zcy wd Pp) (fiR K wd):=by
  cases wd with|false=>exact⟨Sd.Zeg (J:=λ_=>0) rfl (b1 _ (by simp[rN])) rfl rfl b4⟩|true=>exact Sd.Zez (iw:=4) nd rfl (b1 _ (by simp[rN])) rfl rfl rfl (b1 _ (by simp[rN])) rfl rfl b4
 have hb:PE (cxR wd P w K mg base st (f nR) cdv A outer s H) (ZeR wd Pp) (rbR wd):=by
  cases wd with|false=>exact Sd.Zfh (J:=λ_=>0)|true=>exact Gp
 have hir:(rN wd)[1]?=aa ("_law_error" : bn):=by cases wd<;>rfl
 have his:(rN wd)[3]?=aa ("_law_sorts" : bn):=by cases wd<;>rfl
 have mem:∀x∈[("_law_error" : bn),"_law_sorts"],x∈rN wd:=by cases wd<;>simp[rN]
 exact Sd.ZbS (cl:=cl) (ir:=1) (is:=3) (J:=λ_=>0) (P:=Pp) L.er nd hir (b1 _ (mem _ (by simp))) his (b1 _ (mem _ (by simp))) (gl _ (by simp)) (T.no hz) (gl _ (by simp)) (T.no hz2) (λx hx=>gl x (by simp[hx])) rfl rfl rfl rfl hs b3 hb hl.h
def Zeb(he:e<10)(v:σ'[3]?=aa (aa (.ref q)))(hl:σ'.length=(rN wd).length)(h:H' q=aa (.lst ((Sd.ZW e).map .bl)))(st:Sd.St3 K ρ S H')(k:∀H2,Sd.Fut ρ H' ρ H2->Sd.St3 K ρ S H2->Dn.rt (Sd.vR wd e) H2):fiR K wd Dn σ' H':=by
 cases wd with|false=>exact Sd.Zbc he v h (k H' (Sd.Fut.refl _ _) st)|true=>exact Sd.Zbp he v (by rw[hl];decide) (by decide) h st k
def Zet{X:Cx}{E:XK}{sc:dQ}{n:Nat}{c Pt:aC}{i:Ev.E}{xw:Nat->Hp->Prop}{body:Expr}{scope:dQ}{lp p pos:eY}
  (D:DefX X E)(hr:Room (d+2) X.A)(T:Top X.K X.mg fs zs gs f fd)(L:Cls X.K X.mg X.base cl)(RA:Zaf wd X.prog X.w X.K X.mg X.base cl C d st (f nR))(hx:fs[nR]?=aa ⟨"_law_refused",st,rN wd,1⟩)
  (hst:(Zy st).take 2=wH Pp)(hB:Zah wd Pp (Zg st)=aj)(hsc:scB (rN wd) 1 (Zg st)=aj)
  (hP:∃ps,X.H₀ Pt=aa (.tbl ps))(CH:dv X.base c Pt)(hBi:X.base.BuiltinsAt X.mg Pt)(hgP:bF≠Pt)
  (hfn:X.fn=λ_=>aj)(hcode:X.env.code=.ref c)(hs:X.env.scope=sc)(hc:X.env.cells=iu n sc.names [])(hq:X.env.qual++"<lambda>" = YD)(hl:Zc7 sc scope=aj)(hg:Gl X "_law_refused")
  (hbody:∀(g:aC)(c':aC)(clos:List (bn×aC))(A:bQ)(outer:List Env)(s:ax)(H:Hp)(E1:XK),LamS scope clos->Room d (A.deeper (fC YD scope s.heap.objs.size g (.ref c') clos))->(A.deeper (fC YD scope s.heap.objs.size g (.ref c') clos)).units+7<dz->Bx (Sd.CE (Sd.cxL X.prog X.w X.K X.mg X.base X.N scope g (.ref c') clos A outer s H E1) (xwE cl E1) C body i)) :
  Bx (Sd.CE X xw C (.Call (.Name "_law_refused" p) [.Lambda ⟨[],[],af,[],[],af,[]⟩ body scope lp] [] pos) (.refu wd i)):=by
 obtain⟨b1,b2,b3,b4⟩:=wC hB;obtain⟨clos,hcl,LI⟩:=Zdx hs hc hl;have hl0:0<cl.length:=by rw[L.er.len];decide
 have h0:=ai hl0;have hst:Zy st=wH Pp++(Zy st).drop 2:=by rw[<-hst,cG]
 have hic:(rN wd)[0]?=aa ("_law_call" : bn):=by cases wd<;>rfl
 have hie:(rN wd)[2]?=aa ("e" : bn):=by cases wd<;>rfl
 have hir:(rN wd)[1]?=aa ("_law_error" : bn):=by cases wd<;>rfl
 have hil:3<(rN wd).length:=by cases wd<;>decide
 have mem:∀x∈[("_law_call" : bn),"_law_error","e"],x∈rN wd:=by cases wd<;>simp[rN]
 have pr:(⟨"_law_refused",st,rN wd,1⟩:FR).ps=[("_law_call" : bn)]:=by cases wd<;>rfl
 have hbn:=T.b nR _ hx;rw[pr]at hbn;have hsc1:=Vm hsc;have tk:(rN wd).take 1=[("_law_call" : bn)]:=by cases wd<;>rfl
 rw[tk]at hsc1;exact⟨Sd.Zcd (wd:=wd) (k:=d) (ic:=0) (ie:=2) (ir:=1) (is:=3) (Nr:=rN wd) (n:="e") (ts:=λY=>tB3 Y Sd.nx (Pv.YN C (ksum 3))) (fd:=fd nR) D (λx=>by rw[hfn]) hr L.er h0 hP hcode CH hBi hgP hq hcl rfl LI (λpm c' ctv=>rfl)
  (λg c' A outer s H E1 hr=>(hbody g c' clos A outer s H E1 LI.S hr (Sd.hu7 hr)).h) hg (T.m nR _ hx) (T.d nR _ hx).kp (T.d nR _ hx) hsc1 hbn rfl rfl rfl hst (Vm hsc).nd hic rfl hie hir hil (by decide) (by decide) (by decide)
  (b1 _ (mem _ (by simp))) (b1 _ (mem _ (by simp))) (b1 _ (mem _ (by simp))) (λ_ _ _=>b2 _ (by simp[YX])) (L.er.nm 0 _ _ h0 rfl) rfl rfl rfl rfl rfl (λ_ _ _=>rfl) (λ_ _ _=>rfl) (λ_ _ _=>rfl) RA
  (λY ρ S e σ' H' q Q' hK he h1 h2 h3 st' hQ=>Sd.Zdm he h1 h2 h3 (hK▸st') (λH2 f2 s2=>hQ H2 f2 (hK▸s2)))
  (λDn σ' ρ' H' S e q he v hl h st k=>Zeb he v hl h st k)⟩
end
section
variable{X:Cx}{xw:Nat->Hp->Prop}{C:Calls}{e:Expr}{i:Ev.E}{es:List Expr}{is:List Ev.E}{p:eY}{m j:Nat}{y:bn}{fr:Bool}{ns:List Nat}
theorem Zau{i j:Int}{a b:Nat}{p1 p2 pos:eY}:Bx (Sd.CE X xw C (.Dict [aa (.Constant (.int i) a p1)] [.Constant (.int j) b p2] pos) (.dput1 (.c (.int i)) (.c (.int j)))):=⟨Sd.Zau⟩
end
def jj :BdX fs zs gs F tk sn i r ⟨a,b,[.asg [] (.c .non)]⟩:=λP w K mg base cl f fd d T L h hn cdv A outer s H E hr hu=>
 ⟨λpq s σ H D I ⟨ρ,H0,W,l,os,S,st,en,h⟩=>by
  cases os<;>exact False.elim h⟩
def Zep(wd:Bool)(fs:List FR)(zs:List bn)(gs:List (bn×Gv))(F:List Fn)(tk nR:Nat)(st:eF):Prop:=
 ∀(P:bq)(w:bK)(K:ak)(mg:bn->Option au)(base:bX)(f:Nat->aC)(fd:Nat->cB)(d:Nat),Top K mg fs zs gs f fd->(rN wd).Nodup->∀(cdv:au)(A:bQ)(outer:List Env)(s:ax)(H:Hp),(A.deeper (dG "_law_refused" (Zg st) s.heap.objs.size (f nR) cdv)).units+7<dz->Bx (Sd.CT (cxR wd P w K mg base st (f nR) cdv A outer s H) Sd.nx (Pv.Zn F tk d) (wQ (Zy st)) (ksum 3))
def BdR(wd:Bool)(fs:List FR)(zs:List bn)(gs:List (bn×Gv))(F:List Fn)(tk sn nR:Nat)(st:eF)(r:FR)(fn:Fn):Prop:=
 ∀(P:bq)(w:bK)(K:ak)(mg:bn->Option au)(base:bX)(cl:List aC)(f:Nat->aC)(fd:Nat->cB)(fL c Pt:aC)(d:Nat),Top K mg fs zs gs f fd->Cls K mg base cl->xC P w K mg base cl fs F tk sn f fd d->Zaf wd P w K mg base cl (Pv.Zn F tk d) d st (f nR)->r.N.Nodup->
  dv base c Pt->base.BuiltinsAt mg Pt->bF≠Pt->
  ∀(A:bQ)(outer:List Env)(s:ax)(H:Hp)(E:XK),(∃ps,H Pt=aa (.tbl ps))->Room (d+2) (A.deeper (dG r.x (Zg r.st) s.heap.objs.size fL (.ref c)))->Room d (A.deeper (dG r.x (Zg r.st) s.heap.objs.size fL (.ref c)))->(A.deeper (dG r.x (Zg r.st) s.heap.objs.size fL (.ref c))).units+7<dz->
   Bx (Sd.CSs (XG (CX1 P w) P w K mg base r.N r.x (Zg r.st) fL (.ref c) A outer s H E) (xwE cl E) al (Pv.Zn F tk d) (Pv.muts fn.body) (Zy r.st) fn.body)
def ZdG{wd:Bool}{fs:List FR}{zs:List bn}{gs:List (bn×Gv)}{F:List Fn}{tk sn nR:Nat}{st:eF}{r:FR}{fn:Fn}{Pp:Nat->eY}(S:Zep wd fs zs gs F tk nR st)(B:BdR wd fs zs gs F tk sn nR st r fn)(hst:(Zy st).drop 2=x8 wd Pp (wQ (Zy st)))(hB:Zah wd Pp (Zg st)=aj)(hsc:scB (rN wd) 1 (Zg st)=aj)(hz:zs.contains "isinstance" = aj)(hz2:zs.contains "ValueError" = aj):BdL fs zs gs F tk sn r fn:=
 λP w K mg base cl f fd fL c Pt d T L h hn hC hBi hP A outer s H E hp hr hu=>
  B P w K mg base cl f fd fL c Pt d T L h (Zea T L hst hB hsc hz hz2 (S P w K mg base f fd d T (Vm hsc).nd)) hn hC hBi hP A outer s H E hp hr (hr.mono (by lia)) hu
end Gn
namespace K22
open Ev
noncomputable def UU:Fn:=⟨2,2,
 [.ite (.cmp .lt (.v 1) (.blt .len [(.v 0)])) [.ret (.ix (.v 0) (.v 1))] [],
  .ret (.c (.int 0))]⟩
noncomputable def GD:Fn:=⟨2,3,
 [.asg [2] (.call 0 [(.v 0),(.v 1)]),
  .ite (.cmp .ge (.v 2) (.bin .pow (.c (.int 10)) (.c (.int 18)))) [.ret (.lst [(.bin .sub (.v 2) (.bin .pow (.c (.int 10)) (.c (.int 18)))),(.c (.bl aj))])] [],
  .ret (.lst [(.bin .mod (.v 2) (.c (.int 2147483647))),(.c (.bl al))])]⟩
noncomputable def GS:Fn:=⟨2,4,
 [.ite (.dix (.v 0) aj) [.asg [2] (.bin .mod (.dix (.v 0) al) (.v 1)),
  .dset 0 (.bin .fdiv (.dix (.v 0) al) (.v 1)),
  .ret (.v 2)] [],
  .dset 0 (.bin .mod (.bin .add (.bin .mul (.dix (.v 0) al) (.c (.int 48271))) (.c (.int 29))) (.c (.int 2147483647))),
  .asg [3] (.bin .mod (.bin .add (.bin .add (.bin .mul (.dix (.v 0) al) (.dix (.v 0) al)) (.bin .mul (.c (.int 39373)) (.dix (.v 0) al))) (.c (.int 7))) (.c (.int 2147483629))),
  .asg [3] (.bin .mod (.bin .add (.bin .mul (.v 3) (.v 3)) (.bin .mul (.c (.int 16807)) (.v 3))) (.c (.int 2147483587))),
  .ret (.bin .mod (.bin .fdiv (.v 3) (.c (.int 8))) (.v 1))]⟩
noncomputable def W0:Fn:=⟨2,3,
 [.asg [2] (.lst [(.tup [(.c (.int 2)),(.tup [(.c (.int 2)),(.c (.int 1))])]),(.tup [(.c (.int 4)),(.tup [(.c (.int 2)),(.c (.int 2))])]),(.tup [(.c (.int 8)),(.tup [(.c (.int 2)),(.c (.int 3))])]),(.tup [(.c (.int 16)),(.tup [(.c (.int 2)),(.c (.int 4))])]),(.tup [(.c (.int 32)),(.tup [(.c (.int 2)),(.c (.int 5))])]),(.tup [(.c (.int 64)),(.tup [(.c (.int 2)),(.c (.int 6))])]),(.tup [(.c (.int 3)),(.tup [(.c (.int 3)),(.c (.int 1))])]),(.tup [(.c (.int 9)),(.tup [(.c (.int 3)),(.c (.int 2))])])]),
  .asg [2] (.bin .add (.v 2) (.lst [(.tup [(.c (.int 27)),(.tup [(.c (.int 3)),(.c (.int 3))])]),(.tup [(.c (.int 81)),(.tup [(.c (.int 3)),(.c (.int 4))])]),(.tup [(.c (.int 5)),(.tup [(.c (.int 5)),(.c (.int 1))])]),(.tup [(.c (.int 25)),(.tup [(.c (.int 5)),(.c (.int 2))])]),(.tup [(.c (.int 125)),(.tup [(.c (.int 5)),(.c (.int 3))])])])),
  .asg [2] (.comp1 [1] 2 [0,1] (.of (.v 2)) [(.cmp .le (.v 0) (.v 2))] (.v 1)),
  .ret (.ix (.v 2) (.call 2 [(.v 0),(.blt .len [(.v 2)])]))]⟩
noncomputable def GO:Fn:=⟨4,4,
 [.ret (.blt .tuple [(.comp1 [3,0] 2 [0,1] (.zip (.v 1) (.v 2)) [] (.bin .mod (.bin .add (.v 0) (.bin .mul (.v 2) (.v 1))) (.ix (.v 3) (.c (.int 0)))))])]⟩
noncomputable def UT:Fn:=⟨2,8,
 [.asg [2] (.blt .list [(.v 1)]),
  .asg [3] (.lst []),
  .forr [4] (.rng1 (.ix (.v 0) (.c (.int 1)))) [.asg [5] (.comp1 [4] 1 [0] (.of (.v 2)) [(.cmp .ne (.ix (.v 0) (.v 1)) (.c (.int 0)))] (.v 0)),
  .ite (.cmp .ne (.v 5) (.lst [])) [.asg [6] (.ix (.comp1 [5,4,0] 1 [0] (.rng1 (.ix (.v 0) (.c (.int 0)))) [(.cmp .eq (.bin .mod (.bin .mul (.v 0) (.ix (.ix (.v 1) (.c (.int 0))) (.v 2))) (.ix (.v 3) (.c (.int 0)))) (.c (.int 1)))] (.v 0)) (.c (.int 0))),
  .asg [7] (.blt .tuple [(.comp1 [6,0] 1 [0] (.of (.ix (.v 5) (.c (.int 0)))) [] (.bin .mod (.bin .mul (.v 1) (.v 0)) (.ix (.v 2) (.c (.int 0)))))]),
  .asg [2] (.comp1 [0,7,4] 1 [0] (.of (.v 2)) [] (.call 4 [(.v 1),(.v 0),(.v 2),(.neg (.ix (.v 0) (.v 3)))])),
  .asg [3] (.bin .add (.comp1 [0,7,4] 1 [0] (.of (.v 3)) [] (.call 4 [(.v 1),(.v 0),(.v 2),(.neg (.ix (.v 0) (.v 3)))])) (.lst [(.v 7)]))] []],
  .ret (.blt .tuple [(.v 3)])]⟩
noncomputable def Qk:Fn:=⟨2,2,
 [.ret (.blt .tuple [(.comp1 [0,1] 1 [0] (.rng1 (.ix (.v 1) (.c (.int 1)))) [] (.call 2 [(.v 1),(.ix (.v 2) (.c (.int 0)))]))])]⟩
noncomputable def zD:Fn:=⟨2,3,
 [.asg [2] (.call 2 [(.v 0),(.bin .add (.ix (.v 1) (.c (.int 1))) (.c (.int 1)))]),
  .ret (.call 5 [(.v 1),(.comp1 [0,1] 1 [0] (.rng1 (.v 2)) [] (.call 6 [(.v 1),(.v 2)]))])]⟩
noncomputable def ZR:Fn:=⟨3,11,
 [.ite (.cmp .eq (.v 2) (.tup [])) [.ret (.ix (.lst [(.lst []),(.c .non),(.tup [(.tup [])]),(.tup [(.bin .mul (.tup [(.c (.int 0))]) (.ix (.v 1) (.c (.int 1))))]),(.tup [(.bin .mul (.tup [(.c (.int 1))]) (.bin .add (.ix (.v 1) (.c (.int 1))) (.c (.int 1))))]),.dnew,(.c (.str (bw "none")))]) (.call 2 [(.v 0),(.c (.int 7))]))] [],
  .asg [3] (.call 2 [(.v 0),(.blt .len [(.v 2)])]),
  .asg [4] (.ix (.v 2) (.v 3)),
  .asg [5] (.call 2 [(.v 0),(.ix (.v 1) (.c (.int 1)))]),
  .asg [6] (.ix (.lst [(.c (.int 0)),(.c (.int 1)),(.ix (.v 1) (.c (.int 0))),(.bin .sub (.ix (.v 1) (.c (.int 0))) (.c (.int 1))),(.neg (.c (.int 1))),(.c (.bl aj)),(.c .non),(.c (.str (bw "1"))),(.tup [(.c (.int 1))]),(.bin .pow (.c (.int 10)) (.c (.int 29)))]) (.call 2 [(.v 0),(.c (.int 10))])),
  .asg [7] (.lst [(.bin .add (.bin .add (.sl (.v 4) af (aa (.v 5))) (.tup [(.v 6)])) (.sl (.v 4) (aa (.bin .add (.v 5) (.c (.int 1)))) af)),(.bin .add (.bin .add (.sl (.v 4) af (aa (.v 5))) (.tup [(.v 6)])) (.sl (.v 4) (aa (.v 5)) af)),(.bin .add (.sl (.v 4) af (aa (.v 5))) (.sl (.v 4) (aa (.bin .add (.v 5) (.c (.int 1)))) af)),(.blt .list [(.v 4)]),(.c .non)]),
  .asg [7] (.bin .add (.v 7) (.lst [(.blt .tuple [(.comp1 [1] 1 [0] (.of (.v 4)) [] (.bin .mod (.bin .mul (.c (.int 2)) (.v 0)) (.ix (.v 1) (.c (.int 0)))))]),(.bin .mul (.tup [(.c (.int 0))]) (.ix (.v 1) (.c (.int 1)))),(.call 6 [(.v 0),(.v 1)])])),
  .asg [8] (.ix (.v 7) (.ix (.lst [(.c (.int 0)),(.c (.int 0)),(.c (.int 0)),(.c (.int 0)),(.c (.int 1)),(.c (.int 2)),(.c (.int 3)),(.c (.int 4)),(.c (.int 5)),(.c (.int 6)),(.c (.int 7))]) (.call 2 [(.v 0),(.c (.int 11))]))),
  .asg [9] (.call 2 [(.v 0),(.c (.int 8))]),
  .ite (.cmp .lt (.v 9) (.c (.int 4))) [.ret (.bin .add (.bin .add (.sl (.v 2) af (aa (.v 3))) (.tup [(.v 8)])) (.sl (.v 2) (aa (.bin .add (.v 3) (.c (.int 1)))) af))] [],
  .ite (.cmp .lt (.v 9) (.c (.int 6))) [.ret (.bin .add (.bin .add (.sl (.v 2) af (aa (.v 3))) (.tup [(.v 8)])) (.sl (.v 2) (aa (.v 3)) af))] [],
  .asg [10] (.lst [(.bin .add (.sl (.v 2) af (aa (.v 3))) (.sl (.v 2) (aa (.bin .add (.v 3) (.c (.int 1)))) af)),(.rev (.v 2)),(.blt .list [(.v 2)]),(.tup [(.v 2)]),(.bin .add (.v 2) (.sl (.v 2) (aa (.neg (.c (.int 1)))) af)),(.bin .add (.sl (.v 2) (aa (.v 3)) af) (.sl (.v 2) af (aa (.v 3))))]),
  .ret (.ix (.v 10) (.call 2 [(.v 0),(.c (.int 6))]))]⟩
noncomputable def GQ:Fn:=⟨2,6,
 [.asg [2] (.lst [(.bin .mul (.tup [(.c (.int 0))]) (.ix (.v 0) (.c (.int 1))))]),
  .forr [3] (.of (.v 1)) [.asg [4] (.lst []),
  .forr [5] (.rng1 (.ix (.v 0) (.c (.int 0)))) [.ex (.mt .extend (.v 4) [(.comp1 [0,3,5] 1 [0] (.of (.v 2)) [] (.call 4 [(.v 1),(.v 0),(.v 2),(.v 3)]))])],
  .mov 2 4],
  .ret (.blt .dictP [(.comp1 [] 1 [0] (.of (.v 2)) [] (.tup [(.v 0),(.c (.bl aj))]))])]⟩
noncomputable def uH:Fn:=⟨1,3,
 [.forr [1,2] (.enum (.v 0)) [.ite (.cmp .ne (.v 2) (.c (.int 0))) [.ret (.v 1)] []],
  .ret (.c .non)]⟩
noncomputable def VN:Fn:=⟨1,1,
 [.ret (.blt .all [(.comp1 [] 2 [0,1] (.zip (.v 0) (.sl (.v 0) (aa (.c (.int 1))) af)) [] (.cmp .lt (.v 0) (.v 1)))])]⟩
noncomputable def WM:Fn:=⟨2,2,
 [.ret (.blt .all [(.comp1 [1] 1 [0] (.of (.v 0)) [] (.cmp .eq (.ix (.v 0) (.v 1)) (.c (.int 0))))])]⟩
noncomputable def YR:Fn:=⟨3,3,
 [.ret (.and (.cmp .eq (.ix (.ix (.v 0) (.v 1)) (.v 2)) (.c (.int 1))) (.call 12 [(.bin .add (.sl (.v 0) af (aa (.v 1))) (.sl (.v 0) (aa (.bin .add (.v 1) (.c (.int 1)))) af)),(.v 2)]))]⟩
noncomputable def YT:Fn:=⟨3,3,
 [.ret (.and (.isi (.v 0) [.int]) (.and (.not (.isi (.v 0) [.bool])) (.chain .le .le (.v 1) (.v 0) (.v 2))))]⟩
noncomputable def GL:Fn:=⟨2,4,
 [.asg [2,3] (.v 0),
  .ite (.or (.not (.isi (.v 1) [.tuple])) (.cmp .ne (.blt .len [(.v 1)]) (.v 3))) [.ret (.c (.bl al))] [],
  .ret (.blt .all [(.comp1 [2] 1 [0] (.of (.v 1)) [] (.call 14 [(.v 0),(.c (.int 0)),(.bin .sub (.v 1) (.c (.int 1)))]))])]⟩
noncomputable def Vn:Fn:=⟨2,3,
 [.ite (.or (.not (.isi (.v 1) [.tuple])) (.not (.blt .all [(.comp1 [0] 1 [0] (.of (.v 1)) [] (.call 15 [(.v 1),(.v 0)]))]))) [.ret (.c (.bl al))] [],
  .asg [2] (.comp1 [] 1 [0] (.of (.v 1)) [] (.call 10 [(.v 0)])),
  .ite (.or (.cmp .inn (.c .non) (.v 2)) (.not (.call 11 [(.v 2)]))) [.ret (.c (.bl al))] [],
  .ret (.blt .all [(.comp1 [1] 2 [0,1] (.enum (.v 2)) [] (.call 13 [(.v 2),(.v 0),(.v 1)]))])]⟩
noncomputable def XV:Fn:=⟨2,2,
 [.ite (.not (.call 16 [(.v 0),(.v 1)])) [.raise 2 []] []]⟩
noncomputable def Z4:Fn:=⟨3,3,
 [.ex (.call 17 [(.v 0),(.v 1)]),
  .ex (.call 17 [(.v 0),(.v 2)])]⟩
noncomputable def Wy:Fn:=⟨4,4,
 [.ret (.blt .tuple [(.comp1 [3,0] 2 [0,1] (.zip (.v 1) (.v 2)) [] (.bin .mod (.bin .add (.v 0) (.bin .mul (.v 2) (.v 1))) (.v 3)))])]⟩
noncomputable def Q7:Fn:=⟨4,4,
 [.ret (.call 19 [(.v 0),(.v 1),(.v 2),(.neg (.ix (.v 1) (.v 3)))])]⟩
noncomputable def zW:Fn:=⟨3,7,
 [.asg [3,4] (.v 0),
  .asg [5] (.v 2),
  .forr [6] (.of (.v 1)) [.asg [5] (.call 20 [(.v 3),(.v 5),(.v 6),(.call 10 [(.v 6)])])],
  .ret (.v 5)]⟩
noncomputable def uA:Fn:=⟨3,3,
 [.ret (.cmp .is (.call 10 [(.call 21 [(.v 0),(.v 1),(.v 2)])]) (.c .non))]⟩
noncomputable def G4:Fn:=⟨3,3,
 [.ret (.blt .all [(.comp1 [0,2] 1 [0] (.of (.v 1)) [] (.call 22 [(.v 1),(.v 2),(.v 0)]))])]⟩
noncomputable def Qv:Fn:=⟨3,3,
 [.ex (.call 18 [(.v 0),(.v 1),(.v 2)]),
  .ret (.call 23 [(.v 0),(.v 1),(.v 2)])]⟩
noncomputable def Y0:Fn:=⟨2,2,
 [.ite (.isi (.v 1) [.tuple,.list]) [.ite (.or (.cmp .ne (.isi (.v 0) [.tuple]) (.isi (.v 1) [.tuple])) (.cmp .ne (.isi (.v 0) [.list]) (.isi (.v 1) [.list]))) [.ret (.c (.bl al))] [],
  .ret (.and (.cmp .eq (.blt .len [(.v 0)]) (.blt .len [(.v 1)])) (.blt .all [(.comp1 [] 2 [0,1] (.zip (.v 0) (.v 1)) [] (.call 25 [(.v 0),(.v 1)]))]))] [],
  .ret (.and (.cmp .eq (.v 0) (.v 1)) (.cmp .eq (.isi (.v 0) [.bool]) (.isi (.v 1) [.bool])))]⟩
noncomputable def QP:Fn:=⟨2,6,
 [.ex (.call 17 [(.v 0),(.v 1)]),
  .asg [2,3] (.v 0),
  .asg [4] (.lst [(.bin .mul (.tup [(.c (.int 0))]) (.v 3))]),
  .forr [5] (.of (.v 1)) [.asg [4] (.comp2 [2,5] 2 [0] (.of (.v 4)) [] [1] (.rng1 (.v 2)) [] (.call 19 [(.v 2),(.v 0),(.v 3),(.v 1)]))],
  .ret (.v 4)]⟩
noncomputable def XI:Fn:=⟨3,4,
 [.ex (.call 18 [(.v 0),(.v 1),(.v 2)]),
  .forr [3] (.of (.call 26 [(.v 0),(.v 1)])) [.ite (.not (.call 22 [(.v 0),(.v 2),(.v 3)])) [.ret (.v 3)] []],
  .ret (.c .non)]⟩
noncomputable def YC:Fn:=⟨3,7,
 [.asg [3] (.call 9 [(.v 0),(.v 2)]),
  .asg [4] (.blt .sorted [(.comp1 [3] 1 [0] (.dk (.call 9 [(.v 0),(.v 1)])) [(.cmp .nin (.v 0) (.v 1))] (.v 0))]),
  .forr [5] (.rng1 (.c (.int 2))) [.asg [6] (.call 24 [(.v 0),(.v 1),(.v 2)]),
  .ite (.or (.not (.isi (.v 6) [.bool])) (.cmp .ne (.v 6) (.cmp .eq (.v 4) (.lst [])))) [.ret (.c (.bl al))] [],
  .ite (.not (.call 25 [(.call 27 [(.v 0),(.v 1),(.v 2)]),(.ix (.bin .add (.v 4) (.lst [(.c .non)])) (.c (.int 0)))])) [.ret (.c (.bl al))] []],
  .ret (.c (.bl aj))]⟩
noncomputable def Wx:Fn:=⟨1,2,
 [.asg [1] (.lst [(.c .non),(.c (.bl aj)),(.c (.bl al)),(.neg (.c (.int 1))),(.c (.int 0)),(.c (.int 1)),(.c (.str (bw ""))),(.c (.str (bw "1"))),(.tup []),(.lst []),(.tup [(.tup [])]),(.tup [(.tup [(.c (.int 0))])]),(.tup [(.tup [(.c (.int 1))])]),(.lst [(.tup [(.c (.int 1))])]),(.dput1 (.c (.int 0)) (.c (.int 1))),(.tup [(.c .non)]),(.bin .pow (.c (.int 10)) (.c (.int 29)))]),
  .ret (.ix (.bin .add (.v 1) (.lst [(.tup [(.tup [(.c (.int 1)),(.c (.int 0))]),(.tup [(.c (.int 0)),(.c (.int 1))])]),(.tup [(.tup [(.c (.bl aj))])]),(.tup [(.tup [(.tup [(.c (.int 1))])])])])) (.call 2 [(.v 0),(.c (.int 20))]))]⟩
noncomputable def YJ:Fn:=⟨1,1,
 [.ret (.and (.isi (.v 0) [.int]) (.not (.isi (.v 0) [.bool])))]⟩
noncomputable def Yw:Fn:=⟨2,2,
 [.ite (.or (.not (.isi (.v 1) [.tuple])) (.cmp .ne (.blt .len [(.v 1)]) (.ix (.v 0) (.c (.int 1))))) [.ret (.c (.bl al))] [],
  .ret (.blt .all [(.comp1 [0] 1 [0] (.of (.v 1)) [] (.and (.call 30 [(.v 0)]) (.chain .le .lt (.c (.int 0)) (.v 0) (.ix (.v 1) (.c (.int 0))))))])]⟩
noncomputable def Yo:Fn:=⟨2,3,
 [.ite (.not (.isi (.v 1) [.tuple])) [.ret (.c (.bl al))] [],
  .forr [2] (.of (.v 1)) [.ite (.or (.not (.call 31 [(.v 0),(.v 2)])) (.not (.blt .any [(.v 2)]))) [.ret (.c (.bl al))] []],
  .ret (.cmp .eq (.call 5 [(.v 0),(.v 1)]) (.v 1))]⟩
noncomputable def UA:Fn:=⟨1,5,
 [.asg [] (.c .non)]⟩
noncomputable def Zcx:Fn:=⟨1,14,
 [.forr [1] (.rng1 (.blt .max2 [(.c (.int 1)),(.blt .min2 [(.blt .len [(.v 0)]),(.c (.int 6))])])) [.cel 2 1 [(.v 0),(.v 1)]
  [.asg [3] (.call 3 [(.v 2),(.ix (.lst [(.c (.int 27)),(.c (.int 125))]) (.blt .toInt [(.cmp .eq (.v 1) (.c (.int 0)))]))]),
  .par [4,5] [(.call 7 [(.v 2),(.v 3)]),(.call 7 [(.v 2),(.v 3)])],
  .asg [6] (.call 5 [(.v 3),(.bin .add (.v 4) (.tup [(.call 6 [(.v 2),(.v 3)])]))]),
  .asg [7] (.call 2 [(.v 2),(.bin .add (.blt .len [(.v 4)]) (.c (.int 1)))]),
  .forr [8] (.of (.lst [(.v 5),(.v 6),(.bin .add (.sl (.v 4) af (aa (.v 7))) (.sl (.v 4) (aa (.bin .add (.v 7) (.c (.int 1)))) af)),(.v 4),(.tup [])])) [.ite (.or (.not (.call 28 [(.v 3),(.v 4),(.v 8)])) (.not (.call 28 [(.v 3),(.v 8),(.v 4)]))) [.ret (.c (.bl al))] []],
  .par [9,10] [(.call 8 [(.v 2),(.v 3),(.v 4)]),(.ix (.lst [(.call 8 [(.v 2),(.v 3),(.v 5)]),(.call 29 [(.v 2)])]) (.call 2 [(.v 2),(.c (.int 2))]))],
  .forr [11,12] (.of (.lst [(.tup [(.v 9),(.v 5)]),(.tup [(.v 4),(.v 10)]),(.tup [(.v 9),(.v 10)]),(.tup [(.v 10),(.v 9)])])) [.asg [13] (.ix (.lst [(.c .non),(.c (.str (bw "part")))]) (.blt .toInt [(.or (.not (.call 32 [(.v 3),(.v 11)])) (.not (.call 32 [(.v 3),(.v 12)])))])),
  .ite (.cmp .ne (.refu aj (.call 24 [(.v 3),(.v 11),(.v 12)])) (.v 13)) [.ret (.c (.bl al))] [],
  .ite (.cmp .ne (.refu aj (.call 27 [(.v 3),(.v 11),(.v 12)])) (.v 13)) [.ret (.c (.bl al))] []]]],
  .ret (.c (.bl aj))]⟩
noncomputable def fns:List Fn:=[UU,GD,GS,W0,GO,UT,Qk,zD,ZR,GQ,uH,VN,WM,YR,YT,GL,Vn,XV,Z4,Wy,Q7,zW,uA,G4,Qv,Y0,QP,XI,YC,Wx,YJ,Yw,Yo,UA,Zcx]
noncomputable abbrev tk:Nat:=2
noncomputable abbrev sn:Nat:=1
end K22
namespace K22
open PySem PySem.Spec PyProof.Rows L2 Wr Gn
open Sd (ya vw qy jh wq jv ZcL wT ZaS jA x6 wP qT ZaL wZ QU jZ uV qr xj xO vb x9 wE QN GW wz wJ wg Ux Je)
def top(i:Nat):eF:=PySem.Challenge.pw_fewspaces_k22_parts_in_one_another.main.body.getD i (.Pass ⟨0,0,0,0⟩)
abbrev r0:FR:=⟨"_law_cell_at",top 33,["_law_script","_law_k"],2⟩
abbrev r1:FR:=⟨"_law_state",top 34,["_law_script","_law_k","_law_cell"],2⟩
abbrev r2:FR:=⟨"_law_take",top 35,["_law_state_here","_law_many","_law_found","_law_mixed"],2⟩
abbrev r3:FR:=⟨"_law_space",top 36,["_law_state_here","_law_most","_law_some"],2⟩
abbrev r4:FR:=⟨"_law_plus",top 38,["_law_space_here","_law_one","_law_other","_law_often"],4⟩
abbrev r5:FR:=⟨"_law_reduced",top 39,["_law_space_here","_law_rows","_law_rest","_law_found","_law_place","_law_fit","_law_often","_law_one"],2⟩
abbrev r6:FR:=⟨"_law_row_of",top 37,["_law_state_here","_law_space_here"],2⟩
abbrev r7:FR:=⟨"_law_part",top 41,["_law_state_here","_law_space_here","_law_many"],2⟩
abbrev r8:FR:=⟨"_law_bent",top 46,["_law_state_here","_law_space_here","_law_part_here","_law_at","_law_row","_law_k","_law_odd_here","_law_rows","_law_one","_law_kind","_law_some"],3⟩
abbrev r9:FR:=⟨"_law_held",top 40,["_law_space_here","_law_part_here","_law_found","_law_row","_law_longer","_law_often"],2⟩
abbrev r10:FR:=⟨"head_of",top 15,["row","place","number"],1⟩
abbrev r11:FR:=⟨"is_rising",top 14,["things"],1⟩
abbrev r12:FR:=⟨"noughts_at",top 18,["rows","place"],2⟩
abbrev r13:FR:=⟨"stands_alone",top 22,["rows","at","place"],3⟩
abbrev r14:FR:=⟨"is_whole",top 13,["thing","least","greatest"],3⟩
abbrev r15:FR:=⟨"is_row",top 20,["space","thing","p","n"],2⟩
abbrev r16:FR:=⟨"is_part",top 21,["space","thing","places"],2⟩
abbrev r17:FR:=⟨"need_part",top 23,["space","thing"],2⟩
abbrev r18:FR:=⟨"need_parts",top 24,["space","one","other"],3⟩
abbrev r19:FR:=⟨"plus_times",top 16,["p","row","other","number"],4⟩
abbrev r20:FR:=⟨"cleared",top 17,["p","row","other","head"],4⟩
abbrev r21:FR:=⟨"left_over",top 25,["space","part","row","p","n","rest","other"],3⟩
abbrev r22:FR:=⟨"has_row",top 26,["space","part","row"],3⟩
abbrev r23:FR:=⟨"is_within",top 30,["space","one","other"],3⟩
abbrev r24:FR:=⟨"lies_in",top 29,["space","one","other"],3⟩
abbrev r25:FR:=⟨"_law_same",top 47,["_law_found","_law_due"],2⟩
abbrev r26:FR:=⟨"rows_of",top 27,["space","part","p","n","rows","other"],2⟩
abbrev r27:FR:=⟨"first_beyond",top 31,["space","one","other","row"],3⟩
abbrev r28:FR:=⟨"_law_right",top 49,["_law_space_here","_law_one","_law_other","_law_there","_law_beyond","_law_turn","_law_found"],3⟩
abbrev r29:FR:=⟨"_law_odd",top 45,["_law_state_here","_law_some"],1⟩
abbrev r30:FR:=⟨"_law_whole",top 42,["_law_thing"],1⟩
abbrev r31:FR:=⟨"_law_is_row",top 43,["_law_space_here","_law_thing"],2⟩
abbrev r32:FR:=⟨"_law_is_part",top 44,["_law_space_here","_law_thing","_law_row"],2⟩
abbrev r33:FR:=⟨"_law_refused",top 48,["_law_call","_law_error","e","_law_sorts","_law_words"],1⟩
abbrev r34:FR:=⟨"law",top 50,["_law_script","_law_k","_law_state_here","_law_space_here","_law_one","_law_other","_law_more","_law_at","_law_part_here","_law_bent_here","_law_bad","_law_first","_law_second","_law_due"],1⟩
noncomputable abbrev rL:FR:=r34
noncomputable abbrev fs:List FR:=[r0,r1,r2,r3,r4,r5,r6,r7,r8,r9,r10,r11,r12,r13,r14,r15,r16,r17,r18,r19,r20,r21,r22,r23,r24,r25,r26,r27,r28,r29,r30,r31,r32,r33]
abbrev zs:List bn:=["all","any","bool","dict","enumerate","int","isinstance","len","list","max","min","range","sorted","sum","tuple","zip","ValueError"]
abbrev gs:List (bn×Gv):=[]
abbrev n0:List bn:=["_law_rows","_law_space_here","_law_most"]
abbrev n1:List bn:=["_law_first","_law_second","_law_often","_law_space_here"]
abbrev n2:List bn:=["_law_row","_law_place"]
abbrev n3:List bn:=["_law_row","_law_space_here","_law_one","_law_place"]
abbrev n4:List bn:=["_law_number","_law_fit","_law_place","_law_space_here"]
abbrev n5:List bn:=["_law_number","_law_often","_law_space_here"]
abbrev n6:List bn:=["_law_place","_law_state_here","_law_space_here"]
abbrev n7:List bn:=["_law_turn","_law_state_here","_law_space_here"]
abbrev n8:List bn:=["_law_number","_law_space_here"]
abbrev n9:List bn:=["_law_row"]
abbrev n10:List bn:=["_law_one","_law_space_here","_law_row","_law_often"]
abbrev n11:List bn:=["one","other"]
abbrev n12:List bn:=["row","place"]
abbrev n13:List bn:=["number","p"]
abbrev n14:List bn:=["row"]
abbrev n15:List bn:=["at","place","thing"]
abbrev n16:List bn:=["row","space"]
abbrev n17:List bn:=["mine","its","number","p"]
abbrev n18:List bn:=["row","space","other"]
abbrev n19:List bn:=["_law_one","_law_other"]
abbrev n20:List bn:=["row","number","p","other"]
abbrev n21:List bn:=["_law_row","_law_there"]
abbrev n22:List bn:=["_law_one"]
local macro_rules | `(tactic| walk_at "n") => `(tactic| first|exact ZS (N:=n0) (by kernel_rfl!)|exact ZS (N:=n1) (by kernel_rfl!)|exact ZS (N:=n2) (by kernel_rfl!)|exact ZS (N:=n3) (by kernel_rfl!)|exact ZS (N:=n4) (by kernel_rfl!)|exact ZS (N:=n5) (by kernel_rfl!)|exact ZS (N:=n6) (by kernel_rfl!)|exact ZS (N:=n7) (by kernel_rfl!)|exact ZS (N:=n8) (by kernel_rfl!)|exact ZS (N:=n9) (by kernel_rfl!)|exact ZS (N:=n10) (by kernel_rfl!)|exact ZS (N:=n11) (by kernel_rfl!)|exact ZS (N:=n12) (by kernel_rfl!)|exact ZS (N:=n13) (by kernel_rfl!)|exact ZS (N:=n14) (by kernel_rfl!)|exact ZS (N:=n15) (by kernel_rfl!)|exact ZS (N:=n16) (by kernel_rfl!)|exact ZS (N:=n17) (by kernel_rfl!)|exact ZS (N:=n18) (by kernel_rfl!)|exact ZS (N:=n19) (by kernel_rfl!)|exact ZS (N:=n20) (by kernel_rfl!)|exact ZS (N:=n21) (by kernel_rfl!)|exact ZS (N:=n22) (by kernel_rfl!))
local macro_rules | `(tactic| walk_at "e") => `(tactic| first|exact vw|exact ya|exact x6|exact jA|exact qy|exact jv|exact wP|exact jh|exact ZcL|exact ZaS|exact wT|exact wq)
local macro_rules | `(tactic| walk_at "z") => `(tactic| exact Top.no (by assumption) (by kernel_rfl!))
local macro_rules | `(tactic| walk_at "v") => `(tactic| first|exact gN (by kernel_rfl!)|exact eU (by kernel_rfl!)|exact eU (gN (by kernel_rfl!))|exact eU (eU (by kernel_rfl!)))
noncomputable def pp(k:Nat):eY:=([⟨183,7,183,17⟩,⟨183,21,183,25⟩,⟨183,7,183,25⟩,⟨184,15,184,19⟩,⟨184,8,184,19⟩,⟨183,4,184,19⟩,⟨185,4,185,14⟩,⟨185,17,185,114⟩,⟨185,4,185,114⟩,⟨186,4,186,14⟩,⟨186,17,186,27⟩,⟨186,30,186,129⟩,⟨186,17,186,129⟩,⟨186,4,186,129⟩,⟨187,4,187,14⟩,⟨187,17,187,27⟩,⟨187,30,187,126⟩,⟨187,17,187,126⟩,⟨187,4,187,126⟩,⟨188,4,188,14⟩,⟨188,4,188,54⟩,⟨189,7,189,45⟩,⟨189,7,189,101⟩,⟨0,0,0,0⟩,⟨190,15,190,30⟩,⟨190,8,190,30⟩,⟨189,4,190,30⟩,⟨192,22,192,32⟩,⟨192,39,192,43⟩,⟨192,4,192,45⟩,⟨188,4,188,21⟩,⟨188,4,188,54⟩,⟨192,22,192,38⟩,⟨192,22,192,44⟩,⟨191,4,191,14⟩,⟨191,17,191,106⟩,⟨191,4,191,106⟩,⟨192,11,192,21⟩,⟨192,11,192,45⟩,⟨0,0,0,0⟩,⟨185,18,185,28⟩,⟨185,29,185,39⟩,⟨185,41,185,46⟩,⟨185,18,185,47⟩,⟨185,49,185,59⟩,⟨185,60,185,70⟩,⟨185,72,185,78⟩,⟨185,49,185,79⟩,⟨185,81,185,91⟩,⟨185,92,185,102⟩,⟨185,104,185,112⟩,⟨185,81,185,113⟩,⟨186,31,186,41⟩,⟨186,42,186,52⟩,⟨186,54,186,61⟩,⟨186,31,186,62⟩,⟨186,64,186,74⟩,⟨186,75,186,85⟩,⟨186,87,186,96⟩,⟨186,64,186,97⟩,⟨186,99,186,109⟩,⟨186,110,186,120⟩,⟨186,122,186,127⟩,⟨186,99,186,128⟩,⟨187,31,187,41⟩,⟨187,42,187,52⟩,⟨187,54,187,60⟩,⟨187,31,187,61⟩,⟨187,63,187,73⟩,⟨187,74,187,84⟩,⟨187,86,187,91⟩,⟨187,63,187,92⟩,⟨187,94,187,104⟩,⟨187,105,187,115⟩,⟨187,117,187,124⟩,⟨187,94,187,125⟩,⟨188,22,188,32⟩,⟨188,33,188,43⟩,⟨188,45,188,52⟩,⟨188,22,188,53⟩,⟨189,11,189,21⟩,⟨189,22,189,32⟩,⟨189,34,189,44⟩,⟨189,11,189,45⟩,⟨0,0,0,0⟩,⟨0,0,0,0⟩,⟨0,0,0,0⟩,⟨0,0,0,0⟩,⟨0,0,0,0⟩,⟨0,0,0,0⟩,⟨178,4,178,14⟩,⟨178,17,178,21⟩,⟨178,4,178,21⟩,⟨180,8,180,17⟩,⟨180,8,180,19⟩,⟨180,8,180,19⟩,⟨181,11,181,21⟩,⟨182,8,182,18⟩,⟨182,21,182,22⟩,⟨182,8,182,22⟩,⟨181,4,182,22⟩,⟨179,4,182,22⟩,⟨191,18,191,23⟩,⟨191,25,191,31⟩,⟨191,33,191,41⟩,⟨191,43,191,50⟩,⟨191,52,191,64⟩,⟨191,66,191,74⟩,⟨191,76,191,82⟩,⟨191,84,191,89⟩,⟨191,91,191,97⟩,⟨191,99,191,105⟩]:List eY).getD k ⟨0,0,0,0⟩
def okl:OkX fs zs gs fns tk sn 0 fs (fns.take 34)/\Zep aj fs zs gs fns tk 33 r33.st/\BdR aj fs zs gs fns tk sn 33 r33.st rL Zcx:=by
 refine⟨?a,?b,?c⟩
 case' a=>repeat'(first|exact dg|refine⟨⟨rfl,rfl,by decide +kernel,?_⟩,?_⟩|exact jj|intro P w K mg base cl f fd d T L h hn cdv A outer s H E hr hu)
 case' b=>intro P w K mg base f fd d T hn cdv A outer s H hu;unfold Sd.ksum
 case' c=>intro P w K mg base cl f fd fL c Pt d T L h RA hn hC hB hP A outer s H E hp hr hr0 hu
 all_goals
 (repeat'(first
 |(with_reducible show Bx (Sd.CSs _ _ _ _ _ _ [.cel _ _ _ _]));refine Zc3 Sd.qG (by assumption) (by assumption) (by assumption) ?_ ?_ (by assumption) (by kernel_rfl!) rfl (show _=_ from by kernel_rfl!) (by kernel_rfl!) (by walk_at "e") rfl (by kernel_rfl!) (by walk_at "v") (by first|exact .inl rfl|exact .inr (by kernel_rfl!)) (by kernel_rfl!) (by kernel_rfl!) (by kernel_rfl!)
 |(with_reducible show Bx (Sd.CSs _ _ _ _ _ _ _));first|exact xb|refine GG ?_ ?_
 |(with_reducible show Bx (Sd.CA _ _ _ _ _));first|exact yV|refine JZ ?_ ?_ (by walk_at "e")
 |(with_reducible show Bx (Sd.CF _ _ _ _ (.blt .list _)));refine Gz (x:="list") (f:=.list) GW (by walk_at "z") ?_ (he:=(by walk_at "e")) (hg:=show _=_ from by kernel_rfl!) (hv:=by kernel_rfl!) (hn:=by decide) (hdb:=by kernel_rfl!) (hpl:=by kernel_rfl!)
 |(with_reducible show Bx (Sd.CF _ _ _ _ (.blt .sorted _)));refine Gc (x:="sorted") (f:=.sorted) (Ux (by assumption)) (by walk_at "z") ?_ (he:=(by walk_at "e")) (hg:=show _=_ from by kernel_rfl!) (hv:=by kernel_rfl!) (hn:=by decide) (hdb:=by kernel_rfl!) (hpl:=by kernel_rfl!)
 |(with_reducible show Bx (Sd.CF _ _ _ _ (.lst _)));refine yj ?_
 |(with_reducible show Bx (Sd.CF _ _ _ _ (.comp1 _ _ _ _ _ _)));refine UD rfl (by first|assumption|exact T6 (by kernel_rfl!)) (by walk_at "n") ?_ (λ_ _ _ _=>⟨?_,?_,?_⟩) (hs:=by intro _;kernel_rfl!)
 |(with_reducible show Bx (Sd.CE _ _ _ _ (.dix _ al)));refine JW ?_
 |(with_reducible show Bx (Sd.CE _ _ _ _ (.dix _ aj)));refine JB ?_
 |(with_reducible show Bx (Sd.CE _ _ _ _ (.v _)));exact ZdN _ (hN:=by kernel_rfl!) (hv:=by walk_at "v") (hd:=by kernel_rfl!) (hcd:=by kernel_rfl!)
 |(with_reducible show Bx (Sd.CE _ _ _ _ (.c _)));first|exact yi|exact jC|exact yD|exact yQ
 |(with_reducible show Bx (Sd.CE _ _ _ _ (.call _ _)));first|refine Zan Sd.qG (by assumption) (by assumption) (by assumption) ?_ (by kernel_rfl!) (show _=_ from by kernel_rfl!) (by kernel_rfl!) (by walk_at "e") rfl|refine ZcT (by assumption) (by assumption) (by assumption) ?_ (by kernel_rfl!) (show _=_ from by kernel_rfl!) (by kernel_rfl!) (by walk_at "e") rfl|refine Zan Sd.Zfk (by assumption) (by assumption) (by assumption) ?_ (by kernel_rfl!) (show _=_ from by kernel_rfl!) (by kernel_rfl!) (by walk_at "e") rfl
 |(with_reducible show Bx (Sd.CE _ _ _ _ (.refu _ _)));refine Zet (Pp:=pp) Sd.qG (by assumption) (by assumption) (by assumption) (by assumption) rfl (by kernel_rfl!) (by kernel_rfl!) (by kernel_rfl!) (by assumption) (by assumption) (by assumption) (by assumption) rfl rfl rfl rfl (by kernel_rfl!) (by kernel_rfl!) (show _=_ from by kernel_rfl!) (λ_ _ _ _ _ _ _ _ _ _ _=>?_)
 |(with_reducible show Bx (Sd.CE _ _ _ _ .dnew));exact GA
 |(with_reducible show Bx (Sd.CE _ _ _ _ (.dput1 _ _)));exact Zau
 |(with_reducible show Bx (Sd.CE _ _ _ _ (.ix _ _)));refine ZaO ?_ ?_ (hs:=by intro _ _;kernel_rfl!)
 |(with_reducible show Bx (Sd.CE _ _ _ _ (.blt .len _)));refine Y1 (x:="len") (f:=.len) xO (by walk_at "z") ?_ (he:=(by walk_at "e")) (hg:=show _=_ from by kernel_rfl!) (hv:=by kernel_rfl!) (hn:=by decide) (hdb:=by kernel_rfl!) (hpl:=by kernel_rfl!)
 |(with_reducible show Bx (Sd.CE _ _ _ _ (.blt .tuple _)));refine WD (x:="tuple") (f:=.tuple) QN (by walk_at "z") ?_ (he:=(by walk_at "e")) (hg:=show _=_ from by kernel_rfl!) (hv:=by kernel_rfl!) (hn:=by decide) (hdb:=by kernel_rfl!) (hpl:=by kernel_rfl!)
 |(with_reducible show Bx (Sd.CE _ _ _ _ (.blt .all _)));refine Y1 (x:="all") (f:=.all) (wz rfl) (by walk_at "z") ?_ (he:=(by walk_at "e")) (hg:=show _=_ from by kernel_rfl!) (hv:=by kernel_rfl!) (hn:=by decide) (hdb:=by kernel_rfl!) (hpl:=by kernel_rfl!)
 |(with_reducible show Bx (Sd.CE _ _ _ _ (.blt .any _)));refine Y1 (x:="any") (f:=.any) (wJ rfl) (by walk_at "z") ?_ (he:=(by walk_at "e")) (hg:=show _=_ from by kernel_rfl!) (hv:=by kernel_rfl!) (hn:=by decide) (hdb:=by kernel_rfl!) (hpl:=by kernel_rfl!)
 |(with_reducible show Bx (Sd.CE _ _ _ _ (.blt .toInt _)));refine WD (x:="int") (f:=.toInt) wE (by walk_at "z") ?_ (he:=(by walk_at "e")) (hg:=show _=_ from by kernel_rfl!) (hv:=by kernel_rfl!) (hn:=by decide) (hdb:=by kernel_rfl!) (hpl:=by kernel_rfl!)
 |(with_reducible show Bx (Sd.CE _ _ _ _ (.blt .max2 _)));refine Y1 (x:="max") (f:=.max2) (vb rfl) (by walk_at "z") ?_ (he:=(by walk_at "e")) (hg:=show _=_ from by kernel_rfl!) (hv:=by kernel_rfl!) (hn:=by decide) (hdb:=by kernel_rfl!) (hpl:=by kernel_rfl!)
 |(with_reducible show Bx (Sd.CE _ _ _ _ (.blt .min2 _)));refine Y1 (x:="min") (f:=.min2) (x9 rfl) (by walk_at "z") ?_ (he:=(by walk_at "e")) (hg:=show _=_ from by kernel_rfl!) (hv:=by kernel_rfl!) (hn:=by decide) (hdb:=by kernel_rfl!) (hpl:=by kernel_rfl!)
 |(with_reducible show Bx (Sd.CE _ _ _ _ (.blt .sum _)));refine Y1 (x:="sum") (f:=.sum) (wg rfl) (by walk_at "z") ?_ (he:=(by walk_at "e")) (hg:=show _=_ from by kernel_rfl!) (hv:=by kernel_rfl!) (hn:=by decide) (hdb:=by kernel_rfl!) (hpl:=by kernel_rfl!)
 |(with_reducible show Bx (Sd.CE _ _ _ _ (.blt .dictP _)));refine WD (x:="dict") (f:=.dictP) (Je rfl (by assumption)) (by walk_at "z") ?_ (he:=(by walk_at "e")) (hg:=show _=_ from by kernel_rfl!) (hv:=by kernel_rfl!) (hn:=by decide) (hdb:=by kernel_rfl!) (hpl:=by kernel_rfl!)
 |(with_reducible show Bx (Sd.CE _ _ _ _ (.bin _ _ _)));first|refine yz ?_ ?_|refine yR ?_ ?_|refine yw ?_ ?_|refine xI ?_ ?_|refine J1 ?_ ?_|refine xy ?_ ?_
 |(with_reducible show Bx (Sd.CE _ _ _ _ (.tup _)));refine xA ?_
 |(with_reducible show Bx (Sd.CE _ _ _ _ (.neg _)));refine xi ?_
 |(with_reducible show Bx (Sd.CE _ _ _ _ (.not _)));refine xK ?_
 |(with_reducible show Bx (Sd.CE _ _ _ _ (.cmp .eq _ _)));refine Xa (op:=.Eq) (o:=.eq) (qT (by assumption)) ?_ ?_ (hm:=by first|exact Z8 _|kernel_rfl!)
 |(with_reducible show Bx (Sd.CE _ _ _ _ (.cmp .ne _ _)));refine Xa (op:=.NotEq) (o:=.ne) (ZaL (by assumption)) ?_ ?_ (hm:=by first|exact Z8 _|kernel_rfl!)
 |(with_reducible show Bx (Sd.CE _ _ _ _ (.cmp .lt _ _)));refine Xa (op:=.Lt) (o:=.lt) (wZ (by assumption)) ?_ ?_ (hm:=by first|exact Z8 _|kernel_rfl!)
 |(with_reducible show Bx (Sd.CE _ _ _ _ (.cmp .le _ _)));refine Xa (op:=.LtE) (o:=.le) (QU (by assumption)) ?_ ?_ (hm:=by first|exact Z8 _|kernel_rfl!)
 |(with_reducible show Bx (Sd.CE _ _ _ _ (.cmp .ge _ _)));refine Xa (op:=.GtE) (o:=.ge) (jZ (by assumption)) ?_ ?_ (hm:=by first|exact Z8 _|kernel_rfl!)
 |(with_reducible show Bx (Sd.CE _ _ _ _ (.cmp .is _ _)));refine Xa (op:=.Is) (o:=.is) (uV (by assumption)) ?_ ?_ (hm:=by first|exact Z8 _|kernel_rfl!)
 |(with_reducible show Bx (Sd.CE _ _ _ _ (.cmp .inn _ _)));refine Xa (op:=.In) (o:=.inn) (qr (by assumption)) ?_ ?_ (hm:=by first|exact Z8 _|kernel_rfl!)
 |(with_reducible show Bx (Sd.CE _ _ _ _ (.cmp .nin _ _)));refine Xa (op:=.NotIn) (o:=.nin) (xj (by assumption)) ?_ ?_ (hm:=by first|exact Z8 _|kernel_rfl!)
 |(with_reducible show Bx (Sd.CE _ _ _ _ (.chain _ _ _ _ _)));first|refine WF (op:=.LtE) (o:=.le) (op':=.LtE) (o':=.le) (QU (by assumption)) (QU (by assumption)) ?_ ?_ ?_ (hm:=by kernel_rfl!)|refine WF (op:=.LtE) (o:=.le) (op':=.Lt) (o':=.lt) (QU (by assumption)) (wZ (by assumption)) ?_ ?_ ?_ (hm:=by kernel_rfl!)
 |(with_reducible show Bx (Sd.CE _ _ _ _ (.sl _ _ _)));refine ZaI ?_ ?_ ?_
 |(with_reducible show Bx (Sd.CE _ _ _ _ (.rev _)));refine yt ?_ ?_
 |(with_reducible show Bx (Sd.CE _ _ _ _ (.isi _ _)));first|refine Wi (T:="int") (t:=.int) (by intro m h;cases h) (by walk_at "z") (by walk_at "z") ?_ (hg:=show _=_ from by kernel_rfl!) (hgT:=show _=_ from by kernel_rfl!) (hvT:=by kernel_rfl!) (hnT:=by decide) (hdT:=by kernel_rfl!) (hs1:=by kernel_rfl!) (hs2:=by kernel_rfl!) (hpl:=by kernel_rfl!)|refine Wi (T:="bool") (t:=.bool) (by intro m h;cases h) (by walk_at "z") (by walk_at "z") ?_ (hg:=show _=_ from by kernel_rfl!) (hgT:=show _=_ from by kernel_rfl!) (hvT:=by kernel_rfl!) (hnT:=by decide) (hdT:=by kernel_rfl!) (hs1:=by kernel_rfl!) (hs2:=by kernel_rfl!) (hpl:=by kernel_rfl!)|refine Wi (T:="tuple") (t:=.tuple) (by intro m h;cases h) (by walk_at "z") (by walk_at "z") ?_ (hg:=show _=_ from by kernel_rfl!) (hgT:=show _=_ from by kernel_rfl!) (hvT:=by kernel_rfl!) (hnT:=by decide) (hdT:=by kernel_rfl!) (hs1:=by kernel_rfl!) (hs2:=by kernel_rfl!) (hpl:=by kernel_rfl!)|refine Wi (T:="list") (t:=.list) (by intro m h;cases h) (by walk_at "z") (by walk_at "z") ?_ (hg:=show _=_ from by kernel_rfl!) (hgT:=show _=_ from by kernel_rfl!) (hvT:=by kernel_rfl!) (hnT:=by decide) (hdT:=by kernel_rfl!) (hs1:=by kernel_rfl!) (hs2:=by kernel_rfl!) (hpl:=by kernel_rfl!)|refine Wi (T:="dict") (t:=.dict) (by intro m h;cases h) (by walk_at "z") (by walk_at "z") ?_ (hg:=show _=_ from by kernel_rfl!) (hgT:=show _=_ from by kernel_rfl!) (hvT:=by kernel_rfl!) (hnT:=by decide) (hdT:=by kernel_rfl!) (hs1:=by kernel_rfl!) (hs2:=by kernel_rfl!) (hpl:=by kernel_rfl!)|refine J2 (T:="tuple") (U:="list") (t:=.tuple) (u:=.list) (by intro m h;cases h) (by intro m h;cases h) (by walk_at "z") (by walk_at "z") (by walk_at "z") ?_ (hg:=show _=_ from by kernel_rfl!) (hgT:=show _=_ from by kernel_rfl!) (hgU:=show _=_ from by kernel_rfl!) (hvT:=by kernel_rfl!) (hvU:=by kernel_rfl!) (hnT:=by decide) (hdT:=by kernel_rfl!) (hnU:=by decide) (hdU:=by kernel_rfl!) (hs0:=by kernel_rfl!) (hs00:=by kernel_rfl!) (hs1:=by kernel_rfl!) (hs2:=by kernel_rfl!) (hpl:=by kernel_rfl!)
 |(first|(with_reducible show Bx (Sd.CE _ _ _ _ (.lst _)))|(with_reducible show Bx (Sd.CE _ _ _ _ (.comp1 _ _ _ _ _ _)))|(with_reducible show Bx (Sd.CE _ _ _ _ (.comp2 _ _ _ _ _ _ _ _ _)))|(with_reducible show Bx (Sd.CE _ _ _ _ (.blt .list _)))|(with_reducible show Bx (Sd.CE _ _ _ _ (.blt .sorted _))));refine ZeN ?_
 |(with_reducible show Bx (Sd.CE _ _ _ _ _));first|refine xt ?_ ?_|refine jG ?_ ?_
 |(with_reducible show Bx (Sd.CO _ _ _ _ _));first|exact Gx|refine J0 ?_
 |(with_reducible show Bx (Sd.CS _ _ _ _ _ _ (.raise _ _)));exact Ze0 Sd.qG rfl (by assumption) (by kernel_rfl!) (show _=_ from by kernel_rfl!) (by kernel_rfl!) (by walk_at "e") rfl
 |(with_reducible show Bx (Sd.CS _ _ _ _ _ _ (.ret _)));first|refine yS ?_|refine JH ?_
 |(with_reducible show Bx (Sd.CS _ _ _ _ _ _ (.mov _ _)));exact xn (by assumption) (hj:=by kernel_rfl!) (hv:=by walk_at "v") (hd:=by kernel_rfl!) (hcd:=by kernel_rfl!) (hi:=by kernel_rfl!) (hx:=by walk_at "v") (hf:=by first|exact .inl rfl|exact .inr (by kernel_rfl!)) (hs:=by kernel_rfl!) (hw:=by kernel_rfl!) (h1:=by kernel_rfl!)
 |(with_reducible show Bx (Sd.CS _ _ _ _ _ _ (.dset _ _)));refine Gj ?_ (hN:=by kernel_rfl!) (hv:=by walk_at "v") (hd:=by kernel_rfl!) (hcd:=by kernel_rfl!) (ha:=by intro _;kernel_rfl!) (hs:=by kernel_rfl!) (hw:=by kernel_rfl!) (h1:=by kernel_rfl!)
 |(with_reducible show Bx (Sd.CS _ _ _ _ _ _ (.par _ _)));refine yF rfl (by assumption) ?_ (hnm:=by decide) (hi:=by kernel_rfl!) (hj:=by kernel_rfl!) (hx:=by kernel_rfl!) (hy:=by kernel_rfl!) (hw:=by kernel_rfl!) (hs:=by kernel_rfl!)
 |(with_reducible show Bx (Sd.CS _ _ _ _ _ _ (.asg _ (.comp1 _ _ _ _ _ _))));refine UF rfl (by assumption) (by walk_at "n") ?_ (λ_ _ _ _=>⟨?_,?_,?_⟩) (hsw:=by kernel_rfl!) (hy:=by kernel_rfl!) (hx:=by walk_at "v") (hf:=by first|exact .inl rfl|exact .inr (by kernel_rfl!)) (hs:=by intro _;kernel_rfl!)
 |(with_reducible show Bx (Sd.CS _ _ _ _ _ _ (.asg _ (.comp2 _ _ _ _ _ _ _ _ _))));refine Vl rfl (by assumption) (by walk_at "n") ?_ (λ_ _ _ _=>⟨?_,?_,?_,?_,?_,?_⟩) (hsw:=by kernel_rfl!) (hy:=by kernel_rfl!) (hx:=by walk_at "v") (hf:=by first|exact .inl rfl|exact .inr (by kernel_rfl!)) (hs:=by intro _;kernel_rfl!) (hs2:=by intro _ _;kernel_rfl!)
 |(with_reducible show Bx (Sd.CS _ _ _ _ _ _ (.asg [_] _)));first|refine Ji ?_ ?_ (hf:=by kernel_rfl!) (hs:=by kernel_rfl!) (hw:=by kernel_rfl!) (h1:=by kernel_rfl!)|refine Gm ?_ ?_ (hs:=by kernel_rfl!) (hw:=by kernel_rfl!) (h1:=by kernel_rfl!)
 |(with_reducible show Bx (Sd.CS _ _ _ _ _ _ (.asg _ _)));refine yZ ?_ ?_ (hs:=by kernel_rfl!) (hw:=by kernel_rfl!) (h1:=by kernel_rfl!)
 |(with_reducible show Bx (Sd.CS _ _ _ _ _ _ (.ex (.mt .extend _ _))));refine Vp ?_ (hN:=by kernel_rfl!) (hv:=by walk_at "v") (hd:=by kernel_rfl!) (hcd:=by kernel_rfl!) (hbase:=by kernel_rfl!) (hfew:=by kernel_rfl!) (hline:=by kernel_rfl!) (hs:=by kernel_rfl!) (hplain:=by kernel_rfl!) (hw:=by kernel_rfl!)
 |(with_reducible show Bx (Sd.CS _ _ _ _ _ _ (.ex _)));refine GC ?_ (hs:=by kernel_rfl!)
 |(with_reducible show Bx (Sd.CS _ _ _ _ _ _ (.ite _ _ _)));refine jH ?_ ?_ ?_
 |(with_reducible show Bx (Sd.CS _ _ _ _ _ _ (.forr _ _ _)));refine yr PassesOwn.leaving rfl ?_ ?_ ?_ (hs:=by intro _;kernel_rfl!)
 |(with_reducible show Bx (Sd.CT _ _ _ _ (.not _)));refine yM ?_
 |(with_reducible show Bx (Sd.CT _ _ _ _ (.cmp .eq _ _)));refine Y9 (op:=.Eq) (o:=.eq) (qT (by assumption)) ?_ ?_ (hm:=by first|exact Z8 _|kernel_rfl!)
 |(with_reducible show Bx (Sd.CT _ _ _ _ (.cmp .ne _ _)));refine Y9 (op:=.NotEq) (o:=.ne) (ZaL (by assumption)) ?_ ?_ (hm:=by first|exact Z8 _|kernel_rfl!)
 |(with_reducible show Bx (Sd.CT _ _ _ _ (.cmp .lt _ _)));refine Y9 (op:=.Lt) (o:=.lt) (wZ (by assumption)) ?_ ?_ (hm:=by first|exact Z8 _|kernel_rfl!)
 |(with_reducible show Bx (Sd.CT _ _ _ _ (.cmp .le _ _)));refine Y9 (op:=.LtE) (o:=.le) (QU (by assumption)) ?_ ?_ (hm:=by first|exact Z8 _|kernel_rfl!)
 |(with_reducible show Bx (Sd.CT _ _ _ _ (.cmp .ge _ _)));refine Y9 (op:=.GtE) (o:=.ge) (jZ (by assumption)) ?_ ?_ (hm:=by first|exact Z8 _|kernel_rfl!)
 |(with_reducible show Bx (Sd.CT _ _ _ _ (.cmp .is _ _)));refine Y9 (op:=.Is) (o:=.is) (uV (by assumption)) ?_ ?_ (hm:=by first|exact Z8 _|kernel_rfl!)
 |(with_reducible show Bx (Sd.CT _ _ _ _ (.cmp .inn _ _)));refine Y9 (op:=.In) (o:=.inn) (qr (by assumption)) ?_ ?_ (hm:=by first|exact Z8 _|kernel_rfl!)
 |(with_reducible show Bx (Sd.CT _ _ _ _ (.cmp .nin _ _)));refine Y9 (op:=.NotIn) (o:=.nin) (xj (by assumption)) ?_ ?_ (hm:=by first|exact Z8 _|kernel_rfl!)
 |(with_reducible show Bx (Sd.CT _ _ _ _ (.or _ _)));refine ZdL (vj ?_ ?_)
 |(with_reducible show Bx (Sd.CT _ _ _ _ _));refine xu ?_ (he:=by intro _;kernel_rfl!)
 |(with_reducible show Bx (Sd.CWh _ _ _ _ _));first|refine vj ?_ ?_|refine xF ?_
 |(with_reducible show Bx (Sd.CTs _ _ _ _ _));first|exact JX|refine Gf ?_
 |(with_reducible show Bx (Sd.CW _ _ _ _ _ _));first|refine JK (by walk_at "z") ?_ (hg:=show _=_ from by kernel_rfl!) (hs:=by kernel_rfl!)|refine y9 (by walk_at "z") ?_ (hg:=show _=_ from by kernel_rfl!) (hs:=by kernel_rfl!) (hs2:=by kernel_rfl!)|refine Gu (by walk_at "z") ?_ (hg:=show _=_ from by kernel_rfl!) (hs:=by kernel_rfl!)|refine Zar ?_|refine qL ?_
 |(with_reducible show Bx (Sd.CG _ _ _));first|exact JE (by first|assumption|exact T6 (by kernel_rfl!)) (hi:=by kernel_rfl!) (hx:=by walk_at "v") (hf:=by first|exact .inl rfl|exact .inr (by kernel_rfl!))|refine yC rfl ?_ (hn:=by kernel_rfl!) (hst:=by kernel_rfl!)
 |(with_reducible show Bx (Sd.CGs _ _ _));first|exact Gt|refine UB (by first|assumption|exact T6 (by kernel_rfl!)) ?_ (hi:=by kernel_rfl!) (hx:=by walk_at "v") (hf:=by first|exact .inl rfl|exact .inr (by kernel_rfl!)) (hs:=by kernel_rfl!)))
end K22
namespace La
variable{F:Type}[kc F]
noncomputable abbrev Vec(F:Type):=Nat->F
noncomputable abbrev Pt(F:Type):=List (Nat×Vec F)
noncomputable def pr:Pt F->Vec F->Vec F
 |[],_,_=>0
 |a::P,v,j=>v a.1*a.2 j+pr P v j
structure Rf(P:Pt F):Prop where
 inc:P.Pairwise λa b=>a.1<b.1
 low:∀a∈P,∀j,j<a.1->a.2 j=0
 one:∀a∈P,a.2 a.1=1
 zer:∀a∈P,∀b∈P,a.1≠b.1->b.2 a.1=0
def Mem(P:Pt F)(v:Vec F):Prop:=∀j,v j=pr P v j
def ZcV(P:Pt F)(u v:Vec F)(c:F)(j:Nat):pr P (λj=>u j+c*v j) j=pr P u j+c*pr P v j:=by
 induction P with|nil=>show(0:F)=0+c*0;grind|cons a P ih=>show(u a.1+c*v a.1)*a.2 j+pr P _ j=(u a.1*a.2 j+pr P u j)+c*(v a.1*a.2 j+pr P v j);grind
def VA(P:Pt F)(u v:Vec F)(c:F)(j:Nat):pr P (λj=>u j-c*v j) j=pr P u j-c*pr P v j:=by
 induction P with|nil=>show(0:F)=0-c*0;grind|cons a P ih=>show(u a.1-c*v a.1)*a.2 j+pr P _ j=(u a.1*a.2 j+pr P u j)-c*(v a.1*a.2 j+pr P v j);grind
def Zal{P:Pt F}{u v:Vec F}(h:∀b∈P,u b.1=v b.1)(j:Nat):pr P u j=pr P v j:=by
 induction P with
 |nil=>rfl
 |cons a P ih=>
  show u a.1*a.2 j+pr P u j=v a.1*a.2 j+pr P v j;rw[h a (ao ..),ih λb hb=>h b (aq _ hb)]
def YH{P:Pt F}{v:Vec F}{j:Nat}(h:∀b∈P,v b.1*b.2 j=0):pr P v j=0:=by
 induction P with
 |nil=>rfl
 |cons a P ih=>
  show v a.1*a.2 j+pr P v j=0;rw[h a (ao ..),ih λb hb=>h b (aq _ hb)];grind
theorem wN{P:Pt F}{v:Vec F}{j:Nat}{a:Nat×Vec F}(inc:P.Pairwise λa b=>a.1<b.1)(ha:a∈P)(h:∀b∈P,b.1≠a.1->v b.1*b.2 j=0):pr P v j=v a.1*a.2 j:=by
 induction P with
 |nil=>cases ha
 |cons b P ih=>
  rw[aZ]at inc;show v b.1*b.2 j+pr P v j=_;rcases az.mp ha with e|hm
  ·subst e
   rw[YH λc hc=>h c (aq _ hc) (by have:=inc.1 c hc;lia)];grind
  ·rw[ih inc.2 hm λc hc=>h c (aq _ hc),h b (ao ..) (by have:=inc.1 a hm;lia)];grind
def Rf.tail{a:Nat×Vec F}{P:Pt F}(h:Rf (a::P)):Rf P:=
 ⟨(aZ.mp h.inc).2,λb hb=>h.low b (aq _ hb),λb hb=>h.one b (aq _ hb),λb hb c hc=>h.zer b (aq _ hb) c (aq _ hc)⟩
def Rf.nil:Rf ([]:Pt F):=⟨gY,λ_ h=>(by cases h),λ_ h=>(by cases h),λ_ h=>(by cases h)⟩
def va{P:Pt F}(h:Rf P){a:Nat×Vec F}(ha:a∈P)(v:Vec F):pr P v a.1=v a.1:=by
 rw[wN h.inc ha λb hb ne=>by rw[h.zer a ha b hb (Ne.symm ne)];grind,h.one a ha];grind
def Xt{P:Pt F}(h:Rf P){a:Nat×Vec F}(ha:a∈P):Mem P a.2:=λj=>by
 rw[wN h.inc ha λb hb ne=>by rw[h.zer b hb a ha ne];grind,h.one a ha];grind
def Xq(c:F)(hu:Mem P u)(hv:Mem P v):Mem P λj=>u j+c*v j:=λj=>by
 rw[ZcV,<-hu j,<-hv j]
def W3(c:F)(hu:Mem P u)(hv:Mem P v):Mem P λj=>u j-c*v j:=λj=>by
 rw[VA,<-hu j,<-hv j]
def Ug{P:Pt F}:Mem P λ_=>0:=λj=>(YH λb _=>by grind).symm
def qP{P:Pt F}(h:Rf P)(v:Vec F):Mem P (pr P v):=λj=>Zal (λb hb=>(va h hb v).symm) j
def jz{P:Pt F}{v:Vec F}(h:Mem P v)(z:∀b∈P,v b.1=0)(j:Nat):v j=0:=by
 rw[h j];exact YH λb hb=>by rw[z b hb];grind
theorem zw{P:Pt F}(h:Rf P){v:Vec F}(hv:Mem P v){k:Nat}(hk:v k≠0)(hl:∀j,j<k->v j=0):∃a∈P,a.1=k:=by
 have inc:=h.inc;have low:=h.low;have gen:∀Q:Pt F,Q.Pairwise (λa b=>a.1<b.1)->(∀a∈Q,∀j,j<a.1->a.2 j=0)->(∀j,v j=pr Q v j)->∃a∈Q,v a.1≠0/\∀j,j<a.1->v j=0:=by
  intro Q
  induction Q with
  |nil=>intro _ _ e;exact T7 (e k) hk
  |cons a Q ih=>
   intro inc low e;rw[aZ]at inc;by_cases c:v a.1=0
   ·obtain⟨b,hb,r⟩:=ih inc.2 (λb hb=>low b (aq _ hb)) λj=>by
     have:v j=v a.1*a.2 j+pr Q v j:=e j;rw[c]at this;grind
    exact⟨b,aq _ hb,r⟩
   ·refine⟨a,ao ..,c,λj hj=>?_⟩
    have e1:v j=v a.1*a.2 j+pr Q v j:=e j;have e2:pr Q v j=0:=YH λb hb=>by rw[low b (aq _ hb) j (by have:=inc.1 b hb;lia)];grind
    rw[e1,e2,low a (ao ..) j hj];grind
 obtain⟨a,ha,h1,h2⟩:=gen P inc low hv;refine⟨a,ha,?_⟩;by_cases c:a.1<k
 ·exact T7 (hl _ c) h1
 ·by_cases c2:k<a.1
  ·exact T7 (h2 _ c2) hk
  ·lia
def QW{P Q:Pt F}(one0:(1:F)≠0)(hP:Rf P)(hQ:Rf Q)(h:∀v,Mem P v->Mem Q v):∀a∈P,∃b∈Q,b.1=a.1:=λa ha=>
 zw hQ (h _ (Xt hP ha)) (by rw[hP.one a ha];exact one0) (hP.low a ha)
theorem yL:∀{a b:List Nat},a.Pairwise (· < ·)->b.Pairwise (· < ·)->(∀x,x∈a↔x∈b)->a=b
 |[],[],_,_,_=>rfl
 |[],y::b,_,_,h=>by have:=(h y).mpr (ao ..);cases this
 |x::a,[],_,_,h=>by have:=(h x).mp (ao ..);cases this
 |x::a,y::b,ha,hb,h=>by
  rw[aZ]at ha hb;have e:x=y:=by
   rcases az.mp ((h x).mp (ao ..))with e|e
   ·exact e
   ·rcases az.mp ((h y).mpr (ao ..))with e'|e'
    ·exact e'.symm
    ·have:=hb.1 x e;have:=ha.1 y e';lia
  subst e;rw[yL ha.2 hb.2 λz=>?_]
  constructor
  ·intro hz
   rcases az.mp ((h z).mp (aq _ hz))with e|e
   ·have:=ha.1 z hz;lia
   ·exact e
  ·intro hz
   rcases az.mp ((h z).mpr (aq _ hz))with e|e
   ·have:=hb.1 z hz;lia
   ·exact e
def Rf.heads{P:Pt F}(h:Rf P):(P.map (·.1)).Pairwise (· < ·):=cY.mpr h.inc
theorem uniq{P Q:Pt F}(one0:(1:F)≠0)(hP:Rf P)(hQ:Rf Q)(h:∀v,Mem P v↔Mem Q v):P=Q:=by
 have eh:=yL hP.heads hQ.heads λx=>by
  constructor
  ·intro hx
   obtain⟨a,ha,rfl⟩:=aP.mp hx;obtain⟨b,hb,e⟩:=QW one0 hP hQ (λv=>(h v).mp) a ha
   exact aP.mpr ⟨b,hb,e⟩
  ·intro hx
   obtain⟨a,ha,rfl⟩:=aP.mp hx;obtain⟨b,hb,e⟩:=QW one0 hQ hP (λv=>(h v).mpr) a ha
   exact aP.mpr ⟨b,hb,e⟩
 have ev:∀a∈P,∀b∈Q,a.1=b.1->a.2=b.2:=by
  intro a ha b hb e;have hd:=W3 1 (Xt hP ha) ((h _).mpr (Xt hQ hb))
  funext j
  have:=jz hd (λc hc=>by
   have:c.1∈Q.map (·.1):=by rw[<-eh];exact aP.mpr ⟨c,hc,rfl⟩
   obtain⟨c',hc',ec⟩:=aP.mp this;by_cases z:c.1=a.1
   ·rw[z,hP.one a ha,e,hQ.one b hb];grind
   ·rw[hP.zer c hc a ha z,<-ec,hQ.zer c' hc' b hb (by lia)];grind) j
  grind
 clear h hP hQ
 induction P generalizing Q with
 |nil=>cases Q with|nil=>rfl|cons b Q=>cases eh
 |cons a P ih=>cases Q with
  |nil=>cases eh
  |cons b Q=>
   rw[aW,aW]at eh;injection eh with e1 e2
   have e3:=ev a (ao ..) b (ao ..) e1;rw[ih e2 λx hx y hy=>ev x (aq _ hx) y (aq _ hy)]
   rw[Prod.ext e1 e3]
noncomputable def ins(x:Nat×Vec F):Pt F->Pt F
 |[]=>[x]
 |y::P=>if x.1<y.1 then x::y::P else y::ins x P
theorem Xm(x:Nat×Vec F):∀P:Pt F,(ins x P).Perm (x::P)
 |[]=>du _
 |y::P=>by
  unfold ins;split
  ·exact du _
  ·exact((Xm x P).cons y).trans (mL x y P)
theorem vp(x:Nat×Vec F):∀{P:Pt F},P.Pairwise (λa b=>a.1<b.1)->(∀a∈P,a.1≠x.1)->(ins x P).Pairwise λa b=>a.1<b.1
 |[],_,_=>by exact fj ..
 |y::P,h,hn=>by
  have h':=aZ.mp h;unfold ins;split
  ·rename_i c
   refine aZ.mpr ⟨λz hz=>?_,h⟩
   rcases az.mp hz with rfl|hz
   ·exact c
   ·have:=h'.1 z hz;lia
  ·rename_i c
   refine aZ.mpr ⟨λz hz=>?_,vp x h'.2 λa ha=>hn a (aq _ ha)⟩
   rcases az.mp ((Xm x P).mem_iff.mp hz)with rfl|hz
   ·have:=hn y (ao ..);lia
   ·exact h'.1 z hz
theorem ji(x:Nat×Vec F)(v:Vec F)(j:Nat):∀P:Pt F,pr (ins x P) v j=v x.1*x.2 j+pr P v j
 |[]=>rfl
 |y::P=>by
  unfold ins;split
  ·rfl
  ·show v y.1*y.2 j+pr (ins x P) v j=v x.1*x.2 j+(v y.1*y.2 j+pr P v j)
   rw[ji x v j P];grind
noncomputable def off(h:Nat)(l:Vec F)(a:Nat×Vec F):Nat×Vec F:=(a.1,λj=>a.2 j-a.2 h*l j)
noncomputable def wid(P:Pt F)(h:Nat)(l:Vec F):Pt F:=ins (h,l) (P.map (off h l))
theorem uY(h:Nat)(l v:Vec F)(j:Nat):∀P:Pt F,pr (P.map (off h l)) v j=pr P v j-pr P v h*l j
 |[]=>by show(0:F)=0-0*l j;grind
 |a::P=>by
  show v a.1*(a.2 j-a.2 h*l j)+pr (P.map (off h l)) v j=(v a.1*a.2 j+pr P v j)-(v a.1*a.2 h+pr P v h)*l j;rw[uY h l v j P];grind
structure Lead(P:Pt F)(h:Nat)(l:Vec F):Prop where
 one:l h=1
 low:∀j,j<h->l j=0
 zer:∀a∈P,l a.1=0
def Lead.ne{P:Pt F}{h:Nat}{l:Vec F}(one0:(1:F)≠0)(L:Lead P h l){a:Nat×Vec F}(ha:a∈P):a.1≠h:=λe=>by
 have:=L.zer a ha;rw[e,L.one]at this;exact one0 this
theorem Zax{P:Pt F}{h:Nat}{l:Vec F}(one0:(1:F)≠0)(hP:Rf P)(L:Lead P h l):Rf (wid P h l):=by
 have mem:∀{x},x∈wid P h l->x=(h,l)\/∃a∈P,x=off h l a:=λ{x} hx=>by
  rcases az.mp ((Xm _ _).mem_iff.mp hx)with e|e
  ·exact .inl e
  ·obtain⟨a,ha,e⟩:=aP.mp e
   exact .inr ⟨a,ha,e.symm⟩
 refine⟨vp _ ?_ ?_,λx hx j hj=>?_,λx hx=>?_,λx hx y hy ne=>?_⟩
 ·exact cY.mpr hP.inc
 ·intro a ha
  obtain⟨b,hb,rfl⟩:=aP.mp ha;exact L.ne (a:=b) one0 hb
 ·rcases mem hx with rfl|⟨a,ha,rfl⟩
  ·exact L.low j hj
  ·show a.2 j-a.2 h*l j=0
   rw[hP.low a ha j hj];by_cases c:h<a.1
   ·rw[hP.low a ha h c];grind
   ·have:j<a.1:=hj
    rw[L.low j (by have:=L.ne one0 ha;lia)];grind
 ·rcases mem hx with rfl|⟨a,ha,rfl⟩
  ·exact L.one
  ·show a.2 a.1-a.2 h*l a.1=1
   rw[hP.one a ha,L.zer a ha];grind
 ·rcases mem hx with rfl|⟨a,ha,rfl⟩
  ·rcases mem hy with rfl|⟨b,hb,rfl⟩
   ·exact T7 rfl ne
   ·show b.2 h-b.2 h*l h=0
    rw[L.one];grind
  ·rcases mem hy with rfl|⟨b,hb,rfl⟩
   ·exact L.zer a ha
   ·show b.2 a.1-b.2 h*l a.1=0
    rw[hP.zer a ha b hb ne,L.zer a ha];grind
def ZbR(P:Pt F)(h:Nat)(l:Vec F):(wid P h l).length=P.length+1:=by
 have:=(Xm (h,l) (P.map (off h l))).length_eq;rw[aQ,aB]at this;exact this
def Zbd{P:Pt F}{h:Nat}{l:Vec F}(hP:Rf P)(L:Lead P h l)(u:Vec F):Mem (wid P h l) u↔∃c,Mem P λj=>u j-c*l j:=by
 have e:∀j,pr (wid P h l) u j=u h*l j+(pr P u j-pr P u h*l j):=λj=>by
  unfold wid;rw[ji,uY]
 have pl:∀j,pr P l j=0:=λj=>YH λb hb=>by rw[L.zer b hb];grind
 constructor
 ·intro hu
  refine⟨u h-pr P u h,λj=>?_⟩
  rw[VA,pl];have:=hu j;rw[e j]at this;show u j-(u h-pr P u h)*l j=_
  grind
 ·rintro ⟨c,hc⟩ j
  rw[e j];have h1:=hc j;have h2:u h-c*l h=_:=hc h;rw[VA,pl]at h1 h2;rw[L.one]at h2
  grind
noncomputable def rest(P:Pt F)(v:Vec F):Vec F:=λj=>v j-pr P v j
def qS(hP:Rf P)(v:Vec F)(ha:a∈P):rest P v a.1=0:=by
 unfold rest;rw[va hP ha];grind
def Uh{P:Pt F}{v:Vec F}:(∀j,rest P v j=0)↔Mem P v:=by
 constructor
 ·intro h j;have:=h j;unfold rest at this;grind
 ·intro h j;have:=h j;unfold rest;grind
def xN{P:Pt F}(hP:Rf P){v:Vec F}{h:Nat}{i:F}(hi:i*rest P v h=1)(hl:∀j,j<h->rest P v j=0):Lead P h λj=>i*rest P v j:=
 ⟨hi,λj hj=>by rw[hl j hj];grind,λa ha=>by rw[qS hP v ha];grind⟩
def Zaz{P:Pt F}(hP:Rf P){v:Vec F}{h:Nat}{i:F}(hi:i*rest P v h=1)(hl:∀j,j<h->rest P v j=0)(u:Vec F) :
  Mem (wid P h λj=>i*rest P v j) u↔∃c,Mem P λj=>u j-c*v j:=by
 rw[Zbd hP (xN hP hi hl)]
 constructor
 ·rintro ⟨c,hc⟩
  refine⟨c*i,?_⟩;have:=W3 (c*i) hc (qP hP v);have e:(λj=>(u j-c*(i*rest P v j))-c*i*pr P v j)=λj=>u j-c*i*v j:=by funext j;unfold rest;grind
  rw[e]at this;exact this
 ·rintro ⟨c,hc⟩
  refine⟨c*rest P v h,?_⟩;have:=Xq c hc (qP hP v);have e:(λj=>(u j-c*v j)+c*pr P v j)=λj=>u j-c*rest P v h*(i*rest P v j):=by funext j;unfold rest at hi ⊢;grind
  rw[e]at this;exact this
def uR(hv:Mem P v)(u:Vec F):Mem P u↔∃c,Mem P λj=>u j-c*v j:=by
 constructor
 ·intro h;exact⟨0,by have:=W3 0 h hv;exact this⟩
 ·rintro ⟨c,hc⟩
  have:=Xq c hc hv;have e:(λj=>(u j-c*v j)+c*v j)=u:=by funext j;grind
  rw[e]at this;exact this
variable{F:Type}[kc F][DecidableEq F]
def Supp(n:Nat)(v:Vec F):Prop:=∀j,n<=j->v j=0
structure Pn(n:Nat)(P:Pt F):Prop where
 rf:Rf P
 lt:∀a∈P,a.1<n
 sp:∀a∈P,Supp n a.2
theorem Pn.nil{n:Nat}:Pn n ([]:Pt F):=⟨Rf.nil,λ_ h=>(by cases h),λ_ h=>(by cases h)⟩
def Zbj(h:Pn n P)(v:Vec F):Supp n (pr P v):=λj hj=>YH λb hb=>by rw[h.sp b hb j hj];grind
noncomputable def hdV(n:Nat)(v:Vec F):Option Nat:=(aY n).find? λj=>ag (v j≠0)
theorem zI{n:Nat}{v:Vec F}(hs:Supp n v)(h:hdV n v=af)(j:Nat):v j=0:=by
 by_cases c:j<n
 ·have:=kM.mp h j (bt.mpr c)
  simpa using this
 ·exact hs j (by lia)
def UL{n:Nat}{v:Vec F}{k:Nat}(h:hdV n v=aa k):k<n/\v k≠0/\∀j,j<k->v j=0:=by
 unfold hdV at h;rw[lq]at h;obtain⟨h1,h2,h3⟩:=h;refine⟨bt.mp h2,by simpa using h1,λj hj=>?_⟩
 have:=h3 j hj
 simpa using this
def u9{n:Nat}{v:Vec F}{k:Nat}(hk:k<n)(h1:v k≠0)(h2:∀j,j<k->v j=0):hdV n v=aa k:=by
 unfold hdV;rw[lq];exact⟨by simpa using h1,bt.mpr hk,λj hj=>by simpa using h2 j hj⟩
structure Fld(inv:F->F):Prop where
 inv:∀a,a≠0->inv a*a=1
 one0:(1:F)≠0
section
variable{inv:F->F}{n:Nat}
noncomputable def more(inv:F->F)(n:Nat)(P:Pt F)(v:Vec F):Pt F:=match hdV n (rest P v)with
 |none=>P
 |some h=>wid P h λj=>inv (rest P v h)*rest P v j
structure Grow(n:Nat)(P:Pt F)(v:Vec F)(P':Pt F):Prop where
 pn:Pn n P'
 mem:∀u,Mem P' u↔∃c,Mem P λj=>u j-c*v j
 same:Mem P v->P'=P
 len:¬Mem P v->P'.length=P.length+1
def Zbf(f:Fld inv){P:Pt F}{v:Vec F}(hP:Pn n P)(hv:Supp n v):Grow n P v (more inv n P v):=by
 have hs:Supp n (rest P v):=λj hj=>by unfold rest;rw[hv j hj,Zbj hP v j hj];grind
 cases q:hdV n (rest P v)with
 |none=>
  have e:more inv n P v=P:=by unfold more;rw[q]
  have hm:=Uh.mp (zI hs q);rw[e];exact⟨hP,uR hm,λ_=>rfl,λh=>T7 hm h⟩
 |some h=>
  have e:more inv n P v=wid P h λj=>inv (rest P v h)*rest P v j:=by unfold more;rw[q]
  obtain⟨h1,h2,h3⟩:=UL q;have hi:=f.inv _ h2;have L:=xN hP.rf hi h3;rw[e];refine⟨⟨Zax f.one0 hP.rf L,λa ha=>?_,λa ha=>?_⟩,Zaz hP.rf hi h3,λhm=>T7 (Uh.mpr hm h) h2,λ_=>ZbR ..⟩
  ·rcases az.mp ((Xm _ _).mem_iff.mp ha)with e|e
   ·rw[e];exact h1
   ·obtain⟨b,hb,rfl⟩:=aP.mp e
    exact hP.lt b hb
  ·rcases az.mp ((Xm _ _).mem_iff.mp ha)with e|e
   ·rw[e];intro j hj
    show inv (rest P v h)*rest P v j=0;rw[hs j hj];grind
   ·obtain⟨b,hb,rfl⟩:=aP.mp e
    intro j hj;show b.2 j-b.2 h*(inv (rest P v h)*rest P v j)=0;rw[hP.sp b hb j hj,hs j hj];grind
noncomputable def uS(inv:F->F)(n:Nat)(P:Pt F)(vs:List (Vec F)):Pt F:=vs.foldl (more inv n) P
def ZeJ(f:Fld inv){P Q:Pt F}(hP:Pn n P)(hQ:Pn n Q)(h:∀v,Mem P v↔Mem Q v):P=Q:=uniq f.one0 hP.rf hQ.rf h
noncomputable def YW(P:Pt F)(j:Nat):Bool:=(P.map (·.1)).contains j
noncomputable def free(n:Nat)(P:Pt F):List Nat:=(aY n).filter λj=>!YW P j
noncomputable def av:Pt F->Nat->Vec F
 |[],f,j=>if j=f then 1 else 0
 |a::P,f,j=>if j=a.1 then-a.2 f else av P f j
def Xp :YW P j=aj↔∃a∈P,a.1=j:=by
 unfold YW;rw[eE,aP]
def yg{P:Pt F}{f j:Nat}(h:YW P j=al):av P f j=if j=f then 1 else 0:=by
 induction P with
 |nil=>rfl
 |cons a P ih=>
  have h1:¬∃b∈a::P,b.1=j:=λz=>by rw[Xp.mpr z]at h;cases h
  show(if j=a.1 then-a.2 f else av P f j)=_
  rw[T8 λz=>h1 ⟨a,ao ..,z.symm⟩]
  exact ih (by
   cases q:YW P j with
   |false=>rfl
   |true=>obtain⟨b,hb,e⟩:=Xp.mp q;exact T7 ⟨b,aq _ hb,e⟩ h1)
def Uw :j∈free n P↔j<n/\YW P j=al:=by
 unfold free;rw[c7,bt];simp
theorem Zb4{P:Pt F}(hP:Pn n P){f:Nat}(hf:f<n):Supp n (av P f):=λj hj=>by
 rw[yg (by
  cases q:YW P j with
  |false=>rfl
  |true=>obtain⟨b,hb,e⟩:=Xp.mp q;have:=hP.lt b hb;lia),T8 (by lia)]
noncomputable def perp(inv:F->F)(n:Nat)(P:Pt F):Pt F:=uS inv n [] ((free n P).map (av P))
theorem ur(f:Fld inv){P:Pt F}(hP:Pn n P):(perp inv n P).length+P.length=n:=by
 have gen:∀(L:List Nat)(A:Pt F)(D:List Nat),Pn n A->(∀k∈L,k∈free n P)->L.Nodup->(∀k∈L,k∉D)->(∀u,Mem A u->∀k∈free n P,k∉D->u k=0)->(uS inv n A (L.map (av P))).length=A.length+L.length:=by
  intro L
  induction L with
  |nil=>intro A D _ _ _ _ _;rfl
  |cons k L ih=>
   intro A D hA hL hn hD hz;rw[c8]at hn;have hk:=hL k (ao ..);have g:=Zbf f hA (Zb4 hP (Uw.mp hk).1);have nm:¬Mem A (av P k):=λh=>by
    have:=hz _ h k hk (hD k (ao ..));rw[yg (Uw.mp hk).2,T9 rfl]at this;exact f.one0 this
   have:=ih (more inv n A (av P k)) (k::D) g.pn (λj hj=>hL j (aq _ hj)) hn.2 (λj hj=>by
    rw[az]
    rintro (z|z)
    ·exact hn.1 (z▸hj)
    ·exact hD j (aq _ hj) z) λu hu j hj hjD=>by
     obtain⟨c,hc⟩:=(g.mem u).mp hu;rw[az]at hjD;have h1:=hz _ hc j hj λz=>hjD (.inr z)
     rw[yg (Uw.mp hj).2,T8 λz=>hjD (.inl z)]at h1
     grind
   show(uS inv n (more inv n A (av P k)) (L.map (av P))).length=_;rw[this,g.len nm,aQ];lia
 have h1:=gen (free n P) [] [] Pn.nil (λ_ h=>h) (mP _ oS) (λ_ _ h=>by cases h) λu hu k _ _=>hu k
 have h2:=yL (mP _ lZ) hP.rf.heads λx=>by
  rw[c7,bt,Xp,aP]
  constructor
  ·rintro ⟨_,a,ha,e⟩;exact⟨a,ha,e⟩
  ·rintro ⟨a,ha,e⟩;exact⟨by rw[<-e];exact hP.lt a ha,a,ha,e⟩
 have h3:((aY n).filter (YW P)).length+(free n P).length=n:=by
  have gen:∀L:List Nat,(L.filter (YW P)).length+(L.filter λj=>!YW P j).length=L.length:=by
   intro L
   induction L with
   |nil=>rfl
   |cons k L ih=>
    rw[lJ,lJ];cases YW P k<;>simp<;>lia
  have:=gen (aY n);rw[bS]at this;exact this
 rw[h2,aB]at h3;have h4:(perp inv n P).length=(free n P).length:=by
  have e:(perp inv n P).length=0+(free n P).length:=h1;lia
 lia
end
end La
namespace Rw
open La
open Ev (ltI Wb Z2)
section
variable{p:Nat}[NeZero p]
noncomputable def ph(p:Nat)[NeZero p](a:Int):Fin p:=Fin.ofNat p (a%p).toNat
theorem ppos:(0:Int)<p:=by have:=NeZero.ne p;lia
theorem Xg(a:Int):((ph p a).val:Int)=a%p:=by
 have h:=ppos (p:=p);have h0:=gL a (by lia:(p:Int)≠0)
 have h1:=fD a h;show((((a%p).toNat)%p:Nat):Int)=a%p;rw[Nat.mod_eq_of_lt (by lia)]
 lia
theorem Ub{x y:Fin p}(h:(x.val:Int)=y.val):x=y:=Fin.ext (by lia)
def Zag(a b:Int):ph p (a+b)=ph p a+ph p b:=Ub (by
 rw[Xg,Fin.val_add];show(a+b)%p=(((ph p a).val+(ph p b).val:Nat):Int)%p;rw[pf,Xg,Xg,<-Int.add_emod])
def qp(a b:Int):ph p (a*b)=ph p a*ph p b:=Ub (by
 rw[Xg,Fin.val_mul];show(a*b)%p=(((ph p a).val*(ph p b).val:Nat):Int)%p;rw[Int.natCast_mul,Xg,Xg,<-Int.mul_emod])
def ZaT(a:Int):ph p (a%p)=ph p a:=Ub (by rw[Xg,Xg,Int.emod_emod])
def W2:ph p 0=0:=Ub (by rw[Xg];simp)
theorem UI(a:Int):ph p (-a) = - ph p a:=by
 have h:ph p (-a+a)=ph p (-a)+ph p a:=Zag _ _;rw[show -a+a=0 by lia,W2]at h
 grind
def Ut{a b:Int}(ha:0<=a/\a<p)(hb:0<=b/\b<p)(h:ph p a=ph p b):a=b:=by
 have:=congrArg (λx:Fin p=>(x.val:Int)) h
 simp only[Xg]at this;rw[dS ha.1 ha.2,dS hb.1 hb.2]at this;exact this
theorem Ze2{a:Int}(ha:0<=a/\a<p):ph p a=0↔a=0:=by
 constructor
 ·intro h;exact Ut ha ⟨by lia,ppos⟩ (by rw[h,W2])
 ·rintro rfl;exact W2
end
abbrev Row:=List Int
def Zh(p n:Nat)(r:Row):Prop:=r.length=n/\∀a∈r,0<=a/\a<(p:Int)
noncomputable def gt(r:Row)(j:Nat):Int:=r.getD j 0
def YV{p n:Nat}(h0:(0:Int)<p){r:Row}(h:Zh p n r)(j:Nat):0<=gt r j/\gt r j<p:=by
 unfold gt;rw[aF];cases q:r[j]? with|none=>exact⟨Int.le_refl _,h0⟩|some a=>exact h.2 a (cN q)
def yE(h:r.length<=j):gt r j=0:=by unfold gt;rw[aF,dq h];rfl
def jY(hl:r.length=s.length)(h:∀j,gt r j=gt s j):r=s:=by
 apply iD hl;intro j h1 h2;have:=h j;unfold gt at this;rw[aF,aF,ai h1,ai h2]at this;exact this
noncomputable def hdI:Row->Option Nat
 |[]=>af
 |a::r=>if a≠0 then aa 0 else(hdI r).map (· + 1)
theorem Yx:∀{r:Row}{k:Nat},hdI r=aa k->gt r k≠0/\k<r.length/\∀j,j<k->gt r j=0
 |[],k,h=>by cases h
 |a::r,k,h=>by
  unfold hdI at h;by_cases c:a≠0
  ·rw[T9 c]at h;cases h;exact⟨c,by simp,λj hj=>by lia⟩
  ·rw[T8 c]at h
   cases q:hdI r with
   |none=>rw[q]at h;cases h
   |some m=>
    rw[q]at h;have e:m+1=k:=am h;subst e;obtain⟨h1,h2,h3⟩:=Yx q;refine⟨h1,by simp;lia,λj hj=>?_⟩
    cases j with|zero=>exact ox.mp c|succ j=>exact h3 j (by lia)
theorem Xl:∀{r:Row},hdI r=af->∀j,gt r j=0
 |[],_,j=>yE (dN _)
 |a::r,h,j=>by
  unfold hdI at h;by_cases c:a≠0
  ·rw[T9 c]at h;cases h
  ·rw[T8 c]at h
   have h':=lW.mp h;cases j with|zero=>exact ox.mp c|succ j=>exact Xl h' j
def Zdt(h1:gt r k≠0)(h2:∀j,j<k->gt r j=0):hdI r=aa k:=by
 cases q:hdI r with
 |none=>exact T7 (Xl q k) h1
 |some m=>
  obtain⟨a,_,c⟩:=Yx q;have:¬k<m:=λz=>h1 (c k z)
  have:¬m<k:=λz=>a (h2 m z)
  rw[show m=k by lia]
section
variable{p n:Nat}[NeZero p]
noncomputable def toV(p:Nat)[NeZero p](r:Row):Vec (Fin p):=λj=>ph p (gt r j)
def Xn{r s:Row}(hr:Zh p n r)(hs:Zh p n s)(h:toV p r=toV p s):r=s:=
 jY (by rw[hr.1,hs.1]) λj=>Ut (YV ppos hr j) (YV ppos hs j) (congrFun h j)
def Va(hr:Zh p n r):Supp n (toV p r):=λj hj=>by unfold toV;rw[yE (by rw[hr.1];exact hj),W2]
def Ya{r:Row}(hr:Zh p n r){j:Nat}:toV p r j=0↔gt r j=0:=Ze2 (YV ppos hr j)
def ZdT(hr:Zh p n r):hdV n (toV p r)=hdI r:=by
 cases q:hdI r with
 |none=>
  cases q2:hdV n (toV p r)with|none=>rfl|some k=>exact T7 ((Ya hr).mpr (Xl q k)) (UL q2).2.1
 |some k=>
  obtain⟨a,b,c⟩:=Yx q;exact u9 (by rw[<-hr.1];exact b) (λz=>a ((Ya hr).mp z)) λj hj=>(Ya hr).mpr (c j hj)
noncomputable def ZG(p:Nat)(r o:Row)(k:Int):Row:=List.zipWith (λa b=>(a+k*b)%p) r o
noncomputable def XN(p:Nat)(r:Row)(k:Int):Row:=r.map λa=>k*a%p
theorem Zd9(hl:r.length=o.length)(h0:f 0 0=0)(j:Nat):gt (List.zipWith f r o) j=f (gt r j) (gt o j):=by
 unfold gt;simp only[aF];rw[List.getElem?_zipWith];by_cases c:j<r.length
 ·rw[ai c,ai (by lia)];rfl
 ·rw[dq (by lia),dq (by lia)];exact h0.symm
theorem Zp(hr:Zh p n r)(ho:Zh p n o):Zh p n (ZG p r o k):=by
 refine⟨by unfold ZG;rw[List.length_zipWith,hr.1,ho.1];simp,λa ha=>?_⟩
 unfold ZG at ha;rw[<-eV]at ha;obtain⟨⟨x,y⟩,_,rfl⟩:=aP.mp ha;exact⟨gL _ (by have:=ppos (p:=p);lia),fD _ ppos⟩
def Yv(hr:Zh p n r)(ho:Zh p n o)(j:Nat):gt (ZG p r o k) j=(gt r j+k*gt o j)%p:=by
 unfold ZG;rw[Zd9 (by rw[hr.1,ho.1]) (by simp)]
def Z0(hr:Zh p n r)(ho:Zh p n o):toV p (ZG p r o k)=λj=>toV p r j+ph p k*toV p o j:=by
 funext j
 unfold toV;rw[Yv hr ho,ZaT,Zag,qp]
def UW(j:Nat):gt (XN p r k) j=k*gt r j%p:=by
 unfold XN gt;simp only[aF,aR];cases r[j]?<;>simp
theorem X2{r:Row}{k:Int}(hr:Zh p n r):Zh p n (XN p r k):=by
 refine⟨by unfold XN;rw[aB,hr.1],λa ha=>?_⟩
 obtain⟨x,_,rfl⟩:=aP.mp ha;exact⟨gL _ (by have:=ppos (p:=p);lia),fD _ ppos⟩
def vG :toV p (XN p r k)=λj=>ph p k*toV p r j:=by
 funext j
 unfold toV;rw[UW,ZaT,qp]
noncomputable def toP(p:Nat)[NeZero p](P:List Row):Pt (Fin p):=P.map λr=>((hdI r).getD 0,toV p r)
structure pZ(p n:Nat)[NeZero p](P:List Row):Prop where
 row:∀r∈P,Zh p n r
 pn:Pn n (toP p P)
theorem pZ.nil:pZ p n []:=⟨λ_ h=>(by cases h),Pn.nil⟩
def Ye(h:r∈P):((hdI r).getD 0,toV p r)∈toP p P:=aP.mpr ⟨r,h,rfl⟩
def pZ.head(one0:(1:Fin p)≠0)(h:pZ p n P)(hr:r∈P):∃k,hdI r=aa k/\k<n/\toV p r k=1:=by
 have h1:=h.pn.rf.one _ (Ye hr);cases q:hdI r with
 |none=>
  rw[q]at h1;have:toV p r 0=1:=h1;have z:=(Ya (h.row r hr)).mpr (Xl q 0);rw[z]at this;exact T7 this.symm one0
 |some k=>
  rw[q]at h1;have h2:=h.pn.lt _ (Ye hr);rw[q]at h2;exact⟨k,rfl,h2,h1⟩
def Zb2(hP:∀r∈P,Zh p n r)(hQ:∀r∈Q,Zh p n r)(h:toP p P=toP p Q):P=Q:=by
 induction P generalizing Q with
 |nil=>cases Q with|nil=>rfl|cons b Q=>cases h
 |cons a P ih=>cases Q with
  |nil=>cases h
  |cons b Q=>
   have h':=h;injection h' with e1 e2
   have e3:=congrArg Prod.snd e1;rw[Xn (hP a (ao ..)) (hQ b (ao ..)) e3,ih (λr hr=>hP r (aq _ hr)) (λr hr=>hQ r (aq _ hr)) e2]
def Zbv(P:List Row):(toP p P).length=P.length:=by unfold toP;rw[aB]
noncomputable def clr(p:Nat)(r o:Row)(h:Nat):Row:=ZG p r o (-(gt r h))
noncomputable def XC(p:Nat)(P:List Row)(r:Row):Row:=P.foldl (λs o=>clr p s o ((hdI o).getD 0)) r
def X5(hr:Zh p n r)(ho:Zh p n o):toV p (clr p r o h)=λj=>toV p r j-toV p r h*toV p o j:=by
 unfold clr;rw[Z0 hr ho]
 funext j
 rw[UI];show toV p r j+(- toV p r h)*toV p o j=_
 grind
theorem xT:∀{P:List Row}{r:Row},(∀o∈P,Zh p n o)->Rf (toP p P)->Zh p n r->Zh p n (XC p P r)/\toV p (XC p P r)=rest (toP p P) (toV p r)
 |[],r,_,_,hr=>⟨hr,by funext j;show toV p r j=toV p r j-0;grind⟩
 |o::P,r,hP,hf,hr=>by
  have ho:=hP o (ao ..);have hc:Zh p n (clr p r o ((hdI o).getD 0)):=Zp hr ho;obtain⟨a,b⟩:=xT (λo h=>hP o (aq _ h)) hf.tail hc
  refine⟨a,?_⟩;show toV p (XC p P (clr p r o ((hdI o).getD 0)))=_;rw[b,X5 hr ho];have z:∀j,pr (toP p P) (toV p o) j=0:=λj=>YH λc hc=>by
   have:toV p o c.1=0:=by
    have h1:c∈toP p (o::P):=aq _ hc;have h2:((hdI o).getD 0,toV p o)∈toP p (o::P):=ao ..;have h3:=(aZ.mp hf.inc).1 c hc;exact hf.zer c h1 _ h2 (by simp only at h3 ⊢;lia)
   rw[this];grind
  funext j
  unfold rest;rw[VA,z];show toV p r j-toV p r ((hdI o).getD 0)*toV p o j-(pr (toP p P) (toV p r) j-_*0)=toV p r j-(toV p r ((hdI o).getD 0)*toV p o j+pr (toP p P) (toV p r) j)
  grind
def qD(hP:pZ p n P)(hr:Zh p n r):hdI (XC p P r)=af↔Mem (toP p P) (toV p r):=by
 obtain⟨a,b⟩:=xT hP.row hP.pn.rf hr;rw[<-Uh,<-b]
 constructor
 ·intro h j;exact(Ya a).mpr (Xl h j)
 ·intro h
  cases q:hdI (XC p P r)with|none=>rfl|some k=>exact T7 ((Ya a).mp (h k)) (Yx q).1
end
noncomputable def YY(p:Nat)(a:Int):Int:=if a=1 then 1 else if p=3 then 2 else if a=2 then 3 else if a=3 then 2 else 4
noncomputable def ZaY(p:Nat)[NeZero p](x:Fin p):Fin p:=ph p (YY p x.val)
class Base(p:Nat):Prop where
 b:p=2\/p=3\/p=5
instance(p:Nat)[h:Base p]:NeZero p:=⟨by rcases h.b with e|e|e<;>lia⟩
section
variable{p n:Nat}[Base p]
def fld2:∀a:Fin 2,a≠0->ZaY 2 a*a=1:=by decide
def fld3:∀a:Fin 3,a≠0->ZaY 3 a*a=1:=by decide
def fld5:∀a:Fin 5,a≠0->ZaY 5 a*a=1:=by decide
def one2:(1:Fin 2)≠0:=by decide
def one3:(1:Fin 3)≠0:=by decide
def one5:(1:Fin 5)≠0:=by decide
def fld:Fld (ZaY p):=by
 rcases(inferInstance:Base p).b with e|e|e<;>subst e
 ·exact⟨fld2,one2⟩
 ·exact⟨fld3,one3⟩
 ·exact⟨fld5,one5⟩
noncomputable def lead(p:Nat)(s:Row)(h:Nat):Row:=XN p s (YY p (gt s h))
theorem Gy:∀{a b:Row}{h:Nat},a.length=b.length->(∀j,j<h->gt a j=gt b j)->gt b h<gt a h->h<a.length->ltI b a=aj
 |[],_,_,_,_,_,hl=>by simp at hl
 |x::a,[],_,e,_,_,_=>by simp at e
 |x::a,y::b,0,_,_,hlt,_=>by
  have:y<x:=hlt;unfold ltI;rw[T8 (by lia)]
  exact T5 this
 |x::a,y::b,h+1,e,hj,hlt,hl=>by
  have:x=y:=hj 0 (by lia)
  unfold ltI;rw[T9 this.symm];exact Gy (by simpa using e) (λj h'=>hj (j+1) (by lia)) hlt (by simpa using hl)
noncomputable def ZJ(P:List Row):List Nat:=P.map λr=>(hdI r).getD 0
def VB(P:List Row):(toP p P).map (·.1)=ZJ P:=by unfold toP ZJ;rw[cI];rfl
noncomputable def XW(p:Nat)(rs:List Row)(o:Row):List Row:=rs.flatMap λr=>(aY p).map λ(k:Nat)=>ZG p r o (k:Int)
noncomputable def Y2(p n:Nat)(P:List Row):List Row:=P.foldl (XW p) [aH n 0]
def yA(P:List Row)(o:Row):Y2 p n (P++[o])=XW p (Y2 p n P) o:=by unfold Y2;rw[List.foldl_append];rfl
def pZ.init(h:pZ p n (P++[o])):pZ p n P:=by
 have mem:∀{x},x∈toP p P->x∈toP p (P++[o]):=λ{x} hx=>by unfold toP at hx ⊢;rw[bP];exact bV _ hx
 refine⟨λr hr=>h.row r (bV _ hr),⟨⟨?_,λa ha=>h.pn.rf.low a (mem ha),λa ha=>h.pn.rf.one a (mem ha),λa ha b hb=>h.pn.rf.zer a (mem ha) b (mem hb)⟩,λa ha=>h.pn.lt a (mem ha),λa ha=>h.pn.sp a (mem ha)⟩⟩
 have:=h.pn.rf.inc;unfold toP at this ⊢;rw[bP,dA]at this;exact this.1
def j8(P Q:Pt (Fin p))(v:Vec (Fin p))(j:Nat):pr (P++Q) v j=pr P v j+pr Q v j:=by
 induction P with|nil=>show _=0+_;grind|cons a P ih=>show v a.1*a.2 j+pr (P++Q) v j=v a.1*a.2 j+pr P v j+pr Q v j;rw[ih];grind
theorem XA:∀{P:List Row},pZ p n P->(∀r,r∈Y2 p n P↔Zh p n r/\Mem (toP p P) (toV p r))/\(Y2 p n P).Pairwise λa b=>ltI a b=aj:=by
 have hz:Zh p n (aH n (0:Int)):=⟨by simp,λa ha=>by rw[(nJ.mp ha).2];exact⟨by lia,ppos⟩⟩
 have gz:∀j,gt (aH n (0:Int)) j=0:=λj=>by
  unfold gt;rw[aF,cx];split<;>rfl
 have key:∀(m:Nat)(P:List Row),P.length=m->pZ p n P->(∀r,r∈Y2 p n P↔Zh p n r/\Mem (toP p P) (toV p r))/\(Y2 p n P).Pairwise λa b=>ltI a b=aj:=by
  intro m
  induction m with
  |zero=>
   intro P hl hP;have:P=[]:=fc.mp hl;subst this;refine⟨λr=>?_,fj ..⟩
   show r∈[aH n (0:Int)]↔_;rw[aU]
   constructor
   ·rintro rfl
    exact⟨hz,λj=>by show ph p (gt _ j)=0;rw[gz,W2]⟩
   ·rintro ⟨h1,h2⟩
    exact jY (by rw[h1.1,hz.1]) λj=>by rw[gz];exact(Ya h1).mp (h2 j)
  |succ m ih=>
   intro P hl hP;obtain⟨Q,o,rfl⟩:∃Q o,P=Q++[o]:=⟨P.dropLast,P.getLast (by intro z;rw[z]at hl;cases hl),(List.dropLast_concat_getLast _).symm⟩
   have hQ:=hP.init;obtain⟨ih1,ih2⟩:=ih Q (by simpa using hl) hQ
   have hoM:o∈Q++[o]:=bh _ (aU.mpr rfl);have ho:=hP.row o hoM;obtain⟨k,hk1,hk2,hk3⟩:=hP.head fld.one0 hoM;have eP:toP p (Q++[o])=toP p Q++[(k,toV p o)]:=by unfold toP;rw[bP];show _++[((hdI o).getD 0,toV p o)]=_;rw[hk1];rfl
   have mo:(k,toV p o)∈toP p (Q++[o]):=by rw[eP];exact bh _ (aU.mpr rfl)
   have mq:∀{a},a∈toP p Q->a∈toP p (Q++[o]):=λ{a} ha=>by rw[eP];exact bV _ ha
   have hlt:∀a∈toP p Q,a.1<k:=λa ha=>by
    have:=hP.pn.rf.inc;rw[eP,dA]at this;exact this.2.2 a ha _ (aU.mpr rfl)
   have oz:∀a∈toP p Q,toV p o a.1=0:=λa ha=>hP.pn.rf.zer a (mq ha) _ mo (by have:=hlt a ha;simp only;lia)
   have qz:∀a∈toP p Q,a.2 k=0:=λa ha=>hP.pn.rf.zer _ mo a (mq ha) (by have:=hlt a ha;simp only;lia)
   have po:∀j,pr (toP p Q) (toV p o) j=0:=λj=>YH λa ha=>by rw[oz a ha];grind
   have memP:∀u:Vec (Fin p),Mem (toP p (Q++[o])) u↔Mem (toP p Q) λj=>u j-u k*toV p o j:=λu=>by
    rw[eP]
    constructor
    ·intro h j
     have h1:=h j;rw[j8]at h1;rw[VA,po];show u j-u k*toV p o j=_;have e:pr [(k,toV p o)] u j=u k*toV p o j+0:=rfl;rw[e]at h1
     grind
    ·intro h j
     have h1:u j-u k*toV p o j=_:=h j;rw[VA,po]at h1;rw[j8];have e:pr [(k,toV p o)] u j=u k*toV p o j+0:=rfl;rw[e]
     grind
   have atk:∀r,r∈Y2 p n Q->gt r k=0:=λr hr=>by
    obtain⟨h1,h2⟩:=(ih1 r).mp hr;exact(Ya h1).mp (by rw[h2 k];exact YH λa ha=>by rw[qz a ha];grind)
   have low:∀j,j<k->gt o j=0:=(Yx hk1).2.2;have one:gt o k=1:=Ut (YV ppos ho k) ⟨by lia,by rcases(inferInstance:Base p).b with e|e|e<;>subst e<;>decide⟩ (by
    have:ph p (gt o k)=1:=hk3;rw[this];rcases(inferInstance:Base p).b with e|e|e<;>subst e<;>rfl)
   rw[yA];refine⟨λr=>?_,?_⟩
   ·unfold XW
    rw[fk]
    constructor
    ·rintro ⟨s,hs,hr⟩
     obtain⟨c,hc,rfl⟩:=aP.mp hr;obtain⟨h1,h2⟩:=(ih1 s).mp hs;refine⟨Zp h1 ho,?_⟩;rw[Z0 h1 ho];refine Xq _ ?_ (Xt hP.pn.rf mo);rw[memP];have z:toV p s k=0:=(Ya h1).mpr (atk s hs);have e:(λj=>toV p s j-toV p s k*toV p o j)=toV p s:=by funext j;rw[z];grind
     rw[e];exact h2
    ·rintro ⟨h1,h2⟩
     have hb:=YV ppos h1 k;refine⟨ZG p r o (-(gt r k)),(ih1 _).mpr ⟨Zp h1 ho,?_⟩,aP.mpr ⟨(gt r k).toNat,bt.mpr (by lia),?_⟩⟩
     ·rw[Z0 h1 ho,UI]
      have:=(memP _).mp h2;have e:(λj=>toV p r j + -ph p (gt r k)*toV p o j)=λj=>toV p r j-toV p r k*toV p o j:=by funext j;show _ + -(toV p r k)*_=_;grind
      rw[e];exact this
     ·refine Xn (Zp (Zp h1 ho) ho) h1 ?_
      rw[Z0 (Zp h1 ho) ho,Z0 h1 ho]
      funext j
      rw[show(((gt r k).toNat:Nat):Int)=gt r k by lia,UI]
      grind
   ·unfold XW
    rw[mn];refine⟨λs hs=>?_,?_⟩
    ·have h1:=((ih1 s).mp hs).1
     rw[cY];refine gG (λ{a b} ha hb hab=>?_) lZ
     have hb':=bt.mp hb;refine Gy (h:=k) (by rw[(Zp h1 ho).1,(Zp h1 ho).1]) (λj hj=>by rw[Yv h1 ho,Yv h1 ho,low j hj];simp) ?_ (by rw[(Zp h1 ho).1];exact hk2)
     rw[Yv h1 ho,Yv h1 ho,atk s hs,one];rw[dS (by lia) (by lia),dS (by lia) (by lia)]
     lia
    ·refine gG (λ{s t} hs ht hst=>?_) ih2
     have h1:=(ih1 s).mp hs;have h2:=(ih1 t).mp ht;intro x hx y hy;obtain⟨a,_,rfl⟩:=aP.mp hx;obtain⟨b,_,rfl⟩:=aP.mp hy;have hd:=W3 1 h2.2 h1.2
     have:∃d,(toV p t d-1*toV p s d≠0)/\∀j,j<d->toV p t j-1*toV p s j=0:=by
      cases q:hdV n (λj=>toV p t j-1*toV p s j)with
      |none=>
       exfalso
       have e:toV p t=toV p s:=by
        funext j
        have:=zI (n:=n) (v:=λj=>toV p t j-1*toV p s j) (λj hj=>by show toV p t j-1*toV p s j=0;rw[Va h2.1 j hj,Va h1.1 j hj];grind) q j
        grind
       have e2:=Xn h2.1 h1.1 e;rw[e2]at hst;have:=Sd.Y5 hst;rw[hst]at this;cases this
      |some d=>exact⟨d,(UL q).2⟩
     obtain⟨d,d1,d2⟩:=this;obtain⟨c,hc,rfl⟩:=zw hQ.pn.rf hd d1 d2;have hck:=hlt c hc;have heq:∀j,j<c.1->gt t j=gt s j:=λj hj=>Ut (YV ppos h2.1 j) (YV ppos h1.1 j) (by
      have:=d2 j hj;show toV p t j=toV p s j
      grind)
     have hne:gt t c.1≠gt s c.1:=λz=>d1 (by show ph p (gt t c.1)-1*ph p (gt s c.1)=0;rw[z];grind)
     have hcn:=hQ.pn.lt c hc;have hst':gt s c.1<gt t c.1:=by
      by_cases z:gt s c.1<gt t c.1
      ·exact z
      ·exfalso
       have:=Gy (a:=s) (b:=t) (h:=c.1) (by rw[h1.1.1,h2.1.1]) (λj hj=>(heq j hj).symm) (by lia) (by rw[h1.1.1];exact hcn)
       rw[Sd.Y5 hst]at this;cases this
     have vs:∀j,j<=c.1->gt (ZG p s o a) j=gt s j:=λj hj=>by
      rw[Yv h1.1 ho,low j (by lia)]
      have:=YV ppos h1.1 j;rw[show gt s j+(a:Int)*0=gt s j by lia,dS this.1 this.2]
     have vt:∀j,j<=c.1->gt (ZG p t o b) j=gt t j:=λj hj=>by
      rw[Yv h2.1 ho,low j (by lia)]
      have:=YV ppos h2.1 j;rw[show gt t j+(b:Int)*0=gt t j by lia,dS this.1 this.2]
     refine Gy (h:=c.1) (by rw[(Zp h1.1 ho).1,(Zp h2.1 ho).1]) (λj hj=>by rw[vs j (by lia),vt j (by lia),heq j hj]) (by rw[vs _ (aI _),vt _ (aI _)];exact hst') (by rw[(Zp h2.1 ho).1];exact hcn)
 exact λ{P} hP=>key P.length P rfl hP
end
section
variable{p n:Nat}[Base p]
abbrev Mm(p:Nat)[NeZero p](P:List Row)(u:Vec (Fin p)):Prop:=Mem (toP p P) u
def eqP(hA:pZ p n A)(hB:pZ p n B)(h:∀u,Mm p A u↔Mm p B u):A=B:=Zb2 hA.row hB.row (ZeJ fld hA.pn hB.pn h)
noncomputable def ZD(p:Nat)(P:List Row)(r:Row):Bool:=(hdI (XC p P r)).isNone
def ZE(hP:pZ p n P)(hr:Zh p n r):ZD p P r=aj↔Mm p P (toV p r):=by
 unfold Mm;rw[<-qD hP hr];unfold ZD;cases hdI (XC p P r)<;>simp
def WV(hP:pZ p n P)(hQ:pZ p n Q):P.all (ZD p Q)=aj↔∀u,Mm p P u->Mm p Q u:=by
 rw[bf]
 constructor
 ·intro h u hu
  have gen:∀R:Pt (Fin p),(∀a∈R,Mm p Q a.2)->Mm p Q (pr R u):=by
   intro R
   induction R with
   |nil=>intro _;exact Ug
   |cons a R ih=>
    intro hR;have:=Xq (u a.1) (ih λb hb=>hR b (aq _ hb)) (hR a (ao ..))
    have e:(λj=>pr R u j+u a.1*a.2 j)=pr (a::R) u:=by funext j;show _=u a.1*a.2 j+pr R u j;grind
    rw[e]at this;exact this
  have:=gen (toP p P) λa ha=>by
   obtain⟨r,hr,rfl⟩:=aP.mp ha;exact(ZE hQ (hP.row r hr)).mp (h r hr)
  have e:=funext λj=>(hu j).symm
  rw[e]at this;exact this
 ·intro h r hr
  exact(ZE hQ (hP.row r hr)).mpr (h _ (Xt hP.pn.rf (Ye hr)))
noncomputable def XQ(p n:Nat)(P Q:List Row):Option Row:=(Y2 p n P).find? λr=>!ZD p Q r
def zA(hP:pZ p n P)(hQ:pZ p n Q):XQ p n P Q=af↔P.all (ZD p Q)=aj:=by
 unfold XQ;rw[kM,WV hP hQ]
 constructor
 ·intro h
  refine(WV hP hQ).mp (bf.mpr λr hr=>?_)
  have:=h r (((XA hP).1 r).mpr ⟨hP.row r hr,Xt hP.pn.rf (Ye hr)⟩)
  simpa using this
 ·intro h r hr
  obtain⟨a,b⟩:=((XA hP).1 r).mp hr;have:=(ZE hQ a).mpr (h _ b);simp[this]
def zk(hP:pZ p n P)(hQ:pZ p n Q)(h:XQ p n P Q=aa r):Zh p n r/\ZD p P r=aj/\ZD p Q r=al:=by
 have h1:=List.mem_of_find?_eq_some h;have h2:=List.find?_some h;obtain⟨a,b⟩:=((XA hP).1 r).mp h1;exact⟨a,(ZE hP a).mpr b,by simpa using h2⟩
theorem wx{F:Type}[kc F]{x:Nat×Vec F}:∀{P:Pt F},(∀a∈P,a.1<x.1)->ins x P=P++[x]
 |[],_=>rfl
 |y::P,h=>by
  unfold ins;rw[T8 (by have:=h y (ao ..);lia),wx λa ha=>h a (aq _ ha)];rfl
theorem vM{P:List Row}{l:Row}{j:Nat}(hP:pZ p n P)(hl:Zh p n l)(hj:j<n)(h1:gt l j=1)(h0:∀i,i<j->gt l i=0)(hh:∀r∈P,(hdI r).getD 0<j):pZ p n (P.map (λo=>clr p o l j)++[l])/\∀r∈P.map (λo=>clr p o l j)++[l],(hdI r).getD 0<j+1:=by
 have one:ph p 1=1:=by rcases(inferInstance:Base p).b with e|e|e<;>subst e<;>rfl
 have hlt:∀a∈toP p P,a.1<j:=λa ha=>by
  unfold toP at ha;obtain⟨r,hr,rfl⟩:=aP.mp ha;exact hh r hr
 have L:Lead (toP p P) j (toV p l):=⟨by unfold toV;rw[h1,one],λi hi=>(Ya hl).mpr (h0 i hi),λa ha=>(Ya hl).mpr (h0 _ (hlt a ha))⟩
 have rf:=Zax fld.one0 hP.pn.rf L;have ew:wid (toP p P) j (toV p l)=(toP p P).map (off j (toV p l))++[(j,toV p l)]:=wx λa ha=>by
  obtain⟨b,hb,rfl⟩:=aP.mp ha;exact hlt b hb
 have hx:hdI l=aa j:=Zdt (by rw[h1];decide) h0
 have hmem:∀o∈P,off j (toV p l) ((hdI o).getD 0,toV p o)∈wid (toP p P) j (toV p l):=λo ho=>by
  rw[ew];exact bV _ (aP.mpr ⟨_,Ye ho,rfl⟩)
 have eh:∀o∈P,hdI (clr p o l j)=aa ((hdI o).getD 0):=λo ho=>by
  have ho':=hP.row o ho;have hc:Zh p n (clr p o l j):=Zp ho' hl;have ev:toV p (clr p o l j)=(off j (toV p l) ((hdI o).getD 0,toV p o)).2:=X5 ho' hl;rw[<-ZdT hc,ev];exact u9 (hP.pn.lt _ (Ye ho)) (λz=>fld.one0 ((rf.one _ (hmem o ho)).symm.trans z)) (rf.low _ (hmem o ho))
 have eP:toP p (P.map (λo=>clr p o l j)++[l])=wid (toP p P) j (toV p l):=by
  rw[ew];unfold toP;rw[bP,cI,cI]
  congr 1
  ·refine eX λo ho=>?_
   show((hdI (clr p o l j)).getD 0,toV p (clr p o l j))=off j _ ((hdI o).getD 0,toV p o);rw[eh o ho,X5 (hP.row o ho) hl];rfl
  ·show[((hdI l).getD 0,toV p l)]=_
   rw[hx];rfl
 have hrow:∀r∈P.map (λo=>clr p o l j)++[l],Zh p n r:=λr hr=>by
  rcases cu.mp hr with z|z
  ·obtain⟨o,ho,rfl⟩:=aP.mp z
   exact Zp (hP.row o ho) hl
  ·rw[aU.mp z];exact hl
 refine⟨⟨hrow,⟨by rw[eP];exact rf,λa ha=>?_,λa ha=>?_⟩⟩,λr hr=>?_⟩
 ·unfold toP at ha
  obtain⟨r,hr,rfl⟩:=aP.mp ha;rcases cu.mp hr with z|z
  ·obtain⟨o,ho,rfl⟩:=aP.mp z
   show(hdI _).getD 0<n;rw[eh o ho];exact hP.pn.lt _ (Ye ho)
  ·rw[aU.mp z];rw[hx];exact hj
 ·unfold toP at ha
  obtain⟨r,hr,rfl⟩:=aP.mp ha;exact Va (hrow r hr)
 ·rcases cu.mp hr with z|z
  ·obtain⟨o,ho,rfl⟩:=aP.mp z
   rw[eh o ho];have:=hh o ho;show(hdI o).getD 0<j+1;lia
  ·rw[aU.mp z,hx];show j<j+1;lia
theorem Zb6{a:Int}(h0:0<a)(h1:a<p):YY p a*a%p=1:=by
 rcases(inferInstance:Base p).b with e|e|e<;>subst e
 ·have:a=1:=by lia
  subst this;rfl
 ·have:a=1\/a=2:=by lia
  rcases this with e|e<;>subst e<;>rfl
 ·have:a=1\/a=2\/a=3\/a=4:=by lia
  rcases this with e|e|e|e<;>subst e<;>rfl
theorem uO{a:Int}(h0:0<a)(h1:a<p):(aY p).filter (λk:Nat=>ag ((k:Int)*a%p=1))=[(YY p a).toNat]/\((YY p a).toNat:Int)=YY p a:=by
 rcases(inferInstance:Base p).b with e|e|e<;>subst e
 ·have:a=1:=by lia
  subst this;exact⟨rfl,rfl⟩
 ·have:a=1\/a=2:=by lia
  rcases this with e|e<;>subst e<;>exact⟨rfl,rfl⟩
 ·have:a=1\/a=2\/a=3\/a=4:=by lia
  rcases this with e|e|e|e<;>subst e<;>exact⟨rfl,rfl⟩
structure Red(p n:Nat)[NeZero p](j:Nat)(rest found:List Row):Prop where
 row:∀r∈rest,Zh p n r
 low:∀r∈rest,∀i,i<j->gt r i=0
 part:pZ p n found
 head:∀r∈found,(hdI r).getD 0<j
theorem qA{j:Nat}{rest found:List Row}(h:Red p n j rest found)(hz:∀r∈rest,gt r j=0):Red p n (j+1) rest found:=
 ⟨h.row,λr hr i hi=>by
   by_cases c:i=j
   ·rw[c];exact hz r hr
   ·exact h.low r hr i (by lia),h.part,λr hr=>by have:=h.head r hr;lia⟩
theorem uP{j:Nat}{rest found:List Row}{f:Row}(h:Red p n j rest found)(hj:j<n)(hf:f∈rest)(hz:gt f j≠0):Red p n (j+1) (rest.map λr=>clr p r (lead p f j) j) (found.map (λr=>clr p r (lead p f j) j)++[lead p f j]):=by
 have hfr:=h.row f hf;have hg:=YV ppos hfr j;have hl:Zh p n (lead p f j):=X2 hfr;have h1:gt (lead p f j) j=1:=by unfold lead;rw[UW];exact Zb6 (by lia) hg.2
 have h0:∀i,i<j->gt (lead p f j) i=0:=λi hi=>by unfold lead;rw[UW,h.low f hf i hi];simp
 obtain⟨a,b⟩:=vM h.part hl hj h1 h0 h.head;refine⟨λr hr=>?_,λr hr i hi=>?_,a,b⟩
 ·obtain⟨o,ho,rfl⟩:=aP.mp hr
  exact Zp (h.row o ho) hl
 ·obtain⟨o,ho,rfl⟩:=aP.mp hr
  unfold clr;rw[Yv (h.row o ho) hl];by_cases c:i=j
  ·rw[c,h1]
   rw[show gt o j + -(gt o j)*1=0 by lia];rfl
  ·rw[h.low o ho i (by lia),h0 i (by lia)];simp
end
end Rw
namespace Pv
open Ev
open Rw
def Zb{α β:Type}{a:α}{s:DS}{f:α->DS->PR β}:(PR.ok a s).bind f=f a s:=rfl
def Qx(hf:F[f]?=aa fn)(hne:f≠tk)(hl:vs.length=fn.ps):Zn F tk (d+1) f vs s=(rvs (Zn F tk d) (muts fn.body) fn.body (ZM fn.ns vs) [] s).bind λg s=>match g with
  |.ret v=>.ok v s
  |.nx _ _=>.ok .non s
  |_=>.no:=by
 rw[Zn,T8 hne,hf];show(if vs.length=fn.ps then _ else _)=_
 rw[T9 hl]
 all_goals rfl
def ju(s:DS)(h:0<m):0<=(XM s m).1/\(XM s m).1<m:=by
 unfold XM;split
 ·exact⟨gL _ (by lia),fD _ h⟩
 ·exact⟨gL _ (by lia),fD _ h⟩
def vo(s:DS)(h0:0<m)(h1:m<1073741824):∃v s',Zn F tk (d+1) tk [.drw,.int m] s=.ok (.int v) s'/\0<=v/\v<m:=by
 refine⟨(XM s m).1,(XM s m).2,?_,ju s h0⟩;rw[Zn,T9 rfl];show(if 0<m/\m<1073741824 then _ else _)=_
 rw[T9 ⟨h0,h1⟩]
theorem UO{α:Type}{f:V->DS->PR (List V)}{s:DS}{e:α->V}{g:α->V}:∀{l:List α},(∀x∈l,f (e x) s=.ok [g x] s)->mapP f (l.map e) s=.ok (l.map g) s
 |[],_=>rfl
 |x::l,h=>by
  rw[aW,mapP,h x (ao ..)];show(match mapP f (l.map e) s with|.ok zs s=>PR.ok ([g x]++zs) s|_=>.no)=_
  rw[UO λy hy=>h y (aq _ hy)];rfl
theorem VU{α:Type}{f:V->DS->PR (List V)}{s:DS}{e:α->V}{g:α->V}{q:α->Bool}:∀{l:List α},(∀x∈l,f (e x) s=.ok (if q x=aj then[g x]else[]) s)->mapP f (l.map e) s=.ok ((l.filter q).map g) s
 |[],_=>rfl
 |x::l,h=>by
  rw[aW,mapP,h x (ao ..)];show(match mapP f (l.map e) s with|.ok zs s=>PR.ok ((if q x=aj then[g x]else[])++zs) s|_=>.no)=_
  rw[VU λy hy=>h y (aq _ hy),lJ]
  cases q x<;>rfl
theorem Qz{α:Type}{f:V->DS->PR (List V)}{s:DS}{e:α->V}{g:α->List V}:∀{l:List α},(∀x∈l,f (e x) s=.ok (g x) s)->mapP f (l.map e) s=.ok (l.flatMap g) s
 |[],_=>rfl
 |x::l,h=>by
  rw[aW,mapP,h x (ao ..)];show(match mapP f (l.map e) s with|.ok zs s=>PR.ok (g x++zs) s|_=>.no)=_
  rw[Qz λy hy=>h y (aq _ hy)];rfl
theorem QE{Q:V->Prop}(h:∀x s,∃y s',f x s=.ok [y] s'/\Q y):∀(l:List V)(s:DS),∃ys s',mapP f l s=.ok ys s'/\ys.length=l.length/\∀y∈ys,Q y
 |[],s=>⟨[],s,rfl,rfl,λ_ h=>by cases h⟩
 |x::l,s=>by
  obtain⟨y,s1,e1,q1⟩:=h x s;obtain⟨ys,s2,e2,l2,q2⟩:=QE h l s1;refine⟨y::ys,s2,?_,by rw[aQ,aQ,l2],λz hz=>?_⟩
  ·rw[mapP,e1]
   show(match mapP f l s1 with|.ok zs s=>PR.ok ([y]++zs) s|_=>.no)=_
   rw[e2];rfl
  ·rcases az.mp hz with rfl|hz
   ·exact q1
   ·exact q2 z hz
theorem QI{σ α:Type}{body:V->Env->List Nat->DS->PR FlV}{s:DS}{os:List Nat}{ρ:σ->Option V->Env}{step:σ->α->σ}{e:α->V}(I:σ->Prop):∀{l:List α}{st:σ}{o:Option V},I st->(∀x∈l,∀st o,I st->I (step st x)/\∃o',body (e x) (ρ st o) os s=.ok (.nx (ρ (step st x) o') os) s)->∃o',I (l.foldl step st)/\Yz body (l.map e) (ρ st o) os s=.ok (.nx (ρ (l.foldl step st) o') os) s
 |[],st,o,hI,_=>⟨o,hI,rfl⟩
 |x::l,st,o,hI,h=>by
  obtain⟨h1,o1,e1⟩:=h x (ao ..) st o hI;obtain⟨o2,h2,e2⟩:=QI I h1 λy hy=>h y (aq _ hy)
  refine⟨o2,h2,?_⟩;rw[aW,Yz,e1];exact e2
noncomputable def Vh:Option Nat->V
 |none=>.non
 |some k=>.int k
noncomputable def spV(p n:Nat):V:=.tup [.int p,.int n]
def ZY{a:Int}(h:-4294967296<a)(h':a<4294967296):fits a=aj:=by
 refine T5 ?_;have h1:a.natAbs<2^32:=by lia
 exact bu h1 (dO (by decide) (by decide))
def U0{α:Type}{xs:List α}{k:Nat}{x:α}(h:xs[k]?=aa x):at' xs (k:Int)=aa x:=by
 have hk:=(aG.mp h).1;unfold at' ixN;rw[T9 (by lia),T9 (by lia)]
 rw[show(k:Int).toNat=k by lia];exact h
def VF{r:Row}{k:Nat}(hk:k<r.length):at' (r.map V.int) (k:Int)=aa (.int (gt r k)):=by
 refine U0 ?_;rw[aR,ai hk];unfold gt;rw[aF,ai hk];rfl
theorem Yf{α:Type}{g:α->Bool}:∀l:List α,ZZ (l.map λx=>.bl (g x))=aa (l.map g)
 |[]=>rfl
 |x::l=>by rw[aW,ZZ,Yf l];rfl
theorem UJ{α:Type}{f:V->V->Option Bool}{e:α->V}{d:α->α->Bool}(hd:∀a b,d a b=aj↔a=b)(h:∀a b,f (e a) (e b)=aa (d a b)):∀a b:List α,∃c,Ys f (a.map e) (b.map e)=aa c/\(c=aj↔a=b)
 |[],[]=>⟨aj,rfl,by simp⟩
 |[],_::_=>⟨al,rfl,by simp⟩
 |_::_,[]=>⟨al,rfl,by simp⟩
 |x::a,y::b=>by
  obtain⟨c,e1,e2⟩:=UJ hd h a b;refine⟨d x y&&c,?_,?_⟩
  ·rw[aW,aW,Ys,h,e1]
  ·rw[aD,hd,e2];simp
def Zbl(k:Nat)(a b:Row):eqV (k+2) (Zc a) (Zc b)=aa (ag (a=b)):=by
 show Ys (eqV (k+1)) (a.map .int) (b.map .int)=_;obtain⟨c,e1,e2⟩:=UJ (f:=eqV (k+1)) (e:=V.int) (λa b=>by simp) (λa b=>rfl) a b
 rw[e1,show c=ag (a=b) by rw[cw,e2];simp]
def qe(k:Nat)(a b:List Row):eqV (k+3) (Zd a) (Zd b)=aa (ag (a=b)):=by
 show Ys (eqV (k+2)) (a.map Zc) (b.map Zc)=_;obtain⟨c,e1,e2⟩:=UJ (λa b=>by simp) (λa b=>Zbl k a b) a b
 rw[e1,show c=ag (a=b) by rw[cw,e2];simp]
theorem UX:∀(r o:Row),((r.map V.int).zip (o.map V.int)).map (λq=>V.tup [q.1,q.2])=(r.zip o).map λq=>V.tup [.int q.1,.int q.2]
 |[],_=>rfl
 |_::_,[]=>rfl
 |a::r,b::o=>by rw[aW,aW,cc,aW,cc,aW,UX r o]
theorem YL:∀r:Row,intsV (r.map V.int)=aa r
 |[]=>rfl
 |a::r=>by show(intsV (r.map V.int)).map (a :: ·)=_;rw[YL r];rfl
theorem Yt:∀P:List Row,Z3 (P.map Zc)=aa P
 |[]=>rfl
 |r::P=>by
  show(match intsV (r.map V.int),Z3 (P.map Zc)with|some a,aa b=>aa (a::b)|_,_=>af)=_
  rw[YL,Yt P]
theorem US:∀r:Row,Yh (r.map V.int)=aj
 |[]=>rfl
 |a::r=>US r
def Za0(n:Nat):Yg 0 n=(aY n).map λ(k:Nat)=>V.int (k:Int):=by
 refine eX λk _=>?_
 simp
def Yc{α:Type}{a:α}{s:DS}:po (aa a) s=.ok a s:=rfl
section
variable{C:ZB}{cap:List Nat}{nl:Nat}{t:List Nat}{it:W}{elt tst:E}{ρ:Env}{s:DS}{α:Type}
def ZN{l:List α}{e g:α->V}(hw:pvw C it ρ s=.ok (l.map e) s)(hl:l.length<=lim)(h:∀x∈l,∃σ,Zo t (e x) (Z5 cap nl ρ)=aa σ/\pv C elt σ s=.ok (g x) s)(ho:own nl t=aj:=by rfl):pv C (.comp1 cap nl t it [] elt) ρ s=.ok (.lst (l.map g)) s:=by
 rw[pv,T9 ho,hw,Zb,UO λx hx=>by
  obtain⟨σ,e1,e2⟩:=h x hx;rw[e1,Yc,Zb,pvt,Zb];rw[e2];rfl]
 rw[Zb,T9 (by rw[aB];exact hl)];rfl
def Y6{l:List α}{e g:α->V}{q:α->Bool}(hw:pvw C it ρ s=.ok (l.map e) s)(hl:l.length<=lim)(h:∀x∈l,∃σ v,Zo t (e x) (Z5 cap nl ρ)=aa σ/\pv C tst σ s=.ok v s/\Zv v=aa (q x)/\(q x=aj->pv C elt σ s=.ok (g x) s))(ho:own nl t=aj:=by rfl):pv C (.comp1 cap nl t it [tst] elt) ρ s=.ok (.lst ((l.filter q).map g)) s:=by
 rw[pv,T9 ho,hw,Zb,VU (q:=q) λx hx=>by
  obtain⟨σ,v,e1,e2,e3,e4⟩:=h x hx;rw[e1,Yc,Zb,pvt,e2,Zb,e3,Yc,Zb];cases c:q x with
  |true=>
   rw[T9 rfl,pvt,Zb,T9 rfl,T9 rfl,e4 c];rfl
  |false=>rw[T8 (by simp),Zb,T8 (by simp),T8 (by simp)]]
 rw[Zb,T9 (by rw[aB];exact bY (fN ..) hl)];rfl
def jK{β:Type}{u:List Nat}{jt:W}{l:List α}{e:α->V}{m:α->List β}{e2:β->V}{g:α->β->V}(hw:pvw C it ρ s=.ok (l.map e) s)(hl:(l.flatMap λx=>(m x).map (g x)).length<=lim)
  (h:∀x∈l,∃σ,Zo t (e x) (Z5 cap nl ρ)=aa σ/\pvw C jt σ s=.ok ((m x).map e2) s/\∀y∈m x,∃σ',Zo u (e2 y) σ=aa σ'/\pv C elt σ' s=.ok (g x y) s)(ho:own2 nl t u=aj:=by rfl):pv C (.comp2 cap nl t it [] u jt [] elt) ρ s=.ok (.lst (l.flatMap λx=>(m x).map (g x))) s:=by
 rw[pv,T9 ho,hw,Zb,Qz λx hx=>by
  obtain⟨σ,e1,e3,e4⟩:=h x hx;rw[e1,Yc,Zb,pvt,Zb,T9 rfl,e3,Zb];exact UO λy hy=>by
   obtain⟨σ',f1,f2⟩:=e4 y hy;rw[f1,Yc,Zb,pvt,Zb];rw[f2];rfl]
 rw[Zb,T9 hl];rfl
def QO{Q:V->Prop}(hw:pvw C it ρ s=.ok (Yg 0 k) s)(hl:k<=lim)(h:∀(x:V)(s:DS),∃σ y s',Zo t x (Z5 cap nl ρ)=aa σ/\pv C elt σ s=.ok y s'/\Q y)(ho:own nl t=aj:=by rfl) :
  ∃ys s',pv C (.comp1 cap nl t it [] elt) ρ s=.ok (.lst ys) s'/\ys.length=k/\∀y∈ys,Q y:=by
 obtain⟨ys,s',e1,e2,e3⟩:=QE (f:=λx s=>(po (Zo t x (Z5 cap nl ρ)) s).bind λσ s=>(pvt C [] σ s).bind λb s=>if b then(pv C elt σ s).bind λy s=>.ok [y] s else .ok [] s) (λx s=>by
  obtain⟨σ,y,s',f1,f2,f3⟩:=h x s;refine⟨y,s',?_,f3⟩;rw[f1,Yc,Zb,pvt,Zb];rw[f2];rfl) (Yg 0 k) s
 have hk:(Yg 0 k).length=k:=by unfold Yg;simp
 refine⟨ys,s',?_,by rw[e2,hk],e3⟩
 rw[pv,T9 ho,hw,Zb,e1,Zb,T9 (by rw[e2,hk];exact hl)];rfl
end
def Zac{xs:List V}{k:Nat}(h:k<=xs.length):Yr xs af (aa (k:Int))=xs.take k:=by
 show(xs.drop 0).take ((if(k:Int)<0 then((k:Int)+xs.length).toNat else rn (k:Int).toNat xs.length)-0)=_
 rw[T8 (by lia),show rn (k:Int).toNat xs.length-0=k by lia];rfl
def z6{xs:List V}{i:Int}{k:Nat}(hi:i=k)(h:k<=xs.length):Yr xs (aa i) af=xs.drop k:=by
 subst hi;show(xs.drop (if(k:Int)<0 then((k:Int)+xs.length).toNat else rn (k:Int).toNat xs.length)).take (xs.length-(if(k:Int)<0 then((k:Int)+xs.length).toNat else rn (k:Int).toNat xs.length))=_
 rw[T8 (by lia),show rn (k:Int).toNat xs.length=k by lia]
 exact cq (by rw[bB];lia)
def u7{xs:List V}:Yr xs (aa 1) af=xs.tail:=by
 cases xs with|nil=>rfl|cons x xs=>exact z6 rfl (by simp)
noncomputable def Zx(k:Nat):V:=.int k
def JT(n:Nat):Yg 0 n=(aY n).map Zx:=by rw[Za0];rfl
def Zae(h0:0<=i)(h1:i<1000000):We i=aj:=by
 unfold We;have e:(2:Int)^62=4611686018427387904:=by decide
 rw[e];exact T5 ⟨by lia,by lia⟩
def Zq(hf:F[f]?=aa fn)(hne:f≠tk)(hl:vs.length=fn.ps)(h:rvs (Zn F tk d) (muts fn.body) fn.body (ZM fn.ns vs) [] s=.ok (.ret v) s'):Zn F tk (d+1) f vs s=.ok v s':=by
 rw[Qx hf hne hl,h];rfl
def JQ(hf:F[f]?=aa fn)(hne:f≠tk)(hl:vs.length=fn.ps)(h:rvs (Zn F tk d) (muts fn.body) fn.body (ZM fn.ns vs) [] s=.ok (.nx ρ os) s'):Zn F tk (d+1) f vs s=.ok .non s':=by
 rw[Qx hf hne hl,h];rfl
section
variable{C:ZB}{ms:List Nat}{m:Sm}{l:List Sm}{ρ ρ':Env}{os os':List Nat}{s s':DS}
def Zj(h:rv C ms m ρ os s=.ok (.nx ρ' os') s'):rvs C ms (m::l) ρ os s=rvs C ms l ρ' os' s':=by rw[rvs,h];rfl
def Zl(h:rv C ms m ρ os s=.ok (.ret v) s'):rvs C ms (m::l) ρ os s=.ok (.ret v) s':=by rw[rvs,h];rfl
def ZI(h:pv C e ρ s=.ok v s'):rv C ms (.ret e) ρ os s=.ok (.ret v) s':=by rw[rv,h];rfl
def ZaQ(h:pv C (.call f as) ρ s=.ok v s'):rv C ms (.ex (.call f as)) ρ os s=.ok (.nx ρ os) s':=by
 have:rv C ms (.ex (.call f as)) ρ os s=(pv C (.call f as) ρ s).bind λ_ s=>.ok (.nx ρ os) s:=by
  rw[rv]
  all_goals(intro _ _ z;cases z)
 rw[this,h];rfl
def XF{b:Bool}{t:E}{x y:List Sm}(h:YN C t ρ s=.ok b s'):rv C ms (.ite t x y) ρ os s=if b=aj then rvs C ms x ρ os s' else rvs C ms y ρ os s':=by rw[rv,h];rfl
def Xb{v:V}{b:Bool}{t:E}(h:pv C t ρ s=.ok v s')(hb:Zv v=aa b):YN C t ρ s=.ok b s':=by unfold YN;rw[h,Zb,hb];rfl
def Zm{f:Nat}{as:List E}{vs:List V}{v:V}{s1:DS}(h:pvs C as ρ s=.ok vs s1)(hc:C f vs s1=.ok v s'):pv C (.call f as) ρ s=.ok v s':=by rw[pv,h];exact hc
def Ze:pvs C [] ρ s=.ok [] s:=by rw[pvs]
def Za{e:E}{es:List E}{v:V}{vs:List V}{s1:DS}(h:pv C e ρ s=.ok v s1)(h2:pvs C es ρ s1=.ok vs s'):pvs C (e::es) ρ s=.ok (v::vs) s':=by rw[pvs,h,Zb,h2];rfl
def Zf{i:Nat}{v:V}(h:ρ[i]?=aa (aa v)):pv C (.v i) ρ s=.ok v s:=by rw[pv,h];rfl
def ZL{i:Nat}{e:E}{v:V}(h:pv C e ρ s=.ok v s')(hm:(ms.contains i&&fresh e)=al):rv C ms (.asg [i] e) ρ [] s=.ok (.nx (ρ.set i (aa v)) []) s':=by
 rw[rv];show(pv C e ρ s).bind _=_;rw[h,Zb,T8 (by rw[hm];simp)];rfl
def Zdv{σ α:Type}{t:List Nat}{it:W}{b:List Sm}{L:List α}{e:α->V}{step:σ->α->σ}{ρ:σ->Option V->Env}{st:σ}{o:Option V}(I:σ->Prop)(hw:pvw C it (hide os (ρ st o)) s=.ok (L.map e) s)(hI:I st)(ht:(t.any os.contains)=al)
  (h:∀x∈L,∀st o,I st->I (step st x)/\(os.isEmpty||(e x).flat)=aj/\∃ρ1 o',Zo t (e x) (ρ st o)=aa ρ1/\rvs C ms b ρ1 os s=.ok (.nx (ρ (step st x) o') os) s) :
  ∃o',I (L.foldl step st)/\rv C ms (.forr t it b) (ρ st o) os s=.ok (.nx (ρ (L.foldl step st) o') os) s:=by
 obtain⟨o',h1,h2⟩:=QI (body:=λx ρ os s=>if(t.any os.contains)=aj then .no else if(os.isEmpty||x.flat)=aj then(po (Zo t x ρ) s).bind λρ s=>rvs C ms b ρ os s else .no) I (l:=L) (o:=o) hI (λx hx st o hI=>by
  obtain⟨a,f,ρ1,o',b1,b2⟩:=h x hx st o hI;refine⟨a,o',?_⟩;rw[T8 (by rw[ht];simp),T9 f,b1,Yc,Zb,b2])
 refine⟨o',h1,?_⟩;rw[rv,hw,Zb];exact h2
theorem Xx{e:E}{n:Nat}(h:pv C e ρ s=.ok (.int n) s')(hn:n<1000000):pvw C (.rng1 e) ρ s=.ok ((aY n).map Zx) s':=by
 rw[pvw,h,Zb];show(if We (n:Int)=aj then PR.ok (Yg 0 (n:Int).toNat) s' else .no)=_
 rw[T9 (Zae (by lia) (by lia)),dC,JT]
def V2{α:Type}{t:List Nat}{it:W}{b:List Sm}{L:List α}{e:α->V}(I:List α->Env->Prop)(hw:pvw C it (hide os ρ) s=.ok (L.map e) s)(hI:I L ρ)(ht:(t.any os.contains)=al)
  (h:∀x l ρ,I (x::l) ρ->(os.isEmpty||(e x).flat)=aj/\∃ρ1 ρ',Zo t (e x) ρ=aa ρ1/\rvs C ms b ρ1 os s=.ok (.nx ρ' os) s/\I l ρ') :
  ∃ρ',I [] ρ'/\rv C ms (.forr t it b) ρ os s=.ok (.nx ρ' os) s:=by
 rw[rv,hw,Zb];clear hw
 induction L generalizing ρ with
 |nil=>exact⟨ρ,hI,rfl⟩
 |cons x L ih=>
  obtain⟨f,ρ1,ρ',b1,b2,b3⟩:=h x L ρ hI;obtain⟨ρ2,c1,c2⟩:=ih b3;refine⟨ρ2,c1,?_⟩;rw[aW,Yz,T8 (by rw[ht];simp),T9 f,b1,Yc,Zb,b2,Zb]
  exact c2
def vm{σ α:Type}{t:List Nat}{it:W}{b:List Sm}{L:List α}{e:α->V}{step:σ->α->σ}{ρ:σ->Option V->Env}{st:σ}{o:Option V}(I:List α->σ->Prop)(hw:pvw C it (hide os (ρ st o)) s=.ok (L.map e) s)(hI:I L st)(ht:(t.any os.contains)=al)
  (h:∀x l st o,I (x::l) st->I l (step st x)/\(os.isEmpty||(e x).flat)=aj/\∃ρ1 o',Zo t (e x) (ρ st o)=aa ρ1/\rvs C ms b ρ1 os s=.ok (.nx (ρ (step st x) o') os) s) :
  ∃o',I [] (L.foldl step st)/\rv C ms (.forr t it b) (ρ st o) os s=.ok (.nx (ρ (L.foldl step st) o') os) s:=by
 rw[rv,hw,Zb];clear hw
 induction L generalizing st o with
 |nil=>exact⟨o,hI,rfl⟩
 |cons x L ih=>
  obtain⟨a,f,ρ1,o',b1,b2⟩:=h x L st o hI;obtain⟨o2,c1,c2⟩:=ih a;refine⟨o2,c1,?_⟩;rw[aW,Yz,T8 (by rw[ht];simp),T9 f,b1,Yc,Zb,b2,Zb]
  exact c2
end
def pvF:(∀a,fresh (.lst a)=aj)/\(∀a b,fresh (.bin .mul (.lst a) b)=aj)/\(∀b,Zv (.bl b)=aa b)/\(∀i,Zv (.int i)=aa (ag (i≠0)))/\(∀xs,Zv (.tup xs)=aa (!xs.isEmpty))/\(∀xs,Zv (.lst xs)=aa (!xs.isEmpty))/\(Zv .non=aa al)/\(∀xs i,ixV (.tup xs) (.int i)=at' xs i)/\(∀xs i,ixV (.lst xs) (.int i)=at' xs i)/\(∀xs,Yy (.tup xs)=aa xs)/\(∀xs,Yy (.lst xs)=aa xs)/\(∀x,Xk .len [x]=(Yy x).map λxs=>.int xs.length)/\(∀x,Xk .tuple [x]=(Yy x).map .tup)/\(∀x,Xk .list [x]=(Yy x).map .lst)/\(∀xs,Xk .all [.lst xs]=(ZZ xs).map λbs=>.bl (bs.all id))/\(∀a b,Xk .max2 [.int a,.int b]=aa (.int (if b>a then b else a)))/\(∀a b,Xk .min2 [.int a,.int b]=aa (.int (if b<a then b else a)))/\(∀a,Xk .toInt [.int a]=aa (.int a))/\(∀a,Xk .toInt [.bl a]=aa (.int (b2i a)))/\(∀xs,Xk .sortedR [.lst xs]=(Z3 xs).bind λrs=>if Ym rs=aj then aa (.lst ((Z2 rs).reverse.map Zc))else af)/\(∀a b s,YG .add (.int a) (.int b) s=.ok (.int (a+b)) s)/\(∀a b s,YG .sub (.int a) (.int b) s=.ok (.int (a-b)) s)/\(∀a b s,YG .mul (.int a) (.int b) s=if(fits a&&fits b)=aj then .ok (.int (a*b)) s else .no)/\(∀a b s,YG .mod (.int a) (.int b) s=if 0<b then .ok (.int (a%b)) s else .no)/\(∀a b s,YG .add (.tup a) (.tup b) s=if a.length+b.length<=lim then .ok (.tup (a++b)) s else .no)/\(∀a b s,YG .mul (.tup a) (.int b) s=if 0<=b/\b<1000/\a.length<=1000 then .ok (.tup (aH b.toNat a).flatten) s else .no)/\(∀a b s,YG .mul (.lst a) (.int b) s=if 0<=b/\b<1000/\a.length<=1000 then .ok (.lst (aH b.toNat a).flatten) s else .no)/\(∀a b s,YG .add (.lst a) (.lst b) s=if a.length+b.length<=lim then .ok (.lst (a++b)) s else .no)/\(∀x y,Yq .eq x y=(eqV Zt x y).map .bl)/\(∀x y,Yq .ne x y=(eqV Zt x y).map λb=>.bl !b)/\(∀a b,Yq .lt (.int a) (.int b)=aa (.bl (ag (a<b))))/\(∀a b,Yq .gt (.int a) (.int b)=aa (.bl (ag (b<a))))/\(∀a b,Yq .le (.int a) (.int b)=aa (.bl (ag (a<=b))))/\(∀a b,Yq .ge (.int a) (.int b)=aa (.bl (ag (b<=a))))/\(∀x,Yq .is x .non=aa (.bl (VS x)))/\(∀x,Yq .isn x .non=aa (.bl !(VS x)))/\(∀a b,Yq .is (.bl a) (.bl b)=aa (.bl (ag (a=b))))/\(∀a b,Yq .isn (.bl a) (.bl b)=aa (.bl !(ag (a=b))))/\(∀x y,Yq .inn x y=(VO x y).map .bl)/\(∀x y,Yq .nin x y=(VO x y).map λb=>.bl !b)/\(VS .non=aj)/\(∀b,VS (.bl b)=al)/\(∀b,VS (.int b)=al)/\(∀b,VS (.tup b)=al)/\(∀b,VS (.lst b)=al)/\(ofD .non=aa .non)/\(∀b,ofD (.bl b)=aa (.bl b))/\(∀b,ofD (.int b)=aa (.int b))/\(∀ρ,YO [] [] ρ=aa ρ)/\(∀i t x xs ρ,YO (i::t) (x::xs) ρ=YO t xs (ρ.set i (aa x)))/\(∀i x ρ,Zo [i] x ρ=aa (ρ.set i (aa x)))/\(∀i j t xs ρ,Zo (i::j::t) (.tup xs) ρ=YO (i::j::t) xs ρ)/\(∀i j t xs ρ,Zo (i::j::t) (.lst xs) ρ=YO (i::j::t) xs ρ)/\(∀k a b,eqV (k+1) (.int a) (.int b)=aa (ag (a=b)))/\(∀k a b,eqV (k+1) (.bl a) (.bl b)=aa (ag (a=b)))/\(∀k a b,eqV (k+1) (.tup a) (.tup b)=Ys (eqV k) a b)/\(∀k a b,eqV (k+1) (.lst a) (.lst b)=if a.length=b.length then Ys (eqV k) a b else aa al):=
 ⟨λ_=>rfl,λ_ _=>rfl,λ_=>rfl,λ_=>rfl,λ_=>rfl,λ_=>rfl,rfl,λ_ _=>rfl,λ_ _=>rfl,λ_=>rfl,λ_=>rfl,λ_=>rfl,λ_=>rfl,λ_=>rfl,λ_=>rfl,λ_ _=>rfl,λ_ _=>rfl,λ_=>rfl,λ_=>rfl,λ_=>rfl,λ_ _ _=>rfl,λ_ _ _=>rfl,λ_ _ _=>rfl,λ_ _ _=>rfl,λ_ _ _=>rfl,λ_ _ _=>rfl,λ_ _ _=>rfl,λ_ _ _=>rfl,λ_ _=>rfl,λ_ _=>rfl,λ_ _=>rfl,λ_ _=>rfl,λ_ _=>rfl,λ_ _=>rfl,λ_=>rfl,λ_=>rfl,λ_ _=>rfl,λ_ _=>rfl,λ_ _=>rfl,λ_ _=>rfl,rfl,λ_=>rfl,λ_=>rfl,λ_=>rfl,λ_=>rfl,rfl,λ_=>rfl,λ_=>rfl,λ_=>rfl,λ_ _ _ _ _=>rfl,λ_ _ _=>rfl,λ_ _ _ _ _=>rfl,λ_ _ _ _ _=>rfl,λ_ _ _=>rfl,λ_ _ _=>rfl,λ_ _ _=>rfl,λ_ _ _=>rfl⟩
def pvE:=aV (aV (aV (aV (aV (aV pvF @Zb) (aV @Yc @YN.eq_1)) (aV (aV @ZM.eq_1 @hide.eq_1) (aV @Z5.eq_1 @Option.join.eq_1.{0}))) (aV (aV (aV @lim.eq_1 @rvs.eq_1) (aV @rvs.eq_2 @rv.eq_1)) (aV (aV @rv.eq_2 @rv.eq_3) (aV @rv.eq_4 @rv.eq_5)))) (aV (aV (aV (aV @rv.eq_6 @rv.eq_7) (aV @rv.eq_8 @rv.eq_9)) (aV (aV @rv.eq_10 @rv.eq_11) (aV @rv.eq_12 @rv.eq_13))) (aV (aV (aV @rv.eq_14 @rv.eq_15) (aV @rv.eq_16 @rv.eq_17)) (aV (aV @rv.eq_18 @pvA.eq_1) (aV @pvA.eq_2 (aV @pvs.eq_1 @pvs.eq_2)))))) (aV (aV (aV (aV (aV @pvo.eq_1 @pvo.eq_2) (aV @pvt.eq_1 @pvt.eq_2)) (aV (aV @pvw.eq_1 @pvw.eq_2) (aV @pvw.eq_3 @pvw.eq_4))) (aV (aV (aV @pvw.eq_5 @pvw.eq_6) (aV @pvw.eq_7 @pv.eq_1)) (aV (aV @pv.eq_2 @pv.eq_3) (aV @pv.eq_4 (aV @pv.eq_5 @pv.eq_6))))) (aV (aV (aV (aV @pv.eq_7 @pv.eq_8) (aV @pv.eq_9 @pv.eq_10)) (aV (aV @pv.eq_11 @pv.eq_12) (aV @pv.eq_13 @pv.eq_14))) (aV (aV (aV @pv.eq_15 @pv.eq_16) (aV @pv.eq_17 @pv.eq_18)) (aV (aV @pv.eq_19 @pv.eq_20) (aV @pv.eq_21 (aV @pv.eq_22 @pv.eq_23))))))
end Pv
namespace K22
open Ev Pv Rw La
noncomputable abbrev CV(d:Nat):ZB:=Zn fns 2 d
theorem QR(C:ZB)(s:DS)(v:V):∀(r:Row)(k:Nat)(a b:Option V),∃a' b',Yz (λx ρ os s=>if(([1,2]:List Nat).any os.contains)=aj then .no else if(os.isEmpty||x.flat)=aj then(po (Zo [1,2] x ρ) s).bind λρ s=>rvs C [] [.ite (.cmp .ne (.v 2) (.c (.int 0))) [.ret (.v 1)] []] ρ os s else .no)
   (((Yg k r.length).zip (r.map V.int)).map λp=>V.tup [p.1,p.2]) [aa v,a,b] [] s=match hdI r with
    |some m=>.ok (.ret (.int (k+m:Nat))) s
    |none=>.ok (.nx [aa v,a',b'] []) s
 |[],k,a,b=>⟨a,b,rfl⟩
 |x::r,k,a,b=>by
  have er:Yg k (x::r).length=.int k::Yg (k+1:Nat) r.length:=by
   unfold Yg;rw[aQ,lR,aW,cI];refine List.cons_eq_cons.mpr ⟨by simp,?_⟩
   ·refine eX λj _=>?_
    show V.int ((k:Int)+((j+1:Nat):Int))=V.int (((k+1:Nat):Int)+(j:Int))
    congr 1
    lia
  obtain⟨a',b',ih⟩:=QR C s v r (k+1) (aa (.int k)) (aa (.int x));refine⟨a',b',?_⟩;rw[er,aW,cc,aW,Yz];by_cases c:x=0
  ·subst c
   have e0:hdI (0::r)=(hdI r).map (· + 1):=by rw[hdI,T8 (by simp)]
   have e1:(if(([1,2]:List Nat).any ([]:List Nat).contains)=aj then(.no:PR FlV)else if(([]:List Nat).isEmpty||(V.tup [V.int k,V.int 0]).flat)=aj then(po (Zo [1,2] (V.tup [.int k,.int 0]) [aa v,a,b]) s).bind λρ s=>rvs C [] [.ite (.cmp .ne (.v 2) (.c (.int 0))) [.ret (.v 1)] []] ρ [] s else .no)=.ok (.nx [aa v,aa (.int k),aa (.int 0)] []) s:=by
    simp[pvE,Zt]
   rw[e1,Zb,e0];show Yz _ _ [aa v,aa (.int k),aa (.int 0)] [] s=_;rw[ih];cases hdI r with|none=>rfl|some m=>show PR.ok (FlV.ret (.int ((k+1+m:Nat):Int))) s=PR.ok (FlV.ret (.int ((k+(m+1):Nat):Int))) s;congr 3;lia
  ·have e0:hdI (x::r)=aa 0:=by rw[hdI,T9 c]
   have e1:(if(([1,2]:List Nat).any ([]:List Nat).contains)=aj then(.no:PR FlV)else if(([]:List Nat).isEmpty||(V.tup [V.int k,V.int x]).flat)=aj then(po (Zo [1,2] (V.tup [.int k,.int x]) [aa v,a,b]) s).bind λρ s=>rvs C [] [.ite (.cmp .ne (.v 2) (.c (.int 0))) [.ret (.v 1)] []] ρ [] s else .no)=.ok (.ret (.int k)) s:=by
    simp[pvE,Zt,c]
   rw[e1,Zb,e0];rfl
def Gq(d:Nat)(r:Row)(s:DS):CV (d+1) 10 [Zc r] s=.ok (Vh (hdI r)) s:=by
 rw[CV,Qx rfl (by decide) rfl]
 obtain⟨a,b,e⟩:=QR (Zn fns 2 d) s (Zc r) r 0 af af;show((rv _ [] (.forr [1,2] (.enum (.v 0)) _) [aa (Zc r),af,af] [] s).bind _).bind _=_;have e2:rv (Zn fns 2 d) [] (.forr [1,2] (.enum (.v 0)) [.ite (.cmp .ne (.v 2) (.c (.int 0))) [.ret (.v 1)] []]) [aa (Zc r),af,af] [] s=match hdI r with
    |some m=>.ok (.ret (.int (m:Nat))) s
    |none=>.ok (.nx [aa (Zc r),a,b] []) s:=by
  rw[rv];have ew:pvw (Zn fns 2 d) (.enum (.v 0)) (hide [] [aa (Zc r),af,af]) s=.ok (((Yg 0 r.length).zip (r.map V.int)).map λp=>V.tup [p.1,p.2]) s:=by
   simp[pvE,Zc]
  rw[ew,Zb];simp only[Nat.zero_add,Int.natCast_zero]at e;exact e
 rw[e2];cases hdI r with|none=>rfl|some m=>rfl
section
variable{p n:Nat}[Base p]
def Qm:(p:Int)<=5/\(2:Int)<=p:=by rcases(inferInstance:Base p).b with e|e|e<;>subst e<;>decide
theorem Uk(d:Nat){r o:Row}{k:Int}(s:DS)(hn:n<=6)(hr:Zh p n r)(ho:Zh p n o)(hk:-1000<k/\k<1000):CV (d+1) 19 [.int p,Zc r,Zc o,.int k] s=.ok (Zc (ZG p r o k)) s:=by
 rw[CV,Qx rfl (by decide) rfl]
 have hp:=Qm (p:=p);have hc:=ZN (C:=Zn fns 2 d) (cap:=[3,0]) (nl:=2) (t:=[0,1]) (it:=.zip (.v 1) (.v 2)) (elt:=.bin .mod (.bin .add (.v 0) (.bin .mul (.v 2) (.v 1))) (.v 3)) (ρ:=[aa (.int p),aa (Zc r),aa (Zc o),aa (.int k)]) (s:=s) (l:=r.zip o) (e:=λq=>V.tup [.int q.1,.int q.2]) (g:=λq=>V.int ((q.1+k*q.2)%p))
  (by simp[pvE,Zc,UX]) (by rw[fF,hr.1,ho.1];unfold lim;lia) (λq hq=>by
   have h2:=ho.2 q.2 (fE hq).2;refine⟨_,rfl,?_⟩;have f1:=ZY (a:=k) (by lia) (by lia)
   have f2:=ZY (a:=q.2) (by lia) (by lia)
   have hp0:0<p:=by lia
   simp[pvE,f1,f2,hp0])
 have e:(r.zip o).map (λq=>V.int ((q.1+k*q.2)%p))=(ZG p r o k).map V.int:=by
  unfold ZG;rw[<-eV,cI];rfl
 simp[Wy,pvE,hc,e];rfl
theorem Zbb(d:Nat){r o:Row}{h:Nat}(s:DS)(hn:n<=6)(hr:Zh p n r)(ho:Zh p n o)(hh:h<n):CV (d+2) 20 [.int p,Zc r,Zc o,.int h] s=.ok (Zc (clr p r o h)) s:=by
 rw[CV,Qx rfl (by decide) rfl]
 have hg:=YV ppos hr h;have hp:=Qm (p:=p);have e:=Uk d (k:=-(gt r h)) s hn hr ho ⟨by lia,by lia⟩
 have e2:=VF (by rw[hr.1];exact hh)
 simp only[CV]at e;simp[Q7,pvE,Zc,e2];simp only[Zc]at e;rw[e];simp[pvE,clr]
end
section
variable{p n:Nat}[Base p]
def Vu(C:ZB)(ms:List Nat){i j:Nat}{ρ:Env}{os:List Nat}{s:DS}{e:E}(h:pvA C e ρ os s=.ok (spV p n) s)(ho:os.contains i=al/\os.contains j=al):rv C ms (.asg [i,j] e) ρ os s=.ok (.nx ((ρ.set i (aa (.int p))).set j (aa (.int n))) os) s:=by
 rw[rv,h,Zb,T8 (by simpa using ho)]
 ·rfl
 ·simp
def uD(d:Nat){P:List Row}{r:Row}(s:DS)(hn:n<=6)(hP:pZ p n P)(hr:Zh p n r):CV (d+3) 21 [spV p n,Zd P,Zc r] s=.ok (Zc (XC p P r)) s:=by
 refine Zq rfl (by decide) rfl ?_
 show rvs (CV (d+2)) [] (.asg [3,4] (.v 0) :: .asg [5] (.v 2) :: .forr [6] (.of (.v 1)) [.asg [5] (.call 20 [(.v 3),(.v 5),(.v 6),(.call 10 [(.v 6)])])] :: .ret (.v 5)::[]) [aa (spV p n),aa (Zd P),aa (Zc r),af,af,af,af] [] s=_;rw[Zj (Vu (p:=p) (n:=n) _ _ (by simp[pvE]) (by simp))]
 rw[Zj (ρ':=[aa (spV p n),aa (Zd P),aa (Zc r),aa (.int p),aa (.int n),aa (Zc r),af]) (os':=[]) (s':=s) (by simp[pvE])]
 obtain⟨o',hI,e⟩:=Zdv (C:=CV (d+2)) (ms:=[]) (t:=[6]) (it:=.of (.v 1)) (b:=[.asg [5] (.call 20 [(.v 3),(.v 5),(.v 6),(.call 10 [(.v 6)])])]) (L:=P) (e:=Zc) (step:=λst o=>clr p st o ((hdI o).getD 0)) (ρ:=λst o=>[aa (spV p n),aa (Zd P),aa (Zc r),aa (.int p),aa (.int n),aa (Zc st),o]) (st:=r) (os:=[]) (s:=s) (Zh p n) (by simp[pvE,Zd]) hr rfl (λx hx st o hst=>by
  have hx':=hP.row x hx;obtain⟨k,hk,hkn,_⟩:=hP.head fld.one0 hx;refine⟨Zp hst hx',rfl,_,aa (Zc x),rfl,?_⟩;have e1:=Gq (d+1) x s;have e2:=Zbb d (h:=k) s hn hst hx' hkn;rw[hk]at e1;simp only[Vh]at e1;have e3:=e1;simp[pvE,e3,e2,hk])
 rw[Zj e];exact Zl (ZI (by simp[pvE,XC]))
theorem dsum{P:List Row}(hP:pZ p n P):P.length<=n:=by
 have:=ur fld hP.pn;rw[Zbv]at this;lia
end
end K22
namespace Rw
open La
open Ev (ltI Wb Z2)
end Rw
namespace Rw
open Ev (ltP YA YK)
noncomputable def ZdH:List (Nat×Nat):=[(2,1),(2,2),(2,3),(2,4),(3,1),(3,2),(3,3),(5,1),(5,2)]
noncomputable def Zd2:List (Nat×Nat):=[(2,5),(2,6),(3,4),(5,3)]
end Rw
namespace Rw
open La
section
variable{p n:Nat}[Base p]
def GK(hW:pZ p n W)(hr:Zh p n r)(hl:Zh p n l)(h1:ZD p W l=aj)(h2:ZD p W (clr p r l j)=aj):ZD p W r=aj:=by
 rw[ZE hW hr];have a:=(ZE hW hl).mp h1;have b:=(ZE hW (Zp hr hl)).mp h2;rw[show toV p (ZG p r l (-gt r j))=_ from X5 hr hl]at b
 have c:=Xq (toV p r j) b a;have e:(λk=>(toV p r k-toV p r j*toV p l k)+toV p r j*toV p l k)=toV p r:=by funext k;grind
 rw[e]at c;exact c
def Zaj(hW:pZ p n W)(hr:Zh p n r)(hl:Zh p n l)(h1:ZD p W l=aj)(h2:ZD p W r=aj):ZD p W (clr p r l j)=aj:=by
 show ZD p W (ZG p r l (-gt r j))=aj;rw[ZE hW (Zp hr hl)];rw[show toV p (ZG p r l (-gt r j))=_ from X5 hr hl]
 exact W3 (toV p r j) ((ZE hW hr).mp h2) ((ZE hW hl).mp h1)
def jm(hW:pZ p n W)(hr:Zh p n r)(h:ZD p W r=aj):ZD p W (XN p r k)=aj:=by
 rw[ZE hW (X2 hr)];rw[vG];have:=Xq (ph p k) (Ug) ((ZE hW hr).mp h);have e:(λj=>(0:Fin p)+ph p k*toV p r j)=λj=>ph p k*toV p r j:=by funext j;grind
 rw[e]at this;exact this
def vx(hW:pZ p n W)(hr:Zh p n r)(h:∀i,gt r i=0):ZD p W r=aj:=by
 rw[ZE hW hr];have e:toV p r=λ_=>0:=by funext k;exact(Ya hr).mpr (h k)
 rw[e];exact Ug
def Jk(hW:pZ p n W)(hr:r∈W):ZD p W r=aj:=by
 rw[ZE hW (hW.row r hr)];exact Xt hW.pn.rf (Ye hr)
def Bk(p n:Nat)[NeZero p](R rest found:List Row):Prop:=∀W,pZ p n W->(((∀r∈rest,ZD p W r=aj)/\∀r∈found,ZD p W r=aj)↔∀r∈R,ZD p W r=aj)
def Bk.take{R rest found:List Row}{j:Nat}{f:Row}(B:Bk p n R rest found)(h:Red p n j rest found)(hf:f∈rest):Bk p n R (rest.map λr=>clr p r (lead p f j) j) (found.map (λr=>clr p r (lead p f j) j)++[lead p f j]):=λW hW=>by
 have hl:Zh p n (lead p f j):=X2 (h.row f hf);rw[<-B W hW]
 constructor
 ·intro⟨h1,h2⟩
  have l1:=h2 _ (bh _ (aU.mpr rfl));exact⟨λr hr=>GK hW (h.row r hr) hl l1 (h1 _ (aP.mpr ⟨r,hr,rfl⟩)),λr hr=>GK hW (h.part.row r hr) hl l1 (h2 _ (bV _ (aP.mpr ⟨r,hr,rfl⟩)))⟩
 ·intro⟨h1,h2⟩
  have l1:ZD p W (lead p f j)=aj:=jm hW (h.row f hf) (h1 f hf);refine⟨λr hr=>?_,λr hr=>?_⟩
  ·obtain⟨o,ho,rfl⟩:=aP.mp hr
   exact Zaj hW (h.row o ho) hl l1 (h1 o ho)
  ·rcases cu.mp hr with hr|hr
   ·obtain⟨o,ho,rfl⟩:=aP.mp hr
    exact Zaj hW (h.part.row o ho) hl l1 (h2 o ho)
   ·rw[aU.mp hr];exact l1
def Bk.fin{R rest found:List Row}{j:Nat}(B:Bk p n R rest found)(h:Red p n j rest found)(hj:n<=j):∀r∈R,ZD p found r=aj:=
 (B found h.part).mp ⟨λr hr=>vx h.part (h.row r hr) λi=>by
  by_cases c:i<j
  ·exact h.low r hr i c
  ·exact yE (by rw[(h.row r hr).1];omega),λr hr=>Jk h.part hr⟩
structure Spans(p n:Nat)[NeZero p](R P:List Row):Prop where
 part:pZ p n P
 holds:∀r∈R,ZD p P r=aj
 least:∀W,pZ p n W->(∀r∈R,ZD p W r=aj)->∀r∈P,ZD p W r=aj
def Spans.uniq(hP:Spans p n R P)(hQ:Spans p n R Q):P=Q:=
 eqP hP.part hQ.part λu=>⟨(WV hP.part hQ.part).mp (bf.mpr (hP.least Q hQ.part hQ.holds)) u,(WV hQ.part hP.part).mp (bf.mpr (hQ.least P hP.part hP.holds)) u⟩
def Spans.self(hP:pZ p n P):Spans p n P P:=⟨hP,λr hr=>Jk hP hr,λW hW h=>h⟩
def Bk.spans{R rest found:List Row}{j:Nat}(B:Bk p n R rest found)(h:Red p n j rest found)(hj:n<=j):Spans p n R found:=⟨h.part,B.fin h hj,λW hW hR=>((B W hW).mpr hR).2⟩
end
noncomputable def rise(hs:List Nat):Bool:=(hs.zip hs.tail).all λq=>ag (q.1<q.2)
theorem UQ:∀{hs:List Nat},rise hs=aj↔hs.Pairwise (· < ·)
 |[]=>by simp[rise]
 |[a]=>by simp[rise]
 |a::b::l=>by
  have ih:=UQ (hs:=b::l);unfold rise at ih ⊢;rw[rm,cc,iG,aD,T0];rw[rm]at ih
  constructor
  ·intro⟨h1,h2⟩
   have h3:=ih.mp h2;refine aZ.mpr ⟨λx hx=>?_,h3⟩
   rcases az.mp hx with rfl|hx
   ·exact h1
   ·exact db h1 ((aZ.mp h3).1 x hx)
  ·intro h
   obtain⟨h1,h2⟩:=aZ.mp h;exact⟨h1 b (ao ..),ih.mpr h2⟩
noncomputable def Vy(R:List Row)(i k:Nat):Bool:=ag (gt (R.getD i []) k=1)&&(R.take i++R.drop (i+1)).all λr=>ag (gt r k=0)
noncomputable def UZ(R:List Row):Bool:=(R.all λr=>(hdI r).isSome)&&(rise (ZJ R)&&(aY R.length).all λi=>Vy R i ((ZJ R).getD i 0))
section
variable{p n:Nat}[Base p]
def Ge{R:List Row}{i:Nat}(hi:i<R.length):R.getD i []=R[i]:=by rw[aF,ai hi];rfl
def UE(hi:i<R.length):(ZJ R).getD i 0=(hdI R[i]).getD 0:=by
 unfold ZJ;rw[aF,aR,ai hi];rfl
def Zdn{R:List Row}{i j:Nat}(hj:j<R.length)(h:j≠i):R[j]∈R.take i++R.drop (i+1):=by
 by_cases c:j<i
 ·refine bV _ ?_
  have hl:j<(R.take i).length:=by rw[bz];omega
  rw[<-fQ];exact aX hl
 ·refine bh _ ?_
  have hl:j-(i+1)<(R.drop (i+1)).length:=by rw[bB];omega
  have e:(R.drop (i+1))[j-(i+1)]=R[j]:=by rw[fR];congr 1;omega
  rw[<-e];exact aX hl
def QX{R:List Row}{i:Nat}{r:Row}(h:r∈R.take i++R.drop (i+1)):∃j,∃(hj:j<R.length),j≠i/\R[j]=r:=by
 rcases cu.mp h with z|z
 ·obtain⟨j,hj,e⟩:=cA z
  rw[bz]at hj;exact⟨j,by omega,by omega,by rw[<-e,fQ]⟩
 ·obtain⟨j,hj,e⟩:=cA z
  rw[bB]at hj;exact⟨i+1+j,by omega,by omega,by rw[<-e,fR]⟩
def Jj:ph p 1=1:=by
 rcases(inferInstance:Base p).b with e|e|e<;>subst e<;>rfl
def JR(hr:Zh p n r):toV p r k=1↔gt r k=1:=by
 have hb:=(inferInstance:Base p).b
 constructor
 ·intro h
  refine Ut (YV ppos hr k) ⟨by omega,by omega⟩ ?_
  rw[Jj];exact h
 ·intro h
  unfold toV;rw[h,Jj]
def QS{R:List Row}(hR:∀r∈R,Zh p n r):UZ R=aj↔pZ p n R:=by
 unfold UZ;simp only[aD,bf,bt]
 constructor
 ·intro⟨h1,h2,h3⟩
  have hd:∀i (hi:i<R.length),∃k,hdI R[i]=aa k/\gt R[i] k=1/\∀j (hj:j<R.length),j≠i->gt R[j] k=0:=λi hi=>by
   obtain⟨k,hk⟩:=cV.mp (h1 _ (aX hi));have a:=h3 i hi;unfold Vy at a;rw[UE hi,Ge hi,hk,aD,T0,bf]at a;exact⟨k,hk,a.1,λj hj ne=>T6 (a.2 _ (Zdn hj ne))⟩
  have inc:=UQ.mp h2;have memP:∀a∈toP p R,∃i,∃(hi:i<R.length),a=((hdI R[i]).getD 0,toV p R[i]):=λa ha=>by
   obtain⟨r,hr,rfl⟩:=aP.mp ha;obtain⟨i,hi,rfl⟩:=cA hr;exact⟨i,hi,rfl⟩
  refine⟨hR,⟨⟨?_,λa ha j hj=>?_,λa ha=>?_,λa ha b hb ne=>?_⟩,λa ha=>?_,λa ha=>?_⟩⟩
  ·rw[<-VB (p:=p)]at inc
   exact cY.mp inc
  ·obtain⟨i,hi,rfl⟩:=memP a ha
   obtain⟨k,hk,_,_⟩:=hd i hi;rw[hk]at hj;exact(Ya (hR _ (aX hi))).mpr ((Yx hk).2.2 j hj)
  ·obtain⟨i,hi,rfl⟩:=memP a ha
   obtain⟨k,hk,h,_⟩:=hd i hi;rw[hk];exact(JR (hR _ (aX hi))).mpr h
  ·obtain⟨i,hi,rfl⟩:=memP a ha
   obtain⟨j,hj,rfl⟩:=memP b hb;obtain⟨k,hk,_,h⟩:=hd i hi;rw[hk];refine(Ya (hR _ (aX hj))).mpr (h j hj λe=>?_)
   subst e;exact ne rfl
  ·obtain⟨i,hi,rfl⟩:=memP a ha
   obtain⟨k,hk,_,_⟩:=hd i hi;rw[hk,<-(hR _ (aX hi)).1];exact(Yx hk).2.1
  ·obtain⟨i,hi,rfl⟩:=memP a ha
   exact Va (hR _ (aX hi))
 ·intro hP
  have hk:∀r∈R,∃k,hdI r=aa k/\k<n/\toV p r k=1:=λr hr=>hP.head fld.one0 hr
  refine⟨λr hr=>?_,UQ.mpr ?_,λi hi=>?_⟩
  ·obtain⟨k,e,_⟩:=hk r hr
   rw[e];rfl
  ·rw[<-VB (p:=p)];exact hP.pn.rf.heads
  ·obtain⟨k,e,_,h1⟩:=hk _ (aX hi)
   unfold Vy;rw[UE hi,Ge hi,e,aD,T0,bf];refine⟨(JR (hR _ (aX hi))).mp h1,λr hr=>?_⟩
   obtain⟨j,hj,ne,rfl⟩:=QX hr;refine T5 ?_;obtain⟨k2,e2,_,_⟩:=hk _ (aX hj);have hh:((hdI R[i]).getD 0,toV p R[i]).1≠((hdI R[j]).getD 0,toV p R[j]).1:=by
    have inc:(ZJ R).Pairwise (· < ·):=by rw[<-VB (p:=p)];exact hP.pn.rf.heads
    have pw:=ck.mp inc;have li:(ZJ R).length=R.length:=by unfold ZJ;rw[aB]
    have gi:∀m (hm:m<R.length),(ZJ R)[m]'(by omega)=(hdI R[m]).getD 0:=λm hm=>by unfold ZJ;rw[List.getElem_map]
    intro z;have z:=z;rcases Nat.lt_or_gt_of_ne ne with c|c
    ·have:=pw j i (by omega) (by omega) c
     rw[gi j hj,gi i hi]at this;omega
    ·have:=pw i j (by omega) (by omega) c
     rw[gi j hj,gi i hi]at this;omega
   have:=hP.pn.rf.zer _ (Ye (aX hi)) _ (Ye (aX hj)) hh;rw[e]at this;exact(Ya (hR _ (aX hj))).mp this
end
end Rw
namespace K22
open Ev Pv Rw La
def WI{F:List Fn}{tk d f c:Nat}{vs:List V}{s s':DS}{fn:Fn}(hf:F[f]?=aa fn)(hne:f≠tk)(hl:vs.length=fn.ps)(h:rvs (Zn F tk d) (muts fn.body) fn.body (ZM fn.ns vs) [] s=.ex c s'):Zn F tk (d+1) f vs s=.ex c s':=by
 rw[Qx hf hne hl,h];rfl
def JO{C:ZB}{ms:List Nat}{m:Sm}{l:List Sm}{ρ:Env}{os:List Nat}{s s':DS}{c:Nat}(h:rv C ms m ρ os s=.ex c s'):rvs C ms (m::l) ρ os s=.ex c s':=by rw[rvs,h];rfl
def X0{C:ZB}{ρ:Env}{s s1 s':DS}{f c:Nat}{as:List E}{vs:List V}(h:pvs C as ρ s=.ok vs s1)(hc:C f vs s1=.ex c s'):pv C (.call f as) ρ s=.ex c s':=by rw[pv,h];exact hc
def JL{C:ZB}{ms:List Nat}{ρ:Env}{os:List Nat}{s s':DS}{f c:Nat}{as:List E}(h:pv C (.call f as) ρ s=.ex c s'):rv C ms (.ex (.call f as)) ρ os s=.ex c s':=by
 rw[rv,h]
 ·rfl
 all_goals(intro i e z;cases z)
mutual
noncomputable def okV:V->Bool
 |.tup xs=>YE xs
 |.lst xs=>YE xs
 |.drw=>al
 |.scr _=>al
 |.dct (aa _)=>al
 |_=>aj
noncomputable def YE:List V->Bool
 |[]=>aj
 |x::xs=>okV x&&YE xs
end
theorem Xc:∀{xs:List V},YE xs=aj->∀x∈xs,okV x=aj
 |[],_,x,h=>by cases h
 |y::xs,h,x,m=>by
  obtain⟨h1,h2⟩:=(aD _ _).mp h;rcases az.mp m with rfl|m
  ·exact h1
  ·exact Xc h2 x m
noncomputable def isW(x:V)(lo hi:Int):Bool:=match x with
 |.int i=>ag (lo<=i)&&ag (i<=hi)
 |_=>al
def Zd3{x:V}{lo hi:Int}(h:∀i,x≠.int i):isW x lo hi=al:=by
 cases x with|int i=>exact T7 rfl (h i)|_=>rfl
def jy{x:V}(hx:okV x=aj):(∃i,x=.int i)\/(∃b,x=.bl b)\/Z1 x [.int]=aa al/\∀i,x≠.int i:=by
 cases x with
 |int i=>exact .inl ⟨i,rfl⟩
 |bl b=>exact .inr (.inl ⟨b,rfl⟩)
 |drw=>cases hx
 |scr _=>cases hx
 |dct o=>cases o with|none=>exact .inr (.inr ⟨rfl,nofun⟩)|some _=>cases hx
 |_=>exact .inr (.inr ⟨rfl,nofun⟩)
def JY{x:V}(hx:okV x=aj):(∃xs,x=.tup xs)\/Z1 x [.tuple]=aa al/\∀xs,x≠.tup xs:=by
 cases x with
 |tup xs=>exact .inl ⟨xs,rfl⟩
 |drw=>cases hx
 |scr _=>cases hx
 |dct o=>cases o with|none=>exact .inr ⟨rfl,nofun⟩|some _=>cases hx
 |_=>exact .inr ⟨rfl,nofun⟩
def jB(d:Nat){x:V}{lo hi:Int}(s:DS)(hx:okV x=aj):CV (d+1) 14 [x,.int lo,.int hi] s=.ok (.bl (isW x lo hi)) s:=by
 refine Zq rfl (by decide) rfl ?_
 rcases jy hx with⟨i,rfl⟩|⟨b,rfl⟩|⟨ha,no⟩
 ·by_cases h:lo<=i
  ·simp[YT,pvE,isW,Z1,Yn,h]
  ·simp[YT,pvE,isW,Z1,Yn,h]
 ·simp[YT,pvE,isW,Z1,Yn]
 ·rw[Zd3 no]
  simp[YT,pvE,ha]
noncomputable def ZX(p n:Nat)(x:V):Bool:=match x with
 |.tup xs=>ag (xs.length=n)&&xs.all λv=>isW v 0 ((p:Int)-1)
 |_=>al
def qH{p n:Nat}{x:V}(h:∀xs,x≠.tup xs):ZX p n x=al:=by
 cases x with|tup xs=>exact T7 rfl (h xs)|_=>rfl
theorem wO{p:Nat}:∀{xs:List V},(xs.all λv=>isW v 0 ((p:Int)-1))=aj->∃r:Row,xs=r.map .int/\∀a∈r,0<=a/\a<(p:Int)
 |[],_=>⟨[],rfl,λ_ h=>by cases h⟩
 |x::xs,h=>by
  rw[iG,aD]at h;obtain⟨r,rfl,hr⟩:=wO h.2;cases x with
  |int i=>
   have:=h.1;simp only[isW,aD,T0]at this;refine⟨i::r,rfl,λa ha=>?_⟩
   rcases az.mp ha with rfl|ha
   ·lia
   ·exact hr a ha
  |_=>cases h.1
def ZaE{p n:Nat}{x:V}(h:ZX p n x=aj):∃r:Row,x=Zc r/\Zh p n r:=by
 cases x with
 |tup xs=>
  unfold ZX at h;rw[aD,T0]at h;obtain⟨r,rfl,hr⟩:=wO h.2;exact⟨r,rfl,by simpa using h.1,hr⟩
 |_=>cases h
def ZcG{p n:Nat}{r:Row}(hr:Zh p n r):ZX p n (Zc r)=aj:=by
 unfold ZX Zc;rw[aD,T0,aB];refine⟨hr.1,bf.mpr λv hv=>?_⟩
 obtain⟨a,ha,rfl⟩:=aP.mp hv;have:=hr.2 a ha;simp only[isW,aD,T0];lia
theorem Gi:∀r:Row,YE (r.map .int)=aj
 |[]=>rfl
 |a::r=>Gi r
def ZaR(r:Row):okV (Zc r)=aj:=Gi r
section
variable{p n:Nat}[Base p]
theorem Zbe(d:Nat){x:V}(s:DS)(hn:n<=6)(hx:okV x=aj):CV (d+2) 15 [spV p n,x] s=.ok (.bl (ZX p n x)) s:=by
 refine Zq rfl (by decide) rfl ?_
 dsimp only[GL]
 rw[Zj (Vu (p:=p) (n:=n) _ _ (by simp[pvE]) (by simp))]
 rcases JY hx with⟨xs,rfl⟩|⟨ha,no⟩
 ·
  by_cases hl:xs.length=n
  ·rw[Zj (ρ':=[aa (spV p n),aa (.tup xs),aa (.int p),aa (.int n)]) (os':=[]) (s':=s) (by simp[pvE,Z1,Yn,Zt,hl])]
   refine Zl (ZI ?_);have hc:=ZN (C:=CV (d+1)) (cap:=[2]) (nl:=1) (t:=[0]) (it:=.of (.v 1)) (elt:=.call 14 [(.v 0),(.c (.int 0)),(.bin .sub (.v 1) (.c (.int 1)))]) (ρ:=[aa (spV p n),aa (.tup xs),aa (.int p),aa (.int n)]) (s:=s) (l:=xs) (e:=id) (g:=λv=>V.bl (isW v 0 ((p:Int)-1)))
    (by simp[pvE]) (by unfold lim;lia) (λv hv=>⟨_,rfl,by
     have e:=jB d (lo:=0) (hi:=(p:Int)-1) s (Xc hx v hv);simp[pvE,e]⟩)
   have ht:=Yf (g:=λv:V=>isW v 0 ((p:Int)-1)) xs
   simp[pvE,hc,ht,ZX,hl]
  ·refine Zl ?_
   simp[pvE,Z1,Yn,Zt,ZX,hl];lia
 ·rw[qH no]
  exact Zl (by simp[pvE,ha])
theorem vJ(d:Nat){hs:List Nat}(s:DS)(hl:hs.length<=1000):CV (d+1) 11 [.lst (hs.map Zx)] s=.ok (.bl (rise hs)) s:=by
 refine Zq rfl (by decide) rfl ?_
 have ez:∀(a b:List Nat),((a.map Zx).zip (b.map Zx)).map (λq=>V.tup [q.1,q.2])=(a.zip b).map λq=>V.tup [Zx q.1,Zx q.2]:=by
  intro a
  induction a with
  |nil=>intro b;rfl
  |cons x a ih=>intro b;cases b with|nil=>rfl|cons y b=>simp only[aW,cc];rw[ih]
 have hc:=ZN (C:=CV d) (cap:=[]) (nl:=2) (t:=[0,1]) (it:=.zip (.v 0) (.sl (.v 0) (aa (.c (.int 1))) af)) (elt:=.cmp .lt (.v 0) (.v 1)) (ρ:=[aa (.lst (hs.map Zx))]) (s:=s) (l:=hs.zip hs.tail) (g:=λq=>V.bl (ag (q.1<q.2)))
  (by
   have e1:Yr (hs.map Zx) (aa 1) af=hs.tail.map Zx:=by rw[u7,rF]
   simp[pvE,slV,e1];rw[<-rF,ez]) (by rw[fF];unfold lim;lia) (λq hq=>⟨_,rfl,by simp[pvE,Zx]⟩)
 have ht:=Yf (g:=λq:Nat×Nat=>ag (q.1<q.2)) (hs.zip hs.tail)
 simp[VN,pvE,hc,ht,rise]
theorem yI(d:Nat){R:List Row}{k:Nat}(s:DS)(hl:R.length<=1000)(hk:∀r∈R,k<r.length):CV (d+1) 12 [Zd R,.int k] s=.ok (.bl (R.all λr=>ag (gt r k=0))) s:=by
 refine Zq rfl (by decide) rfl ?_
 have hc:=ZN (C:=CV d) (cap:=[1]) (nl:=1) (t:=[0]) (it:=.of (.v 0)) (elt:=.cmp .eq (.ix (.v 0) (.v 1)) (.c (.int 0))) (ρ:=[aa (Zd R),aa (.int k)]) (s:=s) (l:=R) (e:=Zc) (g:=λr=>V.bl (ag (gt r k=0)))
  (by simp[pvE,Zd]) (by unfold lim;lia) (λr hr=>⟨_,rfl,by
   have:=VF (hk r hr);simp[pvE,Zc,this,Zt]⟩)
 have ht:=Yf (g:=λr:Row=>ag (gt r k=0)) R
 simp[WM,pvE,hc,ht]
theorem JA(d:Nat){R:List Row}{i k:Nat}(s:DS)(hR:∀r∈R,Zh p n r)(hl:R.length<=1000)(hi:i<R.length)(hk:k<n):CV (d+2) 13 [Zd R,Zx i,Zx k] s=.ok (.bl (Vy R i k)) s:=by
 refine Zq rfl (by decide) rfl ?_
 show rvs (CV (d+1)) [] YR.body [aa (Zd R),aa (.int i),aa (.int k)] [] s=_
 dsimp only[YR]
 have hrow:=hR _ (aX hi);have e1:at' (R.map Zc) (i:Int)=aa (Zc R[i]):=U0 (by rw[aR,ai hi];rfl)
 have e2:=VF (k:=k) (by rw[hrow.1];exact hk)
 have e3:=yI d (R:=R.take i++R.drop (i+1)) (k:=k) s (by rw[bp,bz,bB];lia) (λr hr=>by
  obtain⟨j,hj,ne,rfl⟩:=QX hr;rw[(hR _ (aX hj)).1];exact hk)
 have c1:Yr (R.map Zc) af (aa (i:Int))=(R.take i).map Zc:=by rw[Zac (by rw[aB];lia),rG]
 have c2:Yr (R.map Zc) (aa ((i:Int)+1)) af=(R.drop (i+1)).map Zc:=by rw[z6 (k:=i+1) (by lia) (by rw[aB];lia),rH]
 have g0:pv (CV (d+1)) (.ix (.ix (.v 0) (.v 1)) (.v 2)) [aa (Zd R),aa (.int i),aa (.int k)] s=.ok (.int (gt R[i] k)) s:=by
  rw[pv,pv,Zf rfl,Zb,Zf rfl,Zb];show((po (at' (R.map Zc) (i:Int)) s).bind _)=_;rw[e1,Yc,Zb,Zf rfl,Zb];show po (at' (R[i].map V.int) (k:Int)) s=_;rw[e2];rfl
 have g1:pv (CV (d+1)) (.cmp .eq (.ix (.ix (.v 0) (.v 1)) (.v 2)) (.c (.int 1))) [aa (Zd R),aa (.int i),aa (.int k)] s=.ok (.bl (ag (gt R[i] k=1))) s:=by
  rw[pv,g0,Zb];simp[pvE,ofD,Zt]
 have g2:pv (CV (d+1)) (.bin .add (.sl (.v 0) af (aa (.v 1))) (.sl (.v 0) (aa (.bin .add (.v 1) (.c (.int 1)))) af)) [aa (Zd R),aa (.int i),aa (.int k)] s=.ok (Zd (R.take i++R.drop (i+1))) s:=by
  have c3:(R.take i).length+(R.drop (i+1)).length<=16777216:=by rw[bz,bB];lia
  rw[bz,bB]at c3;simp[pvE,Zd,slV,c1,c2,c3]
 have g3:=Zm (Za g2 (Za (Zf (i:=2) rfl) Ze)) e3;refine Zl (ZI ?_);rw[pv,g1,Zb];unfold Vy;rw[Ge hi];cases ag (gt R[i] k=1)with|true=>exact g3|false=>rfl
theorem ww:∀R:List Row,Wj .non (R.map λr=>Vh (hdI r))=aa (!(R.all λr=>(hdI r).isSome))
 |[]=>rfl
 |r::R=>by
  show(match eqV Zt (Vh (hdI r)) .non,Wj .non (R.map λr=>Vh (hdI r))with|some a,aa b=>aa (a||b)|_,_=>af)=_
  rw[ww R,iG];cases hdI r with|none=>simp[Vh,eqV,Zt]|some k=>simp[Vh,eqV,Zt]
def qv{R:List Row}(h:(R.all λr=>(hdI r).isSome)=aj):R.map (λr=>Vh (hdI r))=(ZJ R).map Zx:=by
 unfold ZJ;rw[cI];refine eX λr hr=>?_
 obtain⟨k,hk⟩:=cV.mp (bf.mp h r hr);show Vh (hdI r)=Zx ((hdI r).getD 0);rw[hk];rfl
theorem u5(d:Nat){R:List Row}(s:DS)(hn:n<=6)(hR:∀r∈R,Zh p n r)(hl:R.length<=1000):rvs (CV (d+2)) [] (Vn.body.drop 1) [aa (spV p n),aa (Zd R),af] [] s=.ok (.ret (.bl (UZ R))) s:=by
 show rvs _ _ (.asg [2] (.comp1 [] 1 [0] (.of (.v 1)) [] (.call 10 [(.v 0)])) ::
  .ite (.or (.cmp .inn (.c .non) (.v 2)) (.not (.call 11 [(.v 2)]))) [.ret (.c (.bl al))] [] ::
  .ret (.blt .all [(.comp1 [1] 2 [0,1] (.enum (.v 2)) [] (.call 13 [(.v 2),(.v 0),(.v 1)]))])::[]) _ _ _=_
 have hc2:=ZN (C:=CV (d+2)) (cap:=[]) (nl:=1) (t:=[0]) (it:=.of (.v 1)) (elt:=.call 10 [(.v 0)]) (ρ:=[aa (spV p n),aa (Zd R),af]) (s:=s) (l:=R) (e:=Zc) (g:=λr=>Vh (hdI r))
  (by simp[pvE,Zd]) (by unfold lim;lia) (λx hx=>⟨_,rfl,by
   have e:=Gq (d+1) x s;simp[pvE,e]⟩)
 rw[Zj (ρ':=[aa (spV p n),aa (Zd R),aa (.lst (R.map λr=>Vh (hdI r)))]) (os':=[]) (s':=s) (by simp[pvE,hc2])]
 have hin:=ww R;unfold UZ;cases hh:R.all λr=>(hdI r).isSome with
 |false=>
  rw[hh]at hin;exact Zl (by simp[pvE,VO,hin])
 |true=>
  rw[hh]at hin;rw[qv hh]at hin ⊢;have hln:(ZJ R).length=R.length:=by unfold ZJ;rw[aB]
  have e3:=vJ (d+1) (hs:=ZJ R) s (by lia)
  cases hr:rise (ZJ R)with
  |false=>
   rw[hr]at e3;exact Zl (by simp[pvE,VO,hin,e3])
  |true=>
  rw[hr]at e3;rw[Zj (ρ':=[aa (spV p n),aa (Zd R),aa (.lst ((ZJ R).map Zx))]) (os':=[]) (s':=s) (by simp[pvE,VO,hin,e3])]
  refine Zl (ZI ?_);have ew:((Yg 0 (ZJ R).length).zip ((ZJ R).map Zx)).map (λq=>V.tup [q.1,q.2])=(aY R.length).map λi=>V.tup [Zx i,Zx ((ZJ R).getD i 0)]:=by
   apply iD
   ·simp[Yg,hln]
   ·intro i h1 h2
    have h3:i<R.length:=by simpa using h2
    have h4:i<(ZJ R).length:=by lia
    simp[Yg,Zx,h4]
  have hc3:=ZN (C:=CV (d+2)) (cap:=[1]) (nl:=2) (t:=[0,1]) (elt:=.call 13 [(.v 2),(.v 0),(.v 1)]) (s:=s) (l:=aY R.length)
   (by
    have:pvw (CV (d+2)) (.enum (.v 2)) [aa (spV p n),aa (Zd R),aa (.lst ((ZJ R).map Zx))] s=.ok (((Yg 0 ((ZJ R).map Zx).length).zip ((ZJ R).map Zx)).map λq=>V.tup [q.1,q.2]) s:=by simp[pvE]
    rw[this,aB,ew]) (by rw[bS];unfold lim;lia) (λi hi=>⟨_,rfl,by
    have hi':=bt.mp hi;have hk:(ZJ R).getD i 0<n:=by
     rw[UE hi'];obtain⟨k,hk⟩:=cV.mp (bf.mp hh _ (aX hi'));rw[hk,<-(hR _ (aX hi')).1];exact(Yx hk).2.1
    exact Zm (Za (Zf rfl) (Za (Zf rfl) (Za (Zf rfl) Ze))) (JA d s hR hl hi' hk)⟩)
  have ht3:=Yf (g:=λi:Nat=>Vy R i ((ZJ R).getD i 0)) (aY R.length)
  rw[pv,Za hc3 Ze,Zb];show po ((ZZ _).map λbs=>V.bl (bs.all id)) s=_
  rw[ht3];show PR.ok (V.bl ((mK _ _).all id)) s=_;rw[gZ];rfl
noncomputable def isP(p n:Nat)(x:V):Bool:=match x with
 |.tup xs=>xs.all (ZX p n)&&match Z3 xs with
  |some R=>UZ R
  |none=>al
 |_=>al
theorem X3:∀{xs:List V},xs.all (ZX p n)=aj->∃R:List Row,xs=R.map Zc/\∀r∈R,Zh p n r
 |[],_=>⟨[],rfl,λ_ h=>by cases h⟩
 |x::xs,h=>by
  rw[iG,aD]at h;obtain⟨R,rfl,hR⟩:=X3 h.2;obtain⟨r,rfl,hr⟩:=ZaE h.1;refine⟨r::R,rfl,λa ha=>?_⟩
  rcases az.mp ha with rfl|ha
  ·exact hr
  ·exact hR a ha
def WJ{x:V}:isP p n x=aj↔∃P,x=Zd P/\pZ p n P:=by
 constructor
 ·intro h
  cases x with
  |tup xs=>
   unfold isP at h;rw[aD]at h;obtain⟨R,rfl,hR⟩:=X3 h.1;have h2:=h.2;rw[Yt]at h2;exact⟨R,rfl,(QS hR).mp h2⟩
  |_=>cases h
 ·rintro ⟨P,rfl,hP⟩
  show(_&&_)=aj;rw[aD,Yt];refine⟨bf.mpr λv hv=>?_,(QS hP.row).mpr hP⟩
  obtain⟨r,hr,rfl⟩:=aP.mp hv;exact ZcG (hP.row r hr)
def qW{x:V}(h:∀xs,x≠.tup xs):isP p n x=al:=by
 cases x with|tup xs=>exact T7 rfl (h xs)|_=>rfl
theorem qK(d:Nat){x:V}(s:DS)(hn:n<=6)(hx:okV x=aj)(hl:∀xs,x=.tup xs->xs.length<=1000):CV (d+3) 16 [spV p n,x] s=.ok (.bl (isP p n x)) s:=by
 refine Zq rfl (by decide) rfl ?_
 show rvs (CV (d+2)) [] (.ite (.or (.not (.isi (.v 1) [.tuple])) (.not (.blt .all [(.comp1 [0] 1 [0] (.of (.v 1)) [] (.call 15 [(.v 1),(.v 0)]))]))) [.ret (.c (.bl al))] []::Vn.body.drop 1) [aa (spV p n),aa x,af] [] s=_;rcases JY hx with⟨xs,rfl⟩|⟨ha,no⟩
 ·
  have hl:=hl xs rfl;have hc1:=ZN (C:=CV (d+2)) (cap:=[0]) (nl:=1) (t:=[0]) (it:=.of (.v 1)) (elt:=.call 15 [(.v 1),(.v 0)]) (ρ:=[aa (spV p n),aa (.tup xs),af]) (s:=s) (l:=xs) (e:=id) (g:=λv=>V.bl (ZX p n v))
   (by simp[pvE]) (by unfold lim;lia) (λv hv=>⟨_,rfl,by
    have e:=Zbe (p:=p) d s hn (Xc hx v hv);simp[pvE,e]⟩)
  have ht:=Yf (g:=λv:V=>ZX p n v) xs
  have hpt:Z1 (.tup xs) [.tuple]=aa aj:=rfl;cases ha:xs.all (ZX p n)with
  |false=>
   have hf:(xs.map λv=>ZX p n v).all id=al:=by rw[gZ];exact ha
   refine Zl ?_;simp[pvE,hpt,hc1,ht,isP,ha,hf]
  |true=>
   have hf:(xs.map λv=>ZX p n v).all id=aj:=by rw[gZ];exact ha
   rw[Zj (ρ':=[aa (spV p n),aa (.tup xs),af]) (os':=[]) (s':=s) (by simp[pvE,hpt,hc1,ht,hf])]
   obtain⟨R,rfl,hR⟩:=X3 (p:=p) ha;have e:=u5 d s hn hR (by simpa using hl)
   have eb:isP p n (.tup (R.map Zc))=UZ R:=by
    show((R.map Zc).all (ZX p n)&&match Z3 (R.map Zc)with|some R=>UZ R|none=>al)=_
    rw[ha,Yt];rfl
   rw[eb];exact e
 ·rw[qW no]
  exact Zl (by simp[pvE,ha])
theorem JC:∀P:List Row,YE (P.map Zc)=aj
 |[]=>rfl
 |r::P=>by
  show(okV (Zc r)&&YE (P.map Zc))=aj;rw[ZaR,JC P];rfl
def xM(P:List Row):okV (Zd P)=aj:=JC P
def Uz{P:List Row}(hP:pZ p n P):∀xs,Zd P=.tup xs->xs.length<=n:=λxs e=>by
 cases e;rw[aB];exact dsum hP
def Wh(d:Nat){x:V}(s:DS)(hn:n<=6)(hx:okV x=aj)(hl:∀xs,x=.tup xs->xs.length<=1000):CV (d+4) 17 [spV p n,x] s=if isP p n x=aj then .ok .non s else .ex 2 s:=by
 have e:=qK (p:=p) d s hn hx hl;cases h:isP p n x with
 |true=>
  rw[h]at e;refine JQ (ρ:=[aa (spV p n),aa x]) (os:=[]) rfl (by decide) rfl ?_
  simp[XV,pvE,e]
 |false=>
  rw[h]at e;refine WI rfl (by decide) rfl ?_
  simp[XV,pvE,e];rfl
theorem Vz(d:Nat){P:List Row}(s:DS)(hn:n<=6)(hP:pZ p n P):CV (d+4) 17 [spV p n,Zd P] s=.ok .non s:=by
 have e:=Wh (p:=p) d s hn (xM P) λxs z=>by have:=Uz hP xs z;lia
 rw[T9 (WJ.mpr ⟨P,rfl,hP⟩)]at e;exact e
def U8(d:Nat){P Q:List Row}(s:DS)(hn:n<=6)(hP:pZ p n P)(hQ:pZ p n Q):CV (d+5) 18 [spV p n,Zd P,Zd Q] s=.ok .non s:=by
 have e1:=Vz d s hn hP;have e2:=Vz d s hn hQ;refine JQ (ρ:=[aa (spV p n),aa (Zd P),aa (Zd Q)]) (os:=[]) rfl (by decide) rfl ?_
 simp[Z4,pvE,e1,e2]
end
section
variable{p n:Nat}[Base p]
def wY(d:Nat){P:List Row}{r:Row}(s:DS)(hn:n<=6)(hP:pZ p n P)(hr:Zh p n r):CV (d+4) 22 [spV p n,Zd P,Zc r] s=.ok (.bl (ZD p P r)) s:=by
 refine Zq rfl (by decide) rfl ?_
 show rvs (CV (d+3)) [] (.ret (.cmp .is (.call 10 [(.call 21 [(.v 0),(.v 1),(.v 2)])]) (.c .non))::[]) [aa (spV p n),aa (Zd P),aa (Zc r)] [] s=_;have e1:pv (CV (d+3)) (.call 10 [(.call 21 [(.v 0),(.v 1),(.v 2)])]) [aa (spV p n),aa (Zd P),aa (Zc r)] s=.ok (Vh (hdI (XC p P r))) s:=
  Zm (Za (Zm (Za (Zf rfl) (Za (Zf rfl) (Za (Zf rfl) Ze))) (uD d s hn hP hr)) Ze) (Gq (d+2) _ s)
 refine Zl (ZI ?_);rw[pv,e1,Zb];unfold ZD;cases hdI (XC p P r)<;>simp[pvE,Vh]
theorem vE(d:Nat){P Q:List Row}(s:DS)(hn:n<=6)(hP:pZ p n P)(hQ:pZ p n Q):CV (d+5) 23 [spV p n,Zd P,Zd Q] s=.ok (.bl (P.all (ZD p Q))) s:=by
 refine Zq rfl (by decide) rfl ?_
 show rvs (CV (d+4)) [] (.ret (.blt .all [(.comp1 [0,2] 1 [0] (.of (.v 1)) [] (.call 22 [(.v 1),(.v 2),(.v 0)]))])::[]) [aa (spV p n),aa (Zd P),aa (Zd Q)] [] s=_;have hd:=dsum hP;have hc:=ZN (cap:=[0,2]) (nl:=1) (t:=[0]) (it:=.of (.v 1)) (elt:=.call 22 [(.v 1),(.v 2),(.v 0)]) (ρ:=[aa (spV p n),aa (Zd P),aa (Zd Q)]) (s:=s) (l:=P) (e:=Zc)
  (by simp[pvE,Zd]) (by unfold lim;lia) (λx hx=>⟨_,rfl,Zm (Za (Zf rfl) (Za (Zf rfl) (Za (Zf rfl) Ze))) (wY d s hn hQ (hP.row x hx))⟩)
 have ht:=Yf (g:=ZD p Q) P;refine Zl (ZI ?_);rw[pv,Za hc Ze,Zb];simp[pvE,ht,gZ,Function.comp]
def wR(d:Nat){P Q:List Row}(s:DS)(hn:n<=6)(hP:pZ p n P)(hQ:pZ p n Q):CV (d+6) 24 [spV p n,Zd P,Zd Q] s=.ok (.bl (P.all (ZD p Q))) s:=by
 refine Zq rfl (by decide) rfl ?_
 show rvs (CV (d+5)) [] (.ex (.call 18 [(.v 0),(.v 1),(.v 2)]) :: .ret (.call 23 [(.v 0),(.v 1),(.v 2)])::[]) [aa (spV p n),aa (Zd P),aa (Zd Q)] [] s=_;rw[Zj (ZaQ (Zm (Za (Zf rfl) (Za (Zf rfl) (Za (Zf rfl) Ze))) (U8 d s hn hP hQ)))];exact Zl (ZI (Zm (Za (Zf rfl) (Za (Zf rfl) (Za (Zf rfl) Ze))) (vE d s hn hP hQ)))
def qY(rs:List Row)(o:Row):(XW p rs o).length=rs.length*p:=by
 unfold XW;rw[ke];simp only[aB,bS];rw[pD,h9]
theorem Zbt(d:Nat){P:List Row}(s:DS)(hn:n<=6)(hP:pZ p n P):CV (d+5) 26 [spV p n,Zd P] s=.ok (.lst ((Y2 p n P).map Zc)) s:=by
 refine Zq (fn:=QP) rfl (by decide) rfl ?_
 show rvs (CV (d+4)) [] (.ex (.call 17 [(.v 0),(.v 1)]) :: .asg [2,3] (.v 0) :: .asg [4] (.lst [(.bin .mul (.tup [(.c (.int 0))]) (.v 3))]) :: .forr [5] (.of (.v 1)) [.asg [4] (.comp2 [2,5] 2 [0] (.of (.v 4)) [] [1] (.rng1 (.v 2)) [] (.call 19 [(.v 2),(.v 0),(.v 3),(.v 1)]))] :: .ret (.v 4)::[]) [aa (spV p n),aa (Zd P),af,af,af,af] [] s=_;have hd:=dsum hP;have hp:=Qm (p:=p);rw[Zj (ZaQ (Zm (Za (Zf rfl) (Za (Zf rfl) Ze)) (Vz d s hn hP)))];rw[Zj (Vu (p:=p) (n:=n) _ _ (by simp[pvE]) (by simp))]
 have er:(aH n [V.int 0]).flatten=(aH n (0:Int)).map V.int:=by
  rw[kP];clear hd hP hn
  induction n with|zero=>rfl|succ k ih=>rw[bU,cM,ih];rfl
 rw[Zj (ρ':=[aa (spV p n),aa (Zd P),aa (.int p),aa (.int n),aa (.lst ([aH n (0:Int)].map Zc)),af]) (os':=[]) (s':=s) (by
  have h1:(n:Int)<1000:=by lia
  rw[kP]at er;simp[pvE,h1,er,Zc])]
 have hz:Zh p n (aH n (0:Int)):=⟨by simp,λa ha=>by rw[(nJ.mp ha).2];exact⟨by lia,ppos⟩⟩
 obtain⟨o',hI,e⟩:=vm (C:=CV (d+4)) (ms:=[]) (t:=[5]) (it:=.of (.v 1)) (b:=[.asg [4] (.comp2 [2,5] 2 [0] (.of (.v 4)) [] [1] (.rng1 (.v 2)) [] (.call 19 [(.v 2),(.v 0),(.v 3),(.v 1)]))]) (L:=P) (e:=Zc) (step:=XW p) (ρ:=λst o=>[aa (spV p n),aa (Zd P),aa (.int p),aa (.int n),aa (.lst (st.map Zc)),o]) (o:=af) (os:=[]) (s:=s) (λl st=>(∀r∈l,Zh p n r)/\(∀r∈st,Zh p n r)/\st.length*5^l.length<=15625) (by simp[pvE,Zd]) ⟨hP.row,λr hr=>by rw[aU.mp hr];exact hz,by
   have h1:P.length<=6:=by lia
   have:5^P.length<=5^6:=dO (by lia) h1
   simp only[fK];lia⟩ rfl (λx l st o hst=>by
  obtain⟨h1,h2,h3⟩:=hst;have hx:=h1 x (ao ..);have hsl:(XW p st x).length=st.length*p:=qY st x;have hb:st.length*p*5^l.length<=15625:=by
   have:st.length*p<=st.length*5:=Nat.mul_le_mul_left _ (by lia)
   have h4:st.length*p*5^l.length<=st.length*5*5^l.length:=Nat.mul_le_mul_right _ this;rw[aQ,oy]at h3;have h5:st.length*5*5^l.length=st.length*(5^l.length*5):=by rw[rJ,lQ 5]
   lia
  have hlim:st.length*p<=15625:=bY (lK _ (Nat.pow_pos (by lia))) hb
  refine⟨⟨λr hr=>h1 r (aq _ hr),λr hr=>?_,by rw[hsl];exact hb⟩,rfl,_,aa (Zc x),rfl,?_⟩
  ·unfold XW at hr
   obtain⟨q,hq,hr⟩:=fk.mp hr;obtain⟨k,_,rfl⟩:=aP.mp hr;exact Zp (h2 q hq) hx
  ·show rvs (CV (d+4)) [] _ [aa (spV p n),aa (Zd P),aa (.int p),aa (.int n),aa (.lst (st.map Zc)),aa (Zc x)] [] s=_
   have hc:=jK (C:=CV (d+4)) (cap:=[2,5]) (nl:=2) (t:=[0]) (u:=[1]) (it:=.of (.v 4)) (jt:=.rng1 (.v 2)) (elt:=.call 19 [(.v 2),(.v 0),(.v 3),(.v 1)]) (ρ:=[aa (spV p n),aa (Zd P),aa (.int p),aa (.int n),aa (.lst (st.map Zc)),aa (Zc x)]) (s:=s) (l:=st) (e:=Zc) (m:=λ_=>aY p) (e2:=Zx)
    (by simp[pvE]) (by rw[ke];simp only[aB,bS];rw[pD,h9];unfold lim;lia) (λr hr=>⟨_,rfl,by
     exact Xx (n:=p) (Zf rfl) (by lia),λk hk=>⟨_,rfl,by
     have hk':=bt.mp hk;have:=Uk (p:=p) (d+3) (k:=(k:Int)) s hn (h2 r hr) hx ⟨by lia,by lia⟩
     exact Zm (Za (Zf rfl) (Za (Zf rfl) (Za (Zf rfl) (Za (Zf rfl) Ze)))) this⟩⟩)
   have ef:(st.flatMap λr=>(aY p).map λ(k:Nat)=>Zc (ZG p r x (k:Int)))=(XW p st x).map Zc:=by
    unfold XW;rw[List.map_flatMap];exact congrArg (λf=>st.flatMap f) (funext λr=>by rw[cI];rfl)
   rw[ef]at hc;rw[Zj (ZL hc rfl),rvs];rfl)
 rw[Zj e];exact Zl (ZI (Zf rfl))
noncomputable def ZaG:Option Row->V
 |none=>.non
 |some r=>Zc r
def Vd(d:Nat){P Q:List Row}(s:DS)(hn:n<=6)(hP:pZ p n P)(hQ:pZ p n Q):CV (d+6) 27 [spV p n,Zd P,Zd Q] s=.ok (ZaG (XQ p n P Q)) s:=by
 refine Zq rfl (by decide) rfl ?_
 show rvs (CV (d+5)) [] (.ex (.call 18 [(.v 0),(.v 1),(.v 2)]) :: .forr [3] (.of (.call 26 [(.v 0),(.v 1)])) [.ite (.not (.call 22 [(.v 0),(.v 2),(.v 3)])) [.ret (.v 3)] []] :: .ret (.c .non)::[]) [aa (spV p n),aa (Zd P),aa (Zd Q),af] [] s=_;rw[Zj (ZaQ (Zm (Za (Zf rfl) (Za (Zf rfl) (Za (Zf rfl) Ze))) (U8 d s hn hP hQ)))];have hr:=λr hr=>(((XA hP).1 r).mp hr).1
 have ew:pvw (CV (d+5)) (.of (.call 26 [(.v 0),(.v 1)])) (hide [] [aa (spV p n),aa (Zd P),aa (Zd Q),af]) s=.ok ((Y2 p n P).map Zc) s:=by
  rw[pvw,Zm (Za (Zf rfl) (Za (Zf rfl) Ze)) (Zbt d s hn hP)];rfl
 have loop:∀(L:List Row)(o:Option V),(∀r∈L,Zh p n r)->∃o',Yz (λx ρ os s=>if(([3]:List Nat).any os.contains)=aj then .no else if(os.isEmpty||x.flat)=aj then(po (Zo [3] x ρ) s).bind λρ s=>rvs (CV (d+5)) [] [.ite (.not (.call 22 [(.v 0),(.v 2),(.v 3)])) [.ret (.v 3)] []] ρ os s else .no) (L.map Zc) [aa (spV p n),aa (Zd P),aa (Zd Q),o] [] s=match L.find? λr=>!ZD p Q r with
   |some r=>.ok (.ret (Zc r)) s
   |none=>.ok (.nx [aa (spV p n),aa (Zd P),aa (Zd Q),o'] []) s:=by
  intro L
  induction L with
  |nil=>intro o _;exact⟨o,rfl⟩
  |cons r L ih=>
   intro o hL;obtain⟨o',e'⟩:=ih (aa (Zc r)) λx hx=>hL x (aq _ hx)
   refine⟨o',?_⟩;have e1:YN (CV (d+5)) (.not (.call 22 [(.v 0),(.v 2),(.v 3)])) [aa (spV p n),aa (Zd P),aa (Zd Q),aa (Zc r)] s=.ok (!ZD p Q r) s:=by
    refine Xb (v:=.bl (!ZD p Q r)) ?_ rfl;rw[pv,Zm (Za (Zf rfl) (Za (Zf rfl) (Za (Zf rfl) Ze))) (wY (d+1) s hn hQ (hL r (ao ..)))];rfl
   have e2:rvs (CV (d+5)) [] [.ite (.not (.call 22 [(.v 0),(.v 2),(.v 3)])) [.ret (.v 3)] []] [aa (spV p n),aa (Zd P),aa (Zd Q),aa (Zc r)] [] s=if(!ZD p Q r)=aj then .ok (.ret (Zc r)) s else .ok (.nx [aa (spV p n),aa (Zd P),aa (Zd Q),aa (Zc r)] []) s:=by
    cases c:(!ZD p Q r)with
    |true=>
     rw[c]at e1;exact Zl ((XF e1).trans (by rw[T9 rfl];exact Zl (ZI (Zf rfl))))
    |false=>
     rw[c]at e1;rw[Zj ((XF e1).trans (by rw[T8 (by simp),rvs])),rvs];rfl
   rw[aW,Yz,dZ];show PR.bind (rvs (CV (d+5)) [] _ [aa (spV p n),aa (Zd P),aa (Zd Q),aa (Zc r)] [] s) _=_;rw[e2];cases c:(!ZD p Q r)with|true=>rfl|false=>exact e'
 obtain⟨o',e⟩:=loop (Y2 p n P) af hr;have e3:rv (CV (d+5)) [] (.forr [3] (.of (.call 26 [(.v 0),(.v 1)])) [.ite (.not (.call 22 [(.v 0),(.v 2),(.v 3)])) [.ret (.v 3)] []]) [aa (spV p n),aa (Zd P),aa (Zd Q),af] [] s=match XQ p n P Q with
   |some r=>.ok (.ret (Zc r)) s
   |none=>.ok (.nx [aa (spV p n),aa (Zd P),aa (Zd Q),o'] []) s:=by
  rw[rv,ew,Zb];exact e
 cases q:XQ p n P Q with
 |some r=>rw[q]at e3;exact Zl e3
 |none=>
  rw[q]at e3;rw[Zj e3];exact Zl (ZI (by simp[pvE,ZaG]))
end
section
variable{p n:Nat}[Base p]
def ix0{C:ZB}{i:Nat}{ρ:Env}{s:DS}(h:ρ[i]?=aa (aa (spV p n))):pv C (.ix (.v i) (.c (.int 0))) ρ s=.ok (.int p) s:=by
 rw[pv,Zf h,Zb,pv];rfl
def ix1{C:ZB}{i:Nat}{ρ:Env}{s:DS}(h:ρ[i]?=aa (aa (spV p n))):pv C (.ix (.v i) (.c (.int 1))) ρ s=.ok (.int n) s:=by
 rw[pv,Zf h,Zb,pv];rfl
def V3{C:ZB}{e:E}{x:V}{xs:List V}{ρ:Env}{s:DS}(h:pv C e ρ s=.ok (.lst (x::xs)) s):pv C (.ix e (.c (.int 0))) ρ s=.ok x s:=by
 rw[pv,h,Zb,pv];show po (at' (x::xs) 0) s=_;simp[at',ixN,po]
theorem z7(d:Nat){r o:Row}{k:Int}(s:DS)(hn:n<=6)(hr:Zh p n r)(ho:Zh p n o)(hk:-1000<k/\k<1000):CV (d+1) 4 [spV p n,Zc r,Zc o,.int k] s=.ok (Zc (ZG p r o k)) s:=by
 refine Zq rfl (by decide) rfl ?_
 show rvs (CV d) [] (.ret (.blt .tuple [(.comp1 [3,0] 2 [0,1] (.zip (.v 1) (.v 2)) [] (.bin .mod (.bin .add (.v 0) (.bin .mul (.v 2) (.v 1))) (.ix (.v 3) (.c (.int 0)))))])::[]) [aa (spV p n),aa (Zc r),aa (Zc o),aa (.int k)] [] s=_;have hp:=Qm (p:=p);have hc:=ZN (C:=CV d) (cap:=[3,0]) (nl:=2) (t:=[0,1]) (it:=.zip (.v 1) (.v 2)) (elt:=.bin .mod (.bin .add (.v 0) (.bin .mul (.v 2) (.v 1))) (.ix (.v 3) (.c (.int 0)))) (ρ:=[aa (spV p n),aa (Zc r),aa (Zc o),aa (.int k)]) (s:=s) (l:=r.zip o) (e:=λq=>V.tup [.int q.1,.int q.2]) (g:=λq=>V.int ((q.1+k*q.2)%p))
  (by simp[pvE,Zc,UX]) (by rw[fF,hr.1,ho.1];unfold lim;lia) (λq hq=>by
   have h2:=ho.2 q.2 (fE hq).2;refine⟨_,rfl,?_⟩;have f1:=ZY (a:=k) (by lia) (by lia)
   have f2:=ZY (a:=q.2) (by lia) (by lia)
   have hp0:0<p:=by lia
   have e0:=ix0 (p:=p) (n:=n) (C:=CV d) (i:=3) (ρ:=[aa (.int q.1),aa (.int q.2),aa (.int k),aa (spV p n)]) (s:=s) rfl;show pv (CV d) _ [aa (.int q.1),aa (.int q.2),aa (.int k),aa (spV p n)] s=_;have g:pv (CV d) (.bin .add (.v 0) (.bin .mul (.v 2) (.v 1))) [aa (.int q.1),aa (.int q.2),aa (.int k),aa (spV p n)] s=.ok (.int (q.1+k*q.2)) s:=by simp[pvE,f1,f2]
   rw[pv,g,Zb,e0,Zb];simp[pvF,hp0])
 have e:(r.zip o).map (λq=>V.int ((q.1+k*q.2)%p))=(ZG p r o k).map V.int:=by
  unfold ZG;rw[<-eV,cI];rfl
 refine Zl (ZI ?_);rw[pv,Za hc Ze,e];rfl
theorem Wp(d:Nat)(s:DS)(hn:n<=6):∃r s',CV (d+2) 6 [.drw,spV p n] s=.ok (Zc r) s'/\Zh p n r:=by
 have hp:=Qm (p:=p);obtain⟨ys,s',e1,e2,e3⟩:=QO (C:=CV (d+1)) (cap:=[0,1]) (nl:=1) (t:=[0]) (it:=.rng1 (.ix (.v 1) (.c (.int 1)))) (elt:=.call 2 [(.v 1),(.ix (.v 2) (.c (.int 0)))]) (ρ:=[aa .drw,aa (spV p n)]) (s:=s) (k:=n) (Q:=λy=>∃a:Int,y=.int a/\0<=a/\a<p)
  (by rw[JT];exact Xx (ix1 rfl) (by lia)) (by unfold lim;lia) (λx s=>by
   obtain⟨v,s',f1,f2,f3⟩:=vo (tk:=2) (d:=d) (m:=p) s (by lia) (by lia)
   refine⟨[aa x,aa .drw,aa (spV p n)],.int v,s',rfl,Zm (Za (Zf rfl) (Za (ix0 (p:=p) (n:=n) rfl) Ze)) f1,v,rfl,f2,f3⟩)
 have:∃r:Row,ys=r.map V.int/\∀a∈r,0<=a/\a<(p:Int):=by
  clear e1 e2
  induction ys with
  |nil=>exact⟨[],rfl,λ_ h=>by cases h⟩
  |cons y ys ih=>
   obtain⟨r,h1,h2⟩:=ih λz hz=>e3 z (aq _ hz)
   obtain⟨a,rfl,h3⟩:=e3 y (ao ..);refine⟨a::r,by rw[h1];rfl,λx hx=>?_⟩
   rcases az.mp hx with rfl|hx
   ·exact h3
   ·exact h2 x hx
 obtain⟨r,rfl,h2⟩:=this;refine⟨r,s',Zq rfl (by decide) rfl ?_,by simpa using e2,h2⟩
 show rvs (CV (d+1)) [] (.ret (.blt .tuple [(.comp1 [0,1] 1 [0] (.rng1 (.ix (.v 1) (.c (.int 1)))) [] (.call 2 [(.v 1),(.ix (.v 2) (.c (.int 0)))]))])::[]) [aa .drw,aa (spV p n)] [] s=_;refine Zl (ZI ?_);rw[pv,Za e1 Ze];rfl
noncomputable def ZbB:List Sm:=[.asg [5] (.comp1 [4] 1 [0] (.of (.v 2)) [(.cmp .ne (.ix (.v 0) (.v 1)) (.c (.int 0)))] (.v 0)),
  .ite (.cmp .ne (.v 5) (.lst [])) [.asg [6] (.ix (.comp1 [5,4,0] 1 [0] (.rng1 (.ix (.v 0) (.c (.int 0)))) [(.cmp .eq (.bin .mod (.bin .mul (.v 0) (.ix (.ix (.v 1) (.c (.int 0))) (.v 2))) (.ix (.v 3) (.c (.int 0)))) (.c (.int 1)))] (.v 0)) (.c (.int 0))),
  .asg [7] (.blt .tuple [(.comp1 [6,0] 1 [0] (.of (.ix (.v 5) (.c (.int 0)))) [] (.bin .mod (.bin .mul (.v 1) (.v 0)) (.ix (.v 2) (.c (.int 0)))))]),
  .asg [2] (.comp1 [0,7,4] 1 [0] (.of (.v 2)) [] (.call 4 [(.v 1),(.v 0),(.v 2),(.neg (.ix (.v 0) (.v 3)))])),
  .asg [3] (.bin .add (.comp1 [0,7,4] 1 [0] (.of (.v 3)) [] (.call 4 [(.v 1),(.v 0),(.v 2),(.neg (.ix (.v 0) (.v 3)))])) (.lst [(.v 7)]))] []]
theorem qM(d:Nat){rest found:List Row}{j:Nat}{v:V}{a5 a6 a7:Option V}(s:DS)(hn:n<=6)(hj:j<n){R:List Row}(hR:Red p n j rest found)(hB:Bk p n R rest found)(hl:rest.length<=1000)(hl2:found.length<=1000):∃rest' found' b5 b6 b7,rvs (CV (d+1)) [] ZbB [aa (spV p n),aa v,aa (.lst (rest.map Zc)),aa (.lst (found.map Zc)),aa (Zx j),a5,a6,a7] [] s=.ok (.nx [aa (spV p n),aa v,aa (.lst (rest'.map Zc)),aa (.lst (found'.map Zc)),aa (Zx j),b5,b6,b7] []) s/\Red p n (j+1) rest' found'/\rest'.length=rest.length/\found'.length<=found.length+1/\Bk p n R rest' found':=by
 have hp:=Qm (p:=p);have hatj:=λr hr=>VF (by rw[(hR.row r hr).1];exact hj)
 have hc1:=Y6 (C:=CV (d+1)) (cap:=[4]) (nl:=1) (t:=[0]) (it:=.of (.v 2)) (tst:=.cmp .ne (.ix (.v 0) (.v 1)) (.c (.int 0))) (elt:=.v 0) (ρ:=[aa (spV p n),aa v,aa (.lst (rest.map Zc)),aa (.lst (found.map Zc)),aa (Zx j),a5,a6,a7]) (s:=s) (l:=rest) (e:=Zc) (g:=Zc) (q:=λr=>ag (gt r j≠0))
  (by simp[pvE]) (by unfold lim;lia) (λr hr=>⟨[aa (Zc r),aa (Zx j)],.bl (ag (gt r j≠0)),rfl,by
   have:=hatj r hr;simp[pvE,Zc,Zx,this,Zt],rfl,λ_=>Zf rfl⟩)
 unfold ZbB;rw[Zj (ZL hc1 rfl)];show ∃rest' found' b5 b6 b7,rvs (CV (d+1)) [] _ [aa (spV p n),aa v,aa (.lst (rest.map Zc)),aa (.lst (found.map Zc)),aa (Zx j),aa (.lst ((rest.filter λr=>ag (gt r j≠0)).map Zc)),_,_] [] s=_/\_
 cases q:rest.filter λr=>ag (gt r j≠0)with
 |nil=>
  refine⟨rest,found,aa (.lst ([].map Zc)),a6,a7,?_,qA hR λr hr=>?_,rfl,by lia,hB⟩
  ·have e1:YN (CV (d+1)) (.cmp .ne (.v 5) (.lst [])) [aa (spV p n),aa v,aa (.lst (rest.map Zc)),aa (.lst (found.map Zc)),aa (Zx j),aa (.lst ([].map Zc)),a6,a7] s=.ok al s:=by
    refine Xb (v:=.bl al) ?_ rfl;rw[pv,Zf (v:=.lst []) rfl];simp[pvE,Zt,Ys]
   rw[Zj ((XF e1).trans (by rw[T8 (by simp),rvs])),rvs]
  ·have:=List.filter_eq_nil_iff.mp q r hr
   simpa using this
 |cons f fs=>
  have hf:f∈rest/\gt f j≠0:=by
   have:f∈rest.filter λr=>ag (gt r j≠0):=by rw[q];exact ao ..
   rw[c7]at this;exact⟨this.1,by simpa using this.2⟩
  have hfr:=hR.row f hf.1;have hg:=YV ppos hfr j;obtain⟨io1,io2⟩:=uO (p:=p) (a:=gt f j) (by lia) hg.2
  have hl1:Zh p n (lead p f j):=X2 hfr;have hi:0<=YY p (gt f j)/\YY p (gt f j)<1000:=by
   unfold YY
   repeat' split
   all_goals lia
  let ρ0:Env:=[aa (spV p n),aa v,aa (.lst (rest.map Zc)),aa (.lst (found.map Zc)),aa (Zx j),aa (.lst ((f::fs).map Zc)),a6,a7]
  have e1:YN (CV (d+1)) (.cmp .ne (.v 5) (.lst [])) ρ0 s=.ok aj s:=by
   refine Xb (v:=.bl aj) ?_ rfl;rw[pv,Zf (v:=.lst ((f::fs).map Zc)) rfl];simp[pvE,Zt]
  have ef:pv (CV (d+1)) (.ix (.v 5) (.c (.int 0))) ρ0 s=.ok (Zc f) s:=by
   exact V3 (Zf rfl)
  have hatf:=VF (r:=f) (k:=j) (by rw[hfr.1];exact hj)
  have hc2:=Y6 (C:=CV (d+1)) (cap:=[5,4,0]) (nl:=1) (t:=[0]) (it:=.rng1 (.ix (.v 0) (.c (.int 0)))) (tst:=.cmp .eq (.bin .mod (.bin .mul (.v 0) (.ix (.ix (.v 1) (.c (.int 0))) (.v 2))) (.ix (.v 3) (.c (.int 0)))) (.c (.int 1))) (elt:=.v 0) (ρ:=ρ0) (s:=s) (l:=aY p) (e:=Zx) (g:=Zx) (q:=λk=>ag ((k:Int)*gt f j%p=1))
   (Xx (ix0 rfl) (by lia)) (by rw[bS];unfold lim;lia) (λk hk=>⟨[aa (Zx k),aa (.lst ((f::fs).map Zc)),aa (Zx j),aa (spV p n)],.bl (ag ((k:Int)*gt f j%p=1)),rfl,by
    have hk':=bt.mp hk;have f1:=ZY (a:=(k:Int)) (by lia) (by lia)
    have f2:=ZY (a:=gt f j) (by lia) (by lia)
    have g1:pv (CV (d+1)) (.ix (.ix (.v 1) (.c (.int 0))) (.v 2)) [aa (Zx k),aa (.lst ((f::fs).map Zc)),aa (Zx j),aa (spV p n)] s=.ok (.int (gt f j)) s:=by
     have g0:pv (CV (d+1)) (.ix (.v 1) (.c (.int 0))) [aa (Zx k),aa (.lst ((f::fs).map Zc)),aa (Zx j),aa (spV p n)] s=.ok (Zc f) s:=by
      exact V3 (Zf rfl)
     rw[pv,g0,Zb,Zf (v:=Zx j) rfl,Zb];show po (at' (f.map V.int) (j:Int)) s=_;rw[hatf];rfl
    have g2:=ix0 (p:=p) (n:=n) (C:=CV (d+1)) (i:=3) (ρ:=[aa (Zx k),aa (.lst ((f::fs).map Zc)),aa (Zx j),aa (spV p n)]) (s:=s) rfl;have g3:pv (CV (d+1)) (.bin .mul (.v 0) (.ix (.ix (.v 1) (.c (.int 0))) (.v 2))) [aa (Zx k),aa (.lst ((f::fs).map Zc)),aa (Zx j),aa (spV p n)] s=.ok (.int ((k:Int)*gt f j)) s:=by
     rw[pv,Zf (v:=Zx k) rfl,Zb,g1,Zb];simp[Zx,YG,Jn,f1,f2]
    have hp0:0<p:=by lia
    rw[pv,pv,g3,Zb,g2,Zb];simp[pvE,Zt,hp0],rfl,λ_=>Zf rfl⟩)
  rw[io1]at hc2;have e6:pv (CV (d+1)) (.ix (.comp1 [5,4,0] 1 [0] (.rng1 (.ix (.v 0) (.c (.int 0)))) [(.cmp .eq (.bin .mod (.bin .mul (.v 0) (.ix (.ix (.v 1) (.c (.int 0))) (.v 2))) (.ix (.v 3) (.c (.int 0)))) (.c (.int 1)))] (.v 0)) (.c (.int 0))) ρ0 s=.ok (.int (YY p (gt f j))) s:=by
   have:=V3 hc2;rw[Zx,io2]at this;exact this
  let ρ1:Env:=[aa (spV p n),aa v,aa (.lst (rest.map Zc)),aa (.lst (found.map Zc)),aa (Zx j),aa (.lst ((f::fs).map Zc)),aa (.int (YY p (gt f j))),a7]
  have ef1:pv (CV (d+1)) (.ix (.v 5) (.c (.int 0))) ρ1 s=.ok (Zc f) s:=by
   exact V3 (Zf rfl)
  have hc3:=ZN (C:=CV (d+1)) (cap:=[6,0]) (nl:=1) (t:=[0]) (it:=.of (.ix (.v 5) (.c (.int 0)))) (elt:=.bin .mod (.bin .mul (.v 1) (.v 0)) (.ix (.v 2) (.c (.int 0)))) (ρ:=ρ1) (s:=s) (l:=f) (e:=V.int) (g:=λa=>V.int (YY p (gt f j)*a%p))
   (by rw[pvw,ef1];rfl) (by rw[hfr.1];unfold lim;lia) (λa ha=>⟨[aa (.int a),aa (.int (YY p (gt f j))),aa (spV p n)],rfl,by
    have h2:=hfr.2 a ha;have f1:=ZY (a:=YY p (gt f j)) (by lia) (by lia)
    have f2:=ZY (a:=a) (by lia) (by lia)
    have g2:=ix0 (p:=p) (n:=n) (C:=CV (d+1)) (i:=2) (ρ:=[aa (.int a),aa (.int (YY p (gt f j))),aa (spV p n)]) (s:=s) rfl;have hp0:0<p:=by lia
    have g:pv (CV (d+1)) (.bin .mul (.v 1) (.v 0)) [aa (.int a),aa (.int (YY p (gt f j))),aa (spV p n)] s=.ok (.int (YY p (gt f j)*a)) s:=by simp[pvE,f1,f2]
    rw[pv,g,Zb,g2,Zb];simp[pvF,hp0]⟩)
  have el:f.map (λa=>V.int (YY p (gt f j)*a%p))=(lead p f j).map V.int:=by unfold lead XN;rw[cI];rfl
  rw[el]at hc3;have e7:pv (CV (d+1)) (.blt .tuple [(.comp1 [6,0] 1 [0] (.of (.ix (.v 5) (.c (.int 0)))) [] (.bin .mod (.bin .mul (.v 1) (.v 0)) (.ix (.v 2) (.c (.int 0)))))]) ρ1 s=.ok (Zc (lead p f j)) s:=by
   rw[pv,Za hc3 Ze];rfl
  let ρ2:Env:=[aa (spV p n),aa v,aa (.lst (rest.map Zc)),aa (.lst (found.map Zc)),aa (Zx j),aa (.lst ((f::fs).map Zc)),aa (.int (YY p (gt f j))),aa (Zc (lead p f j))]
  have elt:∀r:Row,Zh p n r->pv (CV (d+1)) (.call 4 [(.v 1),(.v 0),(.v 2),(.neg (.ix (.v 0) (.v 3)))]) [aa (Zc r),aa (spV p n),aa (Zc (lead p f j)),aa (Zx j)] s=.ok (Zc (clr p r (lead p f j) j)) s:=λr hr=>by
   have hgr:=YV ppos hr j;have h3:=VF (r:=r) (k:=j) (by rw[hr.1];exact hj)
   have g1:pv (CV (d+1)) (.neg (.ix (.v 0) (.v 3))) [aa (Zc r),aa (spV p n),aa (Zc (lead p f j)),aa (Zx j)] s=.ok (.int (-(gt r j))) s:=by
    simp[pvE,Zc,Zx,h3]
   exact Zm (Za (Zf rfl) (Za (Zf rfl) (Za (Zf rfl) (Za g1 Ze)))) (z7 d s hn hr hl1 ⟨by lia,by lia⟩)
  have hc4:=ZN (C:=CV (d+1)) (cap:=[0,7,4]) (nl:=1) (t:=[0]) (it:=.of (.v 2)) (ρ:=ρ2) (s:=s) (l:=rest) (e:=Zc)
   (by rw[pvw,Zf (v:=.lst (rest.map Zc)) rfl];rfl) (by unfold lim;lia) (λr hr=>⟨_,rfl,elt r (hR.row r hr)⟩)
  let ρ3:Env:=[aa (spV p n),aa v,aa (.lst (rest.map λr=>Zc (clr p r (lead p f j) j))),aa (.lst (found.map Zc)),aa (Zx j),aa (.lst ((f::fs).map Zc)),aa (.int (YY p (gt f j))),aa (Zc (lead p f j))]
  have hc5:=ZN (C:=CV (d+1)) (cap:=[0,7,4]) (nl:=1) (t:=[0]) (it:=.of (.v 3)) (ρ:=ρ3) (s:=s) (l:=found) (e:=Zc) (g:=λr=>Zc (clr p r (lead p f j) j))
   (by rw[pvw,Zf (v:=.lst (found.map Zc)) rfl];rfl) (by unfold lim;lia) (λr hr=>⟨_,rfl,elt r (hR.part.row r hr)⟩)
  have e9:pv (CV (d+1)) (.bin .add (.comp1 [0,7,4] 1 [0] (.of (.v 3)) [] (.call 4 [(.v 1),(.v 0),(.v 2),(.neg (.ix (.v 0) (.v 3)))])) (.lst [(.v 7)])) ρ3 s=.ok (.lst ((found.map λr=>Zc (clr p r (lead p f j) j))++[Zc (lead p f j)])) s:=by
   have hll:pv (CV (d+1)) (.lst [(.v 7)]) ρ3 s=.ok (.lst [Zc (lead p f j)]) s:=by
    rw[pv,Za (Zf (v:=Zc (lead p f j)) rfl) Ze,Zb,T9 (by simp[lim])]
   rw[pv,hc5,Zb,hll,Zb];show(if(found.map λr=>Zc (clr p r (lead p f j) j)).length+[Zc (lead p f j)].length<=lim then _ else _)=_
   rw[T9 (by rw[aB,fK];unfold lim;lia)]
  refine⟨rest.map λr=>clr p r (lead p f j) j,found.map (λr=>clr p r (lead p f j) j)++[lead p f j],aa (.lst ((f::fs).map Zc)),aa (.int (YY p (gt f j))),aa (Zc (lead p f j)),?_,uP hR hj hf.1 hf.2,by rw[aB],by simp,hB.take hR hf.1⟩
  rw[Zj (ρ':=[aa (spV p n),aa v,aa (.lst (rest.map λr=>Zc (clr p r (lead p f j) j))),aa (.lst ((found.map λr=>Zc (clr p r (lead p f j) j))++[Zc (lead p f j)])),aa (Zx j),aa (.lst ((f::fs).map Zc)),aa (.int (YY p (gt f j))),aa (Zc (lead p f j))]) (os':=[]) (s':=s) ((XF e1).trans (by
   rw[T9 rfl,Zj (ZL e6 rfl)];show rvs _ _ _ ρ1 [] s=_;rw[Zj (ZL e7 rfl)];show rvs _ _ _ ρ2 [] s=_;rw[Zj (ZL hc4 rfl)];show rvs _ _ _ ρ3 [] s=_;rw[Zj (ZL e9 rfl),rvs];rfl)),rvs]
  rw[cI,bP,cI];rfl
theorem yu{n j:Nat}{x:Nat}{l:List Nat}(h:x::l=(aY n).drop j):x=j/\j<n/\l=(aY n).drop (j+1):=by
 have hj:j<n:=by
  by_cases c:j<n
  ·exact c
  ·rw[List.drop_eq_nil_of_le (by rw[bS];lia)]at h;cases h
 rw[cg (by rw[bS];exact hj)]at h
 injection h with h1 h2
 exact⟨by rw[h1,List.getElem_range],hj,h2⟩
theorem XS(d:Nat){R:List Row}{v:V}(s:DS)(hn:n<=6)(hR:∀r∈R,Zh p n r)(hl:R.length<=1000)(hv:Yy v=aa (R.map Zc)):∃P,CV (d+2) 5 [spV p n,v] s=.ok (Zd P) s/\Spans p n R P:=by
 let I:List Nat->Env->Prop:=λl ρ=>∃rest found j a4 a5 a6 a7,ρ=[aa (spV p n),aa v,aa (.lst (rest.map Zc)),aa (.lst (found.map Zc)),a4,a5,a6,a7]/\l=(aY n).drop j/\Red p n j rest found/\rest.length<=1000/\found.length<=j/\Bk p n R rest found
 obtain⟨ρ',hI,e⟩:=V2 (C:=CV (d+1)) (ms:=[]) (t:=[4]) (it:=.rng1 (.ix (.v 0) (.c (.int 1)))) (b:=ZbB) (e:=Zx) (os:=[]) (s:=s) (ρ:=[aa (spV p n),aa v,aa (.lst (R.map Zc)),aa (.lst []),af,af,af,af]) I
  (Xx (ix1 rfl) (by lia)) ⟨R,[],0,af,af,af,af,rfl,rfl,⟨hR,λr _ i hi=>by lia,pZ.nil,λr hr=>by cases hr⟩,hl,aI _,λW hW=>⟨λh=>h.1,λh=>⟨h,λr hr=>by cases hr⟩⟩⟩ rfl (λx l ρ hx=>by
   obtain⟨rest,found,j,a4,a5,a6,a7,rfl,hl',hred,h1,h2,h3⟩:=hx;obtain⟨rfl,hj,hl2⟩:=yu hl';obtain⟨rest',found',b5,b6,b7,e1,e2,e3,e4,e5⟩:=qM (p:=p) (n:=n) d (rest:=rest) (j:=x) (v:=v) (a5:=a5) (a6:=a6) (a7:=a7) s hn hj hred h3 h1 (by lia)
   exact⟨rfl,_,_,rfl,e1,rest',found',x+1,_,_,_,_,rfl,hl2,e2,by lia,by lia,e5⟩)
 obtain⟨rest,found,j,a4,a5,a6,a7,rfl,hz,hred,_,_,hB⟩:=hI;have hj:n<=j:=by
  have:=congrArg iJ hz;rw[bB,bS,iS]at this;lia
 refine⟨found,Zq rfl (by decide) rfl ?_,hB.spans hred hj⟩
 show rvs (CV (d+1)) [] (.asg [2] (.blt .list [(.v 1)]) :: .asg [3] (.lst []) :: .forr [4] (.rng1 (.ix (.v 0) (.c (.int 1)))) ZbB :: .ret (.blt .tuple [(.v 3)])::[]) [aa (spV p n),aa v,af,af,af,af,af,af] [] s=_;have hlst:pv (CV (d+1)) (.blt .list [(.v 1)]) [aa (spV p n),aa v,af,af,af,af,af,af] s=.ok (.lst (R.map Zc)) s:=by
  rw[pv,Za (Zf (v:=v) rfl) Ze,Zb];show po ((Yy v).map V.lst) s=_;rw[hv];rfl
 rw[Zj (ZL hlst rfl)];rw[Zj (ρ':=[aa (spV p n),aa v,aa (.lst (R.map Zc)),aa (.lst []),af,af,af,af]) (os':=[]) (s':=s) (by simp[pvE])]
 rw[Zj e];exact Zl (ZI (by simp[pvE,Zd]))
theorem G5(d:Nat)(s:DS)(hn:n<=6):∃P s',CV (d+3) 7 [.drw,spV p n] s=.ok (Zd P) s'/\pZ p n P:=by
 obtain⟨v,s1,f1,f2,f3⟩:=vo (F:=fns) (tk:=2) (d:=d+1) (m:=(n:Int)+1) s (by lia) (by lia)
 obtain⟨k,rfl⟩:∃k:Nat,v=k:=⟨v.toNat,by lia⟩
 obtain⟨ys,s2,e1,e2,e3⟩:=QO (C:=CV (d+2)) (cap:=[0,1]) (nl:=1) (t:=[0]) (it:=.rng1 (.v 2)) (elt:=.call 6 [(.v 1),(.v 2)]) (ρ:=[aa .drw,aa (spV p n),aa (.int k)]) (s:=s1) (k:=k) (Q:=λy=>∃r:Row,y=Zc r/\Zh p n r)
  (by rw[JT];exact Xx (Zf rfl) (by lia)) (by unfold lim;lia) (λx s=>by
   obtain⟨r,s',g1,g2⟩:=Wp (p:=p) (n:=n) d s hn;exact⟨[aa x,aa .drw,aa (spV p n)],Zc r,s',rfl,Zm (Za (Zf rfl) (Za (Zf rfl) Ze)) g1,r,rfl,g2⟩)
 have:∃R:List Row,ys=R.map Zc/\∀r∈R,Zh p n r:=by
  clear e1 e2
  induction ys with
  |nil=>exact⟨[],rfl,λ_ h=>by cases h⟩
  |cons y ys ih=>
   obtain⟨r,h1,h2⟩:=ih λz hz=>e3 z (aq _ hz)
   obtain⟨a,rfl,h3⟩:=e3 y (ao ..);refine⟨a::r,by rw[h1];rfl,λx hx=>?_⟩
   rcases az.mp hx with rfl|hx
   ·exact h3
   ·exact h2 x hx
 obtain⟨R,rfl,hR⟩:=this;rw[aB]at e2;obtain⟨P,e4,hP⟩:=XS (p:=p) (n:=n) d (v:=.lst (R.map Zc)) s2 hn hR (by lia) rfl
 refine⟨P,s2,Zq rfl (by decide) rfl ?_,hP.part⟩
 show rvs (CV (d+2)) [] (.asg [2] (.call 2 [(.v 0),(.bin .add (.ix (.v 1) (.c (.int 1))) (.c (.int 1)))]) :: .ret (.call 5 [(.v 1),(.comp1 [0,1] 1 [0] (.rng1 (.v 2)) [] (.call 6 [(.v 1),(.v 2)]))])::[]) [aa .drw,aa (spV p n),af] [] s=_;have g1:pv (CV (d+2)) (.bin .add (.ix (.v 1) (.c (.int 1))) (.c (.int 1))) [aa .drw,aa (spV p n),af] s=.ok (.int ((n:Int)+1)) s:=by
  rw[pv,ix1 (p:=p) (n:=n) rfl];simp[pvE]
 rw[Zj (ZL (Zm (Za (Zf rfl) (Za g1 Ze)) f1) rfl)];exact Zl (ZI (Zm (Za (Zf rfl) (Za e1 Ze)) e4))
end
section
variable{C:ZB}{ρ:Env}{s:DS}{a b:E}
def qo{c:Bool}(h1:pv C a ρ s=.ok (.bl al) s)(h2:pv C b ρ s=.ok (.bl c) s):pv C (.or a b) ρ s=.ok (.bl c) s:=by rw[pv,h1];exact h2
def Xy{c:Bool}(h1:pv C a ρ s=.ok (.bl c) s):pv C (.not a) ρ s=.ok (.bl !c) s:=by rw[pv,h1];rfl
def J8{P Q:List Row}(h1:pv C a ρ s=.ok (Zd P) s)(h2:pv C b ρ s=.ok (Zd Q) s):pv C (.cmp .eq a b) ρ s=.ok (.bl (ag (P=Q))) s:=by
 rw[pv,h1,Zb,h2,Zb];show po ((eqV Zt (Zd P) (Zd Q)).map V.bl) s=_;rw[Zt,qe];rfl
def guard{ms:List Nat}{t:E}{x l:List Sm}(h:pv C t ρ s=.ok (.bl al) s):rvs C ms (.ite t x []::l) ρ [] s=rvs C ms l ρ [] s:=by
 rw[Zj ((XF (Xb h rfl)).trans (by rw[T8 (by simp),rvs]))]
def G0{P:List Row}(h1:pv C a ρ s=.ok (Zd P) s):pv C (.blt .len [a]) ρ s=.ok (.int P.length) s:=by
 rw[pv,Za h1 Ze,Zb];show po (aa (V.int (P.map Zc).length)) s=_;rw[aB];rfl
def Zak{x y:Int}(h1:pv C a ρ s=.ok (.int x) s)(h2:pv C b ρ s=.ok (.int y) s):pv C (.bin .add a b) ρ s=.ok (.int (x+y)) s:=by
 rw[pv,h1,Zb,h2,Zb];rfl
def vP{x y:List V}(h1:pv C a ρ s=.ok (.lst x) s)(h2:pv C b ρ s=.ok (.lst y) s)(h:x.length+y.length<=lim):pv C (.bin .add a b) ρ s=.ok (.lst (x++y)) s:=by
 rw[pv,h1,Zb,h2,Zb];show(if x.length+y.length<=lim then _ else _)=_
 rw[T9 h]
end
noncomputable def menu:List (Nat×Nat×Nat):=[(2,2,1),(4,2,2),(8,2,3),(16,2,4),(32,2,5),(64,2,6),(3,3,1),(9,3,2),(27,3,3),(81,3,4),(5,5,1),(25,5,2),(125,5,3)]
def Zbq:∀q∈menu,(q.2.1=2\/q.2.1=3\/q.2.1=5)/\1<=q.2.2/\q.2.2<=6/\q.2∈ZdH++Zd2:=by decide
def uy(d:Nat){m:Int}(s:DS)(hm:2<=m):∃p n s',CV (d+2) 3 [.drw,.int m] s=.ok (spV p n) s'/\(p=2\/p=3\/p=5)/\1<=n/\n<=6/\(p,n)∈ZdH++Zd2:=by
 let L:=menu.filter λq=>ag ((q.1:Int)<=m)
 have hL:0<L.length:=List.length_pos_of_mem (a:=(2,2,1)) (c7.mpr ⟨ao ..,T5 hm⟩);have hL2:L.length<=13:=fN ..;have hc:=Y6 (C:=CV (d+1)) (cap:=[1]) (nl:=2) (t:=[0,1]) (it:=.of (.v 2)) (tst:=.cmp .le (.v 0) (.v 2)) (elt:=.v 1) (ρ:=[aa .drw,aa (.int m),aa (.lst (menu.map λq=>.tup [.int q.1,spV q.2.1 q.2.2]))]) (s:=s) (l:=menu) (g:=λq=>spV q.2.1 q.2.2) (q:=λq=>ag ((q.1:Int)<=m))
  (by rw[pvw,Zf rfl];rfl) (by decide) (λq _=>⟨[aa (.int q.1),aa (spV q.2.1 q.2.2),aa (.int m)],.bl (ag ((q.1:Int)<=m)),rfl,by
   rw[pv,Zf (v:=.int q.1) rfl,Zb,Zf (v:=.int m) rfl];rfl,rfl,λ_=>Zf rfl⟩)
 obtain⟨v,s',f1,f2,f3⟩:=vo (F:=fns) (tk:=2) (d:=d) (m:=L.length) s (by omega) (by omega)
 obtain⟨k,rfl⟩:∃k:Nat,v=k:=⟨v.toNat,by omega⟩
 have hk:k<L.length:=by omega
 have hq:=Zbq _ (c7.mp (aX hk)).1;refine⟨L[k].2.1,L[k].2.2,s',Zq (fn:=W0) rfl (by decide) rfl ?_,hq⟩
 show rvs (CV (d+1)) [] (.asg [2] (.lst [(.tup [(.c (.int 2)),(.tup [(.c (.int 2)),(.c (.int 1))])]),(.tup [(.c (.int 4)),(.tup [(.c (.int 2)),(.c (.int 2))])]),(.tup [(.c (.int 8)),(.tup [(.c (.int 2)),(.c (.int 3))])]),(.tup [(.c (.int 16)),(.tup [(.c (.int 2)),(.c (.int 4))])]),(.tup [(.c (.int 32)),(.tup [(.c (.int 2)),(.c (.int 5))])]),(.tup [(.c (.int 64)),(.tup [(.c (.int 2)),(.c (.int 6))])]),(.tup [(.c (.int 3)),(.tup [(.c (.int 3)),(.c (.int 1))])]),(.tup [(.c (.int 9)),(.tup [(.c (.int 3)),(.c (.int 2))])])]) ::
  .asg [2] (.bin .add (.v 2) (.lst [(.tup [(.c (.int 27)),(.tup [(.c (.int 3)),(.c (.int 3))])]),(.tup [(.c (.int 81)),(.tup [(.c (.int 3)),(.c (.int 4))])]),(.tup [(.c (.int 5)),(.tup [(.c (.int 5)),(.c (.int 1))])]),(.tup [(.c (.int 25)),(.tup [(.c (.int 5)),(.c (.int 2))])]),(.tup [(.c (.int 125)),(.tup [(.c (.int 5)),(.c (.int 3))])])])) ::
  .asg [2] (.comp1 [1] 2 [0,1] (.of (.v 2)) [(.cmp .le (.v 0) (.v 2))] (.v 1)) ::
  .ret (.ix (.v 2) (.call 2 [(.v 0),(.blt .len [(.v 2)])]))::[]) [aa .drw,aa (.int m),af] [] s=_
 rw[Zj (ρ':=[aa .drw,aa (.int m),aa (.lst ((menu.take 8).map λq=>.tup [.int q.1,spV q.2.1 q.2.2]))]) (os':=[]) (s':=s) (by simp[pvE,menu,spV])]
 rw[Zj (ρ':=[aa .drw,aa (.int m),aa (.lst (menu.map λq=>.tup [.int q.1,spV q.2.1 q.2.2]))]) (os':=[]) (s':=s) (by simp[pvE,menu,spV])]
 rw[Zj (ZL hc rfl)];show rvs _ _ _ [aa .drw,aa (.int m),aa (.lst (L.map λq=>spV q.2.1 q.2.2))] _ _=_
 refine Zl (ZI ?_);have e1:pv (CV (d+1)) (.blt .len [(.v 2)]) [aa .drw,aa (.int m),aa (.lst (L.map λq=>spV q.2.1 q.2.2))] s=.ok (.int L.length) s:=by
  rw[pv,Za (Zf rfl) Ze,Zb]
  show po (aa (V.int (L.map λq=>spV q.2.1 q.2.2).length)) s=_
  rw[aB];rfl
 rw[pv,Zf rfl,Zb,Zm (Za (Zf rfl) (Za e1 Ze)) f1,Zb]
 show po (at' (L.map λq=>spV q.2.1 q.2.2) (k:Int)) s'=_
 rw[U0 (x:=spV L[k].2.1 L[k].2.2) (by rw[aR,ai hk];rfl)];rfl
section
variable{C:ZB}{ρ:Env}{s s1 s2:DS}{a b:E}{x y:V}{xs ys:List V}
def Yd{i:Int}:pv C (.c (.int i)) ρ s=.ok (.int i) s:=by rw[pv];rfl
theorem pick{i:E}{v:Int}(h1:pv C a ρ s=.ok (.lst xs) s1)(h2:pv C i ρ s1=.ok (.int v) s2)(h0:0<=v)(hv:v<xs.length):∃x,x∈xs/\pv C (.ix a i) ρ s=.ok x s2:=by
 obtain⟨k,rfl⟩:∃k:Nat,v=k:=⟨v.toNat,by lia⟩
 have hk:k<xs.length:=by lia
 refine⟨xs[k],aX hk,?_⟩;rw[pv,h1,Zb,h2,Zb];show po (at' xs (k:Int)) s2=_;rw[U0 (ai hk)];rfl
theorem Z6(d:Nat)(s:DS){m:Int}{ρ:Env}{i:Nat}{e:E}(hd:ρ[i]?=aa (aa .drw))(he:pv (CV (d+1)) e ρ s=.ok (.int m) s)(h0:0<m)(h1:m<1000):∃v s',pv (CV (d+1)) (.call 2 [(.v i),e]) ρ s=.ok (.int v) s'/\0<=v/\v<m:=by
 obtain⟨v,s',e1,b⟩:=vo s h0 (by lia)
 exact⟨v,s',Zm (Za (Zf hd) (Za he Ze)) e1,b⟩
theorem Xh(h1:pv C a ρ s=.ok (.tup xs) s)(h2:pv C b ρ s=.ok (.tup ys) s)(h:xs.length+ys.length<=1000):pv C (.bin .add a b) ρ s=.ok (.tup (xs++ys)) s:=by
 rw[pv,h1,Zb,h2,Zb];show(if xs.length+ys.length<=lim then _ else _)=_
 rw[T9 (by unfold lim;lia)]
def xL(h1:pv C a ρ s=.ok (.tup xs) s){k:Int}(h2:pv C b ρ s=.ok (.int k) s):pv C (.sl a af (aa b)) ρ s=.ok (.tup (Yr xs af (aa k))) s:=by
 rw[pv,h1,Zb,pvo,Zb,pvo,h2,Zb];rfl
def WK(h1:pv C a ρ s=.ok (.tup xs) s){k:Int}(h2:pv C b ρ s=.ok (.int k) s):pv C (.sl a (aa b) af) ρ s=.ok (.tup (Yr xs (aa k) af)) s:=by
 rw[pv,h1,Zb,pvo,h2,Zb];show((PR.ok (aa k) s).bind λl s=>(pvo C af ρ s).bind λh s=>po (slV (.tup xs) l h) s)=_
 rw[Zb,pvo,Zb];rfl
theorem YI{lo hi:Option Int}:(Yr xs lo hi).length<=xs.length:=by
 unfold Yr;rw[bz,bB];lia
def GN(h:∀x∈xs,okV x=aj):YE xs=aj:=by
 induction xs with
 |nil=>rfl
 |cons x xs ih=>
  show(okV x&&YE xs)=aj;rw[h x (ao ..),ih λy hy=>h y (aq _ hy)];rfl
def Wl{lo hi:Option Int}(h:YE xs=aj):YE (Yr xs lo hi)=aj:=
 GN λx hx=>Xc h x (cr (c6 hx))
def Qe(h:YE xs=aj)(h2:YE ys=aj):YE (xs++ys)=aj:=
 GN λx hx=>by
  rcases cu.mp hx with z|z
  ·exact Xc h x z
  ·exact Xc h2 x z
def Xw(h:pv C a ρ s=.ok x s):pv C (.tup [a]) ρ s=.ok (.tup [x]) s:=by
 rw[pv,Za h Ze];rfl
def Zch{α:Type}{ms:List Nat}{i:Nat}{it:W}{b:List Sm}{L:List α}{e:α->V}{q:α->Bool}{v:V}{ρ:Option V->Env}(o:Option V)(hw:pvw C it (hide [] (ρ o)) s=.ok (L.map e) s)(hs:∀o x,(ρ o).set i (aa x)=ρ (aa x))(hb:∀x∈L,rvs C ms b (ρ (aa (e x))) [] s=if q x=aj then .ok (.ret v) s else .ok (.nx (ρ (aa (e x))) []) s) :
  (L.any q=aj->rv C ms (.forr [i] it b) (ρ o) [] s=.ok (.ret v) s)/\(L.any q=al->∃o',rv C ms (.forr [i] it b) (ρ o) [] s=.ok (.nx (ρ o') []) s):=by
 rw[rv,hw,Zb];clear hw
 induction L generalizing o with
 |nil=>exact⟨λh=>(by cases h),λ_=>⟨o,rfl⟩⟩
 |cons x L ih=>
  have ih:=ih (aa (e x)) λy hy=>hb y (aq _ hy)
  have h1:=hb x (ao ..);have step:Yz (λx ρ os s=>if(([i]:List Nat).any os.contains)=aj then .no else if(os.isEmpty||x.flat)=aj then(po (Zo [i] x ρ) s).bind λρ s=>rvs C ms b ρ os s else .no) ((x::L).map e) (ρ o) [] s=if q x=aj then .ok (.ret v) s else Yz (λx ρ os s=>if(([i]:List Nat).any os.contains)=aj then .no else if(os.isEmpty||x.flat)=aj then(po (Zo [i] x ρ) s).bind λρ s=>rvs C ms b ρ os s else .no) (L.map e) (ρ (aa (e x))) [] s:=by
   rw[aW,Yz,T8 (by simp),T9 (by rfl)]
   show((PR.ok ((ρ o).set i (aa (e x))) s).bind λρ s=>rvs C ms b ρ [] s).bind _=_
   rw[Zb,hs o (e x),h1];cases q x<;>rfl
  rw[step,fI];cases hq:q x with
  |true=>exact⟨λ_=>rfl,λh=>(by cases h)⟩
  |false=>
   rw[T8 (by simp),k9]
   exact ih
def Th(m:Nat)(x:V):Prop:=okV x=aj/\∀xs,x=.tup xs->xs.length<=m
def Y8{m:Nat}(h:YE xs=aj)(hl:xs.length<=m):Th m (.tup xs):=⟨h,λys e=>by cases e;exact hl⟩
theorem wo{Q:V->Prop}:∀{es:List E},(∀e∈es,∃v,pv C e ρ s=.ok v s/\Q v)->∃vs,pvs C es ρ s=.ok vs s/\vs.length=es.length/\∀v∈vs,Q v
 |[],_=>⟨[],Ze,rfl,λ_ h=>by cases h⟩
 |e::es,h=>by
  obtain⟨v,e1,q1⟩:=h e (ao ..);obtain⟨vs,e2,l2,q2⟩:=wo λe he=>h e (aq _ he)
  refine⟨v::vs,Za e1 e2,by rw[aQ,aQ,l2],λu hu=>?_⟩
  rcases az.mp hu with rfl|hu
  ·exact q1
  ·exact q2 u hu
end
section
variable{p n:Nat}[Base p]
noncomputable def isI(x:V):Bool:=match x with
 |.int _=>aj
 |_=>al
def Zdq{x:V}(h:∀i,x≠.int i):isI x=al:=by
 cases x with|int i=>exact T7 rfl (h i)|_=>rfl
def uI(d:Nat){x:V}(s:DS)(hx:okV x=aj):CV (d+1) 30 [x] s=.ok (.bl (isI x)) s:=by
 refine Zq rfl (by decide) rfl ?_
 rcases jy hx with⟨i,rfl⟩|⟨b,rfl⟩|⟨ha,no⟩
 ·simp[YJ,pvE,Z1,Yn,isI]
 ·simp[YJ,pvE,Z1,Yn,isI]
 ·rw[Zdq no]
  simp[YJ,pvE,ha]
theorem ye(d:Nat){x:V}(s:DS)(hn:n<=6)(hx:okV x=aj):CV (d+2) 31 [spV p n,x] s=.ok (.bl (ZX p n x)) s:=by
 refine Zq (fn:=Yw) rfl (by decide) rfl ?_
 show rvs (CV (d+1)) [] Yw.body [aa (spV p n),aa x] [] s=_
 dsimp only[Yw]
 have e1:=ix1 (p:=p) (n:=n) (C:=CV (d+1)) (i:=0) (ρ:=[aa (spV p n),aa x]) (s:=s) rfl;rcases JY hx with⟨xs,rfl⟩|⟨ha,no⟩
 ·
  have g:pv (CV (d+1)) (.or (.not (.isi (.v 1) [.tuple])) (.cmp .ne (.blt .len [(.v 1)]) (.ix (.v 0) (.c (.int 1))))) [aa (spV p n),aa (.tup xs)] s=.ok (.bl !(ag (xs.length=n))) s:=by
   rw[pv];have:pv (CV (d+1)) (.not (.isi (.v 1) [.tuple])) [aa (spV p n),aa (.tup xs)] s=.ok (.bl al) s:=by simp[pvE,Z1,Yn]
   rw[this,Zb];show pv _ (.cmp .ne _ _) _ _=_;rw[pv];have:pv (CV (d+1)) (.blt .len [(.v 1)]) [aa (spV p n),aa (.tup xs)] s=.ok (.int xs.length) s:=by simp[pvE]
   rw[this,Zb,e1,Zb];show po (aa (V.bl !(ag ((xs.length:Int)=n)))) s=_;rw[show(ag ((xs.length:Int)=n))=ag (xs.length=n) by rw[decide_eq_decide];lia];rfl
  by_cases hl:xs.length=n
  ·rw[T5 hl]at g
   rw[guard g];refine Zl (ZI ?_);have hc:=ZN (C:=CV (d+1)) (cap:=[0]) (nl:=1) (t:=[0]) (it:=.of (.v 1)) (elt:=.and (.call 30 [(.v 0)]) (.chain .le .lt (.c (.int 0)) (.v 0) (.ix (.v 1) (.c (.int 0))))) (ρ:=[aa (spV p n),aa (.tup xs)]) (s:=s) (l:=xs) (e:=id) (g:=λv=>V.bl (isW v 0 ((p:Int)-1)))
    (by simp[pvE]) (by unfold lim;lia) (λv hv=>⟨[aa v,aa (spV p n)],rfl,by
     have e:=Zm (Za (Zf (C:=CV (d+1)) (i:=0) (ρ:=[aa v,aa (spV p n)]) (s:=s) rfl) Ze) (uI d s (Xc hx v hv));have e0:=ix0 (p:=p) (n:=n) (C:=CV (d+1)) (i:=1) (ρ:=[aa v,aa (spV p n)]) (s:=s) rfl;rw[pv,e,Zb];cases v with
     |int i=>
      show pv _ _ _ _=_;rw[pv,Yd,Zb,Zf rfl,Zb];show(po (aa (V.bl (ag (0<=i)))) s).bind _=_;rw[Yc,Zb];by_cases c:0<=i
      ·rw[T5 c]
       show(if aj=aj then _ else _)=_
       rw[T9 rfl,e0,Zb];show po (aa (V.bl (ag (i<(p:Int))))) s=PR.ok (V.bl (ag (0<=i)&&ag (i<=(p:Int)-1))) s;rw[T5 c,rK,show ag (i<(p:Int))=ag (i<=(p:Int)-1) by rw[decide_eq_decide];lia];rfl
      ·rw[T4 c]
       show _=PR.ok (V.bl (ag (0<=i)&&ag (i<=(p:Int)-1))) s;rw[T4 c];rfl
     |_=>rfl⟩)
   have ht:=Yf (g:=λv:V=>isW v 0 ((p:Int)-1)) xs
   rw[pv,Za hc Ze,Zb];show po ((ZZ _).map λbs=>V.bl (bs.all id)) s=_
   rw[ht];show PR.ok (V.bl ((xs.map _).all id)) s=PR.ok (V.bl (ag (xs.length=n)&&_)) s;rw[gZ,T5 hl];rfl
  ·rw[T4 hl,hZ]at g
   refine Zl ?_;rw[XF (Xb g rfl),T9 rfl,Zl (ZI (v:=.bl al) (by rw[pv];rfl))]
   show _=PR.ok (FlV.ret (V.bl (ag (xs.length=n)&&_))) s;rw[T4 hl];rfl
 ·rw[qH no]
  exact Zl (by simp[pvE,ha])
noncomputable def Zbs(v:V):Bool:=match v with
 |.tup xs=>match intsV xs with
  |some r=>(hdI r).isSome
  |none=>al
 |_=>al
theorem VI:∀r:Row,ZZ (r.map V.int)=aa (r.map λa=>ag (a≠0))
 |[]=>rfl
 |a::r=>by rw[aW,ZZ,VI r];rfl
theorem jg:∀r:Row,(r.map λa=>ag (a≠0)).any id=(hdI r).isSome
 |[]=>rfl
 |a::r=>by
  rw[aW,fI,jg r,hdI];by_cases c:a=0
  ·subst c
   rw[T8 (by simp)]
   cases hdI r<;>rfl
  ·rw[T9 c,T5 c];rfl
def ZbH{C:ZB}{ρ:Env}{i:Nat}{r:Row}(s:DS)(h:ρ[i]?=aa (aa (Zc r))):pv C (.blt .any [(.v i)]) ρ s=.ok (.bl (hdI r).isSome) s:=by
 rw[pv,Za (Zf h) Ze,Zb];show po ((ZZ (r.map V.int)).map λbs=>V.bl (bs.any id)) s=_
 rw[VI];show PR.ok (V.bl _) s=_;rw[jg]
def VG(d:Nat){x:V}(s:DS)(hn:n<=6)(hx:okV x=aj)(hl:∀xs,x=.tup xs->xs.length<=1000):CV (d+3) 32 [spV p n,x] s=.ok (.bl (isP p n x)) s:=by
 refine Zq (fn:=Yo) rfl (by decide) rfl ?_
 show rvs (CV (d+2)) [] Yo.body [aa (spV p n),aa x,af] [] s=_
 dsimp only[Yo]
 rcases JY hx with⟨xs,rfl⟩|⟨ha,no⟩
 ·
  have hl:=hl xs rfl;rw[guard (by simp[pvE,Z1,Yn])]
  obtain⟨f1,f2⟩:=Zch (C:=CV (d+2)) (ms:=[]) (s:=s) (i:=2) (it:=.of (.v 1)) (b:=[.ite (.or (.not (.call 31 [(.v 0),(.v 2)])) (.not (.blt .any [(.v 2)]))) [.ret (.c (.bl al))] []]) (L:=xs) (e:=id) (q:=λv=>!(ZX p n v&&Zbs v)) (v:=.bl al) (ρ:=λo=>[aa (spV p n),aa (.tup xs),o]) af
   (by rw[List.map_id];simp[pvE]) (λ_ _=>rfl) (λv hv=>by
    have e:=ye (p:=p) d s hn (Xc hx v hv);have e1:=Zm (Za (Zf (C:=CV (d+2)) (i:=0) (v:=spV p n) (ρ:=[aa (spV p n),aa (.tup xs),aa v]) (s:=s) rfl) (Za (Zf (i:=2) (v:=v) rfl) Ze)) e;show rvs _ _ _ [aa (spV p n),aa (.tup xs),aa v] _ _=if _ then _ else PR.ok (FlV.nx [aa (spV p n),aa (.tup xs),aa v] []) s
    cases hb:ZX p n v with
    |false=>
     rw[hb]at e1;rw[T9 (by simp[hb])]
     refine Zl ?_;rw[XF (Xb (v:=.bl aj) (b:=aj) (by rw[pv,Xy e1];rfl) rfl),T9 rfl]
     exact Zl (ZI (by rw[pv];rfl))
    |true=>
     rw[hb]at e1;obtain⟨r,rfl,hr⟩:=ZaE hb;have e2:=ZbH (C:=CV (d+2)) (ρ:=[aa (spV p n),aa (.tup xs),aa (Zc r)]) (i:=2) s rfl;have e3:Zbs (Zc r)=(hdI r).isSome:=by
      show(match intsV (r.map V.int)with|some r=>(hdI r).isSome|none=>al)=_
      rw[YL]
     have e4:=Xb (v:=.bl !(hdI r).isSome) (qo (Xy e1) (Xy e2)) rfl;rw[e3,rK];cases hh:(hdI r).isSome with
     |false=>
      rw[hh,hZ]at e4;rw[hZ,T9 rfl];refine Zl ?_;rw[XF e4,T9 rfl];exact Zl (ZI (by rw[pv];rfl))
     |true=>
      rw[hh]at e4;rw[T8 (by simp),Zj ((XF e4).trans (by rw[T8 (by simp),rvs])),rvs])
  cases ha:xs.any λv=>!(ZX p n v&&Zbs v)with
  |true=>
   rw[Zl (f1 ha)];have:isP p n (.tup xs)=al:=by
    cases hp:isP p n (.tup xs)with
    |false=>rfl
    |true=>
     exfalso
     obtain⟨P,e,hP⟩:=WJ.mp hp;cases e;obtain⟨v,hv,hq⟩:=gj.mp ha;obtain⟨r,hr,rfl⟩:=aP.mp hv;obtain⟨k,hk,_⟩:=hP.head fld.one0 hr;have e3:Zbs (Zc r)=(hdI r).isSome:=by
      show(match intsV (r.map V.int)with|some r=>(hdI r).isSome|none=>al)=_
      rw[YL]
     rw[ZcG (hP.row r hr),e3,hk]at hq;cases hq
   rw[this]
  |false=>
   obtain⟨o,f3⟩:=f2 ha;rw[Zj f3];have hall:∀v∈xs,ZX p n v=aj:=λv hv=>by
    have:=nO.mp ha v hv;simp at this;exact this.1
   obtain⟨R,rfl,hR⟩:=X3 (p:=p) (bf.mpr hall);obtain⟨P,e4,hS⟩:=XS (p:=p) (n:=n) d (v:=.tup (R.map Zc)) s hn hR (by simpa using hl) rfl
   refine Zl (ZI ?_);have e5:=J8 (C:=CV (d+2)) (ρ:=[aa (spV p n),aa (Zd R),o]) (Zm (Za (Zf (i:=0) rfl) (Za (Zf (i:=1) rfl) Ze)) e4) (Zf (i:=1) (v:=Zd R) rfl);rw[show ag (P=R)=isP p n (.tup (R.map Zc))from ?_]at e5
   ·exact e5
   ·rw[cw,T0,WJ]
    constructor
    ·rintro rfl
     exact⟨P,rfl,hS.part⟩
    ·rintro ⟨Q,e,hQ⟩
     have e:Zd R=Zd Q:=e;have e:R=Q:=by
      have:=congrArg (λv=>match v with|V.tup ks=>Z3 ks|_=>af) e
      have:Z3 (R.map Zc)=Z3 (Q.map Zc):=this;rw[Yt,Yt]at this;exact am this
     subst e;exact hS.uniq (Spans.self hQ)
 ·rw[qW no]
  exact Zl (by simp[pvE,ha])
end
noncomputable def Jq:List V:=[.non,.bl aj,.bl al,.int (-1),.int 0,.int 1,.str (bw ""),.str (bw "1"),.tup [],.lst [],.tup [.tup []],.tup [.tup [.int 0]],.tup [.tup [.int 1]],.lst [.tup [.int 1]],.dct af,.tup [.non],.int (10^29)]
noncomputable def uK:List V:=[.tup [.tup [.int 1,.int 0],.tup [.int 0,.int 1]],.tup [.tup [.bl aj]],.tup [.tup [.tup [.int 1]]]]
def Zec:∀v∈Jq++uK,okV v=aj:=by
 intro v h;refine Xc ?_ v h;rfl
def vH:∀v∈Jq++uK,∀xs,v=.tup xs->xs.length<=1000:=by
 intro v h xs e;subst e;simp only[Jq,uK,lB,eM,az,bE,or_false,reduceCtorEq,false_or,V.tup.injEq]at h;rcases h with rfl|rfl|rfl|rfl|rfl|rfl|rfl|rfl<;>decide
def ZbV(d:Nat)(s:DS):∃x s',CV (d+2) 29 [.drw] s=.ok x s'/\Th 1000 x:=by
 obtain⟨v,s1,t1,t2,t3⟩:=Z6 d s (m:=20) (i:=0) (ρ:=[aa .drw,aa (.lst Jq)]) rfl Yd (by decide) (by decide)
 have e1:pv (CV (d+1)) (.bin .add (.v 1) (.lst [(.tup [(.tup [(.c (.int 1)),(.c (.int 0))]),(.tup [(.c (.int 0)),(.c (.int 1))])]),(.tup [(.tup [(.c (.bl aj))])]),(.tup [(.tup [(.tup [(.c (.int 1))])])])])) [aa .drw,aa (.lst Jq)] s=.ok (.lst (Jq++uK)) s:=by
  have g:pv (CV (d+1)) (.lst [(.tup [(.tup [(.c (.int 1)),(.c (.int 0))]),(.tup [(.c (.int 0)),(.c (.int 1))])]),(.tup [(.tup [(.c (.bl aj))])]),(.tup [(.tup [(.tup [(.c (.int 1))])])])]) [aa .drw,aa (.lst Jq)] s=.ok (.lst uK) s:=by simp[pvE,ofD,uK]
  exact vP (Zf rfl) g (by decide)
 obtain⟨x,hx,e2⟩:=pick e1 t1 t2 t3;refine⟨x,s1,Zq rfl (by decide) rfl ?_,Zec x hx,vH x hx⟩
 show rvs (CV (d+1)) [] Wx.body [aa .drw,af] [] s=_
 dsimp only[Wx]
 rw[Zj (ρ':=[aa .drw,aa (.lst Jq)]) (os':=[]) (s':=s) (by simp[pvE,ofD,Jq,pv.eq_6,YG,Jn])]
 exact Zl (ZI e2)
section
variable{C:ZB}{ρ:Env}{s:DS}{a b e:E}{x y:V}{xs ys:List V}
theorem GH{i:Int}{k:Nat}(he:pv C e ρ s=.ok (.int k) s)(hk:k<1000):∃ys,pv C (.bin .mul (.tup [(.c (.int i))]) e) ρ s=.ok (.tup ys) s/\YE ys=aj/\ys.length<=1000:=by
 refine⟨(aH k [V.int i]).flatten,?_,GN λx hx=>?_,?_⟩
 ·rw[pv,Xw Yd,Zb,he,Zb]
  show(if 0<=(k:Int)/\(k:Int)<1000/\[V.int i].length<=1000 then PR.ok (V.tup (aH (k:Int).toNat [V.int i]).flatten) s else .no)=_
  rw[T9 ⟨by lia,by lia,by show 1<=1000;lia⟩,dC]
 ·obtain⟨l,hl,hx⟩:=List.mem_flatten.mp hx
  rw[gI hl]at hx;rw[aU.mp hx];rfl
 ·rw[List.length_flatten,kP]
  simp;lia
theorem V1{Q:V->Prop}{es:List E}(hl:es.length<=1000)(h:∀e∈es,∃v,pv C e ρ s=.ok v s/\Q v):∃vs,pv C (.lst es) ρ s=.ok (.lst vs) s/\vs.length=es.length/\∀v∈vs,Q v:=by
 obtain⟨vs,e,l,q⟩:=wo h;refine⟨vs,?_,l,q⟩;rw[pv,e,Zb,T9 (by unfold lim;lia)]
def W6{k:Int}(h:pv C a ρ s=.ok (.int k) s):pv C (.bin .add a (.c (.int 1))) ρ s=.ok (.int (k+1)) s:=Zak h Yd
def xp{ms:List Nat}{t:E}{z l:List Sm}(h:pv C t ρ s=.ok (.bl al) s):rvs C ms (.ite t z []::l) ρ [] s=rvs C ms l ρ [] s:=guard h
theorem JV{lo hi:E}{j k:Int}(ha:pv C a ρ s=.ok (.tup xs) s)(hlo:pv C lo ρ s=.ok (.int j) s)(hhi:pv C hi ρ s=.ok (.int k) s)(hb:pv C b ρ s=.ok x s)(hl:xs.length<=400)(ho:YE xs=aj)(hx:okV x=aj):∃ys,pv C (.bin .add (.bin .add (.sl a af (aa lo)) (.tup [b])) (.sl a (aa hi) af)) ρ s=.ok (.tup ys) s/\YE ys=aj/\ys.length<=1000:=by
 have l1:=YI (xs:=xs) (lo:=af) (hi:=aa j);have l2:=YI (xs:=xs) (lo:=aa k) (hi:=af);refine⟨(Yr xs af (aa j)++[x])++Yr xs (aa k) af,Xh (Xh (xL ha hlo) (Xw hb) (by simp;lia)) (WK ha hhi) (by simp;lia),Qe (Qe (Wl ho) ?_) (Wl ho),by simp;lia⟩
 show(okV x&&aj)=aj;rw[hx];rfl
theorem we{lo hi:E}{j k:Int}(ha:pv C a ρ s=.ok (.tup xs) s)(hlo:pv C lo ρ s=.ok (.int j) s)(hhi:pv C hi ρ s=.ok (.int k) s)(hl:xs.length<=400)(ho:YE xs=aj):∃ys,pv C (.bin .add (.sl a af (aa lo)) (.sl a (aa hi) af)) ρ s=.ok (.tup ys) s/\YE ys=aj/\ys.length<=1000:=by
 have l1:=YI (xs:=xs) (lo:=af) (hi:=aa j);have l2:=YI (xs:=xs) (lo:=aa k) (hi:=af);exact⟨_,Xh (xL ha hlo) (WK ha hhi) (by lia),Qe (Wl ho) (Wl ho),by simp;lia⟩
end
section
variable{p n:Nat}[Base p]
theorem uw(d:Nat)(s:DS)(hn:n<=6):∃x s',CV (d+3) 8 [.drw,spV p n,Zd []] s=.ok x s'/\Th 1000 x:=by
 let ρ:Env:=[aa .drw,aa (spV p n),aa (Zd []),af,af,af,af,af,af,af,af]
 have e1:∀s,pv (CV (d+2)) (.ix (.v 1) (.c (.int 1))) ρ s=.ok (.int n) s:=λs=>ix1 rfl
 obtain⟨vs,e2,l2,q2⟩:=V1 (C:=CV (d+2)) (ρ:=ρ) (s:=s) (Q:=Th 1000) (es:=[(.lst []),(.c .non),(.tup [(.tup [])]),(.tup [(.bin .mul (.tup [(.c (.int 0))]) (.ix (.v 1) (.c (.int 1))))]),(.tup [(.bin .mul (.tup [(.c (.int 1))]) (.bin .add (.ix (.v 1) (.c (.int 1))) (.c (.int 1))))]),.dnew,(.c (.str (bw "none")))]) (by decide) (λe he=>by
  simp only[az,bE,or_false]at he;have nt:∀x:V,okV x=aj->(∀xs,x≠.tup xs)->Th 1000 x:=λx h1 h2=>⟨h1,λxs e=>T7 e (h2 xs)⟩
  rcases he with rfl|rfl|rfl|rfl|rfl|rfl|rfl
  ·exact⟨.lst [],by simp[pvE],nt _ rfl λxs z=>by cases z⟩
  ·exact⟨.non,by rw[pv];rfl,nt _ rfl λxs z=>by cases z⟩
  ·exact⟨.tup [.tup []],by simp[pvE],Y8 rfl (by decide)⟩
  ·obtain⟨ys,g,ho,_⟩:=GH (i:=0) (e1 s) (by lia)
   exact⟨_,Xw g,Y8 (by show(YE ys&&aj)=aj;rw[ho];rfl) (by show 1<=1000;decide)⟩
  ·obtain⟨ys,g,ho,_⟩:=GH (ρ:=ρ) (s:=s) (i:=1) (k:=n+1) (by have:=W6 (e1 s);rw[this];rfl) (by lia)
   exact⟨_,Xw g,Y8 (by show(YE ys&&aj)=aj;rw[ho];rfl) (by show 1<=1000;decide)⟩
  ·exact⟨.dct af,by rw[pv],nt _ rfl λxs z=>by cases z⟩
  ·exact⟨.str (bw "none"),by rw[pv];rfl,nt _ rfl λxs z=>by cases z⟩)
 obtain⟨v,s1,t1,t2,t3⟩:=Z6 (d+1) s (m:=7) (i:=0) (ρ:=ρ) rfl Yd (by decide) (by decide)
 obtain⟨x,hx,e3⟩:=pick e2 t1 t2 (by rw[l2];exact t3)
 refine⟨x,s1,Zq rfl (by decide) rfl ?_,q2 x hx⟩
 show rvs (CV (d+2)) [] ZR.body ρ [] s=_
 dsimp only[ZR]
 have g:pv (CV (d+2)) (.cmp .eq (.v 2) (.tup [])) ρ s=.ok (.bl aj) s:=by
  have:=J8 (C:=CV (d+2)) (ρ:=ρ) (s:=s) (P:=[]) (Q:=[]) (a:=.v 2) (b:=.tup []) (Zf rfl) (by rw[pv,pvs];rfl)
  rw[T5 rfl]at this;exact this
 refine Zl ?_;rw[XF (Xb g rfl),T9 rfl];exact Zl (ZI e3)
theorem uC(d:Nat){P:List Row}(s:DS)(hn:n<=6)(h1:1<=n)(hP:pZ p n P)(h0:P≠[]):∃x s',CV (d+3) 8 [.drw,spV p n,Zd P] s=.ok x s'/\Th 1000 x:=by
 have hz:=dsum hP;have hpos:0<P.length:=List.length_pos_iff.mpr h0
 let ρ (a3 a4 a5 a6 a7 a8 a9 a10:Option V):Env:=[aa .drw,aa (spV p n),aa (Zd P),a3,a4,a5,a6,a7,a8,a9,a10]
 have ep:∀a3 a4 a5 a6 a7 a8 a9 a10 s,pv (CV (d+2)) (.v 2) (ρ a3 a4 a5 a6 a7 a8 a9 a10) s=.ok (.tup (P.map Zc)) s:=λ_ _ _ _ _ _ _ _ s=>Zf rfl
 have e0:∀a3 a4 a5 a6 a7 a8 a9 a10 s,pv (CV (d+2)) (.ix (.v 1) (.c (.int 0))) (ρ a3 a4 a5 a6 a7 a8 a9 a10) s=.ok (.int p) s:=λ_ _ _ _ _ _ _ _ s=>ix0 rfl
 have e1:∀a3 a4 a5 a6 a7 a8 a9 a10 s,pv (CV (d+2)) (.ix (.v 1) (.c (.int 1))) (ρ a3 a4 a5 a6 a7 a8 a9 a10) s=.ok (.int n) s:=λ_ _ _ _ _ _ _ _ s=>ix1 rfl
 have op:=JC P;have lp:(P.map Zc).length<=400:=by rw[aB];lia
 obtain⟨v1,s1,t1,t2,t3⟩:=Z6 (d+1) s (m:=P.length) (i:=0) (e:=.blt .len [(.v 2)]) (ρ:=ρ af af af af af af af af) rfl (G0 (Zf rfl)) (by lia) (by lia)
 obtain⟨j,rfl⟩:∃j:Nat,v1=j:=⟨v1.toNat,by lia⟩
 have hj:j<P.length:=by lia
 have hr:=hP.row _ (aX hj);have er:pv (CV (d+2)) (.ix (.v 2) (.v 3)) (ρ (aa (.int j)) af af af af af af af) s1=.ok (Zc P[j]) s1:=by
  rw[pv,Zf rfl,Zb,Zf rfl,Zb];show po (at' (P.map Zc) (j:Int)) s1=_;rw[U0 (x:=Zc P[j]) (by rw[aR,ai hj];rfl)];rfl
 obtain⟨v2,s2,u1,u2,u3⟩:=Z6 (d+1) s1 (m:=n) (i:=0) (e:=.ix (.v 1) (.c (.int 1))) (ρ:=ρ (aa (.int j)) (aa (Zc P[j])) af af af af af af) rfl (e1 ..) (by lia) (by lia)
 let ρ5:Env:=ρ (aa (.int j)) (aa (Zc P[j])) (aa (.int v2)) af af af af af
 obtain⟨os,m1,m2,m3⟩:=V1 (C:=CV (d+2)) (ρ:=ρ5) (s:=s2) (Q:=λv=>okV v=aj) (es:=[(.c (.int 0)),(.c (.int 1)),(.ix (.v 1) (.c (.int 0))),(.bin .sub (.ix (.v 1) (.c (.int 0))) (.c (.int 1))),(.neg (.c (.int 1))),(.c (.bl aj)),(.c .non),(.c (.str (bw "1"))),(.tup [(.c (.int 1))]),(.bin .pow (.c (.int 10)) (.c (.int 29)))]) (by decide) (λe he=>by
  simp only[az,bE,or_false]at he;rcases he with rfl|rfl|rfl|rfl|rfl|rfl|rfl|rfl|rfl|rfl
  ·exact⟨_,Yd,rfl⟩
  ·exact⟨_,Yd,rfl⟩
  ·exact⟨_,e0 ..,rfl⟩
  ·exact⟨.int ((p:Int)-1),by rw[pv,e0,Zb,Yd,Zb];rfl,rfl⟩
  ·exact⟨.int (-1),by rw[pv,Yd];rfl,rfl⟩
  ·exact⟨.bl aj,by rw[pv];rfl,rfl⟩
  ·exact⟨.non,by rw[pv];rfl,rfl⟩
  ·exact⟨.str (bw "1"),by rw[pv];rfl,rfl⟩
  ·exact⟨_,Xw Yd,rfl⟩
  ·exact⟨.int (10^29),by simp[pvE,ofD,YG,Jn],rfl⟩)
 obtain⟨v3,s3,w1,w2,w3⟩:=Z6 (d+1) s2 (m:=10) (i:=0) (e:=.c (.int 10)) (ρ:=ρ5) rfl Yd (by decide) (by decide)
 obtain⟨od,hod,e6⟩:=pick m1 w1 w2 (by rw[m2];exact w3)
 have ho:=m3 od hod
 let ρ6 (a7:Option V):Env:=ρ (aa (.int j)) (aa (Zc P[j])) (aa (.int v2)) (aa od) a7 af af af
 have e4:∀a s,pv (CV (d+2)) (.v 4) (ρ6 a) s=.ok (.tup (P[j].map .int)) s:=λa s=>Zf rfl
 have e5:∀a s,pv (CV (d+2)) (.v 5) (ρ6 a) s=.ok (.int v2) s:=λa s=>Zf rfl
 have or':=Gi P[j];have lr:(P[j].map V.int).length<=400:=by rw[aB,hr.1];lia
 have tok:∀ys,YE ys=aj->okV (.tup ys)=aj:=λys h=>h
 obtain⟨ra,a1,a2,a3⟩:=V1 (C:=CV (d+2)) (ρ:=ρ6 af) (s:=s3) (Q:=λv=>okV v=aj) (es:=[(.bin .add (.bin .add (.sl (.v 4) af (aa (.v 5))) (.tup [(.v 6)])) (.sl (.v 4) (aa (.bin .add (.v 5) (.c (.int 1)))) af)),(.bin .add (.bin .add (.sl (.v 4) af (aa (.v 5))) (.tup [(.v 6)])) (.sl (.v 4) (aa (.v 5)) af)),(.bin .add (.sl (.v 4) af (aa (.v 5))) (.sl (.v 4) (aa (.bin .add (.v 5) (.c (.int 1)))) af)),(.blt .list [(.v 4)]),(.c .non)]) (by decide) (λe he=>by
  simp only[az,bE,or_false]at he;rcases he with rfl|rfl|rfl|rfl|rfl
  ·obtain⟨ys,g,h,_⟩:=JV (e4 af s3) (e5 af s3) (W6 (e5 af s3)) (Zf (i:=6) (v:=od) rfl) lr or' ho
   exact⟨_,g,h⟩
  ·obtain⟨ys,g,h,_⟩:=JV (e4 af s3) (e5 af s3) (e5 af s3) (Zf (i:=6) (v:=od) rfl) lr or' ho
   exact⟨_,g,h⟩
  ·obtain⟨ys,g,h,_⟩:=we (e4 af s3) (e5 af s3) (W6 (e5 af s3)) lr or'
   exact⟨_,g,h⟩
  ·exact⟨.lst (P[j].map .int),by rw[pv,Za (e4 af s3) Ze];rfl,or'⟩
  ·exact⟨.non,by rw[pv];rfl,rfl⟩)
 have hp:=Qm (p:=p);have b1:=ZN (C:=CV (d+2)) (cap:=[1]) (nl:=1) (t:=[0]) (it:=.of (.v 4)) (elt:=.bin .mod (.bin .mul (.c (.int 2)) (.v 0)) (.ix (.v 1) (.c (.int 0)))) (ρ:=ρ6 (aa (.lst ra))) (s:=s3) (l:=P[j]) (e:=V.int) (g:=λa=>V.int (2*a%p))
  (by rw[pvw,e4];rfl) (by rw[hr.1];unfold lim;lia) (λa ha=>⟨[aa (.int a),aa (spV p n)],rfl,by
   have h2:=hr.2 a ha;have f1:=ZY (a:=2) (by lia) (by lia)
   have f2:=ZY (a:=a) (by lia) (by lia)
   have g2:=ix0 (p:=p) (n:=n) (C:=CV (d+2)) (i:=1) (ρ:=[aa (.int a),aa (spV p n)]) (s:=s3) rfl;have g:pv (CV (d+2)) (.bin .mul (.c (.int 2)) (.v 0)) [aa (.int a),aa (spV p n)] s3=.ok (.int (2*a)) s3:=by simp[pvE,ofD,YG,Jn,f1,f2]
   have hp0:(0:Int)<p:=by lia
   rw[pv,g,Zb,g2,Zb];show(if(0:Int)<p then _ else _)=_
   rw[T9 hp0]⟩)
 have b2:pv (CV (d+2)) (.blt .tuple [(.comp1 [1] 1 [0] (.of (.v 4)) [] (.bin .mod (.bin .mul (.c (.int 2)) (.v 0)) (.ix (.v 1) (.c (.int 0)))))]) (ρ6 (aa (.lst ra))) s3=.ok (.tup (P[j].map λa=>V.int (2*a%p))) s3:=by
  rw[pv,Za b1 Ze];rfl
 obtain⟨zs,b3,b4,_⟩:=GH (C:=CV (d+2)) (ρ:=ρ6 (aa (.lst ra))) (s:=s3) (i:=0) (k:=n) (e1 ..) (by lia)
 obtain⟨r2,s4,b5,b6⟩:=Wp (p:=p) (n:=n) d s3 hn;have b7:pv (CV (d+2)) (.lst [(.blt .tuple [(.comp1 [1] 1 [0] (.of (.v 4)) [] (.bin .mod (.bin .mul (.c (.int 2)) (.v 0)) (.ix (.v 1) (.c (.int 0)))))]),(.bin .mul (.tup [(.c (.int 0))]) (.ix (.v 1) (.c (.int 1)))),(.call 6 [(.v 0),(.v 1)])]) (ρ6 (aa (.lst ra))) s3=.ok (.lst [.tup (P[j].map λa=>V.int (2*a%p)),.tup zs,Zc r2]) s4:=by
  rw[pv,Za b2 (Za b3 (Za (Zm (Za (Zf rfl) (Za (Zf rfl) Ze)) b5) Ze))];rfl
 let rb:List V:=ra++[.tup (P[j].map λa=>V.int (2*a%p)),.tup zs,Zc r2]
 have hrb:∀v∈rb,okV v=aj:=λv hv=>by
  rcases cu.mp hv with z|z
  ·exact a3 v z
  ·simp only[az,bE,or_false]at z
   rcases z with rfl|rfl|rfl
   ·exact tok _ (GN λx hx=>by obtain⟨a,_,rfl⟩:=aP.mp hx;rfl)
   ·exact tok _ b4
   ·exact ZaR r2
 have lrb:rb.length=8:=by show(ra++_).length=8;rw[bp,a2];rfl
 have b8:pv (CV (d+2)) (.bin .add (.v 7) (.lst [(.blt .tuple [(.comp1 [1] 1 [0] (.of (.v 4)) [] (.bin .mod (.bin .mul (.c (.int 2)) (.v 0)) (.ix (.v 1) (.c (.int 0)))))]),(.bin .mul (.tup [(.c (.int 0))]) (.ix (.v 1) (.c (.int 1)))),(.call 6 [(.v 0),(.v 1)])])) (ρ6 (aa (.lst ra))) s3=.ok (.lst rb) s4:=by
  rw[pv,Zf (v:=.lst ra) rfl,Zb,b7,Zb];show(if ra.length+3<=lim then _ else _)=_
  rw[T9 (by rw[a2];decide)]
 obtain⟨v5,s5,c1,c2,c3⟩:=Z6 (d+1) s4 (m:=11) (i:=0) (e:=.c (.int 11)) (ρ:=ρ6 (aa (.lst rb))) rfl Yd (by decide) (by decide)
 obtain⟨ix,hix,c4⟩:=pick (a:=.lst [(.c (.int 0)),(.c (.int 0)),(.c (.int 0)),(.c (.int 0)),(.c (.int 1)),(.c (.int 2)),(.c (.int 3)),(.c (.int 4)),(.c (.int 5)),(.c (.int 6)),(.c (.int 7))]) (xs:=[.int 0,.int 0,.int 0,.int 0,.int 1,.int 2,.int 3,.int 4,.int 5,.int 6,.int 7]) (s:=s4) (s1:=s4) (by simp[pvE,ofD]) c1 c2 c3
 obtain⟨q,rfl,hq0,hq⟩:∃q:Int,ix=.int q/\0<=q/\q<8:=by
  simp at hix;rcases hix with rfl|rfl|rfl|rfl|rfl|rfl|rfl|rfl<;>exact⟨_,rfl,by decide,by decide⟩
 obtain⟨one,hone,c5⟩:=pick (a:=.v 7) (Zf (v:=.lst rb) rfl) c4 hq0 (by rw[lrb];exact hq)
 have oone:=hrb one hone
 let ρ8 (a9 a10:Option V):Env:=ρ (aa (.int j)) (aa (Zc P[j])) (aa (.int v2)) (aa od) (aa (.lst rb)) (aa one) a9 a10
 obtain⟨v6,s6,g1,g2,g3⟩:=Z6 (d+1) s5 (m:=8) (i:=0) (e:=.c (.int 8)) (ρ:=ρ8 af af) rfl Yd (by decide) (by decide)
 have e3:∀a b s,pv (CV (d+2)) (.v 3) (ρ8 a b) s=.ok (.int j) s:=λ_ _ s=>Zf rfl
 have lt9:∀k:Int,pv (CV (d+2)) (.cmp .lt (.v 9) (.c (.int k))) (ρ8 (aa (.int v6)) af) s6=.ok (.bl (ag (v6<k))) s6:=λk=>by
  rw[pv,Zf (v:=.int v6) rfl,Zb,Yd,Zb];rfl
 have start:∀x s',rvs (CV (d+2)) [] (ZR.body.drop 9) (ρ8 (aa (.int v6)) af) [] s6=.ok (.ret x) s'->CV (d+3) 8 [.drw,spV p n,Zd P] s=.ok x s':=λx s' h=>by
  refine Zq (fn:=ZR) rfl (by decide) rfl ?_
  show rvs (CV (d+2)) [] ZR.body (ρ af af af af af af af af) [] s=_;have g:pv (CV (d+2)) (.cmp .eq (.v 2) (.tup [])) (ρ af af af af af af af af) s=.ok (.bl al) s:=by
   have:=J8 (C:=CV (d+2)) (ρ:=ρ af af af af af af af af) (s:=s) (P:=P) (Q:=[]) (a:=.v 2) (b:=.tup []) (Zf rfl) (by rw[pv,pvs];rfl)
   rw[T4 h0]at this;exact this
  dsimp only[ZR]
  rw[guard g,Zj (ZL t1 rfl)];show rvs _ _ _ (ρ (aa (.int j)) af af af af af af af) _ _=_;rw[Zj (ZL er rfl)];show rvs _ _ _ (ρ (aa (.int j)) (aa (Zc P[j])) af af af af af af) _ _=_;rw[Zj (ZL u1 rfl)];show rvs _ _ _ ρ5 _ _=_;rw[Zj (ZL e6 rfl)];show rvs _ _ _ (ρ6 af) _ _=_;rw[Zj (ZL a1 rfl)];show rvs _ _ _ (ρ6 (aa (.lst ra))) _ _=_;rw[Zj (ZL b8 rfl)];show rvs _ _ _ (ρ6 (aa (.lst rb))) _ _=_;rw[Zj (ZL c5 rfl)];show rvs _ _ _ (ρ8 af af) _ _=_;rw[Zj (ZL g1 rfl)];exact h
 by_cases k4:v6<4
 ·obtain⟨ys,h1,h2,h3⟩:=JV (x:=one) (b:=.v 8) (ep ..) (e3 (aa (.int v6)) af s6) (W6 (e3 (aa (.int v6)) af s6)) (Zf rfl) lp op oone
  refine⟨.tup ys,s6,start _ _ ?_,Y8 h2 h3⟩
  dsimp only[ZR,oN]
  refine Zl ?_;rw[XF (Xb (lt9 4) rfl),T9 (T5 k4)];exact Zl (ZI h1)
 by_cases k6:v6<6
 ·obtain⟨ys,h1,h2,h3⟩:=JV (x:=one) (b:=.v 8) (ep ..) (e3 (aa (.int v6)) af s6) (e3 (aa (.int v6)) af s6) (Zf rfl) lp op oone
  refine⟨.tup ys,s6,start _ _ ?_,Y8 h2 h3⟩
  dsimp only[ZR,oN]
  have z:=lt9 4;rw[T4 k4]at z;rw[xp z];refine Zl ?_;rw[XF (Xb (lt9 6) rfl),T9 (T5 k6)];exact Zl (ZI h1)
 let ρ9 (a10:Option V):Env:=ρ8 (aa (.int v6)) a10
 obtain⟨ws,y1,y2,y3⟩:=V1 (C:=CV (d+2)) (ρ:=ρ9 af) (s:=s6) (Q:=Th 1000) (es:=[(.bin .add (.sl (.v 2) af (aa (.v 3))) (.sl (.v 2) (aa (.bin .add (.v 3) (.c (.int 1)))) af)),(.rev (.v 2)),(.blt .list [(.v 2)]),(.tup [(.v 2)]),(.bin .add (.v 2) (.sl (.v 2) (aa (.neg (.c (.int 1)))) af)),(.bin .add (.sl (.v 2) (aa (.v 3)) af) (.sl (.v 2) af (aa (.v 3))))]) (by decide) (λe he=>by
  simp only[az,bE,or_false]at he;have ep':pv (CV (d+2)) (.v 2) (ρ9 af) s6=.ok (.tup (P.map Zc)) s6:=ep ..;have e3':=e3 (aa (.int v6)) af s6;rcases he with rfl|rfl|rfl|rfl|rfl|rfl
  ·obtain⟨ys,h1,h2,h3⟩:=we ep' e3' (W6 e3') lp op
   exact⟨_,h1,Y8 h2 h3⟩
  ·refine⟨.tup (P.map Zc).reverse,by rw[pv,ep'];rfl,Y8 (GN λx hx=>Xc op x (ei.mp hx)) (by rw[i9];lia)⟩
  ·exact⟨.lst (P.map Zc),by rw[pv,Za ep' Ze];rfl,op,λxs z=>by cases z⟩
  ·exact⟨_,Xw ep',Y8 (by show(YE _&&aj)=aj;rw[op];rfl) (by show 1<=1000;decide)⟩
  ·have l1:=YI (xs:=P.map Zc) (lo:=aa (-1)) (hi:=af)
   exact⟨_,Xh ep' (WK ep' (k:=-1) (by rw[pv,Yd];rfl)) (by lia),Y8 (Qe op (Wl op)) (by rw[bp];lia)⟩
  ·have l1:=YI (xs:=P.map Zc) (lo:=aa (j:Int)) (hi:=af)
   have l2:=YI (xs:=P.map Zc) (lo:=af) (hi:=aa (j:Int));exact⟨_,Xh (WK ep' e3') (xL ep' e3') (by lia),Y8 (Qe (Wl op) (Wl op)) (by rw[bp];lia)⟩)
 obtain⟨v7,s7,z1,z2,z3⟩:=Z6 (d+1) s6 (m:=6) (i:=0) (e:=.c (.int 6)) (ρ:=ρ9 (aa (.lst ws))) rfl Yd (by decide) (by decide)
 obtain⟨x,hx,z4⟩:=pick (a:=.v 10) (Zf (v:=.lst ws) rfl) z1 z2 (by rw[y2];exact z3)
 refine⟨x,s7,start _ _ ?_,y3 x hx⟩
 dsimp only[ZR,oN]
 have z:=lt9 4;rw[T4 k4]at z;have zz:=lt9 6;rw[T4 k6]at zz;rw[xp z,xp zz,Zj (ZL y1 rfl)];exact Zl (ZI z4)
def zU(d:Nat){P:List Row}(s:DS)(hn:n<=6)(h1:1<=n)(hP:pZ p n P):∃x s',CV (d+3) 8 [.drw,spV p n,Zd P] s=.ok x s'/\Th 1000 x:=by
 cases P with|nil=>exact uw d s hn|cons r P=>exact uC d s hn h1 hP (by simp)
end
end K22
namespace Rw
open La
noncomputable def XE(p:Nat)(L:List Row)(o:Row):List Row:=(aY p).flatMap λ(k:Nat)=>L.map λr=>ZG p r o (k:Int)
noncomputable def ZV(p n:Nat)(P:List Row):List Row:=P.foldl (XE p) [aH n 0]
def QG(L:List Row)(o:Row):(XE p L o).length=L.length*p:=by
 unfold XE;rw[ke,show((aY p).map λ(k:Nat)=>(L.map λr=>ZG p r o (k:Int)).length)=aH p L.length from iD (by simp) λi h1 h2=>by simp,h9,lQ]
def ze(P:List Row):(ZV p n P).length=p^P.length:=by
 unfold ZV
 suffices ∀(P L:List Row),(P.foldl (XE p) L).length=L.length*p^P.length by rw[this];simp
 intro P
 induction P with|nil=>intro L;simp|cons o P ih=>intro L;rw[eL,ih,QG,aQ,oy,rJ,lQ p]
section
variable{p n:Nat}[Base p]
theorem YU:Zh p n (aH n 0):=⟨cW,λa ha=>by
 have:=(inferInstance:Base p).b;rw[gI ha];lia⟩
def Gk(j:Nat):gt (aH n 0) j=0:=by
 unfold gt;rw[aF,cx];split<;>rfl
def QZ(hL:∀r∈L,Zh p n r)(ho:Zh p n o):∀r∈XE p L o,Zh p n r:=λr hr=>by
 obtain⟨k,_,h⟩:=fk.mp hr;obtain⟨q,hq,rfl⟩:=aP.mp h;exact Zp (hL q hq) ho
def Zcc(hW:pZ p n W)(hr:Zh p n r)(ho:Zh p n o)(h1:ZD p W r=aj)(h2:ZD p W o=aj):ZD p W (ZG p r o k)=aj:=by
 rw[ZE hW (Zp hr ho)];rw[Z0 hr ho];exact Xq (ph p k) ((ZE hW hr).mp h1) ((ZE hW ho).mp h2)
theorem xW(hW:pZ p n W):∀{P L:List Row},(∀r∈P,r∈W)->(∀r∈L,Zh p n r/\ZD p W r=aj)->∀r∈P.foldl (XE p) L,Zh p n r/\ZD p W r=aj
 |[],_,_,h=>h
 |o::P,L,hP,h=>by
  have ho:=hP o (ao ..);refine xW hW (P:=P) (λr hr=>hP r (aq _ hr)) λr hr=>?_
  obtain⟨k,_,h3⟩:=fk.mp hr;obtain⟨q,hq,rfl⟩:=aP.mp h3;exact⟨Zp (h q hq).1 (hW.row o ho),Zcc hW (h q hq).1 (hW.row o ho) (h q hq).2 (Jk hW ho)⟩
theorem x5:∀{P L:List Row}{a r:Row},(∀o∈P,Zh p n o)->a∈L->Zh p n a->Zh p n r->hdI (XC p P (ZG p r a (-1)))=af->r∈P.foldl (XE p) L
 |[],L,a,r,_,ha,h1,h2,h=>by
  have e:r=a:=Xn h2 h1 (by
   funext j
   have z:=(Ya (Zp h2 h1)).mpr (Xl h j);rw[Z0 h2 h1,UI,Jj]at z
   grind)
  rw[e];exact ha
 |o::P,L,a,r,hP,ha,h1,h2,h=>by
  have ho:=hP o (ao ..)
  let x:=ZG p r a (-1)
  have hx:Zh p n x:=Zp h2 h1;have hk:=YV ppos hx ((hdI o).getD 0);have e:clr p x o ((hdI o).getD 0)=ZG p r (ZG p a o (gt x ((hdI o).getD 0))) (-1):=Xn (Zp hx ho) (Zp h2 (Zp h1 ho)) (by
   rw[X5 hx ho,Z0 h2 (Zp h1 ho),Z0 h1 ho]
   funext j
   show toV p (ZG p r a (-1)) j-toV p x ((hdI o).getD 0)*toV p o j=toV p r j+ph p (-1)*(toV p a j+toV p x ((hdI o).getD 0)*toV p o j);rw[Z0 h2 h1,UI,Jj]
   grind)
  refine x5 (P:=P) (λq hq=>hP q (aq _ hq)) (fk.mpr ⟨(gt x ((hdI o).getD 0)).toNat,bt.mpr (by lia),aP.mpr ⟨a,ha,by rw[Int.toNat_of_nonneg hk.1]⟩⟩) (Zp h1 ho) h2 ?_
  rw[<-e];exact h
def Vb(hP:pZ p n P):r∈ZV p n P↔Zh p n r/\ZD p P r=aj:=by
 constructor
 ·exact xW hP (λ_ h=>h) (λq hq=>by rw[aU.mp hq];exact⟨YU,vx hP YU Gk⟩) r
 ·intro⟨h1,h2⟩
  refine x5 hP.row (aU.mpr rfl) YU h1 ?_;have e:ZG p r (aH n 0) (-1)=r:=Xn (Zp h1 YU) h1 (by
   rw[Z0 h1 YU]
   funext j
   rw[(Ya YU).mpr (Gk j)]
   grind)
  rw[e];exact Option.isNone_iff_eq_none.mp h2
theorem zY:∀{P L:List Row},(∀o∈P,Zh p n o/\gt o ((hdI o).getD 0)=1)->(P.Pairwise λo q=>gt o ((hdI q).getD 0)=0)->(∀r∈L,Zh p n r/\∀o∈P,gt r ((hdI o).getD 0)=0)->L.Nodup->(P.foldl (XE p) L).Nodup
 |[],_,_,_,_,h=>h
 |o::P,L,hP,hz,hL,h=>by
  obtain⟨ho,h1⟩:=hP o (ao ..);obtain⟨z1,z2⟩:=aZ.mp hz;have hp:=(inferInstance:Base p).b;refine zY (P:=P) (λq hq=>hP q (aq _ hq)) z2 (λr hr=>⟨QZ (λr hr=>(hL r hr).1) ho r hr,λq hq=>?_⟩) ?_
  ·obtain⟨k,_,h3⟩:=fk.mp hr
   obtain⟨s,hs,rfl⟩:=aP.mp h3;rw[Yv (hL s hs).1 ho,(hL s hs).2 q (aq _ hq),z1 q hq];simp
  ·have at_:∀(k:Nat) r,k<p->r∈L->gt (ZG p r o (k:Int)) ((hdI o).getD 0)=k:=λk r hk hr=>by
    rw[Yv (hL r hr).1 ho,(hL r hr).2 o (ao ..),h1,Int.zero_add,Int.mul_one,dS (by lia) (by lia)]
   refine mn.mpr ⟨λk hk=>?_,?_⟩
   ·refine cY.mpr (h.imp_of_mem λ{a b} ha hb ne e=>ne (Xn (hL a ha).1 (hL b hb).1 ?_))
    have q:=congrArg (toV p) e;rw[Z0 (hL a ha).1 ho,Z0 (hL b hb).1 ho]at q
    funext j
    have:=congrFun q j
    grind
   ·refine oS.imp_of_mem λ{a b} ha hb ne x hx y hy e=>ne ?_
    obtain⟨r,hr,rfl⟩:=aP.mp hx;obtain⟨q,hq,rfl⟩:=aP.mp hy;have:=at_ a r (bt.mp ha) hr;rw[e,at_ b q (bt.mp hb) hq]at this;lia
def JF(hP:pZ p n P):(ZV p n P).Nodup:=by
 have rf:=hP.pn.rf;refine zY (λo ho=>⟨hP.row o ho,(JR (hP.row o ho)).mp (rf.one _ (Ye ho))⟩) ?_ (λr hr=>?_) (c8.mpr ⟨by simp,mD⟩)
 ·exact(cY.mp rf.inc).imp_of_mem λ{a b} ha hb lt=>(Ya (hP.row a ha)).mp (rf.zer _ (Ye hb) _ (Ye ha) (gh lt))
 ·rw[aU.mp hr]
  exact⟨YU,λo _=>Gk _⟩
end
end Rw
namespace Lv
open Ev Pv
noncomputable def Uu:Fn:=⟨2,2,[.ite (.cmp .lt (.v 1) (.blt .len [(.v 0)])) [.ret (.ix (.v 0) (.v 1))] [],.ret (.c (.int 0))]⟩
noncomputable def Ud(c:Nat):Fn:=⟨2,3,[.asg [2] (.call c [(.v 0),(.v 1)]),.ite (.cmp .ge (.v 2) (.bin .pow (.c (.int 10)) (.c (.int 18)))) [.ret (.lst [(.bin .sub (.v 2) (.bin .pow (.c (.int 10)) (.c (.int 18)))),(.c (.bl aj))])] [],.ret (.lst [(.bin .mod (.v 2) (.c (.int 2147483647))),(.c (.bl al))])]⟩
noncomputable def qu(nn:Nat)(M:Int)(st:Nat)(B:List Sm):Fn:=⟨1,nn,[.forr [1] (.rng1 (.blt .max2 [(.c (.int 1)),(.blt .min2 [(.blt .len [(.v 0)]),(.c (.int M))])])) [.cel 2 st [(.v 0),(.v 1)] B],.ret (.c (.bl aj))]⟩
variable{F:List Fn}{tk ca st L nn:Nat}{M:Int}{B:List Sm}
theorem Zbm(ht:ca≠tk)(hC:F[ca]?=aa Uu)(d:Nat)(k0:0<=k):∃c,Zn F tk (d+1) ca [.scr ns,.int k] s=.ok (.int c) s:=by
 by_cases c:k<ns.length
 ·have hk:k.toNat<ns.length:=by lia
  refine⟨ns[k.toNat],?_⟩;simp[Zn,ht,hC,Uu,rvs,rv,pvs,Pv.pv.eq_1,Pv.pv.eq_2,pv,YN,PR.bind,po,ZM,Yq,int2,Xk,blt1,Yy,Zv,ixV,at',ixN,k0,c,hk,ofD]
 ·refine⟨0,?_⟩
  simp[Zn,ht,hC,Uu,rvs,rv,pvs,pv,YN,PR.bind,po,ZM,Yq,int2,Xk,blt1,Yy,Zv,ixV,at',ixN,k0,c,ofD]
theorem qC(ht:ca≠tk)(hts:st≠tk)(hC:F[ca]?=aa Uu)(hS:F[st]?=aa (Ud ca))(d:Nat)(k0:0<=k):∃v d0,Zn F tk (d+2) st [.scr ns,.int k] s=.ok v s/\U6 v=aa d0/\okS d0.1 d0.2=aj:=by
 obtain⟨c,e⟩:=Zbm ht hC (s:=s) (ns:=ns) d k0;rw[show d+2=(d+1)+1 from rfl,Zn,T8 hts,hS]
 generalize Zn F tk (d+1)=C at e ⊢;by_cases h:10^18<=c
 ·have h':(1000000000000000000:Int)<=c:=by simpa using h
  have o:okS (c-1000000000000000000) aj=aj:=by simp[okS];lia
  refine⟨.lst [.int (c-1000000000000000000),.bl aj],(c-1000000000000000000,aj),?_,by simp[U6,o],o⟩
  simp[Ud,rvs,rv,pvA,pvs,pv,YN,PR.bind,po,ZM,Yq,int2,Zv,ofD,YG,Pv.Jn,e,h',muts,qm,lim]
 ·have h':¬(1000000000000000000:Int)<=c:=by simpa using h
  have o:okS (c%2147483647) al=aj:=by simp[okS];lia
  refine⟨.lst [.int (c%2147483647),.bl al],(c%2147483647,al),?_,by simp[U6,o],o⟩
  simp[Ud,rvs,rv,pvA,pvs,pv,YN,PR.bind,po,ZM,Yq,int2,Zv,ofD,YG,Pv.Jn,e,h',muts,qm,lim]
theorem GJ(P:Env->Prop):∀(xs:List V),(∀x∈xs,∀ρ s,P ρ->∃ρ' s',P ρ'/\body x ρ [] s=.ok (.nx ρ' []) s')->∀ρ s,P ρ->∃ρ' s',P ρ'/\Yz body xs ρ [] s=.ok (.nx ρ' []) s'
 |[],_,ρ,s,h=>⟨ρ,s,h,rfl⟩
 |x::xs,hb,ρ,s,h=>by
  obtain⟨ρ1,s1,h1,e1⟩:=hb x (ao ..) ρ s h;obtain⟨ρ2,s2,h2,e2⟩:=GJ P xs (λy hy=>hb y (aq _ hy)) ρ1 s1 h1
  refine⟨ρ2,s2,h2,?_⟩;rw[Yz,e1];exact e2
def Ve :hide [] ρ=ρ:=by
 unfold hide;apply cX
 intro i;rw[iL];cases ρ[i]?<;>rfl
def Zao(h0:ρ[0]?=aa (aa (.scr ns)))(h1:ρ[1]?=aa (aa (.int k)))(hl:ρ.length=nn+3):(WP 2 ρ).set 2 (aa .drw)=aa (.scr ns)::aa (.int k)::aa .drw::aH nn af:=by
 match ρ,h0,h1,hl with
 |a::b::l,h0,h1,hl=>
  cases h0;cases h1;have:l.length=nn+1:=by simpa using hl
  unfold WP;simp[VQ,V.flat,this,bU]
theorem law_of(d:Nat)(ht:ca≠tk)(hts:st≠tk)(htl:L≠tk)(hC:F[ca]?=aa Uu)(hS:F[st]?=aa (Ud ca))(hL:F[L]?=aa (qu (nn+3) M st B))(hM:M<2^62)
  (hv:∀(o:Option V)(k:Nat)(s:DS),∃ρ os s',rvs (Zn F tk (d+2)) [] B (o::aa (.int k)::aa .drw::aH nn af) [] s=.ok (.nx ρ os) s'/\ρ[0]?=aa o/\ρ.length=nn+3)(ns:List Int)(s:DS) :
  ∃S,Zn F tk (d+3) L [.scr ns] s=.ok (.bl aj) S:=by
 rw[show d+3=(d+2)+1 from rfl,Zn,T8 htl,hL]
 have hst:=λk (k0:0<=k) s=>qC ht hts hC hS (s:=s) (ns:=ns) (k:=k) d k0
 generalize Zn F tk (d+2)=C at hv hst ⊢;have hr:∃m,pvw C (.rng1 (.blt .max2 [(.c (.int 1)),(.blt .min2 [(.blt .len [(.v 0)]),(.c (.int M))])])) (ZM (nn+3) [.scr ns]) s=.ok (Yg 0 m) s:=by
  have e:pv C (.blt .max2 [(.c (.int 1)),(.blt .min2 [(.blt .len [(.v 0)]),(.c (.int M))])]) (ZM (nn+3) [.scr ns]) s=.ok (.int (if(if M<(ns.length:Int)then M else(ns.length:Int))>1 then(if M<(ns.length:Int)then M else(ns.length:Int))else 1)) s:=by
   simp[pv,pvs,PR.bind,po,ZM,ofD,Xk,blt1,blt2,Yy]
  rw[pvw,e];refine⟨_,(T9 ?_ :)⟩;refine T5 ?_;split<;>split<;>lia
 obtain⟨m,hr⟩:=hr;have hm:muts (qu (nn+3) M st B).body=[]:=rfl;simp only[hm];show ∃S,(if 1=1 then _ else _)=_
 rw[T9 rfl];unfold qu;simp only;rw[rvs,rv,Ve,hr]
 let body:V->Env->List Nat->DS->PR FlV:=λx ρ os s=>if([1].any os.contains)=aj then .no else if(os.isEmpty||x.flat)=aj then(po (Zo [1] x ρ) s).bind λρ s=>rvs C [] [.cel 2 st [(.v 0),(.v 1)] B] ρ os s else .no
 have hb:∀x∈Yg 0 m,∀ρ s,(ρ[0]?=aa (aa (.scr ns))/\ρ.length=nn+3)->∃ρ' s',(ρ'[0]?=aa (aa (.scr ns))/\ρ'.length=nn+3)/\body x ρ [] s=.ok (.nx ρ' []) s':=by
  intro x hx ρ s ⟨h0,hl⟩;obtain⟨k,_,rfl⟩:=aP.mp hx;rw[Int.zero_add];obtain⟨v,d0,e1,e2,e3⟩:=hst (k:Int) (by lia) s
  obtain⟨ρ2,os2,s2,e4,h2,l2⟩:=hv (aa (.scr ns)) k d0;have q0:(ρ.set 1 (aa (.int (k:Int))))[0]?=aa (aa (.scr ns)):=by rw[ba (by decide)];exact h0
  have q1:(ρ.set 1 (aa (.int (k:Int))))[1]?=aa (aa (.int (k:Int))):=bg (by lia)
  have ql:(ρ.set 1 (aa (V.int (k:Int)))).length=nn+3:=by rw[bC];exact hl
  have a:pvs C [(.v 0),(.v 1)] (ρ.set 1 (aa (.int (k:Int)))) s=.ok [.scr ns,.int (k:Int)] s:=by
   simp only[pvs,pv,q0,q1,PR.bind,po,Option.join];rfl
  refine⟨ρ2.map VQ,s,⟨by rw[aR,h2];rfl,by rw[aB];exact l2⟩,?_⟩
  show(rvs C [] [.cel 2 st [(.v 0),(.v 1)] B] (ρ.set 1 (aa (.int (k:Int)))) [] s)=_;rw[rvs,rv,T9 (by rfl),a]
  show PR.bind (PR.bind (C st [.scr ns,.int (k:Int)] s) _) _=_;rw[e1];show PR.bind (PR.bind (po (U6 v) s) _) _=_;rw[e2];simp only[po,PR.bind,Zao q0 q1 ql,e4,rvs]
 obtain⟨ρ,s',h,e⟩:=GJ (λρ=>ρ[0]?=aa (aa (.scr ns))/\ρ.length=nn+3) (Yg 0 m) hb (ZM (nn+3) [.scr ns]) s ⟨rfl,by simp[ZM]⟩
 refine⟨s',?_⟩;show PR.bind (PR.bind (Yz body (Yg 0 m) _ _ s) _) _=_;rw[e];rfl
end Lv
namespace K22
open Ev Pv Rw La
def jF(r:Row):V.flat (Zc r)=aj:=US r
theorem QT:∀L:List Row,Yh (L.map Zc)=aj
 |[]=>rfl
 |r::L=>by
  show(V.flat (Zc r)&&Yh (L.map Zc))=aj;rw[jF,QT L];rfl
def ZeY(h:Nat):(aH h [V.int 0]).flatten=(aH h (0:Int)).map V.int:=by
 induction h with|zero=>rfl|succ k ih=>rw[bU,cM,ih];rfl
theorem z8:∀L:List Row,Wn (L.map λr=>V.tup [Zc r,.bl aj])=aa L
 |[]=>rfl
 |r::L=>by
  show((intsV (r.map V.int)).bind λa=>(Wn (L.map λr=>V.tup [Zc r,.bl aj])).map (a :: ·))=_
  rw[YL,z8 L];rfl
section
variable{p n:Nat}[Base p]
noncomputable def wt:List Sm:=[.asg [4] (.lst []),
  .forr [5] (.rng1 (.ix (.v 0) (.c (.int 0)))) [.ex (.mt .extend (.v 4) [(.comp1 [0,3,5] 1 [0] (.of (.v 2)) [] (.call 4 [(.v 1),(.v 0),(.v 2),(.v 3)]))])],
  .mov 2 4]
theorem uc(d:Nat){L:List Row}{o:Row}{v:V}{a5:Option V}(s:DS)(hn:n<=6)(hL:∀r∈L,Zh p n r)(ho:Zh p n o)(hl:L.length<=15625):∃b5,rvs (CV (d+1)) [4] wt [aa (spV p n),aa v,aa (.lst (L.map Zc)),aa (Zc o),af,a5] [] s=.ok (.nx [aa (spV p n),aa v,aa (.lst ((XE p L o).map Zc)),aa (Zc o),af,b5] []) s:=by
 have hp:=Qm (p:=p);unfold wt;obtain⟨o5,_,e5⟩:=vm (C:=CV (d+1)) (ms:=[4]) (t:=[5]) (it:=.rng1 (.ix (.v 0) (.c (.int 0)))) (b:=[.ex (.mt .extend (.v 4) [(.comp1 [0,3,5] 1 [0] (.of (.v 2)) [] (.call 4 [(.v 1),(.v 0),(.v 2),(.v 3)]))])]) (L:=aY p) (e:=Zx) (step:=λ(acc:List Row) (k:Nat)=>acc++L.map λr=>ZG p r o (k:Int)) (ρ:=λacc x=>[aa (spV p n),aa v,aa (.lst (L.map Zc)),aa (Zc o),aa (.lst (acc.map Zc)),x]) (st:=[]) (o:=a5) (os:=[4]) (s:=s)
  (λl acc=>(∀k∈l,k<5)/\acc.length+l.length*L.length<=100000) (by
   exact Xx (ix0 rfl) (by lia)) ⟨λk hk=>by have:=bt.mp hk;lia,by
    rw[bS,iS];have:p*L.length<=5*15625:=kD (by lia) hl
    lia⟩ rfl (λk l acc x hI=>by
   obtain⟨h1,h2⟩:=hI;rw[aQ,Nat.succ_mul]at h2;have hk:=h1 k (ao ..);refine⟨⟨λq hq=>h1 q (aq _ hq),by rw[bp,aB];lia⟩,rfl,[aa (spV p n),aa v,aa (.lst (L.map Zc)),aa (Zc o),aa (.lst (acc.map Zc)),aa (Zx k)],aa (Zx k),rfl,?_⟩
   have hc:=ZN (C:=CV (d+1)) (cap:=[0,3,5]) (nl:=1) (t:=[0]) (it:=.of (.v 2)) (elt:=.call 4 [(.v 1),(.v 0),(.v 2),(.v 3)]) (ρ:=[aa (spV p n),aa v,aa (.lst (L.map Zc)),aa (Zc o),af,aa (Zx k)]) (s:=s) (l:=L) (e:=Zc)
    (by rw[pvw,Zf rfl];rfl) (by unfold lim;lia) (λr hr=>⟨[aa (Zc r),aa (spV p n),aa (Zc o),aa (Zx k)],rfl,Zm (Za (Zf rfl) (Za (Zf rfl) (Za (Zf rfl) (Za (Zf (v:=.int k) rfl) Ze)))) (z7 d s hn (hL r hr) ho ⟨by lia,by lia⟩)⟩)
   have hm:(L.map λr=>Zc (ZG p r o (k:Int)))=(L.map λr=>ZG p r o (k:Int)).map Zc:=by rw[cI];rfl
   rw[hm]at hc;rw[Zj (ρ':=[aa (spV p n),aa v,aa (.lst (L.map Zc)),aa (Zc o),aa (.lst ((acc++L.map λr=>ZG p r o (k:Int)).map Zc)),aa (Zx k)]) (os':=[4]) (s':=s) (by
    rw[rv];show(if aj=aj then((PR.ok (acc.map Zc) s).bind λxs s=>(pv (CV (d+1)) _ [aa (spV p n),aa v,aa (.lst (L.map Zc)),aa (Zc o),af,aa (Zx k)] s).bind _)else _)=_
    rw[T9 rfl,Zb,hc,Zb];show(if Yh ((L.map λr=>ZG p r o (k:Int)).map Zc)=aj/\_<=lim then _ else _)=_
    rw[T9 ⟨QT _,by rw[aB,aB,aB];unfold lim;lia⟩,bP]
    rfl),rvs])
 have hfold:∀(l:List Nat)(acc:List Row),l.foldl (λ(acc:List Row) (k:Nat)=>acc++L.map λr=>ZG p r o (k:Int)) acc=acc++l.flatMap λ(k:Nat)=>L.map λr=>ZG p r o (k:Int):=λl=>by
  induction l with|nil=>intro acc;simp|cons r l ih=>intro acc;rw[eL,ih,List.flatMap_cons,bM]
 rw[hfold,eM]at e5;refine⟨o5,?_⟩;rw[Zj (ρ':=[aa (spV p n),aa v,aa (.lst (L.map Zc)),aa (Zc o),aa (.lst (([]:List Row).map Zc)),a5]) (os':=[4]) (s':=s) (by simp[pvE,Yh]),Zj e5]
 rw[Zj (ρ':=[aa (spV p n),aa v,aa (.lst ((XE p L o).map Zc)),aa (Zc o),af,o5]) (os':=[]) (s':=s) (by rw[rv];rfl),rvs]
theorem zm(d:Nat){P:List Row}(s:DS)(hn:n<=6)(hP:pZ p n P)(hl:p^n<=1000):CV (d+2) 9 [spV p n,Zd P] s=.ok (.dct (aa (ZV p n P))) s:=by
 have hp:=Qm (p:=p);refine Zq rfl (by decide) rfl ?_
 show rvs (CV (d+1)) [4] (.asg [2] (.lst [(.bin .mul (.tup [(.c (.int 0))]) (.ix (.v 0) (.c (.int 1))))]) :: .forr [3] (.of (.v 1)) wt :: .ret (.blt .dictP [(.comp1 [] 1 [0] (.of (.v 2)) [] (.tup [(.v 0),(.c (.bl aj))]))])::[]) [aa (spV p n),aa (Zd P),af,af,af,af] [] s=_;have z0:pv (CV (d+1)) (.lst [(.bin .mul (.tup [(.c (.int 0))]) (.ix (.v 0) (.c (.int 1))))]) [aa (spV p n),aa (Zd P),af,af,af,af] s=.ok (.lst ([aH n 0].map Zc)) s:=by
  have g:pv (CV (d+1)) (.bin .mul (.tup [(.c (.int 0))]) (.ix (.v 0) (.c (.int 1)))) [aa (spV p n),aa (Zd P),af,af,af,af] s=.ok (Zc (aH n 0)) s:=by
   rw[pv,Xw Yd,Zb,ix1 (p:=p) (n:=n) rfl,Zb];show(if(0:Int)<=n/\(n:Int)<1000/\1<=1000 then PR.ok (V.tup (aH (n:Int).toNat [V.int 0]).flatten) s else .no)=_
   rw[T9 ⟨by lia,by lia,by lia⟩,dC]
   rw[ZeY];rfl
  rw[pv,Za g Ze];rfl
 rw[Zj (ZL z0 rfl)];show rvs _ _ _ [aa (spV p n),aa (Zd P),aa (.lst ([aH n 0].map Zc)),af,af,af] [] s=_;have hpow:∀(l:List Row)(k:Nat),k+l.length=P.length->p^k*p^l.length<=1000:=λl k h=>by
  rw[<-Nat.pow_add,h];exact bY (dO (by lia) (dsum hP)) hl
 obtain⟨ρ',⟨L,a3,a5,rfl,hL,_⟩,e⟩:=V2 (C:=CV (d+1)) (ms:=[4]) (t:=[3]) (it:=.of (.v 1)) (b:=wt) (L:=P) (e:=Zc) (os:=[]) (s:=s)
  (λl ρ=>∃(L:List Row)(a3 a5:Option V),ρ=[aa (spV p n),aa (Zd P),aa (.lst (L.map Zc)),a3,af,a5]/\l.foldl (XE p) L=ZV p n P/\(∀r∈L,Zh p n r)/\(∀r∈l,Zh p n r)/\∃k,k+l.length=P.length/\L.length=p^k)
  (by rw[pvw];rw[Zf (v:=Zd P) rfl];rfl)
  ⟨[aH n 0],af,af,rfl,rfl,λr hr=>by
   rw[aU.mp hr];exact⟨cW,λa ha=>by rw[gI ha];lia⟩,λr hr=>hP.row r hr,0,by lia,by simp⟩ rfl (λr l ρ hI=>by
   obtain⟨L,a3,a5,rfl,h1,h2,h3,k,h4,h5⟩:=hI;have hr:=h3 r (ao ..);rw[aQ]at h4;have hz:=hpow l (k+1) (by lia)
   have hL1:L.length<=1000:=by
    rw[h5];have:=hpow (r::l) k (by rw[aQ];lia)
    have h0:0<p^(r::l).length:=Nat.pow_pos (by lia)
    exact bY (lK _ h0) this
   obtain⟨b5,e1⟩:=uc (p:=p) (n:=n) d (L:=L) (o:=r) (v:=Zd P) (a5:=a5) s hn h2 hr (by lia)
   refine⟨by rfl,_,_,rfl,e1,XE p L r,_,b5,rfl,h1,QZ h2 hr,λq hq=>h3 q (aq _ hq),k+1,by lia,?_⟩
   rw[QG,h5,oy])
 rw[Zj e];rw[List.foldl_nil]at hL;subst hL;have hlen:(ZV p n P).length<=1000:=by
  rw[ze];exact bY (dO (by lia) (dsum hP)) hl
 have hc:=ZN (C:=CV (d+1)) (cap:=[]) (nl:=1) (t:=[0]) (it:=.of (.v 2)) (elt:=.tup [(.v 0),(.c (.bl aj))]) (ρ:=[aa (spV p n),aa (Zd P),aa (.lst ((ZV p n P).map Zc)),a3,af,a5]) (s:=s) (l:=ZV p n P) (e:=Zc)
  (by rw[pvw,Zf rfl];rfl) (by unfold lim;lia) (λr hr=>⟨[aa (Zc r)],rfl,by
   rw[pv,Za (Zf (v:=Zc r) rfl) (Za (v:=.bl aj) (by rw[pv];rfl) Ze)];rfl⟩)
 refine Zl (ZI ?_);rw[pv,Za hc Ze,Zb];show po ((Wn ((ZV p n P).map λr=>V.tup [Zc r,.bl aj])).bind λks=>if UC ks=aj then aa (V.dct (aa ks))else af) s=_
 rw[z8];show po (if UC (ZV p n P)=aj then aa (V.dct (aa (ZV p n P)))else af) s=_
 rw[T9 (by
  unfold UC;rw[aD,T0,T0];exact⟨by unfold lim;lia,JF hP⟩)];rfl
def jM(d:Nat)(a:Int)(s:DS):CV (d+1) 25 [.int a,.int a] s=.ok (.bl aj) s:=by
 refine Zq rfl (by decide) rfl ?_
 simp[Y0,pvE,Z1,Yn,Yq,eqV,Zt]
theorem uX(d:Nat){α:Type}{f:α->V}{l:List α}(s:DS)(hl:l.length<=1000)(h:∀x∈l,CV d 25 [f x,f x] s=.ok (.bl aj) s):CV (d+1) 25 [.tup (l.map f),.tup (l.map f)] s=.ok (.bl aj) s:=by
 refine Zq rfl (by decide) rfl ?_
 dsimp only[Y0]
 refine Zl ?_;have hz:((l.map f).zip (l.map f)).map (λq=>V.tup [q.1,q.2])=l.map λx=>V.tup [f x,f x]:=by
  clear h hl
  induction l with|nil=>rfl|cons x l ih=>rw[aW,cc,aW,ih];rfl
 have hc:=ZN (C:=CV d) (cap:=[]) (nl:=2) (t:=[0,1]) (it:=.zip (.v 0) (.v 1)) (elt:=.call 25 [(.v 0),(.v 1)]) (ρ:=[aa (.tup (l.map f)),aa (.tup (l.map f))]) (s:=s) (l:=l)
  (by
   rw[pvw,Zf rfl,Zb,Zf rfl,Zb];show PR.ok (((l.map f).zip (l.map f)).map λq=>V.tup [q.1,q.2]) s=_
   rw[hz]) (by unfold lim;lia) (λx hx=>⟨_,rfl,Zm (Za (Zf rfl) (Za (Zf rfl) Ze)) (h x hx)⟩)
 have ht:=Yf (g:=λ_:α=>aj) l
 have ha:(l.map λ_=>aj).all id=aj:=by induction l<;>simp
 simp[pvE,Z1,Yn,Yq,eqV,Zt,hc,ht,ha]
end
section
variable{p n:Nat}[Base p]
noncomputable def Vr(p n:Nat)(P Q:List Row):List Row:=(Y2 p n P).filter λr=>!ZD p Q r
def Za1{P:List Row}(hP:pZ p n P):(Y2 p n P).Nodup:=(XA hP).2.imp λ{a b} h e=>by
 subst e;have:=Sd.Y5 h;rw[h]at this;cases this
def zC{P Q:List Row}(hP:pZ p n P)(hQ:pZ p n Q):Z2 ((ZV p n P).filter λr=>!(ZV p n Q).contains r)=Vr p n P Q:=by
 have nd:((ZV p n P).filter λr=>!(ZV p n Q).contains r).Nodup:=(JF hP).sublist gB
 refine Sd.XZ ((Sd.YS _).trans ((List.perm_ext_iff_of_nodup nd ((Za1 hP).sublist gB)).mpr λr=>?_)) (Sd.Xv nd) ((XA hP).2.sublist gB)
 rw[c7,c7,Vb hP,(XA hP).1 r]
 constructor
 ·intro⟨⟨h1,h2⟩,h3⟩
  refine⟨⟨h1,(ZE hP h1).mp h2⟩,?_⟩;cases e:ZD p Q r with|false=>rfl|true=>rw[eE.mpr ((Vb hQ).mpr ⟨h1,e⟩)]at h3;cases h3
 ·intro⟨⟨h1,h2⟩,h3⟩
  refine⟨⟨h1,(ZE hP h1).mpr h2⟩,?_⟩;cases e:(ZV p n Q).contains r with|false=>rfl|true=>rw[((Vb hQ).mp (eE.mp e)).2]at h3;cases h3
def zg(P Q:List Row):(Vr p n P Q).head? = XQ p n P Q:=by exact List.head?_filter ..
def ZbF{P Q:List Row}(hP:pZ p n P)(hQ:pZ p n Q):(Vr p n P Q=[])↔P.all (ZD p Q)=aj:=by
 rw[<-zA hP hQ,<-zg,List.head?_eq_none_iff]
def qg(d:Nat)(s:DS):CV (d+1) 25 [.non,.non] s=.ok (.bl aj) s:=by
 refine Zq rfl (by decide) rfl ?_
 simp[Y0,pvE,Z1,Yn,Yq,eqV,Zt]
def qx(d:Nat){o:Option Row}(s:DS)(h:∀r,o=aa r->r.length<=1000):CV (d+2) 25 [ZaG o,ZaG o] s=.ok (.bl aj) s:=by
 cases o with|none=>exact qg (d+1) s|some r=>exact uX (d+1) s (h r rfl) λa _=>jM d a s
theorem GT{R:List Row}{s:DS}(h1:1<=n)(hr:∀r∈R,Zh p n r)(nd:R.Nodup)(hl:R.length<=100000):po (Xk .sorted [.lst (R.map Zc)]) s=.ok (.lst ((Z2 R).map Zc)) s:=by
 cases R with
 |nil=>rfl
 |cons r R=>
  have so:Ym (r::R)=aj:=by
   unfold Ym;rw[aD,aD,T0,T0,bf];refine⟨⟨hl,nd⟩,λq hq=>?_⟩
   have:=(hr q hq).1;cases q with|nil=>simp at this;lia|cons _ _=>rfl
  have se:Zbo ((r::R).map Zc)=aj:=by
   have:=(hr r (ao ..)).1;cases r with|nil=>simp at this;lia|cons _ _=>rfl
  show po (if Zbo ((r::R).map Zc)=aj then(Z3 ((r::R).map Zc)).bind λrs=>if Ym rs=aj then aa (V.lst ((Z2 rs).map Zc))else af else _) s=_
  rw[T9 se,Yt];show po (if Ym (r::R)=aj then _ else _) s=_
  rw[T9 so];rfl
theorem Q5(d:Nat){P Q:List Row}(s:DS)(hn:n<=6)(h1:1<=n)(hP:pZ p n P)(hQ:pZ p n Q)(hl:p^n<=500):CV (d+9) 28 [spV p n,Zd P,Zd Q] s=.ok (.bl aj) s:=by
 refine Zq (fn:=YC) rfl (by decide) rfl ?_
 let ρ (a3 a4 a5 a6:Option V):Env:=[aa (spV p n),aa (Zd P),aa (Zd Q),a3,a4,a5,a6]
 show rvs (CV (d+8)) [] YC.body (ρ af af af af) [] s=_
 dsimp only[YC]
 have e3:pv (CV (d+8)) (.call 9 [(.v 0),(.v 2)]) (ρ af af af af) s=.ok (.dct (aa (ZV p n Q))) s:=Zm (Za (Zf rfl) (Za (Zf rfl) Ze)) (zm (d+6) s hn hQ (by lia))
 rw[Zj (ZL e3 rfl)];show rvs _ _ _ (ρ (aa (.dct (aa (ZV p n Q)))) af af af) [] s=_;have hp:=Qm (p:=p);have hlen:(ZV p n P).length<=500:=by
  rw[ze];exact bY (dO (by lia) (dsum hP)) hl
 have hc:=Y6 (C:=CV (d+8)) (cap:=[3]) (nl:=1) (t:=[0]) (it:=.dk (.call 9 [(.v 0),(.v 1)])) (tst:=.cmp .nin (.v 0) (.v 1)) (elt:=.v 0) (ρ:=ρ (aa (.dct (aa (ZV p n Q)))) af af af) (s:=s) (l:=ZV p n P) (e:=Zc) (g:=Zc)
  (by rw[pvw,Zm (Za (Zf (v:=spV p n) rfl) (Za (Zf (v:=Zd P) rfl) Ze)) (zm (d+6) s hn hP (by lia))];rfl) (by unfold lim;lia) (λr hr=>⟨[aa (Zc r),aa (.dct (aa (ZV p n Q)))],.bl (!(ZV p n Q).contains r),rfl,by
   rw[pv,Zf (v:=Zc r) rfl,Zb,Zf (v:=.dct (aa (ZV p n Q))) rfl,Zb];show po (((intsV (r.map V.int)).map λk=>(ZV p n Q).contains k).map λb=>V.bl !b) s=_
   rw[YL];rfl,rfl,λ_=>Zf rfl⟩)
 have e4:pv (CV (d+8)) (.blt .sorted [(.comp1 [3] 1 [0] (.dk (.call 9 [(.v 0),(.v 1)])) [(.cmp .nin (.v 0) (.v 1))] (.v 0))]) (ρ (aa (.dct (aa (ZV p n Q)))) af af af) s=.ok (.lst ((Vr p n P Q).map Zc)) s:=by
  rw[pv,Za hc Ze,Zb,<-zC hP hQ];exact GT h1 (λr hr=>((Vb hP).mp (c7.mp hr).1).1) ((JF hP).sublist gB) (bY (fN ..) (by lia))
 rw[Zj (ZL e4 rfl)];show rvs _ _ _ (ρ (aa (.dct (aa (ZV p n Q)))) (aa (.lst ((Vr p n P Q).map Zc))) af af) [] s=_;have hb:(Vr p n P Q).length<=500:=by
  rw[<-zC hP hQ,(Sd.YS _).length_eq];exact bY (fN ..) hlen
 let B:List Sm:=[.asg [6] (.call 24 [(.v 0),(.v 1),(.v 2)]),
  .ite (.or (.not (.isi (.v 6) [.bool])) (.cmp .ne (.v 6) (.cmp .eq (.v 4) (.lst [])))) [.ret (.c (.bl al))] [],
  .ite (.not (.call 25 [(.call 27 [(.v 0),(.v 1),(.v 2)]),(.ix (.bin .add (.v 4) (.lst [(.c .non)])) (.c (.int 0)))])) [.ret (.c (.bl al))] []]
 let ρ1 (a5 a6:Option V):Env:=ρ (aa (.dct (aa (ZV p n Q)))) (aa (.lst ((Vr p n P Q).map Zc))) a5 a6
 have turn:∀x a6,∃b6,rvs (CV (d+8)) [] B (ρ1 x a6) [] s=.ok (.nx (ρ1 x b6) []) s:=λx a6=>by
  refine⟨aa (.bl (P.all (ZD p Q))),?_⟩;have k1:pv (CV (d+8)) (.call 24 [(.v 0),(.v 1),(.v 2)]) (ρ1 x a6) s=.ok (.bl (P.all (ZD p Q))) s:=Zm (Za (Zf rfl) (Za (Zf rfl) (Za (Zf rfl) Ze))) (wR (d+2) s hn hP hQ);rw[Zj (ZL k1 rfl)];show rvs _ _ _ (ρ1 x (aa (.bl (P.all (ZD p Q))))) [] s=_;have k2:pv (CV (d+8)) (.cmp .eq (.v 4) (.lst [])) (ρ1 x (aa (.bl (P.all (ZD p Q))))) s=.ok (.bl (P.all (ZD p Q))) s:=by
   rw[pv,Zf (v:=.lst ((Vr p n P Q).map Zc)) rfl,Zb,pv,pvs,Zb,T9 (by decide),Zb]
   have hz:=ZbF hP hQ;cases e:Vr p n P Q with
   |nil=>
    rw[hz.mp e];rfl
   |cons r l=>
    have:P.all (ZD p Q)=al:=by
     cases q:P.all (ZD p Q)with|false=>rfl|true=>rw[hz.mpr q]at e;cases e
    rw[this];rfl
  have k3:pv (CV (d+8)) (.or (.not (.isi (.v 6) [.bool])) (.cmp .ne (.v 6) (.cmp .eq (.v 4) (.lst [])))) (ρ1 x (aa (.bl (P.all (ZD p Q))))) s=.ok (.bl al) s:=by
   have a1:pv (CV (d+8)) (.isi (.v 6) [.bool]) (ρ1 x (aa (.bl (P.all (ZD p Q))))) s=.ok (.bl aj) s:=by
    rw[pv,Zf (v:=.bl (P.all (ZD p Q))) rfl];rfl
   refine qo (Xy a1) ?_;rw[pv,Zf (v:=.bl (P.all (ZD p Q))) rfl,Zb,k2,Zb];show po (aa (V.bl !(ag (P.all (ZD p Q)=P.all (ZD p Q))))) s=_;rw[T5 rfl];rfl
  have k4:pv (CV (d+8)) (.ix (.bin .add (.v 4) (.lst [(.c .non)])) (.c (.int 0))) (ρ1 x (aa (.bl (P.all (ZD p Q))))) s=.ok (ZaG (XQ p n P Q)) s:=by
   have g1:pv (CV (d+8)) (.lst [(.c .non)]) (ρ1 x (aa (.bl (P.all (ZD p Q))))) s=.ok (.lst [.non]) s:=by simp[pvE,ofD]
   rw[pv,pv,Zf (v:=.lst ((Vr p n P Q).map Zc)) rfl,Zb,g1,Zb];show((if((Vr p n P Q).map Zc).length+1<=lim then PR.ok (V.lst ((Vr p n P Q).map Zc++[.non])) s else .no).bind _)=_
   rw[T9 (by rw[aB];unfold lim;lia),Zb,Yd,Zb,<-zg]
   cases Vr p n P Q with
   |nil=>rfl
   |cons r l=>
    show po (at' (Zc r::(l.map Zc++[.non])) 0) s=_;unfold at' ixN;rw[T9 (Int.le_refl 0),T9 (by rw[aQ];lia)];rfl
  rw[guard k3,guard (Xy (Zm (Za (Zm (Za (Zf rfl) (Za (Zf rfl) (Za (Zf rfl) Ze))) (Vd (d+2) s hn hP hQ)) (Za k4 Ze)) (qx (d+6) s λr e=>by rw[(zk hP hQ e).1.1];lia))),rvs]
 obtain⟨ρ',h',e⟩:=V2 (C:=CV (d+8)) (ms:=[]) (t:=[5]) (it:=.rng1 (.c (.int 2))) (b:=B) (L:=aY 2) (e:=Zx) (os:=[]) (s:=s) (ρ:=ρ1 af af) (λ_ ρ=>∃a5 a6,ρ=ρ1 a5 a6) (Xx Yd (by decide)) ⟨af,af,rfl⟩ rfl (λx l ρ ⟨a5,a6,h⟩=>by
  subst h;obtain⟨b6,t⟩:=turn (aa (Zx x)) a6;exact⟨by rfl,_,_,rfl,t,_,_,rfl⟩)
 obtain⟨a5,a6,rfl⟩:=h';rw[Zj e];exact Zl (ZI (by rw[pv];rfl))
end
def pZ.sub{p n:Nat}[Base p]{P Q:List Row}(h:pZ p n P)(s:Q.Sublist P):pZ p n Q:=by
 have m:(toP p Q).Sublist (toP p P):=s.map _;exact⟨λr hr=>h.row r (s.subset hr),⟨⟨h.pn.rf.inc.sublist m,λa ha=>h.pn.rf.low a (m.subset ha),λa ha=>h.pn.rf.one a (m.subset ha),λa ha b hb=>h.pn.rf.zer a (m.subset ha) b (m.subset hb)⟩,λa ha=>h.pn.lt a (m.subset ha),λa ha=>h.pn.sp a (m.subset ha)⟩⟩
def ZbQ{xs:List V}{k:Nat}:Yr xs (aa (k:Int)) af=xs.drop k:=by
 unfold Yr sIx
 dsimp only
 rw[T8 (by lia),dC]
 by_cases h:k<=xs.length
 ·rw[iY h];exact cq (by rw[bB];lia)
 ·rw[o4 (by lia),fB (aI _),fB (by lia),List.take_nil]
section
variable{p n:Nat}[Base p]
def VP(d:Nat){x y:V}(s:DS)(hn:n<=6)(hx:Th 1000 x)(hy:Th 1000 y):CV (d+5) 18 [spV p n,x,y] s=if isP p n x=aj/\isP p n y=aj then .ok .non s else .ex 2 s:=by
 have e1:=Wh (p:=p) (n:=n) d s hn hx.1 hx.2;have e2:=Wh (p:=p) (n:=n) d s hn hy.1 hy.2;have g:∀{v:V}{i:Nat},([aa (spV p n),aa x,aa y]:Env)[i]?=aa (aa v)->CV (d+4) 17 [spV p n,v] s=.ok .non s->rv (CV (d+4)) [] (.ex (.call 17 [(.v 0),(.v i)])) [aa (spV p n),aa x,aa y] [] s=.ok (.nx [aa (spV p n),aa x,aa y] []) s:=λ{v i} h e=>by
  rw[rv]
  ·rw[Zm (Za (Zf rfl) (Za (Zf h) Ze)) e];rfl
  all_goals(intro i e z;cases z)
 cases h1:isP p n x with
 |false=>
  rw[h1,T8 (by simp)]at e1
  rw[T8 (by simp)]
  refine WI rfl (by decide) rfl ?_
  dsimp only[Z4]
  exact JO (JL (X0 (Za (Zf rfl) (Za (Zf rfl) Ze)) e1))
 |true=>
  rw[h1,T9 rfl]at e1;cases h2:isP p n y with
  |false=>
   rw[h2,T8 (by simp)]at e2
   rw[T8 (by simp)]
   refine WI rfl (by decide) rfl ?_
   show rvs (CV (d+4)) [] Z4.body [aa (spV p n),aa x,aa y] [] s=_
   dsimp only[Z4]
   rw[Zj (g rfl e1)];exact JO (JL (X0 (Za (Zf rfl) (Za (Zf rfl) Ze)) e2))
  |true=>
   rw[h2,T9 rfl]at e2;rw[T9 ⟨rfl,rfl⟩];refine JQ (ρ:=[aa (spV p n),aa x,aa y]) (os:=[]) rfl (by decide) rfl ?_
   show rvs (CV (d+4)) [] Z4.body [aa (spV p n),aa x,aa y] [] s=_
   dsimp only[Z4]
   rw[Zj (g rfl e1),Zj (g rfl e2),rvs]
def jw(d:Nat){x y:V}(s:DS)(hn:n<=6)(hx:Th 1000 x)(hy:Th 1000 y)(h:¬(isP p n x=aj/\isP p n y=aj)):CV (d+6) 24 [spV p n,x,y] s=.ex 2 s:=by
 have e:=VP (p:=p) d s hn hx hy;rw[T8 h]at e;refine WI rfl (by decide) rfl ?_
 dsimp only[Qv]
 exact JO (JL (X0 (Za (Zf rfl) (Za (Zf rfl) (Za (Zf rfl) Ze))) e))
def Qt(d:Nat){x y:V}(s:DS)(hn:n<=6)(hx:Th 1000 x)(hy:Th 1000 y)(h:¬(isP p n x=aj/\isP p n y=aj)):CV (d+6) 27 [spV p n,x,y] s=.ex 2 s:=by
 have e:=VP (p:=p) d s hn hx hy;rw[T8 h]at e;refine WI rfl (by decide) rfl ?_
 dsimp only[XI]
 exact JO (JL (X0 (Za (Zf rfl) (Za (Zf rfl) (Za (Zf rfl) Ze))) e))
end
def Zbx{C:ZB}{ρ:Env}{s s':DS}{e:E}{w:Bool}{v:V}(h:pv C e ρ s=.ok v s'):pv C (.refu w e) ρ s=.ok .non s':=by rw[pv,h]
def Zbr{C:ZB}{ρ:Env}{s s':DS}{e:E}{w:Bool}{c:Nat}(h:pv C e ρ s=.ex c s')(hc:1<=c/\c<=10):pv C (.refu w e) ρ s=.ok (jV w (c-1)) s':=by
 rw[pv,h];show(if 1<=c/\c<=10 then _ else _)=_
 rw[T9 hc]
def ne_str{C:ZB}{ρ:Env}{s:DS}{a b:E}{x:PySem.Str}(h1:pv C a ρ s=.ok (.str x) s)(h2:pv C b ρ s=.ok (.str x) s):pv C (.cmp .ne a b) ρ s=.ok (.bl al) s:=by
 rw[pv,h1,Zb,h2,Zb];show po (aa (V.bl !(ag (x=x)))) s=_;rw[T5 rfl];rfl
def Zes{C:ZB}{ρ:Env}{s:DS}{a b:E}{x y:Bool}(h1:pv C a ρ s=.ok (.bl x) s)(h2:pv C b ρ s=.ok (.bl y) s):pv C (.or a b) ρ s=.ok (.bl (x||y)) s:=by
 rw[pv,h1];cases x
 ·exact h2
 ·rfl
noncomputable def thB:List Sm:=[.asg [13] (.ix (.lst [(.c .non),(.c (.str (bw "part")))]) (.blt .toInt [(.or (.not (.call 32 [(.v 3),(.v 11)])) (.not (.call 32 [(.v 3),(.v 12)])))])),
  .ite (.cmp .ne (.refu aj (.call 24 [(.v 3),(.v 11),(.v 12)])) (.v 13)) [.ret (.c (.bl al))] [],
  .ite (.cmp .ne (.refu aj (.call 27 [(.v 3),(.v 11),(.v 12)])) (.v 13)) [.ret (.c (.bl al))] []]
noncomputable def riB:List Sm:=[.ite (.or (.not (.call 28 [(.v 3),(.v 4),(.v 8)])) (.not (.call 28 [(.v 3),(.v 8),(.v 4)]))) [.ret (.c (.bl al))] []]
noncomputable def ZcP:List Sm:=[.asg [3] (.call 3 [(.v 2),(.ix (.lst [(.c (.int 27)),(.c (.int 125))]) (.blt .toInt [(.cmp .eq (.v 1) (.c (.int 0)))]))]),
  .par [4,5] [(.call 7 [(.v 2),(.v 3)]),(.call 7 [(.v 2),(.v 3)])],
  .asg [6] (.call 5 [(.v 3),(.bin .add (.v 4) (.tup [(.call 6 [(.v 2),(.v 3)])]))]),
  .asg [7] (.call 2 [(.v 2),(.bin .add (.blt .len [(.v 4)]) (.c (.int 1)))]),
  .forr [8] (.of (.lst [(.v 5),(.v 6),(.bin .add (.sl (.v 4) af (aa (.v 7))) (.sl (.v 4) (aa (.bin .add (.v 7) (.c (.int 1)))) af)),(.v 4),(.tup [])])) riB,
  .par [9,10] [(.call 8 [(.v 2),(.v 3),(.v 4)]),(.ix (.lst [(.call 8 [(.v 2),(.v 3),(.v 5)]),(.call 29 [(.v 2)])]) (.call 2 [(.v 2),(.c (.int 2))]))],
  .forr [11,12] (.of (.lst [(.tup [(.v 9),(.v 5)]),(.tup [(.v 4),(.v 10)]),(.tup [(.v 9),(.v 10)]),(.tup [(.v 10),(.v 9)])])) thB]
section
variable{p n:Nat}[Base p]
def Zd4(d:Nat){x y:V}(s:DS)(hn:n<=6)(hx:Th 1000 x)(hy:Th 1000 y){a0 a1 a2 a4 a5 a6 a7 a8 a9 a10 a13:Option V}:∃b,rvs (CV (d+9)) [] thB [a0,a1,a2,aa (spV p n),a4,a5,a6,a7,a8,a9,a10,aa x,aa y,a13] [] s=.ok (.nx [a0,a1,a2,aa (spV p n),a4,a5,a6,a7,a8,a9,a10,aa x,aa y,b] []) s:=by
 have e1:=VG (p:=p) (n:=n) (d+6) s hn hx.1 hx.2;have e2:=VG (p:=p) (n:=n) (d+6) s hn hy.1 hy.2
 let tt:E:=.or (.not (.call 32 [(.v 3),(.v 11)])) (.not (.call 32 [(.v 3),(.v 12)]))
 have w:∀(b:Bool)(ρ:Env),pv (CV (d+9)) tt ρ s=.ok (.bl b) s->pv (CV (d+9)) (.ix (.lst [(.c .non),(.c (.str (bw "part")))]) (.blt .toInt [tt])) ρ s=.ok (if b=aj then .str (bw "part")else .non) s:=λb ρ h=>by
  have g1:pv (CV (d+9)) (.lst [(.c .non),(.c (.str (bw "part")))]) ρ s=.ok (.lst [.non,.str (bw "part")]) s:=by simp[pvE,ofD]
  rw[pv,g1,Zb,pv,Za h Ze,Zb];cases b<;>rfl
 let ρ (a13:Option V):Env:=[a0,a1,a2,aa (spV p n),a4,a5,a6,a7,a8,a9,a10,aa x,aa y,a13]
 have e3:=w _ (ρ a13) (Zes (Xy (Zm (Za (Zf rfl) (Za (Zf (v:=x) rfl) Ze)) e1)) (Xy (Zm (Za (Zf rfl) (Za (Zf (v:=y) rfl) Ze)) e2)));unfold thB;rw[Zj (ZL e3 rfl)];by_cases hp:isP p n x=aj/\isP p n y=aj
 ·obtain⟨h1,h2⟩:=hp
  obtain⟨P,rfl,hP⟩:=WJ.mp h1;obtain⟨Q,rfl,hQ⟩:=WJ.mp h2;refine⟨aa .non,?_⟩;rw[h1,h2];have j:∀{f:Nat}{v:V},CV (d+9) f [spV p n,Zd P,Zd Q] s=.ok v s->pv (CV (d+9)) (.cmp .ne (.refu aj (.call f [(.v 3),(.v 11),(.v 12)])) (.v 13)) (ρ (aa .non)) s=.ok (.bl al) s:=λ{f v} h=>by
   rw[pv,Zbx (Zm (Za (Zf (i:=3) rfl) (Za (Zf (i:=11) (v:=Zd P) rfl) (Za (Zf (i:=12) (v:=Zd Q) rfl) Ze))) h),Zb,Zf (v:=.non) rfl];rfl
  show rvs _ _ _ (ρ (aa .non)) [] s=_;rw[guard (j (wR (d+3) s hn hP hQ)),guard (j (Vd (d+3) s hn hP hQ)),rvs]
 ·refine⟨aa (.str (bw "part")),?_⟩
  have hb:(!isP p n x || !isP p n y)=aj:=by
   cases h1:isP p n x<;>cases h2:isP p n y<;>first|rfl|exact T7 ⟨h1,h2⟩ hp
  rw[hb];have j:∀{f:Nat},CV (d+9) f [spV p n,x,y] s=.ex 2 s->pv (CV (d+9)) (.cmp .ne (.refu aj (.call f [(.v 3),(.v 11),(.v 12)])) (.v 13)) (ρ (aa (.str (bw "part")))) s=.ok (.bl al) s:=λ{f} h=>
   ne_str (Zbr (w:=aj) (X0 (Za (Zf (i:=3) (v:=spV p n) rfl) (Za (Zf (i:=11) (v:=x) rfl) (Za (Zf (i:=12) (v:=y) rfl) Ze))) h) ⟨by decide,by decide⟩) (Zf rfl)
  show rvs _ _ _ (ρ (aa (.str (bw "part")))) [] s=_;rw[guard (j (jw (d+3) s hn hx hy hp)),guard (j (Qt (d+3) s hn hx hy hp)),rvs]
theorem vq{P:List Row}(hn:n<=6)(hP:pZ p n P):Th 1000 (Zd P):=⟨xM P,λxs e=>by have:=Uz hP xs e;lia⟩
end
def jU:∀q∈ZdH++Zd2,q.1^q.2<=125:=by decide
def Zaa(d:Nat)(o0:Option V)(k:Nat)(s:DS):∃ρ' os' s',rvs (CV (d+9)) [] ZcP (o0::aa (.int k)::aa .drw::aH 11 af) [] s=.ok (.nx ρ' os') s'/\ρ'[0]?=aa o0/\ρ'.length=11+3:=by
 unfold ZcP
 let ρ (a3 a4 a5 a6 a7 a8 a9 a10 a11 a12 a13:Option V):Env:=[o0,aa (.int k),aa .drw,a3,a4,a5,a6,a7,a8,a9,a10,a11,a12,a13]
 show ∃ρ' os' s',rvs (CV (d+9)) [] _ (ρ af af af af af af af af af af af) [] s=.ok (.nx ρ' os') s'/\ρ'[0]?=aa o0/\ρ'.length=11+3;obtain⟨m,e0,hm⟩:∃m:Int,pv (CV (d+9)) (.ix (.lst [(.c (.int 27)),(.c (.int 125))]) (.blt .toInt [(.cmp .eq (.v 1) (.c (.int 0)))])) (ρ af af af af af af af af af af af) s=.ok (.int m) s/\2<=m:=by
  have g1:pv (CV (d+9)) (.lst [(.c (.int 27)),(.c (.int 125))]) (ρ af af af af af af af af af af af) s=.ok (.lst [.int 27,.int 125]) s:=by simp[pvE,ofD]
  have g2:pv (CV (d+9)) (.blt .toInt [(.cmp .eq (.v 1) (.c (.int 0)))]) (ρ af af af af af af af af af af af) s=.ok (.int (b2i (ag ((k:Int)=0)))) s:=by
   rw[pv,Za (v:=.bl (ag ((k:Int)=0))) (by rw[pv,Zf (v:=.int k) rfl,Zb,Yd];rfl) Ze];rfl
  by_cases c:(k:Int)=0
  ·refine⟨125,?_,by lia⟩
   rw[pv,g1,Zb,g2,Zb,T5 c];rfl
  ·refine⟨27,?_,by lia⟩
   rw[pv,g1,Zb,g2,Zb,T4 c];rfl
 obtain⟨p,n,s1,f1,f2,f3,f4,f5⟩:=uy (d+7) (m:=m) s hm;have hB:Base p:=⟨f2⟩;have hpn:p^n<=500:=bY (jU (p,n) f5) (by decide)
 rw[Zj (ZL (Zm (Za (Zf rfl) (Za e0 Ze)) f1) rfl)];obtain⟨P,s2,p1,hP⟩:=G5 (p:=p) (n:=n) (d+6) s1 f4;obtain⟨Q,s3,p2,hQ⟩:=G5 (p:=p) (n:=n) (d+6) s2 f4;rw[Zj (ρ':=ρ (aa (spV p n)) (aa (Zd P)) (aa (Zd Q)) af af af af af af af af) (os':=[]) (s':=s3) (by
  rw[rv];show(pvs _ _ (ρ (aa (spV p n)) af af af af af af af af af af) s1).bind _=_;rw[Za (Zm (Za (Zf rfl) (Za (Zf rfl) Ze)) p1) (Za (Zm (Za (Zf rfl) (Za (Zf rfl) Ze)) p2) Ze)];rfl)]
 let ρA (a6 a7 a8:Option V):Env:=ρ (aa (spV p n)) (aa (Zd P)) (aa (Zd Q)) a6 a7 a8 af af af af af
 have hPl:=dsum hP;obtain⟨r0,s3a,w1,hr0⟩:=Wp (p:=p) (n:=n) (d+7) s3 f4;have w2:pv (CV (d+9)) (.bin .add (.v 4) (.tup [(.call 6 [(.v 2),(.v 3)])])) (ρA af af af) s3=.ok (Zd (P++[r0])) s3a:=by
  have w3:pv (CV (d+9)) (.tup [(.call 6 [(.v 2),(.v 3)])]) (ρA af af af) s3=.ok (.tup [Zc r0]) s3a:=by
   rw[pv,Za (Zm (Za (Zf rfl) (Za (Zf rfl) Ze)) w1) Ze];rfl
  rw[pv,Zf (v:=Zd P) rfl,Zb,w3,Zb];show(if(P.map Zc).length+1<=lim then PR.ok (V.tup (P.map Zc++[Zc r0])) s3a else .no)=_
  rw[T9 (by rw[aB];unfold lim;lia)]
  unfold Zd;rw[bP];rfl
 obtain⟨M,w4,hM⟩:=XS (p:=p) (n:=n) (d+7) (R:=P++[r0]) (v:=Zd (P++[r0])) s3a f4 (λr hr=>by
  rcases cu.mp hr with z|z
  ·exact hP.row r z
  ·rw[aU.mp z];exact hr0) (by rw[bp,fK];lia) rfl
 rw[Zj (ZL (Zm (Za (Zf rfl) (Za w2 Ze)) w4) rfl)];show ∃ρ' os' s',rvs _ _ _ (ρA (aa (Zd M)) af af) [] s3a=.ok (.nx ρ' os') s'/\ρ'[0]?=aa o0/\ρ'.length=11+3;have w5:pv (CV (d+9)) (.bin .add (.blt .len [(.v 4)]) (.c (.int 1))) (ρA (aa (Zd M)) af af) s3a=.ok (.int ((P.length:Int)+1)) s3a:=by
  rw[pv,G0 (P:=P) (Zf rfl),Zb,Yd];rfl
 obtain⟨zz,s3b,w6,z0,z1⟩:=Z6 (d+8) s3a (m:=(P.length:Int)+1) (ρ:=ρA (aa (Zd M)) af af) (i:=2) rfl w5 (by lia) (by lia)
 obtain⟨z,rfl⟩:∃z:Nat,zz=z:=⟨zz.toNat,by lia⟩
 rw[Zj (ZL w6 rfl)]
 let ρB (a8:Option V):Env:=ρA (aa (Zd M)) (aa (.int z)) a8
 show ∃ρ' os' s',rvs _ _ _ (ρB af) [] s3b=.ok (.nx ρ' os') s'/\ρ'[0]?=aa o0/\ρ'.length=11+3;have w7:pvw (CV (d+9)) (.of (.lst [(.v 5),(.v 6),(.bin .add (.sl (.v 4) af (aa (.v 7))) (.sl (.v 4) (aa (.bin .add (.v 7) (.c (.int 1)))) af)),(.v 4),(.tup [])])) (ρB af) s3b=.ok ([Q,M,P.take z++P.drop (z+1),P,[]].map Zd) s3b:=by
  have v1:pv (CV (d+9)) (.bin .add (.v 7) (.c (.int 1))) (ρB af) s3b=.ok (.int ((z+1:Nat):Int)) s3b:=by
   rw[pv,Zf (v:=.int z) rfl,Zb,Yd];rfl
  have v2:=Xh (xL (a:=.v 4) (b:=.v 7) (xs:=P.map Zc) (C:=CV (d+9)) (ρ:=ρB af) (s:=s3b) (Zf rfl) (k:=z) (Zf rfl)) (WK (a:=.v 4) (xs:=P.map Zc) (Zf rfl) v1) (bY (Nat.add_le_add YI YI) (by rw[aB];lia))
  rw[Zac (by rw[aB];lia),ZbQ,<-rG,<-rH,<-bP]at v2
  have v3:pv (CV (d+9)) (.tup []) (ρB af) s3b=.ok (.tup []) s3b:=by rw[pv,pvs];rfl
  rw[pvw,pv,Za (Zf (v:=Zd Q) rfl) (Za (Zf (v:=Zd M) rfl) (Za v2 (Za (Zf (v:=Zd P) rfl) (Za v3 Ze))))];rfl
 have parts5:∀R∈[Q,M,P.take z++P.drop (z+1),P,[]],pZ p n R:=by
  intro R hR;simp only[az,List.mem_nil_iff,or_false]at hR;rcases hR with rfl|rfl|rfl|rfl|rfl
  ·exact hQ
  ·exact hM.part
  ·refine pZ.sub hP ?_
   have:(P.take z++P.drop (z+1)).Sublist (P.take z++P.drop z):=(List.Sublist.refl _).append (by rw[<-g7];exact oq ..)
   rwa [cG]at this
  ·exact hP
  ·exact pZ.nil
 obtain⟨ρ8,⟨a8,rfl,_⟩,w8⟩:=V2 (C:=CV (d+9)) (ms:=[]) (t:=[8]) (b:=riB) (L:=[Q,M,P.take z++P.drop (z+1),P,[]]) (e:=Zd) (os:=[]) (s:=s3b) (ρ:=ρB af) (λl ρ'=>∃a8,ρ'=ρB a8/\∀R∈l,pZ p n R) w7 ⟨af,rfl,parts5⟩ rfl (λR l ρ' hI=>by
  obtain⟨a8,rfl,hl⟩:=hI;have hR:=hl R (ao ..);refine⟨by rfl,ρB (aa (Zd R)),ρB (aa (Zd R)),rfl,?_,aa (Zd R),rfl,λR hR=>hl R (aq _ hR)⟩
  unfold riB;rw[guard (qo (Xy (Zm (Za (Zf rfl) (Za (Zf rfl) (Za (Zf rfl) Ze))) (Q5 d s3b f4 f3 hP hR hpn))) (Xy (Zm (Za (Zf rfl) (Za (Zf rfl) (Za (Zf rfl) Ze))) (Q5 d s3b f4 f3 hR hP hpn)))),rvs])
 rw[Zj w8];obtain⟨x1,s4,b1,t1⟩:=zU (p:=p) (n:=n) (d+6) s3b f4 f3 hP;obtain⟨x2,s5,b2,t2⟩:=zU (p:=p) (n:=n) (d+6) s4 f4 f3 hQ;obtain⟨x3,s6,b3,t3⟩:=ZbV (d+7) s5
 let ρ1:Env:=ρB a8
 obtain⟨v,s7,q1,v0,v1⟩:=Z6 (d+8) s6 (m:=2) (ρ:=ρ1) (i:=2) (e:=.c (.int 2)) rfl Yd (by decide) (by decide)
 obtain⟨x4,m4,q4⟩:=pick (a:=.lst [(.call 8 [(.v 2),(.v 3),(.v 5)]),(.call 29 [(.v 2)])]) (xs:=[x2,x3]) (s:=s4) (by
  rw[pv,Za (Zm (Za (Zf (i:=2) (ρ:=ρ1) rfl) (Za (Zf rfl) (Za (Zf rfl) Ze))) b2) (Za (Zm (Za (Zf rfl) Ze) b3) Ze)];rfl) q1 v0 v1
 have t4:Th 1000 x4:=by
  rcases az.mp m4 with rfl|m4
  ·exact t2
  ·rw[aU.mp m4];exact t3
 let ρ2 (a11 a12 a13:Option V):Env:=ρ (aa (spV p n)) (aa (Zd P)) (aa (Zd Q)) (aa (Zd M)) (aa (.int z)) a8 (aa x1) (aa x4) a11 a12 a13
 rw[Zj (ρ':=ρ2 af af af) (os':=[]) (s':=s7) (by
  rw[rv];show(pvs _ _ ρ1 s3b).bind _=_;rw[Za (Zm (Za (Zf rfl) (Za (Zf rfl) (Za (Zf rfl) Ze))) b1) (Za q4 Ze)];rfl)]
 have hl:pvw (CV (d+9)) (.of (.lst [(.tup [(.v 9),(.v 5)]),(.tup [(.v 4),(.v 10)]),(.tup [(.v 9),(.v 10)]),(.tup [(.v 10),(.v 9)])])) (ρ2 af af af) s7=.ok [.tup [x1,Zd Q],.tup [Zd P,x4],.tup [x1,x4],.tup [x4,x1]] s7:=by
  simp[pvE,ρ2,ρ]
 have tP:=vq f4 hP;have tQ:=vq f4 hQ;have r1:∀x y,Th 1000 x->Th 1000 y->∀a10,∃b,rvs (CV (d+9)) [] thB (ρ2 (aa x) (aa y) a10) [] s7=.ok (.nx (ρ2 (aa x) (aa y) b) []) s7:=λx y hx hy a10=>Zd4 (p:=p) (n:=n) d s7 f4 hx hy
 obtain⟨c1,k1⟩:=r1 x1 (Zd Q) t1 tQ af;obtain⟨c2,k2⟩:=r1 (Zd P) x4 tP t4 c1;obtain⟨c3,k3⟩:=r1 x1 x4 t1 t4 c2;obtain⟨c4,k4⟩:=r1 x4 x1 t4 t1 c3;refine⟨ρ2 (aa x4) (aa x1) c4,[],s7,?_,rfl,rfl⟩;rw[Zj (ρ':=ρ2 (aa x4) (aa x1) c4) (os':=[]) (s':=s7) ?_,rvs];rw[rv];show(pvw _ _ (ρ2 af af af) s7).bind _=_;rw[hl,Zb]
 let bd:V->Env->List Nat->DS->PR FlV:=λx ρ os s=>if(([11,12]:List Nat).any os.contains)=aj then .no else if(os.isEmpty||x.flat)=aj then(po (Zo [11,12] x ρ) s).bind λρ s=>rvs (CV (d+9)) [] thB ρ os s else .no
 have step:∀x y xs a8 a9 a10 b,rvs (CV (d+9)) [] thB (ρ2 (aa x) (aa y) a10) [] s7=.ok (.nx (ρ2 (aa x) (aa y) b) []) s7->Yz bd (.tup [x,y]::xs) (ρ2 a8 a9 a10) [] s7=Yz bd xs (ρ2 (aa x) (aa y) b) [] s7:=λx y xs a8 a9 a10 b h=>by
  rw[Yz];show((if(([11,12]:List Nat).any ([]:List Nat).contains)=aj then PR.no else _).bind _)=_
  rw[T8 (by simp),T9 (by rfl)]
  show(((PR.ok (ρ2 (aa x) (aa y) a10) s7).bind λρ s=>rvs (CV (d+9)) [] thB ρ [] s).bind _)=_
  rw[Zb,h];rfl
 show Yz bd _ _ _ _=_;rw[step x1 (Zd Q) _ _ _ _ _ k1,step (Zd P) x4 _ _ _ _ _ k2,step x1 x4 _ _ _ _ _ k3,step x4 x1 _ _ _ _ _ k4,Yz]
def law_ok(ns:List Int)(s:DS):∃S,Zn fns 2 63 34 [.scr ns] s=.ok (.bl aj) S:=
 Lv.law_of (d:=60) (by decide) (by decide) (by decide) rfl rfl rfl (by decide) (Zaa 53) ns s
end K22
namespace PySem.W.Fast
def tw5333042076735022398:=0
def tw18164441506374457453:=0
def tw8252549090739404036:=0
def tw12020219219880091544:=0
def tw3405934981955650536:=0
def tw4635504737274057220:=0
def tw11562259589533055621:=0
def tw1104628711100091304:=0
def tw10592209981925728975:=0
def tw2586881411645457895:=0
def tw3132261469498168135:=0
def tw4549503986444823998:=0
def tw10313724823445343886:=0
def tw5673885387023528727:=0
def tw6236985261003111367:=0
def tw11922239365543206053:=0
def tw1645433147140612243:=0
def tw13064951036494153739:=0
def tw1478546373979307072:=0
def tw16395752181725286168:=0
def tw4792669670442220000:=0
def tw5988918799912026976:=0
def tw14889775796470718907:=0
def tw9817083611907243215:=0
def tw18016231807988542906:=0
def tw16131386425280044115:=0
def tw4358506407185468841:=0
def tw485200312598060129:=0
def tw4840970908004547164:=0
def tw5874693821111421784:=0
def tw4457452685923796729:=0
def tw17474403045685802741:=0
def tw6296171950865259288:=0
def tw11550276858776764088:=0
def tw15024745217000238309:=0
def tw794468502974839949:=0
def tw7099968928625465487:=0
def tw3504064804153288587:=0
def tw2004677143226557526:=0
def tw7967960699863692498:=0
def tw1000693709840931018:=0
def tw7146153041641933542:=0
def tw478407430318032721:=0
def tw17737367272202101809:=0
def tw2531490553919565734:=0
def tw16803523035591324076:=0
def tw92768932880204008:=0
def tw12820982556311434021:=0
def tw14919687920484336824:=0
def tw5638134473374260362:=0
def tw4183434372716837200:=0
def tw11663121041584210396:=0
def tw5551197490030013103:=0
def tw11189276778272483333:=0
def tw6199392184252424680:=0
def tw8891283217423624297:=0
def tw12922385869272155919:=0
def tw10319870184966958692:=0
def tw10634445716334727250:=0
def tw1464224444037312992:=0
def tw12030692573476658957:=0
def tw14807376404478001243:=0
def tw11346607746459170962:=0
def tw2003948448117423370:=0
def tw7546973762708160582:=0
def tw14275379186830978540:=0
def tw5048844298456652305:=0
def tw2656910068408692446:=0
def tw1462494769336678305:=0
def tw10568621625579314096:=0
def tw6414126795410443308:=0
def tw11186388276699720262:=0
def tw3783398971894507305:=0
def tw7857369981479119814:=0
def tw17373908226473592695:=0
def tw10278068932040944754:=0
def tw5200576862340883531:=0
def tw13573604406419054086:=0
def tw14763579749227285962:=0
def tw6215293043336234822:=0
def tw9436450306862618695:=0
def tw3965346423192196327:=0
def tw15860651147837097671:=0
def tw13873399921112815345:=0
def tw14933418545204763130:=0
def tw2022807706184505840:=0
def tw10587613973286381352:=0
def tw13813643650045224254:=0
def tw2586441941352156833:=0
def tw10491646772487544895:=0
def tw10682640809802973433:=0
def tw17228637246866760451:=0
def tw11775959230834848276:=0
def tw12882871905774222577:=0
def tw1920722448569859563:=0
def tw15772766094667476213:=0
def tw8610518173454597450:=0
def tw17925358835087053676:=0
def tw8721197692395442175:=0
def tw15057222523972125944:=0
def tw16271369366212826824:=0
def tw17396898865766253753:=0
def tw7617665989192703741:=0
def tw8865334482381580098:=0
def tw8085607323678087975:=0
def tw5163072568829115801:=0
def tw2550581210342593250:=0
def tw17966197393691230320:=0
def tw2741269895239832129:=0
def tw8667781506488742966:=0
def tw12195529349741109035:=0
def tw5213860091207581018:=0
def tw6719158670460377728:=0
def tw2844980760287457489:=0
def tw11993442633678867005:=0
def tw1692670991376946181:=0
def tw8561801696789282034:=0
def tw11132789859692285363:=0
def tw5360385105103607338:=0
def tw4295343709283589344:=0
def tw7097890864723106775:=0
def tw11308666601368341394:=0
def tw11631809925207649872:=0
def tw5176644918319186566:=0
def tw3001450567183295321:=0
def tw1752156287888363718:=0
def tw12166969603749832573:=0
def tw4188105989514588825:=0
def tw4333244234959379879:=0
def tw279750954582908152:=0
def tw4208103495077754431:=0
def tw3694209483672663766:=0
def tw1016499117956501056:=0
def tw2387893952742963634:=0
def tw11731557382386499014:=0
def tw2690726769700625355:=0
def tw5469527694541123878:=0
def tw6955664107940247300:=0
def tw5226588598127058676:=0
def tw2866678722465715192:=0
def tw9588180624381437320:=0
def tw15332955116680954013:=0
def tw11492634261885788621:=0
def tw204808194511832086:=0
def tw14352849970281408056:=0
def tw261902543267894198:=0
def tw15333121957069475880:=0
def tw443589525089179993:=0
def tw11498044119026149352:=0
def tw15402340461547352835:=0
def tw12782899555846204636:=0
def tw17301337828965745708:=0
def tw5756834139236912877:=0
def tw17736822201572304169:=0
def tw2223515109372503082:=0
def tw12640795813938870601:=0
def tw6448179300187827541:=0
def tw17728555705065973886:=0
def tw305933901371771466:=0
def tw6921230054420071691:=0
def tw14745778339431601565:=0
def tw12610355067780188908:=0
def tw7690963465736992401:=0
def tw9556626062761687745:=0
def tw14884380960792880554:=0
def tw2658253638808272854:=0
def tw16638845541853832580:=0
def tw13793546394947125122:=0
def tw1189134223342707998:=0
def tw17387273240289988056:=0
def tw5472533381878795925:=0
def tw5383622596162727203:=0
def tw14012868545907324104:=0
def tw5270906000533783393:=0
def tw12575306178579209191:=0
def tw17264958157943065306:=0
def tw4594823057979424620:=0
def tw9923024503336739497:=0
def tw7574848062283535776:=0
def tw2618727500777814789:=0
def tw10409929251093591019:=0
def tw6175526041759778360:=0
def tw940406511106119454:=0
def tw17674073020638993770:=0
def tw6550032001013946793:=0
def tw14421071036508220377:=0
def tw9055111105802077867:=0
def tw226899221492743197:=0
def tw4359883049574739736:=0
def tw14505388551459009514:=0
end PySem.W.Fast
open PySem PySem.W PyProof.Rows Gn
set_option maxRecDepth 100000 in
set_option maxHeartbeats 0 in
theorem PySem.Challenge.cw_fewspaces_k22_parts_in_one_another_holds : PySem.Challenge.rw_fewspaces_k22_parts_in_one_another.Holds := by
  w_on; o_law; k_head; (case hw => w_witness2)
  k_fill
  refine Gn.je (l := PySem.Challenge.rw_fewspaces_k22_parts_in_one_another) (F := K22.fns) (tk := K22.tk) (L := 34) (c := 355) (Pt := 351) (cl := fun _ => [24, 37, 49, 61, 73, 85, 97, 109, 121, 133, 145]) (fun ns s => K22.law_ok ns s) rfl rfl (fun w h Y => PySem.W.km_in_of Y) rfl (fun w => by kernel_rfl!) (fun w => by kernel_rfl!) ?F
  case F =>
    intro w mg fa h KX G hmg;refine' Gn.Zck (fs := K22.fs) (zs := K22.zs) (gs := K22.gs) (sn := K22.sn) KX G hmg K22.okl.1 (fun i fn e => by rw [cQ] at e; split at e; exact e; cases e) rfl (by decide) ?A ?Z ?Y ?E ?L rfl rfl rfl (by decide +kernel) (Gn.ZdG (Pp := K22.pp) K22.okl.2.1 K22.okl.2.2 (by kernel_rfl!) (by kernel_rfl!) (by kernel_rfl!) (by kernel_rfl!) (by kernel_rfl!)) ?R
    case A => repeat' (first|exact FnsAt.nil|refine' FnsAt.cons ?h1 ?h2 ?h3 ?h4 ?h5 ?_; (case h1 => k_is); (case h2 => k_is); (case h3 => k_is); (case h4 => k_is); (case h5 => first|exact bd1 fun _ _ _ _ _ _ _ => rfl|exact bd2 fun _ _ _ _ _ _ _ _ => rfl|exact bd3 fun _ _ _ _ _ _ _ _ _ => rfl|exact bd4 fun _ _ _ _ _ _ _ _ _ _ => rfl|exact bd5 fun _ _ _ _ _ _ _ _ _ _ _ => rfl|exact bd6 fun _ _ _ _ _ _ _ _ _ _ _ _ => rfl))
    case L => repeat' (first|exact FnsAt.nil|refine' FnsAt.cons ?h1 ?h2 ?h3 ?h4 ?h5 ?_; (case h1 => k_is); (case h2 => k_is); (case h3 => k_is); (case h4 => k_is); (case h5 => first|exact bd1 fun _ _ _ _ _ _ _ => rfl|exact bd2 fun _ _ _ _ _ _ _ _ => rfl|exact bd3 fun _ _ _ _ _ _ _ _ _ => rfl|exact bd4 fun _ _ _ _ _ _ _ _ _ _ => rfl|exact bd5 fun _ _ _ _ _ _ _ _ _ _ _ => rfl|exact bd6 fun _ _ _ _ _ _ _ _ _ _ _ _ => rfl))
    case Z => repeat' (first|exact ZsAt.nil|refine' ZsAt.cons ?h1 ?_; (case h1 => k_is))
    case Y => repeat' (first|exact GsAt.nil|refine' GsAt.cons ?h1 ?_; (case h1 => k_is))
    case E => kernel_rfl!
    case R => rfl
