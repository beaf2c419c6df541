import PyProof.Rows.All
import Wide.All
import OpenK.AllK
import Wide.FinOn
import Lean
import PyProof.EqAt
import PyProof.EqKinds
import PyProof.TupleCall
import PySem.Str
import PyProof.CodeObj
import PyProof.ListMulAny
import PyProof.NeKinds
import PyProof.ConsumeWalk
import PyProof.CompFree
import PyProof.ZipIter
import PyProof.Draws
import PyProof.EnumMake
import PyProof.SumWalk
import KE.KSortTup
import PyProof.Rows.SortRev
import PyProof.FactsAll.tuple
import KE.KRevIter
import PyProof.FactsAll.range_2
import PyProof.ListRange
import PyProof.TupleOfSeq
import PyProof.TupleOfGen
import PyProof.CallType
import PyProof.DictWalks
import PyProof.IsiH_list
import PyProof.RulesTry
import KE.KDictOf
import PyProof.StationsW
import PyProof.Rows.Own
import PyProof.ExcBaseAll.ValueError
import KE.KTryMore
import PyProof.ExcArgsOwn
import PyProof.IsiH_tuple
import PyProof.NsDelKeeps
import PyProof.RulesAs
import KE.KLam
import PyProof.P3Eq
import OpenK.KOwn
import PySem.Challenge.RW_fewspaces_k21_parts_joined_and_met
set_option Elab.async false
set_option linter.all false
set_option compiler.extract_closed false
set_option maxRecDepth 100000
set_option maxHeartbeats 0
abbrev T9:=@if_pos
abbrev T8:=@if_neg
abbrev T7:=@absurd
abbrev T6:=@of_decide_eq_true
abbrev T5:=@decide_eq_true
abbrev T4:=@decide_eq_false
abbrev T2:=@decide_eq_true_eq
open Option renaming some → aa,none → ac,isSome_iff_exists → bP,map_eq_none_iff → i4,isSome_map → lG,getD_none → l9,map_some → mJ
open Decidable renaming decide → ae
open PySem renaming wpAny_bind → af,Value → aq,Shared → au,Addr → aw,wpAny_pure → ax,starEach → aC,wpAny → aW,sizeLine → aY,model → aZ,Str → bc,Program → bq,mainGlobals → br,wpAny_newObj_type → bu,World → bC,Heap → bF,FuncData → bK,Around → bL,wpAny_holding → bO,wpAny_callSpecial?_slot → bU,wpAny_field → bX,eval → cb,compareOp → cg,assignEach → cu,wpAny_call_entry → cz,wpAny_mono → cB,wpAny_truthy_bool → cC,mem_of_lookup → cG,sysModules → cM,bootBuiltins → cQ,sizeLine_eq → cR,foldedSetIterable → cS,backTo → cX,Scope → c7,behindInMarks → c8,tupleKind → c9,Stmt → de,cLine → dh,wpAny_Call_Name_kw → dm,wpAny_seqItems → dq,wpAny_setField_rec → du,Obj → dB,wpAny_passesOwn → dF,binaryOp → dJ,NameKind → dU,wpAny_typeNameOfWhole_keyiter → d3,Pos → d8,wpAny_execs_nil → d9,Builtin → eF,wpAny_pyIter_list → eG,wpAny_loadPart_at → eJ,call_meets → eN,wpAny_execs_cons → eS,swapsWith → eT,wpAny_typeOf → eU,wpAny_isInstance → eW,rawInt → fb,wpAny_typeNameOf_keyiter → fj,wpAny_rule → fu,wpAny_pyIter_tuple → fv,sliceBounds → fB,codeAny → fE,cellsFrom → fS,closureFor → fT,DictEntry → fU,wpAny_standAt → fZ,swapsWithSole → gb,swappedStores → gd,wpAny_loadName_local → gh,wpAny_updateSeq_pair → gk,codeAny_call_builtin → gm,wpAny_loadName_cell → gA,codeAny_mono → gF,assign → gH,codeAmong → gK,wpAny_Name → gL,wpAny_newFunctionEnv_cells → gO,IsPart → gP,typeLookup → gT,tupleKind_room_in1 → gU,wpAny_setField → gY,wpAny_binaryOp_repeat_ref → hZ,holding → ia,getItem → ib,wpAny_sequenceKey → ig,intKind → iq,wpAny_onRaise → iC,wpAny_attempt → iD,noFill_tuple_add → iI,wpAny_pyNext_list_item → iU,typeIs_int → iY,IsPair → iZ,letOwnedTupleGo → i5,codeAny_builtin → i8,wpAny_isTrue_Compare1 → ka,wpAny_pyNext_list_end → kc,codeAny_call_function → ke,wpAny_notOrdered_dict → kg,wpAny_isOneOf_keyiter → ki,builtinLookup_eq_fast → kj,ret → ko,bindArgs → kq,wpAny_newFunctionEnv → ky,firstArgMember → kz,ZipApart → kA,BindsTo → kH,callerA → kI,wpAny_loadName_free → kJ,assignInOrder → kP,seq_tuple_add → kQ,evalPart_none → kS,wpAny_load → kZ,standAt → ly,wpAny_assign_Name → lz,concat_meets → lD,seqIndex_neg → lE,valueAt → lF,wpAny_pyIter_enum → lM,wpAny_dictEntries → lT,PassesOwn → l0,Arguments → l8,TriplesOk → ma,seqSlot_of → md,preSum → mo,seqIndex_of → mw,wpAny_of_eq → mx,IsZip → my,wpAny_letGo → mz,Sem → mL,builtinsNs → mQ,GenState → mR,Operator → mS,pyNext → mT,wpAny_call → mU,call → mW,atKey → mX,getAttr? → mZ,bindL → nB,bindC → nC,truthy → nD,rule → nE,pyIter → nF,Result → nG,Keyword → nH,DefRec → nI,Tok → nJ,CmpOp → nK,Meets → nL
open List renaming getElem?_eq_getElem → ag,mem_cons_of_mem → al,mem_cons_self → am,replicate → ar,getElem?_eq_some_iff → ay,mem_cons → az,size_toArray → aD,length_map → aF,getD_eq_getElem?_getD → aG,getElem?_set_ne → aH,mem_map → aK,getElem?_append_left → aO,length_cons → aP,range → aR,getElem?_set_self → aS,length_set → aT,map_cons → aU,all_eq_true → aV,getElem?_map → aX,getElem_mem → ba,pairwise_cons → bg,mem_append_right → bi,getElem?_append_right → bj,length_append → bn,mem_singleton → bt,mem_range → bw,not_mem_nil → bz,replicate_succ → bD,map_map → bE,getElem?_replicate → bI,filterMap_cons → bJ,mem_filter → bM,mem_append → bN,contains_iff_mem → bS,flatten_cons → bV,length_range → bW,getElem_of_mem → bZ,length_replicate → b9,mem_append_left → cm,nodup_cons → cp,length_take → cq,length_drop → cr,mem_of_getElem? → cy,reverse_cons → cD,getElem?_set → cE,drop_eq_getElem_cons → cJ,length_singleton → cK,zip_cons_cons → cP,pairwise_map → cU,map_congr_left → cW,lookup_cons → dg,find?_cons → dG,map_append → dH,toArray → dN,map_uncurry_zip_eq_zipWith → dR,length_eq_zero_iff → dW,append_nil → ee,of_mem_zip → eg,foldl_cons → ei,any_cons → eB,length_filter_le → eD,append_assoc → eE,any_eq_true → eV,getElem?_zip_eq_some → eY,eq_of_mem_replicate → fk,nil_append → fm,length_zip → fo,map_nil → fH,range_succ_eq_map → fI,take_of_length_le → fJ,getElem?_eq_none → fQ,nodup_range → fW,mem_flatMap → fX,all_cons → gf,length → gj,length_nil → gn,getElem?_range → gC,all_map → gG,contains_cons → hU,map_replicate → hV,pairwise_iff_getElem → h8,mem_or_eq_of_mem_set → h9,reverse_perm → iy,find?_range_eq_some → iH,pairwise_singleton → iN,cons_append → iP,filter_cons → iS,ext_getElem → iT,forIn_cons → i7,getElem?_reverse → kf,take_append_drop → km,nodup_nil → ku,isEmpty_toArray → kw,drop_zero → kx,mem_of_mem_take → kE,length_reverse → kL,mem_map_of_mem → kN,mem_filterMap → k7,filterMap_map → lf,find?_toArray → lm,zip_nil_right → ls,find?_eq_none → lu,getElem?_drop → lw,take_add_one → lN,getElem?_inj → lO,ext_getElem? → lR,zip_nil_left → lS,getElem_take → lY,getElem_drop → lZ,take_length → mh,drop → mi,drop_length → mj,zipIdx_cons → ml,map_reverse → mr,zipIdx_nil → mD,all_append → mE,forIn_nil → mY,tail_cons → ni,map_tail → nz
open Bool renaming true → ah,false → ai,and_eq_true → aE,false_ne_true → aN,false_eq_true → bQ,eq_iff_iff → bT,or_eq_true → gz,not_false → g9,not_eq_true' → iz,false_or → kT,not_true → nv,true_and → nA
open PySem.W renaming Frag → aj,katRev → bx,hideAll_none → ck,CodeHd → cw,kia_one → cx,kia_tup → cH,fnOf → c6,hideAll → dE,envX → d7,kla_obj → ej,kitOne → eK,keepIn → eL,kitAny → eQ,hideAll_get → eZ,kat_len → fq,of_hideAll → ft,kitx_list → fC,kitx_dict → fD,cellsFrom_some → fF,nsIn → fM,codeIn → gN,katRev → iE,mg_of → iF,OpenLaw → i9,noTabs → kF,kitx_tuple → k9,callWith_K → la,codeRec_of → lc,kitx_none → lB,kitx_bool → lC,looks_findIn → lU,plainGet → l4,kitx_int → l6,kitx_str → l7,kat_nil → mI,kas_rev → mO,kat_len → mP,findIn → m5,exmOne → m7,kla_fn → m8,tabObj → m9,sub → nj,tabIn → nw,WalkO → ny
open Option.some renaming inj → ak
open PySem.Heap renaming get?_push_of_some → ao,lt_size → aJ,get?_push_size → aM,size_push → dv,SameBut → d5,get?_update_self → eC,ExtBut → eO,get?_push_ne → fK,size_update → iM,get?_update_other → iW,get?_update_ne → kM
open True renaming intro → aA
open Nat renaming le_refl → aB,lt_of_lt_of_le → aQ,ne_of_lt → bf,le_trans → bh,lt_irrefl → bB,lt_trans → cc,lt_of_le_of_ne → cn,ne_of_gt → cY,le_of_not_lt → df,zero_le → dL,lt_succ_of_lt → dM,le_sub_one_of_lt → dO,pow_le_pow_right → dP,le_add_right → dX,le_of_lt → d4,le_of_lt_succ → eI,lt_of_le_of_lt → fw,lt_succ_self → fV,add_sub_cancel' → gD,mul_le_mul → gX,sub_le → gZ,lt_add_of_pos_right → iL,not_lt_of_le → iO,one_pos → kB,sub_lt → ln,add_right_comm → lq,add_sub_cancel → lv,mul_comm → lI,min_self → lK,le_succ_of_le → lP,zero_lt_of_lt → lQ,sub_self → lV,not_lt_zero → mG
open And renaming intro → aI
open PySem.Str renaming ofString → bp
open PySem.Value renaming bool → bv,none → bH,ref → cF,builtin → iG,int → kG,isStrOf → nq
open PySem.NameKind renaming free → bG,cell → kU
open PyProof.Rows renaming slot_tuple_getitem → bR,envOfC → cN,callWith_type1 → cZ,AllBare → fY,seqObj → gw,entry_tuple_getitem → gB,assignInOrder_cons → gM,slicePart_none → gQ,args_tuple_getitem → gS,subscriptTail_builtinR → iV,tupleItemsOf_ → kR,listUpdate_at → kW,IsTup → lx,assignInOrder_nil → lA,seqEpoch_at → mB,IntsAre → mM,Subscript_ → mV,cnt → nk
open PySem.Builtin.Slice renaming slicePlaces → bY,sliceAdjust → eX,sliceApplied → gR
open Pure renaming pure → cA
open Sum renaming inl → cI,inr → mK
open Array renaming getElem?_toList → cL,length_toList → cV,perm_iff_toList_perm → dw,getElem?_eq_getElem → dD,getD_eq_getD_getElem? → gJ,append_empty → g7,getElem?_eq_none → i3,toList_append → kO,toList_inj → mq
open PySem.AutoSeq1 renaming wpAny_loadPart' → cO,sub_tuple_tuple → fg,wpAny_loadPart' → fh,idx_int → iJ
open Int renaming toNat_natCast → cT,emod_lt_of_pos → dA,emod_nonneg → eA,emod_eq_of_lt → fN,natCast_add → mF
open PySem.F renaming slot_tuple_iterator_next → dn,plainAttrs_list → dY,args_tuple_add_2 → fc,entry_tuple_add → fA,slot_tuple_add → fG,typeOf_object_class → fP,slot_int_rmul → gp,args_tuple_iterator_next_1 → gu,slot_zip_next → gv,slot_dict_keyiterator_next → gy,entry_tuple_iterator_next → gI,args_tuple_mul_2 → gW,entry_tuple_mul → ip,slot_tuple_mul → iK,slot_list_index → iQ,type_list_index → iR,args_int_rmul_2 → lH,args_zip_next_1 → lL,entry_int_rmul → me,entry_zip_next → mm,slot_dict_iter → mv,fills_int_mul → mC
open PySem.Builtin.SmallTypes renaming nextOf → dC
open PySem.Obj renaming mapSeq → dQ,data_mapFields → d6,isFreed_of_fields → fO,cls_mapFields → iu
open PySem.Heap.SameBut renaming update → dS
open List.Perm renaming refl → dZ,swap → kC
open PySem.Builtin.Tuple renaming tupleItemsOf → eM,tupleTooMany → gV
open List.Pairwise renaming filter → eR,nil → im
open PySem.Builtin.List renaming listTooLong → fe
open PyProof.Rows.IsTup renaming new → fR
open ForInStep renaming yield → gq
open Lean.Grind renaming CommRing → gE
open PySem.SeqAt.EqAt renaming bool_bool → g8,same → i6,int_str → kX,str_int → kY,of_refs → ll
open Or renaming inr → iA,inl → lh
open PySem.SeqAt.RcAt renaming lists_lengths → iB,tuples → lJ,lists → mf
open PySem.SeqAt renaming EqAt → iX
open PySem.Builtin.Dict renaming showsAll → kh
open PySem.Around renaming frames_deeper → kr,under_plainId → kD
open PySem.Builtin.Int renaming intBits → kK
open PySem.P renaming truthy_int → k8
open PySem.Heap.IsSliceOf renaming new → lg
open PySem.PassesOwn renaming leaving → lW
open Classical renaming not_not → lX
open Array.Perm renaming refl → mH
open PySem.Value.type renaming inj → ng
open PySem.Code renaming compLoop → nr
open Min renaming min → nM
namespace L2
open PySem PySem.Spec PyProof.Rows
abbrev Key:=Sum Int bc
noncomputable def Jc:Key->aq->Bool
 |.inl k,v=>aq.isInt k v
 |.inr x,v=>nq x v
noncomputable def Zf4(w:bC):Key->Int
 |.inl k=>hashInt k
 |.inr x=>hashStr w x
def Z1:∀{k:Key}{v:aq},Jc k v=ah->(∃i t,k=cI i/\v=kG i t)\/(∃x t,k=mK x/\v=aq.str x t)
 |.inl i,v,h=>by
  obtain⟨t,e⟩:=aq.isInt_shape h;exact .inl ⟨i,t,rfl,e⟩
 |.inr x,v,h=>by
  obtain⟨t,e⟩:=aq.isStrOf_shape h;exact .inr ⟨x,t,rfl,e⟩
def uH(i:Int)(t:nJ):Jc (.inl i) (.int i t)=ah:=by simp[Jc,aq.isInt]
def uO(x:bc)(t:nJ):Jc (.inr x) (.str x t)=ah:=by simp[Jc,nq]
def Zd2(a b:Int):ae ((cI a:Key)=cI b)=(a == b):=by grind
def ZdE(a b:bc):ae ((mK a:Key)=mK b)=ae (a=b):=by grind
def Zeq(a:Int)(b:bc):ae ((cI a:Key)=mK b)=ai:=T4 (λq=>nomatch q)
def Zep(a:bc)(b:Int):ae ((mK a:Key)=cI b)=ai:=T4 (λq=>nomatch q)
noncomputable def ZQ(prog:bq)(w:bC):PySem.KeyKind prog w Key where
 is:=Jc
 hash:=Zf4 w
 inj:=λv a b ha hb=>by
  rcases Z1 ha with⟨i,t,rfl,rfl⟩|⟨x,t,rfl,rfl⟩
  ·rcases Z1 hb with⟨j,u,rfl,e⟩|⟨y,u,rfl,e⟩
   ·injection e with e1 _;rw[e1]
   ·exact nomatch e
  ·rcases Z1 hb with⟨j,u,rfl,e⟩|⟨y,u,rfl,e⟩
   ·exact nomatch e
   ·injection e with e1 _;rw[e1]
 byValue:=λk v h=>by
  rcases Z1 h with⟨i,t,rfl,rfl⟩|⟨x,t,rfl,rfl⟩<;>rfl
 pyHash:=λhv h=>by
  rcases Z1 hv with⟨i,t,rfl,rfl⟩|⟨x,t,rfl,rfl⟩
  ·exact wpAny_pyHash_int h
  ·exact wpAny_pyHash_str h
 eqBool:=λhu hv h=>by
  rcases Z1 hu with⟨i,t,rfl,rfl⟩|⟨x,t,rfl,rfl⟩
  ·rcases Z1 hv with⟨j,u,rfl,rfl⟩|⟨y,u,rfl,rfl⟩
   ·rw[Zd2]at h;exact wpAny_eqBool_int h
   ·rw[Zeq]at h;exact kX i t y u _ _ _ _ h
  ·rcases Z1 hv with⟨j,u,rfl,rfl⟩|⟨y,u,rfl,rfl⟩
   ·rw[Zep]at h;exact kY x t j u _ _ _ _ h
   ·rw[ZdE]at h;exact wpAny_eqBool_str h
 «strs»:=λk x t v h=>by
  rcases Z1 h with⟨i,u,rfl,e⟩|⟨y,u,rfl,e⟩
  ·exact nomatch e
  ·injection e with e1 _
   subst e1;cases v<;>rfl
def ym(prog:bq)(w:bC)(i:Int)(t:nJ):(ZQ prog w).is (.inl i) (.int i t)=ah:=uH i t
def zf(prog:bq)(w:bC)(x:bc)(t:nJ):(ZQ prog w).is (.inr x) (.str x t)=ah:=uO x t
inductive V where
 |non|bl (b:Bool)|int (i:Int)|str (x:bc)|ref (a:aw)|ty (n:String)
 deriving DecidableEq
def Zz:V->aq->Prop
 |.non,u=>u=bH
 |.bl b,u=>u=bv b
 |.int i,u=>∃t,u=kG i t
 |.str x,u=>∃t,u=aq.str x t
 |.ref a,u=>u=cF a
 |.ty n,u=>u=aq.type n
abbrev Vals:List V->List aq->Prop:=Paired Zz
theorem Vals.length(r:Vals xs us):xs.length=us.length:=Paired.length r
theorem Vals.get:∀{xs:List V}{us:List aq}{i:Nat}{x:V},Vals xs us->xs[i]?=aa x->∃u,us[i]?=aa u/\Zz x u
 |_,_,_,_,.nil,e=>by simp at e
 |_,_,0,_,.cons r _,e=>by grind
 |_,_,i+1,x,.cons _ t,e=>by
  obtain⟨u,h1,h2⟩:=Vals.get t (by simpa using e)
  exact⟨u,by simpa using h1,h2⟩
theorem Vals.set(r:Zz x u):∀{xs:List V}{us:List aq}(i:Nat),Vals xs us->Vals (xs.set i x) (us.set i u)
 |_,_,_,.nil=>.nil
 |_,_,0,.cons _ t=>.cons r t
 |_,_,i+1,.cons q t=>.cons q<|Vals.set r i t
theorem Vals.append:∀{xs ys:List V}{us ws:List aq},Vals xs us->Vals ys ws->Vals (xs++ys) (us++ws)
 |_,_,_,_,.nil,s=>s
 |_,_,_,_,.cons r t,s=>.cons r<|Vals.append t s
theorem Vals.take:∀{xs:List V}{us:List aq}(n:Nat),Vals xs us->Vals (xs.take n) (us.take n)
 |_,_,0,_=>.nil
 |_,_,_+1,.nil=>.nil
 |_,_,n+1,.cons r t=>.cons r<|Vals.take n t
theorem Vals.drop:∀{xs:List V}{us:List aq}(n:Nat),Vals xs us->Vals (xs.drop n) (us.drop n)
 |_,_,0,r=>r
 |_,_,_+1,.nil=>.nil
 |_,_,n+1,.cons _ t=>Vals.drop n t
def Zc6:Option V->Option aq->Prop
 |some v,aa u=>Zz v u
 |none,ac=>True
 |_,_=>False
def KV{κ:Type}:List (κ×V)->List (κ×aq)->Prop:=Paired λ(p:κ×V) (q:κ×aq)=>p.1=q.1/\Zz p.2 q.2
noncomputable def kV:Key->V
 |.inl i=>.int i
 |.inr x=>.str x
inductive HO where
 |lst (xs:List V)
 |tup (xs:List V)
 |dK (kvs:List (Key×V))|dT (kvs:List (List Key×V))
 |own (x:aw)
 |frz (o:dB) (u:HO)
 |tbl (ps:Array aq)
abbrev Hp:=aw->Option HO
noncomputable def upd(H:Hp)(a:aw)(o:HO):Hp:=λb=>if b=a then aa o else H b
def Zr :upd H a o a=aa o:=by unfold upd;rw[T9 rfl]
def Zn(h:b≠a):upd H a o b=H b:=by unfold upd;rw[T8 h]
def ZbB :upd (upd H a o) a u=upd H a u:=by
 funext b;unfold upd;split<;>rfl
def ZB{H:Hp}{a b:aw}{o:HO}(h:H a=aa o)(h':H b=ac):a≠b:=by grind
section
variable(P:bq)(w:bC)
def Ya(H:Hp)(h:bF)(a:aw):HO->Prop
 |.lst xs=>xs.length<=aY/\∃(its:List aq)(n:Nat),Vals xs its/\h.get? a=aa {cls:=.type "list",data:=.seq its.toArray n}
 |.tup xs=>xs.length<=aY/\∃its:List aq,Vals xs its/\lx h a its.toArray
 |.dK kvs=>kvs.length<=aY/\(a == cM)=ai/\∃vs,KV kvs vs/\h.DictOf (ZQ P w) a vs
 |.dT kvs=>kvs.length<=aY/\(a == cM)=ai/\∃xs:List (List Key×aw×aq),
   Paired (λ(p:List Key×V) (q:List Key×aw×aq)=>p.1=q.1/\H q.2.1=aa (.tup<|p.1.map kV)/\Zz p.2 q.2.2) kvs xs/\
   ∃o es ep,h.get? a=aa o/\o.ExactDict/\o.data=.dict es ep/\es.toList=xs.map (entryOfKey<|c9<|ZQ P w)/\(xs.map (·.1)).Nodup
 |.own _=>∃o,h.get? a=aa o
 |.frz o u=>h.get? a=aa o/\Ya H h a u
 |.tbl ps=>h.get? a=aa {cls:=.none,data:=.fields ps}
def HOk(H:Hp)(h:bF):Prop:=∀a o,H a=aa o->Ya P w H h a o
end
section
variable{P:bq}{w:bC}{H H':Hp}{h h':bF}{a:aw}{o:HO}
theorem Ya.lt(x:Ya P w H h a o):a<h.objs.size:=by
 cases o with|lst xs=>obtain⟨_,_,_,_,e⟩:=x;exact aJ e|tup xs=>obtain⟨_,_,_,p⟩:=x;exact p.lt|dK kvs=>obtain⟨_,_,_,_,o,_,_,e,_⟩:=x;exact aJ e|dT kvs=>obtain⟨_,_,_,_,o,_,_,e,_⟩:=x;exact aJ e|own y=>obtain⟨_,e⟩:=x;exact aJ e|frz ob u=>obtain⟨e,_⟩:=x;exact aJ e|tbl ps=>exact aJ (x)
theorem Paired.mapP{α β:Type}{F G:α->β->Prop}:∀{l₁:List α}{l₂:List β},Paired F l₁ l₂->(∀a b,F a b->G a b)->Paired G l₁ l₂
 |_,_,.nil,_=>.nil
 |_,_,.cons r t,f=>.cons (f _ _ r)<|Paired.mapP t f
def Ya.stay(x:Ya P w H h a o)(k:∀b u,(b=a\/H b=aa (.own a))->h.get? b=aa u->h'.get? b=aa u)
  (ho:∀b,H b=aa (.own a)->H' b=aa (.own a))(ht:∀b xs,H b=aa (.tup xs)->H' b=aa (.tup xs)):Ya P w H' h' a o:=by
 induction o with
 |lst xs=>obtain⟨z,its,n,r,e⟩:=x;exact⟨z,its,n,r,k _ _ (.inl rfl) e⟩
 |tup xs=>obtain⟨z,its,r,ob,e,c⟩:=x;exact⟨z,its,r,ob,k _ _ (.inl rfl) e,c⟩
 |dK kvs=>obtain⟨z,y,vs,r,ob,es,ep,e,c⟩:=x;exact⟨z,y,vs,r,ob,es,ep,k _ _ (.inl rfl) e,c⟩
 |dT kvs=>
  obtain⟨z,y,xs,r,ob,es,ep,e,c⟩:=x;exact⟨z,y,xs,Paired.mapP r λp q z=>⟨z.1,ht _ _ z.2.1,z.2.2⟩,ob,es,ep,k _ _ (.inl rfl) e,c⟩
 |own y=>obtain⟨ob,e⟩:=x;exact⟨ob,k _ _ (.inl rfl) e⟩
 |frz ob u ih=>obtain⟨e,q⟩:=x;exact⟨k _ _ (.inl rfl) e,ih q⟩
 |tbl ps=>
  have e:=x;exact k a _ (.inl rfl) e
theorem HOk.lt(x:HOk P w H h)(e:H a=aa o):a<h.objs.size:=(x a o e).lt
def HOk.fresh(x:HOk P w H h)(e:h.objs.size<=a):H a=ac:=by
 cases q:H a with|none=>rfl|some u=>exact T7 (aQ (x.lt q) e)<|bB _
def HOk.kept(x:HOk P w H h)(k:∀b u,h.get? b=aa u->h'.get? b=aa u):HOk P w H h':=λa o e=>
 (x a o e).stay (λb u _ q=>k b u q) (λ_ q=>q) λ_ _ q=>q
def HOk.laid(x:HOk P w H h)(k:∀b u,h.get? b=aa u->h'.get? b=aa u)(hp:h.objs.size<=a)(new:Ya P w (upd H a o) h' a o):HOk P w (upd H a o) h':=λb u e=>by
 have hn:=x.fresh hp;by_cases hb:b=a
 ·subst hb;rw[Zr]at e;cases e;exact new
 ·rw[Zn hb]at e
  exact(x b u e).stay (λc v _ q=>k c v q) (λc q=>by rw[Zn<|ZB q hn];exact q) λc xs q=>by rw[Zn<|ZB q hn];exact q
end
def Rd(H:Hp)(a:aw)(u:HO):Prop:=H a=aa u\/∃o,H a=aa (.frz o u)
def Rd.ok(r:Rd H a u)(x:HOk P w H h):Ya P w H h a u:=by
 rcases r with r|⟨o,r⟩
 ·exact x a u r
 ·obtain⟨_,q⟩:=x a _ r
  exact q
def Mut:Option HO->Prop
 |some (.lst _)=>True
 |some (.dK _)=>True
 |some (.dT _)=>True
 |_=>False
section
variable{P:bq}{w:bC}{H:Hp}{h h':bF}{x e:aw}{o':HO}
def HOk.write(ok:HOk P w H h)(mu:Mut (H x))(he:e=x\/H e=aa (.own x))(k:∀b u,b≠e->h.get? b=aa u->h'.get? b=aa u)(heo:∃u,h'.get? e=aa u)
  (new:Ya P w (upd H x o') h' x o'):HOk P w (upd H x o') h':=λb u q=>by
 have nown:∀c y,H c=aa (.own y)->c≠x:=λc y r z=>by subst z;rw[r]at mu;exact mu
 have ntup:∀c xs,H c=aa (.tup xs)->c≠x:=λc xs r z=>by subst z;rw[r]at mu;exact mu
 by_cases hb:b=x
 ·subst hb;rw[Zr]at q;cases q;exact new
 ·rw[Zn hb]at q
  by_cases hbe:b=e
  ·have q':H b=aa (.own x):=by
    rcases he with z|z
    ·exact T7 (hbe.trans z) hb
    ·rw[hbe];exact z
   rw[q]at q';cases q';obtain⟨v,hv⟩:=heo;exact⟨v,by rw[hbe];exact hv⟩
  ·refine(ok b u q).stay (λc v hc r=>k c v ?_ r) (λc r=>by rw[Zn<|nown c b r];exact r) λc xs r=>by rw[Zn<|ntup c xs r];exact r
   rcases hc with rfl|hc
   ·exact hbe
   ·rintro rfl
    rcases he with z|z
    ·exact nown c b hc z
    ·rw[hc]at z;cases z;exact hb rfl
end
structure Un(fs ex:List aw)(H H':Hp)(h h':bF):Prop where
 keep:∀b o,h.get? b=aa o->H b=ac->b∉fs->b∉ex->h'.get? b=aa o
 slot:∀b o,h.get? b=aa o->H b=ac->b∈fs->b∉ex->∃sl,h'.get? b=aa {o with slots:=sl}
 free:∀b o,h.get? b=aa o->H b=ac->b∉ex->H' b=ac
 there:∀b o,h.get? b=aa o->b∉ex->∃o',h'.get? b=aa o'
 tups:∀b xs,H b=aa (.tup xs)->H' b=aa (.tup xs)
 frzs:∀b o u,H b=aa (.frz o u)->H' b=aa (.frz o u)
 tbls:∀b ps,H b=aa (.tbl ps)->∃more,H' b=aa (.tbl<|ps++more)
section
variable{fs fs' ex ex':List aw}{H H1 H2:Hp}{h h1 h2 h':bF}{a x e:aw}{o:HO}
def Un.any(u:Un fs ex H H1 h h1)(q:h.get? b=aa ob)(n:H b=ac)(hx:b∉ex):∃sl,h1.get? b=aa {ob with slots:=sl}:=by
 by_cases hb:b∈fs
 ·exact u.slot b ob q n hb hx
 ·exact⟨ob.slots,u.keep b ob q n hb hx⟩
def Un.kept(k:∀b u,h.get? b=aa u->h'.get? b=aa u):Un fs ex H H h h':=
 ⟨λb ob q _ _ _=>k b ob q,λb ob q _ _ _=>⟨ob.slots,k b ob q⟩,λ_ _ _ n _=>n,λb ob q _=>⟨ob,k b ob q⟩,λ_ _ q=>q,λ_ _ _ q=>q,λ_ ps q=>⟨#[],by rw[q];simp⟩⟩
def Un.refl:Un fs ex H H h h:=Un.kept λ_ _ q=>q
def Un.laid(k:∀b u,h.get? b=aa u->h'.get? b=aa u)(hp:h.objs.size<=a)(hn:H a=ac):Un fs ex H (upd H a o) h h' where
 keep:=λb u q _ _ _=>k b u q
 slot:=λb u q _ _ _=>⟨u.slots,k b u q⟩
 free:=λb u q n _=>by rw[Zn<|bf<|aQ (aJ q) hp];exact n
 there:=λb u q _=>⟨u,k b u q⟩
 tups:=λb xs q=>by rw[Zn<|ZB q hn];exact q
 frzs:=λb u xs q=>by rw[Zn<|ZB q hn];exact q
 tbls:=λb ps q=>⟨#[],by rw[Zn<|ZB q hn,q];simp⟩
def Un.write(mu:Mut (H x))(he:e=x\/H e=aa (.own x))(k:∀b u,b≠e->h.get? b=aa u->h'.get? b=aa u)(heo:∃u,h'.get? e=aa u):Un fs ex H (upd H x o) h h':=by
 have hx:∀b,H b=ac->b≠x:=λb n z=>by subst z;rw[n]at mu;exact mu
 have hb:∀b,H b=ac->b≠e:=λb n z=>by grind
 have hm:∀b u,H b=aa u->¬Mut (aa u)->b≠x:=λb u q nm z=>by grind
 refine⟨λb u q n _ _=>k b u (hb b n) q,λb u q n _ _=>⟨u.slots,k b u (hb b n) q⟩,λb u q n _=>by rw[Zn<|hx b n];exact n,λb u q _=>?_,
  λb xs q=>by rw[Zn<|hm b _ q λz=>z];exact q,λb u xs q=>by rw[Zn<|hm b _ q λz=>z];exact q,λb ps q=>⟨#[],by rw[Zn<|hm b _ q λz=>z,q];simp⟩⟩
 by_cases hbe:b=e
 ·grind
 ·grind
end
noncomputable def trk(h:bF)(H:Hp):List aw:=(aR h.objs.size).filter λa=>(H a).isSome
noncomputable def QP(h:bF)(H:Hp):bF:=dE h<|trk h H
def qf(h:bF)(H:Hp):(QP h H).objs.size=h.objs.size:=PySem.W.hideAll_size _ _
def ZaZ(e:h.get? b=aa o)(n:H b=ac):(QP h H).get? b=aa o:=
 eZ _ e λhm=>by
  have q:=(bM.mp hm).2;rw[n]at q;simp at q
def Zcs(e:(QP h H).get? b=aa o):h.get? b=aa o/\H b=ac:=by
 have e':=ft (trk h H) e;refine⟨e',?_⟩;cases q:H b with
 |none=>rfl
 |some x=>
  have hm:b∈trk h H:=bM.mpr ⟨bw.mpr<|aJ e',by simp[q]⟩
  have z:(QP h H).get? b=ac:=ck (trk h H) hm;rw[z]at e;cases e
structure Mod(K:aj)(mg:bc->Option aq)(base:bF):Prop where
 kin:K.In base
 glob:base.Ns br mg
 blt:∃mb,base.Ns mQ mb/\∀x:bc,x≠"__name__"->mb x=cQ x
 nolimit:base.NoLimit
structure Cx where
 prog:bq
 w:bC
 K:aj
 mg:bc->Option aq
 base:bF
 A:bL
 N:List bc
 s₀:au
 H₀:Hp
 env:Env
 outer:List Env
 stack:List Env
 ex:List aw
 fn:bc->Bool
 calm:Bool
 pn:List (aw×dB)
 xe:aq->au->Prop
noncomputable def frs(l:List Env):List aw:=l.filterMap (·.frame)
noncomputable abbrev Cx.fs(X:Cx):List aw:=frs X.outer
def Vis(sc:c7)(x:bc):Prop:=sc.names.lookup x=aa .local\/sc.names.lookup x=aa .cell\/sc.names.lookup x=aa .free
def Loc(sc:c7)(x:bc):Prop:=sc.names.lookup x=aa .local\/sc.names.lookup x=aa .cell
def Look(env:Env)(h:bF)(m:bc->Option aq)(x:bc)(u:aq):Prop:=
 (env.kindOf x=aa .local/\m x=aa u)\/((env.kindOf x=aa .cell\/env.kindOf x=aa .free)/\∃c,env.cells.lookup x=aa c/\h.IsCell c (aa u))
structure Cx.Ok(X:Cx):Prop where
 mod:Mod X.K X.mg X.base
 kind:X.env.scope.kind=.function
 glob:X.env.globals=br
 blt:X.env.builtins=mQ
 above:X.s₀.heap.objs.size<=X.env.locals
 inj:∀x y c,X.env.cells.lookup x=aa c->X.env.cells.lookup y=aa c->x=y
 has:∀x,(X.env.kindOf x=aa .cell\/X.env.kindOf x=aa .free)->∃c,X.env.cells.lookup x=aa c
 cab:∀x c,X.fn x=ah->X.env.cells.lookup x=aa c->X.s₀.heap.objs.size<=c
 hd:X.calm=ah->X.A.handled=ac
 frames:X.A.frames=aa X.stack
 stk:X.stack=X.outer\/(X.stack=X.env::X.outer/\X.env.frame=aa X.env.locals)
 exf:∀b∈X.ex,b≠X.env.locals/\∀x c,X.env.cells.lookup x=aa c->c≠b
 bs:∀b o,X.base.get? b=aa o->X.s₀.heap.get? b=aa o/\X.H₀ b=ac
 bsz:X.base.objs.size<=X.s₀.heap.objs.size
 noex:∀b o,X.base.get? b=aa o->b∉X.ex
 exfs:∀b∈X.ex,b∉X.fs
 funs:X.s₀.heap.FunFrames X.base X.outer
 frf:∀b∈X.fs,X.H₀ b=ac
structure Inv(X:Cx)(pq:List (aw×dB))(σ:List (Option V))(H:Hp)(s:au):Prop where
 ok:X.Ok
 os:s.os=X.s₀.os
 bare:fY s.gens
 base:Un X.fs X.ex X.H₀ H X.s₀.heap s.heap
 loc:∃m,s.heap.Ns X.env.locals m/\∀(i:Nat)(x:bc)(v:V),X.N[i]?=aa x->σ[i]?=aa (aa v)->Vis X.env.scope x->∃u,Zz v u/\Look X.env s.heap m x u
 cell:∀x c,X.env.cells.lookup x=aa c->∃v,s.heap.IsCell c v
 free:H X.env.locals=ac
 freeC:∀x c,X.env.cells.lookup x=aa c->H c=ac
 pin:∀p∈X.pn++pq,s.heap.get? p.1=aa p.2/\H p.1=ac/\p.1≠X.env.locals/\p.1∉X.fs/\∀v,p.2.data≠.cell v
 hok:HOk X.prog X.w H s.heap
 len:σ.length=X.N.length
section
variable{X:Cx}{pq:List (aw×dB)}{σ:List (Option V)}{H H':Hp}{s:au}{h':bF}
def Cx.Ok.nofr(ok:X.Ok)(e:X.base.get? b=aa o):b∉X.fs:=λhb=>by
 have:=(ok.funs.mem hb).1;rw[e]at this;cases this
theorem Inv.bs(I:Inv X pq σ H s):∀b o,X.base.get? b=aa o->s.heap.get? b=aa o/\H b=ac:=λb o e=>
 ⟨I.base.keep b o (I.ok.bs b o e).1 (I.ok.bs b o e).2 (I.ok.nofr e)<|I.ok.noex b o e,I.base.free b o (I.ok.bs b o e).1 (I.ok.bs b o e).2<|I.ok.noex b o e⟩
def Inv.bk(I:Inv X pq σ H s):∀b o,X.base.get? b=aa o->s.heap.get? b=aa o:=λb o e=>(I.bs b o e).1
theorem Inv.mod(I:Inv X pq σ H s):Mod X.K X.mg X.base:=I.ok.mod
def Inv.kIn(I:Inv X pq σ H s):X.K.In s.heap:=I.ok.mod.kin.keeps I.bk
theorem Inv.lt(I:Inv X pq σ H s):X.env.locals<s.heap.objs.size:=let ⟨_,hn,_⟩:=I.loc;hn.lt
def Inv.sz(I:Inv X pq σ H s):X.s₀.heap.objs.size<=s.heap.objs.size:=bh I.ok.above<|d4 I.lt
def Inv.nofs(I:Inv X pq σ H s)(h:s.heap.objs.size<=a):a∉X.fs:=λhb=>by
 obtain⟨_,o,ho,_⟩:=I.ok.funs.mem hb;exact T7 (aQ (aJ ho)<|bh I.sz h)<|bB _
def Inv.cne(I:Inv X pq σ H s):∀x c,X.env.cells.lookup x=aa c->c≠X.env.locals:=λx c e z=>by
 obtain⟨v,o,ho,hd⟩:=I.cell x c e;obtain⟨m,⟨o',es,ep,ho',hd',_⟩,_⟩:=I.loc;rw[z,ho']at ho;cases ho;rw[hd']at hd;cases hd
theorem Inv.funs(I:Inv X pq σ H s):s.heap.FunFrames X.base X.outer:=by
 have all:∀(l:List Env),(∀b∈frs l,b∈X.fs)->X.s₀.heap.FunFrames X.base l->s.heap.FunFrames X.base l:=by
  intro l
  induction l with
  |nil=>intro _ _;trivial
  |cons env r ih=>
   intro hs hl;obtain⟨hk,⟨L,o,hf,hn,ho,hd⟩,hr⟩:=hl;have hL:=hs L (by unfold frs;rw[bJ,hf];exact am)
   obtain⟨sl,e⟩:=I.base.slot L o ho (I.ok.frf L hL) hL λz=>I.ok.exfs L z hL
   exact⟨hk,⟨L,_,hf,hn,e,hd⟩,ih (λb hb=>hs b<|by unfold frs;rw[bJ,hf];exact al _ hb) hr⟩
 exact all X.outer (λ_ hb=>hb) I.ok.funs
theorem Inv.stack(I:Inv X pq σ H s):s.heap.FunFrames X.base X.stack:=by
 rcases I.ok.stk with e|⟨e,hf⟩
 ·rw[e];exact I.funs
 ·rw[e]
  obtain⟨m,hn,_⟩:=I.loc;refine .cons (by rw[I.ok.kind];decide) hf hn ?_ I.funs
  exact bF.get?_none_of_le<|bh I.ok.bsz I.ok.above
def Inv.stkSub(I:Inv X pq σ H s):∀b∈frs X.stack,b∈X.env.locals::X.fs:=λb hb=>by
 rcases I.ok.stk with e|⟨e,hf⟩
 ·grind
 ·rw[e]at hb
  unfold frs at hb;rw[bJ,hf]at hb;exact hb
def Inv.stkFree(I:Inv X pq σ H s):∀b∈frs X.stack,H b=ac:=λb hb=>by
 rcases az.mp (I.stkSub b hb)with e|hb
 ·rw[e];exact I.free
 ·obtain⟨_,o,ho,_⟩:=I.ok.funs.mem hb
  exact I.base.free b o ho (I.ok.frf b hb) λz=>I.ok.exfs b z hb
def Inv.step{g':Array mR}{t':Nat}{d':Drawn}{ch:List aw}(I:Inv X pq σ H s)
  (hch:∀b∈ch,(b∈X.ex\/X.s₀.heap.objs.size<=b)/\b≠X.env.locals/\(∀x c,X.env.cells.lookup x=aa c->c≠b)/\∀p∈X.pn++pq,p.1≠b)
  (keep:∀b o,b≠X.env.locals->b∉X.fs->b∉ch->s.heap.get? b=aa o->H b=ac->h'.get? b=aa o)
  (slot:∀b o,b≠X.env.locals->b∈X.fs->b∉ch->s.heap.get? b=aa o->H b=ac->∃sl,h'.get? b=aa {o with slots:=sl})(free:∀b o,b∉ch->s.heap.get? b=aa o->H b=ac->H' b=ac)
  (there:∀b o,b∉ch->s.heap.get? b=aa o->∃o',h'.get? b=aa o')
  (tups:∀b xs,H b=aa (.tup xs)->H' b=aa (.tup xs))(frzs:∀b o u,H b=aa (.frz o u)->H' b=aa (.frz o u))(tbls:∀b ps,H b=aa (.tbl ps)->∃more,H' b=aa (.tbl<|ps++more))
  (ns:∀m,s.heap.Ns X.env.locals m->h'.Ns X.env.locals m)(hok:HOk X.prog X.w H' h')(hg:fY g') :
  Inv X pq σ H' {s with heap:=h',gens:=g',drawn:=d',toks:=t' }:=by
 have neL:∀b o,X.s₀.heap.get? b=aa o->b≠X.env.locals:=λb o e=>bf<|aQ (aJ e) I.ok.above
 have neC:∀b o,X.s₀.heap.get? b=aa o->b∉X.ex->b∉ch:=λb o e hx hb=>by
  rcases(hch b hb).1 with z|z
  ·exact hx z
  ·exact T7 (aQ (aJ e) z)<|bB _
 have cellK:∀x c,X.env.cells.lookup x=aa c->∀v,s.heap.IsCell c v->h'.IsCell c v:=λx c e v ⟨o,ho,hd⟩=>by
  have nch:=λz=>(hch c z).2.2.1 x c e rfl
  by_cases hc:c∈X.fs
  ·obtain⟨sl,q⟩:=slot c o (I.cne x c e) hc nch ho (I.freeC x c e)
   exact⟨_,q,hd⟩
  ·exact⟨o,keep c o (I.cne x c e) hc nch ho<|I.freeC x c e,hd⟩
 refine⟨I.ok,I.os,hg,⟨λb o e n hb hx=>?_,λb o e n hb hx=>?_,λb o e n hx=>?_,λb o e hx=>?_,λb xs e=>tups b xs<|I.base.tups b xs e,λb o xs e=>frzs b o xs<|I.base.frzs b o xs e,λb ps e=>?_⟩,?_,λx c e=>?_,?_,λx c e=>?_,λp hp=>?_,hok,I.len⟩
 ·exact keep b o (neL b o e) hb (neC b o e hx) (I.base.keep b o e n hb hx)<|I.base.free b o e n hx
 ·obtain⟨sl,e1⟩:=I.base.slot b o e n hb hx
  obtain⟨sl',e2⟩:=slot b _ (neL b o e) hb (neC b o e hx) e1<|I.base.free b o e n hx;exact⟨sl',e2⟩
 ·obtain⟨o',e1⟩:=I.base.there b o e hx
  exact free b o' (neC b o e hx) e1<|I.base.free b o e n hx
 ·obtain⟨o',e1⟩:=I.base.there b o e hx
  exact there b o' (neC b o e hx) e1
 ·obtain⟨m1,e1⟩:=I.base.tbls b ps e
  obtain⟨m2,e2⟩:=tbls b _ e1;exact⟨m1++m2,by grind⟩
 ·obtain⟨m,hn,hl⟩:=I.loc
  refine⟨m,ns m hn,λi x v e1 e2 e3=>?_⟩
  obtain⟨u,r,l⟩:=hl i x v e1 e2 e3;refine⟨u,r,?_⟩;rcases l with l|⟨k,c,e,z⟩
  ·exact .inl l
  ·exact .inr ⟨k,c,e,cellK x c e _ z⟩
 ·obtain⟨v,z⟩:=I.cell x c e
  exact⟨v,cellK x c e v z⟩
 ·obtain⟨m,⟨o,_,_,ho,_⟩,_⟩:=I.loc
  exact free _ o (λz=>(hch _ z).2.1 rfl) ho I.free
 ·obtain⟨v,o,ho,hd⟩:=I.cell x c e
  exact free c o (λz=>(hch c z).2.2.1 x c e rfl) ho<|I.freeC x c e
 ·obtain⟨e,n,ne,nf,d⟩:=I.pin p hp
  have nch:=λz=>(hch p.1 z).2.2.2 p hp rfl
  exact⟨keep p.1 p.2 ne nf nch e n,free p.1 p.2 nch e n,ne,nf,d⟩
def Inv.un{t':Nat}(I:Inv X pq σ H s)(u:Un X.fs [] H H' s.heap h')(hok:HOk X.prog X.w H' h'):Inv X pq σ H' {s with heap:=h',toks:=t' }:=by
 obtain⟨m,⟨o,es,ep,ho,r⟩,_⟩:=id I.loc;obtain⟨sl,hL⟩:=u.any ho I.free (by simp)
 exact I.step (g':=s.gens) (d':=s.drawn) (ch:=[]) (λ_ z=>nomatch z) (λb o _ hb _ e n=>u.keep b o e n hb<|by simp) (λb o _ hb _ e n=>u.slot b o e n hb<|by simp) (λb o _ e n=>u.free b o e n<|by simp) (λb o _ e=>u.there b o e<|by simp) u.tups u.frzs u.tbls (λm' hm=>by
  obtain⟨o',es',ep',ho',r'⟩:=hm;rw[ho]at ho';cases ho';exact⟨_,es',ep',hL,r'⟩) hok I.bare
def Inv.call{g':Array mR}{t':Nat}{d':Drawn}{ch:List aw}(I:Inv X pq σ H s)(u:Un (frs X.stack) ch H H' s.heap h')(hok:HOk X.prog X.w H' h')(hg:fY g')
  (hch:∀b∈ch,(b∈X.ex\/X.s₀.heap.objs.size<=b)/\b≠X.env.locals/\(∀x c,X.env.cells.lookup x=aa c->c≠b)/\∀p∈X.pn++pq,p.1≠b) :
  Inv X pq σ H' {s with heap:=h',gens:=g',drawn:=d',toks:=t' }:=by
 obtain⟨m,⟨o,es,ep,ho,r⟩,_⟩:=id I.loc;obtain⟨sl,hL⟩:=u.any ho I.free λz=>(hch _ z).2.1 rfl
 exact I.step hch (λb o hL hb hc e n=>u.keep b o e n (λz=>(az.mp<|I.stkSub b z).elim hL hb) hc) (λb o _ _ hc e n=>u.any e n hc) (λb o hc e n=>u.free b o e n hc) (λb o hc e=>u.there b o e hc) u.tups u.frzs u.tbls (λm' hm=>by
  obtain⟨o',es',ep',ho',r'⟩:=hm;rw[ho]at ho';cases ho';exact⟨_,es',ep',hL,r'⟩) hok hg
def Inv.turned{t':Nat}{it:aw}(I:Inv X pq σ H s)(k:∀b o,b≠it->s.heap.get? b=aa o->h'.get? b=aa o)(hn:H it=ac)(hL:it≠X.env.locals)
  (h1:it∈X.ex\/X.s₀.heap.objs.size<=it)(h2:∀x c,X.env.cells.lookup x=aa c->c≠it)(h3:∀p∈X.pn++pq,p.1≠it):Inv X pq σ H {s with heap:=h',toks:=t' }:=by
 have nit:∀b u,H b=aa u->b≠it:=λb u e z=>by grind
 refine I.step (g':=s.gens) (d':=s.drawn) (ch:=[it]) (λb hb=>?_) (λb o _ _ hc e _=>k b o (λz=>hc<|by simp[z]) e) (λb o _ _ hc e _=>⟨o.slots,k b o (λz=>hc<|by simp[z]) e⟩) (λ_ _ _ _ n=>n)
  (λb o hc e=>⟨o,k b o (λz=>hc<|by simp[z]) e⟩) (λ_ _ e=>e) (λ_ _ _ e=>e) (λb ps e=>⟨#[],by rw[e];simp⟩) (λm hm=>?_) (λb u e=>?_) I.bare
 ·grind
 ·obtain⟨o,es,ep,ho,r⟩:=hm
  exact⟨o,es,ep,k _ o (Ne.symm hL) ho,r⟩
 ·refine(I.hok b u e).stay (λc v hc q=>k c v ?_ q) (λ_ q=>q) λ_ _ q=>q
  rcases hc with z|z
  ·grind
  ·exact nit c _ z
def Inv.tok(I:Inv X pq σ H s)(t:Nat):Inv X pq σ H {s with toks:=t}:=I.un (h':=s.heap) (t':=t) Un.refl I.hok
theorem Inv.kept(I:Inv X pq σ H s)(k:∀b u,s.heap.get? b=aa u->h'.get? b=aa u):Inv X pq σ H {s with heap:=h',toks:=t' }:=I.un (Un.kept k)<|I.hok.kept k
theorem Inv.laid(I:Inv X pq σ H s)(k:∀b u,s.heap.get? b=aa u->h'.get? b=aa u)(hp:s.heap.objs.size<=a)(new:Ya X.prog X.w (upd H a o) h' a o) :
  Inv X pq σ (upd H a o) {s with heap:=h',toks:=t' }:=I.un (Un.laid k hp<|I.hok.fresh hp)<|I.hok.laid k hp new
theorem Inv.write(I:Inv X pq σ H s)(mu:Mut (H x))(he:e=x\/H e=aa (.own x))(k:∀b u,b≠e->s.heap.get? b=aa u->h'.get? b=aa u)(heo:∃u,h'.get? e=aa u)
  (new:Ya X.prog X.w (upd H x o) h' x o):Inv X pq σ (upd H x o) {s with heap:=h',toks:=t' }:=I.un (Un.write mu he k heo)<|I.hok.write mu he k heo new
def Inv.pins_of(I:Inv X pq σ H s)(h:∀p∈pins',s.heap.get? p.1=aa p.2/\H p.1=ac/\p.1≠X.env.locals/\p.1∉X.fs/\∀v,p.2.data≠.cell v):Inv X pins' σ H s:=
 ⟨I.ok,I.os,I.bare,I.base,I.loc,I.cell,I.free,I.freeC,λp hp=>(bN.mp hp).elim (λz=>I.pin p<|cm _ z)<|h p,I.hok,I.len⟩
def Qr{N:List bc}(hN:N.Nodup){i j:Nat}{x:bc}(a:N[i]?=aa x)(b:N[j]?=aa x):i=j:=by
 obtain⟨h1,e1⟩:=ay.mp a;obtain⟨h2,e2⟩:=ay.mp b;exact(List.getElem_inj hN).mp<|e1.trans e2.symm
def JG{M:Model}{A:bL}{E:aq->au->Prop}{i:Nat}{x:bc}{v:V}{u:aq}{Q:Unit->au->Prop}(I:Inv X pq σ H s)(hN:X.N.Nodup)(hi:X.N[i]?=aa x)(hx:Loc X.env.scope x)(r:Zz v u)
  (h:∀s',Inv X pq (σ.set i<|aa v) H s'->(∃a,d5 a s.heap s'.heap/\(a=X.env.locals\/X.env.cells.lookup x=aa a))->Q () s')(hf:X.fn x=ah\/X.env.scope.names.lookup x=aa .local:=by first|exact .inl rfl|exact .inr rfl|assumption):aW M A (storeName X.env x u) Q E s:=by
 obtain⟨m,hn,hl⟩:=id I.loc;have hcls:(X.env.scope.kind == .class||(X.env.scope.kind == .module&&X.env.locals != X.env.globals))=ai:=by rw[I.ok.kind];rfl
 have hiσ:i<σ.length:=by rw[I.len];exact(ay.mp hi).1
 have cne:=I.cne;have tracked:∀{a:aw}{h':bF},(∃o,s.heap.get? a=aa o/\H a=ac)->d5 a s.heap h'->HOk X.prog X.w H h':=λ{a h'} ha hs b ob e=>by
  obtain⟨_,_,hfree⟩:=ha;refine(I.hok b ob e).stay (λc w' hc q=>(hs.2 c ?_).trans q) (λ_ q=>q) λ_ _ q=>q
  rintro rfl
  rcases hc with rfl|hc
  ·rw[hfree]at e;cases e
  ·rw[hfree]at hc;cases hc
 rcases hx with hk|hk
 ·refine wpAny_storeName_local hk hn (λh' hn' hs=>?_) hcls
  obtain⟨oL,_,_,hoL,_⟩:=id hn;refine h _ ⟨I.ok,I.os,I.bare,⟨λb o e n hb hx=>?_,λb o e n hb hx=>?_,I.base.free,λb o e hx=>?_,I.base.tups,I.base.frzs,I.base.tbls⟩,⟨_,hn',λj y v' e1 e2 e3=>?_⟩,λy c e=>?_,I.free,I.freeC,λp hp=>?_,tracked ⟨oL,hoL,I.free⟩ hs,by simpa using I.len⟩ ⟨_,hs,.inl rfl⟩
  ·exact(hs.2 b<|bf<|aQ (aJ e) I.ok.above).trans<|I.base.keep b o e n hb hx
  ·obtain⟨sl,e1⟩:=I.base.slot b o e n hb hx
   exact⟨sl,(hs.2 b<|bf<|aQ (aJ e) I.ok.above).trans e1⟩
  ·obtain⟨o',e1⟩:=I.base.there b o e hx
   exact⟨o',(hs.2 b<|bf<|aQ (aJ e) I.ok.above).trans e1⟩
  ·by_cases hj:j=i
   ·subst hj
    rw[hi]at e1;cases e1;rw[aS hiσ]at e2;cases e2;exact⟨u,r,.inl ⟨hk,by simp⟩⟩
   ·rw[aH<|Ne.symm hj]at e2
    obtain⟨u',r',q⟩:=hl j y v' e1 e2 e3;refine⟨u',r',?_⟩;rcases q with⟨k,e⟩|⟨k,c,e,z⟩
    ·refine .inl ⟨k,?_⟩
     have:y≠x:=λe=>hj<|Qr hN e1<|e▸hi
     simp[this,e]
    ·exact .inr ⟨k,c,e,z.sameBut hs<|cne y c e⟩
  ·obtain⟨w',z⟩:=I.cell y c e
   exact⟨w',z.sameBut hs<|cne y c e⟩
  ·obtain⟨e,n,ne,nf,d⟩:=I.pin p hp
   exact⟨(hs.2 p.1 ne).trans e,n,ne,nf,d⟩
 ·have hfn:X.fn x=ah:=by
   rcases hf with z|z
   ·exact z
   ·grind
  obtain⟨c,hc⟩:=I.ok.has x<|.inl hk;obtain⟨w',z⟩:=I.cell x c hc;refine wpAny_storeName_cell I.ok.kind hk hc z λh' hc' hs=>?_
  obtain⟨oc,hoc,hocd⟩:=id z;refine h {s with heap:=h' } ⟨I.ok,I.os,I.bare,⟨λb o e n hb hx=>?_,λb o e n hb hx=>?_,I.base.free,λb o e hx=>?_,I.base.tups,I.base.frzs,I.base.tbls⟩,⟨m,hn.sameBut hs<|Ne.symm<|cne x c hc,λj y v' e1 e2 e3=>?_⟩,λy c' e=>?_,I.free,I.freeC,λp hp=>?_,tracked ⟨oc,hoc,I.freeC x c hc⟩ hs,by simpa using I.len⟩ ⟨c,hs,.inr hc⟩
  ·exact(hs.2 b<|bf<|aQ (aJ e)<|I.ok.cab x c hfn hc).trans<|I.base.keep b o e n hb hx
  ·obtain⟨sl,e1⟩:=I.base.slot b o e n hb hx
   exact⟨sl,(hs.2 b<|bf<|aQ (aJ e)<|I.ok.cab x c hfn hc).trans e1⟩
  ·obtain⟨o',e1⟩:=I.base.there b o e hx
   exact⟨o',(hs.2 b<|bf<|aQ (aJ e)<|I.ok.cab x c hfn hc).trans e1⟩
  ·by_cases hj:j=i
   ·subst hj
    rw[hi]at e1;cases e1;rw[aS hiσ]at e2;cases e2;exact⟨u,r,.inr ⟨.inl hk,c,hc,hc'⟩⟩
   ·rw[aH<|Ne.symm hj]at e2
    obtain⟨u',r',q⟩:=hl j y v' e1 e2 e3;refine⟨u',r',?_⟩;rcases q with q|⟨k,c',e,z'⟩
    ·exact .inl q
    ·refine .inr ⟨k,c',e,z'.sameBut hs ?_⟩
     rintro rfl
     exact hj<|Qr hN e1<|I.ok.inj _ _ _ e hc▸hi
  ·by_cases hcc:c'=c
   ·subst hcc;exact⟨_,hc'⟩
   ·obtain⟨w2,z2⟩:=I.cell y c' e
    exact⟨w2,z2.sameBut hs hcc⟩
  ·obtain⟨e,n,ne,nf,d⟩:=I.pin p hp
   refine⟨(hs.2 p.1 ?_).trans e,n,ne,nf,d⟩;intro q;rw[q,hoc]at e;have q':=ak e;exact d w' (by rw[<-q'];exact hocd)
def XJ{E:aq->au->Prop}{Q:Unit->au->Prop}(I:Inv X pq σ H s)(hN:X.N.Nodup)(hi:X.N[i]?=aa x)(hx:Loc X.env.scope x)(r:Zz v u)
  (h:∀s',Inv X pq (σ.set i<|aa v) H s'->Q () s')(hf:X.fn x=ah\/X.env.scope.names.lookup x=aa .local:=by first|exact .inl rfl|exact .inr rfl|assumption):aW M A (storeName X.env x u) Q E s:=
 JG I hN hi hx r (λs' I' _=>h s' I') hf
def Inv.call'(I:Inv X pq σ H s)(ho:s'.os=s.os)(u:Un (frs X.stack) ch H H' s.heap s'.heap)(hok:HOk X.prog X.w H' s'.heap)(hg:fY s'.gens)
  (hch:∀b∈ch,(b∈X.ex\/X.s₀.heap.objs.size<=b)/\b≠X.env.locals/\(∀x c,X.env.cells.lookup x=aa c->c≠b)/\∀p∈X.pn++pq,p.1≠b):Inv X pq σ H' s':=by
 obtain⟨h',g',d',t',o'⟩:=s';have e:=ho;subst e;exact I.call (g':=g') (t':=t') (d':=d') u hok hg hch
end
abbrev XK:=aq->Option aw->Hp->Prop
abbrev St:=List<|Option V
abbrev VK:=V->Hp->Prop
abbrev TE:=St->Hp->VK->Prop
abbrev TT:=St->Hp->(Bool->Hp->Prop)->Prop
abbrev TA:=St->Hp->(List V->Hp->Prop)->Prop
structure Ends where
 nx:St->Hp->Prop
 rt:VK
 bk:St->Hp->Prop:=λ_ _=>False
 ct:St->Hp->Prop:=λ_ _=>False
abbrev TS:=Ends->St->Hp->Prop
def EP(X:Cx)(pq:List (aw×dB))(σ:St)(Q:VK)(u:aq)(s':au):Prop:=∃v H',Inv X pq σ H' s'/\Zz v u/\Q v H'
def TP(X:Cx)(pq:List (aw×dB))(σ:St)(Q:Bool->Hp->Prop)(b:Bool)(s':au):Prop:=∃H',Inv X pq σ H' s'/\Q b H'
def AP(X:Cx)(pq:List (aw×dB))(σ:St)(Q:List V->Hp->Prop)(us:List aq)(s':au):Prop:=∃vs H',Inv X pq σ H' s'/\Vals vs us/\Q vs H'
def SP(X:Cx)(pq:List (aw×dB))(D:Ends)(f:Flow)(s':au):Prop:=
 match f with
 |.next=>∃σ' H',Inv X pq σ' H' s'/\D.nx σ' H'
 |.brk=>∃σ' H',Inv X pq σ' H' s'/\D.bk σ' H'
 |.cont=>∃σ' H',Inv X pq σ' H' s'/\D.ct σ' H'
 |.ret u=>∃v σ' H',Inv X pq σ' H' s'/\Zz v u/\D.rt v H'
def PE(X:Cx)(e:Expr)(t:TE):Prop:=
 ∀(pq:List (aw×dB))(s:au)(σ:St)(H:Hp)(Q:VK),Inv X pq σ H s->t σ H Q->aW (aZ X.prog X.w) X.A (cb e X.env) (EP X pq σ Q) X.xe s
def PT(X:Cx)(e:Expr)(t:TT):Prop:=
 ∀(pq:List (aw×dB))(s:au)(σ:St)(H:Hp)(Q:Bool->Hp->Prop),Inv X pq σ H s->t σ H Q->aW (aZ X.prog X.w) X.A (isTrue e X.env<|cb e X.env) (TP X pq σ Q) X.xe s
def PW(X:Cx)(e:Expr)(t:TT):Prop:=
 ∀(whole:mL aq)(pq:List (aw×dB))(s:au)(σ:St)(H:Hp)(Q:Bool->Hp->Prop),Inv X pq σ H s->t σ H Q->aW (aZ X.prog X.w) X.A (isTrue e X.env whole) (TP X pq σ Q) X.xe s
def PW.pt(h:PW X e t):PT X e t:=h _
def PA(X:Cx)(es:List Expr)(t:TA):Prop:=
 ∀(pos:d8)(pq:List (aw×dB))(s:au)(σ:St)(H:Hp)(Q:List V->Hp->Prop),Inv X pq σ H s->t σ H Q->aW (aZ X.prog X.w) X.A (spliced<|cX pos<|aC es X.env) (AP X pq σ Q) X.xe s
def PS(X:Cx)(st:de)(t:TS):Prop:=
 ∀(pq:List (aw×dB))(s:au)(σ:St)(H:Hp)(D:Ends),Inv X pq σ H s->t D σ H->aW (aZ X.prog X.w) X.A (exec st X.env) (SP X pq D) X.xe s
def PSs(X:Cx)(st:List de)(t:TS):Prop:=
 ∀(pq:List (aw×dB))(s:au)(σ:St)(H:Hp)(D:Ends),Inv X pq σ H s->t D σ H->aW (aZ X.prog X.w) X.A (execs st X.env) (SP X pq D) X.xe s
def thn{α:Type}{t:mL α}{Q Q':α->au->Prop}{M:Model}{A:bL}{E:aq->au->Prop}{s:au}(h:aW M A t Q E s)(hQ:∀a s,Q a s->Q' a s):aW M A t Q' E s:=cB h hQ λ_ _ x=>x
section
variable{X:Cx}
def Gc(i:Nat):TE:=λσ H Q=>∃v,σ[i]?=aa (aa v)/\Q v H
def tC(v:V):TE:=λ_ H Q=>Q v H
def Y6(hN:X.N[i]?=aa x)(hv:Vis X.env.scope x)(hd:(x == ("__debug__" : bc))=ai:=by decide)(hcd:(x == ("__classdict__" : bc))=ai:=by decide):PE X (.Name x pos) (Gc i):=by
 intro pq s σ H Q I h;obtain⟨v,e,h⟩:=h;obtain⟨m,hn,hl⟩:=I.loc;obtain⟨u,r,l⟩:=hl i x v hN e hv;have fin:EP X pq σ Q u s:=⟨v,H,I,r,h⟩;rcases l with⟨hk,hm⟩|⟨hk,c,hc,hcell⟩
 ·exact gL (gh I.ok.kind hk hn hm fin) hd
 ·rcases hk with hk|hk
  ·exact gL (gA I.ok.kind hk hc hcell fin) hd
  ·exact gL (kJ I.ok.kind hk hc hcell fin hcd) hd
def J4{i j pos}:PE X (.Constant (.int i) j pos) (tC<|.int i):=λ_ _ _ H _ I h=>wpAny_Constant_int ⟨.int i,H,I.tok _,⟨_,rfl⟩,h⟩
def vn{b j pos}:PE X (.Constant (.bool b) j pos) (tC<|.bl b):=λ_ _ _ H _ I h=>Constant_bool ⟨.bl b,H,I,rfl,h⟩
def xI{j pos}:PE X (.Constant .none j pos) (tC .non):=λ_ _ _ H _ I h=>Constant_none ⟨.non,H,I,rfl,h⟩
def Gw{x j pos}:PE X (.Constant (.str x) j pos) (tC<|.str x):=λ_ _ _ H _ I h=>Calls.Constant_str ⟨.str x,H,I.tok _,⟨_,rfl⟩,h⟩
def Gl(X:Cx)(x:bc):Prop:=X.env.kindOf x=aa .globalImplicit
def Vo{E:aq->au->Prop}{Q:aq->au->Prop}(I:Inv X pq σ H s)(hg:Gl X x)(hm:X.mg x=aa u)(h:Q u s)
  (hd:(x == ("__debug__" : bc))=ai:=by decide):aW (aZ X.prog X.w) X.A (cb (.Name x pos) X.env) Q E s:=
 Calls.Name_function_global I.ok.kind hg (Calls.loadGlobal_global (by rw[I.ok.glob];exact I.mod.glob.keeps I.bk) hm h) hd
def WY{E:aq->au->Prop}{Q:aq->au->Prop}(I:Inv X pq σ H s)(hg:Gl X x)(hm:X.mg x=ac)(hv:cQ x=aa u)(h:Q u s)
  (hn:x≠"__name__":=by decide)(hd:(x == ("__debug__" : bc))=ai:=by decide):aW (aZ X.prog X.w) X.A (cb (.Name x pos) X.env) Q E s:=by
 obtain⟨mb,h1,h2⟩:=I.mod.blt;exact Calls.Name_function_global I.ok.kind hg (Calls.loadGlobal_builtin (by rw[I.ok.glob];exact I.mod.glob.keeps I.bk) hm (by rw[I.ok.blt];exact h1.keeps I.bk) ((h2 x hn).trans hv) h) hd
def Zcr(hg:Gl X x)(hm:X.mg x=aa u)(r:Zz v u)(hd:(x == ("__debug__" : bc))=ai:=by decide):PE X (.Name x pos) (tC v):=
 λ_ _ _ H _ I h=>Vo I hg hm ⟨v,H,I,r,h⟩ hd
def UE(hg:Gl X x)(hm:X.mg x=ac)(hv:cQ x=aa u)(r:Zz v u)(hn:x≠"__name__":=by decide)(hd:(x == ("__debug__" : bc))=ai:=by decide):PE X (.Name x pos) (tC v):=
 λ_ _ _ H _ I h=>WY I hg hm hv ⟨v,H,I,r,h⟩ hn hd
variable{a b:Expr}{ta tb:TE}{pos:d8}
def PC(X:Cx)(op:nK)(a b:Expr)(t:TE):Prop:=
 ∀(pq:List (aw×dB))(s:au)(σ:St)(H:Hp)(Q:VK),Inv X pq σ H s->t σ H Q->
  aW (aZ X.prog X.w) X.A (cb a X.env) (λv s₁=>aW (aZ X.prog X.w) X.A (cb b X.env) (λu s₂=>aW (aZ X.prog X.w) X.A (cg op v u) (EP X pq σ Q) X.xe s₂) X.xe s₁) X.xe s
def Zas(b:Expr)(h:op≠.In)(h2:op≠.NotIn):c8 op b=ai:=by
 have e1:(op == nK.In)=ai:=by grind
 have e2:(op == nK.NotIn)=ai:=by grind
 cases b<;>simp[c8,e1,e2]
def ZfJ(ta:TE):TE:=λσ H Q=>ta σ H λx H1=>Q (.bl<|ae<|x=.non) H1
def Zz.none_iff(r:Zz x v):(v == bH)=ae (x=.non):=by
 cases x with|non=>cases r;rfl|bl _=>cases r;rfl|int _=>obtain⟨t,rfl⟩:=r;rfl|str _=>obtain⟨t,rfl⟩:=r;rfl|ref _=>cases r;rfl|ty _=>cases r;rfl
def Ze2{j pos'}(ha:PE X a ta):PC X .Is a (.Constant .none j pos') (ZfJ ta):=by
 intro pq s σ H Q I h;refine thn (ha pq s σ H _ I h) λv s1 ⟨x,H1,I1,r1,q1⟩=>?_
 exact Constant_none<|is_none_gen ⟨.bl _,H1,I1,by rw[r1.none_iff];rfl,q1⟩
def tB(t:TE):TT:=λσ H Q=>t σ H λx H1=>∃c,x=.bl c/\Q c H1
def Zer{op:nK}{t:TE}(h:PC X op a b t)(h1:c8 op b=ai:=by first|exact Zas _ (by decide) (by decide)|rfl):PT X (.Compare a [op] [b] pos) (tB t):=by
 intro pq s σ H Q I hw;refine ka (thn (h pq s σ H _ I hw) λv s1 h1=>thn h1 λu s2 h2=>thn h2 λc s3 ⟨x,H1,I1,r1,q1⟩=>?_) h1
 obtain⟨d,rfl,q⟩:=q1;cases r1;exact cC ⟨H1,I1,q⟩
def ZeZ{e:Expr}{t:TE}(h:PE X e t)(he:∀whole,isTrue e X.env whole=(do let v <-whole;ly e.pos;ia [v] (nD v)):=by intro _;rfl):PT X e (tB t):=by
 intro pq s σ H Q I hw;refine isTrue_plain (thn (h pq s σ H _ I hw) λv s1 ⟨x,H1,I1,r1,q1⟩=>?_)<|he _
 obtain⟨d,rfl,q⟩:=q1;cases r1;exact cC ⟨H1,I1,q⟩
variable{tA tB':TT}{rest:List Expr}
def tOr(t u:TT):TT:=λσ H Q=>t σ H λc H1=>if c=ah then Q ah H1 else u σ H1 Q
def ZfK(t:TT):TT:=λσ H Q=>t σ H λc H1=>Q (!c) H1
def ZaX(ha:PT X a tA):PW X (.BoolOp .Or [a] pos) tA:=by
 intro wh pq s σ H Q I h;refine isTrue_or<|thn (ha pq s σ H Q I h) λc s1 e=>?_
 cases c with|false=>exact isTrue_or_nil e|true=>exact e
def Zdh(ha:PT X a tA)(hb:PW X (.BoolOp .Or (b::rest) pos) tB'):PW X (.BoolOp .Or (a::b::rest) pos) (tOr tA tB'):=by
 intro wh pq s σ H Q I h;refine isTrue_or<|thn (ha pq s σ H _ I h) λc s1 ⟨H1,I1,q1⟩=>?_
 cases c with|true=>exact⟨H1,I1,q1⟩|false=>exact hb wh pq s1 σ H1 Q I1 q1
def jq(ha:PT X a tA):PT X (.UnaryOp .Not a pos) (ZfK tA):=by
 intro pq s σ H Q I h;exact isTrue_not<|ha pq s σ H (λc H1=>Q (!c) H1) I h
def ZfE(ta tb:TE):TE:=λσ H Q=>ta σ H λx H1=>∃c,x=.bl c/\if c=ah then tb σ H1 Q else Q (.bl ai) H1
def Zgq(ta tb:TE):TE:=λσ H Q=>ta σ H λx H1=>∃c,x=.bl c/\if c=ah then Q (.bl ah) H1 else tb σ H1 Q
def Zd4(ha:PE X a ta)(hb:PE X (.BoolOp .And (b::rest) pos) tb):PE X (.BoolOp .And (a::b::rest) pos) (ZfE ta tb):=by
 intro pq s σ H Q I h;refine BoolOp_and<|thn (ha pq s σ H _ I h) λv s1 ⟨x,H1,I1,r1,q1⟩=>?_
 obtain⟨c,rfl,q1⟩:=q1;cases r1;refine cC ?_;cases c with|true=>exact hb pq s1 σ H1 Q I1 q1|false=>exact⟨.bl ai,H1,I1,rfl,q1⟩
def ZfO(ha:PE X a ta)(hb:PE X (.BoolOp .Or (b::rest) pos) tb):PE X (.BoolOp .Or (a::b::rest) pos) (Zgq ta tb):=by
 intro pq s σ H Q I h;refine BoolOp_or<|thn (ha pq s σ H _ I h) λv s1 ⟨x,H1,I1,r1,q1⟩=>?_
 obtain⟨c,rfl,q1⟩:=q1;cases r1;refine cC ?_;cases c with|false=>exact hb pq s1 σ H1 Q I1 q1|true=>exact⟨.bl ah,H1,I1,rfl,q1⟩
end
def SqL(K:aj)(H:Hp)(a:aw)(xs:List V):Prop:=
 Rd H a (.lst xs)\/
  ∃(o:dB)(its:Array aq)(n:Nat),K.lookup a=aa o/\o.cls=.type "list"/\o.dict=ac/\o.data=.seq its n/\its.size<=aY/\Vals xs its.toList
def SqT(K:aj)(H:Hp)(a:aw)(xs:List V):Prop:=
 Rd H a (.tup xs)\/
  ∃(o:dB)(its:Array aq)(n:Nat),K.lookup a=aa o/\o.cls=.type "tuple"/\o.data=.seq its n/\its.size<=aY/\Vals xs its.toList
noncomputable def Zgb:aq->Option V
 |.none=>aa .non
 |.bool b=>aa (.bl b)
 |.int i _=>aa (.int i)
 |.str x _=>aa (.str x)
 |.ref a=>aa (.ref a)
 |.type n=>aa (.ty n)
 |_=>ac
def Zz.abs(r:Zz x u):Zgb u=aa x:=by
 cases x with|non=>cases r;rfl|bl _=>cases r;rfl|int _=>obtain⟨t,rfl⟩:=r;rfl|str _=>obtain⟨t,rfl⟩:=r;rfl|ref _=>cases r;rfl|ty _=>cases r;rfl
def Zz.inj{x y:V}{u:aq}(r:Zz x u)(q:Zz y u):x=y:=ak<|r.abs.symm.trans q.abs
theorem Vals.inj:∀{xs ys:List V}{us:List aq},Vals xs us->Vals ys us->xs=ys
 |_,_,_,.nil,.nil=>rfl
 |_,_,_,.cons r t,.cons r' t'=>by rw[r.inj r',Vals.inj t t']
section
variable{X:Cx}{pq:List (aw×dB)}{σ:St}{H:Hp}{s:au}{a:aw}{xs ys:List V}
def SqL.of{K:aj}(h:H a=aa (.lst xs)):SqL K H a xs:=.inl<|.inl h
def SqT.of{K:aj}(h:H a=aa (.tup xs)):SqT K H a xs:=.inl<|.inl h
def Inv.list(I:Inv X pq σ H s)(h:SqL X.K H a xs):∃its:List aq,Vals xs its/\PlainL s.heap a its.toArray/\xs.length<=aY:=by
 rcases h with h|⟨o,its,n,hk,hc,hd,hs,hz,r⟩
 ·obtain⟨z,its,n,r,e⟩:=h.ok I.hok
  exact⟨its,r,⟨_,n,e,rfl,rfl,rfl⟩,z⟩
 ·refine⟨its.toList,r,⟨o,n,I.kIn a o hk,hc,hd,by simpa using hs⟩,?_⟩
  have e:=r.length;simp only[cV]at e;omega
def Inv.tuple(I:Inv X pq σ H s)(h:SqT X.K H a xs):∃its:List aq,Vals xs its/\lx s.heap a its.toArray/\xs.length<=aY:=by
 rcases h with h|⟨o,its,n,hk,hc,hs,hz,r⟩
 ·obtain⟨z,its,r,p⟩:=h.ok I.hok
  exact⟨its,r,p,z⟩
 ·refine⟨its.toList,r,⟨o,I.kIn a o hk,hc,n,by simpa using hs⟩,?_⟩
  have e:=r.length;simp only[cV]at e;omega
def Inv.list_inj(I:Inv X pq σ H s)(h:SqL X.K H a xs)(h':SqL X.K H a ys):xs=ys:=by
 obtain⟨its,r,⟨o,n,e,_,_,d⟩,_⟩:=I.list h;obtain⟨its',r',⟨o',n',e',_,_,d'⟩,_⟩:=I.list h';rw[e]at e';cases e';rw[d]at d';injection d' with d1 _
 have:its=its':=by grind
 subst this;exact r.inj r'
def Inv.tuple_inj(I:Inv X pq σ H s)(h:SqT X.K H a xs)(h':SqT X.K H a ys):xs=ys:=by
 obtain⟨its,r,⟨o,e,_,n,d⟩,_⟩:=I.tuple h;obtain⟨its',r',⟨o',e',_,n',d'⟩,_⟩:=I.tuple h';rw[e]at e';cases e';rw[d]at d';injection d' with d1 _
 have:its=its':=by grind
 subst this;exact r.inj r'
end
section
variable{X:Cx}{st:de}{rest:List de}{t u:TS}{e:Expr}{te:TE}{pos:d8}
def jy:TS:=λD σ H=>D.nx σ H
def JS(t u:TS):TS:=λD σ H=>t {D with nx:=u D} σ H
def JX:PSs X [] jy:=λ_ _ σ H _ I h=>d9 ⟨σ,H,I,h⟩
def YF(h1:PS X st t)(h2:PSs X rest u):PSs X (st::rest) (JS t u):=by
 intro pq s σ H D I h;refine eS<|thn (h1 pq s σ H {D with nx:=u D} I h) λf s1 q=>?_
 cases f with
 |next=>
  obtain⟨σ',H',I',q⟩:=q;exact h2 pq s1 σ' H' D I' q
 |ret v=>exact q
 |brk=>exact q
 |cont=>exact q
def VA(h1:PS X st t):PSs X [st] t:=by
 intro pq s σ H D I h;refine eS<|thn (h1 pq s σ H D I h) λf s1 q=>?_
 cases f with|next=>exact d9 q|ret v=>exact q|brk=>exact q|cont=>exact q
def Inv.quiet(I:Inv X pq σ H s):interactive X.env=ai:=by simp[interactive,I.ok.kind]
def Zdq(te:TE):TS:=λD σ H=>te σ H λ_ H1=>D.nx σ H1
def wF(he:PE X e te)(hs:eT e ac pos.line X.env=cA ai:=by rfl):PS X (.Expr e pos) (Zdq te):=by
 intro pq s σ H D I h;exact wpAny_Expr_any (thn (he pq s σ H _ I h) λv s1 ⟨x,H1,I1,r1,q1⟩=>⟨σ,H1,I1,q1⟩) I.quiet hs
def qW(te:TE):TS:=λD σ H=>te σ H D.rt
def U7(he:PE X e te):PS X (.Return (aa e) pos) (qW te):=by
 intro pq s σ H D I h;exact wpAny_Return_some<|thn (he pq s σ H _ I h) λv s1 ⟨x,H1,I1,r1,q1⟩=>⟨x,σ,H1,I1,r1,q1⟩
def Zd0(c:TT)(t u:TS):TS:=λD σ H=>c σ H λb H1=>if b=ah then t D σ H1 else u D σ H1
def Zaj{c:Expr}{a b:List de}{tc:TT}(hc:PT X c tc)(ha:PSs X a t)(hb:PSs X b u):PS X (.If c a b pos) (Zd0 tc t u):=by
 intro pq s σ H D I h;refine wpAny_If<|thn (hc pq s σ H _ I h) λd s1 ⟨H1,I1,q1⟩=>?_
 cases d with|true=>exact ha pq s1 σ H1 D I1 q1|false=>exact hb pq s1 σ H1 D I1 q1
end
abbrev TG:=V->St->Hp->(St->Hp->Prop)->Prop
abbrev TGs:=List V->St->Hp->(St->Hp->Prop)->Prop
def PG(X:Cx)(target:Expr)(t:TG):Prop:=
 ∀(pq:List (aw×dB))(s:au)(σ:St)(H:Hp)(v:V)(u:aq)(Q:St->Hp->Prop),Inv X pq σ H s->Zz v u->t v σ H Q->
  aW (aZ X.prog X.w) X.A (assign target X.env u) (λ_ s'=>∃σ' H',Inv X pq σ' H' s'/\Q σ' H') X.xe s
def PGs(X:Cx)(ts:List Expr)(t:TGs):Prop:=
 ∀(pq:List (aw×dB))(s:au)(σ:St)(H:Hp)(vs:List V)(us:List aq)(Q:St->Hp->Prop),Inv X pq σ H s->Vals vs us->t vs σ H Q->
  aW (aZ X.prog X.w) X.A (kP ((cu ts X.env).map (·.2)) us) (λ_ s'=>∃σ' H',Inv X pq σ' H' s'/\Q σ' H') X.xe s
abbrev TSet:=V->V->V->Hp->(Hp->Prop)->Prop
def PSet(X:Cx)(t:TSet):Prop:=
 ∀(pq:List (aw×dB))(s:au)(σ:St)(H:Hp)(o i v:V)(ov iv u:aq)(Q:Hp->Prop),Inv X pq σ H s->Zz o ov->Zz i iv->Zz v u->t o i v H Q->
  aW (aZ X.prog X.w) X.A (setItem ov iv u) (λ_ s'=>∃H',Inv X pq σ H' s'/\Q H') X.xe s
abbrev TIp:=V->V->Hp->VK->Prop
def PIp(X:Cx)(op:mS)(t:TIp):Prop:=
 ∀(pq:List (aw×dB))(s:au)(σ:St)(H:Hp)(x y:V)(v u:aq)(Q:VK),Inv X pq σ H s->Zz x v->Zz y u->t x y H Q->
  aW (aZ X.prog X.w) X.A (inplaceOp op v u) (EP X pq σ Q) X.xe s
section
variable{X:Cx}{pos:d8}
def UQ(i:Nat):TG:=λv σ H Q=>Q (σ.set i<|aa v) H
def wE(hN:X.N.Nodup)(hi:X.N[i]?=aa x)(hx:Loc X.env.scope x)(hf:X.fn x=ah\/X.env.scope.names.lookup x=aa .local:=by first|exact .inl rfl|exact .inr rfl|assumption):PG X (.Name x pos) (UQ i):=by
 intro pq s σ H v u Q I r h;exact lz<|XJ I hN hi hx r (λs' I'=>⟨_,H,I',h⟩) hf
def Zgg:TGs:=λvs σ H Q=>vs=[]/\Q σ H
def Zfi(t:TG)(u:TGs):TGs:=λvs σ H Q=>∃v r,vs=v::r/\t v σ H λσ' H'=>u r σ' H' Q
def Zb3:PGs X [] Zgg:=by
 intro pq s σ H vs us Q I r h;obtain⟨e,h⟩:=h;subst e;cases r;exact lA ⟨σ,H,I,h⟩
def jr{e:Expr}{es:List Expr}{t:TG}{u:TGs}(h1:PG X e t)(h2:PGs X es u)
  (hs:(cu (e::es) X.env).map (·.2)=assign e X.env::(cu es X.env).map (·.2):=by rfl):PGs X (e::es) (Zfi t u):=by
 intro pq s σ H vs us Q I r h;obtain⟨v,vr,e1,h⟩:=h;subst e1;cases r with
 |cons r rr=>
  rw[hs];refine gM<|thn (h1 pq s σ H _ _ _ I r h) λ_ s1 ⟨σ1,H1,I1,q1⟩=>?_
  exact h2 pq s1 σ1 H1 _ _ Q I1 rr q1
def Zf6(K:aj)(n:Nat)(t:TGs):TG:=λv σ H Q=>∃a xs,v=.ref a/\SqT K H a xs/\xs.length=n/\t xs σ H Q
def ZdW(hc:X.calm=ah)(h:PGs X es t)
  (hn:(cu es X.env).length=n:=by rfl)(hst:(cu es X.env).findIdx? (·.1)=ac:=by rfl):PG X (.Tuple es k pos) (Zf6 X.K n t):=by
 intro pq s σ H v u Q I r hw;obtain⟨a,xs,e1,hq,hl,hw⟩:=hw;subst e1;cases r;obtain⟨its,rv,ht,hz⟩:=I.tuple hq;refine assign_Tuple_tuple (I.ok.hd hc) ht (by simp[hn,<-hl,rv.length]) hst λh' hx=>?_
 have I1:=I.kept (t':=s.toks) λb o e=>hx b o (bf<|aJ e) e
 exact h pq _ σ H xs _ Q I1 (by simpa using rv) hw
def Zf8(to ti:TE)(t:TSet):TG:=λv σ H Q=>to σ H λo H1=>ti σ H1 λi H2=>t o i v H2 λH3=>Q σ H3
def Zek{o i:Expr}{to ti:TE}{t:TSet}(ho:PE X o to)(hi:PE X i ti)(hs:PSet X t)
  (ha:∀v,assign (.Subscript o i pos) X.env v=(do
   let ov <-ia [v] (cb o X.env)
   let iv <-ia [v,ov] (cb i X.env)
   ly pos
   ia [v,ov,iv] (setItem ov iv v)
   release [v,ov,iv] []):=by intro _;rfl):PG X (.Subscript o i pos) (Zf8 to ti t):=by
 intro pq s σ H v u Q I r h;rw[ha];refine af<|bO<|thn (ho pq s σ H _ I h) λov s1 ⟨x,H1,I1,r1,q1⟩=>?_
 refine af<|bO<|thn (hi pq s1 σ H1 _ I1 q1) λiv s2 ⟨y,H2,I2,r2,q2⟩=>?_
 refine af<|fZ<|af<|bO<|thn (hs pq s2 σ H2 x y v ov iv u _ I2 r1 r2 r q2) λ_ s3 ⟨H3,I3,q3⟩=>?_
 exact wpAny_release ⟨σ,H3,I3,q3⟩
def yE(te:TE)(g:TG):TS:=λD σ H=>te σ H λx H1=>g x σ H1 D.nx
def Zbb{tg e:Expr}{te:TE}{g:TG}(he:PE X e te)(hg:PG X tg g)(hs:gb [tg] e pos.line X.env=cA ai:=by rfl)(hw:gd [tg] e X.env=cA ac:=by rfl)
  (h1:(cu [tg] X.env).map (·.2)=[assign tg X.env]:=by rfl):PS X (.Assign [tg] e pos) (yE te g):=by
 intro pq s σ H D I h;refine wpAny_Assign_stores (thn (he pq s σ H _ I h) λv s1 ⟨x,H1,I1,r1,q1⟩=>?_) hs hw
 rw[h1];exact thn (hg pq s1 σ H1 x v _ I1 r1 q1) λ_ s2 q=>q
def VQ{i:Nat}{x:bc}{e:Expr}{te:TE}{pos':d8}(hN:X.N.Nodup)(hi:X.N[i]?=aa x)(hx:Loc X.env.scope x)(he:PE X e te)(hs:eT e (aa<|.Name x pos') pos.line X.env=cA ai:=by rfl)(hf:X.fn x=ah\/X.env.scope.names.lookup x=aa .local:=by first|exact .inl rfl|exact .inr rfl|assumption) :
  PS X (.Assign [.Name x pos'] e pos) (yE te<|UQ i):=by
 intro pq s σ H D I h;refine wpAny_Assign_Name (thn (he pq s σ H _ I h) λv s1 ⟨y,H1,I1,r1,q1⟩=>?_) hs
 exact XJ I1 hN hi hx r1 (λs2 I2=>⟨_,H1,I2,q1⟩) hf
def Zgo(i j:Nat)(ta:TA):TS:=λD σ H=>ta σ H λvs H1=>∃v w,vs=[v,w]/\D.nx ((σ.set i<|aa v).set j<|aa w) H1
def ZeQ{kt k2 pt2}(hc:X.calm=ah)(hN:X.N.Nodup)(hi:X.N[i]?=aa x)(hj:X.N[j]?=aa y)(hij:i≠j)
  (hx:X.env.scope.names.lookup x=aa .local)(hy:X.env.scope.names.lookup y=aa .local)(ha:PA X [a,b] ta)
  (hw:gd [.Tuple [.Name x px,.Name y py] kt pt] (.Tuple [a,b] k2 pt2) X.env=cA (aa [x,y]))
  (hs:gb [.Tuple [.Name x px,.Name y py] kt pt] (.Tuple [a,b] k2 pt2) pos.line X.env=cA ai:=by rfl) :
  PS X (.Assign [.Tuple [.Name x px,.Name y py] kt pt] (.Tuple [a,b] k2 pt2) pos) (Zgo i j ta):=by
 intro pq s σ H D I h;rw[exec_Assign_arm];refine af<|fZ ?_;rw[hs];refine af<|ax ?_;rw[T8<|by decide]
 refine af<|Tuple_<|thn (ha _ pq s σ H _ I h) λus s1 ⟨vs,H1,I1,r1,q1⟩=>?_
 obtain⟨v,w,e1,q1⟩:=q1;subst e1;obtain⟨u1,u2,rfl,rv,rw'⟩:∃u1 u2,us=[u1,u2]/\Zz v u1/\Zz w u2:=by
  cases r1 with
  |cons p q=>
   cases q with
   |cons p' q'=>
    cases q';exact⟨_,_,rfl,p,p'⟩
 refine bu ?_ (by show 2<=aY;decide)
 have I2:Inv X pq σ H1 {s1 with heap:=s1.heap.push {cls:=.type "tuple",data:=.seq [u1,u2].toArray}}:=I1.kept (t':=s1.toks) λb o e=>ao _ e
 rw[hw];refine af<|ax ?_;show aW (aZ X.prog X.w) X.A (do nE "assign.swapped-stores";let items <-unpackItems (.ref s1.heap.objs.size) 2 ac;kP [λv=>bindName X.env y v,λv=>bindName X.env x v] items.reverse;cA Flow.next) _ _ _
 refine af<|fu<|af<|unpackItems_tuple (items:=#[u1,u2]) (I.ok.hd hc) (fR s1.heap _) λh' hx'=>?_
 have I3:=I2.kept (h':=h') (t':=s1.toks) λb o e=>hx' b o (bf<|aJ e) e
 refine af<|gM<|wpAny_bindName<|XJ I3 hN hj (.inl hy) rw' (λs2 I4=>?_)<|.inr hy
 refine gM<|wpAny_bindName<|XJ I4 hN hi (.inl hx) rv (λs3 I5=>lA<|ax ?_)<|.inr hx
 rw[List.set_comm _ _<|Ne.symm hij]at I5;exact⟨_,H1,I5,q1⟩
def Zf7(i:Nat)(te:TE)(ti:TIp):TS:=λD σ H=>∃x,σ[i]?=aa (aa x)/\te σ H λy H1=>ti x y H1 λz H2=>D.nx (σ.set i<|aa z) H2
def ZeO{i:Nat}{x:bc}{e:Expr}{te:TE}{op:mS}{ti:TIp}{pos':d8}(hN:X.N.Nodup)(hi:X.N[i]?=aa x)(hx:Loc X.env.scope x)(he:PE X e te)(ho:PIp X op ti)(hf:X.fn x=ah\/X.env.scope.names.lookup x=aa .local:=by first|exact .inl rfl|exact .inr rfl|assumption) :
  PS X (.AugAssign (.Name x pos') op e pos) (Zf7 i te ti):=by
 intro pq s σ H D I h;obtain⟨v,e1,h⟩:=h;obtain⟨m,hn,hl⟩:=I.loc;have vis:Vis X.env.scope x:=by rcases hx with k|k;exact .inl k;exact .inr<|.inl k
 obtain⟨u,r,l⟩:=hl i x v hi e1 vis;refine wpAny_AugAssign_Name ?_;have go:aW (aZ X.prog X.w) X.A (cb e X.env) (λw s₂=>aW (aZ X.prog X.w) X.A (inplaceOp op u w) (λr s₃=>aW (aZ X.prog X.w) X.A (storeName X.env x r) (λ_=>SP X pq D .next) X.xe s₃) X.xe s₂) X.xe s:=by
  refine thn (he pq s σ H _ I h) λw s1 ⟨y,H1,I1,r1,q1⟩=>?_
  refine thn (ho pq s1 σ H1 v y u w _ I1 r r1 q1) λz s2 ⟨zv,H2,I2,r2,q2⟩=>?_
  exact XJ I2 hN hi hx r2 (λs3 I3=>⟨_,H2,I3,q2⟩) hf
 rcases l with⟨hk,hm⟩|⟨hk,c,hc,hcell⟩
 ·exact gh I.ok.kind hk hn hm go
 ·rcases hk with hk|hk
  ·exact gA I.ok.kind hk hc hcell go
  ·rcases hx with k|k
   ·have:X.env.scope.names.lookup x=aa .free:=hk
    rw[k]at this;cases this
   ·have:X.env.scope.names.lookup x=aa .free:=hk
    rw[k]at this;cases this
end
section
variable{X:Cx}{pos:d8}
def Zei(c:TT)(tb:TS):TS:=λD σ H=>∃W:Nat->St->Hp->Prop,(∃m,W m σ H)/\∀m σ H,W m σ H->
 c σ H λb H1=>if b=ah then ∃N:St->Hp->Prop,(∀σ' H',N σ' H'->∃m',m'<m/\W m' σ' H')/\tb {D with nx:=N,ct:=N,bk:=D.nx} σ H1 else D.nx σ H1
def jL{c:Expr}{body:List de}{tc:TT}{tb:TS}(hp:l0 (aZ X.prog X.w) X.A X.env X.xe)(hc:PT X c tc)(hb:PSs X body tb):PS X (.While c body [] pos) (Zei tc tb):=by
 intro pq s σ H D I h;obtain⟨W,⟨m0,w0⟩,turn⟩:=h;refine wpAny_While<|codeAny_whileLoop (λn s'=>∃σ' H',Inv X pq σ' H' s'/\W n σ' H') ?_ m0 ⟨σ,H,I,w0⟩
 rintro n s1 ⟨σ1,H1,I1,w1⟩
 refine dF hp<|thn (hc pq s1 σ1 H1 _ I1<|turn n σ1 H1 w1) λb s2 ⟨H2,I2,q2⟩=>?_
 cases b with
 |true=>
  obtain⟨N,hN,q2⟩:=q2;rw[T9 rfl];refine dF hp<|thn (hb pq s2 σ1 H2 _ I2 q2) λf s3 q3=>?_
  cases f with
  |next=>
   obtain⟨σ3,H3,I3,n3⟩:=q3;obtain⟨m',hm,w3⟩:=hN σ3 H3 n3;exact⟨m',hm,σ3,H3,I3,w3⟩
  |cont=>
   obtain⟨σ3,H3,I3,n3⟩:=q3;obtain⟨m',hm,w3⟩:=hN σ3 H3 n3;exact⟨m',hm,σ3,H3,I3,w3⟩
  |brk=>exact q3
  |ret v=>exact q3
 |false=>
  rw[T8 aN];exact d9 ⟨σ1,H2,I2,q2⟩
end
structure It where
 go:Nat->Hp->Prop
 yld:Nat->Hp->V->Hp->Prop
 stop:Nat->Hp->Prop
def V7(X:Cx)(pq:List (aw×dB))(H:Hp)(b:aw):Prop:=
 H b=ac/\b≠X.env.locals/\b∉X.fs/\(b∈X.ex\/X.s₀.heap.objs.size<=b)/\(∀x c,X.env.cells.lookup x=aa c->c≠b)/\∀p∈X.pn++pq,p.1≠b
def Inv.fpOk(I:Inv X pq σ H s)(hb:s.heap.objs.size<=b)(hn:H' b=ac):V7 X pq H' b:=by
 refine⟨hn,cY<|aQ I.lt hb,I.nofs hb,.inr<|bh I.sz hb,λx c e z=>?_,λp hp z=>?_⟩
 ·obtain⟨v,q⟩:=I.cell x c e
  exact T7 (aQ q.lt<|by rw[z];exact hb)<|bB _
 ·exact T7 (aQ (aJ (I.pin p hp).1)<|by rw[z];exact hb)<|bB _
structure Turn(P:bq)(w:bC)(K:aj)(tg:Expr)(J:It)(fp:List aw)(it:aw)(tn:Nat->bF->Prop):Prop where
 mem:it∈fp
 obj:∀i h,tn i h->∀b∈fp,∃o,h.get? b=aa o/\∀v,o.data≠.cell v
 keep:∀i h h',tn i h->(∀b∈fp,∀o,h.get? b=aa o->h'.get? b=aa o)->tn i h'
 item:∀(X:Cx),X.prog=P->X.w=w->X.K=K->X.calm=ah->∀(i:Nat)(pq:List (aw×dB))(s:au)(σ:St)(H:Hp)(E:aq->au->Prop),Inv X pq σ H s->(∀b∈fp,V7 X pq H b)->tn i s.heap->J.go i H->
  aW (aZ P w) X.A (mT<|.ref it) (λr s1=>∃u,r=aa u/\
   aW (aZ P w) X.A (i5 tg (.ref it) u) (λ_ s2=>∃x H',Inv X pq σ H' s2/\Zz x u/\J.yld i H x H'/\tn (i+1) s2.heap/\∀b∈fp,H' b=ac) E s1) E s
 done:∀(X:Cx),X.prog=P->X.w=w->X.K=K->X.calm=ah->∀(i:Nat)(pq:List (aw×dB))(s:au)(σ:St)(H:Hp)(E:aq->au->Prop),Inv X pq σ H s->(∀b∈fp,V7 X pq H b)->tn i s.heap->J.stop i H->
  aW (aZ P w) X.A (mT<|.ref it) (λr s1=>r=ac/\Inv X pq σ H s1) E s
 self:∀(A:bL)(i:Nat)(s:au)(Q:aq->au->Prop)(E:aq->au->Prop),tn i s.heap->Q (.ref it) s->aW (aZ P w) A (nF<|.ref it) Q E s
abbrev TI:=St->Hp->(It->Hp->Prop)->Prop
def PIE(X:Cx)(pq:List (aw×dB))(σ:St)(tg:Expr)(R:It->Hp->Prop)(itv:aq)(s2:au):Prop:=
 ∃(it:aw)(fp:List aw)(tn:Nat->bF->Prop)(J:It)(H':Hp),itv=.ref it/\Inv X pq σ H' s2/\Turn X.prog X.w X.K tg J fp it tn/\tn 0 s2.heap/\(∀b∈fp,V7 X pq H' b)/\R J H'
def PI(X:Cx)(tg iter:Expr)(wi:TI):Prop:=
 ∀(pq:List (aw×dB))(s:au)(σ:St)(H:Hp)(R:It->Hp->Prop),Inv X pq σ H s->wi σ H R->
  aW (aZ X.prog X.w) X.A (cb iter X.env) (λv s1=>aW (aZ X.prog X.w) X.A (nF v) (PIE X pq σ tg R) X.xe s1) X.xe s
def wp{E:aq->au->Prop}{Q:Unit->au->Prop}(ho:s.heap.get? it=aa o)(hc:o.cls=.type n)(hd:o.data=.fields vs)
  (hn:["enumerate","zip","dict_itemiterator","dict_reverseitemiterator","odict_iterator","itertools.zip_longest","itertools.pairwise"].contains n=ai)(hQ:Q () s):aW M A (i5 tg (.ref it) u) Q E s:=by
 cases tg<;>first
  |exact ax hQ
  |(cases u<;>first
    |exact ax hQ
    |(refine af (kZ ho ?_)
      rw[hc,hd];show aW M A (if(["enumerate","zip","dict_itemiterator","dict_reverseitemiterator","odict_iterator","itertools.zip_longest","itertools.pairwise"].contains n&&vs[0]? == aa (fb _))=ah then _ else _) Q E s
      rw[T8<|by grind]
      exact ax hQ))
noncomputable def Itl(K:aj)(a:aw):It:=
 ⟨λi H=>∃xs x,SqL K H a xs/\xs[i]?=aa x,λi H x H'=>H'=H/\∀xs,SqL K H a xs->xs[i]?=aa x,λi H=>∃xs,SqL K H a xs/\xs.length<=i⟩
noncomputable def Itt(K:aj)(a:aw):It:=
 ⟨λi H=>∃xs x,SqT K H a xs/\xs[i]?=aa x,λi H x H'=>H'=H/\∀xs,SqT K H a xs->xs[i]?=aa x,λi H=>∃xs,SqT K H a xs/\xs.length<=i⟩
noncomputable def Itr(lo:Int)(n:Nat):It:=⟨λi _=>i<n,λi H x H'=>H'=H/\x=.int (lo+i),λi _=>n<=i⟩
def uE{P:bq}{w:bC}{K:aj}{tg:Expr}(a it:aw):Turn P w K tg (Itl K a) [it] it (λi h=>h.IsListIter it a i) where
 mem:=by simp
 obj:=λi h st b hb=>by
  have e:b=it:=by simpa using hb
  subst e;obtain⟨o,e,c,d⟩:=st;exact⟨o,e,λv z=>by rw[d]at z;cases z⟩
 keep:=λi h h' st k=>st.at λo e=>k it (by simp) o e
 item:=by
  intro X hP hw hK hc i pq s σ H E I hf st hg;subst hP hw hK;obtain⟨xs,x,hq,hx⟩:=hg;obtain⟨its,rv,p,hz⟩:=I.list hq;obtain⟨u,hu,ru⟩:=rv.get hx;obtain⟨f0,f1,f2,f3,f4,f5⟩:=hf it (by simp)
  refine iU st p.isList (by simpa using hu) λh' st' sb=>?_
  have I1:=I.turned (t':=s.toks) (λb o hb e=>(sb.2 b hb).trans e) f0 f1 f3 f4 f5
  obtain⟨o,e,c,d⟩:=id st';exact⟨u,rfl,wp e c d (by decide) ⟨x,H,I1,ru,⟨rfl,λys hy=>by rw[I.list_inj hy hq];exact hx⟩,st',λb hb=>(hf b hb).1⟩⟩
 done:=by
  intro X hP hw hK hc i pq s σ H E I hf st hg;subst hP hw hK;obtain⟨xs,hq,hx⟩:=hg;obtain⟨its,rv,p,hz⟩:=I.list hq;obtain⟨f0,f1,f2,f3,f4,f5⟩:=hf it (by simp)
  have hl:=rv.length;exact kc (I.ok.hd hc) st p.isList (by simp;omega) λh' eb=>⟨rfl,I.turned (t':=s.toks) (λb o hb e=>eb b o hb e) f0 f1 f3 f4 f5⟩
 self:=λ_ _ _ _ _ st h=>wpAny_pyIter_listiter st h
def xX{P:bq}{w:bC}{K:aj}{tg:Expr}(a it:aw):Turn P w K tg (Itt K a) [it] it (λi h=>h.IsTupleIter it a i) where
 mem:=by simp
 obj:=λi h st b hb=>by
  have e:b=it:=by simpa using hb
  subst e;obtain⟨o,e,c,d⟩:=st;exact⟨o,e,λv z=>by rw[d]at z;cases z⟩
 keep:=λi h h' st k=>st.at λo e=>k it (by simp) o e
 item:=by
  intro X hP hw hK hc i pq s σ H E I hf st hg;subst hP hw hK;obtain⟨xs,x,hq,hx⟩:=hg;obtain⟨its,rv,p,hz⟩:=I.tuple hq;obtain⟨u,hu,ru⟩:=rv.get hx;obtain⟨f0,f1,f2,f3,f4,f5⟩:=hf it (by simp)
  refine wpAny_pyNext_tuple_item st (p) (by simpa using hu) λh' st' sb=>?_
  have I1:=I.turned (t':=s.toks) (λb o hb e=>(sb.2 b hb).trans e) f0 f1 f3 f4 f5
  obtain⟨o,e,c,d⟩:=id st';exact⟨u,rfl,wp e c d (by decide) ⟨x,H,I1,ru,⟨rfl,λys hy=>by rw[I.tuple_inj hy hq];exact hx⟩,st',λb hb=>(hf b hb).1⟩⟩
 done:=by
  intro X hP hw hK hc i pq s σ H E I hf st hg;subst hP hw hK;obtain⟨xs,hq,hx⟩:=hg;obtain⟨its,rv,p,hz⟩:=I.tuple hq;obtain⟨f0,f1,f2,f3,f4,f5⟩:=hf it (by simp)
  have hl:=rv.length;exact wpAny_pyNext_tuple_end (I.ok.hd hc) st (p) (by simp;omega) λh' eb=>⟨rfl,I.turned (t':=s.toks) (λb o hb e=>eb b o hb e) f0 f1 f3 f4 f5⟩
 self:=λ_ _ _ _ _ st h=>wpAny_pyIter_tupleiter st h
def xt{P:bq}{w:bC}{K:aj}{tg:Expr}(it:aw)(lo:Int)(n:Nat):Turn P w K tg (Itr lo n) [it] it (λi h=>IsRangeIter h it (lo+(i:Nat)*1) ((n:Int)-(i:Nat)) 1) where
 mem:=by simp
 obj:=λi h st b hb=>by grind
 keep:=λi h h' st k=>k it (by simp) _ st
 item:=by
  intro X hP hw hK hc i pq s σ H E I hf st hg;subst hP hw hK;obtain⟨f0,f1,f2,f3,f4,f5⟩:=hf it (by simp)
  have W:=Walks.range (prog:=X.prog) (w:=X.w) (I.ok.hd hc) it lo 1 n;refine W.item i s _ _ hg st λv h' tk hv st' kk=>?_
  obtain⟨t,rfl⟩:=hv;have I1:Inv X pq σ H {s with heap:=h',toks:=tk}:=I.turned (λb o hb e=>kk b o (by simpa using hb) e) f0 f1 f3 f4 f5
  refine⟨_,rfl,wp st' rfl rfl (by decide) ⟨.int<|lo+i,H,I1,⟨t,?_⟩,⟨rfl,rfl⟩,st',λb hb=>(hf b hb).1⟩⟩
  rw[Int.mul_one]
 done:=by
  intro X hP hw hK hc i pq s σ H E I hf st hg;subst hP hw hK;obtain⟨f0,f1,f2,f3,f4,f5⟩:=hf it (by simp)
  exact wpAny_pyNext_range_end (I.ok.hd hc) st (by have:n<=i:=hg;omega) λh' eb=>⟨rfl,I.turned (t':=s.toks) (λb o hb e=>eb b o hb e) f0 f1 f3 f4 f5⟩
 self:=λ_ _ _ _ _ st h=>wpAny_pyIter_rangeiter st h
section
variable{X:Cx}{tg:Expr}
def jC{pq:List (aw×dB)}{σ:St}{H:Hp}{s:au}{R:It->Hp->Prop}{E:aq->au->Prop}{lo hi:Int}{t u v:nJ}{tk:Nat}(I:Inv X pq σ H s)(h1:-(2^62)<=lo)(h2:lo<2^62)(h3:-(2^62)<=hi)(h4:hi<2^62)
  (q:R (Itr lo (hi-lo).toNat) H):aW (aZ X.prog X.w) X.A (nF<|.ref s.heap.objs.size) (PIE X pq σ tg R) E {s with heap:=s.heap.push {cls:=.type "range",data:=.fields #[.int lo t,.int hi u,.int 1 v]},toks:=tk}:=by
 refine wpAny_pyIter_range (IsRange.new ..) (small_one h1 h2 h3 h4) ?_;have I1:Inv X pq σ H {s with heap:=s.heap.push {cls:=.type "range",data:=.fields #[.int lo t,.int hi u,.int 1 v]},toks:=tk}:=I.kept λb o e=>ao _ e
 refine⟨(s.heap.push {cls:=.type "range",data:=.fields #[.int lo t,.int hi u,.int 1 v]}).objs.size,[(s.heap.push {cls:=.type "range",data:=.fields #[.int lo t,.int hi u,.int 1 v]}).objs.size],_,_,H,rfl,
  I1.kept (t':=tk) λb o e=>ao _ e,xt _ lo (hi-lo).toNat,?_,λb hb=>?_,q⟩
 ·have e1:lo+((0:Nat):Int)*1=lo:=by simp
  have e2:(((hi-lo).toNat:Nat):Int)-((0:Nat):Int)=eF.Range.rangeSize lo hi 1:=by rw[rangeSize_one];split<;>omega
  rw[e1,e2];exact aM _ rfl
 ·have e:b=(s.heap.push {cls:=.type "range",data:=.fields #[.int lo t,.int hi u,.int 1 v]}).objs.size:=by simpa using hb
  subst e;exact I1.fpOk (aB _)<|I1.hok.fresh<|aB _
def ZfA(ta:TA):TI:=λσ H R=>ta σ H λvs H1=>∃j:Int,vs=[.int j]/\-(2^62)<=j/\j<2^62/\R (Itr 0 j.toNat) H1
def qt{a:Expr}{ta:TA}{p pos:d8}(hg:Gl X "range")(hm:X.mg "range" = ac)(ha:PA X [a] ta)(hs:aC [a] X.env=[(ai,cb a X.env)]:=by rfl):PI X tg (.Call (.Name "range" p) [a] [] pos) (ZfA ta):=by
 intro pq s σ H R I h;refine Call_<|WY I hg hm boot_range<|cZ (thn (ha pos pq s σ H _ I h) λus s1 ⟨vs,H1,I1,r1,q1⟩=>?_) hs rfl
 obtain⟨j,e,q1,q2,q⟩:=q1;subst e;cases r1 with
 |cons r rr=>
  cases rr;obtain⟨t,rfl⟩:=r;exact call_range_1<|jC I1 (by omega) (by omega) q1 q2<|by simpa using q
def Zf5(wi:TI)(g:TG)(tb:TS):TS:=λD σ H=>wi σ H λJ H1=>∃W:Nat->Nat->St->Hp->Prop,(∃m,W 0 m σ H1)/\∀i m σ H,W i m σ H->
 (J.stop i H/\D.nx σ H)\/(J.go i H/\∃N:St->Hp->Prop,(∀σ' H',N σ' H'->∃m',m'<m/\W (i+1) m' σ' H')/\∀x H',J.yld i H x H'->g x σ H' λσ2 H2=>tb {D with nx:=N,ct:=N,bk:=D.nx} σ2 H2)
noncomputable def U6(fp:List aw)(h:bF):List (aw×dB):=fp.filterMap λb=>(h.get? b).map λo=>(b,o)
def X9(hb:b∈fp)(e:h.get? b=aa o):(b,o)∈U6 fp h:=k7.mpr ⟨b,hb,by rw[e];rfl⟩
def qv(hp:p∈U6 fp h):p.1∈fp/\h.get? p.1=aa p.2:=by
 obtain⟨b,hb,e⟩:=k7.mp hp;cases q:h.get? b with|none=>rw[q]at e;cases e|some o=>grind
def Inv.pinned(I:Inv X pq σ H s)(hf:∀b∈fp,V7 X pq H b)(ho:∀b∈fp,∃o,s.heap.get? b=aa o/\∀v,o.data≠.cell v):Inv X (pq++U6 fp s.heap) σ H s:=
 I.pins_of λp hp=>(bN.mp hp).elim (λz=>I.pin p<|bi _ z) λz=>by
  obtain⟨hb,e⟩:=qv z;obtain⟨f0,f1,f2,_⟩:=hf p.1 hb;obtain⟨o,e',d⟩:=ho p.1 hb;rw[e]at e';cases e';exact⟨e,f0,f1,f2,d⟩
def Inv.unpinned(I:Inv X (pq++pl) σ H s):Inv X pq σ H s:=I.pins_of λp hp=>I.pin p<|bi _<|cm _ hp
def ZdG{iter:Expr}{body:List de}{wi:TI}{g:TG}{tb:TS}{pos:d8}(hp:l0 (aZ X.prog X.w) X.A X.env X.xe)(hc:X.calm=ah)(hi:PI X tg iter wi)(hg:PG X tg g)(hb:PSs X body tb)
  (hs:∀x,cS iter X.env x=cA x:=by intro _;rfl):PS X (.For tg iter body [] pos) (Zf5 wi g tb):=by
 intro pq s σ H D I h;refine wpAny_For (thn (hi pq s σ H _ I h) λv s1 h1=>thn h1 λitv s2 h2=>?_) hs
 obtain⟨it,fp,tn,J,H2,e,I2,T,st2,f2,W,⟨m0,w0⟩,turn⟩:=h2;subst e;have stat:∀{H':Hp},(∀b∈fp,H' b=ac)->∀b∈fp,V7 X pq H' b:=λhn b hb=>⟨hn b hb,(f2 b hb).2⟩
 refine codeAny_forLoop_any (λn s'=>∃i σ' H',Inv X pq σ' H' s'/\tn i s'.heap/\(∀b∈fp,H' b=ac)/\W i n σ' H') ?_ m0 ⟨0,σ,H2,I2,st2,λb hb=>(f2 b hb).1,w0⟩
 rintro n s3 ⟨i,σ3,H3,I3,st3,fr3,w3⟩
 rcases turn i n σ3 H3 w3 with⟨stop,qn⟩|⟨go,N,hN,step⟩
 ·refine dF hp (thn (T.done X rfl rfl rfl hc i pq s3 σ3 H3 X.xe I3 (stat fr3) st3 stop) λr s4 ⟨hr,I4⟩=>?_)
  subst hr;exact d9 ⟨σ3,H3,I4,qn⟩
 ·refine dF hp (thn (T.item X rfl rfl rfl hc i pq s3 σ3 H3 X.xe I3 (stat fr3) st3 go) λr s4 ⟨u,hr,h4⟩=>?_)
  subst hr;refine dF hp<|thn h4 λ_ s5 ⟨x,H5,I5,r5,y5,st5,fr5⟩=>?_
  have I5':=I5.pinned (stat fr5)<|T.obj _ _ st5;refine dF hp<|thn (hg _ s5 σ3 H5 x u _ I5' r5<|step x H5 y5) λ_ s6 ⟨σ6,H6,I6,q6⟩=>?_
  refine dF hp<|thn (hb _ s6 σ6 H6 _ I6 q6) λf s7 q7=>?_
  have again:∀{σ7:St}{H7:Hp},Inv X (pq++U6 fp s5.heap) σ7 H7 s7->N σ7 H7->∃m,m<n/\∃i σ' H',Inv X pq σ' H' s7/\tn i s7.heap/\(∀b∈fp,H' b=ac)/\W i m σ' H':=λ{σ7 H7} I7 n7=>by
   obtain⟨m',hm,w7⟩:=hN σ7 H7 n7;refine⟨m',hm,i+1,σ7,H7,I7.unpinned,T.keep _ _ _ st5 λb hb o e=>(I7.pin (b,o)<|bi _<|bi _<|X9 hb e).1,λb hb=>?_,w7⟩
   obtain⟨o,e,d⟩:=T.obj _ _ st5 b hb;exact(I7.pin (b,o)<|bi _<|bi _<|X9 hb e).2.1
  cases f with|next=>obtain⟨σ7,H7,I7,n7⟩:=q7;exact again I7 n7|cont=>obtain⟨σ7,H7,I7,n7⟩:=q7;exact again I7 n7|brk=>obtain⟨σ7,H7,I7,q7⟩:=q7;exact⟨σ7,H7,I7.unpinned,q7⟩|ret v=>obtain⟨x7,σ7,H7,I7,r7,q7⟩:=q7;exact⟨x7,σ7,H7,I7.unpinned,r7,q7⟩
end
abbrev R2:=V->V->Hp->VK->Prop
def OpR(X:Cx)(f:aq->aq->mL aq)(r:R2):Prop:=
 ∀(pq:List (aw×dB))(s:au)(σ:St)(H:Hp)(x y:V)(v u:aq)(Q:VK),Inv X pq σ H s->Zz x v->Zz y u->r x y H Q->
  aW (aZ X.prog X.w) X.A (f v u) (EP X pq σ Q) X.xe s
def UnR(X:Cx)(f:aq->mL aq)(r:V->Hp->VK->Prop):Prop:=
 ∀(pq:List (aw×dB))(s:au)(σ:St)(H:Hp)(x:V)(v:aq)(Q:VK),Inv X pq σ H s->Zz x v->r x H Q->
  aW (aZ X.prog X.w) X.A (f v) (EP X pq σ Q) X.xe s
def ZK(X:Cx)(f:aq)(r:List V->Hp->VK->Prop):Prop:=
 ∀(pq:List (aw×dB))(s:au)(σ:St)(H:Hp)(xs:List V)(us:List aq)(Q:VK),Inv X pq σ H s->Vals xs us->r xs H Q->
  aW (aZ X.prog X.w) X.A (call f us) (EP X pq σ Q) X.xe s
def Zgp(X:Cx)(r:V->Hp->(Bool->Hp->Prop)->Prop):Prop:=
 ∀(pq:List (aw×dB))(s:au)(σ:St)(H:Hp)(x:V)(v:aq)(Q:Bool->Hp->Prop),Inv X pq σ H s->Zz x v->r x H Q->
  aW (aZ X.prog X.w) X.A (nD v) (TP X pq σ Q) X.xe s
def tOp(r:R2)(ta tb:TE):TE:=λσ H Q=>ta σ H λx H1=>tb σ H1 λy H2=>r x y H2 Q
def tUn(r:V->Hp->VK->Prop)(ta:TE):TE:=λσ H Q=>ta σ H λx H1=>r x H1 Q
def rI(C:Int->Int->Prop)(g:Int->Int->V):R2:=λx y H Q=>∃i j,x=.int i/\y=.int j/\C i j/\Q (g i j) H
def rI0(g:Int->Int->V):R2:=λx y H Q=>∃i j,x=.int i/\y=.int j/\Q (g i j) H
def rU(g:Int->V):V->Hp->VK->Prop:=λx H Q=>∃i,x=.int i/\Q (g i) H
section
variable{X:Cx}{a b c:Expr}{ta tb tc:TE}{pos:d8}
def Ze6(ha:PE X a ta)(hb:PE X b tb){pq:List (aw×dB)}{s:au}{σ:St}{H:Hp}{R:V->V->Hp->Prop}(I:Inv X pq σ H s)
  (h:ta σ H λx H1=>tb σ H1 λy H2=>R x y H2){Q:aq->au->Prop}{f:aq->aq->mL aq}
  (hf:∀v u s2 x y H2,Inv X pq σ H2 s2->Zz x v->Zz y u->R x y H2->aW (aZ X.prog X.w) X.A (f v u) Q X.xe s2) :
  aW (aZ X.prog X.w) X.A (cb a X.env) (λv s₁=>aW (aZ X.prog X.w) X.A (cb b X.env) (λu s₂=>aW (aZ X.prog X.w) X.A (f v u) Q X.xe s₂) X.xe s₁) X.xe s:=by
 refine thn (ha pq s σ H _ I h) λv s1 ⟨x,H1,I1,r1,q1⟩=>?_
 refine thn (hb pq s1 σ H1 _ I1 q1) λu s2 ⟨y,H2,I2,r2,q2⟩=>?_
 exact hf v u s2 x y H2 I2 r1 r2 q2
def Us(ho:OpR X (dJ op) r)(ha:PE X a ta)(hb:PE X b tb):PE X (.BinOp a op b pos) (tOp r ta tb):=by
 intro pq s σ H Q I h;exact wpAny_BinOp<|Ze6 ha hb I h λv u s2 x y H2 I2 rx ry q=>ho pq s2 σ H2 x y v u Q I2 rx ry q
def Zdu{op:UnaryOp}{r:V->Hp->VK->Prop}(ho:UnR X (unaryOp op) r)(ha:PE X a ta):PE X (.UnaryOp op a pos) (tUn r ta):=by
 intro pq s σ H Q I h;exact UnaryOp_<|thn (ha pq s σ H _ I h) λv s1 ⟨x,H1,I1,r1,q1⟩=>ho pq s1 σ H1 x v Q I1 r1 q1
def opI{f:aq->aq->mL aq}{C:Int->Int->Prop}{g:Int->Int->Int}
  (nE:∀(i j:Int)(t u:nJ)(s:au)(Q:aq->au->Prop)(E:aq->au->Prop),C i j->Q (.int (g i j) s.toks) {s with toks:=s.toks+1}->aW (aZ X.prog X.w) X.A (f (.int i t)<|.int j u) Q E s) :
  OpR X f (rI C λi j=>.int<|g i j):=by
 intro pq s σ H x y v u Q I rx ry h;obtain⟨i,j,rfl,rfl,hc,q⟩:=h;obtain⟨t,rfl⟩:=rx;obtain⟨t',rfl⟩:=ry;exact nE i j t t' s _ _ hc ⟨.int<|g i j,H,I.tok _,⟨_,rfl⟩,q⟩
def Zea{f:aq->aq->mL aq}{g:Int->Int->Int}
  (nE:∀(i j:Int)(t u:nJ)(s:au)(Q:aq->au->Prop)(E:aq->au->Prop),Q (.int (g i j) s.toks) {s with toks:=s.toks+1}->aW (aZ X.prog X.w) X.A (f (.int i t)<|.int j u) Q E s) :
  OpR X f (rI0 λi j=>.int<|g i j):=by
 intro pq s σ H x y v u Q I rx ry h;obtain⟨i,j,rfl,rfl,q⟩:=h;obtain⟨t,rfl⟩:=rx;obtain⟨t',rfl⟩:=ry;exact nE i j t t' s _ _ ⟨.int<|g i j,H,I.tok _,⟨_,rfl⟩,q⟩
def ZdO{f:aq->aq->mL aq}{g:Int->Int->Bool}
  (nE:∀(i j:Int)(t u:nJ)(s:au)(Q:aq->au->Prop)(E:aq->au->Prop),Q (.bool<|g i j) s->aW (aZ X.prog X.w) X.A (f (.int i t)<|.int j u) Q E s) :
  OpR X f (rI0 λi j=>.bl<|g i j):=by
 intro pq s σ H x y v u Q I rx ry h;obtain⟨i,j,rfl,rfl,q⟩:=h;obtain⟨t,rfl⟩:=rx;obtain⟨t',rfl⟩:=ry;exact nE i j t t' s _ _ ⟨.bl<|g i j,H,I,rfl,q⟩
def CPow(i j:Int):Prop:=0<=j/\j<=1000000/\i.natAbs<2^64
def Zd7:OpR X (dJ .Add) (rI0 λi j=>.int<|i+j):=Zea λ_ _ _ _ _ _ _ q=>add_int q
def ZeB:OpR X (dJ .Sub) (rI0 λi j=>.int<|i-j):=Zea λ_ _ _ _ _ _ _ q=>sub_int q
def ZdR:OpR X (dJ .Mod) (rI (λ_ j=>0<j) λi j=>.int<|i%j):=opI λi j _ _ _ _ _ hc q=>by
 have h1:=hc;exact mod_int' (by omega) (by grind)
def Zex:OpR X (dJ .Pow) (rI CPow λi j=>.int<|i^j.toNat):=opI λ_ _ _ _ _ _ _ hc q=>pow_int_small hc.1 hc.2.1 hc.2.2 q
def Zb9:OpR X (inplaceOp .Add) (rI0 λi j=>.int<|i+j):=Zea λ_ _ _ _ _ _ _ q=>iadd_int q
def unI{f:aq->mL aq}{g:Int->Int}
  (nE:∀(i:Int)(t:nJ)(s:au)(Q:aq->au->Prop)(E:aq->au->Prop),Q (.int (g i) s.toks) {s with toks:=s.toks+1}->aW (aZ X.prog X.w) X.A (f<|.int i t) Q E s) :
  UnR X f (rU λi=>.int<|g i):=by
 intro pq s σ H x v Q I rx h;obtain⟨i,rfl,q⟩:=h;obtain⟨t,rfl⟩:=rx;exact nE i t s _ _ ⟨.int<|g i,H,I.tok _,⟨_,rfl⟩,q⟩
def Za6:UnR X (unaryOp .USub) (rU λi=>.int<|-i):=unI λ_ _ _ _ _ q=>neg_int q
end
noncomputable def scal:V->V->Bool
 |.non,.non=>ah|.non,.int _=>ah|.int _,.non=>ah|.non,.bl _=>ah|.bl _,.non=>ah|.non,.str _=>ah|.str _,.non=>ah
 |.int _,.int _=>ah|.bl _,.bl _=>ah|.str _,.str _=>ah
 |.int _,.str _=>ah|.str _,.int _=>ah|.bl _,.str _=>ah|.str _,.bl _=>ah
 |_,_=>ai
def rEq:R2:=λx y H Q=>scal x y=ah/\Q (.bl<|ae<|x=y) H
def rNe:R2:=λx y H Q=>scal x y=ah/\Q (.bl<|!decide (x=y)) H
def vN :ae (V.int i=V.int j)=(i == j):=by grind
def jt :ae (V.bl i=V.bl j)=(i == j):=by grind
def wY :ae (V.str i=V.str j)=(i == j):=by grind
section
variable{X:Cx}{a b c:Expr}{ta tb tc:TE}{pos:d8}
def ZI(I:Inv X pq σ H s)(q:Q (.bl k) H)(e:k=k'):EP X pq σ Q (.bool k') s:=by
 subst e;exact⟨.bl k,H,I,rfl,q⟩
def ZfB:OpR X (cg .Eq) rEq:=by
 intro pq s σ H x y v u Q I rx ry h;obtain⟨hs,q⟩:=h;cases x with
 |non=>
  cases rx;cases y with|non=>cases ry;exact PySem.EqNone.eq_none_none<|ZI I q<|by simp|bl j=>cases ry;exact PySem.EqNone.eq_none_bool<|ZI I q<|by simp|int j=>obtain⟨t',rfl⟩:=ry;exact PySem.EqNone.eq_none_int<|ZI I q<|by simp|str j=>obtain⟨t',rfl⟩:=ry;exact PySem.EqNone.eq_none_str<|ZI I q<|by simp|_=>exact T7 (hs) aN
 |bl i=>
  cases rx;cases y with|non=>cases ry;exact PySem.EqNone.eq_bool_none<|ZI I q<|by simp|bl j=>cases ry;exact eq_bool<|ZI I q jt|str j=>obtain⟨t',rfl⟩:=ry;exact PySem.EqMixed.eq_bool_str<|ZI I q<|by simp|_=>exact T7 (hs) aN
 |int i=>
  obtain⟨t,rfl⟩:=rx;cases y with|non=>cases ry;exact PySem.EqNone.eq_int_none<|ZI I q<|by simp|int j=>obtain⟨t',rfl⟩:=ry;exact eq_int<|ZI I q vN|str j=>obtain⟨t',rfl⟩:=ry;exact PySem.EqMixed.eq_int_str<|ZI I q<|by simp|_=>exact T7 (hs) aN
 |str i=>
  obtain⟨t,rfl⟩:=rx;cases y with|non=>cases ry;exact PySem.EqNone.eq_str_none<|ZI I q<|by simp|bl j=>cases ry;exact PySem.EqMixed.eq_str_bool<|ZI I q<|by simp|int j=>obtain⟨t',rfl⟩:=ry;exact PySem.EqMixed.eq_str_int<|ZI I q<|by simp|str j=>obtain⟨t',rfl⟩:=ry;exact eq_str<|ZI I q wY|_=>exact T7 (hs) aN
 |_=>cases y<;>exact T7 (hs) aN
def ZfZ:OpR X (cg .NotEq) rNe:=by
 intro pq s σ H x y v u Q I rx ry h;obtain⟨hs,q⟩:=h;cases x with
 |non=>
  cases rx;cases y with|non=>cases ry;exact PySem.EqNone.ne_none_none<|ZI I q<|by simp|bl j=>cases ry;exact PySem.EqNone.ne_none_bool<|ZI I q<|by simp|int j=>obtain⟨t',rfl⟩:=ry;exact PySem.EqNone.ne_none_int<|ZI I q<|by simp|str j=>obtain⟨t',rfl⟩:=ry;exact PySem.EqNone.ne_none_str<|ZI I q<|by simp|_=>exact T7 (hs) aN
 |bl i=>
  cases rx;cases y with|non=>cases ry;exact PySem.EqNone.ne_bool_none<|ZI I q<|by simp|bl j=>cases ry;exact ne_bool<|ZI I q<|congrArg not jt|str j=>obtain⟨t',rfl⟩:=ry;exact PySem.EqMixed.ne_bool_str<|ZI I q<|by simp|_=>exact T7 (hs) aN
 |int i=>
  obtain⟨t,rfl⟩:=rx;cases y with|non=>cases ry;exact PySem.EqNone.ne_int_none<|ZI I q<|by simp|int j=>obtain⟨t',rfl⟩:=ry;exact ne_int<|ZI I q<|congrArg not vN|str j=>obtain⟨t',rfl⟩:=ry;exact PySem.EqMixed.ne_int_str<|ZI I q<|by simp|_=>exact T7 (hs) aN
 |str i=>
  obtain⟨t,rfl⟩:=rx;cases y with|non=>cases ry;exact PySem.EqNone.ne_str_none<|ZI I q<|by simp|bl j=>cases ry;exact PySem.EqMixed.ne_str_bool<|ZI I q<|by simp|int j=>obtain⟨t',rfl⟩:=ry;exact PySem.EqMixed.ne_str_int<|ZI I q<|by simp|str j=>obtain⟨t',rfl⟩:=ry;exact ne_str<|ZI I q<|congrArg not wY|_=>exact T7 (hs) aN
 |_=>cases y<;>exact T7 (hs) aN
def ZfN:OpR X (cg .Lt) (rI0 λi j=>.bl<|ae<|i<j):=ZdO λ_ _ _ _ _ _ _ q=>lt_int q
def Zff:OpR X (cg .LtE) (rI0 λi j=>.bl<|ae<|i<=j):=ZdO λ_ _ _ _ _ _ _ q=>le_int q
def ZfL:OpR X (cg .GtE) (rI0 λi j=>.bl<|ae<|j<=i):=ZdO λ_ _ _ _ _ _ _ q=>ge_int q
def ZeP:OpR X (cg .Is) (λx y H Q=>y=.non/\Q (.bl<|ae<|x=.non) H):=by
 intro pq s σ H x y v u Q I rx ry h;obtain⟨rfl,q⟩:=h;cases ry;refine is_none_gen<|ZI I q ?_;cases x<;>first
  |(cases rx;rfl)
  |(obtain⟨t,rfl⟩:=rx;rfl)
def OpR.or(h:OpR X f r)(h':OpR X f r'):OpR X f (λx y H Q=>r x y H Q\/r' x y H Q):=by
 intro pq s σ H x y v u Q I rx ry q;rcases q with q|q
 ·exact h pq s σ H x y v u Q I rx ry q
 ·exact h' pq s σ H x y v u Q I rx ry q
def Yb(b:Expr)(h:op≠.In:=by decide)(h2:op≠.NotIn:=by decide):c8 op b=ai:=by
 have e1:(op == nK.In)=ai:=by grind
 have e2:(op == nK.NotIn)=ai:=by grind
 cases b<;>simp[c8,e1,e2]
def ZcL(ho:OpR X (cg op) r)(ha:PE X a ta)(hb:PE X b tb)(hm:c8 op b=ai):PE X (.Compare a [op] [b] pos) (tOp r ta tb):=by
 intro pq s σ H Q I h;exact wpAny_Compare1 (Ze6 ha hb I h λv u s2 x y H2 I2 rx ry q=>ho pq s2 σ H2 x y v u Q I2 rx ry q) hm
def Ze9(t:TE):TT:=λσ H Q=>t σ H λx H'=>∃k,x=.bl k/\Q k H'
def Zci(ho:OpR X (cg op) r)(ha:PE X a ta)(hb:PE X b tb)(hm:c8 op b=ai):PT X (.Compare a [op] [b] pos) (Ze9<|tOp r ta tb):=by
 intro pq s σ H Q I h;refine ka (thn (ha pq s σ H _ I h) λv s1 ⟨x,H1,I1,r1,q1⟩=>thn (hb pq s1 σ H1 _ I1 q1) λu s2 ⟨y,H2,I2,r2,q2⟩=>
  thn (ho pq s2 σ H2 x y v u _ I2 r1 r2 q2) λc s3 ⟨z,H3,I3,r3,k,e,q3⟩=>?_) hm
 subst e;cases r3;exact cC ⟨H3,I3,q3⟩
def Zd9(r r':R2)(ta tb tc:TE):TE:=λσ H Q=>ta σ H λx H1=>tb σ H1 λy H2=>r x y H2 λz H3=>∃k,z=.bl k/\
 (if k=ah then tc σ H3 λw' H4=>r' y w' H4 Q else Q (.bl ai) H3)
def jP(ho:OpR X (cg op) r)(ho':OpR X (cg op') r')(ha:PE X a ta)(hb:PE X b tb)(hc:PE X c tc)
  (hm:lastMarks [op,op'] [b,c]=ai:=by with_unfolding_all rfl):PE X (.Compare a [op,op'] [b,c] pos) (Zd9 r r' ta tb tc):=by
 intro pq s σ H Q I h;refine Compare_chain (thn (ha pq s σ H _ I h) λv s1 ⟨x,H1,I1,r1,q1⟩=>chain_link (thn (hb pq s1 σ H1 _ I1 q1) λu s2 ⟨y,H2,I2,r2,q2⟩=>
  thn (ho pq s2 σ H2 x y v u _ I2 r1 r2 q2) λd s3 ⟨z,H3,I3,r3,k,e,q3⟩=>?_)) hm
 subst e;cases r3;refine cC ?_;cases k with|false=>exact ite_ff ⟨.bl ai,H3,I3,rfl,q3⟩|true=>exact ite_tt<|chain_last<|thn (hc pq s3 σ H3 _ I3 q3) λw' s4 ⟨z',H4,I4,r4,q4⟩=>ho' pq s4 σ H4 y z' u w' Q I4 r2 r4 q4
def ZcH(K:aj)(x:V)(H:Hp)(k:Bool):Prop:=
 match x with
 |.non=>k=ai
 |.bl b=>k=b
 |.int i=>k=(i != 0)
 |.str y=>y.length<=aY/\k=((y.length:Int) != 0)
 |.ref p=>(∃xs,SqL K H p xs/\k = !xs.isEmpty)\/(∃xs,SqT K H p xs/\k = !xs.isEmpty)\/∃kvs,H p=aa (.dK kvs)/\k = !kvs.isEmpty
 |_=>False
def yT{κ:Type}{kvs:List (κ×V)}{vs:List (κ×aq)}(r:KV kvs vs):(!vs.isEmpty) = !kvs.isEmpty:=by
 cases r<;>rfl
def Qw{xs:List V}{its:List aq}(r:Vals xs its):(!its.toArray.isEmpty) = !xs.isEmpty:=by
 cases r<;>simp
def Qg:(aY:Nat)<2^63:=by rw[cR];decide
def Zbc:Zgp X (λx H Q=>∃k,ZcH X.K x H k/\Q k H):=by
 intro pq s σ H x v Q I rx h;obtain⟨k,e,q⟩:=h;have hl:=Qg;have hs:=cR;cases x with
 |non=>
  cases rx;have e':=e;subst e';exact truthy_none ⟨H,I,q⟩
 |bl b=>
  cases rx;have e':k=b:=e;subst e';exact cC ⟨H,I,q⟩
 |int i=>
  obtain⟨t,rfl⟩:=rx;have e':=e;subst e';exact k8 ⟨H,I,q⟩
 |str y=>
  obtain⟨t,rfl⟩:=rx;obtain⟨hy,e'⟩:=e;subst e';exact PySem.P.truthy_str (by omega) ⟨H,I.tok _,q⟩
 |ref p=>
  cases rx;have e':=e;rcases e' with⟨xs,hx,e'⟩|⟨xs,hx,e'⟩|⟨kvs,hx,e'⟩
  ·subst e'
   obtain⟨its,r,pl,hz⟩:=I.list hx;have hlen:=r.length;exact wpAny_truthy_list pl.isList (by simp only[aD];omega) ⟨H,I.tok _,by rw[Qw r];exact q⟩
  ·subst e'
   obtain⟨its,r,pl,hz⟩:=I.tuple hx;have hlen:=r.length;exact truthy_tuple pl (by simp only[aD];omega) ⟨H,I.tok _,by rw[Qw r];exact q⟩
  ·subst e'
   obtain⟨hz,hS,vs,r,m⟩:=I.hok p _ hx;have hlen:=Paired.length r;exact wpAny_truthy_dict hS m (by omega) ⟨H,I.tok _,by rw[yT r];exact q⟩
 |_=>exact(e).elim
def jT(ha:PE X a ta)(he:∀whole,isTrue a X.env whole=(do let v <-whole;ly a.pos;ia [v] (nD v))) :
  PT X a (λσ H Q=>ta σ H λx H'=>∃k,ZcH X.K x H' k/\Q k H'):=by
 intro pq s σ H Q I h;exact isTrue_plain (thn (ha pq s σ H _ I h) λv s1 ⟨x,H1,I1,r1,q1⟩=>Zbc pq s1 σ H1 x v Q I1 r1 q1)<|he _
def WO(r:Vals [x] us):∃u,us=[u]/\Zz x u:=by
 cases r with|cons r1 r2=>cases r2;exact⟨_,rfl,r1⟩
def zO(r:Vals [x,y] us):∃u w',us=[u,w']/\Zz x u/\Zz y w':=by
 cases r with
 |cons r1 r2=>
  cases r2 with|cons r3 r4=>cases r4;exact⟨_,_,rfl,r1,r3⟩
def uA(hc:X.calm=ah):ZK X (.builtin "max") (λxs H Q=>∃i j,xs=[.int i,.int j]/\Q (.int (if j>i then j else i)) H):=by
 intro pq s σ H xs us Q I r h;obtain⟨i,j,rfl,q⟩:=h;obtain⟨u,w',rfl,⟨t,rfl⟩,⟨t',rfl⟩⟩:=zO r;refine max_two_ints (I.ok.hd hc) λh' tk k=>⟨_,H,I.kept k,?_,q⟩
 by_cases hj:j>i
 ·rw[T9 hj,T9 hj];exact⟨_,rfl⟩
 ·rw[T8 hj,T8 hj];exact⟨_,rfl⟩
def uf(hc:X.calm=ah):ZK X (.builtin "min") (λxs H Q=>∃i j,xs=[.int i,.int j]/\Q (.int (if j<i then j else i)) H):=by
 intro pq s σ H xs us Q I r h;obtain⟨i,j,rfl,q⟩:=h;obtain⟨u,w',rfl,⟨t,rfl⟩,⟨t',rfl⟩⟩:=zO r;refine min_two_ints (I.ok.hd hc) λh' tk k=>⟨_,H,I.kept k,?_,q⟩
 by_cases hj:j<i
 ·rw[T9 hj,T9 hj];exact⟨_,rfl⟩
 ·rw[T8 hj,T8 hj];exact⟨_,rfl⟩
def uL:ZK X (.type "int") (λxs H Q=>(∃i,xs=[.int i]/\Q (.int i) H)\/∃k,xs=[.bl k]/\Q (.int (if k then 1 else 0)) H):=by
 intro pq s σ H xs us Q I r h;rcases h with⟨i,rfl,q⟩|⟨k,rfl,q⟩
 ·obtain⟨u,rfl,t,rfl⟩:=WO r
  exact call_int_int ⟨.int i,H,I,⟨_,rfl⟩,q⟩
 ·obtain⟨u,rfl,r1⟩:=WO r
  cases r1;exact call_int_bool ⟨.int (if k then 1 else 0),H,I.tok _,⟨_,rfl⟩,q⟩
end
structure ObjM(h:bF)(x dx C:aw)(mA:bc->Option aq):Prop where
 obj:h.get? x=aa (PySem.W.instObj C dx)
 ns:h.Ns1 dx mA
 ne:dx≠x
section
variable{P:bq}{w:bC}{H H':Hp}{h h':bF}{a C dx:aw}{fs fs':List (bc×V)}
end
structure Cls(K:aj)(C:aw):Prop where
 pg:l4 K C bc.empty=ah
 hd:PySem.W.hasDictIn K C=ah
 po:PySem.W.plainOver K C=ah
 sa:PySem.W.findIn K (.ref C) "__setattr__" = aa (aa<|.builtin "object.__setattr__")
def Cls.get{K:aj}{C:aw}(c:Cls K C)(f:bc):l4 K C f=ah:=c.pg
section
variable{X:Cx}{pq:List (aw×dB)}{σ:St}{H:Hp}{s:au}{A:bL}{E:aq->au->Prop}{Q:aq->au->Prop}{c:aq}{b:Bool}
inductive TyOf(K:aj)(H:Hp):V->aq->Prop where
 |non:TyOf K H .non (.type "NoneType")
 |bl (x:Bool):TyOf K H (.bl x) (.type "bool")
 |int (i:Int):TyOf K H (.int i) (.type "int")
 |str (x:bc):TyOf K H (.str x) (.type "str")
 |lst {a:aw} {xs:List V} (e:H a=aa (.lst xs)):TyOf K H (.ref a) (.type "list")
 |frz {a:aw} {o:dB} {xs:List V} (e:H a=aa (.frz o<|.lst xs)):TyOf K H (.ref a) (.type "list")
 |tup {a:aw} {xs:List V} (e:H a=aa (.tup xs)):TyOf K H (.ref a) (.type "tuple")
 |dK {a:aw} {kvs:List (Key×V)} (e:H a=aa (.dK kvs)):TyOf K H (.ref a) (.type "dict")
 |dT {a:aw} {kvs:List (List Key×V)} (e:H a=aa (.dT kvs)):TyOf K H (.ref a) (.type "dict")
def uS(I:Inv X pq σ H s)(rx:Zz x u)(ty:TyOf X.K H x t)(e:eK X.K t c=aa b)(h:∀tk,Q (.bool b) {s with toks:=tk}) :
  aW (aZ X.prog X.w) A (call (.builtin "isinstance") [u,c]) Q E s:=by
 cases ty with
 |non=>cases(show u=bH from rx);exact cx lB I.kIn aA e (λz=>nomatch z) h
 |bl y=>cases(rx);exact cx lC I.kIn aA e (λz=>nomatch z) h
 |int i=>obtain⟨t,q⟩:=(rx);cases q;exact cx l6 I.kIn aA e (λz=>nomatch z) h
 |str y=>obtain⟨t,q⟩:=(rx);cases q;exact cx l7 I.kIn aA e (λz=>nomatch z) h
 |@lst a xs ea=>
  cases(rx)
  obtain⟨_,_,n,_,h1⟩:=(I.hok a _ ea)
  exact cx fC I.kIn ⟨_,h1,rfl⟩ e (λz=>nomatch z) h
 |@frz a ob xs ea=>
  cases(rx)
  obtain⟨_,_,_,n,_,h1⟩:=(I.hok a _ ea)
  exact cx fC I.kIn ⟨_,h1,rfl⟩ e (λz=>nomatch z) h
 |@tup a xs ea=>
  cases(rx)
  obtain⟨_,_,_,p⟩:=(I.hok a _ ea)
  obtain⟨o,h1,h2,_⟩:=p;exact cx k9 I.kIn ⟨o,h1,h2⟩ e (λz=>nomatch z) h
 |@dK a kvs ea=>
  cases(rx)
  obtain⟨_,_,vs,_,p⟩:=(I.hok a _ ea)
  obtain⟨o,es,ep,h1,h2,_⟩:=p;exact cx fD I.kIn ⟨o,h1,h2.1⟩ e (λz=>nomatch z) h
 |@dT a kvs ea=>
  cases(show u=cF a from rx)
  obtain⟨_,_,xs,_,o,es,ep,h1,h2,_⟩:=(I.hok a _ ea)
  exact cx fD I.kIn ⟨o,h1,h2.1⟩ e (λz=>nomatch z) h
end
structure Room(k:Nat)(A:bL):Prop where
 hd:A.handled=ac
 dp:A.depth+3*k+5<recursionLimit
 un:A.units+16*k+200<dh
def Room.mono(r:Room k A)(h:j<=k):Room j A:=⟨r.hd,by have:=r.dp;omega,by have:=r.un;omega⟩
theorem Room.deeper(r:Room (k+1) A)(env:Env):Room k (A.deeper env):=
 ⟨r.hd,by have:=r.dp;show A.depth+1+3*k+5<_;omega,by have:=r.un;show A.units+3+16*k+200<_;omega⟩
theorem Room.depth(r:Room k A):A.depth<recursionLimit:=by have:=r.dp;omega
def Gm:TA:=λ_ H Q=>Q [] H
def YK(ta:TE)(tr:TA):TA:=λσ H Q=>ta σ H λx H1=>tr σ H1 λxs H2=>Q (x::xs) H2
section
variable{X:Cx}{e:Expr}{es:List Expr}{te:TE}{t:TA}{pos:d8}
def Yt:PA X [] Gm:=λ_ _ _ _ H Q I h=>Calls.spliced_nil ⟨[],H,I,.nil,h⟩
def ZF(ha:PE X e te)(hr:PA X es t)(hs:aC (e::es) X.env=(ai,cb e X.env)::aC es X.env:=by rfl):PA X (e::es) (YK te t):=by
 intro pos pq s σ H Q I h;rw[hs];refine Calls.spliced_cons<|thn (ha pq s σ H _ I h) λu s1 ⟨x,H1,I1,r1,q1⟩=>?_
 exact thn (hr pos pq s1 σ H1 _ I1 q1) λus s2 ⟨xs,H2,I2,r2,q2⟩=>⟨x::xs,H2,I2,.cons r1 r2,q2⟩
def Zgc(t:TA):TE:=λσ H Q=>t σ H λxs H1=>xs.length<=aY/\∀p,H1 p=ac->Q (.ref p) (upd H1 p<|.tup xs)
def ud(t:TA):TE:=λσ H Q=>t σ H λxs H1=>xs.length<=aY/\∀p,H1 p=ac->Q (.ref p) (upd H1 p<|.lst xs)
def Zax{x1}(h:PA X es t):PE X (.Tuple es x1 pos) (Zgc t):=by
 intro pq s σ H Q I hq;refine wpAny_Tuple_spliced<|thn (h pos pq s σ H _ I hq) λus s1 ⟨xs,H1,I1,r,z,q⟩=>⟨by rw[<-r.length];exact z,?_⟩
 have hf:=I1.hok.fresh<|aB _;refine⟨.ref s1.heap.objs.size,upd H1 s1.heap.objs.size<|.tup xs,I1.laid (t':=s1.toks) (λb u e=>ao _ e) (aB _) ?_,rfl,q _ hf⟩
 exact⟨z,us,r,⟨_,aM _ rfl,rfl,_,rfl⟩⟩
def Qf(h:PA X es t):PE X (.List es pos) (ud t):=by
 intro pq s σ H Q I hq;refine wpAny_List_spliced<|thn (h pos pq s σ H _ I hq) λus s1 ⟨xs,H1,I1,r,z,q⟩=>⟨by rw[<-r.length];exact z,?_⟩
 have hf:=I1.hok.fresh<|aB _;refine⟨.ref s1.heap.objs.size,upd H1 s1.heap.objs.size<|.lst xs,I1.laid (t':=s1.toks) (λb u e=>ao _ e) (aB _) ?_,rfl,q _ hf⟩
 exact⟨z,us,0,r,aM _ rfl⟩
end
abbrev Sp:=List V->Hp->VK->XK->Prop
abbrev CXT:=List Env->Hp->au->XK->aq->au->Prop
structure Env0(P:bq)(w:bC)(K:aj)(mg:bc->Option aq)(base:bF)(A:bL)(outer:List Env)(s:au)(H:Hp):Prop where
 frames:A.frames=aa outer
 mod:Mod K mg base
 bs:∀b o,base.get? b=aa o->s.heap.get? b=aa o/\H b=ac
 bsz:base.objs.size<=s.heap.objs.size
 funs:s.heap.FunFrames base outer
 frf:∀b∈frs outer,H b=ac
 hok:HOk P w H s.heap
 bare:fY s.gens
def CE(outer:List Env)(P:bq)(w:bC)(H:Hp)(s:au)(Q:VK)(u:aq)(s':au):Prop:=
 ∃v H',s'.os=s.os/\fY s'.gens/\Un (frs outer) [] H H' s.heap s'.heap/\HOk P w H' s'.heap/\Zz v u/\Q v H'
def CR(CX:CXT)(outer:List Env)(P:bq)(w:bC)(H:Hp)(s:au)(Q:VK)(E:XK)(r:nG)(s':au):Prop:=
 match r with
 |.ok (.ret u)=>CE outer P w H s Q u s'
 |.ok _=>False
 |.error e=>CX outer H s E e s'
structure FnOk(P:bq)(w:bC)(K:aj)(mg:bc->Option aq)(base:bF)(CX:CXT)(k:Nat)(f:aw)(fd:bK)(ps:List bc)(sp:Sp):Prop where
 len:∀vs H Q E,sp vs H Q E->vs.length=ps.length
 run:∀(A:bL)(outer:List Env)(s:au)(H:Hp)(args:Args)(us:List aq)(vs:List V)(Q:VK)(E:XK),Room k A->Env0 P w K mg base A outer s H->kH s fd args (ps.zip us)->Vals vs us->sp vs H Q E->
  fE (aZ P w) A (.call (.ref f) args) (CR CX outer P w H s Q E) s
section
variable{X:Cx}{pq:List (aw×dB)}{σ:St}{H:Hp}{s s':au}
def Inv.env0(I:Inv X pq σ H s):Env0 X.prog X.w X.K X.mg X.base X.A X.stack s H:=
 ⟨I.ok.frames,I.ok.mod,I.bs,bh I.ok.bsz I.sz,I.stack,I.stkFree,I.hok,I.bare⟩
def Inv.after(I:Inv X pq σ H s)(h:CE X.stack X.prog X.w H s Q u s'):EP X pq σ Q u s':=by
 obtain⟨v,H',os,bare,un,hok,r,q⟩:=h;obtain⟨hh,g,d,t,os'⟩:=s';obtain rfl:os'=s.os:=os;exact⟨v,H',I.call (h':=hh) (g':=g) (d':=d) (t':=t) un hok bare λb z=>T7 z<|by simp,r,q⟩
end
def Zfh(sp:Sp)(dvs:List V)(E:XK)(t:TA):TE:=λσ H Q=>t σ H λvs H1=>sp (vs++dvs) H1 Q E
def Ua(K:aj)(fd:bK)(ps:List bc)(ds:List aq):Prop:=
 ∀(s:au)(us:List aq),K.In s.heap->(us++ds).length=ps.length->kH s fd ⟨us,[]⟩ (ps.zip<|us++ds)
def Ua.all{K:aj}{fd:bK}{ps:List bc}(h:∀us:List aq,us.length=ps.length->kq fd ⟨us,[]⟩=cA (ps.zip us)):Ua K fd ps []:=λs us _ hl=>by
 rw[ee]at hl ⊢;exact .of_eq<|h us hl
def Qb(CX:CXT)(X:Cx)(E:XK):Prop:=∀(pq:List (aw×dB))(σ:St)(H:Hp)(s:au)(e:aq)(s':au),Inv X pq σ H s->CX X.stack H s E e s'->X.xe e s'
section
variable{X:Cx}{CX:CXT}{k:Nat}{f C:aw}{fd:bK}{ps:List bc}{sp:Sp}{dvs:List V}{ds:List aq}{E:XK}{x m:bc}{p pos apos:d8}{e o:Expr}{es:List Expr}{ta:TE}{t:TA}
def Zd5(F:FnOk X.prog X.w X.K X.mg X.base CX k f fd ps sp)(hr:Room k X.A)(hb:Ua X.K fd ps ds)(hd:Vals dvs ds)(hx:Qb CX X E)
  (I:Inv X pq σ H s)(r:Vals vs us)(h:sp (vs++dvs) H Q E):aW (aZ X.prog X.w) X.A (call (.ref f) us) (EP X pq σ Q) X.xe s:=by
 have r2:=r.append hd;have hl:(us++ds).length=ps.length:=by rw[<-r2.length];exact F.len _ _ _ _ h
 refine mU<|gF (F.run X.A X.stack s H ⟨us,[]⟩ (us++ds) (vs++dvs) Q E hr I.env0 (hb s us I.kIn hl) r2 h) λr s' hq=>?_
 cases r with
 |error e=>exact hx pq σ H s e s' I hq
 |ok fl=>
  cases fl with|ret u=>exact I.after hq|next=>exact False.elim hq|brk=>exact False.elim hq|cont=>exact False.elim hq
def ZcS(F:FnOk X.prog X.w X.K X.mg X.base CX k f fd ps sp)(hr:Room k X.A)(hg:Gl X x)(hm:X.mg x=aa (.ref f))(hk:eL X.K (.ref f)=ah)(hb:Ua X.K fd ps ds)(hd:Vals dvs ds)(hx:Qb CX X E)
  (ha:PA X (e::es) t)(hdb:(x == ("__debug__" : bc))=ai:=by decide)(he:aC (e::es) X.env=(ai,cb e X.env)::aC es X.env:=by rfl)(hpl:(cX pos<|aC es X.env).any (·.1)=ai:=by rfl) :
  PE X (.Call (.Name x p) (e::es) [] pos) (Zfh sp dvs E t):=by
 intro pq s σ H Q I h;refine dm<|Vo I hg hm ?_ hdb;refine la I.ok.mod.kin hk (thn (ha pos pq s σ H _ I h) λus s1 ⟨vs,H1,I1,r,q⟩=>⟨I1.kIn,?_⟩) he hpl
 exact Zd5 F hr hb hd hx I1 r q
end
structure FnScope(N P:List bc)(sc:c7):Prop where
 kind:sc.kind=.function
 co:sc.isCoroutine=ai
 gen:sc.isGenerator=ai
 nd:N.Nodup
 pre:N.take P.length=P
 par:∀x∈P,sc.names.lookup x=aa .local\/sc.names.lookup x=aa .cell
 nofree:∀y∈sc.names,y.2≠.free
theorem Jy{kindOf:bc->Option dU}{x:bc}:∀{binds:List (bc×aq)}{m:bc->Option aq},(∀v,(x,v)∉binds)->nB kindOf binds m x=m x
 |[],_,_=>rfl
 |(n,v)::r,m,h=>by
  unfold nB;rw[Jy λw hw=>h w<|al _ hw]
  split
  ·grind
  ·rfl
theorem Jr{kindOf:bc->Option dU}{x:bc}:∀{binds:List (bc×aq)}{m:bc->Option aq},(∀v,(x,v)∉binds)->nC kindOf binds m x=m x
 |[],_,_=>rfl
 |(n,v)::r,m,h=>by
  unfold nC;rw[Jr λw hw=>h w<|al _ hw]
  split
  ·rfl
  ·grind
theorem Q8{kindOf:bc->Option dU}{x:bc}{v:aq}:∀{P:List bc}{vs:List aq}{i:Nat}{m:bc->Option aq},P.Nodup->P[i]?=aa x->vs[i]?=aa v->kindOf x=aa .local->
  nB kindOf (P.zip vs) m x=aa v
 |[],_,_,_,_,h,_,_=>by simp at h
 |_::_,[],_,_,_,_,h,_=>by simp at h
 |p::P,w::vs,0,m,nd,h1,h2,hk=>by
  simp at h1 h2;subst h1;subst h2;show nB kindOf ((p,w)::P.zip vs) m p=_;unfold nB;rw[Jy λv hv=>(cp.mp nd).1 (eg hv).1,T9 hk]
  simp
 |p::P,w::vs,i+1,m,nd,h1,h2,hk=>by
  unfold nB;exact Q8 (cp.mp nd).2 (by simpa using h1) (by simpa using h2) hk
theorem Jn{kindOf:bc->Option dU}{x:bc}{v:aq}:∀{P:List bc}{vs:List aq}{i:Nat}{m:bc->Option aq},P.Nodup->P[i]?=aa x->vs[i]?=aa v->kindOf x≠aa .local->
  nC kindOf (P.zip vs) m x=aa v
 |[],_,_,_,_,h,_,_=>by simp at h
 |_::_,[],_,_,_,_,h,_=>by simp at h
 |p::P,w::vs,0,m,nd,h1,h2,hk=>by
  simp at h1 h2;subst h1;subst h2;show nC kindOf ((p,w)::P.zip vs) m p=_;unfold nC;rw[Jr λv hv=>(cp.mp nd).1 (eg hv).1,T8 hk]
  simp
 |p::P,w::vs,i+1,m,nd,h1,h2,hk=>by
  unfold nC;exact Jn (cp.mp nd).2 (by simpa using h1) (by simpa using h2) hk
noncomputable def start(N:List bc)(vs:List V):St:=vs.map aa++ar (N.length-vs.length) ac
noncomputable def Wj(CX:CXT)(P:bq)(w:bC)(K:aj)(mg:bc->Option aq)(base:bF)(N:List bc)(qual:bc)(scope:c7)(f:aw)(cd:aq)(A:bL)(outer:List Env)(s:au)(H:Hp)(E:XK):Cx where
 prog:=P
 w:=w
 K:=K
 mg:=mg
 base:=base
 A:=A.deeper<|cN qual scope s.heap.objs.size f cd
 N:=N
 s₀:=s
 H₀:=H
 env:=cN qual scope s.heap.objs.size f cd
 outer:=outer
 stack:=cN qual scope s.heap.objs.size f cd::outer
 ex:=[]
 calm:=ah
 fn:=λ_=>ah
 pn:=[]
 xe:=λe s'=>aW (aZ P w) (A.deeper<|cN qual scope s.heap.objs.size f cd) (leaving (cN qual scope s.heap.objs.size f cd) e) (λ_ s''=>CX outer H s E e s'') (λe' s''=>CX outer H s E e' s'') s'
def U0{sc:c7}{n:Nat}{x:bc}(h:sc.names.lookup x=aa .cell):∃c,(fS n sc.names []).lookup x=aa c:=by
 have q:=fF sc.names n []<|.inl h;exact bP.mp q
def Jv{CX:CXT}{P:bq}{w:bC}{K:aj}{mg:bc->Option aq}{base:bF}{N ps:List bc}{qual:bc}{scope:c7}{f:aw}{cd:aq}{A:bL}{outer:List Env}{s s1:au}{H:Hp}{E:XK}{us:List aq}{vs:List V}
  (S:FnScope N ps scope)(hd:A.handled=ac)(e0:Env0 P w K mg base A outer s H)(hl:vs.length=ps.length)(r:Vals vs us)
  (x:InCallC s s.heap.objs.size (nB (cN qual scope s.heap.objs.size f cd).kindOf (ps.zip us) λ_=>ac) (fS (s.heap.objs.size+1) scope.names []) (nC (cN qual scope s.heap.objs.size f cd).kindOf (ps.zip us) λ_=>ac) s1) :
  Inv (Wj CX P w K mg base N qual scope f cd A outer s H E) [] (start N vs) H s1:=by
 have hpl:ps.length<=N.length:=by have:=congrArg gj S.pre;rw[cq]at this;omega
 obtain⟨h1,tk,rfl,hk⟩:=x.done;have noA:∀b:aw,b∉(Wj CX P w K mg base N qual scope f cd A outer s H E).ex:=λb z=>T7 (show b∈([]:List aw)from z) (by simp)
 refine⟨⟨e0.mod,S.kind,rfl,rfl,aB _,λy z c h1 h2=>?_,λy hy=>?_,λy c _ h=>?_,λ_=>hd,kr e0.frames,.inr ⟨rfl,rfl⟩,λb z=>T7 z<|noA b,e0.bs,e0.bsz,λb _ _=>noA b,λb z=>T7 z<|noA b,e0.funs,e0.frf⟩,
  rfl,e0.bare,Un.kept hk,⟨_,x.toInCall.ns,λi y v h1 h2 h3=>?_⟩,λy c h=>⟨_,x.cell y c h⟩,e0.hok.fresh<|aB _,λy c h=>?_,λp hp=>T7 (show p∈([]:List (aw×dB))from hp)<|by simp,e0.hok.kept hk,?_⟩
 ·exact name_of_addr x.apart (cG h1)<|cG h2
 ·have hy:=hy
  rcases hy with hy|hy
  ·exact U0 hy
  ·exact T7 rfl<|S.nofree _<|cG hy
 ·exact d4<|x.above y c<|cG h
 ·have hi:i<vs.length:=by
   unfold start at h2;by_cases hi:i<vs.length
   ·exact hi
   ·grind
  have ha:vs[i]?=aa v:=by
   unfold start at h2;rw[aO<|by simpa using hi,aX]at h2
   cases e:vs[i]? with|none=>rw[e]at h2;cases h2|some a=>rw[e]at h2;cases h2;rfl
  obtain⟨u,hu,rv⟩:=r.get ha;have hp:ps[i]?=aa y:=by
   rw[<-S.pre,List.getElem?_take_of_lt<|by omega];exact h1
  have ndP:ps.Nodup:=by rw[<-S.pre];exact S.nd.sublist<|List.take_sublist _ _
  refine⟨u,rv,?_⟩;rcases S.par y (cy hp)with k|k
  ·exact .inl ⟨k,Q8 ndP hp hu k⟩
  ·obtain⟨c,e⟩:=U0 k
   refine .inr ⟨.inl k,c,e,?_⟩;have q:=x.cell y c e;rw[Jn ndP hp hu<|by show scope.names.lookup y≠_;rw[k];decide]at q
   exact q
 ·exact e0.hok.fresh<|d4<|x.above y c<|cG h
 ·unfold start
  show _=N.length;rw[bn,aF,b9];omega
def Zdm{CX:CXT}{P:bq}{w:bC}{K:aj}{mg:bc->Option aq}{base:bF}{k:Nat}{f:aw}{name qual:bc}{params:l8}{body:List de}{scope:c7}{dV kV doc pm cdv ct oc:aq}{an od:Option aw}
  {osl:Array (Option aq)}{N ps:List bc}{sp:Sp}(lk:K.lookup f=aa ⟨oc,od,.func<|c6 name qual params body scope dV kV doc pm an cdv ct,osl⟩)(hcd:gN K cdv qual=ah)(S:FnScope N ps scope)
  (len:∀vs H Q E,sp vs H Q E->vs.length=ps.length)
  (hbody:∀(A:bL)(outer:List Env)(s:au)(H:Hp)(vs:List V)(Q:VK)(E:XK),Room k (A.deeper<|cN qual scope s.heap.objs.size f cdv)->sp vs H Q E->
   ∃t,PSs (Wj CX P w K mg base N qual scope f cdv A outer s H E) body t/\t {nx:=λ_ H'=>Q .non H',rt:=Q} (start N vs) H) :
  FnOk P w K mg base CX (k+1) f (c6 name qual params body scope dV kV doc pm an cdv ct) ps sp:=by
 refine⟨len,λA outer s H args us vs Q E hr e0 hb r hsp=>?_⟩
 have hl:=len _ _ _ _ hsp;have KX:=e0.mod.kin.keeps λb o e=>(e0.bs b o e).1
 have lim:=e0.mod.nolimit.keeps λb o e=>(e0.bs b o e).1
 have hkind:∀y∈ps.zip us,scope.names.lookup y.1=aa .local\/(scope.names.lookup y.1=aa .cell/\((fS (s.heap.objs.size+1) scope.names []).lookup y.1).isSome=ah):=λ⟨n,v⟩ hy=>by
  rcases S.par n (eg hy).1 with q|q
  ·exact .inl q
  ·exact .inr ⟨q,fF _ _ _<|.inl q⟩
 refine ke hr.depth (KX _ _ lk) rfl S.co S.gen rfl (lc KX hcd)<|hb _ _ _ _ ?_;refine gO S.kind hkind λenv he s1 x=>?_
 subst he;refine⟨lim.keeps x.toInCall.keep,codeAny_func ?_⟩;obtain⟨t,ht,hq⟩:=hbody A outer s H vs Q E (hr.deeper _) hsp;have I:Inv (Wj CX P w K mg base N qual scope f cdv A outer s H E) [] (start N vs) H s1:=Jv S hr.hd e0 hl r x;refine cB (ht [] s1 (start N vs) H _ I hq) (λfl s' hs=>?_) λe s' hs=>hs
 have fin:∀{σ':St}{H':Hp}{v:V}{u:aq},Inv (Wj CX P w K mg base N qual scope f cdv A outer s H E) [] σ' H' s'->Zz v u->Q v H'->CE outer P w H s Q u s':=
  λ{σ' H' v u} J rv q=>⟨v,H',J.os,J.bare,J.base,J.hok,rv,q⟩
 cases fl with
 |ret u=>
  obtain⟨v,σ',H',J,rv,q⟩:=hs;exact fin J rv q
 |next=>
  obtain⟨σ',H',J,q⟩:=hs;exact fin (v:=V.non) J rfl q
 |brk=>
  obtain⟨_,_,_,q⟩:=hs;exact False.elim q
 |cont=>
  obtain⟨_,_,_,q⟩:=hs;exact False.elim q
section
variable{X:Cx}{x:bc}{p pos:d8}{e:Expr}{es:List Expr}{t:TA}{id T:String}{r:List V->Hp->VK->Prop}
def tCB(r:List V->Hp->VK->Prop)(t:TA):TE:=λσ H Q=>t σ H λvs H1=>r vs H1 Q
def Wx(hc:ZK X (.builtin id) r)(hg:Gl X x)(hm:X.mg x=ac)(hv:cQ x=aa (.builtin id))(ha:PA X (e::es) t)(hn:x≠"__name__":=by decide)(hdb:(x == ("__debug__" : bc))=ai:=by decide)
  (he:aC (e::es) X.env=(ai,cb e X.env)::aC es X.env:=by rfl)(hpl:(cX pos<|aC es X.env).any (·.1)=ai:=by rfl):PE X (.Call (.Name x p) (e::es) [] pos) (tCB r t):=by
 intro pq s σ H Q I h;refine dm<|WY I hg hm hv ?_ hn hdb;exact PyProof.Rows.callWith_builtin1 (thn (ha pos pq s σ H _ I h) λus s1 ⟨vs,H1,I1,r1,q1⟩=>hc pq s1 σ H1 vs us Q I1 r1 q1) he hpl
def ui(hc:ZK X (.type T) r)(hg:Gl X x)(hm:X.mg x=ac)(hv:cQ x=aa (.type T))(ha:PA X (e::es) t)(hn:x≠"__name__":=by decide)(hdb:(x == ("__debug__" : bc))=ai:=by decide)
  (he:aC (e::es) X.env=(ai,cb e X.env)::aC es X.env:=by rfl)(hpl:(cX pos<|aC es X.env).any (·.1)=ai:=by rfl):PE X (.Call (.Name x p) (e::es) [] pos) (tCB r t):=by
 intro pq s σ H Q I h;refine dm<|WY I hg hm hv ?_ hn hdb;exact cZ (thn (ha pos pq s σ H _ I h) λus s1 ⟨vs,H1,I1,r1,q1⟩=>hc pq s1 σ H1 vs us Q I1 r1 q1) he hpl
end
end L2
namespace HT
open PySem PyProof.Rows
section
variable{prog:bq}{w:bC}{A:bL}{E:aq->au->Prop}{s:au}
def ZbL{Q:aq->au->Prop}(ht:lx s.heap t vs.toArray)(hb:lx s.heap b ws.toArray)(hv:vs≠[])
  (h1:ws=[]->Q (.ref t) s)(h2:ws≠[]->Q (.ref s.heap.objs.size) {s with heap:=s.heap.push {cls:=.type "tuple",data:=.seq (vs++ws).toArray}})
  (hsz:vs.length+ws.length<=aY):aW (aZ prog w) A (dJ .Add (.ref t)<|.ref b) Q E s:=by
 obtain⟨⟨cls,dd,data,sl⟩,ho,hc,n,hd⟩:=id ht;obtain⟨⟨cls2,dd2,data2,sl2⟩,ho2,hc2,n2,hd2⟩:=id hb;simp only at hc hd hc2 hd2;subst hc hd hc2 hd2;have e:vs.toArray++ws.toArray=(vs++ws).toArray:=by simp
 by_cases hw:ws=[]
 ·exact lD ⟨_,ho,rfl⟩ ⟨_,ho2,rfl⟩ iI kQ fG fA (fc _ _)
   (tuple_addW1 t b vs.toArray ws.toArray n n2 dd dd2 sl sl2 (by simpa using hv)<|by simp[hw]) ⟨ho,ho2,h1 hw⟩
 ·refine lD ⟨_,ho,rfl⟩ ⟨_,ho2,rfl⟩ iI kQ fG fA (fc _ _)
   (tuple_addW2 t b vs.toArray ws.toArray n n2 dd dd2 sl sl2 (by simpa using hv) (by simpa using hw)<|by grind) ⟨ho,ho2,?_⟩
  rw[e];exact h2 hw
noncomputable def sIx(n d:Nat):Option Int->Nat
 |none=>d
 |some v=>if v<0 then(v+(n:Int)).toNat else nM v.toNat n
def Ze0(n d:Nat)(hd:d<=n)(o:Option Int):sIx n d o<=n:=by
 cases o with
 |none=>exact hd
 |some v=>
  show(if v<0 then(v+(n:Int)).toNat else nM v.toNat n)<=n
  by_cases hv:v<0
  ·grind
  ·grind
def vP(v:Int)(n d:Nat):(if v<0 then max (v+(n:Int)) 0 else nM v (n:Int))=((sIx n d (aa v):Nat):Int):=by
 show(if v<0 then max (v+(n:Int)) 0 else nM v (n:Int))=(((if v<0 then(v+(n:Int)).toNat else nM v.toNat n):Nat):Int)
 by_cases hv:v<0
 ·grind
 ·grind
def xA(lo hi:Option Int)(n:Nat):eX lo hi 1 (n:Int)=(((sIx n 0 lo:Nat):Int),((sIx n n hi:Nat):Int)):=by
 have h1:¬((1:Int)<0):=by omega
 unfold eX;simp only[h1,if_false];refine Prod.ext ?_ ?_
 ·cases lo with|none=>rfl|some v=>exact vP v n 0
 ·cases hi with|none=>rfl|some v=>exact vP v n n
def yZ(i j:Nat):bY (i:Int) (j:Int) 1=j-i:=by
 unfold bY;have h1:(1:Int)>0:=by omega
 simp only[h1,if_true,Int.ediv_one];split<;>omega
def WU{Q:Option Int->au->Prop}(p:gP v o)(h:Q o s):aW (aZ prog w) A (eF.Slice.slicePartIndex v) Q E s:=by
 cases p with|none=>exact gQ h|int i t=>exact slicePart_int h
def XX{sl:aw}{vl vu:aq}{lo hi:Option Int}{n:Nat}{Q:Int×Int×Nat->au->Prop}(hs:s.heap.IsSliceOf sl vl vu .none)(pl:gP vl lo)(pu:gP vu hi)
  (h:Q (((sIx n 0 lo:Nat):Int),1,sIx n n hi-sIx n 0 lo) s):aW (aZ prog w) A (gR (.ref sl)<|cA (n:Int)) Q E s:=by
 obtain⟨os,hos,hcs,hds⟩:=id hs;refine af<|af<|bX hos hds rfl<|af<|bX hos hds rfl<|af<|bX hos hds rfl<|ax ?_;refine af<|gQ ?_;show aW _ _ (if((1:Int) == 0)=ah then _ else _) _ _ s
 rw[T8<|by decide]
 refine af<|WU pl<|af<|WU pu<|af<|ax ?_;show aW _ _ (match eX lo hi 1 (n:Int)with|(lo,hi)=>cA (lo,(1:Int),bY lo hi 1)) _ _ s
 rw[xA lo hi n];show aW _ _ (cA (((sIx n 0 lo:Nat):Int),(1:Int),bY ((sIx n 0 lo:Nat):Int) ((sIx n n hi:Nat):Int) 1)) _ _ s;rw[yZ];exact ax h
def qG(xs:Array aq)(i k:Nat):((aR k).filterMap λ(m:Nat)=>xs[((i:Int)+(m:Int)*1).toNat]?).toArray=((xs.toList.drop i).take k).toArray:=by
 have e:(λ(m:Nat)=>xs[((i:Int)+(m:Int)*1).toNat]?)=λm=>xs[i+m]?:=by grind
 rw[e];have:=pick_run xs i k;rw[lf]at this;have e2:((λx=>xs[x]?)∘λx=>i+x)=λm=>xs[i+m]?:=rfl
 rw[e2]at this;rw[this]
def Vv{t sl:aw}{items:Array aq}{vl vu:aq}{lo hi:Option Int}{Q:aq->au->Prop}(ht:lx s.heap t items)(hs:s.heap.IsSliceOf sl vl vu .none)(pl:gP vl lo)(pu:gP vu hi)
  (hw:¬(sIx items.size 0 lo=0/\sIx items.size items.size hi=items.size))
  (h:Q (.ref s.heap.objs.size) {s with heap:=s.heap.push {cls:=.type "tuple",data:=.seq ((items.toList.drop<|sIx items.size 0 lo).take<|sIx items.size items.size hi-sIx items.size 0 lo).toArray}})
  (hsz:items.size<=aY):aW (aZ prog w) A (ib (.ref t)<|.ref sl) Q E s:=by
 have htake:sizeOk (.seq ((items.toList.drop<|sIx items.size 0 lo).take<|sIx items.size items.size hi-sIx items.size 0 lo).toArray):=by
  show((items.toList.drop<|sIx items.size 0 lo).take<|sIx items.size items.size hi-sIx items.size 0 lo).toArray.size<=aY;rw[aD,cq,cr,cV];omega
 have hj:sIx items.size items.size hi<=items.size:=Ze0 _ _ (aB _) hi;obtain⟨os,hos,hcs,hds⟩:=id hs;have hTs:s.TypeIs (.ref sl) "slice":=⟨os,hos,hcs⟩;unfold ib
 try with_reducible refine bO ?_
 first|refine af<|ax ?_|skip
 refine af<|ig ht.typeIs (by decide) ?_
 refine af (bU ht.typeIs bR
  (cz bR ht.typeIs gB ?_<|gS _ _))
 show aW _ _ (eM (.ref t) >>= _) _ _ s;refine af<|kR ht ?_;refine af<|eU hTs ?_;rw[T9<|by decide]
 refine af<|XX hs pl pu ?_;have hno:¬((((sIx items.size 0 lo:Nat):Int) == 0&&(1:Int) == 1&&(sIx items.size items.size hi-sIx items.size 0 lo) == items.size)=ah):=by grind
 show aW _ _ (if(((sIx items.size 0 lo:Nat):Int) == 0&&(1:Int) == 1&&(sIx items.size items.size hi-sIx items.size 0 lo) == items.size)=ah then _ else _) _ _ s
 rw[T8 hno,qG]
 first
  |exact af (bu (ax ⟨_,rfl,ax h⟩) htake)
  |exact af (bu (af<|ax<|ax ⟨_,rfl,ax h⟩) htake)
  |exact af (af<|bu (ax<|ax ⟨_,rfl,ax h⟩) htake)
  |exact af<|af (m:=eF.Tuple.tupleExact _)<|bu (ax ⟨_,rfl,ax h⟩) htake
end
end HT
namespace L2
open PySem PySem.Spec PyProof.Rows
abbrev TO:=St->Hp->(Option Int->Hp->Prop)->Prop
def PO(X:Cx)(e:Option Expr)(t:TO):Prop:=
 ∀(pq:List (aw×dB))(s:au)(σ:St)(H:Hp)(Q:Option Int->Hp->Prop),Inv X pq σ H s->t σ H Q->
  aW (aZ X.prog X.w) X.A (evalPart e X.env) (λu s'=>∃o H',Inv X pq σ H' s'/\gP u o/\Q o H') X.xe s
def ZbW:TO:=λ_ H Q=>Q ac H
def ZfS(t:TE):TO:=λσ H Q=>t σ H λx H1=>∃i,x=.int i/\Q (aa i) H1
section
variable{X:Cx}{e:Expr}{te:TE}{lo hi:Option Expr}{tl th:TO}{pos p2:d8}
def Zcq:PO X ac ZbW:=by
 intro pq s σ H Q I h;rw[kS];exact ax ⟨ac,H,I,.none,h⟩
def Z8(h:PE X e te):PO X (aa e) (ZfS te):=by
 intro pq s σ H Q I hw;rw[evalPart_some];refine thn (h pq s σ H _ I hw) λu s1 ⟨x,H1,I1,r1,q1⟩=>?_
 obtain⟨i,rfl,q⟩:=q1;obtain⟨t,rfl⟩:=r1;exact⟨aa i,H1,I1,.int i t,q⟩
def SlR(X:Cx)(r:V->Option Int->Option Int->Hp->VK->Prop):Prop:=
 ∀(pq:List (aw×dB))(s:au)(σ:St)(H:Hp)(x:V)(v vl vu:aq)(lo hi:Option Int)(sl:aw)(Q:VK),Inv X pq σ H s->Zz x v->s.heap.IsSliceOf sl vl vu .none->gP vl lo->gP vu hi->r x lo hi H Q->
  ∃T id,gT (.type T) "__getitem__" = cA (aa<|.builtin id)/\s.TypeIs v T/\aW (aZ X.prog X.w) X.A (ib v<|.ref sl) (EP X pq σ Q) X.xe s
def SlR.or{r r':V->Option Int->Option Int->Hp->VK->Prop}(h:SlR X r)(h':SlR X r'):SlR X (λx lo hi H Q=>r x lo hi H Q\/r' x lo hi H Q):=by
 intro pq s σ H x v vl vu lo hi sl Q I rx hs pl pu q;rcases q with q|q
 ·exact h pq s σ H x v vl vu lo hi sl Q I rx hs pl pu q
 ·exact h' pq s σ H x v vl vu lo hi sl Q I rx hs pl pu q
def tSl(r:V->Option Int->Option Int->Hp->VK->Prop)(te:TE)(tl th:TO):TE:=λσ H Q=>te σ H λx H1=>tl σ H1 λl H2=>th σ H2 λu H3=>r x l u H3 Q
def jb{r:V->Option Int->Option Int->Hp->VK->Prop}(hr:SlR X r)(he:PE X e te)(hl:PO X lo tl)(hu:PO X hi th):PE X (.Subscript e (.Slice lo hi ac p2) pos) (tSl r te tl th):=by
 intro pq s σ H Q I h;refine mV<|thn (he pq s σ H _ I h) λv s1 ⟨x,H1,I1,r1,q1⟩=>?_
 refine wpAny_Slice<|thn (hl pq s1 σ H1 _ I1 q1) λvl s2 ⟨l,H2,I2,pl,q2⟩=>thn (hu pq s2 σ H2 _ I2 q2) λvu s3 ⟨u,H3,I3,pu,q3⟩=>?_
 rw[kS];refine ax ?_;have I4:Inv X pq σ H3 {s3 with heap:=s3.heap.push {cls:=.type "slice",data:=.fields #[vl,vu,.none]}}:=I3.kept (t':=s3.toks) λb ob q=>ao _ q
 obtain⟨T,id,hT,ht,hg⟩:=hr pq {s3 with heap:=s3.heap.push {cls:=.type "slice",data:=.fields #[vl,vu,.none]}} σ H3 x v vl vu l u s3.heap.objs.size Q I4 r1 (lg ..) pl pu q3
 exact tail_any ht hT hg (by with_unfolding_all rfl)
noncomputable def YR(xs:List V)(lo hi:Option Int):List V:=(xs.drop<|HT.sIx xs.length 0 lo).take<|HT.sIx xs.length xs.length hi-HT.sIx xs.length 0 lo
def Uk(xs:List V)(lo hi:Option Int):(YR xs lo hi).length<=xs.length:=by
 unfold YR;rw[cq,cr];omega
def Zgh(K:aj):V->Option Int->Option Int->Hp->VK->Prop:=λx lo hi H Q=>∃a xs,x=.ref a/\SqT K H a xs/\
 ¬(HT.sIx xs.length 0 lo=0/\HT.sIx xs.length xs.length hi=xs.length)/\∀p,H p=ac->Q (.ref p) (upd H p<|.tup<|YR xs lo hi)
def ZeM:SlR X (Zgh X.K):=by
 intro pq s σ H x v vl vu lo hi sl Q I rx hs pl pu h;obtain⟨a,xs,rfl,hx,hw,q⟩:=h;cases rx;obtain⟨its,r,ht,hz⟩:=I.tuple hx;have hlen:its.toArray.size=xs.length:=by rw[aD];exact r.length.symm
 refine⟨"tuple",_,bR.lookup,ht.typeIs,?_⟩;refine HT.Vv ht hs pl pu (by rw[hlen];exact hw) ?_ (by rw[hlen];exact hz)
 rw[hlen];refine⟨.ref s.heap.objs.size,_,I.laid (t':=s.toks) (λb ob q=>ao _ q) (aB _) ?_,rfl,q _<|I.hok.fresh<|aB _⟩
 exact⟨bh (Uk xs lo hi) hz,_,(r.drop<|HT.sIx xs.length 0 lo).take<|HT.sIx xs.length xs.length hi-HT.sIx xs.length 0 lo,fR _ _⟩
def Zdp(K:aj):R2:=λx y H Q=>∃a b xs ys,x=.ref a/\y=.ref b/\SqT K H a xs/\SqT K H b ys/\xs≠[]/\xs.length+ys.length<=aY/\
 (ys=[]->Q (.ref a) H)/\(ys≠[]->∀p,H p=ac->Q (.ref p) (upd H p<|.tup<|xs++ys))
def Vals.nil_iff(r:Vals xs us):us=[]↔xs=[]:=by
 cases r with|nil=>simp|cons _ _=>simp
def ZcR:OpR X (dJ .Add) (Zdp X.K):=by
 intro pq s σ H x y v u Q I rx ry h;obtain⟨a,b,xs,ys,rfl,rfl,ha,hb,hx,hz,q1,q2⟩:=h;cases rx;cases ry;obtain⟨its,r1,p1,_⟩:=I.tuple ha;obtain⟨its2,r2,p2,_⟩:=I.tuple hb;refine HT.ZbL p1 p2 (λz=>hx<|r1.nil_iff.mp z) (λz=>⟨.ref a,H,I,rfl,q1<|r2.nil_iff.mp z⟩) (λz=>?_) (by rw[<-r1.length,<-r2.length];exact hz)
 refine⟨.ref s.heap.objs.size,_,I.laid (t':=s.toks) (λb ob q=>ao _ q) (aB _) ?_,rfl,q2 (λw=>z<|r2.nil_iff.mpr w) _<|I.hok.fresh<|aB _⟩
 exact⟨by grind,_,r1.append r2,fR _ _⟩
end
noncomputable def ixN(n:Nat)(i:Int):Option Nat:=if 0<=i then(if i<n then aa i.toNat else ac)else if -(n:Int)<=i then aa (i+n).toNat else ac
noncomputable def atI{α:Type}(xs:List α)(i:Int):Option α:=(ixN xs.length i).bind λj=>xs[j]?
def wu(h:ixN n i=aa j):seqIndex? i n=aa j/\j<n/\-(n:Int)<=i/\i<n:=by
 unfold ixN at h;by_cases h0:0<=i
 ·rw[T9 h0]at h
  by_cases h1:i<n
  ·rw[T9 h1]at h
   have e:=ak h;exact⟨by rw[mw h0 h1,e],by omega,by omega,h1⟩
  ·grind
 ·rw[T8 h0]at h
  by_cases h1:-(n:Int)<=i
  ·rw[T9 h1]at h
   have e:=ak h;exact⟨by rw[lE (by omega) h1,e],by omega,h1,by omega⟩
  ·grind
def wC{α:Type}{xs:List α}{i:Int}{v:α}(h:atI xs i=aa v):∃j,seqIndex? i xs.length=aa j/\xs[j]?=aa v/\j<xs.length/\-(xs.length:Int)<=i/\i<xs.length:=by
 unfold atI at h;cases e:ixN xs.length i with
 |none=>rw[e]at h;cases h
 |some j=>
  rw[e]at h;obtain⟨h1,h2,h3,h4⟩:=wu e;exact⟨j,h1,h,h2,h3,h4⟩
def wP(b:Expr):Prop:=∀o i,subscripted b ai o i=operate [o,i] (ib o i)
def IxR(X:Cx)(r:R2):Prop:=
 ∀(value slice:Expr)(pq:List (aw×dB))(s:au)(σ:St)(H:Hp)(x y:V)(v u:aq)(Q:VK),Inv X pq σ H s->Zz x v->Zz y u->r x y H Q->
  subscripted slice ai v u=operate [v,u] (ib v u)->aW (aZ X.prog X.w) X.A (subscriptTail value slice v u) (EP X pq σ Q) X.xe s
def MtR(X:Cx)(id:String)(r:V->List V->Hp->VK->Prop):Prop:=
 ∀(pq:List (aw×dB))(s:au)(σ:St)(H:Hp)(x:V)(xs:List V)(v:aq)(us:List aq)(Q:VK),Inv X pq σ H s->Zz x v->Vals xs us->r x xs H Q->
  aW (aZ X.prog X.w) X.A (call (.builtin id) (v::us)) (EP X pq σ Q) X.xe s
section
variable{X:Cx}{a b:Expr}{ta tb:TE}{pos:d8}
def IxR.or(h:IxR X r)(h':IxR X r'):IxR X (λx y H Q=>r x y H Q\/r' x y H Q):=by
 intro value slice pq s σ H x y v u Q I rx ry q hs;rcases q with q|q
 ·exact h value slice pq s σ H x y v u Q I rx ry q hs
 ·exact h' value slice pq s σ H x y v u Q I rx ry q hs
def ZdA(hr:IxR X r)(ha:PE X a ta)(hb:PE X b tb)(hs:wP b):PE X (.Subscript a b pos) (tOp r ta tb):=by
 intro pq s σ H Q I h;exact mV<|Ze6 ha hb I h λv u s2 x y H2 I2 rx ry q=>hr a b pq s2 σ H2 x y v u Q I2 rx ry q<|hs _ _
def Zfu(K:aj):R2:=λx y H Q=>∃p xs i v,x=.ref p/\y=.int i/\SqL K H p xs/\atI xs i=aa v/\Q v H
def Zgf(K:aj):R2:=λx y H Q=>∃p xs i v,x=.ref p/\y=.int i/\SqT K H p xs/\atI xs i=aa v/\Q v H
def vL:IxR X (Zfu X.K):=by
 intro value slice pq s σ H x y v u Q I rx ry h hs;obtain⟨p,xs,i,z,rfl,rfl,hq,he,q⟩:=h;cases rx;obtain⟨t,rfl⟩:=ry;obtain⟨its,r,pl,hz⟩:=I.list hq;obtain⟨j,h1,h2,h3,h4,h5⟩:=wC he;obtain⟨w,ew,rw'⟩:=r.get h2;have hl:=r.length;have hn:=Qg;have fin:EP X pq σ Q w s:=⟨z,H,I,rw',q⟩;by_cases h0:0<=i
 ·have hj:i.toNat=j:=by
   rw[mw h0 h5]at h1;exact ak h1
  exact item_listR pl.isList h0 (by omega) (by rw[hj];simpa using ew) fin hs
 ·have hj:(i+(its.toArray.size:Int)).toNat=j:=by
   rw[lE (by omega) h4]at h1
   rw[aD,<-hl];exact ak h1
  exact iV pl.isList.typeIs slot_list_getitem.lookup
   (wpAny_getItem_list_neg pl.isList (by omega) (by rw[aD]<;>omega) (by omega) (by rw[hj];simpa using ew) ⟨rfl,fin⟩) hs
def ZdI:IxR X (Zgf X.K):=by
 intro value slice pq s σ H x y v u Q I rx ry h hs;obtain⟨p,xs,i,z,rfl,rfl,hq,he,q⟩:=h;cases rx;obtain⟨t,rfl⟩:=ry;obtain⟨its,r,pl,hz⟩:=I.tuple hq;obtain⟨j,h1,h2,h3,h4,h5⟩:=wC he;obtain⟨w,ew,rw'⟩:=r.get h2;have hl:=r.length;have hn:=Qg;have fin:EP X pq σ Q w s:=⟨z,H,I,rw',q⟩;exact iV pl.typeIs slot_tuple_getitem.lookup
  (getItem_tuple pl (by omega) (by omega) (by rw[aD,<-hl];exact h1) (by simpa using ew) ⟨rfl,fin⟩) hs
def xK(its:List aq)(n j:Nat)(u:aq):dQ (·.setIfInBounds j u) {cls:=.type "list",data:=.seq its.toArray n}={cls:=.type "list",data:=.seq (its.set j u).toArray n}:=by
 simp[dQ]
theorem Inv.lst{pq:List (aw×dB)}{σ:St}{H:Hp}{s:au}{p:aw}{xs:List V}(I:Inv X pq σ H s)(h:H p=aa (.lst xs)) :
  ∃(its:List aq)(n:Nat),Vals xs its/\s.heap.get? p=aa {cls:=.type "list",data:=.seq its.toArray n}/\xs.length<=aY:=by
 obtain⟨z,its,n,r,e⟩:=I.hok p _ h;exact⟨its,n,r,e,z⟩
def Inv.lstUpd{pq:List (aw×dB)}{σ:St}{H:Hp}{s:au}{p:aw}{xs ys:List V}{its its':List aq}{n n':Nat}{f:dB->dB}(I:Inv X pq σ H s)(h:H p=aa (.lst xs))
  (ho:s.heap.get? p=aa {cls:=.type "list",data:=.seq its.toArray n})(hf:f {cls:=.type "list",data:=.seq its.toArray n}={cls:=.type "list",data:=.seq its'.toArray n' })(r:Vals ys its')(hz:ys.length<=aY)(t:Nat) :
  Inv X pq σ (upd H p<|.lst ys) {s with heap:=s.heap.update p f,toks:=t}:=by
 have e:(s.heap.update p f).get? p=aa {cls:=.type "list",data:=.seq its'.toArray n' }:=by
  rw[eC f ho<|by rw[hf]<;>rfl,hf]
 refine I.write (by rw[h];trivial) (.inl rfl) (λb u hb q=>(iW _ _<|Ne.symm hb).trans q) ⟨_,e⟩ ?_
 exact⟨hz,its',n',r,e⟩
def ZfV:V->V->V->Hp->(Hp->Prop)->Prop:=λo i v H Q=>∃p xs k j,o=.ref p/\i=.int k/\H p=aa (.lst xs)/\ixN xs.length k=aa j/\Q (upd H p<|.lst<|xs.set j v)
def Zay:PSet X ZfV:=by
 intro pq s σ H o i v ov iv u Q I ro ri rv h;obtain⟨p,xs,k,j,rfl,rfl,hp,hj,q⟩:=h;cases ro;obtain⟨t,rfl⟩:=ri;obtain⟨its,n,r,ho,hz⟩:=I.lst hp;obtain⟨h1,h2,h3,h4⟩:=wu hj;have hl:=r.length;have hn:=Qg;have I':=
  I.lstUpd hp ho (xK its n j u) (r.set rv j) (by rw[aT];exact hz) s.toks
 by_cases h0:0<=k
 ·have hk:k.toNat=j:=by
   rw[mw h0 h4]at h1;exact ak h1
  exact PySem.W.ki_setAt ho h0 (by omega) (by rw[aD,<-hl];exact h4) (by rw[hk];exact⟨_,I',q⟩)
 ·have hk:(k+(its.toArray.size:Int)).toNat=j:=by
   rw[lE (by omega) h3]at h1
   rw[aD,<-hl];exact ak h1
  exact PySem.W.ki_setBack ho (by omega) (by rw[aD,<-hl];exact h3) (by omega) (by rw[hk];exact⟨_,I',q⟩)
def J0(lo hi:Option Int)(n:Nat):(fB lo hi ac n).1=((HT.sIx n 0 lo:Nat):Int)/\(fB lo hi ac n).2.1=((HT.sIx n n hi:Nat):Int)/\(fB lo hi ac n).2.2=1:=by
 refine⟨?_,?_,rfl⟩
 ·cases lo with
  |none=>simp[fB,HT.sIx]
  |some i=>
   simp only[fB,HT.sIx,l9,show(1:Int)>0 by decide,if_true]
   by_cases h:i<0
   ·simp only[h,if_true]<;>omega
   ·simp only[h,if_false]<;>omega
 ·cases hi with
  |none=>simp[fB,HT.sIx]
  |some i=>
   simp only[fB,HT.sIx,l9,show(1:Int)>0 by decide,if_true]
   by_cases h:i<0
   ·simp only[h,if_true]<;>omega
   ·simp only[h,if_false]<;>omega
def QX(its:List aq)(lo hi:Option Int):slicePick its.toArray lo hi ac=((its.drop<|HT.sIx its.length 0 lo).take<|HT.sIx its.length its.length hi-HT.sIx its.length 0 lo).toArray:=by
 obtain⟨h1,h2,h3⟩:=J0 lo hi its.toArray.size;unfold slicePick;rw[h1,h2,h3];simp only[sliceRange_one,pick_run,aD]<;>rfl
def Zgi(K:aj):V->Option Int->Option Int->Hp->VK->Prop:=λx lo hi H Q=>∃a xs,x=.ref a/\SqL K H a xs/\∀p,H p=ac->Q (.ref p) (upd H p<|.lst<|YR xs lo hi)
def ZbV:SlR X (Zgi X.K):=by
 intro pq s σ H x v vl vu lo hi sl Q I rx hs pl pu h;obtain⟨a,xs,rfl,hx,q⟩:=h;cases rx;obtain⟨its,r,ht,hz⟩:=I.list hx;have hlen:=r.length;refine⟨"list",_,slot_list_getitem.lookup,ht.isList.typeIs,?_⟩;refine wpAny_getItem_list_slice ht.isList hs pl pu .none (by simp) ?_ (by grind)
 rw[QX,<-hlen];refine⟨.ref s.heap.objs.size,_,I.laid (t':=s.toks) (λb ob q=>ao _ q) (aB _) ?_,rfl,q _<|I.hok.fresh<|aB _⟩
 exact⟨bh (Uk xs lo hi) hz,_,0,(r.drop<|HT.sIx xs.length 0 lo).take<|HT.sIx xs.length xs.length hi-HT.sIx xs.length 0 lo,aM _ rfl⟩
noncomputable def wZ:V->Bool
 |.non=>ah
 |.bl _=>ah
 |.int _=>ah
 |.str _=>ah
 |_=>ai
noncomputable def eqV:V->V->Bool
 |.non,.non=>ah
 |.bl a,.bl b=>a == b
 |.bl a,.int b=>(if a then 1 else 0) == b
 |.int a,.bl b=>a == (if b then 1 else 0)
 |.int a,.int b=>a == b
 |.str a,.str b=>a == b
 |_,_=>ai
def ZeU(ry:Zz y u)(rx:Zz x v)(fy:wZ y=ah)(fx:wZ x=ah):iX A s u v (eqV y x):=by
 cases y with
 |non=>
  cases ry;cases x with|non=>cases rx;exact i6 _|bl b=>cases rx;exact iX.none_bool b|int b=>obtain⟨t,rfl⟩:=rx;exact iX.none_int b t|str b=>obtain⟨t,rfl⟩:=rx;exact iX.none_str b t|_=>exact T7 (fx) aN
 |bl a=>
  cases ry;cases x with|non=>cases rx;exact iX.bool_none a|bl b=>cases rx;exact iX.bool_bool a b|int b=>obtain⟨t,rfl⟩:=rx;exact iX.bool_int a b t|str b=>obtain⟨t,rfl⟩:=rx;exact iX.bool_str a b t|_=>exact T7 (fx) aN
 |int a=>
  obtain⟨t',rfl⟩:=ry;cases x with|non=>cases rx;exact iX.int_none a t'|bl b=>cases rx;exact iX.int_bool a t' b|int b=>obtain⟨t,rfl⟩:=rx;exact iX.int_int a t' b t|str b=>obtain⟨t,rfl⟩:=rx;exact kX a t' b t|_=>exact T7 (fx) aN
 |str a=>
  obtain⟨t',rfl⟩:=ry;cases x with|non=>cases rx;exact iX.str_none a t'|bl b=>cases rx;exact iX.str_bool a t' b|int b=>obtain⟨t,rfl⟩:=rx;exact kY a t' b t|str b=>obtain⟨t,rfl⟩:=rx;exact iX.str_str a t' b t|_=>exact T7 (fx) aN
 |_=>exact T7 (fy) aN
def GI:ZK X (.builtin "len") (λxs H Q=>∃p ys,xs=[.ref p]/\(SqL X.K H p ys\/SqT X.K H p ys)/\Q (.int ys.length) H):=by
 intro pq s σ H xs us Q I r h;obtain⟨p,ys,rfl,hq,q⟩:=h;obtain⟨u,rfl,rx⟩:=WO r;cases rx;have hn:=Qg;rcases hq with hq|hq
 ·obtain⟨its,r',pl,hz⟩:=I.list hq
  have hlen:=r'.length;exact Calls.call_len_list pl.isList (by grind) ⟨.int ys.length,H,I.tok _,⟨s.toks+1,by grind⟩,q⟩
 ·obtain⟨its,r',pl,hz⟩:=I.tuple hq
  have hlen:=r'.length;exact len_tuple pl (by grind) ⟨.int ys.length,H,I.tok _,⟨s.toks+1,by grind⟩,q⟩
def JW:ZK X (.type "list") (λxs H Q=>∃p ys,xs=[.ref p]/\(SqL X.K H p ys\/SqT X.K H p ys)/\∀l,H l=ac->Q (.ref l) (upd H l<|.lst ys)):=by
 intro pq s σ H xs us Q I r h;obtain⟨p,ys,rfl,hq,q⟩:=h;obtain⟨u,rfl,rx⟩:=WO r;cases rx;have fin:∀(its:List aq),Vals ys its->ys.length<=aY->∀(h':bF)(c':Nat),(∀b o',s.heap.get? b=aa o'->h'.get? b=aa o')->
   h'.get? s.heap.objs.size=aa {cls:=.type "list",dict:=ac,data:=.seq its.toArray c',slots:=#[]}->EP X pq σ Q (.ref s.heap.objs.size) {s with heap:=h' }:=λits r' hz h' c' kp e=>
  ⟨.ref s.heap.objs.size,_,I.laid (t':=s.toks) kp (aB _) (show Ya X.prog X.w _ h' _ (.lst ys)from⟨hz,its,c',r',e⟩),rfl,q _<|I.hok.fresh<|aB _⟩
 rcases hq with hq|hq
 ·obtain⟨its,r',pl,hz⟩:=I.list hq
  have hlen:=r'.length;obtain⟨o,ho,hc,n,hd⟩:=pl.isList;exact call_list_seq p (.inl rfl) ho hc hd (λh' c' kp e=>fin its r' hz h' c' kp e) (by grind)
 ·obtain⟨its,r',pl,hz⟩:=I.tuple hq
  have hlen:=r'.length;obtain⟨o,ho,hc,n,hd⟩:=pl;exact call_list_seq p (.inr rfl) ho hc hd (λh' c' kp e=>fin its r' hz h' c' kp e) (by grind)
def QZ:ZK X (.type "tuple") (λxs H Q=>∃p ys,xs=[.ref p]/\((SqL X.K H p ys/\∀l,H l=ac->Q (.ref l) (upd H l<|.tup ys))\/(SqT X.K H p ys/\Q (.ref p) H))):=by
 intro pq s σ H xs us Q I r h;obtain⟨p,ys,rfl,h⟩:=h;obtain⟨u,rfl,rx⟩:=WO r;cases rx;rcases h with⟨hq,q⟩|⟨hq,q⟩
 ·obtain⟨its,r',pl,hz⟩:=I.list hq
  have hlen:=r'.length;refine call_tuple_list pl.isList (λh' kp=>?_) (by grind)
  have I1:=I.kept (t':=s.toks) kp
  have I2:=
   I1.laid (t':=s.toks) (λb o e=>ao _ e) (aB _) (show Ya X.prog X.w _ _ _ (.tup ys)from⟨hz,its,r',fR _ _⟩)
  exact⟨.ref h'.objs.size,_,I2,rfl,q _<|I1.hok.fresh<|aB _⟩
 ·obtain⟨its,r',pl,hz⟩:=I.tuple hq
  exact call_tuple_same pl ⟨.ref p,H,I,rfl,q⟩
def tyV(K:aj)(T:String)(x:V)(H:Hp):Prop:=match x with
 |.str _=>T = "str"
 |.int _=>T = "int"
 |.ref p=>(T = "list"/\∃xs,SqL K H p xs)\/(T = "tuple"/\∃o,K.lookup p=aa o/\o.cls=.type "tuple"/\o.dict=ac)\/
   (T = "dict"/\((∃kvs,H p=aa (.dK kvs))\/∃kvs,H p=aa (.dT kvs)))
 |_=>False
def Zez(I:Inv X pq σ H s)(r:Zz x v)(ty:tyV X.K T x H) :
  s.TypeIs v T/\∀a,v=.ref a->∃ob,s.heap.get? a=aa ob/\ob.dict=ac:=by
 cases x with
 |str z=>
  obtain⟨t,rfl⟩:=r;cases(ty)
  exact⟨typeIs_str s z t,λ_ e=>nomatch e⟩
 |int i=>
  obtain⟨t,rfl⟩:=r;cases(ty)
  exact⟨iY s i t,λ_ e=>nomatch e⟩
 |ref p=>
  cases r;rcases ty with⟨rfl,xs,hq⟩|⟨rfl,o,hk,hc,hd⟩|⟨rfl,hk⟩
  ·obtain⟨its,_,pl,_⟩:=I.list hq
   refine⟨pl.isList.typeIs,λa e=>?_⟩
   cases e;obtain⟨o,n,e,c,hd,_⟩:=pl;exact⟨o,e,hd⟩
  ·refine⟨⟨o,I.kIn p o hk,hc⟩,λa e=>?_⟩
   cases e;exact⟨o,I.kIn _ o hk,hd⟩
  ·have z:∃o,s.heap.get? p=aa o/\o.ExactDict:=by
    rcases hk with⟨kvs,hk⟩|⟨kvs,hk⟩
    ·obtain⟨_,_,_,_,o,_,_,e,ex,_⟩:=I.hok p _ hk
     exact⟨o,e,ex⟩
    ·obtain⟨_,_,_,_,o,_,_,e,ex,_⟩:=I.hok p _ hk
     exact⟨o,e,ex⟩
   obtain⟨o,e,ex⟩:=z;refine⟨⟨o,e,ex.1⟩,λa e2=>?_⟩
   cases e2;exact⟨o,e,ex.2.1⟩
 |_=>exact False.elim ty
def tBM(K:aj)(T:String)(r:V->List V->Hp->VK->Prop)(to:TE)(t:TA):TE:=λσ H Q=>to σ H λx H1=>tyV K T x H1/\t σ H1 λxs H2=>r x xs H2 Q
variable{o e:Expr}{es:List Expr}{to:TE}{t:TA}{name:bc}{apos cpos:d8}{T id:String}{r:V->List V->Hp->VK->Prop}
def vE(pa:PlainAttrs T)(slot:Slot T name id)(hty:typeOf (.builtin id)=cA (.type "method_descriptor"))(hm:MtR X id r)(ho:PE X o to)(ha:PA X (e::es) t)
  (hbase:attributeBase o name X.env (cb o X.env)=cb o X.env:=by rfl)
  (hfew:((cX cpos<|aC (e::es) X.env).all (λx=>!x.1)&&(backToKw cpos<|keywordEach [] X.env).all (λx=>x.1.isSome)
   && ae ((e::es).length+([]:List nH).length+(if([]:List nH).isEmpty then 0 else 1)<30))=ah:=by rfl)
  (hline:(apos.endLine == cpos.line)=ah:=by rfl)(hs:aC (e::es) X.env=(ai,cb e X.env)::aC es X.env:=by rfl)(hplain:(cX cpos<|aC es X.env).any (·.1)=ai:=by rfl) :
  PE X (.Call (.Attribute o name apos) (e::es) [] cpos) (tBM X.K T r to t):=by
 intro pq s σ H Q I h;refine wpAny_Call_method_late hbase hfew hline rfl<|thn (ho pq s σ H _ I h) λv s1 ⟨x,H1,I1,r1,ty,q1⟩=>?_
 obtain⟨h1,h2⟩:=Zez I1 r1 ty;refine⟨T,id,pa,slot,hty,h1,h2,?_⟩;have hA:=ha cpos pq s1 σ H1 _ I1 q1;rw[hs]at hA ⊢;refine Calls.callWith_builtin (by grind)<|Calls.evalArgs_plain ?_
 exact thn hA λus s2 ⟨vs,H2,I2,r2,q2⟩=>hm pq s2 σ H2 x vs v us Q I2 r1 r2 q2
end
def MtM(X:Cx)(id:String)(r:V->List V->Hp->VK->Prop):Prop:=
 ∀(pq:List (aw×dB))(s:au)(σ:St)(H:Hp)(x:V)(xs:List V)(v:aq)(us:List aq)(Q:VK),Inv X pq σ H s->Zz x v->Vals xs us->r x xs H Q->
  aW (aZ X.prog X.w) X.A (call (.builtin id) (v::us)) (EP X pq σ Q) X.xe s
def Vals.one:∀{x:V}{us:List aq},Vals [x] us->∃u,us=[u]/\Zz x u
 |_,_,.cons r .nil=>⟨_,rfl,r⟩
theorem Vals.reverse(h:Vals xs us):Vals xs.reverse us.reverse:=by
 induction h with|nil=>exact .nil|cons r t ih=>rw[cD,cD];exact Vals.append ih<|.cons r .nil
theorem Vals.rep(h:Vals xs us):∀k:Nat,Vals (ar k xs).flatten (ar k us).flatten
 |0=>.nil
 |k+1=>by
  rw[bD,bD,bV,bV];exact Vals.append h<|Vals.rep h k
theorem VN(its:List aq):∀(k:Nat)(acc:List aq),
  List.foldl (λx1 x2=>x1++x2) acc.toArray (ar k its.toArray)=(acc++(ar k its).flatten).toArray
 |0,acc=>by simp
 |k+1,acc=>by
  have e:acc.toArray++its.toArray=(acc++its).toArray:=by simp
  have e2:(acc++its)++(ar k its).flatten=acc++(ar (k+1) its).flatten:=by grind
  rw[<-e2,<-VN its k (acc++its),<-e,bD,ei]
section
variable{X:Cx}{pq:List (aw×dB)}{σ:St}{H:Hp}{s:au}{l b:aw}{xs ys zs:List V}
def Inv.lset{its its':List aq}{n:Nat}{f:Array aq->Array aq}{t':Nat}(I:Inv X pq σ H s)(hH:H l=aa (.lst xs))
  (e:s.heap.get? l=aa {cls:=.type "list",data:=.seq its.toArray n})(hf:f its.toArray=its'.toArray)(hv:Vals ys its')(hz:ys.length<=aY) :
  Inv X pq σ (upd H l<|.lst ys) {s with heap:=s.heap.update l<|dQ f,toks:=t' }:=by
 have q:=PySem.IsL.update e f;rw[hf]at q;refine I.write (by rw[hH];exact trivial) (.inl rfl) (λb' u hb hu=>(iW s.heap (dQ f)<|Ne.symm hb).trans hu) ⟨_,q⟩ ?_
 exact⟨hz,its',_,hv,q⟩
def Inv.lnew(I:Inv X pq σ H s)(hv:Vals ys its)(hz:ys.length<=aY) :
  Inv X pq σ (upd H s.heap.objs.size<|.lst ys) {s with heap:=s.heap.push {cls:=.type "list",data:=.seq its.toArray},toks:=t' }:=
 I.laid (λ_ _ q=>ao _ q) (aB _) ⟨hz,its,0,hv,aM _ rfl⟩
theorem Inv.fresh(I:Inv X pq σ H s):H s.heap.objs.size=ac:=I.hok.fresh<|aB _
def Inv.lstM(I:Inv X pq σ H s)(hH:H l=aa (.lst xs)):xs.length<=aY/\∃(its:List aq)(n:Nat),Vals xs its/\xs.length=its.length/\s.heap.get? l=aa {cls:=.type "list",data:=.seq its.toArray n}:=by
 obtain⟨z,its,n,r,e⟩:=I.hok l _ hH;exact⟨z,its,n,r,r.length,e⟩
def qJ(h:n<=aY):fe n=ai:=by
 exact T4 (by omega)
end
section
variable{X:Cx}
def wI:V->List V->Hp->VK->Prop:=λx vs H Q=>∃l xs y,x=.ref l/\vs=[y]/\H l=aa (.lst xs)/\xs.length<aY/\Q .non (upd H l<|.lst<|xs++[y])
def Jo:MtM X "list.append" wI:=by
 intro pq s σ H x vs v us Q I rx rv h;obtain⟨l,xs,y,rfl,rfl,hH,hz,q⟩:=h;cases rx;obtain⟨u,rfl,ru⟩:=rv.one;obtain⟨z,its,n,r,hl,e⟩:=I.lstM hH;refine eN F.slot_list_append ⟨_,e,rfl⟩ F.entry_list_append (F.args_list_append_2 _ _) (PySem.list_append l its.toArray n u<|by grind) ⟨e,?_⟩
 refine⟨.non,_,I.lset (its':=its++[u]) hH e (by simp) (r.append<|.cons ru .nil) ?_,rfl,q⟩
 rw[bn,cK];omega
def ZcM:V->List V->Hp->VK->Prop:=λx vs H Q=>∃l b xs zs,x=.ref l/\vs=[.ref b]/\H l=aa (.lst xs)/\H b=aa (.lst zs)/\xs.length+zs.length<=aY/\Q .non (upd H l<|.lst<|xs++zs)
def ut:MtM X "list.extend" ZcM:=by
 intro pq s σ H x vs v us Q I rx rv h;obtain⟨l,b,xs,zs,rfl,rfl,hH,hB,hz,q⟩:=h;cases rx;obtain⟨u,rfl,ru⟩:=rv.one;cases ru;obtain⟨z,its,n,r,hl,e⟩:=I.lstM hH;obtain⟨z2,its2,n2,r2,hl2,e2⟩:=I.lstM hB;have hsz:its.toArray.size+its2.toArray.size<=aY:=by grind
 have hlong:¬(!its.toArray.isEmpty&&fe (its.toArray.size+its2.toArray.size))=ah:=by
  rw[qJ hsz,Bool.and_false];exact aN
 refine eN F.slot_list_extend ⟨_,e,rfl⟩ F.entry_list_extend (F.args_list_extend_2 _ _)
  (AutoSeq1.list_extend_list_list_0 l its.toArray n b its2.toArray n2 hlong (by grind)<|by omega) ⟨e,e2,?_⟩
 refine⟨.non,_,I.lset (its':=its++its2) hH e (by simp) (r.append r2) ?_,rfl,q⟩
 rw[bn];omega
def ZbR:R2:=λx y H Q=>∃l b xs zs,x=.ref l/\y=.ref b/\H l=aa (.lst xs)/\H b=aa (.lst zs)/\xs.length+zs.length<=aY/\∀p,H p=ac->Q (.ref p) (upd H p<|.lst<|xs++zs)
def wb:OpR X (dJ .Add) ZbR:=by
 intro pq s σ H x y v u Q I rx ry h;obtain⟨l,b,xs,zs,rfl,rfl,hH,hB,hz,q⟩:=h;cases rx;cases ry;obtain⟨z,its,n,r,hl,e⟩:=I.lstM hH;obtain⟨z2,its2,n2,r2,hl2,e2⟩:=I.lstM hB;refine PySem.P.add_list e e2 ?_ (by grind)
 have ea:its.toArray++its2.toArray=(its++its2).toArray:=by simp
 rw[ea];exact⟨.ref _,_,I.lnew (t':=s.toks) (r.append r2)<|by grind,rfl,q _ I.fresh⟩
def GJ{α:Type}(xs:List α)(k:Nat):(ar k xs).flatten.length=k*xs.length:=by simp_all
end
end L2
namespace Att
open PySem PySem.W PySem.Calls PyProof.Rows
def Ux :∀(ns:List Int)(vs:List aq),WellAll P h vs (ns.map WData.int)->mM vs ns:=by
 intro ns
 induction ns with
 |nil=>
  intro vs w;rw[fH]at w;cases w;exact .nil
 |cons n ns ih=>
  intro vs w;rw[aU]at w;cases w with
  |cons a b=>
   cases a;exact .cons _ _<|ih _ b
def uB{l:OpenLaw}{n:Nat}(hn:l.most=aa n){P:Params}{h:bF}{args:List WData}{vals:List aq}
  (hpre:l.row.toRowW.claim.pre args=ah)(hwl:WellAll P h vals args) :
  ∃a vs ns,vals=[cF a]/\args=[WData.list<|ns.map WData.int]/\h.get? a=aa {cls:=.type "list",data:=.seq vs.toArray}/\mM vs ns/\ns.length<=n:=by
 have hsh:=(pre_splitW hpre).1;have hc:l.pre.holds [] {args:=args}=ah:=(pre_splitW hpre).2;obtain⟨d,r,rfl,h1,h2⟩:=hasAllW_cons hsh;obtain rfl:=hasAllW_nil h2;obtain⟨xs,rfl,h3⟩:=hasW_list h1;obtain⟨ns,rfl⟩:=items_int h3;have hlen:ns.length<=n:=by
  have h4:(WTm.not<|.lt (.lit<|.int (n:Int))<|.len<|.arg 0).holds [] {args:=[.list<|ns.map .int]}=ah:=by
   have h4:=(holds_andW hc).1;rw[hn]at h4;exact h4
  have h5:=condW_of h4<|w_not<|w_lt w_lit<|w_len_list<|w_arg rfl;rw[aF]at h5;refine df λq=>?_
  have q':(n:Int)<((ns.length:Nat):Int):=by omega
  first
   |(rw[T5 q']at h5;exact T7 h5<|by decide)
   |(simp at h5;omega)
 cases hwl with
 |cons w1 w2=>
  cases w2;cases w1 with|list ho hall=>exact⟨_,_,ns,rfl,rfl,ho,Ux ns _ hall,hlen⟩
def qy(l:OpenLaw)(args:List WData):l.row.toRowW.claim.post args (.bool ah) args=ah:=
 postW_of
  (by first|rfl|decide|simp[WShape.has,WShape.arms,WShape.armsAll])
  (w_eq_bool (w_res rfl) w_lit) rfl
def zr{l:OpenLaw}{n:Nat}{q:bq}{loose:List bc}{XP:(bc->Option aq)->bF->Prop}{YP:bC->bF->Prop}{d:nI}
  (hn:l.most=aa n)(hdf:d.params.defaults=[])
  (call:∀(w:bC)(s₀ s₁:au)(mg mb:bc->Option aq)(fa:aw)(o:dB)(pm cd doc:aq)(a:aw)(vs:List aq)(ns:List Int),
   Ground q loose [] XP w s₀ mg mb s₁.heap->YP w s₁.heap->
   s₁.heap.get? fa=aa o->o.data=.func (docDef d.name d.params d.body d.scope pm cd doc)->s₁.heap.CodeRec cd d.name->mg d.name=aa (.ref fa)->
   s₁.heap.get? a=aa {cls:=.type "list",data:=.seq vs.toArray}->mM vs ns->ns.length<=n->s₁.gens = #[]->
   fE (aZ l.prog w) kI (.call (.ref fa) ⟨[.ref a],[]⟩) (λr s'=>r=.ok (.ret<|.bool ah)/\OldK s₁.heap s'.heap/\s'.os=s₁.os/\fY s'.gens) s₁) :
  WalkO q loose XP YP l.row.toRowW d [] (λf vs=>mW f vs):=by
 intro w s₀ s₁ mg mb G Y fa o pm cd doc dV kV ho hd hcd hD hmg hg args vals as hpre hlay hrd hwl hlo;obtain rfl:dV=.none:=Dflts.none hD hdf;obtain rfl:kV=.none:=Dflts.noKw hD;obtain⟨a,vs,ns,rfl,rfl,hobj,hints,hlen⟩:=uB hn hpre hwl;refine enter_call<|gF (call w s₀ s₁ mg mb fa o pm cd doc a vs ns G Y ho (fd_plain hd) hcd hmg hobj hints hlen hg) λr s' hq=>?_
 obtain⟨rfl,h2,h3,h4⟩:=hq;exact⟨.inl ⟨.bool ah,.bool ah,[],rfl,λ_=>rfl,.bool ah,qy l _,λ_=>⟨im,λ_ hm=>(nomatch hm)⟩⟩,h2,h3,h4⟩
end Att
namespace L2
open PySem PySem.Spec PyProof.Rows
theorem JA:∀{vs:List aq}{ns:List Int},mM vs ns->Vals (ns.map V.int) vs
 |_,_,.nil=>.nil
 |_,_,.cons n t h=>.cons ⟨t,rfl⟩<|JA h
noncomputable def Xo(s:de):l8:=match s with
 |.FunctionDef _ a _ _ _ _ _ _ _ _=>a
 |_=>{posonlyargs:=[],args:=[],vararg:=ac,kwonlyargs:=[],kw_defaults:=[],kwarg:=ac,defaults:=[]}
noncomputable def ZE(s:de):List de:=match s with
 |.FunctionDef _ _ b _ _ _ _ _ _ _=>b
 |_=>[]
noncomputable def Zg(s:de):c7:=match s with
 |.FunctionDef _ _ _ _ _ _ sc _ _ _=>sc
 |_=>{kind:=.function,names:=[],isGenerator:=ai,isCoroutine:=ai}
noncomputable abbrev E0:XK:=λ_ _ _=>False
structure Fun(K:aj)(x qual:bc)(st:de)(f:aw)(fd:bK):Prop where
 ex:∃(oc:aq)(od:Option aw)(kV doc pm:aq)(an:Option aw)(cdv ct:aq)(osl:Array (Option aq)),
  fd=c6 x qual (Xo st) (ZE st) (Zg st) .none kV doc pm an cdv ct/\K.lookup f=aa ⟨oc,od,.func fd,osl⟩/\gN K cdv qual=ah
 kp:eL K (.ref f)=ah
section
variable{P:bq}{w:bC}{K:aj}{mg:bc->Option aq}{base:bF}
def Fun.binds{x qual:bc}{st:de}{f:aw}{fd:bK}{ps:List bc}(F:Fun K x qual st f fd)
  (h:∀(kV doc pm:aq)(an:Option aw)(cdv ct:aq)(us:List aq),us.length=ps.length->kq (c6 x qual (Xo st) (ZE st) (Zg st) .none kV doc pm an cdv ct) ⟨us,[]⟩=cA (ps.zip us)):Ua K fd ps []:=by
 obtain⟨oc,od,kV,doc,pm,an,cdv,ct,osl,rfl,lk,hcd⟩:=F.ex;exact .all<|h kV doc pm an cdv ct
def Zeb{x qual:bc}{st:de}{f:aw}{oc:aq}{od an:Option aw}{osl:Array (Option aq)}{kV doc pm cdv ct:aq}(l:K.lookup f=aa ⟨oc,od,.func<|c6 x qual (Xo st) (ZE st) (Zg st) .none kV doc pm an cdv ct,osl⟩)
  (c:gN K cdv qual=ah)(k:eL K (.ref f)=ah):Fun K x qual st f (c6 x qual (Xo st) (ZE st) (Zg st) .none kV doc pm an cdv ct):=⟨⟨oc,od,kV,doc,pm,an,cdv,ct,osl,rfl,l,c⟩,k⟩
end
section
variable{κ:Type}[DecidableEq κ]
noncomputable def Uw(kvs:List (κ×V))(k:κ):Option V:=(kvs.find? λkv=>ae<|kv.1=k).map (·.2)
noncomputable def z9(kvs:List (κ×V))(k:κ)(v:V):List (κ×V):=
 if(kvs.any λkv=>ae<|kv.1=k)=ah then kvs.map (λkv=>if kv.1=k then(kv.1,v)else kv)else kvs++[(k,v)]
def QM{p:κ×V}{r:List (κ×V)}{k:κ}(e:p.1=k):Uw (p::r) k=aa p.2:=by simp[Uw,dG,e]
def QC{p:κ×V}{r:List (κ×V)}{k:κ}(e:¬p.1=k):Uw (p::r) k=Uw r k:=by simp[Uw,dG,e]
theorem zB(k:κ):∀kvs:List (κ×V),(kvs.any λkv=>ae<|kv.1=k)=(Uw kvs k).isSome
 |[]=>rfl
 |p::r=>by
  rw[eB];by_cases e:p.1=k
  ·simp only[QM e,T5 e,Bool.true_or,Option.isSome_some]
  ·rw[QC e,T4 e,kT];exact zB k r
def yw(kvs:List (κ×V))(k:κ)(v:V):(z9 kvs k v).length<=kvs.length+1:=by
 unfold z9;split
 ·rw[aF];omega
 ·rw[bn,aP,gn];omega
def Zc6.isSome_eq(r:Zc6 o u):o.isSome=u.isSome:=by
 cases o with
 |none=>cases u with|none=>rfl|some _=>exact(r).elim
 |some _=>cases u with|none=>exact(r).elim|some _=>rfl
def KV.val{kvs:List (κ×V)}{vs:List (κ×aq)}(r:KV kvs vs)(k:κ):Zc6 (Uw kvs k) (lF vs k):=by
 unfold KV at r
 induction r with
 |nil=>exact aA
 |@cons p q ps qs h t ih=>
  obtain⟨h1,h2⟩:=h;by_cases e:p.1=k
  ·have e':=h1.symm.trans e
   have b:lF (q::qs) k=aa q.2:=by simp[lF,dG,e']
   rw[QM e,b];exact h2
  ·have e':¬q.1=k:=λz=>e (h1.trans z)
   have b:lF (q::qs) k=lF qs k:=by simp[lF,dG,e']
   rw[QC e,b];exact ih
theorem KV.any(r:KV kvs vs)(k:κ):(kvs.any λkv=>ae<|kv.1=k)=vs.any λkv=>ae (kv.1=k):=by
 unfold KV at r
 induction r with|nil=>rfl|cons h t ih=>rw[eB,eB,ih,h.1]
def KV.repl(r:KV kvs vs)(k:κ)(ry:Zz y u) :
  KV (kvs.map λkv=>if kv.1=k then(kv.1,y)else kv) (vs.map λkv=>if kv.1=k then(kv.1,u)else kv):=by
 unfold KV at r ⊢
 induction r with
 |nil=>exact .nil
 |@cons p q ps qs h t ih=>
  rw[aU,aU];refine .cons ?_ ih;obtain⟨h1,h2⟩:=h;by_cases e:p.1=k
  ·rw[T9 e,T9<|h1.symm.trans e];exact⟨h1,ry⟩
  ·rw[T8 e,T8 λz=>e<|h1.trans z];exact⟨h1,h2⟩
def KV.put(r:KV kvs vs)(k:κ)(ry:Zz y u):KV (z9 kvs k y) (stored vs k u):=by
 unfold z9 stored;rw[r.any k];by_cases e:(vs.any λkv=>ae<|kv.1=k)=ah
 ·rw[T9 e,T9 e];exact r.repl k ry
 ·rw[T8 e,T8 e];exact Paired.snoc r ⟨rfl,ry⟩
end
def vM(r:Zz (kV k) u):(ZQ P w).is k u=ah:=by
 cases k with|inl i=>obtain⟨t,e⟩:=(r);subst e;exact ym P w i t|inr x=>obtain⟨t,e⟩:=(r);subst e;exact zf P w x t
theorem Ji :∀{ks:List Key}{us:List aq},Vals (ks.map kV) us->ItemsAre (ZQ P w) ks us
 |[],_,r=>by rw[fH]at r;cases r;exact .nil
 |k::ks,_,r=>by
  rw[aU]at r;cases r with|cons h t=>exact .cons (vM h)<|Ji t
abbrev KT(H:Hp):List (List Key×V)->List (List Key×aw×aq)->Prop:=Paired λp q=>p.1=q.1/\H q.2.1=aa (.tup<|p.1.map kV)/\Zz p.2 q.2.2
def KT.val{H:Hp}{kvs:List (List Key×V)}{xs:List (List Key×aw×aq)}(r:KT H kvs xs)(k:List Key):Zc6 (Uw kvs k) ((mX xs k).map (·.2)):=by
 induction r with
 |nil=>exact aA
 |@cons p q ps qs h t ih=>
  obtain⟨h1,_,h2⟩:=h;by_cases e:p.1=k
  ·have e':=h1.symm.trans e
   have b:mX (q::qs) k=aa q.2:=by simp[mX,dG,e']
   rw[QM e,b];exact h2
  ·have e':¬q.1=k:=λz=>e (h1.trans z)
   have b:mX (q::qs) k=mX qs k:=by simp[mX,dG,e']
   rw[QC e,b];exact ih
section
variable{P:bq}{w:bC}{H:Hp}{h:bF}{a:aw}
def Zdj(ok:HOk P w H h)(e:Rd H a u):Ya P w H h a u:=e.ok ok
def Zbe(ok:HOk P w H h)(e:Rd H a (.dK kvs)):kvs.length<=aY/\(a == cM)=ai/\∃vs,KV kvs vs/\h.DictOf (ZQ P w) a vs:=
 Zdj ok e
def Zfw(ok:HOk P w H h)(e:H a=aa (.dK kvs)):kvs.length<=aY/\(a == cM)=ai/\∃vs,KV kvs vs/\h.DictOf (ZQ P w) a vs:=Zbe ok<|.inl e
def JN(ok:HOk P w H h)(e:H a=aa (.tup<|ks.map kV)):(c9<|ZQ P w).is h ks a:=by
 obtain⟨_,its,r,o,h1,h2,n,h3⟩:=(ok a _ e)
 exact⟨o,its.toArray,n,h1,h2,h3,by simpa using Ji r⟩
def Zdk(ok:HOk P w H h)(e:Rd H a (.dT kvs)):kvs.length<=aY/\(a == cM)=ai/\
  ∃xs,KT H kvs xs/\h.DictOfH (c9<|ZQ P w) a xs:=by
 obtain⟨z,y,xs,r,o,es,ep,h1,h2,h3,h4,h5⟩:=(Zdj ok e)
 refine⟨z,y,xs,r,o,es,ep,h1,h2,h3,h4,λx hx=>?_,h5⟩
 have all:∀{l:List (List Key×V)}{m:List (List Key×aw×aq)},KT H l m->∀x∈m,(c9<|ZQ P w).is h x.1 x.2.1:=by
  intro l m q
  induction q with
  |nil=>intro x hx;exact nomatch hx
  |@cons p q ps qs hq t ih=>
   intro x hx;rcases az.mp hx with e|hx
   ·subst e
    exact JN ok (by rw[<-hq.1];exact hq.2.1)
   ·exact ih x hx
 exact all r x hx
end
def DGet(H:Hp)(a:aw)(y:V)(r:Option V):Prop:=
 (∃kvs k,Rd H a (.dK kvs)/\y=kV k/\r=Uw kvs k)\/∃kvs k b,Rd H a (.dT kvs)/\y=.ref b/\H b=aa (.tup<|k.map kV)/\r=Uw kvs k
def DGet.t(e:H a=aa (.dT kvs))(eb:H b=aa (.tup<|k.map kV)):DGet H a (.ref b) (Uw kvs k):=.inr ⟨kvs,k,b,.inl e,rfl,eb,rfl⟩
section
variable{X:Cx}{pq:List (aw×dB)}{σ:St}{H:Hp}{s:au}{a:aw}{y v:V}{u r:aq}{o:Option V}{A:bL}{E:aq->au->Prop}
def Inv.big(I:Inv X pq σ H s):cM<s.heap.objs.size:=by
 have h:=(I.mod.glob.keeps I.bk).lt;exact cc (by decide) h
def Zga{Q:aq->au->Prop}(hu:A.units+1<dh)(I:Inv X pq σ H s)(g:DGet H a y o)(ry:Zz y u)(h:∀s',Inv X pq σ H s'->Q (.bool o.isSome) s') :
  aW (aZ X.prog X.w) A (cg .In u<|.ref a) Q E s:=by
 rcases g with⟨kvs,k,e,ey,l⟩|⟨kvs,k,b,e,ey,eb,l⟩
 ·subst ey
  obtain⟨z,hd,vs,rel,dd⟩:=Zbe I.hok e;refine wpAny_in_of (vM ry) hd dd.mapOf ?_;rw[<-(rel.val k).isSome_eq,<-l];exact h _<|I.tok _
 ·subst ey
  cases(ry)
  obtain⟨z,hd,xs,rel,dd⟩:=Zdk I.hok e;refine wpAny_in_heap (gU hu) (JN I.hok eb) hd dd ?_;have q:=(rel.val k).isSome_eq;rw[lG]at q;rw[<-q,<-l];exact h _<|I.tok _
def Zb4{Q:aq->au->Prop}(hu:A.units+1<dh)(I:Inv X pq σ H s)(g:DGet H a y o)(ry:Zz y u)(h:∀s',Inv X pq σ H s'->Q (.bool<|!o.isSome) s') :
  aW (aZ X.prog X.w) A (cg .NotIn u<|.ref a) Q E s:=by
 rcases g with⟨kvs,k,e,ey,l⟩|⟨kvs,k,b,e,ey,eb,l⟩
 ·subst ey
  obtain⟨z,hd,vs,rel,dd⟩:=Zbe I.hok e;refine wpAny_notIn_of (vM ry) hd dd.mapOf ?_;rw[<-(rel.val k).isSome_eq,<-l];exact h _<|I.tok _
 ·subst ey
  cases(ry)
  obtain⟨z,hd,xs,rel,dd⟩:=Zdk I.hok e;refine wpAny_notIn_heap (gU hu) (JN I.hok eb) hd dd ?_;have q:=(rel.val k).isSome_eq;rw[lG]at q;rw[<-q,<-l];exact h _<|I.tok _
def Zb5(I:Inv X pq σ H s)(mu:Mut (H a))(hs:d5 a s.heap h')(he:∃q,h'.get? a=aa q)(new:Ya X.prog X.w (upd H a ob) h' a ob) :
  Inv X pq σ (upd H a ob) {s with heap:=h',toks:=t' }:=
 I.write mu (.inl rfl) (λb q hb z=>(hs.2 b hb).trans z) he new
def Zec(z:kvs.length<=aY)(hd:(a == cM)=ai)(rel:KV kvs vs)(dd:h'.DictOf (ZQ P w) a vs) :
  Ya P w H' h' a (.dK kvs):=⟨z,hd,vs,rel,dd⟩
end
def jZ(h:bF)(hb:cM<h.objs.size):Ya P w H (h.push {cls:=.type "dict",data:=.dict #[]}) h.objs.size (.dK []):=
 ⟨dL _,beq_eq_false_iff_ne.mpr<|Ne.symm<|bf hb,[],.nil,bF.DictOf.new h⟩
def jG(h:bF)(hb:cM<h.objs.size):Ya P w H (h.push {cls:=.type "dict",data:=.dict #[]}) h.objs.size (.dT []):=
 ⟨dL _,beq_eq_false_iff_ne.mpr<|Ne.symm<|bf hb,[],.nil,_,#[],0,aM _ rfl,⟨rfl,rfl,rfl⟩,rfl,rfl,ku⟩
def ZeV:TE:=λ_ H Q=>∀p,H p=ac->Q (.ref p) (upd H p<|.dT [])
section
variable{X:Cx}{pos:d8}
def Zbi:PE X (.Dict [] [] pos) ZeV:=λpq s σ H Q I h=>
 wpAny_Dict_empty ⟨.ref s.heap.objs.size,_,I.laid (t':=s.toks) (λ_ _ q=>ao _ q) (aB _)<|jG s.heap I.big,rfl,h _<|I.hok.fresh<|aB _⟩
end
def xP:List (TE×TE)->St->Hp->(List (V×V)->Hp->Prop)->Prop
 |[],_,H,Q=>Q [] H
 |(tk,tv)::r,σ,H,Q=>tk σ H λx H1=>tv σ H1 λy H2=>xP r σ H2 λps H3=>Q ((x,y)::ps) H3
abbrev VV:List (V×V)->List (aq×aq)->Prop:=Paired λp q=>Zz p.1 q.1/\Zz p.2 q.2
def PPs(X:Cx)(pos:d8)(keys:List (Option Expr))(values:List Expr)(trs:List (TE×TE)):Prop:=
 ∀(pq:List (aw×dB))(s:au)(σ:St)(H:Hp)(Q:List (V×V)->Hp->Prop),Inv X pq σ H s->xP trs σ H Q->
  aW (aZ X.prog X.w) X.A (evalPairs<|pairTrees keys values X.env pos) (λvs s'=>∃ps H',Inv X pq σ H' s'/\VV ps vs/\Q ps H') X.xe s
def ZbK :PPs X pos [] [] []:=λpq s σ H Q I h=>pairTrees_nil_walk ⟨[],H,I,.nil,h⟩
def jW(hk:PE X k tk)(hv:PE X v tv)(hr:PPs X pos ks vs trs) :
  PPs X pos (aa k::ks) (v::vs) ((tk,tv)::trs):=λpq s σ H Q I h=>
 pairTrees_cons_walk (thn (hk pq s σ H _ I h) λu s1 ⟨x,H1,I1,rx,q1⟩=>thn (hv pq s1 σ H1 _ I1 q1) λw2 s2 ⟨y,H2,I2,ry,q2⟩=>
  thn (hr pq s2 σ H2 _ I2 q2) λws s3 ⟨ps,H3,I3,rel,q3⟩=>⟨(x,y)::ps,H3,I3,.cons ⟨rx,ry⟩ rel,q3⟩)
noncomputable def QB(kvs more:List (Key×V)):List (Key×V):=more.foldl (λacc kv=>z9 acc kv.1 kv.2) kvs
def KV.merge:∀{more:List (Key×V)}{rs:List (Key×aq)}{kvs:List (Key×V)}{vs:List (Key×aq)},KV more rs->KV kvs vs->KV (QB kvs more) (merged vs rs):=by
 intro more rs kvs vs r;unfold KV at r
 induction r generalizing kvs vs with
 |nil=>intro q;exact q
 |@cons p q ps qs h t ih=>
  intro r0;have e:KV (z9 kvs p.1 p.2) (stored vs q.1 q.2):=by
   have:=r0.put p.1 h.2;rw[<-h.1];exact this
  exact ih e
theorem WN:∀(more kvs:List (Key×V)),(QB kvs more).length<=kvs.length+more.length
 |[],kvs=>by show kvs.length<=kvs.length+0;omega
 |p::r,kvs=>by
  have h1:=WN r<|z9 kvs p.1 p.2;have h2:=yw kvs p.1 p.2;show(QB (z9 kvs p.1 p.2) r).length<=_;rw[aP];omega
theorem QA :∀{kvs:List (Key×V)}{ws:List (aq×aq)},VV (kvs.map λkv=>(kV kv.1,kv.2)) ws->∃rs,Carries (ZQ P w) ws rs/\KV kvs rs
 |[],_,r=>by rw[fH]at r;cases r;exact⟨[],aA,.nil⟩
 |p::kvs,_,r=>by
  rw[aU]at r;cases r with
  |@cons a b as bs h t=>
   obtain⟨rs,c,q⟩:=QA t;obtain⟨b1,b2⟩:=b;exact⟨(p.1,b2)::rs,⟨vM h.1,rfl,c⟩,.cons ⟨rfl,h.2⟩ q⟩
def Zf2(trs:List (TE×TE)):TE:=λσ H Q=>∀p,H p=ac->xP trs σ (upd H p<|.dK []) λps H2=>H2 p=aa (.dK [])/\∃kvs:List (Key×V),ps=kvs.map (λkv=>(kV kv.1,kv.2))/\kvs.length<=15/\Q (.ref p) (upd H2 p<|.dK<|QB [] kvs)
def Zcv(h:PPs X pos keys values trs)(hall:keys.all (·.isSome)=ah)(hl:keys.length=values.length)(h0:keys≠[])
  (h15:keys.length<=15):PE X (.Dict keys values pos) (Zf2 trs):=by
 intro pq s σ H Q I q;have hn:=I.hok.fresh<|aB s.heap.objs.size;have I1:=I.laid (h':=s.heap.push {cls:=.type "dict",data:=.dict #[]}) (t':=s.toks) (λ_ _ q=>ao _ q) (aB _)<|jZ s.heap I.big
 refine wpAny_Dict_walk (knd:=ZQ X.prog X.w) hall hl h0 h15<|thn (h pq _ σ _ _ I1<|q _ hn) λws s2 ⟨ps,H2,I2,rel,e,kvs,ep,lk,q2⟩=>?_
 subst ep;obtain⟨rs,c,rk⟩:=QA rel;obtain⟨z,hd,vs0,r0,dd⟩:=Zfw I2.hok e;cases r0;refine⟨rs,c,dd,λh' dd' hs=>⟨.ref s.heap.objs.size,_,?_,rfl,q2⟩⟩
 have hz:(QB [] kvs).length<=aY:=by
  have h1:=WN kvs [];rw[gn]at h1;rw[cR];omega
 have he:∃q,h'.get? s.heap.objs.size=aa q:=let ⟨q,_,_,hq,_⟩:=dd';⟨q,hq⟩;exact Zb5 I2 (by rw[e];exact aA) hs he<|Zec hz hd (rk.merge .nil) dd'
end L2
namespace Ev
open PySem (Str)
inductive D where
 |non|bl (b:Bool)|int (i:Int)|str (x:bc)|tup (xs:List D)|loc (n:Nat)
 deriving Inhabited
mutual
def D.beq:D->D->Bool
 |.non,.non=>ah
 |.bl a,.bl b=>ae (a=b)
 |.int a,.int b=>ae (a=b)
 |.str a,.str b=>ae (a=b)
 |.tup a,.tup b=>D.beqs a b
 |.loc a,.loc b=>ae (a=b)
 |_,_=>ai
def D.beqs:List D->List D->Bool
 |[],[]=>ah
 |x::xs,y::ys=>D.beq x y&&D.beqs xs ys
 |_,_=>ai
end
mutual
theorem D.eq_of_beq:∀{a b:D},D.beq a b=ah->a=b
 |.non,.non,_=>rfl
 |.bl a,.bl b,h=>by rw[T6 h]
 |.int a,.int b,h=>by rw[T6 h]
 |.str a,.str b,h=>by rw[T6 h]
 |.tup a,.tup b,h=>by rw[D.eq_of_beqs h]
 |.loc a,.loc b,h=>by rw[T6 h]
 |.non,.bl _,h|.non,.int _,h|.non,.str _,h|.non,.tup _,h|.non,.loc _,h=>by cases h
 |.bl _,.non,h|.bl _,.int _,h|.bl _,.str _,h|.bl _,.tup _,h|.bl _,.loc _,h=>by cases h
 |.int _,.non,h|.int _,.bl _,h|.int _,.str _,h|.int _,.tup _,h|.int _,.loc _,h=>by cases h
 |.str _,.non,h|.str _,.bl _,h|.str _,.int _,h|.str _,.tup _,h|.str _,.loc _,h=>by cases h
 |.tup _,.non,h|.tup _,.bl _,h|.tup _,.int _,h|.tup _,.str _,h|.tup _,.loc _,h=>by cases h
 |.loc _,.non,h|.loc _,.bl _,h|.loc _,.int _,h|.loc _,.str _,h|.loc _,.tup _,h=>by cases h
theorem D.eq_of_beqs:∀{a b:List D},D.beqs a b=ah->a=b
 |[],[],_=>rfl
 |x::xs,y::ys,h=>by
  have h1:=(aE _ _).mp h;rw[D.eq_of_beq h1.1,D.eq_of_beqs h1.2]
 |[],_::_,h=>by cases h
 |_::_,[],h=>by cases h
end
mutual
theorem D.beq_self:∀a:D,D.beq a a=ah
 |.non=>rfl
 |.bl a=>by exact T5 rfl
 |.int a=>by exact T5 rfl
 |.str a=>by exact T5 rfl
 |.tup a=>by exact D.beqs_self a
 |.loc a=>by exact T5 rfl
theorem D.beqs_self:∀a:List D,D.beqs a a=ah
 |[]=>rfl
 |x::xs=>by unfold D.beqs;rw[D.beq_self x,D.beqs_self xs];rfl
end
instance:DecidableEq D:=λa b=>if h:D.beq a b=ah then isTrue (D.eq_of_beq h)else isFalse λe=>h (by rw[e];exact D.beq_self b)
inductive Ob where
 |lst (xs:List D)|scr (ns:List Int)|dt (kvs:List (List Int×D))|dk (kvs:List (Int×D))|fz (ks:List (List Int))
 deriving DecidableEq
abbrev Zc:=List Ob
abbrev Lc:=List<|Option D
inductive R(α:Type) where
 |ok (a:α) (S:Zc)|ex (c:Nat) (S:Zc)|no
noncomputable def R.bind{α β:Type}(r:R α)(f:α->Zc->R β):R β:=match r with
 |.ok a S=>f a S
 |.ex c S=>.ex c S
 |.no=>.no
noncomputable def R.nox{α:Type}(r:R α):R α:=match r with
 |.ex _ _=>.no
 |r=>r
noncomputable def lim:Nat:=16777216
inductive Bop where|add|sub|mul|fdiv|mod|pow
 deriving DecidableEq
inductive Cop where|eq|ne|lt|le|ge|is|inn|nin
 deriving DecidableEq
inductive Ty where|int|bool|str|tuple|list|dict|cls (c:Nat)
 deriving DecidableEq
inductive Bf where|len|max2|min2|toInt|tuple|list|all|any|sum|sortedR|dictP
 deriving DecidableEq
inductive Mf where|extend
 deriving DecidableEq
mutual
inductive E where
 |c (d:D)|v (i:Nat)
 |tup (es:List E)|lst (es:List E)|dnew
 |bin (op:Bop) (a b:E)|neg (a:E)|not (a:E)|and (a b:E)|or (a b:E)|ite (t a b:E)
 |cmp (op:Cop) (a b:E)|chain (o p:Cop) (a b d:E)
 |ix (a i:E)|sl (a:E) (lo hi:Option E)|rev (a:E)
 |call (f:Nat) (as:List E)|blt (f:Bf) (as:List E)|mt (m:Mf) (o:E) (as:List E)
 |isi (a:E) (ts:List Ty)
 |dput1 (k v:E)
 |comp1 (cap:List Nat) (nl:Nat) (t:List Nat) (it:W) (ifs:List E) (elt:E)
 |refu (w:Bool) (e:E)
inductive W where
 |of (e:E)|rng1 (a:E)|zip (a b:E)|enum (a:E)|dk (e:E)
end
inductive Sm where
 |asg (t:List Nat) (e:E)|par (t:List Nat) (es:List E)|aug (i:Nat) (op:Bop) (e:E)|put (o i e:E)
 |ret (e:E)|ex (e:E)|ite (t:E) (a b:List Sm)|forr (t:List Nat) (it:W) (b:List Sm)|whl (t:E) (b:List Sm)
 |raise (c:Nat) (as:List E)|brk|cnt
 |mov (i j:Nat)
noncomputable def Yd(S:Zc)(n:Nat):Option (List D):=match S[n]? with
 |some (.lst xs)=>aa xs
 |some (.scr ns)=>aa (ns.map .int)
 |_=>ac
noncomputable def Zm(S:Zc)(n:Nat):Option (List D):=match S[n]? with
 |some (.lst xs)=>aa xs
 |_=>ac
noncomputable def Yc(S:Zc):D->Option Bool
 |.non=>aa ai
 |.bl b=>aa b
 |.int i=>aa (ae<|i≠0)
 |.tup xs=>aa (!xs.isEmpty)
 |.loc n=>(Yd S n).map λxs=>!xs.isEmpty
 |_=>ac
noncomputable def b2i(b:Bool):Int:=if b then 1 else 0
noncomputable def eqL(f:D->D->Option Bool):List D->List D->Option Bool
 |[],[]=>aa ah
 |x::xs,y::ys=>match f x y,eqL f xs ys with
  |some a,aa b=>aa (a&&b)
  |_,_=>ac
 |_,_=>aa ai
def nos{α:Type}{P:Prop}{b:α}(h:ac=aa b):P:=by cases h
def nob{P:Prop}(h:ai=ah):P:=by cases h
noncomputable def eqD(S:Zc):Nat->D->D->Option Bool
 |0,_,_=>ac
 |k+1,x,y=>match x with
  |.non=>match y with
   |.non=>aa ah
   |.bl _|.int _|.str _=>aa ai
   |_=>ac
  |.bl a=>match y with
   |.bl b=>aa (ae<|a=b)
   |.int b=>aa (ae<|b2i a=b)
   |.non|.str _=>aa ai
   |_=>ac
  |.int a=>match y with
   |.int b=>aa (ae<|a=b)
   |.bl b=>aa (ae<|a=b2i b)
   |.non|.str _=>aa ai
   |_=>ac
  |.str a=>match y with
   |.str b=>aa (ae<|a=b)
   |.non|.bl _|.int _=>aa ai
   |_=>ac
  |.tup xs=>match y with
   |.tup ys=>eqL (eqD S k) xs ys
   |_=>ac
  |.loc m=>match y with
   |.loc n=>match Zm S m,Zm S n with
    |some xs,aa ys=>if xs.length=ys.length then eqL (eqD S k) xs ys else aa ai
    |_,_=>ac
   |_=>ac
noncomputable def Zo:Nat:=6
noncomputable def inL(S:Zc)(x:D):List D->Option Bool
 |[]=>aa ai
 |y::ys=>match eqD S Zo y x,inL S x ys with
  |some a,aa b=>aa (a||b)
  |_,_=>ac
noncomputable def YD:List D->Option (List Int)
 |[]=>aa []
 |.int i::r=>(YD r).map (i :: ·)
 |_::_=>ac
noncomputable def zc(S:Zc):D->Ty->Option Bool
 |.non,_=>aa ai
 |.bl _,t=>aa (ae<|t=.bool\/t=.int)
 |.int _,t=>aa (ae<|t=.int)
 |.str _,t=>aa (ae<|t=.str)
 |.tup _,t=>aa (ae<|t=.tuple)
 |.loc n,t=>match S[n]? with
  |some (.lst _)=>aa (ae<|t=.list)
  |some (.dt _)=>aa (ae<|t=.dict)
  |some (.dk _)=>aa (ae<|t=.dict)
  |_=>ac
noncomputable def QI(S:Zc)(x:D):List Ty->Option Bool
 |[]=>aa ai
 |t::ts=>match zc S x t with
  |some ah=>aa ah
  |some ai=>QI S x ts
  |none=>ac
noncomputable def ixN(n:Nat)(i:Int):Option Nat:=if 0<=i then(if i<n then aa i.toNat else ac)else if -(n:Int)<=i then aa (i+n).toNat else ac
noncomputable def at'{α:Type}(xs:List α)(i:Int):Option α:=(ixN xs.length i).bind λj=>xs[j]?
noncomputable def sIx(n d:Nat):Option Int->Nat
 |none=>d
 |some i=>if i<0 then(i+n).toNat else nM i.toNat n
noncomputable def cut(xs:List D)(lo hi:Option Int):List D:=(xs.drop<|sIx xs.length 0 lo).take<|sIx xs.length xs.length hi-sIx xs.length 0 lo
noncomputable def fits(i:Int):Bool:=ae<|i.natAbs<2^8000
noncomputable def big:Int:=2^8000
def ZaQ(h:b<1073741824):b<big:=Int.lt_trans h (by decide +kernel)
noncomputable def Yx(op:Bop)(x y:D)(S:Zc):R D:=match op,x,y with
 |.add,.int a,.int b=>.ok (.int<|a+b) S
 |.sub,.int a,.int b=>.ok (.int<|a-b) S
 |.mul,.int a,.int b=>if(fits a&&fits b)=ah then .ok (.int<|a*b) S else .no
 |.fdiv,.int a,.int b=>if 0<b/\b<big then .ok (.int<|a / b) S else .no
 |.mod,.int a,.int b=>if 0<b then .ok (.int<|a%b) S else .no
 |.pow,.int a,.int b=>if 0<=b/\b<=1000/\a.natAbs<2^64 then .ok (.int<|a^b.toNat) S else .no
 |.add,.tup a,.tup b=>if a.length+b.length<=lim then .ok (.tup<|a++b) S else .no
 |.mul,.tup a,.int b=>if 0<=b/\b<1000/\a.length<=1000 then .ok (.tup (ar b.toNat a).flatten) S else .no
 |.mul,.loc m,.int b=>match Zm S m with
  |some a=>if 0<=b/\b<1000/\a.length<=1000 then .ok (.loc S.length) (S++[.lst (ar b.toNat a).flatten])else .no
  |none=>.no
 |.add,.loc m,.loc n=>match Zm S m,Zm S n with
  |some a,aa b=>if a.length+b.length<=lim then .ok (.loc S.length) (S++[.lst<|a++b])else .no
  |_,_=>.no
 |_,_,_=>.no
noncomputable def Jh(op:Bop)(x y:D)(S:Zc):R D:=match x,y with
 |.int _,.int _=>Yx op x y S
 |_,_=>.no
def nok{α:Type}{P:Prop}{z:α}{S:Zc}(h:R.no=.ok z S):P:=by cases h
noncomputable def ob{α:Type}(o:Option α)(S:Zc):R α:=match o with
 |some a=>.ok a S
 |none=>.no
noncomputable def Zbv(S:Zc)(x:D):Option Ob->R Bool
 |some (.lst ys)=>ob (inL S x ys) S
 |some (.fz ks)=>match x with
  |.tup k=>(ob (YD k) S).bind λk S=>.ok (ks.contains k) S
  |_=>.no
 |_=>.no
noncomputable def VH(S:Zc)(x y:D):R Bool:=match y with
 |.tup ys=>ob (inL S x ys) S
 |.loc n=>Zbv S x S[n]?
 |_=>.no
noncomputable def Ut:D->Option (List Int)
 |.tup ks=>YD ks
 |_=>ac
noncomputable def YH:List D->Option (List<|List Int)
 |[]=>aa []
 |x::r=>match Ut x,YH r with
  |some a,aa b=>aa (a::b)
  |_,_=>ac
noncomputable def Wl(r:List Int):D:=.tup<|r.map .int
noncomputable def ltI:List Int->List Int->Bool
 |[],[]=>ai
 |[],_::_=>ah
 |_::_,[]=>ai
 |a::x,b::y=>if a=b then ltI x y else ae (a<b)
noncomputable def VU(x:List Int):List (List Int)->List (List Int)
 |[]=>[x]
 |y::r=>if ltI x y then x::y::r else y::VU x r
noncomputable def Z5:List (List Int)->List (List Int)
 |[]=>[]
 |x::r=>VU x<|Z5 r
noncomputable def ZbT{α:Type}(lt:α->α->Bool)(x:α):List α->List α
 |[]=>[x]
 |y::r=>if lt x y then x::y::r else y::ZbT lt x r
noncomputable def zA{α:Type}(lt:α->α->Bool):List α->List α
 |[]=>[]
 |x::r=>ZbT lt x<|zA lt r
noncomputable def ltP:List (List Int)->List (List Int)->Bool
 |[],[]=>ai
 |[],_::_=>ah
 |_::_,[]=>ai
 |a::x,b::y=>if a=b then ltP x y else ltI a b
noncomputable def ZdB(P:List (List Int)):D:=.tup<|P.map Wl
noncomputable def qU:D->Option (List<|List Int)
 |.tup ks=>YH ks
 |_=>ac
noncomputable def Ge:List D->Option (List<|List<|List Int)
 |[]=>aa []
 |x::r=>match qU x,Ge r with
  |some a,aa b=>aa (a::b)
  |_,_=>ac
noncomputable def YZ(op:Cop)(x y:D)(S:Zc):R D:=match op with
 |.eq=>(ob (eqD S Zo x y) S).bind λb S=>.ok (.bl b) S
 |.ne=>(ob (eqD S Zo x y) S).bind λb S=>.ok (.bl !b) S
 |.lt=>match x,y with
  |.int a,.int b=>.ok (.bl<|ae<|a<b) S
  |_,_=>.no
 |.le=>match x,y with
  |.int a,.int b=>.ok (.bl<|ae<|a<=b) S
  |_,_=>.no
 |.ge=>match x,y with
  |.int a,.int b=>.ok (.bl<|ae<|b<=a) S
  |_,_=>.no
 |.is=>match x,y with
  |_,.non=>.ok (.bl<|ae<|x=.non) S
  |.bl a,.bl b=>.ok (.bl<|ae<|a=b) S
  |_,_=>.no
 |.inn=>(VH S x y).bind λb S=>.ok (.bl b) S
 |.nin=>(VH S x y).bind λb S=>.ok (.bl !b) S
noncomputable def wW(x y:D)(S:Zc):R D:=match x,y with
 |.tup xs,.int i=>ob (at' xs i) S
 |.loc n,.int i=>match Yd S n with
  |some xs=>ob (at' xs i) S
  |none=>.no
 |_,_=>.no
noncomputable def slice(x:D)(lo hi:Option Int)(S:Zc):R D:=match x with
 |.tup xs=>.ok (.tup<|cut xs lo hi) S
 |.loc n=>match Zm S n with
  |some xs=>.ok (.loc S.length) (S++[.lst<|cut xs lo hi])
  |none=>.no
 |_=>.no
noncomputable def yo(x:D)(S:Zc):R D:=match x with
 |.tup xs=>.ok (.tup xs.reverse) S
 |_=>.no
noncomputable def JL(o i v:D)(S:Zc):R Unit:=match o,i with
 |.loc n,.int k=>match S[n]? with
  |some (.lst xs)=>(ob (ixN xs.length k) S).bind λj S=>.ok () (S.set n<|.lst<|xs.set j v)
  |_=>.no
 |_,_=>.no
noncomputable def UY:D->Option Bool
 |.non=>aa ai
 |.bl b=>aa b
 |.int i=>aa (ae<|i≠0)
 |_=>ac
noncomputable def YI:List D->Option (List Bool)
 |[]=>aa []
 |x::xs=>match UY x,YI xs with
  |some b,aa bs=>aa (b::bs)
  |_,_=>ac
noncomputable def Y1:List D->Option (List Int)
 |[]=>aa []
 |.int i::r=>(Y1 r).map (i :: ·)
 |_::_=>ac
noncomputable def Ui(is:List Int):Bool:=ae (is.length<=1000)&&is.all λi=>ae<|-1099511627776<=i/\i<=1099511627776
noncomputable def Y7(rs:List (List Int)):Bool:=ae (rs.length<64)&&decide rs.Nodup&&rs.all λr=>!r.isEmpty
noncomputable def sorted(rev:Bool)(n:Nat)(S:Zc):R D:=(ob (Zm S n) S).bind λxs S=>(ob (YH xs) S).bind λrs S=>
 if Y7 rs=ah then .ok (.loc S.length) (S++[.lst<|(if rev then(Z5 rs).reverse else Z5 rs).map Wl])else .no
noncomputable def twin:List (List<|List Int)->Bool
 |[P,Q]=>ae (P=Q) && !P.isEmpty
 |_=>ai
noncomputable def vQ(ps:List (List<|List Int)):Bool:=(ae (ps.length<64)&&decide ps.Nodup&&(ae (ps.length<=1)||ps.all λP=>!P.isEmpty))||twin ps
noncomputable def V3:D->Option (List Int)
 |.tup [x,y]=>if y=.bl ah then Ut x else ac
 |_=>ac
noncomputable def Xf:List D->Option (List<|List Int)
 |[]=>aa []
 |d::r=>(V3 d).bind λa=>(Xf r).map (a :: ·)
noncomputable def We(ks:List (List Int)):Bool:=ae (ks.length<=lim)&&decide ks.Nodup
noncomputable def Wf(S:Zc):D->Option (List D)
 |.tup xs=>aa xs
 |.loc n=>Yd S n
 |_=>ac
noncomputable def ZO(lo:Int)(n:Nat):List D:=(aR n).map λ(k:Nat)=>.int<|lo+(k:Int)
noncomputable def Uh(i:Int):Bool:=ae<|-(2^62)<=i/\i<2^62
noncomputable def Y9(f:Bf)(as:List D)(S:Zc):R D:=match f,as with
 |.len,[x]=>(ob (Wf S x) S).bind λxs S=>.ok (.int xs.length) S
 |.max2,[.int a,.int b]=>.ok (.int (if b>a then b else a)) S
 |.min2,[.int a,.int b]=>.ok (.int (if b<a then b else a)) S
 |.toInt,[.int a]=>.ok (.int a) S
 |.toInt,[.bl b]=>.ok (.int<|b2i b) S
 |.tuple,[.tup xs]=>.ok (.tup xs) S
 |.tuple,[.loc n]=>(ob (Zm S n) S).bind λxs S=>.ok (.tup xs) S
 |.list,[x]=>(ob (Wf S x) S).bind λxs S=>.ok (.loc S.length) (S++[.lst xs])
 |.all,[.loc n]=>(ob (Zm S n) S).bind λxs S=>(ob (YI xs) S).bind λbs S=>.ok (.bl<|bs.all id) S
 |.any,[x]=>(ob (Wf S x) S).bind λxs S=>(ob (YI xs) S).bind λbs S=>.ok (.bl<|bs.any id) S
 |.sum,[.loc n]=>(ob (Zm S n) S).bind λxs S=>(ob (Y1 xs) S).bind λis S=>if Ui is=ah then .ok (.int is.sum) S else .no
 |.sortedR,[.loc n]=>sorted ah n S
 |.dictP,[.loc n]=>(ob (Zm S n) S).bind λxs S=>(ob (Xf xs) S).bind λks S=>if We ks=ah then .ok (.loc S.length) (S++[.fz ks])else .no
 |_,_=>.no
noncomputable def yA(m:Mf)(o:D)(as:List D)(S:Zc):R D:=match m,o,as with
 |.extend,.loc n,[.loc k]=>if n=k then .no else(ob (Zm S n) S).bind λxs S=>(ob (Zm S k) S).bind λys S=>if xs.length+ys.length<=lim then .ok .non (S.set n<|.lst<|xs++ys)else .no
 |_,_,_=>.no
noncomputable def qF(S:Zc):D->Bool
 |.loc n=>(Zm S n).isSome
 |_=>ai
noncomputable def fill:List Nat->List D->Lc->Option Lc
 |[],[],σ=>aa σ
 |i::t,x::xs,σ=>fill t xs (σ.set i<|aa x)
 |_,_,_=>ac
noncomputable def assign(t:List Nat)(x:D)(S:Zc)(σ:Lc):Option Lc:=match t with
 |[i]=>aa (σ.set i<|aa x)
 |t=>match x with
  |.tup xs=>fill t xs σ
  |.loc n=>match Zm S n with
   |some xs=>fill t xs σ
   |none=>ac
  |_=>ac
inductive Fl where|nx (σ:Lc)|ret (d:D)|brk (σ:Lc)|cnt (σ:Lc)
abbrev Calls:=Nat->List D->Zc->R D
structure Walk where
 items:List D
 kept:List (Nat×List D)
noncomputable def Walk.still(w:Walk)(S:Zc):Bool:=w.kept.all λp=>ae<|S[p.1]?=aa (.lst p.2)
noncomputable def Yi(S:Zc):D->Option Walk
 |.tup xs=>aa ⟨xs,[]⟩
 |.loc n=>match S[n]? with
  |some (.lst xs)=>aa ⟨xs,[(n,xs)]⟩
  |_=>ac
 |_=>ac
noncomputable def Zfq(S:Zc):D->Option Walk
 |.loc n=>match S[n]? with
  |some (.fz ks)=>aa ⟨ks.map Wl,[]⟩
  |_=>ac
 |_=>ac
noncomputable def XU(w:Walk)(body:D->Lc->Zc->R Fl):List D->Lc->Zc->R Fl
 |[],σ,S=>if w.still S then .ok (.nx σ) S else .no
 |x::xs,σ,S=>if w.still S then match body x σ S with
   |.ok (.nx σ') S'=>XU w body xs σ' S'
   |.ok (.cnt σ') S'=>XU w body xs σ' S'
   |.ok (.brk σ') S'=>.ok (.nx σ') S'
   |.ok (.ret d) S'=>.ok (.ret d) S'
   |.ex c S'=>.ex c S'
   |.no=>.no
  else .no
noncomputable def X7(test:Lc->Zc->R Bool)(body:Lc->Zc->R Fl):Nat->Lc->Zc->R Fl
 |0,_,_=>.no
 |n+1,σ,S=>(test σ S).bind λb S=>if b then match body σ S with
   |.ok (.nx σ') S'=>X7 test body n σ' S'
   |.ok (.cnt σ') S'=>X7 test body n σ' S'
   |.ok (.brk σ') S'=>.ok (.nx σ') S'
   |.ok (.ret d) S'=>.ok (.ret d) S'
   |.ex c S'=>.ex c S'
   |.no=>.no
  else .ok (.nx σ) S
noncomputable def Xm(w:Walk)(turn:D->Lc->Zc->R Lc):List D->Lc->Zc->R Lc
 |[],σ,S=>if w.still S then .ok σ S else .no
 |x::xs,σ,S=>if w.still S then(turn x σ S).bind λσ S=>Xm w turn xs σ S else .no
noncomputable def push(n:Nat)(y:D)(S:Zc):R Unit:=match Zm S n with
 |some ys=>if ys.length<lim then .ok () (S.set n<|.lst<|ys++[y])else .no
 |none=>.no
noncomputable def caught(cap:List Nat)(nl:Nat)(σ:Lc):Lc:=ar nl ac++cap.map λi=>(σ[i]?).join
noncomputable def VL:Nat:=1000
noncomputable def Zw(c:Nat):List Bool:=(aR 10).map λj=>ae<|c=j
noncomputable def junk(c:Nat):Zc:=[.lst<|(Zw c).map .bl,.lst<|(Zw c).map λb=>.int<|b2i b]
noncomputable def Y5:List bc:=["row","part","number","heads","not beside","not in","turn","lot","many","note"]
noncomputable def ZcF(w:Bool)(c:Nat):D:=if w then .str (Y5.getD c "")else .int c
noncomputable def JB(w:Bool)(c:Nat):Zc:=if w then junk c++[.lst<|Y5.map .str]else junk c
mutual
noncomputable def ev(C:Calls):E->Lc->Zc->R D
 |.c d,_,S=>.ok d S
 |.v i,σ,S=>ob (σ[i]?).join S
 |.tup es,σ,S=>(evs C es σ S).bind λxs S=>if xs.length<=lim then .ok (.tup xs) S else .no
 |.lst es,σ,S=>(evs C es σ S).bind λxs S=>if xs.length<=lim then .ok (.loc S.length) (S++[.lst xs])else .no
 |.dnew,_,S=>.ok (.loc S.length) (S++[.dt []])
 |.dput1 k v,σ,S=>(ev C k σ S).bind λx S=>(ev C v σ S).bind λy S=>match x with
  |.tup k=>(ob (YD k) S).bind λk S=>.ok (.loc S.length) (S++[.dt [(k,y)]])
  |.int i=>.ok (.loc S.length) (S++[.dk [(i,y)]])
  |_=>.no
 |.bin op a b,σ,S=>(ev C a σ S).bind λx S=>(ev C b σ S).bind λy S=>Yx op x y S
 |.neg a,σ,S=>(ev C a σ S).bind λx S=>match x with
  |.int i=>.ok (.int<|-i) S
  |_=>.no
 |.not a,σ,S=>(ev C a σ S).bind λx S=>(ob (Yc S x) S).bind λb S=>.ok (.bl !b) S
 |.and a b,σ,S=>(ev C a σ S).bind λx S=>match x with
  |.bl c=>if c then ev C b σ S else .ok (.bl ai) S
  |_=>.no
 |.or a b,σ,S=>(ev C a σ S).bind λx S=>match x with
  |.bl c=>if c then .ok (.bl ah) S else ev C b σ S
  |_=>.no
 |.ite t a b,σ,S=>(ev C t σ S).bind λx S=>(ob (Yc S x) S).bind λc S=>if c then ev C a σ S else ev C b σ S
 |.cmp op a b,σ,S=>(ev C a σ S).bind λx S=>(ev C b σ S).bind λy S=>YZ op x y S
 |.chain o p a b d,σ,S=>(ev C a σ S).bind λx S=>(ev C b σ S).bind λy S=>(YZ o x y S).bind λz S=>match z with
  |.bl c=>if c then(ev C d σ S).bind λw S=>YZ p y w S else .ok (.bl ai) S
  |_=>.no
 |.ix a i,σ,S=>(ev C a σ S).bind λx S=>(ev C i σ S).bind λy S=>wW x y S
 |.sl a lo hi,σ,S=>(ev C a σ S).bind λx S=>(evo C lo σ S).bind λl S=>(evo C hi σ S).bind λh S=>slice x l h S
 |.rev a,σ,S=>(ev C a σ S).bind λx S=>yo x S
 |.call f as,σ,S=>(evs C as σ S).bind λxs S=>C f xs S
 |.blt f as,σ,S=>(evs C as σ S).bind λxs S=>Y9 f xs S
 |.mt m o as,σ,S=>(ev C o σ S).bind λx S=>if qF S x=ah then(evs C as σ S).bind λxs S=>yA m x xs S else .no
 |.isi a ts,σ,S=>(ev C a σ S).bind λx S=>(ob (QI S x ts) S).bind λb S=>.ok (.bl b) S
 |.comp1 cap nl t it ifs elt,σ,S=>(evw C it σ S).bind λw S=>
   ((Xm w (λx σ S1=>(ob (assign t x S1 σ) S1).bind λσ S1=>(evt C ifs σ S1).bind λb S1=>if b then(ev C elt σ S1).bind λy S1=>(push S.length y S1).bind λ_ S1=>.ok σ S1 else .ok σ S1) w.items (caught cap nl σ)<|S++[.lst []]).bind
    λ_ S1=>.ok (.loc S.length) S1).nox
 |.refu w e,σ,S=>match ev C e σ S with
  |.ok _ S=>.ok .non S
  |.ex c S=>if 1<=c/\c<=10 then .ok (ZcF w<|c-1) (S++JB w (c-1))else .no
  |.no=>.no
noncomputable def evs(C:Calls):List E->Lc->Zc->R (List D)
 |[],_,S=>.ok [] S
 |e::es,σ,S=>(ev C e σ S).bind λx S=>(evs C es σ S).bind λxs S=>.ok (x::xs) S
noncomputable def evo(C:Calls):Option E->Lc->Zc->R (Option Int)
 |none,_,S=>.ok ac S
 |some e,σ,S=>(ev C e σ S).bind λx S=>match x with
  |.int i=>.ok (aa i) S
  |_=>.no
noncomputable def evt(C:Calls):List E->Lc->Zc->R Bool
 |[],_,S=>.ok ah S
 |e::es,σ,S=>(ev C e σ S).bind λx S=>(ob (Yc S x) S).bind λb S=>if b then evt C es σ S else .ok ai S
noncomputable def evw(C:Calls):W->Lc->Zc->R Walk
 |.rng1 a,σ,S=>(ev C a σ S).bind λx S=>match x with
  |.int i=>if Uh i then .ok ⟨ZO 0 i.toNat,[]⟩ S else .no
  |_=>.no
 |.zip a b,σ,S=>(ev C a σ S).bind λx S=>(ev C b σ S).bind λy S=>match Yi S x,Yi S y with
  |some v,aa w=>.ok ⟨(v.items.zip w.items).map λp=>.tup [p.1,p.2],v.kept++w.kept⟩ S
  |_,_=>.no
 |.enum a,σ,S=>(ev C a σ S).bind λx S=>match Yi S x with
  |some w=>.ok ⟨(ZO 0 w.items.length).zip w.items |>.map λp=>.tup [p.1,p.2],w.kept⟩ S
  |none=>.no
 |.of e,σ,S=>(ev C e σ S).bind λx S=>ob (Yi S x) S
 |.dk e,σ,S=>(ev C e σ S).bind λx S=>ob (Zfq S x) S
end
noncomputable def tst(C:Calls)(e:E)(σ:Lc)(S:Zc):R Bool:=(ev C e σ S).bind λx S=>ob (Yc S x) S
mutual
noncomputable def run(C:Calls):Sm->Lc->Zc->R Fl
 |.asg t e,σ,S=>(ev C e σ S).bind λx S=>(ob (assign t x S σ) S).bind λσ S=>.ok (.nx σ) S
 |.par t es,σ,S=>(evs C es σ S).bind λxs S=>(ob (fill t xs σ) S).bind λσ S=>.ok (.nx σ) S
 |.aug i op e,σ,S=>(ob (σ[i]?).join S).bind λx S=>(ev C e σ S).bind λy S=>(Jh op x y S).bind λz S=>.ok (.nx<|σ.set i<|aa z) S
 |.put o i e,σ,S=>(ev C e σ S).bind λv S=>(ev C o σ S).bind λx S=>(ev C i σ S).bind λy S=>(JL x y v S).bind λ_ S=>.ok (.nx σ) S
 |.ret e,σ,S=>(ev C e σ S).bind λx S=>.ok (.ret x) S
 |.ex e,σ,S=>(ev C e σ S).bind λ_ S=>.ok (.nx σ) S
 |.ite t a b,σ,S=>(tst C t σ S).bind λc S=>if c then runs C a σ S else runs C b σ S
 |.forr t it b,σ,S=>(evw C it σ S).bind λw S=>XU w (λx σ S=>(ob (assign t x S σ) S).bind λσ S=>runs C b σ S) w.items σ S
 |.whl t b,σ,S=>X7 (tst C t) (runs C b) VL σ S
 |.raise c as,σ,S=>(evs C as σ S).bind λ_ S=>.ex c S
 |.brk,σ,S=>.ok (.brk σ) S
 |.cnt,σ,S=>.ok (.cnt σ) S
 |.mov i j,σ,S=>(ev C (.v j) σ S).bind λx S=>(ob (assign [i] x S σ) S).bind λσ S=>.ok (.nx σ) S
noncomputable def runs(C:Calls):List Sm->Lc->Zc->R Fl
 |[],σ,S=>.ok (.nx σ) S
 |s::ss,σ,S=>(run C s σ S).bind λf S=>match f with
  |.nx σ=>runs C ss σ S
  |f=>.ok f S
end
structure Fn where
 ps:Nat
 ns:Nat
 body:List Sm
noncomputable def start(n:Nat)(xs:List D):Lc:=xs.map aa++ar (n-xs.length) ac
noncomputable def Zt(F:List Fn):Nat->Calls
 |0,_,_,_=>.no
 |d+1,f,xs,S=>match F[f]? with
  |some fn=>if xs.length=fn.ps then(runs (Zt F d) fn.body (start fn.ns xs) S).bind λf S=>match f with
    |.ret x=>.ok x S
    |.nx _=>.ok .non S
    |_=>.no
   else .no
  |none=>.no
end Ev
namespace Sd
open PySem PySem.Spec PyProof.Rows L2
open Ev (D Ob Zc Lc R E Sm Calls Walk Fl Fn Bop Cop Ty Bf Mf ev evs evo evt evw tst run runs)
mutual
def Rep(ρ:List aw)(H:Hp):D->V->Prop
 |.non,v=>v=.non
 |.bl b,v=>v=.bl b
 |.int i,v=>v=.int i
 |.str x,v=>v=.str x
 |.tup ds,v=>∃a xs,v=.ref a/\H a=aa (.tup xs)/\Rq ρ H ds xs
 |.loc n,v=>∃a,v=.ref a/\ρ[n]?=aa a
def Rq(ρ:List aw)(H:Hp):List D->List V->Prop
 |[],xs=>xs=[]
 |d::ds,xs=>∃v vs,xs=v::vs/\Rep ρ H d v/\Rq ρ H ds vs
end
structure Fut(ρ:List aw)(H:Hp)(ρ':List aw)(H':Hp):Prop where
 pre:∃t,ρ'=ρ++t
 tup:∀a xs,H a=aa (.tup xs)->H' a=aa (.tup xs)
 frz:∀a o u,H a=aa (.frz o u)->H' a=aa (.frz o u)
def Fut.refl(ρ:List aw)(H:Hp):Fut ρ H ρ H:=⟨⟨[],by simp⟩,λ_ _ h=>h,λ_ _ _ h=>h⟩
def Fut.trans(a:Fut ρ H ρ1 H1)(b:Fut ρ1 H1 ρ2 H2):Fut ρ H ρ2 H2:=
 ⟨by obtain⟨t,e⟩:=a.pre;obtain⟨u,f⟩:=b.pre;exact⟨t++u,by rw[f,e,eE]⟩,λc xs h=>b.tup c xs<|a.tup c xs h,λc o u h=>b.frz c o u<|a.frz c o u h⟩
def Fut.at{ρ ρ':List aw}{H H':Hp}(f:Fut ρ H ρ' H'){n:Nat}{a:aw}(h:ρ[n]?=aa a):ρ'[n]?=aa a:=by
 obtain⟨t,rfl⟩:=f.pre;have hn:=(ay.mp h).1;rw[aO hn];exact h
mutual
theorem Rep.mono{ρ ρ':List aw}{H H':Hp}(f:Fut ρ H ρ' H'):∀{d:D}{v:V},Rep ρ H d v->Rep ρ' H' d v
 |.non,_,h|.bl _,_,h|.int _,_,h|.str _,_,h=>by exact h
 |.tup ds,v,h=>by
  obtain⟨a,xs,e,t,r⟩:=h;exact⟨a,xs,e,f.tup a xs t,Rq.mono f r⟩
 |.loc n,v,h=>by
  obtain⟨a,e,t⟩:=h;exact⟨a,e,f.at t⟩
theorem Rq.mono(f:Fut ρ H ρ' H'):∀{ds:List D}{xs:List V},Rq ρ H ds xs->Rq ρ' H' ds xs
 |[],_,h=>by exact h
 |d::ds,xs,h=>by
  obtain⟨v,vs,e,r,rs⟩:=h;exact⟨v,vs,e,Rep.mono f r,Rq.mono f rs⟩
end
def Rq.nil :Rq ρ H [] []:=by rfl
def Rq.cons{ρ:List aw}{H:Hp}{d:D}{v:V}{ds:List D}{vs:List V}(r:Rep ρ H d v)(rs:Rq ρ H ds vs):Rq ρ H (d::ds) (v::vs):=by
 exact⟨v,vs,rfl,r,rs⟩
theorem Rq.length :∀{ds:List D}{xs:List V},Rq ρ H ds xs->xs.length=ds.length
 |[],_,h=>by rw[h];rfl
 |d::ds,xs,h=>by
  obtain⟨v,vs,rfl,_,rs⟩:=h;rw[aP,aP,Rq.length rs]
theorem Rq.append :∀{ds es:List D}{xs ys:List V},Rq ρ H ds xs->Rq ρ H es ys->Rq ρ H (ds++es) (xs++ys)
 |[],_,_,_,h,r=>by rw[h];exact r
 |d::ds,_,_,_,h,r=>by
  obtain⟨v,vs,rfl,a,rs⟩:=h;exact Rq.cons a<|Rq.append rs r
theorem Rq.take :∀{ds:List D}{xs:List V}(k:Nat),Rq ρ H ds xs->Rq ρ H (ds.take k) (xs.take k)
 |_,_,0,_=>Rq.nil
 |[],_,k+1,h=>by rw[h];exact Rq.nil
 |d::ds,_,k+1,h=>by
  obtain⟨v,vs,rfl,a,rs⟩:=h;exact Rq.cons a<|Rq.take k rs
theorem Rq.drop :∀{ds:List D}{xs:List V}(k:Nat),Rq ρ H ds xs->Rq ρ H (ds.drop k) (xs.drop k)
 |_,_,0,h=>h
 |[],_,k+1,h=>by rw[h];exact Rq.nil
 |d::ds,_,k+1,h=>by
  obtain⟨v,vs,rfl,a,rs⟩:=h;exact Rq.drop k rs
theorem Rq.get :∀{ds:List D}{xs:List V}{i:Nat}{d:D},Rq ρ H ds xs->ds[i]?=aa d->∃v,xs[i]?=aa v/\Rep ρ H d v
 |[],_,_,_,_,e=>by simp at e
 |d::ds,_,0,_,h,e=>by
  obtain⟨v,vs,rfl,a,rs⟩:=h;simp at e;subst e;exact⟨v,rfl,a⟩
 |d::ds,_,i+1,_,h,e=>by
  obtain⟨v,vs,rfl,a,rs⟩:=h;obtain⟨u,q,r⟩:=Rq.get rs (by simpa using e)
  exact⟨u,by simpa using q,r⟩
theorem Rq.set(r:Rep ρ H d v):∀{ds:List D}{xs:List V}(i:Nat),Rq ρ H ds xs->Rq ρ H (ds.set i d) (xs.set i v)
 |[],_,i,h=>by rw[h];exact Rq.nil
 |_::_,_,0,h=>by
  obtain⟨_,_,rfl,_,rs⟩:=h;exact Rq.cons r rs
 |_::_,_,i+1,h=>by
  obtain⟨_,_,rfl,a,rs⟩:=h;exact Rq.cons a<|Rq.set r i rs
theorem Rq.reverse :∀{ds:List D}{xs:List V},Rq ρ H ds xs->Rq ρ H ds.reverse xs.reverse
 |[],_,h=>by rw[h];exact Rq.nil
 |d::ds,_,h=>by
  obtain⟨v,vs,rfl,a,rs⟩:=h;rw[cD,cD];exact Rq.append (Rq.reverse rs)<|Rq.cons a Rq.nil
theorem Rq.rep(h:Rq ρ H ds xs):∀k:Nat,Rq ρ H (ar k ds).flatten (ar k xs).flatten
 |0=>Rq.nil
 |k+1=>by
  rw[bD,bD,bV,bV];exact Rq.append h<|Rq.rep h k
theorem Rq.ints :∀ns:List Int,Rq ρ H (ns.map D.int) (ns.map V.int)
 |[]=>Rq.nil
 |n::ns=>Rq.cons (by rfl)<|Rq.ints ns
def Scr(K:aj)(H:Hp)(a:aw)(ns:List Int):Prop:=
 (∃o,H a=aa (.frz o<|.lst<|ns.map V.int))\/
  ∃(o:dB)(its:Array aq)(n:Nat),K.lookup a=aa o/\o.cls=.type "list"/\o.dict=ac/\o.data=.seq its n/\its.size<=aY/\Vals (ns.map V.int) its.toList
def Scr.sq{K:aj}{H:Hp}{a:aw}{ns:List Int}(h:Scr K H a ns):SqL K H a (ns.map V.int):=by
 rcases h with⟨o,h⟩|h
 ·exact .inl<|.inr ⟨o,h⟩
 ·exact .inr h
def Zfd(ρ:List aw)(H:Hp)(kvs:List (List Int×D))(vs:List (List Key×V)):Prop:=
 Paired (λ(p:List Int×D) (q:List Key×V)=>q.1=p.1.map cI/\Rep ρ H p.2 q.2) kvs vs
def Zfr(ρ:List aw)(H:Hp)(kvs:List (Int×D))(vs:List (Key×V)):Prop:=
 Paired (λ(p:Int×D) (q:Key×V)=>q.1=cI p.1/\Rep ρ H p.2 q.2) kvs vs
def Q4(K:aj)(ρ:List aw)(H:Hp)(a:aw):Ob->Prop
 |.lst ds=>∃xs,H a=aa (.lst xs)/\Rq ρ H ds xs
 |.scr ns=>Scr K H a ns
 |.dt kvs=>∃vs,H a=aa (.dT vs)/\Zfd ρ H kvs vs
 |.dk kvs=>∃vs,H a=aa (.dK vs)/\Zfr ρ H kvs vs
 |.fz ks=>∃o vs,H a=aa (.frz o<|.dT vs)/\vs.map (·.1)=ks.map (·.map cI)
noncomputable def YV:bc:="law.<locals>.<lambda>"
def Tb(H:Hp):Prop:=∀(P:aw)(ps:Array aq),H P=aa (.tbl ps)->ma ps.toList/\∀(pos:d8)(cv:aq),gK pos ps.toList=aa cv->
 ∃(c:aw)(oc:dB)(vs:Array aq)(t:nJ),cv=.ref c/\H c=aa (.frz oc<|.own c)/\oc.data=.fields vs/\vs[1]?=aa (.str YV t)
theorem Tb.upd(h:Tb H)(hp:∀ob u,H p≠aa (.frz ob u))(ho:∀ps,o≠.tbl ps):Tb (upd H p o):=λP ps e=>by
 by_cases z:P=p
 ·subst z;rw[Zr]at e;cases e;exact T7 rfl<|ho ps
 ·rw[Zn z]at e
  obtain⟨a,b⟩:=h P ps e;refine⟨a,λpos cv q=>?_⟩
  obtain⟨c,oc,vs,t,e1,e2,e3⟩:=b pos cv q;exact⟨c,oc,vs,t,e1,by rw[Zn λz=>hp oc (.own c)<|by rw[<-z];exact e2];exact e2,e3⟩
structure St3(K:aj)(ρ:List aw)(S:Zc)(H:Hp):Prop where
 len:ρ.length=S.length
 nd:∀(m n:Nat)(a:aw),ρ[m]?=aa a->ρ[n]?=aa a->m≠n->(∃ns,S[m]?=aa (.scr ns))\/(∃ns,S[n]?=aa (.scr ns))
 ob:∀(n:Nat)(o:Ob)(a:aw),S[n]?=aa o->ρ[n]?=aa a->Q4 K ρ H a o
 tb:Tb H
structure LocR(ρ:List aw)(H:Hp)(l:Lc)(σ:L2.St):Prop where
 len:l.length=σ.length
 val:∀(i:Nat)(d:D),l[i]?=aa (aa d)->∃v,σ[i]?=aa (aa v)/\Rep ρ H d v
theorem LocR.mono(f:Fut ρ H ρ' H')(r:LocR ρ H l σ):LocR ρ' H' l σ:=
 ⟨r.len,λi d e=>let ⟨v,q,h⟩:=r.val i d e;⟨v,q,h.mono f⟩⟩
theorem LocR.set(r:LocR ρ H l σ)(i:Nat)(h:Rep ρ H d v):LocR ρ H (l.set i<|aa d) (σ.set i<|aa v):=
 ⟨by rw[aT,aT];exact r.len,λj e q=>by
  rw[cE]at q ⊢;split at q
  ·rename_i hij
   subst hij;split at q
   ·rename_i hl
    cases q;rw[T9 rfl,T9<|by rw[<-r.len];exact hl]
    exact⟨v,rfl,h⟩
   ·cases q
  ·rename_i hij
   rw[T8 hij];exact r.val j e q⟩
def End{α β:Type}(K:aj)(xw:Nat->Hp->Prop)(rep:List aw->Hp->α->β->Prop)(ρ:List aw)(H:Hp)(Q:β->Hp->Prop):R α->Prop
 |.ok d S=>∀ρ' H' v,Fut ρ H ρ' H'->St3 K ρ' S H'->rep ρ' H' d v->Q v H'
 |.ex c S=>∀ρ' H',Fut ρ H ρ' H'->St3 K ρ' S H'->xw c H'
 |.no=>False
section
variable{K:aj}{xw:Nat->Hp->Prop}{ρ ρ':List aw}{H H':Hp}{α β α' β':Type}{rep:List aw->Hp->α->β->Prop}{rep':List aw->Hp->α'->β'->Prop}
def End.mono{Q:β->Hp->Prop}(f:Fut ρ H ρ' H')(h:End K xw rep ρ H Q r):End K xw rep ρ' H' Q r:=by
 cases r with|ok d S=>exact λρ2 H2 v g st r=>h ρ2 H2 v (f.trans g) st r|ex c S=>exact λρ2 H2 g st=>h ρ2 H2 (f.trans g) st|no=>exact h
theorem End.bind{Q:β'->Hp->Prop}{Q1:β->Hp->Prop}(h:End K xw rep' ρ H Q (r.bind f))
  (k:∀d S ρ1 H1 v,Fut ρ H ρ1 H1->St3 K ρ1 S H1->rep ρ1 H1 d v->End K xw rep' ρ1 H1 Q (f d S)->Q1 v H1):End K xw rep ρ H Q1 r:=by
 cases r with|ok d S=>exact λρ1 H1 v g st r=>k d S ρ1 H1 v g st r<|End.mono g h|ex c S=>exact h|no=>exact h
theorem End.ok{Q:β->Hp->Prop}(h:End K xw rep ρ H Q (.ok a S))(st:St3 K ρ S H)(r:rep ρ H a v):Q v H:=h ρ H v (Fut.refl ρ H) st r
theorem End.ob{Q:β'->Hp->Prop}(h:End K xw rep' ρ H Q ((Ev.ob o S).bind f)):∃a,o=aa a/\End K xw rep' ρ H Q (f a S):=by
 cases o with|none=>exact h.elim|some a=>exact⟨a,rfl,h⟩
def End.ite{c:Prop}[Decidable c]{Q:β->Hp->Prop}(h:End K xw rep ρ H Q (if c then a else b)):(c/\End K xw rep ρ H Q a)\/(¬c/\End K xw rep ρ H Q b):=by
 split at h
 ·exact .inl ⟨‹_›,h⟩
 ·exact .inr ⟨‹_›,h⟩
def End.guard{c:Prop}[Decidable c]{Q:β->Hp->Prop}(h:End K xw rep ρ H Q (if c then a else .no)):c/\End K xw rep ρ H Q a:=by
 rcases h.ite with h|⟨_,h⟩
 ·exact h
 ·exact h.elim
end
abbrev nx:Nat->Hp->Prop:=λ_ _=>False
theorem End.nox{α β:Type}{K:aj}{xw:Nat->Hp->Prop}{ρ:List aw}{H:Hp}{rep:List aw->Hp->α->β->Prop}{Q:β->Hp->Prop}{r:R α}(h:End K xw rep ρ H Q r.nox):End K nx rep ρ H Q r:=by
 cases r with|ok d S=>exact h|ex c S=>exact h.elim|no=>exact h
def Gf(_:List aw)(_:Hp)(a b:Bool):Prop:=a=b
def Zgl(_:List aw)(_:Hp)(a b:Option Int):Prop:=a=b
section
variable(X:Cx)(xw:Nat->Hp->Prop)
def tE(f:Lc->Zc->R D):TE:=λσ H Q=>∃ρ l S,St3 X.K ρ S H/\LocR ρ H l σ/\End X.K xw Rep ρ H Q (f l S)
def tA(f:Lc->Zc->R (List D)):TA:=λσ H Q=>∃ρ l S,St3 X.K ρ S H/\LocR ρ H l σ/\End X.K xw Rq ρ H Q (f l S)
def tB3(f:Lc->Zc->R Bool):TT:=λσ H Q=>∃ρ l S,St3 X.K ρ S H/\LocR ρ H l σ/\End X.K xw Gf ρ H Q (f l S)
def tO(f:Lc->Zc->R (Option Int)):TO:=λσ H Q=>∃ρ l S,St3 X.K ρ S H/\LocR ρ H l σ/\End X.K xw Zgl ρ H Q (f l S)
variable(C:Calls)
def CE(e:Expr)(i:E):Prop:=PE X e<|tE X xw<|ev C i
def CT(e:Expr)(i:E):Prop:=PT X e<|tB3 X xw<|tst C i
def CA(es:List Expr)(is:List E):Prop:=PA X es<|tA X xw<|evs C is
def CO(e:Option Expr)(i:Option E):Prop:=PO X e<|tO X xw<|evo C i
end
def PE.imp(h:PE X e t)(k:∀σ H Q,t' σ H Q->t σ H Q):PE X e t':=λpq s σ H Q I q=>h pq s σ H Q I<|k σ H Q q
def PT.imp(h:PT X e t)(k:∀σ H Q,t' σ H Q->t σ H Q):PT X e t':=λpq s σ H Q I q=>h pq s σ H Q I<|k σ H Q q
def PA.imp(h:PA X e t)(k:∀σ H Q,t' σ H Q->t σ H Q):PA X e t':=λpos pq s σ H Q I q=>h pos pq s σ H Q I<|k σ H Q q
def PO.imp(h:PO X e t)(k:∀σ H Q,t' σ H Q->t σ H Q):PO X e t':=λpq s σ H Q I q=>h pq s σ H Q I<|k σ H Q q
section
variable{K:aj}{ρ ρ':List aw}{S:Zc}{H H':Hp}{a p:aw}{n:Nat}
def St3.at(st:St3 K ρ S H)(h:S[n]?=aa o):∃a,ρ[n]?=aa a/\Q4 K ρ H a o:=by
 have hn:=(ay.mp h).1;have hr:n<ρ.length:=by rw[st.len];exact hn
 exact⟨ρ[n],ag hr,st.ob n o _ h<|ag hr⟩
theorem Paired.map2{α β:Type}{F G:α->β->Prop}:∀{l₁:List α}{l₂:List β},Paired F l₁ l₂->(∀a b,F a b->G a b)->Paired G l₁ l₂
 |_,_,.nil,_=>.nil
 |_,_,.cons r t,f=>.cons (f _ _ r)<|Paired.map2 t f
def Q4.keep(f:Fut ρ H ρ' H')(k:∀u,H a=aa u->H' a=aa u)(h:Q4 K ρ H a o):Q4 K ρ' H' a o:=by
 cases o with
 |lst ds=>obtain⟨xs,e,r⟩:=h;exact⟨xs,k _ e,r.mono f⟩
 |scr ns=>
  rcases h with⟨o,e⟩|h
  ·exact .inl ⟨o,k _ e⟩
  ·exact .inr h
 |dt kvs=>obtain⟨vs,e,r⟩:=h;exact⟨vs,k _ e,Paired.map2 r λp q z=>⟨z.1,z.2.mono f⟩⟩
 |dk kvs=>obtain⟨vs,e,r⟩:=h;exact⟨vs,k _ e,Paired.map2 r λp q z=>⟨z.1,z.2.mono f⟩⟩
 |fz ks=>obtain⟨o,vs,e,r⟩:=h;exact⟨o,vs,k _ e,r⟩
def ZR(hp:H p=ac):Fut ρ H ρ (upd H p o):=⟨⟨[],by simp⟩,λb xs h=>by rw[Zn<|ZB h hp];exact h,λb o u h=>by rw[Zn<|ZB h hp];exact h⟩
def YQ(hp:H p=ac):Fut ρ H (ρ++[p]) (upd H p o):=⟨⟨[p],rfl⟩,λb xs h=>by rw[Zn<|ZB h hp];exact h,λb o u h=>by rw[Zn<|ZB h hp];exact h⟩
def St3.fresh(st:St3 K ρ S H)(hp:H p=ac)(ho:∀ps,o≠.tbl ps:=by intro _ z;cases z):St3 K ρ S (upd H p o):=
 ⟨st.len,st.nd,λn ob a h1 h2=>(st.ob n ob a h1 h2).keep (ZR hp) λu e=>by rw[Zn<|ZB e hp];exact e,st.tb.upd (λob u z=>by rw[hp]at z;cases z) ho⟩
def St3.new(st:St3 K ρ S H)(hp:H p=ac)(r:Q4 K (ρ++[p]) (upd H p ho) p o)(ht:∀ps,ho≠.tbl ps:=by intro _ z;cases z):St3 K (ρ++[p]) (S++[o]) (upd H p ho):=by
 have old:∀(m:Nat),(ρ++[p])[m]?=aa p->m≠S.length->∃ns,S[m]?=aa (.scr ns):=λm e hm=>by
  have hml:m<S.length:=by
   have:=(ay.mp e).1;rw[bn,st.len,cK]at this;omega
  rw[aO<|by rw[st.len];exact hml]at e
  have q:=st.ob m S[m] p (ag hml) e;rw[ag hml];generalize S[m]=ob at q;cases ob with|lst ds=>obtain⟨xs,z,_⟩:=q;rw[hp]at z;cases z|scr ns=>exact⟨ns,rfl⟩|dt kvs=>obtain⟨xs,z,_⟩:=q;rw[hp]at z;cases z|dk kvs=>obtain⟨xs,z,_⟩:=q;rw[hp]at z;cases z|fz ks=>obtain⟨o,xs,z,_⟩:=q;rw[hp]at z;cases z
 have lenE:(S++[o])[S.length]?=aa o:=by simp
 have up:∀{m:Nat}{ns:List Int},S[m]?=aa (.scr ns)->(S++[o])[m]?=aa (.scr ns):=λ{m ns} e=>by
  rw[aO (ay.mp e).1];exact e
 refine⟨by rw[bn,bn,st.len];rfl,λm n a h1 h2 ne=>?_,λn ob a h1 h2=>?_,st.tb.upd (λob u z=>by rw[hp]at z;cases z) ht⟩
 ·by_cases hm:m=S.length
  ·have ha:a=p:=by
    rw[hm,<-st.len,bj<|aB _]at h1
    simpa using h1.symm
   rw[ha]at h2;obtain⟨ns,e⟩:=old n h2 (by omega)
   exact .inr ⟨ns,up e⟩
  ·by_cases hn:n=S.length
   ·have ha:a=p:=by
     rw[hn,<-st.len,bj<|aB _]at h2
     simpa using h2.symm
    rw[ha]at h1;obtain⟨ns,e⟩:=old m h1 hm;exact .inl ⟨ns,up e⟩
   ·have lt:∀{k:Nat},(ρ++[p])[k]?=aa a->k≠S.length->ρ[k]?=aa a:=λ{k} e hk=>by
     have:=(ay.mp e).1;rw[bn,st.len,cK]at this;rw[aO<|by rw[st.len];omega]at e
     exact e
    rcases st.nd m n a (lt h1 hm) (lt h2 hn) ne with⟨ns,e⟩|⟨ns,e⟩
    ·exact .inl ⟨ns,up e⟩
    ·exact .inr ⟨ns,up e⟩
 ·by_cases hn:n=S.length
  ·subst hn
   rw[lenE]at h1;cases h1;have ha:a=p:=by
    rw[<-st.len,bj<|aB _]at h2
    simpa using h2.symm
   subst ha;exact r
  ·have hl:n<S.length:=by
    have:=(ay.mp h1).1;rw[bn,cK]at this;omega
   rw[aO hl]at h1;rw[aO<|by rw[st.len];exact hl]at h2
   exact(st.ob n ob a h1 h2).keep (YQ hp) λu e=>by rw[Zn<|ZB e hp];exact e
def Xp(h:H a=aa (.lst xs)):Fut ρ H ρ (upd H a<|.lst ys):=⟨⟨[],by simp⟩,λb zs e=>by
 rw[Zn<|by intro z;rw[z,h]at e;cases e];exact e,λb o u e=>by
 rw[Zn<|by intro z;rw[z,h]at e;cases e];exact e⟩
def St3.wr(st:St3 K ρ S H)(hr:ρ[n]?=aa a)(hS:S[n]?=aa (.lst ds))(h:H a=aa (.lst xs))(r:Rq ρ H es ys):St3 K ρ (S.set n<|.lst es) (upd H a<|.lst ys):=by
 have f:=Xp (ρ:=ρ) (ys:=ys) h;refine⟨by rw[aT];exact st.len,λm k b h1 h2 ne=>?_,λm ob b h1 h2=>?_,st.tb.upd (λob u z=>by rw[h]at z;cases z) λps z=>by cases z⟩
 ·have keep:∀{j:Nat}{ns:List Int},S[j]?=aa (.scr ns)->(S.set n<|.lst es)[j]?=aa (.scr ns):=λ{j ns} e=>by
   rw[cE];split
   ·rename_i z;rw[<-z,hS]at e;cases e
   ·exact e
  rcases st.nd m k b h1 h2 ne with⟨ns,e⟩|⟨ns,e⟩
  ·exact .inl ⟨ns,keep e⟩
  ·exact .inr ⟨ns,keep e⟩
 ·by_cases hm:n=m
  ·subst hm
   rw[hr]at h2;cases h2;rw[cE,T9 rfl]at h1;split at h1
   ·cases h1
    exact⟨ys,Zr,r.mono f⟩
   ·cases h1
  ·rw[cE,T8 hm]at h1
   have q:=st.ob m ob b h1 h2;by_cases hb:b=a
   ·subst hb
    rcases st.nd n m b hr h2 hm with⟨ns,e⟩|⟨ns,e⟩
    ·rw[hS]at e;cases e
    ·rw[h1]at e
     cases e;rcases q with⟨o,e⟩|q
     ·rw[h]at e;cases e
     ·exact .inr q
   ·exact q.keep f λu e=>by rw[Zn hb];exact e
theorem St3.lst(st:St3 K ρ S H){ds:List D}(h:Ev.Zm S n=aa ds):S[n]?=aa (.lst ds)/\∃a xs,ρ[n]?=aa a/\H a=aa (.lst xs)/\Rq ρ H ds xs:=by
 unfold Ev.Zm at h;split at h
 ·rename_i zs e
  cases h;obtain⟨a,hr,xs,e2,r⟩:=st.at e;exact⟨e,a,xs,hr,e2,r⟩
 ·cases h
def St3.seq(st:St3 K ρ S H)(h:Ev.Yd S n=aa ds):∃a xs,ρ[n]?=aa a/\SqL K H a xs/\Rq ρ H ds xs:=by
 unfold Ev.Yd at h;split at h
 ·rename_i zs e
  cases h;obtain⟨a,hr,xs,e2,r⟩:=st.at e;exact⟨a,xs,hr,SqL.of e2,r⟩
 ·rename_i ns e
  cases h;obtain⟨a,hr,q⟩:=st.at e;exact⟨a,_,hr,Scr.sq q,Rq.ints ns⟩
 ·cases h
end
section
variable{ρ:List aw}{H:Hp}{v:V}
def Rep.int'(h:Rep ρ H (.int i) v):v=.int i:=by exact h
def Rep.bl'(h:Rep ρ H (.bl b) v):v=.bl b:=by exact h
def Rep.non'(h:Rep ρ H .non v):v=.non:=by exact h
def Rep.str'(h:Rep ρ H (.str x) v):v=.str x:=by exact h
def Rep.tup'(h:Rep ρ H (.tup ds) v):∃a xs,v=.ref a/\H a=aa (.tup xs)/\Rq ρ H ds xs:=by exact h
def Rep.loc'(h:Rep ρ H (.loc n) v):∃a,v=.ref a/\ρ[n]?=aa a:=by exact h
def Zq(i:Int):Rep ρ H (.int i) (.int i):=by rfl
def ZC(b:Bool):Rep ρ H (.bl b) (.bl b):=by rfl
def YT:Rep ρ H .non .non:=by rfl
def VI(x:bc):Rep ρ H (.str x) (.str x):=by rfl
def ZU(h:H a=aa (.tup xs))(r:Rq ρ H ds xs):Rep ρ H (.tup ds) (.ref a):=by exact⟨a,xs,rfl,h,r⟩
def Wa(h:ρ[n]?=aa a):Rep ρ H (.loc n) (.ref a):=by exact⟨a,rfl,h⟩
end
def W4:Ev.lim=aY:=by rw[cR];rfl
section
variable{K:aj}{xw:Nat->Hp->Prop}{ρ:List aw}{H:Hp}{S:Zc}{Q:VK}
def End.newT(h:End K xw Rep ρ H Q (.ok (.tup ds) S))(st:St3 K ρ S H)(r:Rq ρ H ds xs):∀p,H p=ac->Q (.ref p) (upd H p<|.tup xs):=λp hp=>
 h ρ _ _ (ZR hp) (st.fresh hp) (ZU Zr<|r.mono<|ZR hp)
def End.newL(h:End K xw Rep ρ H Q (.ok (.loc S.length)<|S++[.lst ds]))(st:St3 K ρ S H)(r:Rq ρ H ds xs):∀p,H p=ac->Q (.ref p) (upd H p<|.lst xs):=λp hp=>
 h (ρ++[p]) _ _ (YQ hp) (st.new hp ⟨xs,Zr,r.mono<|YQ hp⟩) (Wa<|by rw[<-st.len];simp)
end
section
variable{X:Cx}{xw:Nat->Hp->Prop}{C:Calls}{e a b c:Expr}{i j k:E}{pos:d8}
def yB{n:Int}{q}:CE X xw C (.Constant (.int n) q pos) (.c<|.int n):=PE.imp J4 λσ H Q ⟨ρ,l,S,st,lr,h⟩=>End.ok h st<|Zq n
def jf{n:Bool}{q}:CE X xw C (.Constant (.bool n) q pos) (.c<|.bl n):=PE.imp vn λσ H Q ⟨ρ,l,S,st,lr,h⟩=>End.ok h st<|ZC n
def yz{q}:CE X xw C (.Constant .none q pos) (.c .non):=PE.imp xI λσ H Q ⟨ρ,l,S,st,lr,h⟩=>End.ok h st YT
def xJ{x:bc}{q}:CE X xw C (.Constant (.str x) q pos) (.c<|.str x):=PE.imp Gw λσ H Q ⟨ρ,l,S,st,lr,h⟩=>End.ok h st<|VI x
def Zd1(n:Nat){x:bc}(hN:X.N[n]?=aa x:=by rfl)(hv:Vis X.env.scope x:=by first|exact lh rfl|exact iA<|lh rfl|exact iA<|iA rfl)(hd:(x == ("__debug__" : bc))=ai:=by decide)
  (hcd:(x == ("__classdict__" : bc))=ai:=by decide):CE X xw C (.Name x pos) (.v n):=PE.imp (Y6 hN hv hd hcd) λσ H Q ⟨ρ,l,S,st,lr,h⟩=>by
 rw[ev]at h;cases q:l[n]? with
 |none=>rw[q]at h;exact h.elim
 |some o=>
  cases o with
  |none=>rw[q]at h;exact h.elim
  |some d=>
   rw[q]at h;obtain⟨v,q2,r⟩:=lr.val n d q;exact⟨v,q2,End.ok h st r⟩
def xB:CA X xw C [] []:=PA.imp Yt λσ H Q ⟨ρ,l,S,st,lr,h⟩=>by
 rw[evs]at h;exact End.ok h st Rq.nil
def GM{es:List Expr}{is:List E}(ha:CE X xw C e i)(hr:CA X xw C es is)(hs:aC (e::es) X.env=(ai,cb e X.env)::aC es X.env:=by rfl):CA X xw C (e::es) (i::is):=
 PA.imp (ZF ha hr hs) λσ H Q ⟨ρ,l,S,st,lr,h⟩=>by
  rw[evs]at h;exact⟨ρ,l,S,st,lr,h.bind λx S1 ρ1 H1 v f1 st1 r1 h1=>⟨ρ1,l,S1,st1,lr.mono f1,h1.bind λxs S2 ρ2 H2 vs f2 st2 r2 h2=>h2.ok st2<|Rq.cons (r1.mono f2) r2⟩⟩
def yG{es:List Expr}{is:List E}{q}(h:CA X xw C es is):CE X xw C (.Tuple es q pos) (.tup is):=PE.imp (Zax h) λσ H Q ⟨ρ,l,S,st,lr,h⟩=>by
 rw[ev]at h;refine⟨ρ,l,S,st,lr,h.bind λxs S1 ρ1 H1 vs f1 st1 r1 h1=>?_⟩
 obtain⟨hl,h1⟩:=h1.guard;exact⟨by rw[r1.length,<-W4];exact hl,h1.newT st1 r1⟩
def we{es:List Expr}{is:List E}(h:CA X xw C es is):CE X xw C (.List es pos) (.lst is):=PE.imp (Qf h) λσ H Q ⟨ρ,l,S,st,lr,h⟩=>by
 rw[ev]at h;refine⟨ρ,l,S,st,lr,h.bind λxs S1 ρ1 H1 vs f1 st1 r1 h1=>?_⟩
 obtain⟨hl,h1⟩:=h1.guard;exact⟨by rw[r1.length,<-W4];exact hl,h1.newL st1 r1⟩
def Wv{r:R2}{g:D->D->Zc->R D}(hg:∀{ρ H S x y v u Q},St3 X.K ρ S H->Rep ρ H x v->Rep ρ H y u->End X.K xw Rep ρ H Q (g x y S)->r v u H Q) :
  ∀σ H Q,tE X xw (λl S=>(ev C i l S).bind λx S=>(ev C j l S).bind λy S=>g x y S) σ H Q->tOp r (tE X xw<|ev C i) (tE X xw<|ev C j) σ H Q:=λσ H Q ⟨ρ,l,S,st,lr,h⟩=>
 ⟨ρ,l,S,st,lr,h.bind λx S1 ρ1 H1 v f1 st1 r1 h1=>⟨ρ1,l,S1,st1,lr.mono f1,h1.bind λy S2 ρ2 H2 u f2 st2 r2 h2=>hg st2 (r1.mono f2) r2 h2⟩⟩
end
section
variable{X:Cx}
def Zap(K:aj):R2:=λx y H Q=>∃a b ys,x=.ref a/\y=.ref b/\SqT K H a []/\SqT K H b ys/\Q (.ref b) H
def Zae:OpR X (dJ .Add) (Zap X.K):=by
 intro pq s σ H x y v u Q I rx ry h;obtain⟨a,b,ys,rfl,rfl,ha,hb,q⟩:=h;cases rx;cases ry;obtain⟨its,r1,p1,_⟩:=I.tuple ha;obtain⟨its2,r2,p2,_⟩:=I.tuple hb;have e0:=r1.nil_iff.mpr rfl;obtain⟨⟨cls,dd,data,sl⟩,ho,hc,n,hd⟩:=id p1;obtain⟨⟨cls2,dd2,data2,sl2⟩,ho2,hc2,n2,hd2⟩:=id p2;simp only at hc hd hc2 hd2;subst hc hd hc2 hd2;exact lD ⟨_,ho,rfl⟩ ⟨_,ho2,rfl⟩ iI kQ fG fA (fc _ _)
   (tuple_addW0 a b its.toArray its2.toArray n n2 dd dd2 sl sl2<|by rw[e0];rfl) ⟨ho,ho2,⟨.ref b,H,I,rfl,q⟩⟩
def Zgk(K:aj):V->Option Int->Option Int->Hp->VK->Prop:=λx lo hi H Q=>∃a xs,x=.ref a/\SqT K H a xs/\
 (HT.sIx xs.length 0 lo=0/\HT.sIx xs.length xs.length hi=xs.length)/\Q (.ref a) H
def WL{prog:bq}{w:bC}{A:bL}{E:aq->au->Prop}{s:au}{t sl:aw}{items:Array aq}{vl vu:aq}{lo hi:Option Int}{Q:aq->au->Prop}(ht:lx s.heap t items)(hs:s.heap.IsSliceOf sl vl vu .none)(pl:gP vl lo)(pu:gP vu hi)
  (hw:HT.sIx items.size 0 lo=0/\HT.sIx items.size items.size hi=items.size)(h:Q (.ref t) s):aW (aZ prog w) A (ib (.ref t)<|.ref sl) Q E s:=by
 obtain⟨os,hos,hcs,hds⟩:=id hs;have hTs:s.TypeIs (.ref sl) "slice":=⟨os,hos,hcs⟩;unfold ib
 try with_reducible refine bO ?_
 first|refine af<|ax ?_|skip
 refine af<|ig ht.typeIs (by decide) ?_
 refine af (bU ht.typeIs bR
  (cz bR ht.typeIs gB ?_<|gS _ _))
 show aW _ _ (eM (.ref t) >>= _) _ _ s;refine af<|kR ht ?_;refine af<|eU hTs ?_;rw[T9<|by decide]
 refine af<|HT.XX hs pl pu ?_;have hyes:((((HT.sIx items.size 0 lo:Nat):Int) == 0&&(1:Int) == 1&&(HT.sIx items.size items.size hi-HT.sIx items.size 0 lo) == items.size)=ah):=by
  rw[hw.1,hw.2];simp
 show aW _ _ (if(((HT.sIx items.size 0 lo:Nat):Int) == 0&&(1:Int) == 1&&(HT.sIx items.size items.size hi-HT.sIx items.size 0 lo) == items.size)=ah then _ else _) _ _ s
 rw[T9 hyes];refine af<|af<|eU ht.typeIs<|ax ?_;rw[T9<|by decide]
 exact af<|fu<|ax ⟨_,rfl,ax h⟩
def Zbf:SlR X (Zgk X.K):=by
 intro pq s σ H x v vl vu lo hi sl Q I rx hs pl pu h;obtain⟨a,xs,rfl,hx,hw,q⟩:=h;cases rx;obtain⟨its,r,ht,hz⟩:=I.tuple hx;have hlen:its.toArray.size=xs.length:=by rw[aD];exact r.length.symm
 refine⟨"tuple",_,bR.lookup,ht.typeIs,?_⟩;exact WL ht hs pl pu (by rw[hlen];exact hw) ⟨.ref a,H,I,rfl,q⟩
def v9(h:Ev.fits i=ah):kK i<=2^20:=by
 have h1:=T6 h;unfold kK;split
 ·exact dL _
 ·rename_i hz
  have hne:i.natAbs≠0:=by intro z;exact hz (by simp[Int.natAbs_eq_zero.mp z])
  have:=(Nat.log2_lt hne).mpr h1;have e:(2:Nat)^20=1048576:=by decide
  omega
def qM:OpR X (dJ .FloorDiv) (rI (λ_ j=>0<j/\j<Ev.big) λi j=>.int<|i / j):=opI λi j _ _ _ _ _ hc q=>by
 have h1:=hc.1;have h2:=hc.2;have hne:j.natAbs≠0:=by omega
 have h3:j.natAbs<2^8000:=by
  have e:(j.natAbs:Int)=j:=Int.natAbs_of_nonneg (by omega)
  have h4:(j.natAbs:Int)<((2^8000:Nat):Int):=by rw[e,Int.natCast_pow];exact h2
  exact Int.ofNat_lt.mp h4
 have h5:=(Nat.log2_lt hne).mpr h3;exact floordiv_int (by omega) (by rw[Int.fdiv_eq_ediv_of_nonneg i<|by omega];exact q)<|.inl<|PyProof.noPylong_of_log2<|by omega
def Zc4:OpR X (dJ .Mult) (rI (λi j=>Ev.fits i=ah/\Ev.fits j=ah) λi j=>.int<|i*j):=opI λ_ _ _ _ _ _ _ hc q=>mul_int q<|IntMulOk.of_bits (v9 hc.1)<|v9 hc.2
def Zen:OpR X (cg .Is) (λx y H Q=>∃a b,x=.bl a/\y=.bl b/\Q (.bl<|ae<|a=b) H):=by
 intro pq s σ H x y v u Q I rx ry h;obtain⟨a,b,rfl,rfl,q⟩:=h;cases rx;cases ry;cases a<;>cases b<;>exact ax ⟨.bl _,H,I,rfl,q⟩
end
end Sd
namespace Sd
open PySem PySem.Spec PyProof.Rows L2
def QO:fillsNumberSlot (.type "tuple") "mul" = cA ai:=
 PySem.fillsNumberSlot_seq iK.lookup (by decide +kernel) F.slot_tuple_rmul.lookup (by decide +kernel)
def G0:seqRepeat? (.type "tuple")=cA (aa<|.builtin "tuple.__mul__"):=by
 unfold seqRepeat?
 rw[md (name:="__mul__") iK.lookup<|by decide +kernel,md (name:="__rmul__") F.slot_tuple_rmul.lookup<|by decide +kernel]
 rfl
def QK(a:Int)(t:nJ)(l:aw)(items:Array aq)(n:Nat)(dd:Option aw)(sl:Array (Option aq)) :
  nL (eF.«int.__rmul__» ⟨[.int a t,.ref l],[]⟩) (λ_ R s=>s.heap.get? l=aa {cls:=.type "tuple",dict:=dd,data:=.seq items n,slots:=sl}/\R (.ok<|.ret aq.notImplemented) s):=
 .of_wp λprog w A R s h=>by obtain⟨hp,g,d,tk,os⟩:=s;obtain⟨hl,h⟩:=h;wp_walk;exact⟨_,rfl,h⟩
def GX(l:aw)(items:Array aq)(n:Nat)(dd:Option aw)(sl:Array (Option aq))(x:Int)(u:nJ)(h0:¬(x < -(2^63)||x>=2^63)=ah)(hc:(items.isEmpty||x == 1)=ah) :
  nL (eF.«tuple.__mul__» ⟨[.ref l,.int x u],[]⟩) (λ_ R s=>s.heap.get? l=aa {cls:=.type "tuple",dict:=dd,data:=.seq items n,slots:=sl}/\R (.ok<|.ret<|cF l) {s with heap:=s.heap,toks:=s.toks}):=
 .of_wp λprog w A R s h=>by obtain⟨hp,g,d,tk,os⟩:=s;obtain⟨hl,h⟩:=h;have f1:=iJ;have f2:=fg;wp_walk;rw[T8 h0];wp_walk using cO hl;exact⟨_,rfl,h⟩
def Gx(l:aw)(items:Array aq)(n:Nat)(dd:Option aw)(sl:Array (Option aq))(x:Int)(u:nJ)(h0:¬(x < -(2^63)||x>=2^63)=ah)(hc:¬(items.isEmpty||x == 1)=ah)(h1:(x<=0||items.isEmpty)=ah) :
  nL (eF.«tuple.__mul__» ⟨[.ref l,.int x u],[]⟩) (λ_ R s=>s.heap.get? l=aa {cls:=.type "tuple",dict:=dd,data:=.seq items n,slots:=sl}/\R (.ok<|.ret<|cF s.heap.objs.size) {s with heap:=s.heap.push {cls:=.type "tuple",data:=.seq #[]},toks:=s.toks}):=
 .of_wp λprog w A R s h=>by obtain⟨hp,g,d,tk,os⟩:=s;obtain⟨hl,h⟩:=h;have f1:=iJ;have f2:=fg;wp_walk;rw[T8 h0];wp_walk using cO hl;exact⟨_,rfl,h⟩
def zW(l:aw)(items:Array aq)(n:Nat)(dd:Option aw)(sl:Array (Option aq))(x:Int)(u:nJ)(h0:¬(x < -(2^63)||x>=2^63)=ah)(hc:¬(items.isEmpty||x == 1)=ah)(h1:¬(x<=0||items.isEmpty)=ah)
  (h2:¬(items.size*x>(2^63-1) / 8))(h3:¬gV (items.size*x)=ah)(hsz:((ar x.toNat items).foldl (·++·) #[]).size<=aY) :
  nL (eF.«tuple.__mul__» ⟨[.ref l,.int x u],[]⟩) (λ_ R s=>s.heap.get? l=aa {cls:=.type "tuple",dict:=dd,data:=.seq items n,slots:=sl}/\R (.ok<|.ret<|cF s.heap.objs.size) {s with heap:=s.heap.push {cls:=.type "tuple",data:=.seq ((ar x.toNat items).foldl (·++·) #[])},toks:=s.toks}):=
 .of_wp λprog w A R s h=>by obtain⟨hp,g,d,tk,os⟩:=s;obtain⟨hl,h⟩:=h;have f1:=iJ;have f2:=fg;wp_walk;rw[T8 h0];wp_walk using cO hl;rw[T8 h2];wp_walk using cO hl;exact⟨_,rfl,h⟩
def Zds(K:aj):R2:=λx y H Q=>∃a k xs,x=.ref a/\y=.int k/\SqT K H a xs/\(0<=k/\k<1000/\xs.length<=1000)/\
 ((xs=[]\/k=1)->Q (.ref a) H)/\(¬(xs=[]\/k=1)->∀p,H p=ac->Q (.ref p) (upd H p<|.tup (ar k.toNat xs).flatten))
def Zc0 :OpR X (dJ .Mult) (Zds X.K):=by
 intro pq s σ H x y v u Q I rx ry h;obtain⟨a,k,xs,rfl,rfl,hx,⟨k0,k1,hz⟩,q1,q2⟩:=h;cases rx;obtain⟨t,rfl⟩:=ry;obtain⟨its,r,pt,_⟩:=I.tuple hx;have hl:=r.length;obtain⟨⟨cls,dd,data,sl⟩,ho,hc,n,hd⟩:=id pt;simp only at hc hd;subst hc hd;have h0:¬(ae (k < -(2^63))||decide (k>=2^63))=ah:=by
  rw[T4<|by omega,T4<|by omega];exact aN
 refine hZ (by decide) ⟨_,ho,rfl⟩ (λs'=>iY s' k t) QO mC gp G0 F.slot_int_index.lookup
  (eN gp (iY s k t) me (lH _ _) (QK k t a its.toArray n dd sl) ⟨ho,rfl,⟨_,ho,rfl⟩,?_⟩)
 have hnil:=r.nil_iff;by_cases c:xs=[]\/k=1
 ·have c':(its.toArray.isEmpty||k == 1)=ah:=by
   rcases c with c|c
   ·rw[hnil.mpr c];rfl
   ·rw[c];simp
  exact eN iK ⟨_,ho,rfl⟩ ip (gW _ _) (GX a its.toArray n dd sl k t h0 c') ⟨ho,⟨.ref a,H,I,rfl,q1 c⟩⟩
 ·have ne:=λz=>c (.inl<|hnil.mp z)
  have k1:k≠1:=λz=>c<|.inr z
  have c':¬(its.toArray.isEmpty||k == 1)=ah:=by
   rw[beq_eq_false_iff_ne.mpr k1,Bool.or_false,kw];cases its with|nil=>exact T7 rfl ne|cons _ _=>exact aN
  have fin:∀arr:List aq,arr=(ar k.toNat its).flatten->EP X pq σ Q (cF s.heap.objs.size) {s with heap:=s.heap.push {cls:=.type "tuple",data:=.seq arr.toArray}}:=λarr e=>by
   subst e;refine⟨.ref s.heap.objs.size,_,I.laid (t':=s.toks) (λb ob q=>ao _ q) (aB _) ?_,rfl,q2 c _<|I.hok.fresh<|aB _⟩
   refine⟨?_,_,r.rep k.toNat,fR _ _⟩;rw[GJ,cR];have:k.toNat*xs.length<=1000*1000:=gX (by omega) hz
   omega
  by_cases z:k=0
  ·have h1:(ae (k<=0)||its.toArray.isEmpty)=ah:=by rw[z];rfl
   refine eN iK ⟨_,ho,rfl⟩ ip (gW _ _) (Gx a its.toArray n dd sl k t h0 c' h1) ⟨ho,?_⟩;exact fin [] (by rw[z];rfl)
  ·have h1:¬(ae (k<=0)||its.toArray.isEmpty)=ah:=by
    rw[T4<|by omega,kT,kw]
    cases its with|nil=>exact T7 rfl ne|cons _ _=>exact aN
   have hm:(its.toArray.size:Int)*k<=1000*1000:=by
    rw[aD,<-hl];exact Int.mul_le_mul (by omega) (by omega) k0 (by omega)
   have joined:(ar k.toNat its.toArray).foldl (·++·) #[]=(ar k.toNat its).flatten.toArray:=by
    have:=VN its k.toNat [];rw[fm]at this;exact this
   have hsz:((ar k.toNat its.toArray).foldl (·++·) #[]).size<=aY:=by
    rw[joined,aD,GJ,cR,<-hl];have:k.toNat*xs.length<=1000*1000:=gX (by omega) hz
    omega
   refine eN iK ⟨_,ho,rfl⟩ ip (gW _ _) (zW a its.toArray n dd sl k t h0 c' h1 (by omega) (by
    unfold gV;rw[T4<|by rw[cR];omega]
    exact aN) hsz) ⟨ho,?_⟩
   rw[joined];exact fin _ rfl
def Zdt:R2:=λx y H Q=>∃a k xs,x=.ref a/\y=.int k/\H a=aa (.lst xs)/\(0<=k/\k<1000/\xs.length<=1000)/\∀p,H p=ac->Q (.ref p) (upd H p<|.lst (ar k.toNat xs).flatten)
def ZbU :OpR X (dJ .Mult) Zdt:=by
 intro pq s σ H x y v u Q I rx ry h;obtain⟨a,k,xs,rfl,rfl,hx,⟨k0,k1,hz⟩,q2⟩:=h;cases rx;obtain⟨t,rfl⟩:=ry;obtain⟨its,r,pl,_⟩:=I.list<|SqL.of hx;have hl:=r.length;obtain⟨⟨cls,dd,data,sl⟩,n,ho,hc,hd2,hd⟩:=id pl;simp only at hc hd hd2;subst hc hd;have hm:k.toNat*its.length<=1000*1000:=gX (by omega) (by omega)
 have hm2:its.length*k.toNat<=1000*1000:=by rw[lI];exact hm
 refine hZ (by decide) ⟨_,ho,rfl⟩ (λs'=>iY s' k t) noFill_list_mul mC gp repeat_list F.slot_int_index.lookup
  (eN gp (iY s k t) me (lH _ _) (lm_int_rmul_list_any k t a its.toArray n dd sl) ⟨ho,rfl,⟨_,ho,rfl⟩,
   eN F.slot_list_mul ⟨_,ho,rfl⟩ F.entry_list_mul (F.args_list_mul_2 _ _) (lm_list_mul_any a its.toArray n dd sl k t (by simp[eF.List.listFitsIndex];omega) (by rw[aD];omega)<|by rw[aD];simp[fe,aY];omega) ⟨ho,?_⟩⟩)
 have joined:(ar (if its.toArray.isEmpty=ah then 0 else k.toNat) its.toArray).foldl (λx1 x2=>x1++x2) #[]=(ar k.toNat its).flatten.toArray:=by
  have h0:=VN its k.toNat [];rw[fm]at h0;by_cases z:its=[]
  ·subst z
   have e:∀m:Nat,(ar m ([]:List aq)).flatten=[]:=λm=>by induction m with|zero=>rfl|succ m ih=>rw[bD,bV,ih];rfl
   rw[e];rfl
  ·rw[T8<|by grind]
   exact h0
 rw[joined];refine⟨.ref s.heap.objs.size,_,I.laid (t':=s.toks) (λb ob q=>ao _ q) (aB _) ?_,rfl,q2 _<|I.hok.fresh<|aB _⟩
 refine⟨?_,_,0,r.rep k.toNat,aM _ rfl⟩;rw[GJ,cR];rw[hl];omega
end Sd
namespace Sd
open PySem PySem.Spec PyProof.Rows L2
open Ev (D Ob Zc Lc R E Sm Calls Walk Fl Fn Bop Cop Ty Bf Mf ev evs evo evt evw tst run runs)
section
variable{X:Cx}{xw:Nat->Hp->Prop}{C:Calls}{e a b c:Expr}{i j k:E}{pos:d8}
variable{ρ:List aw}{H:Hp}{S:Zc}{x y:D}{v u:V}{Q:VK}{K:aj}
def Zdv(K:aj):R2:=λx y H Q=>rI0 (λi j=>.int<|i+j) x y H Q\/(Zdp K x y H Q\/(Zap K x y H Q\/ZbR x y H Q))
def ZcD:OpR X (dJ .Add) (Zdv X.K):=Zd7.or<|ZcR.or<|Zae.or wb
def Zd8(st:St3 K ρ S H)(rx:Rep ρ H x v)(ry:Rep ρ H y u)(h:End K xw Rep ρ H Q (Ev.Yx .add x y S)):Zdv K v u H Q:=by
 cases x with
 |int i=>cases y with|int j=>exact .inl ⟨i,j,rx.int',ry.int',End.ok h st<|Zq _⟩|_=>exact False.elim h
 |tup ds=>cases y with
  |tup es=>
   obtain⟨hl,h⟩:=End.guard h;obtain⟨p,xs,rfl,hp,r1⟩:=rx.tup';obtain⟨q,ys,rfl,hq,r2⟩:=ry.tup';have l1:=r1.length;have l2:=r2.length;by_cases z:xs=[]
   ·subst z
    have e1:=dW.mp l1.symm;subst e1;exact .inr<|.inr<|.inl ⟨p,q,ys,rfl,rfl,SqT.of hp,SqT.of hq,End.ok h st<|ZU hq r2⟩
   ·refine .inr (.inl ⟨p,q,xs,ys,rfl,rfl,SqT.of hp,SqT.of hq,z,by rw[l1,l2,<-W4];exact hl,λz2=>?_,λ_=>h.newT st<|r1.append r2⟩)
    subst z2;have e2:=dW.mp l2.symm;subst e2;refine End.ok h st ?_;rw[ee];exact ZU hp r1
  |_=>exact False.elim h
 |loc m=>cases y with
  |loc n=>
   have h':End K xw Rep ρ H Q (match Ev.Zm S m,Ev.Zm S n with
    |some a,aa b=>if a.length+b.length<=Ev.lim then .ok (.loc S.length) (S++[.lst<|a++b])else .no
    |_,_=>.no):=h
   cases e1:Ev.Zm S m with
   |none=>rw[e1]at h';exact False.elim h'
   |some ds=>
    cases e2:Ev.Zm S n with
    |none=>rw[e1,e2]at h';exact False.elim h'
    |some es=>
     rw[e1,e2]at h';obtain⟨hl,h⟩:=End.guard h';obtain⟨_,p,xs,q1,hp,r1⟩:=st.lst e1;obtain⟨_,q,ys,q2,hq,r2⟩:=st.lst e2;obtain⟨p',rfl,t1⟩:=rx.loc';obtain⟨q',rfl,t2⟩:=ry.loc';rw[q1]at t1;cases t1;rw[q2]at t2;cases t2;exact .inr (.inr<|.inr ⟨p,q,xs,ys,rfl,rfl,hp,hq,by rw[r1.length,r2.length,<-W4];exact hl,h.newL st<|r1.append r2⟩)
  |_=>exact False.elim h
 |_=>cases y<;>exact False.elim h
def ZeR(st:St3 K ρ S H)(rx:Rep ρ H x v)(ry:Rep ρ H y u)(h:End K xw Rep ρ H Q (Ev.Yx .sub x y S)):rI0 (λi j=>.int<|i-j) v u H Q:=by
 cases x with
 |int i=>cases y with|int j=>exact⟨i,j,rx.int',ry.int',End.ok h st<|Zq _⟩|_=>exact False.elim h
 |_=>cases y<;>exact False.elim h
def ZdC(K:aj):R2:=λx y H Q=>rI (λi j=>Ev.fits i=ah/\Ev.fits j=ah) (λi j=>.int<|i*j) x y H Q\/(Zds K x y H Q\/Zdt x y H Q)
def ZcZ:OpR X (dJ .Mult) (ZdC X.K):=Zc4.or<|Zc0.or ZbU
def Ze8(st:St3 K ρ S H)(rx:Rep ρ H x v)(ry:Rep ρ H y u)(h:End K xw Rep ρ H Q (Ev.Yx .mul x y S)):ZdC K v u H Q:=by
 cases x with
 |int i=>cases y with
  |int j=>
   obtain⟨hc,h⟩:=End.guard h;exact .inl ⟨i,j,rx.int',ry.int',(aE _ _).mp hc,End.ok h st<|Zq _⟩
  |_=>exact False.elim h
 |tup ds=>cases y with
  |int k=>
   obtain⟨⟨h0,h1,h2⟩,h⟩:=End.guard h;obtain⟨p,xs,rfl,hp,r1⟩:=rx.tup';have l1:=r1.length;refine .inr <| .inl ⟨p,k,xs,rfl,ry.int',SqT.of hp,⟨h0,h1,by rw[l1];exact h2⟩,λz=>?_,λ_=>h.newT st<|r1.rep k.toNat⟩
   refine End.ok h st<|ZU hp ?_;rcases z with z|z
   ·subst z
    have e1:=dW.mp l1.symm;subst e1;have:∀m:Nat,(ar m ([]:List D)).flatten=[]:=λm=>by induction m with|zero=>rfl|succ m ih=>rw[bD,bV,ih];rfl
    rw[this];exact Rq.nil
   ·subst z
    show Rq ρ H (ar 1 ds).flatten xs;rw[bD,List.replicate_zero,bV,List.flatten_nil,ee];exact r1
  |_=>exact False.elim h
 |loc m=>cases y with
  |int k=>
   have h':End K xw Rep ρ H Q (match Ev.Zm S m with
    |some a=>if 0<=k/\k<1000/\a.length<=1000 then .ok (.loc S.length) (S++[.lst (ar k.toNat a).flatten])else .no
    |none=>.no):=h
   cases e1:Ev.Zm S m with
   |none=>rw[e1]at h';exact False.elim h'
   |some ds=>
    rw[e1]at h';obtain⟨⟨h0,h1,h2⟩,h⟩:=End.guard h';obtain⟨_,p,xs,q1,hp,r1⟩:=st.lst e1;obtain⟨p',rfl,t1⟩:=rx.loc';rw[q1]at t1;cases t1;exact .inr (.inr ⟨p,k,xs,rfl,ry.int',hp,⟨h0,h1,by rw[r1.length];exact h2⟩,h.newL st<|r1.rep k.toNat⟩)
  |_=>exact False.elim h
 |_=>cases y<;>exact False.elim h
def Zce(st:St3 K ρ S H)(rx:Rep ρ H x v)(ry:Rep ρ H y u)(h:End K xw Rep ρ H Q (Ev.Yx .fdiv x y S)):rI (λ_ j=>0<j/\j<Ev.big) (λi j=>.int<|i / j) v u H Q:=by
 cases x with
 |int i=>cases y with
  |int j=>
   obtain⟨hc,h⟩:=End.guard h;exact⟨i,j,rx.int',ry.int',hc,End.ok h st<|Zq _⟩
  |_=>exact False.elim h
 |_=>cases y<;>exact False.elim h
def ZeK(st:St3 K ρ S H)(rx:Rep ρ H x v)(ry:Rep ρ H y u)(h:End K xw Rep ρ H Q (Ev.Yx .mod x y S)):rI (λ_ j=>0<j) (λi j=>.int<|i%j) v u H Q:=by
 cases x with
 |int i=>cases y with
  |int j=>
   obtain⟨hc,h⟩:=End.guard h;exact⟨i,j,rx.int',ry.int',hc,End.ok h st<|Zq _⟩
  |_=>exact False.elim h
 |_=>cases y<;>exact False.elim h
def Zel(st:St3 K ρ S H)(rx:Rep ρ H x v)(ry:Rep ρ H y u)(h:End K xw Rep ρ H Q (Ev.Yx .pow x y S)):rI CPow (λi j=>.int<|i^j.toNat) v u H Q:=by
 cases x with
 |int i=>cases y with
  |int j=>
   obtain⟨hc,h⟩:=End.guard h;exact⟨i,j,rx.int',ry.int',⟨hc.1,by omega,hc.2.2⟩,End.ok h st<|Zq _⟩
  |_=>exact False.elim h
 |_=>cases y<;>exact False.elim h
def xY(ha:CE X xw C a i)(hb:CE X xw C b j):CE X xw C (.BinOp a .Add b pos) (.bin .add i j):=PE.imp (Us ZcD ha hb)<|Wv λst rx ry h=>Zd8 st rx ry h
def yW(ha:CE X xw C a i)(hb:CE X xw C b j):CE X xw C (.BinOp a .Sub b pos) (.bin .sub i j):=PE.imp (Us ZeB ha hb)<|Wv λst rx ry h=>ZeR st rx ry h
def xT(ha:CE X xw C a i)(hb:CE X xw C b j):CE X xw C (.BinOp a .Mult b pos) (.bin .mul i j):=PE.imp (Us ZcZ ha hb)<|Wv λst rx ry h=>Ze8 st rx ry h
def GO(ha:CE X xw C a i)(hb:CE X xw C b j):CE X xw C (.BinOp a .FloorDiv b pos) (.bin .fdiv i j):=PE.imp (Us qM ha hb)<|Wv λst rx ry h=>Zce st rx ry h
def xk(ha:CE X xw C a i)(hb:CE X xw C b j):CE X xw C (.BinOp a .Mod b pos) (.bin .mod i j):=PE.imp (Us ZdR ha hb)<|Wv λst rx ry h=>ZeK st rx ry h
def yK(ha:CE X xw C a i)(hb:CE X xw C b j):CE X xw C (.BinOp a .Pow b pos) (.bin .pow i j):=PE.imp (Us Zex ha hb)<|Wv λst rx ry h=>Zel st rx ry h
def xu(ha:CE X xw C a i):CE X xw C (.UnaryOp .USub a pos) (.neg i):=PE.imp (Zdu Za6 ha) λσ H Q ⟨ρ,l,S,st,lr,h⟩=>by
 refine⟨ρ,l,S,st,lr,End.bind (h) λx S1 ρ1 H1 v f1 st1 r1 h1=>?_⟩
 cases x with|int n=>exact⟨n,r1.int',End.ok h1 st1<|Zq _⟩|_=>exact False.elim h1
def Xb(st:St3 K ρ S H)(rx:Rep ρ H x v)(h:Ev.Yc S x=aa n):ZcH K v H n:=by
 cases x with
 |non=>rw[rx.non'];exact(ak h).symm
 |bl b=>rw[rx.bl'];exact(ak h).symm
 |int i=>
  rw[rx.int'];have h':=ak h;rw[<-h'];by_cases z:i=0
  ·subst z;rfl
  ·rw[T5 z];exact(bne_iff_ne.mpr z).symm
 |tup ds=>
  obtain⟨p,xs,rfl,hp,r⟩:=rx.tup';have h':=ak h;refine .inr<|.inl ⟨xs,SqT.of hp,?_⟩;rw[<-h'];have:=r.length;cases ds<;>cases xs<;>first|rfl|(simp at this)
 |loc m=>
  have h2:(Ev.Yd S m).map (λxs=>!xs.isEmpty)=aa n:=h
  cases e:Ev.Yd S m with
  |none=>grind
  |some ds=>
   rw[e]at h2;obtain⟨p,xs,q,hp,r⟩:=st.seq e;obtain⟨p',rfl,t⟩:=rx.loc';rw[q]at t;cases t;refine .inl ⟨xs,hp,?_⟩;have h':=ak h2;rw[<-h'];have:=r.length;cases ds<;>cases xs<;>first|rfl|(simp at this)
 |_=>cases h
def yH(ha:CE X xw C a i)(he:∀whole,isTrue a X.env whole=(do let v <-whole;ly a.pos;ia [v] (nD v)):=by intro _;rfl):CT X xw C a i:=
 PT.imp (jT ha he) λσ H Q ⟨ρ,l,S,st,lr,h⟩=>by
  refine⟨ρ,l,S,st,lr,End.bind (h) λx S1 ρ1 H1 v f1 st1 r1 h1=>?_⟩
  cases q:Ev.Yc S1 x with|none=>rw[q]at h1;exact False.elim h1|some n=>rw[q]at h1;exact⟨n,Xb st1 r1 q,End.ok h1 st1 rfl⟩
def xM(ha:CT X xw C a i):CT X xw C (.UnaryOp .Not a pos) (.not i):=PT.imp (jq ha) λσ H Q ⟨ρ,l,S,st,lr,h⟩=>by
 refine⟨ρ,l,S,st,lr,?_⟩;have h':End X.K xw Gf ρ H Q (((ev C i l S).bind λx S=>(Ev.ob (Ev.Yc S x) S).bind λb S=>.ok (.bl !b) S).bind λx S=>Ev.ob (Ev.Yc S x) S):=h
 show End X.K xw Gf ρ H (λc H1=>Q (!c) H1) ((ev C i l S).bind λx S=>Ev.ob (Ev.Yc S x) S)
 cases q:ev C i l S with
 |no=>rw[q]at h';exact h'
 |ex c S1=>rw[q]at h';exact h'
 |ok x S1=>
  rw[q]at h';show End X.K xw Gf ρ H _ (Ev.ob (Ev.Yc S1 x) S1);have h2:End X.K xw Gf ρ H Q (((Ev.ob (Ev.Yc S1 x) S1).bind λb S=>.ok (.bl !b) S).bind λx S=>Ev.ob (Ev.Yc S x) S):=h'
  cases t:Ev.Yc S1 x with
  |none=>rw[t]at h2;exact h2
  |some n=>
   rw[t]at h2;intro ρ1 H1 w f1 st1 e;exact h2 ρ1 H1 (!w) f1 st1 (by rw[<-(e)];rfl)
def xO(ha:CE X xw C a i):CE X xw C (.UnaryOp .Not a pos) (.not i):=by
 intro pq s σ H Q I hq;obtain⟨ρ,l,S,st,lr,h⟩:=hq;have h':=h
 refine UnaryOp_<|thn (ha pq s σ H (λv H1=>∃k,ZcH X.K v H1 k/\Q (.bl !k) H1) I ⟨ρ,l,S,st,lr,End.bind h' λx S1 ρ1 H1 v f1 st1 r1 h1=>?_⟩) λv s1 ⟨x,H1,I1,r1,q1⟩=>?_
 ·cases q:Ev.Yc S1 x with|none=>rw[q]at h1;exact False.elim h1|some n=>rw[q]at h1;exact⟨n,Xb st1 r1 q,End.ok h1 st1<|ZC _⟩
 ·obtain⟨k,tk,q2⟩:=q1
  refine not_of<|thn (Zbc pq s1 σ H1 x v (λk' H'=>Q (.bl !k') H') I1 r1 ⟨k,tk,q2⟩) λk' s2 ⟨H2,I2,q3⟩=>?_
  exact⟨.bl<|!k',H2,I2,rfl,q3⟩
def y9{rest:List Expr}(ha:CE X xw C a i)(hb:CE X xw C (.BoolOp .And (b::rest) pos) j):CE X xw C (.BoolOp .And (a::b::rest) pos) (.and i j):=PE.imp (Zd4 ha hb) λσ H Q ⟨ρ,l,S,st,lr,h⟩=>by
 refine⟨ρ,l,S,st,lr,End.bind (h) λx S1 ρ1 H1 v f1 st1 r1 h1=>?_⟩
 cases x with
 |bl c=>
  refine⟨c,r1.bl',?_⟩;cases c with|true=>exact⟨ρ1,l,S1,st1,lr.mono f1,h1⟩|false=>exact End.ok h1 st1 (ZC _)
 |_=>exact False.elim h1
def Zaf{rest:List Expr}(ha:CE X xw C a i)(hb:CE X xw C (.BoolOp .Or (b::rest) pos) j):CE X xw C (.BoolOp .Or (a::b::rest) pos) (.or i j):=PE.imp (ZfO ha hb) λσ H Q ⟨ρ,l,S,st,lr,h⟩=>by
 refine⟨ρ,l,S,st,lr,End.bind (h) λx S1 ρ1 H1 v f1 st1 r1 h1=>?_⟩
 cases x with
 |bl c=>
  refine⟨c,r1.bl',?_⟩;cases c with|false=>exact⟨ρ1,l,S1,st1,lr.mono f1,h1⟩|true=>exact End.ok h1 st1 (ZC _)
 |_=>exact False.elim h1
def CWh(X:Cx)(xw:Nat->Hp->Prop)(C:Calls)(e:Expr)(i:E):Prop:=PW X e<|tB3 X xw<|tst C i
def CWh.ct(h:CWh X xw C e i):CT X xw C e i:=PW.pt h
def PW.imp(h:PW X e t)(k:∀σ H Q,t' σ H Q->t σ H Q):PW X e t':=λwh pq s σ H Q I q=>h wh pq s σ H Q I<|k σ H Q q
def yI(ha:CT X xw C a i):CWh X xw C (.BoolOp .Or [a] pos) i:=ZaX ha
def vp{rest:List Expr}(ha:CT X xw C a i)(hb:CWh X xw C (.BoolOp .Or (b::rest) pos) j):CWh X xw C (.BoolOp .Or (a::b::rest) pos) (.or i j):=PW.imp (Zdh ha hb) λσ H Q ⟨ρ,l,S,st,lr,h⟩=>by
 have h':End X.K xw Gf ρ H Q (((ev C i l S).bind λx S=>match x with|.bl c=>if c then .ok (.bl ah) S else ev C j l S|_=>.no).bind λx S=>Ev.ob (Ev.Yc S x) S):=h
 refine⟨ρ,l,S,st,lr,?_⟩;show End X.K xw Gf ρ H _ ((ev C i l S).bind λx S=>Ev.ob (Ev.Yc S x) S)
 cases q:ev C i l S with
 |no=>rw[q]at h';exact h'
 |ex c S1=>rw[q]at h';exact h'
 |ok x S1=>
  rw[q]at h';cases x with
  |bl n=>
   intro ρ1 H1 w f1 st1 e;have e':n=w:=e;subst e';cases n with|false=>exact⟨ρ1,l,S1,st1,lr.mono f1,End.mono f1 (h')⟩|true=>exact(h') ρ1 H1 ah f1 st1 rfl
  |_=>exact False.elim h'
end
section
variable{K:aj}{ρ:List aw}{H:Hp}{S:Zc}
theorem U9(hf:∀x y v b,Rep ρ H x v->Rep ρ H y v->f x y=aa b->b=ah):∀{ds es:List D}{xs:List V}{b:Bool},Rq ρ H ds xs->Rq ρ H es xs->Ev.eqL f ds es=aa b->b=ah
 |[],[],_,b,_,_,h=>(ak h).symm
 |d::ds,e::es,_,b,r1,r2,h=>by
  obtain⟨v,vs,rfl,a1,b1⟩:=r1;obtain⟨v',vs',e',a2,b2⟩:=r2;cases e';unfold Ev.eqL at h;cases q1:f d e with
  |none=>rw[q1]at h;cases h
  |some p=>
   cases q2:Ev.eqL f ds es with
   |none=>rw[q1,q2]at h;cases h
   |some q=>
    rw[q1,q2]at h;have h':=ak h;rw[<-h',hf d e v p a1 a2 q1,U9 hf b1 b2 q2];rfl
 |[],_::_,_,b,r1,r2,h=>by
  have l1:=r1.length;have l2:=r2.length;rw[l1]at l2;simp at l2
 |_::_,[],_,b,r1,r2,h=>by
  have l1:=r1.length;have l2:=r2.length;rw[l1]at l2;simp at l2
theorem Vg(st:St3 K ρ S H):∀(k:Nat)(x y:D)(v:V)(b:Bool),Rep ρ H x v->Rep ρ H y v->Ev.eqD S k x y=aa b->b=ah
 |0,_,_,_,_,_,_,h=>by cases h
 |k+1,x,y,v,b,r1,r2,h=>by
  cases x with
  |non=>
   cases r1.non';cases y with|non=>exact(ak h).symm|bl _=>cases r2.bl'|int _=>cases r2.int'|str _=>cases r2.str'|tup _=>obtain⟨_,_,z,_⟩:=r2.tup';cases z|loc _=>obtain⟨_,z,_⟩:=r2.loc';cases z
  |bl i=>
   cases r1.bl';cases y with|bl j=>cases r2.bl';have:=ak h;rw[<-this];exact T5 rfl|non=>cases r2.non'|int _=>cases r2.int'|str _=>cases r2.str'|tup _=>obtain⟨_,_,z,_⟩:=r2.tup';cases z|loc _=>obtain⟨_,z,_⟩:=r2.loc';cases z
  |int i=>
   cases r1.int';cases y with|int j=>cases r2.int';have:=ak h;rw[<-this];exact T5 rfl|non=>cases r2.non'|bl _=>cases r2.bl'|str _=>cases r2.str'|tup _=>obtain⟨_,_,z,_⟩:=r2.tup';cases z|loc _=>obtain⟨_,z,_⟩:=r2.loc';cases z
  |str i=>
   cases r1.str';cases y with|str j=>cases r2.str';have:=ak h;rw[<-this];exact T5 rfl|non=>cases r2.non'|bl _=>cases r2.bl'|int _=>cases r2.int'|tup _=>obtain⟨_,_,z,_⟩:=r2.tup';cases z|loc _=>obtain⟨_,z,_⟩:=r2.loc';cases z
  |tup ds=>
   obtain⟨p,xs,rfl,hp,q1⟩:=r1.tup';cases y with
   |tup es=>
    obtain⟨p',xs',z,hp',q2⟩:=r2.tup';cases z;rw[hp]at hp';cases hp';exact U9 (λx y v b=>Vg st k x y v b) q1 q2 h
   |non=>cases r2.non'
   |bl _=>cases r2.bl'
   |int _=>cases r2.int'
   |str _=>cases r2.str'
   |loc _=>cases h
  |loc m=>
   obtain⟨p,rfl,hp⟩:=r1.loc';cases y with
   |loc n=>
    obtain⟨p',z,hp'⟩:=r2.loc';cases z;have h':(match Ev.Zm S m,Ev.Zm S n with
     |some xs,aa ys=>if xs.length=ys.length then Ev.eqL (Ev.eqD S k) xs ys else aa ai
     |_,_=>ac)=aa b:=h
    cases e1:Ev.Zm S m with
    |none=>rw[e1]at h';cases h'
    |some ds=>
     cases e2:Ev.Zm S n with
     |none=>rw[e1,e2]at h';cases h'
     |some es=>
      rw[e1,e2]at h';obtain⟨s1,a1,xs,t1,u1,q1⟩:=st.lst e1;obtain⟨s2,a2,ys,t2,u2,q2⟩:=st.lst e2;by_cases hmn:m=n
      ·subst hmn
       rw[e1]at e2;cases e2;have h2:(if ds.length=ds.length then Ev.eqL (Ev.eqD S k) ds ds else aa ai)=aa b:=h'
       rw[T9 rfl]at h2;exact U9 (λx y v b=>Vg st k x y v b) q1 q1 h2
      ·rcases st.nd m n p hp hp' hmn with⟨ns,z⟩|⟨ns,z⟩
       ·rw[s1]at z;cases z
       ·rw[s2]at z;cases z
   |non=>cases r2.non'
   |bl _=>cases r2.bl'
   |int _=>cases r2.int'
   |str _=>cases r2.str'
   |tup _=>cases h
noncomputable def eAt(f:D->D->Option Bool)(ds es:List D)(j:Nat):Bool:=match ds[j]?,es[j]? with
 |some x,aa y=>(f x y).getD ai
 |_,_=>ai
theorem Xl :∀{ds es:List D}{b:Bool},Ev.eqL f ds es=aa b->
  ((aR<|nM ds.length es.length).all (eAt f ds es)&&ds.length == es.length)=b/\∀j x y,ds[j]?=aa x->es[j]?=aa y->f x y=aa (eAt f ds es j)
 |[],[],b,h=>⟨ak h,λj x y e=>by simp at e⟩
 |[],_::es,b,h=>⟨by rw[<-ak h];simp,λj x y e=>by simp at e⟩
 |_::ds,[],b,h=>⟨by rw[<-ak h];simp,λj x y _ e=>by simp at e⟩
 |d::ds,e::es,b,h=>by
  unfold Ev.eqL at h;cases q1:f d e with
  |none=>rw[q1]at h;cases h
  |some p=>
   cases q2:Ev.eqL f ds es with
   |none=>rw[q1,q2]at h;cases h
   |some q=>
    rw[q1,q2]at h;obtain⟨ih,ih2⟩:=Xl q2;have h':=ak h;have e0:eAt f (d::ds) (e::es) 0=p:=by simp[eAt,q1]
    have es':∀j,eAt f (d::ds) (e::es) (j+1)=eAt f ds es j:=λj=>by simp[eAt]
    refine⟨?_,λj x y hx hy=>?_⟩
    ·rw[<-h',<-ih,aP,aP,Nat.succ_min_succ,fI,gf,e0,gG]
     have:((aR<|nM ds.length es.length).all<|eAt f (d::ds) (e::es)∘Nat.succ)=(aR<|nM ds.length es.length).all (eAt f ds es):=by
      exact congrArg (λg=>(aR<|nM ds.length es.length).all g)<|funext λj=>es' j
     rw[this,Bool.and_assoc]
     congr 2
     simp
    ·cases j with
     |zero=>
      simp at hx hy;subst hx hy;rw[e0];exact q1
     |succ j=>
      rw[es' j];exact ih2 j x y (by simpa using hx) (by simpa using hy)
end
section
variable{X:Cx}{pq:List (aw×dB)}{σ:L2.St}{H:Hp}{s:au}{ρ:List aw}{S:Zc}
def YA{A:bL}{k:Nat}(h:A.units+(k+1)<dh):A.in1.units+k<dh:=by
 have e:A.in1.units<=A.units+1:=by
  first|exact aB _|(simp[bL.in1,bL.units]<;>omega)
 omega
theorem G2(I:Inv X pq σ H s)(st:St3 X.K ρ S H):∀(k:Nat)(A:bL)(x y:D)(v u:V)(vv uu:aq)(b:Bool),A.units+k<dh->Rep ρ H x v->Rep ρ H y u->Zz v vv->Zz u uu->Ev.eqD S k x y=aa b->iX A s vv uu b
 |0,_,_,_,_,_,_,_,_,_,_,_,_,_,h=>by cases h
 |k+1,A,x,y,v,u,vv,uu,b,hu,r1,r2,e1,e2,h=>by
  have flat:wZ v=ah->wZ u=ah->eqV v u=b->iX A s vv uu b:=λf1 f2 e=>by rw[<-e];exact ZeU e1 e2 f1 f2
  have bb:∀{a c:Bool},(a == c)=ae (a=c):=λ{a c}=>by cases a<;>cases c<;>rfl
  have ii:∀{a c:Int},(a == c)=ae (a=c):=λ{a c}=>by rw[bT];simp
  have ss:∀{a c:bc},(a == c)=ae (a=c):=λ{a c}=>by rw[bT];simp
  cases x with
  |non=>
   cases r1.non';cases y with|non=>cases r2.non';exact flat rfl rfl<|ak h|bl _=>cases r2.bl';exact flat rfl rfl<|ak h|int _=>cases r2.int';exact flat rfl rfl<|ak h|str _=>cases r2.str';exact flat rfl rfl<|ak h|_=>exact Ev.nos h
  |bl i=>
   cases r1.bl';cases y with|non=>cases r2.non';exact flat rfl rfl<|ak h|bl _=>cases r2.bl';exact flat rfl rfl<|bb.trans<|ak h|int _=>cases r2.int';exact flat rfl rfl<|ii.trans<|ak h|str _=>cases r2.str';exact flat rfl rfl<|ak h|_=>exact Ev.nos h
  |int i=>
   cases r1.int';cases y with|non=>cases r2.non';exact flat rfl rfl<|ak h|bl _=>cases r2.bl';exact flat rfl rfl<|ii.trans<|ak h|int _=>cases r2.int';exact flat rfl rfl<|ii.trans<|ak h|str _=>cases r2.str';exact flat rfl rfl<|ak h|_=>exact Ev.nos h
  |str i=>
   cases r1.str';cases y with|non=>cases r2.non';exact flat rfl rfl<|ak h|bl _=>cases r2.bl';exact flat rfl rfl<|ak h|int _=>cases r2.int';exact flat rfl rfl<|ak h|str _=>cases r2.str';exact flat rfl rfl<|ss.trans<|ak h|_=>exact Ev.nos h
  |tup ds=>
   obtain⟨p,xs,rfl,hp,q1⟩:=r1.tup';cases e1;cases y with
   |tup es=>
    obtain⟨p',ys,rfl,hp',q2⟩:=r2.tup';cases e2;by_cases hpp:p=p'
    ·subst hpp
     rw[Vg st (k+1) (.tup ds) (.tup es) (.ref p) b r1 r2 h];exact i6 _
    ·obtain⟨its,v1,t1,_⟩:=I.tuple (SqT.of hp)
     obtain⟨its2,v2,t2,_⟩:=I.tuple<|SqT.of hp';have h':=h;obtain⟨ev,ea⟩:=Xl h';have n1:its.toArray.size=ds.length:=by rw[aD,<-v1.length,q1.length]
     have n2:its2.toArray.size=es.length:=by rw[aD,<-v2.length,q2.length]
     refine ll hpp ?_;rw[<-ev,<-n1,<-n2];refine lJ t1 t2 (by omega) λj j1 j2=>?_
     have d1:ds[j]?=aa ds[j]:=ag (by omega)
     have d2:es[j]?=aa es[j]:=ag (by omega)
     obtain⟨w1,g1,z1⟩:=q1.get d1;obtain⟨w2,g2,z2⟩:=q2.get d2;obtain⟨m1,k1,y1⟩:=v1.get g1;obtain⟨m2,k2,y2⟩:=v2.get g2;have o1:its.toArray[j]=m1:=by
      have:=ay.mp k1
      simpa using this.2
     have o2:its2.toArray[j]=m2:=by
      have:=ay.mp k2
      simpa using this.2
     rw[o1,o2];exact G2 I st k A.in1 ds[j] es[j] w1 w2 m1 m2 _ (YA hu) z1 z2 y1 y2 (ea j _ _ d1 d2)
   |_=>exact Ev.nos h
  |loc m=>
   obtain⟨p,rfl,hp⟩:=r1.loc';cases e1;cases y with
   |loc n=>
    obtain⟨p',rfl,hp'⟩:=r2.loc';cases e2;by_cases hpp:p=p'
    ·subst hpp
     rw[Vg st (k+1) (.loc m) (.loc n) (.ref p) b r1 r2 h];exact i6 _
    ·have h':(match Ev.Zm S m,Ev.Zm S n with
      |some xs,aa ys=>if xs.length=ys.length then Ev.eqL (Ev.eqD S k) xs ys else aa ai
      |_,_=>ac)=aa b:=h
     cases a1:Ev.Zm S m with
     |none=>rw[a1]at h';cases h'
     |some ds=>
      cases a2:Ev.Zm S n with
      |none=>rw[a1,a2]at h';cases h'
      |some es=>
       rw[a1,a2]at h';obtain⟨s1,c1,xs,t1,u1,q1⟩:=st.lst a1;obtain⟨s2,c2,ys,t2,u2,q2⟩:=st.lst a2;rw[hp]at t1;cases t1;rw[hp']at t2;cases t2;obtain⟨its,v1,p1,_⟩:=I.list<|SqL.of u1;obtain⟨its2,v2,p2,_⟩:=I.list<|SqL.of u2;have n1:its.toArray.size=ds.length:=by rw[aD,<-v1.length,q1.length]
       have n2:its2.toArray.size=es.length:=by rw[aD,<-v2.length,q2.length]
       refine ll hpp ?_;have h2:(if ds.length=es.length then Ev.eqL (Ev.eqD S k) ds es else aa ai)=aa b:=h'
       by_cases hl:ds.length=es.length
       ·rw[T9 hl]at h2
        obtain⟨ev,ea⟩:=Xl h2;have ev':(aR ds.length).all (eAt (Ev.eqD S k) ds es)=b:=by
         rw[<-ev,<-hl,lK];simp
        rw[<-ev',<-n1];refine mf p1.isList p2.isList (by omega) (by omega) λj j1 j2=>?_
        have d1:ds[j]?=aa ds[j]:=ag (by omega)
        have d2:es[j]?=aa es[j]:=ag (by omega)
        obtain⟨w1,g1,z1⟩:=q1.get d1;obtain⟨w2,g2,z2⟩:=q2.get d2;obtain⟨m1,k1,y1⟩:=v1.get g1;obtain⟨m2,k2,y2⟩:=v2.get g2;have o1:its.toArray[j]=m1:=by
         have:=ay.mp k1
         simpa using this.2
        have o2:its2.toArray[j]=m2:=by
         have:=ay.mp k2
         simpa using this.2
        rw[o1,o2];exact G2 I st k A.in1 ds[j] es[j] w1 w2 m1 m2 _ (YA hu) z1 z2 y1 y2<|ea j _ _ d1 d2
       ·rw[T8 hl]at h2
        rw[<-ak h2];exact iB p1.isList p2.isList (bne_iff_ne.mpr<|by omega) (by omega)
   |_=>exact Ev.nos h
end
section
variable{X:Cx}{pq:List (aw×dB)}{σ:L2.St}{H:Hp}{s:au}{ρ:List aw}{S:Zc}
def Vd(I:Inv X pq σ H s)(st:St3 X.K ρ S H){k:Nat}{A:bL}{ds es:List D}{xs ys:List V}{its its2:List aq}{b:Bool}(hu:A.units+(k+1)<dh)
  (q1:Rq ρ H ds xs)(q2:Rq ρ H es ys)(v1:Vals xs its)(v2:Vals ys its2)(h:Ev.eqL (Ev.eqD S k) ds es=aa b) :
  ∀j (h1:j<its.toArray.size) (h2:j<its2.toArray.size),iX A.in1 s its.toArray[j] its2.toArray[j] (eAt (Ev.eqD S k) ds es j):=λj j1 j2=>by
 obtain⟨_,ea⟩:=Xl h;have n1:its.toArray.size=ds.length:=by rw[aD,<-v1.length,q1.length]
 have n2:its2.toArray.size=es.length:=by rw[aD,<-v2.length,q2.length]
 have d1:ds[j]?=aa ds[j]:=ag (by omega)
 have d2:es[j]?=aa es[j]:=ag (by omega)
 obtain⟨w1,g1,z1⟩:=q1.get d1;obtain⟨w2,g2,z2⟩:=q2.get d2;obtain⟨m1,k1,y1⟩:=v1.get g1;obtain⟨m2,k2,y2⟩:=v2.get g2;have o1:its.toArray[j]=m1:=by
  have:=ay.mp k1
  simpa using this.2
 have o2:its2.toArray[j]=m2:=by
  have:=ay.mp k2
  simpa using this.2
 rw[o1,o2];exact G2 I st k A.in1 ds[j] es[j] w1 w2 m1 m2 _ (YA hu) z1 z2 y1 y2<|ea j _ _ d1 d2
end
section
variable{X:Cx}{xw:Nat->Hp->Prop}{C:Calls}{e a b c:Expr}{i j k:E}{pos p p':d8}
def Zcu(K:aj)(xw:Nat->Hp->Prop)(op:Cop):R2:=λv u H Q=>∃ρ S x y,St3 K ρ S H/\Rep ρ H x v/\Rep ρ H y u/\End K xw Rep ρ H Q (Ev.YZ op x y S)
def ZdL :∀σ H Q,tE X xw (ev C<|.cmp op i j) σ H Q->tOp (Zcu X.K xw op) (tE X xw<|ev C i) (tE X xw<|ev C j) σ H Q:=λσ H Q h=>
 Wv (λ{ρ H S x y v u Q} st rx ry h=>⟨ρ,S,x,y,st,rx,ry,h⟩) σ H Q h
def dI{a c:Int}:(a == c)=ae (a=c):=by rw[bT];simp
def vw{H:Hp}{ρ:List aw}{S:Zc}{k:Nat}{x y:D}{v u:V}{b:Bool}(rx:Rep ρ H x v)(ry:Rep ρ H y u)(hb:Ev.eqD S (k+1) x y=aa b):(scal v u=ah/\ae (v=u)=b)\/(∃i j,v=.bl i/\u=.int j/\ae (Ev.b2i i=j)=b)\/(∃i j,v=.int i/\u=.bl j/\ae (i=Ev.b2i j)=b)\/(∃ds es,x=.tup ds/\y=.tup es/\Ev.eqL (Ev.eqD S k) ds es=aa b)\/∃m n ds es,x=.loc m/\y=.loc n/\Ev.Zm S m=aa ds/\Ev.Zm S n=aa es/\(if ds.length=es.length then Ev.eqL (Ev.eqD S k) ds es else aa ai)=aa b:=by
 cases x with
 |non=>cases rx.non';cases y with|non=>cases ry.non';exact .inl ⟨rfl,ak hb▸by simp⟩|bl _=>cases ry.bl';exact .inl ⟨rfl,ak hb⟩|int _=>cases ry.int';exact .inl ⟨rfl,ak hb⟩|str _=>cases ry.str';exact .inl ⟨rfl,ak hb⟩|_=>exact Ev.nos hb
 |bl i=>cases rx.bl';cases y with|non=>cases ry.non';exact .inl ⟨rfl,ak hb⟩|bl j=>cases ry.bl';exact .inl ⟨rfl,ak hb▸by simp⟩|int j=>cases ry.int';exact .inr<|.inl ⟨i,j,rfl,rfl,ak hb⟩|str _=>cases ry.str';exact .inl ⟨rfl,ak hb⟩|_=>exact Ev.nos hb
 |int i=>cases rx.int';cases y with|non=>cases ry.non';exact .inl ⟨rfl,ak hb⟩|bl j=>cases ry.bl';exact .inr<|.inr<|.inl ⟨i,j,rfl,rfl,ak hb⟩|int _=>cases ry.int';exact .inl ⟨rfl,ak hb▸by simp⟩|str _=>cases ry.str';exact .inl ⟨rfl,ak hb⟩|_=>exact Ev.nos hb
 |str i=>cases rx.str';cases y with|non=>cases ry.non';exact .inl ⟨rfl,ak hb⟩|bl _=>cases ry.bl';exact .inl ⟨rfl,ak hb⟩|int _=>cases ry.int';exact .inl ⟨rfl,ak hb⟩|str _=>cases ry.str';exact .inl ⟨rfl,ak hb▸by simp⟩|_=>exact Ev.nos hb
 |tup ds=>cases y with|tup es=>exact .inr<|.inr<|.inr<|.inl ⟨ds,es,rfl,rfl,hb⟩|_=>exact Ev.nos hb
 |loc m=>cases y with
  |loc n=>
   have h':(match Ev.Zm S m,Ev.Zm S n with
    |some xs,aa ys=>if xs.length=ys.length then Ev.eqL (Ev.eqD S k) xs ys else aa ai
    |_,_=>ac)=aa b:=hb
   cases a1:Ev.Zm S m with
   |none=>rw[a1]at h';exact Ev.nos h'
   |some ds=>
    cases a2:Ev.Zm S n with|none=>rw[a1,a2]at h';exact Ev.nos h'|some es=>rw[a1,a2]at h';exact .inr (.inr<|.inr<|.inr ⟨m,n,ds,es,rfl,rfl,a1,a2,h'⟩)
  |_=>exact Ev.nos hb
def ZeE(hu:X.A.units+6<dh):OpR X (cg .Eq) (Zcu X.K xw .eq):=by
 intro pq s σ H v u vv uu Q I e1 e2 h;obtain⟨ρ,S,x,y,st,rx,ry,h⟩:=h;have h0:=h
 obtain⟨b,hb,h1⟩:=End.ob h0;have q:=End.ok h1 st<|ZC b;rcases vw rx ry hb with⟨hs,e⟩|⟨i,j,rfl,rfl,e⟩|⟨i,j,rfl,rfl,e⟩|⟨ds,es,rfl,rfl,hb'⟩|⟨m,n,ds,es,rfl,rfl,a1,a2,h2⟩
 ·exact ZfB pq s σ H v u vv uu Q I e1 e2 ⟨hs,by rw[e];exact q⟩
 ·cases e1
  obtain⟨t,rfl⟩:=e2;refine EqBoolInt.eq_bool_int ⟨.bl b,H,I,?_,q⟩;show bv ((if i then 1 else 0) == j)=bv b
  rw[dI];exact congrArg bv e
 ·cases e2
  obtain⟨t,rfl⟩:=e1;refine EqBoolInt.eq_int_bool ⟨.bl b,H,I,?_,q⟩;show bv (i == (if j then 1 else 0))=bv b
  rw[dI];exact congrArg bv e
 ·
  obtain⟨p,xs,rfl,hp,q1⟩:=rx.tup';cases e1;obtain⟨p',ys,rfl,hp',q2⟩:=ry.tup';cases e2;obtain⟨its,v1,t1,_⟩:=I.tuple<|SqT.of hp;obtain⟨its2,v2,t2,_⟩:=I.tuple<|SqT.of hp';obtain⟨ev,_⟩:=Xl hb';have n1:its.toArray.size=ds.length:=by rw[aD,<-v1.length,q1.length]
  have n2:its2.toArray.size=es.length:=by rw[aD,<-v2.length,q2.length]
  refine lJ t1 t2 (by omega) (Vd I st hu q1 q2 v1 v2 hb') X.prog X.w X.xe _ ?_
  rw[n1,n2,ev];exact⟨.bl b,H,I,rfl,q⟩
 ·
  obtain⟨p,rfl,hp⟩:=rx.loc';cases e1;obtain⟨p',rfl,hp'⟩:=ry.loc';cases e2;obtain⟨s1,c1,xs,t1,u1,q1⟩:=st.lst a1;obtain⟨s2,c2,ys,t2,u2,q2⟩:=st.lst a2;rw[hp]at t1;cases t1;rw[hp']at t2;cases t2;obtain⟨its,v1,p1,_⟩:=I.list<|SqL.of u1;obtain⟨its2,v2,p2,_⟩:=I.list<|SqL.of u2;have n1:its.toArray.size=ds.length:=by rw[aD,<-v1.length,q1.length]
  have n2:its2.toArray.size=es.length:=by rw[aD,<-v2.length,q2.length]
  by_cases hl:ds.length=es.length
  ·rw[T9 hl]at h2
   obtain⟨ev,_⟩:=Xl h2;have ev':(aR ds.length).all (eAt (Ev.eqD S 5) ds es)=b:=by
    rw[<-ev,<-hl,lK];simp
   refine mf p1.isList p2.isList (by omega) (by omega) (Vd I st hu q1 q2 v1 v2 h2) X.prog X.w X.xe _ ?_
   rw[n1,ev'];exact⟨.bl b,H,I,rfl,q⟩
  ·rw[T8 hl]at h2
   refine iB p1.isList p2.isList (bne_iff_ne.mpr<|by omega) (by omega) X.prog X.w X.xe _ ?_
   exact⟨.bl b,H,I,congrArg bv<|ak h2,q⟩
def ZdS(hu:X.A.units+6<dh):OpR X (cg .NotEq) (Zcu X.K xw .ne):=by
 intro pq s σ H v u vv uu Q I e1 e2 h;obtain⟨ρ,S,x,y,st,rx,ry,h⟩:=h;have h0:=h
 obtain⟨b,hb,h1⟩:=End.ob h0;have q:=End.ok h1 st<|ZC _;rcases vw rx ry hb with⟨hs,e⟩|⟨i,j,rfl,rfl,e⟩|⟨i,j,rfl,rfl,e⟩|⟨ds,es,rfl,rfl,hb'⟩|⟨m,n,ds,es,rfl,rfl,a1,a2,h2⟩
 ·exact ZfZ pq s σ H v u vv uu Q I e1 e2 ⟨hs,by rw[e];exact q⟩
 ·cases e1
  obtain⟨t,rfl⟩:=e2;refine EqBoolInt.ne_bool_int ⟨.bl !b,H,I,?_,q⟩;show bv (!((if i then 1 else 0) == j))=bv !b
  rw[dI];exact congrArg (λz=>bv !z) e
 ·cases e2
  obtain⟨t,rfl⟩:=e1;refine EqBoolInt.ne_int_bool ⟨.bl !b,H,I,?_,q⟩;show bv (!(i == (if j then 1 else 0)))=bv !b
  rw[dI];exact congrArg (λz=>bv !z) e
 ·
  obtain⟨p,xs,rfl,hp,q1⟩:=rx.tup';cases e1;obtain⟨p',ys,rfl,hp',q2⟩:=ry.tup';cases e2;obtain⟨its,v1,t1,_⟩:=I.tuple<|SqT.of hp;obtain⟨its2,v2,t2,_⟩:=I.tuple<|SqT.of hp';obtain⟨ev,_⟩:=Xl hb';have n1:its.toArray.size=ds.length:=by rw[aD,<-v1.length,q1.length]
  have n2:its2.toArray.size=es.length:=by rw[aD,<-v2.length,q2.length]
  refine SeqAt.RcNeAt.tuples t1 t2 (by omega) (Vd I st hu q1 q2 v1 v2 hb') X.prog X.w X.xe _ ?_
  rw[n1,n2,ev];exact⟨.bl !b,H,I,rfl,q⟩
 ·
  obtain⟨p,rfl,hp⟩:=rx.loc';cases e1;obtain⟨p',rfl,hp'⟩:=ry.loc';cases e2;obtain⟨s1,c1,xs,t1,u1,q1⟩:=st.lst a1;obtain⟨s2,c2,ys,t2,u2,q2⟩:=st.lst a2;rw[hp]at t1;cases t1;rw[hp']at t2;cases t2;obtain⟨its,v1,p1,_⟩:=I.list<|SqL.of u1;obtain⟨its2,v2,p2,_⟩:=I.list<|SqL.of u2;have n1:its.toArray.size=ds.length:=by rw[aD,<-v1.length,q1.length]
  have n2:its2.toArray.size=es.length:=by rw[aD,<-v2.length,q2.length]
  by_cases hl:ds.length=es.length
  ·rw[T9 hl]at h2
   obtain⟨ev,_⟩:=Xl h2;have ev':(aR ds.length).all (eAt (Ev.eqD S 5) ds es)=b:=by
    rw[<-ev,<-hl,lK];simp
   refine SeqAt.RcNeAt.lists p1.isList p2.isList (by omega) (by omega) (Vd I st hu q1 q2 v1 v2 h2) X.prog X.w X.xe _ ?_
   rw[n1,ev'];exact⟨.bl !b,H,I,rfl,q⟩
  ·rw[T8 hl]at h2
   refine SeqAt.RcNeAt.lists_lengths p1.isList p2.isList (bne_iff_ne.mpr<|by omega) (by omega) X.prog X.w X.xe _ ?_
   exact⟨.bl !b,H,I,congrArg (λz=>bv !z)<|ak h2,q⟩
end
section
variable{K:aj}{ρ:List aw}{H:Hp}{S:Zc}
theorem vH(hf:∀x x' y v b b',Rep ρ H x v->Rep ρ H x' v->f x y=aa b->f x' y=aa b'->b=b') :
  ∀{ds ds' es:List D}{xs:List V}{b b':Bool},Rq ρ H ds xs->Rq ρ H ds' xs->Ev.eqL f ds es=aa b->Ev.eqL f ds' es=aa b'->b=b'
 |[],[],[],_,b,b',_,_,h,h'=>(ak h).symm.trans (ak h')
 |[],[],_::_,_,b,b',_,_,h,h'=>(ak h).symm.trans (ak h')
 |_::_,_::_,[],_,b,b',_,_,h,h'=>(ak h).symm.trans (ak h')
 |d::ds,d'::ds',e::es,_,b,b',r1,r2,h,h'=>by
  obtain⟨v,vs,rfl,a1,b1⟩:=r1;obtain⟨v',vs',e',a2,b2⟩:=r2;cases e';unfold Ev.eqL at h h';cases q1:f d e with
  |none=>rw[q1]at h;cases h
  |some p=>
   cases q2:Ev.eqL f ds es with
   |none=>rw[q1,q2]at h;cases h
   |some q=>
    cases q3:f d' e with
    |none=>rw[q3]at h';cases h'
    |some p'=>
     cases q4:Ev.eqL f ds' es with
     |none=>rw[q3,q4]at h';cases h'
     |some q'=>
      rw[q1,q2]at h;rw[q3,q4]at h';have z1:=ak h;have z2:=ak h';rw[<-z1,<-z2,hf d d' e v p p' a1 a2 q1 q3,vH hf b1 b2 q2 q4]
 |[],_::_,_,_,b,b',r1,r2,_,_=>by
  have l1:=r1.length;have l2:=r2.length;rw[l1]at l2;simp at l2
 |_::_,[],_,_,b,b',r1,r2,_,_=>by
  have l1:=r1.length;have l2:=r2.length;rw[l1]at l2;simp at l2
theorem wt(st:St3 K ρ S H):∀(k:Nat)(x x' y:D)(v:V)(b b':Bool),Rep ρ H x v->Rep ρ H x' v->Ev.eqD S k x y=aa b->Ev.eqD S k x' y=aa b'->b=b'
 |0,_,_,_,_,_,_,_,_,h,_=>by cases h
 |k+1,x,x',y,v,b,b',r1,r2,h,h'=>by
  cases x with
  |non=>
   cases r1.non';cases x' with|non=>exact ak<|h.symm.trans h'|bl _=>cases r2.bl'|int _=>cases r2.int'|str _=>cases r2.str'|tup _=>obtain⟨_,_,z,_⟩:=r2.tup';cases z|loc _=>obtain⟨_,z,_⟩:=r2.loc';cases z
  |bl i=>
   cases r1.bl';cases x' with|bl j=>cases r2.bl';exact ak<|h.symm.trans h'|non=>cases r2.non'|int _=>cases r2.int'|str _=>cases r2.str'|tup _=>obtain⟨_,_,z,_⟩:=r2.tup';cases z|loc _=>obtain⟨_,z,_⟩:=r2.loc';cases z
  |int i=>
   cases r1.int';cases x' with|int j=>cases r2.int';exact ak<|h.symm.trans h'|non=>cases r2.non'|bl _=>cases r2.bl'|str _=>cases r2.str'|tup _=>obtain⟨_,_,z,_⟩:=r2.tup';cases z|loc _=>obtain⟨_,z,_⟩:=r2.loc';cases z
  |str i=>
   cases r1.str';cases x' with|str j=>cases r2.str';exact ak<|h.symm.trans h'|non=>cases r2.non'|bl _=>cases r2.bl'|int _=>cases r2.int'|tup _=>obtain⟨_,_,z,_⟩:=r2.tup';cases z|loc _=>obtain⟨_,z,_⟩:=r2.loc';cases z
  |tup ds=>
   obtain⟨p,xs,rfl,hp,q1⟩:=r1.tup';cases y with
   |tup es=>
    cases x' with
    |tup ds'=>
     obtain⟨p',xs',z,hp',q2⟩:=r2.tup';cases z;rw[hp]at hp';cases hp';exact vH (λx x' y v b b'=>wt st k x x' y v b b') q1 q2 h h'
    |non=>cases r2.non'
    |bl _=>cases r2.bl'
    |int _=>cases r2.int'
    |str _=>cases r2.str'
    |loc _=>cases h'
   |_=>cases h
  |loc m=>
   obtain⟨p,rfl,hp⟩:=r1.loc';cases y with
   |loc n=>
    cases x' with
    |loc m'=>
     obtain⟨p',z,hp'⟩:=r2.loc';cases z;by_cases hm:m=m'
     ·subst hm
      exact ak<|h.symm.trans h'
     ·have one:∀{q:Nat}{b:Bool},Ev.eqD S (k+1) (.loc q) (.loc n)=aa b->∃ds,Ev.Zm S q=aa ds:=λ{q b} h=>by
       have h2:(match Ev.Zm S q,Ev.Zm S n with
        |some xs,aa ys=>if xs.length=ys.length then Ev.eqL (Ev.eqD S k) xs ys else aa ai
        |_,_=>ac)=aa b:=h
       cases e1:Ev.Zm S q with|none=>rw[e1]at h2;cases h2|some ds=>exact⟨ds,rfl⟩
      obtain⟨ds,e1⟩:=one h;obtain⟨ds',e2⟩:=one h';rcases st.nd m m' p hp hp' hm with⟨ns,z⟩|⟨ns,z⟩
      ·rw[(st.lst e1).1]at z;cases z
      ·rw[(st.lst e2).1]at z;cases z
    |non=>cases r2.non'
    |bl _=>cases r2.bl'
    |int _=>cases r2.int'
    |str _=>cases r2.str'
    |tup _=>cases h'
   |_=>cases h
theorem Gt :∀{ds:List D}{b:Bool},Ev.inL S x ds=aa b->∀d∈ds,∃c,Ev.eqD S Ev.Zo d x=aa c
 |[],_,_,d,hd=>by cases hd
 |y::ys,b,h,d,hd=>by
  unfold Ev.inL at h;cases q1:Ev.eqD S Ev.Zo y x with
  |none=>rw[q1]at h;cases h
  |some p=>
   cases q2:Ev.inL S x ys with
   |none=>rw[q1,q2]at h;cases h
   |some q=>
    rcases az.mp hd with rfl|hd
    ·exact⟨p,q1⟩
    ·exact Gt q2 d hd
theorem wJ :∀{ds:List D}{b:Bool},Ev.inL S x ds=aa b->(ds.any λd=>(Ev.eqD S Ev.Zo d x).getD ai)=b
 |[],_,h=>ak h
 |y::ys,b,h=>by
  unfold Ev.inL at h;cases q1:Ev.eqD S Ev.Zo y x with
  |none=>rw[q1]at h;cases h
  |some p=>
   cases q2:Ev.inL S x ys with
   |none=>rw[q1,q2]at h;cases h
   |some q=>
    rw[q1,q2]at h;rw[eB,wJ q2,q1,<-ak h];rfl
end
section
variable{X:Cx}{pq:List (aw×dB)}{σ:L2.St}{H:Hp}{s:au}{ρ:List aw}{S:Zc}
open Classical in
def Vy(I:Inv X pq σ H s)(st:St3 X.K ρ S H)(hu:A.units+6<dh)(rx:Rep ρ H x v)(ex:Zz v vv)
  (q:Rq ρ H ds xs)(vs:Vals xs its)(h:Ev.inL S x ds=aa b):∃e:aq->Bool,(∀u,u∈its.toArray->iX A s u vv (e u))/\its.toArray.any e=b:=by
 refine⟨λu=>ae (∃d∈ds,∃w,Rep ρ H d w/\Zz w u/\Ev.eqD S Ev.Zo d x=aa ah),λu hu'=>?_,?_⟩
 ·have hu2:u∈its:=by simpa using hu'
  obtain⟨j,hj,e⟩:=bZ hu2;have hl:j<ds.length:=by rw[<-q.length,vs.length];exact hj
  obtain⟨w,g,r⟩:=q.get<|ag hl;obtain⟨u',g',r'⟩:=vs.get g;have eu:u'=u:=by
   rw[ag hj]at g';exact(ak g').symm.trans e
  subst eu;obtain⟨c,hc⟩:=Gt h ds[j]<|ba hl;have ec:ae (∃d∈ds,∃w,Rep ρ H d w/\Zz w u'/\Ev.eqD S Ev.Zo d x=aa ah)=c:=by
   cases c with
   |true=>exact T5 ⟨ds[j],ba hl,w,r,r',hc⟩
   |false=>
    refine T4 ?_
    rintro ⟨d,hd,w',a1,a2,a3⟩
    cases a2.inj r';exact T7 (wt st 6 d ds[j] x w ah ai a1 r a3 hc) (by decide)
  dsimp only
  rw[ec];exact G2 I st 6 A ds[j] x w v u' vv c hu r rx r' ex hc
 ·rw[<-wJ h,List.any_toArray,bT,eV,eV]
  constructor
  ·rintro ⟨u,hu1,h1⟩
   obtain⟨d,hd,w,a1,a2,a3⟩:=T6 h1;exact⟨d,hd,by rw[a3];rfl⟩
  ·rintro ⟨d,hd,h1⟩
   obtain⟨j,hj,e⟩:=bZ hd;subst e;obtain⟨w,g,r⟩:=q.get<|ag hj;obtain⟨u,g',r'⟩:=vs.get g;refine⟨u,cy g',T5 ⟨ds[j],hd,w,r,r',?_⟩⟩;obtain⟨c,hc⟩:=Gt h ds[j] hd;rw[hc]at h1 ⊢;exact congrArg aa h1
end
section
variable{X:Cx}{xw:Nat->Hp->Prop}{C:Calls}{e a b c:Expr}{i j k:E}{pos p p':d8}
def Zey(hu:X.A.units+7<dh):OpR X (cg .In) (λv u H Q=>∃ρ S x ds b,St3 X.K ρ S H/\Rep ρ H x v/\(Rep ρ H (.tup ds) u\/∃n,Rep ρ H (.loc n) u/\S[n]?=aa (.lst ds))/\Ev.inL S x ds=aa b/\Q (.bl b) H):=by
 intro pq s σ H v u vv uu Q I e1 e2 h;obtain⟨ρ,S,x,ds,b,st,rx,ry,hb,q⟩:=h;rcases ry with ry|⟨n,ry,hn⟩
 ·obtain⟨p,xs,rfl,hp,q1⟩:=ry.tup'
  cases e2;obtain⟨its,v1,t1,_⟩:=I.tuple<|SqT.of hp;obtain⟨f,h1,h2⟩:=Vy I st (YA hu) rx e1 q1 v1 hb;exact SeqAt.in_tupleAt f t1 h1 (by rw[h2];exact⟨.bl b,H,I,rfl,q⟩)
 ·obtain⟨p,rfl,hp⟩:=ry.loc'
  cases e2;obtain⟨p',hp',xs,hx,q1⟩:=st.at hn;rw[hp]at hp';cases hp';obtain⟨its,v1,t1,_⟩:=I.list<|SqL.of hx;obtain⟨f,h1,h2⟩:=Vy I st (YA hu) rx e1 q1 v1 hb;exact SeqAt.in_listAt f t1.isList h1 (by rw[h2];exact⟨.bl b,H,I,rfl,q⟩)
def Zcx(hu:X.A.units+7<dh):OpR X (cg .NotIn) (λv u H Q=>∃ρ S x ds b,St3 X.K ρ S H/\Rep ρ H x v/\(Rep ρ H (.tup ds) u\/∃n,Rep ρ H (.loc n) u/\S[n]?=aa (.lst ds))/\Ev.inL S x ds=aa b/\Q (.bl !b) H):=by
 intro pq s σ H v u vv uu Q I e1 e2 h;obtain⟨ρ,S,x,ds,b,st,rx,ry,hb,q⟩:=h;rcases ry with ry|⟨n,ry,hn⟩
 ·obtain⟨p,xs,rfl,hp,q1⟩:=ry.tup'
  cases e2;obtain⟨its,v1,t1,_⟩:=I.tuple<|SqT.of hp;obtain⟨f,h1,h2⟩:=Vy I st (YA hu) rx e1 q1 v1 hb;exact SeqAt.notIn_tupleAt f t1 h1 (by rw[h2];exact⟨.bl !b,H,I,rfl,q⟩)
 ·obtain⟨p,rfl,hp⟩:=ry.loc'
  cases e2;obtain⟨p',hp',xs,hx,q1⟩:=st.at hn;rw[hp]at hp';cases hp';obtain⟨its,v1,t1,_⟩:=I.list<|SqL.of hx;obtain⟨f,h1,h2⟩:=Vy I st (YA hu) rx e1 q1 v1 hb;exact SeqAt.notIn_listAt f t1.isList h1 (by rw[h2];exact⟨.bl !b,H,I,rfl,q⟩)
variable{ρ:List aw}{H:Hp}{S:Zc}{x y:D}{v u:V}{Q:VK}{K:aj}
def ZfC(st:St3 K ρ S H)(rx:Rep ρ H x v)(ry:Rep ρ H y u)(h:End K xw Rep ρ H Q (Ev.YZ .lt x y S)):rI0 (λi j=>.bl<|ae<|i<j) v u H Q:=by
 cases x with
 |int i=>cases y with|int j=>exact⟨i,j,rx.int',ry.int',End.ok h st<|ZC _⟩|_=>exact False.elim h
 |_=>cases y<;>exact False.elim h
def Zfn(st:St3 K ρ S H)(rx:Rep ρ H x v)(ry:Rep ρ H y u)(h:End K xw Rep ρ H Q (Ev.YZ .le x y S)):rI0 (λi j=>.bl<|ae<|i<=j) v u H Q:=by
 cases x with
 |int i=>cases y with|int j=>exact⟨i,j,rx.int',ry.int',End.ok h st<|ZC _⟩|_=>exact False.elim h
 |_=>cases y<;>exact False.elim h
def ZfQ(st:St3 K ρ S H)(rx:Rep ρ H x v)(ry:Rep ρ H y u)(h:End K xw Rep ρ H Q (Ev.YZ .ge x y S)):rI0 (λi j=>.bl<|ae<|j<=i) v u H Q:=by
 cases x with
 |int i=>cases y with|int j=>exact⟨i,j,rx.int',ry.int',End.ok h st<|ZC _⟩|_=>exact False.elim h
 |_=>cases y<;>exact False.elim h
end
section
variable{X:Cx}{xw:Nat->Hp->Prop}{C:Calls}{e a b c:Expr}{i j k:E}{pos p p':d8}
def WA{α β γ:Type}(r:R α)(f:α->Zc->R β)(g:β->Zc->R γ):(r.bind f).bind g=r.bind λa S=>(f a S).bind g:=by cases r<;>rfl
def vV{α β:Type}{o:Option α}{S S':Zc}{f:α->Zc->R β}{z:β}(h:(Ev.ob o S).bind f=.ok z S'):∃a,o=aa a/\f a S=.ok z S':=by
 cases o with|none=>cases h|some a=>exact⟨a,rfl,h⟩
def Za9{o:Cop}{x y:D}{S S':Zc}{z:D}(h:Ev.YZ o x y S=.ok z S'):∃b,z=.bl b:=by
 have fin:∀{n:Bool},R.ok (D.bl n) S=.ok z S'->∃b,z=.bl b:=λ{n} e=>by grind
 cases o with
 |eq=>obtain⟨_,_,e⟩:=vV h;exact fin e
 |ne=>obtain⟨_,_,e⟩:=vV h;exact fin e
 |lt=>cases x with
  |int=>cases y with|int=>exact fin h|_=>exact Ev.nok h
  |_=>exact Ev.nok h
 |le=>cases x with
  |int=>cases y with|int=>exact fin h|_=>exact Ev.nok h
  |_=>exact Ev.nok h
 |ge=>cases x with
  |int=>cases y with|int=>exact fin h|_=>exact Ev.nok h
  |_=>exact Ev.nok h
 |is=>cases x<;>cases y<;>first|exact fin h|exact Ev.nok h
 |inn=>cases q:Ev.VH S x y with|ok b S1=>have h':((Ev.VH S x y).bind λb S=>R.ok (D.bl b) S)=.ok z S':=h;rw[q]at h';cases h';exact⟨b,rfl⟩|ex _ _=>have h':((Ev.VH S x y).bind λb S=>R.ok (D.bl b) S)=.ok z S':=h;rw[q]at h';cases h'|no=>have h':((Ev.VH S x y).bind λb S=>R.ok (D.bl b) S)=.ok z S':=h;rw[q]at h';cases h'
 |nin=>cases q:Ev.VH S x y with|ok b S1=>have h':((Ev.VH S x y).bind λb S=>R.ok (D.bl !b) S)=.ok z S':=h;rw[q]at h';cases h';exact⟨!b,rfl⟩|ex _ _=>have h':((Ev.VH S x y).bind λb S=>R.ok (D.bl !b) S)=.ok z S':=h;rw[q]at h';cases h'|no=>have h':((Ev.VH S x y).bind λb S=>R.ok (D.bl !b) S)=.ok z S':=h;rw[q]at h';cases h'
def Wg(X:Cx)(xw:Nat->Hp->Prop)(op:nK)(o:Cop):Prop:=OpR X (cg op)<|Zcu X.K xw o
def OpR.imp(h:OpR X f r)(k:∀v u H Q,r' v u H Q->r v u H Q):OpR X f r':=λpq s σ H x y v u Q I e1 e2 q=>h pq s σ H x y v u Q I e1 e2<|k x y H Q q
def j8(hu:X.A.units+7<dh):Wg X xw .Eq .eq:=ZeE (by omega)
def qZ(hu:X.A.units+7<dh):Wg X xw .NotEq .ne:=ZdS (by omega)
def wj(hu:X.A.units+7<dh):Wg X xw .Lt .lt:=OpR.imp ZfN λv u H Q ⟨ρ,S,x,y,st,rx,ry,h⟩=>ZfC st rx ry h
def Jp(hu:X.A.units+7<dh):Wg X xw .LtE .le:=OpR.imp Zff λv u H Q ⟨ρ,S,x,y,st,rx,ry,h⟩=>Zfn st rx ry h
def ZaE(hu:X.A.units+7<dh):Wg X xw .GtE .ge:=OpR.imp ZfL λv u H Q ⟨ρ,S,x,y,st,rx,ry,h⟩=>ZfQ st rx ry h
def jH(hu:X.A.units+7<dh):Wg X xw .Is .is:=OpR.imp (ZeP.or Zen) λv u H Q ⟨ρ,S,x,y,st,rx,ry,h⟩=>by
 cases y with
 |non=>
  refine .inl ⟨ry.non',?_⟩;have e:ae (x=D.non)=ae (v=V.non):=by
   cases x with|non=>rw[rx.non'];simp|bl _=>rw[rx.bl'];simp|int _=>rw[rx.int'];simp|str _=>rw[rx.str'];simp|tup _=>obtain⟨_,_,z,_⟩:=rx.tup';rw[z];simp|loc _=>obtain⟨_,z,_⟩:=rx.loc';rw[z];simp
  rw[<-e];have h':End X.K xw Rep ρ H Q (.ok (.bl<|ae<|x=.non) S):=by cases x<;>exact h
  exact End.ok h' st (ZC _)
 |bl j=>cases x with|bl i=>exact .inr ⟨i,j,rx.bl',ry.bl',End.ok h st<|ZC _⟩|_=>exact False.elim h
 |_=>cases x<;>exact False.elim h
noncomputable def Zdy:Ob->Option (List<|List Int)
 |.fz ks=>aa ks
 |_=>ac
def yd(st:St3 X.K ρ S H)(ry:Rep ρ H y u)(h:End X.K xw Rep ρ H Q ((Ev.VH S x y).bind f)) :
  (∃ds b,(Rep ρ H (.tup ds) u\/∃n,Rep ρ H (.loc n) u/\S[n]?=aa (.lst ds))/\Ev.inL S x ds=aa b/\End X.K xw Rep ρ H Q (f b S))\/
  (∃n o l k ks,Rep ρ H (.loc n) u/\S[n]?=aa o/\Zdy o=aa l/\x=.tup k/\Ev.YD k=aa ks/\End X.K xw Rep ρ H Q (f (l.contains ks) S)):=by
 cases y with
 |tup ys=>
  obtain⟨b,hb,h1⟩:=End.ob (h)
  exact .inl ⟨ys,b,.inl ry,hb,h1⟩
 |loc n=>
  have h':End X.K xw Rep ρ H Q ((Ev.Zbv S x S[n]?).bind f):=h;cases q:S[n]? with
  |none=>rw[q]at h';exact False.elim h'
  |some o=>
   rw[q]at h';cases o with
   |lst ys=>
    obtain⟨b,hb,h1⟩:=End.ob (h')
    exact .inl ⟨ys,b,.inr ⟨n,ry,q⟩,hb,h1⟩
   |fz l=>
    cases x with
    |tup k=>
     have h2:End X.K xw Rep ρ H Q (((Ev.ob (Ev.YD k) S).bind λk S=>R.ok (l.contains k) S).bind f):=h'
     cases e:Ev.YD k with|none=>rw[e]at h2;exact False.elim h2|some ks=>rw[e]at h2;exact .inr ⟨n,_,_,k,ks,ry,q,rfl,rfl,e,h2⟩
    |_=>exact False.elim h'
   |_=>exact False.elim h'
 |_=>exact False.elim h
def Xx{op:nK}{o:Cop}(hc:Wg X xw op o)(ha:CE X xw C a i)(hb:CE X xw C b j)(hm:c8 op b=ai:=by first|exact Yb _|rfl|(with_unfolding_all rfl)):CE X xw C (.Compare a [op] [b] pos) (.cmp o i j):=
 PE.imp (ZcL hc ha hb hm) (ZdL)
def Xw{op:nK}{o:Cop}(hc:Wg X xw op o)(ha:CE X xw C a i)(hb:CE X xw C b j)(hm:c8 op b=ai:=by first|exact Yb _|rfl|(with_unfolding_all rfl)):CT X xw C (.Compare a [op] [b] pos) (.cmp o i j):=
 PT.imp (Zci hc ha hb hm) λσ H Q ⟨ρ,l,S,st,lr,h⟩=>by
  have h':End X.K xw Gf ρ H Q (((ev C i l S).bind λx S=>(ev C j l S).bind λy S=>Ev.YZ o x y S).bind λx S=>Ev.ob (Ev.Yc S x) S):=h
  simp only[WA]at h';refine⟨ρ,l,S,st,lr,h'.bind λx S1 ρ1 H1 v f1 st1 r1 h1=>⟨ρ1,l,S1,st1,lr.mono f1,h1.bind λy S2 ρ2 H2 u f2 st2 r2 h2=>⟨ρ2,S2,x,y,st2,r1.mono f2,r2,?_⟩⟩⟩
  have h3:∀{r:R D},(∀z S',r=.ok z S'->∃b,z=.bl b)->End X.K xw Gf ρ2 H2 Q (r.bind λx S=>Ev.ob (Ev.Yc S x) S)->End X.K xw Rep ρ2 H2 (λx H'=>∃k,x=V.bl k/\Q k H') r:=λ{r} hr h=>by
   cases r with
   |no=>exact h
   |ex _ _=>exact h
   |ok z S3=>
    obtain⟨b,rfl⟩:=hr z S3 rfl;exact λρ3 H3 w f3 st3 r3=>⟨b,r3.bl',h ρ3 H3 b f3 st3 rfl⟩
  exact h3 (λz S' e=>Za9 e) h2
def VF{op op':nK}{o o':Cop}{d:Expr}{k:E}(hc:Wg X xw op o)(hc':Wg X xw op' o')(ha:CE X xw C a i)(hb:CE X xw C b j)(hd:CE X xw C d k)
  (hm:lastMarks [op,op'] [b,d]=ai:=by with_unfolding_all rfl):CE X xw C (.Compare a [op,op'] [b,d] pos) (.chain o o' i j k):=
 PE.imp (jP hc hc' ha hb hd hm) λσ H Q ⟨ρ,l,S,st,lr,h⟩=>by
  refine⟨ρ,l,S,st,lr,End.bind (h) λx S1 ρ1 H1 v f1 st1 r1 h1=>⟨ρ1,l,S1,st1,lr.mono f1,h1.bind λy S2 ρ2 H2 u f2 st2 r2 h2=>⟨ρ2,S2,x,y,st2,r1.mono f2,r2,h2.bind λz S3 ρ3 H3 w f3 st3 r3 h3=>?_⟩⟩⟩
  cases z with
  |bl n=>
   refine⟨n,r3.bl',?_⟩;cases n with|true=>exact⟨ρ3,l,S3,st3,((lr.mono f1).mono f2).mono f3,End.bind (h3) λt S4 ρ4 H4 t' f4 st4 r4 h4=>⟨ρ4,S4,y,t,st4,(r2.mono f3).mono f4,r4,h4⟩⟩|false=>exact End.ok h3 st3 (ZC _)
  |_=>exact False.elim h3
end
section
variable{X:Cx}{xw:Nat->Hp->Prop}{C:Calls}{e a b c:Expr}{i j k:E}{pos p p' p2:d8}
variable{ρ:List aw}{H:Hp}{S:Zc}{x y:D}{v u:V}{Q:VK}{K:aj}
theorem WF:∀{ks:List D}{k:List Int}{xs:List V},Ev.YD ks=aa k->Rq ρ H ks xs->xs=(k.map (cI:Int->Key)).map kV
 |[],k,xs,h,r=>by cases h;rw[r];rfl
 |.int n::ks,k,xs,h,r=>by
  obtain⟨v,vs,rfl,a1,b1⟩:=r;have h':(Ev.YD ks).map (n :: ·)=aa k:=h
  cases q:Ev.YD ks with
  |none=>rw[q]at h';cases h'
  |some k'=>
   rw[q]at h';have e:=ak h';rw[<-e,a1.int',WF q b1];rfl
 |.non::ks,k,xs,h,r=>by cases h
 |.bl _::ks,k,xs,h,r=>by cases h
 |.str _::ks,k,xs,h,r=>by cases h
 |.tup _::ks,k,xs,h,r=>by cases h
 |.loc _::ks,k,xs,h,r=>by cases h
theorem JR:∀{k k':List Int},k.map (cI:Int->Key)=k'.map cI->k=k'
 |[],[],_=>rfl
 |[],_::_,h=>by simp at h
 |_::_,[],h=>by simp at h
 |a::k,b::k',h=>by
  rw[aU,aU]at h;injection h with h1 h2
  rw[cI.inj h1,JR h2]
def uJ{k:List Int}{l:List (List Int)}{vs:List (List Key×V)}(h:vs.map (·.1)=l.map (·.map (cI:Int->Key))):(Uw vs<|k.map cI).isSome=l.contains k:=by
 rw[<-zB,show(vs.any λkv=>ae<|kv.1=k.map cI)=(vs.map (·.1)).any λy=>ae (y=k.map cI) by rw[List.any_map];rfl,h,List.any_map,List.contains_eq_any_beq]
 congr 1
 funext y
 show ae (y.map cI=k.map cI)=(k == y);by_cases z:y=k
 ·subst z;simp
 ·rw[T4 λw=>z<|JR w,beq_eq_false_iff_ne.mpr<|Ne.symm z]
def ua{S:Zc}{o:Ob}{l:List (List Int)}{ks:List Int}{n:Nat}{p q:aw}(st:St3 X.K ρ S H)(hp:ρ[n]?=aa p)(hn:S[n]?=aa o)(hl:Zdy o=aa l)(hq:H q=aa (.tup<|(ks.map cI).map kV)):∃r,DGet H p (.ref q) r/\r.isSome=l.contains ks:=by
 obtain⟨p',hp',x⟩:=st.at hn;rw[hp]at hp';cases hp';cases o with
 |fz ks'=>
  obtain⟨o,vs,hx,r⟩:=x;cases hl;exact⟨_,.inr ⟨vs,_,q,.inr ⟨o,hx⟩,rfl,hq,rfl⟩,uJ r⟩
 |_=>cases hl
def ZeC(hu:X.A.units+7<dh):OpR X (cg .In) (λv u H Q=>∃a y o,u=.ref a/\v=y/\DGet H a y o/\Q (.bl o.isSome) H):=by
 intro pq s σ H v u vv uu Q I e1 e2 h;obtain⟨a,y,o,rfl,rfl,g,q⟩:=h;cases e2;exact Zga (by omega) I g e1 λs' I'=>⟨.bl o.isSome,H,I',rfl,q⟩
def ZcT(hu:X.A.units+7<dh):OpR X (cg .NotIn) (λv u H Q=>∃a y o,u=.ref a/\v=y/\DGet H a y o/\Q (.bl !o.isSome) H):=by
 intro pq s σ H v u vv uu Q I e1 e2 h;obtain⟨a,y,o,rfl,rfl,g,q⟩:=h;cases e2;exact Zb4 (by omega) I g e1 λs' I'=>⟨.bl !o.isSome,H,I',rfl,q⟩
def jI(hu:X.A.units+7<dh):Wg X xw .In .inn:=OpR.imp ((Zey hu).or<|ZeC hu) λv u H Q ⟨ρ,S,x,y,st,rx,ry,h⟩=>by
 rcases yd st ry (h)with⟨ds,b,hy,hb,h1⟩|⟨n,o,l,k,ks,hy,hn,hl,rfl,hk,h1⟩
 ·exact .inl ⟨ρ,S,x,ds,b,st,rx,hy,hb,End.ok h1 st<|ZC _⟩
 ·obtain⟨p,rfl,hp⟩:=hy.loc'
  obtain⟨q,xs,rfl,hq,r2⟩:=rx.tup';obtain⟨r,g,e⟩:=ua st hp hn hl (by rw[hq,WF hk r2])
  refine .inr ⟨p,.ref q,r,rfl,rfl,g,?_⟩;rw[e];exact End.ok h1 st<|ZC _
def yU(hu:X.A.units+7<dh):Wg X xw .NotIn .nin:=OpR.imp ((Zcx hu).or<|ZcT hu) λv u H Q ⟨ρ,S,x,y,st,rx,ry,h⟩=>by
 rcases yd st ry (h)with⟨ds,b,hy,hb,h1⟩|⟨n,o,l,k,ks,hy,hn,hl,rfl,hk,h1⟩
 ·exact .inl ⟨ρ,S,x,ds,b,st,rx,hy,hb,End.ok h1 st<|ZC _⟩
 ·obtain⟨p,rfl,hp⟩:=hy.loc'
  obtain⟨q,xs,rfl,hq,r2⟩:=rx.tup';obtain⟨r,g,e⟩:=ua st hp hn hl (by rw[hq,WF hk r2])
  refine .inr ⟨p,.ref q,r,rfl,rfl,g,?_⟩;rw[e];exact End.ok h1 st<|ZC _
def ZaU(ha:CE X xw C a i)(hb:CE X xw C b j)(hs:wP b:=by intro _ _;with_unfolding_all rfl):CE X xw C (.Subscript a b pos) (.ix i j):=PE.imp (ZdA (vL.or ZdI) ha hb hs) (Wv λ{ρ H S x y v u Q} st rx ry h=>by
 cases x with
 |tup ds=>cases y with
  |int n=>
   obtain⟨p,xs,rfl,hp,r⟩:=rx.tup';have h':End X.K xw Rep ρ H Q (Ev.ob (Ev.at' ds n) S):=h;cases q:Ev.at' ds n with
   |none=>rw[q]at h';exact False.elim h'
   |some d=>
    rw[q]at h';unfold Ev.at' at q;cases q2:Ev.ixN ds.length n with
    |none=>rw[q2]at q;cases q
    |some m=>
     rw[q2]at q;obtain⟨w,g,rw'⟩:=r.get (q)
     refine .inr ⟨p,xs,n,w,rfl,ry.int',SqT.of hp,?_,End.ok h' st rw'⟩;unfold atI;rw[r.length,show ixN ds.length n=aa m from q2]
     exact g
  |_=>exact False.elim h
 |loc m=>cases y with
  |int n=>
   have h':End X.K xw Rep ρ H Q (match Ev.Yd S m with
    |some xs=>Ev.ob (Ev.at' xs n) S
    |none=>.no):=h
   cases e1:Ev.Yd S m with
   |none=>rw[e1]at h';exact False.elim h'
   |some ds=>
    rw[e1]at h';obtain⟨p,xs,q1,hp,r⟩:=st.seq e1;obtain⟨p',rfl,t⟩:=rx.loc';rw[q1]at t;cases t;have h2:End X.K xw Rep ρ H Q (Ev.ob (Ev.at' ds n) S):=h';cases q:Ev.at' ds n with
    |none=>rw[q]at h2;exact False.elim h2
    |some d=>
     rw[q]at h2;unfold Ev.at' at q;cases q2:Ev.ixN ds.length n with
     |none=>rw[q2]at q;cases q
     |some k=>
      rw[q2]at q;obtain⟨w,g,rw'⟩:=r.get (q)
      refine .inl ⟨p,xs,n,w,rfl,ry.int',hp,?_,End.ok h2 st rw'⟩;unfold atI;rw[r.length,show ixN ds.length n=aa k from q2]
      exact g
  |_=>exact False.elim h
 |_=>cases y<;>exact False.elim h)
def GG:CO X xw C ac ac:=PO.imp Zcq λσ H Q ⟨ρ,l,S,st,lr,h⟩=>End.ok h st rfl
def Gy(h:CE X xw C e i):CO X xw C (aa e) (aa i):=PO.imp (Z8 h) λσ H Q ⟨ρ,l,S,st,lr,h⟩=>by
 refine⟨ρ,l,S,st,lr,End.bind (h) λx S1 ρ1 H1 v f1 st1 r1 h1=>?_⟩
 cases x with|int n=>exact⟨n,r1.int',End.ok h1 st1 rfl⟩|_=>exact False.elim h1
def G5(n d:Nat)(o:Option Int):Ev.sIx n d o=HT.sIx n d o:=by
 cases o with
 |none=>rfl
 |some i=>first|rfl|(rfl)
def vF(r:Rq ρ H ds xs)(lo hi:Option Int):Rq ρ H (Ev.cut ds lo hi) (YR xs lo hi):=by
 unfold Ev.cut YR;rw[G5,G5,r.length];exact(r.drop _).take _
def ZaO{lo hi:Option Expr}{il ih:Option E}(ha:CE X xw C a i)(hl:CO X xw C lo il)(hh:CO X xw C hi ih):CE X xw C (.Subscript a (.Slice lo hi ac p2) pos) (.sl i il ih):=
 PE.imp (jb (ZeM.or<|Zbf.or ZbV) ha hl hh) λσ H Q ⟨ρ,l,S,st,lr,h⟩=>by
  refine⟨ρ,l,S,st,lr,End.bind (h) λx S1 ρ1 H1 v f1 st1 r1 h1=>⟨ρ1,l,S1,st1,lr.mono f1,h1.bind λy S2 ρ2 H2 u f2 st2 r2 h2=>⟨ρ2,l,S2,st2,(lr.mono f1).mono f2,h2.bind λz S3 ρ3 H3 w f3 st3 r3 h3=>?_⟩⟩⟩
  have e1:y=u:=r2;have e2:z=w:=r3;subst e1 e2;have r0:=(r1.mono f2).mono f3;cases x with
  |tup ds=>
   obtain⟨p,xs,rfl,hp,r⟩:=r0.tup';have h':=h3;by_cases hw:HT.sIx xs.length 0 y=0/\HT.sIx xs.length xs.length z=xs.length
   ·refine .inr (.inl ⟨p,xs,rfl,SqT.of hp,hw,End.ok h' st3 ?_⟩)
    have ew:Ev.cut ds y z=ds:=by
     unfold Ev.cut;rw[G5,G5,<-r.length,hw.1,hw.2,kx,Nat.sub_zero,r.length,mh]
    rw[ew];exact ZU hp r
   ·exact .inl ⟨p,xs,rfl,SqT.of hp,hw,h'.newT st3<|vF r y z⟩
  |loc n=>
   have h':End X.K xw Rep ρ3 H3 Q (match Ev.Zm S3 n with
    |some xs=>.ok (.loc S3.length) (S3++[.lst<|Ev.cut xs y z])
    |none=>.no):=h3
   cases e1:Ev.Zm S3 n with
   |none=>rw[e1]at h';exact False.elim h'
   |some ds=>
    rw[e1]at h';obtain⟨_,p,xs,q1,hp,r⟩:=st3.lst e1;obtain⟨p',rfl,t⟩:=r0.loc';rw[q1]at t;cases t;exact .inr (.inr ⟨p,xs,rfl,SqL.of hp,End.newL h' st3<|vF r y z⟩)
  |_=>exact False.elim h3
def VP(K:aj)(xw:Nat->Hp->Prop)(f:Bf):List V->Hp->VK->Prop:=λvs H Q=>∃ρ S ds,St3 K ρ S H/\Rq ρ H ds vs/\End K xw Rep ρ H Q (Ev.Y9 f ds S)
def ZK.imp{r r':List V->Hp->VK->Prop}(h:ZK X f r)(k:∀vs H Q,r' vs H Q->r vs H Q):ZK X f r':=λpq s σ H xs us Q I e q=>h pq s σ H xs us Q I e<|k xs H Q q
def Zau :∀σ H Q,tE X xw (ev C<|.blt f is) σ H Q->tCB (VP X.K xw f) (tA X xw<|evs C is) σ H Q:=λσ H Q ⟨ρ,l,S,st,lr,h⟩=>
 ⟨ρ,l,S,st,lr,End.bind (h) λxs S1 ρ1 H1 vs f1 st1 r1 h1=>⟨ρ1,S1,xs,st1,r1,h1⟩⟩
def YM(r:Rq ρ H [d] vs):∃v,vs=[v]/\Rep ρ H d v:=by
 obtain⟨v,ws,rfl,a1,b1⟩:=r;exact⟨v,by rw[b1],a1⟩
def wy{d e:D}{vs:List V}(r:Rq ρ H [d,e] vs):∃v w,vs=[v,w]/\Rep ρ H d v/\Rep ρ H e w:=by
 obtain⟨v,ws,rfl,a1,b1⟩:=r;obtain⟨w,rfl,b2⟩:=YM b1;exact⟨v,w,rfl,a1,b2⟩
def VY(st:St3 K ρ S H)(rx:Rep ρ H x v)(h:Ev.Wf S x=aa ds):∃p xs,v=.ref p/\(SqL K H p xs\/SqT K H p xs)/\Rq ρ H ds xs:=by
 cases x with
 |tup es=>
  cases h;obtain⟨p,xs,rfl,hp,r⟩:=rx.tup';exact⟨p,xs,rfl,.inr<|SqT.of hp,r⟩
 |loc n=>
  obtain⟨p,rfl,hp⟩:=rx.loc';obtain⟨p',xs,q1,hx,r⟩:=st.seq (h)
  rw[hp]at q1;cases q1;exact⟨p,xs,rfl,.inl hx,r⟩
 |_=>cases h
def vW:ZK X (.builtin "len") (VP X.K xw .len):=ZK.imp GI λvs H Q ⟨ρ,S,ds,st,r,h⟩=>by
 cases ds with
 |nil=>exact False.elim h
 |cons d ds=>cases ds with
  |cons _ _=>exact False.elim h
  |nil=>
   obtain⟨v,rfl,rv⟩:=YM r;obtain⟨xs,hx,h1⟩:=End.ob (h)
   obtain⟨p,ys,rfl,hq,r2⟩:=VY st rv hx;refine⟨p,ys,rfl,hq,?_⟩;rw[r2.length];exact End.ok h1 st<|Zq _
def Zef:∀(as:List D)(S:Zc),(∃a b,as=[.int a,.int b])\/Ev.Y9 .max2 as S=.no
 |[.int a,.int b],_=>.inl ⟨a,b,rfl⟩
 |[],_=>.inr rfl
 |[x],_=>.inr (by cases x<;>rfl)
 |x::y::_::_,_=>.inr (by cases x<;>first|rfl|(cases y<;>rfl))
 |[.non,_],_|[.bl _,_],_|[.str _,_],_|[.tup _,_],_|[.loc _,_],_=>.inr rfl
 |[.int _,.non],_|[.int _,.bl _],_|[.int _,.str _],_|[.int _,.tup _],_|[.int _,.loc _],_=>.inr rfl
def ZdN:∀(as:List D)(S:Zc),(∃a b,as=[.int a,.int b])\/Ev.Y9 .min2 as S=.no
 |[.int a,.int b],_=>.inl ⟨a,b,rfl⟩
 |[],_=>.inr rfl
 |[x],_=>.inr (by cases x<;>rfl)
 |x::y::_::_,_=>.inr (by cases x<;>first|rfl|(cases y<;>rfl))
 |[.non,_],_|[.bl _,_],_|[.str _,_],_|[.tup _,_],_|[.loc _,_],_=>.inr rfl
 |[.int _,.non],_|[.int _,.bl _],_|[.int _,.str _],_|[.int _,.tup _],_|[.int _,.loc _],_=>.inr rfl
def Zd6:∀(as:List D)(S:Zc),(∃a,as=[.int a])\/(∃b,as=[.bl b])\/Ev.Y9 .toInt as S=.no
 |[.int a],_=>.inl ⟨a,rfl⟩
 |[.bl b],_=>.inr (.inl ⟨b,rfl⟩)
 |x::_::_,_=>.inr (.inr<|by cases x<;>rfl)
 |[],_|[.non],_|[.str _],_|[.tup _],_|[.loc _],_=>.inr<|.inr rfl
def ZaK:∀(as:List D)(S:Zc),(∃a,as=[.tup a])\/(∃b,as=[.loc b])\/Ev.Y9 .tuple as S=.no
 |[.tup a],_=>.inl ⟨a,rfl⟩
 |[.loc b],_=>.inr (.inl ⟨b,rfl⟩)
 |x::_::_,_=>.inr (.inr<|by cases x<;>rfl)
 |[],_|[.non],_|[.str _],_|[.bl _],_|[.int _],_=>.inr<|.inr rfl
def Zcp:∀(as:List D)(S:Zc),(∃a,as=[a])\/Ev.Y9 .list as S=.no
 |[a],_=>.inl ⟨a,rfl⟩
 |[],_=>.inr rfl
 |x::_::_,_=>.inr (by cases x<;>rfl)
def ZeH:∀(as:List D)(S:Zc),(∃b,as=[.loc b])\/Ev.Y9 .all as S=.no
 |[.loc b],_=>.inl ⟨b,rfl⟩
 |x::_::_,_=>.inr (by cases x<;>rfl)
 |[],_|[.non],_|[.str _],_|[.bl _],_|[.int _],_|[.tup _],_=>.inr rfl
def vx(hc:X.calm=ah):ZK X (.builtin "max") (VP X.K xw .max2):=ZK.imp (uA hc) λvs H Q ⟨ρ,S,ds,st,r,h⟩=>by
 rcases Zef ds S with⟨m,n,rfl⟩|e
 ·obtain⟨v,w,rfl,r1,r2⟩:=wy r
  exact⟨m,n,by rw[r1.int',r2.int'],End.ok h st<|Zq _⟩
 ·rw[e]at h;exact h.elim
def wv(hc:X.calm=ah):ZK X (.builtin "min") (VP X.K xw .min2):=ZK.imp (uf hc) λvs H Q ⟨ρ,S,ds,st,r,h⟩=>by
 rcases ZdN ds S with⟨m,n,rfl⟩|e
 ·obtain⟨v,w,rfl,r1,r2⟩:=wy r
  exact⟨m,n,by rw[r1.int',r2.int'],End.ok h st<|Zq _⟩
 ·rw[e]at h;exact h.elim
def wS:ZK X (.type "int") (VP X.K xw .toInt):=ZK.imp uL λvs H Q ⟨ρ,S,ds,st,r,h⟩=>by
 rcases Zd6 ds S with⟨m,rfl⟩|⟨m,rfl⟩|e
 ·obtain⟨v,rfl,r1⟩:=YM r
  exact .inl ⟨m,by rw[r1.int'],End.ok h st<|Zq _⟩
 ·obtain⟨v,rfl,r1⟩:=YM r
  exact .inr ⟨m,by rw[r1.bl'],End.ok h st<|Zq _⟩
 ·rw[e]at h;exact h.elim
def Jk:ZK X (.type "tuple") (VP X.K xw .tuple):=ZK.imp QZ λvs H Q ⟨ρ,S,ds,st,r,h⟩=>by
 rcases ZaK ds S with⟨es,rfl⟩|⟨n,rfl⟩|e
 ·obtain⟨v,rfl,r1⟩:=YM r
  obtain⟨p,xs,rfl,hp,r2⟩:=r1.tup';exact⟨p,xs,rfl,.inr ⟨SqT.of hp,End.ok h st r1⟩⟩
 ·obtain⟨v,rfl,r1⟩:=YM r
  obtain⟨xs,hx,h1⟩:=End.ob (h)
  obtain⟨_,p,ys,q1,hp,r2⟩:=st.lst hx;obtain⟨p',rfl,t⟩:=r1.loc';rw[q1]at t;cases t;exact⟨p,ys,rfl,.inl ⟨SqL.of hp,h1.newT st r2⟩⟩
 ·rw[e]at h;exact h.elim
def zg:ZK X (.type "list") (VP X.K xw .list):=ZK.imp JW λvs H Q ⟨ρ,S,ds,st,r,h⟩=>by
 rcases Zcp ds S with⟨d,rfl⟩|e
 case inr=>rw[e]at h;exact h.elim
 case inl=>
  obtain⟨v,rfl,r1⟩:=YM r;obtain⟨xs,hx,h1⟩:=End.ob (h)
  obtain⟨p,ys,rfl,hq,r2⟩:=VY st r1 hx;exact⟨p,ys,rfl,hq,h1.newL st r2⟩
def Xi{f:Bf}{id:String}{x:bc}{es:List Expr}{is:List E}(hc:ZK X (.builtin id) (VP X.K xw f))(hm:X.mg x=ac)(ha:CA X xw C (e::es) is)(hg:Gl X x:=by rfl)(hv:cQ x=aa (.builtin id):=by rfl)(hn:x≠"__name__":=by decide)(hdb:(x == ("__debug__" : bc))=ai:=by decide)
  (he:aC (e::es) X.env=(ai,cb e X.env)::aC es X.env:=by rfl)(hpl:(cX pos<|aC es X.env).any (·.1)=ai:=by rfl):CE X xw C (.Call (.Name x p) (e::es) [] pos) (.blt f is):=
 PE.imp (Wx hc hg hm hv ha hn hdb he hpl) Zau
def WG{f:Bf}{id:String}{x:bc}{es:List Expr}{is:List E}(hc:ZK X (.type id) (VP X.K xw f))(hm:X.mg x=ac)(ha:CA X xw C (e::es) is)(hg:Gl X x:=by rfl)(hv:cQ x=aa (.type id):=by rfl)(hn:x≠"__name__":=by decide)(hdb:(x == ("__debug__" : bc))=ai:=by decide)
  (he:aC (e::es) X.env=(ai,cb e X.env)::aC es X.env:=by rfl)(hpl:(cX pos<|aC es X.env).any (·.1)=ai:=by rfl):CE X xw C (.Call (.Name x p) (e::es) [] pos) (.blt f is):=
 PE.imp (ui hc hg hm hv ha hn hdb he hpl) Zau
end
section
variable{X:Cx}{xw:Nat->Hp->Prop}{C:Calls}{e a b c:Expr}{i j k:E}{pos p p' p2:d8}
theorem W9:∀{ds:List D}{bs:List Bool},Ev.YI ds=aa bs->bs.length=ds.length/\∀j d,ds[j]?=aa d->Ev.UY d=aa (bs.getD j ai)
 |[],bs,h=>by cases h;exact⟨rfl,λj d e=>by simp at e⟩
 |d::ds,bs,h=>by
  unfold Ev.YI at h;cases q1:Ev.UY d with
  |none=>rw[q1]at h;cases h
  |some b=>
   cases q2:Ev.YI ds with
   |none=>rw[q1,q2]at h;cases h
   |some cs=>
    rw[q1,q2]at h;cases h;obtain⟨l,ih⟩:=W9 q2;refine⟨by rw[aP,aP,l],λj d' e=>?_⟩
    cases j with|zero=>simp at e;subst e;simpa using q1|succ j=>simpa using ih j d' (by simpa using e)
def uM(bs:List Bool):(aR bs.length).all (λj=>bs.getD j ai)=bs.all id:=by
 rw[bT,aV,aV]
 constructor
 ·intro h b hb
  obtain⟨j,hj,e⟩:=bZ hb;have:=h j<|bw.mpr hj
  simpa[ag hj,e]using this
 ·intro h j hj
  have hj':=bw.mp hj
  simpa[ag hj']using h bs[j]<|ba hj'
def qp(bs:List Bool):(aR bs.length).any (λj=>bs.getD j ai)=bs.any id:=by
 rw[bT,eV,eV]
 constructor
 ·rintro ⟨j,hj,h⟩
  have hj':=bw.mp hj;exact⟨bs[j],ba hj',by simpa[ag hj']using h⟩
 ·rintro ⟨b,hb,h⟩
  obtain⟨j,hj,e⟩:=bZ hb;exact⟨j,bw.mpr hj,by simpa[ag hj,e]using h⟩
def Vf(r:Rep ρ H d v)(e:Zz v u)(h:Ev.UY d=aa n)(s:au)(Q:Bool->au->Prop)(E:aq->au->Prop)(q:Q n s) :
  aW (aZ prog w) A (nD u) Q E s:=by
 cases d with
 |non=>cases r.non';cases e;cases h;exact truthy_none q
 |bl b=>cases r.bl';cases e;cases h;exact cC q
 |int m=>
  cases r.int';obtain⟨t,rfl⟩:=e;have h':=ak h;refine k8 ?_;have:(m != 0)=n:=by
   rw[<-h'];by_cases z:m=0
   ·subst z;rfl
   ·rw[T5 z];exact bne_iff_ne.mpr z
  rw[this];exact q
 |_=>cases h
def ql(hc:X.calm=ah):ZK X (.builtin "all") (λvs H Q=>∃ρ S ds n bs,St3 X.K ρ S H/\Rq ρ H [.loc n] vs/\Ev.Zm S n=aa ds/\Ev.YI ds=aa bs/\Q (.bl<|bs.all id) H):=by
 intro pq s σ H vs us Q I r h;obtain⟨ρ,S,ds,n,bs,st,rs,hl,hb,q⟩:=h;obtain⟨v,rfl,r1⟩:=YM rs;obtain⟨_,p,xs,q1,hx,rx⟩:=st.lst hl;obtain⟨p',rfl,t⟩:=r1.loc';rw[q1]at t;cases t;obtain⟨u,rfl,ru⟩:=WO r;cases ru;obtain⟨its,rv,pl,hz⟩:=I.list<|SqL.of hx;obtain⟨lb,tb⟩:=W9 hb;have hlt:p<s.heap.objs.size:=by obtain⟨_,e,_⟩:=pl.isList;exact aJ e
 have hlen:its.toArray.size=bs.length:=by rw[aD,<-rv.length,rx.length,lb]
 refine call_all_walk<|eG pl.isList ⟨s.heap.objs.size,[s.heap.objs.size,p],[s.heap.objs.size],its.toArray.size,(λi v=>its.toArray[i]?=aa v),(λi h=>h.IsListIter s.heap.objs.size p i/\h.IsList p its.toArray),λj=>bs.getD j ai,rfl,Walks.list (A:=X.A.in1) (I.ok.hd hc) s.heap.objs.size p (bf hlt) its.toArray,⟨⟨_,aM _ rfl,rfl,rfl⟩,pl.isList.push _⟩,?_,?_⟩
 ·intro j v s' Q' E' hv hQ'
  have hj:its[j]?=aa v:=by simpa using hv
  have jl:j<ds.length:=by
   have:=(ay.mp hj).1;rw[<-rv.length,rx.length]at this;exact this
  obtain⟨w',g,r'⟩:=rx.get<|ag jl;obtain⟨u',g',ru'⟩:=rv.get g;rw[hj]at g';cases g';exact Vf r' ru' (tb j _<|ag jl) s' Q' E' hQ'
 ·intro h' tk hk
  rw[hlen,uM];have kp:=λb o e=>hk b o (λhm=>by
   have:b=s.heap.objs.size:=by simpa using hm
   exact T7 (this▸aJ e)<|bB _)<|ao _ e
  exact⟨.bl<|bs.all id,H,I.kept (t':=tk) kp,rfl,q⟩
def wV(hc:X.calm=ah):ZK X (.builtin "all") (VP X.K xw .all):=ZK.imp (ql hc) λvs H Q ⟨ρ,S,ds,st,r,h⟩=>by
 rcases ZeH ds S with⟨n,rfl⟩|e
 case inr=>rw[e]at h;exact h.elim
 case inl=>
  obtain⟨xs,hx,h1⟩:=End.ob (h)
  obtain⟨bs,hb,h2⟩:=End.ob h1;exact⟨ρ,S,xs,n,bs,st,r,hx,hb,End.ok h2 st<|ZC _⟩
noncomputable def ZW:Ty->String
 |.int=>"int" | .bool=>"bool" | .str=>"str" | .tuple=>"tuple" | .list=>"list" | .dict=>"dict" | .cls _=>""
def xa{K:aj}{ρ:List aw}{S:Zc}{H:Hp}{x:D}{v:V}{t:Ty}{n:Bool}(st:St3 K ρ S H)(rx:Rep ρ H x v)(ht:∀m,t≠.cls m)(h:Ev.zc S x t=aa n) :
  ∃tv,TyOf K H v tv/\eK K tv (.type<|ZW t)=aa n:=by
 cases x with
 |non=>rw[rx.non'];refine⟨_,.non,?_⟩;cases h;cases t<;>first|rfl|exact T7 rfl (ht _)
 |bl b=>rw[rx.bl'];refine⟨_,.bl b,?_⟩;cases h;cases t<;>first|rfl|exact T7 rfl (ht _)
 |int b=>rw[rx.int'];refine⟨_,.int b,?_⟩;cases h;cases t<;>first|rfl|exact T7 rfl (ht _)
 |str b=>rw[rx.str'];refine⟨_,.str b,?_⟩;cases h;cases t<;>first|rfl|exact T7 rfl (ht _)
 |tup ds=>
  obtain⟨p,xs,rfl,hp,_⟩:=rx.tup';refine⟨_,.tup hp,?_⟩;cases h;cases t<;>first|rfl|exact T7 rfl (ht _)
 |loc m=>
  obtain⟨p,rfl,hp⟩:=rx.loc';have h':(match S[m]? with
   |some (.lst _)=>aa (ae<|t=.list)
   |some (.dt _)=>aa (ae<|t=.dict)
   |some (.dk _)=>aa (ae<|t=.dict)
   |_=>ac)=aa n:=h
  cases q:S[m]? with
  |none=>rw[q]at h';cases h'
  |some o=>
   rw[q]at h';obtain⟨p',hp',ro⟩:=st.at q;rw[hp]at hp';cases hp';cases o with
   |lst xs=>obtain⟨ys,e,_⟩:=ro;refine⟨_,.lst e,?_⟩;cases h';cases t<;>first|rfl|exact T7 rfl (ht _)
   |dt kvs=>obtain⟨ys,e,_⟩:=ro;refine⟨_,.dT e,?_⟩;cases h';cases t<;>first|rfl|exact T7 rfl (ht _)
   |dk kvs=>obtain⟨ys,e,_⟩:=ro;refine⟨_,.dK e,?_⟩;cases h';cases t<;>first|rfl|exact T7 rfl (ht _)
   |_=>cases h'
def ZaP(T:String):ZK X (.builtin "isinstance") (λvs H Q=>∃v tv n,vs=[v,.ty T]/\TyOf X.K H v tv/\eK X.K tv (.type T)=aa n/\Q (.bl n) H):=by
 intro pq s σ H vs us Q I r h;obtain⟨v,tv,n,rfl,ty,e,q⟩:=h;obtain⟨u,w',rfl,r1,r2⟩:=zO r;cases r2;exact uS I r1 ty e λtk=>⟨.bl n,H,I.tok tk,rfl,q⟩
def W3{T:bc}{t:Ty}(ht:∀m,t≠.cls m)(hm:X.mg "isinstance" = ac)(hmT:X.mg T=ac)(ha:CE X xw C a i)(hg:Gl X "isinstance":=by rfl)(hgT:Gl X T:=by rfl)(hvT:cQ T=aa (.type<|ZW t):=by rfl)(hnT:T≠"__name__":=by decide)(hdT:(T == ("__debug__" : bc))=ai:=by decide)
  (hs1:aC [a,.Name T p2] X.env=(ai,cb a X.env)::aC [.Name T p2] X.env:=by rfl)(hs2:aC [.Name T p2] X.env=(ai,cb (.Name T p2) X.env)::aC [] X.env:=by rfl)(hpl:(cX pos<|aC [.Name T p2] X.env).any (·.1)=ai:=by rfl) :
  CE X xw C (.Call (.Name "isinstance" p) [a,.Name T p2] [] pos) (.isi i [t]):=
 PE.imp (Wx (ZaP<|ZW t) hg hm (by rfl) (ZF ha (ZF (UE (v:=.ty<|ZW t) hgT hmT hvT rfl hnT hdT) Yt hs2) hs1) (by decide) (by decide) hs1 hpl) λσ H Q ⟨ρ,l,S,st,lr,h⟩=>by
  refine⟨ρ,l,S,st,lr,End.bind (h) λx S1 ρ1 H1 v f1 st1 r1 h1=>?_⟩
  obtain⟨n,hn,h2⟩:=End.ob h1;have hn':Ev.zc S1 x t=aa n:=by
   unfold Ev.QI at hn;cases q:Ev.zc S1 x t with|none=>rw[q]at hn;cases hn|some m=>rw[q]at hn;cases m<;>exact hn
  obtain⟨tv,ty,e⟩:=xa st1 r1 ht hn';exact⟨v,tv,n,rfl,ty,e,End.ok h2 st1<|ZC _⟩
def ZfY(P:bq)(w:bC)(K:aj)(a:aw)(tab:List (Int×Int)):Prop:=(a == cM)=ai/\∃f:Int->Option aq,(∀h:bF,K.In h->h.MapOf (iq P w) a f)/\∀k,(tab.lookup k=ac->f k=ac)/\∀j,tab.lookup k=aa j->∃t,f k=aa (.int j t)
def GE:CE X xw C (.Dict [] [] pos) .dnew:=PE.imp Zbi λσ H Q ⟨ρ,l,S,st,lr,h⟩=>λp hp=>
 (h) (ρ++[p]) _ _ (YQ hp) (st.new hp ⟨[],Zr,.nil⟩) (Wa<|by rw[<-st.len];simp)
end
def ZX(K:aj)(xw:Nat->Hp->Prop)(ρ:List aw)(H:Hp)(D:Ends):R Fl->Prop
 |.ok (.nx l) S=>∀ρ' H' σ',Fut ρ H ρ' H'->St3 K ρ' S H'->LocR ρ' H' l σ'->D.nx σ' H'
 |.ok (.brk l) S=>∀ρ' H' σ',Fut ρ H ρ' H'->St3 K ρ' S H'->LocR ρ' H' l σ'->D.bk σ' H'
 |.ok (.cnt l) S=>∀ρ' H' σ',Fut ρ H ρ' H'->St3 K ρ' S H'->LocR ρ' H' l σ'->D.ct σ' H'
 |.ok (.ret d) S=>∀ρ' H' v,Fut ρ H ρ' H'->St3 K ρ' S H'->Rep ρ' H' d v->D.rt v H'
 |.ex c S=>∀ρ' H',Fut ρ H ρ' H'->St3 K ρ' S H'->xw c H'
 |.no=>False
section
variable{K:aj}{xw:Nat->Hp->Prop}{ρ ρ':List aw}{H H':Hp}{α β:Type}{rep:List aw->Hp->α->β->Prop}{D:Ends}
def ZX.mono(f:Fut ρ H ρ' H')(h:ZX K xw ρ H D r):ZX K xw ρ' H' D r:=by
 cases r with
 |ok fl S=>
  cases fl with|nx l=>exact λρ2 H2 σ g=>h ρ2 H2 σ<|f.trans g|brk l=>exact λρ2 H2 σ g=>h ρ2 H2 σ<|f.trans g|cnt l=>exact λρ2 H2 σ g=>h ρ2 H2 σ<|f.trans g|ret d=>exact λρ2 H2 v g=>h ρ2 H2 v (f.trans g)
 |ex c S=>exact λρ2 H2 g=>h ρ2 H2 (f.trans g)
 |no=>exact h
theorem ZX.bind{Q1:β->Hp->Prop}(h:ZX K xw ρ H D (r.bind f))
  (k:∀d S ρ1 H1 v,Fut ρ H ρ1 H1->St3 K ρ1 S H1->rep ρ1 H1 d v->ZX K xw ρ1 H1 D (f d S)->Q1 v H1):End K xw rep ρ H Q1 r:=by
 cases r with|ok d S=>exact λρ1 H1 v g st r=>k d S ρ1 H1 v g st r<|ZX.mono g h|ex c S=>exact h|no=>exact h
theorem ZX.ob(h:ZX K xw ρ H D ((Ev.ob o S).bind f)):∃a,o=aa a/\ZX K xw ρ H D (f a S):=by
 cases o with|none=>exact h.elim|some a=>exact⟨a,rfl,h⟩
theorem ZX.nx(h:ZX K xw ρ H D (.ok (.nx l) S))(st:St3 K ρ S H)(lr:LocR ρ H l σ):D.nx σ H:=h ρ H σ (Fut.refl ρ H) st lr
end
section
variable(X:Cx)(xw:Nat->Hp->Prop)
def tS3(f:Lc->Zc->R Fl):TS:=λD σ H=>∃ρ l S,St3 X.K ρ S H/\LocR ρ H l σ/\ZX X.K xw ρ H D (f l S)
variable(C:Calls)
def CS(st:de)(s:Sm):Prop:=PS X st<|tS3 X xw<|run C s
def CSs(st:List de)(s:List Sm):Prop:=PSs X st<|tS3 X xw<|runs C s
def tG3(t:List Nat):TG:=λv σ H Q=>∃ρ l S d l',St3 X.K ρ S H/\LocR ρ H l σ/\Rep ρ H d v/\Ev.assign t d S l=aa l'/\∀σ',LocR ρ H l' σ'->Q σ' H
def CG(tg:Expr)(t:List Nat):Prop:=PG X tg<|tG3 X t
def Zge(t:List Nat):TGs:=λvs σ H Q=>∃ρ l ds l',LocR ρ H l σ/\Rq ρ H ds vs/\Ev.fill t ds l=aa l'/\∀σ',LocR ρ H l' σ'->Q σ' H
def CGs(tgs:List Expr)(t:List Nat):Prop:=PGs X tgs<|Zge t
end
def PS.imp(h:PS X e t)(k:∀D σ H,t' D σ H->t D σ H):PS X e t':=λpq s σ H D I q=>h pq s σ H D I<|k D σ H q
def PSs.imp(h:PSs X e t)(k:∀D σ H,t' D σ H->t D σ H):PSs X e t':=λpq s σ H D I q=>h pq s σ H D I<|k D σ H q
def PG.imp(h:PG X e t)(k:∀v σ H Q,t' v σ H Q->t v σ H Q):PG X e t':=λpq s σ H v u Q I r q=>h pq s σ H v u Q I r<|k v σ H Q q
def PGs.imp(h:PGs X e t)(k:∀v σ H Q,t' v σ H Q->t v σ H Q):PGs X e t':=λpq s σ H v u Q I r q=>h pq s σ H v u Q I r<|k v σ H Q q
section
variable{X:Cx}{xw:Nat->Hp->Prop}{C:Calls}{e a b c:Expr}{i j k:E}{pos p p' p2:d8}{s0:de}{ss:List de}{m0:Sm}{ms ms':List Sm}
def yX:CSs X xw C [] []:=PSs.imp JX λD σ H ⟨ρ,l,S,st,lr,h⟩=>ZX.nx h st lr
def Gz(h1:CS X xw C s0 m0)(h2:CSs X xw C ss ms):CSs X xw C (s0::ss) (m0::ms):=PSs.imp (YF h1 h2) λD σ H ⟨ρ,l,S,st,lr,h⟩=>by
 refine⟨ρ,l,S,st,lr,?_⟩;have h':ZX X.K xw ρ H D ((run C m0 l S).bind λf S=>match f with|.nx σ=>runs C ms σ S|f=>.ok f S):=h
 cases q:run C m0 l S with
 |no=>rw[q]at h';exact h'
 |ex c S1=>rw[q]at h';exact h'
 |ok fl S1=>
  rw[q]at h';cases fl with|nx l1=>exact λρ1 H1 σ1 f1 st1 lr1=>⟨ρ1,l1,S1,st1,lr1,ZX.mono f1 h'⟩|brk l1=>exact h'|cnt l1=>exact h'|ret d=>exact h'
def xm(he:CE X xw C e i):CS X xw C (.Return (aa e) pos) (.ret i):=PS.imp (U7 he) λD σ H ⟨ρ,l,S,st,lr,h⟩=>
 ⟨ρ,l,S,st,lr,ZX.bind (h) λx S1 ρ1 H1 v f1 st1 r1 h1=>h1 ρ1 H1 v (Fut.refl _ _) st1 r1⟩
def J2(he:CE X xw C e i)(hs:eT e ac pos.line X.env=cA ai:=by rfl):CS X xw C (.Expr e pos) (.ex i):=PS.imp (wF he hs) λD σ H ⟨ρ,l,S,st,lr,h⟩=>
 ⟨ρ,l,S,st,lr,ZX.bind (h) λx S1 ρ1 H1 v f1 st1 r1 h1=>ZX.nx h1 st1<|lr.mono f1⟩
def qK{sa sb:List de}(hc:CT X xw C c k)(ha:CSs X xw C sa ms)(hb:CSs X xw C sb ms'):CS X xw C (.If c sa sb pos) (.ite k ms ms'):=PS.imp (Zaj hc ha hb) λD σ H ⟨ρ,l,S,st,lr,h⟩=>
 ⟨ρ,l,S,st,lr,ZX.bind (h) λx S1 ρ1 H1 v f1 st1 r1 h1=>by
  have e1:x=v:=r1;subst e1;cases x with
  |true=>exact⟨ρ1,l,S1,st1,lr.mono f1,h1⟩
  |false=>exact⟨ρ1,l,S1,st1,lr.mono f1,h1⟩⟩
def G4{n:Nat}{x:bc}(hN:X.N.Nodup)(hi:X.N[n]?=aa x:=by rfl)(hx:L2.Loc X.env.scope x:=by first|exact lh rfl|exact iA rfl)(hf:X.fn x=ah\/X.env.scope.names.lookup x=aa .local:=by first|exact .inl rfl|exact .inr rfl):CG X (.Name x pos) [n]:=
 PG.imp (wE hN hi hx hf) λv σ H Q ⟨ρ,l,S,d,l',st,lr,r,ha,q⟩=>by
  have e:=ak ha;exact q _ (by rw[<-e];exact lr.set n r)
def Gg:CGs X [] []:=PGs.imp Zb3 λvs σ H Q ⟨ρ,l,ds,l',lr,r,hf,q⟩=>by
 cases ds with
 |nil=>
  cases hf;exact⟨r,q σ lr⟩
 |cons _ _=>cases hf
def UN{tgs:List Expr}{n:Nat}{t:List Nat}{x:bc}(hN:X.N.Nodup)(h2:CGs X tgs t)(hi:X.N[n]?=aa x:=by rfl)(hx:L2.Loc X.env.scope x:=by first|exact lh rfl|exact iA rfl)(hf:X.fn x=ah\/X.env.scope.names.lookup x=aa .local:=by first|exact .inl rfl|exact .inr rfl)
  (hs:(cu (.Name x pos::tgs) X.env).map (·.2)=gH (.Name x pos) X.env::(cu tgs X.env).map (·.2):=by rfl):CGs X (.Name x pos::tgs) (n::t):=
 PGs.imp (jr (wE hN hi hx hf) h2 hs) λvs σ H Q ⟨ρ,l,ds,l',lr,r,hf,q⟩=>by
  cases ds with
  |nil=>cases hf
  |cons d ds=>
   obtain⟨v,ws,rfl,r1,r2⟩:=r;exact⟨v,ws,rfl,ρ,l.set n<|aa d,ds,l',lr.set n r1,r2,hf,q⟩
theorem UM:∀{t:List Nat}{ds:List D}{l l':Lc},Ev.fill t ds l=aa l'->ds.length=t.length
 |[],[],_,_,_=>rfl
 |[],_::_,_,_,h=>by cases h
 |_::_,[],_,_,h=>by cases h
 |n::t,d::ds,l,l',h=>by rw[aP,aP,UM (t:=t) h]
theorem Q9{E:aq->au->Prop}(hne:t≠it):∀(n i:Nat)(s:au)(Q:List aq->au->Prop),s.heap.IsListIter it t i->s.heap.IsList t items->i+n<=items.size->
  (∀h',bF.IsListIter h' it t (i+n)->d5 it s.heap h'->Q ((items.toList.drop i).take n) {s with heap:=h' })->aW (aZ prog w) A (draw (.ref it) n) Q E s
 |0,i,s,Q,hit,_,_,hQ=>by
  exact ax (by simpa using hQ s.heap hit<|d5.refl ..)
 |n+1,i,s,Q,hit,ht,hle,hQ=>by
  have hlt:i<items.size:=by omega
  refine af<|iU hit ht (x:=items[i]) (by simp[hlt]) λh₁ hit₁ hs₁=>?_
  refine af<|bO<|Q9 hne n (i+1) _ _ hit₁ (ht.extBut hs₁.extBut hne) (by omega) λh₂ hit₂ hs₂=>ax ?_
  have hd:items.toList.drop i=items[i]::items.toList.drop (i+1):=by simp[cJ,hlt]
  have:=hQ h₂ (by rw[show i+(n+1)=i+1+n by omega];exact hit₂)<|hs₁.trans hs₂
  rw[hd,List.take_succ_cons]at this;exact this
def zS{E:aq->au->Prop}{x1}{Q:Unit->au->Prop}(hh:A.handled=ac)(ht:s.heap.IsList t items)
  (hn:(cu elts env).length=items.size)(hstar:(cu elts env).findIdx? (·.1)=ac)
  (h:∀h',eO s.heap.objs.size s.heap h'->aW (aZ prog w) A (kP ((cu elts env).map (·.2)) items.toList) Q E {s with heap:=h' }) :
  aW (aZ prog w) A (gH (.Tuple elts x1 pos) env<|.ref t) Q E s:=by
 rw[assign_Tuple];refine af<|fZ ?_;have hlt:t≠s.heap.objs.size:=by obtain⟨o,ho,_⟩:=ht;exact bf<|aJ ho
 unfold unpack;rw[hn,hstar];refine af<|bO ?_;refine af ?_;refine af<|wpAny_specialOf ht.typeIs slot_list_iter.lookup ?_;refine ax ?_;simp only[bQ,if_false];refine af<|bO<|eG ht ?_;refine af<|bO<|Q9 hlt items.size 0 _ _ ⟨_,aM _ rfl,rfl,rfl⟩ (ht.push _) (by omega) λh₁ hit₁ hs₁=>?_
 have hall:List.take items.size (mi 0 items.toList)=items.toList:=by
  rw[kx];exact fJ (by simp)
 rw[hall];rw[T8<|by simp]
 have ht₁:=(ht.push _).extBut hs₁.extBut hlt;refine af<|bO<|kc hh hit₁ ht₁ (by simp) λh₂ he₂=>?_
 simp only[Option.isSome_none,bQ,if_false];exact ax<|h h₂ λb o hb e=>he₂ b o hb<|hs₁.extBut b o hb<|ao _ e
def gTL(K:aj)(n:Nat)(t:TGs):TG:=λv σ H Q=>∃a xs,v=.ref a/\(SqT K H a xs\/H a=aa (.lst xs))/\xs.length=n/\t xs σ H Q
def ZfX{X:Cx}{pos:d8}{es:List Expr}{k:Nat}{t:TGs}{n:Nat}(hc:X.calm=ah)(h:PGs X es t)
  (hn:(cu es X.env).length=n:=by rfl)(hst:(cu es X.env).findIdx? (·.1)=ac:=by rfl):PG X (.Tuple es k pos) (gTL X.K n t):=by
 intro pq s σ H v u Q I r hw;obtain⟨a,xs,e1,hq|hq,hl,hw⟩:=hw
 ·exact ZdW hc h hn hst pq s σ H v u Q I r ⟨a,xs,e1,hq,hl,hw⟩
 ·subst e1
  cases r;obtain⟨its,rv,pl,hz⟩:=I.list<|SqL.of hq;refine zS (I.ok.hd hc) pl.isList (by simp[hn,<-hl,rv.length]) hst λh' hx=>?_
  have I1:=I.kept (t':=s.toks) λb o e=>hx b o (bf<|aJ e) e
  exact h pq _ σ H xs _ Q I1 (by simpa using rv) hw
def xi{tgs:List Expr}{q2:Nat}{n m:Nat}{r:List Nat}(hc:X.calm=ah)(h:CGs X tgs (n::m::r))(hn:(cu tgs X.env).length=(n::m::r).length:=by rfl)(hst:(cu tgs X.env).findIdx? (·.1)=ac:=by rfl):CG X (.Tuple tgs q2 pos) (n::m::r):=
 PG.imp (ZfX hc h hn hst) λv σ H Q ⟨ρ,l,S,d,l',st,lr,rd,ha,q⟩=>by
  cases d with
  |tup ds=>
   have hf:=ha;obtain⟨p,xs,rfl,hp,rs⟩:=rd.tup';exact⟨p,xs,rfl,.inl<|SqT.of hp,by rw[rs.length];exact UM hf,ρ,l,ds,l',lr,rs,hf,q⟩
  |loc k=>
   have ha':(match Ev.Zm S k with
    |some xs=>Ev.fill (n::m::r) xs l
    |none=>ac)=aa l':=ha
   cases e1:Ev.Zm S k with
   |none=>rw[e1]at ha';cases ha'
   |some ds=>
    rw[e1]at ha';have hf:=ha';obtain⟨_,p,xs,q1,hp,r1⟩:=st.lst e1;obtain⟨p',rfl,t1⟩:=rd.loc';rw[q1]at t1;cases t1;exact⟨p,xs,rfl,.inr hp,by rw[r1.length];exact UM hf,ρ,l,ds,l',lr,r1,hf,q⟩
  |_=>cases ha
def yM{tg:Expr}{t:List Nat}(he:CE X xw C e i)(hg:CG X tg t)(hs:gb [tg] e pos.line X.env=cA ai:=by rfl)(hw:gd [tg] e X.env=cA ac:=by rfl)
  (h1:(cu [tg] X.env).map (·.2)=[gH tg X.env]:=by rfl):CS X xw C (.Assign [tg] e pos) (.asg t i):=PS.imp (Zbb he hg hs hw h1) λD σ H ⟨ρ,l,S,st,lr,h⟩=>
 ⟨ρ,l,S,st,lr,ZX.bind (h) λx S1 ρ1 H1 v f1 st1 r1 h1=>by
  obtain⟨l',hl',h2⟩:=ZX.ob h1;exact⟨ρ1,l,S1,x,l',st1,lr.mono f1,r1,hl',λσ' lr'=>ZX.nx h2 st1 lr'⟩⟩
def yR{o ix:Expr}{io ii:E}(ho:CE X xw C o io)(hi:CE X xw C ix ii)(he:CE X xw C e i)
  (ha:∀v,gH (.Subscript o ix p) X.env v=(do
   let ov <-ia [v] (cb o X.env)
   let iv <-ia [v,ov] (cb ix X.env)
   ly p
   ia [v,ov,iv] (setItem ov iv v)
   release [v,ov,iv] []):=by intro _;rfl)(hs:gb [.Subscript o ix p] e pos.line X.env=cA ai:=by rfl)(hw:gd [.Subscript o ix p] e X.env=cA ac:=by rfl)
  (h1:(cu [.Subscript o ix p] X.env).map (·.2)=[gH (.Subscript o ix p) X.env]:=by rfl):CS X xw C (.Assign [.Subscript o ix p] e pos) (.put io ii i):=
 PS.imp (Zbb he (Zek ho hi (Zay) ha) hs hw h1) λD σ H ⟨ρ,l,S,st,lr,h⟩=>
 ⟨ρ,l,S,st,lr,ZX.bind (h) λx S1 ρ1 H1 v f1 st1 r1 h1=>
  ⟨ρ1,l,S1,st1,lr.mono f1,h1.bind λy S2 ρ2 H2 u f2 st2 r2 h2=>⟨ρ2,l,S2,st2,(lr.mono f1).mono f2,h2.bind λz S3 ρ3 H3 w f3 st3 r3 h3=>by
   cases y with
   |loc n=>cases z with
    |int m=>
     obtain⟨pa,rfl,hp⟩:=(r2.mono f3).loc';have h4:ZX X.K xw ρ3 H3 D ((match S3[n]? with
      |some (.lst xs)=>(Ev.ob (Ev.ixN xs.length m) S3).bind λj S=>.ok () (S.set n<|.lst<|xs.set j x)
      |_=>.no).bind λ_ S=>.ok (.nx l) S):=h3
     cases q:S3[n]? with
     |none=>rw[q]at h4;exact False.elim h4
     |some ob=>
      rw[q]at h4;cases ob with
      |lst xs=>
       have h5:ZX X.K xw ρ3 H3 D (((Ev.ob (Ev.ixN xs.length m) S3).bind λj S=>R.ok ()<|S.set n<|.lst<|xs.set j x).bind λ_ S=>.ok (.nx l) S):=h4
       cases hj:Ev.ixN xs.length m with
       |none=>rw[hj]at h5;exact False.elim h5
       |some jj=>
        rw[hj]at h5;obtain⟨pb,hp',ys,hy,ry⟩:=st3.at q;rw[hp]at hp';cases hp';refine⟨pa,ys,m,jj,rfl,r3.int',hy,by rw[ry.length];exact hj,?_⟩
        have rx:=(r1.mono f2).mono f3;exact h5 ρ3 _ σ (Xp hy) (st3.wr hp q hy<|Rq.set rx jj ry) ((((lr.mono f1).mono f2).mono f3).mono<|Xp hy)
      |_=>exact False.elim h4
    |_=>exact False.elim h3
   |_=>exact False.elim h3⟩⟩⟩
end
structure WRel(K:aj)(ρ:List aw)(H:Hp)(w:Walk)(J:It):Prop where
 go:∀(i:Nat) ρ' S' H',Fut ρ H ρ' H'->St3 K ρ' S' H'->w.still S'=ah->i<w.items.length->J.go i H'/\∀x H'',J.yld i H' x H''->Fut ρ' H' ρ' H''/\St3 K ρ' S' H''/\∀d,w.items[i]?=aa d->Rep ρ' H'' d x
 stop:∀ρ' S' H',Fut ρ H ρ' H'->St3 K ρ' S' H'->w.still S'=ah->J.stop w.items.length H'
section
variable(X:Cx)(xw:Nat->Hp->Prop)
def tW3(f:Lc->Zc->R Walk):TI:=λσ H Q=>∃ρ l S,St3 X.K ρ S H/\LocR ρ H l σ/\End X.K xw (WRel X.K) ρ H Q (f l S)
def CW(C:Calls)(tg it:Expr)(w:Ev.W):Prop:=PI X tg it<|tW3 X xw<|evw C w
end
def PI.imp(h:PI X tg it t)(k:∀σ H Q,t' σ H Q->t σ H Q):PI X tg it t':=λpq s σ H R I q=>h pq s σ H R I<|k σ H R q
section
variable{X:Cx}{xw:Nat->Hp->Prop}{C:Calls}{e a b c tg it:Expr}{i j k:E}{pos p p' p2:d8}
def Zgm(K:aj)(tl:TE):TI:=λσ H R=>tl σ H λx H1=>∃a,x=.ref a/\(((∃xs,SqL K H1 a xs)/\R (Itl K a) H1)\/((∃xs,SqT K H1 a xs)/\R (Itt K a) H1))
def Zet(hl:PE X l tl):PI X tg l (Zgm X.K tl):=by
 intro pq s σ H R I h;refine thn (hl pq s σ H _ I h) λv s1 ⟨x,H1,I1,r1,a,e,q⟩=>?_
 subst e;cases r1;rcases q with⟨⟨xs,hq⟩,q⟩|⟨⟨xs,hq⟩,q⟩
 ·obtain⟨its,rv,p,hz⟩:=I1.list hq
  refine eG p.isList ?_;refine⟨s1.heap.objs.size,[s1.heap.objs.size],_,_,H1,rfl,I1.kept (t':=s1.toks) λb o e=>ao _ e,uE a _,⟨_,aM _ rfl,rfl,rfl⟩,λb hb=>?_,q⟩
  have e:b=s1.heap.objs.size:=by simpa using hb
  subst e;exact I1.fpOk (aB _)<|I1.hok.fresh<|aB _
 ·obtain⟨its,rv,p,hz⟩:=I1.tuple hq
  refine fv (p) ?_
  refine⟨s1.heap.objs.size,[s1.heap.objs.size],_,_,H1,rfl,I1.kept (t':=s1.toks) λb o e=>ao _ e,xX a _,⟨_,aM _ rfl,rfl,rfl⟩,λb hb=>?_,q⟩
  have e:b=s1.heap.objs.size:=by simpa using hb
  subst e;exact I1.fpOk (aB _)<|I1.hok.fresh<|aB _
def Zba{K:aj}{ρ:List aw}{H:Hp}{ds:List D}{a:aw}{xs:List V}(hp:H a=aa (.tup xs))(r:Rq ρ H ds xs):WRel K ρ H ⟨ds,[]⟩ (Itt K a) where
 go:=λi ρ' S' H' f st _ hi=>by
  have hi':=hi;obtain⟨v,g,_⟩:=(r.mono f).get<|ag hi';refine⟨⟨xs,v,SqT.of<|f.tup a xs hp,g⟩,λx H'' y=>?_⟩
  obtain⟨rfl,y⟩:=y;refine⟨Fut.refl _ _,st,λd hd=>?_⟩
  obtain⟨v',g',r'⟩:=(r.mono f).get hd;have:=y xs<|SqT.of<|f.tup a xs hp;rw[g']at this;cases this;exact r'
 stop:=λρ' S' H' f st _=>⟨xs,SqT.of<|f.tup a xs hp,by rw[r.length];exact aB _⟩
def jn{K:aj}{ρ:List aw}{H:Hp}{ds:List D}{a:aw}{n:Nat}(hp:ρ[n]?=aa a):WRel K ρ H ⟨ds,[(n,ds)]⟩ (Itl K a) where
 go:=λi ρ' S' H' f st hs hi=>by
  have hn:S'[n]?=aa (.lst ds):=by simpa[Walk.still]using hs
  obtain⟨a',ha,xs,hx,r⟩:=st.at hn;rw[f.at hp]at ha;cases ha;have hi':=hi;obtain⟨v,g,_⟩:=r.get<|ag hi';refine⟨⟨xs,v,SqL.of hx,g⟩,λx H'' y=>?_⟩
  obtain⟨rfl,y⟩:=y;refine⟨Fut.refl _ _,st,λd hd=>?_⟩
  obtain⟨v',g',r'⟩:=r.get hd;have:=y xs<|SqL.of hx;rw[g']at this;cases this;exact r'
 stop:=λρ' S' H' f st hs=>by
  have hn:S'[n]?=aa (.lst ds):=by simpa[Walk.still]using hs
  obtain⟨a',ha,xs,hx,r⟩:=st.at hn;rw[f.at hp]at ha;cases ha;exact⟨xs,SqL.of hx,by rw[r.length];exact aB _⟩
def zn{lo:Int}{n i:Nat}(h:i<n):(Ev.ZO lo n)[i]?=aa (.int<|lo+i):=by
 unfold Ev.ZO;rw[aX,gC h];rfl
def V6(lo:Int)(n:Nat):(Ev.ZO lo n).length=n:=by unfold Ev.ZO;rw[aF,bW]
def jN{K:aj}{ρ:List aw}{H:Hp}{lo:Int}{n:Nat}:WRel K ρ H ⟨Ev.ZO lo n,[]⟩ (Itr lo n) where
 go:=λi ρ' S' H' f st _ hi=>by
  have hi':i<n:=by simpa[V6]using hi
  refine⟨hi',λx H'' y=>?_⟩
  obtain⟨rfl,rfl⟩:=y;refine⟨Fut.refl _ _,st,λd hd=>?_⟩
  have hd':=hd;rw[zn hi']at hd';cases hd';exact Zq _
 stop:=λρ' S' H' f st _=>by
  rw[V6];exact aB _
def qR(he:CE X xw C e i):CW X xw C tg e (.of i):=PI.imp (Zet he) λσ H Q ⟨ρ,l,S,st,lr,h⟩=>by
 refine⟨ρ,l,S,st,lr,End.bind (h) λx S1 ρ1 H1 v f1 st1 r1 h1=>?_⟩
 cases x with
 |tup ds=>
  obtain⟨a,xs,rfl,hp,r⟩:=r1.tup';exact⟨a,rfl,.inr ⟨⟨xs,SqT.of hp⟩,End.ok h1 st1<|Zba hp r⟩⟩
 |loc n=>
  obtain⟨a,rfl,hp⟩:=r1.loc';have h':End X.K xw (WRel X.K) ρ1 H1 Q (Ev.ob (match S1[n]? with
   |some (.lst xs)=>aa ⟨xs,[(n,xs)]⟩
   |_=>ac) S1):=h1
  cases q:S1[n]? with
  |none=>rw[q]at h';exact False.elim h'
  |some o=>
   rw[q]at h';cases o with
   |lst ds=>
    obtain⟨a',ha,xs,hx,r⟩:=st1.at q;rw[hp]at ha;cases ha;exact⟨a,rfl,.inl ⟨⟨xs,SqL.of hx⟩,End.ok h' st1<|jn hp⟩⟩
   |_=>exact False.elim h'
 |_=>exact False.elim h1
def GA(hm:X.mg "range" = ac)(ha:CA X xw C [a] [i])(hg:Gl X "range":=by rfl)(hs:aC [a] X.env=[(ai,cb a X.env)]:=by rfl):CW X xw C tg (.Call (.Name "range" p) [a] [] pos) (.rng1 i):=
 PI.imp (qt hg hm ha hs) λσ H Q ⟨ρ,l,S,st,lr,h⟩=>by
  refine⟨ρ,l,S,st,lr,?_⟩;show End X.K xw Rq ρ H _ ((ev C i l S).bind λx S=>(Ev.R.ok [] S).bind λxs S=>.ok (x::xs) S)
  have h':End X.K xw (WRel X.K) ρ H Q ((ev C i l S).bind λx S=>match x with
   |.int i=>if Ev.Uh i then .ok ⟨Ev.ZO 0 i.toNat,[]⟩ S else .no
   |_=>.no):=h
  cases q:ev C i l S with
  |no=>rw[q]at h';exact h'
  |ex c S1=>rw[q]at h';exact h'
  |ok x S1=>
   rw[q]at h';intro ρ1 H1 vs f1 st1 r1;obtain⟨v,rfl,r⟩:=YM r1;cases x with
   |int n=>
    obtain⟨hs,h2⟩:=End.guard<|End.mono f1 (h')
    have hs':=T6 (hs)
    exact⟨n,by rw[r.int'],hs'.1,hs'.2,End.ok h2 st1 jN⟩
   |_=>exact False.elim h'
def x9{body:List de}{ms:List Sm}{w:Ev.W}{t:List Nat}(hp:l0 (aZ X.prog X.w) X.A X.env X.xe)(hc:X.calm=ah)(hw:CW X xw C tg it w)(hg:CG X tg t)(hb:CSs X xw C body ms)
  (hs:∀x,cS it X.env x=cA x:=by intro _;rfl):CS X xw C (.For tg it body [] pos) (.forr t w ms):=PS.imp (ZdG hp hc hw hg hb hs) λD σ H ⟨ρ,l,S,st,lr,h⟩=>by
 have h':=h
 refine⟨ρ,l,S,st,lr,h'.bind λwk S1 ρ1 H1 J f1 st1 r1 h1=>?_⟩
 let B:Ev.D->Lc->Zc->R Fl:=λx σ S=>(Ev.ob (Ev.assign t x S σ) S).bind λσ S=>runs C ms σ S
 refine⟨λn m σ' H'=>m=wk.items.length-n/\n<=wk.items.length/\∃ρ' l' S',Fut ρ1 H1 ρ' H'/\St3 X.K ρ' S' H'/\LocR ρ' H' l' σ'/\ZX X.K xw ρ' H' D (Ev.XU wk B (wk.items.drop n) l' S'),
  ⟨wk.items.length,rfl,dL _,ρ1,l,S1,Fut.refl _ _,st1,lr.mono f1,h1⟩,?_⟩
 rintro n m σ' H' ⟨rfl,hn,ρ',l',S',f',st',lr',e'⟩
 by_cases hlt:n<wk.items.length
 ·right
  have hd:=cJ hlt;rw[hd]at e';have e2:ZX X.K xw ρ' H' D (if wk.still S'=ah then(match B wk.items[n] l' S' with
   |.ok (.nx σ') S'=>Ev.XU wk B (wk.items.drop<|n+1) σ' S'
   |.ok (.cnt σ') S'=>Ev.XU wk B (wk.items.drop<|n+1) σ' S'
   |.ok (.brk σ') S'=>.ok (.nx σ') S'
   |.ok (.ret d) S'=>.ok (.ret d) S'
   |.ex c S'=>.ex c S'
   |.no=>.no)else .no):=e'
  by_cases hst:wk.still S'=ah
  ·rw[T9 hst]at e2
   obtain⟨go,yl⟩:=r1.go n ρ' S' H' f' st' hst hlt;refine⟨go,λσ2 H2=>∃ρ2 l2 S2,Fut ρ1 H1 ρ2 H2/\St3 X.K ρ2 S2 H2/\LocR ρ2 H2 l2 σ2/\ZX X.K xw ρ2 H2 D (Ev.XU wk B (wk.items.drop<|n+1) l2 S2),λσ2 H2 ⟨ρ2,l2,S2,a1,a2,a3,a4⟩=>⟨wk.items.length-(n+1),by omega,rfl,hlt,ρ2,l2,S2,a1,a2,a3,a4⟩,λx H3 y=>?_⟩
   obtain⟨f3,st3,rp⟩:=yl x H3 y;have rx:=rp _<|ag hlt;cases ha:Ev.assign t wk.items[n] S' l' with
   |none=>
    have e3:B wk.items[n] l' S'=.no:=by show(Ev.ob (Ev.assign t wk.items[n] S' l') S').bind _=_;rw[ha];rfl
    rw[e3]at e2;exact False.elim e2
   |some l2=>
    have e3:B wk.items[n] l' S'=runs C ms l2 S':=by show(Ev.ob (Ev.assign t wk.items[n] S' l') S').bind _=_;rw[ha];rfl
    rw[e3]at e2;refine⟨ρ',l',S',wk.items[n],l2,st3,lr'.mono f3,rx,ha,λσ2 lr2=>⟨ρ',l2,S',st3,lr2,?_⟩⟩
    have e4:=ZX.mono f3 e2;have ff:=f'.trans f3;cases q:runs C ms l2 S' with
    |no=>rw[q]at e4;exact e4
    |ex c S2=>rw[q]at e4;exact e4
    |ok fl S2=>
     rw[q]at e4;cases fl with|nx l3=>exact λρ4 H4 σ4 f4 st4 lr4=>⟨ρ4,l3,S2,ff.trans f4,st4,lr4,ZX.mono f4 e4⟩|cnt l3=>exact λρ4 H4 σ4 f4 st4 lr4=>⟨ρ4,l3,S2,ff.trans f4,st4,lr4,ZX.mono f4 e4⟩|brk l3=>exact e4|ret d=>exact e4
  ·rw[T8 hst]at e2
   exact False.elim e2
 ·left
  have en:n=wk.items.length:=by omega
  subst en;rw[mj]at e';have e2:ZX X.K xw ρ' H' D (if wk.still S'=ah then .ok (.nx l') S' else .no):=e'
  by_cases hst:wk.still S'=ah
  ·rw[T9 hst]at e2
   exact⟨r1.stop ρ' S' H' f' st' hst,ZX.nx e2 st' lr'⟩
  ·rw[T8 hst]at e2
   exact False.elim e2
end
end Sd
namespace Sd
open PySem PySem.Spec PyProof.Rows L2
noncomputable def u5(env:Env):List (bc×dU)->List (bc×aw)->List (bc×aw)
 |[],acc=>acc
 |x::r,acc=>u5 env r (if(x.2 == bG)=ah then(x.1,(env.cells.lookup x.1).getD 0)::acc else acc)
theorem QJ{env:Env}{f:bc×dU->List (bc×aw)->mL (ForInStep<|List<|bc×aw)}:∀(names:List (bc×dU))(acc:List (bc×aw)),
  (∀x∈names,∀c,f x c=cA (.yield (if(x.2 == bG)=ah then(x.1,(env.cells.lookup x.1).getD 0)::c else c)))->forIn names acc f=cA (u5 env names acc)
 |[],acc,_=>rfl
 |x::r,acc,h=>by
  rw[i7,h x am,pure_bind];exact QJ r _ λy hy=>h y<|al _ hy
theorem zV :∀(names:List (bc×dU))(acc:List (bc×aw)),(u5 env names acc).lookup x=aa c->acc.lookup x=aa c\/(∃y∈names,y.1=x/\y.2=.free/\c=(env.cells.lookup x).getD 0)
 |[],acc,h=>.inl h
 |y::r,acc,h=>by
  rcases zV r _ h with h|⟨z,hz,e⟩
  ·grind
  ·grind
theorem yq :∀(names:List (bc×dU))(acc:List (bc×aw)),(acc.lookup x).isSome=ah->((u5 env names acc).lookup x).isSome=ah
 |[],acc,h=>h
 |y::r,acc,h=>by
  refine yq r _ ?_;split
  ·grind
  ·exact h
theorem zE :∀(names:List (bc×dU))(acc:List (bc×aw)),(x,bG)∈names->((u5 env names acc).lookup x).isSome=ah
 |[],acc,h=>by cases h
 |y::r,acc,h=>by
  rcases az.mp h with h|h
  ·subst h
   refine yq r _ ?_;rw[T9<|by rfl,dg,beq_self_eq_true]
   rfl
  ·exact zE r _ h
def WS{scope:c7}{env:Env}(h:∀y∈scope.names,y.2=.free->∃c,env.cells.lookup y.1=aa c) :
  ∃cl,fT scope env=cA cl/\(∀x c,cl.lookup x=aa c->env.cells.lookup x=aa c)/\∀x,(x,bG)∈scope.names->∃c,cl.lookup x=aa c:=by
 refine⟨u5 env scope.names [],?_,λx c e=>?_,λx hx=>bP.mp<|zE _ _ hx⟩
 ·simp only[fT]
  rw[QJ (env:=env) scope.names [] (λx hx c=>by
   obtain⟨n,kind⟩:=x;by_cases hk:(kind == bG)=ah
   ·obtain⟨a,ha⟩:=h (n,kind) hx (eq_of_beq hk)
    have ha':=ha;simp only[hk,if_true,cellOf,ha',pure_bind,Option.getD_some]
   ·simp only[hk,if_false]
    rfl),pure_bind]
 ·rcases zV _ _ e with e|⟨y,hy,e1,e2,e3⟩
  ·cases e
  ·grind
noncomputable def cxC(X:Cx)(N:List bc)(scope:c7)(cl:List (bc×aw))(s:au)(H:Hp)(fp:List aw):Cx:=
 {X with N:=N,s₀:=s,H₀:=H,env:=compEnvC scope cl s.heap.objs.size X.env,outer:=X.stack,ex:=fp,fn:=λ_=>ai,pn:=[],xe:=λ_ _=>False}
def PTs(X:Cx)(ifs:List Expr)(t:TT):Prop:=
 ∀(pq:List (aw×dB))(s:au)(σ:L2.St)(H:Hp)(Q:Bool->Hp->Prop),Inv X pq σ H s->t σ H Q->
  aW (aZ X.prog X.w) X.A (forIn ifs ah λc r=>if r=ah then do let ok <-isTrue c X.env (cb c X.env);cA (gq ok)else cA (gq r)) (TP X pq σ Q) X.xe s
def ZcJ :PTs X [] (λσ H Q=>Q ah H):=λpq s σ H Q I h=>wpAny_tests_nil ⟨H,I,h⟩
def ZcE(h:PT X c t):PTs X [c] t:=λpq s σ H Q I hq=>wpAny_tests_one<|h pq s σ H Q I hq
structure CompScope(sc:c7)(N0:List bc)(scope:c7)(N:List bc)(cap:List Nat)(nl:Nat):Prop where
 kind:scope.kind=.function
 nocell:∀y∈scope.names,y.2≠.cell
 names:∀y∈scope.names,y.2=.local->scope.names.lookup y.1=aa .local
 free:∀y∈scope.names,y.2=.free->sc.names.lookup y.1=aa .cell\/sc.names.lookup y.1=aa .free
 apart:∀y∈scope.names,y.2=.free->scope.names.lookup y.1≠aa .local
 len:N.length=nl+cap.length
 cap:∀p∈cap.zipIdx,N[nl+p.2]?=N0[p.1]?/\(N0[p.1]?).map (λx=>ae<|(x,bG)∈scope.names)=aa ah
def CompScope.capt{sc:c7}{N0:List bc}{scope:c7}{N:List bc}{cap:List Nat}{nl:Nat}(h:CompScope sc N0 scope N cap nl)(i j:Nat)(e:cap[i]?=aa j):∃x,N[nl+i]?=aa x/\N0[j]?=aa x/\(x,bG)∈scope.names:=by
 have hm:(j,i)∈cap.zipIdx:=by grind
 obtain⟨h1,h2⟩:=h.cap (j,i) hm;cases q:N0[j]? with|none=>grind|some x=>grind
noncomputable def XD(cap:List Nat)(nl:Nat)(σ:L2.St):L2.St:=ar nl ac++cap.map λi=>(σ[i]?).join
section
variable{X:Cx}{pq:List (aw×dB)}{σ:L2.St}{H:Hp}{s:au}
theorem Vm{scope:c7}{env:Env}:∀{names:List (bc×dU)}{x:bc},(names.map λ(n,k)=>if(k == bG&&env.scope.kind == .function&&env.kindOf n == aa .cell)then(n,kU)else(n,k)).lookup x=aa .cell\/
  (names.map λ(n,k)=>if(k == bG&&env.scope.kind == .function&&env.kindOf n == aa .cell)then(n,kU)else(n,k)).lookup x=aa .free->(∀y∈names,y.2≠.cell)->(x,bG)∈names
 |[],x,h,_=>by grind
 |(n,k)::r,x,h,hc=>by
  have ih:=@Vm scope env r x;have hk:=hc (n,k) am;by_cases e:x=n
  ·grind
  ·grind
def ZaG{N:List bc}{scope:c7}{cl:List (bc×aw)}{fp:List aw}{cap:List Nat}{nl:Nat}{h1:bF}{tk:Nat}(I:Inv X pq σ H s)(CS:CompScope X.env.scope X.N scope N cap nl)(hN:X.N.Nodup)
  (c1:∀x c,cl.lookup x=aa c->X.env.cells.lookup x=aa c)(c2:∀x,(x,bG)∈scope.names->∃c,cl.lookup x=aa c)
  (hf:∀b∈fp,V7 X pq H b)(hb:∀b∈fp,∃o,s.heap.get? b=aa o)(hns:∃m,h1.Ns s.heap.objs.size m)(hk:∀b o,s.heap.get? b=aa o->h1.get? b=aa o) :
  Inv (cxC X N scope cl s H fp) [] (XD cap nl σ) H {s with heap:=h1,toks:=tk}:=by
 have bne:∀b∈fp,b≠s.heap.objs.size:=λb hb' e=>by
  obtain⟨o,ho⟩:=hb b hb';exact T7 (aJ ho) (by rw[e];exact bB _)
 refine⟨⟨I.ok.mod,CS.kind,I.ok.glob,I.ok.blt,aB _,λx y c h1 h2=>I.ok.inj x y c (c1 x c h1)<|c1 y c h2,λx hx=>c2 x<|Vm (scope:=scope) hx CS.nocell,λx c h=>(by cases h),I.ok.hd,I.ok.frames,.inl rfl,
  λb hb'=>⟨bne b hb',λx c e=>(hf b hb').2.2.2.2.1 x c<|c1 x c e⟩,I.bs,bh I.ok.bsz I.sz,λb o e hb'=>?_,λb hb' hm=>?_,I.stack,I.stkFree⟩,
  rfl,I.bare,Un.kept hk,?_,λx c e=>?_,I.hok.fresh<|aB _,λx c e=>I.freeC x c<|c1 x c e,λp hp=>T7 hp<|by simp[cxC],I.hok.kept hk,?_⟩
 ·rcases(hf b hb').2.2.2.1 with z|z
  ·exact I.ok.noex b o e z
  ·exact T7 (aJ e)<|Nat.not_lt.mpr<|bh I.ok.bsz z
 ·rcases az.mp (I.stkSub b hm)with e|e
  ·exact(hf b hb').2.1 e
  ·exact(hf b hb').2.2.1 e
 ·obtain⟨m1,hm1⟩:=hns
  refine⟨m1,hm1,λi x v e1 e2 e3=>?_⟩
  obtain⟨m,hm,hl⟩:=I.loc;have hi:nl<=i:=by
   by_cases hi:nl<=i
   ·exact hi
   ·have z:(XD cap nl σ)[i]?=aa ac:=by
     unfold XD;rw[aO<|by simp;omega,bI,T9<|by omega]
    rw[z]at e2;cases e2
  have e2':(cap.map λi=>(σ[i]?).join)[i-nl]?=aa (aa v):=by
   have:=e2;unfold XD at this
   rwa [bj<|by simp;exact hi,b9]at this
  rw[aX]at e2';cases hj:cap[i-nl]? with
  |none=>rw[hj]at e2';cases e2'
  |some j=>
   rw[hj]at e2';have hv:σ[j]?=aa (aa v):=by
    have:(σ[j]?).join=aa v:=ak e2';cases q:σ[j]? with
    |none=>rw[q]at this;cases this
    |some o=>rw[q]at this;cases o with|none=>cases this|some w=>cases this;rfl
   obtain⟨x',n1,n2,fr⟩:=CS.capt _ _ hj;have ex:x'=x:=by
    have:N[nl+(i-nl)]?=aa x:=by rw[show nl+(i-nl)=i by omega];exact e1
    rw[n1]at this;exact ak this
   subst ex;have kd:=CS.free _ fr rfl;have vis:Vis X.env.scope x':=by
    rcases kd with z|z
    ·exact .inr<|.inl z
    ·exact .inr<|.inr z
   obtain⟨u,r,lk⟩:=hl j x' v n2 hv vis;refine⟨u,r,?_⟩;rcases lk with⟨k,_⟩|⟨k,c,ec,hc⟩
   ·have k':X.env.scope.names.lookup x'=aa .local:=k
    rcases kd with z|z<;>(rw[z]at k';cases k')
   ·obtain⟨c',ec'⟩:=c2 x' fr
    have ecc:c'=c:=by
     have:=c1 x' c' ec';rw[ec]at this;exact(ak this).symm
    subst ecc;have vis2:=e3;refine .inr ⟨?_,c',ec',?_⟩
    ·rcases vis2 with z|z|z
     ·have z':=z
      exfalso
      have:∀(names:List (bc×dU)),(∀y∈names,y.2=dU.local->y.1≠x')->(names.map λ(n,k)=>if(k == bG&&X.env.scope.kind == .function&&X.env.kindOf n == aa .cell)then(n,kU)else(n,k)).lookup x'≠aa .local:=by
       intro names
       induction names with
       |nil=>intro _ h;cases h
       |cons y r ih=>
        obtain⟨n,k⟩:=y;intro hy h;rw[aU]at h;by_cases e:x'=n
        ·subst e
         by_cases c:(k == bG&&X.env.scope.kind == .function&&X.env.kindOf x' == aa .cell)=ah
         ·simp only[T9 c,dg,beq_self_eq_true]at h;cases h
         ·simp only[T8 c,dg,beq_self_eq_true]at h
          exact hy (x',k) am (ak h) rfl
        ·have hb:=beq_eq_false_iff_ne.mpr e
         refine ih (λy hy'=>hy y<|al _ hy') ?_
         by_cases c:(k == bG&&X.env.scope.kind == .function&&X.env.kindOf n == aa .cell)=ah
         ·simp only[T9 c,dg,hb]at h;exact h
         ·simp only[T8 c,dg,hb]at h;exact h
      refine this scope.names (λy hy hl e=>?_) z'
      have l1:=CS.names y hy hl;rw[e]at l1;exact CS.apart (x',.free) fr rfl l1
     ·exact .inl z
     ·exact .inr z
    ·obtain⟨o,ho,hd⟩:=hc
     exact⟨o,hk c' o ho,hd⟩
 ·obtain⟨v,o,ho,hd⟩:=I.cell x c (c1 x c e)
  exact⟨v,o,hk c o ho,hd⟩
 ·unfold XD
  show _=N.length;rw[bn,b9,aF,CS.len]
end
abbrev TEm:=L2.St->Hp->(L2.St->Hp->Prop)->Prop
def Za4(X:Cx)(act:mL Fin->mL Fin)(te:TEm):Prop:=
 ∀(pq:List (aw×dB))(s:au)(σ:L2.St)(H:Hp)(Q:L2.St->Hp->Prop)(k:mL Fin)(QF:Fin->au->Prop)(EE:aq->au->Prop),Inv X pq σ H s->te σ H Q->(∀s' σ' H',Inv X pq σ' H' s'->Q σ' H'->aW (aZ X.prog X.w) X.A k QF EE s')->
  aW (aZ X.prog X.w) X.A (act k) QF EE s
noncomputable def zi(ipos:d8)(tg:Expr)(ifs:List Expr)(act:mL Fin->mL Fin)(it:aq)(env:Env)(c:Code):mL Fin:=do
 ly ipos
 match <-mT it with
 |none=>cA (.done .next)
 |some v=>
  i5 tg it v
  assign tg env v
  let mut ok:=ah
  for c in ifs do
   if ok then ok <-isTrue c env (cb c env)
  if ok then act (again c)else again c
def Zdi(J:It)(g:TG)(tt:TT)(te:TEm)(W:Nat->Nat->L2.St->Hp->Prop)(Q:L2.St->Hp->Prop):Prop:=∀i m σ' H',W i m σ' H'->
  (J.stop i H'/\Q σ' H')\/(J.go i H'/\∀x H'',J.yld i H' x H''->g x σ' H'' λσ2 H2=>tt σ2 H2 λok H3=>if ok=ah then te σ2 H3 λσ3 H4=>∃m',m'<m/\W (i+1) m' σ3 H4 else ∃m',m'<m/\W (i+1) m' σ2 H3)
def qx{tn:Nat->bF->Prop}{Rr:nG->au->Prop}{Q:L2.St->Hp->Prop}{W:Nat->Nat->L2.St->Hp->Prop}
  (hc:Y.calm=ah)(hx:∀a b,Y.xe a b->False)(hT:compTurn e depth (.ref it) acc Y.env=zi ipos tg ifs act (.ref it) Y.env (.compLoop e depth (.ref it) acc Y.env))(hquiet:(nr e depth (.ref it) acc Y.env).isFrame=ai)
  (hq:(nr e depth (.ref it) acc Y.env).quiet=ah)(T:Turn Y.prog Y.w Y.K tg J fp it tn)(hg:PG Y tg g)(ht:PTs Y ifs tt)(he:Za4 Y act te)(stat:∀{H':Hp},(∀b∈fp,H' b=ac)->∀b∈fp,V7 Y pq H' b)
  (turn:Zdi J g tt te W Q)(fin:∀σ H s,Inv Y pq σ H s->Q σ H->Rr (.ok .next) s)
  (I0:Inv Y pq σ H s)(st0:tn 0 s.heap)(fr0:∀b∈fp,H b=ac)(w0:W 0 m σ H)(hden:(aZ Y.prog Y.w).den (.compLoop e depth (.ref it) acc Y.env)=(compTurn e depth (.ref it) acc Y.env).onRaise (λx=>do noteFrame x Y.env;theTreesLotGoes x))
  (hund:Y.A.under (.compLoop e depth (.ref it) acc Y.env)=Y.A):fE (aZ Y.prog Y.w) Y.A (.compLoop e depth (.ref it) acc Y.env) Rr s:=by
 refine codeAny_loop hq (λn s'=>∃i σ' H',Inv Y pq σ' H' s'/\tn i s'.heap/\(∀b∈fp,H' b=ac)/\W i n σ' H') (λn s5 hI=>?_) m ⟨0,σ,H,I0,st0,fr0,w0⟩
 rw[hund,hden,hT];refine wpAny_noted ?_;obtain⟨i,σ5,H5,I5,st5,fr5,w5⟩:=hI;refine af<|fZ<|af ?_;rcases turn i n σ5 H5 w5 with⟨stop,qn⟩|⟨go,step⟩
 ·refine cB (T.done Y rfl rfl rfl hc i pq s5 σ5 H5 (λ_ _=>False) I5 (stat fr5) st5 stop) (λr s6 ⟨hr,I6⟩=>?_) λ_ _ h'=>h'.elim
  subst hr;exact ax<|fin σ5 H5 s6 I6 qn
 ·refine cB (T.item Y rfl rfl rfl hc i pq s5 σ5 H5 (λ_ _=>False) I5 (stat fr5) st5 go) (λr s6 ⟨u,hr,h6⟩=>?_) λ_ _ h'=>h'.elim
  subst hr;refine af<|cB h6 (λ_ s7 ⟨x,H7,I7,r7,y7,st7,fr7⟩=>?_) λ_ _ h'=>h'.elim
  have I7':=I7.pinned (stat fr7)<|T.obj _ _ st7;have back:∀{σ8:L2.St}{H8:Hp}{s8:au}{m':Nat},Inv Y (pq++U6 fp s7.heap) σ8 H8 s8->m'<n->W (i+1) m' σ8 H8->∃m,m<n/\∃i σ' H',Inv Y pq σ' H' s8/\tn i s8.heap/\(∀b∈fp,H' b=ac)/\W i m σ' H':=λ{σ8 H8 s8 m'} I8 hm w8=>by
   refine⟨m',hm,i+1,σ8,H8,I8.unpinned,T.keep _ _ _ st7 λb hb' o e=>(I8.pin (b,o)<|bi _<|bi _<|X9 hb' e).1,λb hb'=>?_,w8⟩
   obtain⟨o,e,d⟩:=T.obj _ _ st7 b hb';exact(I8.pin (b,o)<|bi _<|bi _<|X9 hb' e).2.1
  refine af<|cB (hg _ s7 σ5 H7 x u _ I7' r7<|step x H7 y7) (λ_ s8 ⟨σ8,H8,I8,q8⟩=>?_) λ_ _ h'=>(hx _ _ h').elim
  refine af<|cB (ht _ s8 σ8 H8 _ I8 q8) (λok s9 ⟨H9,I9,q9⟩=>?_) λ_ _ h'=>(hx _ _ h').elim
  cases ok with
  |false=>
   rw[T8 aN]at q9;obtain⟨m',hm,w9⟩:=q9;exact ax ⟨rfl,back I9 hm w9⟩
  |true=>
   rw[T9 rfl]at q9;exact he _ s9 σ8 H9 _ _ _ _ I9 q9 λs10 σ10 H10 I10 ⟨m',hm,w10⟩=>ax ⟨rfl,back I10 hm w10⟩
def yp(hx:∀a b,Y.xe a b->False)(he:PE Y elt te):Za4 Y (λk=>(do let _ <-call (.builtin "list.append") [.ref D,<-cb elt Y.env]:mL Unit) >>= λ_=>k) (λσ H Q=>te σ H λy H4=>∃ys,H4 D=aa (.lst ys)/\ys.length<aY/\Q σ (upd H4 D<|.lst<|ys++[y])):=by
 intro pq s σ H Q k QF EE I h hk;refine af ?_;refine af<|cB (he pq s σ H _ I h) (λxv s10 ⟨y,H10,I10,r10,ys,hDy,hz,q⟩=>?_) λ_ _ h'=>(hx _ _ h').elim
 refine af<|cB (Jo pq s10 σ H10 (.ref D) [y] (.ref D) [xv] (λv H'=>v=.non/\H'=upd H10 D (.lst<|ys++[y])) I10 rfl (.cons r10 .nil) ⟨D,ys,y,rfl,rfl,hDy,hz,rfl,rfl⟩) (λ_ s11 ⟨v11,H11,I11,_,_,eH⟩=>?_) λ_ _ h'=>(hx _ _ h').elim
 subst eH;exact ax<|hk _ _ _ I11 q
def ZdJ(wi:TI)(g:TG)(tt:TT)(te:aw->TEm)(cap:List Nat)(nl:Nat):TE:=λσ H Q=>wi σ H λJ H1=>∀D,H1 D=ac->∃W:Nat->Nat->L2.St->Hp->Prop,(∃m,W 0 m (XD cap nl σ)<|upd H1 D<|.lst [])/\Zdi J g tt (te D) W λ_ H'=>Q (.ref D) H'
def jQ(wi:TI)(g:TG)(tt:TT)(te:TE)(cap:List Nat)(nl:Nat):TE:=λσ H Q=>wi σ H λJ H1=>∀D,H1 D=ac->∃W:Nat->Nat->L2.St->Hp->Prop,(∃m,W 0 m (XD cap nl σ)<|upd H1 D<|.lst [])/\∀i m σ' H',W i m σ' H'->
  (J.stop i H'/\Q (.ref D) H')\/(J.go i H'/\∀x H'',J.yld i H' x H''->g x σ' H'' λσ2 H2=>tt σ2 H2 λok H3=>if ok=ah then te σ2 H3 λy H4=>∃ys,H4 D=aa (.lst ys)/\ys.length<aY/\∃m',m'<m/\W (i+1) m' σ2 (upd H4 D<|.lst<|ys++[y])else ∃m',m'<m/\W (i+1) m' σ2 H3)
section
variable{X:Cx}
structure Gone(X:Cx)(pq:List (aw×dB))(H:Hp)(s:au)(C:aw):Prop where
 free:H C=ac
 ns:∃m,s.heap.Ns C m
 loc:C≠X.env.locals
 big:X.s₀.heap.objs.size<=C
 cel:∀x c,X.env.cells.lookup x=aa c->c≠C
 pin:∀p∈X.pn++pq,p.1≠C
def Jw{tg iter elt:Expr}{ifs:List Expr}{scope:c7}{pos fpos:d8}{N:List bc}{cap:List Nat}{nl:Nat}{wi:TI}{g:TG}{tt:TT}{te:aw->TEm}{act:aq->Env->mL Fin->mL Fin}{rest:List Comprehension}{pq:List (aw×dB)}{s:au}{σ:L2.St}{H:Hp}{Q:VK}{use:Option (aq->mL Unit)}{QQ:aq->au->Prop}(hc:X.calm=ah)(hN:X.N.Nodup)(CS:CompScope X.env.scope X.N scope N cap nl)(hi:PI X tg iter wi)
  (hT:∀it acc env,compTurn (.ListComp elt (⟨tg,iter,ifs,0⟩::rest) scope pos) 0 it acc env=zi iter.pos tg ifs (act acc env) it env (.compLoop (.ListComp elt (⟨tg,iter,ifs,0⟩::rest) scope pos) 0 it acc env))
  (hb:∀cl s H fp,PG (cxC X N scope cl s H fp) tg g/\PTs (cxC X N scope cl s H fp) ifs tt/\∀D,Za4 (cxC X N scope cl s H fp) (act (.ref D) (cxC X N scope cl s H fp).env)<|te D)
  (hs:∀x,cS iter X.env x=cA x)(I:Inv X pq σ H s)(h:ZdJ wi g tt te cap nl σ H Q)
  (fin:∀D C H5 s6,Inv X pq σ H5 s6->Gone X pq H5 s6 C->Q (.ref D) H5->compPost (aZ X.prog X.w) X.A X.xe use QQ (.ref D) C (.ok .next) s6) :
  aW (aZ X.prog X.w) X.A (comprehension (.ListComp elt (⟨tg,iter,ifs,0⟩::rest) scope pos) scope X.env fpos (newList []) ai (cb iter X.env) use) QQ X.xe s:=by
 obtain⟨cl,hcl,c1,c2⟩:=WS λy hy hf=>I.ok.has y.1<|CS.free y hy hf
 refine wpAny_comprehension_free rfl hs hcl CS.kind CS.names ?_;refine thn (hi pq s σ H _ I h) λv s1 h1=>thn h1 λitv s2 h2=>?_
 obtain⟨it,fp,tn,J,H2,rfl,I2,T,st2,f2,q2⟩:=h2;obtain⟨W,⟨m0,w0⟩,turn⟩:=q2 s2.heap.objs.size<|I2.hok.fresh<|aB _;refine bu<|ky CS.nocell (by intro y hy;simp at hy) (λh₁ hns₁ hsb₁=>?_) CS.kind
 dsimp only at hns₁ hsb₁ ⊢
 have I3:Inv X pq σ (upd H2 s2.heap.objs.size<|.lst []) {s2 with heap:=s2.heap.push {cls:=.type "list",dict:=ac,data:=.seq ([]:List aq).toArray},toks:=s2.toks}:=
  I2.laid (λb u e=>ao _ e) (aB _) ⟨dL _,[],0,.nil,aM _ rfl⟩
 generalize hD:s2.heap.objs.size=D at I3 w0 turn hns₁ hsb₁ ⊢;generalize hs3:({s2 with heap:=s2.heap.push {cls:=.type "list",dict:=ac,data:=.seq ([]:List aq).toArray},toks:=s2.toks}:au)=s3 at I3
 have hh3:s2.heap.push {cls:=.type "list",dict:=ac,data:=.seq ([]:List aq).toArray}=s3.heap:=by rw[<-hs3]
 rw[hh3]at hns₁ hsb₁;have old:∀b o,s2.heap.get? b=aa o->s3.heap.get? b=aa o:=λb o e=>by rw[<-hh3];exact ao _ e
 have neD:∀b∈fp,b≠D:=λb hb' e=>by
  obtain⟨o,ho,_⟩:=T.obj _ _ st2 b hb';exact T7 (aJ ho) (by rw[e,<-hD];exact bB _)
 have f3:∀b∈fp,V7 X pq (upd H2 D<|.lst []) b:=λb hb'=>⟨by rw[Zn<|neD b hb'];exact(f2 b hb').1,(f2 b hb').2⟩
 have keep4:=λb o e=>hsb₁.extBut b o (bf<|aJ e)<|ao _ e
 have I4:=ZaG (tk:=s2.toks+([]:List (bc×aq)).length) I3 CS hN c1 c2 f3 (λb hb'=>let ⟨o,ho,_⟩:=T.obj _ _ st2 b hb';⟨o,old b o ho⟩) ⟨_,hns₁⟩ keep4
 have e4:({s3 with heap:=h₁,toks:=s2.toks+([]:List (bc×aq)).length}:au)={s2 with heap:=h₁,toks:=s2.toks+([]:List (bc×aq)).length}:=by rw[<-hs3]
 rw[e4]at I4;obtain⟨hg,ht,he⟩:=hb cl s3 (upd H2 D<|.lst []) fp;generalize hY:cxC X N scope cl s3 (upd H2 D<|.lst []) fp=Y at I4 hg ht he;have yP:Y.prog=X.prog:=by rw[<-hY];rfl
 have stat:∀{H':Hp},(∀b∈fp,H' b=ac)->∀b∈fp,V7 Y [] H' b:=λhn b hb'=>by
  subst hY;refine⟨hn b hb',λe=>?_,λhm=>?_,.inl hb',λx c e=>(f3 b hb').2.2.2.2.1 x c<|c1 x c e,λp hp=>T7 hp<|by simp[cxC]⟩
  ·obtain⟨o,ho,_⟩:=T.obj _ _ st2 b hb'
   have:=aJ<|old b o ho;rw[e]at this;exact T7 this<|bB _
  ·rcases az.mp (I3.stkSub b hm)with e|e
   ·exact(f3 b hb').2.1 e
   ·exact(f3 b hb').2.2.1 e
 subst hY
 let Y:=cxC X N scope cl s3 (upd H2 D<|.lst []) fp
 have st4:=T.keep _ _ _ st2 λb hb' o e=>keep4 b o<|old b o e
 have fr4:=λb hb'=>(f3 b hb').1
 have loop:fE (aZ X.prog X.w) X.A (.compLoop (.ListComp elt (⟨tg,iter,ifs,0⟩::rest) scope pos) 0 (.ref it) (.ref D)<|compEnvC scope cl s3.heap.objs.size X.env)
   (compPost (aZ X.prog X.w) X.A X.xe use QQ (.ref D) s3.heap.objs.size) {s2 with heap:=h₁,toks:=s2.toks+([]:List (bc×aq)).length}:=by
  refine qx (Y:=cxC X N scope cl s3 (upd H2 D<|.lst []) fp) hc (λ_ _ z=>z) (hT _ _ _) rfl rfl T hg ht (he D) stat turn (λσ5 H5 s6 I6 qn=>?_) I4 st4 fr4 w0 rfl rfl
  obtain⟨m6,hn6,_⟩:=I6.loc;have u:=I6.base;have IX:=Inv.call' (s':=s6) I3 I6.os ⟨u.keep,u.slot,u.free,u.there,u.tups,u.frzs,u.tbls⟩ I6.hok I6.bare λb hb'=>⟨(f3 b hb').2.2.2.1,(f3 b hb').2.1,(f3 b hb').2.2.2.2.1,λp hp e=>(f3 b hb').2.2.2.2.2 p hp e⟩
  refine fin D s3.heap.objs.size H5 s6 IX ⟨I6.free,⟨m6,hn6⟩,Ne.symm<|bf I3.lt,I3.sz,λx c e z=>?_,λp hp z=>?_⟩ qn
  ·obtain⟨v,q⟩:=I3.cell x c e
   exact T7 q.lt (by rw[z];exact bB _)
  ·exact T7 (aJ (I3.pin p hp).1) (by rw[z];exact bB _)
 subst hs3;exact codeAny_compStart_list loop<|T.self _ 0 _ _ _ st4 loop
def Gone.inv(G:Gone X pq H s C)(I:Inv X pq σ H s)(hsb:d5 C s.heap h'):Inv X pq σ H {s with heap:=h' }:=
 I.turned (t':=s.toks) (λb o hb e=>(hsb.2 b hb).trans e) G.free G.loc (.inr G.big) G.cel G.pin
def Zgu(te:TE)(D:aw):TEm:=λσ H Q=>te σ H λy H4=>∃ys,H4 D=aa (.lst ys)/\ys.length<aY/\Q σ (upd H4 D<|.lst<|ys++[y])
def Zcc(hc:X.calm=ah)(hN:X.N.Nodup)(CS:CompScope X.env.scope X.N scope N cap nl)(hi:PI X tg iter wi)
  (hb:∀cl s H fp,PG (cxC X N scope cl s H fp) tg g/\PTs (cxC X N scope cl s H fp) ifs tt/\PE (cxC X N scope cl s H fp) elt te)
  (hs:∀x,cS iter X.env x=cA x:=by intro _;rfl):PE X (.ListComp elt [⟨tg,iter,ifs,0⟩] scope pos) (jQ wi g tt te cap nl):=by
 intro pq s σ H Q I h;rw[eval_ListComp];refine Jw (act:=λacc env k=>(do let _ <-call (.builtin "list.append") [acc,<-cb elt env]:mL Unit) >>= λ_=>k) hc hN CS hi (λ_ _ _=>rfl) (λcl s H fp=>⟨(hb cl s H fp).1,(hb cl s H fp).2.1,λD=>yp (λ_ _ z=>z) (hb cl s H fp).2.2⟩) hs I h λD C H5 s6 I6 G q=>?_
 obtain⟨m6,hn6⟩:=G.ns;exact⟨m6,hn6,λh' hsb=>⟨.ref D,H5,G.inv I6 hsb,rfl,q⟩⟩
def Za5(hc:X.calm=ah)(hN:X.N.Nodup)(CS:CompScope X.env.scope X.N scope N cap nl)(hi:PI X tg iter wi)
  (hb:∀cl s H fp,PG (cxC X N scope cl s H fp) tg g/\PTs (cxC X N scope cl s H fp) ifs tt/\PE (cxC X N scope cl s H fp) elt te)
  (hsw:eT (.ListComp elt [⟨tg,iter,ifs,0⟩] scope pos) (aa<|.Name y py) spos.line X.env=cA ah)
  (hy:X.N[i]?=aa y)(hx:L2.Loc X.env.scope y)(hf:X.fn y=ah\/X.env.scope.names.lookup y=aa .local)
  (hs:∀x,cS iter X.env x=cA x:=by intro _;rfl):PS X (.Assign [.Name y py] (.ListComp elt [⟨tg,iter,ifs,0⟩] scope pos) spos) (λD σ H=>jQ wi g tt te cap nl σ H λv H1=>D.nx (σ.set i<|aa v) H1):=by
 intro pq s σ H D I h;rw[exec_Assign_Name_used _ _ _ _ hsw];refine af<|fZ<|af ?_;refine af<|cB (Jw (Q:=λv H1=>D.nx (σ.set i<|aa v) H1) (act:=λacc env k=>(do let _ <-call (.builtin "list.append") [acc,<-cb elt env]:mL Unit) >>= λ_=>k) hc hN CS hi (λ_ _ _=>rfl) (λcl s H fp=>⟨(hb cl s H fp).1,(hb cl s H fp).2.1,λD=>yp (λ_ _ z=>z) (hb cl s H fp).2.2⟩) hs I h λA C H5 s6 I6 G q=>?_) (λ_ s' hq=>ax<|ax hq) λ_ _ e=>e
 refine lz<|JG (v:=V.ref A) I6 hN hy hx rfl (λs7 I7 ⟨a,hsb,ha⟩=>?_) hf
 have hCa:C≠a:=by
  rcases ha with e|e
  ·rw[e];exact G.loc
  ·exact Ne.symm<|G.cel y a e
 obtain⟨m6,hn6⟩:=G.ns;have G7:Gone X pq H5 s7 C:=⟨G.free,⟨m6,hn6.sameBut hsb hCa⟩,G.loc,G.big,G.cel,G.pin⟩;exact⟨m6,hn6.sameBut hsb hCa,λh' hs'=>⟨σ.set i<|aa<|.ref A,H5,G7.inv I7 hs',q⟩⟩
end
end Sd
namespace Sd
open PySem PySem.Spec PyProof.Rows L2
open Ev (D Ob Zc Lc R E Sm Calls Walk Fl Fn Bop Cop Ty Bf Mf ev evs evo evt evw tst run runs)
section
variable{X:Cx}{xw:Nat->Hp->Prop}{C:Calls}{e a b c tg it:Expr}{i j k:E}{pos p p' p2:d8}
def CTs(X:Cx)(xw:Nat->Hp->Prop)(C:Calls)(ifs:List Expr)(is:List E):Prop:=PTs X ifs<|tB3 X xw<|evt C is
def PTs.imp{X:Cx}{e:List Expr}{t t':TT}(h:PTs X e t)(k:∀σ H Q,t' σ H Q->t σ H Q):PTs X e t':=λpq s σ H Q I q=>h pq s σ H Q I<|k σ H Q q
def JO:CTs X xw C [] []:=PTs.imp ZcJ λσ H Q ⟨ρ,l,S,st,lr,h⟩=>End.ok (h) st rfl
def Zch(σ:Lc)(S:Zc):evt C [i] σ S=tst C i σ S:=by
 show((ev C i σ S).bind λx S=>(Ev.ob (Ev.Yc S x) S).bind λb S=>if b then evt C [] σ S else .ok ai S)=(ev C i σ S).bind λx S=>Ev.ob (Ev.Yc S x) S
 congr 1
 funext x S
 cases Ev.Yc S x with|none=>rfl|some b=>cases b<;>rfl
def GD(h:CT X xw C c i):CTs X xw C [c] [i]:=PTs.imp (ZcE h) λσ H Q ⟨ρ,l,S,st,lr,h⟩=>⟨ρ,l,S,st,lr,by rw[<-Zch];exact h⟩
theorem LocR.caught(lr:LocR ρ H l σ)(cap:List Nat)(nl:Nat):LocR ρ H (Ev.caught cap nl l) (XD cap nl σ):=by
 refine⟨by unfold Ev.caught XD;simp,λn d e=>?_⟩
 unfold Ev.caught at e;by_cases hn:n<nl
 ·rw[aO<|by simp;exact hn,bI,T9 hn]at e
  cases e
 ·rw[bj<|by simp;omega,b9,aX]at e
  unfold XD;rw[bj<|by simp;omega,b9,aX]
  cases q:cap[n-nl]? with
  |none=>rw[q]at e;cases e
  |some m=>
   rw[q]at e;have e':(l[m]?).join=aa d:=ak e;have:l[m]?=aa (aa d):=by
    cases z:l[m]? with
    |none=>rw[z]at e';cases e'
    |some o=>rw[z]at e';cases o with|none=>cases e'|some w=>cases e';rfl
   obtain⟨v,hv,r⟩:=lr.val m d this;exact⟨v,by show aa ((σ[m]?).join)=_;rw[hv];rfl,r⟩
def yr(hyp:tE X xw (ev C<|.comp1 cap nl t w is ie) σ H Q):jQ (tW3 X xw<|evw C w) (tG3 X t) (tB3 X nx<|evt C is) (tE X nx<|ev C ie) cap nl σ H Q:=by
  obtain⟨ρ,l,S,st,lr,h⟩:=hyp;rw[ev]at h;refine⟨ρ,l,S,st,lr,h.bind λwk S1 ρ1 H1 J f1 st1 r1 h1=>λD hD=>?_⟩
  have st2:St3 X.K (ρ1++[D]) (S1++[.lst []]) (upd H1 D<|.lst []):=st1.new hD ⟨[],Zr,Rq.nil⟩;have f2:Fut ρ1 H1 (ρ1++[D]) (upd H1 D<|.lst []):=YQ hD;have pD:(ρ1++[D])[S1.length]?=aa D:=by rw[<-st1.len];simp
  let B:Ev.D->Lc->Zc->R Lc:=λx σ S2=>(Ev.ob (Ev.assign t x S2 σ) S2).bind λσ S2=>(evt C is σ S2).bind λb S2=>if b then(ev C ie σ S2).bind λy S2=>(Ev.push S1.length y S2).bind λ_ S2=>.ok σ S2 else .ok σ S2
  have h2:=End.nox h1
  refine⟨λn m σ' H'=>m=wk.items.length-n/\n<=wk.items.length/\∃ρ' l' S',Fut (ρ1++[D]) (upd H1 D<|.lst []) ρ' H'/\St3 X.K ρ' S' H'/\LocR ρ' H' l' σ'/\End X.K nx Rep ρ' H' Q ((Ev.Xm wk B (wk.items.drop n) l' S').bind λ_ S2=>.ok (.loc S1.length) S2),
   ⟨wk.items.length,rfl,dL _,ρ1++[D],Ev.caught cap nl l,S1++[Ob.lst []],Fut.refl _ _,st2,(((lr.mono f1).mono f2).caught cap nl),by rw[kx];exact End.mono f2 h2⟩,?_⟩
  rintro n m σ' H' ⟨rfl,hn,ρ',l',S',f',st',lr',e'⟩
  by_cases hlt:n<wk.items.length
  ·right
   have hd:=cJ hlt;rw[hd]at e';have e2:End X.K nx Rep ρ' H' Q ((if wk.still S'=ah then(B wk.items[n] l' S').bind λσ S=>Ev.Xm wk B (wk.items.drop<|n+1) σ S else .no).bind λ_ S2=>.ok (.loc S1.length) S2):=e'
   by_cases hst:wk.still S'=ah
   ·rw[T9 hst]at e2
    obtain⟨go,yl⟩:=r1.go n ρ' S' H' (f2.trans f') st' hst hlt;refine⟨go,λx H3 y=>?_⟩
    obtain⟨f3,st3,rp⟩:=yl x H3 y;have rx:=rp _<|ag hlt;have e3:=End.mono f3 e2;have ff:=f'.trans f3;cases ha:Ev.assign t wk.items[n] S' l' with
    |none=>
     have z:B wk.items[n] l' S'=.no:=by show(Ev.ob (Ev.assign t wk.items[n] S' l') S').bind _=_;rw[ha];rfl
     rw[z]at e3;exact False.elim e3
    |some l2=>
     have z:B wk.items[n] l' S'=(evt C is l2 S').bind λb S2=>if b then(ev C ie l2 S2).bind λy S2=>(Ev.push S1.length y S2).bind λ_ S2=>.ok l2 S2 else .ok l2 S2:=by
      show(Ev.ob (Ev.assign t wk.items[n] S' l') S').bind _=_;rw[ha];rfl
     rw[z]at e3;simp only[WA]at e3;refine⟨ρ',l',S',wk.items[n],l2,st3,lr'.mono f3,rx,ha,λσ2 lr2=>⟨ρ',l2,S',st3,lr2,e3.bind λok S4 ρ4 H4 ok' f4 st4 ro h4=>?_⟩⟩
     have eo:=ro;subst eo;cases ok with
     |false=>
      rw[T8 aN];exact⟨wk.items.length-(n+1),by omega,rfl,hlt,ρ4,l2,S4,ff.trans f4,st4,lr2.mono f4,h4⟩
     |true=>
      rw[T9 rfl];have h5:End X.K nx Rep ρ4 H4 Q (((ev C ie l2 S4).bind λy S2=>(Ev.push S1.length y S2).bind λ_ S2=>.ok l2 S2).bind λa S=>(Ev.Xm wk B (wk.items.drop<|n+1) a S).bind λ_ S2=>.ok (.loc S1.length) S2):=h4
      simp only[WA]at h5;refine⟨ρ4,l2,S4,st4,lr2.mono f4,h5.bind λy S5 ρ5 H5 v f5 st5 r5 h6=>?_⟩
      have p5:=f5.at<|f4.at<|ff.at pD;cases q:Ev.Zm S5 S1.length with
      |none=>
       have z:Ev.push S1.length y S5=.no:=by unfold Ev.push;rw[q]
       rw[z]at h6;exact False.elim h6
      |some zs=>
       have z:Ev.push S1.length y S5=if zs.length<Ev.lim then .ok () (S5.set S1.length<|.lst<|zs++[y])else .no:=by unfold Ev.push;rw[q]
       rw[z]at h6;by_cases hl:zs.length<Ev.lim
       ·rw[T9 hl]at h6
        obtain⟨sn,a,xs,pa,hx,rz⟩:=st5.lst q;rw[p5]at pa;cases pa;refine⟨xs,hx,by rw[rz.length,<-W4];exact hl,wk.items.length-(n+1),by omega,rfl,hlt,ρ5,l2,S5.set S1.length<|.lst<|zs++[y],((ff.trans f4).trans f5).trans<|Xp hx,st5.wr p5 sn hx<|rz.append<|Rq.cons r5 Rq.nil,((lr2.mono f4).mono f5).mono<|Xp hx,End.mono (Xp hx) h6⟩
       ·rw[T8 hl]at h6
        exact False.elim h6
   ·rw[T8 hst]at e2
    exact False.elim e2
  ·left
   have en:n=wk.items.length:=by omega
   subst en;rw[mj]at e';have e2:End X.K nx Rep ρ' H' Q ((if wk.still S'=ah then Ev.R.ok l' S' else .no).bind λ_ S2=>.ok (.loc S1.length) S2):=e'
   by_cases hst:wk.still S'=ah
   ·rw[T9 hst]at e2
    exact⟨r1.stop ρ' S' H' (f2.trans f') st' hst,End.ok (e2) st'<|Wa<|f'.at pD⟩
   ·rw[T8 hst]at e2
    exact False.elim e2
def UW{elt:Expr}{ifs:List Expr}{is:List E}{ie:E}{scope:c7}{N:List bc}{cap:List Nat}{nl:Nat}{w:Ev.W}{t:List Nat}(hc:X.calm=ah)(hN:X.N.Nodup)(CS:CompScope X.env.scope X.N scope N cap nl)(hi:CW X xw C tg it w)
  (hb:∀cl s H fp,CG (cxC X N scope cl s H fp) tg t/\CTs (cxC X N scope cl s H fp) nx C ifs is/\CE (cxC X N scope cl s H fp) nx C elt ie)
  (hs:∀x,cS it X.env x=cA x:=by intro _;rfl):CE X xw C (.ListComp elt [⟨tg,it,ifs,0⟩] scope pos) (.comp1 cap nl t w is ie):=
 PE.imp (Zcc (g:=tG3 X t) (tt:=tB3 X nx<|evt C is) (te:=tE X nx<|ev C ie) hc hN CS hi (λcl s H fp=>hb cl s H fp) hs) λσ H Q hyp=>yr hyp
def UT{elt:Expr}{ifs:List Expr}{is:List E}{ie:E}{scope:c7}{N:List bc}{cap:List Nat}{nl:Nat}{w:Ev.W}{t:List Nat}{n:Nat}{y:bc}{spos py:d8}(hc:X.calm=ah)(hN:X.N.Nodup)(CSc:CompScope X.env.scope X.N scope N cap nl)(hi:CW X xw C tg it w)
  (hb:∀cl s H fp,CG (cxC X N scope cl s H fp) tg t/\CTs (cxC X N scope cl s H fp) nx C ifs is/\CE (cxC X N scope cl s H fp) nx C elt ie)
  (hsw:eT (.ListComp elt [⟨tg,it,ifs,0⟩] scope pos) (aa<|.Name y py) spos.line X.env=cA ah:=by rfl)
  (hy:X.N[n]?=aa y:=by rfl)(hx:L2.Loc X.env.scope y:=by first|exact lh rfl|exact iA rfl)(hf:X.fn y=ah\/X.env.scope.names.lookup y=aa .local:=by first|exact .inl rfl|exact .inr rfl)
  (hs:∀x,cS it X.env x=cA x:=by intro _;rfl):CS X xw C (.Assign [.Name y py] (.ListComp elt [⟨tg,it,ifs,0⟩] scope pos) spos) (.asg [n]<|.comp1 cap nl t w is ie):=
 PS.imp (Za5 (g:=tG3 X t) (tt:=tB3 X nx<|evt C is) (te:=tE X nx<|ev C ie) hc hN CSc hi (λcl s H fp=>hb cl s H fp) hsw hy hx hf hs) λD σ H ⟨ρ,l,S,st,lr,h⟩=>
  yr ⟨ρ,l,S,st,lr,ZX.bind (h) λx S1 ρ1 H1 v f1 st1 r1 h1=>by
   obtain⟨l',hl',h2⟩:=ZX.ob h1;have e:=ak hl';exact ZX.nx h2 st1<|by rw[<-e];exact(lr.mono f1).set n r1⟩
end
theorem LocR.start(r:Rq ρ H ds vs)(N:List bc)(n:Nat)(hn:n=N.length):LocR ρ H (Ev.start n ds) (L2.start N vs):=by
 subst hn;have hl:=r.length;refine⟨by unfold Ev.start L2.start;simp[hl],λi d e=>?_⟩
 unfold Ev.start at e;by_cases hi:i<ds.length
 ·rw[aO<|by simpa using hi,aX]at e
  cases q:ds[i]? with
  |none=>rw[q]at e;cases e
  |some d'=>
   rw[q]at e;cases e;obtain⟨v,hv,r'⟩:=r.get q;refine⟨v,?_,r'⟩;unfold L2.start;rw[aO<|by simp;omega,aX,hv]
   rfl
 ·rw[bj<|by simp;omega,bI]at e
  split at e<;>cases e
section
variable{prog:bq}{w:bC}{A:bL}{E:aq->au->Prop}{s:au}
def u9(n:Nat):bY ((n:Int)-1) (-1) (-1)=n:=by
 unfold bY;have h1:¬((-1:Int)>0):=by decide
 rw[T8 h1];by_cases h:(n:Int)-1 > -1
 ·grind
 ·grind
def VO{sl:aw}{vk:aq}{n:Nat}{Q:Int×Int×Nat->au->Prop}(hs:s.heap.IsSliceOf sl .none .none vk)(pk:gP vk (aa<|-1))
  (h:Q ((n:Int)-1,-1,n) s):aW (aZ prog w) A (gR (.ref sl)<|cA (n:Int)) Q E s:=by
 obtain⟨os,hos,hcs,hds⟩:=id hs;refine af<|af<|bX hos hds rfl<|af<|bX hos hds rfl<|af<|bX hos hds rfl<|ax ?_;refine af<|HT.WU pk ?_;show aW _ _ (if((-1:Int) == 0)=ah then _ else _) _ _ s
 rw[T8<|by decide]
 refine af<|gQ<|af<|gQ<|af<|ax ?_;show aW _ _ (cA ((n:Int)-1,(-1:Int),bY ((n:Int)-1) (-1)<|-1)) _ _ s;rw[u9];exact ax h
def qT(xs:Array aq):((aR xs.size).filterMap λ(k:Nat)=>xs[((xs.size:Int)-1+(k:Int) * -1).toNat]?).toArray=xs.toList.reverse.toArray:=by
 congr 1
 have e:(aR xs.size).filterMap (λ(k:Nat)=>xs[((xs.size:Int)-1+(k:Int) * -1).toNat]?)=((aR xs.size).map λk=>xs.size-1-k).filterMap (xs[·]?):=by
  rw[lf]
  congr 1
  funext k
  have:((xs.size:Int)-1+(k:Int) * -1).toNat=xs.size-1-k:=by omega
  rw[this];rfl
 rw[e,PySem.W.krv_range,List.filterMap_reverse,PySem.W.krv_all]
def VE{Q:aq->au->Prop}(ht:lx s.heap t items)(hs:s.heap.IsSliceOf sl .none .none vk)(pk:gP vk (aa<|-1))
  (h:Q (.ref s.heap.objs.size) {s with heap:=s.heap.push {cls:=.type "tuple",data:=.seq items.toList.reverse.toArray}})
  (hsz:items.size<=aY):aW (aZ prog w) A (ib (.ref t)<|.ref sl) Q E s:=by
 have htake:sizeOk (.seq items.toList.reverse.toArray):=by
  show items.toList.reverse.toArray.size<=aY;rw[aD,kL,cV];exact hsz
 obtain⟨os,hos,hcs,hds⟩:=id hs;have hTs:s.TypeIs (.ref sl) "slice":=⟨os,hos,hcs⟩;unfold ib
 try with_reducible refine bO ?_
 first|refine af<|ax ?_|skip
 refine af<|ig ht.typeIs (by decide) ?_
 refine af (bU ht.typeIs bR
  (cz bR ht.typeIs gB ?_<|gS _ _))
 show aW _ _ (eM (.ref t) >>= _) _ _ s;refine af<|kR ht ?_;refine af<|eU hTs ?_;rw[T9<|by decide]
 refine af<|VO hs pk ?_;have hno:¬(((items.size:Int)-1 == 0&&(-1:Int) == 1&&items.size == items.size)=ah):=by grind
 show aW _ _ (if((items.size:Int)-1 == 0&&(-1:Int) == 1&&items.size == items.size)=ah then _ else _) _ _ s
 rw[T8 hno,qT]
 first
  |exact af (bu (ax ⟨_,rfl,ax h⟩) htake)
  |exact af (bu (af<|ax<|ax ⟨_,rfl,ax h⟩) htake)
  |exact af (af<|bu (ax<|ax ⟨_,rfl,ax h⟩) htake)
  |exact af<|af<|bu (ax ⟨_,rfl,ax h⟩) htake
end
section
variable{X:Cx}{xw:Nat->Hp->Prop}{C:Calls}{e a b c tg it:Expr}{i j k:E}{pos p p' p2 p3:d8}{q1:Option bc}
def xL{e1:Expr}(ha:CE X xw C a i)(h1:CE X xw C e1 (.neg<|.c<|.int 1)):CE X xw C (.Subscript a (.Slice ac ac (aa e1) p2) pos) (.rev i):=by
 intro pq s σ H Q I hq;obtain⟨ρ,l,S,st,lr,h⟩:=hq;have h':=h
 refine mV<|thn (ha pq s σ H (λx H1=>∃ρ1 S1 d,St3 X.K ρ1 S1 H1/\LocR ρ1 H1 l σ/\Rep ρ1 H1 d x/\End X.K xw Rep ρ1 H1 Q (Ev.yo d S1)) I ⟨ρ,l,S,st,lr,h'.bind λd S1 ρ1 H1 v f1 st1 r1 h1=>⟨ρ1,S1,d,st1,lr.mono f1,r1,h1⟩⟩) λv s1 ⟨x,H1,I1,r1,ρ1,S1,d,st1,lr1,rd,h2⟩=>?_
 refine wpAny_Slice ?_;rw[kS];refine ax<|ax ?_;rw[evalPart_some];refine thn (h1 pq s1 σ H1 (λy H2=>y=.int (-1)/\∃ρ2,Fut ρ1 H1 ρ2 H2/\St3 X.K ρ2 S1 H2) I1 ⟨ρ1,l,S1,st1,lr1,λρ2 H2 y f2 st2 ry=>⟨ry.int',ρ2,f2,st2⟩⟩) λvk s2 ⟨y,H2,I2,ry,ey,ρ2,f2,st2⟩=>?_
 subst ey;obtain⟨t,rfl⟩:=ry;have rd2:=rd.mono f2;have h3:=End.mono f2 h2;cases d with
 |tup ds=>
  obtain⟨q,xs,rfl,hp,rs⟩:=rd2.tup';cases r1;have I4:Inv X pq σ H2 {s2 with heap:=s2.heap.push {cls:=.type "slice",data:=.fields #[.none,.none,.int (-1) t]}}:=I2.kept (t':=s2.toks) λb ob q=>ao _ q
  obtain⟨its,r,ht,hz⟩:=I4.tuple<|SqT.of hp;have hlen:its.toArray.size=xs.length:=by rw[aD];exact r.length.symm
  refine tail_any ht.typeIs bR.lookup ?_ (by with_unfolding_all rfl)
  refine VE ht (lg ..) (gP.int _ _) ?_ (by rw[hlen];exact hz)
  refine⟨.ref _,_,I4.laid (t':=s2.toks) (o:=.tup xs.reverse) (λb ob q=>ao _ q) (aB _) ⟨by grind,_,r.reverse,fR _ _⟩,rfl,h3.newT st2 rs.reverse _<|I4.hok.fresh<|aB _⟩
 |_=>exact False.elim h3
end
section
variable{es:List Expr}{env:Env}
def yj{a b c}:aC (.Constant a b c::es) env=(ai,cb (.Constant a b c) env)::aC es env:=rfl
def wl{a b}:aC (.Name a b::es) env=(ai,cb (.Name a b) env)::aC es env:=rfl
def ju{a b c}:aC (.Tuple a b c::es) env=(ai,cb (.Tuple a b c) env)::aC es env:=rfl
def ZaC{a b}:aC (.List a b::es) env=(ai,cb (.List a b) env)::aC es env:=rfl
def vy{a b c}:aC (.Dict a b c::es) env=(ai,cb (.Dict a b c) env)::aC es env:=rfl
def qH{a b c d}:aC (.BinOp a b c d::es) env=(ai,cb (.BinOp a b c d) env)::aC es env:=rfl
def Zdl{a b c}:aC (.UnaryOp a b c::es) env=(ai,cb (.UnaryOp a b c) env)::aC es env:=rfl
def vG{a b c}:aC (.BoolOp a b c::es) env=(ai,cb (.BoolOp a b c) env)::aC es env:=rfl
def ZaS{a b c d}:aC (.Compare a b c d::es) env=(ai,cb (.Compare a b c d) env)::aC es env:=rfl
def jA{a b c}:aC (.Subscript a b c::es) env=(ai,cb (.Subscript a b c) env)::aC es env:=rfl
def wL{a b c d}:aC (.Call a b c d::es) env=(ai,cb (.Call a b c d) env)::aC es env:=rfl
def wq{a b c d}:aC (.ListComp a b c d::es) env=(ai,cb (.ListComp a b c d) env)::aC es env:=rfl
end
def Xq:List fU->List (Int×Int)->Prop
 |[],[]=>True
 |e::r,(k,j)::q=>(∃t,e.key=.int k t)/\e.hash=hashInt k/\(∃u,e.val=.int j u)/\Xq r q
 |_,_=>False
theorem Xq.mem :∀{es:List fU}{tab:List (Int×Int)},Xq es tab->∀e∈es,∃k,(iq P w).is k e.key=ah/\e.hash=(iq P w).hash k
 |[],_,_,e,h=>by cases h
 |e::r,[],h,_,_=>h.elim
 |e::r,(k,j)::q,h,x,hx=>by
  obtain⟨⟨t,h1⟩,h2,_,h4⟩:=h;rcases az.mp hx with rfl|hx
  ·exact⟨k,by rw[h1];exact intKind_is P w k t,h2⟩
  ·exact Xq.mem h4 x hx
theorem Xq.find(k:Int):∀{es:List fU}{tab:List (Int×Int)},Xq es tab->(tab.lookup k=ac->(es.find? λe=>(iq P w).is k e.key)=ac)/\∀j,tab.lookup k=aa j->∃e t,(es.find? λe=>(iq P w).is k e.key)=aa e/\e.val=.int j t
 |[],[],_=>⟨λ_=>rfl,λj h=>by cases h⟩
 |[],_::_,h=>h.elim
 |e::r,[],h=>h.elim
 |e::r,(k',j')::q,h=>by
  obtain⟨⟨t,h1⟩,h2,⟨u,h3⟩,h4⟩:=h;obtain⟨i1,i2⟩:=Xq.find k h4;rw[dg,dG];have hd:(iq P w).is k e.key=ae (k=k'):=KeyKind.is_eq_decide (by rw[h1];exact intKind_is P w k' t) k
  rw[hd];by_cases z:k=k'
  ·subst z
   rw[beq_self_eq_true,T5 rfl];exact⟨λz=>(by cases z),λj z=>(by cases z;exact⟨e,u,rfl,h3⟩)⟩
  ·rw[beq_eq_false_iff_ne.mpr z,T4 z]
   exact⟨i1,i2⟩
def ZbS{P:bq}{w:bC}{K:aj}{a:aw}{es:Array fU}{n:Nat}{tab:List (Int×Int)}(hl:K.lookup a=aa ⟨.type "dict",ac,.dict es n,#[]⟩)(ht:Xq es.toList tab)(ha:(a == cM)=ai):ZfY P w K a tab:=by
 refine⟨ha,λk=>findBy (iq P w).is es k,λh X=>⟨_,es,n,X _ _ hl,⟨rfl,rfl,rfl⟩,rfl,λe he=>ht.mem e<|Array.mem_toList_iff.mpr he,λ_=>rfl⟩,λk=>?_⟩
 obtain⟨l⟩:=es;obtain⟨i1,i2⟩:=Xq.find k ht;refine⟨λz=>?_,λj z=>?_⟩
 ·show((l.toArray.find? λe=>(iq P w).is k e.key).map (·.val))=ac
  rw[lm,i1 z];rfl
 ·obtain⟨e,t,q1,q2⟩:=i2 j z
  refine⟨t,?_⟩;show((l.toArray.find? λe=>(iq P w).is k e.key).map (·.val))=_
  rw[lm,q1];exact congrArg aa q2
def hu7(hr:Room k A):A.units+7<dh:=fw (by omega) hr.un
section
variable{X:Cx}{xw:Nat->Hp->Prop}{C:Calls}{e a b c tg it:Expr}{i j k:E}{pos p p' p2 p3:d8}{s0:de}{ss:List de}{m0:Sm}{ms ms':List Sm}
structure AugOk(X:Cx)(op:mS)(o:Bop):Prop where
 h:∃t:TIp,PIp X op t/\∀(xw:Nat->Hp->Prop) ρ S H n m Q,St3 X.K ρ S H->End X.K xw Rep ρ H Q (Ev.Yx o (.int n) (.int m) S)->t (.int n) (.int m) H Q
def Zbk:AugOk X .Add .add:=⟨_,Zb9,λxw ρ S H n m Q st h=>⟨n,m,rfl,rfl,End.ok h st<|Zq _⟩⟩
def xn{op:mS}{o:Bop}{n:Nat}{x:bc}(ho:AugOk X op o)(hN:X.N.Nodup)(he:CE X xw C e i)(hi:X.N[n]?=aa x:=by rfl)(hx:L2.Loc X.env.scope x:=by first|exact lh rfl|exact iA rfl)(hf:X.fn x=ah\/X.env.scope.names.lookup x=aa .local:=by first|exact .inl rfl|exact .inr rfl) :
  CS X xw C (.AugAssign (.Name x p) op e pos) (.aug n o i):=by
 obtain⟨t,ht,hq⟩:=ho.h;refine PS.imp (ZeO hN hi hx he ht hf) λD σ H ⟨ρ,l,S,st,lr,h⟩=>?_
 obtain⟨d,hd,h1⟩:=ZX.ob (h)
 have hd':l[n]?=aa (aa d):=by
  cases z:l[n]? with
  |none=>rw[z]at hd;cases hd
  |some oo=>rw[z]at hd;cases oo with|none=>cases hd|some w=>cases hd;rfl
 obtain⟨v,hv,rv⟩:=lr.val n d hd';refine⟨v,hv,ρ,l,S,st,lr,h1.bind λy S1 ρ1 H1 u f1 st1 r1 h2=>?_⟩
 cases d with
 |int m=>cases y with
  |int m'=>
   rw[rv.int',r1.int'];refine hq xw ρ1 S1 H1 m m' _ st1 ?_;exact ZX.bind (h2) λz S2 ρ2 H2 w f2 st2 r2 h3=>ZX.nx h3 st2 (((lr.mono f1).mono f2).set n r2)
  |_=>exact False.elim h2
 |_=>exact False.elim h2
def Qt{body:List de}(hp:l0 (aZ X.prog X.w) X.A X.env X.xe)(hc:CT X xw C c k)(hb:CSs X xw C body ms):CS X xw C (.While c body [] pos) (.whl k ms):=PS.imp (jL hp hc hb) λD σ H ⟨ρ,l,S,st,lr,h⟩=>by
 refine⟨λm σ' H'=>∃ρ' l' S',St3 X.K ρ' S' H'/\LocR ρ' H' l' σ'/\ZX X.K xw ρ' H' D (Ev.X7 (tst C k) (runs C ms) m l' S'),⟨Ev.VL,ρ,l,S,st,lr,h⟩,?_⟩
 rintro m σ' H' ⟨ρ',l',S',st',lr',e'⟩
 cases m with
 |zero=>exact False.elim e'
 |succ m=>
  refine⟨ρ',l',S',st',lr',ZX.bind (e') λb S1 ρ1 H1 b' f1 st1 r1 h1=>?_⟩
  have eb:=r1;subst eb;cases b with
  |false=>
   rw[T8 aN]at h1 ⊢;exact ZX.nx h1 st1 (lr'.mono f1)
  |true=>
   rw[T9 rfl]at h1 ⊢;refine⟨λσ2 H2=>∃ρ2 l2 S2,St3 X.K ρ2 S2 H2/\LocR ρ2 H2 l2 σ2/\ZX X.K xw ρ2 H2 D (Ev.X7 (tst C k) (runs C ms) m l2 S2),λσ2 H2 w=>⟨m,fV m,w⟩,ρ1,l',S1,st1,lr'.mono f1,?_⟩
   cases q:runs C ms l' S1 with
   |no=>rw[q]at h1;exact h1
   |ex c S2=>rw[q]at h1;exact h1
   |ok fl S2=>
    rw[q]at h1;cases fl with|nx l3=>exact λρ4 H4 σ4 f4 st4 lr4=>⟨ρ4,l3,S2,st4,lr4,ZX.mono f4 h1⟩|cnt l3=>exact λρ4 H4 σ4 f4 st4 lr4=>⟨ρ4,l3,S2,st4,lr4,ZX.mono f4 h1⟩|brk l3=>exact h1|ret d=>exact h1
end
end Sd
namespace Sd
open PySem PySem.Spec PyProof.Rows L2
def Src(b:Bool)(h:bF)(it l:aw)(k:Nat):Prop:=match b with
 |true=>h.IsListIter it l k
 |false=>h.IsTupleIter it l k
def YS(b:Bool)(h:bF)(l:aw)(xs:Array aq):Prop:=match b with
 |true=>h.IsList l xs
 |false=>h.IsTuple l xs
def Src.ext(x:Src b h it l k)(e:eO c h h')(n:it≠c):Src b h' it l k:=by
 cases b
 ·exact bF.IsTupleIter.extBut x e n
 ·exact bF.IsListIter.extBut x e n
def Src.keep(x:Src b h it l k)(e:∀o,h.get? it=aa o->h'.get? it=aa o):Src b h' it l k:=by
 cases b
 ·obtain⟨o,ho,r⟩:=x;exact⟨o,e o ho,r⟩
 ·obtain⟨o,ho,r⟩:=x;exact⟨o,e o ho,r⟩
def Src.obj(x:Src b h it l k):∃o,h.get? it=aa o/\∀v,o.data≠.cell v:=by
 cases b
 ·obtain⟨o,ho,_,d⟩:=x;exact⟨o,ho,λv z=>by rw[d]at z;cases z⟩
 ·obtain⟨o,ho,_,d⟩:=x;exact⟨o,ho,λv z=>by rw[d]at z;cases z⟩
def YS.keep(x:YS b h l xs)(e:∀o,h.get? l=aa o->h'.get? l=aa o):YS b h' l xs:=by
 cases b
 ·obtain⟨o,ho,r⟩:=x;exact⟨o,e o ho,r⟩
 ·obtain⟨o,ho,r⟩:=x;exact⟨o,e o ho,r⟩
section
variable{prog:bq}{w:bC}{A:bL}{E:aq->au->Prop}{s:au}
def Za1{Q:aq->au->Prop}(hit:s.heap.IsTupleIter it t i)(ht:s.heap.IsTuple t items)(hx:items[i]?=aa x)
  (hQ:∀h',h'.IsTupleIter it t (i+1)->d5 it s.heap h'->Q x {s with heap:=h' }):aW (aZ prog w) A (dC<|.ref it) Q E s:=by
 obtain⟨o,ho,hc,hd⟩:=id hit;obtain⟨ol,hol,_,nl,hdl⟩:=ht;refine af<|bU hit.typeIs dn<|cz dn hit.typeIs gI ?_<|gu _;show aW _ _ (field (.ref it) 0 >>= _) _ _ s;refine af<|bX ho hd rfl ?_;show aW _ _ (if(cF t == bH)=ah then _ else _) _ _ s
 rw[T8<|by grind];refine af<|bX ho hd rfl ?_
 refine af<|dq hol hdl ?_;simp only[cT,hx];refine af<|gY ho hd (by simp)<|ax ⟨x,rfl,ax<|hQ _ ⟨_,eC _ ho<|fO<|d6 hd _,(iu ..).trans hc,?_⟩<|dS ..⟩
 rw[d6 hd];simp[fb]
def G1{Q:aq->au->Prop}(hh:A.handled=ac)(hit:s.heap.IsTupleIter it t i)(ht:s.heap.IsTuple t items)(hx:items[i]?=ac)
  (hE:∀h' e,eO it s.heap h'->(∃o,h'.get? e=aa o/\o.cls=.type "StopIteration")->E (.ref e) {s with heap:=h' }):aW (aZ prog w) A (dC<|.ref it) Q E s:=by
 obtain⟨o,ho,hc,hd⟩:=id hit;obtain⟨ol,hol,_,nl,hdl⟩:=ht;refine af<|bU hit.typeIs dn<|cz dn hit.typeIs gI ?_<|gu _;show aW _ _ (field (.ref it) 0 >>= _) _ _ s;refine af<|bX ho hd rfl ?_;show aW _ _ (if(cF t == bH)=ah then _ else _) _ _ s
 rw[T8<|by grind];refine af<|bX ho hd rfl ?_
 refine af<|dq hol hdl ?_;simp only[cT,hx];refine af<|fu<|af<|gY ho hd (by simp) ?_;show aW _ _ (newExc (.type "StopIteration") [] >>= _) _ _ _
 refine af ?_;simp only[newExc,newTuple];refine af<|bu ?_<|by size_fits
 refine af (mx (by first|rfl|(simp only[kz];rfl))<|bu ?_<|by size_fits)
 simp only[raiseNew];refine af<|wpAny_handled ?_;first|rw[hh]|rw[hh]
 exact af<|ax<|wpAny_throw<|hE _ _ (((dS ..).extBut.push _).push _) ⟨_,aM _ rfl,rfl⟩
def Vk{Q:aq->au->Prop}(hit:Src b s.heap it l k)(hl:YS b s.heap l xs)(hx:xs[k]?=aa x)
  (hQ:∀h',Src b h' it l (k+1)->d5 it s.heap h'->Q x {s with heap:=h' }):aW (aZ prog w) A (dC<|.ref it) Q E s:=by
 cases b
 ·exact Za1 hit hl hx hQ
 ·exact wpAny_nextOf_list_item hit hl hx hQ
def GC{Q:aq->au->Prop}(hh:A.handled=ac)(hit:Src b s.heap it l k)(hl:YS b s.heap l xs)(hx:xs[k]?=ac)
  (hE:∀h' e,eO it s.heap h'->(∃o,h'.get? e=aa o/\o.cls=.type "StopIteration")->E (.ref e) {s with heap:=h' }):aW (aZ prog w) A (dC<|.ref it) Q E s:=by
 cases b
 ·exact G1 hh hit hl hx hE
 ·exact wpAny_nextOf_list_end hh hit hl hx hE
noncomputable def YB(b:Bool)(l:aw):dB:={cls:=.type (if b then "list_iterator" else "tuple_iterator"),data:=.fields #[.ref l,.int 0 0]}
def Vu{Q:aq->au->Prop}(hl:YS b s.heap l xs)(h:Q (.ref s.heap.objs.size) {s with heap:=s.heap.push (YB b l)}):aW (aZ prog w) A (nF<|.ref l) Q E s:=by
 cases b
 ·exact fv hl h
 ·exact eG hl h
structure ZipSt(b1 b2:Bool)(z TI TO i1 i2 l1 l2:aw)(k:Nat)(f0:aq)(h:bF):Prop where
 zp:my h z TI TO f0
 ti:iZ h TI (.ref i1) (.ref i2)
 to:∃a b,iZ h TO a b
 s1:Src b1 h i1 l1 k
 s2:Src b2 h i2 l2 k
def j4{b1 b2:Bool}{z TI TO i1 i2 l1 l2:aw}{k:Nat}{xs ys:Array aq}{x y:aq}{Q:aq->au->Prop}(D:kA z TI TO i1 i2 l1 l2)(Z:ZipSt b1 b2 z TI TO i1 i2 l1 l2 k .none s.heap)(hl1:YS b1 s.heap l1 xs)(hl2:YS b2 s.heap l2 ys)(hx:xs[k]?=aa x)(hy:ys[k]?=aa y)
  (hQ:∀h',ZipSt b1 b2 z TI TO i1 i2 l1 l2 (k+1) (fb s.heap.objs.size) h'->iZ h' s.heap.objs.size x y->(∀c o,c∉[z,TO,i1,i2]->s.heap.get? c=aa o->h'.get? c=aa o)->Q (.ref s.heap.objs.size) {s with heap:=h' }) :
  aW (aZ prog w) A (eF.«zip.__next__» ⟨[.ref z],[]⟩) (λfin s'=>∃v,fin=.done (.ret v)/\Q v s') E s:=by
 obtain⟨hz,hTI,⟨a,b,hTO⟩,h1,h2⟩:=Z;show aW _ _ (field (.ref z) 2 >>= _) _ _ _;refine af<|bX hz rfl rfl ?_;refine af<|bX hz rfl rfl<|af<|dq hTI rfl ?_;refine af ?_;refine af<|bX hz rfl rfl<|ax ?_;simp only[if_true];refine af<|fu<|af<|bX hz rfl rfl<|af<|du hz (by simp) λh₁ hz₁ hs₁=>?_
 replace hz₁:my h₁ z TI TO .ellipsis:=by exact hz₁
 refine af ?_;simp only[ml,mD,i7,mY];refine af<|af<|iC ?_;refine af<|Vk (h1.ext hs₁.extBut D.i1z) (hl1.keep λo e=>hs₁.extBut _ o D.l1z e) hx λh₂ h1₂ hs₂=>ax ?_
 have hTO₂:iZ h₂ TO a b:=by exact hs₂.extBut _ _ D.TOi1<|hs₁.extBut _ _ D.TOz hTO
 refine af<|dq hTO₂ rfl<|af<|gk hTO₂ λh₃ hTO₃ hs₃=>?_
 replace hTO₃:iZ h₃ TO x b:=by exact hTO₃
 refine af<|mz<|ax<|af<|af<|iC ?_;have to3:∀c o,c≠z->c≠TO->c≠i1->s.heap.get? c=aa o->h₃.get? c=aa o:=λc o c1 c2 c3 e=>hs₃.extBut _ _ c2<|hs₂.extBut _ _ c3<|hs₁.extBut _ _ c1 e
 refine af<|Vk (h2.keep λo e=>to3 _ o D.i2z D.TOi2.symm D.i12.symm e) (hl2.keep λo e=>to3 _ o D.l2z D.l2TO D.l2i1 e) hy λh₄ h2₄ hs₄=>ax ?_
 have hTO₄:iZ h₄ TO x b:=by exact hs₄.extBut _ _ D.TOi2 hTO₃
 refine af<|dq hTO₄ rfl<|af<|gk hTO₄ λh₅ hTO₅ hs₅=>?_
 replace hTO₅:iZ h₅ TO x y:=by exact hTO₅
 refine af<|mz<|ax<|ax<|af<|dq hTO₅ rfl<|af<|wpAny_newTuple ?_;have hsz:h₅.objs.size=s.heap.objs.size:=by rw[hs₅.1,hs₄.1,hs₃.1,hs₂.1,hs₁.1]
 have to5:=λc o c1 c2 c3 c4 e=>hs₅.extBut _ _ c2<|hs₄.extBut _ _ c4<|to3 c o c1 c2 c3 e
 have hz₅:my h₅ z TI TO .ellipsis:=by exact hs₅.extBut _ _ D.TOz.symm<|hs₄.extBut _ _ D.i2z.symm<|hs₃.extBut _ _ D.TOz.symm<|hs₂.extBut _ _ D.i1z.symm hz₁
 have h1₅:=((h1₂.ext hs₃.extBut D.TOi1.symm).ext hs₄.extBut D.i12).ext hs₅.extBut D.TOi1.symm;have h2₅:=h2₄.ext hs₅.extBut D.TOi2.symm;have zl:=aJ hz₅;refine af ?_;have hz₆:my (h₅.push {cls:=.type "tuple",data:=.seq #[x,y]}) z TI TO .ellipsis:=by exact ao _ hz₅
 refine af<|du hz₆ (by simp) λh₇ hz₇ hs₇=>?_
 replace hz₇:my h₇ z TI TO (fb h₅.objs.size):=by exact hz₇
 refine du hz₇ (by simp) λh₈ hz₈ hs₈=>ax ⟨_,rfl,?_⟩
 replace hz₈:my h₈ z TI TO (fb h₅.objs.size):=by exact hz₈
 have up:∀c o,c≠z->h₅.get? c=aa o->h₈.get? c=aa o:=λc o c1 e=>by exact hs₈.extBut _ _ c1<|hs₇.extBut _ _ c1<|ao _ e
 have hT₈:iZ h₈ h₅.objs.size x y:=by exact hs₈.extBut _ _ (cY zl)<|hs₇.extBut _ _ (cY zl)<|aM _ rfl
 rw[hsz]at hz₈ hT₈ ⊢;refine hQ h₈ ⟨hz₈,up _ _ D.TIz<|to5 _ _ D.TIz D.TITO D.TIi1 D.TIi2 hTI,⟨x,y,up _ _ D.TOz hTO₅⟩,h1₅.keep λo e=>up _ o D.i1z e,h2₅.keep λo e=>up _ o D.i2z e⟩ hT₈ λc o hc e=>?_
 simp only[az,bz,or_false,not_or]at hc;exact up c o hc.1<|to5 c o hc.1 hc.2.1 hc.2.2.1 hc.2.2.2 e
end
section
variable{prog:bq}{w:bC}{A:bL}{E:aq->au->Prop}{s:au}
def QV{b1 b2:Bool}{z TI TO i1 i2 l1 l2:aw}{k:Nat}{xs ys:Array aq}{Q:Fin->au->Prop}(hh:A.handled=ac)(D:kA z TI TO i1 i2 l1 l2)(Z:ZipSt b1 b2 z TI TO i1 i2 l1 l2 k .none s.heap)(hl1:YS b1 s.heap l1 xs)(hl2:YS b2 s.heap l2 ys)(hend:xs[k]?=ac\/ys[k]?=ac)
  (hE:∀h' e,(∀c o,c∉[z,TO,i1,i2]->s.heap.get? c=aa o->h'.get? c=aa o)->(∃o,h'.get? e=aa o/\o.cls=.type "StopIteration")->E (.ref e) {s with heap:=h' }) :
  aW (aZ prog w) A (eF.«zip.__next__» ⟨[.ref z],[]⟩) Q E s:=by
 obtain⟨hz,hTI,⟨a,b,hTO⟩,h1,h2⟩:=Z;have hk:∀{c:aw},c∉[z,TO,i1,i2]->c≠z/\c≠TO/\c≠i1/\c≠i2:=λhc=>by grind
 show aW _ _ (field (.ref z) 2 >>= _) _ _ _;refine af<|bX hz rfl rfl ?_;refine af<|bX hz rfl rfl<|af<|dq hTI rfl ?_;refine af ?_;refine af<|bX hz rfl rfl<|ax ?_;simp only[if_true];refine af<|fu<|af<|bX hz rfl rfl<|af<|du hz (by simp) λh₁ hz₁ hs₁=>?_
 replace hz₁:my h₁ z TI TO .ellipsis:=by exact hz₁
 refine af ?_;simp only[ml,mD,i7,mY];refine af<|af<|iC ?_;have l1₁:=hl1.keep λo e=>hs₁.extBut _ o D.l1z e
 cases hx:xs[k]? with
 |none=>
  refine af<|GC hh (h1.ext hs₁.extBut D.i1z) l1₁ hx λh₂ e hs₂ he=>?_
  obtain⟨oe,hoe,hce⟩:=he;have hz₂:my h₂ z TI TO .ellipsis:=by exact hs₂ _ _ D.i1z.symm hz₁
  have hez:e≠z:=λx=>by grind
  exact du hz₂ (by simp) λh₃ _ hs₃=>hE h₃ e (λc o hc x=>hs₃.extBut _ _ (hk hc).1<|hs₂ _ _ (hk hc).2.2.1<|hs₁.extBut _ _ (hk hc).1 x) ⟨oe,hs₃.extBut _ _ hez hoe,hce⟩
 |some x=>
  have hy:ys[k]?=ac:=by grind
  refine af<|Vk (h1.ext hs₁.extBut D.i1z) l1₁ hx λh₂ h1₂ hs₂=>ax ?_
  have hTO₂:iZ h₂ TO a b:=by exact hs₂.extBut _ _ D.TOi1<|hs₁.extBut _ _ D.TOz hTO
  refine af<|dq hTO₂ rfl<|af<|gk hTO₂ λh₃ hTO₃ hs₃=>?_
  refine af<|mz<|ax<|af<|af<|iC ?_;have to3:∀c o,c≠z->c≠TO->c≠i1->s.heap.get? c=aa o->h₃.get? c=aa o:=λc o c1 c2 c3 e=>hs₃.extBut _ _ c2<|hs₂.extBut _ _ c3<|hs₁.extBut _ _ c1 e
  refine af<|GC hh (h2.keep λo e=>to3 _ o D.i2z D.TOi2.symm D.i12.symm e) (hl2.keep λo e=>to3 _ o D.l2z D.l2TO D.l2i1 e) hy λh₄ e hs₄ he=>?_
  obtain⟨oe,hoe,hce⟩:=he;have hz₄:my h₄ z TI TO .ellipsis:=by exact hs₄ _ _ D.i2z.symm<|hs₃.extBut _ _ D.TOz.symm<|hs₂.extBut _ _ D.i1z.symm hz₁
  have hez:e≠z:=λx=>by grind
  exact du hz₄ (by simp) λh₅ _ hs₅=>hE h₅ e (λc o hc x=>hs₅.extBut _ _ (hk hc).1<|hs₄ _ _ (hk hc).2.2.2<|to3 c o (hk hc).1 (hk hc).2.1 (hk hc).2.2.1 x) ⟨oe,hs₅.extBut _ _ hez hoe,hce⟩
def y8{b1 b2:Bool}{z TI TO i1 i2 l1 l2:aw}{k:Nat}{xs ys:Array aq}{x y:aq}{Q:Option aq->au->Prop}(D:kA z TI TO i1 i2 l1 l2)(Z:ZipSt b1 b2 z TI TO i1 i2 l1 l2 k .none s.heap)(hl1:YS b1 s.heap l1 xs)(hl2:YS b2 s.heap l2 ys)(hx:xs[k]?=aa x)(hy:ys[k]?=aa y)
  (hQ:∀h',ZipSt b1 b2 z TI TO i1 i2 l1 l2 (k+1) (fb s.heap.objs.size) h'->iZ h' s.heap.objs.size x y->(∀c o,c∉[z,TO,i1,i2]->s.heap.get? c=aa o->h'.get? c=aa o)->Q (aa<|.ref s.heap.objs.size) {s with heap:=h' }) :
  aW (aZ prog w) A (mT<|.ref z) Q E s:=by
 have hT:s.TypeIs (.ref z) "zip":=⟨_,Z.zp,rfl⟩;exact af<|iD<|bU hT gv<|cz gv hT mm (j4 D Z hl1 hl2 hx hy λh' a1 a2 a3=>ax<|hQ h' a1 a2 a3)<|lL _
def QL{b1 b2:Bool}{z TI TO i1 i2 l1 l2:aw}{k:Nat}{xs ys:Array aq}{Q:Option aq->au->Prop}(hh:A.handled=ac)(D:kA z TI TO i1 i2 l1 l2)(Z:ZipSt b1 b2 z TI TO i1 i2 l1 l2 k .none s.heap)(hl1:YS b1 s.heap l1 xs)(hl2:YS b2 s.heap l2 ys)(hend:xs[k]?=ac\/ys[k]?=ac)
  (hQ:∀h',(∀c o,c∉[z,TO,i1,i2]->s.heap.get? c=aa o->h'.get? c=aa o)->Q ac {s with heap:=h' }):aW (aZ prog w) A (mT<|.ref z) Q E s:=by
 have hT:s.TypeIs (.ref z) "zip":=⟨_,Z.zp,rfl⟩;refine af<|iD<|bU hT gv<|cz gv hT mm (QV hh D Z hl1 hl2 hend λh' e hk he=>?_)<|lL _
 obtain⟨o,ho,hc⟩:=he;exact af<|eW ⟨o,ho,hc⟩ isSubtype_stop<|ax<|hQ _ hk
noncomputable def zH1(h:bF)(b1:Bool)(l1:aw):bF:=h.push<|YB b1 l1
noncomputable def zH2(h:bF)(b1 b2:Bool)(l1 l2:aw):bF:=(zH1 h b1 l1).push<|YB b2 l2
noncomputable def zH3(h:bF)(b1 b2:Bool)(l1 l2:aw):bF:=(zH2 h b1 b2 l1 l2).push {cls:=.type "tuple",data:=.seq #[.ref h.objs.size,.ref (zH1 h b1 l1).objs.size]}
noncomputable def zH4(h:bF)(b1 b2:Bool)(l1 l2:aw):bF:=(zH3 h b1 b2 l1 l2).push {cls:=.type "tuple",data:=.seq #[.none,.none]}
noncomputable def zH5(h:bF)(b1 b2:Bool)(l1 l2:aw):bF:=(zH4 h b1 b2 l1 l2).push {cls:=.type "zip",data:=.fields #[.none,.bool ai,.bool ai,.ref (zH2 h b1 b2 l1 l2).objs.size,.ref (zH3 h b1 b2 l1 l2).objs.size]}
def Zc2(b1 b2:Bool)(l1 l2:aw)(xs ys:Array aq) :
  nL (eF.«zip.__new__» ⟨[.type "zip",.ref l1,.ref l2],[]⟩) (λ_ R s=>YS b1 s.heap l1 xs/\YS b2 s.heap l2 ys/\R (.ok<|.ret<|.ref (zH4 s.heap b1 b2 l1 l2).objs.size) {s with heap:=zH5 s.heap b1 b2 l1 l2}):=
 .of_wp λprog w A R s h=>by
  obtain⟨hp,g,d,tk,os⟩:=s;obtain⟨hl1,hl2,h⟩:=h;have hsub:=sub_zip;have hL1:=hl1;have hL2:YS b2 (au.heap ⟨hp.push<|YB b1 l1,g,d,tk,os⟩) l2 ys:=hl2.keep λo e=>ao _ e
  wp_walk using Vu hL1,Vu hL2
  exact⟨_,rfl,h⟩
def Za8{Q:aq->au->Prop}(hl1:YS b1 s.heap l1 xs)(hl2:YS b2 s.heap l2 ys)
  (h:∀h' n,n=s.heap.objs.size->ZipSt b1 b2 (n+4) (n+2) (n+3) n (n+1) l1 l2 0 .none h'->(∀c o,s.heap.get? c=aa o->h'.get? c=aa o)->Q (.ref<|n+4) {s with heap:=h' }) :
  aW (aZ prog w) A (call (.type "zip") [.ref l1,.ref l2]) Q E s:=by
 refine callType_new F.called_zip (by decide) (F.typeCall_zip_2 _ _) (F.newCall_zip_2 _ _) (λobj=>F.args_object_init_3 obj _ _) F.entry_zip_new (Zc2 b1 b2 l1 l2 xs ys) ⟨hl1,hl2,?_⟩
 have z1:(zH1 s.heap b1 l1).objs.size=s.heap.objs.size+1:=dv ..;have z2:(zH2 s.heap b1 b2 l1 l2).objs.size=s.heap.objs.size+2:=by unfold zH2;rw[dv,z1]
 have z3:(zH3 s.heap b1 b2 l1 l2).objs.size=s.heap.objs.size+3:=by unfold zH3;rw[dv,z2]
 have z4:(zH4 s.heap b1 b2 l1 l2).objs.size=s.heap.objs.size+4:=by unfold zH4;rw[dv,z3]
 have g5:(zH5 s.heap b1 b2 l1 l2).get? (zH4 s.heap b1 b2 l1 l2).objs.size=aa {cls:=.type "zip",data:=.fields #[.none,.bool ai,.bool ai,.ref (zH2 s.heap b1 b2 l1 l2).objs.size,.ref (zH3 s.heap b1 b2 l1 l2).objs.size]}:=aM _ rfl;have k4:∀c o,(zH4 s.heap b1 b2 l1 l2).get? c=aa o->(zH5 s.heap b1 b2 l1 l2).get? c=aa o:=λc o e=>ao _ e
 have k3:=λc o e=>k4 c o<|ao _ e
 have k2:=λc o e=>k3 c o<|ao _ e
 have k1:=λc o e=>k2 c o<|ao _ e
 have g4:=k4 _ _<|aM (zH3 s.heap b1 b2 l1 l2) rfl;have g3:=k3 _ _<|aM (zH2 s.heap b1 b2 l1 l2) rfl;have g2:=k2 _ _<|aM (zH1 s.heap b1 l1) rfl;have g1:=k1 _ _<|aM s.heap rfl;rw[z2,z3,z4]at g5;rw[z1,z2]at g3;rw[z3]at g4;rw[z1]at g2;rw[z4];have src:∀b l it,(zH5 s.heap b1 b2 l1 l2).get? it=aa (YB b l)->Src b (zH5 s.heap b1 b2 l1 l2) it l 0:=λb l it e=>by
  cases b
  ·exact⟨_,e,rfl,rfl⟩
  ·exact⟨_,e,rfl,rfl⟩
 exact⟨⟨_,g5,rfl⟩,h _ _ rfl ⟨g5,g3,⟨_,_,g4⟩,src b1 l1 _ g1,src b2 l2 _ g2⟩ λc o e=>k1 c o<|ao _ e⟩
end
end Sd
namespace Sd
open PySem PySem.Spec PyProof.Rows L2
open Ev (D Ob Zc Lc R E Sm Calls Walk Fl Fn Bop Cop Ty Bf Mf ev evs evo evt evw tst run runs)
def WJ{X:Cx}{pq:List (aw×dB)}{σ:L2.St}{H:Hp}{s:au}{h':bF}{t':Nat}{ch:List aw}(I:Inv X pq σ H s)(k:∀b o,b∉ch->s.heap.get? b=aa o->h'.get? b=aa o)(hf:∀b∈ch,V7 X pq H b):Inv X pq σ H {s with heap:=h',toks:=t' }:=by
 have nit:∀b u,H b=aa u->b∉ch:=λb u e z=>by have:=(hf b z).1;rw[e]at this;cases this
 refine I.step (g':=s.gens) (d':=s.drawn) (λb hb=>?_) (λb o _ _ hc e _=>k b o hc e) (λb o _ _ hc e _=>⟨o.slots,k b o hc e⟩) (λ_ _ _ _ n=>n) (λb o hc e=>⟨o,k b o hc e⟩) (λ_ _ e=>e) (λ_ _ _ e=>e) (λb ps e=>⟨#[],by rw[e];simp⟩) (λm hm=>?_) (λb u e=>?_) I.bare
 ·exact⟨(hf b hb).2.2.2.1,(hf b hb).2.1,(hf b hb).2.2.2.2.1,(hf b hb).2.2.2.2.2⟩
 ·obtain⟨o,es,ep,ho,r⟩:=hm
  exact⟨o,es,ep,k _ o (λz=>(hf _ z).2.1 rfl) ho,r⟩
 ·refine(I.hok b u e).stay (λc v hc q=>k c v ?_ q) (λ_ q=>q) λ_ _ q=>q
  rcases hc with z|z
  ·rw[z];exact nit b u e
  ·exact nit c _ z
def Ja{h:bF}{o o':dB}{b:aw}(e:(h.push o').get? b=aa o)(n:b≠h.objs.size):h.get? b=aa o:=by
 unfold bF.get? bF.push at *;simp only[Array.getElem?_push]at e;rw[T8 n]at e;exact e
def Wq{a b:Nat}(h:a<b\/b<a):(a:aw)≠b:=λe=>by
 have e':=e;omega
def Sq(b:Bool)(K:aj)(H:Hp)(l:aw)(xs:List V):Prop:=match b with
 |true=>SqL K H l xs
 |false=>SqT K H l xs
section
variable{X:Cx}{pq:List (aw×dB)}{σ:L2.St}{H:Hp}{s:au}
def Xe(I:Inv X pq σ H s)(h:Sq b X.K H l xs):∃its:List aq,Vals xs its/\YS b s.heap l its.toArray:=by
 cases b
 ·obtain⟨its,r,p,_⟩:=I.tuple h;exact⟨its,r,p⟩
 ·obtain⟨its,r,p,_⟩:=I.list h;exact⟨its,r,p.isList⟩
def xx(I:Inv X pq σ H s)(h:Sq b X.K H l xs)(h':Sq b X.K H l ys):xs=ys:=by
 cases b
 ·exact I.tuple_inj h h'
 ·exact I.list_inj h h'
def VB(x:YS b h l xs):l<h.objs.size:=by
 cases b
 ·obtain⟨o,ho,_⟩:=x;exact aJ ho
 ·obtain⟨o,ho,_⟩:=x;exact aJ ho
end
noncomputable def Itz(K:aj)(b1 b2:Bool)(l1 l2:aw):It:=
 ⟨λi H=>∃xs ys x y,Sq b1 K H l1 xs/\Sq b2 K H l2 ys/\xs[i]?=aa x/\ys[i]?=aa y,
  λi H v H'=>∃T x y,(∀xs,Sq b1 K H l1 xs->xs[i]?=aa x)/\(∀ys,Sq b2 K H l2 ys->ys[i]?=aa y)/\H T=ac/\H'=upd H T (.tup [x,y])/\v=.ref T,
  λi H=>∃xs ys,Sq b1 K H l1 xs/\Sq b2 K H l2 ys/\(xs.length<=i\/ys.length<=i)⟩
def qI{P:bq}{w:bC}{K:aj}{elts:List Expr}{kk:Nat}{tp:d8}{b1 b2:Bool}{z TI TO i1 i2 l1 l2:aw}(D:kA z TI TO i1 i2 l1 l2) :
  Turn P w K (.Tuple elts kk tp) (Itz K b1 b2 l1 l2) [z,TI,TO,i1,i2] z (λi h=>ZipSt b1 b2 z TI TO i1 i2 l1 l2 i .none h) where
 mem:=by simp
 obj:=λi h st b hb=>by
  simp only[az,bz,or_false]at hb;obtain⟨a,c,hTO⟩:=st.to;rcases hb with e|e|e|e|e<;>subst e
  ·exact⟨_,st.zp,λv q=>by cases q⟩
  ·exact⟨_,st.ti,λv q=>by cases q⟩
  ·exact⟨_,hTO,λv q=>by cases q⟩
  ·exact st.s1.obj
  ·exact st.s2.obj
 keep:=λi h h' st k=>by
  obtain⟨a,c,hTO⟩:=st.to;exact⟨k z (by simp) _ st.zp,k TI (by simp) _ st.ti,⟨a,c,k TO (by simp) _ hTO⟩,st.s1.keep λo e=>k i1 (by simp) o e,st.s2.keep λo e=>k i2 (by simp) o e⟩
 item:=by
  intro X hP hw hK hc i pq s σ H E I hf st hg;subst hP hw hK;obtain⟨xs,ys,x,y,hq1,hq2,hx,hy⟩:=hg;obtain⟨its,rv,o1⟩:=Xe I hq1;obtain⟨its2,rv2,o2⟩:=Xe I hq2;obtain⟨u,hu,ru⟩:=rv.get hx;obtain⟨u2,hu2,ru2⟩:=rv2.get hy;refine y8 D st o1 o2 (by simpa using hu) (by simpa using hu2) λh' Z' hT hk=>?_
  have hfree:=I.hok.fresh<|aB _;have ltz:∀b∈[z,TI,TO,i1,i2],b≠s.heap.objs.size:=λb hb e=>by
   simp only[az,bz,or_false]at hb;obtain⟨a,c,hTO⟩:=st.to;rcases hb with q|q|q|q|q<;>subst q
   ·exact T7 (aJ st.zp) (by rw[e];exact bB _)
   ·exact T7 (aJ st.ti) (by rw[e];exact bB _)
   ·exact T7 (aJ hTO) (by rw[e];exact bB _)
   ·obtain⟨o,ho,_⟩:=st.s1.obj;exact T7 (aJ ho) (by rw[e];exact bB _)
   ·obtain⟨o,ho,_⟩:=st.s2.obj;exact T7 (aJ ho) (by rw[e];exact bB _)
  have IA:Inv X pq σ (upd H s.heap.objs.size<|.tup [x,y]) {s with heap:=s.heap.push {cls:=.type "tuple",data:=.seq [u,u2].toArray},toks:=s.toks}:=
   I.laid (λb o e=>ao _ e) (aB _) ⟨by show 2<=aY;decide,[u,u2],.cons ru<|.cons ru2 .nil,fR _ _⟩
  have hf2:∀b∈[z,TI,TO,i1,i2],V7 X pq (upd H s.heap.objs.size<|.tup [x,y]) b:=λb hb=>⟨by rw[Zn<|ltz b hb];exact(hf b hb).1,(hf b hb).2⟩
  have IB:Inv X pq σ (upd H s.heap.objs.size<|.tup [x,y]) {s with heap:=h',toks:=s.toks}:=by
   refine WJ (s:={s with heap:=s.heap.push {cls:=.type "tuple",data:=.seq [u,u2].toArray},toks:=s.toks}) (ch:=[z,TO,i1,i2]) IA (λb o hb e=>?_) λb hb=>hf2 b (by simp only[az,bz,or_false]at hb ⊢;rcases hb with q|q|q|q<;>simp[q])
   by_cases hbs:b=s.heap.objs.size
   ·subst hbs
    have e':=e;rw[aM _ rfl]at e';cases e';exact hT
   ·refine hk b o hb ?_
    have e':=e;have hlt:=aJ e';rw[dv]at hlt;exact Ja e' hbs
  refine⟨.ref s.heap.objs.size,rfl,wpAny_letOwnedTupleGo_zip Z'.zp λh2 hz2 hs2=>?_⟩
  have IC:Inv X pq σ (upd H s.heap.objs.size<|.tup [x,y]) {s with heap:=h2,toks:=s.toks}:=WJ (s:={s with heap:=h',toks:=s.toks}) (ch:=[z]) IB (λb o hb e=>(hs2.2 b<|by simpa using hb).trans e) λb hb=>hf2 b (by simp only[bt]at hb;simp[hb])
  obtain⟨a,c,hTO⟩:=Z'.to;refine⟨.ref s.heap.objs.size,_,IC,rfl,⟨_,x,y,λzs hz=>by rw[xx I hz hq1];exact hx,λzs hz=>by rw[xx I hz hq2];exact hy,hfree,rfl,rfl⟩,?_,λb hb=>(hf2 b hb).1⟩
  exact⟨hz2,hs2.extBut _ _ D.TIz Z'.ti,⟨a,c,hs2.extBut _ _ D.TOz hTO⟩,Z'.s1.ext hs2.extBut D.i1z,Z'.s2.ext hs2.extBut D.i2z⟩
 done:=by
  intro X hP hw hK hc i pq s σ H E I hf st hg;subst hP hw hK;obtain⟨xs,ys,hq1,hq2,hend⟩:=hg;obtain⟨its,rv,o1⟩:=Xe I hq1;obtain⟨its2,rv2,o2⟩:=Xe I hq2;have e1:=rv.length;have e2:=rv2.length;refine QL (I.ok.hd hc) D st o1 o2 (by rcases hend with q|q;exact .inl (by simp;omega);exact .inr<|by simp;omega) λh' hk=>⟨rfl,WJ (t':=s.toks) I (λb o hb e=>hk b o hb e) λb hb=>hf b (by simp only[az,bz,or_false]at hb ⊢;rcases hb with q|q|q|q<;>simp[q])⟩
 self:=λ_ _ _ _ _ st h=>wpAny_pyIter_zip st.zp h
section
variable{X:Cx}{elts:List Expr}{kk:Nat}{tp:d8}
def Zgn(K:aj)(ta:TA):TI:=λσ H R=>ta σ H λvs H1=>∃b1 b2 l1 l2,vs=[.ref l1,.ref l2]/\(∃xs,Sq b1 K H1 l1 xs)/\(∃ys,Sq b2 K H1 l2 ys)/\R (Itz K b1 b2 l1 l2) H1
def Zee{a b:Expr}{ta:TA}{p pos:d8}(hg:Gl X "zip")(hm:X.mg "zip" = ac)(ha:PA X [a,b] ta)(hs:aC [a,b] X.env=[(ai,cb a X.env),(ai,cb b X.env)]:=by rfl)(hs2:aC [b] X.env=[(ai,cb b X.env)]:=by rfl) :
  PI X (.Tuple elts kk tp) (.Call (.Name "zip" p) [a,b] [] pos) (Zgn X.K ta):=by
 intro pq s σ H R I h;refine Call_<|WY I hg hm (by rfl)<|cZ (thn (ha pos pq s σ H _ I h) λus s1 ⟨vs,H1,I1,r1,q1⟩=>?_) (by rw[hs,hs2])<|by rw[hs2];rfl
 obtain⟨b1,b2,l1,l2,e,⟨xs,hq1⟩,⟨ys,hq2⟩,q⟩:=q1;subst e;cases r1 with
 |cons r rr=>
  cases rr with
  |cons r' rr=>
   cases rr;cases r;cases r';obtain⟨its,rv,o1⟩:=Xe I1 hq1;obtain⟨its2,rv2,o2⟩:=Xe I1 hq2;have lt1:=VB o1;have lt2:=VB o2;refine Za8 o1 o2 λh' n hn Z hk=>?_
   have I2:=I1.kept (t':=s1.toks) hk
   have q1:(l1:Nat)<n:=by rw[hn];exact lt1
   have q2:(l2:Nat)<n:=by rw[hn];exact lt2
   have D:kA (n+4) (n+2) (n+3) n (n+1) l1 l2:=by constructor<;>first|exact Wq (by omega)|exact Wq<|.inl<|aQ q1<|dX n _|exact Wq<|.inl<|aQ q2<|dX n _|exact Wq<|.inl q1|exact Wq<|.inl q2
   refine wpAny_pyIter_zip Z.zp ⟨n+4,[n+4,n+2,n+3,n,n+1],_,_,H1,rfl,I2,qI D,Z,λb hb=>?_,q⟩
   have hbn:s1.heap.objs.size<=b:=by
    rw[<-hn];simp only[az,bz,or_false]at hb;rcases hb with e|e|e|e|e<;>rw[e]
    ·exact dX n 4
    ·exact dX n 2
    ·exact dX n 3
    ·exact aB n
    ·exact dX n 1
   exact I1.fpOk hbn<|I1.hok.fresh hbn
end
def Side(K:aj)(ρ:List aw)(H:Hp)(wk:Walk)(b:Bool)(l:aw):Prop:=∀ρ' S' H',Fut ρ H ρ' H'->St3 K ρ' S' H'->wk.still S'=ah->∃vs,Sq b K H' l vs/\Rq ρ' H' wk.items vs
def GR{K:aj}{ρ:List aw}{S:Zc}{H:Hp}{x:D}{v:V}{wk:Walk}(st:St3 K ρ S H)(r:Rep ρ H x v)(h:Ev.Yi S x=aa wk):∃b l,v=.ref l/\(∃xs,Sq b K H l xs)/\Side K ρ H wk b l:=by
 cases x with
 |tup ds=>
  obtain⟨a,xs,rfl,hp,rs⟩:=r.tup';cases h;exact⟨ai,a,rfl,⟨xs,SqT.of hp⟩,λρ' S' H' f _ _=>⟨xs,SqT.of<|f.tup a xs hp,rs.mono f⟩⟩
 |loc n=>
  obtain⟨a,rfl,hp⟩:=r.loc';have h':(match S[n]? with
   |some (.lst xs)=>aa (Walk.mk xs [(n,xs)])
   |_=>ac)=aa wk:=h
  cases q:S[n]? with
  |none=>rw[q]at h';cases h'
  |some o=>
   rw[q]at h';cases o with
   |lst ds=>
    cases h';obtain⟨a',ha,xs,hx,rs⟩:=st.at q;rw[hp]at ha;cases ha;refine⟨ah,a,rfl,⟨xs,SqL.of hx⟩,λρ' S' H' f st' hs=>?_⟩
    have hn:S'[n]?=aa (.lst ds):=by simpa[Walk.still]using hs
    obtain⟨a',ha,xs',hx',rs'⟩:=st'.at hn;rw[f.at hp]at ha;cases ha;exact⟨xs',SqL.of hx',rs'⟩
   |_=>cases h'
 |_=>cases h
def Zak{K:aj}{ρ:List aw}{H:Hp}{v w:Walk}{b1 b2:Bool}{l1 l2:aw}(h1:Side K ρ H v b1 l1)(h2:Side K ρ H w b2 l2):WRel K ρ H ⟨(v.items.zip w.items).map λp=>.tup [p.1,p.2],v.kept++w.kept⟩ (Itz K b1 b2 l1 l2) where
 go:=λi ρ' S' H' f st hs hi=>by
  have hs':v.still S'=ah/\w.still S'=ah:=by
   have:(v.kept++w.kept).all (λp=>ae<|S'[p.1]?=aa (.lst p.2))=ah:=hs
   rw[mE,aE]at this;exact this
  obtain⟨xs,q1,r1⟩:=h1 ρ' S' H' f st hs'.1;obtain⟨ys,q2,r2⟩:=h2 ρ' S' H' f st hs'.2;have hi':i<nM v.items.length w.items.length:=by simpa using hi
  obtain⟨x,g1,rx⟩:=r1.get (ag (show i<v.items.length by omega))
  obtain⟨y,g2,ry⟩:=r2.get (ag (show i<w.items.length by omega))
  refine⟨⟨xs,ys,x,y,q1,q2,g1,g2⟩,λu H'' ⟨T,x',y',e1,e2,hT,eH,eu⟩=>?_⟩
  subst eH eu;have ex:=(e1 xs q1).symm.trans g1;have ey:=(e2 ys q2).symm.trans g2;cases ex;cases ey;refine⟨ZR hT,st.fresh hT,λd hd=>?_⟩
  have hd':=hd
  have hz:(v.items.zip w.items)[i]?=aa (v.items[i],w.items[i]):=eY.mpr ⟨ag<|by omega,ag<|by omega⟩
  rw[aX,hz]at hd';cases hd';exact ZU Zr<|Rq.cons (rx.mono<|ZR hT)<|Rq.cons (ry.mono<|ZR hT) Rq.nil
 stop:=λρ' S' H' f st hs=>by
  have hs':v.still S'=ah/\w.still S'=ah:=by
   have:(v.kept++w.kept).all (λp=>ae<|S'[p.1]?=aa (.lst p.2))=ah:=hs
   rw[mE,aE]at this;exact this
  obtain⟨xs,q1,r1⟩:=h1 ρ' S' H' f st hs'.1;obtain⟨ys,q2,r2⟩:=h2 ρ' S' H' f st hs'.2;refine⟨xs,ys,q1,q2,?_⟩;show xs.length<=((v.items.zip w.items).map λp=>D.tup [p.1,p.2]).length\/_
  rw[r1.length,r2.length,aF,fo];omega
section
variable{X:Cx}{xw:Nat->Hp->Prop}{C:Calls}{a b:Expr}{i j:E}{pos p tp:d8}{elts:List Expr}{kk:Nat}
noncomputable def Zbt(x y:D)(S:Zc):R Walk:=match Ev.Yi S x,Ev.Yi S y with
 |some v,aa w=>.ok ⟨(v.items.zip w.items).map λp=>.tup [p.1,p.2],v.kept++w.kept⟩ S
 |_,_=>.no
def yC(hm:X.mg "zip" = ac)(ha:CA X xw C [a,b] [i,j])(hg:Gl X "zip":=by rfl)(hs:aC [a,b] X.env=[(ai,cb a X.env),(ai,cb b X.env)]:=by rfl)(hs2:aC [b] X.env=[(ai,cb b X.env)]:=by rfl) :
  CW X xw C (.Tuple elts kk tp) (.Call (.Name "zip" p) [a,b] [] pos) (.zip i j):=
 PI.imp (Zee hg hm ha hs hs2) λσ H Q ⟨ρ,l,S,st,lr,h⟩=>by
  refine⟨ρ,l,S,st,lr,?_⟩;show End X.K xw Rq ρ H _ ((ev C i l S).bind λx S=>((ev C j l S).bind λy S=>(Ev.R.ok [] S).bind λxs S=>.ok (y::xs) S).bind λxs S=>.ok (x::xs) S)
  have h':End X.K xw (WRel X.K) ρ H Q ((ev C i l S).bind λx S=>(ev C j l S).bind λy S=>Zbt x y S):=h
  cases q:ev C i l S with
  |no=>rw[q]at h';exact h'
  |ex c S1=>rw[q]at h';exact h'
  |ok x S1=>
   rw[q]at h';have h2:End X.K xw (WRel X.K) ρ H Q ((ev C j l S1).bind λy S=>Zbt x y S):=h'
   show End X.K xw Rq ρ H _ (((ev C j l S1).bind λy S=>(Ev.R.ok [] S).bind λxs S=>.ok (y::xs) S).bind λxs S=>.ok (x::xs) S)
   cases q2:ev C j l S1 with
   |no=>rw[q2]at h2;exact h2
   |ex c S2=>rw[q2]at h2;exact h2
   |ok y S2=>
    rw[q2]at h2;intro ρ1 H1 vs f1 st1 r1;obtain⟨v,u,rfl,rv,ru⟩:=wy r1;have h3:End X.K xw (WRel X.K) ρ1 H1 Q (Zbt x y S2):=End.mono f1 h2;unfold Zbt at h3;cases e1:Ev.Yi S2 x with
    |none=>rw[e1]at h3;exact False.elim h3
    |some v1=>
     cases e2:Ev.Yi S2 y with
     |none=>rw[e1,e2]at h3;exact False.elim h3
     |some v2=>
      rw[e1,e2]at h3;obtain⟨b1,l1,rfl,s1,d1⟩:=GR st1 rv e1;obtain⟨b2,l2,rfl,s2,d2⟩:=GR st1 ru e2;exact⟨b1,b2,l1,l2,rfl,s1,s2,End.ok h3 st1<|Zak d1 d2⟩
end
def JE(hh:A.handled=ac)(b:Bool)(it l:aw)(hne:l≠it)(xs:Array aq) :
  Draws prog w A it [it,l] xs.size (λi v=>xs[i]?=aa v) (λi h=>Src b h it l i/\YS b h l xs) where
 live:=λ_ _ st=>let ⟨o,ho,_⟩:=st.1.obj;⟨o,ho⟩
 frame:=λ_ _ _ st hk=>⟨st.1.keep λo e=>hk it (by simp) o e,st.2.keep λo e=>hk l (by simp) o e⟩
 item:=λi s Q E hi st hQ=>Vk st.1 st.2 (dD hi) λh' hit' hs'=>hQ _ h' s.toks (dD hi) ⟨hit',st.2.keep λo e=>hs'.extBut _ o hne e⟩ hs'
 done:=λs Q E st hE=>GC hh st.1 st.2 (i3<|aB _) hE
noncomputable def Ite(K:aj)(b:Bool)(l:aw):It:=
 ⟨λi H=>∃xs x,Sq b K H l xs/\xs[i]?=aa x,
  λi H v H'=>∃T x,(∀xs,Sq b K H l xs->xs[i]?=aa x)/\H T=ac/\H'=upd H T (.tup [.int i,x])/\v=.ref T,
  λi H=>∃xs,Sq b K H l xs/\xs.length=i⟩
def u0{P:bq}{w:bC}{K:aj}{elts:List Expr}{kk:Nat}{tp:d8}{b:Bool}{e it l:aw}(hei:e≠it)(hle:l≠e)(hli:l≠it) :
  Turn P w K (.Tuple elts kk tp) (Ite K b l) [e,it] e (λi h=>(∃old,IsEnum h e it i old)/\Src b h it l i) where
 mem:=by simp
 obj:=λi h st c hc=>by
  simp only[az,bz,or_false]at hc;obtain⟨⟨old,he⟩,hs⟩:=st;rcases hc with q|q<;>subst q
  ·grind
  ·exact hs.obj
 keep:=λi h h' st k=>by
  obtain⟨⟨old,he⟩,hs⟩:=st;exact⟨⟨old,k e (by simp) _ he⟩,hs.keep λo q=>k it (by simp) o q⟩
 item:=by
  intro X hP hw hK hc i pq s σ H E I hf st hg;subst hP hw hK;obtain⟨xs,x,hq,hx⟩:=hg;obtain⟨its,rv,o1⟩:=Xe I hq;obtain⟨⟨old,he⟩,hs⟩:=st;obtain⟨u,hu,ru⟩:=rv.get hx;have hlt:i<its.toArray.size:=by grind
  have hh:X.A.in1.handled=ac:=I.ok.hd hc;refine wpAny_pyNext_enum_itemD (JE hh b it l hli its.toArray) he ⟨hs,o1⟩ hlt hei (by grind) λx' h' tk hP ho hst hT hsz hk=>?_
  have ex:x'=u:=by grind
  subst ex;have hfree:=I.hok.fresh<|aB _;have ltz:∀c∈[e,it],c≠s.heap.objs.size:=λc hc q=>by
   simp only[az,bz,or_false]at hc;rcases hc with z|z<;>subst z
   ·grind
   ·obtain⟨o,ho,_⟩:=hs.obj;exact T7 (aJ ho) (by grind)
  have IA:Inv X pq σ (upd H s.heap.objs.size<|.tup [.int i,x]) {s with heap:=s.heap.push {cls:=.type "tuple",data:=.seq [.int i tk,x'].toArray},toks:=tk+1}:=
   I.laid (λc o q=>ao _ q) (aB _) ⟨by show 2<=aY;decide,[.int i tk,x'],.cons ⟨tk,rfl⟩<|.cons ru .nil,fR _ _⟩
  have hf2:∀c∈[e,it],V7 X pq (upd H s.heap.objs.size<|.tup [.int i,x]) c:=λc hc=>⟨by rw[Zn<|ltz c hc];exact(hf c hc).1,(hf c hc).2⟩
  have IB:Inv X pq σ (upd H s.heap.objs.size<|.tup [.int i,x]) {s with heap:=h',toks:=tk+1}:=by
   refine WJ (s:={s with heap:=s.heap.push {cls:=.type "tuple",data:=.seq [.int i tk,x'].toArray},toks:=tk+1}) IA (λc o hc q=>?_) hf2
   by_cases hcs:c=s.heap.objs.size
   ·subst hcs
    have q':=q;rw[aM _ rfl]at q';cases q';exact hT
   ·simp only[az,bz,or_false,not_or]at hc
    exact hk c o hc.1 hc.2<|Ja q hcs
  refine⟨.ref s.heap.objs.size,rfl,wpAny_letOwnedTupleGo_enum ho λh2 he2 hs2=>?_⟩
  have IC:Inv X pq σ (upd H s.heap.objs.size<|.tup [.int i,x]) {s with heap:=h2,toks:=tk+1}:=WJ (s:={s with heap:=h',toks:=tk+1}) (ch:=[e]) IB (λc o hc q=>(hs2.2 c<|by simpa using hc).trans q) λc hc=>hf2 c (by simp only[bt]at hc;simp[hc])
  refine⟨.ref s.heap.objs.size,_,IC,rfl,⟨_,x,λzs hz=>by rw[xx I hz hq];exact hx,hfree,rfl,rfl⟩,⟨⟨x',by simpa using he2⟩,hst.1.ext hs2.extBut<|Ne.symm hei⟩,λc hc=>(hf2 c hc).1⟩
 done:=by
  intro X hP hw hK hc i pq s σ H E I hf st hg;subst hP hw hK;obtain⟨xs,hq,hend⟩:=hg;obtain⟨its,rv,o1⟩:=Xe I hq;obtain⟨⟨old,he⟩,hs⟩:=st;have e1:=rv.length;have hh:X.A.in1.handled=ac:=I.ok.hd hc;have en:i=its.toArray.size:=by simp;omega
  subst en;exact wpAny_pyNext_enum_endD (JE hh b it l hli its.toArray) he ⟨hs,o1⟩ λh' hx=>⟨rfl,WJ (t':=s.toks) I (λc o hc q=>hx c o (λz=>hc<|by simp[z]) q) hf⟩
 self:=λ_ _ _ _ _ st h=>by
  obtain⟨⟨old,he⟩,_⟩:=st;exact lM he h
section
variable{prog:bq}{w:bC}{A:bL}{E:aq->au->Prop}{s:au}
def Zbd(l:aw)(items:Array aq)(n:Nat)(dct:Option aw)(sl:Array (Option aq)) :
  nL (eF.«enumerate.__new__» ⟨[.type "enumerate",.ref l],[]⟩) (λ_ R s=>s.heap.get? l=aa {cls:=.type "tuple",dict:=dct,data:=.seq items n,slots:=sl}/\
   R (.ok<|.ret<|.ref (s.heap.push<|YB ai l).objs.size) {s with heap:=(s.heap.push<|YB ai l).push {cls:=.type "enumerate",data:=.fields #[.none,.bool ai,.ref s.heap.objs.size,fb 0,.none,.none]}}):=
 .of_wp λprog w A R s h=>by
  obtain⟨hp,g,d,tk,os⟩:=s;obtain⟨hl,h⟩:=h;have hsub:=sub_enumerate;have hL:bF.IsTuple (au.heap ⟨hp,g,d,tk,os⟩) l items:=⟨_,hl,rfl,n,rfl⟩
  wp_walk using fh hl;refine wpAny_stack_any λst=>ax ?_;split
  ·rename_i c _ _ _ _ _;cases(c == aq.type "enumerate")<;>(wp_walk using fh hl,fv hL;exact⟨_,rfl,h⟩)
  ·wp_walk using fh hl,fv hL;exact⟨_,rfl,h⟩
def uK{Q:aq->au->Prop}(hL:YS b s.heap l xs)
  (h:∀h' n,n=s.heap.objs.size->IsEnum h' (n+1) n 0 .none->Src b h' n l 0->(∀c o,s.heap.get? c=aa o->h'.get? c=aa o)->Q (.ref<|n+1) {s with heap:=h' }):aW (aZ prog w) A (call (.type "enumerate") [.ref l]) Q E s:=by
 cases b with
 |true=>exact call_enumerate_list hL λh' a1 a2 _ a4=>h h' _ rfl a1 a2 a4
 |false=>
  obtain⟨⟨c,dct,dt,sl⟩,hl,hc,n,hd⟩:=hL;simp only at hc hd;subst hc hd;refine callType_new F.called_enumerate (by decide) (F.typeCall_enumerate_1 _) (F.newCall_enumerate_1 _) (λobj=>F.args_object_init_2 obj _) F.entry_enumerate_new (Zbd l xs n dct sl) ⟨hl,?_⟩
  have hz:(s.heap.push<|YB ai l).objs.size=s.heap.objs.size+1:=dv ..;have g2:=aM (s.heap.push<|YB ai l) (o:={cls:=.type "enumerate",data:=.fields #[.none,.bool ai,.ref s.heap.objs.size,fb 0,.none,.none]}) rfl;have g1:((s.heap.push<|YB ai l).push {cls:=.type "enumerate",data:=.fields #[.none,.bool ai,.ref s.heap.objs.size,fb 0,.none,.none]}).get? s.heap.objs.size=aa (YB ai l):=ao _<|aM _ rfl;rw[hz]at g2 ⊢;exact⟨⟨_,g2,rfl⟩,h _ _ rfl g2 ⟨_,g1,rfl,rfl⟩ λc o q=>ao _<|ao _ q⟩
end
section
variable{X:Cx}{elts:List Expr}{kk:Nat}{tp:d8}
def Zfz(K:aj)(ta:TA):TI:=λσ H R=>ta σ H λvs H1=>∃b l,vs=[.ref l]/\(∃xs,Sq b K H1 l xs)/\R (Ite K b l) H1
def ZcU{a:Expr}{ta:TA}{p pos:d8}(hg:Gl X "enumerate")(hm:X.mg "enumerate" = ac)(ha:PA X [a] ta)(hs:aC [a] X.env=[(ai,cb a X.env)]:=by rfl):PI X (.Tuple elts kk tp) (.Call (.Name "enumerate" p) [a] [] pos) (Zfz X.K ta):=by
 intro pq s σ H R I h;refine Call_<|WY I hg hm (by rfl)<|cZ (thn (ha pos pq s σ H _ I h) λus s1 ⟨vs,H1,I1,r1,q1⟩=>?_) hs rfl
 obtain⟨b,l,e,⟨xs,hq⟩,q⟩:=q1;subst e;cases r1 with
 |cons r rr=>
  cases rr;cases r;obtain⟨its,rv,o1⟩:=Xe I1 hq;have lt1:=VB o1;refine uK o1 λh' n hn he hs' hk=>?_
  have I2:=I1.kept (t':=s1.toks) hk
  have q1:(l:Nat)<n:=by rw[hn];exact lt1
  refine lM he ⟨n+1,[n+1,n],_,_,H1,rfl,I2,u0 (Wq<|.inr<|fV n) (Wq<|.inl<|dM q1)<|Wq<|.inl q1,⟨⟨_,he⟩,hs'⟩,λc hc=>?_,q⟩
  have hbn:s1.heap.objs.size<=c:=by grind
  exact I1.fpOk hbn<|I1.hok.fresh hbn
end
def um{K:aj}{ρ:List aw}{H:Hp}{w:Walk}{b:Bool}{l:aw}(h1:Side K ρ H w b l):WRel K ρ H ⟨(Ev.ZO 0 w.items.length).zip w.items |>.map λp=>.tup [p.1,p.2],w.kept⟩ (Ite K b l) where
 go:=λi ρ' S' H' f st hs hi=>by
  obtain⟨xs,q1,r1⟩:=h1 ρ' S' H' f st hs;have hi':i<w.items.length:=by grind
  obtain⟨x,g1,rx⟩:=r1.get<|ag hi';refine⟨⟨xs,x,q1,g1⟩,λu H'' ⟨T,x',e1,hT,eH,eu⟩=>?_⟩
  subst eH eu;have ex:=(e1 xs q1).symm.trans g1;cases ex;refine⟨ZR hT,st.fresh hT,λd hd=>?_⟩
  have hd':=hd
  have hz:((Ev.ZO 0 w.items.length).zip w.items)[i]?=aa (.int<|0+i,w.items[i]):=eY.mpr ⟨zn hi',ag hi'⟩;rw[aX,hz]at hd';cases hd';refine ZU Zr<|Rq.cons ?_<|Rq.cons (rx.mono<|ZR hT) Rq.nil;have:((0:Int)+i)=i:=by omega
  rw[this];exact Zq _
 stop:=λρ' S' H' f st hs=>by
  obtain⟨xs,q1,r1⟩:=h1 ρ' S' H' f st hs;refine⟨xs,q1,?_⟩;show xs.length=(((Ev.ZO 0 w.items.length).zip w.items).map λp=>D.tup [p.1,p.2]).length
  rw[aF,fo,V6,r1.length];omega
section
variable{X:Cx}{xw:Nat->Hp->Prop}{C:Calls}{a b:Expr}{i j:E}{pos p tp:d8}{elts:List Expr}{kk:Nat}
def Gj(hm:X.mg "enumerate" = ac)(ha:CA X xw C [a] [i])(hg:Gl X "enumerate":=by rfl)(hs:aC [a] X.env=[(ai,cb a X.env)]:=by rfl) :
  CW X xw C (.Tuple elts kk tp) (.Call (.Name "enumerate" p) [a] [] pos) (.enum i):=
 PI.imp (ZcU hg hm ha hs) λσ H Q ⟨ρ,l,S,st,lr,h⟩=>by
  refine⟨ρ,l,S,st,lr,?_⟩;show End X.K xw Rq ρ H _ ((ev C i l S).bind λx S=>(Ev.R.ok [] S).bind λxs S=>.ok (x::xs) S)
  have h':End X.K xw (WRel X.K) ρ H Q ((ev C i l S).bind λx S=>match Ev.Yi S x with
   |some w=>.ok ⟨(Ev.ZO 0 w.items.length).zip w.items |>.map λp=>.tup [p.1,p.2],w.kept⟩ S
   |none=>.no):=h
  cases q:ev C i l S with
  |no=>rw[q]at h';exact h'
  |ex c S1=>rw[q]at h';exact h'
  |ok x S1=>
   rw[q]at h';intro ρ1 H1 vs f1 st1 r1;obtain⟨v,rfl,r⟩:=YM r1;have h3:End X.K xw (WRel X.K) ρ1 H1 Q (match Ev.Yi S1 x with
    |some w=>.ok ⟨(Ev.ZO 0 w.items.length).zip w.items |>.map λp=>.tup [p.1,p.2],w.kept⟩ S1
    |none=>.no):=End.mono f1 (h')
   cases e1:Ev.Yi S1 x with
   |none=>rw[e1]at h3;exact False.elim h3
   |some wk=>
    rw[e1]at h3;obtain⟨b1,l1,rfl,s1,d1⟩:=GR st1 r e1;exact⟨b1,l1,rfl,s1,End.ok h3 st1<|um d1⟩
end
def V0(hh:A.handled=ac)(b:Bool)(it l:aw)(hne:l≠it)(xs:Array aq) :
  Walks prog w A it [it,l] [it] xs.size (λi v=>xs[i]?=aa v) (λi h=>Src b h it l i/\YS b h l xs):=by
 cases b
 ·exact Walks.tuple hh it l hne xs
 ·exact Walks.list hh it l hne xs
def GV{b:Bool}{h:bF}{l:aw}:Src b (h.push<|YB b l) h.objs.size l 0:=by
 cases b
 ·exact⟨_,aM _ rfl,rfl,rfl⟩
 ·exact⟨_,aM _ rfl,rfl,rfl⟩
def Zfb{K:aj}{H:Hp}{p:aw}{xs:List V}(h:SqL K H p xs\/SqT K H p xs):∃b,Sq b K H p xs:=by
 rcases h with h|h
 ·exact⟨ah,h⟩
 ·exact⟨ai,h⟩
section
variable{X:Cx}{xw:Nat->Hp->Prop}{C:Calls}{e a b c:Expr}{i j k:E}{pos p p' p2:d8}
def qu(hc:X.calm=ah):ZK X (.builtin "any") (λvs H Q=>∃ρ S ds x bs,St3 X.K ρ S H/\Rq ρ H [x] vs/\Ev.Wf S x=aa ds/\Ev.YI ds=aa bs/\Q (.bl<|bs.any id) H):=by
 intro pq s σ H vs us Q I r h;obtain⟨ρ,S,ds,x,bs,st,rs,hl,hb,q⟩:=h;obtain⟨v,rfl,r1⟩:=YM rs;obtain⟨l,xs,rfl,hsq,rx⟩:=VY st r1 hl;obtain⟨kb,hq⟩:=Zfb hsq;obtain⟨u,rfl,ru⟩:=WO r;cases ru;obtain⟨its,rv,o1⟩:=Xe I hq;obtain⟨lb,tb⟩:=W9 hb;have hlt:=VB o1;have hlen:its.toArray.size=bs.length:=by rw[aD,<-rv.length,rx.length,lb]
 refine call_any_walk<|Vu o1 ⟨s.heap.objs.size,[s.heap.objs.size,l],[s.heap.objs.size],its.toArray.size,_,_,λj=>bs.getD j ai,rfl,V0 (A:=X.A.in1) (I.ok.hd hc) kb s.heap.objs.size l (bf hlt) its.toArray,⟨GV,o1.keep λo q=>ao _ q⟩,?_,?_⟩
 ·intro j v s' Q' E' hv hQ'
  have hj:its[j]?=aa v:=by simpa using hv
  have jl:j<ds.length:=by
   have:=(ay.mp hj).1;rw[<-rv.length,rx.length]at this;exact this
  obtain⟨w',g,r'⟩:=rx.get<|ag jl;obtain⟨u',g',ru'⟩:=rv.get g;rw[hj]at g';cases g';exact Vf r' ru' (tb j _<|ag jl) s' Q' E' hQ'
 ·intro h' tk hk
  rw[hlen,qp];exact⟨.bl<|bs.any id,H,I.kept (t':=tk) λb o e=>hk b o (λhm=>by
   have:b=s.heap.objs.size:=by simpa using hm
   exact T7 (this▸aJ e)<|bB _)<|ao _ e,rfl,q⟩
def vD(hc:X.calm=ah):ZK X (.builtin "any") (VP X.K xw .any):=ZK.imp (qu hc) λvs H Q ⟨ρ,S,ds,st,r,h⟩=>by
 match ds,r,h with
 |[x],r,h=>
  obtain⟨xs,hx,h1⟩:=End.ob (h)
  obtain⟨bs,hb,h2⟩:=End.ob h1;exact⟨ρ,S,xs,x,bs,st,r,hx,hb,End.ok h2 st<|ZC _⟩
 |[],r,h=>exact False.elim h
 |_::_::_,r,h=>exact False.elim h
theorem Qx :∀{ds:List D}{is:List Int}{xs:List V},Ev.Y1 ds=aa is->Rq ρ H ds xs->xs=is.map V.int
 |[],is,xs,h,r=>by cases h;rw[r];rfl
 |d::ds,is,xs,h,r=>by
  obtain⟨v,vs,rfl,a1,b1⟩:=r;cases d with
  |int n=>
   have h':(Ev.Y1 ds).map (n :: ·)=aa is:=h
   cases q:Ev.Y1 ds with
   |none=>rw[q]at h';cases h'
   |some k'=>
    rw[q]at h';have e:=ak h';rw[<-e,a1.int',Qx q b1];rfl
  |_=>cases h
def UK(f:Nat->Int)(n:Nat):mo f (n+1)=mo f n+f n:=rfl
def zw:∀(is:List Int),mo (λj=>is.getD j 0) is.length=is.sum:=by
 have gen:∀(is:List Int)(n:Nat),n<=is.length->mo (λj=>is.getD j 0) n=(is.take n).sum:=by
  intro is n
  induction n with
  |zero=>intro _;rfl
  |succ n ih=>
   intro h;rw[UK,ih<|by omega,lN,List.sum_append]
   have:is[n]?=aa is[n]:=ag (by omega)
   simp[this]
 intro is;rw[gen is is.length<|aB _,mh]
theorem Vr(h:∀j,-M<=f j/\f j<=M)(hM:0<=M):∀n:Nat,-(M*n)<=mo f n/\mo f n<=M*n
 |0=>by rw[show mo f 0=0 from rfl];simp
 |n+1=>by
  obtain⟨a,b⟩:=Vr h hM n;obtain⟨c,d⟩:=h n;rw[UK];have:M*((n+1:Nat):Int)=M*n+M:=by rw[mF,Int.mul_add];simp
  rw[this];omega
def u4(hc:X.calm=ah):ZK X (.builtin "sum") (λvs H Q=>∃ρ S ds n is,St3 X.K ρ S H/\Rq ρ H [.loc n] vs/\Ev.Zm S n=aa ds/\Ev.Y1 ds=aa is/\Ev.Ui is=ah/\Q (.int is.sum) H):=by
 intro pq s σ H vs us Q I r h;obtain⟨ρ,S,ds,n,is,st,rs,hl,hb,hok,q⟩:=h;obtain⟨v,rfl,r1⟩:=YM rs;obtain⟨_,l,xs,q1,hx,rx⟩:=st.lst hl;obtain⟨p',rfl,t⟩:=r1.loc';rw[q1]at t;cases t;obtain⟨u,rfl,ru⟩:=WO r;cases ru;have hq:Sq ah X.K H l xs:=SqL.of hx;obtain⟨its,rv,o1⟩:=Xe I hq;have hlt:=VB o1;have ex:=Qx hb rx;subst ex;have hlen:its.toArray.size=is.length:=by rw[aD,<-rv.length,aF]
 obtain⟨k1,k2⟩:=(aE _ _).mp hok;have k1':=T6 k1;have bd:∀j,-1099511627776<=is.getD j 0/\is.getD j 0<=1099511627776:=λj=>by
  cases e:is[j]? with
  |none=>rw[aG,e];simp
  |some y=>
   have:=T6<|aV.mp k2 y<|cy e;rw[aG,e];exact this
 refine call_sum_walk<|Vu o1 ⟨s.heap.objs.size,[s.heap.objs.size,l],[s.heap.objs.size],its.toArray.size,_,_,λj=>is.getD j 0,rfl,V0 (A:=X.A.in1) (I.ok.hd hc) ah s.heap.objs.size l (bf hlt) its.toArray,⟨GV,o1.keep λo q=>ao _ q⟩,λb hb=>?_,λj v hv=>?_,λj hj=>?_,?_⟩
 ·rw[dv]
  simp only[az,bz,or_false]at hb;rcases hb with q|q<;>rw[q]
  ·exact fV _
  ·exact dM hlt
 ·have hj:its[j]?=aa v:=by simpa using hv
  have jl:j<is.length:=by
   have:=(ay.mp hj).1;rw[<-rv.length,aF]at this;exact this
  obtain⟨u',g',ru'⟩:=rv.get (by rw[aX,ag jl];rfl)
  rw[hj]at g';cases g';obtain⟨t,e⟩:=ru';exact⟨t,by rw[e];show kG is[j] t=kG (is.getD j 0) t;rw[aG,ag jl];rfl⟩
 ·have b1:=bd j
  have b2:=Vr bd (by omega)<|j+1
  have jl:j+1<=1000:=by omega
  have b3:(1099511627776:Int)*((j+1:Nat):Int)<=1099511627776*1000:=Int.mul_le_mul_of_nonneg_left (by omega) (by omega)
  refine⟨show InLong (is.getD j 0)from ?_,?_⟩<;>(unfold InLong;omega)
 ·intro h' tk t' hk
  rw[hlen,zw];exact⟨.int is.sum,H,I.kept (t':=tk) λb o e=>hk b o (λhm=>by
   have:b=s.heap.objs.size:=by simpa using hm
   exact T7 (this▸aJ e)<|bB _)<|ao _ e,⟨t',rfl⟩,q⟩
def wX(hc:X.calm=ah):ZK X (.builtin "sum") (VP X.K xw .sum):=ZK.imp (u4 hc) λvs H Q ⟨ρ,S,ds,st,r,h⟩=>by
 have hn:∃n,ds=[.loc n]:=by
  rcases ds with _|⟨d,_|⟨e,t⟩⟩
  ·exact False.elim h
  ·cases d<;>first|exact⟨_,rfl⟩|exact False.elim h
  ·cases d<;>exact False.elim h
 obtain⟨n,rfl⟩:=hn
 obtain⟨xs,hx,h1⟩:=End.ob (h)
 obtain⟨is,hb,h2⟩:=End.ob h1;obtain⟨hs,h3⟩:=End.guard h2;exact⟨ρ,S,xs,n,is,st,r,hx,hb,hs,End.ok h3 st<|Zq _⟩
def V8{o:Expr}{io:E}{apos cpos:d8}(ho:CE X xw C o io)(ha:CA X xw C [e] [i])
  (hbase:attributeBase o "extend" X.env (cb o X.env)=cb o X.env:=by rfl)
  (hfew:((cX cpos<|aC [e] X.env).all (λx=>!x.1)&&(backToKw cpos<|keywordEach [] X.env).all (λx=>x.1.isSome)
   && ae (([e]:List Expr).length+([]:List nH).length+(if([]:List nH).isEmpty then 0 else 1)<30))=ah:=by rfl)
  (hline:(apos.endLine == cpos.line)=ah:=by rfl)(hs:aC [e] X.env=(ai,cb e X.env)::aC [] X.env:=by rfl)(hplain:(cX cpos<|aC [] X.env).any (·.1)=ai:=by rfl) :
  CE X xw C (.Call (.Attribute o "extend" apos) [e] [] cpos) (.mt .extend io [i]):=
 PE.imp (vE dY PySem.F.slot_list_extend PySem.F.type_list_extend ut ho ha hbase hfew hline hs hplain) λσ H Q ⟨ρ,l,S,st,lr,h⟩=>by
  have h':=h
  refine⟨ρ,l,S,st,lr,h'.bind λx S1 ρ1 H1 v f1 st1 r1 h1=>?_⟩
  obtain⟨hl,h1⟩:=h1.guard;cases x with
  |loc n=>
   obtain⟨p,rfl,hp⟩:=r1.loc';obtain⟨ds,hds⟩:=bP.mp (hl)
   obtain⟨_,p',xs,q1,hx,_⟩:=st1.lst hds;rw[hp]at q1;cases q1;refine⟨.inl ⟨rfl,xs,SqL.of hx⟩,ρ1,l,S1,st1,lr.mono f1,h1.bind λys S2 ρ2 H2 vs f2 st2 r2 h2=>?_⟩
   match ys,r2,h2 with
   |[.loc m],r2,h2=>
    obtain⟨w,rfl,rw'⟩:=YM r2;obtain⟨pm,rfl,hpm⟩:=rw'.loc';have h2':End X.K xw Rep ρ2 H2 Q (if n=m then .no else(Ev.ob (Ev.Zm S2 n) S2).bind λxs S=>(Ev.ob (Ev.Zm S m) S).bind λys S=>if xs.length+ys.length<=Ev.lim then .ok .non (S.set n<|.lst<|xs++ys)else .no):=h2
    by_cases hnm:n=m
    ·rw[T9 hnm]at h2';exact False.elim h2'
    ·rw[T8 hnm]at h2'
     obtain⟨zs,hz,h3⟩:=End.ob h2';obtain⟨ws,hw,h4⟩:=End.ob h3;obtain⟨hlen,h5⟩:=h4.guard;obtain⟨sn,p2,zs',q2,hz2,rz⟩:=st2.lst hz;rw[f2.at hp]at q2;cases q2;obtain⟨sm,p3,ws',q3,hw2,rw2⟩:=st2.lst hw;rw[hpm]at q3;cases q3;refine⟨p,pm,zs',ws',rfl,rfl,hz2,hw2,by rw[rz.length,rw2.length,<-W4];exact hlen,?_⟩
     exact h5 ρ2 _ .non (Xp hz2) (st2.wr (f2.at hp) sn hz2<|rz.append rw2) YT
   |[.non],r2,h2=>exact False.elim h2
   |[.bl _],r2,h2=>exact False.elim h2
   |[.int _],r2,h2=>exact False.elim h2
   |[.str _],r2,h2=>exact False.elim h2
   |[.tup _],r2,h2=>exact False.elim h2
   |[],r2,h2=>exact False.elim h2
   |d::_::_,r2,h2=>cases d<;>exact False.elim h2
  |_=>exact T7 hl (by simp[Ev.qF])
def x5{n m:Nat}{x y:bc}{px py pt:d8}{kt k2 pt2}(hc:X.calm=ah)(hN:X.N.Nodup)(ha:CA X xw C [a,b] [i,j])(hnm:n≠m:=by decide)(hi:X.N[n]?=aa x:=by rfl)(hj:X.N[m]?=aa y:=by rfl)
  (hx:X.env.scope.names.lookup x=aa .local:=by rfl)(hy:X.env.scope.names.lookup y=aa .local:=by rfl)
  (hw:gd [.Tuple [.Name x px,.Name y py] kt pt] (.Tuple [a,b] k2 pt2) X.env=cA (aa [x,y]):=by rfl)
  (hs:gb [.Tuple [.Name x px,.Name y py] kt pt] (.Tuple [a,b] k2 pt2) pos.line X.env=cA ai:=by rfl) :
  CS X xw C (.Assign [.Tuple [.Name x px,.Name y py] kt pt] (.Tuple [a,b] k2 pt2) pos) (.par [n,m] [i,j]):=
 PS.imp (ZeQ hc hN hi hj hnm hx hy ha hw hs) λD σ H ⟨ρ,l,S,st,lr,h⟩=>
  ⟨ρ,l,S,st,lr,ZX.bind (h) λxs S1 ρ1 H1 vs f1 st1 r1 h1=>by
   obtain⟨l',hl',h2⟩:=ZX.ob h1
   match xs,r1,hl' with
   |[d1,d2],r1,hl'=>
    obtain⟨v,w,rfl,a1,a2⟩:=wy r1;have e:=ak hl';exact⟨v,w,rfl,ZX.nx h2 st1<|by rw[<-e];exact((lr.mono f1).set n a1).set m a2⟩
   |[],_,hl'=>cases hl'
   |[_],_,hl'=>cases hl'
   |_::_::_::_,_,hl'=>cases hl'⟩
end
end Sd
namespace Sq
open PySem PySem.W PyProof.Rows
noncomputable def evT{α:Type}(n:Nat)(lt:Nat->Nat->Bool):KasT α->Option α
 |.ret a=>aa a
 |.ask i j k=>if i<n/\j<n then evT n lt (k<|lt i j)else ac
def WD{α:Type}{n:Nat}{lt:Nat->Nat->Bool}{i j:Nat}{k:Bool->KasT α}(c:i<n/\j<n):evT n lt (.ask i j k)=evT n lt (k<|lt i j):=by
 show(if i<n/\j<n then evT n lt (k<|lt i j)else ac)=_
 rw[T9 c]
theorem XN{α β:Type}{n:Nat}{lt:Nat->Nat->Bool}{f:α->KasT β}:∀{t:KasT α}{a:α},evT n lt t=aa a->evT n lt (t.bind f)=evT n lt (f a)
 |.ret a,b,h=>by cases h;rfl
 |.ask i j k,b,h=>by
  unfold evT at h;by_cases c:i<n/\j<n
  ·rw[T9 c]at h
   show evT n lt (.ask i j λb=>(k b).bind f)=_
   rw[WD c];exact XN h
  ·rw[T8 c]at h;cases h
theorem qA{α:Type}{cmp:Nat->Nat->(Bool->au->Prop)->au->Prop}{G:α->au->Prop}(hc:∀i j,i<n->j<n->∀C:Bool->au->Prop,C (lt i j) s->cmp i j C s) :
  ∀{t:KasT α}{a:α},evT n lt t=aa a->G a s->t.kasWp cmp G s
 |.ret a,b,h,g=>by cases h;exact g
 |.ask i j k,b,h,g=>by
  unfold evT at h;by_cases c:i<n/\j<n
  ·rw[T9 c]at h
   exact hc i j c.1 c.2 _<|qA hc h g
  ·rw[T8 c]at h;cases h
structure Ord(n:Nat)(lt:Nat->Nat->Bool):Prop where
 tot:∀i j,i<n->j<n->i≠j->lt i j=ai->lt j i=ah
 asy:∀i j,i<n->j<n->lt i j=ah->lt j i=ai
 tr:∀i j k,i<n->j<n->k<n->lt i j=ah->lt j k=ah->lt i k=ah
noncomputable abbrev g(p:Array Nat)(i:Nat):Nat:=p.getD i 0
def Pm(n:Nat)(p:Array Nat):Prop:=p.Perm<|dN<|aR n
theorem Pm.size{n:Nat}{p:Array Nat}(h:Pm n p):p.size=n:=by have:=Array.Perm.size_eq h;simpa using this
def ZaT(h:i<p.size):p[i]?=aa (g p i):=by simp[g,h]
def Pm.lt{n:Nat}{p:Array Nat}(h:Pm n p){i:Nat}(hi:i<n):g p i<n:=by
 have hs:=h.size;have h1:g p i∈p.toList:=by
  have:p.toList[i]?=aa (g p i):=by rw[cL];exact ZaT (by omega)
  exact cy this
 have h2:p.toList.Perm (aR n):=by simpa using dw.mp h
 exact bw.mp<|h2.mem_iff.mp h1
def Pm.inj{n:Nat}{p:Array Nat}(h:Pm n p){i j:Nat}(hi:i<n)(hj:j<n)(e:g p i=g p j):i=j:=by
 have hs:=h.size;have h2:p.toList.Perm (aR n):=by simpa using dw.mp h
 have nd:=(h2.nodup_iff).mpr fW;have e1:p.toList[i]?=aa (g p i):=by rw[cL];exact ZaT (by omega)
 have e2:p.toList[j]?=aa (g p j):=by rw[cL];exact ZaT (by omega)
 have hl:i<p.toList.length:=by simpa[hs]using hi
 exact(lO hl nd).mp (by rw[e1,e2,e])
def yt(hs:src<p.size)(hd:d<=src)(k:Nat):g (bubble p src d) k=if k=src-d then g p src else if src-d<k/\k<=src then g p (k-1)else g p k:=by
 have:=getElem?_bubble hs d hd k;simp only[gJ,this]
 repeat' split
 all_goals rfl
def ZdD{p:Array Nat}{m:Nat}(hm:m<=p.size)(k:Nat):g (mO p 0 m) k=if k<m then g p (m-1-k)else g p k:=by
 have:=getElem?_mirror (i:=0) hm ((m-0) / 2) (by omega) k
 unfold g mO;simp only[gJ,this];by_cases c:k<m
 ·rw[T9 c]
  split
  ·congr 2;omega
  ·congr 2;omega
 ·rw[T8 c,T8<|by omega]
def Zbn{n:Nat}{p:Array Nat}(h:Pm n p)(i j:Nat):Pm n (mO p i j):=(mirror_perm _ _ _ _).trans h
def ul(h:Pm n p)(i j:Nat):Pm n (bubble p i j):=(bubble_perm _ _ _).trans h
section
variable{n:Nat}{lt:Nat->Nat->Bool}
def Up(lt:Nat->Nat->Bool)(p:Array Nat)(m:Nat):Prop:=∀i j,i<j->j<m->lt (g p i) (g p j)=ah
def Dn(lt:Nat->Nat->Bool)(p:Array Nat)(m:Nat):Prop:=∀i j,i<j->j<m->lt (g p j) (g p i)=ah
def ZeI(p:Array Nat):Up lt p 1:=λi j a b=>by omega
def ZbX(O:Ord n lt){p:Array Nat}(h:Pm n p){m:Nat}(hm:m<n)(h1:1<=m)(u:Up lt p m)(c:lt (g p m) (g p<|m-1)=ai):Up lt p (m+1):=by
 have m1:=ln h1 kB;have hl:=O.tot _ _ (h.lt hm) (h.lt<|cc m1 hm) (λe=>cY m1<|h.inj hm (cc m1 hm) e) c
 intro i j a b;by_cases z:j=m
 ·subst z
  by_cases y:i=j-1
  ·subst y;exact hl
  ·exact O.tr _ _ _ (h.lt<|cc a hm) (h.lt<|cc m1 hm) (h.lt hm) (u i (j-1) (cn (dO a) y) m1) hl
 ·exact u i j a<|cn (eI b) z
theorem yy(O:Ord n lt){p:Array Nat}(h:Pm n p):∀(f m:Nat),1<=m->m+f=n->Up lt p m->∃k,evT n lt (kas_asc p f m)=aa k/\m<=k/\k<=n/\Up lt p k/\(k<n->lt (g p k) (g p<|k-1)=ah)
 |0,m,h1,e,u=>⟨m,rfl,aB _,Nat.le_of_eq e,u,λz=>T7 e<|bf z⟩
 |f+1,m,h1,e,u=>by
  have mn:m<n:=e▸iL (Nat.succ_pos f);unfold kas_asc;rw[WD ⟨h.lt mn,h.lt<|fw (gZ _ _) mn⟩];cases c:lt (g p m) (g p<|m-1)with
  |true=>exact⟨m,by rw[T9 rfl];rfl,aB _,d4 mn,u,λ_=>c⟩
  |false=>
   obtain⟨k,e1,e2,e3,e4⟩:=yy O h f (m+1) (lP h1) ((lq ..).trans e)<|ZbX O h mn h1 u c;exact⟨k,by rw[T8<|by simp];exact e1,d4 e2,e3,e4⟩
def wG(O:Ord n lt){p:Array Nat}(h:Pm n p){m:Nat}(hm:m<n)(h1:1<=m)(u:Dn lt p m)(c:lt (g p m) (g p<|m-1)=ah):Dn lt p (m+1):=by
 intro i j a b;by_cases z:j=m
 ·subst z
  have m1:=ln h1 kB;by_cases y:i=j-1
  ·subst y;exact c
  ·exact O.tr _ _ _ (h.lt hm) (h.lt<|cc m1 hm) (h.lt<|cc a hm) c<|u i (j-1) (cn (dO a) y) m1
 ·exact u i j a<|cn (eI b) z
theorem vj(O:Ord n lt){p:Array Nat}(h:Pm n p):∀(f m:Nat),1<=m->m+f=n->Dn lt p m->∃k,evT n lt (kas_desc f p m 0)=aa (p,k,0)/\m<=k/\k<=n/\Dn lt p k
 |0,m,h1,e,u=>⟨m,rfl,aB _,by omega,u⟩
 |f+1,m,h1,e,u=>by
  unfold kas_desc;rw[WD ⟨h.lt<|by omega,h.lt<|by omega⟩]
  cases c:lt (g p m) (g p<|m-1)with
  |true=>
   obtain⟨k,e1,e2,e3,e4⟩:=vj O h f (m+1) (by omega) (by omega)<|wG O h (by omega) h1 u c
   exact⟨k,by rw[T9 rfl,T8<|by omega];exact e1,by omega,e3,e4⟩
  |false=>
   have hl:=O.tot _ _ (h.lt<|by omega) (h.lt<|by omega) (λe=>by have:=h.inj (by omega) (by omega) e;omega) c
   refine⟨m,?_,aB _,by omega,u⟩
   rw[T8<|by simp]
   rw[WD ⟨h.lt<|by omega,h.lt<|by omega⟩]
   rw[T9 hl];rfl
def Za2(O:Ord n lt){p:Array Nat}(h:Pm n p)(hn:1<=n):∃k p',evT n lt (kas_count n p)=aa (k,p')/\1<=k/\k<=n/\Pm n p'/\Up lt p' k:=by
 obtain⟨k,e1,e2,e3,e4,e5⟩:=yy O h (n-1) 1 (aB _) (gD hn)<|ZeI p;unfold kas_count;rw[XN e1];by_cases c:k=n
 ·exact⟨k,p,by rw[T9<|by simpa using c];rfl,e2,e3,h,e4⟩
 ·rw[T8<|by simpa using c]
  have kn:=cn e3 c;by_cases c1:k>1
  ·refine⟨k,p,?_,e2,e3,h,e4⟩
   rw[T9 c1];rw[WD ⟨h.lt hn,h.lt<|fw (gZ _ _) kn⟩];show evT n lt (if lt (g p 0) (g p<|k-1)=ah then _ else _)=_
   rw[T9<|e4 0 (k-1) (Nat.sub_pos_of_lt c1)<|ln e2 kB];rfl
  ·rw[T8 c1]
   have hk:k=1:=Nat.le_antisymm (df c1) e2;subst hk;have d2:=wG O h kn (aB _) (λi j a b=>T7 (aQ a<|eI b)<|mG _)<|e5 kn
   obtain⟨m,f1,f2,f3,f4⟩:=vj O h (n-(1+1)) 2 (by decide) (gD kn) d2
   have m1:=bh (by decide:1<=2) f2
   unfold kas_descPart;rw[XN f1,T8<|by simp]
   unfold kas_tail3;have hu:Up lt (mO p 0 m) m:=by
    intro i j a b;rw[ZdD<|by rw[h.size];exact f3,ZdD<|by rw[h.size];exact f3,T9<|cc a b,T9 b]
    exact f4 _ _ (Nat.sub_lt_sub_left (aQ a<|dO b) a)<|fw (gZ _ _)<|ln m1 kB
   obtain⟨k',a1,a2,a3,a4,_⟩:=yy O (Zbn h 0 m) (n-m) m m1 (gD f3) hu;exact⟨k',mO p 0 m,by rw[XN a1];rfl,bh m1 a2,a3,Zbn h 0 m,a4⟩
theorem Qp(O:Ord n lt){p:Array Nat}(h:Pm n p){k:Nat}(hk:k<n)(u:Up lt p k):∀(f l r:Nat),l<=r->r<=k->r-l<=f->(∀i,i<l->lt (g p i) (g p k)=ah)->(∀i,r<=i->i<k->lt (g p k) (g p i)=ah)->
  ∃m,evT n lt (kas_place p k f l r)=aa m/\m<=k/\(∀i,i<m->lt (g p i) (g p k)=ah)/\∀i,m<=i->i<k->lt (g p k) (g p i)=ah
 |0,l,r,h1,h2,h3,a,b=>⟨l,rfl,bh h1 h2,a,λi z=>b i<|bh (Nat.le_of_sub_eq_zero<|Nat.le_zero.mp h3) z⟩
 |f+1,l,r,h1,h2,h3,a,b=>by
  unfold kas_place;by_cases c:l>=r
  ·rw[T9 c];exact⟨l,rfl,bh h1 h2,a,λi z=>b i<|bh c z⟩
  ·rw[T8 c]
   obtain⟨m1,m2,m3,m4⟩:l<=(l+r) / 2/\(l+r) / 2<r/\(l+r) / 2-l<=f/\r-((l+r) / 2+1)<=f:=by clear u hk h2;omega
   generalize (l+r) / 2=m at *;have mk:=aQ m2 h2;have mn:=cc mk hk;rw[WD ⟨h.lt hk,h.lt mn⟩];cases q:lt (g p k) (g p m)with
   |true=>
    rw[T9 rfl];refine Qp O h hk u f l m m1 (d4 mk) m3 a λi z1 z2=>?_
    by_cases y:i=m
    ·rw[y];exact q
    ·exact O.tr _ _ _ (h.lt hk) (h.lt mn) (h.lt<|cc z2 hk) q (u _ _ (cn z1<|Ne.symm y) z2)
   |false=>
    rw[T8<|by simp]
    have q':=O.tot _ _ (h.lt hk) (h.lt mn) (λe=>cY mk<|h.inj hk mn e) q
    refine Qp O h hk u f (m+1) r m2 h2 m4 (λi z=>?_) b
    by_cases y:i=m
    ·rw[y];exact q'
    ·have z:=cn (eI z) y
     exact O.tr _ _ _ (h.lt<|cc z mn) (h.lt mn) (h.lt hk) (u _ _ z mk) q'
theorem ZaV(O:Ord n lt):∀(f:Nat){p:Array Nat}{k:Nat},Pm n p->1<=k->k+f=n->Up lt p k->∃p',evT n lt (kas_bin f p k)=aa p'/\Pm n p'/\Up lt p' n
 |0,p,k,h,h1,e,u=>⟨p,rfl,h,e▸u⟩
 |f+1,p,k,h,h1,e,u=>by
  have kn:k<n:=e▸iL (Nat.succ_pos f);obtain⟨l,e1,e2,e3,e4⟩:=Qp O h kn u k 0 k (dL _) (aB _) (gZ _ _) (λi z=>T7 z<|mG _) λi a b=>T7 b<|Nat.not_lt.mpr a
  unfold kas_bin;rw[XN e1];refine ZaV O f (ul h k<|k-l) (lP h1) ((lq ..).trans e) ?_;have hs:k<p.size:=by rw[h.size];exact kn
  intro i j a b;rw[yt hs<|gZ _ _,yt hs<|gZ _ _,Nat.sub_sub_self e2];have jk:=eI b;have j1:=Nat.sub_one_lt_of_le (lQ a) jk;by_cases ci:i=l
  ·subst ci
   rw[T9 rfl,T8<|cY a,T9 ⟨a,jk⟩];exact e4 _ (dO a) j1
  ·rw[T8 ci]
   by_cases cj:j=l
   ·subst cj
    rw[T9 rfl,T8 λz=>Nat.lt_asymm a z.1]
    exact e3 _ a
   ·rw[T8 cj]
    by_cases di:l<i/\i<=k
    ·rw[T9 di,T9 ⟨cc di.1 a,jk⟩]
     exact u _ _ (Nat.sub_lt_sub_right (lQ di.1) a) j1
    ·rw[T8 di]
     by_cases dj:l<j/\j<=k
     ·rw[T9 dj];exact u _ _ (aQ (cn (df λz=>di ⟨z,bh (d4 a) jk⟩) ci)<|dO dj.1) j1
     ·rw[T8 dj];exact u _ _ a<|aQ (cn (df λz=>dj ⟨z,jk⟩) cj) e2
def ZbG(O:Ord n lt)(hn:1<=n):∃p,evT n lt (kas_sort n)=aa p/\Pm n p/\Up lt p n:=by
 obtain⟨k,p,e1,e2,e3,e4,e5⟩:=Za2 O (mH _) hn;unfold kas_sort;rw[XN e1];by_cases c:k<n
 ·rw[T9 c]
  have:max k 1=k:=by omega
  rw[this];exact ZaV O (n-k) e4 e2 (by omega) e5
 ·rw[T8 c]
  have:k=n:=by omega
  exact⟨p,rfl,e4,by rw[<-this];exact e5⟩
end
end Sq
namespace Sq
open PySem PySem.W PyProof.Rows PySem.Calls
section
variable{prog:bq}{w:bC}{A:bL}{E:aq->au->Prop}{s:au}
def Lat(h h':bF):Prop:=∀b o,h.get? b=aa o->h'.get? b=aa o
structure Asks(prog:bq)(w:bC)(A:bL)(h:bF)(vs:List aq)(κ:SortKind)(lt:Nat->Nat->Bool):Prop where
 kind:2<=vs.length->∀(s':au)(E:aq->au->Prop)(Q:SortKind->au->Prop),Lat h s'.heap->Q κ s'->aW (aZ prog w) A (keyKind' vs.toArray) Q E s'
 cmp:∀i j,i<vs.length->j<vs.length->∀(s':au)(C:Bool->au->Prop)(E:aq->au->Prop),Lat h s'.heap->C (lt i j) s'->aW (aZ prog w) A (keyLt' κ (vs.getD i bH)<|vs.getD j bH) C E s'
noncomputable def ltR(b:Bool)(n:Nat)(lt:Nat->Nat->Bool):Nat->Nat->Bool:=λi j=>if b=ah then lt (n-1-i) (n-1-j)else lt i j
def Zcl(O:Ord n lt):Ord n (ltR b n lt):=by
 cases b
 ·exact O
 ·exact⟨λi j hi hj ne h=>O.tot _ _ (by omega) (by omega) (by omega) h,λi j hi hj h=>O.asy _ _ (by omega) (by omega) h,λi j k hi hj hk h1 h2=>O.tr _ _ _ (by omega) (by omega) (by omega) h1 h2⟩
def zb(hi:i<vs.length):(iE b vs).getD i bH=vs.getD (if b=ah then vs.length-1-i else i) bH:=by
 cases b
 ·rfl
 ·show vs.reverse.getD i bH=vs.getD (vs.length-1-i) bH
  simp only[aG];rw[kf hi]
def uh(vs:List aq):(aR vs.length).map (λi=>vs.getD i bH)=vs:=by
 apply lR
 intro i;rw[aX];by_cases h:i<vs.length
 ·rw[gC h];simp[h]
 ·simp[df h]
theorem list_sort_rev{P:PySem.Fin->au->Prop}(ho:s.heap.get? a=aa (gw "list" vs.toArray n))(h64:vs.length<64)
  (h00:∀b o,h0.get? b=aa o->b≠a/\s.heap.get? b=aa o)(O:Ord vs.length lt)(K:Asks prog w A h0 vs κ lt)
  (h:∀p,Pm vs.length p->Up (ltR b vs.length lt) p vs.length->P (.done<|.ret .none) {s with heap:=sortedHeap s.heap a vs (dN<|iE b<|p.toList.map λi=>(iE b vs).getD i bH)}) :
  aW (aZ prog w) A (eF.«list.sort» ⟨[.ref a],[(bc.ofString "reverse",.bool b)]⟩) P E s:=by
 rw[PyProof.Rows.list_sort_rev];have ha:=aJ ho;refine af<|listItems_at ho rfl ?_;refine af<|kW ho rfl ?_;obtain⟨e1,ho1⟩:∃e1,(s.heap.update a<|dQ λ_=>#[]).get? a=aa (gw "list" #[] e1):=⟨_,get?_update_seq ho λ_=>#[]⟩
 refine af<|mB ho1 rfl ?_;refine af<|wpAny_newTuple ?_;refine af<|wpAny_newList ?_;refine bO ?_;have ho6:(((s.heap.update a<|dQ λ_=>#[]).push<|gw "tuple" vs.toArray 0).push<|gw "list" #[] 0).get? a=aa (gw "list" #[] e1):=by
  rw[fK _ _ _<|by rw[size_push',iM];exact bf<|dM ha,fK _ _ _<|by rw[iM];exact bf ha]
  exact ho1
 have lat:Lat h0 (((s.heap.update a<|dQ λ_=>#[]).push<|gw "tuple" vs.toArray 0).push<|gw "list" #[] 0):=λb o e=>by
  obtain⟨nb,e⟩:=h00 b o e;exact ao _<|ao _<|by rw[kM _ _ _ _ nb];exact e
 generalize hs':((s.heap.update a<|dQ λ_=>#[]).push<|gw "tuple" vs.toArray 0).push (gw "list" #[] 0)=h1 at ho6 lat ⊢
 dsimp only
 have step:∀t:mL PySem.Fin,aW (aZ prog w) A t P E {s with heap:=h1}->aW (aZ prog w) A (if b=ah then(do let _ <-nE "list.sort.reverse";t)else t) P E {s with heap:=h1}:=by
  intro t ht;split
  ·exact af<|fu ht
  ·exact ht
 refine step _ ?_;have hrl:=mP b vs;have fin:∀out:List aq,out.length=vs.length->(∃p,Pm vs.length p/\Up (ltR b vs.length lt) p vs.length/\out=p.toList.map λi=>(iE b vs).getD i bH)->
   P (.done<|.ret .none) {s with heap:=h1.update a (dQ λ_=>dN<|iE b out)}:=by
  rintro out _ ⟨p,h1',h2',rfl⟩
  subst hs';exact h p h1' h2'
 by_cases h2:vs.toArray.size<2
 ·rw[T9 h2,T9 h2]
  refine af<|ax ?_;rw[StateT.run_pure];refine af<|ax ?_
  dsimp only
  have hz:((arrOf<|SortSt.mk' general' (if b=ah then(vs.toArray.zip vs.toArray).reverse else vs.toArray.zip vs.toArray) #[] 7 ac).map (·.2))=dN (iE b vs):=by
   rw[kat_pairs b rfl];apply mq.mp;rw[Array.toList_map,ksk_zip];exact List.map_snd_zip<|aB _
  rw[hz];refine af<|mB ho6 rfl ?_;rw[kat_outs];refine af<|kW ho6 rfl ?_ (hsz2:=by rw[aD];(try rw[mP]);(try rw[mP]);rw[cR];omega)
  simp only[bne_self_eq_false,bQ,if_false];refine ax<|fin (iE b vs) (mP b vs) ⟨dN<|aR vs.length,mH _,λi j a1 a2=>by rw[aD]at h2;omega,?_⟩
  rw[<-hrl];exact(uh _).symm
 ·rw[T8 h2,T8 h2]
  have l2:2<=vs.length:=by rw[aD]at h2;omega
  refine af<|K.kind l2 _ _ _ lat ?_;rw[kat_pairs b rfl];obtain⟨p,e1,e2,e3⟩:=ZbG (Zcl (b:=b) O) (by omega)
  refine af (cB (kat_run (G:=λp' s'=>s'={s with heap:=h1}/\p'=p) (Q:=λst' s'=>s'={s with heap:=h1}/\failedOf st'=ac/\(arrOf st').map (·.2)=dN (p.toList.map λi=>(iE b vs).getD i bH)) rfl (by rw[hrl];exact l2) (by rw[hrl];exact h64)
   (λp' st' s' a1 a2 a3 a4=>⟨a4.1,a3,by rw[kat_snds rfl a2,a4.2]⟩) (by
    rw[hrl];refine qA (λi j hi hj C hC=>?_) e1 ⟨rfl,rfl⟩
    unfold kas_ask;rw[zb hi,zb hj];cases b
    ·exact K.cmp i j hi hj _ _ _ lat hC
    ·exact K.cmp _ _ (by simp only[if_true];omega) (by simp only[if_true];omega) _ _ _ lat hC)) ?_ λ_ _ x=>x)
  rintro ⟨⟨⟩,st'⟩ s' ⟨rfl,hf,har⟩
  dsimp only
  rw[har];have hl:(p.toList.map λi=>(iE b vs).getD i bH).length=vs.length:=by rw[aF,cV,e2.size]
  refine af<|mB ho6 rfl ?_;rw[kat_outs];refine af<|kW ho6 rfl ?_ (hsz2:=by rw[aD];(try rw[mP]);rw[hl,cR];omega)
  rw[hf];simp only[bne_self_eq_false,bQ,if_false];exact ax<|fin _ hl ⟨p,e2,e3,rfl⟩
def yN{Q:aq->au->Prop}(hl:s.heap.IsList l vs.toArray)(h64:vs.length<64)(O:Ord vs.length lt)(K:Asks prog w A.in1.in1 s.heap vs κ lt)
  (h:∀p,Pm vs.length p->Up (ltR b vs.length lt) p vs.length->Q (.ref<|s.heap.objs.size+1) {s with heap:=sortedAll s.heap vs (dN<|iE b<|p.toList.map λi=>(iE b vs).getD i bH)}) :
  aW (aZ prog w) A (call (.builtin "sorted") [.ref l] [(bc.ofString "reverse",.bool b)]) Q E s:=by
 refine call_function_entry_kw kind_sorted plain_sorted entry_sorted (args_sorted_rev _ _) ?_;unfold eF.«sorted»;refine af<|ax ?_;refine af<|collect_list hl ?_;refine af<|wpAny_newList ?_;have hsz:((s.heap.push<|gw "list" #[] 0).update s.heap.objs.size (dQ (·++vs.toArray))).objs.size=s.heap.objs.size+1:=by
  rw[iM,size_push']
 have hoL:(((s.heap.push<|gw "list" #[] 0).update s.heap.objs.size (dQ (·++vs.toArray))).push<|gw "list" vs.toArray 0).get? (s.heap.objs.size+1)=aa (gw "list" vs.toArray 0):=by
  rw[<-hsz];exact aM _ rfl
 rw[hsz];refine af<|bO<|wpAny_call_entry_kw slot_list_sort ⟨_,hoL,rfl⟩ entry_list_sort (list_sort_rev hoL h64 (λb o e=>?_) O K  λp a1 a2=>⟨_,rfl,?_⟩)<|args_list_sort_rev _ _
 ·have hlt:=aJ e
  refine⟨bf<|dM hlt,?_⟩;rw[fK _ _ _<|by rw[hsz];exact bf<|dM hlt,kM _ _ _ _<|bf hlt,fK _ _ _<|bf hlt]
  exact e
 ·exact ax ⟨_,rfl,h p a1 a2⟩
end
end Sq
namespace Sd
open PySem PySem.Spec PyProof.Rows L2
open Ev (D Ob Zc Lc R E Sm Calls Walk Fl Fn Bop Cop Ty Bf Mf ev evs evo evt evw tst run runs)
section
variable{X:Cx}{pq:List (aw×dB)}{σ:L2.St}{H:Hp}{s:au}{A:bL}{E:aq->au->Prop}{b:Bool}{Q:aq->au->Prop}
def yD(I:Inv X pq σ H s)(rx:Zz x u)(ty:TyOf X.K H x t)(htp:s.heap.get? tp=aa ⟨.type "tuple",dd,.seq its.toArray n,sl⟩)
  (e:eQ X.K t its=aa b)(h:∀tk,Q (.bool b) {s with toks:=tk}):aW (aZ X.prog X.w) A (call (.builtin "isinstance") [u,.ref tp]) Q E s:=by
 cases ty with
 |non=>cases(rx);exact cH lB I.kIn aA htp e (λz=>nomatch z) h
 |bl y=>cases(rx);exact cH lC I.kIn aA htp e (λz=>nomatch z) h
 |int i=>obtain⟨t,q⟩:=(rx);cases q;exact cH l6 I.kIn aA htp e (λz=>nomatch z) h
 |str y=>obtain⟨t,q⟩:=(rx);cases q;exact cH l7 I.kIn aA htp e (λz=>nomatch z) h
 |@lst a xs ea=>
  cases(rx);obtain⟨_,_,n,_,h1⟩:=(I.hok a _ ea)
  exact cH fC I.kIn ⟨_,h1,rfl⟩ htp e (λz=>nomatch z) h
 |@frz a ob xs ea=>
  cases(rx);obtain⟨_,_,_,n,_,h1⟩:=(I.hok a _ ea)
  exact cH fC I.kIn ⟨_,h1,rfl⟩ htp e (λz=>nomatch z) h
 |@tup a xs ea=>
  cases(rx);obtain⟨_,_,_,p⟩:=(I.hok a _ ea)
  obtain⟨o,h1,h2,_⟩:=p;exact cH k9 I.kIn ⟨o,h1,h2⟩ htp e (λz=>nomatch z) h
 |@dK a kvs ea=>
  cases(rx);obtain⟨_,_,vs,_,p⟩:=(I.hok a _ ea)
  obtain⟨o,es,ep,h1,h2,_⟩:=p;exact cH fD I.kIn ⟨o,h1,h2.1⟩ htp e (λz=>nomatch z) h
 |@dT a kvs ea=>
  cases(rx);obtain⟨_,_,xs,_,o,es,ep,h1,h2,_⟩:=(I.hok a _ ea)
  exact cH fD I.kIn ⟨o,h1,h2.1⟩ htp e (λz=>nomatch z) h
end
section
variable{X:Cx}{xw:Nat->Hp->Prop}{C:Calls}{e a b c:Expr}{i j k:E}{pos p p' p2 p3:d8}
def uX(T U:String):ZK X (.builtin "isinstance") (λvs H Q=>∃v tv n q,vs=[v,.ref q]/\H q=aa (.tup [.ty T,.ty U])/\TyOf X.K H v tv/\eQ X.K tv [.type T,.type U]=aa n/\Q (.bl n) H):=by
 intro pq s σ H vs us Q I r h;obtain⟨v,tv,n,q,rfl,hq,ty,e,qq⟩:=h;obtain⟨u,w',rfl,r1,r2⟩:=zO r;cases r2;obtain⟨its,rv,⟨o,ho,hc,m,hd⟩,_⟩:=I.tuple<|SqT.of hq;obtain⟨cls,dd,data,sl⟩:=o;simp only at hc hd;subst hc hd;obtain⟨z1,z2,rfl,q1,q2⟩:=zO rv;cases q1;cases q2;exact yD I r1 ty ho e λtk=>⟨.bl n,H,I.tok tk,rfl,qq⟩
def TyOf.later{K:aj}{H:Hp}{v:V}{tv:aq}{q:aw}{o:HO}(h:TyOf K H v tv)(hq:H q=ac):TyOf K (upd H q o) v tv:=by
 cases h with|non=>exact .non|bl b=>exact .bl b|int b=>exact .int b|str b=>exact .str b|lst e=>exact .lst (by rw[Zn<|ZB e hq];exact e)|frz e=>exact .frz (by rw[Zn<|ZB e hq];exact e)|tup e=>exact .tup (by rw[Zn<|ZB e hq];exact e)|dK e=>exact .dK (by rw[Zn<|ZB e hq];exact e)|dT e=>exact .dT (by rw[Zn<|ZB e hq];exact e)
def TyOf.uniq{K:aj}{H:Hp}{v:V}{t1 t2:aq}(h1:TyOf K H v t1)(h2:TyOf K H v t2):t1=t2:=by
 cases h1<;>cases h2<;>first|rfl|simp_all
def J6{T U:bc}{t u:Ty}{k0:Nat}{p4:d8}(ht:∀m,t≠.cls m)(hu:∀m,u≠.cls m)(hm:X.mg "isinstance" = ac)(hmT:X.mg T=ac)(hmU:X.mg U=ac)(ha:CE X xw C a i)(hg:Gl X "isinstance":=by rfl)(hgT:Gl X T:=by rfl)(hgU:Gl X U:=by rfl)(hvT:cQ T=aa (.type<|ZW t):=by rfl)(hvU:cQ U=aa (.type<|ZW u):=by rfl)(hnT:T≠"__name__":=by decide)(hdT:(T == ("__debug__" : bc))=ai:=by decide)(hnU:U≠"__name__":=by decide)(hdU:(U == ("__debug__" : bc))=ai:=by decide)
  (hs0:aC [.Name T p2,.Name U p3] X.env=(ai,cb (.Name T p2) X.env)::aC [.Name U p3] X.env:=by rfl)(hs00:aC [.Name U p3] X.env=(ai,cb (.Name U p3) X.env)::aC [] X.env:=by rfl)
  (hs1:aC [a,.Tuple [.Name T p2,.Name U p3] k0 p4] X.env=(ai,cb a X.env)::aC [.Tuple [.Name T p2,.Name U p3] k0 p4] X.env:=by rfl)(hs2:aC [.Tuple [.Name T p2,.Name U p3] k0 p4] X.env=(ai,cb (.Tuple [.Name T p2,.Name U p3] k0 p4) X.env)::aC [] X.env:=by rfl)(hpl:(cX pos<|aC [.Tuple [.Name T p2,.Name U p3] k0 p4] X.env).any (·.1)=ai:=by rfl) :
  CE X xw C (.Call (.Name "isinstance" p) [a,.Tuple [.Name T p2,.Name U p3] k0 p4] [] pos) (.isi i [t,u]):=
 PE.imp (Wx (uX (ZW t)<|ZW u) hg hm (by rfl) (ZF ha (ZF (Zax<|ZF (UE (v:=.ty<|ZW t) hgT hmT hvT rfl hnT hdT) (ZF (UE (v:=.ty<|ZW u) hgU hmU hvU rfl hnU hdU) Yt hs00) hs0) Yt hs2) hs1) (by decide) (by decide) hs1 hpl) λσ H Q ⟨ρ,l,S,st,lr,h⟩=>by
  refine⟨ρ,l,S,st,lr,End.bind (h) λx S1 ρ1 H1 v f1 st1 r1 h1=>⟨by show 2<=aY;rw[cR];omega,λq hq=>?_⟩⟩
  obtain⟨n,hn,h2⟩:=End.ob h1;have st2:=st1.fresh (o:=.tup [.ty<|ZW t,.ty<|ZW u]) hq;have f2:=ZR (ρ:=ρ1) (o:=.tup [.ty<|ZW t,.ty<|ZW u]) hq;have fin:=λtv ty e=>(⟨v,tv,n,q,rfl,Zr,TyOf.later ty hq,e,h2 ρ1 _ _ f2 st2<|ZC n⟩:∃v' tv n q',[v,V.ref q]=[v',.ref q']/\upd H1 q (.tup [.ty<|ZW t,.ty<|ZW u]) q'=aa (.tup [.ty<|ZW t,.ty<|ZW u])/\TyOf X.K (upd H1 q<|.tup [.ty<|ZW t,.ty<|ZW u]) v' tv/\eQ X.K tv [.type<|ZW t,.type<|ZW u]=aa n/\Q (.bl n) (upd H1 q<|.tup [.ty<|ZW t,.ty<|ZW u]))
  unfold Ev.QI at hn;cases q1:Ev.zc S1 x t with
  |none=>rw[q1]at hn;cases hn
  |some m=>
   rw[q1]at hn;obtain⟨tv,ty,e⟩:=xa st1 r1 ht q1;cases m with
   |true=>
    have hn':=(ak hn).symm;exact fin tv ty (by unfold eQ;rw[e,hn'])
   |false=>
    have hn1:(match Ev.zc S1 x u with
     |some ah=>aa ah
     |some ai=>Ev.QI S1 x []
     |none=>ac)=aa n:=hn
    cases q2:Ev.zc S1 x u with
    |none=>rw[q2]at hn1;cases hn1
    |some m2=>
     rw[q2]at hn1;obtain⟨tv2,ty2,e2⟩:=xa st1 r1 hu q2;have et:=TyOf.uniq ty2 ty;subst et;refine fin tv2 ty ?_;unfold eQ;rw[e];unfold eQ;rw[e2];cases m2 with|true=>exact hn1|false=>exact hn1
end
end Sd
namespace Sd
open Ev (ltI VU Z5)
theorem GT:∀{x y:List Int},x≠y->ltI x y=ai->ltI y x=ah
 |[],[],h,_=>T7 rfl h
 |[],_::_,_,h=>by cases h
 |_::_,[],_,_=>rfl
 |a::x,b::y,h,e=>by
  unfold ltI at e ⊢;by_cases c:a=b
  ·subst c
   rw[T9 rfl]at e ⊢;exact GT (λz=>h<|by rw[z]) e
  ·grind
theorem UB:∀{x y:List Int},ltI x y=ah->ltI y x=ai
 |[],[],h=>by cases h
 |[],_::_,_=>rfl
 |_::_,[],h=>by cases h
 |a::x,b::y,e=>by
  unfold ltI at e ⊢;by_cases c:a=b
  ·subst c
   rw[T9 rfl]at e ⊢;exact UB e
  ·grind
theorem yV:∀{x y z:List Int},ltI x y=ah->ltI y z=ah->ltI x z=ah
 |[],[],_,h,_=>by cases h
 |_::_,[],_,h,_=>by cases h
 |_,_::_,[],_,h=>by cases h
 |[],_::_,_::_,_,_=>rfl
 |a::x,b::y,c::z,e,f=>by
  unfold ltI at e f ⊢;by_cases h1:a=b
  ·subst h1
   rw[T9 rfl]at e;by_cases h2:a=c
   ·subst h2
    rw[T9 rfl]at f ⊢;exact yV e f
   ·grind
  ·grind
theorem VM(x:List Int):∀l:List (List Int),(VU x l).Perm (x::l)
 |[]=>dZ _
 |y::r=>by
  unfold VU;split
  ·grind
  ·exact((VM x r).cons y).trans<|kC x y r
theorem Y2:∀l:List (List Int),(Z5 l).Perm l
 |[]=>dZ _
 |x::r=>(VM x<|Z5 r).trans<|(Y2 r).cons x
theorem Uq(x:List Int):∀{l:List (List Int)},(∀y∈l,x≠y)->l.Pairwise (λa b=>ltI a b=ah)->(VU x l).Pairwise (λa b=>ltI a b=ah)
 |[],_,_=>by exact iN ..
 |y::r,hn,h=>by
  rw[bg]at h;unfold VU;split
  ·rename_i c
   rw[bg,bg];refine⟨λz hz=>?_,h⟩
   rcases az.mp hz with rfl|hz
   ·exact c
   ·exact yV c<|h.1 z hz
  ·rename_i c
   rw[bg];refine⟨λz hz=>?_,Uq x (λy hy=>hn y<|al _ hy) h.2⟩
   rcases az.mp ((VM x r).mem_iff.mp hz)with rfl|hz
   ·exact GT (hn y<|am ..) (by simpa using c)
   ·exact h.1 z hz
theorem X2:∀{l:List (List Int)},l.Nodup->(Z5 l).Pairwise (λa b=>ltI a b=ah)
 |[],_=>im
 |x::r,h=>by
  rw[cp]at h;exact Uq x (λy hy e=>h.1<|by rw[e];exact(Y2 r).mem_iff.mp hy)<|X2 h.2
theorem Wy:∀{a b:List (List Int)},a.Perm b->a.Pairwise (λx y=>ltI x y=ah)->b.Pairwise (λx y=>ltI x y=ah)->a=b
 |[],b,p,_,_=>(List.Perm.nil_eq p)
 |x::a,[],p,_,_=>by have:=p.length_eq;simp at this
 |x::a,y::b,p,ha,hb=>by
  rw[bg]at ha hb;have e:x=y:=by
   rcases az.mp (p.mem_iff.mp<|am ..)with h|h
   ·exact h
   ·rcases az.mp (p.mem_iff.mpr (am))with h2|h2
    ·exact h2.symm
    ·have z1:=hb.1 x h
     have z2:=ha.1 y h2;rw[UB z1]at z2;cases z2
  subst e;rw[Wy (List.perm_cons x |>.mp p) ha.2 hb.2]
end Sd
namespace Sd
open PySem PySem.Spec PyProof.Rows L2
open Ev (D Ob Zc Lc R E Sm Calls Walk Fl Fn Bop Cop Ty Bf Mf ev evs evo evt evw tst run runs ltI VU Z5 YH Ut Wl Y7)
noncomputable def xg(fin:Bool):List Int->List Int->Bool
 |[],_=>fin
 |_::_,[]=>fin
 |a::x,b::y=>if a=b then xg fin x y else ae (a<b)
theorem wg:∀(x y:List Int),xg (ae<|x.length<y.length) x y=ltI x y
 |[],[]=>rfl
 |[],_::_=>by unfold xg ltI;simp
 |_::_,[]=>by unfold xg ltI;simp
 |a::x,b::y=>by
  unfold xg ltI;have:ae ((a::x).length<(b::y).length)=ae (x.length<y.length):=by simp
  rw[this,wg x y]
section
variable{prog:bq}{w:bC}{A:bL}{s:au}
theorem zh{C:Bool->au->Prop}:∀{x y:List Int}{u v:List aq}{i:Nat},Vals (x.map V.int) u->Vals (y.map V.int) v->C (xg fin x y) s->PySem.W.KatLex prog w A b fin C (u.zip v) i s
 |[],_,_,_,_,.nil,_,h=>by rw[lS];exact mI h
 |_::_,[],_,_,_,_,.nil,h=>by rw[ls];exact mI h
 |a::x,c::y,_,_,i,.cons ra ta,.cons rb tb,h=>by
  obtain⟨t,rfl⟩:=ra;obtain⟨t',rfl⟩:=rb;rw[cP];refine PySem.W.kat_cons<|wpAny_eqBool_int ?_;unfold xg at h;by_cases e:a=c
  ·rw[T9 e]at h
   rw[beq_iff_eq.mpr e];exact PySem.W.kat_yes<|zh ta tb h
  ·rw[T8 e]at h
   rw[beq_eq_false_iff_ne.mpr e];refine PySem.W.kat_no ?_;cases q:(b&&i == 0)with|true=>exact oneLt_int h|false=>exact PySem.W.kat_one _ _<|lt_int h
end
section
variable{X:Cx}{pq:List (aw×dB)}{σ:L2.St}{H:Hp}{s:au}{ρ:List aw}
inductive RowsAt(h:bF):List (List Int)->List aq->Prop where
 |nil:RowsAt h [] []
 |cons {r:List Int} {rs:List (List Int)} {vs:List aq} {a:aw} {o:dB} {us:List aq} {m:Nat} (ho:h.get? a=aa o) (hc:o.cls=.type "tuple") (hd:o.data=.seq us.toArray m) (hv:Vals (r.map V.int) us) (t:RowsAt h rs vs):RowsAt h (r::rs) (.ref a::vs)
theorem UP:∀{ks:List D}{k:List Int},Ev.YD ks=aa k->ks=k.map D.int
 |[],k,h=>by cases h;rfl
 |.int n::ks,k,h=>by
  have h':(Ev.YD ks).map (n :: ·)=aa k:=h
  cases q:Ev.YD ks with
  |none=>rw[q]at h';cases h'
  |some k'=>
   rw[q]at h';have e:=ak h';rw[<-e,UP q];rfl
 |.non::_,_,h|.bl _::_,_,h|.str _::_,_,h|.tup _::_,_,h|.loc _::_,_,h=>by cases h
def qw(h:Ut d=aa r):d=Wl r:=by
 cases d with|tup ks=>exact congrArg D.tup<|UP h|_=>cases h
theorem Rq.intsV:∀{r:List Int}{xs:List V},Rq ρ H (r.map D.int) xs->xs=r.map V.int
 |[],xs,h=>by exact h
 |n::r,xs,h=>by
  have h':=h;obtain⟨v,vs,rfl,a,b⟩:=h';rw[a.int',Rq.intsV b];rfl
theorem vi(I:Inv X pq σ H s):∀{ds:List D}{rs:List (List Int)}{xs:List V}{its:List aq},YH ds=aa rs->Rq ρ H ds xs->Vals xs its->RowsAt s.heap rs its/\ds=rs.map Wl
 |[],rs,xs,its,h,r,v=>by
  subst r;cases v;cases h;exact⟨.nil,rfl⟩
 |d::ds,rs,xs,its,h,r,v=>by
  obtain⟨x,xs',rfl,r1,r2⟩:=r;cases v with
  |cons v1 v2=>
   unfold YH at h;cases q1:Ut d with
   |none=>rw[q1]at h;cases h
   |some a=>
    cases q2:YH ds with
    |none=>rw[q1,q2]at h;cases h
    |some b=>
     rw[q1,q2]at h;cases h;obtain⟨t,e⟩:=vi I q2 r2 v2;have ed:=qw q1;subst ed;obtain⟨p,ys,rfl,hp,ry⟩:=r1.tup';have ey:=Rq.intsV ry;subst ey;cases v1;obtain⟨us,rv,⟨o,ho,hc,m,hd⟩,_⟩:=I.tuple<|SqT.of hp;exact⟨.cons ho hc hd rv t,by rw[e];rfl⟩
theorem RowsAt.length{h:bF}:∀{rs:List (List Int)}{vs:List aq},RowsAt h rs vs->rs.length=vs.length
 |_,_,.nil=>rfl
 |_,_,.cons _ _ _ _ t=>by rw[aP,aP,RowsAt.length t]
theorem RowsAt.at{h:bF}:∀{rs:List (List Int)}{vs:List aq}(i:Nat),RowsAt h rs vs->i<vs.length->∃a o us m,vs.getD i bH=.ref a/\h.get? a=aa o/\o.data=.seq us.toArray m/\Vals ((rs.getD i []).map V.int) us
 |_,_,_,.nil,hi=>by simp at hi
 |_,_,0,.cons ho hc hd hv t,_=>⟨_,_,_,_,rfl,ho,hd,hv⟩
 |_,_,i+1,.cons ho hc hd hv t,hi=>by
  obtain⟨a,o,us,m,e1,e2,e3,e4⟩:=RowsAt.at i t (by simpa using hi)
  exact⟨a,o,us,m,by simpa using e1,e2,e3,by simpa using e4⟩
theorem RowsAt.tups(k:Sq.Lat h h'):∀{rs:List (List Int)}{vs:List aq},RowsAt h rs vs->(∀r∈rs,r≠[])->∃fs,PySem.W.KatTups h' vs fs/\fs.length=vs.length/\∀v∈fs,∃n t,v=kG n t
 |_,_,.nil,_=>⟨[],.nil,rfl,λv hv=>by cases hv⟩
 |_,_,.cons (r:=r) ho hc hd hv t,hn=>by
  obtain⟨fs,t1,t2,t3⟩:=RowsAt.tups k t λr hr=>hn r<|al _ hr
  have hr:=hn r<|am ..;cases r with
  |nil=>exact T7 rfl hr
  |cons n r=>
   obtain⟨u,g,rel⟩:=hv.get (i:=0) rfl;refine⟨u::fs,.cons (k _ _ ho) hc hd (by simpa using g) t1,by rw[aP,aP,t2],λv hv=>?_⟩
   rcases az.mp hv with rfl|hv
   ·obtain⟨tk,e⟩:=rel
    exact⟨n,tk,e⟩
   ·exact t3 v hv
def u8(R:RowsAt h rs vs)(hn:∀r∈rs,r≠[]):Sq.Asks prog w A h vs (tuples' ah) (λi j=>ltI (rs.getD i [])<|rs.getD j []):=by
 refine⟨λh2 s' E Q k q=>?_,λi j hi hj s' C E k q=>?_⟩
 ·obtain⟨fs,t1,t2,t3⟩:=R.tups k hn
  exact PySem.W.kat_kind (T:=.type "int") t1 (by omega) (λv hv=>by obtain⟨n,t,rfl⟩:=t3 v hv;exact PySem.W.Looks.of_pure rfl) rfl q
 ·obtain⟨a,o,us,m,e1,e2,e3,e4⟩:=R.at i hi
  obtain⟨a',o',us',m',f1,f2,f3,f4⟩:=R.at j hj;rw[e1,f1];refine PySem.W.kat_lt (k _ _ e2) e3 (k _ _ f2) f3<|zh e4 f4 ?_;have l1:us.toArray.size=(rs.getD i []).length:=by rw[aD,<-e4.length,aF]
  have l2:us'.toArray.size=(rs.getD j []).length:=by rw[aD,<-f4.length,aF]
  rw[l1,l2,wg];exact q
def ZaD{rs:List (List Int)}{n:Nat}(hn:rs.Nodup)(hl:rs.length=n):Sq.Ord n (λi j=>ltI (rs.getD i [])<|rs.getD j []):=by
 have hd:∀i j,i<n->j<n->i≠j->rs.getD i []≠rs.getD j []:=λi j hi hj ne e=>by
  simp only[aG]at e;have hi':i<rs.length:=by omega
  have hj':j<rs.length:=by omega
  refine ne<|(lO hi' hn).mp ?_;rw[ag hi',ag hj']at e ⊢;exact congrArg aa e
 exact⟨λi j hi hj ne e=>GT (hd i j hi hj ne) e,λi j _ _ e=>UB e,λi j k _ _ _ e f=>yV e f⟩
def QH{α β:Type}(b:Bool)(f:α->β)(l:List α):bx b (l.map f)=(bx b l).map f:=by
 cases b
 ·rfl
 ·exact mr.symm
def yf{α:Type}(b:Bool)(l:List α):(bx b l).Perm l:=by
 cases b
 ·exact dZ _
 ·exact iy l
def Um{α:Type}{d:α}{b:Bool}{vs:List α}{i:Nat}(hi:i<vs.length):(bx b vs).getD i d=vs.getD (if b=ah then vs.length-1-i else i) d:=by
 cases b
 ·rfl
 ·show vs.reverse.getD i d=vs.getD (vs.length-1-i) d
  simp only[aG];rw[kf hi]
def Zaa{rs:List (List Int)}{b:Bool}{p:Array Nat}(hn:rs.Nodup)(h1:Sq.Pm rs.length p)(h2:Sq.Up (Sq.ltR b rs.length λi j=>ltI (rs.getD i [])<|rs.getD j []) p rs.length) :
  (p.toList.map λi=>(bx b rs).getD i [])=Z5 rs:=by
 have hp:p.toList.Perm (aR rs.length):=by simpa using dw.mp h1
 have hl:p.toList.length=rs.length:=by rw[hp.length_eq,bW]
 refine Wy ?_ ?_<|X2 hn
 ·refine((hp.map _).trans ?_).trans (Y2 rs).symm
  have e:(aR rs.length).map (λi=>(bx b rs).getD i [])=bx b rs:=by
   apply lR
   intro i;rw[aX];by_cases h:i<rs.length
   ·have:i<(bx b rs).length:=by rw[fq];exact h
    rw[gC h];simp[this]
   ·have:(bx b rs).length<=i:=by rw[fq];omega
    simp[df h,this]
  rw[e];exact yf b rs
 ·rw[cU,h8]
  intro i j hi hj hij;have g1:p.toList[i]=Sq.g p i:=by
   have:=Sq.ZaT (by simpa using hi)
   rw[<-cL,ag hi]at this;exact ak this
  have g2:p.toList[j]=Sq.g p j:=by
   have:=Sq.ZaT (by simpa using hj)
   rw[<-cL,ag hj]at this;exact ak this
  rw[g1,g2,Um<|h1.lt<|by omega,Um<|h1.lt<|by omega]
  have:=h2 i j hij (by omega)
  cases b
  ·exact this
  ·exact this
def jY{F:List Nat}{xs:List V}{rs:List (List Int)}(h:Rq ρ H (rs.map Wl) xs)(hF:∀i∈F,i<rs.length):Rq ρ H ((F.map λi=>rs.getD i []).map Wl) (F.map λi=>xs.getD i V.non):=by
 induction F with
 |nil=>exact Rq.nil
 |cons i F ih=>
  refine Rq.cons ?_<|ih λj hj=>hF j<|al _ hj
  have hi:=hF i<|am ..;obtain⟨v,g,r⟩:=h.get (by rw[aX,ag hi];rfl)
  show Rep ρ H (Wl<|rs.getD i []) (xs.getD i V.non);rw[aG,aG,g,ag hi];exact r
def Zbg{F:List Nat}{xs:List V}{us:List aq}(h:Vals xs us)(hF:∀i∈F,i<xs.length):Vals (F.map λi=>xs.getD i V.non) (F.map λi=>us.getD i bH):=by
 induction F with
 |nil=>exact .nil
 |cons i F ih=>
  refine .cons ?_<|ih λj hj=>hF j<|al _ hj
  have hi:=hF i<|am ..;obtain⟨u,g,r⟩:=h.get<|ag hi;show Zz (xs.getD i V.non) (us.getD i bH);rw[aG,aG,g,ag hi];exact r
def yc(h:Rq ρ H ds xs):Rq ρ H (bx b ds) (bx b xs):=by
 cases b
 ·exact h
 ·exact h.reverse
def zt :∀{xs:List V}{us:List aq},Vals xs us->Vals (bx b xs) (bx b us):=by
 cases b
 ·exact λh=>h
 ·have snoc:∀{xs:List V}{us:List aq}{x:V}{u:aq},Vals xs us->Zz x u->Vals (xs++[x]) (us++[u]):=by
   intro xs us x u h r
   induction h with|nil=>exact .cons r .nil|cons a _ ih=>exact .cons a ih
  intro xs us h;show Vals xs.reverse us.reverse
  induction h with|nil=>exact .nil|cons r t ih=>rw[cD,cD];exact snoc ih r
end
section
variable{X:Cx}{xw:Nat->Hp->Prop}{C:Calls}{e a b c:Expr}{i j k:E}{pos p p' p2 p3:d8}
def Zdg(K:aj)(xw:Nat->Hp->Prop)(b:Bool):List V->Hp->VK->Prop:=λvs H Q=>∃ρ S n,St3 K ρ S H/\Rq ρ H [.loc n] vs/\End K xw Rep ρ H Q (Ev.sorted b n S)
def uP{pq:List (aw×dB)}{s:au}{σ:L2.St}{H:Hp}{vs:List V}{us:List aq}{Q:VK}{b:Bool}(I:Inv X pq σ H s)(r:Vals vs us)(h:Zdg X.K xw b vs H Q) :
  ∃(l:aw)(its:List aq)(rs:List (List Int)),us=[.ref l]/\s.heap.IsList l its.toArray/\its.length<64/\rs.length=its.length/\Sq.Ord its.length (λi j=>ltI (rs.getD i [])<|rs.getD j [])/\(∀A,Sq.Asks X.prog X.w A s.heap its (tuples' ah) λi j=>ltI (rs.getD i [])<|rs.getD j [])/\
   ∀p,Sq.Pm its.length p->Sq.Up (Sq.ltR b its.length λi j=>ltI (rs.getD i [])<|rs.getD j []) p its.length->
    EP X pq σ Q (.ref<|s.heap.objs.size+1) {s with heap:=sortedAll s.heap its (dN<|bx b<|p.toList.map λi=>(bx b its).getD i bH)}:=by
 obtain⟨ρ,S,n,st,rs,h⟩:=h;obtain⟨ds,hl,h1⟩:=End.ob (h)
 obtain⟨rws,hrw,h2⟩:=End.ob h1;obtain⟨hok,h3⟩:=h2.guard;obtain⟨v,rfl,r1⟩:=YM rs;obtain⟨_,l,xs,q1,hx,rx⟩:=st.lst hl;obtain⟨l',rfl,t⟩:=r1.loc';rw[q1]at t;cases t;obtain⟨u,rfl,ru⟩:=WO r;cases ru;obtain⟨its,rv,pl,hz⟩:=I.list<|SqL.of hx;obtain⟨RA,ed⟩:=vi I hrw rx rv;obtain⟨hok1,hok3⟩:=(aE _ _).mp hok;obtain⟨hok1,hok2⟩:=(aE _ _).mp hok1;have h64:=T6 hok1;have hnd:=T6 hok2;have hne:∀r∈rws,r≠[]:=λr hr e=>by
  have:=aV.mp hok3 r hr;rw[e]at this;cases this
 have hlen:=RA.length;refine⟨l,its,rws,rfl,pl.isList,by omega,hlen,ZaD hnd hlen,λA=>u8 RA hne,λp hp hu=>?_⟩
 rw[<-hlen]at hp hu;have out:=Zaa hnd hp hu;have hmem:∀i∈p.toList,i<rws.length:=λi hi=>by
  have hp':p.toList.Perm (aR rws.length):=by simpa using dw.mp hp
  exact bw.mp<|hp'.mem_iff.mp hi
 subst ed;have xl:xs.length=rws.length:=by rw[rx.length,aF]
 have rx1:Rq ρ H ((bx b rws).map Wl) (bx b xs):=by rw[<-QH];exact yc rx
 have rx2:=jY rx1 (by rw[fq];exact hmem)
 rw[out]at rx2;have rx3:=yc (b:=b) rx2;have rv2:=zt (b:=b)<|Zbg (zt (b:=b) rv)<|by rw[fq,xl];exact hmem
 have eb:(if b=ah then(Z5 rws).reverse else Z5 rws)=bx b (Z5 rws):=rfl
 rw[eb,<-QH]at h3;obtain⟨ep,he⟩:=sortedAll_at s.heap its<|dN<|bx b<|p.toList.map λi=>(bx b its).getD i bH
 refine⟨.ref<|s.heap.objs.size+1,_,I.laid (t':=s.toks) (λb ob q=>sortedAll_old q) (Nat.le_succ _) ?_,rfl,h3.newL st rx3 _<|I.hok.fresh<|Nat.le_succ _⟩
 refine⟨?_,_,ep,rv2,he⟩;rw[fq,aF,cV,hp.size,cR];omega
def ZbA:∀(as:List D)(S:Zc),(∃n,as=[.loc n])\/Ev.Y9 .sortedR as S=.no
 |[.loc n],_=>.inl ⟨n,rfl⟩
 |x::_::_,_=>.inr (by cases x<;>rfl)
 |[],_|[.non],_|[.str _],_|[.bl _],_|[.int _],_|[.tup _],_=>.inr rfl
def W5{kp kp2:d8}{q0}(hm:X.mg "sorted" = ac)(ha:CA X xw C [e] [i])(hg:Gl X "sorted":=by rfl)
  (he:cX pos (aC [e] X.env)=(ai,cb e X.env)::cX pos (aC [] X.env):=by rfl)(hpl:(cX pos<|aC [e] X.env).any (·.1)=ai:=by rfl) :
  CE X xw C (.Call (.Name "sorted" p) [e] [⟨aa "reverse",.Constant (.bool ah) q0 kp,kp2⟩] pos) (.blt .sortedR [i]):=by
 intro pq s σ H Q I hq;obtain⟨ρ,l,S,st,lr,h⟩:=hq;refine dm<|WY I hg hm (rfl) ?_ (by decide)<|by decide
 refine callWith_kw (thn (ha pos pq s σ H (λvs H1=>Zdg X.K xw ah vs H1 Q) I ?_) λus s1 ⟨vs,H1,I1,r1,q1⟩=>?_) he hpl rfl rfl
 ·refine⟨ρ,l,S,st,lr,End.bind (h) λxs S1 ρ1 H1 vs f1 st1 r1 h1=>?_⟩
  rcases ZbA xs S1 with⟨n,rfl⟩|e
  ·exact⟨ρ1,S1,n,st1,r1,h1⟩
  ·exact(e▸h1).elim
 ·refine kws_cons (thn (vn pq s1 σ H1 (λv H2=>v=.bl ah/\H2=H1) I1 ⟨rfl,rfl⟩) λu s2 ⟨x,H2,I2,r2,e1,e2⟩=>kws_nil ?_)
  subst e1 e2;cases r2;obtain⟨l,its,rs,rfl,h1,h2,h3,h4,h5,h6⟩:=uP I2 r1 q1;exact Sq.yN h1 h2 h4 (h5 _) λp a b=>h6 p a b
end
end Sd
namespace Sd
open PySem PySem.Spec PyProof.Rows L2
open Ev (ltI)
open PySem.SeqAt PySem.MeetsSeq PySem.MeetsSeq2 PySem.MeetsSeq3 PySem.SeqRoads2
open PySem.AutoSeq1 (wpAny_loadPart')
end Sd
namespace Sd
open Ev (ltI ltP ZbT zA)
end Sd
namespace Sd
open PySem PySem.Spec PyProof.Rows L2
open Ev (ltI ltP)
def ZfH(h:bF)(r:List Int)(v:aq):Prop:=∃a o us m,v=.ref a/\h.get? a=aa o/\o.cls=.type "tuple"/\o.data=.seq us.toArray m/\Vals (r.map V.int) us
inductive RowsIn(h:bF):List (List Int)->List aq->Prop where
 |nil:RowsIn h [] []
 |cons {r:List Int} {rs:List (List Int)} {v:aq} {vs:List aq} (a:ZfH h r v) (t:RowsIn h rs vs):RowsIn h (r::rs) (v::vs)
theorem RowsIn.length :∀{rs:List (List Int)}{vs:List aq},RowsIn h rs vs->rs.length=vs.length
 |_,_,.nil=>rfl
 |_,_,.cons _ t=>by rw[aP,aP,RowsIn.length t]
end Sd
namespace Sd
open PySem PySem.Spec PyProof.Rows L2
open Ev (D ltI ltP ZbT zA ZdB qU Ge YH Ut Wl)
section
variable{X:Cx}{pq:List (aw×dB)}{σ:L2.St}{H:Hp}{s:au}{ρ:List aw}
theorem RowsAt.ins :∀{rs:List (List Int)}{vs:List aq},RowsAt h rs vs->RowsIn h rs vs
 |_,_,.nil=>.nil
 |_,_,.cons ho hc hd hv t=>.cons ⟨_,_,_,_,rfl,ho,hc,hd,hv⟩<|RowsAt.ins t
end
end Sd
namespace Sd
open PySem PySem.Spec PyProof.Rows L2
open Ev (D Ob Zc Lc R E Sm Calls Walk Fl Fn Bop Cop Ty Bf Mf ltP zA ZdB Ge vQ)
end Sd
namespace Sd
open PySem PySem.Spec PyProof.Rows L2
open Ev (D Ob Zc Lc R E Sm Calls Walk Fl Fn Bop Cop Ty Bf Mf ev evs)
section
variable{prog:bq}{w:bC}{A:bL}{E:aq->au->Prop}{s:au}{it d:aw}{i n ep:Nat}{od:dB}{es:Array fU}
def uo{Q:aq->au->Prop}(hd:(d == cM)=ai)(ho:s.heap.get? d=aa od)(hc:od.ExactDict)(hdat:od.data=.dict es ep)
  (hQ:Q (.ref s.heap.objs.size) {s with heap:=s.heap.push {cls:=.type "dict_keyiterator",data:=.fields #[.ref d,.int 0 0,.int es.size 0,.int ep 0]}}) :
  aW (aZ prog w) A (nF<|.ref d) Q E s:=by
 have hT:s.TypeIs (.ref d) "dict":=⟨_,ho,hc.1⟩;refine wpAny_pyIter_slot hT mv<|cz mv hT F.entry_dict_iter ?_<|F.args_dict_iter_1 _;unfold eF.«dict.__iter__»;refine af ?_;refine af<|kg hT<|ax (show aW _ _ (kh d >>= _) _ _ s from ?_)
 unfold kh;rw[T8<|by rw[hd];exact aN]
 refine af<|ax<|af<|lT ho hdat<|af<|wpAny_dictEpoch ho hdat ?_;refine af<|bu<|ax ⟨_,rfl,"dict_keyiterator",_,⟨_,aM _ rfl,rfl⟩,gy.lookup,?_⟩
 simpa[fb]using hQ
def JI{Q:Option aq->au->Prop}(hit:s.heap.IsKeyIter it d i es.size ep)(ho:s.heap.get? d=aa od)(hdat:od.data=.dict es ep)
  (h1:∀(hlt:i<es.size) h',h'.IsKeyIter it d (i+1) es.size ep->d5 it s.heap h'->Q (aa es[i].key) {s with heap:=h' })
  (h2:es.size<=i->A.handled=ac/\∀h',eO it s.heap h'->Q ac {s with heap:=h' }):aW (aZ prog w) A (mT<|.ref it) Q E s:=by
 obtain⟨o,hi,hc,hd⟩:=id hit;refine af (iD (bU hit.typeIs gy
  (cz gy hit.typeIs F.entry_dict_keyiterator_next ?_<|F.args_dict_keyiterator_next_1 _)))
 refine af<|ax<|af<|af ?_
 first|refine af<|d3 hit.typeIs<|ax ?_|refine af<|fj hit.typeIs<|ax ?_
 refine af<|wpAny_fieldsOf hi hd ?_;have hown:eF.Dict_items.ownsTuple "dict_keyiterator" = ai:=by decide
 simp only[hown,bQ,if_false];show aW _ _ (if(cF d == bH)=ah then _ else _) _ _ s
 rw[T8<|show¬((cF d == bH)=ah)from aN]
 refine af<|ax<|af<|lT ho hdat ?_;rw[T8<|by simp]
 refine af<|ax<|af<|wpAny_dictEpoch ho hdat ?_;rw[T8<|by simp]
 refine ax ?_;by_cases hlt:i<es.size
 ·simp only[by omega,if_false,cT,dD hlt]
  refine af ?_
  first|refine af<|d3 hit.typeIs<|ax ?_|refine af<|fj hit.typeIs<|ax ?_
  refine af<|ki hit.typeIs (show aW _ _ (setField (.ref it) 1 (fb<|(i:Int)+1) >>= _) _ _ s from af<|gY hi hd (by simp) ?_)
  have hit':(s.heap.update it (dB.mapFields (·.setIfInBounds 1 (fb<|(i:Int)+1)))).IsKeyIter it d (i+1) es.size ep:=
   ⟨_,eC _ hi<|fO<|d6 hd _,(iu ..).trans hc,by rw[d6 hd];simp[fb]⟩
  refine af<|bO<|af<|ki hit'.typeIs ?_
  exact ax<|ax ⟨_,rfl,ax<|h1 hlt _ hit'<|dS ..⟩
 ·obtain⟨hh,hQ⟩:=h2 (by omega)
  simp only[by omega,if_false,cT,i3 (show es.size<=i by omega)]
  refine af ?_
  first|refine af<|d3 hit.typeIs<|ax ?_|refine af<|fj hit.typeIs<|ax ?_
  show aW _ _ (setField (.ref it) 0 .none >>= _) _ _ s;refine af<|gY hi hd (by simp)<|af ?_
  simp only[newExc,newTuple];refine af<|bu ?_<|by size_fits
  refine af (mx (by first|rfl|(simp only[kz];rfl))<|bu ?_<|by size_fits)
  simp only[raiseNew];refine af<|wpAny_handled ?_;rw[hh]
  refine af<|ax<|wpAny_throw ?_;refine af<|eW ⟨_,aM _ rfl,rfl⟩ isSubtype_stop ?_;exact ax<|hQ _<|((dS ..).extBut.push _).push _
end
noncomputable def Itk(a:aw)(o:dB)(kvs:List (List Key×V)):It:=⟨λi H=>H a=aa (.frz o<|.dT kvs)/\i<kvs.length,λi H x H'=>H'=H/\∃p b,kvs[i]?=aa p/\x=.ref b/\H b=aa (.tup<|p.1.map kV),λi H=>H a=aa (.frz o<|.dT kvs)/\kvs.length<=i⟩
theorem JK{α β:Type}{F:α->β->Prop}:∀{l:List α}{m:List β}{i:Nat}{p:α},Paired F l m->l[i]?=aa p->∃q,m[i]?=aa q/\F p q
 |_,_,_,_,.nil,e=>by simp at e
 |_,_,0,_,.cons r t,e=>by simp at e;subst e;exact⟨_,rfl,r⟩
 |_,_,i+1,_,.cons r t,e=>by
  obtain⟨q,h1,h2⟩:=JK t (by simpa using e)
  exact⟨q,by simpa using h1,h2⟩
def Zai(ok:HOk P w H h)(e:H a=aa (.frz o<|.dT kvs)) :
  (a == cM)=ai/\h.get? a=aa o/\∃es ep,o.ExactDict/\o.data=.dict es ep/\es.size=kvs.length/\∀i p,kvs[i]?=aa p->∃q:aw,∃hi:i<es.size,es[i].key=.ref q/\H q=aa (.tup<|p.1.map kV):=by
 obtain⟨h0,z,y,xs,r,o',es,ep,h1,h2,h3,h4,h5⟩:=(ok a _ e)
 rw[h0]at h1;cases h1;have hl:es.size=kvs.length:=by
  have:=congrArg gj h4;rw[aF,<-Paired.length r]at this
  simpa using this
 refine⟨y,h0,es,ep,h2,h3,hl,λi p hp=>?_⟩
 obtain⟨q,hq,e1,e2,e3⟩:=JK r hp;have hi:i<es.size:=by rw[hl];exact(ay.mp hp).1
 refine⟨q.2.1,hi,?_,e2⟩;have:=congrArg (·[i]?) h4
 simp only[aX,hq,mJ]at this;rw[cL,dD hi]at this;rw[ak this];rfl
def uR{P:bq}{w:bC}{K:aj}{tg:Expr}(a it:aw)(o:dB)(kvs:List (List Key×V)){es:Array fU}{ep:Nat}(hd:o.data=.dict es ep)(hl:es.size=kvs.length)(hne:a≠it):Turn P w K tg (Itk a o kvs) [it] it (λi h=>h.IsKeyIter it a i es.size ep) where
 mem:=by simp
 obj:=λi h st b hb=>by
  have e:b=it:=by simpa using hb
  subst e;obtain⟨o,h1,h2,h3⟩:=st;exact⟨o,h1,λv z=>by rw[h3]at z;cases z⟩
 keep:=λi h h' st k=>st.at λo e=>k it (by simp) o e
 item:=by
  intro X hP hw hK hc i pq s σ H E I hf st hg;subst hP hw hK;obtain⟨f0,f1,f2,f3,f4,f5⟩:=hf it (by simp)
  obtain⟨hs,ho,es',ep',x1,x2,x3,x4⟩:=Zai I.hok hg.1;rw[hd]at x2;cases x2;obtain⟨q,hi,e1,e2⟩:=x4 i _<|ag hg.2;refine JI st ho hd (λhlt h' hit' sb=>?_) λz=>T7 hi (by omega)
  have I1:=I.turned (t':=s.toks) (λb o hb e=>sb.extBut b o (by simpa using hb) e) f0 f1 f3 f4 f5
  obtain⟨io,j1,j2,j3⟩:=id hit';refine⟨_,rfl,wp j1 j2 j3 (by decide) ⟨.ref q,H,I1,?_,⟨rfl,_,q,ag hg.2,rfl,e2⟩,hit',λb hb=>(hf b hb).1⟩⟩
  rw[e1];rfl
 done:=by
  intro X hP hw hK hc i pq s σ H E I hf st hg;subst hP hw hK;obtain⟨f0,f1,f2,f3,f4,f5⟩:=hf it (by simp)
  obtain⟨hs,ho,es',ep',x1,x2,x3,x4⟩:=Zai I.hok hg.1;rw[hd]at x2;cases x2;exact JI st ho hd (λhlt _ _ _=>T7 hlt (by have:=hg.2;omega)) λ_=>⟨I.ok.hd hc,λh' eb=>⟨rfl,I.turned (t':=s.toks) (λb o hb e=>eb b o (by simpa using hb) e) f0 f1 f3 f4 f5⟩⟩
 self:=λ_ _ _ _ _ st h=>wpAny_pyIter_keyiter st h
section
variable{X:Cx}{xw:Nat->Hp->Prop}{C:Calls}{e tg:Expr}{i:E}
def iDk(te:TE):TI:=λσ H R=>te σ H λx H1=>∃a o kvs,x=.ref a/\H1 a=aa (.frz o<|.dT kvs)/\R (Itk a o kvs) H1
def Zfx{te:TE}(he:PE X e te):PI X tg e (iDk te):=by
 intro pq s σ H R I h;refine thn (he pq s σ H _ I h) λv s1 ⟨x,H1,I1,r1,a,o,kvs,e,q,hR⟩=>?_
 subst e;cases r1;obtain⟨hs,ho,es,ep,x1,x2,x3,x4⟩:=Zai I1.hok q;refine uo hs ho x1 x2 ⟨s1.heap.objs.size,[s1.heap.objs.size],_,_,H1,rfl,I1.kept (t':=s1.toks) λb o e=>ao _ e,uR a _ o kvs x2 x3<|bf<|aJ ho,⟨_,aM _ rfl,rfl,rfl⟩,λb hb=>?_,hR⟩
 have e:b=s1.heap.objs.size:=by simpa using hb
 subst e;exact I1.fpOk (aB _)<|I1.hok.fresh<|aB _
def ZcW{K:aj}{ρ:List aw}{H:Hp}{a:aw}{ks:List (List Int)}{o:dB}{kvs:List (List Key×V)}(f0:H a=aa (.frz o<|.dT kvs))(hk:kvs.map (·.1)=ks.map (·.map cI)):WRel K ρ H ⟨ks.map Ev.Wl,[]⟩ (Itk a o kvs) where
 go:=λi ρ' S' H' f st _ hi=>by
  have hl:kvs.length=ks.length:=by have:=congrArg gj hk;simpa using this
  have hi':i<ks.length:=by simpa using hi
  refine⟨⟨f.frz _ _ _ f0,by omega⟩,λx H'' ⟨e,p,b,h1,h2,h3⟩=>?_⟩
  subst e h2;refine⟨Fut.refl _ _,st,λd hd=>?_⟩
  have e1:=congrArg (·[i]?) hk
  simp only[aX,h1,ag hi',mJ,Option.some.injEq]at e1;have e2:=hd;rw[aX,ag hi']at e2;cases e2;rw[e1,bE]at h3;exact ZU h3<|Rq.ints _
 stop:=λρ' S' H' f st _=>⟨f.frz _ _ _ f0,by have:=congrArg gj hk;simp at this ⊢;omega⟩
def ZaW(he:CE X xw C e i):CW X xw C tg e (.dk i):=PI.imp (Zfx he) λσ H Q ⟨ρ,l,S,st,lr,h⟩=>by
 refine⟨ρ,l,S,st,lr,End.bind (h) λx S1 ρ1 H1 v f1 st1 r1 h1=>?_⟩
 cases x with
 |loc n=>
  obtain⟨a,rfl,hp⟩:=r1.loc';have h':End X.K xw (WRel X.K) ρ1 H1 Q (Ev.ob (match S1[n]? with
   |some (.fz ks)=>aa (Walk.mk (ks.map Ev.Wl) [])
   |_=>ac) S1):=h1
  cases q:S1[n]? with
  |none=>rw[q]at h';exact False.elim h'
  |some o=>
   rw[q]at h';cases o with
   |fz ks=>
    obtain⟨a',ha,o,kvs,hx,r⟩:=st1.at q;rw[hp]at ha;cases ha;exact⟨a,o,kvs,rfl,hx,End.ok h' st1<|ZcW hx r⟩
   |_=>exact False.elim h'
 |_=>exact False.elim h1
end
def J3:gT (.type "list") "keys" = cA ac:=by rw[typeLookup_type,kj];kernel_rfl
def xN:isSubtype (.type "AttributeError") (.type "AttributeError")=cA ah:=by rw[isSubtype_type];kernel_rfl
section
variable{prog:bq}{w:bC}{A:bL}{E:aq->au->Prop}{s:au}{a:aw}{α:Type}{name msg:bc}
def u6{Q:Unit->au->Prop}(he:s.heap.get? e=aa {cls:=.type "AttributeError",data:=.fields vs})(h6:vs[6]?=aa unsetMember)(h7:vs[7]?=aa unsetMember)
  (hQ:∀h',eO e s.heap h'->(∃ob,h'.get? e=aa ob/\ob.cls=.type "AttributeError")->Q () {s with heap:=h' }):aW (aZ prog w) A (noteAttr (.ref e) ov nm) Q E s:=by
 have hT:s.TypeIs (.ref e) "AttributeError":=⟨_,he,rfl⟩;refine af<|af<|eW hT xN ?_;simp only[nv,bQ,if_false];refine af<|kZ he ?_;simp only[h6,h7];rw[T8<|by decide,T8<|by decide]
 refine ax ?_;simp only[if_true];refine af<|fu<|af<|eU hT ?_;simp only[layMembers];refine af<|kZ he<|wpAny_update he<|hQ _ (dS ..).extBut ⟨_,eC _ he<|fO<|d6 rfl _,iu ..⟩
def xW{Q:α->au->Prop}(hh:A.handled=ac)(hm:msg.length<=aY)(hq:∀h' t' e,(∀b o,s.heap.get? b=aa o->h'.get? b=aa o)->(∃ob,h'.get? e=aa ob/\ob.cls=.type "AttributeError")->E (.ref e) {s with heap:=h',toks:=t' }):aW (aZ prog w) A (raiseAttrError (.ref a) name msg:mL α) Q E s:=by
 refine af<|wpAny_mkStr ?_ hm;simp only[newExc,newTuple];refine af<|af<|bu ?_<|by size_fits
 refine af (mx (by first|rfl|(simp only[kz];rfl)) ?_)
 refine bu ?_ (by size_fits)
 refine af<|wpAny_mkText<|af<|u6 (aM _ rfl) rfl rfl λh' eb ob=>?_
 refine wpAny_raiseNew_none hh<|hq _ _ _ (λb o e=>eb b o (λz=>?_)<|ao _<|ao _ e) ob
 have q:=aJ e;subst z;exact T7 q (by show¬(s.heap.push _).objs.size<s.heap.objs.size;rw[dv];omega)
end
section
variable{prog:bq}{w:bC}{A:bL}{E:aq->au->Prop}{h:bF}{g:Array mR}{d:Drawn}{t:Nat}{os:OsState}{a:aw}{its:Array aq}{n:Nat}
def xR{Q:Fin->au->Prop}(hx:h.get? a=aa {cls:=.type "list",data:=.seq its n})(hh:A.handled=ac)(hq:∀h' t' e,(∀b o,h.get? b=aa o->h'.get? b=aa o)->(∃ob,h'.get? e=aa ob/\ob.cls=.type "AttributeError")->E (.ref e) ⟨h',g,d,t',os⟩) :
  aW (aZ prog w) A (eF.«object.__getattribute__» ⟨[.ref a,.str "keys" tk],[]⟩) Q E ⟨h,g,d,t,os⟩:=by
 have hT:(⟨h,g,d,t,os⟩:au).TypeIs (.ref a) "list":=⟨_,hx,rfl⟩;have f4:=J3
 repeat(any_goals (first|assumption|wp_step))
 exact xW hh (by decide +kernel) hq
def ug{R:nG->au->Prop}(hx:h.get? a=aa {cls:=.type "list",data:=.seq its n})(hh:A.handled=ac)(hq:∀h' t' e,(∀b o,h.get? b=aa o->h'.get? b=aa o)->(∃ob,h'.get? e=aa ob/\ob.cls=.type "AttributeError")->R (.error<|.ref e) ⟨h',g,d,t',os⟩) :
  fE (aZ prog w) A (.call (.builtin "list.__getattribute__") ⟨[.ref a,.str "keys" tk],[]⟩) R ⟨h,g,d,t,os⟩:=
 gm F.slot_list_getattribute.plain F.entry_list_ga (F.slot_list_getattribute.check _ _ _ _ _ _ _ _ (⟨_,hx,rfl⟩) (F.args_list_getattribute_2 _ _)<|xR hx hh hq)
def Zbr{Q:aq->au->Prop}(hx:h.get? a=aa {cls:=.type "list",data:=.seq its n})(hh:A.handled=ac)(hq:∀h' t' e,(∀b o,h.get? b=aa o->h'.get? b=aa o)->(∃ob,h'.get? e=aa ob/\ob.cls=.type "AttributeError")->E (.ref e) ⟨h',g,d,t',os⟩):aW (aZ prog w) A (getAttrBy (.ref a) (.str "keys" tk) ai) Q E ⟨h,g,d,t,os⟩:=by
 have hT:(⟨h,g,d,t,os⟩:au).TypeIs (.ref a) "list":=⟨_,hx,rfl⟩;have f2:=F.slot_list_getattribute.lookup;have f3:=F.slot_list_getattribute.bind<|.ref a
 repeat(any_goals (first|assumption|wp_step))
 refine ug hx hh λh' t' e k ob=>?_
 have hTe:(⟨h',g,d,t',os⟩:au).TypeIs (.ref e) "AttributeError":=ob;have f9:gT (.type "list") "__getattr__" = cA ac:=by rw[typeLookup_type,kj];kernel_rfl
 have hE:=hq h' t' e k ob
 repeat(any_goals (first|assumption|with_reducible apply eW hTe xN|wp_step))
def qd{Q:Option aq->au->Prop}(hx:h.get? a=aa {cls:=.type "list",data:=.seq its n})(hh:A.handled=ac)(hq:∀h' t',(∀b o,h.get? b=aa o->h'.get? b=aa o)->Q ac ⟨h',g,d,t',os⟩):aW (aZ prog w) A (mZ (.ref a) "keys") Q E ⟨h,g,d,t,os⟩:=by
 unfold mZ getAttrBy?
 refine af<|wpAny_mkText<|af<|iD<|Zbr hx hh λh' t' e k ob=>?_
 exact af<|eW (ob) xN<|ax<|hq h' t' k
end
def WI:plainId "dict.update.loop" = ah:=by decide +kernel
def Jq:entryFor table "dict.update.loop" = aa eF.«dict.update.loop»:=entryFor_of_tree (by kernel_rfl)
section
variable{prog:bq}{w:bC}{A:bL}{E:aq->au->Prop}
def xj{Q:List aq->au->Prop}(hp:lx s.heap p its)(h:Q its.toList s):aW (aZ prog w) A (eF.Dict.pairItems<|.ref p) Q E s:=by
 obtain⟨o,ho,hc,n,hd⟩:=hp;refine af<|eU ⟨_,ho,hc⟩ ?_;rw[T9<|by decide]
 unfold seqItems?
 refine af<|af<|kZ ho ?_;rw[hd];exact ax<|ax h
def wo{K:Type}[DecidableEq K]{knd:KeyKind prog w K}{h h':bF}{k:List K}{a:aw}(x:(c9 knd).is h k a)(hk:∀o,h.get? a=aa o->h'.get? a=aa o):(c9 knd).is h' k a:=by
 obtain⟨o,its,n,h1,r⟩:=x;exact⟨o,its,n,hk _ h1,r⟩
def WW{K:Type}[DecidableEq K]{knd:KeyKind prog w K}{h h':bF}{d:aw}{xs:List (List K×aw×aq)}(x:h.DictOfH (c9 knd) d xs)(hd:∀o,h.get? d=aa o->h'.get? d=aa o)(hx:∀x∈xs,∀o,h.get? x.2.1=aa o->h'.get? x.2.1=aa o):h'.DictOfH (c9 knd) d xs:=by
 obtain⟨o,es,ep,h1,h2,h3,h4,h5,h6⟩:=x;exact⟨o,es,ep,hd _ h1,h2,h3,h4,λy hy=>wo (h5 y hy)<|hx y hy,h6⟩
abbrev Pr:=List Key×aw×aw
def jU{I d:aw}{fp wr:List aw}{its:Array aq}{St:Nat->bF->Prop}{R:nG->au->Prop}{h0:bF}{ps:List Pr}{res:aq}(W:Walks prog w A.in1 I fp wr its.size (λi v=>its[i]?=aa v) St)(hu:A.units+2<dh)(hf:d∉fp)
  (hl:ps.length=its.size)(hi:∀(i:Nat)(p:Pr),ps[i]?=aa p->its[i]?=aa (cF p.2.2))
  (hp:∀p∈ps,lx h0 p.2.2 #[cF p.2.1,bv ah]/\(c9<|ZQ prog w).is h0 p.1 p.2.1/\p.2.2∉wr/\p.2.2≠d/\p.2.1∉wr/\p.2.1≠d)(hn:(ps.map (·.1)).Nodup)(hz:ps.length<=aY) :
  ∀(k i:Nat)(s:au),its.size-i=k->i<=its.size->St i s.heap->(∀b o,b∉wr->b≠d->h0.get? b=aa o->s.heap.get? b=aa o)->
  s.heap.DictOfH (c9<|ZQ prog w) d ((ps.take i).map λp=>(p.1,p.2.1,bv ah))->
  (∀h' tk,(∀b o,b∉wr->b≠d->h0.get? b=aa o->h'.get? b=aa o)->h'.DictOfH (c9<|ZQ prog w) d (ps.map λp=>(p.1,p.2.1,bv ah))->R (.ok<|.ret res) {s with heap:=h',toks:=tk})->
  fE (aZ prog w) A (.builtin "dict.update.loop" ⟨[.ref d,.ref I,fb i,res],[]⟩) R s:=by
 intro k
 induction k with
 |zero=>
  intro i s hk hi' hst kp dd hR;have e:i=its.size:=by omega
  subst e;refine i8 Jq ?_;rw[kD WI _];refine af<|W.done s _ _ hst λh' tk hk'=>?_
  refine af<|ax<|ax<|hR h' tk (λb o hb hd z=>hk' b o hb<|kp b o hb hd z) ?_
  rw[fJ<|by omega]at dd
  exact WW dd (λo e=>hk' _ o (λz=>hf<|W.sub _ z) e) λx hx o e=>by
   obtain⟨y,hy,rfl⟩:=aK.mp hx;exact hk' _ o (hp y hy).2.2.2.2.1 e
 |succ k ih=>
  intro i s hk hi' hst kp dd hR;have hlt:i<its.size:=by omega
  have hp':=hp _<|ba (n:=i)<|by omega
  have hv:=hi i _<|ag<|by omega
  refine i8 Jq ?_;rw[kD WI _];refine af<|W.item i s _ _ hlt hst λv h' tk hP hst' hk'=>?_
  rw[hv]at hP;cases hP;obtain⟨p1,p2,p3,p4,p5,p6⟩:=hp';have kp2:=λb o hb hd z=>hk' b o hb<|kp b o hb hd z
  have dd2:=WW dd (λo e=>hk' _ o (λz=>hf<|W.sub _ z) e) λx hx o e=>by
   obtain⟨y,hy,rfl⟩:=aK.mp hx;exact hk' _ o (hp y<|kE hy).2.2.2.2.1 e
  obtain⟨po,g1,g2,pn,g3⟩:=p1;refine af<|bO<|af<|wpAny_tryCatch<|xj ⟨po,kp2 _ _ p3 p4 g1,g2,pn,g3⟩ ?_;have hsz:((ps.take i).map λp=>(p.1,p.2.1,bv ah)).length<=aY:=by rw[aF,cq];omega
  refine bO<|wpAny_dictSet_heap (gU<|by omega) (wo p2 λo e=>kp2 _ o p5 p6 e) dd2 λh2 dd3 sb=>?_
  refine ax ⟨plainId_quiet WI _,ih (i+1) _ (by omega) hlt (W.frame _ _ _ hst' λb hb o e=>(sb.2 b λz=>hf<|z▸hb).trans e) (λb o hb hd z=>(sb.2 b hd).trans<|kp2 b o hb hd z) ?_ hR⟩
  have hnew:mX ((ps.take i).map λp=>(p.1,p.2.1,bv ah)) ps[i].1=ac:=by
   unfold mX;rw[i4,lu];intro x hx z;obtain⟨y,hy,rfl⟩:=aK.mp hx;have hn2:=hn;rw[<-km i ps,dH,List.nodup_append,cJ<|by omega]at hn2
   exact hn2.2.2 _ (kN hy) _ (kN am)<|T6 z
  rw[storedH_new hnew]at dd3;rw[lN,ag<|by omega,dH]
  exact dd3
def xZ{s:au}{l:aw}{its:Array aq}{n:Nat}{ps:List Pr}{Q:aq->au->Prop}(hh:A.handled=ac)(hu:A.units+3<dh)(hx:s.heap.get? l=aa {cls:=.type "list",data:=.seq its n})
  (hl:ps.length=its.size)(hi:∀(i:Nat)(p:Pr),ps[i]?=aa p->its[i]?=aa (cF p.2.2))
  (hp:∀p∈ps,lx s.heap p.2.2 #[cF p.2.1,bv ah]/\(c9<|ZQ prog w).is s.heap p.1 p.2.1)(hn:(ps.map (·.1)).Nodup)(hz:ps.length<=aY)
  (h:∀h' tk,(∀b o,s.heap.get? b=aa o->h'.get? b=aa o)->h'.DictOfH (c9<|ZQ prog w) s.heap.objs.size (ps.map λp=>(p.1,p.2.1,bv ah))->Q (.ref s.heap.objs.size) {s with heap:=h',toks:=tk}) :
  aW (aZ prog w) A (call (.type "dict") [.ref l]) Q E s:=by
 refine callType_codes (Q₁:=λobj s₁=>obj=.ref s.heap.objs.size/\s₁={s with heap:=s.heap.push {cls:=.type "dict",data:=.dict #[]}}) F.kt_called_dict (F.kt_typeCall_dict_1 _) F.entry_dict_init (kt_code_dict_new _ ⟨rfl,rfl⟩) ?_
 rintro obj s₁ ⟨rfl,rfl⟩
 have hnew:(s.heap.push {cls:=.type "dict",data:=.dict #[]}).DictOfH (c9<|ZQ prog w) s.heap.objs.size []:=bF.DictOfH.new s.heap;have hx':=ao {cls:=.type "dict",data:=.dict #[]} hx;refine⟨hnew.typeIs,F.args_dict_init_2 _ _,?_⟩
 unfold eF.«dict.__init__»;refine af ?_;refine af<|kg (hnew.typeIs) ?_
 refine ax ?_;refine af<|eU ⟨_,hx',rfl⟩ ?_;rw[T9<|by decide]
 refine af<|qd hx' hh λh1 t1 k1=>?_
 rw[T9<|show(ac:Option aq).isNone=ah from rfl]
 have hx1:=k1 _ _ hx';obtain⟨od,es,ep,g1,g2⟩:=id hnew;have hd1:=aJ<|k1 _ _ g1;have hl0:=aJ hx;refine af<|fu<|af<|eG ⟨_,hx1,rfl,n,rfl⟩<|ax ⟨plainId_quiet WI _,?_⟩;have lt:∀{b:aw}{o:dB},s.heap.get? b=aa o->b∉[h1.objs.size]/\b≠s.heap.objs.size:=λ{b o} e=>by
  have q:=aJ e;exact⟨λz=>T7 (bt.mp z)<|bf<|cc q hd1,bf q⟩
 refine jU (ps:=ps) (i:=0) (s:={s with heap:=h1.push<|YB ah l,toks:=t1}) (V0 (A:=A.in1.in1) hh ah h1.objs.size l (bf<|cc hl0 hd1) its) (by omega) (λz=>?_) hl hi (λp hq=>?_) hn hz _ rfl (dL _) ⟨GV,?_⟩ (λb o _ _ e=>ao _<|k1 _ _<|ao _ e) ?_ λh' tk kp dd=>⟨rfl,h h' tk (λb o e=>kp b o (lt e).1 (lt e).2 e) dd⟩
 ·simp only[az,bz,or_false]at z
  rcases z with z|z
  ·exact bf hd1 z
  ·exact cY hl0 z
 ·obtain⟨x1,x2⟩:=hp p hq
  obtain⟨_,y1,_⟩:=id x1;obtain⟨_,_,_,y2,_⟩:=id x2;exact⟨x1,x2,(lt y1).1,(lt y1).2,(lt y2).1,(lt y2).2⟩
 ·exact⟨_,ao _ hx1,rfl,n,rfl⟩
 ·exact WW hnew (λo e=>ao _<|k1 _ _ e) λx hx=>by cases hx
end
section
variable{X:Cx}{xw:Nat->Hp->Prop}{ρ:List aw}{H:Hp}
theorem zy:∀{ds:List D}{ks:List (List Int)}{ys:List V},Ev.Xf ds=aa ks->Rq ρ H ds ys->∃ps:List Pr,ps.map (·.1)=ks.map (·.map cI)/\ps.length=ys.length/\
  ∀(i:Nat)(p:Pr),ps[i]?=aa p->ys[i]?=aa (.ref p.2.2)/\H p.2.2=aa (.tup [.ref p.2.1,.bl ah])/\H p.2.1=aa (.tup<|p.1.map kV)
 |[],ks,ys,h,r=>by
  cases h;subst r;exact⟨[],rfl,rfl,λi p e=>by simp at e⟩
 |d::ds,ks,ys,h,r=>by
  obtain⟨v,vs,rfl,r1,r2⟩:=r;have h:((Ev.V3 d).bind λa=>(Ev.Xf ds).map (a :: ·))=aa ks:=h
  cases e1:Ev.V3 d with
  |none=>rw[e1]at h;cases h
  |some a=>
   cases e2:Ev.Xf ds with
   |none=>rw[e1,e2]at h;cases h
   |some b=>
    rw[e1,e2]at h;cases h;obtain⟨ps,h1,h2,h3⟩:=zy e2 r2;unfold Ev.V3 at e1;split at e1
    ·split at e1
     ·rename_i x y hy
      subst hy;obtain⟨p,zs,rfl,hp,rz⟩:=r1.tup';obtain⟨u,us,rfl,ru,rz⟩:=rz;obtain⟨u2,rfl,ru2⟩:=YM rz;rw[ru2.bl']at hp;cases x with
      |tup k=>
       obtain⟨q,ws,rfl,hq,rw'⟩:=ru.tup';rw[WF e1 rw']at hq;refine⟨(a.map cI,q,p)::ps,by rw[aU,h1];rfl,by simp[h2],λi y hy=>?_⟩
       cases i with|zero=>simp at hy;subst hy;exact⟨rfl,hp,hq⟩|succ i=>exact h3 i y (by simpa using hy)
      |_=>cases e1
     ·cases e1
    ·cases e1
def Jz(hc:X.calm=ah)(hu:X.A.units+7<dh):ZK X (.type "dict") (VP X.K xw .dictP):=by
 intro pq s σ H vs us Q I r h;obtain⟨ρ,S,ds,st,rs,h⟩:=h;have hds:∃n,ds=[.loc n]:=by
  rcases ds with _|⟨d,_|⟨e,r⟩⟩
  ·exact h.elim
  ·cases d<;>first|exact h.elim|exact⟨_,rfl⟩
  ·cases d<;>exact h.elim
 obtain⟨n,rfl⟩:=hds;obtain⟨xs,hx,h1⟩:=End.ob (h)
 obtain⟨ks,hk,h2⟩:=End.ob h1;obtain⟨hok,h3⟩:=h2.guard;obtain⟨v,rfl,r1⟩:=YM rs;obtain⟨_,l,ys,q1,hl,ry⟩:=st.lst hx;obtain⟨l',rfl,t⟩:=r1.loc';rw[q1]at t;cases t;obtain⟨u,rfl,ru⟩:=WO r;cases ru;obtain⟨ps,p1,p2,p3⟩:=zy hk ry;obtain⟨_,its,c,rv,hg⟩:=(I.hok l _ hl)
 obtain⟨k1,k2⟩:=(aE _ _).mp hok;have hn:(ps.map (·.1)).Nodup:=by
  rw[p1];exact List.Pairwise.map _ (λa b ne e=>ne<|JR e)<|T6 k2
 have hlen:ps.length=ks.length:=by have:=congrArg gj p1;simpa using this
 have hz:ps.length<=aY:=by rw[hlen,<-W4];exact T6 k1
 have hp0:=I.hok.fresh<|aB _;refine xZ (I.ok.hd hc) (by omega) hg (by rw[p2,rv.length,aD]) (λi p e=>?_) (λp hp=>?_) hn hz λh' tk kp dd=>?_
 ·obtain⟨w',g',ru'⟩:=rv.get (p3 i p e).1
  rw[ru']at g'
  simpa using g'
 ·obtain⟨i,hi,e⟩:=bZ hp
  obtain⟨_,a2,a3⟩:=p3 i p (by rw[<-e];exact ag hi)
  obtain⟨_,zs,rz,tz⟩:=(I.hok _ _ a2)
  refine⟨?_,JN I.hok a3⟩;cases rz with
  |cons x rz=>cases rz with
   |cons y rz=>
    cases rz;cases(x)
    cases(y)
    exact tz
 ·obtain⟨od,es,ep,g1,g2,g3,g4,g5,g6⟩:=dd
  have hb:=beq_eq_false_iff_ne.mpr<|cY I.big;have hpr:∀{l:List Pr},(∀p∈l,H p.2.1=aa (.tup<|p.1.map kV))->Paired (λ(p:List Key×V) (q:List Key×aw×aq)=>p.1=q.1/\upd H s.heap.objs.size (.frz od<|.dT<|ps.map λp=>(p.1,V.bl ah)) q.2.1=aa (.tup<|p.1.map kV)/\Zz p.2 q.2.2) (l.map λp=>(p.1,V.bl ah)) (l.map λp=>(p.1,p.2.1,bv ah)):=λ{l}=>by
   induction l with|nil=>intro _;exact .nil|cons p l ih=>intro hl;exact .cons ⟨rfl,by rw[Zn<|ZB (hl p am) hp0];exact hl p am,rfl⟩<|ih λq hq=>hl q<|al _ hq
  refine⟨.ref s.heap.objs.size,upd H s.heap.objs.size<|.frz od<|.dT<|ps.map λp=>(p.1,V.bl ah),I.laid (t':=tk) kp (aB _)<|⟨g1,by rw[aF];exact hz,hb,ps.map λp=>(p.1,p.2.1,bv ah),hpr λp hp=>?_,od,es,ep,g1,g2,g3,g4,g6⟩,rfl,?_⟩
  ·obtain⟨i,hi,e⟩:=bZ hp
   exact(p3 i p<|by rw[<-e];exact ag hi).2.2
  ·exact h3 (ρ++[s.heap.objs.size]) _ _ (YQ hp0) (st.new hp0 ⟨od,_,Zr,by rw[bE];exact p1⟩)<|Wa<|by rw[<-st.len];simp
end
end Sd
structure Bx(P:Prop):Prop where
 h:P
namespace Wr
def bx3{P Q R:Prop}(h:Bx P/\Bx Q/\Bx R):P/\Q/\R:=⟨h.1.h,h.2.1.h,h.2.2.h⟩
def yB{X xw C pos n q}:=Bx.mk<|@Sd.yB X xw C pos n q
def jf{X xw C pos n q}:=Bx.mk<|@Sd.jf X xw C pos n q
def yz{X xw C pos q}:=Bx.mk<|@Sd.yz X xw C pos q
def xJ{X xw C pos x q}:=Bx.mk<|@Sd.xJ X xw C pos x q
def Zd1{X xw C pos}(n){x}(hN hv hd hcd):=Bx.mk<|@Sd.Zd1 X xw C pos n x hN hv hd hcd
def yG{X xw C pos es is q}(h):=Bx.mk<|@Sd.yG X xw C pos es is q<|Bx.h h
def we{X xw C pos es is}(h):=Bx.mk<|@Sd.we X xw C pos es is<|Bx.h h
def xY{X xw C a b i j pos}(ha hb):=Bx.mk<|@Sd.xY X xw C a b i j pos (Bx.h ha)<|Bx.h hb
def yW{X xw C a b i j pos}(ha hb):=Bx.mk<|@Sd.yW X xw C a b i j pos (Bx.h ha)<|Bx.h hb
def xT{X xw C a b i j pos}(ha hb):=Bx.mk<|@Sd.xT X xw C a b i j pos (Bx.h ha)<|Bx.h hb
def GO{X xw C a b i j pos}(ha hb):=Bx.mk<|@Sd.GO X xw C a b i j pos (Bx.h ha)<|Bx.h hb
def xk{X xw C a b i j pos}(ha hb):=Bx.mk<|@Sd.xk X xw C a b i j pos (Bx.h ha)<|Bx.h hb
def yK{X xw C a b i j pos}(ha hb):=Bx.mk<|@Sd.yK X xw C a b i j pos (Bx.h ha)<|Bx.h hb
def xu{X xw C a i pos}(ha):=Bx.mk<|@Sd.xu X xw C a i pos<|Bx.h ha
def xO{X xw C a i pos}(ha):=Bx.mk<|@Sd.xO X xw C a i pos<|Bx.h ha
def y9{X xw C a b i j pos rest}(ha hb):=Bx.mk<|@Sd.y9 X xw C a b i j pos rest (Bx.h ha)<|Bx.h hb
def Zaf{X xw C a b i j pos rest}(ha hb):=Bx.mk<|@Sd.Zaf X xw C a b i j pos rest (Bx.h ha)<|Bx.h hb
def Xx{X xw C a b i j pos op o}(hc ha hb)(hm):=Bx.mk<|@Sd.Xx X xw C a b i j pos op o hc (Bx.h ha) (Bx.h hb) hm
def VF{X xw C a b i j pos op op' o o' d k}(hc hc' ha hb hd)(hm):=Bx.mk<|@Sd.VF X xw C a b i j pos op op' o o' d k hc hc' (Bx.h ha) (Bx.h hb) (Bx.h hd) hm
def xL{X xw C a i pos p2 e1}(ha h1):=Bx.mk<|@Sd.xL X xw C a i pos p2 e1 (Bx.h ha)<|Bx.h h1
def ZaO{X xw C a i pos p2 lo hi il ih}(ha hl hh):=Bx.mk<|@Sd.ZaO X xw C a i pos p2 lo hi il ih (Bx.h ha) (Bx.h hl)<|Bx.h hh
def ZaU{X xw C a b i j pos}(ha hb)(hs):=Bx.mk<|@Sd.ZaU X xw C a b i j pos (Bx.h ha) (Bx.h hb) hs
def W3{X xw C a i pos p p2 T t}(ht hm hmT ha)(hg hgT hvT hnT hdT hs1 hs2 hpl):=Bx.mk<|@Sd.W3 X xw C a i pos p p2 T t ht hm hmT (Bx.h ha) hg hgT hvT hnT hdT hs1 hs2 hpl
def Xi{X xw C e pos p f id x es is}(hc hm ha)(hg hv hn hdb he hpl):=Bx.mk<|@Sd.Xi X xw C e pos p f id x es is hc hm (Bx.h ha) hg hv hn hdb he hpl
def WG{X xw C e pos p f id x es is}(hc hm ha)(hg hv hn hdb he hpl):=Bx.mk<|@Sd.WG X xw C e pos p f id x es is hc hm (Bx.h ha) hg hv hn hdb he hpl
def xB{X xw C}:=Bx.mk<|@Sd.xB X xw C
def GM{X xw C e i es is}(ha hr)(hs):=Bx.mk<|@Sd.GM X xw C e i es is (Bx.h ha) (Bx.h hr) hs
def GG{X xw C}:=Bx.mk<|@Sd.GG X xw C
def Gy{X xw C e i}(h):=Bx.mk<|@Sd.Gy X xw C e i<|Bx.h h
def xM{X xw C a i pos}(ha):=Bx.mk<|@Sd.xM X xw C a i pos<|Bx.h ha
def Xw{X xw C a b i j pos op o}(hc ha hb)(hm):=Bx.mk<|@Sd.Xw X xw C a b i j pos op o hc (Bx.h ha) (Bx.h hb) hm
def yH{X xw C a i}(ha)(he):=Bx.mk<|@Sd.yH X xw C a i (Bx.h ha) he
def vp{X xw C a b i j pos rest}(ha hb):=Bx.mk<|@Sd.vp X xw C a b i j pos rest (Bx.h ha)<|Bx.h hb
def yI{X xw C a i pos}(ha):=Bx.mk<|@Sd.yI X xw C a i pos<|Bx.h ha
def JO{X xw C}:=Bx.mk<|@Sd.JO X xw C
def GD{X xw C c i}(h):=Bx.mk<|@Sd.GD X xw C c i<|Bx.h h
def qR{X xw C e tg i}(he):=Bx.mk<|@Sd.qR X xw C e tg i<|Bx.h he
def ZaW{X xw C e tg i}(he):=Bx.mk<|@Sd.ZaW X xw C e tg i<|Bx.h he
def GA{X xw C a tg i pos p}(hm ha)(hg hs):=Bx.mk<|@Sd.GA X xw C a tg i pos p hm (Bx.h ha) hg hs
def G4{X pos n x}(hN)(hi hx hf):=Bx.mk<|@Sd.G4 X pos n x hN hi hx hf
def xi{X pos tgs q2 n m r}(hc h)(hn hst):=Bx.mk<|@Sd.xi X pos tgs q2 n m r hc (Bx.h h) hn hst
def Gg{X}:=Bx.mk<|@Sd.Gg X
def UN{X pos tgs n t x}(hN h2)(hi hx hf hs):=Bx.mk<|@Sd.UN X pos tgs n t x hN (Bx.h h2) hi hx hf hs
def yX{X xw C}:=Bx.mk<|@Sd.yX X xw C
def Gz{X xw C s0 ss m0 ms}(h1 h2):=Bx.mk<|@Sd.Gz X xw C s0 ss m0 ms (Bx.h h1)<|Bx.h h2
def yM{X xw C e i pos tg t}(he hg)(hs hw h1):=Bx.mk<|@Sd.yM X xw C e i pos tg t (Bx.h he) (Bx.h hg) hs hw h1
def yR{X xw C e i pos p o ix io ii}(ho hi he)(ha hs hw h1):=Bx.mk<|@Sd.yR X xw C e i pos p o ix io ii (Bx.h ho) (Bx.h hi) (Bx.h he) ha hs hw h1
def xm{X xw C e i pos}(he):=Bx.mk<|@Sd.xm X xw C e i pos<|Bx.h he
def J2{X xw C e i pos}(he)(hs):=Bx.mk<|@Sd.J2 X xw C e i pos (Bx.h he) hs
def qK{X xw C c k pos ms ms' sa sb}(hc ha hb):=Bx.mk<|@Sd.qK X xw C c k pos ms ms' sa sb (Bx.h hc) (Bx.h ha)<|Bx.h hb
def x9{X xw C tg it pos body ms w t}(hp hc hw hg hb)(hs):=Bx.mk<|@Sd.x9 X xw C tg it pos body ms w t hp hc (Bx.h hw) (Bx.h hg) (Bx.h hb) hs
def xn{X xw C e i pos p op o n x}(ho hN he)(hi hx hf):=Bx.mk<|@Sd.xn X xw C e i pos p op o n x ho hN (Bx.h he) hi hx hf
def Qt{X xw C c k pos ms body}(hp hc hb):=Bx.mk<|@Sd.Qt X xw C c k pos ms body hp (Bx.h hc)<|Bx.h hb
def yC{X xw C a b i j pos p tp elts kk}(hm ha)(hg hs hs2):=Bx.mk<|@Sd.yC X xw C a b i j pos p tp elts kk hm (Bx.h ha) hg hs hs2
def Gj{X xw C a i pos p tp elts kk}(hm ha)(hg hs):=Bx.mk<|@Sd.Gj X xw C a i pos p tp elts kk hm (Bx.h ha) hg hs
def V8{X xw C e i o io apos cpos}(ho ha)(hbase hfew hline hs hplain):=Bx.mk<|@Sd.V8 X xw C e i o io apos cpos (Bx.h ho) (Bx.h ha) hbase hfew hline hs hplain
def x5{X xw C a b i j pos n m x y px py pt kt k2 pt2}(hc hN ha)(hnm hi hj hx hy hw hs):=Bx.mk<|@Sd.x5 X xw C a b i j pos n m x y px py pt kt k2 pt2 hc hN (Bx.h ha) hnm hi hj hx hy hw hs
def J6{X xw C a i pos p p2 p3 T U t u k0 p4}(ht hu hm hmT hmU ha)(hg hgT hgU hvT hvU hnT hdT hnU hdU hs0 hs00 hs1 hs2 hpl):=Bx.mk<|@Sd.J6 X xw C a i pos p p2 p3 T U t u k0 p4 ht hu hm hmT hmU (Bx.h ha) hg hgT hgU hvT hvU hnT hdT hnU hdU hs0 hs00 hs1 hs2 hpl
def W5{X xw C e i pos p kp kp2 q0}(hm ha)(hg he hpl):=Bx.mk<|@Sd.W5 X xw C e i pos p kp kp2 q0 hm (Bx.h ha) hg he hpl
def UW{X xw C tg it pos elt ifs is ie scope N cap nl w t}(hc hN CS hi)(hb:∀c s H p,Bx _/\Bx _/\Bx _)(hs):=Bx.mk<|@Sd.UW X xw C tg it pos elt ifs is ie scope N cap nl w t hc hN CS (Bx.h hi) (λc s H p=>bx3<|hb c s H p) hs
def UT{X xw C tg it pos elt ifs is ie scope N cap nl w t n y spos py}(hc hN CSc hi)(hb:∀c s H p,Bx _/\Bx _/\Bx _)(hsw hy hx hf hs):=Bx.mk<|@Sd.UT X xw C tg it pos elt ifs is ie scope N cap nl w t n y spos py hc hN CSc (Bx.h hi) (λc s H p=>bx3<|hb c s H p) hsw hy hx hf hs
def ZdH{X xw C e i}(h):=Bx.mk<|@Sd.CWh.ct X xw C e i<|Bx.h h
end Wr
namespace Gn
open PySem PySem.Spec PyProof.Rows L2
open Ev (D Ob Zc Lc R E Sm Calls Walk Fl Fn Bop Cop Ty Bf Mf)
open Sd (CompScope cxC hu7)
structure FR where
 x:bc
 st:de
 N:List bc
 k:Nat
noncomputable def FR.ps(r:FR):List bc:=r.N.take r.k
noncomputable def scB(N:List bc)(k:Nat)(sc:c7):Bool:=
 (match sc.kind with|.function=>ah|_=>ai)&&(!sc.isCoroutine&&(!sc.isGenerator&&(decide N.Nodup&&((N.take k).all (λx=>ae (sc.names.lookup x=aa .local)||decide (sc.names.lookup x=aa .cell))&&sc.names.all λy=>ae<|y.2≠.free))))
def V5(h:scB N k sc=ah):FnScope N (N.take k) sc:=by
 unfold scB at h;simp only[aE,iz,T2,aV,gz]at h;obtain⟨h1,h2,h3,h4,h5,h6⟩:=h;refine⟨?_,h2,h3,h4,?_,h5,h6⟩
 ·grind
 ·grind
inductive Gv where
 |int (n:Int)|tab (t:List (Int×Int))
 deriving DecidableEq
def Zfv(K:aj)(mg:bc->Option aq)(x:bc):Gv->Prop
 |.int n=>∃t:nJ,mg x=aa (.int n t)
 |.tab t=>∃tb:aw,(∀P w,Sd.ZfY P w K tb t)/\mg x=aa (.ref tb)
structure Top(K:aj)(mg:bc->Option aq)(fs:List FR)(zs:List bc)(gs:List (bc×Gv))(f:Nat->aw)(fd:Nat->bK):Prop where
 d:∀i r,fs[i]?=aa r->Fun K r.x r.x r.st (f i) (fd i)
 b:∀i r,fs[i]?=aa r->Ua K (fd i) r.ps []
 m:∀i r,fs[i]?=aa r->mg r.x=aa (.ref<|f i)
 z:∀x∈zs,mg x=ac
 g:∀y∈gs,Zfv K mg y.1 y.2
def Jd(r:FR):Prop:=∀(kV doc pm:aq)(an:Option aw)(cdv ct:aq)(us:List aq),us.length=r.ps.length->kq (c6 r.x r.x (Xo r.st) (ZE r.st) (Zg r.st) .none kV doc pm an cdv ct) ⟨us,[]⟩=cA (r.ps.zip us)
section
variable{x:bc}{st:de}
noncomputable abbrev bA(x:bc)(st:de)(kV doc pm:aq)(an:Option aw)(cdv ct:aq)(us:List aq):=kq (c6 x x (Xo st) (ZE st) (Zg st) .none kV doc pm an cdv ct) ⟨us,[]⟩
def bd1(h:∀kV doc pm an cdv ct a0,bA x st kV doc pm an cdv ct [a0]=cA ((N.take n).zip [a0]))(hl:(N.take n).length=1:=by rfl):Jd ⟨x,st,N,n⟩:=λkV doc pm an cdv ct us e=>match us,e.trans hl with|[a0],_=>h kV doc pm an cdv ct a0
def bd2(h:∀kV doc pm an cdv ct a0 a1,bA x st kV doc pm an cdv ct [a0,a1]=cA ((N.take n).zip [a0,a1]))(hl:(N.take n).length=2:=by rfl):Jd ⟨x,st,N,n⟩:=λkV doc pm an cdv ct us e=>match us,e.trans hl with|[a0,a1],_=>h kV doc pm an cdv ct a0 a1
def bd3(h:∀kV doc pm an cdv ct a0 a1 a2,bA x st kV doc pm an cdv ct [a0,a1,a2]=cA ((N.take n).zip [a0,a1,a2]))(hl:(N.take n).length=3:=by rfl):Jd ⟨x,st,N,n⟩:=λkV doc pm an cdv ct us e=>match us,e.trans hl with|[a0,a1,a2],_=>h kV doc pm an cdv ct a0 a1 a2
def bd4(h:∀kV doc pm an cdv ct a0 a1 a2 a3,bA x st kV doc pm an cdv ct [a0,a1,a2,a3]=cA ((N.take n).zip [a0,a1,a2,a3]))(hl:(N.take n).length=4:=by rfl):Jd ⟨x,st,N,n⟩:=λkV doc pm an cdv ct us e=>match us,e.trans hl with|[a0,a1,a2,a3],_=>h kV doc pm an cdv ct a0 a1 a2 a3
end
inductive FnsAt(K:aj):List FR->List aw->List bK->Prop
 |nil:FnsAt K [] [] []
 |cons {x:bc} {st:de} {N:List bc} {n:Nat} {a:aw} {rs:List FR} {as:List aw} {fds:List bK} {oc kV dc pm cd ct:aq} {od an:Option aw} {sl:Array (Option aq)}
   (h1:fM K br x=aa (aa<|.ref a)) (h2:K.lookup a=aa ⟨oc,od,.func<|c6 x x (Xo st) (ZE st) (Zg st) .none kV dc pm an cd ct,sl⟩)
   (h3:gN K cd x=ah) (h4:eL K (.ref a)=ah) (h5:Jd ⟨x,st,N,n⟩) (t:FnsAt K rs as fds) :
   FnsAt K (⟨x,st,N,n⟩::rs) (a::as) (c6 x x (Xo st) (ZE st) (Zg st) .none kV dc pm an cd ct::fds)
inductive ZsAt(K:aj):List bc->Prop
 |nil:ZsAt K []
 |cons {x:bc} {zs:List bc} (h:fM K br x=aa ac) (t:ZsAt K zs):ZsAt K (x::zs)
inductive GsAt(K:aj):List (bc×Gv)->Prop
 |nil:GsAt K []
 |cons {x:bc} {n:Int} {u:nJ} {gs:List (bc×Gv)} (h:fM K br x=aa (aa<|.int n u)) (t:GsAt K gs):GsAt K ((x,.int n)::gs)
 |tab {x:bc} {a:aw} {es:Array fU} {n:Nat} {tb:List (Int×Int)} {gs:List (bc×Gv)} (h:fM K br x=aa (aa<|.ref a)) (h2:K.lookup a=aa ⟨.type "dict",ac,.dict es n,#[]⟩) (h3:Sd.Xq es.toList tb) (h4:(a == cM)=ai) (t:GsAt K gs):GsAt K ((x,.tab tb)::gs)
theorem GsAt.get{K:aj}{h:bF}{mg:bc->Option aq}(X:K.In h)(G:h.Ns br mg):∀{gs:List (bc×Gv)},GsAt K gs->∀y∈gs,Zfv K mg y.1 y.2
 |_,.nil,x,h=>by simp at h
 |_,.cons h t,x,m=>by
  rcases az.mp m with rfl|m
  ·exact⟨_,iF X G h⟩
  ·exact t.get X G x m
 |_,.tab h h2 h3 h4 t,x,m=>by
  rcases az.mp m with rfl|m
  ·exact⟨_,λP w=>Sd.ZbS h2 h3 h4,iF X G h⟩
  ·exact t.get X G x m
theorem FnsAt.get{K:aj}{fd0:bK}:∀{fs:List FR}{as:List aw}{fds:List bK},FnsAt K fs as fds->∀i r,fs[i]?=aa r->
  fM K br r.x=aa (aa<|.ref<|as.getD i 0)/\Fun K r.x r.x r.st (as.getD i 0) (fds.getD i fd0)/\Jd r
 |_,_,_,.nil,i,r,e=>by simp at e
 |_,_,_,.cons h1 h2 h3 h4 h5 t,0,r,e=>by
  simp at e;subst e;exact⟨h1,Zeb h2 h3 h4,h5⟩
 |_,_,_,.cons h1 h2 h3 h4 h5 t,i+1,r,e=>by
  obtain⟨a,b,c⟩:=t.get i r (by simpa using e)
  exact⟨by simpa using a,by simpa using b,c⟩
theorem ZsAt.get{K:aj}:∀{zs:List bc},ZsAt K zs->∀x∈zs,fM K br x=aa ac
 |_,.nil,x,h=>by simp at h
 |_,.cons h t,x,m=>by
  rcases az.mp m with rfl|m
  ·exact h
  ·exact t.get x m
section
variable{X:Cx}{xw:Nat->Hp->Prop}{C:Calls}{e a b:Expr}{i j:E}{es:List Expr}{is:List E}{pos p p2 p3:d8}{fs:List FR}{zs:List bc}{gs:List (bc×Gv)}{F:List Fn}{f:Nat->aw}{fd:Nat->bK}{d:Nat}
def Top.no{K:aj}{mg:bc->Option aq}{x:bc}(T:Top K mg fs zs gs f fd)(h:zs.contains x=ah):mg x=ac:=T.z x (by simpa using h)
noncomputable def csB(sc:c7)(N0:List bc)(scope:c7)(N:List bc)(cap:List Nat)(nl:Nat):Bool:=
 ((N.take nl).all (λx=>ae<|scope.names.lookup x=aa .local)&&(ae (N.length=nl+cap.length)&&(cap.zipIdx.all (λp=>ae (N[nl+p.2]?=N0[p.1]?)&&ae ((N0[p.1]?).map (λx=>ae<|(x,bG)∈scope.names)=aa ah)) &&
  ((match scope.kind with|.function=>ah|_=>ai)&&scope.names.all λy=>ae (y.2≠.cell)&&((!decide (y.2=.local)||decide (scope.names.lookup y.1=aa .local))&&(!decide (y.2=.free)||((ae (sc.names.lookup y.1=aa .cell)||decide (sc.names.lookup y.1=aa .free))&&ae (scope.names.lookup y.1≠aa .local))))))))
def ZS(h:csB sc N0 scope N cap nl=ah):CompScope sc N0 scope N cap nl:=by
 unfold csB at h;simp only[aE,gz,iz,T2,decide_eq_false_iff_not,aV]at h;obtain⟨_,h1,h2,h3,h4⟩:=h;refine⟨?_,λy hy=>(h4 y hy).1,λy hy z=>?_,λy hy z=>?_,λy hy z=>?_,h1,h2⟩
 ·grind
 ·grind
 ·grind
 ·grind
end
end Gn
namespace Sd
open PySem PySem.Spec PyProof.Rows L2
def Fly(h:bF)(e T C:aw):Prop:=
 ∃(oe:dB)(vs:Array aq)(a0:aq)(oT:dB)(ts:Array aq),h.get? e=aa oe/\(oe.cls=.ref C/\vs[0]?=aa a0)/\oe.data=.fields vs/\vs[1]?=aa (.ref T)/\T≠e/\h.get? T=aa oT/\oT.data=.fields ts/\ts[3]?=aa .none
noncomputable def CX1(P:bq)(w:bC):CXT:=λouter H s E e s'=>
 ∃(a T C:aw)(H':Hp),e=.ref a/\s'.os=s.os/\fY s'.gens/\Un (frs outer) [] H H' s.heap s'.heap/\HOk P w H' s'.heap/\Fly s'.heap a T C/\s.heap.get? a=ac/\s.heap.get? T=ac/\H' a=ac/\H' T=ac/\E (.ref C) ac H'
def Ya.there(x:Ya P w H h a o):∃u,h.get? a=aa u:=by
 cases o with|lst xs=>obtain⟨_,_,_,_,e⟩:=x;exact⟨_,e⟩|tup xs=>obtain⟨_,_,_,_,e,_⟩:=x;exact⟨_,e⟩|dK kvs=>obtain⟨_,_,_,_,o,_,_,e,_⟩:=x;exact⟨_,e⟩|dT kvs=>obtain⟨_,_,_,_,o,_,_,e,_⟩:=x;exact⟨_,e⟩|own y=>obtain⟨_,e⟩:=x;exact⟨_,e⟩|frz ob u=>obtain⟨e,_⟩:=x;exact⟨_,e⟩|tbl ps=>exact⟨_,(x)⟩
theorem FunFrames.rebase{h h' base base':bF}:∀{l:List Env},h.FunFrames base l->(∀b∈frs l,∀o,h.get? b=aa o->∃sl,h'.get? b=aa {o with slots:=sl})->(∀b∈frs l,base'.get? b=ac)->h'.FunFrames base' l
 |[],_,_,_=>trivial
 |env::l,⟨hk,⟨L,o,hf,hn,ho,hd⟩,hr⟩,k,n=>by
  have hm:L∈frs (env::l):=by unfold frs;rw[bJ,hf];exact am ..
  obtain⟨sl,e⟩:=k L hm o ho;refine⟨hk,⟨L,_,hf,n L hm,e,hd⟩,FunFrames.rebase hr (λb hb=>k b ?_) λb hb=>n b ?_⟩
  all_goals unfold frs at hb ⊢;rw[bJ,hf];exact al _ hb
structure DefX(X:Cx)(E:XK):Prop where
 xe:X.xe=λe s'=>aW (aZ X.prog X.w) X.A (leaving X.env e) (λ_ s''=>CX1 X.prog X.w X.outer X.H₀ X.s₀ E e s'') (λe' s''=>CX1 X.prog X.w X.outer X.H₀ X.s₀ E e' s'') s'
 st:X.stack=X.env::X.outer
 fr:X.env.frame=aa X.env.locals
 ex:X.ex=[]
section
variable{X:Cx}{E:XK}{pq:List (aw×dB)}{σ:L2.St}{H H':Hp}{s s':au}
def Inv.outside(D:DefX X E)(I:Inv X pq σ H s)(un:Un (frs X.stack) [] H H' s.heap s'.heap)(hos:s'.os=s.os)(bare:fY s'.gens)(hok:HOk X.prog X.w H' s'.heap)(na:s.heap.get? a=ac)(Ha:H' a=ac)
   (hh:∀b∈hid,b∈frs X.stack\/(s.heap.get? b=ac/\H' b=ac))(st:(dE s'.heap hid).StaysIn h')(up:s'.heap.UpToSlots h')(fl:Fly h' a T C)(hT:(dE s'.heap hid).get? T=ac)(hE:E (.ref C) ac H') :
  CX1 X.prog X.w X.outer X.H₀ X.s₀ E (.ref a) {s' with heap:=h' }:=by
 have U1:=I.base;rw[D.ex]at U1;have nj:∀b∈frs X.outer,b∈frs X.stack:=λb hb=>by
  rw[D.st];unfold frs at hb ⊢;rw[bJ,D.fr];exact al _ hb
 have own:∀b o,X.s₀.heap.get? b=aa o->b∈frs X.stack->b∈frs X.outer:=λb o e hb=>by
  rw[D.st]at hb;unfold frs at hb ⊢;rw[bJ,D.fr]at hb;rcases az.mp hb with z|z
  ·exact T7 (aJ e) (by rw[z];exact iO I.ok.above)
  ·exact z
 have nx:∀b:aw,b∉([]:List aw):=λb=>by simp
 have frN:∀b∈frs X.stack,H' b=ac:=λb hb=>by
  obtain⟨_,o,ho,_⟩:=I.stack.mem hb;exact un.free b o ho (I.stkFree b hb)<|nx b
 have hidN:∀b∈hid,H' b=ac:=λb hb=>by grind
 have old:∀b o,s.heap.get? b=aa o->b∉frs X.stack->b∉hid:=λb o e hb hm=>by grind
 have keep:=λb u e n=>st b u<|eZ _ e n
 have nof:∀b∈frs X.stack,∀o,s'.heap.get? b=aa o->∀vs,o.data≠.fields vs:=λb hb o e=>by
  obtain⟨_,o1,ho,hd⟩:=I.stack.mem hb;obtain⟨sl,e1⟩:=un.any ho (I.stkFree b hb)<|nx b;rw[e]at e1;cases e1;exact hd
 have frS:=λb hb o e=>up b o e<|nof b hb o e
 have trk:∀b u,H' b=aa u->b∉hid:=λb u e hm=>by grind
 have hT2:∀o,s'.heap.get? T=aa o->H' T=ac/\s.heap.get? T=ac\/False:=λo e=>by
  by_cases hm:T∈hid
  ·rcases hh T hm with z|z
   ·obtain⟨oe,vs,a0,oT,ts,_,_,_,_,_,g1,g2,_⟩:=fl
    obtain⟨sl,e2⟩:=frS T z o e;rw[g1]at e2;cases e2;exact T7 g2<|nof T z o e ts
   ·grind
  ·rw[eZ _ e hm]at hT;cases hT
 have there:∀b o,X.s₀.heap.get? b=aa o->∃o',s'.heap.get? b=aa o':=λb o e=>by
  obtain⟨o1,e1⟩:=U1.there b o e<|nx b;exact un.there b o1 e1<|nx b
 refine⟨a,T,C,H',rfl,hos.trans I.os,bare,⟨λb o e n hb _=>?_,λb o e n hb _=>?_,λb o e n _=>?_,λb o e _=>?_,λb xs e=>un.tups b xs<|U1.tups b xs e,λb o u e=>un.frzs b o u<|U1.frzs b o u e,λb ps e=>?_⟩,λc o e=>?_,fl,?_,?_,Ha,?_,hE⟩
 ·have e1:=U1.keep b o e n hb (nx b)
  have hn:=λz=>hb<|own b o e z
  exact keep b o (un.keep b o e1 (U1.free b o e n<|nx b) hn<|nx b)<|old b o e1 hn
 ·obtain⟨sl,e1⟩:=U1.slot b o e n hb (nx b)
  obtain⟨sl2,e2⟩:=un.slot b _ e1 (U1.free b o e n<|nx b) (nj b hb)<|nx b;obtain⟨sl3,e3⟩:=frS b (nj b hb) _ e2;exact⟨sl3,e3⟩
 ·obtain⟨o1,e1⟩:=U1.there b o e (nx b)
  exact un.free b o1 e1 (U1.free b o e n<|nx b)<|nx b
 ·obtain⟨o1,e1⟩:=U1.there b o e (nx b)
  obtain⟨o2,e2⟩:=un.there b o1 e1<|nx b;by_cases hm:b∈frs X.stack
  ·grind
  ·grind
 ·obtain⟨m1,e1⟩:=U1.tbls b ps e
  obtain⟨m2,e2⟩:=un.tbls b _ e1;exact⟨m1++m2,by grind⟩
 ·refine(hok c o e).stay (λb u hb q=>?_) (λ_ q=>q) λ_ _ q=>q
  rcases hb with rfl|hb
  ·grind
  ·grind
 ·cases q:X.s₀.heap.get? a with
  |none=>rfl
  |some o=>
   obtain⟨o1,e1⟩:=U1.there a o q<|nx a;rw[na]at e1;cases e1
 ·cases q:X.s₀.heap.get? T with
  |none=>rfl
  |some o=>
   obtain⟨o1,e1⟩:=U1.there T o q<|nx T;obtain⟨o2,e2⟩:=un.there T o1 e1<|nx T;rcases hT2 o2 e2 with z|z
   ·grind
   ·exact z.elim
 ·cases q:H' T with
  |none=>rfl
  |some u=>
   obtain⟨o,e⟩:=Ya.there<|hok T u q;rcases hT2 o e with z|z
   ·grind
   ·exact z.elim
def Zfo(D:DefX X E):Qb (CX1 X.prog X.w) X E:=by
 rintro pq σ H s e s' I ⟨a,T,C,H',rfl,os,bare,un,hok,fly,na,nT,Ha,HT,hE⟩
 rw[D.xe];have nx:∀b:aw,b∉([]:List aw):=λb=>by simp
 have hfr:X.A.frames=aa (X.env::X.outer):=by rw[<-D.st];exact I.ok.frames
 let hid:=frs X.stack++[a,T]
 have hin:∀b∈frs X.stack,b∈hid:=λb hb=>cm _ hb
 have FF:s'.heap.FunFrames (dE s'.heap hid) (X.env::X.outer):=by
  rw[<-D.st];exact FunFrames.rebase I.stack (λb hb o e=>un.any e (I.stkFree b hb)<|nx b) λb hb=>ck _<|hin b hb
 obtain⟨oe,vs,a0,oT,ts,f1,f2,f3,f4,f5,f6,f7,f8⟩:=fly;refine wpAny_leaves_onW hfr D.fr ⟨λb o e=>ft _ e,ck _<|bi _<|am ..,FF,oe,vs,T,oT,ts,f1,f2,f3,f4,ck _<|bi _<|al _<|am ..,f5,f6,f7,f8⟩ λh' fl' up=>?_
 obtain⟨g1,_,_,oe',vs',T',oT',ts',e1,e2,e3,e4,e5,e6,e7,e8,e9⟩:=fl';refine Inv.outside D I un os bare hok na Ha (λb hb=>?_) g1 up ⟨oe',vs',a0,oT',ts',e1,e2,e3,e4,e6,e7,e8,e9⟩ e5 hE
 rcases bN.mp hb with z|z
 ·exact .inl z
 ·grind
end
end Sd
namespace Sd
open PySem PySem.Spec PyProof.Rows L2
open Ev (D Ob Zc Lc R E Sm Calls Walk Fl Fn Bop Cop Ty Bf Mf ev evs evo evt evw tst run runs)
noncomputable abbrev veM:List aq:=[.type "ValueError",.type "Exception",.type "BaseException",.type "object"]
structure Cls1(h:bF)(S C:aw):Prop where
 ob:∃bm N nm q bs hdct sn nj ab col dd k0 k1 k2 k3 k5 mN,h.get? C=aa (excClassObj nm q C N bs bm hdct sn nj ab col dd k0 k1 k2 k3 k5 "ValueError.__new__")/\h.Ns N mN/\mN "__init__" = ac/\OwnTail h veM bm
section
variable{X:Cx}{E:XK}{S C:aw}{x:bc}{np cpos pos:d8}{e:Expr}{es:List Expr}{t:TA}
def Ze5(C:aw)(E:XK)(t:TA):TS:=λ_ σ H=>t σ H λvs H'=>vs.length<=aY/\E (.ref C) ac H'
def jM(D:DefX X E)(hc:X.calm=ah)(O:Cls1 X.base S C)(hg:Gl X x)(hm:X.mg x=aa (.ref C))(ha:PA X (e::es) t)(hd:(x == ("__debug__" : bc))=ai)
  (he:aC (e::es) X.env=(ai,cb e X.env)::aC es X.env)(hpl:(cX cpos<|aC es X.env).any (·.1)=ai) :
  PS X (.Raise (aa<|.Call (.Name x np) (e::es) [] cpos) ac pos) (Ze5 C E t):=by
 intro pq s σ H Dn I h;obtain⟨bm,N,nm,q,bs,hdct,sn,nj,ab,col,dd,k0,k1,k2,k3,k5,mN,hC,hN,hi,tl⟩:=O.ob;refine wpAny_Raise_call_subT (C:=C) (nm:=nm) (q:=q) (N:=N) (bs:=bs) (hdct:=hdct) (sn:=sn) (sub:=nj) (ab:=ab) (col:=col) (dd:=dd) (k0:=k0) (k1:=k1) (k2:=k2) (k3:=k3) (k5:=k5)
  PySem.F.excBase_ValueError (mN:=mN) (tl.hasType PySem.F.excBase_ValueError.hasBase) (I.ok.hd hc) (by rw[he];show(ai||(cX cpos<|aC es X.env).any (·.1))=ai;rw[hpl];rfl) hi (Vo I hg hm ⟨rfl,?_⟩ hd)
 have ha':=ha cpos pq s σ H _ I h;rw[he]at ha' ⊢;refine Calls.evalArgs_plain<|cB ha' (λus s2 ⟨vs,H2,I2,r2,hl,hE⟩=>⟨rfl,by rw[<-r2.length];exact hl,I2.bk _ _ hC,hN.keeps I2.bk,tl.keeps I2.bk,λh' a hx=>?_⟩) λ_ _ y=>y
 rw[D.xe];have hfr:X.A.frames=aa (X.env::X.outer):=by rw[<-D.st];exact I2.ok.frames
 let hid:=frs X.stack
 have FF:s2.heap.FunFrames (dE s2.heap hid) (X.env::X.outer):=by
  rw[<-D.st];exact FunFrames.rebase I2.stack (λb hb o e=>⟨o.slots,e⟩) λb hb=>ck _ hb
 have nx:∀b:aw,b∉([]:List aw):=λb=>by simp
 refine wpAny_leaves_madeW hfr D.fr (λb o e=>ft _ e) FF hx λh2 t fl _ _ up=>?_
 obtain⟨g1,_,_,oe,vs',T,oT,ts,e1,e2,e3,e4,e5,e6,e7,e8,e9⟩:=fl;have na:=hx.new;have Ha:H2 a=ac:=by
  cases q:H2 a with
  |none=>rfl
  |some u=>
   obtain⟨o,e⟩:=Ya.there<|I2.hok a u q;rw[na]at e;cases e
 exact Inv.outside (s':=s2) (H':=H2) D I2 (Un.kept λb o e=>e) rfl I2.bare I2.hok na Ha (λb hb=>.inl hb) g1
  ((bF.UpToSlots.of_keeps hx.keeps).trans up) (T:=T) ⟨oe,vs',.ref t,oT,ts,e1,e2,e3,e4,e6,e7,e8,e9⟩ e5 hE
variable{tj:TJ}
end
end Sd
namespace Sd
open PySem PySem.Spec PyProof.Rows L2
open Ev (D Ob Zc Lc R Sm Calls Walk Fl Fn Bop Cop Ty Bf Mf ev evs evo evt evw tst run runs)
def xwE(cl:List aw)(E:XK):Nat->Hp->Prop:=λc H=>∃C,cl[c]?=aa C/\E (.ref C) ac H
def End.ex_mono{α β:Type}{K:aj}{xw xw':Nat->Hp->Prop}{ρ:List aw}{H:Hp}{rep:List aw->Hp->α->β->Prop}{Q:β->Hp->Prop}{r:R α}(k:∀c H,xw c H->xw' c H)(h:End K xw rep ρ H Q r):End K xw' rep ρ H Q r:=by
 cases r with|ok d S=>exact h|ex c S=>exact λρ' H' f st=>k c H'<|h ρ' H' f st|no=>exact h
section
variable{X:Cx}{E:XK}{S C:aw}{x:bc}{np cpos pos jp p:d8}{e v1 v2:Expr}{es rest:List Expr}{xw:Nat->Hp->Prop}{cl:List aw}{Cc:Calls}{n m:Nat}{is:List Ev.E}{i:Ev.E}
def je(D:DefX X E)(hc:X.calm=ah)(O:Cls1 X.base S C)(hn:cl[n]?=aa C)(hg:Gl X x)(hm:X.mg x=aa (.ref C))(hd:(x == ("__debug__" : bc))=ai)
  (he:aC [.Constant (.str y) j p] X.env=(ai,cb (.Constant (.str y) j p) X.env)::aC [] X.env)(hpl:(cX cpos<|aC [] X.env).any (·.1)=ai) :
  CS X (xwE cl E) Cc (.Raise (aa<|.Call (.Name x np) [.Constant (.str y) j p] [] cpos) ac pos) (.raise n []):=
 PS.imp (jM D hc O hg hm (ZF Gw Yt he) hd he hpl) λDn σ H ⟨ρ,l,S,st,lr,h⟩=>by
  refine⟨by show 1<=aY;decide,?_⟩
  obtain⟨C',e1,e2⟩:=h ρ H (Fut.refl _ _) st;rw[hn]at e1;cases e1;exact e2
def spX(K:aj)(cl:List aw)(C:Calls)(n:Nat):Sp:=λvs H Q E=>∃ρ ds S,St3 K ρ S H/\Rq ρ H ds vs/\End K (xwE cl E) Rep ρ H Q (C n ds S)
def zx{kk:Nat}{f:aw}{fd:bK}{ps:List bc}(F:FnOk X.prog X.w X.K X.mg X.base (CX1 X.prog X.w) kk f fd ps (spX X.K cl Cc n))(hr:Room kk X.A)(hx:Qb (CX1 X.prog X.w) X E)(hw:∀c H,xw c H->xwE cl E c H)(hm:X.mg x=aa (.ref f))(hk:eL X.K (.ref f)=ah)(hb:Ua X.K fd ps [])
  (ha:CA X xw Cc (e::es) is)(hg:Gl X x)(hdb:(x == ("__debug__" : bc))=ai)(he:aC (e::es) X.env=(ai,cb e X.env)::aC es X.env)(hpl:(cX pos<|aC es X.env).any (·.1)=ai) :
  CE X xw Cc (.Call (.Name x p) (e::es) [] pos) (.call n is):=
 PE.imp (ZcS F hr hg hm hk hb .nil hx ha hdb he hpl) λσ H Q ⟨ρ,l,S,st,lr,h⟩=>
  ⟨ρ,l,S,st,lr,End.bind (h) λxs S1 ρ1 H1 vs f1 st1 r1 h1=>by
   rw[ee];exact⟨ρ1,xs,S1,st1,r1,End.ex_mono hw h1⟩⟩
end
section
variable{P:bq}{w:bC}{K:aj}{mg:bc->Option aq}{base:bF}{cl:List aw}
def jX{F:List Fn}{n d:Nat}{fn:Fn}{x qual:bc}{st:de}{f:aw}{fd:bK}{N ps:List bc}{k:Nat}(hF:F[n]?=aa fn)(hns:fn.ns=N.length)(hps:fn.ps=ps.length)(Fu:Fun K x qual st f fd)(S:FnScope N ps (Zg st))
  (hb:∀(cdv:aq)(A:bL)(outer:List Env)(s:au)(H:Hp)(E:XK),Room k (A.deeper<|cN qual (Zg st) s.heap.objs.size f cdv)->
   CSs (Wj (CX1 P w) P w K mg base N qual (Zg st) f cdv A outer s H E) (xwE cl E) (Ev.Zt F d) (ZE st) fn.body) :
  FnOk P w K mg base (CX1 P w) (k+1) f fd ps (spX K cl (Ev.Zt F<|d+1) n):=by
 have eq:∀ds S,Ev.Zt F (d+1) n ds S=if ds.length=fn.ps then(runs (Ev.Zt F d) fn.body (Ev.start fn.ns ds) S).bind λf S=>match f with
    |.ret x=>.ok x S
    |.nx _=>.ok .non S
    |_=>.no
   else .no:=λds S=>by
  rw[Ev.Zt,hF]
  all_goals rfl
 obtain⟨oc,od,kV,doc,pm,an,cdv,ct,osl,rfl,lk,hcd⟩:=Fu.ex;refine Zdm lk hcd S (λvs H Q E ⟨ρ,ds,S,st,r,h⟩=>?_) λA outer s H vs Q E hr ⟨ρ,ds,S',st,r,h⟩=>⟨_,hb cdv A outer s H E hr,ρ,Ev.start fn.ns ds,S',st,LocR.start r N fn.ns hns,?_⟩
 ·rw[eq]at h
  obtain⟨hl,_⟩:=End.guard h;rw[r.length,hl,hps]
 ·rw[eq]at h
  obtain⟨hl,h⟩:=End.guard h;cases q:runs (Ev.Zt F d) fn.body (Ev.start fn.ns ds) S' with
  |no=>rw[q]at h;exact h
  |ex c S2=>rw[q]at h;exact h
  |ok fl S2=>
   rw[q]at h;cases fl with|ret x=>exact λρ' H' v g st r=>h ρ' H' v g st r|nx l=>exact λρ' H' σ' g st lr=>h ρ' H' .non g st YT|brk l=>exact False.elim h|cnt l=>exact False.elim h
def jd :FnOk P w K mg base (CX1 P w) k f fd ps (spX K cl (Ev.Zt F 0) n):=
 ⟨λvs H Q E ⟨ρ,ds,S,st,r,h⟩=>False.elim h,λA outer s H args us vs Q E hr e0 hb r ⟨ρ,ds,S,st,r',h⟩=>False.elim h⟩
def ZbD :DefX (Wj (CX1 P w) P w K mg base N qual sc f cdv A outer s H E) E:=⟨rfl,rfl,rfl,rfl⟩
def ZfU :Qb (CX1 X.prog X.w) X E0:=λpq σ H s e s' I ⟨_,_,_,_,_,_,_,_,_,_,_,_,_,_,z⟩=>z.elim
end
end Sd
namespace Sd
open PySem PySem.Spec PyProof.Rows L2 PySem.W
structure ExK(K:Frag)(C:aw):Prop where
 cd:(clsIn K C).isSome=ah
 ga:m5 K (.ref C) "__getattribute__" = aa (aa<|.builtin "BaseException.__getattribute__")
 gx:m5 K (.ref C) "__getattr__" = aa ac
 gc:m5 K (.ref C) "__class__" = aa (aa<|.builtin "object.__class__")
 be:mroIn K C (.type "BaseException")=aa ah
 ob:mroIn K C (.type "object")=aa ah
section
variable{prog:bq}{w:bC}{A:bL}{E:aq->au->Prop}{h:bF}{g:Array mR}{d:Drawn}{t:Nat}{os:OsState}{a C:aw}{o:dB}{K:Frag}
def Zby{R:nG->au->Prop}(X:K.In h)(k:ExK K C)(hx:h.get? a=aa o)(hc:o.cls=.ref C)(hq:R (.ok<|.ret<|.ref C) ⟨h,g,d,t,os⟩) :
  fE (aZ prog w) A (.call (.builtin "getset_descriptor.__get__") ⟨[.builtin "object.__class__",.ref a,.ref C],[]⟩) R ⟨h,g,d,t,os⟩:=by
 have hT5:=fP;have L1:Looks (aZ prog w) h (isSubtype (.ref C)<|.type<|".".intercalate ("object.__class__".cutAt '.').dropLast) ah:=by
  rw[F.owner_object_class];exact looks_mroIn X k.ob
 refine gm F.slot_gs_get.plain F.entry_gs_get<|F.slot_gs_get.check _ _ _ _ _ _ _ _ hT5 (F.args_gs_get _ _ _) ?_
 repeat(any_goals (first|assumption|(with_reducible refine eJ hx ?_;rw[hc])|with_reducible refine L1.at ?_|wp_step))
 refine⟨Code.quiet_builtin _<|by decide +kernel,i8 F.entry_object_class ?_⟩
 repeat(any_goals (first|assumption|(with_reducible refine eJ hx ?_;rw[hc])|wp_step))
def qg{Q:Unit->au->Prop}(X:K.In h)(k:ExK K C)(hx:h.get? a=aa o)(hc:o.cls=.ref C)(hq:Q () ⟨h,g,d,t,os⟩) :
  aW M A (checkBuiltinCall "BaseException.__getattribute__" ⟨[.ref a,nameV],[]⟩) Q E ⟨h,g,d,t,os⟩:=by
 have hk:builtinKind "BaseException.__getattribute__" = aa .slot:=by decide +kernel
 have hsplit:splitId "BaseException.__getattribute__" = aa ("BaseException","__getattribute__"):=by decide +kernel
 have L1:Looks M h (isSubtype (.ref C)<|.type "BaseException") ah:=looks_mroIn X k.be;have ha:=F.args_bexc_ga (.ref a) nameV;simp only[checkBuiltinCall,hk,hsplit];refine af ?_;unfold isInstance
 repeat(first|(with_reducible refine eJ hx ?_;rw[hc])|with_reducible refine L1.at ?_|wp_step)
 exact hq
def qo{Q:Fin->au->Prop}(X:K.In h)(k:ExK K C)(hx:h.get? a=aa o)(hc:o.cls=.ref C)(hq:Q (.done<|.ret<|.ref C) ⟨h,g,d,t,os⟩) :
  aW (aZ prog w) A (eF.«object.__getattribute__» ⟨[.ref a,.str "__class__" tk],[]⟩) Q E ⟨h,g,d,t,os⟩:=by
 have hT5:=fP;have f5:=fP;have f6:=F.slot_gs_get.lookup;have f7:=F.slot_gs_set.lookup;have L1:Looks (aZ prog w) h (gT (.ref C) "__class__") (aa<|.builtin "object.__class__"):=lU X k.gc
 repeat(any_goals (first|assumption|(with_reducible refine eJ hx ?_;rw[hc])|with_reducible refine L1.at ?_|wp_step))
 refine Zby X k hx hc ?_
 repeat(any_goals (first|assumption|wp_step))
def ZeF{Q:aq->au->Prop}(X:K.In h)(k:ExK K C)(hx:h.get? a=aa o)(hc:o.cls=.ref C)(hq:Q (.ref C) ⟨h,g,d,t,os⟩) :
  aW (aZ prog w) A (getAttrBy (.ref a) (.str "__class__" tk) ai) Q E ⟨h,g,d,t,os⟩:=by
 have f3:=PySem.F.excAttr_ValueError.ga.bind<|.ref a;have hx2:(iG "BaseException.__getattribute__" == iG "object.__getattribute__")=ai:=by decide +kernel
 have hx1:(onTheHeap (cF C)&&iG "BaseException.__getattribute__" == iG "object.__getattribute__")=ai:=by rw[hx2];rfl
 have L1:Looks (aZ prog w) h (gT (.ref C) "__getattribute__") (aa<|.builtin "BaseException.__getattribute__"):=lU X k.ga;have L2:Looks (aZ prog w) h (gT (.ref C) "__getattr__") ac:=lU X k.gx
 repeat(any_goals (first|assumption|(with_reducible refine eJ hx ?_;rw[hc])|with_reducible refine L1.at ?_|with_reducible refine L2.at ?_|wp_step))
 refine gm PySem.F.excAttr_ValueError.ga.plain F.entry_bexc_ga<|qg X k hx hc<|qo X k hx hc ?_
 repeat(any_goals (first|assumption|wp_step))
def u7{Q:Option aq->au->Prop}(X:K.In h)(k:ExK K C)(hx:h.get? a=aa o)(hc:o.cls=.ref C)(hq:Q (aa<|.ref C) ⟨h,g,d,t+1,os⟩) :
  aW (aZ prog w) A (mZ (.ref a) "__class__") Q E ⟨h,g,d,t,os⟩:=by
 unfold mZ getAttrBy?
 repeat(any_goals (first|assumption|with_reducible apply ZeF X k hx hc|wp_step))
end
def jc{K:Frag}{a C:aw}(k:ExK K C):KitX K (.ref a) (.ref C) (λh=>∃o,h.get? a=aa o/\o.cls=.ref C) where
 ty:=λ_ _ _ ⟨o,hx,hc⟩=>hc▸(Looks.ld hx).andThen .now
 it:=λ_ _ X _=>by
  have hcD:=k.cd;unfold clsIn at hcD;split at hcD
  ·rename_i c' d' cd' sl' ho
   intro A' Q' E' s' kk q;exact af<|wpAny_loadPart (kk _ _<|X _ _ ho)<|ax q
  ·cases hcD
 ne:=λh tp dd its n sl X htp=>by
  have hcD:=k.cd;refine Bool.eq_false_iff.mpr λq=>?_
  have e:=cF.inj<|beq_iff_eq.mp q;subst e;unfold clsIn at hcD;split at hcD
  ·rename_i c' d' cd' sl' ho
   have z:=(X _ _ ho).symm.trans htp;cases z
  ·cases hcD
 ca:=λ{_ _ _ _ _ s} X ⟨o,hx,hc⟩ q=>by obtain⟨h,g,d,t,os⟩:=s;exact u7 X k hx hc q
end Sd
namespace Sd
open PySem PySem.Spec PyProof.Rows L2
section
variable{X:Cx}{E:XK}{pq:List (aw×dB)}{σ:L2.St}{H:Hp}{s:au}
def Inv.slots(D:DefX X E)(I:L2.Inv X pq σ H s)(hh:∀b∈hid,b∈frs X.stack\/(X.s₀.heap.get? b=ac/\H b=ac/\∀p∈X.pn++pq,p.1≠b))
  (st:(dE s.heap hid).StaysIn h')(up:s.heap.UpToSlots h'):L2.Inv X pq σ H {s with heap:=h' }:=by
 have keep:=λb u e n=>st b u<|eZ _ e n
 have nof:∀b∈frs X.stack,∀o,s.heap.get? b=aa o->∀vs,o.data≠.fields vs:=λb hb o e=>by
  obtain⟨_,o1,ho,hd⟩:=I.stack.mem hb;rw[e]at ho;cases ho;exact hd
 have frS:=λb hb o e=>up b o e<|nof b hb o e
 have frH:=I.stkFree;have nj:∀b∈X.fs,b∈frs X.stack:=λb hb=>by
  change b∈frs X.outer at hb
  rw[D.st];unfold frs at hb ⊢;rw[bJ,D.fr];exact al _ hb
 have own:∀b o,X.s₀.heap.get? b=aa o->b∈frs X.stack->b∈X.fs:=λb o e hb=>by
  rw[D.st]at hb;show b∈frs X.outer;unfold frs at hb ⊢;rw[bJ,D.fr]at hb;rcases az.mp hb with z|z
  ·exact T7 (aJ e) (by rw[z];exact iO I.ok.above)
  ·exact z
 have hidN:=λb hb=>(hh b hb).elim (frH b) λz=>z.2.1
 have old:∀b o,X.s₀.heap.get? b=aa o->b∉X.fs->b∉hid:=λb o e hb hm=>by
  rcases hh b hm with z|z
  ·exact hb<|own b o e z
  ·rw[e]at z;cases z.1
 have U:=I.base;refine⟨I.ok,I.os,I.bare,⟨λb o e n hb hx=>keep b o (U.keep b o e n hb hx)<|old b o e hb,λb o e n hb hx=>?_,U.free,λb o e hx=>?_,U.tups,U.frzs,U.tbls⟩,?_,λy c e=>?_,I.free,I.freeC,λp hp=>?_,λc o e=>?_,I.len⟩
 ·obtain⟨sl,e1⟩:=U.slot b o e n hb hx
  obtain⟨sl2,e2⟩:=frS b (nj b hb) _ e1;exact⟨sl2,e2⟩
 ·obtain⟨o1,e1⟩:=U.there b o e hx
  by_cases hm:b∈frs X.stack
  ·obtain⟨sl,e2⟩:=frS b hm o1 e1
   exact⟨_,e2⟩
  ·refine⟨o1,keep b o1 e1 λz=>?_⟩
   rcases hh b z with q|q
   ·exact hm q
   ·rw[e]at q;cases q.1
 ·obtain⟨m,hn,hl⟩:=I.loc
  refine⟨m,up.ns hn,λi x v e1 e2 e3=>?_⟩
  obtain⟨u,r,q⟩:=hl i x v e1 e2 e3;refine⟨u,r,?_⟩;rcases q with q|⟨k,c,e,z⟩
  ·exact .inl q
  ·refine .inr ⟨k,c,e,?_⟩
   obtain⟨o,ho,hd⟩:=z;obtain⟨sl,e2⟩:=up c o ho λvs q=>by rw[hd]at q;cases q
   exact⟨_,e2,hd⟩
 ·obtain⟨v,o,ho,hd⟩:=I.cell y c e
  obtain⟨sl,e2⟩:=up c o ho λvs q=>by rw[hd]at q;cases q
  exact⟨v,_,e2,hd⟩
 ·obtain⟨e,n,ne,nf,d⟩:=I.pin p hp
  refine⟨keep _ _ e λz=>?_,n,ne,nf,d⟩
  rcases hh p.1 z with q|q
  ·rw[D.st]at q;unfold frs at q;rw[bJ,D.fr]at q
   rcases az.mp q with q|q
   ·exact ne q
   ·exact nf q
  ·exact q.2.2 p hp rfl
 ·refine(I.hok c o e).stay (λb u hb q=>?_) (λ_ q=>q) λ_ _ q=>q
  have nh:∀b u,H b=aa u->b∉hid:=λb u e hm=>by rw[hidN b hm]at e;cases e
  rcases hb with rfl|hb
  ·exact keep _ u q<|nh _ _ e
  ·exact keep _ u q<|nh _ _ hb
def Inv.freeze(I:L2.Inv X pq σ H s)(ha:s.heap.get? a=aa o)(Ha:H a=ac)(n0:X.s₀.heap.get? a=ac)(hl:a≠X.env.locals)(hc:∀x c,X.env.cells.lookup x=aa c->c≠a)(hp:∀p∈X.pn++pq,p.1≠a) :
  L2.Inv X pq σ (upd H a<|.frz o<|.own a) s:=by
 have nu:∀b u,H b=aa u->upd H a (.frz o<|.own a) b=aa u:=λb u e=>by rw[Zn λz=>by rw[z,Ha]at e;cases e];exact e
 have nn:∀b,b≠a->H b=ac->upd H a (.frz o<|.own a) b=ac:=λb z e=>by rw[Zn z];exact e
 have U:=I.base;refine⟨I.ok,I.os,I.bare,⟨U.keep,U.slot,λb o e n hx=>nn b (λz=>by rw[z,n0]at e;cases e)<|U.free b o e n hx,U.there,λb xs e=>nu _ _<|U.tups b xs e,λb o u e=>nu _ _<|U.frzs b o u e,λb ps e=>?_⟩,I.loc,I.cell,nn _ (Ne.symm hl) I.free,λx c e=>nn _ (hc x c e)<|I.freeC x c e,λp hp'=>?_,λc u e=>?_,I.len⟩
 ·obtain⟨more,e1⟩:=U.tbls b ps e
  exact⟨more,nu _ _ e1⟩
 ·obtain⟨e,n,r⟩:=I.pin p hp'
  exact⟨e,nn _ (hp p hp') n,r⟩
 ·by_cases z:c=a
  ·subst z
   rw[Zr]at e;cases e;exact⟨ha,_,ha⟩
  ·rw[Zn z]at e
   exact(I.hok c u e).stay (λb v hb q=>q) (λ_ q=>nu _ _ q) λ_ _ q=>nu _ _ q
def ZcK{E:aq->au->Prop}{Q:Unit->au->Prop}(I:L2.Inv X pq σ H s)(hN:X.N.Nodup)(hi:X.N[i]?=aa n)(hk:X.env.kindOf n=aa .local)
  (h:∀s',L2.Inv X pq (σ.set i ac) H s'->Q () s'):aW M A (do bindName X.env n .none;unbindBehindTheSuite X.env n pos) Q E s:=by
 obtain⟨m,hn,hl⟩:=id I.loc;have hcls:(X.env.scope.kind == .class||(X.env.scope.kind == .module&&X.env.locals != X.env.globals))=ai:=by rw[I.ok.kind];rfl
 have hiσ:i<σ.length:=by rw[I.len];exact(ay.mp hi).1
 refine wpAny_nameGoes_keeps hk hn hcls λh' v hn' hs=>?_
 obtain⟨oL,_,_,hoL,_⟩:=id hn;have ab:∀b o,X.s₀.heap.get? b=aa o->b≠X.env.locals:=λb o e=>bf<|aQ (aJ e) I.ok.above
 have U:=I.base;refine h _ ⟨I.ok,I.os,I.bare,⟨λb o e n hb hx=>(hs.2 b<|ab b o e).trans<|U.keep b o e n hb hx,λb o e n hb hx=>?_,U.free,λb o e hx=>?_,U.tups,U.frzs,U.tbls⟩,⟨_,hn',λj y v' e1 e2 e3=>?_⟩,λy c e=>?_,I.free,I.freeC,λp hp=>?_,λc o e=>?_,by simpa using I.len⟩
 ·obtain⟨sl,e1⟩:=U.slot b o e n hb hx
  exact⟨sl,(hs.2 b<|ab b o e).trans e1⟩
 ·obtain⟨o',e1⟩:=U.there b o e hx
  exact⟨o',(hs.2 b<|ab b o e).trans e1⟩
 ·by_cases hj:j=i
  ·subst hj
   rw[aS hiσ]at e2;cases e2
  ·rw[aH<|Ne.symm hj]at e2
   obtain⟨u',r',q⟩:=hl j y v' e1 e2 e3;refine⟨u',r',?_⟩;rcases q with⟨k,e⟩|⟨k,c,e,z⟩
   ·refine .inl ⟨k,?_⟩
    have:y≠n:=λe=>hj<|Qr hN e1<|e▸hi
    simp[this,e]
   ·exact .inr ⟨k,c,e,z.sameBut hs<|I.cne y c e⟩
 ·obtain⟨w',z⟩:=I.cell y c e
  exact⟨w',z.sameBut hs<|I.cne y c e⟩
 ·obtain⟨e,n,ne,nf,d⟩:=I.pin p hp
  exact⟨(hs.2 p.1 ne).trans e,n,ne,nf,d⟩
 ·refine(I.hok c o e).stay (λb u hb q=>(hs.2 b λz=>?_).trans q) (λ_ q=>q) λ_ _ q=>q
  subst z;rcases hb with rfl|hb
  ·rw[I.free]at e;cases e
  ·rw[I.free]at hb;cases hb
end
section
variable{X:Cx}{E:XK}{pq:List (aw×dB)}{σ:L2.St}{H:Hp}{s:au}
noncomputable abbrev Cx.held(X:Cx)(a:aw):Cx:={X with A:=X.A.mark<|aa<|.ref a,calm:=ai,xe:=λ_ _=>False}
theorem Inv.held(I:L2.Inv X pq σ H s):L2.Inv (Cx.held X a) pq σ H s:=
 ⟨⟨I.ok.mod,I.ok.kind,I.ok.glob,I.ok.blt,I.ok.above,I.ok.inj,I.ok.has,I.ok.cab,(λz=>by cases z),I.ok.frames,I.ok.stk,I.ok.exf,I.ok.bs,I.ok.bsz,I.ok.noex,I.ok.exfs,I.ok.funs,I.ok.frf⟩,I.os,I.bare,I.base,I.loc,I.cell,I.free,I.freeC,I.pin,I.hok,I.len⟩
def Inv.unheld(ok:X.Ok)(I:L2.Inv (Cx.held X a) pq σ H s):L2.Inv X pq σ H s:=
 ⟨ok,I.os,I.bare,I.base,I.loc,I.cell,I.free,I.freeC,I.pin,I.hok,I.len⟩
def ZeL{M:Model}{A:bL}{E:aq->au->Prop}{i:Nat}{x:bc}{pos:d8}{v:V}{Q:aq->au->Prop}(I:L2.Inv X pq σ H s)(hi:X.N[i]?=aa x)(hv:Vis X.env.scope x)(e:σ[i]?=aa (aa v))(h:∀u,Zz v u->Q u s)
  (hd:(x == ("__debug__" : bc))=ai)(hcd:(x == ("__classdict__" : bc))=ai):aW M A (cb (.Name x pos) X.env) Q E s:=by
 obtain⟨m,hn,hl⟩:=I.loc;obtain⟨u,r,l⟩:=hl i x v hi e hv;rcases l with⟨hk,hm⟩|⟨hk,c,hc,hcell⟩
 ·exact gL (gh I.ok.kind hk hn hm<|h u r) hd
 ·rcases hk with hk|hk
  ·exact gL (gA I.ok.kind hk hc hcell<|h u r) hd
  ·exact gL (kJ I.ok.kind hk hc hcell (h u r) hcd) hd
def ZcP{Dn:Ends}{E1:XK}{g S:aw}{ic ie ir:Nat}{xc n xr xS:bc}{p1 p2 p3 p4 p5 p6 p7 p8 p9:d8}(D:DefX X E)(I:L2.Inv X pq σ H s)(hN:X.N.Nodup)
  (hic:X.N[ic]?=aa xc)(hvc:Vis X.env.scope xc)(hsc:σ[ic]?=aa (aa<|.ref g))(hie:X.N[ie]?=aa n)(hke:X.env.scope.names.lookup n=aa .local)(hir:X.N[ir]?=aa xr)(hlr:X.env.scope.names.lookup xr=aa .local)
  (hgS:Gl X xS)(hmS:X.mg xS=aa (.ref S))(hg:PySem.W.FnAt g s.heap)
  (run:fE (aZ X.prog X.w) X.A (.call (.ref g) ⟨[],[]⟩) (CR (CX1 X.prog X.w) X.stack X.prog X.w H s (λ_ H'=>Dn.nx σ H') E1) s)
  (hE1:∀C H',E1 (.ref C) ac H'->m7 X.K (.ref C) (.ref S)=aa ah/\∀a oe,H' a=ac->oe.cls=.ref C->Dn.nx (((σ.set ie<|aa<|.ref a).set ir<|aa<|.ref a).set ie ac) (upd H' a<|.frz oe<|.own a))
  (hd1:(xc == ("__debug__" : bc))=ai)(hd2:(xc == ("__classdict__" : bc))=ai)(hd3:(n == ("__debug__" : bc))=ai)(hd4:(n == ("__classdict__" : bc))=ai)(hd5:(xS == ("__debug__" : bc))=ai)
  (hs1:eT (.Call (.Name xc p1) [] [] p2) ac p3.line X.env=cA ai)(hs2:eT (.Name n p6) (aa<|.Name xr p5) p7.line X.env=cA ai) :
  aW (aZ X.prog X.w) X.A (exec (.Try [.Expr (.Call (.Name xc p1) [] [] p2) p3] [.ExceptHandler (aa<|.Name xS p4) (aa n) [.Assign [.Name xr p5] (.Name n p6) p7] p8] [] [] p9) X.env) (SP X pq Dn) X.xe s:=by
 refine wpAny_Try_except<|eS<|wpAny_Expr_any ?_ I.quiet hs1;refine dm ?_;refine ZeL I hic hvc hsc (λu r=>?_) hd1 hd2
 obtain rfl:u=cF g:=r;refine PySem.W.callWith_F0 hg<|mU<|gF run λr s' hq=>?_
 cases r with
 |ok fl=>
  cases fl with
  |ret u=>
   obtain⟨v,H',I',r',q'⟩:=I.after hq;exact d9 (d9 ⟨σ,H',I',q'⟩)
  |next=>exact False.elim hq
  |brk=>exact False.elim hq
  |cont=>exact False.elim hq
 |error e=>
  obtain⟨a,T,C,H',rfl,os,bare,un,hok,fly,na,nT,Ha,HT,hE⟩:=hq;obtain⟨exm,fin⟩:=hE1 C H' hE;have nx:∀b:aw,b∉([]:List aw):=λb=>by simp
  have hfr:X.A.frames=aa (X.env::X.outer):=by rw[<-D.st];exact I.ok.frames
  have I1:L2.Inv X pq σ H' s':=by
   obtain⟨hh,gg,d,t,os'⟩:=s';obtain rfl:os'=s.os:=os;exact I.call (h':=hh) (g':=gg) (d':=d) (t':=t) un hok bare (λb z=>T7 z<|by simp)
  let hid:=frs X.stack++[a,T]
  have hin:∀b∈frs X.stack,b∈hid:=λb hb=>cm _ hb
  have old0:∀b,s.heap.get? b=ac->X.s₀.heap.get? b=ac:=λb e=>by
   cases q:X.s₀.heap.get? b with
   |none=>rfl
   |some o=>
    have U1:=I.base;rw[D.ex]at U1;obtain⟨o1,e1⟩:=U1.there b o q<|nx b;rw[e]at e1;cases e1
  have pn:∀b,s.heap.get? b=ac->∀p∈X.pn++pq,p.1≠b:=λb e p hp z=>by
   have:=(I.pin p hp).1;rw[z,e]at this;cases this
  have hhid:∀b∈hid,b∈frs X.stack\/(X.s₀.heap.get? b=ac/\H' b=ac/\∀p∈X.pn++pq,p.1≠b):=λb hb=>by
   rcases bN.mp hb with z|z
   ·exact .inl z
   ·rcases az.mp z with rfl|z
    ·exact .inr ⟨old0 _ na,Ha,pn _ na⟩
    ·rw[bt.mp z];exact .inr ⟨old0 _ nT,HT,pn _ nT⟩
  have FF:s'.heap.FunFrames (dE s'.heap hid) (X.env::X.outer):=by
   rw[<-D.st];exact FunFrames.rebase I1.stack (λb hb o e=>⟨o.slots,e⟩) λb hb=>ck _<|hin b hb
  obtain⟨oe,vs,a0,oT,ts,f1,f2,f3,f4,f5,f6,f7,f8⟩:=fly;refine wpAny_looks_onW hfr D.fr (e:=a) ⟨λb o e=>ft _ e,ck _<|bi _<|am ..,FF,oe,vs,T,oT,ts,f1,f2,f3,f4,ck _<|bi _<|al _<|am ..,f5,f6,f7,f8⟩ λh1 held up1=>?_
  refine wpAny_landsW held λh2 fly2 up2=>?_
  have I2:=Inv.slots D I1 hhid fly2.1<|up1.trans up2
  obtain⟨oe2,ge2,ce2⟩:=fly2.there;have K2:=I2.kIn;refine wpAny_handleBy_cons (codeAny_handlers_test<|Vo (Inv.held I2) hgS hmS ?_ hd5) (by intro q;cases q)
  refine(PySem.W.exm_one K2 (ce2▸(PySem.W.Looks.ld ge2).andThen .now) exm).here ?_;refine codeAny_handlers_suite_as ?_;obtain⟨k1,k2,k3,k4⟩:=fly2;refine wpAny_setFlight_noneW k1 k3 k4 λh3 m1 m2 m3 m4=>?_
  have I3:=Inv.slots D I1 hhid m1<|(up1.trans up2).trans λb o e hn=>⟨o.slots,m4 b o e hn⟩
  obtain⟨oe3,vs3,T3,oT3,ts3,ge3,⟨ce3,_⟩,de3,_⟩:=m3;have I4:=Inv.freeze I3 ge3 Ha (old0 _ na)
   (λz=>by
    obtain⟨m,⟨o,es,ep,ho,hd,_⟩,_⟩:=I3.loc;have e1:=ho;rw[<-z,ge3]at e1;cases e1;rw[de3]at hd;cases hd)
   (λx c e z=>by
    obtain⟨v,o,ho,hd⟩:=I3.cell x c e;have e1:=ho;rw[z,ge3]at e1;cases e1;rw[de3]at hd;cases hd) (pn _ na)
  refine XJ (X:=X) I4 hN hie (.inl hke) (v:=.ref a) rfl (λs4 I5=>?_)<|.inr hke
  have hiσ:ie<σ.length:=by rw[I.len];exact(ay.mp hie).1
  refine cB ((VA<|VQ (X:=Cx.held X a) (pos':=p5) hN hir (.inl hlr) (Y6 hie (.inl hke) hd3 hd4) hs2<|.inr hlr) pq s4 _ _
   {nx:=λσ' H1=>σ'=(σ.set ie<|aa<|.ref a).set ir (aa<|.ref a)/\H1=upd H' a (.frz oe3<|.own a),rt:=λ_ _=>False} (Inv.held I5) ⟨.ref a,aS hiσ,rfl,rfl⟩) (λf s5 hsp=>?_) λ_ _ z=>False.elim z
  cases f with
  |next=>
   obtain⟨σ',H1,J,rfl,rfl⟩:=hsp;exact ZcK (Inv.unheld I.ok J) hN hie hke λs6 I6=>⟨_,_,I6,fin a oe3 Ha ce3⟩
  |ret u=>obtain⟨_,_,_,_,_,z⟩:=hsp;exact z.elim
  |brk=>obtain⟨_,_,_,z⟩:=hsp;exact False.elim z
  |cont=>obtain⟨_,_,_,z⟩:=hsp;exact False.elim z
end
end Sd
namespace Sd
open PySem PySem.Spec PyProof.Rows L2
open Ev (D Ob Zc Lc R Sm Calls Walk Fl Fn Bop Cop Ty Bf Mf ev evs evo evt evw tst run runs)
structure Gr(H H':Hp):Prop where
 k:∀b u,H b=aa u->(∀ps,u≠.tbl ps)->H' b=aa u
def Gr.fut(g:Gr H H'):Fut ρ H ρ H':=⟨⟨[],by simp⟩,λa xs e=>g.k a _ e λps z=>(by cases z),λa o u e=>g.k a _ e λps z=>(by cases z)⟩
def St3.grow{K:aj}{ρ:List aw}{S:Zc}{H H':Hp}(st:St3 K ρ S H)(g:Gr H H')(tb:Tb H'):St3 K ρ S H':=
 ⟨st.len,st.nd,λn ob a h1 h2=>by
  have r:=st.ob n ob a h1 h2;have f:=g.fut (ρ:=ρ);cases ob with
  |lst ds=>obtain⟨xs,e,r⟩:=r;exact⟨xs,g.k _ _ e (λps z=>by cases z),r.mono f⟩
  |scr ns=>
   rcases r with⟨o,e⟩|h
   ·exact .inl ⟨o,g.k _ _ e λps z=>by cases z⟩
   ·exact .inr h
  |dt kvs=>obtain⟨vs,e,r⟩:=r;exact⟨vs,g.k _ _ e (λps z=>by cases z),Paired.map2 r λp q z=>⟨z.1,z.2.mono f⟩⟩
  |dk kvs=>obtain⟨vs,e,r⟩:=r;exact⟨vs,g.k _ _ e (λps z=>by cases z),Paired.map2 r λp q z=>⟨z.1,z.2.mono f⟩⟩
  |fz ks=>obtain⟨o,vs,e,r⟩:=r;exact⟨o,vs,g.k _ _ e (λps z=>by cases z),r⟩,tb⟩
def xq(l:List aq)(h:ma l)(e:gK q (l++[fb a,fb b,c])=aa cv):gK q l=aa cv\/cv=c:=by
 fun_induction ma l with
 |case1=>
  simp only[fm,gK,fb]at e;split at e
  ·cases e;exact .inr rfl
  ·cases e
 |case2 a' t b' u x rest ih=>
  simp only[iP,gK]at e ⊢;split at e
  ·rename_i z;rw[T9 z];exact .inl e
  ·rename_i z;rw[T8 z];exact ih h e
 |case3 l h1 h2=>exact h.elim
section
variable{X:Cx}{E:aq->au->Prop}{pq:List (aw×dB)}{σ:L2.St}{H:Hp}{s:au}
def Inv.grow(I:L2.Inv X pq σ H s){h':bF}{tk:nJ}{P:aw}{ps more:Array aq}(hP:H P=aa (.tbl ps))(hx:eO P s.heap h')(hT:h'.get? P=aa {cls:=.none,data:=.fields (ps++more)}){new:List (aw×dB)}
  (hn:∀p∈new,s.heap.objs.size<=p.1/\h'.get? p.1=aa p.2)(nd:(new.map (·.1)).Nodup) :
  let H':=new.foldl (λG p=>upd G p.1<|.frz p.2<|.own p.1)<|upd H P<|.tbl<|ps++more
  L2.Inv X pq σ H' {s with heap:=h',toks:=tk}/\Gr H H'/\(∀p∈new,H' p.1=aa (.frz p.2<|.own p.1))/\H' P=aa (.tbl<|ps++more)/\∀b qs,H' b=aa (.tbl qs)->(b=P/\qs=ps++more)\/H b=aa (.tbl qs):=by
 intro H';have hPs:=Ya.lt<|I.hok P _ hP;have H0:∀b,(∀p∈new,p.1≠b)->H' b=upd H P (.tbl<|ps++more) b:=by
  have gen:∀(l:List (aw×dB))(G:Hp)(b:aw),(∀p∈l,p.1≠b)->l.foldl (λG p=>upd G p.1<|.frz p.2<|.own p.1) G b=G b:=by
   intro l
   induction l with
   |nil=>intro G b _;rfl
   |cons p l ih=>
    intro G b h;rw[ei,ih _ b λq hq=>h q<|al _ hq,Zn<|Ne.symm<|h p<|am ..]
  exact λb h=>gen new _ b h
 have H1:∀p∈new,H' p.1=aa (.frz p.2<|.own p.1):=by
  have gen:∀(l:List (aw×dB))(G:Hp),(l.map (·.1)).Nodup->∀p∈l,l.foldl (λG p=>upd G p.1<|.frz p.2<|.own p.1) G p.1=aa (.frz p.2<|.own p.1):=by
   intro l
   induction l with
   |nil=>intro G _ p hp;simp at hp
   |cons q l ih=>
    intro G hd p hp;rw[aU,cp]at hd;rw[ei];rcases az.mp hp with rfl|hp
    ·have rest:∀(l:List (aw×dB))(G:Hp)(b:aw),b∉l.map (·.1)->l.foldl (λG p=>upd G p.1<|.frz p.2<|.own p.1) G b=G b:=by
      intro l
      induction l with
      |nil=>intro G b _;rfl
      |cons p l ih=>
       intro G b h;rw[aU,az,not_or]at h;rw[ei,ih _ b h.2,Zn h.1]
     rw[rest l _ _ hd.1,Zr]
    ·exact ih _ hd.2 p hp
  exact gen new _ nd
 have new0:∀b,b<s.heap.objs.size->∀p∈new,p.1≠b:=λb hb p hp z=>by have q:=(hn p hp).1;rw[z]at q;omega
 have old:∀b u,H b=aa u->b≠P->H' b=aa u:=λb u e z=>by
  rw[H0 b<|new0 b<|Ya.lt<|I.hok b u e,Zn z];exact e
 have HP:H' P=aa (.tbl<|ps++more):=by rw[H0 P<|new0 P hPs,Zr]
 have cases':∀b u,H' b=aa u->(∃p∈new,p.1=b/\u=.frz p.2 (.own p.1))\/(b=P/\u=.tbl (ps++more))\/(b≠P/\H b=aa u):=λb u e=>by
  by_cases q:∃p∈new,p.1=b
  ·obtain⟨p,hp,rfl⟩:=q
   rw[H1 p hp]at e;cases e;exact .inl ⟨p,hp,rfl,rfl⟩
  ·rw[H0 b λp hp z=>q ⟨p,hp,z⟩]at e
   by_cases z:b=P
   ·subst z;rw[Zr]at e;cases e;exact .inr<|.inl ⟨rfl,rfl⟩
   ·rw[Zn z]at e;exact .inr<|.inr ⟨z,e⟩
 have gr:Gr H H':=⟨λb u e n=>old b u e λz=>by rw[z,hP]at e;cases e;exact n ps rfl⟩
 refine⟨I.un ⟨λb o e n _ _=>hx b o (λz=>by rw[z,hP]at n;cases n) e,λb o e n _ _=>⟨o.slots,hx b o (λz=>by rw[z,hP]at n;cases n) e⟩,λb o e n _=>?_,λb o e _=>?_,λb xs e=>gr.k b _ e (λps z=>by cases z),λb o u e=>gr.k b _ e (λps z=>by cases z),λb qs e=>?_⟩ λb u e=>?_,gr,H1,HP,λb qs e=>?_⟩
 ·rw[H0 b<|new0 b<|aJ e,Zn λz=>by rw[z,hP]at n;cases n];exact n
 ·by_cases z:b=P
  ·subst z;exact⟨_,hT⟩
  ·exact⟨o,hx b o z e⟩
 ·by_cases z:b=P
  ·subst z;rw[hP]at e;cases e;exact⟨more,HP⟩
  ·exact⟨#[],by rw[old b _ e z];simp⟩
 ·rcases cases' b u e with⟨p,hp,rfl,rfl⟩|⟨rfl,rfl⟩|⟨z,e0⟩
  ·exact⟨(hn p hp).2,_,(hn p hp).2⟩
  ·exact hT
  ·refine(I.hok b u e0).stay (λc v hc q=>hx c v ?_ q) (λc q=>gr.k c _ q λps z=>by cases z) λc xs q=>gr.k c _ q λps z=>by cases z
   rcases hc with rfl|hc
   ·exact z
   ·intro y;rw[y,hP]at hc;cases hc
 ·rcases cases' b _ e with⟨p,hp,rfl,z⟩|⟨rfl,z⟩|⟨z,e0⟩
  ·cases z
  ·cases z;exact .inl ⟨rfl,rfl⟩
  ·exact .inr e0
def Tb.grow(tb:Tb H)(g:Gr H H')(hb:∀b rs,H' b=aa (.tbl rs)->(b=P/\rs=qs)\/H b=aa (.tbl rs))(ht:ma qs.toList)
  (hc:∀pos cv,gK pos qs.toList=aa cv->∃(c:aw)(oc:dB)(vs:Array aq)(t:nJ),cv=.ref c/\H' c=aa (.frz oc<|.own c)/\oc.data=.fields vs/\vs[1]?=aa (.str YV t)):Tb H':=λb rs e=>by
 rcases hb b rs e with⟨_,rfl⟩|e0
 ·exact⟨ht,hc⟩
 ·obtain⟨h1,h2⟩:=tb b rs e0
  refine⟨h1,λpos cv q=>?_⟩
  obtain⟨c,oc,vs,t,e1,e2,e3⟩:=h2 pos cv q;exact⟨c,oc,vs,t,e1,g.k c _ e2 (λps z=>by cases z),e3⟩
def jD{P c:aw}{ps:Array aq}{params:l8}{body:Expr}{scope:c7}{pos:d8}{clos:List (bc×aw)}{Q:aq->au->Prop}(I:L2.Inv X pq σ H s)(tb:Tb H)(hP:H P=aa (.tbl ps))(hcode:X.env.code=.ref c)(C:cw X.base c P)(hB:X.base.BuiltinsAt X.mg P)(hgP:br≠P)
  (hq:X.env.qual++"<lambda>" = YV)(hcl:fT scope X.env=cA clos)(hdef:defaultsOf params X.env=([],[]))
  (h:∀(g c':aw)(oc:dB)(vs:Array aq)(t:nJ)(pm ctv:aq)(H':Hp)(s':au),L2.Inv X pq σ H' s'->Gr H H'->Tb H'->(∃ps',H' P=aa (.tbl ps'))->H' g=aa (.frz (ej "<lambda>" YV params body scope clos pm c' ctv)<|.own g)->
   H' c'=aa (.frz oc<|.own c')->oc.data=.fields vs->vs[1]?=aa (.str YV t)->Q (.ref g) s') :
  aW (aZ X.prog X.w) X.A (cb (.Lambda params body scope pos) X.env) Q E s:=by
 refine PySem.W.kla_eval hdef ?_;rw[hq];have hPo:=I.hok P _ hP;obtain⟨ht,hcs⟩:=tb P ps hP;have hg:=I.ok.mod.glob.keeps I.bk;have hBs:s.heap.BuiltinsAt X.mg P:=by
  obtain⟨bm,o,b1,b2,b3,b4,b5,b6⟩:=hB;exact⟨bm,o,b1,b2,b3,b4,I.bk _ _ b5,b6⟩
 cases q:gK pos ps.toList with
 |some cv=>
  obtain⟨c',oc,vs,t,rfl,e2,e3,e4⟩:=hcs pos cv q;refine PySem.W.kla_makeFunctionHit hcl I.ok.glob hg hcode (C.keeps I.bk) hPo ht q hBs λctv h' tk hk hz=>?_
  have kp:∀b o,s.heap.get? b=aa o->(h'.push<|ej "<lambda>" YV params body scope clos ((X.mg "__name__").getD .none) c' ctv).get? b=aa o:=λb o e=>ao _<|hk b o e
  obtain⟨I',gr,n1,hP',tbs⟩:=Inv.grow I hP (λb o _ e=>kp b o e) (by rw[g7];exact kp _ _ hPo)
   (new:=[(h'.objs.size,ej "<lambda>" YV params body scope clos ((X.mg "__name__").getD .none) c' ctv)]) (λp hp=>by
    rw[bt.mp hp];exact⟨hz,aM _ rfl⟩) (by simp)
  refine h _ c' oc vs t _ ctv _ _ I' gr (tb.grow gr tbs (by rw[g7];exact ht) λpos' cv' q'=>?_) ⟨_,hP'⟩ (n1 _<|am ..) (gr.k _ _ e2 λps z=>by cases z) e3 e4
  rw[g7]at q';obtain⟨c2,oc2,vs2,t2,f1,f2,f3⟩:=hcs pos' cv' q';exact⟨c2,oc2,vs2,t2,f1,gr.k _ _ f2 (λps z=>by cases z),f3⟩
 |none=>
  refine PySem.W.kla_makeFunction hcl I.ok.glob hg hcode (C.keeps I.bk) hPo ht q hgP hBs λc' ctv h' tk hx hge hlt hrec htb=>?_
  obtain⟨c2,oc,vs,t,e2,hoc,hd,hv⟩:=hrec;cases e2;have kp:eO P s.heap (h'.push<|ej "<lambda>" YV params body scope clos ((X.mg "__name__").getD .none) c' ctv):=λb o hb e=>ao _<|hx b o hb e
  have hsz:=bh hge<|d4 hlt;obtain⟨I',gr,n1,hP',tbs⟩:=Inv.grow I hP kp (ao _ htb)
   (new:=[(c',oc),(h'.objs.size,ej "<lambda>" YV params body scope clos ((X.mg "__name__").getD .none) c' ctv)]) (λp hp=>by
    rcases az.mp hp with rfl|hp
    ·exact⟨hge,ao _ hoc⟩
    ·rw[bt.mp hp];exact⟨hsz,aM _ rfl⟩) (cp.mpr ⟨λz=>T7 (bt.mp z)<|bf hlt,cp.mpr ⟨by simp,ku⟩⟩)
  refine h _ c' oc vs t _ ctv _ _ I' gr (tb.grow gr tbs (by rw[kO];exact TriplesOk_snoc _ _ _ _ ht) λpos' cv' q'=>?_) ⟨_,hP'⟩ (n1 _<|al _<|am ..) (n1 _<|am ..) hd hv
  rw[kO]at q';rcases xq _ ht q' with z|rfl
  ·obtain⟨c2,oc2,vs2,t2,f1,f2,f3⟩:=hcs pos' cv' z
   exact⟨c2,oc2,vs2,t2,f1,gr.k _ _ f2 (λps z=>by cases z),f3⟩
  ·exact⟨c',oc,vs,t,rfl,n1 _<|am ..,hd,hv⟩
end
end Sd
namespace Sd
open PySem PySem.Spec PyProof.Rows L2
noncomputable def cxL(P:bq)(w:bC)(K:aj)(mg:bc->Option aq)(base:bF)(N:List bc)(scope:c7)(g:aw)(cd:aq)(clos:List (bc×aw))(A:bL)(outer:List Env)(s:au)(H:Hp)(E:XK):Cx where
 prog:=P
 w:=w
 K:=K
 mg:=mg
 base:=base
 A:=A.deeper<|d7 YV scope s.heap.objs.size g cd clos
 N:=N
 s₀:=s
 H₀:=H
 env:=d7 YV scope s.heap.objs.size g cd clos
 outer:=outer
 stack:=d7 YV scope s.heap.objs.size g cd clos::outer
 ex:=[]
 calm:=ah
 fn:=λ_=>ai
 pn:=[]
 xe:=λe s'=>aW (aZ P w) (A.deeper<|d7 YV scope s.heap.objs.size g cd clos) (leaving (d7 YV scope s.heap.objs.size g cd clos) e) (λ_ s''=>CX1 P w outer H s E e s'') (λe' s''=>CX1 P w outer H s E e' s'') s'
section
variable{P:bq}{w:bC}{K:aj}{mg:bc->Option aq}{base:bF}{N:List bc}{scope:c7}{g c':aw}{clos:List (bc×aw)}{A:bL}{outer:List Env}{s:au}{H:Hp}{E:XK}
def Zgt :DefX (cxL P w K mg base N scope g cd clos A outer s H E) E:=⟨rfl,rfl,rfl,rfl⟩
structure LamS(scope:c7)(clos:List (bc×aw)):Prop where
 kind:scope.kind=.function
 co:scope.isCoroutine=ai
 gen:scope.isGenerator=ai
 nc:∀x∈scope.names,x.2≠.cell
 vis:∀x,Vis scope x->scope.names.lookup x=aa .free
 has:∀x,scope.names.lookup x=aa .free->∃c,clos.lookup x=aa c
 inj:∀x y c,clos.lookup x=aa c->clos.lookup y=aa c->x=y
def jS(hr:Room (k+1) A)(e0:Env0 P w K mg base A outer s H)(L:LamS scope clos)
  (hg:s.heap.get? g=aa (ej "<lambda>" YV params body scope clos pm c' ctv))(hcd:s.heap.CodeRec (.ref c') YV)(hbind:kq (m8 "<lambda>" YV params body scope clos pm (.ref c') ctv) ⟨[],[]⟩=cA [])
  (hcell:∀x c,clos.lookup x=aa c->(∃v,s.heap.IsCell c v)/\H c=ac)(hlen:σ.length=N.length)
  (hval:∀(i:Nat)(x:bc)(v:V),N[i]?=aa x->σ[i]?=aa (aa v)->scope.names.lookup x=aa .free->∃u c,Zz v u/\clos.lookup x=aa c/\s.heap.IsCell c (aa u))
  (hb:PE (cxL P w K mg base N scope g (.ref c') clos A outer s H E) body t)(ht:t σ H Q) :
  fE (aZ P w) A (.call (.ref g) ⟨[],[]⟩) (CR (CX1 P w) outer P w H s Q E) s:=by
 have lim:=e0.mod.nolimit.keeps λb o e=>(e0.bs b o e).1
 refine PySem.W.kla_callFunE hr.depth hg rfl L.co L.gen rfl hcd ?_;rw[hbind];refine ax<|ky L.nc (λx hx=>by simp at hx) (λh1 hns hsb=>?_) L.kind
 have hk1:=λb o e=>hsb.extBut b o (bf<|aJ e)<|ao _ e
 refine⟨lim.keeps hk1,?_⟩;have noA:∀b:aw,b∉(cxL P w K mg base N scope g (.ref c') clos A outer s H E).ex:=λb z=>T7 (show b∈([]:List aw)from z) (by simp)
 have I:L2.Inv (cxL P w K mg base N scope g (.ref c') clos A outer s H E) [] σ H {s with heap:=h1,toks:=s.toks+([]:List (bc×aq)).length}:=by
  refine⟨⟨e0.mod,L.kind,rfl,rfl,aB _,L.inj,λx hx=>?_,λx c z=>(by cases z),λ_=>hr.hd,kr e0.frames,.inr ⟨rfl,rfl⟩,λb z=>T7 z<|noA b,e0.bs,e0.bsz,λb _ _=>noA b,λb z=>T7 z<|noA b,e0.funs,e0.frf⟩,
   rfl,e0.bare,Un.kept hk1,⟨_,hns,λi x v e1 e2 e3=>?_⟩,λx c e=>?_,e0.hok.fresh<|aB _,λx c e=>(hcell x c e).2,λp hp=>T7 (show p∈([]:List (aw×dB))from hp)<|by simp,e0.hok.kept hk1,hlen⟩
  ·have hx:=hx
   rcases hx with z|z
   ·exact T7 rfl<|L.nc _<|cG z
   ·exact L.has x z
  ·have fr:=L.vis x e3
   obtain⟨u,c,r,e,z⟩:=hval i x v e1 e2 fr;refine⟨u,r,.inr ⟨.inr fr,c,e,?_⟩⟩;obtain⟨o,ho,hd⟩:=z;exact⟨o,hk1 _ _ ho,hd⟩
  ·obtain⟨⟨v,o,ho,hd⟩,_⟩:=hcell x c e
   exact⟨v,o,hk1 _ _ ho,hd⟩
 exact PySem.W.kla_codeExpr<|cB (hb [] _ σ H Q I ht) (λu s' ⟨v,H',J,r,q⟩=>⟨v,H',J.os,J.bare,J.base,J.hok,r,q⟩) λ_ _ y=>y
end
section
variable{X:Cx}
def Zfm(K:aj):List V->Hp->VK->Prop:=λvs H Q=>∃a oe C Dv u b,vs=[.ref a,Dv]/\Zz Dv u/\(∀u',Zz Dv u'->u'=u)/\H a=aa (.frz oe<|.own a)/\oe.cls=.ref C/\ExK K C/\eK K (.ref C) u=aa b/\Q (.bl b) H
def yb:ZK X (.builtin "isinstance") (Zfm X.K):=by
 intro pq s σ H xs us Q I r h;obtain⟨a,oe,C,Dv,u,b,rfl,ru,uq,Ha,ce,k,e,q⟩:=h;cases r with
 |cons ra r=>
  cases r with
  |cons rD r=>
   cases r;cases ra;obtain rfl:=uq _ rD;obtain⟨ge,_⟩:=I.hok a _ Ha;exact cx (jc k) I.kIn ⟨oe,ge,ce⟩ e (by intro q;cases q) λtk=>⟨.bl b,H,I.tok tk,rfl,q⟩
def Gd:V->List V->Hp->VK->Prop:=λx vs H Q=>∃(l:aw)(bs:List Bool)(j:Nat),x=.ref l/\vs=[.bl ah]/\H l=aa (.lst<|bs.map .bl)/\bs[j]?=aa ah/\(∀m,m<j->bs[m]?=aa ai)/\Q (.int j) H
theorem wf:∀{bs:List Bool}{us:List aq},Vals (bs.map V.bl) us->us=bs.map bv
 |[],_,.nil=>rfl
 |b::bs,_,.cons r t=>by cases r;rw[wf t];rfl
def zd:MtM X "list.index" Gd:=by
 intro pq s σ H x vs v us Q I rx rv h;obtain⟨l,bs,j,rfl,rfl,hH,hj,hno,q⟩:=h;cases rx;obtain⟨u,rfl,ru⟩:=rv.one;cases ru;obtain⟨z,its,n,r,hl,e⟩:=I.lstM hH;obtain rfl:=wf r;have hjl:=(ay.mp hj).1;have hsz:(bs.map bv).toArray.size=bs.length:=by simp
 have get:∀m (hm:m<(bs.map bv).toArray.size),(bs.map bv).toArray[m]=bv (bs[m]'(by rw[hsz]at hm;exact hm)):=λm hm=>by simp
 refine eN F.slot_list_index ⟨_,e,rfl⟩ F.entry_list_index (F.args_list_index_2 _ _) (PySem.SeqAt.list_indexAt l (bs.map bv).toArray n ac #[] (.bool ah) (λy=>y == .bool ah) j (by rw[hsz];exact hjl) (by
  rw[aF]at z;have:aY=16777216:=rfl;omega) (by rw[get];rw[(ay.mp hj).2];rfl) λm hm hmj=>by
   rw[get];have:=ay.mp<|hno m hmj;rw[this.2];rfl) ⟨e,λy hy=>?_,?_⟩
 ·obtain⟨b,_,rfl⟩:=aK.mp (List.mem_toArray.mp hy)
  cases b
  ·exact g8 ai ah
  ·exact g8 ah ah
 ·exact⟨.int j,H,I.tok _,⟨_,rfl⟩,q⟩
end
def Zfl{CX:CXT}{P:bq}{w:bC}{K:aj}{mg:bc->Option aq}{base:bF}{k:Nat}{f:aw}{x qual:bc}{st:de}{fd:bK}{N ps:List bc}{A:bL}{outer:List Env}{s:au}{H:Hp}{args:Args}{us:List aq}{vs:List V}{Q:VK}{E:XK}
  (Fu:Fun K x qual st f fd)(S:FnScope N ps (Zg st))(hr:Room (k+1) A)(e0:Env0 P w K mg base A outer s H)(hb:kH s fd args (ps.zip us))(r:Vals vs us)(hl:vs.length=ps.length)
  (hbody:∀(cdv:aq)(s1:au),Room k (A.deeper<|cN qual (Zg st) s.heap.objs.size f cdv)->L2.Inv (Wj CX P w K mg base N qual (Zg st) f cdv A outer s H E) [] (start N vs) H s1->
   aW (aZ P w) (A.deeper<|cN qual (Zg st) s.heap.objs.size f cdv) (execs (ZE st)<|cN qual (Zg st) s.heap.objs.size f cdv) (SP (Wj CX P w K mg base N qual (Zg st) f cdv A outer s H E) [] {nx:=λ_ H'=>Q .non H',rt:=Q}) (Wj CX P w K mg base N qual (Zg st) f cdv A outer s H E).xe s1) :
  fE (aZ P w) A (.call (.ref f) args) (CR CX outer P w H s Q E) s:=by
 obtain⟨oc,od,kV,doc,pm,an,cdv,ct,osl,rfl,lk,hcd⟩:=Fu.ex;have KX:=e0.mod.kin.keeps λb o e=>(e0.bs b o e).1
 have lim:=e0.mod.nolimit.keeps λb o e=>(e0.bs b o e).1
 have hkind:∀y∈ps.zip us,(Zg st).names.lookup y.1=aa .local\/((Zg st).names.lookup y.1=aa .cell/\((fS (s.heap.objs.size+1) (Zg st).names []).lookup y.1).isSome=ah):=λ⟨n,v⟩ hy=>by
  rcases S.par n (eg hy).1 with q|q
  ·exact .inl q
  ·exact .inr ⟨q,fF _ _ _<|.inl q⟩
 refine ke hr.depth (KX _ _ lk) rfl S.co S.gen rfl (lc KX hcd)<|hb _ _ _ _ ?_;refine gO S.kind hkind λenv he s1 x=>?_
 subst he;refine⟨lim.keeps x.toInCall.keep,codeAny_func ?_⟩;have I:=Jv (CX:=CX) (E:=E) S hr.hd e0 hl r x;refine cB (hbody cdv s1 (hr.deeper _) I) (λfl s' hs=>?_) λe s' hs=>hs
 cases fl with
 |ret u=>
  obtain⟨v,σ',H',J,rv,q⟩:=hs;exact⟨v,H',J.os,J.bare,J.base,J.hok,rv,q⟩
 |next=>
  obtain⟨σ',H',J,q⟩:=hs;exact⟨.non,H',J.os,J.bare,J.base,J.hok,rfl,q⟩
 |brk=>
  obtain⟨_,_,_,q⟩:=hs;exact False.elim q
 |cont=>
  obtain⟨_,_,_,q⟩:=hs;exact False.elim q
def wN(Pt:aw)(H:Hp):Prop:=H Pt=aa (.tbl #[])/\∀b,b≠Pt->H b=ac\/∃o xs,H b=aa (.frz o<|.lst xs)
def uv{P:bq}{w:bC}{K:aj}{mg mb:bc->Option aq}{CX:CXT}{k:Nat}{fa a c Pt:aw}{fd:bK}{x:bc}{sp:Sp}{s₁:au}{vs:List aq}{ns:List Int}
  (KX:K.In s₁.heap)(hns:s₁.heap.Ns br mg)(hb:s₁.heap.Ns mQ mb)(hbb:∀x:bc,x≠"__name__"->mb x=cQ x)(hlim:s₁.heap.NoLimit)(hg:s₁.gens = #[])
  (hC:cw s₁.heap c Pt)(hPt:s₁.heap.get? Pt=aa (m9 #[]))(hK:kF K=ah)(hB:s₁.heap.BuiltinsAt mg Pt)
  (ha:s₁.heap.get? a=aa {cls:=.type "list",data:=.seq vs.toArray})(hi:mM vs ns)(hl:ns.length<=aY)(hr:Room k kI)
  (F:∀base:bF,K.In base->base.Ns br mg->cw base c Pt->base.BuiltinsAt mg Pt->br≠Pt->FnOk P w K mg base CX k fa fd [x] sp)(hbind:∀(s:au)(u:aq),kH s fd ⟨[u],[]⟩ [(x,u)])
  (hsp:∀H:Hp,wN Pt H->SqL K H a (ns.map V.int)->sp [.ref a] H (λv _=>v=.bl ah) λ_ _ _=>False)
  (hCX:∀H e s',CX [] H s₁ (λ_ _ _=>False) e s'->False) :
  fE (aZ P w) kI (.call (.ref fa) ⟨[.ref a],[]⟩) (λr s'=>r=.ok (.ret<|.bool ah)/\OldK s₁.heap s'.heap/\s'.os=s₁.os/\fY s'.gens) s₁:=by
 have rv:=JA hi;have lenV:=hi.length;have hPa:Pt≠a:=λz=>by rw[z,ha]at hPt;cases hPt
 have hKP:K.lookup Pt=ac:=by
  cases q:K.lookup Pt with
  |none=>rfl
  |some o=>
   have e:=KX Pt o q;rw[hPt]at e;cases e;have h2:=aV.mp hK (Pt,m9 #[])<|PySem.W.mem_of_lookupK q;exact T7 (h2) aN
 have core:∀H:Hp,wN Pt H->SqL K H a (ns.map V.int)->HOk P w H s₁.heap->(∀b,H b≠ac->b=a\/b=Pt)->(H a≠ac->K.lookup a=ac)->
   fE (aZ P w) kI (.call (.ref fa) ⟨[.ref a],[]⟩) (λr s'=>r=.ok (.ret<|.bool ah)/\OldK s₁.heap s'.heap/\s'.os=s₁.os/\fY s'.gens) s₁:=by
  intro H hO hS hok hA hK;have base_of:∀{b:aw}{o:dB},s₁.heap.get? b=aa o->H b=ac->(QP s₁.heap H).get? b=aa o:=λe n=>ZaZ e n
  have noT:∀{b:aw}{o:dB},s₁.heap.get? b=aa o->b≠a->b≠Pt->H b=ac:=λ{b o} e z1 z2=>by
   cases q:H b with|none=>rfl|some u=>exact((hA b<|by rw[q];simp).elim z1 z2).elim
  have noA:∀{b:aw}{o:dB}{es:Array fU}{ep:Nat},s₁.heap.get? b=aa o->o.data=.dict es ep->H b=ac:=λ{b o es ep} e d=>
   noT e (λz=>by subst z;rw[ha]at e;cases e;cases d) λz=>by subst z;rw[hPt]at e;cases e;cases d
  have nsK:∀{b:aw}{m:bc->Option aq},s₁.heap.Ns b m->(QP s₁.heap H).Ns b m:=λ{b m} ⟨o,es,ep,e,d,r⟩=>⟨o,es,ep,base_of e<|noA e d,d,r⟩
  have hKb:=λb o e=>base_of (KX b o e) (by
   cases q:H b with
   |none=>rfl
   |some u=>
    rcases hA b (by rw[q];simp)with z|z
    ·subst z;rw[hK<|by rw[q];simp]at e;cases e
    ·subst z;rw[hKP]at e;cases e)
  have hM:Mod K mg (QP s₁.heap H):=⟨hKb,nsK hns,⟨mb,nsK hb,hbb⟩,let ⟨mc,h1,h2⟩:=hlim;⟨mc,nsK h1,h2⟩⟩;have e0:Env0 P w K mg (QP s₁.heap H) kI [] s₁ H:=⟨rfl,hM,λb o e=>Zcs e,Nat.le_of_eq<|qf _ _,trivial,λb hb=>T7 (show b∈([]:List aw)from hb)<|by simp,hok,.of_eq hg⟩
  have hCb:cw (QP s₁.heap H) c Pt:=by
   obtain⟨o,vs',file,tf,flags,tg,inF,text,tt,e1,r1,r⟩:=hC;refine⟨o,vs',file,tf,flags,tg,inF,text,tt,base_of e1<|noT e1 (λz=>?_) λz=>?_,r1,r⟩
   ·subst z;rw[ha]at e1;cases e1;exact T7 (ng r1) (by decide)
   ·subst z;rw[hPt]at e1;cases e1;cases r1
  have hBb:(QP s₁.heap H).BuiltinsAt mg Pt:=by
   obtain⟨bm,o,b1,b2,b3,b4,b5,b6,b7,b8⟩:=hB;refine⟨bm,o,b1,b2,b3,b4,base_of b5<|noT b5 (λz=>?_) b4,b6,b7,b8⟩
   subst z;rw[ha]at b5;cases b5;exact T7 (ng b6) (by decide)
  have hgP:br≠Pt:=λz=>by
   obtain⟨o,es,ep,e,d,_⟩:=hns;rw[z,hPt]at e;cases e;cases d
  refine gF ((F _ hKb (nsK hns) hCb hBb hgP).run kI [] s₁ H ⟨[.ref a],[]⟩ [.ref a] [.ref a] _ _ hr e0 (hbind s₁<|.ref a) (.cons rfl .nil)<|hsp H hO hS) λr s' h=>?_
  cases r with
  |error e=>exact(hCX H e s' h).elim
  |ok fl=>
   cases fl with
   |next=>exact False.elim h
   |brk=>exact False.elim h
   |cont=>exact False.elim h
   |ret u=>
    obtain⟨v,H',os,bare,un,hok',r',q⟩:=h;have q':=q;subst q';obtain rfl:u=bv ah:=r';have keep:=λb o z e=>by
     cases q:H b with
     |none=>exact un.keep b o e q (by intro z;exact T7 (show b∈([]:List aw)from z)<|by simp) (by simp)
     |some u=>
      rcases hO.2 b z with z|⟨ob,xs,z⟩
      ·rw[q]at z;cases z
      ·have z2:=un.frzs b ob _ z
       obtain⟨e1,_⟩:=hok b _ z;obtain⟨e2,_⟩:=hok' b _ z2;rw[e]at e1;cases e1;exact e2
    obtain⟨more,hm⟩:=un.tbls Pt #[] hO.1;have hT':=hok' Pt _ hm;refine⟨rfl,⟨λb o e=>?_,λb o e=>?_⟩,os,bare⟩
    ·by_cases z:b=Pt
     ·subst z
      rw[hPt]at e;cases e;exact .inr<|.inl ⟨(hC.tab hPt).isCodeTable,rfl,#[],more,rfl,hT'⟩
     ·exact .inl<|keep b o z e
    ·by_cases z:b=Pt
     ·subst z;exact⟨_,hT'⟩
     ·exact⟨o,keep b o z e⟩
 have tbOk:=hPt
 cases hk:K.lookup a with
 |some o=>
  have e:=KX a o hk;rw[ha]at e;cases e;refine core (upd (λ_=>ac) Pt<|.tbl #[]) ⟨Zr,λb z=>.inl<|Zn z⟩ (.inr ⟨_,vs.toArray,_,hk,rfl,rfl,rfl,by rw[aD,lenV];exact hl,by simpa using rv⟩) (λb u z=>?_) (λb z=>?_) λz=>T7 (Zn<|Ne.symm hPa) z
  ·by_cases q:b=Pt
   ·subst q;rw[Zr]at z;cases z;exact hPt
   ·rw[Zn q]at z;cases z
  ·by_cases q:b=Pt
   ·exact .inr q
   ·exact T7 (Zn q) z
 |none=>
  refine core (upd (λb=>if b=a then aa (.frz {cls:=.type "list",data:=.seq vs.toArray}<|.lst<|ns.map V.int)else ac) Pt<|.tbl #[]) ⟨Zr,λb z=>?_⟩ (.inl<|.inr ⟨{cls:=.type "list",data:=.seq vs.toArray},by rw[Zn<|Ne.symm hPa];exact T9 rfl⟩) (λb u z=>?_) (λb z=>?_) λ_=>hk
  ·rw[Zn z]
   by_cases hb:b=a
   ·exact .inr ⟨_,_,T9 hb⟩
   ·exact .inl<|T8 hb
  ·by_cases q:b=Pt
   ·subst q;rw[Zr]at z;cases z;exact hPt
   ·rw[Zn q]at z
    by_cases hb:b=a
    ·have z':=(T9 hb).symm.trans z
     cases z';subst hb;exact⟨ha,by rw[aF];exact hl,vs,_,rv,ha⟩
    ·have z':=(T8 hb).symm.trans z
     cases z'
  ·by_cases q:b=Pt
   ·exact .inr q
   ·rw[Zn q]at z
    by_cases hb:b=a
    ·exact .inl hb
    ·exact T7 (T8 hb) z
def Zah{l:i9}{n k:Nat}{q:bq}{loose:List bc}{XP:(bc->Option aq)->bF->Prop}{YP:bC->bF->Prop}{d:nI}{K:Params->aj}{CX:bC->CXT}{sp:bC->aw->Sp}{x:bc}{c Pt:aw}{dr:nI}
  (hn:l.most=aa n)(hn2:n<=aY)(hdf:d.params.defaults=[])(hr:Room k kI)
  (hY:∀(w:bC)(h:bF),YP w h->(K w.params).In h)(hrec:(recsOf q).find? (λe=>e.name == d.name)=aa dr)(ht:∀w:bC,nw (K w.params) d.name=aa (c,Pt))(hK:∀w:bC,kF (K w.params)=ah)
  (F:∀(w:bC)(mg:bc->Option aq)(fa:aw)(h:bF),(K w.params).In h->h.Ns br mg->mg d.name=aa (.ref fa)->
   ∃fd:bK,(∀(s:au)(u:aq),kH s fd ⟨[u],[]⟩ [(x,u)])/\
    ∀base:bF,(K w.params).In base->base.Ns br mg->cw base c Pt->base.BuiltinsAt mg Pt->br≠Pt->FnOk l.prog w (K w.params) mg base (CX w) k fa fd [x] (sp w Pt))
  (hsp:∀(w:bC)(H:Hp)(a:aw)(ns:List Int),ns.length<=n->wN Pt H->SqL (K w.params) H a (ns.map V.int)->sp w Pt [.ref a] H (λv _=>v=.bl ah) λ_ _ _=>False)
  (hCX:∀(w:bC)(H:Hp)(s:au)(e:aq)(s':au),CX w [] H s (λ_ _ _=>False) e s'->False) :
  ny q loose XP YP l.row.toRowW d [] (λf vs=>mW f vs):=by
 refine Att.zr hn hdf λw s₀ s₁ mg mb fa o pm cd doc a vs ns G Y ho hd hcd hmg hobj hints hlen hg=>?_
 have KX:=hY w _ Y;obtain⟨fd,hb,hF⟩:=F w mg fa _ KX G.T.g hmg;obtain⟨hC,hPt⟩:=PySem.W.tab_of G.T KX hrec<|ht w;obtain⟨bm,ob,b1,b2,b3,b4,b5,b6⟩:=G.T.bmain;have hbP:bm≠Pt:=λz=>by grind
 have hbG:bm≠br:=λz=>by
  obtain⟨o,es,ep,e,hd,_⟩:=G.T.g;rw[z,e]at b3;cases b3;rw[hd]at b6;cases b6
 exact uv KX G.T.g G.T.b G.T.builtins G.T.nolimit hg hC hPt (hK w) ⟨bm,ob,b1,b2,hbG,hbP,b3,b4,b5,b6⟩ hobj hints (bh hlen hn2) hr hF hb (λH hO hS=>hsp w H a ns hlen hO hS) λH e s'=>hCX w H s₁ e s'
end Sd
namespace Sd
open PySem PySem.Spec PyProof.Rows L2
open Ev (D Ob Zc Lc R Sm Calls Walk Fl Fn Bop Cop Ty Bf Mf ev evs evo evt evw tst run runs)
noncomputable def Xc:List bc:=["SpaceError","NoRow","NoPart","NoNumber","NoHeads","NotBeside","NotIn","NoTurn","NoLot","TooMany","BadNote"]
structure Errs(K:aj)(mg:bc->Option aq)(cl:List aw):Prop where
 len:cl.length=11
 nm:∀(j:Nat)(C:aw)(x:bc),cl[j]?=aa C->Xc[j]?=aa x->mg x=aa (.ref C)
 exk:∀(j:Nat)(C:aw),cl[j+1]?=aa C->ExK K C
 one:∀(i j:Nat)(C D:aw),cl[i+1]?=aa C->cl[j+1]?=aa D->eK K (.ref C) (.ref D)=aa (ae<|i=j)
 ve:∀(i:Nat)(C:aw),cl[i+1]?=aa C->eK K (.ref C) (.type "ValueError")=aa ah
 exm:∀(i:Nat)(C S:aw),cl[i+1]?=aa C->cl[0]?=aa S->m7 K (.ref C) (.ref S)=aa ah
def tIs(K:aj)(ir:Nat)(Dv:V):TE:=tCB (Zfm K)<|YK (Gc ir)<|YK (tC Dv) Gm
section
variable{X:Cx}{ir is:Nat}{σ:L2.St}{H:Hp}{Q:VK}{p p1 p2 pos:d8}{xr x:bc}{cl:List aw}
structure ErAt(K:aj)(cl:List aw)(ir c:Nat)(σ:L2.St)(H:Hp):Prop where
 ex:∃a oe C,σ[ir]?=aa (aa<|.ref a)/\H a=aa (.frz oe<|.own a)/\oe.cls=.ref C/\cl[c+1]?=aa C
theorem ErAt.upd{K:aj}{c:Nat}{q:aw}{o:HO}(e:ErAt K cl ir c σ H)(hq:H q=ac):ErAt K cl ir c σ (L2.upd H q o):=by
 obtain⟨a,oe,C,h1,h2,h3⟩:=e.ex;exact⟨a,oe,C,h1,by rw[Zn λz=>by rw[z,hq]at h2;cases h2];exact h2,h3⟩
def ErAt.wr{K:aj}{c:Nat}{q:aw}{xs:List V}{o:HO}(e:ErAt K cl ir c σ H)(hq:H q=aa (.lst xs)):ErAt K cl ir c σ (L2.upd H q o):=by
 obtain⟨a,oe,C,h1,h2,h3⟩:=e.ex;exact⟨a,oe,C,h1,by rw[Zn λz=>by rw[z,hq]at h2;cases h2];exact h2,h3⟩
theorem ErAt.set{K:aj}{c j:Nat}{v:V}(e:ErAt K cl ir c σ H)(hj:ir≠j):ErAt K cl ir c (σ.set j<|aa v) H:=by
 obtain⟨a,oe,C,h1,h2⟩:=e.ex;exact⟨a,oe,C,by rw[aH<|Ne.symm hj];exact h1,h2⟩
def Xs{K:aj}{mg:bc->Option aq}{c j:Nat}{Dj:aw}(R:Errs K mg cl)(e:ErAt K cl ir c σ H)(hj:cl[j+1]?=aa Dj)(q:Q (.bl<|ae<|c=j) H):tIs K ir (.ref Dj) σ H Q:=by
 obtain⟨a,oe,C,h1,h2,h3,h4⟩:=e.ex;exact⟨.ref a,h1,a,oe,C,.ref Dj,.ref Dj,ae<|c=j,rfl,rfl,λu' r=>r,h2,h3,R.exk c C h4,R.one c j C Dj h4 hj,q⟩
def ZdU{K:aj}{mg:bc->Option aq}{c:Nat}(R:Errs K mg cl)(e:ErAt K cl ir c σ H)(q:Q (.bl ah) H):tIs K ir (.ty "ValueError") σ H Q:=by
 obtain⟨a,oe,C,h1,h2,h3,h4⟩:=e.ex;exact⟨.ref a,h1,a,oe,C,.ty "ValueError",.type "ValueError",ah,rfl,rfl,λu' r=>r,h2,h3,R.exk c C h4,R.ve c C h4,q⟩
def Zfk(hi:X.N[ir]?=aa xr)(hv:Vis X.env.scope xr)(hg0:Gl X "isinstance")(hm0:X.mg "isinstance" = ac)(hg:Gl X x)(hm:X.mg x=aa (.ref Dj))(hd1:(xr == ("__debug__" : bc))=ai)(hd2:(xr == ("__classdict__" : bc))=ai)(hd3:(x == ("__debug__" : bc))=ai)
  (hs:aC [.Name xr p1,.Name x p2] X.env=(ai,cb (.Name xr p1) X.env)::aC [.Name x p2] X.env:=by rfl)(hs2:aC [.Name x p2] X.env=(ai,cb (.Name x p2) X.env)::aC [] X.env:=by rfl)(hpl:(cX pos<|aC [.Name x p2] X.env).any (·.1)=ai:=by rfl) :
  PE X (.Call (.Name "isinstance" p) [.Name xr p1,.Name x p2] [] pos) (tIs X.K ir<|.ref Dj):=
 Wx yb hg0 hm0 rfl (ZF (Y6 hi hv hd1 hd2) (ZF (Zcr hg hm rfl hd3) Yt hs2) hs) (by decide) (by decide) hs hpl
def ZeS(hi:X.N[ir]?=aa xr)(hv:Vis X.env.scope xr)(hg0:Gl X "isinstance")(hm0:X.mg "isinstance" = ac)(hg:Gl X "ValueError")(hm:X.mg "ValueError" = ac)(hd1:(xr == ("__debug__" : bc))=ai)(hd2:(xr == ("__classdict__" : bc))=ai)
  (hs:aC [.Name xr p1,.Name "ValueError" p2] X.env=(ai,cb (.Name xr p1) X.env)::aC [.Name "ValueError" p2] X.env:=by rfl)(hs2:aC [.Name "ValueError" p2] X.env=(ai,cb (.Name "ValueError" p2) X.env)::aC [] X.env:=by rfl)(hpl:(cX pos<|aC [.Name "ValueError" p2] X.env).any (·.1)=ai:=by rfl) :
  PE X (.Call (.Name "isinstance" p) [.Name xr p1,.Name "ValueError" p2] [] pos) (tIs X.K ir<|.ty "ValueError"):=
 Wx yb hg0 hm0 rfl (ZF (Y6 hi hv hd1 hd2) (ZF (UE hg hm rfl rfl) Yt hs2) hs) (by decide) (by decide) hs hpl
def VC(K:aj)(ir is:Nat)(cl:List aw)(ts:TT)(rb:TE)(fin:TS):TS:=
 let I:=λj=>tIs K ir<|.ref<|cl.getD (j+1) 0
 JS (Zd0 (tB<|ZfJ<|Gc ir) (qW<|tC .non) jy) (JS (yE (ud<|YK (I 0)<|YK (I 1)<|YK (I 2) Gm)<|UQ is)
  (JS (yE (tOp ZbR (Gc is)<|ud<|YK (I 3)<|YK (I 4)<|YK (I 5) Gm)<|UQ is) (JS (yE (tOp ZbR (Gc is)<|ud<|YK (I 6)<|YK (I 7)<|YK (I 8) Gm)<|UQ is)
   (JS (Zdq<|tBM K "list" wI (Gc is)<|YK (I 9) Gm)<|JS (Zd0 (tOr (ZfK<|tB<|tIs K ir<|.ty "ValueError") ts) (qW rb) jy) fin))))
def wc{K:aj}{ts:TT}{rb:TE}{fin:TS}{Dn:Ends}(h:σ[ir]?=aa (aa .non))(q:Dn.rt .non H):VC K ir is cl ts rb fin Dn σ H:=by
 refine⟨.non,h,ah,rfl,?_⟩
 change (if ah=ah then _ else _)
 rw[T9 rfl];exact q
def Jx(xs:List V):∀ps,HO.lst xs≠.tbl ps:=λ_ z=>by cases z
def qN:∀c,c<10->(Ev.Zw c)[c]?=aa ah:=by decide
def jo:∀c,c<10->∀m,m<c->(Ev.Zw c)[m]?=aa ai:=by decide
theorem ww :∀{bs:List Bool}{xs:List V},Rq ρ H (bs.map D.bl) xs->xs=bs.map V.bl
 |[],_,h=>by exact h
 |b::bs,_,h=>by
  rw[aU]at h;obtain⟨v,vs,rfl,r,rs⟩:=h;rw[ww rs,r.bl'];rfl
theorem GF :∀(bs:List Bool),Rq ρ H (bs.map D.bl) (bs.map V.bl)
 |[]=>Rq.nil
 |b::bs=>Rq.cons (ZC b)<|GF bs
def uc{K:aj}{mg:bc->Option aq}{ts:TT}{rb:TE}{fi:TS}{Dn:Ends}{c:Nat}{ρ:List aw}{S:Zc}(R:Errs K mg cl)(hc:c<10)(e:ErAt K cl ir c σ H)(hne:ir≠is)(hsl:is<σ.length)(st:St3 K ρ S H)
  (hts:∀(σ':L2.St)(H':Hp)(p:aw)(Q':Bool->Hp->Prop),σ'[is]?=aa (aa<|.ref p)->σ'.length=σ.length->St3 K (ρ++[p]) (S++[.lst<|(Ev.Zw c).map .bl]) H'->(∀ρ2 H2,Fut (ρ++[p]) H' ρ2 H2->St3 K ρ2 (S++Ev.junk c) H2->Q' ai H2)->ts σ' H' Q')
  (fin:∀(σ':L2.St)(ρ':List aw)(H':Hp)(q:aw),σ'[is]?=aa (aa<|.ref q)->σ'.length=σ.length->H' q=aa (.lst<|(Ev.Zw c).map .bl)->Fut ρ H ρ' H'->St3 K ρ' (S++Ev.junk c) H'->fi Dn σ' H'):VC K ir is cl ts rb fi Dn σ H:=by
 have cj:∀j,j<10->cl[j+1]?=aa (cl.getD (j+1) 0):=λj hj=>by
  have hl:j+1<cl.length:=by rw[R.len];omega
  rw[ag hl,aG,ag hl];rfl
 obtain⟨a,oe,C,h1,h2,h3,h4⟩:=id e.ex;refine⟨.ref a,h1,ai,rfl,?_⟩
 change (if ai=ah then _ else _)
 rw[T8 aN]
 let A1:HO:=.lst [.bl<|ae<|c=0,.bl<|ae<|c=1,.bl<|ae<|c=2]
 let A2:HO:=.lst [.bl<|ae<|c=3,.bl<|ae<|c=4,.bl<|ae<|c=5]
 let A3:HO:=.lst [.bl<|ae<|c=0,.bl<|ae<|c=1,.bl<|ae<|c=2,.bl<|ae<|c=3,.bl<|ae<|c=4,.bl<|ae<|c=5]
 let A4:HO:=.lst [.bl<|ae<|c=6,.bl<|ae<|c=7,.bl<|ae<|c=8]
 let L5:List Bool:=[ae<|c=0,ae<|c=1,ae<|c=2,ae<|c=3,ae<|c=4,ae<|c=5,ae<|c=6,ae<|c=7,ae<|c=8]
 let A5:HO:=.lst<|L5.map .bl
 have neq:∀{G:Hp}{b d:aw}{u:HO},G b=aa u->G d=ac->b≠d:=λh1 h2 z=>by rw[z,h2]at h1;cases h1
 refine Xs R e (cj 0<|by omega)<|Xs R e (cj 1<|by omega)<|Xs R e (cj 2<|by omega) ⟨by show 3<=aY;decide,λq1 hq1=>?_⟩
 have e1:=(e.upd (o:=A1) hq1).set (j:=is) (v:=.ref q1) hne;have st1:=st.fresh (o:=A1) hq1<|Jx _;have f1:Fut ρ H ρ (upd H q1 A1):=ZR hq1;have g1:upd H q1 A1 q1=aa A1:=Zr;have l1:(σ.set is<|aa<|.ref q1).length=σ.length:=aT;refine⟨.ref q1,aS hsl,?_⟩;refine Xs R e1 (cj 3<|by omega)<|Xs R e1 (cj 4<|by omega)<|Xs R e1 (cj 5<|by omega) ⟨by show 3<=aY;decide,λq2 hq2=>?_⟩
 have g2:upd (upd H q1 A1) q2 A2 q1=aa A1:=by rw[Zn<|neq g1 hq2];exact g1
 have st2:=st1.fresh (o:=A2) hq2<|Jx _;have f2:Fut ρ H ρ (upd (upd H q1 A1) q2 A2):=f1.trans<|ZR hq2;refine⟨q1,q2,_,_,rfl,rfl,g2,Zr,by show 6<=aY;decide,λq3 hq3=>?_⟩
 let H3:=upd (upd (upd H q1 A1) q2 A2) q3 A3
 have e3:=((e1.upd (o:=A2) hq2).upd (o:=A3) hq3).set (j:=is) (v:=.ref q3) hne;have st3:St3 K ρ S H3:=st2.fresh (o:=A3) hq3<|Jx _;have f3:Fut ρ H ρ H3:=f2.trans<|ZR hq3;have g3:H3 q3=aa A3:=Zr;have l3:((σ.set is<|aa<|.ref q1).set is<|aa<|.ref q3).length=σ.length:=by rw[aT,l1]
 refine⟨.ref q3,aS<|by rw[l1];exact hsl,?_⟩
 refine Xs R e3 (cj 6<|by omega)<|Xs R e3 (cj 7<|by omega)<|Xs R e3 (cj 8<|by omega) ⟨by show 3<=aY;decide,λq4 hq4=>?_⟩
 have g4:upd H3 q4 A4 q3=aa A3:=by rw[Zn<|neq g3 hq4];exact g3
 have st4:=st3.fresh (o:=A4) hq4<|Jx _;have f4:Fut ρ H ρ (upd H3 q4 A4):=f3.trans<|ZR hq4;refine⟨q3,q4,_,_,rfl,rfl,g4,Zr,by show 9<=aY;decide,λq5 hq5=>?_⟩
 let H5:=upd (upd H3 q4 A4) q5 A5
 let σ5:=((σ.set is<|aa<|.ref q1).set is<|aa<|.ref q3).set is<|aa<|.ref q5
 have e5:=((e3.upd (o:=A4) hq4).upd (o:=A5) hq5).set (j:=is) (v:=.ref q5) hne;have l5:σ5.length=σ.length:=by rw[aT,l3]
 have v5:σ5[is]?=aa (aa<|.ref q5):=aS (by rw[l3];exact hsl)
 have st5:=st4.new (o:=.lst<|L5.map .bl) hq5 ⟨L5.map .bl,Zr,GF L5⟩<|Jx _;have f5:Fut ρ H (ρ++[q5]) H5:=f4.trans<|YQ hq5;have g5:H5 q5=aa A5:=Zr;refine⟨.ref q5,v5,.inl ⟨rfl,_,SqL.of g5⟩,?_⟩;refine Xs R e5 (cj 9<|by omega) ⟨q5,_,_,rfl,rfl,g5,by show 9<aY;decide,?_⟩
 let L6:List Bool:=Ev.Zw c
 have hL:L5.map V.bl++[.bl<|ae<|c=9]=L6.map V.bl:=rfl
 let H6:=upd H5 q5<|.lst<|L5.map V.bl++[.bl<|ae<|c=9]
 have hpl:(ρ++[q5])[S.length]?=aa q5:=by rw[<-st.len,bj<|aB _];simp
 have st6:St3 K (ρ++[q5]) (S++[.lst<|L6.map .bl]) H6:=by
  have h:=st5.wr (n:=S.length) (ys:=L5.map V.bl++[.bl<|ae<|c=9]) hpl (show(S++[Ob.lst<|L5.map D.bl])[S.length]?=aa (.lst<|L5.map D.bl)from by simp) g5 (by rw[hL];exact GF L6)
  have hs:(S++[Ob.lst<|L5.map D.bl]).set S.length (.lst<|L6.map D.bl)=S++[.lst<|L6.map D.bl]:=by
   rw[List.set_append_right _ _<|aB _,lV];rfl
  rw[hs]at h;exact h
 have f6:Fut ρ H (ρ++[q5]) H6:=f5.trans<|Xp g5;have e6:ErAt K cl ir c σ5 H6:=e5.wr g5;refine ZdU R e6 ⟨ah,rfl,?_⟩
 change (if ai=ah then _ else _)
 rw[T8 aN];refine hts σ5 H6 q5 _ v5 l5 st6 λρ7 H7 f7 st7=>?_
 change (if ai=ah then _ else _)
 rw[T8 aN];have pl7:=f7.at hpl;obtain⟨xs,hx,rx⟩:=st7.ob S.length (.lst<|L6.map D.bl) q5 (by show(S++[_,_])[S.length]?=_;simp[L6]) pl7
 obtain rfl:=ww rx;exact fin σ5 ρ7 H7 q5 v5 l5 hx (f6.trans f7) st7
def rbI:TE:=tUn (rU λi=>.int<|-i)<|tC<|.int 1
def ZdK(K:aj)(is:Nat):TS:=qW<|tBM K "list" Gd (Gc is)<|YK (tC<|.bl ah) Gm
def ZbH{K:aj}{c:Nat}{Dn:Ends}{q:aw}(hc:c<10)(v:σ[is]?=aa (aa<|.ref q))(h:H q=aa (.lst<|(Ev.Zw c).map .bl))(k:Dn.rt (.int c) H):ZdK K is Dn σ H:=
 ⟨.ref q,v,.inl ⟨rfl,_,SqL.of h⟩,q,Ev.Zw c,c,rfl,rfl,h,qN c hc,jo c hc,k⟩
noncomputable def tWs:List bc->TA
 |[]=>Gm
 |w::ws=>YK (tC<|.str w)<|tWs ws
theorem Zao{Q:List V->Hp->Prop}:∀{ws:List bc} ,Q (ws.map .str) H->tWs ws σ H Q
 |[],h=>h
 |w::ws,h=>Zao (ws:=ws) h
def ZdQ(K:aj)(is iw:Nat):TS:=JS (yE (ud<|tWs Ev.Y5)<|UQ iw)<|qW<|tOp (Zfu K) (Gc iw)<|tBM K "list" Gd (Gc is)<|YK (tC<|.bl ah) Gm
theorem z5 :∀(ws:List bc),Rq ρ H (ws.map D.str) (ws.map V.str)
 |[]=>Rq.nil
 |w::ws=>Rq.cons (VI w)<|z5 ws
def qz:∀c:Nat,c<10->atI (Ev.Y5.map V.str) (c:Int)=aa (.str<|Ev.Y5.getD c ""):=by decide +kernel
def Zbw{K:aj}{c iw:Nat}{Dn:Ends}{q:aw}{ρ:List aw}{S:Zc}(hc:c<10)(v:σ[is]?=aa (aa<|.ref q))(hw:iw<σ.length)(hne:iw≠is)(h:H q=aa (.lst<|(Ev.Zw c).map .bl))(st:St3 K ρ (S++Ev.junk c) H)(k:∀ρ' H',Fut ρ H ρ' H'->St3 K ρ' (S++Ev.JB ah c) H'->Dn.rt (.str<|Ev.Y5.getD c "") H'):ZdQ K is iw Dn σ H:=by
 refine Zao ⟨by decide,λp hp=>?_⟩
 have hqp:q≠p:=λz=>by rw[z,hp]at h;cases h
 have h1:upd H p (.lst<|Ev.Y5.map V.str) q=aa (.lst<|(Ev.Zw c).map .bl):=by rw[Zn hqp];exact h
 have st1:=st.new (o:=.lst<|Ev.Y5.map .str) hp ⟨_,Zr,z5 _⟩<|Jx _;refine⟨.ref p,aS hw,.ref q,by rw[aH hne];exact v,.inl ⟨rfl,_,SqL.of h1⟩,q,Ev.Zw c,c,rfl,rfl,h1,qN c hc,jo c hc,p,_,_,_,rfl,rfl,SqL.of Zr,qz c hc,?_⟩
 exact k (ρ++[p]) _ (YQ hp) (by rw[eE]at st1;exact st1)
end
structure LamIn(X:Cx)(scope:c7)(clos:List (bc×aw)):Prop where
 S:LamS scope clos
 cl:∀x c,clos.lookup x=aa c->X.env.cells.lookup x=aa c
 kd:∀x,scope.names.lookup x=aa .free->X.env.scope.names.lookup x=aa .cell
section
variable{X:Cx}{E:XK}{cl:List aw}{Cc:Calls}{i:Ev.E}{xw:Nat->Hp->Prop}
noncomputable def vR(w:Bool)(c:Nat):V:=if w then .str (Ev.Y5.getD c "")else .int c
def Ze1(w:Bool)(c:Nat):Rep ρ H (Ev.ZcF w c) (vR w c):=by
 cases w
 ·exact Zq _
 ·exact VI _
def Zcg{wd:Bool}{rb:TE}{fi:TS}{k:Nat}{f P c S0:aw}{fd:bK}{xf xc xr n xS:bc}{st:de}{Nr:List bc}{ic ie ir is:Nat}{params:l8}{body:Expr}{scope:c7}{lp p pos p0 p1 p2 p3 p4 p5 p6 p7 p8 p9 q0 q1:d8}{j0:Nat}{clos:List (bc×aw)}{rest:List de}{ts:Cx->TT}
  (D:DefX X E)(hfn:∀x,X.fn x=ah)(hr:Room (k+2) X.A)(R:Errs X.K X.mg cl)(hS0:cl[0]?=aa S0)
  (hP:∃ps,X.H₀ P=aa (.tbl ps))(hcode:X.env.code=.ref c)(C:cw X.base c P)(hB:X.base.BuiltinsAt X.mg P)(hgP:br≠P)(hq:X.env.qual++"<lambda>" = YV)(hcl:fT scope X.env=cA clos)(hdef:defaultsOf params X.env=([],[]))(L:LamIn X scope clos)
  (hbind0:∀pm c' ctv,kq (m8 "<lambda>" YV params body scope clos pm (.ref c') ctv) ⟨[],[]⟩=cA [])
  (hbody:∀(g:aw)(c':aw)(A:bL)(outer:List Env)(s:au)(H:Hp)(E1:XK),Room k (A.deeper<|d7 YV scope s.heap.objs.size g (.ref c') clos)->CE (cxL X.prog X.w X.K X.mg X.base X.N scope g (.ref c') clos A outer s H E1) (xwE cl E1) Cc body i)
  (hg:Gl X xf)(hm:X.mg xf=aa (.ref f))(hk:eL X.K (.ref f)=ah)(Fu:Fun X.K xf xf st f fd)(Sc:FnScope Nr [xc] (Zg st))(hb:Ua X.K fd [xc] [])(hdb:(xf == ("__debug__" : bc))=ai)
  (he:aC [.Lambda params body scope lp] X.env=(ai,cb (.Lambda params body scope lp) X.env)::aC [] X.env)(hpl:(cX pos<|aC [] X.env).any (·.1)=ai)
  (hst:ZE st=.Assign [.Name xr p0] (.Constant .none j0 q0) q1 :: .Try [.Expr (.Call (.Name xc p1) [] [] p2) p3] [.ExceptHandler (aa<|.Name xS p4) (aa n) [.Assign [.Name xr p5] (.Name n p6) p7] p8] [] [] p9::rest)
  (hN:Nr.Nodup)(hic:Nr[ic]?=aa xc)(hic0:ic=0)(hie:Nr[ie]?=aa n)(hir:Nr[ir]?=aa xr)(his:is<Nr.length)(hne:ir≠is)(hne2:ir≠ie)(hne3:ir≠0)
  (hkc:(Zg st).names.lookup xc=aa .local)(hke:(Zg st).names.lookup n=aa .local)(hkr:(Zg st).names.lookup xr=aa .local)(hkS:∀L f cdv,(cN xf (Zg st) L f cdv).kindOf xS=aa .globalImplicit)(hmS:X.mg xS=aa (.ref S0))
  (hd1:(xc == ("__debug__" : bc))=ai)(hd2:(xc == ("__classdict__" : bc))=ai)(hd3:(n == ("__debug__" : bc))=ai)(hd4:(n == ("__classdict__" : bc))=ai)(hd5:(xS == ("__debug__" : bc))=ai)
  (hs0:∀L f cdv,eT (.Constant .none j0 q0) (aa<|.Name xr p0) q1.line (cN xf (Zg st) L f cdv)=cA ai)(hs1:∀L f cdv,eT (.Call (.Name xc p1) [] [] p2) ac p3.line (cN xf (Zg st) L f cdv)=cA ai)
  (hs2:∀L f cdv,eT (.Name n p6) (aa<|.Name xr p5) p7.line (cN xf (Zg st) L f cdv)=cA ai)
  (hrest:∀(cdv:aq)(A:bL)(outer:List Env)(s:au)(H:Hp),Room (k+1) (A.deeper<|cN xf (Zg st) s.heap.objs.size f cdv)->
   PSs (Wj (CX1 X.prog X.w) X.prog X.w X.K X.mg X.base Nr xf (Zg st) f cdv A outer s H E0) rest (VC X.K ir is cl (ts<|Wj (CX1 X.prog X.w) X.prog X.w X.K X.mg X.base Nr xf (Zg st) f cdv A outer s H E0) rb fi))
  (hts:∀(Y:Cx)(ρ:List aw)(S:Zc)(e:Nat)(σ':L2.St)(H':Hp)(q:aw)(Q':Bool->Hp->Prop),Y.K=X.K->e<10->σ'[is]?=aa (aa<|.ref q)->σ'.length=Nr.length->St3 X.K (ρ++[q]) (S++[.lst<|(Ev.Zw e).map .bl]) H'->(∀ρ2 H2,Fut (ρ++[q]) H' ρ2 H2->St3 X.K ρ2 (S++Ev.junk e) H2->Q' ai H2)->ts Y σ' H' Q')
  (hfi:∀(Dn:Ends)(σ':L2.St)(ρ':List aw)(H':Hp)(S:Zc)(e:Nat)(q:aw),e<10->σ'[is]?=aa (aa<|.ref q)->σ'.length=Nr.length->H' q=aa (.lst<|(Ev.Zw e).map .bl)->St3 X.K ρ' (S++Ev.junk e) H'->(∀ρ2 H2,Fut ρ' H' ρ2 H2->St3 X.K ρ2 (S++Ev.JB wd e) H2->Dn.rt (vR wd e) H2)->fi Dn σ' H') :
  CE X xw Cc (.Call (.Name xf p) [.Lambda params body scope lp] [] pos) (.refu wd i):=by
 rintro pq s σ H Q I ⟨ρ,l,S,st0,lr,h⟩
 obtain⟨ps0,hP0⟩:=hP;obtain⟨more,hPH⟩:=I.base.tbls P ps0 hP0;refine dm<|Vo I hg hm ?_ hdb;refine la I.ok.mod.kin hk ?_ he hpl;rw[he];refine Calls.spliced_cons<|jD I st0.tb hPH hcode C hB hgP hq hcl hdef λg c' oc vs t pm ctv H1 s1 I1 gr tb1 _ hg1 hc1 d1 v1=>Calls.spliced_nil ⟨I1.kIn,?_⟩
 have nx:∀b:aw,b∉([]:List aw):=λb=>by simp
 have hbd:=hb s1 [.ref g] I1.kIn rfl;have st1:=st0.grow gr tb1;have f1:Fut ρ H ρ H1:=gr.fut;refine mU<|gF (Zfl (CX:=CX1 X.prog X.w) (Q:=Q) (E:=E0) (vs:=[.ref g]) Fu Sc hr I1.env0 (by simpa using hbd) (.cons rfl .nil) rfl λcdv s2 hrm I2=>?_) λr s' hq=>?_
 rotate_left
 ·cases r with
  |error e=>obtain⟨_,_,_,_,_,_,_,_,_,_,_,_,_,_,z⟩:=hq;exact z.elim
  |ok fl=>
   cases fl with|ret u=>exact I1.after hq|next=>exact False.elim hq|brk=>exact False.elim hq|cont=>exact False.elim hq
 rw[hst]
 let Xr:=Wj (CX1 X.prog X.w) X.prog X.w X.K X.mg X.base Nr xf (Zg st) f cdv X.A X.stack s1 H1 E0
 let D0:Ends:={nx:=λ_ H'=>Q .non H',rt:=Q}
 let σ2:L2.St:=(start Nr [.ref g]).set ir<|aa .non
 have b0:=VQ (X:=Xr) (pos':=p0) hN hir (.inl hkr) (xI (j:=j0)) (hs0 _ _ _)<|.inr hkr;refine eS<|thn (b0 [] s2 _ H1 {nx:=λσ' H'=>σ'=σ2/\H'=H1,rt:=λ_ _=>False} I2 ⟨rfl,rfl⟩) λfl s3 hq3=>?_
 cases fl with
 |ret v=>obtain⟨_,_,_,_,_,z⟩:=hq3;exact z.elim
 |brk=>obtain⟨_,_,_,z⟩:=hq3;exact False.elim z
 |cont=>obtain⟨_,_,_,z⟩:=hq3;exact False.elim z
 |next=>
 obtain⟨σx,Hx,I3,z1,z2⟩:=hq3;rw[z1,z2]at I3
 let E1:XK:=λCv _ H'=>∃e Ce S' ρ',Cv=.ref Ce/\cl[e]?=aa Ce/\ev Cc i l S=.ex e S'/\Fut ρ H1 ρ' H'/\St3 X.K ρ' S' H'
 have hl0:0<Nr.length:=by have:=(ay.mp hic).1;omega
 have hσl:=I3.len;have hirl:ir<σ2.length:=by rw[hσl];exact(ay.mp hir).1
 have hσ0:σ2[ic]?=aa (aa<|.ref g):=by
  rw[hic0,aH hne3];rfl
 have hσr:σ2[ir]?=aa (aa .non):=aS (by simpa[σ2]using hirl)
 have og:=(I3.hok g _ hg1).1;have oc':=(I3.hok c' _ hc1).1;have notin:∀x c0,X.env.cells.lookup x=aa c0->c0∉frs X.stack:=λx c0 hx hb=>by
  rw[D.st]at hb;unfold frs at hb;rw[bJ,D.fr]at hb;rcases az.mp hb with z|z
  ·exact I1.cne x c0 hx z
  ·obtain⟨_,o,ho,_⟩:=I1.ok.funs.mem z
   exact T7 (aJ ho)<|iO<|I1.ok.cab x c0 (hfn x) hx
 have cellKeep:∀x c0 v,X.env.cells.lookup x=aa c0->s1.heap.IsCell c0 v->s3.heap.IsCell c0 v:=λx c0 v hx ⟨o,ho,hd⟩=>
  ⟨o,I3.base.keep c0 o ho (I1.freeC x c0 hx) (notin x c0 hx)<|nx c0,hd⟩
 have hEnd:End X.K (xwE cl E1) Rep ρ H1 (λ_ H'=>VC X.K ir is cl (ts Xr) rb fi D0 σ2 H') (ev Cc i l S):=by
  have h:End X.K xw Rep ρ H Q (match ev Cc i l S with
   |.ok _ S=>.ok .non S
   |.ex c S=>if 1<=c/\c<=10 then .ok (Ev.ZcF wd<|c-1) (S++Ev.JB wd (c-1))else .no
   |.no=>.no):=by
   have h0:=h;rw[ev]at h0;exact h0
  cases q:ev Cc i l S with
  |no=>rw[q]at h;exact h.elim
  |ok d S'=>
   rw[q]at h;exact λρ' H' v f st' r=>wc hσr (h ρ' H' .non (f1.trans f) st' YT)
  |ex e S'=>
   rw[q]at h;have hg:=(End.guard h).1;intro ρ' H' f st';have he:e<cl.length:=by rw[R.len];omega
   exact⟨cl[e],ag he,e,cl[e],S',ρ',rfl,ag he,q,f,st'⟩
 refine eS<|thn (ZcP (X:=Xr) (E:=E0) (Dn:={nx:=λσ' H'=>VC X.K ir is cl (ts Xr) rb fi D0 σ' H',rt:=λ_ _=>False}) (E1:=E1) (S:=S0) (ic:=ic) (ie:=ie) (ir:=ir) ZbD I3 hN hic (.inl hkc) hσ0 hie hke hir hkr (hkS _ _ _) hmS ⟨_,_,_,_,og⟩ ?run ?e1 hd1 hd2 hd3 hd4 hd5 (hs1 _ _ _)<|hs2 _ _ _) λfl s4 hq4=>?_
 case run=>
  exact jS (k:=k) (N:=X.N) (σ:=σ) hrm I3.env0 L.S og ⟨c',oc,vs,t,rfl,oc',d1,v1⟩ (hbind0 pm c' ctv) (λx c0 e=>⟨let ⟨v,z⟩:=I1.cell x c0<|L.cl x c0 e;⟨v,cellKeep x c0 v (L.cl x c0 e) z⟩,I1.freeC x c0<|L.cl x c0 e⟩) I1.len
   (λj x v e1 e2 fr=>by
    obtain⟨m,hn,hl⟩:=I1.loc;obtain⟨u,r,lk⟩:=hl j x v e1 e2<|.inr<|.inl<|L.kd x fr;obtain⟨c1,hc1⟩:=L.S.has x fr;rcases lk with⟨k1,_⟩|⟨_,c0,hc0,z⟩
    ·have k1:X.env.scope.names.lookup x=aa .local:=k1
     rw[L.kd x fr]at k1;cases k1
    ·have:=L.cl x c1 hc1
     rw[hc0]at this;cases this;exact⟨u,c1,r,hc1,cellKeep x c1 _ hc0 z⟩)
   (hbody g c' Xr.A Xr.stack s3 H1 E1<|hrm.deeper _) ⟨ρ,l,S,st1,lr.mono f1,hEnd⟩
 case e1=>
  rintro Ce H' ⟨e,Ce',S',ρ',z,hce,hev,f,st'⟩
  cases z;have h2:End X.K xw Rep ρ H Q (if 1<=e/\e<=10 then .ok (Ev.ZcF wd<|e-1) (S'++Ev.JB wd (e-1))else .no):=by
   have h0:=h;rw[ev,hev]at h0;exact h0
  obtain⟨hge,h3⟩:=End.guard h2;obtain⟨e',rfl⟩:∃e',e=e'+1:=⟨e-1,by omega⟩
  refine⟨R.exm e' Ce S0 hce hS0,λa oe Ha ce=>?_⟩
  have stA:=st'.fresh (o:=.frz oe<|.own a) Ha;have er:ErAt X.K cl ir e' (((σ2.set ie<|aa<|.ref a).set ir<|aa<|.ref a).set ie ac) (upd H' a<|.frz oe<|.own a):=
   ⟨a,oe,Ce,by rw[aH<|Ne.symm hne2,aS<|by rw[aT];exact hirl],Zr,ce,hce⟩
  have len':(((σ2.set ie<|aa<|.ref a).set ir<|aa<|.ref a).set ie ac).length=Nr.length:=by rw[aT,aT,aT];exact hσl
  refine uc R (by omega) er hne (by rw[len'];exact his) stA (λσ' H2 q Q' a1 a2 a3 a4=>hts Xr ρ' S' e' σ' H2 q Q' rfl (by omega) a1 (a2.trans len') a3 a4) λσ' ρ2 H2 q b1 b2 b3 f2 st2=>?_
  refine hfi D0 σ' ρ2 H2 S' e' q (by omega) b1 (b2.trans len') b3 st2 λρ3 H3 f3 st3=>?_
  exact h3 ρ3 H3 (vR wd e') (f1.trans<|f.trans<|(ZR Ha).trans<|f2.trans f3) (by rw[lv];exact st3) (by rw[lv];exact Ze1 wd e')
 cases fl with
 |ret v=>obtain⟨_,_,_,_,_,z⟩:=hq4;exact z.elim
 |brk=>obtain⟨_,_,_,z⟩:=hq4;exact False.elim z
 |cont=>obtain⟨_,_,_,z⟩:=hq4;exact False.elim z
 |next=>
  obtain⟨σ4,H4,I4,q4⟩:=hq4;exact hrest cdv X.A X.stack s1 H1 hrm [] s4 σ4 H4 D0 I4 q4
end
noncomputable def ksum(is:Nat):Ev.E:=.cmp .ne (.blt .sum [.comp1 [] 1 [0] (.of<|.v is) []<|.blt .toInt [.v 0]])<|.c<|.int 1
section
variable{Cc:Calls}{S:Zc}{bs:List Bool}{is:Nat}{l:Lc}
noncomputable abbrev Uu(S:Zc)(bs:List Bool)(ys:List D):Zc:=S++[.lst<|bs.map .bl,.lst ys]
def vq(ys:List D):Ev.Zm (Uu S bs ys) (S.length+1)=aa ys:=by simp[Ev.Zm]
def Zcj(ys zs:List D):(Uu S bs ys).set (S.length+1) (.lst zs)=Uu S bs zs:=by simp_all
theorem zL:∀(cs:List Bool)(ys:List D)(o:Option D),ys.length+cs.length<=1000->∃σ,Ev.Xm ⟨bs.map .bl,[(S.length,bs.map .bl)]⟩ (λx σ S1=>(Ev.ob (Ev.assign [0] x S1 σ) S1).bind λσ S1=>(evt Cc [] σ S1).bind λb S1=>
   if b then(ev Cc (.blt .toInt [.v 0]) σ S1).bind λy S1=>(Ev.push (S.length+1) y S1).bind λ_ S1=>.ok σ S1 else .ok σ S1) (cs.map .bl) [o] (Uu S bs ys)=.ok σ (Uu S bs<|ys++cs.map λb=>.int<|Ev.b2i b)
 |[],ys,o,_=>⟨[o],by
  rw[fH,Ev.Xm,T9<|by simp[Ev.Walk.still]]
  simp⟩
 |c::cs,ys,o,h=>by
  have hl:ys.length<Ev.lim:=by unfold Ev.lim;simp only[aP]at h;omega
  obtain⟨σ,e⟩:=zL cs (ys++[.int<|Ev.b2i c]) (aa<|.bl c) (by grind)
  refine⟨σ,?_⟩;rw[aU,Ev.Xm,T9<|by simp[Ev.Walk.still]]
  have step:((Ev.ob (Ev.assign [0] (.bl c) (Uu S bs ys) [o])<|Uu S bs ys).bind λσ S1=>(evt Cc [] σ S1).bind λb S1=>
   if b then(ev Cc (.blt .toInt [.v 0]) σ S1).bind λy S1=>(Ev.push (S.length+1) y S1).bind λ_ S1=>.ok σ S1 else .ok σ S1)=.ok [aa<|.bl c] (Uu S bs<|ys++[.int<|Ev.b2i c]):=by
   show(Ev.push (S.length+1) (.int<|Ev.b2i c)<|Uu S bs ys).bind (λ_ S1=>R.ok [aa<|D.bl c] S1)=_
   unfold Ev.push;rw[vq];simp only[T9 hl,Zcj];rfl
  rw[step];show Ev.Xm _ _ (cs.map .bl) [aa<|.bl c] (Uu S bs<|ys++[.int<|Ev.b2i c])=_;rw[e,eE];rfl
theorem zQ:∀(bs:List Bool),Ev.Y1 (bs.map λb=>D.int<|Ev.b2i b)=aa (bs.map Ev.b2i)
 |[]=>rfl
 |b::bs=>by rw[aU,Ev.Y1,zQ bs];rfl
def vf:∀e,e<10->((Ev.Zw e).map Ev.b2i).sum=1/\Ev.Ui ((Ev.Zw e).map Ev.b2i)=ah:=by decide
def ZcV(he:e<10)(hl:l[is]?=aa (aa<|.loc S.length)):tst Cc (ksum is) l (S++[.lst<|(Ev.Zw e).map .bl])=.ok ai (S++Ev.junk e):=by
 obtain⟨σ,h⟩:=zL (Ev.Zw e) [] ac (by show 0+10<=1000;decide)
 have w:evw Cc (.of<|.v is) l (S++[.lst<|(Ev.Zw e).map .bl])=.ok ⟨(Ev.Zw e).map .bl,[(S.length,(Ev.Zw e).map .bl)]⟩ (S++[.lst<|(Ev.Zw e).map .bl]):=by
  rw[evw,ev,hl];show Ev.ob (Ev.Yi (S++[.lst<|(Ev.Zw e).map .bl])<|.loc S.length) _=_;unfold Ev.Yi;simp;rfl
 have c1:ev Cc (.comp1 [] 1 [0] (.of<|.v is) []<|.blt .toInt [.v 0]) l (S++[.lst<|(Ev.Zw e).map .bl])=.ok (.loc<|S.length+1) (S++Ev.junk e):=by
  rw[ev,w];have hs:(S++[Ob.lst<|(Ev.Zw e).map D.bl]).length=S.length+1:=by simp
  have ha:(S++[Ob.lst<|(Ev.Zw e).map D.bl])++[.lst []]=Uu S (Ev.Zw e) []:=by simp[Uu]
  change ((Ev.Xm ⟨(Ev.Zw e).map .bl,[(S.length,(Ev.Zw e).map .bl)]⟩ (λx σ S1=>(Ev.ob (Ev.assign [0] x S1 σ) S1).bind λσ S1=>(evt Cc [] σ S1).bind λb S1=>
   if b then(ev Cc (.blt .toInt [.v 0]) σ S1).bind λy S1=>(Ev.push (S++[Ob.lst<|(Ev.Zw e).map D.bl]).length y S1).bind λ_ S1=>.ok σ S1 else .ok σ S1) ((Ev.Zw e).map .bl) (Ev.caught [] 1 l)<|(S++[Ob.lst<|(Ev.Zw e).map D.bl])++[.lst []]).bind
    λ_ S1=>R.ok (D.loc (S++[Ob.lst<|(Ev.Zw e).map D.bl]).length) S1).nox=_
  rw[hs,ha,show Ev.caught [] 1 l=[ac]from rfl,h]
  rfl
 have c2:ev Cc (.blt .sum [.comp1 [] 1 [0] (.of<|.v is) []<|.blt .toInt [.v 0]]) l (S++[.lst<|(Ev.Zw e).map .bl])=.ok (.int 1) (S++Ev.junk e):=by
  have c3:evs Cc [.comp1 [] 1 [0] (.of<|.v is) []<|.blt .toInt [.v 0]] l (S++[.lst<|(Ev.Zw e).map .bl])=.ok [.loc<|S.length+1] (S++Ev.junk e):=by
   rw[evs,c1];simp only[R.bind,evs]
  rw[ev,c3];have g1:Ev.Zm (S++Ev.junk e) (S.length+1)=aa ((Ev.Zw e).map λb=>D.int<|Ev.b2i b):=vq _
  unfold Ev.Y9;simp only[g1,Ev.ob,R.bind,zQ,(vf e he).2,if_true,(vf e he).1]
 unfold tst ksum;rw[ev,c2];simp only[R.bind,ev];rfl
end
section
variable{X:Cx}{cl:List aw}{ir is:Nat}{Cc:Calls}
def ZdX{Q':Bool->Hp->Prop}{xw:Nat->Hp->Prop}(he:e<10)(h1:σ'[is]?=aa (aa<|.ref q))(st:St3 Y.K (ρ++[q]) (S++[.lst<|(Ev.Zw e).map .bl]) H')
  (hQ:∀ρ2 H2,Fut (ρ++[q]) H' ρ2 H2->St3 Y.K ρ2 (S++Ev.junk e) H2->Q' ai H2):tB3 Y xw (tst Cc<|ksum is) σ' H' Q':=by
 have hl:=(ay.mp h1).1;have hn:ρ.length=S.length:=by have:=st.len;simp at this;exact this
 refine⟨ρ++[q],(ar σ'.length ac).set is<|aa<|.loc S.length,_,st,⟨by simp,λi d e1=>?_⟩,?_⟩
 ·by_cases z:i=is
  ·subst z
   rw[aS<|by simpa using hl]at e1
   cases e1;refine⟨.ref q,h1,Wa ?_⟩;rw[<-hn,bj<|aB _];simp
  ·rw[aH<|Ne.symm z,bI]at e1
   split at e1<;>cases e1
 ·rw[ZcV he<|aS<|by simpa using hl]
  exact λρ2 H2 v f s2 r=>by
   have r:=r;subst r;exact hQ ρ2 H2 f s2
def ZcA{xr xs:bc}{ts:TT}{rb:TE}{fi:TS}{badE:Expr}{last:List de}{sumE:Expr}{P:Nat->d8}{J:Nat->Nat}(R:Errs X.K X.mg cl)(hN:X.N.Nodup)(hi:X.N[ir]?=aa xr)(hv:X.env.scope.names.lookup xr=aa .local)(hj:X.N[is]?=aa xs)(hw:X.env.scope.names.lookup xs=aa .local)
  (g0:Gl X "isinstance")(m0:X.mg "isinstance" = ac)(g1:Gl X "ValueError")(m1:X.mg "ValueError" = ac)(gc:∀x∈Xc,Gl X x)
  (r1:(xr == ("__debug__" : bc))=ai)(r2:(xr == ("__classdict__" : bc))=ai)(s1:(xs == ("__debug__" : bc))=ai)(s2:(xs == ("__classdict__" : bc))=ai)(hs:PT X sumE ts)
  (l1:((P 30).endLine == (P 31).line)=ah)(hbad:PE X badE rb)(hlast:PSs X last fi) :
  PSs X (.If (.Compare (.Name xr<|P 0) [.Is] [.Constant .none (J 0)<|P 1]<|P 2) [.Return (aa<|.Constant .none (J 1)<|P 3)<|P 4] [] (P 5) ::
   .Assign [.Name xs<|P 6] (.List [.Call (.Name "isinstance"<|P 40) [.Name xr<|P 41,.Name "NoRow"<|P 42] []<|P 43,.Call (.Name "isinstance"<|P 44) [.Name xr<|P 45,.Name "NoPart"<|P 46] []<|P 47,.Call (.Name "isinstance"<|P 48) [.Name xr<|P 49,.Name "NoNumber"<|P 50] []<|P 51]<|P 7) (P 8) ::
   .Assign [.Name xs<|P 9] (.BinOp (.Name xs<|P 10) .Add (.List [.Call (.Name "isinstance"<|P 52) [.Name xr<|P 53,.Name "NoHeads"<|P 54] []<|P 55,.Call (.Name "isinstance"<|P 56) [.Name xr<|P 57,.Name "NotBeside"<|P 58] []<|P 59,.Call (.Name "isinstance"<|P 60) [.Name xr<|P 61,.Name "NotIn"<|P 62] []<|P 63]<|P 11)<|P 12) (P 13) ::
   .Assign [.Name xs<|P 14] (.BinOp (.Name xs<|P 15) .Add (.List [.Call (.Name "isinstance"<|P 64) [.Name xr<|P 65,.Name "NoTurn"<|P 66] []<|P 67,.Call (.Name "isinstance"<|P 68) [.Name xr<|P 69,.Name "NoLot"<|P 70] []<|P 71,.Call (.Name "isinstance"<|P 72) [.Name xr<|P 73,.Name "TooMany"<|P 74] []<|P 75]<|P 16)<|P 17) (P 18) ::
   .Expr (.Call (.Attribute (.Name xs<|P 19) "append"<|P 30) [.Call (.Name "isinstance"<|P 76) [.Name xr<|P 77,.Name "BadNote"<|P 78] []<|P 79] []<|P 31) (P 20) ::
   .If (.BoolOp .Or [.UnaryOp .Not (.Call (.Name "isinstance"<|P 80) [.Name xr<|P 81,.Name "ValueError"<|P 82] []<|P 83)<|P 21,sumE]<|P 22) [.Return (aa badE)<|P 25] [] (P 26) ::
   last) (VC X.K ir is cl ts rb fi):=by
 have cj:∀j (x:bc),j<11->Xc[j]?=aa x->X.mg x=aa (.ref<|cl.getD j 0):=λj x hj e=>by
  have hl:j<cl.length:=by rw[R.len];exact hj
  exact R.nm j _ x (by rw[ag hl,aG,ag hl];rfl) e
 have vr:Vis X.env.scope xr:=.inl hv;have vs:Vis X.env.scope xs:=.inl hw;have is:∀{a b c d:d8}(j:Nat)(x:bc),j<11->Xc[j]?=aa x->(x == ("__debug__" : bc))=ai->PE X (.Call (.Name "isinstance" a) [.Name xr b,.Name x c] [] d) (tIs X.K ir<|.ref<|cl.getD j 0):=λj x h e hd=>
  Zfk hi vr g0 m0 (gc x<|cy e) (cj j x h e) r1 r2 hd
 unfold VC
 dsimp only
 refine YF (Zaj (Zer<|Ze2<|Y6 hi vr r1 r2) (VA<|U7 xI) JX) ?_;refine YF (VQ hN hj (.inl hw) (Qf<|ZF (is 1 "NoRow" (by decide) rfl<|by decide)<|ZF (is 2 "NoPart" (by decide) rfl<|by decide)<|ZF (is 3 "NoNumber" (by decide) rfl<|by decide) Yt) rfl<|.inr hw) ?_
 refine YF (VQ hN hj (.inl hw) (Us wb (Y6 hj vs s1 s2)<|Qf<|ZF (is 4 "NoHeads" (by decide) rfl<|by decide)<|ZF (is 5 "NotBeside" (by decide) rfl<|by decide)<|ZF (is 6 "NotIn" (by decide) rfl<|by decide) Yt) rfl<|.inr hw) ?_
 refine YF (VQ hN hj (.inl hw) (Us wb (Y6 hj vs s1 s2)<|Qf<|ZF (is 7 "NoTurn" (by decide) rfl<|by decide)<|ZF (is 8 "NoLot" (by decide) rfl<|by decide)<|ZF (is 9 "TooMany" (by decide) rfl<|by decide) Yt) rfl<|.inr hw) ?_
 refine YF (wF (vE dY PySem.F.slot_list_append PySem.F.type_list_append Jo (Y6 hj vs s1 s2) (ZF (is 10 "BadNote" (by decide) rfl<|by decide) Yt) rfl rfl l1 rfl rfl) rfl) ?_
 exact YF (Zaj (PW.pt<|Zdh (jq<|ZeZ<|ZeS hi vr g0 m0 g1 m1 r1 r2)<|ZaX hs) (VA<|U7 hbad) JX) hlast
def ZfI{xs:bc}{P:Nat->d8}{J:Nat->Nat}(hj:X.N[is]?=aa xs)(hw:X.env.scope.names.lookup xs=aa .local)(s1:(xs == ("__debug__" : bc))=ai)(s2:(xs == ("__classdict__" : bc))=ai)(l2:((P 32).endLine == (P 33).line)=ah) :
  PSs X [.Return (aa<|.Call (.Attribute (.Name xs<|P 27) "index"<|P 32) [.Constant (.bool ah) (J 3)<|P 28] []<|P 33)<|P 29] (ZdK X.K is):=
 VA (U7<|vE dY iQ iR zd (Y6 hj (.inl hw) s1 s2) (ZF vn Yt) rfl rfl l2 rfl rfl)
def Zgr{P:Nat->d8}{J:Nat->Nat}:PE X (.UnaryOp .USub (.Constant (.int 1) (J 2)<|P 23)<|P 24) rbI:=Zdu Za6 J4
structure BS(X:Cx)(s:de)(t:TS):Prop where
 h:PS X s t
structure BSs(X:Cx)(s:List de)(t:TS):Prop where
 h:PSs X s t
def Zcb(hN:X.N.Nodup)(hk:X.N[iw]?=aa xw)(hv:X.env.scope.names.lookup xw=aa .local)(h:PA X es ta):BS X (.Assign [.Name xw p1] (.List es p2) p3) (yE (ud ta)<|UQ iw):=
 ⟨VQ hN hk (.inl hv) (Qf h) rfl<|.inr hv⟩
def ZbP(h1:BS X s1 t1)(h2:BS X s2 t2):BSs X [s1,s2] (JS t1 t2):=⟨YF h1.h<|VA h2.h⟩
structure BA(X:Cx)(es:List Expr)(ws:List bc):Prop where
 h:PA X es (tWs ws)
def paW(h:BA X es ws):BA X (.Constant (.str x) 0 p::es) (x::ws):=⟨ZF Gw h.h⟩
def Zf9:BA X [] []:=⟨Yt⟩
def ZeY{P:Nat->d8}:BA X [.Constant (.str "row") 0<|P 102,.Constant (.str "part") 0<|P 103,.Constant (.str "number") 0<|P 104,.Constant (.str "heads") 0<|P 105,.Constant (.str "not beside") 0<|P 106,.Constant (.str "not in") 0<|P 107,.Constant (.str "turn") 0<|P 108,.Constant (.str "lot") 0<|P 109,.Constant (.str "many") 0<|P 110,.Constant (.str "note") 0<|P 111] Ev.Y5:=
 paW (paW<|paW<|paW<|paW<|paW<|paW<|paW<|paW<|paW Zf9)
def ZfT{xs xw:bc}{iw:Nat}{P:Nat->d8}(hN:X.N.Nodup)(hj:X.N[is]?=aa xs)(hw:X.env.scope.names.lookup xs=aa .local)(s1:(xs == ("__debug__" : bc))=ai)(s2:(xs == ("__classdict__" : bc))=ai)(hk:X.N[iw]?=aa xw)(hv:X.env.scope.names.lookup xw=aa .local)(t1:(xw == ("__debug__" : bc))=ai)(t2:(xw == ("__classdict__" : bc))=ai)(l2:((P 32).endLine == (P 33).line)=ah) :
  BSs X [.Assign [.Name xw<|P 34] (.List [.Constant (.str "row") 0<|P 102,.Constant (.str "part") 0<|P 103,.Constant (.str "number") 0<|P 104,.Constant (.str "heads") 0<|P 105,.Constant (.str "not beside") 0<|P 106,.Constant (.str "not in") 0<|P 107,.Constant (.str "turn") 0<|P 108,.Constant (.str "lot") 0<|P 109,.Constant (.str "many") 0<|P 110,.Constant (.str "note") 0<|P 111]<|P 35)<|P 36,
   .Return (aa<|.Subscript (.Name xw<|P 37) (.Call (.Attribute (.Name xs<|P 27) "index"<|P 32) [.Constant (.bool ah) 0<|P 28] []<|P 33)<|P 38) (P 29)] (ZdQ X.K is iw):=by
 refine ZbP (Zcb hN hk hv ZeY.h) ⟨?_⟩;refine U7<|ZdA vL (Y6 hk (.inl hv) t1 t2) (vE dY iQ iR zd (Y6 hj (.inl hw) s1 s2) (ZF vn Yt) rfl rfl l2 rfl rfl) ?_;intro _ _;with_unfolding_all rfl
end
end Sd
namespace Gn
open PySem PySem.Spec PyProof.Rows L2
open Ev (D Ob Zc Lc R E Sm Calls Walk Fl Fn Bop Cop Ty Bf Mf)
open Sd (CX1 spX xwE Errs Cls1 DefX)
structure Cls(K:aj)(mg:bc->Option aq)(base:bF)(cl:List aw):Prop where
 er:Errs K mg cl
 rs:∀(c:Nat)(S C:aw),cl[0]?=aa S->cl[c+1]?=aa C->Cls1 base S C
def uY(P:bq)(w:bC)(K:aj)(mg:bc->Option aq)(base:bF)(cl:List aw)(fs:List FR)(F:List Fn)(f:Nat->aw)(fd:Nat->bK)(d:Nat):Prop:=
 ∀i r,fs[i]?=aa r->FnOk P w K mg base (CX1 P w) d (f i) (fd i) r.ps (spX K cl (Ev.Zt F d) i)
def BdX(fs:List FR)(zs:List bc)(gs:List (bc×Gv))(F:List Fn)(i:Nat)(r:FR)(fn:Fn):Prop:=
 ∀(P:bq)(w:bC)(K:aj)(mg:bc->Option aq)(base:bF)(cl:List aw)(f:Nat->aw)(fd:Nat->bK)(d:Nat),Top K mg fs zs gs f fd->Cls K mg base cl->uY P w K mg base cl fs F f fd d->r.N.Nodup->
  ∀(cdv:aq)(A:bL)(outer:List Env)(s:au)(H:Hp)(E:XK),Room d (A.deeper<|cN r.x (Zg r.st) s.heap.objs.size (f i) cdv)->(A.deeper<|cN r.x (Zg r.st) s.heap.objs.size (f i) cdv).units+7<dh->
   Bx (Sd.CSs (Wj (CX1 P w) P w K mg base r.N r.x (Zg r.st) (f i) cdv A outer s H E) (xwE cl E) (Ev.Zt F d) (ZE r.st) fn.body)
def OkX(fs:List FR)(zs:List bc)(gs:List (bc×Gv))(F:List Fn):Nat->List FR->List Fn->Prop
 |_,[],[]=>True
 |i,r::rs,fn::fns=>(fn.ns=r.N.length/\fn.ps=r.ps.length/\scB r.N r.k (Zg r.st)=ah/\BdX fs zs gs F i r fn)/\OkX fs zs gs F (i+1) rs fns
 |_,_,_=>False
theorem OkX.get :∀{rs:List FR}{fns:List Fn}{i0:Nat},OkX fs zs gs F i0 rs fns->∀i r,rs[i]?=aa r->∃fn,fns[i]?=aa fn/\fn.ns=r.N.length/\fn.ps=r.ps.length/\scB r.N r.k (Zg r.st)=ah/\BdX fs zs gs F (i0+i) r fn
 |[],_,_,_,i,r,e=>by simp at e
 |_::_,[],_,h,_,_,_=>h.elim
 |r::rs,fn::fns,i0,h,0,r',e=>by
  simp at e;subst e;exact⟨fn,rfl,h.1.1,h.1.2.1,h.1.2.2.1,h.1.2.2.2⟩
 |r::rs,fn::fns,i0,h,i+1,r',e=>by
  obtain⟨g,a,b,c,d,q⟩:=OkX.get h.2 i r' (by simpa using e)
  exact⟨g,by simpa using a,b,c,d,by grind⟩
theorem vg{P:bq}{w:bC}{K:aj}{mg:bc->Option aq}{base:bF}{cl:List aw}{fs:List FR}{zs:List bc}{gs:List (bc×Gv)}{F G:List Fn}{f:Nat->aw}{fd:Nat->bK}(O:OkX fs zs gs F 0 fs G)(hG:∀(i:Nat)(fn:Fn),G[i]?=aa fn->F[i]?=aa fn)(T:Top K mg fs zs gs f fd)(L:Cls K mg base cl):∀d,uY P w K mg base cl fs F f fd d
 |0=>λi r h=>Sd.jd
 |d+1=>λi r h=>by
  obtain⟨fn,a,b,c,e,q⟩:=O.get i r h;rw[Nat.zero_add]at q;have S:=V5 e;exact Sd.jX (hG i fn a) b c (T.d i r h) S λcdv A outer s H E hr=>(q P w K mg base cl f fd d T L (vg O hG T L d) S.nd cdv A outer s H E hr<|Sd.hu7 hr).h
section
variable{X:Cx}{xw:Nat->Hp->Prop}{C:Calls}{e a b:Expr}{i j:Ev.E}{es:List Expr}{is:List Ev.E}{pos p p2 p3 jp np cpos:d8}{fs:List FR}{zs:List bc}{gs:List (bc×Gv)}{F:List Fn}{f:Nat->aw}{fd:Nat->bK}{d:Nat}{cl:List aw}
def ZaL{n:Nat}{x:bc}{E:XK}(D:DefX X E)(T:Top X.K X.mg fs zs gs f fd)(h:uY X.prog X.w X.K X.mg X.base cl fs F f fd d)(hr:Room d X.A)(ha:Bx (Sd.CA X (xwE cl E) (Ev.Zt F d) (e::es) is))(hx:(fs[n]?).map FR.x=aa x)(hg:Gl X x)(hdb:(x == ("__debug__" : bc))=ai)
  (he:aC (e::es) X.env=(ai,cb e X.env)::aC es X.env)(hpl:(cX pos<|aC es X.env).any (·.1)=ai):Bx (Sd.CE X (xwE cl E) (Ev.Zt F d) (.Call (.Name x p) (e::es) [] pos)<|.call n is):=by
 cases e0:fs[n]? with
 |none=>grind
 |some r=>
  rw[e0]at hx;obtain rfl:r.x=x:=ak hx;exact⟨Sd.zx (h n r e0) hr (Sd.Zfo D) (λ_ _ z=>z) (T.m n r e0) (T.d n r e0).kp (T.b n r e0) ha.h hg hdb he hpl⟩
def Zes(T:Top X.K X.mg fs zs gs f fd)(h:uY X.prog X.w X.K X.mg X.base cl fs F f fd d)(hr:Room d X.A)(ha:Bx (Sd.CA X Sd.nx (Ev.Zt F d) (e::es) is))(hx:(fs[n]?).map FR.x=aa x)(hg:Gl X x)(hdb:(x == ("__debug__" : bc))=ai)
  (he:aC (e::es) X.env=(ai,cb e X.env)::aC es X.env)(hpl:(cX pos<|aC es X.env).any (·.1)=ai):Bx (Sd.CE X Sd.nx (Ev.Zt F d) (.Call (.Name x p) (e::es) [] pos)<|.call n is):=by
 cases e0:fs[n]? with
 |none=>grind
 |some r=>
  rw[e0]at hx;obtain rfl:r.x=x:=ak hx;exact⟨Sd.zx (h n r e0) hr Sd.ZfU (λ_ _ z=>z.elim) (T.m n r e0) (T.d n r e0).kp (T.b n r e0) ha.h hg hdb he hpl⟩
def Zfc{c:Nat}{x y:bc}{k:Nat}{E:XK}(D:DefX X E)(hc:X.calm=ah)(L:Cls X.K X.mg X.base cl)(hx:Sd.Xc[c+1]?=aa x)(hg:Gl X x)(hd:(x == ("__debug__" : bc))=ai)
  (he:aC [.Constant (.str y) k p] X.env=(ai,cb (.Constant (.str y) k p) X.env)::aC [] X.env)(hpl:(cX cpos<|aC [] X.env).any (·.1)=ai) :
  Bx (Sd.CS X (xwE cl E) C (.Raise (aa<|.Call (.Name x np) [.Constant (.str y) k p] [] cpos) ac pos)<|.raise (c+1) []):=by
 have hl:c+1<cl.length:=by rw[L.er.len];have:=(ay.mp hx).1;exact this
 have h0:0<cl.length:=by omega
 exact⟨Sd.je D hc (L.rs c _ _ (ag h0)<|ag hl) (ag hl) hg (L.er.nm (c+1) _ x (ag hl) hx) hd he hpl⟩
end
end Gn
namespace Gn
open PySem PySem.Spec PyProof.Rows L2
open Ev (D Ob Zc Lc R E Sm Calls Walk Fl Fn Bop Cop Ty Bf Mf run runs)
open Sd (CX1 spX xwE Errs Cls1 DefX St3 End Rep Rq LocR YT)
def spL(Pt:aw)(K:aj)(cl:List aw)(C:Calls)(n:Nat):Sp:=λvs H Q E=>(∃ps,H Pt=aa (.tbl ps))/\spX K cl C n vs H Q E
section
variable{P:bq}{w:bC}{K:aj}{mg:bc->Option aq}{base:bF}{cl:List aw}
def qV{F:List Fn}{n d:Nat}{fn:Fn}{x qual:bc}{st:de}{f c Pt:aw}{fd:bK}{N ps:List bc}{k:Nat}(hF:F[n]?=aa fn)(hns:fn.ns=N.length)(hps:fn.ps=ps.length)(Fu:Fun K x qual st f fd)(S:FnScope N ps (Zg st))(hcd:fd.code=.ref c)
  (hb:∀(A:bL)(outer:List Env)(s:au)(H:Hp)(E:XK),(∃ps,H Pt=aa (.tbl ps))->Room k (A.deeper<|cN qual (Zg st) s.heap.objs.size f<|.ref c)->
   Sd.CSs (Wj (CX1 P w) P w K mg base N qual (Zg st) f (.ref c) A outer s H E) (xwE cl E) (Ev.Zt F d) (ZE st) fn.body) :
  FnOk P w K mg base (CX1 P w) (k+1) f fd ps (spL Pt K cl (Ev.Zt F<|d+1) n):=by
 have eq:∀ds S,Ev.Zt F (d+1) n ds S=if ds.length=fn.ps then(runs (Ev.Zt F d) fn.body (Ev.start fn.ns ds) S).bind λf S=>match f with
    |.ret x=>.ok x S
    |.nx _=>.ok .non S
    |_=>.no
   else .no:=λds S=>by
  rw[Ev.Zt,hF]
  all_goals rfl
 obtain⟨oc,od,kV,doc,pm,an,cdv,ct,osl,rfl,lk,hcode⟩:=Fu.ex;obtain rfl:cdv=.ref c:=hcd;refine Zdm lk hcode S (λvs H Q E ⟨_,ρ,ds,S,st,r,h⟩=>?_) λA outer s H vs Q E hr ⟨hP,ρ,ds,S',st,r,h⟩=>⟨_,hb A outer s H E hP hr,ρ,Ev.start fn.ns ds,S',st,Sd.LocR.start r N fn.ns hns,?_⟩
 ·rw[eq]at h
  obtain⟨hl,_⟩:=Sd.End.guard h;rw[r.length,hl,hps]
 ·rw[eq]at h
  obtain⟨hl,h⟩:=Sd.End.guard h;cases q:runs (Ev.Zt F d) fn.body (Ev.start fn.ns ds) S' with
  |no=>rw[q]at h;exact h
  |ex c S2=>rw[q]at h;exact h
  |ok fl S2=>
   rw[q]at h;cases fl with|ret x=>exact λρ' H' v g st r=>h ρ' H' v g st r|nx l=>exact λρ' H' σ' g st lr=>h ρ' H' .non g st YT|brk l=>exact False.elim h|cnt l=>exact False.elim h
def Zb6(hO:Sd.wN Pt H)(hS:SqL K H a (ns.map V.int))(h:∃S',C n [.loc 0] [.scr ns]=.ok (.bl ah) S'):spL Pt K cl C n [.ref a] H (λv _=>v=.bl ah) λ_ _ _=>False:=by
 obtain⟨S',e⟩:=h;refine⟨⟨_,hO.1⟩,[a],[.loc 0],[.scr ns],⟨rfl,λm k b h1 h2 hm=>?_,λm o b h1 h2=>?_,λQ ps e=>?_⟩,Sd.Rq.cons (Sd.Wa rfl) Sd.Rq.nil,?_⟩
 ·have l1:=(ay.mp h1).1
  have l2:=(ay.mp h2).1;simp at l1 l2;omega
 ·have l1:=(ay.mp h1).1
  have e0:m=0:=by simp at l1;exact l1
  subst e0;cases h1;cases h2;rcases hS with(hS|hS)|hS
  ·by_cases z:a=Pt
   ·rw[z,hO.1]at hS;cases hS
   ·rcases hO.2 a z with z|⟨o,xs,z⟩
    ·rw[z]at hS;cases hS
    ·rw[z]at hS;cases hS
  ·exact .inl hS
  ·exact .inr hS
 ·by_cases z:Q=Pt
  ·subst z
   rw[hO.1]at e;cases e;exact⟨trivial,λpos cv q=>by cases q⟩
  ·rcases hO.2 Q z with z|⟨_,_,z⟩<;>(rw[z]at e;cases e)
 ·rw[e]
  exact λρ' H' v _ _ r=>r.bl'
end
def BdL(fs:List FR)(zs:List bc)(gs:List (bc×Gv))(F:List Fn)(r:FR)(fn:Fn):Prop:=
 ∀(P:bq)(w:bC)(K:aj)(mg:bc->Option aq)(base:bF)(cl:List aw)(f:Nat->aw)(fd:Nat->bK)(fL c Pt:aw)(d:Nat),Top K mg fs zs gs f fd->Cls K mg base cl->uY P w K mg base cl fs F f fd d->r.N.Nodup->
  cw base c Pt->base.BuiltinsAt mg Pt->br≠Pt->
  ∀(A:bL)(outer:List Env)(s:au)(H:Hp)(E:XK),(∃ps,H Pt=aa (.tbl ps))->Room (d+2) (A.deeper<|cN r.x (Zg r.st) s.heap.objs.size fL<|.ref c)->(A.deeper<|cN r.x (Zg r.st) s.heap.objs.size fL<|.ref c).units+7<dh->
   Bx (Sd.CSs (Wj (CX1 P w) P w K mg base r.N r.x (Zg r.st) fL (.ref c) A outer s H E) (xwE cl E) (Ev.Zt F d) (ZE r.st) fn.body)
end Gn
namespace Gn
open PySem PySem.Spec PyProof.Rows L2 PySem.W
open Sd (Errs Cls1 ExK Xc veM)
noncomputable def ZcO(K:Frag)(cl:List aw)(i:Nat)(C:aw):Bool:=
 excIn K C veM "ValueError.__new__" && ((clsIn K C).isSome&&(m5 K (.ref C) "__getattribute__" == aa (aa<|.builtin "BaseException.__getattribute__")&&(m5 K (.ref C) "__getattr__" == aa ac &&
  (m5 K (.ref C) "__class__" == aa (aa<|.builtin "object.__class__")&&(mroIn K C (.type "BaseException") == aa ah&&(mroIn K C (.type "object") == aa ah&&(kitOne K (.ref C) (.type "ValueError") == aa ah &&
   (exmOne K (.ref C) (.ref<|cl.getD 0 0) == aa ah&&(cl.drop 1).zipIdx.all λq=>kitOne K (.ref C) (.ref q.1) == aa (ae<|i=q.2)))))))))
noncomputable def Q2(K:Frag)(cl:List aw):Bool:=
 decide (cl.length=11)&&((cl.zip Xc).all (λq=>nsIn K br q.2 == aa (aa<|.ref q.1))&&(cl.drop 1).zipIdx.all λq=>ZcO K cl q.2 q.1)
def Qk{α:Type}{l:List α}{f:α×Nat->Bool}(h:l.zipIdx.all f=ah){i:Nat}{a:α}(e:l[i]?=aa a):f (a,i)=ah:=by
 refine aV.mp h (a,i) ?_;rw[List.mem_zipIdx_iff_getElem?];exact e
section
variable{K:Frag}{cl:List aw}
def zX(h:Q2 K cl=ah){i:Nat}{C:aw}(e:cl[i+1]?=aa C):ZcO K cl i C=ah:=by
 unfold Q2 at h;rw[aE,aE]at h;have e1:(cl.drop 1)[i]?=aa C:=by rw[lw,Nat.add_comm];exact e
 exact Qk h.2.2 e1
def Zbx{hh:bF}{mg:bc->Option aq}(X:K.In hh)(G:hh.Ns br mg)(h:Q2 K cl=ah):Errs K mg cl:=by
 have h0:=h;unfold Q2 at h0;rw[aE,aE,T2]at h0;obtain⟨hl,hn,_⟩:=h0;have parts:∀{i:Nat}{C:aw},cl[i+1]?=aa C->_:=λ{i C} e=>by
  have:=zX h e;unfold ZcO at this;simp only[aE,beq_iff_eq]at this;exact this
 refine⟨hl,λj C x e1 e2=>?_,λj C e=>?_,λi j C D e1 e2=>?_,λi C e=>?_,λi C S e1 e2=>?_⟩
 ·have:=aV.mp hn (C,x) (cy<|by rw[eY];exact⟨e1,e2⟩)
  exact mg_of X G<|beq_iff_eq.mp this
 ·obtain⟨_,a,b,c,d,e5,e6,_⟩:=parts e
  exact⟨a,b,c,d,e5,e6⟩
 ·obtain⟨_,_,_,_,_,_,_,_,_,z⟩:=parts e1
  have e3:(cl.drop 1)[j]?=aa D:=by rw[lw,Nat.add_comm];exact e2
  exact beq_iff_eq.mp<|Qk z e3
 ·obtain⟨_,_,_,_,_,_,_,z,_⟩:=parts e
  exact z
 ·obtain⟨_,_,_,_,_,_,_,_,z,_⟩:=parts e1
  have:cl.getD 0 0=S:=by rw[aG,e2];rfl
  rw[this]at z;exact z
def ZeN(X:K.In base)(q:excIn K C veM "ValueError.__new__" = ah):Cls1 base S C:=by
 unfold excIn at q;split at q
 case h_2=>cases q
 case h_1 d0 k sl lk=>
  split at q
  case h_2=>cases q
  case h_1 c0 rest s0 s1 s2 s3 made s5 em es=>
   repeat rw[aE]at q
   obtain⟨⟨⟨⟨⟨y1,y2⟩,y3⟩,y4⟩,y5⟩,y6⟩:=q;cases beq_iff_eq.mp y1;cases beq_iff_eq.mp y2;have y3:k.hasDel=ai:=by simpa using y3
   cases k;cases em;cases y3;have es:=mq.mp es;cases es;exact⟨rest,_,_,_,_,_,_,_,_,_,d0,s0,s1,s2,s3,s5,_,X _ _ lk,.of_isNs<|isNs_of_in X y5,nsMap_none_of_in X y5<|beq_iff_eq.mp y6,tail_of_in X y4⟩
def Zca(X:K.In hh)(G:hh.Ns br mg)(XB:K.In base)(h:Q2 K cl=ah):Cls K mg base cl:=by
 refine⟨Zbx X G h,λc S C e0 e1=>ZeN XB ?_⟩
 have:=zX h e1;unfold ZcO at this;rw[aE]at this;exact this.1
end
end Gn
namespace Gn
open PySem PySem.Spec PyProof.Rows L2
open Ev (D Ob Zc Lc R E Sm Calls Walk Fl Fn Bop Cop Ty Bf Mf)
open Sd (CX1)
def ZbN{l:i9}{w:bC}{K:aj}{h:bF}{mg:bc->Option aq}{fa c Pt aL:aw}{fs:List FR}{zs:List bc}{gs:List (bc×Gv)}{F G:List Fn}{L:Nat}{fnL:Fn}{fdL:bK}{st:de}{N:List bc}{as cl:List aw}{fds:List bK}
  (X:K.In h)(Gs:h.Ns br mg)(hfa:mg "law" = aa (.ref fa))(O:OkX fs zs gs F 0 fs G)(hG:∀(i:Nat)(fn:Fn),G[i]?=aa fn->F[i]?=aa fn)(A:FnsAt K fs as fds)(Z:ZsAt K zs)(Y:GsAt K gs)(Er:Q2 K cl=ah)
  (AL:FnsAt K [⟨"law",st,"_law_script" :: N,1⟩] [aL] [fdL])(hFL:F[L]?=aa fnL)(h1:fnL.ns=N.length+1)(h2:fnL.ps=1)(hsc:scB ("_law_script" :: N) 1 (Zg st)=ah)(B:BdL fs zs gs F ⟨"law",st,"_law_script" :: N,1⟩ fnL)(hcode:fdL.code=.ref c) :
  ∃fd:bK,(∀(s:au)(v:aq),kH s fd ⟨[v],[]⟩ [("_law_script",v)])/\∀base:bF,K.In base->base.Ns br mg->cw base c Pt->base.BuiltinsAt mg Pt->br≠Pt->FnOk l.prog w K mg base (CX1 l.prog w) 65 fa fd ["_law_script"] (spL Pt K cl (Ev.Zt F 63) L):=by
 have T:Top K mg fs zs gs (λi=>as.getD i 0) (λi=>fds.getD i fdL):=
  ⟨λi r e=>(A.get i r e).2.1,λi r e=>by
   obtain⟨_,F,B⟩:=A.get i r e;exact F.binds B,λi r e=>iF X Gs (A.get (fd0:=fdL) i r e).1,λx hx=>PySem.W.mg_none_of X Gs<|Z.get x hx,λy hy=>Y.get X Gs y hy⟩
 obtain⟨hn,Fu,Bn⟩:=AL.get (fd0:=fdL) 0 _ rfl;have e:=hfa.symm.trans<|iF X Gs hn;cases e;have S:=V5 hsc;refine⟨fdL,λs v=>?_,λbase XB GB hC hB hP=>?_⟩
 ·obtain⟨oc,od,kV,doc,pm,an,cdv,ct,osl,e,lk,hcd⟩:=Fu.ex
  have e:fdL=_:=e;rw[e];exact .of_eq<|Bn kV doc pm an cdv ct [v] rfl
 ·have Lc:=Zca X Gs XB Er
  exact qV (N:="_law_script" :: N) hFL h1 h2 Fu S hcode λA outer s H E hp hr=>(B l.prog w K mg base cl _ _ _ c Pt 62 T Lc (vg O hG T Lc 62) S.nd hC hB hP A outer s H E hp hr<|Sd.hu7 hr).h
theorem Zah{l:i9}{q:bq}{loose:List bc}{XP:(bc->Option aq)->bF->Prop}{YP:bC->bF->Prop}{d:nI}{K:Params->aj}{F:List Fn}{L:Nat}{c Pt:aw}{dr:nI}{cl:bC->List aw}(hok:∀ns:List Int,∃S,Ev.Zt F 63 L [.loc 0] [.scr ns]=.ok (.bl ah) S)(hn:l.most=aa 63)(hdf:d.params.defaults=[])
  (hY:∀(w:bC)(h:bF),YP w h->(K w.params).In h)(hrec:(recsOf q).find? (λe=>e.name == d.name)=aa dr)(ht:∀w:bC,nw (K w.params) d.name=aa (c,Pt))(hK:∀w:bC,kF (K w.params)=ah)
  (hF:∀(w:bC)(mg:bc->Option aq)(fa:aw)(h:bF),(K w.params).In h->h.Ns br mg->mg d.name=aa (.ref fa)->
   ∃fd:bK,(∀(s:au)(u:aq),kH s fd ⟨[u],[]⟩ [("_law_script",u)])/\∀base:bF,(K w.params).In base->base.Ns br mg->cw base c Pt->base.BuiltinsAt mg Pt->br≠Pt->FnOk l.prog w (K w.params) mg base (CX1 l.prog w) 65 fa fd ["_law_script"] (spL Pt (K w.params) (cl w) (Ev.Zt F 63) L)) :
  ny q loose XP YP l.row.toRowW d [] (λf vs=>mW f vs):=
 Sd.Zah (sp:=λw Pt=>spL Pt (K w.params) (cl w) (Ev.Zt F 63) L) hn (by decide) hdf ⟨rfl,by decide,by decide⟩ hY hrec ht hK hF (λw H a ns hl hO hS=>Zb6 hO hS<|hok ns) λ_ _ _ _ _ ⟨_,_,_,_,_,_,_,_,_,_,_,_,_,_,z⟩=>z
end Gn
namespace Sd
open PySem PySem.Spec PyProof.Rows L2
open Ev (D Ob Zc Lc R E Sm Calls Walk Fl Fn Bop Cop Ty Bf Mf ev evs evo evt evw tst run runs)
section
variable{X:Cx}{xw:Nat->Hp->Prop}{C:Calls}
def jO :CE X xw C (.Dict [aa<|.Constant (.int i) a p1] [.Constant (.int j) b p2] pos) (.dput1 (.c<|.int i)<|.c<|.int j):=
 PE.imp (Zcv (jW J4 J4 ZbK) rfl rfl (by simp)<|by show 1<=15;omega) λσ H Q ⟨ρ,l,S,st,lr,h⟩=>λp hp=>
  ⟨Zr,[(cI i,.int j)],rfl,by show 1<=15;omega,by
   rw[ZbB];have h:=h;exact h (ρ++[p]) _ _ (YQ hp) (st.new hp ⟨[(cI i,.int j)],Zr,.cons ⟨rfl,Zq j⟩ .nil⟩ λ_ z=>by cases z)<|Wa<|by rw[<-st.len];simp⟩
end
end Sd
namespace Gn
open PySem PySem.Spec PyProof.Rows L2
open Ev (D Ob Zc Lc R E Sm Calls Walk Fl Fn Bop Cop Ty Bf Mf tst)
open Sd (CX1 spX xwE Errs Cls1 DefX LamS LamIn VC tB3 ksum YV Xc)
theorem WX :∀(l:List (bc×dU))(acc:List (bc×aw)),(∀y∈l,y.2=.free->(env.cells.lookup y.1).isSome=ah)->(∀x c,(x,c)∈acc->env.cells.lookup x=aa c)->
  ∃cs,(forIn l acc (λy r=>if y.2 == .free then do let a <-cellOf env y.1;cA (gq ((y.1,a)::r))else cA (gq r)):mL _)=cA cs/\(∀x c,(x,c)∈cs->env.cells.lookup x=aa c)/\(∀x c,(x,c)∈acc->(x,c)∈cs)/\∀x,(x,bG)∈l->∃c,(x,c)∈cs
 |[],acc,_,ha=>⟨acc,rfl,ha,λ_ _ h=>h,λx h=>by simp at h⟩
 |(x,k)::l,acc,hl,ha=>by
  by_cases e:k=.free
  ·subst e
   have h0:=hl (x,.free) (by simp) rfl
   obtain⟨c,hc⟩:=bP.mp h0;obtain⟨cs,e1,h1,h2,h3⟩:=WX l ((x,c)::acc) (λy hy=>hl y<|by simp[hy]) (λy d hd=>by
    rcases az.mp hd with z|z
    ·cases z;exact hc
    ·exact ha y d z)
   refine⟨cs,?_,h1,λy d hd=>h2 y d<|by simp[hd],λy hy=>?_⟩
   ·rw[<-e1]
    unfold cellOf;have hc:=hc;simp[hc]
   ·rcases az.mp hy with z|z
    ·cases z;exact⟨c,h2 x c<|by simp⟩
    ·exact h3 y z
  ·obtain⟨cs,e1,h1,h2,h3⟩:=WX l acc (λy hy=>hl y<|by simp[hy]) ha
   refine⟨cs,?_,h1,h2,λy hy=>?_⟩
   ·rw[<-e1]
    simp[e]
   ·rcases az.mp hy with z|z
    ·cases z;exact T7 rfl e
    ·exact h3 y z
def WS(hl:∀y∈scope.names,y.2=.free->(env.cells.lookup y.1).isSome=ah):∃cs,fT scope env=cA cs/\(∀x c,(x,c)∈cs->env.cells.lookup x=aa c)/\∀x,(x,bG)∈scope.names->∃c,(x,c)∈cs:=by
 obtain⟨cs,e,h1,_,h3⟩:=WX scope.names [] hl (λx c h=>by simp at h)
 refine⟨cs,?_,h1,h3⟩;rw[<-e];unfold fT;simp
theorem Wo:∀(names:List (bc×dU))(n:Nat)(acc:List (bc×aw)),(acc.Pairwise λx y=>x.2≠y.2)->(∀y∈acc,y.2<n)->(fS n names acc).Pairwise λx y=>x.2≠y.2
 |[],_,_,h,_=>h
 |(x,k)::r,n,acc,h,hn=>by
  unfold fS;split
  ·refine Wo r (n+1) _ (bg.mpr ⟨λy hy z=>?_,h⟩) λy hy=>?_
   ·have:=hn y hy
    exact T7 (z)<|cY this
   ·rcases az.mp hy with rfl|hy
    ·exact fV n
    ·exact dM<|hn y hy
  ·exact Wo r n acc h hn
def Yl{α:Type}{l:List (bc×α)}{x:bc}{a:α}(h:l.lookup x=aa a):(x,a)∈l:=cG h
def uV{l:List (bc×aw)}(h:l.Pairwise λx y=>x.2≠y.2){x y:bc}{c:aw}(h1:(x,c)∈l)(h2:(y,c)∈l):x=y:=by
 induction h with
 |nil=>simp at h1
 |cons hd _ ih=>
  rcases az.mp h1 with z1|z1<;>rcases az.mp h2 with z2|z2
  ·exact congrArg Prod.fst<|z1.trans z2.symm
  ·rw[<-z1]at hd;exact T7 rfl<|hd (y,c) z2
  ·rw[<-z2]at hd;exact T7 rfl<|hd (x,c) z1
  ·exact ih z1 z2
def QS{l:List (bc×aw)}{x:bc}{c:aw}(h:(x,c)∈l):∃d,l.lookup x=aa d:=by
 induction l with
 |nil=>simp at h
 |cons p l ih=>
  obtain⟨y,d⟩:=p;rw[dg];by_cases e:x=y
  ·subst e;exact⟨d,by simp⟩
  ·rcases az.mp h with z|z
   ·cases z;exact T7 rfl e
   ·have:(x == y)=ai:=by simpa using e
    rw[this];exact ih z
noncomputable def ZdM(sc scope:c7):Bool:=
 (match scope.kind with|.function=>ah|_=>ai)&&(!scope.isCoroutine&&(!scope.isGenerator&&scope.names.all λy=>ae (y.2≠.cell)&&(ae (y.2≠.local)&&(!decide (y.2=.free)||decide (sc.names.lookup y.1=aa .cell)))))
def Zd3{X:Cx}{sc scope:c7}{n:Nat}(hs:X.env.scope=sc)(hc:X.env.cells=fS n sc.names [])(h:ZdM sc scope=ah):∃clos,fT scope X.env=cA clos/\LamIn X scope clos:=by
 unfold ZdM at h;simp only[aE,iz,T2,aV,gz,decide_eq_false_iff_not]at h;obtain⟨h1,h2,h3,h4⟩:=h;have fr:∀x,(x,bG)∈scope.names->sc.names.lookup x=aa .cell:=λx hx=>by
  rcases(h4 _ hx).2.2 with z|z
  ·exact T7 rfl z
  ·exact z
 obtain⟨cs,e,c1,c2⟩:=WS λy hy z=>by
  obtain⟨x,k⟩:=y;cases z;obtain⟨c,q⟩:=L2.U0<|fr x hy;rw[hc,q];rfl
 have ap:=Wo sc.names n [] (by simp) (by simp)
 have lk:=λx c q=>c1 x c<|Yl q
 refine⟨cs,e,⟨?_,h2,h3,λy hy=>(h4 y hy).1,λx v=>?_,λx q=>?_,λx y c q1 q2=>?_⟩,lk,λx q=>?_⟩
 ·cases e:scope.kind<;>rw[e]at h1<;>first|rfl|cases h1
 ·rcases v with v|v|v
  ·exact T7 rfl (h4 _<|Yl v).2.1
  ·exact T7 rfl (h4 _<|Yl v).1
  ·exact v
 ·obtain⟨c,q⟩:=c2 x (Yl q)
  exact QS q
 ·have a1:=Yl (lk x c q1)
  have a2:=Yl<|lk y c q2;rw[hc]at a1 a2;exact uV ap a1 a2
 ·rw[hs]
  exact fr x<|Yl q
noncomputable abbrev rN(wd:Bool):List bc:=if wd then["_law_call","_law_error","e","_law_sorts","_law_words"]else["_law_call","_law_error","e","_law_sorts"]
noncomputable def Zfp(wd:Bool)(P:Nat->d8):Expr:=if wd then .Constant (.str "none of these") 0 (P 24)else .UnaryOp .USub (.Constant (.int 1) 0<|P 23) (P 24)
noncomputable def Zdr(wd:Bool)(P:Nat->d8):List de:=if wd then[.Assign [.Name "_law_words"<|P 34] (.List [.Constant (.str "row") 0<|P 102,.Constant (.str "part") 0<|P 103,.Constant (.str "number") 0<|P 104,.Constant (.str "heads") 0<|P 105,.Constant (.str "not beside") 0<|P 106,.Constant (.str "not in") 0<|P 107,.Constant (.str "turn") 0<|P 108,.Constant (.str "lot") 0<|P 109,.Constant (.str "many") 0<|P 110,.Constant (.str "note") 0<|P 111]<|P 35)<|P 36,
   .Return (aa<|.Subscript (.Name "_law_words"<|P 37) (.Call (.Attribute (.Name "_law_sorts"<|P 27) "index"<|P 32) [.Constant (.bool ah) 0<|P 28] []<|P 33)<|P 38) (P 29)]
 else[.Return (aa<|.Call (.Attribute (.Name "_law_sorts"<|P 27) "index"<|P 32) [.Constant (.bool ah) 0<|P 28] []<|P 33)<|P 29]
def rbR(wd:Bool):TE:=if wd then tC (.str "none of these")else Sd.rbI
def fiR(K:aj)(wd:Bool):TS:=if wd then Sd.ZdQ K 3 4 else Sd.ZdK K 3
noncomputable def vZ(wd:Bool)(P:Nat->d8)(sumE:Expr):List de:=
 let n:="_law_error"
 let s:="_law_sorts"
 let i:=λ(x:bc) (k:Nat)=>Expr.Call (.Name "isinstance"<|P k) [.Name n<|P<|k+1,.Name x<|P<|k+2] []<|P<|k+3
 .If (.Compare (.Name n<|P 0) [.Is] [.Constant .none 0<|P 1]<|P 2) [.Return (aa<|.Constant .none 0<|P 3)<|P 4] [] (P 5) ::
   .Assign [.Name s<|P 6] (.List [i "NoRow" 40,i "NoPart" 44,i "NoNumber" 48]<|P 7) (P 8) ::
   .Assign [.Name s<|P 9] (.BinOp (.Name s<|P 10) .Add (.List [i "NoHeads" 52,i "NotBeside" 56,i "NotIn" 60]<|P 11)<|P 12) (P 13) ::
   .Assign [.Name s<|P 14] (.BinOp (.Name s<|P 15) .Add (.List [i "NoTurn" 64,i "NoLot" 68,i "TooMany" 72]<|P 16)<|P 17) (P 18) ::
   .Expr (.Call (.Attribute (.Name s<|P 19) "append"<|P 30) [i "BadNote" 76] []<|P 31) (P 20) ::
   .If (.BoolOp .Or [.UnaryOp .Not (i "ValueError" 80)<|P 21,sumE]<|P 22) [.Return (aa<|Zfp wd P)<|P 25] [] (P 26)::Zdr wd P
noncomputable def vK(P:Nat->d8):List de:=
 [.Assign [.Name "_law_error"<|P 90] (.Constant .none 0<|P 91)<|P 92,.Try [.Expr (.Call (.Name "_law_call"<|P 93) [] []<|P 94)<|P 95] [.ExceptHandler (aa<|.Name "SpaceError"<|P 96) (aa "e") [.Assign [.Name "_law_error"<|P 97] (.Name "e"<|P 98)<|P 99]<|P 100] [] []<|P 101]
noncomputable def vI(b:List de):Expr:=match b.getD 7 (.Pass ⟨0,0,0,0⟩)with
 |.If (.BoolOp _ [_,e] _) _ _ _=>e
 |_=>.Constant .none 0 ⟨0,0,0,0⟩
noncomputable def Zac(wd:Bool)(P:Nat->d8)(sc:c7):Bool:=
 (rN wd).all (λx=>ae<|sc.names.lookup x=aa .local)&&(((["isinstance","ValueError"]:List bc)++Xc).all (λx=>ae<|sc.names.lookup x=aa .globalImplicit)&&((P 30).endLine == (P 31).line&&(P 32).endLine == (P 33).line))
noncomputable abbrev cxR(wd:Bool)(P:bq)(w:bC)(K:aj)(mg:bc->Option aq)(base:bF)(st:de)(f:aw)(cdv:aq)(A:bL)(outer:List Env)(s:au)(H:Hp):Cx:=Wj (CX1 P w) P w K mg base (rN wd) "_law_refused" (Zg st) f cdv A outer s H E0
def Za7(wd:Bool)(P:bq)(w:bC)(K:aj)(mg:bc->Option aq)(base:bF)(cl:List aw)(C:Calls)(d:Nat)(st:de)(f:aw):Prop:=
 ∀(cdv:aq)(A:bL)(outer:List Env)(s:au)(H:Hp),Room (d+1) (A.deeper<|cN "_law_refused" (Zg st) s.heap.objs.size f cdv)->
  PSs (cxR wd P w K mg base st f cdv A outer s H) ((ZE st).drop 2) (VC K 1 3 cl (tB3 (cxR wd P w K mg base st f cdv A outer s H) Sd.nx<|tst C<|ksum 3) (rbR wd)<|fiR K wd)
section
variable{wd:Bool}{P:bq}{w:bC}{K:aj}{mg:bc->Option aq}{base:bF}{cl:List aw}{fs:List FR}{zs:List bc}{gs:List (bc×Gv)}{F:List Fn}{f:Nat->aw}{fd:Nat->bK}{d nR:Nat}{st:de}{Pp:Nat->d8}{C:Calls}
def wK(h:Zac wd Pp sc=ah):(∀x∈rN wd,sc.names.lookup x=aa .local)/\(∀x∈(["isinstance","ValueError"]:List bc)++Xc,sc.names.lookup x=aa .globalImplicit)/\((Pp 30).endLine == (Pp 31).line)=ah/\((Pp 32).endLine == (Pp 33).line)=ah:=by
 unfold Zac at h;simp only[aE,aV,T2]at h;exact⟨h.1,h.2.1,h.2.2.1,h.2.2.2⟩
def ZdP(T:Top K mg fs zs gs f fd)(L:Cls K mg base cl)(hst:(ZE st).drop 2=vZ wd Pp (vI<|ZE st))(hB:Zac wd Pp (Zg st)=ah)(hsc:scB (rN wd) 1 (Zg st)=ah)(hz:zs.contains "isinstance" = ah)(hz2:zs.contains "ValueError" = ah)
  (hsum:∀(cdv:aq)(A:bL)(outer:List Env)(s:au)(H:Hp),(A.deeper<|cN "_law_refused" (Zg st) s.heap.objs.size (f nR) cdv).units+7<dh->Bx (Sd.CT (cxR wd P w K mg base st (f nR) cdv A outer s H) Sd.nx C (vI<|ZE st)<|ksum 3)) :
  Za7 wd P w K mg base cl C d st (f nR):=by
 intro cdv A outer s H hr;obtain⟨b1,b2,b3,b4⟩:=wK hB;rw[hst];have gl:=λx hx=>b2 x hx
 have nd:=(V5 hsc).nd;have hs:=(hsum cdv A outer s H<|Sd.hu7 hr).h;have hl:Sd.BSs (cxR wd P w K mg base st (f nR) cdv A outer s H) (Zdr wd Pp) (fiR K wd):=by
  cases wd with|false=>exact⟨Sd.ZfI (J:=λ_=>0) rfl (b1 _<|by simp[rN]) rfl rfl b4⟩|true=>exact Sd.ZfT nd rfl (b1 _<|by simp[rN]) rfl rfl rfl (b1 _<|by simp[rN]) rfl rfl b4
 have hb:PE (cxR wd P w K mg base st (f nR) cdv A outer s H) (Zfp wd Pp) (rbR wd):=by
  cases wd with|false=>exact Sd.Zgr (J:=λ_=>0)|true=>exact Gw
 have hir:(rN wd)[1]?=aa ("_law_error" : bc):=by cases wd<;>rfl
 have his:(rN wd)[3]?=aa ("_law_sorts" : bc):=by cases wd<;>rfl
 have mem:∀x∈[("_law_error" : bc),"_law_sorts"],x∈rN wd:=by cases wd<;>simp[rN]
 exact Sd.ZcA (J:=λ_=>0) L.er nd hir (b1 _<|mem _<|by simp) his (b1 _<|mem _<|by simp) (gl _<|by simp) (T.no hz) (gl _<|by simp) (T.no hz2) (λx hx=>gl x<|by simp[hx]) rfl rfl rfl rfl hs b3 hb hl.h
def ZdY(he:e<10)(v:σ'[3]?=aa (aa<|.ref q))(hl:σ'.length=(rN wd).length)(h:H' q=aa (.lst<|(Ev.Zw e).map .bl))(st:Sd.St3 K ρ' (S++Ev.junk e) H')(k:∀ρ2 H2,Sd.Fut ρ' H' ρ2 H2->Sd.St3 K ρ2 (S++Ev.JB wd e) H2->Dn.rt (Sd.vR wd e) H2):fiR K wd Dn σ' H':=by
 cases wd with|false=>exact Sd.ZbH he v h<|k ρ' H' (Sd.Fut.refl _ _) st|true=>exact Sd.Zbw he v (by rw[hl];decide) (by decide) h st k
def Zfj{X:Cx}{E:XK}{sc:c7}{n:Nat}{c Pt:aw}{i:Ev.E}{xw:Nat->Hp->Prop}{body:Expr}{scope:c7}{lp p pos:d8}
  (D:DefX X E)(hr:Room (d+2) X.A)(T:Top X.K X.mg fs zs gs f fd)(L:Cls X.K X.mg X.base cl)(RA:Za7 wd X.prog X.w X.K X.mg X.base cl C d st (f nR))(hx:fs[nR]?=aa ⟨"_law_refused",st,rN wd,1⟩)
  (hst:(ZE st).take 2=vK Pp)(hB:Zac wd Pp (Zg st)=ah)(hsc:scB (rN wd) 1 (Zg st)=ah)
  (hP:∃ps,X.H₀ Pt=aa (.tbl ps))(CH:cw X.base c Pt)(hBi:X.base.BuiltinsAt X.mg Pt)(hgP:br≠Pt)
  (hfn:X.fn=λ_=>ah)(hcode:X.env.code=.ref c)(hs:X.env.scope=sc)(hc:X.env.cells=fS n sc.names [])(hq:X.env.qual++"<lambda>" = YV)(hl:ZdM sc scope=ah)(hg:Gl X "_law_refused")
  (hbody:∀(g:aw)(c':aw)(clos:List (bc×aw))(A:bL)(outer:List Env)(s:au)(H:Hp)(E1:XK),LamS scope clos->Room d (A.deeper<|d7 YV scope s.heap.objs.size g (.ref c') clos)->(A.deeper<|d7 YV scope s.heap.objs.size g (.ref c') clos).units+7<dh->Bx (Sd.CE (Sd.cxL X.prog X.w X.K X.mg X.base X.N scope g (.ref c') clos A outer s H E1) (xwE cl E1) C body i)) :
  Bx (Sd.CE X xw C (.Call (.Name "_law_refused" p) [.Lambda ⟨[],[],ac,[],[],ac,[]⟩ body scope lp] [] pos)<|.refu wd i):=by
 obtain⟨b1,b2,b3,b4⟩:=wK hB;obtain⟨clos,hcl,LI⟩:=Zd3 hs hc hl;have hl0:0<cl.length:=by rw[L.er.len];decide
 have h0:=ag hl0;have hst:ZE st=vK Pp++(ZE st).drop 2:=by rw[<-hst,km]
 have hic:(rN wd)[0]?=aa ("_law_call" : bc):=by cases wd<;>rfl
 have hie:(rN wd)[2]?=aa ("e" : bc):=by cases wd<;>rfl
 have hir:(rN wd)[1]?=aa ("_law_error" : bc):=by cases wd<;>rfl
 have hil:3<(rN wd).length:=by cases wd<;>decide
 have mem:∀x∈[("_law_call" : bc),"_law_error","e"],x∈rN wd:=by cases wd<;>simp[rN]
 have pr:(⟨"_law_refused",st,rN wd,1⟩:FR).ps=[("_law_call" : bc)]:=by cases wd<;>rfl
 have hbn:=T.b nR _ hx;rw[pr]at hbn;have hsc1:=V5 hsc;have tk:(rN wd).take 1=[("_law_call" : bc)]:=by cases wd<;>rfl
 rw[tk]at hsc1;exact⟨Sd.Zcg (k:=d) (ir:=1) (is:=3) (ts:=λY=>tB3 Y Sd.nx<|tst C<|ksum 3) D (λx=>by rw[hfn]) hr L.er h0 hP hcode CH hBi hgP hq hcl rfl LI (λpm c' ctv=>rfl)
  (λg c' A outer s H E1 hr=>(hbody g c' clos A outer s H E1 LI.S hr<|Sd.hu7 hr).h) hg (T.m nR _ hx) (T.d nR _ hx).kp (T.d nR _ hx) hsc1 hbn rfl rfl rfl hst (V5 hsc).nd hic rfl hie hir hil (by decide) (by decide) (by decide)
  (b1 _<|mem _<|by simp) (b1 _<|mem _<|by simp) (b1 _<|mem _<|by simp) (λ_ _ _=>b2 _<|by simp[Xc]) (L.er.nm 0 _ _ h0 rfl) rfl rfl rfl rfl rfl (λ_ _ _=>rfl) (λ_ _ _=>rfl) (λ_ _ _=>rfl) RA
  (λY ρ S e σ' H' q Q' hK he h1 _ st' hQ=>Sd.ZdX he h1 (hK▸st') λρ2 H2 f2 s2=>hQ ρ2 H2 f2<|hK▸s2)
  (λDn σ' ρ' H' S e q he v hl h st k=>ZdY he v hl h st k)⟩
end
section
variable{X:Cx}{xw:Nat->Hp->Prop}{C:Calls}{e:Expr}{i:Ev.E}{es:List Expr}{is:List Ev.E}{p:d8}{m j:Nat}{y:bc}
def Zeu{s0:de}{i j:Nat}(h:Bx (Sd.CS X xw C s0<|.asg [i]<|.v j)):Bx (Sd.CS X xw C s0<|.mov i j):=⟨Sd.PS.imp h.h λD σ H ⟨ρ,l,S,st,lr,h⟩=>⟨ρ,l,S,st,lr,h⟩⟩
theorem GE:Bx (Sd.CE X xw C (.Dict [] [] p) .dnew):=⟨Sd.GE⟩
theorem jO{i j:Int}{a b:Nat}{p1 p2 pos:d8}:Bx (Sd.CE X xw C (.Dict [aa<|.Constant (.int i) a p1] [.Constant (.int j) b p2] pos)<|.dput1 (.c<|.int i)<|.c<|.int j):=⟨Sd.jO⟩
end
def jJ :BdX fs zs gs F i r ⟨a,b,[.asg []<|.c .non]⟩:=λP w K mg base cl f fd d T L h hn cdv A outer s H E hr hu=>
 ⟨λpq s σ H D I ⟨ρ,l,S,st,lr,h⟩=>False.elim h⟩
def Zfy(wd:Bool)(fs:List FR)(zs:List bc)(gs:List (bc×Gv))(F:List Fn)(nR:Nat)(st:de):Prop:=
 ∀(P:bq)(w:bC)(K:aj)(mg:bc->Option aq)(base:bF)(f:Nat->aw)(fd:Nat->bK)(d:Nat),Top K mg fs zs gs f fd->(rN wd).Nodup->∀(cdv:aq)(A:bL)(outer:List Env)(s:au)(H:Hp),(A.deeper<|cN "_law_refused" (Zg st) s.heap.objs.size (f nR) cdv).units+7<dh->Bx (Sd.CT (cxR wd P w K mg base st (f nR) cdv A outer s H) Sd.nx (Ev.Zt F d) (vI<|ZE st)<|ksum 3)
def BdR(wd:Bool)(fs:List FR)(zs:List bc)(gs:List (bc×Gv))(F:List Fn)(nR:Nat)(st:de)(r:FR)(fn:Fn):Prop:=
 ∀(P:bq)(w:bC)(K:aj)(mg:bc->Option aq)(base:bF)(cl:List aw)(f:Nat->aw)(fd:Nat->bK)(fL c Pt:aw)(d:Nat),Top K mg fs zs gs f fd->Cls K mg base cl->uY P w K mg base cl fs F f fd d->Za7 wd P w K mg base cl (Ev.Zt F d) d st (f nR)->r.N.Nodup->
  cw base c Pt->base.BuiltinsAt mg Pt->br≠Pt->
  ∀(A:bL)(outer:List Env)(s:au)(H:Hp)(E:XK),(∃ps,H Pt=aa (.tbl ps))->Room (d+2) (A.deeper<|cN r.x (Zg r.st) s.heap.objs.size fL<|.ref c)->Room d (A.deeper<|cN r.x (Zg r.st) s.heap.objs.size fL<|.ref c)->(A.deeper<|cN r.x (Zg r.st) s.heap.objs.size fL<|.ref c).units+7<dh->
   Bx (Sd.CSs (Wj (CX1 P w) P w K mg base r.N r.x (Zg r.st) fL (.ref c) A outer s H E) (xwE cl E) (Ev.Zt F d) (ZE r.st) fn.body)
def Zeg{wd:Bool}{fs:List FR}{zs:List bc}{gs:List (bc×Gv)}{F:List Fn}{nR:Nat}{st:de}{r:FR}{fn:Fn}{Pp:Nat->d8}(S:Zfy wd fs zs gs F nR st)(B:BdR wd fs zs gs F nR st r fn)(hst:(ZE st).drop 2=vZ wd Pp (vI<|ZE st))(hB:Zac wd Pp (Zg st)=ah)(hsc:scB (rN wd) 1 (Zg st)=ah)(hz:zs.contains "isinstance" = ah)(hz2:zs.contains "ValueError" = ah):BdL fs zs gs F r fn:=
 λP w K mg base cl f fd fL c Pt d T L h hn hC hBi hP A outer s H E hp hr hu=>
  B P w K mg base cl f fd fL c Pt d T L h (ZdP T L hst hB hsc hz hz2<|S P w K mg base f fd d T (V5 hsc).nd) hn hC hBi hP A outer s H E hp hr (hr.mono<|by omega) hu
end Gn
namespace K21
open Ev
noncomputable def Qm:Fn:=⟨2,2,
 [.ite (.cmp .lt (.v 1)<|.blt .len [(.v 0)]) [.ret<|.ix (.v 0)<|.v 1] [],
  .ret (.c<|.int 0)]⟩
noncomputable def J7:Fn:=⟨2,3,
 [.asg [2]<|.call 0 [(.v 0),(.v 1)],
  .ite (.cmp .ge (.v 2)<|.bin .pow (.c<|.int 10)<|.c<|.int 18) [.ret<|.lst [(.bin .sub (.v 2)<|.bin .pow (.c<|.int 10)<|.c<|.int 18),(.c<|.bl ah)]] [],
  .ret (.lst [(.bin .mod (.v 2)<|.c<|.int 2147483647),(.c<|.bl ai)])]⟩
noncomputable def zU:Fn:=⟨2,4,
 [.ite (.ix (.v 0)<|.c<|.int 1) [.asg [2]<|.bin .mod (.ix (.v 0)<|.c<|.int 0)<|.v 1,
  .put (.v 0) (.c<|.int 0) (.bin .fdiv (.ix (.v 0)<|.c<|.int 0)<|.v 1),
  .ret (.v 2)] [],
  .put (.v 0) (.c<|.int 0) (.bin .mod (.bin .add (.bin .mul (.ix (.v 0)<|.c<|.int 0)<|.c<|.int 48271)<|.c<|.int 29)<|.c<|.int 2147483647),
  .asg [3] (.bin .mod (.bin .add (.bin .add (.bin .mul (.ix (.v 0)<|.c<|.int 0)<|.ix (.v 0)<|.c<|.int 0)<|.bin .mul (.c<|.int 39373)<|.ix (.v 0)<|.c<|.int 0)<|.c<|.int 7)<|.c<|.int 2147483629),
  .asg [3] (.bin .mod (.bin .add (.bin .mul (.v 3)<|.v 3)<|.bin .mul (.c<|.int 16807)<|.v 3)<|.c<|.int 2147483587),
  .ret (.bin .mod (.bin .fdiv (.v 3)<|.c<|.int 8)<|.v 1)]⟩
noncomputable def Gk:Fn:=⟨2,3,
 [.asg [2]<|.lst [(.tup [(.c<|.int 2),(.tup [(.c<|.int 2),(.c<|.int 1)])]),(.tup [(.c<|.int 4),(.tup [(.c<|.int 2),(.c<|.int 2)])]),(.tup [(.c<|.int 8),(.tup [(.c<|.int 2),(.c<|.int 3)])]),(.tup [(.c<|.int 16),(.tup [(.c<|.int 2),(.c<|.int 4)])]),(.tup [(.c<|.int 32),(.tup [(.c<|.int 2),(.c<|.int 5)])]),(.tup [(.c<|.int 64),(.tup [(.c<|.int 2),(.c<|.int 6)])]),(.tup [(.c<|.int 3),(.tup [(.c<|.int 3),(.c<|.int 1)])]),(.tup [(.c<|.int 9),(.tup [(.c<|.int 3),(.c<|.int 2)])])],
  .asg [2] (.bin .add (.v 2)<|.lst [(.tup [(.c<|.int 27),(.tup [(.c<|.int 3),(.c<|.int 3)])]),(.tup [(.c<|.int 81),(.tup [(.c<|.int 3),(.c<|.int 4)])]),(.tup [(.c<|.int 5),(.tup [(.c<|.int 5),(.c<|.int 1)])]),(.tup [(.c<|.int 25),(.tup [(.c<|.int 5),(.c<|.int 2)])]),(.tup [(.c<|.int 125),(.tup [(.c<|.int 5),(.c<|.int 3)])])]),
  .asg [2] (.comp1 [1] 2 [0,1] (.of<|.v 2) [(.cmp .le (.v 0)<|.v 2)]<|.v 1),
  .ret (.ix (.v 2)<|.call 2 [(.v 0),(.blt .len [(.v 2)])])]⟩
noncomputable def uW:Fn:=⟨1,3,
 [.forr [1,2] (.enum<|.v 0) [.ite (.cmp .ne (.v 2)<|.c<|.int 0) [.ret<|.v 1] []],
  .ret (.c .non)]⟩
noncomputable def Ub:Fn:=⟨1,1,
 [.ret<|.blt .all [(.comp1 [] 2 [0,1] (.zip (.v 0)<|.sl (.v 0) (aa<|.c<|.int 1) ac) []<|.cmp .lt (.v 0)<|.v 1)]]⟩
noncomputable def Vi:Fn:=⟨2,2,
 [.ret<|.blt .all [(.comp1 [1] 1 [0] (.of<|.v 0) []<|.cmp .eq (.ix (.v 0)<|.v 1)<|.c<|.int 0)]]⟩
noncomputable def Y4:Fn:=⟨3,3,
 [.ret<|.and (.cmp .eq (.ix (.ix (.v 0)<|.v 1)<|.v 2)<|.c<|.int 1)<|.call 6 [(.bin .add (.sl (.v 0) ac<|aa<|.v 1)<|.sl (.v 0) (aa<|.bin .add (.v 1)<|.c<|.int 1) ac),(.v 2)]]⟩
noncomputable def Y0:Fn:=⟨3,3,
 [.ret<|.and (.isi (.v 0) [.int])<|.and (.not<|.isi (.v 0) [.bool])<|.chain .le .le (.v 1) (.v 0)<|.v 2]⟩
noncomputable def zq:Fn:=⟨2,4,
 [.asg [2,3]<|.v 0,
  .ite (.or (.not<|.isi (.v 1) [.tuple])<|.cmp .ne (.blt .len [(.v 1)])<|.v 3) [.ret<|.c<|.bl ai] [],
  .ret (.blt .all [(.comp1 [2] 1 [0] (.of<|.v 1) []<|.call 8 [(.v 0),(.c<|.int 0),(.bin .sub (.v 1)<|.c<|.int 1)])])]⟩
noncomputable def V1:Fn:=⟨2,3,
 [.ite (.or (.not<|.isi (.v 1) [.tuple])<|.not<|.blt .all [(.comp1 [0] 1 [0] (.of<|.v 1) []<|.call 9 [(.v 1),(.v 0)])]) [.ret<|.c<|.bl ai] [],
  .asg [2] (.comp1 [] 1 [0] (.of<|.v 1) []<|.call 4 [(.v 0)]),
  .ite (.or (.cmp .inn (.c .non)<|.v 2)<|.not<|.call 5 [(.v 2)]) [.ret<|.c<|.bl ai] [],
  .ret (.blt .all [(.comp1 [1] 2 [0,1] (.enum<|.v 2) []<|.call 7 [(.v 2),(.v 0),(.v 1)])])]⟩
noncomputable def Wp:Fn:=⟨2,2,
 [.ite (.not<|.call 10 [(.v 0),(.v 1)]) [.raise 2 []] []]⟩
noncomputable def Z7:Fn:=⟨3,3,
 [.ex<|.call 11 [(.v 0),(.v 1)],
  .ex (.call 11 [(.v 0),(.v 2)])]⟩
noncomputable def Vh:Fn:=⟨4,4,
 [.ret<|.blt .tuple [(.comp1 [3,0] 2 [0,1] (.zip (.v 1)<|.v 2) []<|.bin .mod (.bin .add (.v 0)<|.bin .mul (.v 2)<|.v 1)<|.v 3)]]⟩
noncomputable def Jg:Fn:=⟨4,4,
 [.ret<|.call 13 [(.v 0),(.v 1),(.v 2),(.neg<|.ix (.v 1)<|.v 3)]]⟩
noncomputable def G9:Fn:=⟨3,7,
 [.asg [3,4]<|.v 0,
  .asg [5] (.v 2),
  .forr [6] (.of<|.v 1) [.asg [5]<|.call 14 [(.v 3),(.v 5),(.v 6),(.call 4 [(.v 6)])]],
  .ret (.v 5)]⟩
noncomputable def vt:Fn:=⟨3,3,
 [.ret<|.blt .tuple [(.comp1 [2,0] 1 [0] (.of<|.v 1) []<|.bin .mod (.bin .mul (.v 1)<|.v 0)<|.v 2)]]⟩
noncomputable def uC:Fn:=⟨2,3,
 [.asg [2]<|.c<|.int 1,
  .whl (.cmp .ne (.bin .mod (.bin .mul (.v 2)<|.v 1)<|.v 0)<|.c<|.int 1) [.aug 2 .add<|.c<|.int 1],
  .ret (.v 2)]⟩
noncomputable def uN:Fn:=⟨3,9,
 [.asg [3,4]<|.v 0,
  .asg [5] (.call 15 [(.v 0),(.v 1),(.v 2)]),
  .asg [6] (.call 4 [(.v 5)]),
  .ite (.cmp .is (.v 6)<|.c .non) [.ret<|.v 1] [],
  .asg [7] (.call 16 [(.v 3),(.v 5),(.call 17 [(.v 3),(.ix (.v 5)<|.v 6)])]),
  .asg [8] (.comp1 [3,7,6] 1 [0] (.of<|.v 1) []<|.call 14 [(.v 1),(.v 0),(.v 2),(.v 3)]),
  .ret (.blt .tuple [(.blt .sortedR [(.bin .add (.v 8)<|.lst [(.v 7)])])])]⟩
noncomputable def V9:Fn:=⟨3,5,
 [.asg [3]<|.v 1,
  .forr [4] (.of<|.v 2) [.asg [3]<|.call 18 [(.v 0),(.v 3),(.v 4)]],
  .ret (.v 3)]⟩
noncomputable def yn:Fn:=⟨3,3,
 [.ex<|.call 12 [(.v 0),(.v 1),(.v 2)],
  .ret (.call 19 [(.v 0),(.v 1),(.v 2)])]⟩
noncomputable def UZ:Fn:=⟨2,2,
 [.ite (.not<|.call 9 [(.v 0),(.v 1)]) [.raise 1 []] []]⟩
noncomputable def qj:Fn:=⟨2,3,
 [.ite (.not<|.isi (.v 1) [.tuple,.list]) [.raise 1 []] [],
  .forr [2] (.of<|.v 1) [.ex<|.call 21 [(.v 0),(.v 2)]],
  .ret (.call 19 [(.v 0),(.tup []),(.v 1)])]⟩
noncomputable def QR:Fn:=⟨3,7,
 [.asg [3,4]<|.v 0,
  .asg [5] (.bin .mul (.lst [(.c<|.int 0)])<|.v 4),
  .put (.v 5) (.v 2) (.c<|.int 1),
  .forr [6] (.of<|.v 1) [.put (.v 5) (.call 4 [(.v 6)])<|.bin .mod (.neg<|.ix (.v 6)<|.v 2)<|.v 3],
  .ret (.blt .tuple [(.v 5)])]⟩
noncomputable def qh:Fn:=⟨2,6,
 [.ex<|.call 11 [(.v 0),(.v 1)],
  .asg [2,3] (.v 0),
  .asg [4] (.comp1 [] 1 [0] (.of<|.v 1) []<|.call 4 [(.v 0)]),
  .asg [5] (.comp1 [4] 1 [0] (.rng1<|.v 3) [(.cmp .nin (.v 0)<|.v 1)]<|.v 0),
  .ret (.call 22 [(.v 0),(.comp1 [0,1] 1 [0] (.of<|.v 5) []<|.call 23 [(.v 1),(.v 2),(.v 0)])])]⟩
noncomputable def Zde:Fn:=⟨3,3,
 [.ex<|.call 12 [(.v 0),(.v 1),(.v 2)],
  .ret (.call 24 [(.v 0),(.call 20 [(.v 0),(.call 24 [(.v 0),(.v 1)]),(.call 24 [(.v 0),(.v 2)])])])]⟩
noncomputable def yh:Fn:=⟨4,4,
 [.ret<|.blt .tuple [(.comp1 [3,0] 2 [0,1] (.zip (.v 1)<|.v 2) []<|.bin .mod (.bin .add (.v 0)<|.bin .mul (.v 2)<|.v 1)<|.ix (.v 3)<|.c<|.int 0)]]⟩
noncomputable def Qh:Fn:=⟨2,8,
 [.asg [2]<|.blt .list [(.v 1)],
  .asg [3] (.lst []),
  .forr [4] (.rng1<|.ix (.v 0)<|.c<|.int 1) [.asg [5]<|.comp1 [4] 1 [0] (.of<|.v 2) [(.cmp .ne (.ix (.v 0)<|.v 1)<|.c<|.int 0)]<|.v 0,
  .ite (.cmp .ne (.v 5)<|.lst []) [.asg [6]<|.ix (.comp1 [5,4,0] 1 [0] (.rng1<|.ix (.v 0)<|.c<|.int 0) [(.cmp .eq (.bin .mod (.bin .mul (.v 0)<|.ix (.ix (.v 1)<|.c<|.int 0)<|.v 2)<|.ix (.v 3)<|.c<|.int 0)<|.c<|.int 1)]<|.v 0)<|.c<|.int 0,
  .asg [7] (.blt .tuple [(.comp1 [6,0] 1 [0] (.of<|.ix (.v 5)<|.c<|.int 0) []<|.bin .mod (.bin .mul (.v 1)<|.v 0)<|.ix (.v 2)<|.c<|.int 0)]),
  .asg [2] (.comp1 [0,7,4] 1 [0] (.of<|.v 2) []<|.call 26 [(.v 1),(.v 0),(.v 2),(.neg<|.ix (.v 0)<|.v 3)]),
  .asg [3] (.bin .add (.comp1 [0,7,4] 1 [0] (.of<|.v 3) []<|.call 26 [(.v 1),(.v 0),(.v 2),(.neg<|.ix (.v 0)<|.v 3)])<|.lst [(.v 7)])] []],
  .ret (.blt .tuple [(.v 3)])]⟩
noncomputable def QY:Fn:=⟨2,2,
 [.ret<|.blt .tuple [(.comp1 [0,1] 1 [0] (.rng1<|.ix (.v 1)<|.c<|.int 1) []<|.call 2 [(.v 1),(.ix (.v 2)<|.c<|.int 0)])]]⟩
noncomputable def zG:Fn:=⟨2,3,
 [.asg [2]<|.call 2 [(.v 0),(.bin .add (.ix (.v 1)<|.c<|.int 1)<|.c<|.int 1)],
  .ret (.call 27 [(.v 1),(.comp1 [0,1] 1 [0] (.rng1<|.v 2) []<|.call 28 [(.v 1),(.v 2)])])]⟩
noncomputable def ZY:Fn:=⟨3,11,
 [.ite (.cmp .eq (.v 2)<|.tup []) [.ret<|.ix (.lst [(.lst []),(.c .non),(.tup [(.tup [])]),(.tup [(.bin .mul (.tup [(.c<|.int 0)])<|.ix (.v 1)<|.c<|.int 1)]),(.tup [(.bin .mul (.tup [(.c<|.int 1)])<|.bin .add (.ix (.v 1)<|.c<|.int 1)<|.c<|.int 1)]),.dnew,(.c<|.str<|bp "none")])<|.call 2 [(.v 0),(.c<|.int 7)]] [],
  .asg [3] (.call 2 [(.v 0),(.blt .len [(.v 2)])]),
  .asg [4] (.ix (.v 2)<|.v 3),
  .asg [5] (.call 2 [(.v 0),(.ix (.v 1)<|.c<|.int 1)]),
  .asg [6] (.ix (.lst [(.c<|.int 0),(.c<|.int 1),(.ix (.v 1)<|.c<|.int 0),(.bin .sub (.ix (.v 1)<|.c<|.int 0)<|.c<|.int 1),(.neg<|.c<|.int 1),(.c<|.bl ah),(.c .non),(.c<|.str<|bp "1"),(.tup [(.c<|.int 1)]),(.bin .pow (.c<|.int 10)<|.c<|.int 29)])<|.call 2 [(.v 0),(.c<|.int 10)]),
  .asg [7] (.lst [(.bin .add (.bin .add (.sl (.v 4) ac<|aa<|.v 5)<|.tup [(.v 6)])<|.sl (.v 4) (aa<|.bin .add (.v 5)<|.c<|.int 1) ac),(.bin .add (.bin .add (.sl (.v 4) ac<|aa<|.v 5)<|.tup [(.v 6)])<|.sl (.v 4) (aa<|.v 5) ac),(.bin .add (.sl (.v 4) ac<|aa<|.v 5)<|.sl (.v 4) (aa<|.bin .add (.v 5)<|.c<|.int 1) ac),(.blt .list [(.v 4)]),(.c .non)]),
  .asg [7] (.bin .add (.v 7)<|.lst [(.blt .tuple [(.comp1 [1] 1 [0] (.of<|.v 4) []<|.bin .mod (.bin .mul (.c<|.int 2)<|.v 0)<|.ix (.v 1)<|.c<|.int 0)]),(.bin .mul (.tup [(.c<|.int 0)])<|.ix (.v 1)<|.c<|.int 1),(.call 28 [(.v 0),(.v 1)])]),
  .asg [8] (.ix (.v 7)<|.ix (.lst [(.c<|.int 0),(.c<|.int 0),(.c<|.int 0),(.c<|.int 0),(.c<|.int 1),(.c<|.int 2),(.c<|.int 3),(.c<|.int 4),(.c<|.int 5),(.c<|.int 6),(.c<|.int 7)])<|.call 2 [(.v 0),(.c<|.int 11)]),
  .asg [9] (.call 2 [(.v 0),(.c<|.int 8)]),
  .ite (.cmp .lt (.v 9)<|.c<|.int 4) [.ret<|.bin .add (.bin .add (.sl (.v 2) ac<|aa<|.v 3)<|.tup [(.v 8)])<|.sl (.v 2) (aa<|.bin .add (.v 3)<|.c<|.int 1) ac] [],
  .ite (.cmp .lt (.v 9)<|.c<|.int 6) [.ret<|.bin .add (.bin .add (.sl (.v 2) ac<|aa<|.v 3)<|.tup [(.v 8)])<|.sl (.v 2) (aa<|.v 3) ac] [],
  .asg [10] (.lst [(.bin .add (.sl (.v 2) ac<|aa<|.v 3)<|.sl (.v 2) (aa<|.bin .add (.v 3)<|.c<|.int 1) ac),(.rev<|.v 2),(.blt .list [(.v 2)]),(.tup [(.v 2)]),(.bin .add (.v 2)<|.sl (.v 2) (aa<|.neg<|.c<|.int 1) ac),(.bin .add (.sl (.v 2) (aa<|.v 3) ac)<|.sl (.v 2) ac<|aa<|.v 3)]),
  .ret (.ix (.v 10)<|.call 2 [(.v 0),(.c<|.int 6)])]⟩
noncomputable def za:Fn:=⟨2,6,
 [.asg [2]<|.lst [(.bin .mul (.tup [(.c<|.int 0)])<|.ix (.v 0)<|.c<|.int 1)],
  .forr [3] (.of<|.v 1) [.asg [4]<|.lst [],
  .forr [5] (.rng1<|.ix (.v 0)<|.c<|.int 0) [.ex<|.mt .extend (.v 4) [(.comp1 [0,3,5] 1 [0] (.of<|.v 2) []<|.call 26 [(.v 1),(.v 0),(.v 2),(.v 3)])]],
  .mov 2 4],
  .ret (.blt .dictP [(.comp1 [] 1 [0] (.of<|.v 2) []<|.tup [(.v 0),(.c<|.bl ah)])])]⟩
noncomputable def Wm:Fn:=⟨2,2,
 [.ite (.isi (.v 1) [.tuple,.list]) [.ite (.or (.cmp .ne (.isi (.v 0) [.tuple])<|.isi (.v 1) [.tuple])<|.cmp .ne (.isi (.v 0) [.list])<|.isi (.v 1) [.list]) [.ret<|.c<|.bl ai] [],
  .ret (.and (.cmp .eq (.blt .len [(.v 0)])<|.blt .len [(.v 1)])<|.blt .all [(.comp1 [] 2 [0,1] (.zip (.v 0)<|.v 1) []<|.call 32 [(.v 0),(.v 1)])])] [],
  .ret (.and (.cmp .eq (.v 0)<|.v 1)<|.cmp .eq (.isi (.v 0) [.bool])<|.isi (.v 1) [.bool])]⟩
noncomputable def XZ:Fn:=⟨3,6,
 [.asg [3]<|.call 31 [(.v 0),(.v 2)],
  .asg [4] (.comp1 [3] 1 [0] (.dk<|.call 31 [(.v 0),(.v 1)]) [(.cmp .inn (.v 0)<|.v 1)]<|.v 0),
  .forr [5] (.rng1<|.c<|.int 2) [.ite (.not<|.call 32 [(.call 20 [(.v 0),(.v 1),(.v 2)]),(.call 27 [(.v 0),(.bin .add (.v 1)<|.v 2)])]) [.ret<|.c<|.bl ai] [],
  .ite (.not<|.call 32 [(.call 25 [(.v 0),(.v 1),(.v 2)]),(.call 27 [(.v 0),(.v 4)])]) [.ret<|.c<|.bl ai] []],
  .ret (.c<|.bl ah)]⟩
noncomputable def W7:Fn:=⟨1,2,
 [.asg [1]<|.lst [(.c .non),(.c<|.bl ah),(.c<|.bl ai),(.neg<|.c<|.int 1),(.c<|.int 0),(.c<|.int 1),(.c<|.str<|bp ""),(.c<|.str<|bp "1"),(.tup []),(.lst []),(.tup [(.tup [])]),(.tup [(.tup [(.c<|.int 0)])]),(.tup [(.tup [(.c<|.int 1)])]),(.lst [(.tup [(.c<|.int 1)])]),(.dput1 (.c<|.int 0)<|.c<|.int 1),(.tup [(.c .non)]),(.bin .pow (.c<|.int 10)<|.c<|.int 29)],
  .ret (.ix (.bin .add (.v 1)<|.lst [(.tup [(.tup [(.c<|.int 1),(.c<|.int 0)]),(.tup [(.c<|.int 0),(.c<|.int 1)])]),(.tup [(.tup [(.c<|.bl ah)])]),(.tup [(.tup [(.tup [(.c<|.int 1)])])])])<|.call 2 [(.v 0),(.c<|.int 20)])]⟩
noncomputable def YO:Fn:=⟨1,1,
 [.ret<|.and (.isi (.v 0) [.int])<|.not<|.isi (.v 0) [.bool]]⟩
noncomputable def XA:Fn:=⟨2,2,
 [.ite (.or (.not<|.isi (.v 1) [.tuple])<|.cmp .ne (.blt .len [(.v 1)])<|.ix (.v 0)<|.c<|.int 1) [.ret<|.c<|.bl ai] [],
  .ret (.blt .all [(.comp1 [0] 1 [0] (.of<|.v 1) []<|.and (.call 35 [(.v 0)])<|.chain .le .lt (.c<|.int 0) (.v 0)<|.ix (.v 1)<|.c<|.int 0)])]⟩
noncomputable def Xd:Fn:=⟨2,3,
 [.ite (.not<|.isi (.v 1) [.tuple]) [.ret<|.c<|.bl ai] [],
  .forr [2] (.of<|.v 1) [.ite (.or (.not<|.call 36 [(.v 0),(.v 2)])<|.not<|.blt .any [(.v 2)]) [.ret<|.c<|.bl ai] []],
  .ret (.cmp .eq (.call 27 [(.v 0),(.v 1)])<|.v 1)]⟩
noncomputable def QD:Fn:=⟨1,5,
 [.asg []<|.c .non]⟩
noncomputable def Zdo:Fn:=⟨1,11,
 [.ite (.or (.cmp .ne (.call 20 [(.tup [(.c<|.int 2),(.c<|.int 2)]),(.tup [(.tup [(.c<|.int 1),(.c<|.int 0)])]),(.tup [(.tup [(.c<|.int 1),(.c<|.int 1)])])])<|.tup [(.tup [(.c<|.int 1),(.c<|.int 0)]),(.tup [(.c<|.int 0),(.c<|.int 1)])])<|.cmp .ne (.call 25 [(.tup [(.c<|.int 2),(.c<|.int 2)]),(.tup [(.tup [(.c<|.int 1),(.c<|.int 0)])]),(.tup [(.tup [(.c<|.int 1),(.c<|.int 1)])])])<|.tup []) [.ret<|.c<|.bl ai] [],
  .forr [1] (.rng1<|.blt .max2 [(.c<|.int 1),(.blt .min2 [(.blt .len [(.v 0)]),(.c<|.int 6)])]) [.asg [2]<|.call 1 [(.v 0),(.v 1)],
  .asg [3] (.call 3 [(.v 2),(.ix (.lst [(.c<|.int 27),(.c<|.int 125)])<|.blt .toInt [(.cmp .eq (.v 1)<|.c<|.int 0)])]),
  .par [4,5] [(.call 29 [(.v 2),(.v 3)]),(.call 29 [(.v 2),(.v 3)])],
  .ite (.or (.not<|.call 33 [(.v 3),(.v 4),(.v 5)])<|.not<|.call 33 [(.v 3),(.v 5),(.v 4)]) [.ret<|.c<|.bl ai] [],
  .par [6,7] [(.call 30 [(.v 2),(.v 3),(.v 4)]),(.ix (.lst [(.call 30 [(.v 2),(.v 3),(.v 5)]),(.call 34 [(.v 2)])])<|.call 2 [(.v 2),(.c<|.int 2)])],
  .forr [8,9] (.of<|.lst [(.tup [(.v 6),(.v 5)]),(.tup [(.v 4),(.v 7)]),(.tup [(.v 6),(.v 7)]),(.tup [(.v 7),(.v 6)])]) [.asg [10]<|.ix (.lst [(.c .non),(.c<|.str<|bp "part")])<|.blt .toInt [(.or (.not<|.call 37 [(.v 3),(.v 8)])<|.not<|.call 37 [(.v 3),(.v 9)])],
  .ite (.cmp .ne (.refu ah<|.call 20 [(.v 3),(.v 8),(.v 9)])<|.v 10) [.ret<|.c<|.bl ai] [],
  .ite (.cmp .ne (.refu ah<|.call 25 [(.v 3),(.v 8),(.v 9)])<|.v 10) [.ret<|.c<|.bl ai] []]],
  .ret (.c<|.bl ah)]⟩
noncomputable def fns:List Fn:=[Qm,J7,zU,Gk,uW,Ub,Vi,Y4,Y0,zq,V1,Wp,Z7,Vh,Jg,G9,vt,uC,uN,V9,yn,UZ,qj,QR,qh,Zde,yh,Qh,QY,zG,ZY,za,Wm,XZ,W7,YO,XA,Xd,QD,Zdo]
end K21
namespace K21
open PySem PySem.Spec PyProof.Rows L2 Wr Gn
open Sd (yj wl ju ZaC vy qH Zdl vG ZaS jA wL wq j8 qZ wj Jp ZaE jH jI yU vW vx wv wS Jk zg wV vD wX Jz Zbk)
def top(i:Nat):de:=PySem.Challenge.pw_fewspaces_k21_parts_joined_and_met.main.body.getD i<|.Pass ⟨0,0,0,0⟩
abbrev r0:FR:=⟨"_law_cell_at",top 39,["_law_script","_law_k"],2⟩
abbrev r1:FR:=⟨"_law_state",top 40,["_law_script","_law_k","_law_cell"],2⟩
abbrev r2:FR:=⟨"_law_take",top 41,["_law_state_here","_law_many","_law_found","_law_mixed"],2⟩
abbrev r3:FR:=⟨"_law_space",top 42,["_law_state_here","_law_most","_law_some"],2⟩
abbrev r4:FR:=⟨"head_of",top 15,["row","place","number"],1⟩
abbrev r5:FR:=⟨"is_rising",top 14,["things"],1⟩
abbrev r6:FR:=⟨"noughts_at",top 20,["rows","place"],2⟩
abbrev r7:FR:=⟨"stands_alone",top 24,["rows","at","place"],3⟩
abbrev r8:FR:=⟨"is_whole",top 13,["thing","least","greatest"],3⟩
abbrev r9:FR:=⟨"is_row",top 22,["space","thing","p","n"],2⟩
abbrev r10:FR:=⟨"is_part",top 23,["space","thing","places"],2⟩
abbrev r11:FR:=⟨"need_part",top 26,["space","thing"],2⟩
abbrev r12:FR:=⟨"need_parts",top 27,["space","one","other"],3⟩
abbrev r13:FR:=⟨"plus_times",top 17,["p","row","other","number"],4⟩
abbrev r14:FR:=⟨"cleared",top 19,["p","row","other","head"],4⟩
abbrev r15:FR:=⟨"left_over",top 31,["space","part","row","p","n","rest","other"],3⟩
abbrev r16:FR:=⟨"times",top 16,["p","row","number"],3⟩
abbrev r17:FR:=⟨"inverse",top 18,["p","number","found"],2⟩
abbrev r18:FR:=⟨"widened",top 30,["space","part","row","p","n","rest","head","lead","rows"],3⟩
abbrev r19:FR:=⟨"widened_by_all",top 29,["space","part","rows","wider","row"],3⟩
abbrev r20:FR:=⟨"joined",top 36,["space","one","other"],3⟩
abbrev r21:FR:=⟨"need_row",top 25,["space","thing"],2⟩
abbrev r22:FR:=⟨"spanned",top 28,["space","rows","row"],2⟩
abbrev r23:FR:=⟨"row_against",top 34,["space","part","free","p","n","numbers","row"],3⟩
abbrev r24:FR:=⟨"against",top 33,["space","part","p","n","places","free"],2⟩
abbrev r25:FR:=⟨"met",top 37,["space","one","other"],3⟩
abbrev r26:FR:=⟨"_law_plus",top 44,["_law_space_here","_law_one","_law_other","_law_often"],4⟩
abbrev r27:FR:=⟨"_law_reduced",top 45,["_law_space_here","_law_rows","_law_rest","_law_found","_law_place","_law_fit","_law_often","_law_one"],2⟩
abbrev r28:FR:=⟨"_law_row_of",top 43,["_law_state_here","_law_space_here"],2⟩
abbrev r29:FR:=⟨"_law_part",top 47,["_law_state_here","_law_space_here","_law_many"],2⟩
abbrev r30:FR:=⟨"_law_bent",top 52,["_law_state_here","_law_space_here","_law_part_here","_law_at","_law_row","_law_k","_law_odd_here","_law_rows","_law_one","_law_kind","_law_some"],3⟩
abbrev r31:FR:=⟨"_law_held",top 46,["_law_space_here","_law_part_here","_law_found","_law_row","_law_longer","_law_often"],2⟩
abbrev r32:FR:=⟨"_law_same",top 53,["_law_found","_law_due"],2⟩
abbrev r33:FR:=⟨"_law_right",top 55,["_law_space_here","_law_one","_law_other","_law_there","_law_both","_law_turn"],3⟩
abbrev r34:FR:=⟨"_law_odd",top 51,["_law_state_here","_law_some"],1⟩
abbrev r35:FR:=⟨"_law_whole",top 48,["_law_thing"],1⟩
abbrev r36:FR:=⟨"_law_is_row",top 49,["_law_space_here","_law_thing"],2⟩
abbrev r37:FR:=⟨"_law_is_part",top 50,["_law_space_here","_law_thing","_law_row"],2⟩
abbrev r38:FR:=⟨"_law_refused",top 54,["_law_call","_law_error","e","_law_sorts","_law_words"],1⟩
abbrev r39:FR:=⟨"law",top 56,["_law_script","_law_k","_law_state_here","_law_space_here","_law_one","_law_other","_law_bent_here","_law_bad","_law_first","_law_second","_law_due"],1⟩
noncomputable abbrev rL:FR:=r39
noncomputable abbrev fs:List FR:=[r0,r1,r2,r3,r4,r5,r6,r7,r8,r9,r10,r11,r12,r13,r14,r15,r16,r17,r18,r19,r20,r21,r22,r23,r24,r25,r26,r27,r28,r29,r30,r31,r32,r33,r34,r35,r36,r37,r38]
abbrev zs:List bc:=["all","any","bool","dict","enumerate","int","isinstance","len","list","max","min","range","sorted","sum","tuple","zip","ValueError"]
abbrev gs:List (bc×Gv):=[]
abbrev n0:List bc:=["_law_rows","_law_space_here","_law_most"]
abbrev n1:List bc:=["one","other"]
abbrev n2:List bc:=["row","place"]
abbrev n3:List bc:=["number","p"]
abbrev n4:List bc:=["row"]
abbrev n5:List bc:=["at","place","thing"]
abbrev n6:List bc:=["row","space"]
abbrev n7:List bc:=["mine","its","number","p"]
abbrev n8:List bc:=["mine","number","p"]
abbrev n9:List bc:=["other","p","lead","head"]
abbrev n10:List bc:=["place","places"]
abbrev n11:List bc:=["place","space","part"]
abbrev n12:List bc:=["_law_first","_law_second","_law_often","_law_space_here"]
abbrev n13:List bc:=["_law_row","_law_place"]
abbrev n14:List bc:=["_law_row","_law_space_here","_law_one","_law_place"]
abbrev n15:List bc:=["_law_number","_law_fit","_law_place","_law_space_here"]
abbrev n16:List bc:=["_law_number","_law_often","_law_space_here"]
abbrev n17:List bc:=["_law_place","_law_state_here","_law_space_here"]
abbrev n18:List bc:=["_law_turn","_law_state_here","_law_space_here"]
abbrev n19:List bc:=["_law_number","_law_space_here"]
abbrev n20:List bc:=["_law_row"]
abbrev n21:List bc:=["_law_one","_law_space_here","_law_row","_law_often"]
abbrev n22:List bc:=["_law_one","_law_other"]
abbrev n23:List bc:=["_law_row","_law_there"]
abbrev n24:List bc:=["_law_one"]
local macro_rules | `(tactic| walk_at "n") => `(tactic| first|exact ZS (N:=n0) (by kernel_rfl!)|exact ZS (N:=n1) (by kernel_rfl!)|exact ZS (N:=n2) (by kernel_rfl!)|exact ZS (N:=n3) (by kernel_rfl!)|exact ZS (N:=n4) (by kernel_rfl!)|exact ZS (N:=n5) (by kernel_rfl!)|exact ZS (N:=n6) (by kernel_rfl!)|exact ZS (N:=n7) (by kernel_rfl!)|exact ZS (N:=n8) (by kernel_rfl!)|exact ZS (N:=n9) (by kernel_rfl!)|exact ZS (N:=n10) (by kernel_rfl!)|exact ZS (N:=n11) (by kernel_rfl!)|exact ZS (N:=n12) (by kernel_rfl!)|exact ZS (N:=n13) (by kernel_rfl!)|exact ZS (N:=n14) (by kernel_rfl!)|exact ZS (N:=n15) (by kernel_rfl!)|exact ZS (N:=n16) (by kernel_rfl!)|exact ZS (N:=n17) (by kernel_rfl!)|exact ZS (N:=n18) (by kernel_rfl!)|exact ZS (N:=n19) (by kernel_rfl!)|exact ZS (N:=n20) (by kernel_rfl!)|exact ZS (N:=n21) (by kernel_rfl!)|exact ZS (N:=n22) (by kernel_rfl!)|exact ZS (N:=n23) (by kernel_rfl!)|exact ZS (N:=n24) (by kernel_rfl!))
local macro_rules | `(tactic| walk_at "e") => `(tactic| first|exact wl|exact yj|exact wL|exact jA|exact ju|exact qH|exact wq|exact ZaC|exact Zdl|exact ZaS|exact vG|exact vy)
local macro_rules | `(tactic| walk_at "z") => `(tactic| exact Top.no (by assumption) (by kernel_rfl!))
local macro_rules | `(tactic| walk_at "v") => `(tactic| first|exact lh (by kernel_rfl!)|exact iA (by kernel_rfl!)|exact iA (lh (by kernel_rfl!))|exact iA (iA (by kernel_rfl!)))
noncomputable def pp(k:Nat):d8:=([⟨213,7,213,17⟩,⟨213,21,213,25⟩,⟨213,7,213,25⟩,⟨214,15,214,19⟩,⟨214,8,214,19⟩,⟨213,4,214,19⟩,⟨215,4,215,14⟩,⟨215,17,215,114⟩,⟨215,4,215,114⟩,⟨216,4,216,14⟩,⟨216,17,216,27⟩,⟨216,30,216,129⟩,⟨216,17,216,129⟩,⟨216,4,216,129⟩,⟨217,4,217,14⟩,⟨217,17,217,27⟩,⟨217,30,217,126⟩,⟨217,17,217,126⟩,⟨217,4,217,126⟩,⟨218,4,218,14⟩,⟨218,4,218,54⟩,⟨219,7,219,45⟩,⟨219,7,219,101⟩,⟨0,0,0,0⟩,⟨220,15,220,30⟩,⟨220,8,220,30⟩,⟨219,4,220,30⟩,⟨222,22,222,32⟩,⟨222,39,222,43⟩,⟨222,4,222,45⟩,⟨218,4,218,21⟩,⟨218,4,218,54⟩,⟨222,22,222,38⟩,⟨222,22,222,44⟩,⟨221,4,221,14⟩,⟨221,17,221,106⟩,⟨221,4,221,106⟩,⟨222,11,222,21⟩,⟨222,11,222,45⟩,⟨0,0,0,0⟩,⟨215,18,215,28⟩,⟨215,29,215,39⟩,⟨215,41,215,46⟩,⟨215,18,215,47⟩,⟨215,49,215,59⟩,⟨215,60,215,70⟩,⟨215,72,215,78⟩,⟨215,49,215,79⟩,⟨215,81,215,91⟩,⟨215,92,215,102⟩,⟨215,104,215,112⟩,⟨215,81,215,113⟩,⟨216,31,216,41⟩,⟨216,42,216,52⟩,⟨216,54,216,61⟩,⟨216,31,216,62⟩,⟨216,64,216,74⟩,⟨216,75,216,85⟩,⟨216,87,216,96⟩,⟨216,64,216,97⟩,⟨216,99,216,109⟩,⟨216,110,216,120⟩,⟨216,122,216,127⟩,⟨216,99,216,128⟩,⟨217,31,217,41⟩,⟨217,42,217,52⟩,⟨217,54,217,60⟩,⟨217,31,217,61⟩,⟨217,63,217,73⟩,⟨217,74,217,84⟩,⟨217,86,217,91⟩,⟨217,63,217,92⟩,⟨217,94,217,104⟩,⟨217,105,217,115⟩,⟨217,117,217,124⟩,⟨217,94,217,125⟩,⟨218,22,218,32⟩,⟨218,33,218,43⟩,⟨218,45,218,52⟩,⟨218,22,218,53⟩,⟨219,11,219,21⟩,⟨219,22,219,32⟩,⟨219,34,219,44⟩,⟨219,11,219,45⟩,⟨0,0,0,0⟩,⟨0,0,0,0⟩,⟨0,0,0,0⟩,⟨0,0,0,0⟩,⟨0,0,0,0⟩,⟨0,0,0,0⟩,⟨208,4,208,14⟩,⟨208,17,208,21⟩,⟨208,4,208,21⟩,⟨210,8,210,17⟩,⟨210,8,210,19⟩,⟨210,8,210,19⟩,⟨211,11,211,21⟩,⟨212,8,212,18⟩,⟨212,21,212,22⟩,⟨212,8,212,22⟩,⟨211,4,212,22⟩,⟨209,4,212,22⟩,⟨221,18,221,23⟩,⟨221,25,221,31⟩,⟨221,33,221,41⟩,⟨221,43,221,50⟩,⟨221,52,221,64⟩,⟨221,66,221,74⟩,⟨221,76,221,82⟩,⟨221,84,221,89⟩,⟨221,91,221,97⟩,⟨221,99,221,105⟩]:List d8).getD k ⟨0,0,0,0⟩
def okl:OkX fs zs gs fns 0 fs (fns.take 39)/\Zfy ah fs zs gs fns 38 r38.st/\BdR ah fs zs gs fns 38 r38.st rL Zdo:=by
 refine⟨?a,?b,?c⟩
 case' a=>repeat'(first|exact aA|refine⟨⟨rfl,rfl,by decide +kernel,?_⟩,?_⟩|exact jJ|intro P w K mg base cl f fd d T L h hn cdv A outer s H E hr hu)
 case' b=>intro P w K mg base f fd d T hn cdv A outer s H hu;unfold Sd.ksum
 case' c=>intro P w K mg base cl f fd fL c Pt d T L h RA hn hC hB hP A outer s H E hp hr hr0 hu
 all_goals
 (repeat'(first
 |(with_reducible show Bx (Sd.CSs _ _ _ _ _));first|exact yX|refine Gz ?_ ?_
 |(with_reducible show Bx (Sd.CA _ _ _ _ _));first|exact xB|refine GM ?_ ?_ (by walk_at "e")
 |(with_reducible show Bx (Sd.CE _ _ _ _<|.v _));exact Zd1 _ (hN:=by kernel_rfl!) (hv:=by walk_at "v") (hd:=by kernel_rfl!) (hcd:=by kernel_rfl!)
 |(with_reducible show Bx (Sd.CE _ _ _ _<|.c _));first|exact yB|exact jf|exact yz|exact xJ
 |(with_reducible show Bx (Sd.CE _ _ _ _<|.call _ _));first|refine ZaL Sd.ZbD (by assumption) (by assumption) (by assumption) ?_ (by kernel_rfl!) (show _=_ from by kernel_rfl!) (by kernel_rfl!) (by walk_at "e") rfl|refine Zes (by assumption) (by assumption) (by assumption) ?_ (by kernel_rfl!) (show _=_ from by kernel_rfl!) (by kernel_rfl!) (by walk_at "e") rfl|refine ZaL Sd.Zgt (by assumption) (by assumption) (by assumption) ?_ (by kernel_rfl!) (show _=_ from by kernel_rfl!) (by kernel_rfl!) (by walk_at "e") rfl
 |(with_reducible show Bx (Sd.CE _ _ _ _<|.refu _ _));refine Zfj (Pp:=pp) Sd.ZbD (by assumption) (by assumption) (by assumption) (by assumption) rfl (by kernel_rfl!) (by kernel_rfl!) (by kernel_rfl!) (by assumption) (by assumption) (by assumption) (by assumption) rfl rfl rfl rfl (by kernel_rfl!) (by kernel_rfl!) (show _=_ from by kernel_rfl!) (λ_ _ _ _ _ _ _ _ _ _ _=>?_)
 |(with_reducible show Bx (Sd.CE _ _ _ _ .dnew));exact GE
 |(with_reducible show Bx (Sd.CE _ _ _ _<|.dput1 _ _));exact jO
 |(with_reducible show Bx (Sd.CJ _ _ _ _ _ _));first|exact cj_nil|refine cj_c ?_|refine cj_f ?_ ?_
 |(with_reducible show Bx (Sd.CE _ _ _ _<|.ix _ _));refine ZaU ?_ ?_ (hs:=by intro _ _;kernel_rfl!)
 |(with_reducible show Bx (Sd.CE _ _ _ _<|.blt .len _));refine Xi (x:="len") (f:=.len) vW (by walk_at "z") ?_ (he:=(by walk_at "e")) (hg:=show _=_ from by kernel_rfl!) (hv:=by kernel_rfl!) (hn:=by decide) (hdb:=by kernel_rfl!) (hpl:=by kernel_rfl!)
 |(with_reducible show Bx (Sd.CE _ _ _ _<|.blt .tuple _));refine WG (x:="tuple") (f:=.tuple) Jk (by walk_at "z") ?_ (he:=(by walk_at "e")) (hg:=show _=_ from by kernel_rfl!) (hv:=by kernel_rfl!) (hn:=by decide) (hdb:=by kernel_rfl!) (hpl:=by kernel_rfl!)
 |(with_reducible show Bx (Sd.CE _ _ _ _<|.blt .all _));refine Xi (x:="all") (f:=.all) (wV rfl) (by walk_at "z") ?_ (he:=(by walk_at "e")) (hg:=show _=_ from by kernel_rfl!) (hv:=by kernel_rfl!) (hn:=by decide) (hdb:=by kernel_rfl!) (hpl:=by kernel_rfl!)
 |(with_reducible show Bx (Sd.CE _ _ _ _<|.blt .list _));refine WG (x:="list") (f:=.list) zg (by walk_at "z") ?_ (he:=(by walk_at "e")) (hg:=show _=_ from by kernel_rfl!) (hv:=by kernel_rfl!) (hn:=by decide) (hdb:=by kernel_rfl!) (hpl:=by kernel_rfl!)
 |(with_reducible show Bx (Sd.CE _ _ _ _<|.blt .any _));refine Xi (x:="any") (f:=.any) (vD rfl) (by walk_at "z") ?_ (he:=(by walk_at "e")) (hg:=show _=_ from by kernel_rfl!) (hv:=by kernel_rfl!) (hn:=by decide) (hdb:=by kernel_rfl!) (hpl:=by kernel_rfl!)
 |(with_reducible show Bx (Sd.CE _ _ _ _<|.blt .toInt _));refine WG (x:="int") (f:=.toInt) wS (by walk_at "z") ?_ (he:=(by walk_at "e")) (hg:=show _=_ from by kernel_rfl!) (hv:=by kernel_rfl!) (hn:=by decide) (hdb:=by kernel_rfl!) (hpl:=by kernel_rfl!)
 |(with_reducible show Bx (Sd.CE _ _ _ _<|.blt .max2 _));refine Xi (x:="max") (f:=.max2) (vx rfl) (by walk_at "z") ?_ (he:=(by walk_at "e")) (hg:=show _=_ from by kernel_rfl!) (hv:=by kernel_rfl!) (hn:=by decide) (hdb:=by kernel_rfl!) (hpl:=by kernel_rfl!)
 |(with_reducible show Bx (Sd.CE _ _ _ _<|.blt .min2 _));refine Xi (x:="min") (f:=.min2) (wv rfl) (by walk_at "z") ?_ (he:=(by walk_at "e")) (hg:=show _=_ from by kernel_rfl!) (hv:=by kernel_rfl!) (hn:=by decide) (hdb:=by kernel_rfl!) (hpl:=by kernel_rfl!)
 |(with_reducible show Bx (Sd.CE _ _ _ _<|.blt .sum _));refine Xi (x:="sum") (f:=.sum) (wX rfl) (by walk_at "z") ?_ (he:=(by walk_at "e")) (hg:=show _=_ from by kernel_rfl!) (hv:=by kernel_rfl!) (hn:=by decide) (hdb:=by kernel_rfl!) (hpl:=by kernel_rfl!)
 |(with_reducible show Bx (Sd.CE _ _ _ _<|.blt _ _));refine W5 (by walk_at "z") ?_ (hg:=show _=_ from by kernel_rfl!) (he:=by kernel_rfl!) (hpl:=by kernel_rfl!)
 |(with_reducible show Bx (Sd.CE _ _ _ _<|.bin _ _ _));first|refine xY ?_ ?_|refine xk ?_ ?_|refine yW ?_ ?_|refine xT ?_ ?_|refine GO ?_ ?_|refine yK ?_ ?_
 |(with_reducible show Bx (Sd.CE _ _ _ _<|.tup _));refine yG ?_
 |(with_reducible show Bx (Sd.CE _ _ _ _<|.lst _));refine we ?_
 |(with_reducible show Bx (Sd.CE _ _ _ _<|.neg _));refine xu ?_
 |(with_reducible show Bx (Sd.CE _ _ _ _<|.not _));refine xO ?_
 |(with_reducible show Bx (Sd.CE _ _ _ _<|.cmp .eq _ _));refine Xx (op:=.Eq) (o:=.eq) (j8<|by assumption) ?_ ?_ (hm:=by first|exact Yb _|kernel_rfl!)
 |(with_reducible show Bx (Sd.CE _ _ _ _<|.cmp .ne _ _));refine Xx (op:=.NotEq) (o:=.ne) (qZ<|by assumption) ?_ ?_ (hm:=by first|exact Yb _|kernel_rfl!)
 |(with_reducible show Bx (Sd.CE _ _ _ _<|.cmp .lt _ _));refine Xx (op:=.Lt) (o:=.lt) (wj<|by assumption) ?_ ?_ (hm:=by first|exact Yb _|kernel_rfl!)
 |(with_reducible show Bx (Sd.CE _ _ _ _<|.cmp .le _ _));refine Xx (op:=.LtE) (o:=.le) (Jp<|by assumption) ?_ ?_ (hm:=by first|exact Yb _|kernel_rfl!)
 |(with_reducible show Bx (Sd.CE _ _ _ _<|.cmp .ge _ _));refine Xx (op:=.GtE) (o:=.ge) (ZaE<|by assumption) ?_ ?_ (hm:=by first|exact Yb _|kernel_rfl!)
 |(with_reducible show Bx (Sd.CE _ _ _ _<|.cmp .is _ _));refine Xx (op:=.Is) (o:=.is) (jH<|by assumption) ?_ ?_ (hm:=by first|exact Yb _|kernel_rfl!)
 |(with_reducible show Bx (Sd.CE _ _ _ _<|.cmp .inn _ _));refine Xx (op:=.In) (o:=.inn) (jI<|by assumption) ?_ ?_ (hm:=by first|exact Yb _|kernel_rfl!)
 |(with_reducible show Bx (Sd.CE _ _ _ _<|.cmp .nin _ _));refine Xx (op:=.NotIn) (o:=.nin) (yU<|by assumption) ?_ ?_ (hm:=by first|exact Yb _|kernel_rfl!)
 |(with_reducible show Bx (Sd.CE _ _ _ _<|.chain _ _ _ _ _));first|refine VF (op:=.LtE) (o:=.le) (op':=.LtE) (o':=.le) (Jp<|by assumption) (Jp<|by assumption) ?_ ?_ ?_ (hm:=by kernel_rfl!)|refine VF (op:=.LtE) (o:=.le) (op':=.Lt) (o':=.lt) (Jp<|by assumption) (wj<|by assumption) ?_ ?_ ?_ (hm:=by kernel_rfl!)
 |(with_reducible show Bx (Sd.CE _ _ _ _<|.sl _ _ _));refine ZaO ?_ ?_ ?_
 |(with_reducible show Bx (Sd.CE _ _ _ _<|.rev _));refine xL ?_ ?_
 |(with_reducible show Bx (Sd.CE _ _ _ _<|.isi _ _));first|refine W3 (T:="int") (t:=.int) (by intro m h;cases h) (by walk_at "z") (by walk_at "z") ?_ (hg:=show _=_ from by kernel_rfl!) (hgT:=show _=_ from by kernel_rfl!) (hvT:=by kernel_rfl!) (hnT:=by decide) (hdT:=by kernel_rfl!) (hs1:=by kernel_rfl!) (hs2:=by kernel_rfl!) (hpl:=by kernel_rfl!)|refine W3 (T:="bool") (t:=.bool) (by intro m h;cases h) (by walk_at "z") (by walk_at "z") ?_ (hg:=show _=_ from by kernel_rfl!) (hgT:=show _=_ from by kernel_rfl!) (hvT:=by kernel_rfl!) (hnT:=by decide) (hdT:=by kernel_rfl!) (hs1:=by kernel_rfl!) (hs2:=by kernel_rfl!) (hpl:=by kernel_rfl!)|refine W3 (T:="tuple") (t:=.tuple) (by intro m h;cases h) (by walk_at "z") (by walk_at "z") ?_ (hg:=show _=_ from by kernel_rfl!) (hgT:=show _=_ from by kernel_rfl!) (hvT:=by kernel_rfl!) (hnT:=by decide) (hdT:=by kernel_rfl!) (hs1:=by kernel_rfl!) (hs2:=by kernel_rfl!) (hpl:=by kernel_rfl!)|refine W3 (T:="list") (t:=.list) (by intro m h;cases h) (by walk_at "z") (by walk_at "z") ?_ (hg:=show _=_ from by kernel_rfl!) (hgT:=show _=_ from by kernel_rfl!) (hvT:=by kernel_rfl!) (hnT:=by decide) (hdT:=by kernel_rfl!) (hs1:=by kernel_rfl!) (hs2:=by kernel_rfl!) (hpl:=by kernel_rfl!)|refine W3 (T:="dict") (t:=.dict) (by intro m h;cases h) (by walk_at "z") (by walk_at "z") ?_ (hg:=show _=_ from by kernel_rfl!) (hgT:=show _=_ from by kernel_rfl!) (hvT:=by kernel_rfl!) (hnT:=by decide) (hdT:=by kernel_rfl!) (hs1:=by kernel_rfl!) (hs2:=by kernel_rfl!) (hpl:=by kernel_rfl!)|refine J6 (T:="tuple") (U:="list") (t:=.tuple) (u:=.list) (by intro m h;cases h) (by intro m h;cases h) (by walk_at "z") (by walk_at "z") (by walk_at "z") ?_ (hg:=show _=_ from by kernel_rfl!) (hgT:=show _=_ from by kernel_rfl!) (hgU:=show _=_ from by kernel_rfl!) (hvT:=by kernel_rfl!) (hvU:=by kernel_rfl!) (hnT:=by decide) (hdT:=by kernel_rfl!) (hnU:=by decide) (hdU:=by kernel_rfl!) (hs0:=by kernel_rfl!) (hs00:=by kernel_rfl!) (hs1:=by kernel_rfl!) (hs2:=by kernel_rfl!) (hpl:=by kernel_rfl!)
 |(with_reducible show Bx (Sd.CE _ _ _ _<|.mt _ _ _));refine V8 ?_ ?_ (hbase:=by kernel_rfl!) (hfew:=by kernel_rfl!) (hline:=by kernel_rfl!) (hs:=by kernel_rfl!) (hplain:=by kernel_rfl!)
 |(with_reducible show Bx (Sd.CE _ _ _ _<|.comp1 _ _ _ _ _ _));refine UW rfl (by first|assumption|exact T6<|by kernel_rfl!) (by walk_at "n") ?_ (λ_ _ _ _=>⟨?_,?_,?_⟩) (hs:=by intro _;kernel_rfl!)
 |(with_reducible show Bx (Sd.CE _ _ _ _ _));first|refine WG (x:="dict") (f:=.dictP) (Jz rfl<|by assumption) (by walk_at "z") ?_ (he:=(by walk_at "e")) (hg:=show _=_ from by kernel_rfl!) (hv:=by kernel_rfl!) (hn:=by decide) (hdb:=by kernel_rfl!) (hpl:=by kernel_rfl!)|refine y9 ?_ ?_|refine Zaf ?_ ?_
 |(with_reducible show Bx (Sd.CO _ _ _ _ _));first|exact GG|refine Gy ?_
 |(with_reducible show Bx (Sd.CS _ _ _ _<|.raise _ _));exact Zfc Sd.ZbD rfl (by assumption) (by kernel_rfl!) (show _=_ from by kernel_rfl!) (by kernel_rfl!) (by walk_at "e") rfl
 |(with_reducible show Bx (Sd.CS _ _ _ _<|.ret _));refine xm ?_
 |(with_reducible show Bx (Sd.CS _ _ _ _<|.par _ _));refine x5 rfl (by assumption) ?_ (hnm:=by decide) (hi:=by kernel_rfl!) (hj:=by kernel_rfl!) (hx:=by kernel_rfl!) (hy:=by kernel_rfl!) (hw:=by kernel_rfl!) (hs:=by kernel_rfl!)
 |(with_reducible show Bx (Sd.CS _ _ _ _<|.put _ _ _));refine yR ?_ ?_ ?_ (ha:=by intro _;kernel_rfl!) (hs:=by kernel_rfl!) (hw:=by kernel_rfl!) (h1:=by kernel_rfl!)
 |(with_reducible show Bx (Sd.CS _ _ _ _<|.asg _<|.comp1 _ _ _ _ _ _));refine UT rfl (by assumption) (by walk_at "n") ?_ (λ_ _ _ _=>⟨?_,?_,?_⟩) (hsw:=by kernel_rfl!) (hy:=by kernel_rfl!) (hx:=by walk_at "v") (hf:=by first|exact .inl rfl|exact .inr<|by kernel_rfl!) (hs:=by intro _;kernel_rfl!)
 |(with_reducible show Bx (Sd.CS _ _ _ _<|.mov _ _));refine Zeu ?_
 |(with_reducible show Bx (Sd.CS _ _ _ _<|.asg _ _));refine yM ?_ ?_ (hs:=by kernel_rfl!) (hw:=by kernel_rfl!) (h1:=by kernel_rfl!)
 |(with_reducible show Bx (Sd.CS _ _ _ _<|.ex _));refine J2 ?_ (hs:=by kernel_rfl!)
 |(with_reducible show Bx (Sd.CS _ _ _ _<|.ite _ _ _));refine qK ?_ ?_ ?_
 |(with_reducible show Bx (Sd.CS _ _ _ _<|.forr _ _ _));refine x9 lW rfl ?_ ?_ ?_ (hs:=by intro _;kernel_rfl!)
 |(with_reducible show Bx (Sd.CS _ _ _ _<|.whl _ _));refine Qt lW ?_ ?_
 |(with_reducible show Bx (Sd.CS _ _ _ _<|.aug _ _ _));refine xn (op:=.Add) Zbk (by assumption) ?_ (hi:=by kernel_rfl!) (hx:=by walk_at "v") (hf:=by first|exact .inl rfl|exact .inr<|by kernel_rfl!)
 |(with_reducible show Bx (Sd.CT _ _ _ _<|.not _));refine xM ?_
 |(with_reducible show Bx (Sd.CT _ _ _ _<|.cmp .eq _ _));refine Xw (op:=.Eq) (o:=.eq) (j8<|by assumption) ?_ ?_ (hm:=by first|exact Yb _|kernel_rfl!)
 |(with_reducible show Bx (Sd.CT _ _ _ _<|.cmp .ne _ _));refine Xw (op:=.NotEq) (o:=.ne) (qZ<|by assumption) ?_ ?_ (hm:=by first|exact Yb _|kernel_rfl!)
 |(with_reducible show Bx (Sd.CT _ _ _ _<|.cmp .lt _ _));refine Xw (op:=.Lt) (o:=.lt) (wj<|by assumption) ?_ ?_ (hm:=by first|exact Yb _|kernel_rfl!)
 |(with_reducible show Bx (Sd.CT _ _ _ _<|.cmp .le _ _));refine Xw (op:=.LtE) (o:=.le) (Jp<|by assumption) ?_ ?_ (hm:=by first|exact Yb _|kernel_rfl!)
 |(with_reducible show Bx (Sd.CT _ _ _ _<|.cmp .ge _ _));refine Xw (op:=.GtE) (o:=.ge) (ZaE<|by assumption) ?_ ?_ (hm:=by first|exact Yb _|kernel_rfl!)
 |(with_reducible show Bx (Sd.CT _ _ _ _<|.cmp .is _ _));refine Xw (op:=.Is) (o:=.is) (jH<|by assumption) ?_ ?_ (hm:=by first|exact Yb _|kernel_rfl!)
 |(with_reducible show Bx (Sd.CT _ _ _ _<|.cmp .inn _ _));refine Xw (op:=.In) (o:=.inn) (jI<|by assumption) ?_ ?_ (hm:=by first|exact Yb _|kernel_rfl!)
 |(with_reducible show Bx (Sd.CT _ _ _ _<|.cmp .nin _ _));refine Xw (op:=.NotIn) (o:=.nin) (yU<|by assumption) ?_ ?_ (hm:=by first|exact Yb _|kernel_rfl!)
 |(with_reducible show Bx (Sd.CT _ _ _ _<|.or _ _));refine ZdH (vp ?_ ?_)
 |(with_reducible show Bx (Sd.CT _ _ _ _ _));refine yH ?_ (he:=by intro _;kernel_rfl!)
 |(with_reducible show Bx (Sd.CWh _ _ _ _ _));first|refine vp ?_ ?_|refine yI ?_
 |(with_reducible show Bx (Sd.CTs _ _ _ _ _));first|exact JO|refine GD ?_
 |(with_reducible show Bx (Sd.CW _ _ _ _ _ _));first|refine GA (by walk_at "z") ?_ (hg:=show _=_ from by kernel_rfl!) (hs:=by kernel_rfl!)|refine yC (by walk_at "z") ?_ (hg:=show _=_ from by kernel_rfl!) (hs:=by kernel_rfl!) (hs2:=by kernel_rfl!)|refine Gj (by walk_at "z") ?_ (hg:=show _=_ from by kernel_rfl!) (hs:=by kernel_rfl!)|refine qR ?_|refine ZaW ?_
 |(with_reducible show Bx (Sd.CG _ _ _));first|exact G4 (by first|assumption|exact T6<|by kernel_rfl!) (hi:=by kernel_rfl!) (hx:=by walk_at "v") (hf:=by first|exact .inl rfl|exact .inr<|by kernel_rfl!)|refine xi rfl ?_ (hn:=by kernel_rfl!) (hst:=by kernel_rfl!)
 |(with_reducible show Bx (Sd.CGs _ _ _));first|exact Gg|refine UN (by first|assumption|exact T6<|by kernel_rfl!) ?_ (hi:=by kernel_rfl!) (hx:=by walk_at "v") (hf:=by first|exact .inl rfl|exact .inr<|by kernel_rfl!) (hs:=by kernel_rfl!)))
end K21
namespace Pv
open Ev
open PySem (Str)
inductive V where
 |non|bl (b:Bool)|int (i:Int)|str (x:bc)|tup (xs:List V)|lst (xs:List V)|drw|dct (ks:Option (List<|List Int))
 deriving Inhabited
noncomputable abbrev DS:=Int×Bool
inductive PR(α:Type) where
 |ok (a:α) (s:DS)|ex (c:Nat) (s:DS)|no
noncomputable def PR.bind{α β:Type}(r:PR α)(f:α->DS->PR β):PR β:=match r with
 |.ok a s=>f a s
 |.ex c s=>.ex c s
 |.no=>.no
noncomputable def PR.nox{α:Type}(r:PR α):PR α:=match r with
 |.ex _ _=>.no
 |r=>r
noncomputable def po{α:Type}(o:Option α)(s:DS):PR α:=match o with
 |some a=>.ok a s
 |none=>.no
abbrev Env:=List<|Option V
mutual
noncomputable def V.flat:V->Bool
 |.tup xs=>ZP xs
 |.lst _=>ai
 |.drw=>ai
 |.dct _=>ai
 |_=>ah
noncomputable def ZP:List V->Bool
 |[]=>ah
 |x::xs=>x.flat&&ZP xs
end
mutual
noncomputable def toD:V->D
 |.non=>.non
 |.bl b=>.bl b
 |.int i=>.int i
 |.str x=>.str x
 |.tup xs=>.tup (YC xs)
 |_=>.non
noncomputable def YC:List V->List D
 |[]=>[]
 |x::xs=>toD x::YC xs
end
mutual
noncomputable def ofD:D->Option V
 |.non=>aa .non
 |.bl b=>aa (.bl b)
 |.int i=>aa (.int i)
 |.str x=>aa (.str x)
 |.tup xs=>(ux xs).map .tup
 |_=>ac
noncomputable def ux:List D->Option (List V)
 |[]=>aa []
 |x::xs=>match ofD x,ux xs with
  |some a,aa b=>aa (a::b)
  |_,_=>ac
end
noncomputable def Yh:V->Option Bool
 |.non=>aa ai
 |.bl b=>aa b
 |.int i=>aa (ae<|i≠0)
 |.tup xs=>aa (!xs.isEmpty)
 |.lst xs=>aa (!xs.isEmpty)
 |_=>ac
noncomputable def Vw(f:V->V->Option Bool):List V->List V->Option Bool
 |[],[]=>aa ah
 |x::xs,y::ys=>match f x y,Vw f xs ys with
  |some a,aa b=>aa (a&&b)
  |_,_=>ac
 |_,_=>aa ai
noncomputable def eqV:Nat->V->V->Option Bool
 |0,_,_=>ac
 |k+1,x,y=>match x with
  |.non=>match y with
   |.non=>aa ah
   |.bl _|.int _|.str _=>aa ai
   |_=>ac
  |.bl a=>match y with
   |.bl b=>aa (ae<|a=b)
   |.int b=>aa (ae<|b2i a=b)
   |.non|.str _=>aa ai
   |_=>ac
  |.int a=>match y with
   |.int b=>aa (ae<|a=b)
   |.bl b=>aa (ae<|a=b2i b)
   |.non|.str _=>aa ai
   |_=>ac
  |.str a=>match y with
   |.str b=>aa (ae<|a=b)
   |.non|.bl _|.int _=>aa ai
   |_=>ac
  |.tup xs=>match y with
   |.tup ys=>Vw (eqV k) xs ys
   |_=>ac
  |.lst xs=>match y with
   |.lst ys=>if xs.length=ys.length then Vw (eqV k) xs ys else aa ai
   |_=>ac
  |_=>ac
noncomputable def QT(x:V):List V->Option Bool
 |[]=>aa ai
 |y::ys=>match eqV Zo y x,QT x ys with
  |some a,aa b=>aa (a||b)
  |_,_=>ac
noncomputable def Xg:V->Ty->Option Bool
 |.non,_=>aa ai
 |.bl _,t=>aa (ae<|t=.bool\/t=.int)
 |.int _,t=>aa (ae<|t=.int)
 |.str _,t=>aa (ae<|t=.str)
 |.tup _,t=>aa (ae<|t=.tuple)
 |.lst _,t=>aa (ae<|t=.list)
 |.dct ac,t=>aa (ae<|t=.dict)
 |_,_=>ac
noncomputable def Z4(x:V):List Ty->Option Bool
 |[]=>aa ai
 |t::ts=>match Xg x t with
  |some ah=>aa ah
  |some ai=>Z4 x ts
  |none=>ac
noncomputable def YR(xs:List V)(lo hi:Option Int):List V:=(xs.drop<|sIx xs.length 0 lo).take<|sIx xs.length xs.length hi-sIx xs.length 0 lo
def nop{α:Type}{P:Prop}{z:α}{s:DS}(h:PR.no=.ok z s):P:=by cases h
noncomputable def ji(op:Bop)(a b:Int)(s:DS):PR V:=match op with
 |.add=>.ok (.int<|a+b) s
 |.sub=>.ok (.int<|a-b) s
 |.mul=>if(fits a&&fits b)=ah then .ok (.int<|a*b) s else .no
 |.fdiv=>if 0<b/\b<Ev.big then .ok (.int<|a / b) s else .no
 |.mod=>if 0<b then .ok (.int<|a%b) s else .no
 |.pow=>if 0<=b/\b<=1000/\a.natAbs<2^64 then .ok (.int<|a^b.toNat) s else .no
noncomputable def WV(op:Bop)(x y:V)(s:DS):PR V:=match x with
 |.int a=>match y with
  |.int b=>ji op a b s
  |_=>.no
 |.tup a=>match y with
  |.tup b=>match op with
   |.add=>if a.length+b.length<=lim then .ok (.tup<|a++b) s else .no
   |_=>.no
  |.int b=>match op with
   |.mul=>if 0<=b/\b<1000/\a.length<=1000 then .ok (.tup (ar b.toNat a).flatten) s else .no
   |_=>.no
  |_=>.no
 |.lst a=>match y with
  |.lst b=>match op with
   |.add=>if a.length+b.length<=lim then .ok (.lst<|a++b) s else .no
   |_=>.no
  |.int b=>match op with
   |.mul=>if 0<=b/\b<1000/\a.length<=1000 then .ok (.lst (ar b.toNat a).flatten) s else .no
   |_=>.no
  |_=>.no
 |_=>.no
noncomputable def uZ(op:Bop)(x y:V)(s:DS):PR V:=match x,y with
 |.int _,.int _=>WV op x y s
 |_,_=>.no
noncomputable def intsV:List V->Option (List Int)
 |[]=>aa []
 |.int i::r=>(intsV r).map (i :: ·)
 |_::_=>ac
noncomputable def XF(x y:V):Option Bool:=match y with
 |.tup ys=>QT x ys
 |.lst ys=>QT x ys
 |.dct (aa ks)=>match x with
  |.tup k=>(intsV k).map λk=>ks.contains k
  |_=>ac
 |_=>ac
noncomputable def UX:V->Bool
 |.non=>ah
 |_=>ai
noncomputable def Zd(r:List Int):V:=.tup<|r.map .int
noncomputable def Y8:List V->Option (List<|List Int)
 |[]=>aa []
 |.tup x::r=>match intsV x,Y8 r with
  |some a,aa b=>aa (a::b)
  |_,_=>ac
 |_::_=>ac
noncomputable def int2(x y:V):Option (Int×Int):=match x with
 |.int a=>match y with
  |.int b=>aa (a,b)
  |_=>ac
 |_=>ac
noncomputable def isV(x y:V):Option Bool:=match y with
 |.non=>aa (UX x)
 |.bl b=>match x with
  |.bl a=>aa (ae<|a=b)
  |_=>ac
 |_=>ac
noncomputable def WZ(op:Cop)(x y:V):Option V:=match op with
 |.eq=>(eqV Zo x y).map .bl
 |.ne=>(eqV Zo x y).map λb=>.bl !b
 |.lt=>(int2 x y).map λz=>.bl (ae<|z.1<z.2)
 |.le=>(int2 x y).map λz=>.bl (ae<|z.1<=z.2)
 |.ge=>(int2 x y).map λz=>.bl (ae<|z.2<=z.1)
 |.is=>(isV x y).map .bl
 |.inn=>(XF x y).map .bl
 |.nin=>(XF x y).map λb=>.bl !b
noncomputable def ixV(x y:V):Option V:=match x,y with
 |.tup xs,.int i=>at' xs i
 |.lst xs,.int i=>at' xs i
 |_,_=>ac
noncomputable def slV(x:V)(lo hi:Option Int):Option V:=match x with
 |.tup xs=>aa (.tup<|YR xs lo hi)
 |.lst xs=>aa (.lst<|YR xs lo hi)
 |_=>ac
noncomputable def Zgs:V->Option V
 |.tup xs=>aa (.tup xs.reverse)
 |_=>ac
noncomputable def GN:V->Option Bool
 |.non=>aa ai
 |.bl b=>aa b
 |.int i=>aa (ae<|i≠0)
 |_=>ac
noncomputable def ZV:List V->Option (List Bool)
 |[]=>aa []
 |x::xs=>match GN x,ZV xs with
  |some b,aa bs=>aa (b::bs)
  |_,_=>ac
noncomputable def Ze(P:List (List Int)):V:=.tup<|P.map Zd
noncomputable def Z9:V->Option (List V)
 |.tup xs=>aa xs
 |.lst xs=>aa xs
 |_=>ac
noncomputable def ZfR:V->Option (List V)
 |.dct (aa ks)=>aa (ks.map Zd)
 |_=>ac
noncomputable def XQ(lo:Int)(n:Nat):List V:=(aR n).map λ(k:Nat)=>.int<|lo+(k:Int)
noncomputable def yx:V->Option (List Int)
 |.tup [.tup k,.bl b]=>if b=ah then intsV k else ac
 |_=>ac
noncomputable def XE:List V->Option (List<|List Int)
 |[]=>aa []
 |v::r=>(yx v).bind λa=>(XE r).map (a :: ·)
noncomputable def blt1(f:Bf)(x:V):Option V:=match f with
 |.len=>(Z9 x).map λxs=>.int xs.length
 |.toInt=>match x with
  |.int a=>aa (.int a)
  |.bl b=>aa (.int<|b2i b)
  |_=>ac
 |.tuple=>(Z9 x).map .tup
 |.list=>(Z9 x).map .lst
 |.all=>match x with
  |.lst xs=>(ZV xs).map λbs=>.bl (bs.all id)
  |_=>ac
 |.any=>(Z9 x).bind λxs=>(ZV xs).map λbs=>.bl (bs.any id)
 |.sum=>match x with
  |.lst xs=>(intsV xs).bind λis=>if Ui is=ah then aa (.int is.sum)else ac
  |_=>ac
 |.sortedR=>match x with
  |.lst xs=>(Y8 xs).bind λrs=>if Y7 rs=ah then aa (.lst<|(Z5 rs).reverse.map Zd)else ac
  |_=>ac
 |.dictP=>match x with
  |.lst xs=>(XE xs).bind λks=>if We ks=ah then aa (.dct<|aa ks)else ac
  |_=>ac
 |_=>ac
noncomputable def blt2(f:Bf)(x y:V):Option V:=match x,y with
 |.int a,.int b=>match f with
  |.max2=>aa (.int (if b>a then b else a))
  |.min2=>aa (.int (if b<a then b else a))
  |_=>ac
 |_,_=>ac
noncomputable def US(f:Bf)(as:List V):Option V:=match as with
 |[x]=>blt1 f x
 |[x,y]=>blt2 f x y
 |_=>ac
noncomputable def YL:List Nat->List V->Env->Option Env
 |[],[],ρ=>aa ρ
 |i::t,x::xs,ρ=>YL t xs (ρ.set i<|aa x)
 |_,_,_=>ac
noncomputable def ZA(t:List Nat)(x:V)(ρ:Env):Option Env:=match t with
 |[i]=>aa (ρ.set i<|aa x)
 |t=>match Z9 x with
  |some xs=>YL t xs ρ
  |none=>ac
abbrev Zy:=Nat->List V->DS->PR V
noncomputable def Yr(cap:List Nat)(nl:Nat)(ρ:Env):Env:=ar nl ac++cap.map λi=>(ρ[i]?).join
noncomputable def mapP(f:V->DS->PR (List V)):List V->DS->PR (List V)
 |[],s=>.ok [] s
 |x::xs,s=>match f x s with
  |.ok ys s=>match mapP f xs s with
   |.ok zs s=>.ok (ys++zs) s
   |_=>.no
  |_=>.no
noncomputable def Zft(w:Bool)(c:Nat):V:=if w then .str (Y5.getD c "")else .int c
noncomputable def own(nl:Nat)(t:List Nat):Bool:=t.all λi=>ae<|i<nl
mutual
noncomputable def pv(C:Zy):E->Env->DS->PR V
 |.c d,_,s=>po (ofD d) s
 |.v i,ρ,s=>po (ρ[i]?).join s
 |.tup es,ρ,s=>(pvs C es ρ s).bind λxs s=>if xs.length<=lim then .ok (.tup xs) s else .no
 |.lst es,ρ,s=>(pvs C es ρ s).bind λxs s=>if xs.length<=lim then .ok (.lst xs) s else .no
 |.dnew,_,s=>.ok (.dct ac) s
 |.dput1 k v,ρ,s=>(pv C k ρ s).bind λx s=>(pv C v ρ s).bind λy s=>match x,y with
  |.int _,.int _=>.ok (.dct ac) s
  |_,_=>.no
 |.bin op a b,ρ,s=>(pv C a ρ s).bind λx s=>(pv C b ρ s).bind λy s=>WV op x y s
 |.neg a,ρ,s=>(pv C a ρ s).bind λx s=>match x with
  |.int i=>.ok (.int<|-i) s
  |_=>.no
 |.not a,ρ,s=>(pv C a ρ s).bind λx s=>(po (Yh x) s).bind λb s=>.ok (.bl !b) s
 |.and a b,ρ,s=>(pv C a ρ s).bind λx s=>match x with
  |.bl c=>if c then pv C b ρ s else .ok (.bl ai) s
  |_=>.no
 |.or a b,ρ,s=>(pv C a ρ s).bind λx s=>match x with
  |.bl c=>if c then .ok (.bl ah) s else pv C b ρ s
  |_=>.no
 |.ite t a b,ρ,s=>(pv C t ρ s).bind λx s=>(po (Yh x) s).bind λc s=>if c then pv C a ρ s else pv C b ρ s
 |.cmp op a b,ρ,s=>(pv C a ρ s).bind λx s=>(pv C b ρ s).bind λy s=>po (WZ op x y) s
 |.chain o p a b d,ρ,s=>(pv C a ρ s).bind λx s=>(pv C b ρ s).bind λy s=>(po (WZ o x y) s).bind λz s=>match z with
  |.bl c=>if c then(pv C d ρ s).bind λw s=>po (WZ p y w) s else .ok (.bl ai) s
  |_=>.no
 |.ix a i,ρ,s=>(pv C a ρ s).bind λx s=>(pv C i ρ s).bind λy s=>po (ixV x y) s
 |.sl a lo hi,ρ,s=>(pv C a ρ s).bind λx s=>(pvo C lo ρ s).bind λl s=>(pvo C hi ρ s).bind λh s=>po (slV x l h) s
 |.rev a,ρ,s=>(pv C a ρ s).bind λx s=>po (Zgs x) s
 |.call f as,ρ,s=>(pvs C as ρ s).bind λxs s=>C f xs s
 |.blt f as,ρ,s=>(pvs C as ρ s).bind λxs s=>po (US f xs) s
 |.mt _ _ _,_,_=>.no
 |.isi a ts,ρ,s=>(pv C a ρ s).bind λx s=>(po (Z4 x ts) s).bind λb s=>.ok (.bl b) s
 |.comp1 cap nl t it ifs elt,ρ,s=>if own nl t=ah then(pvw C it ρ s).bind λw s=>
   ((mapP (λx s=>(po (ZA t x<|Yr cap nl ρ) s).bind λσ s=>(pvt C ifs σ s).bind λb s=>if b then(pv C elt σ s).bind λy s=>.ok [y] s else .ok [] s) w s).bind
    λys s=>if ys.length<=lim then .ok (.lst ys) s else .no).nox
  else .no
 |.refu w e,ρ,s=>match pv C e ρ s with
  |.ok _ s=>.ok .non s
  |.ex c s=>if 1<=c/\c<=10 then .ok (Zft w<|c-1) s else .no
  |.no=>.no
noncomputable def pvs(C:Zy):List E->Env->DS->PR (List V)
 |[],_,s=>.ok [] s
 |e::es,ρ,s=>(pv C e ρ s).bind λx s=>(pvs C es ρ s).bind λxs s=>.ok (x::xs) s
noncomputable def pvo(C:Zy):Option E->Env->DS->PR (Option Int)
 |none,_,s=>.ok ac s
 |some e,ρ,s=>(pv C e ρ s).bind λx s=>match x with
  |.int i=>.ok (aa i) s
  |_=>.no
noncomputable def pvt(C:Zy):List E->Env->DS->PR Bool
 |[],_,s=>.ok ah s
 |e::es,ρ,s=>(pv C e ρ s).bind λx s=>(po (Yh x) s).bind λb s=>if b then pvt C es ρ s else .ok ai s
noncomputable def pvw(C:Zy):W->Env->DS->PR (List V)
 |.rng1 a,ρ,s=>(pv C a ρ s).bind λx s=>match x with
  |.int i=>if Uh i then .ok (XQ 0 i.toNat) s else .no
  |_=>.no
 |.zip a b,ρ,s=>(pv C a ρ s).bind λx s=>(pv C b ρ s).bind λy s=>match Z9 x,Z9 y with
  |some v,aa w=>.ok ((v.zip w).map λp=>.tup [p.1,p.2]) s
  |_,_=>.no
 |.enum a,ρ,s=>(pv C a ρ s).bind λx s=>match Z9 x with
  |some w=>.ok (((XQ 0 w.length).zip w).map λp=>.tup [p.1,p.2]) s
  |none=>.no
 |.of e,ρ,s=>(pv C e ρ s).bind λx s=>po (Z9 x) s
 |.dk e,ρ,s=>(pv C e ρ s).bind λx s=>po (ZfR x) s
end
inductive FlV where|nx (ρ:Env) (os:List Nat)|ret (v:V)|brk (ρ:Env) (os:List Nat)|cnt (ρ:Env) (os:List Nat)
noncomputable def hide(os:List Nat)(ρ:Env):Env:=ρ.mapIdx λi o=>if os.contains i then ac else o
noncomputable def fresh:E->Bool
 |.lst _=>ah
 |.comp1 .. => ah
 |.bin .mul (.lst _) _=>ah
 |.blt .list _=>ah
 |_=>ai
noncomputable def pvA(C:Zy)(e:E)(ρ:Env)(os:List Nat)(s:DS):PR V:=match os with
 |[]=>pv C e ρ s
 |os=>match pv C e (hide os ρ) s with
  |.ok v s=>.ok v s
  |.ex c s=>.ex c s
  |.no=>(pv C e ρ s).bind λv s=>if v.flat then .ok v s else .no
noncomputable def ZfM(C:Zy)(es:List E)(ρ:Env)(os:List Nat)(s:DS):PR (List V):=match os with
 |[]=>pvs C es ρ s
 |_=>(pvs C es ρ s).bind λv s=>if ZP v then .ok v s else .no
noncomputable def Uv(C:Zy)(e:E)(ρ:Env)(s:DS):PR Bool:=(pv C e ρ s).bind λx s=>po (Yh x) s
noncomputable def XG(body:V->Env->List Nat->DS->PR FlV):List V->Env->List Nat->DS->PR FlV
 |[],ρ,os,s=>.ok (.nx ρ os) s
 |x::xs,ρ,os,s=>(body x ρ os s).bind λf s=>match f with
  |.nx ρ os=>XG body xs ρ os s
  |.cnt ρ os=>XG body xs ρ os s
  |.brk ρ os=>.ok (.nx ρ os) s
  |.ret v=>.ok (.ret v) s
noncomputable def Xu(test:Env->DS->PR Bool)(body:Env->List Nat->DS->PR FlV):Nat->Env->List Nat->DS->PR FlV
 |0,_,_,_=>.no
 |n+1,ρ,os,s=>(test ρ s).bind λb s=>if b then(body ρ os s).bind λf s=>match f with
  |.nx ρ os=>Xu test body n ρ os s
  |.cnt ρ os=>Xu test body n ρ os s
  |.brk ρ os=>.ok (.nx ρ os) s
  |.ret v=>.ok (.ret v) s
  else .ok (.nx ρ os) s
noncomputable def Vc:Option (Option V)->Option (List V)
 |some (aa<|.lst xs)=>aa xs
 |_=>ac
mutual
noncomputable def rv(C:Zy)(ms:List Nat):Sm->Env->List Nat->DS->PR FlV
 |.asg [i] e,ρ,os,s=>(pvA C e ρ os s).bind λv s=>if(ms.contains i&&fresh e)=ah then match v with
   |.lst xs=>if ZP xs=ah/\i<ρ.length then .ok (.nx (ρ.set i<|aa v) (i::os.filter (· != i))) s else .no
   |_=>.no
  else .ok (.nx (ρ.set i<|aa v) (os.filter (· != i))) s
 |.asg t e,ρ,os,s=>(pvA C e ρ os s).bind λv s=>if(t.any os.contains)=ah then .no else(po (ZA t v ρ) s).bind λρ s=>.ok (.nx ρ os) s
 |.par t es,ρ,os,s=>(ZfM C es ρ os s).bind λvs s=>if(t.any os.contains)=ah then .no else(po (YL t vs ρ) s).bind λρ s=>.ok (.nx ρ os) s
 |.aug i op e,ρ,os,s=>if os.contains i then .no else(po (ρ[i]?).join s).bind λx s=>(pv C e ρ s).bind λy s=>(uZ op x y s).bind λz s=>.ok (.nx (ρ.set i<|aa z) os) s
 |.put (.v i) k e,ρ,os,s=>if os.contains i then(pv C e ρ s).bind λv s=>if v.flat then(po (Vc ρ[i]?) s).bind λxs s=>(pv C k ρ s).bind λy s=>match y with
   |.int n=>(po (ixN xs.length n) s).bind λj s=>.ok (.nx (ρ.set i<|aa<|.lst<|xs.set j v) os) s
   |_=>.no
  else .no else .no
 |.put _ _ _,_,_,_=>.no
 |.ret e,ρ,os,s=>(pv C e ρ s).bind λv s=>.ok (.ret v) s
 |.ex (.mt .extend (.v i) [e]),ρ,os,s=>if os.contains i then(po (Vc ρ[i]?) s).bind λxs s=>(pv C e (hide os ρ) s).bind λv s=>match v with
   |.lst ys=>if ZP ys=ah/\xs.length+ys.length<=lim then .ok (.nx (ρ.set i<|aa<|.lst<|xs++ys) os) s else .no
   |_=>.no
  else .no
 |.ex e,ρ,os,s=>(pv C e ρ s).bind λ_ s=>.ok (.nx ρ os) s
 |.ite t a b,ρ,os,s=>(Uv C t ρ s).bind λc s=>if c then rvs C ms a ρ os s else rvs C ms b ρ os s
 |.forr t it b,ρ,os,s=>(pvw C it (hide os ρ) s).bind λw s=>XG (λx ρ os s=>if(t.any os.contains)=ah then .no else if(os.isEmpty||x.flat)=ah then(po (ZA t x ρ) s).bind λρ s=>rvs C ms b ρ os s else .no) w ρ os s
 |.whl t b,ρ,os,s=>Xu (Uv C t) (rvs C ms b) VL ρ os s
 |.raise c as,ρ,os,s=>(pvs C as ρ s).bind λ_ s=>.ex c s
 |.brk,ρ,os,s=>.ok (.brk ρ os) s
 |.cnt,ρ,os,s=>.ok (.cnt ρ os) s
 |.mov i j,ρ,os,s=>if(os.contains j&&(!os.contains i&&ae (i≠j)))=ah then(po (Vc ρ[j]?) s).bind λxs s=>.ok (.nx ((ρ.set i<|aa<|.lst xs).set j ac) (os.filter (· != j))) s else .no
noncomputable def rvs(C:Zy)(ms:List Nat):List Sm->Env->List Nat->DS->PR FlV
 |[],ρ,os,s=>.ok (.nx ρ os) s
 |m::ss,ρ,os,s=>(rv C ms m ρ os s).bind λf s=>match f with
  |.nx ρ os=>rvs C ms ss ρ os s
  |f=>.ok f s
end
mutual
noncomputable def Zf0:Sm->List Nat
 |.put (.v i) _ _=>[i]
 |.ex (.mt .extend (.v i) _)=>[i]
 |.ite _ a b=>muts a++muts b
 |.forr _ _ b=>muts b
 |.whl _ b=>muts b
 |_=>[]
noncomputable def muts:List Sm->List Nat
 |[]=>[]
 |m::ss=>Zf0 m++muts ss
end
noncomputable def Xz(n:Nat)(xs:List V):Env:=xs.map aa++ar (n-xs.length) ac
noncomputable def Yw(s:DS)(m:Int):Int×DS:=
 if s.2 then(s.1%m,(s.1 / m,ah))else
  let x:=(s.1*48271+29)%2147483647
  let y:=(x*x+39373*x+7)%2147483629
  let z:=(y*y+16807*y)%2147483587
  (z / 8%m,(x,ai))
noncomputable def Zat(vs:List V)(s:DS):PR V:=match vs with
 |[.drw,.int m]=>if 0<m/\m<1073741824 then .ok (.int (Yw s m).1) (Yw s m).2 else .no
 |_=>.no
noncomputable def ZL(F:List Fn)(tk:Nat):Nat->Zy
 |0,_,_,_=>.no
 |d+1,f,xs,s=>if f=tk then Zat xs s else match F[f]? with
  |some fn=>if xs.length=fn.ps then(rvs (ZL F tk d) (muts fn.body) fn.body (Xz fn.ns xs) [] s).bind λf s=>match f with
    |.ret v=>.ok v s
    |.nx _ _=>.ok .non s
    |_=>.no
   else .no
  |none=>.no
end Pv
namespace Pv
open Ev
noncomputable def Zbl:Ob->Option (Option<|List<|List Int)
 |.dt _=>aa ac
 |.dk _=>aa ac
 |.fz ks=>aa (aa ks)
 |_=>ac
mutual
def Rep(S:Zc)(X:Nat->Prop)(n0:Nat):V->D->Prop
 |.non,d=>d=.non
 |.bl b,d=>d=.bl b
 |.int i,d=>d=.int i
 |.str x,d=>d=.str x
 |.tup vs,d=>∃ds,d=.tup ds/\Rq S X n0 vs ds
 |.lst vs,d=>∃n ds,d=.loc n/\S[n]?=aa (.lst ds)/\¬X n/\Rq S X n0 vs ds
 |.drw,d=>d=.loc n0
 |.dct o,d=>∃n ob,d=.loc n/\S[n]?=aa ob/\¬X n/\Zbl ob=aa o
def Rq(S:Zc)(X:Nat->Prop)(n0:Nat):List V->List D->Prop
 |[],ds=>ds=[]
 |v::vs,ds=>∃d es,ds=d::es/\Rep S X n0 v d/\Rq S X n0 vs es
end
section
variable{S S':Zc}{X X':Nat->Prop}{n0:Nat}
def YJ(h:S[n]?=aa o):n<S.length:=(ay.mp h).1
mutual
theorem Rep.mono(k:∀n o,¬X n->S[n]?=aa o->S'[n]?=aa o)(x:∀n,n<S.length->X' n->X n):∀{v:V}{d:D},Rep S X n0 v d->Rep S' X' n0 v d
 |.non,_,h|.bl _,_,h|.int _,_,h|.str _,_,h|.drw,_,h=>by exact h
 |.tup vs,d,h=>by
  obtain⟨ds,e,r⟩:=h;exact⟨ds,e,Rq.mono k x r⟩
 |.lst vs,d,h=>by
  obtain⟨n,ds,e,hs,hx,r⟩:=h;exact⟨n,ds,e,k n _ hx hs,λz=>hx<|x n (YJ hs) z,Rq.mono k x r⟩
 |.dct o,d,h=>by
  obtain⟨n,ob,e,hs,hx,r⟩:=h;exact⟨n,ob,e,k n _ hx hs,λz=>hx<|x n (YJ hs) z,r⟩
theorem Rq.mono(k:∀n o,¬X n->S[n]?=aa o->S'[n]?=aa o)(x:∀n,n<S.length->X' n->X n):∀{vs:List V}{ds:List D},Rq S X n0 vs ds->Rq S' X' n0 vs ds
 |[],_,h=>by exact h
 |v::vs,ds,h=>by
  obtain⟨d,es,e,r,rs⟩:=h;exact⟨d,es,e,Rep.mono k x r,Rq.mono k x rs⟩
end
def Rq.nil:Rq S X n0 [] []:=by rfl
def Rq.cons{v:V}{d:D}{vs:List V}{ds:List D}(r:Rep S X n0 v d)(rs:Rq S X n0 vs ds):Rq S X n0 (v::vs) (d::ds):=by exact⟨d,ds,rfl,r,rs⟩
def Rq.nil'(h:Rq S X n0 [] ds):ds=[]:=by exact h
def Rq.cons'(h:Rq S X n0 (v::vs) ds):∃d es,ds=d::es/\Rep S X n0 v d/\Rq S X n0 vs es:=by exact h
theorem Rq.length:∀{vs:List V}{ds:List D},Rq S X n0 vs ds->ds.length=vs.length
 |[],_,h=>by rw[h.nil'];rfl
 |v::vs,_,h=>by obtain⟨d,es,rfl,_,t⟩:=h.cons';rw[aP,aP,Rq.length t]
theorem Rq.append:∀{vs ws:List V}{ds es:List D},Rq S X n0 vs ds->Rq S X n0 ws es->Rq S X n0 (vs++ws) (ds++es)
 |[],_,_,_,h,r=>by rw[h.nil'];exact r
 |v::vs,_,_,_,h,r=>by obtain⟨d,es,rfl,a,t⟩:=h.cons';exact Rq.cons a<|Rq.append t r
theorem Rq.take:∀{vs:List V}{ds:List D}(k:Nat),Rq S X n0 vs ds->Rq S X n0 (vs.take k) (ds.take k)
 |_,_,0,_=>Rq.nil
 |[],_,k+1,h=>by rw[h.nil'];exact Rq.nil
 |v::vs,_,k+1,h=>by obtain⟨d,es,rfl,a,t⟩:=h.cons';exact Rq.cons a<|Rq.take k t
theorem Rq.drop:∀{vs:List V}{ds:List D}(k:Nat),Rq S X n0 vs ds->Rq S X n0 (vs.drop k) (ds.drop k)
 |_,_,0,h=>h
 |[],_,k+1,h=>by rw[h.nil'];exact Rq.nil
 |v::vs,_,k+1,h=>by obtain⟨d,es,rfl,a,t⟩:=h.cons';exact Rq.drop k t
theorem Rq.get:∀{vs:List V}{ds:List D}{i:Nat}{v:V},Rq S X n0 vs ds->vs[i]?=aa v->∃d,ds[i]?=aa d/\Rep S X n0 v d
 |[],_,_,_,_,e=>by simp at e
 |v::vs,_,0,_,h,e=>by
  obtain⟨d,es,rfl,a,t⟩:=h.cons';simp at e;subst e;exact⟨d,rfl,a⟩
 |v::vs,_,i+1,_,h,e=>by
  obtain⟨d,es,rfl,a,t⟩:=h.cons';obtain⟨u,q,r⟩:=Rq.get t (by simpa using e)
  exact⟨u,by simpa using q,r⟩
theorem Rq.reverse:∀{vs:List V}{ds:List D},Rq S X n0 vs ds->Rq S X n0 vs.reverse ds.reverse
 |[],_,h=>by rw[h.nil'];exact Rq.nil
 |v::vs,_,h=>by
  obtain⟨d,es,rfl,a,t⟩:=h.cons';rw[cD,cD];exact Rq.append (Rq.reverse t)<|Rq.cons a Rq.nil
theorem Rq.rep(h:Rq S X n0 vs ds):∀k:Nat,Rq S X n0 (ar k vs).flatten (ar k ds).flatten
 |0=>Rq.nil
 |k+1=>by rw[bD,bD,bV,bV];exact Rq.append h<|Rq.rep h k
def Rq.empty:∀{vs:List V}{ds:List D},Rq S X n0 vs ds->ds.isEmpty=vs.isEmpty
 |[],_,h=>by rw[h.nil'];rfl
 |v::vs,_,h=>by obtain⟨d,es,rfl,_,_⟩:=h.cons';rfl
mutual
theorem VD:∀{v:V}{d:D},v.flat=ah->Rep S X n0 v d->d=toD v
 |.non,_,_,h|.bl _,_,_,h|.int _,_,_,h|.str _,_,_,h=>by exact h
 |.tup vs,d,hf,h=>by
  obtain⟨ds,rfl,r⟩:=h;exact congrArg D.tup (XI hf r)
 |.lst _,_,hf,_=>by cases hf
 |.drw,_,hf,_=>by cases hf
theorem XI:∀{vs:List V}{ds:List D},ZP vs=ah->Rq S X n0 vs ds->ds=YC vs
 |[],_,_,h=>h.nil'
 |v::vs,_,hf,h=>by
  obtain⟨d,es,rfl,a,t⟩:=h.cons';obtain⟨h1,h2⟩:=(aE _ _).mp hf;rw[VD h1 a,XI h2 t];rfl
end
mutual
theorem UL:∀{v:V},v.flat=ah->Rep S X n0 v (toD v)
 |.non,_|.bl _,_|.int _,_|.str _,_=>by rfl
 |.tup vs,hf=>by exact⟨YC vs,rfl,XV hf⟩
 |.lst _,hf=>by cases hf
 |.drw,hf=>by cases hf
theorem XV:∀{vs:List V},ZP vs=ah->Rq S X n0 vs (YC vs)
 |[],_=>Rq.nil
 |v::vs,hf=>by
  obtain⟨h1,h2⟩:=(aE _ _).mp hf;exact Rq.cons (UL h1)<|XV h2
end
def Rep.int'(h:Rep S X n0 (.int i) d):d=.int i:=by exact h
def Rep.bl'(h:Rep S X n0 (.bl i) d):d=.bl i:=by exact h
def Rep.non'(h:Rep S X n0 .non d):d=.non:=by exact h
def Rep.str'(h:Rep S X n0 (.str x) d):d=.str x:=by exact h
def Rep.tup'(h:Rep S X n0 (.tup vs) d):∃ds,d=.tup ds/\Rq S X n0 vs ds:=by exact h
def Rep.dct'(h:Rep S X n0 (.dct o) d):∃n ob,d=.loc n/\S[n]?=aa ob/\¬X n/\Zbl ob=aa o:=by exact h
def Rep.lst'(h:Rep S X n0 (.lst vs) d):∃n ds,d=.loc n/\S[n]?=aa (.lst ds)/\¬X n/\Rq S X n0 vs ds:=by exact h
def Rep.drw'(h:Rep S X n0 .drw d):d=.loc n0:=by exact h
def Zq(i:Int):Rep S X n0 (.int i) (.int i):=by rfl
def ZC(i:Bool):Rep S X n0 (.bl i) (.bl i):=by rfl
def VI(i:PySem.Str):Rep S X n0 (.str i) (.str i):=by rfl
def YT:Rep S X n0 .non .non:=by rfl
def ZU(h:Rq S X n0 vs ds):Rep S X n0 (.tup vs) (.tup ds):=by exact⟨ds,rfl,h⟩
def JT(hs:S[n]?=aa (.lst ds))(hx:¬X n)(h:Rq S X n0 vs ds):Rep S X n0 (.lst vs) (.loc n):=by exact⟨n,ds,rfl,hs,hx,h⟩
def ZM(h:S[n]?=aa (.lst ds)):Zm S n=aa ds:=by unfold Zm;rw[h]
def Ql(h:S[n]?=aa (.lst ds)):Yd S n=aa ds:=by unfold Yd;rw[h]
mutual
theorem v4:∀{d:D}{v:V},ofD d=aa v->Rep S X n0 v d
 |.non,v,h|.bl _,v,h|.int _,v,h|.str _,v,h=>by cases h;rfl
 |.tup ds,v,h=>by
  unfold ofD at h;cases q:ux ds with|none=>rw[q]at h;cases h|some vs=>rw[q]at h;cases h;exact ZU (yk q)
 |.loc _,_,h=>by cases h
theorem yk:∀{ds:List D}{vs:List V},ux ds=aa vs->Rq S X n0 vs ds
 |[],vs,h=>by cases h;exact Rq.nil
 |d::ds,vs,h=>by
  unfold ux at h;cases q:ofD d with
  |none=>rw[q]at h;cases h
  |some a=>
   cases q2:ux ds with|none=>rw[q,q2]at h;cases h|some b=>rw[q,q2]at h;cases h;exact Rq.cons (v4 q)<|yk q2
end
def Xb(r:Rep S X n0 v d)(h:Yh v=aa b):Yc S d=aa b:=by
 cases v with
 |non=>cases r.non';exact h
 |bl x=>cases r.bl';exact h
 |int x=>cases r.int';exact h
 |str x=>cases h
 |drw=>cases h
 |dct x=>cases h
 |tup vs=>
  obtain⟨ds,rfl,rs⟩:=r.tup';show aa (!ds.isEmpty)=aa b;rw[rs.empty];exact h
 |lst vs=>
  obtain⟨n,ds,rfl,hs,_,rs⟩:=r.lst';show(Yd S n).map _=aa b;rw[Ql hs];show aa (!ds.isEmpty)=aa b;rw[rs.empty];exact h
theorem xV(hf:∀v w d e b,Rep S X n0 v d->Rep S X n0 w e->f v w=aa b->g d e=aa b):∀{vs ws:List V}{ds es:List D}{b:Bool},Rq S X n0 vs ds->Rq S X n0 ws es->Vw f vs ws=aa b->eqL g ds es=aa b
 |[],[],_,_,b,h1,h2,h=>by rw[h1.nil',h2.nil'];exact h
 |[],w::ws,_,_,b,h1,h2,h=>by rw[h1.nil'];obtain⟨d,es,rfl,_,_⟩:=h2.cons';exact h
 |v::vs,[],_,_,b,h1,h2,h=>by rw[h2.nil'];obtain⟨d,es,rfl,_,_⟩:=h1.cons';exact h
 |v::vs,w::ws,_,_,b,h1,h2,h=>by
  obtain⟨d,ds,rfl,a1,t1⟩:=h1.cons';obtain⟨e,es,rfl,a2,t2⟩:=h2.cons';unfold Vw at h;cases q1:f v w with
  |none=>rw[q1]at h;cases h
  |some x=>
   cases q2:Vw f vs ws with
   |none=>rw[q1,q2]at h;cases h
   |some y=>
    rw[q1,q2]at h;unfold eqL;rw[hf v w d e x a1 a2 q1,xV hf t1 t2 q2];exact h
theorem U2:∀(k:Nat)(v w:V)(d e:D)(b:Bool),Rep S X n0 v d->Rep S X n0 w e->eqV k v w=aa b->eqD S k d e=aa b
 |0,_,_,_,_,_,_,_,h=>by cases h
 |k+1,v,w,d,e,b,r1,r2,h=>by
  cases v with
  |tup vs=>cases w with
   |tup ws=>
    obtain⟨ds,rfl,t1⟩:=r1.tup';obtain⟨es,rfl,t2⟩:=r2.tup';exact xV (U2 k) t1 t2 h
   |_=>cases h
  |lst vs=>cases w with
   |lst ws=>
    obtain⟨m,ds,rfl,hs1,_,t1⟩:=r1.lst';obtain⟨n,es,rfl,hs2,_,t2⟩:=r2.lst';have h':(if vs.length=ws.length then Vw (eqV k) vs ws else aa ai)=aa b:=h
    show(match Zm S m,Zm S n with
     |some xs,aa ys=>if xs.length=ys.length then eqL (eqD S k) xs ys else aa ai
     |_,_=>ac)=aa b
    rw[ZM hs1,ZM hs2];show(if ds.length=es.length then eqL (eqD S k) ds es else aa ai)=aa b
    rw[t1.length,t2.length];by_cases c:vs.length=ws.length
    ·rw[T9 c]at h' ⊢;exact xV (U2 k) t1 t2 h'
    ·rw[T8 c]at h' ⊢;exact h'
   |_=>cases h
  |drw=>cases h
  |dct _=>cases h
  |non=>cases r1.non';cases w with|non=>cases r2.non';exact h|bl _=>cases r2.bl';exact h|int _=>cases r2.int';exact h|str _=>cases r2.str';exact h|_=>cases h
  |bl x=>cases r1.bl';cases w with|non=>cases r2.non';exact h|bl _=>cases r2.bl';exact h|int _=>cases r2.int';exact h|str _=>cases r2.str';exact h|_=>cases h
  |int x=>cases r1.int';cases w with|non=>cases r2.non';exact h|bl _=>cases r2.bl';exact h|int _=>cases r2.int';exact h|str _=>cases r2.str';exact h|_=>cases h
  |str x=>cases r1.str';cases w with|non=>cases r2.non';exact h|bl _=>cases r2.bl';exact h|int _=>cases r2.int';exact h|str _=>cases r2.str';exact h|_=>cases h
theorem xy(rx:Rep S X n0 x dx):∀{vs:List V}{ds:List D}{b:Bool},Rq S X n0 vs ds->QT x vs=aa b->inL S dx ds=aa b
 |[],_,b,h,e=>by rw[h.nil'];exact e
 |v::vs,_,b,h,e=>by
  obtain⟨d,ds,rfl,a,t⟩:=h.cons';unfold QT at e;cases q1:eqV Zo v x with
  |none=>rw[q1]at e;cases e
  |some y=>
   cases q2:QT x vs with
   |none=>rw[q1,q2]at e;cases e
   |some z=>
    rw[q1,q2]at e;unfold inL;rw[U2 _ _ _ _ _ _ a rx q1,xy rx t q2];exact e
def ZcQ(r:Rep S X n0 v d)(h:Xg v t=aa b):zc S d t=aa b:=by
 cases v with
 |non=>cases r.non';exact h
 |bl x=>cases r.bl';exact h
 |int x=>cases r.int';exact h
 |str x=>cases r.str';exact h
 |drw=>cases h
 |dct o=>
  obtain⟨n,ob,rfl,hs,_,e⟩:=r.dct';show(match S[n]? with
   |some (.lst _)=>aa (ae<|t=.list)
   |some (.dt _)=>aa (ae<|t=.dict)
   |some (.dk _)=>aa (ae<|t=.dict)
   |_=>ac)=aa b
  rw[hs];cases ob with|dt _=>cases e;exact h|dk _=>cases e;exact h|lst _=>cases e|scr _=>cases e|fz _=>cases e;cases h
 |tup vs=>obtain⟨ds,rfl,rs⟩:=r.tup';exact h
 |lst vs=>
  obtain⟨n,ds,rfl,hs,_,rs⟩:=r.lst';show(match S[n]? with
   |some (.lst _)=>aa (ae<|t=.list)
   |some (.dt _)=>aa (ae<|t=.dict)
   |some (.dk _)=>aa (ae<|t=.dict)
   |_=>ac)=aa b
  rw[hs];exact h
theorem zN(r:Rep S X n0 v d):∀{ts:List Ty}{b:Bool},Z4 v ts=aa b->QI S d ts=aa b
 |[],b,h=>h
 |t::ts,b,h=>by
  unfold Z4 at h;unfold QI;cases q:Xg v t with
  |none=>rw[q]at h;cases h
  |some x=>
   rw[q]at h;rw[ZcQ r q];cases x with|true=>exact h|false=>exact zN r h
def Zdw(r:Rq S X n0 vs ds)(h:at' vs i=aa v):∃d,at' ds i=aa d/\Rep S X n0 v d:=by
 unfold at' at h ⊢;rw[r.length];cases q:ixN vs.length i with|none=>rw[q]at h;cases h|some j=>rw[q]at h;exact r.get h
def Xt(r:Rq S X n0 vs ds):Rq S X n0 (YR vs lo hi) (cut ds lo hi):=by
 unfold YR cut;rw[r.length];exact(r.drop _).take _
theorem XH:∀{vs:List V}{ds:List D}{is:List Int},Rq S X n0 vs ds->intsV vs=aa is->Y1 ds=aa is/\YD ds=aa is
 |[],_,is,r,h=>by rw[r.nil'];cases h;exact⟨rfl,rfl⟩
 |v::vs,_,is,r,h=>by
  obtain⟨d,ds,rfl,a,t⟩:=r.cons';cases v with
  |int i=>
   cases a.int';have h':(intsV vs).map (i :: ·)=aa is:=h
   cases q:intsV vs with
   |none=>rw[q]at h';cases h'
   |some js=>
    rw[q]at h';obtain⟨e1,e2⟩:=XH t q;refine⟨?_,?_⟩
    ·show(Y1 ds).map (i :: ·)=aa is;rw[e1];exact h'
    ·show(YD ds).map (i :: ·)=aa is;rw[e2];exact h'
  |_=>cases h
theorem JF:∀{vs:List V}{ds:List D}{rs:List (List Int)},Rq S X n0 vs ds->Y8 vs=aa rs->YH ds=aa rs
 |[],_,rs,r,h=>by rw[r.nil'];cases h;rfl
 |v::vs,_,rs,r,h=>by
  obtain⟨d,ds,rfl,a,t⟩:=r.cons';cases v with
  |tup xs=>
   obtain⟨es,rfl,r2⟩:=a.tup';unfold Y8 at h;cases q1:intsV xs with
   |none=>rw[q1]at h;cases h
   |some x=>
    cases q2:Y8 vs with
    |none=>rw[q1,q2]at h;cases h
    |some y=>
     rw[q1,q2]at h;unfold YH;have:Ut (.tup es)=aa x:=(XH r2 q1).2;rw[this,JF t q2];exact h
  |_=>cases h
theorem yu:∀(is:List Int),Rq S X n0 (is.map V.int) (is.map D.int)
 |[]=>Rq.nil
 |i::is=>Rq.cons (Zq i)<|yu is
theorem Qy:∀(rs:List (List Int)),Rq S X n0 (rs.map Zd) (rs.map Wl)
 |[]=>Rq.nil
 |r::rs=>Rq.cons (ZU<|yu r)<|Qy rs
def ur(r:Rep S X n0 v d)(h:GN v=aa b):UY d=aa b:=by
 cases v with|non=>cases r.non';exact h|bl x=>cases r.bl';exact h|int x=>cases r.int';exact h|_=>cases h
theorem V4:∀{vs:List V}{ds:List D}{bs:List Bool},Rq S X n0 vs ds->ZV vs=aa bs->YI ds=aa bs
 |[],_,bs,r,h=>by rw[r.nil'];exact h
 |v::vs,_,bs,r,h=>by
  obtain⟨d,ds,rfl,a,t⟩:=r.cons';unfold ZV at h;cases q1:GN v with
  |none=>rw[q1]at h;cases h
  |some x=>
   cases q2:ZV vs with
   |none=>rw[q1,q2]at h;cases h
   |some y=>
    rw[q1,q2]at h;unfold YI;rw[ur a q1,V4 t q2];exact h
def xE(r:Rep S X n0 v d)(h:Z9 v=aa vs):∃ds,Wf S d=aa ds/\Rq S X n0 vs ds:=by
 cases v with|tup xs=>obtain⟨ds,rfl,rs⟩:=r.tup';cases h;exact⟨ds,rfl,rs⟩|lst xs=>obtain⟨n,ds,rfl,hs,_,rs⟩:=r.lst';cases h;exact⟨ds,Ql hs,rs⟩|_=>cases h
end
structure Ext(n0:Nat)(S S':Zc):Prop where
 len:S.length<=S'.length
 keep:∀n o,n≠n0->S[n]?=aa o->S'[n]?=aa o
def Ext.refl :Ext n0 S S:=⟨aB _,λ_ _ _ h=>h⟩
def Ext.trans{n0:Nat}{S S1 S2:Zc}(a:Ext n0 S S1)(b:Ext n0 S1 S2):Ext n0 S S2:=⟨bh a.len b.len,λn o h e=>b.keep n o h<|a.keep n o h e⟩
def Ext.app :Ext n0 S (S++T):=⟨by simp,λn o _ e=>by rw[aO<|YJ e];exact e⟩
def Dw(n0:Nat)(S:Zc)(s:DS):Prop:=S[n0]?=aa (.lst [.int s.1,.bl s.2])/\0<=s.1/\(s.2=ai->s.1<2147483647)
def Dw.app(h:Dw n0 S s):Dw n0 (S++T) s:=⟨by rw[aO<|YJ h.1];exact h.1,h.2⟩
structure Xok(X:Nat->Prop)(n0:Nat)(S:Zc):Prop where
 z:X n0
 lt:∀n,X n->n<S.length
def Xok.ext{X:Nat->Prop}(h:Xok X n0 S)(e:Ext n0 S S'):Xok X n0 S':=⟨h.z,λn x=>aQ (h.lt n x) e.len⟩
def Rep.ext{X:Nat->Prop}(x:Xok X n0 S)(e:Ext n0 S S')(h:Rep S X n0 v d):Rep S' X n0 v d:=
 h.mono (λn o nx hs=>e.keep n o (λz=>nx<|z▸x.z) hs) λ_ _ h=>h
def Rq.ext{X:Nat->Prop}(x:Xok X n0 S)(e:Ext n0 S S')(h:Rq S X n0 v d):Rq S' X n0 v d:=
 h.mono (λn o nx hs=>e.keep n o (λz=>nx<|z▸x.z) hs) λ_ _ h=>h
def Sim{α β:Type}(n0:Nat)(S:Zc)(Rl:Zc->β->α->Prop)(r:R α)(q:PR β):Prop:=match q with
 |.no=>True
 |.ok b s'=>∃a S',r=.ok a S'/\Ext n0 S S'/\Dw n0 S' s'/\Rl S' b a
 |.ex c s'=>∃S',r=.ex c S'/\Ext n0 S S'/\Dw n0 S' s'
section
variable{α β γ δ:Type}{n0:Nat}{S:Zc}{X:Nat->Prop}
theorem Sim.nox{Rl:Zc->β->α->Prop}(h:Sim n0 S Rl r q):Sim n0 S Rl r.nox q.nox:=by
 cases q with
 |no=>exact aA
 |ex c s=>exact aA
 |ok b s=>
  obtain⟨a,S',rfl,x⟩:=h;exact⟨a,S',rfl,x⟩
theorem Sim.bind{Rl:Zc->β->α->Prop}{Rm:Zc->δ->γ->Prop}(h:Sim n0 S Rl r q)
  (k:∀a b S' s',Ext n0 S S'->Dw n0 S' s'->Rl S' b a->Sim n0 S' Rm (f a S') (g b s')):Sim n0 S Rm (r.bind f) (q.bind g):=by
 cases q with
 |no=>exact aA
 |ex c s'=>
  obtain⟨S',e,x,w⟩:=h;rw[e];exact⟨S',rfl,x,w⟩
 |ok b s'=>
  obtain⟨a,S',e,x,w,rl⟩:=h;rw[e];have k':=k a b S' s' x w rl;show Sim n0 S Rm (f a S') (g b s');cases q2:g b s' with
  |no=>exact aA
  |ex c s2=>
   rw[q2]at k';obtain⟨S2,e2,x2,w2⟩:=k';exact⟨S2,e2,x.trans x2,w2⟩
  |ok b2 s2=>
   rw[q2]at k';obtain⟨a2,S2,e2,x2,w2,r2⟩:=k';exact⟨a2,S2,e2,x.trans x2,w2,r2⟩
theorem Sim.ok{Rl:Zc->β->α->Prop}{a:α}{b:β}{s:DS}(w:Dw n0 S s)(r:Rl S b a):Sim n0 S Rl (.ok a S) (.ok b s):=⟨a,S,rfl,Ext.refl,w,r⟩
theorem Sim.app{Rl:Zc->β->α->Prop}(w:Dw n0 S s)(r:Rl (S++T) b a):Sim n0 S Rl (.ok a<|S++T) (.ok b s):=⟨a,S++T,rfl,Ext.app,w.app,r⟩
theorem Sim.po{Rl:Zc->β->α->Prop}{r:R α}{o:Option β}{s:DS}(h:∀b,o=aa b->Sim n0 S Rl r (.ok b s)):Sim n0 S Rl r (po o s):=by
 cases o with|none=>exact aA|some b=>exact h b rfl
def Sim.obp{Rl:Zc->β->α->Prop}(w:Dw n0 S s)(h:∀b,o=aa b->∃a,o'=aa a/\Rl S b a):Sim n0 S Rl (ob o' S) (Pv.po o s):=by
 cases o with
 |none=>exact aA
 |some b=>
  obtain⟨a,e,r⟩:=h b rfl;rw[e];exact Sim.ok w r
def Sim.guard{Rl:Zc->β->α->Prop}{P:Prop}[Decidable P](h:P->Sim n0 S Rl r q):Sim n0 S Rl (if P then r else r') (if P then q else .no):=by
 by_cases c:P
 ·rw[T9 c,T9 c];exact h c
 ·rw[T8 c,T8 c];exact aA
abbrev RlV(X:Nat->Prop)(n0:Nat):Zc->V->D->Prop:=λS v d=>Rep S X n0 v d
abbrev ZbE(X:Nat->Prop)(n0:Nat):Zc->List V->List D->Prop:=λS v d=>Rq S X n0 v d
abbrev RlE{α:Type}:Zc->α->α->Prop:=λ_ a b=>b=a
def Sim.new(x:Xok X n0 S)(w:Dw n0 S s)(r:Rq S X n0 vs ds):Sim n0 S (RlV X n0) (.ok (.loc S.length)<|S++[.lst ds]) (.ok (.lst vs) s):=
 Sim.app w (JT (by simp) (λz=>bB _<|x.lt _ z)<|r.ext x Ext.app)
def vT(xo:Xok X n0 S)(w:Dw n0 S s)(rx:Rep S X n0 x a)(ry:Rep S X n0 y b):Sim n0 S (RlV X n0) (Yx op a b S) (WV op x y s):=by
 have bad:∀r:R D,Sim n0 S (RlV X n0) r .no:=λ_=>aA
 cases x with
 |int i=>
  cases rx.int';cases y with
  |int j=>
   cases ry.int';cases op with|add=>exact Sim.ok w<|Zq _|sub=>exact Sim.ok w<|Zq _|mul=>exact Sim.guard λ_=>Sim.ok w<|Zq _|fdiv=>exact Sim.guard λ_=>Sim.ok w<|Zq _|mod=>exact Sim.guard λ_=>Sim.ok w<|Zq _|pow=>exact Sim.guard λ_=>Sim.ok w (Zq _)
  |_=>exact bad _
 |tup us=>
  obtain⟨ds,rfl,r1⟩:=rx.tup';cases y with
  |tup ws=>
   obtain⟨es,rfl,r2⟩:=ry.tup';cases op with
   |add=>
    show Sim n0 S (RlV X n0) (if ds.length+es.length<=lim then .ok (.tup<|ds++es) S else .no) (if us.length+ws.length<=lim then .ok (.tup<|us++ws) s else .no)
    rw[r1.length,r2.length];exact Sim.guard λ_=>Sim.ok w (ZU<|r1.append r2)
   |_=>exact bad _
  |int j=>
   cases ry.int';cases op with
   |mul=>
    show Sim n0 S (RlV X n0) (if 0<=j/\j<1000/\ds.length<=1000 then .ok (.tup (ar j.toNat ds).flatten) S else .no) (if 0<=j/\j<1000/\us.length<=1000 then .ok (.tup (ar j.toNat us).flatten) s else .no)
    rw[r1.length];exact Sim.guard λ_=>Sim.ok w (ZU<|r1.rep _)
   |_=>exact bad _
  |_=>exact bad _
 |lst us=>
  obtain⟨n,ds,rfl,hs,_,r1⟩:=rx.lst';cases y with
  |lst ws=>
   obtain⟨m,es,rfl,hs2,_,r2⟩:=ry.lst';cases op with
   |add=>
    show Sim n0 S (RlV X n0) (match Zm S n,Zm S m with
     |some a,aa b=>if a.length+b.length<=lim then .ok (.loc S.length) (S++[.lst<|a++b])else .no
     |_,_=>.no) (if us.length+ws.length<=lim then .ok (.lst<|us++ws) s else .no)
    rw[ZM hs,ZM hs2];show Sim n0 S (RlV X n0) (if ds.length+es.length<=lim then .ok (.loc S.length) (S++[.lst<|ds++es])else .no) _
    rw[r1.length,r2.length];exact Sim.guard λ_=>Sim.new xo w (r1.append r2)
   |_=>exact bad _
  |int j=>
   cases ry.int';cases op with
   |mul=>
    show Sim n0 S (RlV X n0) (match Zm S n with
     |some a=>if 0<=j/\j<1000/\a.length<=1000 then .ok (.loc S.length) (S++[.lst (ar j.toNat a).flatten])else .no
     |none=>.no) (if 0<=j/\j<1000/\us.length<=1000 then .ok (.lst (ar j.toNat us).flatten) s else .no)
    rw[ZM hs];show Sim n0 S (RlV X n0) (if 0<=j/\j<1000/\ds.length<=1000 then .ok (.loc S.length) (S++[.lst (ar j.toNat ds).flatten])else .no) _
    rw[r1.length];exact Sim.guard λ_=>Sim.new xo w (r1.rep _)
   |_=>exact bad _
  |_=>exact bad _
 |_=>exact bad _
def Zcm(xo:Xok X n0 S)(w:Dw n0 S s)(rx:Rep S X n0 x a)(ry:Rep S X n0 y b):Sim n0 S (RlV X n0) (Jh op a b S) (uZ op x y s):=by
 cases x with
 |int i=>cases y with
  |int j=>
   have h:=vT (op:=op) xo w rx ry;cases rx.int';cases ry.int';exact h
  |_=>exact aA
 |_=>exact aA
def Zcw(h:int2 x y=aa z):x=.int z.1/\y=.int z.2:=by
 cases x with
 |int a=>cases y with|int b=>cases h;exact⟨rfl,rfl⟩|_=>cases h
 |_=>cases h
def JU(w:Dw n0 S s)(rx:Rep S X n0 x a)(ry:Rep S X n0 y b):Sim n0 S (RlV X n0) (YZ op a b S) (po (WZ op x y) s):=by
 have inn:∀z,XF x y=aa z->VH S a b=.ok z S:=by
  intro z h;cases y with
  |tup ys=>
   obtain⟨ds,rfl,rs⟩:=ry.tup';show ob (inL S a ds) S=_;rw[xy rx rs h];rfl
  |lst ys=>
   obtain⟨n,ds,rfl,hs,_,rs⟩:=ry.lst';show Zbv S a S[n]?=_;rw[hs];show ob (inL S a ds) S=_;rw[xy rx rs h];rfl
  |dct o=>
   cases o with
   |none=>cases h
   |some ks=>
    obtain⟨n,o,rfl,hs,_,e⟩:=ry.dct';cases x with
    |tup k=>
     obtain⟨ds,rfl,rs⟩:=rx.tup';have h:(intsV k).map (λk=>ks.contains k)=aa z:=h
     cases q:intsV k with
     |none=>rw[q]at h;cases h
     |some is=>
      rw[q]at h;cases h;cases o with
      |fz l=>
       cases e;show Zbv S _ S[n]?=_;rw[hs];show(ob (YD ds) S).bind _=_;rw[(XH rs q).2];rfl
      |dt _=>cases e
      |dk _=>cases e
      |lst _=>cases e
      |scr _=>cases e
    |_=>cases h
  |_=>cases h
 have isv:∀z,isV x y=aa z->YZ .is a b S=.ok (.bl z) S:=by
  intro z h;cases y with
  |non=>
   cases ry.non';cases h;cases x with|non=>cases rx.non';rfl|bl _=>cases rx.bl';rfl|int _=>cases rx.int';rfl|str _=>cases rx.str';rfl|tup _=>obtain⟨_,rfl,_⟩:=rx.tup';rfl|lst _=>obtain⟨_,_,rfl,_⟩:=rx.lst';rfl|drw=>cases rx.drw';rfl|dct _=>obtain⟨_,_,rfl,_⟩:=rx.dct';rfl
  |bl j=>cases x with
   |bl i=>
    cases rx.bl';cases ry.bl';cases h;rfl
   |_=>cases h
  |_=>cases h
 refine Sim.po λv hv=>?_
 have num:∀(g:Int->Int->Bool),(∀i j,YZ op (.int i) (.int j) S=.ok (.bl<|g i j) S)->(int2 x y).map (λz=>V.bl<|g z.1 z.2)=aa v->Sim n0 S (RlV X n0) (YZ op a b S) (.ok v s):=λg hg hv=>by
  cases q:int2 x y with
  |none=>rw[q]at hv;cases hv
  |some z=>
   rw[q]at hv;cases hv;obtain⟨rfl,rfl⟩:=Zcw q;cases rx.int';cases ry.int';rw[hg];exact Sim.ok w<|ZC _
 cases op with
 |eq=>
  have hv:(eqV Zo x y).map V.bl=aa v:=hv;cases q:eqV Zo x y with
  |none=>rw[q]at hv;cases hv
  |some z=>
   rw[q]at hv;cases hv;show Sim n0 S (RlV X n0) ((ob (eqD S Zo a b) S).bind _) _;rw[U2 _ _ _ _ _ _ rx ry q];exact Sim.ok w (ZC z)
 |ne=>
  have hv:(eqV Zo x y).map (λb=>V.bl !b)=aa v:=hv
  cases q:eqV Zo x y with
  |none=>rw[q]at hv;cases hv
  |some z=>
   rw[q]at hv;cases hv;show Sim n0 S (RlV X n0) ((ob (eqD S Zo a b) S).bind _) _;rw[U2 _ _ _ _ _ _ rx ry q];exact Sim.ok w (ZC _)
 |lt=>exact num (λi j=>ae<|i<j) (λ_ _=>rfl) hv
 |le=>exact num (λi j=>ae<|i<=j) (λ_ _=>rfl) hv
 |ge=>exact num (λi j=>ae<|j<=i) (λ_ _=>rfl) hv
 |is=>
  have hv:(isV x y).map V.bl=aa v:=hv;cases q:isV x y with|none=>rw[q]at hv;cases hv|some z=>rw[q]at hv;cases hv;rw[isv z q];exact Sim.ok w (ZC _)
 |inn=>
  have hv:(XF x y).map V.bl=aa v:=hv;cases q:XF x y with
  |none=>rw[q]at hv;cases hv
  |some z=>
   rw[q]at hv;cases hv;show Sim n0 S (RlV X n0) ((VH S a b).bind _) _;rw[inn z q];exact Sim.ok w (ZC _)
 |nin=>
  have hv:(XF x y).map (λb=>V.bl !b)=aa v:=hv
  cases q:XF x y with
  |none=>rw[q]at hv;cases hv
  |some z=>
   rw[q]at hv;cases hv;show Sim n0 S (RlV X n0) ((VH S a b).bind _) _;rw[inn z q];exact Sim.ok w<|ZC _
def ZdT(w:Dw n0 S s)(rx:Rep S X n0 x a)(ry:Rep S X n0 y b):Sim n0 S (RlV X n0) (wW a b S) (po (ixV x y) s):=by
 refine Sim.po λv hv=>?_
 cases x with
 |tup xs=>cases y with
  |int i=>
   obtain⟨ds,rfl,rs⟩:=rx.tup';cases ry.int';obtain⟨d,e,r⟩:=Zdw rs hv;show Sim n0 S (RlV X n0) (ob (at' ds i) S) _;rw[e];exact Sim.ok w r
  |_=>cases hv
 |lst xs=>cases y with
  |int i=>
   obtain⟨n,ds,rfl,hs,_,rs⟩:=rx.lst';cases ry.int';obtain⟨d,e,r⟩:=Zdw rs hv;show Sim n0 S (RlV X n0) (match Yd S n with
    |some xs=>ob (at' xs i) S
    |none=>.no) _
   rw[Ql hs];show Sim n0 S (RlV X n0) (ob (at' ds i) S) _;rw[e];exact Sim.ok w r
  |_=>cases hv
 |_=>cases y<;>cases hv
def Zej(xo:Xok X n0 S)(w:Dw n0 S s)(rx:Rep S X n0 x a):Sim n0 S (RlV X n0) (slice a lo hi S) (po (slV x lo hi) s):=by
 refine Sim.po λv hv=>?_
 cases x with
 |tup xs=>
  obtain⟨ds,rfl,rs⟩:=rx.tup';cases hv;exact Sim.ok w (ZU<|Xt rs)
 |lst xs=>
  obtain⟨n,ds,rfl,hs,_,rs⟩:=rx.lst';cases hv;show Sim n0 S (RlV X n0) (match Zm S n with
    |some xs=>.ok (.loc S.length) (S++[.lst<|cut xs lo hi])
    |none=>.no) _
  rw[ZM hs];exact Sim.new xo w (Xt rs)
 |_=>cases hv
def wD(lo:Int)(n:Nat):Rq S X n0 (XQ lo n) (ZO lo n):=by
 unfold XQ ZO
 induction aR n with|nil=>exact Rq.nil|cons k r ih=>exact Rq.cons (Zq _) ih
def ZbI(r:Rep S X n0 v d)(h:yx v=aa a):V3 d=aa a:=by
 unfold yx at h;split at h
 ·split at h
  ·rename_i k b hb
   subst hb;obtain⟨es,rfl,r2⟩:=r.tup';obtain⟨d1,es1,rfl,a1,t1⟩:=r2.cons';obtain⟨d2,es2,rfl,a2,t2⟩:=t1.cons';cases t2.nil';cases a2.bl';obtain⟨us,rfl,r3⟩:=a1.tup';show(if D.bl ah=.bl ah then YD us else ac)=_
   rw[T9 rfl,(XH r3 h).2]
  ·cases h
 ·cases h
theorem z6:∀{vs:List V}{ds:List D}{ks:List (List Int)},Rq S X n0 vs ds->XE vs=aa ks->Xf ds=aa ks
 |[],_,ks,r,h=>by rw[r.nil'];cases h;rfl
 |v::vs,_,ks,r,h=>by
  obtain⟨d,ds,rfl,a,t⟩:=r.cons';have h:((yx v).bind λa=>(XE vs).map (a :: ·))=aa ks:=h
  show((V3 d).bind λa=>(Xf ds).map (a :: ·))=_
  cases q1:yx v with
  |none=>rw[q1]at h;cases h
  |some b=>
   cases q2:XE vs with|none=>rw[q1,q2]at h;cases h|some c=>rw[ZbI a q1,z6 t q2,<-h,q1,q2]
def J5{X:Nat->Prop}(hx:¬X S.length)(h:Zbl o=aa ks):Rep (S++[o]) X n0 (.dct ks) (.loc S.length):=by
 exact⟨S.length,o,rfl,by rw[bj<|aB _,lV];rfl,hx,h⟩
def ZcX(xo:Xok X n0 S)(w:Dw n0 S s)(rs:Rq S X n0 xs ds):Sim n0 S (RlV X n0) (Y9 f ds S) (po (US f xs) s):=by
 refine Sim.po λv hv=>?_
 have one:∀{x:V}{ds:List D},Rq S X n0 [x] ds->∃d,ds=[d]/\Rep S X n0 x d:=λ{x ds} h=>by
  obtain⟨d,es,rfl,a,t⟩:=h.cons';rw[t.nil'];exact⟨d,rfl,a⟩
 have two:∀{x y:V}{ds:List D},Rq S X n0 [x,y] ds->∃d e,ds=[d,e]/\Rep S X n0 x d/\Rep S X n0 y e:=λ{x y ds} h=>by
  obtain⟨d,es,rfl,a,t⟩:=h.cons';obtain⟨e,rfl,b⟩:=one t;exact⟨d,e,rfl,a,b⟩
 rcases xs with _|⟨x,_|⟨y,_|⟨z,ws⟩⟩⟩
 ·cases hv
 ·obtain⟨d,rfl,r⟩:=one rs
  cases f with
  |len=>
   have hv:(Z9 x).map (λxs=>V.int xs.length)=aa v:=hv
   cases q:Z9 x with
   |none=>rw[q]at hv;cases hv
   |some ys=>
    rw[q]at hv;cases hv;obtain⟨es,e,r2⟩:=xE r q;show Sim n0 S (RlV X n0) ((ob (Wf S d) S).bind _) _;rw[e];show Sim n0 S (RlV X n0) (.ok (.int es.length) S) _;rw[r2.length];exact Sim.ok w (Zq _)
  |toInt=>cases x with
   |int i=>
    cases r.int';cases hv;exact Sim.ok w (Zq _)
   |bl i=>
    cases r.bl';cases hv;exact Sim.ok w (Zq _)
   |_=>cases hv
  |tuple=>
   have hv:(Z9 x).map V.tup=aa v:=hv;cases x with
   |tup ys=>
    obtain⟨es,rfl,r2⟩:=r.tup';cases hv;exact Sim.ok w (ZU r2)
   |lst ys=>
    obtain⟨n,es,rfl,hs,_,r2⟩:=r.lst';cases hv;show Sim n0 S (RlV X n0) ((ob (Zm S n) S).bind _) _;rw[ZM hs];exact Sim.ok w (ZU r2)
   |_=>cases hv
  |list=>
   have hv:(Z9 x).map V.lst=aa v:=hv;cases q:Z9 x with
   |none=>rw[q]at hv;cases hv
   |some ys=>
    rw[q]at hv;cases hv;obtain⟨es,e,r2⟩:=xE r q;show Sim n0 S (RlV X n0) ((ob (Wf S d) S).bind _) _;rw[e];exact Sim.new xo w r2
  |all=>cases x with
   |lst ys=>
    obtain⟨n,es,rfl,hs,_,r2⟩:=r.lst';have hv:(ZV ys).map (λbs=>V.bl<|bs.all id)=aa v:=hv
    cases q:ZV ys with
    |none=>rw[q]at hv;cases hv
    |some bs=>
     rw[q]at hv;cases hv;show Sim n0 S (RlV X n0) ((ob (Zm S n) S).bind _) _;rw[ZM hs];show Sim n0 S (RlV X n0) ((ob (YI es) S).bind _) _;rw[V4 r2 q];exact Sim.ok w (ZC _)
   |_=>cases hv
  |any=>
   have hv:(Z9 x).bind (λxs=>(ZV xs).map λbs=>V.bl<|bs.any id)=aa v:=hv
   cases q:Z9 x with
   |none=>rw[q]at hv;cases hv
   |some ys=>
    rw[q]at hv;have hv:(ZV ys).map (λbs=>V.bl<|bs.any id)=aa v:=hv
    obtain⟨es,e,r2⟩:=xE r q;cases q2:ZV ys with
    |none=>rw[q2]at hv;cases hv
    |some bs=>
     rw[q2]at hv;cases hv;show Sim n0 S (RlV X n0) ((ob (Wf S d) S).bind _) _;rw[e];show Sim n0 S (RlV X n0) ((ob (YI es) S).bind _) _;rw[V4 r2 q2];exact Sim.ok w (ZC _)
  |sum=>cases x with
   |lst ys=>
    obtain⟨n,es,rfl,hs,_,r2⟩:=r.lst';have hv:(intsV ys).bind (λis=>if Ui is=ah then aa (V.int is.sum)else ac)=aa v:=hv
    cases q:intsV ys with
    |none=>rw[q]at hv;cases hv
    |some is=>
     rw[q]at hv;have hv:(if Ui is=ah then aa (V.int is.sum)else ac)=aa v:=hv
     show Sim n0 S (RlV X n0) ((ob (Zm S n) S).bind _) _;rw[ZM hs];show Sim n0 S (RlV X n0) ((ob (Y1 es) S).bind _) _;rw[(XH r2 q).1];show Sim n0 S (RlV X n0) (if Ui is=ah then .ok (.int is.sum) S else .no) _
     by_cases c:Ui is=ah
     ·rw[T9 c]at hv ⊢;cases hv;exact Sim.ok w<|Zq _
     ·rw[T8 c]at hv;cases hv
   |_=>cases hv
  |sortedR=>cases x with
   |lst ys=>
    obtain⟨n,es,rfl,hs,_,r2⟩:=r.lst';have hv:(Y8 ys).bind (λrs=>if Y7 rs=ah then aa (V.lst<|(Z5 rs).reverse.map Zd)else ac)=aa v:=hv
    cases q:Y8 ys with
    |none=>rw[q]at hv;cases hv
    |some ws=>
     rw[q]at hv;have hv:(if Y7 ws=ah then aa (V.lst<|(Z5 ws).reverse.map Zd)else ac)=aa v:=hv
     show Sim n0 S (RlV X n0) ((ob (Zm S n) S).bind _) _;rw[ZM hs];show Sim n0 S (RlV X n0) ((ob (YH es) S).bind _) _;rw[JF r2 q];show Sim n0 S (RlV X n0) (if Y7 ws=ah then .ok (.loc S.length) (S++[.lst<|(Z5 ws).reverse.map Wl])else .no) _
     by_cases c:Y7 ws=ah
     ·rw[T9 c]at hv ⊢;cases hv;exact Sim.new xo w<|Qy _
     ·rw[T8 c]at hv;cases hv
   |_=>cases hv
  |dictP=>cases x with
   |lst ys=>
    obtain⟨n,es,rfl,hs,_,r2⟩:=r.lst';have hv:(XE ys).bind (λks=>if We ks=ah then aa (V.dct<|aa ks)else ac)=aa v:=hv
    cases q:XE ys with
    |none=>rw[q]at hv;cases hv
    |some ks=>
     rw[q]at hv;have hv:(if We ks=ah then aa (V.dct<|aa ks)else ac)=aa v:=hv
     show Sim n0 S (RlV X n0) ((ob (Zm S n) S).bind _) _;rw[ZM hs];show Sim n0 S (RlV X n0) ((ob (Xf es) S).bind _) _;rw[z6 r2 q];show Sim n0 S (RlV X n0) (if We ks=ah then _ else _) _
     by_cases c:We ks=ah
     ·rw[T9 c]at hv ⊢;cases hv;exact⟨_,_,rfl,Ext.app,w.app,J5 (λz=>T7 (xo.lt _ z)<|by omega) rfl⟩
     ·rw[T8 c]at hv;cases hv
   |_=>cases hv
  |_=>cases hv
 ·obtain⟨d,e,rfl,r1,r2⟩:=two rs
  cases x with
  |int i=>cases y with
   |int j=>
    cases r1.int';cases r2.int';cases f with|max2=>cases hv;exact Sim.ok w<|Zq _|min2=>cases hv;exact Sim.ok w<|Zq _|_=>cases hv
   |_=>cases hv
  |_=>cases hv
 ·cases hv
end
structure Ew(S:Zc)(X:Nat->Prop)(n0:Nat)(ρ:Env)(σ:Lc):Prop where
 len:ρ.length=σ.length
 val:∀(i:Nat)(v:V),ρ[i]?=aa (aa v)->∃d,σ[i]?=aa (aa d)/\Rep S X n0 v d
section
variable{S S':Zc}{X X':Nat->Prop}{n0:Nat}{ρ ρ':Env}{σ σ':Lc}
theorem Ew.mono(k:∀n o,¬X n->S[n]?=aa o->S'[n]?=aa o)(x:∀n,n<S.length->X' n->X n)(h:Ew S X n0 ρ σ):Ew S' X' n0 ρ σ:=
 ⟨h.len,λi v e=>let ⟨d,a,b⟩:=h.val i v e;⟨d,a,b.mono k x⟩⟩
theorem Ew.ext(x:Xok X n0 S)(e:Ext n0 S S')(h:Ew S X n0 ρ σ):Ew S' X n0 ρ σ:=
 ⟨h.len,λi v q=>let ⟨d,a,b⟩:=h.val i v q;⟨d,a,b.ext x e⟩⟩
def Ew.weak(h:Ew S X n0 ρ σ)(hl:ρ'.length=ρ.length)(w:∀(i:Nat)(v:V),ρ'[i]?=aa (aa v)->ρ[i]?=aa (aa v)):Ew S X n0 ρ' σ:=⟨by rw[hl];exact h.len,λi v e=>h.val i v<|w i v e⟩
theorem Ew.set(h:Ew S X n0 ρ σ)(i:Nat)(r:Rep S X n0 v d):Ew S X n0 (ρ.set i<|aa v) (σ.set i<|aa d):=by
 refine⟨by rw[aT,aT];exact h.len,λj w e=>?_⟩
 rw[cE]at e ⊢;by_cases c:i=j
 ·rw[T9 c]at e ⊢
  by_cases l:i<ρ.length
  ·rw[T9 l]at e
   rw[T9<|by rw[<-h.len];exact l]
   cases e;exact⟨d,rfl,r⟩
  ·rw[T8 l]at e;cases e
 ·rw[T8 c]at e ⊢
  exact h.val j w e
theorem G6:∀{t:List Nat}{vs:List V}{ds:List D}{ρ ρ':Env}{σ:Lc},Ew S X n0 ρ σ->Rq S X n0 vs ds->YL t vs ρ=aa ρ'->∃σ',fill t ds σ=aa σ'/\Ew S X n0 ρ' σ'
 |[],[],_,ρ,ρ',σ,h,r,e=>by rw[r.nil'];cases e;exact⟨σ,rfl,h⟩
 |[],_::_,_,_,_,_,_,_,e=>by cases e
 |_::_,[],_,_,_,_,_,_,e=>by cases e
 |i::t,v::vs,_,ρ,ρ',σ,h,r,e=>by
  obtain⟨d,ds,rfl,a,b⟩:=r.cons';exact G6 (t:=t) (h.set i a) b e
def uI(h:Ew S X n0 ρ σ)(r:Rep S X n0 v d)(e:ZA t v ρ=aa ρ'):∃σ',assign t d S σ=aa σ'/\Ew S X n0 ρ' σ':=by
 have gen:∀t:List Nat,(∀i,t≠[i])->(match Z9 v with
   |some xs=>YL t xs ρ
   |none=>ac)=aa ρ'->∃σ',(match d with
   |.tup xs=>fill t xs σ
   |.loc n=>match Zm S n with
    |some xs=>fill t xs σ
    |none=>ac
   |_=>ac)=aa σ'/\Ew S X n0 ρ' σ':=by
  intro t _ e;cases v with
  |tup vs=>obtain⟨ds,rfl,rs⟩:=r.tup';exact G6 h rs e
  |lst vs=>
   obtain⟨n,ds,rfl,hs,_,rs⟩:=r.lst';obtain⟨σ',a,b⟩:=G6 h rs e;refine⟨σ',?_,b⟩;show(match Zm S n with
    |some xs=>fill t xs σ
    |none=>ac)=aa σ'
   rw[ZM hs];exact a
  |_=>cases e
 match t,e with
 |[i],e=>cases e;exact⟨_,rfl,h.set i r⟩
 |[],e=>exact gen [] (by simp) e
 |i::j::t,e=>exact gen (i::j::t) (by simp) e
theorem Yn:∀{t:List Nat}{vs:List V}{ρ ρ':Env},YL t vs ρ=aa ρ'->ρ'.length=ρ.length/\∀j,j∉t->ρ'[j]?=ρ[j]?
 |[],[],ρ,ρ',e=>by cases e;exact⟨rfl,λ_ _=>rfl⟩
 |[],_::_,_,_,e=>by cases e
 |_::_,[],_,_,e=>by cases e
 |i::t,v::vs,ρ,ρ',e=>by
  obtain⟨a,b⟩:=Yn (t:=t) e;refine⟨by rw[a,aT],λj hj=>?_⟩
  have hij:i≠j:=λz=>hj (by rw[z];exact am ..)
  rw[b j λz=>hj<|al _ z,aH hij]
def Xk(e:ZA t v ρ=aa ρ'):ρ'.length=ρ.length/\∀j,j∉t->ρ'[j]?=ρ[j]?:=by
 match t,e with
 |[i],e=>cases e;exact⟨by simp,λj hj=>aH λz:i=j=>hj<|by rw[z];exact am ..⟩
 |[],e=>
  have e:(match Z9 v with|some xs=>YL [] xs ρ|none=>ac)=aa ρ':=e
  cases q:Z9 v with|none=>rw[q]at e;cases e|some xs=>rw[q]at e;exact Yn e
 |i::j::t,e=>
  have e:(match Z9 v with|some xs=>YL (i::j::t) xs ρ|none=>ac)=aa ρ':=e
  cases q:Z9 v with|none=>rw[q]at e;cases e|some xs=>rw[q]at e;exact Yn e
def WkR(X:Nat->Prop)(n0:Nat):Zc->List V->Walk->Prop:=λS vs w=>Rq S X n0 vs w.items/\∀p∈w.kept,S[p.1]?=aa (.lst p.2)/\¬X p.1
def Vt{w:Walk}(h:∀p∈w.kept,S[p.1]?=aa (.lst p.2)):w.still S=ah:=by
 unfold Walk.still;rw[aV];intro p hp;exact T5<|h p hp
def WB(r:Rep S X n0 v d)(h:Z9 v=aa vs):∃w,Yi S d=aa w/\WkR X n0 S vs w:=by
 cases v with
 |tup xs=>obtain⟨ds,rfl,rs⟩:=r.tup';cases h;exact⟨⟨ds,[]⟩,rfl,rs,λp hp=>by cases hp⟩
 |lst xs=>
  obtain⟨n,ds,rfl,hs,hx,rs⟩:=r.lst';cases h;refine⟨⟨ds,[(n,ds)]⟩,?_,rs,λp hp=>?_⟩
  ·unfold Yi;simp only[hs]
  ·rcases bt.mp hp with rfl
   exact⟨hs,hx⟩
 |_=>cases h
theorem JY:∀{vs ws:List V}{ds es:List D},Rq S X n0 vs ds->Rq S X n0 ws es->Rq S X n0 ((vs.zip ws).map λp=>V.tup [p.1,p.2]) ((ds.zip es).map λp=>D.tup [p.1,p.2])
 |[],_,_,_,a,_=>by rw[a.nil'];simp only[lS,fH];exact Rq.nil
 |_::_,[],_,_,a,b=>by rw[b.nil'];simp only[ls,fH];exact Rq.nil
 |v::vs,w::ws,_,_,a,b=>by
  obtain⟨d,ds,rfl,a1,a2⟩:=a.cons';obtain⟨e,es,rfl,b1,b2⟩:=b.cons';exact Rq.cons (ZU<|Rq.cons a1<|Rq.cons b1 Rq.nil)<|JY a2 b2
end
structure Ext2(n0 m:Nat)(S S':Zc):Prop where
 len:S.length<=S'.length
 keep:∀n o,n≠n0->n≠m->S[n]?=aa o->S'[n]?=aa o
def Ext2.trans{n0 m:Nat}{S S1 S2:Zc}(a:Ext2 n0 m S S1)(b:Ext2 n0 m S1 S2):Ext2 n0 m S S2:=⟨bh a.len b.len,λn o h z e=>b.keep n o h z<|a.keep n o h z e⟩
def Ext2.refl :Ext2 n0 m S S:=⟨aB _,λ_ _ _ _ h=>h⟩
def Ext.two(h:Ext n0 S S'):Ext2 n0 m S S':=⟨h.len,λn o a _ e=>h.keep n o a e⟩
section
variable{n0 m:Nat}{X:Nat->Prop}
def Rq.ext2(z:X n0)(zm:X m)(e:Ext2 n0 m S S')(h:Rq S X n0 v d):Rq S' X n0 v d:=
 h.mono (λn o nx hs=>e.keep n o (λq=>nx<|q▸z) (λq=>nx<|q▸zm) hs) λ_ _ h=>h
def Ew.ext2(z:X n0)(zm:X m)(e:Ext2 n0 m S S')(h:Ew S X n0 ρ σ):Ew S' X n0 ρ σ:=
 h.mono (λn o nx hs=>e.keep n o (λq=>nx<|q▸z) (λq=>nx<|q▸zm) hs) λ_ _ h=>h
def Xok.ext2(h:Xok X n0 S)(e:Ext2 n0 m S S'):Xok X n0 S':=⟨h.z,λn x=>aQ (h.lt n x) e.len⟩
def Turn(n0 m:Nat)(X:Nat->Prop)(ρ:Env)(S:Zc)(ds:List D)(q:PR (List V))(r:R Lc):Prop:=∀ys s',q=.ok ys s'->ds.length+ys.length<=lim->
 ∃σ' S' es,r=.ok σ' S'/\Ext2 n0 m S S'/\Ew S' X n0 ρ σ'/\Dw n0 S' s'/\S'[m]?=aa (.lst<|ds++es)/\Rq S' X n0 ys es
theorem yv{ρ:Env}{wk:Walk}{f:V->DS->PR (List V)}{turn:D->Lc->Zc->R Lc}(zm:X m)(hk:∀p∈wk.kept,¬X p.1)
  (ht:∀x d S s σ ds,Xok X n0 S->Rep S X n0 x d->Ew S X n0 ρ σ->Dw n0 S s->S[m]?=aa (.lst ds)->Turn n0 m X ρ S ds (f x s) (turn d σ S)) :
  ∀(vs:List V)(es:List D)(S:Zc)(s:DS)(σ:Lc)(ds:List D),Xok X n0 S->Rq S X n0 vs es->Ew S X n0 ρ σ->Dw n0 S s->S[m]?=aa (.lst ds)->(∀p∈wk.kept,S[p.1]?=aa (.lst p.2))->Turn n0 m X ρ S ds (mapP f vs s) (Xm wk turn es σ S)
 |[],es,S,s,σ,ds,xo,rs,he,w,hm,hs=>by
  intro ys s' q _;cases q;rw[rs.nil'];exact⟨σ,S,[],by rw[Xm,T9<|Vt hs],Ext2.refl,he,w,by rw[ee];exact hm,Rq.nil⟩
 |v::vs,es,S,s,σ,ds,xo,rs,he,w,hm,hs=>by
  intro ys s' q hl;obtain⟨d,es,rfl,r1,r2⟩:=rs.cons';unfold mapP at q;cases q1:f v s with
  |no=>rw[q1]at q;cases q
  |ex _ _=>rw[q1]at q;cases q
  |ok y1 s1=>
   rw[q1]at q;cases q2:mapP f vs s1 with
   |no=>simp only[q2]at q;cases q
   |ex _ _=>simp only[q2]at q;cases q
   |ok y2 s2=>
    simp only[q2]at q;cases q;rw[bn]at hl;obtain⟨σ1,S1,e1,a1,a2,a3,a4,a5,a6⟩:=ht v d S s σ ds xo r1 he w hm y1 s1 q1 (by omega)
    have xo1:=xo.ext2 a2;have hs1:∀p∈wk.kept,S1[p.1]?=aa (.lst p.2):=λp hp=>a2.keep _ _ (λz=>hk p hp<|z▸xo.z) (λz=>hk p hp<|z▸zm)<|hs p hp
    obtain⟨σ2,S2,e2,b1,b2,b3,b4,b5,b6⟩:=yv zm hk ht vs es S1 s1 σ1 (ds++e1) xo1 (r2.ext2 xo.z zm a2) a3 a4 a5 hs1 y2 _ q2 (by rw[bn,a6.length];omega)
    refine⟨σ2,S2,e1++e2,?_,a2.trans b2,b3,b4,by rw[<-eE];exact b5,(a6.ext2 xo.z zm b2).append b6⟩
    rw[Xm,T9<|Vt hs,a1];exact b1
def ZcC(hm:S[m]?=aa (.lst ds))(hl:ds.length<lim):push m y S=.ok () (S.set m<|.lst<|ds++[y]):=by
 unfold push;rw[ZM hm];show(if ds.length<lim then _ else _)=_
 rw[T9 hl]
end
def ZcB :∀{vs:List V}{s s':DS}{c:Nat},mapP f vs s≠.ex c s'
 |[],_,_,_,h=>by cases h
 |v::vs,s,s',c,h=>by
  unfold mapP at h;cases q1:f v s with
  |no=>rw[q1]at h;cases h
  |ex _ _=>rw[q1]at h;cases h
  |ok y s1=>
   rw[q1]at h;cases q2:mapP f vs s1 with|no=>simp only[q2]at h;cases h|ex _ _=>simp only[q2]at h;cases h|ok z s2=>simp only[q2]at h;cases h
section
variable{n0 m:Nat}{X:Nat->Prop}{C:Calls}{CV:Zy}
def jg{S:Zc}{o:Ob}:Ext2 n0 m S (S.set m o):=⟨by simp,λn o' _ z e=>by rw[aH<|Ne.symm z];exact e⟩
def ZfW{α:Type}{o:Option α}{s s':DS}{a:α}(h:po o s=.ok a s'):o=aa a/\s'=s:=by
 cases o with|none=>cases h|some b=>cases h;exact⟨rfl,rfl⟩
def YU{α β:Type}{r:PR α}{f:α->DS->PR β}{b:β}{s':DS}(h:r.bind f=.ok b s'):∃a s1,r=.ok a s1/\f a s1=.ok b s':=by
 cases r with|no=>cases h|ex _ _=>cases h|ok a s1=>exact⟨a,s1,rfl,h⟩
def Sim.out{α β:Type}{S:Zc}{Rl:Zc->β->α->Prop}{r:R α}{q:PR β}{b:β}{s':DS}(h:Sim n0 S Rl r q)(e:q=.ok b s'):∃a S',r=.ok a S'/\Ext n0 S S'/\Dw n0 S' s'/\Rl S' b a:=by
 rw[e]at h;exact h
def j6{ρ ρ1:Env}{t:List Nat}{x:V}(e:ZA t x ρ=aa ρ1)(hno:∀i∈t,∀v,ρ[i]?≠aa (aa v)):ρ.length=ρ1.length/\∀(i:Nat)(v:V),ρ[i]?=aa (aa v)->ρ1[i]?=aa (aa v):=by
 obtain⟨a,b⟩:=Xk e;refine⟨a.symm,λi v h=>?_⟩
 rw[b i λz=>hno i z v h];exact h
def ZfD{ρ:Env}{t:List Nat}{ifs:List E}{elt:E}{x:V}{d:D}{S:Zc}{s:DS}{σ:Lc}{ds:List D}(hmn:m≠n0)(zm:X m)
  (hT:∀{ρ:Env}{σ:Lc}{S:Zc}{s:DS},Xok X n0 S->Ew S X n0 ρ σ->Dw n0 S s->Sim n0 S RlE (evt C ifs σ S) (pvt CV ifs ρ s))(hE:∀{ρ:Env}{σ:Lc}{S:Zc}{s:DS},Xok X n0 S->Ew S X n0 ρ σ->Dw n0 S s->Sim n0 S (RlV X n0) (ev C elt σ S) (pv CV elt ρ s))
  (hno:∀i∈t,∀v,ρ[i]?≠aa (aa v))(xo:Xok X n0 S)(rx:Rep S X n0 x d)(he:Ew S X n0 ρ σ)(w:Dw n0 S s)(hm:S[m]?=aa (.lst ds)) :
  Turn n0 m X ρ S ds ((po (ZA t x ρ) s).bind λσ s=>(pvt CV ifs σ s).bind λb s=>if b then(pv CV elt σ s).bind λy s=>.ok [y] s else .ok [] s)
   ((ob (assign t d S σ) S).bind λσ S1=>(evt C ifs σ S1).bind λb S1=>if b then(ev C elt σ S1).bind λy S1=>(push m y S1).bind λ_ S1=>.ok σ S1 else .ok σ S1):=by
 intro ys s' q hl;obtain⟨ρ1,s1,qa,qb⟩:=YU q;clear q;obtain⟨q1,es1⟩:=ZfW qa;subst es1;obtain⟨σ1,e1,he1⟩:=uI he rx q1;obtain⟨b,s2,q2,q⟩:=YU qb;clear qb;obtain⟨b',S2,e2,x2,w2,rfl⟩:=(hT xo he1 w).out q2;obtain⟨kl,kv⟩:=j6 q1 hno;have xo2:=xo.ext x2;have he2:=he1.ext xo x2;have hm2:=x2.keep m _ hmn hm;cases b' with
 |false=>
  cases q;refine⟨σ1,S2,[],?_,x2.two,he2.weak kl kv,w2,by rw[ee];exact hm2,Rq.nil⟩
  rw[e1];show((evt C ifs σ1 S).bind _)=_;rw[e2];rfl
 |true=>
  obtain⟨y,s3,q3,qe⟩:=YU q;cases qe;obtain⟨dy,S3,e3,x3,w3,r3⟩:=(hE xo2 he2 w2).out q3;have hm3:=x3.keep m _ hmn hm2;have xo3:=xo2.ext x3;have hs:Ext2 n0 m S3 (S3.set m<|.lst<|ds++[dy]):=jg;refine⟨σ1,S3.set m<|.lst<|ds++[dy],[dy],?_,(x2.two.trans x3.two).trans hs,((he2.ext xo2 x3).ext2 xo.z zm hs).weak kl kv,⟨by rw[aH hmn];exact w3.1,w3.2⟩,aS<|YJ hm3,Rq.ext2 xo.z zm hs<|Rq.cons r3 Rq.nil⟩
  rw[e1];show((evt C ifs σ1 S).bind _)=_;rw[e2];show((ev C elt σ1 S2).bind _)=_;rw[e3];show((push m dy S3).bind _)=_;rw[ZcC hm3<|by simp at hl;omega];rfl
def qi(he:Ew S X n0 ρ σ):Ew S X n0 (Yr cap nl ρ) (caught cap nl σ):=by
 refine⟨by simp[Yr,caught],λi v h=>?_⟩
 unfold Yr at h;unfold caught;by_cases c:i<nl
 ·rw[aO<|by simpa using c]at h
  simp[c]at h
 ·rw[bj<|by simp;omega]at h ⊢
  rw[b9]at h ⊢;rw[aX]at h ⊢;cases q:cap[i-nl]? with
  |none=>rw[q]at h;cases h
  |some j=>
   rw[q]at h;have h':(ρ[j]?).join=aa v:=ak h;cases q2:ρ[j]? with
   |none=>rw[q2]at h';cases h'
   |some o=>
    rw[q2]at h';have h'':=h';subst h'';obtain⟨d,e,r⟩:=he.val j v q2;exact⟨d,by show aa ((σ[j]?).join)=_;rw[e];rfl,r⟩
def ue(h:i<nl)(v:V):(Yr cap nl ρ)[i]?≠aa (aa v):=by
 unfold Yr;rw[aO<|by simpa using h]
 simp[h]
def jB(xo:Xok X n0 S)(w:Dw n0 S s)(rw':WkR X n0 S vs wk)(he:Ew S X n0 ρ0 σ0)
  (ht:∀x d S1 s σ ds,Xok (λn=>X n\/n=S.length) n0 S1->Rep S1 (λn=>X n\/n=S.length) n0 x d->Ew S1 (λn=>X n\/n=S.length) n0 ρ0 σ->Dw n0 S1 s->S1[S.length]?=aa (.lst ds)->Turn n0 S.length (λn=>X n\/n=S.length) ρ0 S1 ds (f x s) (turn d σ S1)) :
  Sim n0 S (RlV X n0) ((Xm wk turn wk.items σ0<|S++[.lst []]).bind λ_ S1=>.ok (.loc S.length) S1) ((mapP f vs s).bind λys s=>if ys.length<=lim then .ok (.lst ys) s else .no):=by
 cases q:mapP f vs s with
 |no=>exact aA
 |ex c s'=>exact T7 q ZcB
 |ok ys s'=>
  show Sim n0 S _ _ (if ys.length<=lim then PR.ok (V.lst ys) s' else .no)
  by_cases c:ys.length<=lim
  ·rw[T9 c]
   have hX:∀n,n<S.length->(X n\/n=S.length)->X n:=λn h z=>z.elim id λe=>T7 (e▸h)<|bB _
   have hk:∀n o,¬X n->S[n]?=aa o->(S++[Ob.lst []])[n]?=aa o:=λn o _ e=>by rw[aO<|YJ e];exact e
   have xo1:Xok (λn=>X n\/n=S.length) n0 (S++[.lst []]):=⟨.inl xo.z,λn h=>by
    rw[bn,cK];rcases h with h|h
    ·have:=xo.lt n h;omega
    ·omega⟩
   obtain⟨σ',S',es,a1,a2,a3,a4,a5,a6⟩:=yv (.inr rfl) (λp hp z=>(rw'.2 p hp).2<|hX _ (YJ (rw'.2 p hp).1) z) ht vs wk.items (S++[.lst []]) s σ0 [] xo1 (rw'.1.mono hk hX) (he.mono hk hX) w.app (by simp) (λp hp=>hk _ _ (rw'.2 p hp).2 (rw'.2 p hp).1) ys s' q (by simpa using c)
   refine⟨.loc S.length,S',by rw[a1];rfl,⟨bh (by simp) a2.len,λn o hn e=>a2.keep n o hn (λz=>T7 (YJ e)<|by omega)<|by rw[aO<|YJ e];exact e⟩,a4,?_⟩
   exact JT a5 (λz=>bB _<|xo.lt _ z)<|a6.mono (λn o nx e=>e) λn _ h=>.inl h
  ·rw[T8 c];exact aA
end
def Z3(n0:Nat)(C:Calls)(CV:Zy):Prop:=∀(f:Nat)(vs:List V)(ds:List D)(S:Zc)(s:DS)(X:Nat->Prop),Xok X n0 S->Dw n0 S s->Rq S X n0 vs ds->Sim n0 S (RlV X n0) (C f ds S) (CV f vs s)
section
variable{n0:Nat}{C:Calls}{CV:Zy}
mutual
theorem Z0(H:Z3 n0 C CV):∀(e:E){X:Nat->Prop}{ρ:Env}{σ:Lc}{S:Zc}{s:DS},Xok X n0 S->Ew S X n0 ρ σ->Dw n0 S s->Sim n0 S (RlV X n0) (ev C e σ S) (pv CV e ρ s)
 |.c d,X,ρ,σ,S,s,xo,he,w=>by
  rw[ev,pv];exact Sim.po λv hv=>Sim.ok w (v4 hv)
 |.v i,X,ρ,σ,S,s,xo,he,w=>by
  rw[ev,pv];refine Sim.obp w λv hv=>?_
  cases q:ρ[i]? with
  |none=>rw[q]at hv;cases hv
  |some o=>
   rw[q]at hv;have hv:=hv;subst hv;obtain⟨d,e,r⟩:=he.val i v q;exact⟨d,by rw[e];rfl,r⟩
 |.tup es,X,ρ,σ,S,s,xo,he,w=>by
  rw[ev,pv];refine(WR H es xo he w).bind λds vs S1 s1 x1 w1 r1=>?_
  rw[Rq.length r1];exact Sim.guard λ_=>Sim.ok w1 (ZU r1)
 |.lst es,X,ρ,σ,S,s,xo,he,w=>by
  rw[ev,pv];refine(WR H es xo he w).bind λds vs S1 s1 x1 w1 r1=>?_
  rw[Rq.length r1];exact Sim.guard λ_=>Sim.new (xo.ext x1) w1 r1
 |.dnew,X,ρ,σ,S,s,xo,he,w=>by
  rw[ev,pv];exact⟨_,_,rfl,Ext.app,w.app,J5 (λz=>T7 (xo.lt _ z)<|by omega) rfl⟩
 |.dput1 k v,X,ρ,σ,S,s,xo,he,w=>by
  rw[ev,pv];refine(Z0 H k xo he w).bind λd x S1 s1 x1 w1 r1=>?_
  have xo1:=xo.ext x1;refine(Z0 H v xo1 (he.ext xo x1) w1).bind λd2 y S2 s2 x2 w2 r2=>?_
  have xo2:=xo1.ext x2;cases x with
  |int i=>
   cases y with
   |int j=>
    cases r1.int';cases r2.int';exact⟨_,_,rfl,Ext.app,w2.app,J5 (λz=>T7 (xo2.lt _ z)<|by omega) rfl⟩
   |_=>exact aA
  |_=>cases y<;>exact aA
 |.mt _ _ _,X,ρ,σ,S,s,xo,he,w=>by rw[pv];exact aA
 |.bin op a b,X,ρ,σ,S,s,xo,he,w=>by
  rw[ev,pv];exact(Z0 H a xo he w).bind λd v S1 s1 x1 w1 r1=>(Z0 H b (xo.ext x1) (he.ext xo x1) w1).bind λe u S2 s2 x2 w2 r2=>vT ((xo.ext x1).ext x2) w2 (Rep.ext (xo.ext x1) x2 r1) r2
 |.neg a,X,ρ,σ,S,s,xo,he,w=>by
  rw[ev,pv];refine(Z0 H a xo he w).bind λd v S1 s1 x1 w1 r1=>?_
  cases v with|int i=>cases Rep.int' r1;exact Sim.ok w1<|Zq _|_=>exact aA
 |.not a,X,ρ,σ,S,s,xo,he,w=>by
  rw[ev,pv];refine(Z0 H a xo he w).bind λd v S1 s1 x1 w1 r1=>?_
  cases q:Yh v with
  |none=>exact aA
  |some b=>
   rw[Xb r1 q];exact Sim.ok w1 (ZC _)
 |.and a b,X,ρ,σ,S,s,xo,he,w=>by
  rw[ev,pv];refine(Z0 H a xo he w).bind λd v S1 s1 x1 w1 r1=>?_
  cases v with
  |bl c=>
   cases Rep.bl' r1;cases c with|true=>exact Z0 H b (xo.ext x1) (he.ext xo x1) w1|false=>exact Sim.ok w1 (ZC _)
  |_=>exact aA
 |.or a b,X,ρ,σ,S,s,xo,he,w=>by
  rw[ev,pv];refine(Z0 H a xo he w).bind λd v S1 s1 x1 w1 r1=>?_
  cases v with
  |bl c=>
   cases Rep.bl' r1;cases c with|true=>exact Sim.ok w1<|ZC _|false=>exact Z0 H b (xo.ext x1) (he.ext xo x1) w1
  |_=>exact aA
 |.ite t a b,X,ρ,σ,S,s,xo,he,w=>by
  rw[ev,pv];refine(Z0 H t xo he w).bind λd v S1 s1 x1 w1 r1=>?_
  cases q:Yh v with
  |none=>exact aA
  |some c=>
   rw[Xb r1 q];cases c with|true=>exact Z0 H a (xo.ext x1) (he.ext xo x1) w1|false=>exact Z0 H b (xo.ext x1) (he.ext xo x1) w1
 |.cmp op a b,X,ρ,σ,S,s,xo,he,w=>by
  rw[ev,pv];exact(Z0 H a xo he w).bind λd v S1 s1 x1 w1 r1=>(Z0 H b (xo.ext x1) (he.ext xo x1) w1).bind λe u S2 s2 x2 w2 r2=>JU w2 (Rep.ext (xo.ext x1) x2 r1) r2
 |.chain o p a b d,X,ρ,σ,S,s,xo,he,w=>by
  rw[ev,pv];refine(Z0 H a xo he w).bind λda va S1 s1 x1 w1 r1=>(Z0 H b (xo.ext x1) (he.ext xo x1) w1).bind λdb vb S2 s2 x2 w2 r2=>(JU w2 (Rep.ext (xo.ext x1) x2 r1) r2).bind λdz vz S3 s3 x3 w3 r3=>?_
  cases vz with
  |bl c=>
   cases Rep.bl' r3;cases c with
   |true=>
    refine(Z0 H d (((xo.ext x1).ext x2).ext x3) (((he.ext xo x1).ext (xo.ext x1) x2).ext ((xo.ext x1).ext x2) x3) w3).bind λdd vd S4 s4 x4 w4 r4=>JU w4 (Rep.ext (((xo.ext x1).ext x2).ext x3) x4<|Rep.ext ((xo.ext x1).ext x2) x3 r2) r4
   |false=>exact Sim.ok w3 (ZC _)
  |_=>exact aA
 |.ix a i,X,ρ,σ,S,s,xo,he,w=>by
  rw[ev,pv];exact(Z0 H a xo he w).bind λd v S1 s1 x1 w1 r1=>(Z0 H i (xo.ext x1) (he.ext xo x1) w1).bind λe u S2 s2 x2 w2 r2=>ZdT w2 (Rep.ext (xo.ext x1) x2 r1) r2
 |.sl a lo hi,X,ρ,σ,S,s,xo,he,w=>by
  rw[ev,pv];refine(Z0 H a xo he w).bind λd v S1 s1 x1 w1 r1=>(ZfG H lo (xo.ext x1) (he.ext xo x1) w1).bind λl' l S2 s2 x2 w2 r2=>?_
  have r2:=r2;subst r2;refine(ZfG H hi ((xo.ext x1).ext x2) ((he.ext xo x1).ext (xo.ext x1) x2) w2).bind λh' h S3 s3 x3 w3 r3=>?_
  have r3:=r3;subst r3;exact Zej (((xo.ext x1).ext x2).ext x3) w3 (Rep.ext ((xo.ext x1).ext x2) x3<|Rep.ext (xo.ext x1) x2 r1)
 |.rev a,X,ρ,σ,S,s,xo,he,w=>by
  rw[ev,pv];refine(Z0 H a xo he w).bind λd v S1 s1 x1 w1 r1=>?_
  cases v with|tup vs=>obtain⟨ds,rfl,rs⟩:=Rep.tup' r1;exact Sim.ok w1<|ZU rs.reverse|_=>exact aA
 |.call f as,X,ρ,σ,S,s,xo,he,w=>by
  rw[ev,pv];exact(WR H as xo he w).bind λds vs S1 s1 x1 w1 r1=>H f vs ds S1 s1 X (xo.ext x1) w1 r1
 |.blt f as,X,ρ,σ,S,s,xo,he,w=>by
  rw[ev,pv];exact(WR H as xo he w).bind λds vs S1 s1 x1 w1 r1=>ZcX (xo.ext x1) w1 r1
 |.isi a ts,X,ρ,σ,S,s,xo,he,w=>by
  rw[ev,pv];refine(Z0 H a xo he w).bind λd v S1 s1 x1 w1 r1=>?_
  cases q:Z4 v ts with
  |none=>exact aA
  |some b=>
   rw[zN r1 q];exact Sim.ok w1 (ZC _)
 |.comp1 cap nl t it ifs elt,X,ρ,σ,S,s,xo,he,w=>by
  rw[ev,pv];by_cases c:own nl t=ah
  ·rw[T9 c]
   refine(Ze3 H it xo he w).bind λwk vs S1 s1 x1 w1 r1=>?_
   have hn:=λi hi=>T6<|aV.mp c i hi
   have xo1:=xo.ext x1;exact Sim.nox<|jB xo1 w1 r1 (qi<|he.ext xo x1) λx d S2 s σ ds xo2 rx he2 w2 hm=>ZfD (λz=>T7 (xo1.lt _ xo1.z)<|by omega) (.inr rfl) (ZfP H ifs) (Z0 H elt) (λi hi v=>ue (hn i hi) v) xo2 rx he2 w2 hm
  ·rw[T8 c];exact aA
 |.refu wd e,X,ρ,σ,S,s,xo,he,w=>by
  rw[ev,pv];have h:=Z0 H e xo he w;cases q:pv CV e ρ s with
  |no=>exact aA
  |ok v s'=>
   rw[q]at h;obtain⟨a,S',e1,x1,w1,_⟩:=h;rw[e1];exact⟨_,_,rfl,x1,w1,YT⟩
  |ex c s'=>
   rw[q]at h;obtain⟨S',e1,x1,w1⟩:=h;rw[e1];by_cases hc:1<=c/\c<=10
   ·simp only[T9 hc]
    refine⟨_,_,rfl,x1.trans Ext.app,w1.app,?_⟩;cases wd
    ·exact Zq _
    ·exact VI _
   ·simp only[T8 hc]
    exact aA
theorem WR(H:Z3 n0 C CV):∀(es:List E){X:Nat->Prop}{ρ:Env}{σ:Lc}{S:Zc}{s:DS},Xok X n0 S->Ew S X n0 ρ σ->Dw n0 S s->Sim n0 S (ZbE X n0) (evs C es σ S) (pvs CV es ρ s)
 |[],X,ρ,σ,S,s,xo,he,w=>by rw[evs,pvs];exact Sim.ok w Rq.nil
 |e::es,X,ρ,σ,S,s,xo,he,w=>by
  rw[evs,pvs];exact(Z0 H e xo he w).bind λd v S1 s1 x1 w1 r1=>(WR H es (xo.ext x1) (he.ext xo x1) w1).bind λds vs S2 s2 x2 w2 r2=>Sim.ok w2<|Rq.cons (Rep.ext (xo.ext x1) x2 r1) r2
theorem ZfG(H:Z3 n0 C CV):∀(e:Option E){X:Nat->Prop}{ρ:Env}{σ:Lc}{S:Zc}{s:DS},Xok X n0 S->Ew S X n0 ρ σ->Dw n0 S s->Sim n0 S RlE (evo C e σ S) (pvo CV e ρ s)
 |none,X,ρ,σ,S,s,xo,he,w=>by rw[evo,pvo];exact Sim.ok w rfl
 |some e,X,ρ,σ,S,s,xo,he,w=>by
  rw[evo,pvo];refine(Z0 H e xo he w).bind λd v S1 s1 x1 w1 r1=>?_
  cases v with|int i=>cases Rep.int' r1;exact Sim.ok w1 rfl|_=>exact aA
theorem ZfP(H:Z3 n0 C CV):∀(es:List E){X:Nat->Prop}{ρ:Env}{σ:Lc}{S:Zc}{s:DS},Xok X n0 S->Ew S X n0 ρ σ->Dw n0 S s->Sim n0 S RlE (evt C es σ S) (pvt CV es ρ s)
 |[],X,ρ,σ,S,s,xo,he,w=>by rw[evt,pvt];exact Sim.ok w rfl
 |e::es,X,ρ,σ,S,s,xo,he,w=>by
  rw[evt,pvt];refine(Z0 H e xo he w).bind λd v S1 s1 x1 w1 r1=>?_
  cases q:Yh v with
  |none=>exact aA
  |some b=>
   rw[Xb r1 q];cases b with|true=>exact ZfP H es (xo.ext x1) (he.ext xo x1) w1|false=>exact Sim.ok w1 rfl
theorem Ze3(H:Z3 n0 C CV):∀(wk:W){X:Nat->Prop}{ρ:Env}{σ:Lc}{S:Zc}{s:DS},Xok X n0 S->Ew S X n0 ρ σ->Dw n0 S s->Sim n0 S (WkR X n0) (evw C wk σ S) (pvw CV wk ρ s)
 |.rng1 a,X,ρ,σ,S,s,xo,he,w=>by
  rw[evw,pvw];refine(Z0 H a xo he w).bind λd v S1 s1 x1 w1 r1=>?_
  cases v with
  |int i=>
   cases Rep.int' r1;exact Sim.guard λ_=>Sim.ok w1 ⟨wD _ _,λp hp=>by cases hp⟩
  |_=>exact aA
 |.dk a,X,ρ,σ,S,s,xo,he,w=>by
  rw[evw,pvw];refine(Z0 H a xo he w).bind λd v S1 s1 x1 w1 r1=>?_
  match v,r1 with
  |.dct (aa ks),r1=>
   obtain⟨n,o,rfl,hs,_,e⟩:=Rep.dct' r1;cases o with
   |fz l=>
    cases e;show Sim n0 S1 _ (ob (match(S1[n]? : Option Ob)with
     |some (Ob.fz ks)=>aa (Walk.mk (ks.map Wl) [])
     |_=>ac) S1) _
    rw[hs];exact Sim.ok w1 ⟨Qy _,λp hp=>by cases hp⟩
   |dt _=>cases e
   |dk _=>cases e
   |lst _=>cases e
   |scr _=>cases e
  |.dct ac,_|.non,_|.bl _,_|.int _,_|.str _,_|.tup _,_|.lst _,_|.drw,_=>exact aA
 |.zip a b,X,ρ,σ,S,s,xo,he,w=>by
  rw[evw,pvw];refine(Z0 H a xo he w).bind λd v S1 s1 x1 w1 r1=>(Z0 H b (xo.ext x1) (he.ext xo x1) w1).bind λe u S2 s2 x2 w2 r2=>?_
  cases q1:Z9 v with
  |none=>exact aA
  |some vs=>
   cases q2:Z9 u with
   |none=>exact aA
   |some us=>
    obtain⟨k1,e1,k2,k3⟩:=WB (Rep.ext (xo.ext x1) x2 r1) q1;obtain⟨l1,f1,l2,l3⟩:=WB r2 q2;rw[e1,f1];refine Sim.ok w2 ⟨JY k2 l2,λp hp=>?_⟩
    rcases bN.mp hp with hp|hp
    ·exact k3 p hp
    ·exact l3 p hp
 |.enum a,X,ρ,σ,S,s,xo,he,w=>by
  rw[evw,pvw];refine(Z0 H a xo he w).bind λd v S1 s1 x1 w1 r1=>?_
  cases q1:Z9 v with
  |none=>exact aA
  |some vs=>
   obtain⟨k1,e1,k2,k3⟩:=WB r1 q1;rw[e1];refine Sim.ok w1 ⟨?_,k3⟩;rw[k2.length];exact JY (wD _ _) k2
 |.of e,X,ρ,σ,S,s,xo,he,w=>by
  rw[evw,pvw];refine(Z0 H e xo he w).bind λd v S1 s1 x1 w1 r1=>Sim.obp w1 λvs q=>WB r1 q
end
end
abbrev Own:=Nat->Option Nat
def XW(X:Nat->Prop)(W:Own):Nat->Prop:=λn=>X n\/∃i,W i=aa n
structure Eu(S:Zc)(X:Nat->Prop)(n0 base:Nat)(W:Own)(ρ:Env)(os:List Nat)(σ:Lc):Prop where
 xz:X n0
 xb:∀n,X n->n<base
 bs:base<=S.length
 len:ρ.length=σ.length
 osW:∀i,os.contains i=(W i).isSome
 inj:∀i j n,W i=aa n->W j=aa n->i=j
 pl:∀i n,W i=aa n->base<=n
 own:∀i n,W i=aa n->∃xs,ρ[i]?=aa (aa<|.lst xs)/\ZP xs=ah/\σ[i]?=aa (aa<|.loc n)/\S[n]?=aa (.lst<|YC xs)
 val:∀(i:Nat)(v:V),ρ[i]?=aa (aa v)->W i=ac->∃d,σ[i]?=aa (aa d)/\Rep S (XW X W) n0 v d
section
variable{S S':Zc}{X:Nat->Prop}{n0 base:Nat}{W W':Own}{ρ:Env}{os:List Nat}{σ:Lc}
def Eu.xok(h:Eu S X n0 base W ρ os σ):Xok X n0 S:=⟨h.xz,λn x=>aQ (h.xb n x) h.bs⟩
def Eu.xokW(h:Eu S X n0 base W ρ os σ):Xok (XW X W) n0 S:=⟨.inl h.xz,λn x=>by
 rcases x with x|⟨i,x⟩
 ·exact h.xok.lt n x
 ·obtain⟨xs,_,_,_,e⟩:=h.own i n x;exact YJ e⟩
def Eu.nx(h:Eu S X n0 base W ρ os σ){i n:Nat}(e:W i=aa n):¬X n:=λz=>by have:=h.xb n z;have:=h.pl i n e;omega
def Eu.ne(h:Eu S X n0 base W ρ os σ){i n:Nat}(e:W i=aa n):n≠n0:=λz=>h.nx e<|z▸h.xz
def Eu.all(h:Eu S X n0 base W ρ os σ):Ew S X n0 ρ σ:=⟨h.len,λi v e=>by
 cases q:W i with
 |none=>
  obtain⟨d,a,b⟩:=h.val i v e q;exact⟨d,a,b.mono (λ_ _ _ z=>z) λn _ z=>.inl z⟩
 |some n=>
  obtain⟨xs,a,b,c,d⟩:=h.own i n q;rw[a]at e;cases e;exact⟨_,c,JT d (h.nx q)<|XV b⟩⟩
def qD(e:(hide os ρ)[i]?=aa (aa v)):ρ[i]?=aa (aa v)/\os.contains i=ai:=by
 unfold hide at e;rw[List.getElem?_mapIdx]at e;cases q:ρ[i]? with
 |none=>rw[q]at e;cases e
 |some o=>
  rw[q]at e;have e':(if os.contains i=ah then ac else o)=aa v:=ak e
  by_cases c:os.contains i=ah
  ·rw[T9 c]at e';cases e'
  ·rw[T8 c]at e';exact⟨by rw[e'],by simpa using c⟩
def Eu.hid(h:Eu S X n0 base W ρ os σ):Ew S (XW X W) n0 (hide os ρ) σ:=⟨by unfold hide;rw[List.length_mapIdx];exact h.len,λi v e=>by
 obtain⟨a,b⟩:=qD e;rw[h.osW]at b;exact h.val i v a (by cases q:W i with|none=>rfl|some _=>rw[q]at b;cases b)⟩
theorem Eu.ext(h:Eu S X n0 base W ρ os σ)(e:Ext n0 S S'):Eu S' X n0 base W ρ os σ:=
 ⟨h.xz,h.xb,bh h.bs e.len,h.len,h.osW,h.inj,h.pl,λi n q=>by
  obtain⟨xs,a,b,c,d⟩:=h.own i n q;exact⟨xs,a,b,c,e.keep n _ (h.ne q) d⟩,λi v a b=>by
  obtain⟨d,c,r⟩:=h.val i v a b;exact⟨d,c,r.ext h.xokW e⟩⟩
def Eu.noW(h:Eu S X n0 base W ρ [] σ):∀i,W i=ac:=λi=>by
 have:=h.osW i;cases q:W i with|none=>rfl|some n=>rw[q]at this;cases this
theorem Eu.set(h:Eu S X n0 base W ρ os σ)(hi:os.contains i=ai)(r:Rep S (XW X W) n0 v d):Eu S X n0 base W (ρ.set i<|aa v) os (σ.set i<|aa d):=by
 have hw:W i=.none:=by have:=h.osW i;rw[hi]at this;cases q:W i with|none=>rfl|some _=>rw[q]at this;cases this
 refine⟨h.xz,h.xb,h.bs,by rw[aT,aT];exact h.len,h.osW,h.inj,h.pl,λj n q=>?_,λj w e q=>?_⟩
 ·obtain⟨xs,a,b,c,e⟩:=h.own j n q
  have ij:i≠j:=λz=>by rw[z,q]at hw;cases hw
  exact⟨xs,by rw[aH ij];exact a,b,by rw[aH ij];exact c,e⟩
 ·rw[cE]at e ⊢
  by_cases c:i=j
  ·rw[T9 c]at e ⊢
   by_cases l:i<ρ.length
   ·rw[T9 l]at e
    rw[T9<|by rw[<-h.len];exact l]
    cases e;exact⟨d,rfl,r⟩
   ·rw[T8 l]at e;cases e
  ·rw[T8 c]at e ⊢
   exact h.val j w e q
theorem Eu.fill:∀{t:List Nat}{vs:List V}{ds:List D}{ρ ρ':Env}{σ:Lc},Eu S X n0 base W ρ os σ->(t.any os.contains)=ai->Rq S (XW X W) n0 vs ds->YL t vs ρ=aa ρ'->∃σ',Ev.fill t ds σ=aa σ'/\Eu S X n0 base W ρ' os σ'
 |[],[],_,ρ,ρ',σ,h,_,r,e=>by rw[r.nil'];cases e;exact⟨σ,rfl,h⟩
 |[],_::_,_,_,_,_,_,_,_,e=>by cases e
 |_::_,[],_,_,_,_,_,_,_,e=>by cases e
 |i::t,v::vs,_,ρ,ρ',σ,h,ht,r,e=>by
  obtain⟨d,ds,rfl,a,b⟩:=r.cons';rw[eB,Bool.or_eq_false_iff]at ht;exact Eu.fill (t:=t) (h.set ht.1 a) ht.2 b e
theorem Eu.assign(h:Eu S X n0 base W ρ os σ)(ht:(t.any os.contains)=ai)(r:Rep S (XW X W) n0 v d)(e:ZA t v ρ=aa ρ'):∃σ',Ev.assign t d S σ=aa σ'/\Eu S X n0 base W ρ' os σ':=by
 have gen:∀t:List Nat,(t.any os.contains)=ai->(match Z9 v with
   |some xs=>YL t xs ρ
   |none=>ac)=aa ρ'->∃σ',(match d with
   |.tup xs=>Ev.fill t xs σ
   |.loc n=>match Zm S n with
    |some xs=>Ev.fill t xs σ
    |none=>ac
   |_=>ac)=aa σ'/\Eu S X n0 base W ρ' os σ':=by
  intro t ht e;cases v with
  |tup vs=>obtain⟨ds,rfl,rs⟩:=r.tup';exact h.fill ht rs e
  |lst vs=>
   obtain⟨n,ds,rfl,hs,_,rs⟩:=r.lst';obtain⟨σ',a,b⟩:=h.fill ht rs e;refine⟨σ',?_,b⟩;show(match Zm S n with
    |some xs=>Ev.fill t xs σ
    |.none=>.none)=aa σ'
   rw[ZM hs];exact a
  |_=>cases e
 match t,ht,e with
 |[i],ht,e=>
  cases e;exact⟨_,rfl,h.set (by simpa using ht) r⟩
 |[],ht,e=>exact gen [] ht e
 |i::j::t,ht,e=>exact gen (i::j::t) ht e
def Eu.drop(h:Eu S X n0 base W ρ os σ)(r:Rep S (XW X W) n0 v d):Eu S X n0 base (λj=>if j=i then .none else W j) (ρ.set i<|aa v) (os.filter (· != i)) (σ.set i<|aa d):=by
 have nj:∀n,XW X (λj=>if j=i then ac else W j) n->XW X W n:=λn z=>by
  rcases z with z|⟨j,z⟩
  ·exact .inl z
  ·by_cases c:j=i
   ·simp only[c,if_true]at z;cases z
   ·simp only[c,if_false]at z;exact .inr ⟨j,z⟩
 have get:∀{j n:Nat},(if j=i then Option.none else W j)=aa n->j≠i/\W j=aa n:=λ{j n} z=>by
  by_cases c:j=i
  ·rw[T9 c]at z;cases z
  ·rw[T8 c]at z;exact⟨c,z⟩
 refine⟨h.xz,h.xb,h.bs,by rw[aT,aT];exact h.len,λj=>?_,λa b n x y=>h.inj a b n (get x).2 (get y).2,λj n z=>h.pl j n (get z).2,λj n z=>?_,λj w e z=>?_⟩
 ·by_cases c:j=i
  ·simp[c]
  ·simp only[c,if_false]
   rw[<-h.osW j,bT,bS,bS,bM];simp[c]
 ·obtain⟨xs,a,b,c,e⟩:=h.own j n (get z).2
  have ij:i≠j:=Ne.symm (get z).1;exact⟨xs,by rw[aH ij];exact a,b,by rw[aH ij];exact c,e⟩
 ·rw[cE]at e ⊢
  by_cases c:i=j
  ·rw[T9 c]at e ⊢
   by_cases l:i<ρ.length
   ·rw[T9 l]at e
    rw[T9<|by rw[<-h.len];exact l]
    cases e;exact⟨d,rfl,r.mono (λ_ _ _ q=>q) λn _ q=>nj n q⟩
   ·rw[T8 l]at e;cases e
  ·rw[T8 c]at e ⊢
   rw[T8<|Ne.symm c]at z;obtain⟨d',a,b⟩:=h.val j w e z;exact⟨d',a,b.mono (λ_ _ _ q=>q) λn _ q=>nj n q⟩
def Eu.take{S0:Zc}{i n:Nat}{xs:List V}(h:Eu S0 X n0 base W ρ os σ)(e:Ext n0 S0 S)(hn:S0.length<=n)(hf:ZP xs=ah)(r:Rep S (XW X W) n0 (.lst xs) (.loc n))(hi:i<ρ.length) :
  Eu S X n0 base (λj=>if j=i then aa n else W j) (ρ.set i<|aa<|.lst xs) (i::os.filter (· != i)) (σ.set i<|aa<|.loc n):=by
 obtain⟨n',ds,en,hs,hx,rs⟩:=r.lst';cases en;have ed:=XI hf rs;subst ed;have h1:=h.ext e;have nj:∀m,m<S0.length->XW X (λj=>if j=i then aa n else W j) m->XW X W m:=λm hm z=>by
  rcases z with z|⟨j,z⟩
  ·exact .inl z
  ·by_cases c:j=i
   ·simp only[c,if_true]at z
    have:n=m:=ak z;omega
   ·simp only[c,if_false]at z;exact .inr ⟨j,z⟩
 have get:∀{j m:Nat},(if j=i then aa n else W j)=aa m->(j=i/\n=m)\/(j≠i/\W j=aa m):=λ{j m} z=>by
  by_cases c:j=i
  ·rw[T9 c]at z;exact .inl ⟨c,ak z⟩
  ·rw[T8 c]at z;exact .inr ⟨c,z⟩
 refine⟨h1.xz,h1.xb,h1.bs,by rw[aT,aT];exact h.len,λj=>?_,λa b m x y=>?_,λj m z=>?_,λj m z=>?_,λj w q z=>?_⟩
 ·by_cases c:j=i
  ·simp[c]
  ·simp only[c,if_false]
   rw[<-h.osW j,bT,bS,bS,az,bM];simp[c]
 ·rcases get x with⟨x1,x2⟩|⟨x1,x2⟩
  ·rcases get y with⟨y1,y2⟩|⟨y1,y2⟩
   ·rw[x1,y1]
   ·exact T7 (.inr ⟨b,x2▸y2⟩) hx
  ·rcases get y with⟨y1,y2⟩|⟨y1,y2⟩
   ·exact T7 (.inr ⟨a,y2▸x2⟩) hx
   ·exact h.inj a b m x2 y2
 ·rcases get z with⟨z1,z2⟩|⟨z1,z2⟩
  ·have:=h.bs;omega
  ·exact h.pl j m z2
 ·rcases get z with⟨z1,z2⟩|⟨z1,z2⟩
  ·subst z1 z2
   exact⟨xs,aS hi,hf,aS<|by rw[<-h.len];exact hi,hs⟩
  ·obtain⟨ys,a,b,c,q⟩:=h1.own j m z2
   exact⟨ys,by rw[aH<|Ne.symm z1];exact a,b,by rw[aH<|Ne.symm z1];exact c,q⟩
 ·by_cases c:j=i
  ·rw[T9 c]at z;cases z
  ·rw[T8 c]at z
   rw[aH<|Ne.symm c]at q ⊢;obtain⟨d,a,b⟩:=h.val j w q z;exact⟨d,a,b.mono (λm o nx hs=>e.keep m o (λq=>nx<|q▸.inl h.xz) hs) nj⟩
def Eu.mut(h:Eu S X n0 base W ρ os σ)(hw:W i=aa n)(hf:ZP ys=ah):Eu (S.set n<|.lst<|YC ys) X n0 base W (ρ.set i<|aa<|.lst ys) os σ:=by
 obtain⟨xs,a,b,c,e⟩:=h.own i n hw;have hi:=(ay.mp a).1;refine⟨h.xz,h.xb,by rw[aT];exact h.bs,by rw[aT];exact h.len,h.osW,h.inj,h.pl,λj m z=>?_,λj w q z=>?_⟩
 ·by_cases k:i=j
  ·subst k
   rw[hw]at z;cases z;exact⟨ys,aS hi,hf,c,aS<|YJ e⟩
  ·obtain⟨zs,a',b',c',e'⟩:=h.own j m z
   exact⟨zs,by rw[aH k];exact a',b',c',by rw[aH λq:n=m=>k<|h.inj i j n hw<|by rw[q];exact z];exact e'⟩
 ·have k:i≠j:=λk=>by rw[<-k,hw]at z;cases z
  rw[aH k]at q;obtain⟨d,a',b'⟩:=h.val j w q z;exact⟨d,a',b'.mono (λm o nx hs=>by rw[aH λq:n=m=>nx<|.inr ⟨i,by rw[<-q];exact hw⟩];exact hs) λ_ _ q=>q⟩
end
structure ExtS(n0:Nat)(W:Own)(S S':Zc):Prop where
 len:S.length<=S'.length
 keep:∀n o,n≠n0->(∀i,W i≠aa n)->S[n]?=aa o->S'[n]?=aa o
def WExt(S:Zc)(W W':Own):Prop:=∀i n,W' i=aa n->(∃j,W j=aa n)\/S.length<=n
def Ext.s{n0:Nat}{W:Own}{S S':Zc}(h:Ext n0 S S'):ExtS n0 W S S':=⟨h.len,λn o a _ e=>h.keep n o a e⟩
def ExtS.trans{n0:Nat}{W W':Own}{S S1 S2:Zc}(a:ExtS n0 W S S1)(w:WExt S W W')(b:ExtS n0 W' S1 S2):ExtS n0 W S S2:=⟨bh a.len b.len,λn o h z e=>b.keep n o h (λi q=>by
 rcases w i n q with⟨j,q⟩|q
 ·exact z j q
 ·exact T7 (YJ e)<|by omega)<|a.keep n o h z e⟩
def WExt.refl{S:Zc}{W:Own}:WExt S W W:=λi n h=>.inl ⟨i,h⟩
def WExt.trans{S S1:Zc}{W W1 W2:Own}(a:WExt S W W1)(l:S.length<=S1.length)(b:WExt S1 W1 W2):WExt S W W2:=λi n h=>by
 rcases b i n h with⟨j,h⟩|h
 ·exact a j n h
 ·exact .inr<|bh l h
def FlR(X:Nat->Prop)(n0 base:Nat)(S:Zc)(W:Own)(S':Zc):FlV->Fl->Prop
 |.nx ρ os,.nx σ=>∃W',WExt S W W'/\Eu S' X n0 base W' ρ os σ
 |.brk ρ os,.brk σ=>∃W',WExt S W W'/\Eu S' X n0 base W' ρ os σ
 |.cnt ρ os,.cnt σ=>∃W',WExt S W W'/\Eu S' X n0 base W' ρ os σ
 |.ret v,.ret d=>Rep S' X n0 v d
 |_,_=>False
def ZJ(X:Nat->Prop)(n0 base:Nat)(S:Zc)(W:Own)(r:R Fl)(q:PR FlV):Prop:=match q with
 |.no=>True
 |.ex c s'=>∃S',r=.ex c S'/\ExtS n0 W S S'/\Dw n0 S' s'
 |.ok f s'=>∃g S',r=.ok g S'/\ExtS n0 W S S'/\Dw n0 S' s'/\FlR X n0 base S W S' f g
section
variable{α β:Type}{S S':Zc}{X:Nat->Prop}{n0 base:Nat}{W W':Own}{ρ:Env}{os:List Nat}{σ:Lc}
def FlR.from(w:WExt S W W')(l:S.length<=S1.length)(h:FlR X n0 base S1 W' S' f g):FlR X n0 base S W S' f g:=by
 cases f with
 |nx ρ os=>cases g with|nx σ=>obtain⟨W2,a,b⟩:=h;exact⟨W2,w.trans l a,b⟩|_=>exact h.elim
 |brk ρ os=>cases g with|brk σ=>obtain⟨W2,a,b⟩:=h;exact⟨W2,w.trans l a,b⟩|_=>exact h.elim
 |cnt ρ os=>cases g with|cnt σ=>obtain⟨W2,a,b⟩:=h;exact⟨W2,w.trans l a,b⟩|_=>exact h.elim
 |ret v=>cases g with|ret d=>exact h|_=>exact h.elim
theorem ZJ.from(x:ExtS n0 W S S1)(w:WExt S W W')(h:ZJ X n0 base S1 W' r q):ZJ X n0 base S W r q:=by
 cases q with|no=>exact aA|ex c s'=>obtain⟨S2,a,b,c⟩:=h;exact⟨S2,a,x.trans w b,c⟩|ok f s'=>obtain⟨g,S2,a,b,c,d⟩:=h;exact⟨g,S2,a,x.trans w b,c,FlR.from w x.len d⟩
def ZJ.bindE{Rl:Zc->β->α->Prop}(h:Sim n0 S Rl r q)
  (k:∀a b S' s',Ext n0 S S'->Dw n0 S' s'->Rl S' b a->ZJ X n0 base S' W (f a S') (g b s')):ZJ X n0 base S W (r.bind f) (q.bind g):=by
 cases q with
 |no=>exact aA
 |ex c s'=>obtain⟨S',e,x,w⟩:=h;rw[e];exact⟨S',rfl,x.s,w⟩
 |ok b s'=>
  obtain⟨a,S',e,x,w,rl⟩:=h;rw[e];exact ZJ.from x.s WExt.refl<|k a b S' s' x w rl
theorem ZJ.nx{s:DS}{σ':Lc}{ρ':Env}{os':List Nat}(w:Dw n0 S s)(hw:WExt S W W')(h:Eu S X n0 base W' ρ' os' σ'):ZJ X n0 base S W (.ok (.nx σ') S) (.ok (.nx ρ' os') s):=⟨_,S,rfl,Ext.refl.s,w,W',hw,h⟩
end
section
variable{n0:Nat}{C:Calls}{CV:Zy}{X:Nat->Prop}{base:Nat}
def Zfe(H:Z3 n0 C CV)(e:E){W:Own}{ρ:Env}{os:List Nat}{σ:Lc}{S:Zc}{s:DS}(he:Eu S X n0 base W ρ os σ)(w:Dw n0 S s):Sim n0 S (RlV (XW X W) n0) (ev C e σ S) (pvA CV e ρ os s):=by
 cases os with
 |nil=>
  have hh:Ew S (XW X W) n0 ρ σ:=⟨he.len,λi v q=>he.val i v q<|he.noW i⟩
  exact Z0 H e he.xokW hh w
 |cons o os=>
  show Sim n0 S (RlV (XW X W) n0) (ev C e σ S) (match pv CV e (hide (o::os) ρ) s with
   |.ok v s=>.ok v s
   |.ex c s=>.ex c s
   |.no=>(pv CV e ρ s).bind λv s=>if v.flat then .ok v s else .no)
  have h1:=Z0 H e he.xokW he.hid w;cases q:pv CV e (hide (o::os) ρ) s with
  |ok v s1=>rw[q]at h1;exact h1
  |ex c s1=>rw[q]at h1;exact h1
  |no=>
   have h2:=Z0 H e he.xok he.all w;cases q2:pv CV e ρ s with
   |no=>exact aA
   |ex c s1=>rw[q2]at h2;exact h2
   |ok v s1=>
    rw[q2]at h2;show Sim n0 S (RlV (XW X W) n0) (ev C e σ S) (if v.flat=ah then .ok v s1 else .no)
    by_cases c:v.flat=ah
    ·rw[T9 c]
     obtain⟨d,S',a1,a2,a3,a4⟩:=h2;exact⟨d,S',a1,a2,a3,by rw[VD c a4];exact UL c⟩
    ·rw[T8 c];exact aA
def Zf3(H:Z3 n0 C CV)(es:List E){W:Own}{ρ:Env}{os:List Nat}{σ:Lc}{S:Zc}{s:DS}(he:Eu S X n0 base W ρ os σ)(w:Dw n0 S s):Sim n0 S (ZbE (XW X W) n0) (evs C es σ S) (ZfM CV es ρ os s):=by
 cases os with
 |nil=>
  have hh:Ew S (XW X W) n0 ρ σ:=⟨he.len,λi v q=>he.val i v q<|he.noW i⟩
  exact WR H es he.xokW hh w
 |cons o os=>
  show Sim n0 S (ZbE (XW X W) n0) (evs C es σ S) ((pvs CV es ρ s).bind λv s=>if ZP v=ah then .ok v s else .no)
  have h2:=WR H es he.xok he.all w;cases q2:pvs CV es ρ s with
  |no=>exact aA
  |ex c s1=>rw[q2]at h2;exact h2
  |ok v s1=>
   rw[q2]at h2;show Sim n0 S (ZbE (XW X W) n0) (evs C es σ S) (if ZP v=ah then .ok v s1 else .no)
   by_cases c:ZP v=ah
   ·rw[T9 c]
    obtain⟨d,S',a1,a2,a3,a4⟩:=h2;exact⟨d,S',a1,a2,a3,by rw[XI c a4];exact XV c⟩
   ·rw[T8 c];exact aA
def ZdF{α:Type}{r:R α}{a:α}{S:Zc}(h:r.nox=.ok a S):r=.ok a S:=by
 cases r with|ok _ _=>exact h|ex _ _=>cases h|no=>cases h
def Q3(H:Z3 n0 C CV){e:E}(hf:fresh e=ah){ρ:Env}{σ:Lc}{S S':Zc}{s s':DS}{xs:List V}{d:D}(xo:Xok X n0 S)(he:Ew S X n0 ρ σ)(w:Dw n0 S s)(q:pv CV e ρ s=.ok (.lst xs) s')(r:ev C e σ S=.ok d S'):∃n,d=.loc n/\S.length<=n:=by
 have bo:∀{α β:Type}{r:R α}{f:α->Zc->R β}{b:β}{S':Zc},r.bind f=.ok b S'->∃a S1,r=.ok a S1/\f a S1=.ok b S':=λ{α β r f b S'} h=>by
  cases r with|no=>cases h|ex _ _=>cases h|ok a S1=>exact⟨a,S1,rfl,h⟩
 have ifo:∀{α:Type}{P:Prop} [Decidable P] {r:R α} {b:α} {S':Zc},(if P then r else .no)=.ok b S'->r=.ok b S':=λ{α P _ r b S'} h=>by
  by_cases c:P
  ·rw[T9 c]at h;exact h
  ·rw[T8 c]at h;cases h
 cases e with
 |lst es=>
  rw[pv]at q;obtain⟨vs,s1,q1,_⟩:=YU q;obtain⟨ds,S1,e1,x1,_,_⟩:=(WR H es xo he w).out q1;rw[ev,e1]at r;have r:=ifo (r)
  cases r;exact⟨_,rfl,x1.len⟩
 |comp1 cap nl t it ifs elt=>
  rw[pv]at q;by_cases c:own nl t=ah
  ·rw[T9 c]at q
   obtain⟨vs,s1,q1,_⟩:=YU q;obtain⟨wk,S1,e1,x1,_,_⟩:=(Ze3 H it xo he w).out q1;rw[ev,e1]at r;obtain⟨_,_,ea,r⟩:=bo r;cases ea;obtain⟨_,S2,_,r⟩:=bo<|ZdF r;cases r;exact⟨_,rfl,x1.len⟩
  ·rw[T8 c]at q;exact nop q
 |bin op a b=>
  cases op with
  |mul=>cases a with
   |lst es=>
    rw[pv]at q;obtain⟨x,s1,q1,q⟩:=YU q;obtain⟨y,s2,q2,q⟩:=YU q;obtain⟨dx,S1,e1,x1,w1,r1⟩:=(Z0 H (.lst es) xo he w).out q1;obtain⟨dy,S2,e2,x2,w2,r2⟩:=(Z0 H b (xo.ext x1) (he.ext xo x1) w1).out q2;rw[ev,e1]at r;have r:(ev C b σ S1).bind (λy S=>Yx .mul dx y S)=.ok d S':=r
    rw[e2]at r;have r:=r;cases x with
    |lst us=>cases y with
     |int j=>
      obtain⟨n,ds,rfl,hs,_,_⟩:=Rep.lst' r1;cases Rep.int' r2;have hs2:=x2.keep n _ (λz=>?_) hs
      ·have r:(match Zm S2 n with
        |some a=>if 0<=j/\j<1000/\a.length<=1000 then R.ok (D.loc S2.length) (S2++[Ob.lst (ar j.toNat a).flatten])else .no
        |none=>.no)=.ok d S':=r
       rw[ZM hs2]at r;have r:=ifo (r)
       cases r;exact⟨_,rfl,bh x1.len x2.len⟩
      ·obtain⟨n',_,en,_,nx,_⟩:=Rep.lst' r1
       cases en;exact nx (z▸xo.z)
     |_=>exact nop q
    |tup us=>cases y with
     |int j=>
      have q:(if 0<=j/\j<1000/\us.length<=1000 then PR.ok (V.tup (ar j.toNat us).flatten) s2 else .no)=.ok (.lst xs) s':=q
      by_cases c:0<=j/\j<1000/\us.length<=1000
      ·rw[T9 c]at q;cases q
      ·rw[T8 c]at q;exact nop q
     |_=>exact nop q
    |int i=>cases y with
     |int j=>
      have q:(if(fits i&&fits j)=ah then PR.ok (V.int<|i*j) s2 else .no)=.ok (.lst xs) s':=q
      by_cases c:(fits i&&fits j)=ah
      ·rw[T9 c]at q;cases q
      ·rw[T8 c]at q;exact nop q
     |_=>exact nop q
    |_=>exact nop q
   |_=>exact Ev.nob hf
  |_=>exact Ev.nob hf
 |blt f as=>
  cases f with
  |list=>
   rw[pv]at q;obtain⟨vs,s1,q1,q⟩:=YU q;obtain⟨ds,S1,e1,x1,w1,r1⟩:=(WR H as xo he w).out q1;rw[ev,e1]at r;have r:Y9 .list ds S1=.ok d S':=r
   match ds,r with
   |[z],r=>
    obtain⟨_,S2,r1,r⟩:=bo (r)
    cases q:Wf S1 z with|none=>rw[q]at r1;cases r1|some _=>rw[q]at r1;cases r1;cases r;exact⟨_,rfl,x1.len⟩
  |_=>exact Ev.nob hf
 |_=>exact Ev.nob hf
end
theorem Ul:∀(a b:List V),YC (a++b)=YC a++YC b
 |[],b=>rfl
 |x::a,b=>by rw[iP];show toD x::YC (a++b)=_;rw[Ul a b];rfl
theorem Vj:∀{a b:List V},ZP a=ah->ZP b=ah->ZP (a++b)=ah
 |[],b,_,h=>h
 |x::a,b,h,h'=>by
  obtain⟨h1,h2⟩:=(aE _ _).mp h;show(x.flat&&ZP (a++b))=ah;rw[h1,Vj h2 h'];rfl
theorem z7:∀(a:List V)(j:Nat)(v:V),YC (a.set j v)=(YC a).set j (toD v)
 |[],_,_=>rfl
 |x::a,0,v=>rfl
 |x::a,j+1,v=>by show toD x::YC (a.set j v)=toD x::(YC a).set j (toD v);rw[z7 a j v]
theorem Ju:∀{a:List V}{j:Nat}{v:V},ZP a=ah->v.flat=ah->ZP (a.set j v)=ah
 |[],_,_,h,_=>h
 |x::a,0,v,h,h'=>by
  obtain⟨h1,h2⟩:=(aE _ _).mp h;show(v.flat&&ZP a)=ah;rw[h',h2];rfl
 |x::a,j+1,v,h,h'=>by
  obtain⟨h1,h2⟩:=(aE _ _).mp h;show(x.flat&&ZP (a.set j v))=ah;rw[h1,Ju h2 h'];rfl
theorem Xh:∀a:List V,(YC a).length=a.length
 |[]=>rfl
 |x::a=>by show(YC a).length+1=_;rw[Xh a];rfl
def ZbC :evs C [e] σ S=(ev C e σ S).bind λx S=>.ok [x] S:=by
 rw[evs];rfl
section
variable{n0:Nat}{C:Calls}{CV:Zy}{X:Nat->Prop}{base:Nat}{W:Own}{ρ:Env}{os:List Nat}{σ:Lc}{S:Zc}{s:DS}
theorem Eu.at(h:Eu S X n0 base W ρ os σ){i:Nat}(hi:os.contains i=ah):∃n xs,W i=aa n/\ρ[i]?=aa (aa<|.lst xs)/\ZP xs=ah/\σ[i]?=aa (aa<|.loc n)/\S[n]?=aa (.lst<|YC xs):=by
 rw[h.osW]at hi;obtain⟨n,hn⟩:=bP.mp hi;obtain⟨xs,a,b,c,d⟩:=h.own i n hn;exact⟨n,xs,hn,a,b,c,d⟩
def Zbs(hw:W i=aa n):ExtS n0 W S (S.set n o):=⟨by simp,λm o' _ z e=>by rw[aH λq:n=m=>z i<|by rw[<-q];exact hw];exact e⟩
theorem Eu.move(h:Eu S X n0 base W ρ os σ)(hw:W j=aa n)(hi:os.contains i=ai)(hij:i≠j)(e1:ρ[j]?=aa (aa<|.lst xs))(hf:ZP xs=ah)(e2:σ[j]?=aa (aa<|.loc n))(e3:S[n]?=aa (.lst<|YC xs)) :
  Eu S X n0 base (λk=>if k=j then .none else W k) ((ρ.set i<|aa<|.lst xs).set j ac) (os.filter (· != j)) (σ.set i<|aa<|.loc n):=by
 have wi:W i=ac:=by
  have:=h.osW i;rw[hi]at this;cases q:W i with|none=>rfl|some m=>rw[q]at this;cases this
 have nj:∀m,XW X (λk=>if k=j then ac else W k) m->XW X W m:=λm z=>by
  rcases z with z|⟨k,z⟩
  ·exact .inl z
  ·by_cases c:k=j
   ·simp only[c,if_true]at z;cases z
   ·simp only[c,if_false]at z;exact .inr ⟨k,z⟩
 have get:∀{k m:Nat},(if k=j then Option.none else W k)=aa m->k≠j/\W k=aa m:=λ{k m} z=>by
  by_cases c:k=j
  ·rw[T9 c]at z;cases z
  ·rw[T8 c]at z;exact⟨c,z⟩
 refine⟨h.xz,h.xb,h.bs,by rw[aT,aT,aT];exact h.len,λk=>?_,λa b m x y=>h.inj a b m (get x).2 (get y).2,λk m z=>h.pl k m (get z).2,λk m z=>?_,λk w e z=>?_⟩
 ·by_cases c:k=j
  ·simp[c]
  ·simp only[c,if_false]
   rw[<-h.osW k,bT,bS,bS,bM];simp[c]
 ·obtain⟨ys,a,b,c,e⟩:=h.own k m (get z).2
  have jk:j≠k:=Ne.symm (get z).1;have ik:i≠k:=λq=>by
   have w2:=(get z).2;rw[<-q,wi]at w2;cases w2
  exact⟨ys,by rw[aH jk,aH ik];exact a,b,by rw[aH ik];exact c,e⟩
 ·have lj:=(ay.mp e1).1
  by_cases cj:k=j
  ·subst cj
   rw[aS<|by rw[aT];exact lj]at e
   cases e
  ·rw[T8 cj]at z
   rw[aH<|Ne.symm cj]at e;by_cases ci:i=k
   ·subst ci
    have li:i<ρ.length:=by
     have:=(ay.mp e).1;rw[aT]at this;exact this
    rw[aS li]at e;cases e;refine⟨.loc n,aS<|by rw[<-h.len];exact li,?_⟩
    refine⟨n,YC xs,rfl,e3,λq=>?_,XV hf⟩
    rcases q with q|⟨k,q⟩
    ·exact h.nx hw q
    ·obtain⟨q1,q2⟩:=get q
     exact q1<|h.inj k j n q2 hw
   ·rw[aH ci]at e
    obtain⟨d',a,b⟩:=h.val k w e z;exact⟨d',by rw[aH ci];exact a,b.mono (λ_ _ _ q=>q) λm _ q=>nj m q⟩
def Zcf(i j:Nat)(he:Eu S X n0 base W ρ os σ)(w:Dw n0 S s):ZJ X n0 base S W ((ev C (.v j) σ S).bind λx S=>(ob (assign [i] x S σ) S).bind λσ S=>.ok (.nx σ) S)
  (if(os.contains j&&(!os.contains i&&ae (i≠j)))=ah then(po (Vc ρ[j]?) s).bind λxs s=>.ok (.nx ((ρ.set i<|aa<|.lst xs).set j ac) (os.filter (· != j))) s else .no):=by
 by_cases c:(os.contains j&&(!os.contains i&&ae (i≠j)))=ah
 ·rw[T9 c]
  obtain⟨c1,c2⟩:=(aE _ _).mp c;obtain⟨c2,c3⟩:=(aE _ _).mp c2;obtain⟨n,xs,h1,h2,h3,h4,h5⟩:=he.at c1;rw[h2,ev,h4];exact⟨_,S,rfl,Ext.refl.s,w,_,λk m z=>by
   by_cases q:k=j
   ·simp only[q,if_true]at z;cases z
   ·simp only[q,if_false]at z;exact .inl ⟨k,z⟩,he.move h1 (by simpa using c2) (T6 c3) h2 h3 h4 h5⟩
 ·rw[T8 c];exact aA
def ZJ.mutd(he:Eu S X n0 base W ρ os σ)(w:Dw n0 S s)(hw:W i=aa n)(hf:ZP ys=ah):ZJ X n0 base S W (.ok (.nx σ)<|S.set n<|.lst<|YC ys) (.ok (.nx (ρ.set i<|aa<|.lst ys) os) s):=
 ⟨_,_,rfl,Zbs hw,⟨by rw[aH<|he.ne hw];exact w.1,w.2⟩,W,WExt.refl,he.mut hw hf⟩
def Zc7(h:uZ op x y s=.ok z s'):∃i,z=.int i:=by
 cases x with
 |int i=>cases y with
  |int j=>
   have ifo:∀{P:Prop} [Decidable P] {k:Int} ,(if P then PR.ok (V.int k) s else .no)=.ok z s'->∃i,z=.int i:=λ{P _ k} h=>by
    by_cases c:P
    ·rw[T9 c]at h;cases h;exact⟨_,rfl⟩
    ·rw[T8 c]at h;cases h
   cases op with|add=>cases h;exact⟨_,rfl⟩|sub=>cases h;exact⟨_,rfl⟩|mul=>exact ifo h|fdiv=>exact ifo h|mod=>exact ifo h|pow=>exact ifo h
  |_=>cases h
 |_=>cases h
def Zar(H:Z3 n0 C CV)(e:E)(he:Eu S X n0 base W ρ os σ)(w:Dw n0 S s):Sim n0 S RlE (tst C e σ S) (Uv CV e ρ s):=by
 refine(Z0 H e he.xok he.all w).bind λd v S1 s1 x1 w1 r1=>?_
 cases q:Yh v with|none=>exact aA|some b=>rw[Xb r1 q];exact Sim.ok w1 rfl
def Zdf(H:Z3 n0 C CV)(e:E)(he:Eu S X n0 base W ρ os σ)(w:Dw n0 S s):ZJ X n0 base S W ((ev C e σ S).bind λ_ S=>.ok (.nx σ) S) ((pv CV e ρ s).bind λ_ s=>.ok (.nx ρ os) s):=
 ZJ.bindE (Z0 H e he.xok he.all w) λd v S1 s1 x1 w1 r1=>ZJ.nx w1 WExt.refl<|he.ext x1
def wa(H:Z3 n0 C CV)(i:Nat)(e:E)(he:Eu S X n0 base W ρ os σ)(w:Dw n0 S s):ZJ X n0 base S W ((ev C (.mt .extend (.v i) [e]) σ S).bind λ_ S=>.ok (.nx σ) S)
  (if os.contains i=ah then(po (Vc ρ[i]?) s).bind λxs s=>(pv CV e (hide os ρ) s).bind λv s=>match v with
   |.lst ys=>if ZP ys=ah/\xs.length+ys.length<=lim then .ok (.nx (ρ.set i<|aa<|.lst<|xs++ys) os) s else .no
   |_=>.no
  else .no):=by
 by_cases c:os.contains i=ah
 ·rw[T9 c]
  obtain⟨n,xs,hw,a1,a2,a3,a4⟩:=he.at c;have e0:Vc ρ[i]?=aa xs:=by rw[a1];rfl
  rw[e0];show ZJ X n0 base S W _ ((pv CV e (hide os ρ) s).bind _);have e1:(ev C (.mt .extend (.v i) [e]) σ S).bind (λ_ S=>R.ok (Fl.nx σ) S)=(ev C e σ S).bind λd S=>(yA .extend (.loc n) [d] S).bind λ_ S=>.ok (.nx σ) S:=by
   rw[ev,ev,a3];show R.bind (if qF S (.loc n)=ah then _ else _) _=_
   rw[T9<|by show(Zm S n).isSome=ah;rw[ZM a4];rfl,ZbC]
   cases ev C e σ S<;>rfl
  rw[e1];refine ZJ.bindE (Z0 H e he.xokW he.hid w) λd v S1 s1 x1 w1 r1=>?_
  have he1:=he.ext x1;have a5:=x1.keep n _ (he.ne hw) a4;cases v with
  |lst ys=>
   obtain⟨k,ds,rfl,hs,hx,rs⟩:=Rep.lst' r1;show ZJ X n0 base S1 W _ (if ZP ys=ah/\xs.length+ys.length<=lim then .ok (.nx (ρ.set i<|aa<|.lst<|xs++ys) os) s1 else .no)
   by_cases c2:ZP ys=ah/\xs.length+ys.length<=lim
   ·rw[T9 c2]
    have ed:=XI c2.1 rs;subst ed;have hm:yA .extend (.loc n) [.loc k] S1=.ok .non (S1.set n<|.lst<|YC xs++YC ys):=by
     show(if n=k then R.no else(ob (Zm S1 n) S1).bind λxs S=>(ob (Zm S k) S).bind λys S=>if xs.length+ys.length<=lim then R.ok D.non (S.set n<|.lst<|xs++ys)else .no)=_
     rw[T8 λz:n=k=>hx<|.inr ⟨i,by rw[<-z];exact hw⟩,ZM a5]
     show R.bind (ob (Zm S1 k) S1) _=_;rw[ZM hs];show(if(YC xs).length+(YC ys).length<=lim then _ else _)=_
     rw[T9<|by rw[Xh,Xh];exact c2.2]
    rw[hm];have:=ZJ.mutd he1 w1 hw<|Vj a2 c2.1;rw[Ul]at this;exact this
   ·rw[T8 c2];exact aA
  |_=>exact aA
 ·rw[T8 c];exact aA
def Zb0(H:Z3 n0 C CV)(i:Nat)(k e:E)(he:Eu S X n0 base W ρ os σ)(w:Dw n0 S s):ZJ X n0 base S W ((ev C e σ S).bind λv S=>(ev C (.v i) σ S).bind λx S=>(ev C k σ S).bind λy S=>(JL x y v S).bind λ_ S=>.ok (.nx σ) S)
  (if os.contains i then(pv CV e ρ s).bind λv s=>if v.flat then(po (Vc ρ[i]?) s).bind λxs s=>(pv CV k ρ s).bind λy s=>match y with
   |.int n=>(po (ixN xs.length n) s).bind λj s=>.ok (.nx (ρ.set i<|aa<|.lst<|xs.set j v) os) s
   |_=>.no
  else .no else .no):=by
 by_cases c:os.contains i=ah
 ·rw[T9 c]
  obtain⟨n,xs,hw,a1,a2,a3,a4⟩:=he.at c;refine ZJ.bindE (Z0 H e he.xok he.all w) λd v S1 s1 x1 w1 r1=>?_
  have he1:=he.ext x1;have a5:=x1.keep n _ (he.ne hw) a4;by_cases c2:v.flat=ah
  ·rw[T9 c2]
   have e0:Vc ρ[i]?=aa xs:=by rw[a1];rfl
   rw[e0,ev,a3];show ZJ X n0 base S1 W ((ev C k σ S1).bind λy S=>(JL (.loc n) y d S).bind λ_ S=>.ok (.nx σ) S) ((pv CV k ρ s1).bind _)
   refine ZJ.bindE (Z0 H k he1.xok he1.all w1) λdk vk S2 s2 x2 w2 r2=>?_
   have he2:=he1.ext x2;have a6:=x2.keep n _ (he.ne hw) a5;cases vk with
   |int m=>
    cases Rep.int' r2;show ZJ X n0 base S2 W ((JL (.loc n) (.int m) d S2).bind _) ((po (ixN xs.length m) s2).bind _);cases q:ixN xs.length m with
    |none=>exact aA
    |some j=>
     have hm:JL (.loc n) (.int m) d S2=.ok () (S2.set n<|.lst<|(YC xs).set j d):=by
      show(match S2[n]? with
       |some (.lst xs)=>(ob (ixN xs.length m) S2).bind λj S=>R.ok () (S.set n<|.lst<|xs.set j d)
       |_=>.no)=_
      rw[a6];show(ob (ixN (YC xs).length m) S2).bind _=_;rw[Xh,q];rfl
     rw[hm];have:=ZJ.mutd (ys:=xs.set j v) he2 w2 hw<|Ju a2 c2;rw[z7]at this;rw[VD c2 r1];exact this
   |_=>exact aA
  ·rw[T8 c2];exact aA
 ·rw[T8 c];exact aA
def qL(H:Z3 n0 C CV)(ms:List Nat)(i:Nat)(e:E)(he:Eu S X n0 base W ρ os σ)(w:Dw n0 S s):ZJ X n0 base S W ((ev C e σ S).bind λx S=>(ob (assign [i] x S σ) S).bind λσ S=>.ok (.nx σ) S)
  ((pvA CV e ρ os s).bind λv s=>if(ms.contains i&&fresh e)=ah then match v with
   |.lst xs=>if ZP xs=ah/\i<ρ.length then .ok (.nx (ρ.set i<|aa v) (i::os.filter (· != i))) s else .no
   |_=>.no
  else .ok (.nx (ρ.set i<|aa v) (os.filter (· != i))) s):=by
 have hA:=Zfe H e he w;cases q:pvA CV e ρ os s with
 |no=>exact aA
 |ex c s1=>rw[q]at hA;obtain⟨S1,e1,x1,w1⟩:=hA;rw[e1];exact⟨S1,rfl,x1.s,w1⟩
 |ok v s1=>
  rw[q]at hA;obtain⟨d,S1,e1,x1,w1,r1⟩:=hA;rw[e1];show ZJ X n0 base S W (.ok (.nx<|σ.set i<|aa d) S1) (if(ms.contains i&&fresh e)=ah then _ else _)
  by_cases c:(ms.contains i&&fresh e)=ah
  ·rw[T9 c]
   cases v with
   |lst xs=>
    show ZJ X n0 base S W _ (if ZP xs=ah/\i<ρ.length then _ else _)
    by_cases c2:ZP xs=ah/\i<ρ.length
    ·rw[T9 c2]
     obtain⟨c2,hi⟩:=c2;have hf:=((aE _ _).mp c).2;have fl:∃n,d=.loc n/\S.length<=n:=by
      cases os with
      |nil=>
       have hh:Ew S (XW X W) n0 ρ σ:=⟨he.len,λi v q=>he.val i v q<|he.noW i⟩
       exact Q3 H hf he.xokW hh w q e1
      |cons o os=>
       have q':(match pv CV e (hide (o::os) ρ) s with
        |.ok v s=>.ok v s
        |.ex c s=>.ex c s
        |.no=>(pv CV e ρ s).bind λv s=>if v.flat then .ok v s else .no)=PR.ok (V.lst xs) s1:=q
       cases q3:pv CV e (hide (o::os) ρ) s with
       |ok v s2=>rw[q3]at q';cases q';exact Q3 H hf he.xokW he.hid w q3 e1
       |ex _ _=>rw[q3]at q';cases q'
       |no=>
        rw[q3]at q';obtain⟨v,s2,_,q5⟩:=YU q';by_cases cf:v.flat=ah
        ·rw[T9 cf]at q5;cases q5;cases cf
        ·rw[T8 cf]at q5;cases q5
     obtain⟨n,rfl,hn⟩:=fl;refine⟨_,S1,rfl,x1.s,w1,_,?_,he.take x1 hn c2 r1 hi⟩;intro j m z;by_cases cj:j=i
     ·simp only[cj,if_true]at z;cases z;exact .inr hn
     ·simp only[cj,if_false]at z;exact .inl ⟨j,z⟩
    ·rw[T8 c2];exact aA
   |_=>exact aA
  ·rw[T8 c]
   refine⟨_,S1,rfl,x1.s,w1,_,?_,(he.ext x1).drop r1⟩;intro j m z;by_cases cj:j=i
   ·simp only[cj,if_true]at z;cases z
   ·simp only[cj,if_false]at z;exact .inl ⟨j,z⟩
end
section
variable{n0:Nat}{C:Calls}{CV:Zy}{X:Nat->Prop}{base:Nat}
theorem xQ 
  (hk:∀p∈wk.kept,S0[p.1]?=aa (.lst p.2)/\¬XW X W0 p.1)(z0:X n0)
  (hb:∀x d S W ρ os σ s,Eu S X n0 base W ρ os σ->Dw n0 S s->Rep S X n0 x d->ZJ X n0 base S W (body d σ S) (bodyV x ρ os s)) :
  ∀(vs:List V)(ds:List D)(S:Zc)(W:Own)(ρ:Env)(os:List Nat)(σ:Lc)(s:DS),Rq S0 (XW X W0) n0 vs ds->ExtS n0 W0 S0 S->WExt S0 W0 W->Eu S X n0 base W ρ os σ->Dw n0 S s->ZJ X n0 base S W (XU wk body ds σ S) (XG bodyV vs ρ os s)
 |[],ds,S,W,ρ,os,σ,s,rs,x,wx,he,w=>by
  rw[rs.nil',XU,XG,T9<|Vt λp hp=>x.keep _ _ (λz=>(hk p hp).2<|.inl<|z▸z0) (λi z=>(hk p hp).2<|.inr ⟨i,z⟩) (hk p hp).1]
  exact ZJ.nx w WExt.refl he
 |v::vs,ds,S,W,ρ,os,σ,s,rs,x,wx,he,w=>by
  obtain⟨d,ds,rfl,r1,r2⟩:=rs.cons';rw[XU,XG,T9<|Vt λp hp=>x.keep _ _ (λz=>(hk p hp).2<|.inl<|z▸z0) (λi z=>(hk p hp).2<|.inr ⟨i,z⟩) (hk p hp).1]
  have r1':=r1.mono (λn o nx hs=>x.keep n o (λz=>nx<|.inl<|z▸z0) (λi z=>nx<|.inr ⟨i,z⟩) hs) λn _ z=>.inl z
  have h1:=hb v d S W ρ os σ s he w r1';cases q:bodyV v ρ os s with
  |no=>exact aA
  |ex c s1=>rw[q]at h1;obtain⟨S1,e,x1,w1⟩:=h1;rw[e];exact⟨S1,rfl,x1,w1⟩
  |ok f s1=>
   rw[q]at h1;obtain⟨g,S1,e,x1,w1,fr⟩:=h1;rw[e];cases f with
   |nx ρ1 os1=>cases g with
    |nx σ1=>
     obtain⟨W1,wx1,he1⟩:=fr;exact ZJ.from x1 wx1 (xQ hk z0 hb vs ds S1 W1 ρ1 os1 σ1 s1 r2 (x.trans wx x1) (wx.trans x.len wx1) he1 w1)
    |_=>exact fr.elim
   |cnt ρ1 os1=>cases g with
    |cnt σ1=>
     obtain⟨W1,wx1,he1⟩:=fr;exact ZJ.from x1 wx1 (xQ hk z0 hb vs ds S1 W1 ρ1 os1 σ1 s1 r2 (x.trans wx x1) (wx.trans x.len wx1) he1 w1)
    |_=>exact fr.elim
   |brk ρ1 os1=>cases g with|brk σ1=>exact⟨_,S1,rfl,x1,w1,fr⟩|_=>exact fr.elim
   |ret v1=>cases g with|ret d1=>exact⟨_,S1,rfl,x1,w1,fr⟩|_=>exact fr.elim
theorem U5 
  (ht:∀S W ρ os σ s,Eu S X n0 base W ρ os σ->Dw n0 S s->Sim n0 S RlE (test σ S) (testV ρ s))
  (hb:∀S W ρ os σ s,Eu S X n0 base W ρ os σ->Dw n0 S s->ZJ X n0 base S W (body σ S) (bodyV ρ os s)) :
  ∀(n:Nat)(S:Zc)(W:Own)(ρ:Env)(os:List Nat)(σ:Lc)(s:DS),Eu S X n0 base W ρ os σ->Dw n0 S s->ZJ X n0 base S W (X7 test body n σ S) (Xu testV bodyV n ρ os s)
 |0,S,W,ρ,os,σ,s,he,w=>by rw[Xu];exact aA
 |n+1,S,W,ρ,os,σ,s,he,w=>by
  rw[X7,Xu];refine ZJ.bindE (ht S W ρ os σ s he w) λb' b S1 s1 x1 w1 r1=>?_
  have r1:=r1;subst r1;have he1:=he.ext x1;cases b' with
  |false=>exact ZJ.nx w1 WExt.refl he1
  |true=>
   have h1:=hb S1 W ρ os σ s1 he1 w1;show ZJ X n0 base S1 W (match body σ S1 with
    |.ok (.nx σ') S'=>X7 test body n σ' S'
    |.ok (.cnt σ') S'=>X7 test body n σ' S'
    |.ok (.brk σ') S'=>.ok (.nx σ') S'
    |.ok (.ret d) S'=>.ok (.ret d) S'
    |.ex c S'=>.ex c S'
    |.no=>.no) ((bodyV ρ os s1).bind _)
   cases q:bodyV ρ os s1 with
   |no=>exact aA
   |ex c s2=>rw[q]at h1;obtain⟨S2,e,x2,w2⟩:=h1;rw[e];exact⟨S2,rfl,x2,w2⟩
   |ok f s2=>
    rw[q]at h1;obtain⟨g,S2,e,x2,w2,fr⟩:=h1;rw[e];cases f with
    |nx ρ1 os1=>cases g with|nx σ1=>obtain⟨W1,wx1,he2⟩:=fr;exact ZJ.from x2 wx1<|U5 ht hb n S2 W1 ρ1 os1 σ1 s2 he2 w2|_=>exact fr.elim
    |cnt ρ1 os1=>cases g with|cnt σ1=>obtain⟨W1,wx1,he2⟩:=fr;exact ZJ.from x2 wx1<|U5 ht hb n S2 W1 ρ1 os1 σ1 s2 he2 w2|_=>exact fr.elim
    |brk ρ1 os1=>cases g with|brk σ1=>exact⟨_,S2,rfl,x2,w2,fr⟩|_=>exact fr.elim
    |ret v1=>cases g with|ret d1=>exact⟨_,S2,rfl,x2,w2,fr⟩|_=>exact fr.elim
mutual
theorem Zgj(H:Z3 n0 C CV)(ms:List Nat):∀(m:Sm){W:Own}{ρ:Env}{os:List Nat}{σ:Lc}{S:Zc}{s:DS},Eu S X n0 base W ρ os σ->Dw n0 S s->ZJ X n0 base S W (run C m σ S) (rv CV ms m ρ os s)
 |.asg t e,W,ρ,os,σ,S,s,he,w=>by
  rw[run];have gen:∀t:List Nat,ZJ X n0 base S W ((ev C e σ S).bind λx S=>(ob (assign t x S σ) S).bind λσ S=>.ok (.nx σ) S) ((pvA CV e ρ os s).bind λv s=>if(t.any os.contains)=ah then .no else(po (ZA t v ρ) s).bind λρ s=>.ok (.nx ρ os) s):=by
   intro t;refine ZJ.bindE (Zfe H e he w) λd v S1 s1 x1 w1 r1=>?_
   by_cases c:(t.any os.contains)=ah
   ·rw[T9 c];exact aA
   ·rw[T8 c]
    cases q:ZA t v ρ with
    |none=>exact aA
    |some ρ1=>
     obtain⟨σ1,e1,he1⟩:=(he.ext x1).assign (by simpa using c) r1 q
     rw[e1];exact ZJ.nx w1 WExt.refl he1
  match t with
  |[i]=>exact qL H ms i e he w
  |[]=>exact gen []
  |i::j::t=>exact gen (i::j::t)
 |.par t es,W,ρ,os,σ,S,s,he,w=>by
  rw[run,rv];refine ZJ.bindE (Zf3 H es he w) λds vs S1 s1 x1 w1 r1=>?_
  by_cases c:(t.any os.contains)=ah
  ·rw[T9 c];exact aA
  ·rw[T8 c]
   cases q:YL t vs ρ with
   |none=>exact aA
   |some ρ1=>
    obtain⟨σ1,e1,he1⟩:=(he.ext x1).fill (by simpa using c) r1 q
    rw[e1];exact ZJ.nx w1 WExt.refl he1
 |.aug i op e,W,ρ,os,σ,S,s,he,w=>by
  rw[run,rv];by_cases c:os.contains i=ah
  ·rw[T9 c];exact aA
  ·rw[T8 c]
   cases q:(ρ[i]?).join with
   |none=>exact aA
   |some x=>
    have q':ρ[i]?=aa (aa x):=by
     cases q2:ρ[i]? with|none=>rw[q2]at q;cases q|some o=>rw[q2]at q;have q:o=aa x:=q;rw[q]
    obtain⟨d,e1,r1⟩:=he.all.val i x q';rw[e1];show ZJ X n0 base S W ((ev C e σ S).bind λy S=>(Jh op d y S).bind λz S=>.ok (.nx<|σ.set i<|aa z) S) ((pv CV e ρ s).bind λy s=>(uZ op x y s).bind λz s=>.ok (.nx (ρ.set i<|aa z) os) s)
    refine ZJ.bindE (Z0 H e he.xok he.all w) λdy y S1 s1 x1 w1 r2=>?_
    have he1:=he.ext x1;have hs:=Zcm (op:=op) he1.xok w1 (r1.ext he.xok x1) r2;cases q3:uZ op x y s1 with
    |no=>exact aA
    |ex c s2=>rw[q3]at hs;obtain⟨S2,e2,x2,w2⟩:=hs;rw[e2];exact⟨S2,rfl,x2.s,w2⟩
    |ok z s2=>
     rw[q3]at hs;obtain⟨dz,S2,e2,x2,w2,r3⟩:=hs;obtain⟨k,rfl⟩:=Zc7 q3;cases Rep.int' r3;rw[e2];exact ZJ.from x2.s WExt.refl (ZJ.nx w2 WExt.refl<|(he1.ext x2).set (by simpa using c)<|Zq k)
 |.put o k e,W,ρ,os,σ,S,s,he,w=>by
  rw[run];cases o with|v i=>exact Zb0 H i k e he w|_=>exact aA
 |.ret e,W,ρ,os,σ,S,s,he,w=>by
  rw[run,rv];exact ZJ.bindE (Z0 H e he.xok he.all w) λd v S1 s1 x1 w1 r1=>⟨_,S1,rfl,Ext.refl.s,w1,r1⟩
 |.ex e,W,ρ,os,σ,S,s,he,w=>by
  rw[run];cases e with
  |mt m o as=>
   have no:∀{q:PR FlV},q=(pv CV (.mt m o as) ρ s).bind (λ_ s=>.ok (.nx ρ os) s)->ZJ X n0 base S W ((ev C (.mt m o as) σ S).bind λ_ S=>.ok (.nx σ) S) q:=λ{q} h=>by rw[h];exact Zdf H _ he w
   cases m with
   |extend=>cases o with
    |v i=>match as with
     |[e]=>exact wa H i e he w
     |[]=>exact no rfl
     |_::_::_=>exact no rfl
    |_=>exact no rfl
  |_=>exact Zdf H _ he w
 |.ite t a b,W,ρ,os,σ,S,s,he,w=>by
  rw[run,rv];refine ZJ.bindE (Zar H t he w) λc' c S1 s1 x1 w1 r1=>?_
  have r1:=r1;subst r1;cases c' with|true=>exact Uj H ms a (he.ext x1) w1|false=>exact Uj H ms b (he.ext x1) w1
 |.forr t it b,W,ρ,os,σ,S,s,he,w=>by
  rw[run,rv];refine ZJ.bindE (Ze3 H it he.xokW he.hid w) λwk vs S1 s1 x1 w1 r1=>?_
  have he1:=he.ext x1;refine xQ (λp hp=>r1.2 p hp) he.xz (λx d S W ρ os σ s he w r=>?_) vs wk.items S1 W ρ os σ s1 r1.1 Ext.refl.s WExt.refl he1 w1
  by_cases c:(t.any os.contains)=ah
  ·rw[T9 c];exact aA
  ·rw[T8 c]
   by_cases c2:(os.isEmpty||x.flat)=ah
   ·rw[T9 c2]
    have r':Rep S (XW X W) n0 x d:=by
     rcases(gz _ _).mp c2 with c3|c3
     ·have:os=[]:=by simpa using c3
      subst this;exact r.mono (λ_ _ _ z=>z) λn _ z=>z.elim id λ⟨i,z⟩=>by rw[he.noW i]at z;cases z
     ·rw[VD c3 r];exact UL c3
    cases q:ZA t x ρ with
    |none=>exact aA
    |some ρ1=>
     obtain⟨σ1,e1,he2⟩:=he.assign (by simpa using c) r' q
     rw[e1];exact Uj H ms b he2 w
   ·rw[T8 c2];exact aA
 |.whl t b,W,ρ,os,σ,S,s,he,w=>by
  rw[run,rv];exact U5 (λS W ρ os σ s he w=>Zar H t he w) (λS W ρ os σ s he w=>Uj H ms b he w) VL S W ρ os σ s he w
 |.raise c as,W,ρ,os,σ,S,s,he,w=>by
  rw[run,rv];exact ZJ.bindE (WR H as he.xok he.all w) λd v S1 s1 x1 w1 r1=>⟨S1,rfl,Ext.refl.s,w1⟩
 |.brk,W,ρ,os,σ,S,s,he,w=>by rw[run,rv];exact⟨_,S,rfl,Ext.refl.s,w,W,WExt.refl,he⟩
 |.cnt,W,ρ,os,σ,S,s,he,w=>by rw[run,rv];exact⟨_,S,rfl,Ext.refl.s,w,W,WExt.refl,he⟩
 |.mov i j,W,ρ,os,σ,S,s,he,w=>by rw[run,rv];exact Zcf i j he w
theorem Uj(H:Z3 n0 C CV)(ms:List Nat):∀(l:List Sm){W:Own}{ρ:Env}{os:List Nat}{σ:Lc}{S:Zc}{s:DS},Eu S X n0 base W ρ os σ->Dw n0 S s->ZJ X n0 base S W (runs C l σ S) (rvs CV ms l ρ os s)
 |[],W,ρ,os,σ,S,s,he,w=>by rw[runs,rvs];exact ZJ.nx w WExt.refl he
 |m::l,W,ρ,os,σ,S,s,he,w=>by
  rw[runs,rvs];have h1:=Zgj H ms m he w;cases q:rv CV ms m ρ os s with
  |no=>exact aA
  |ex c s1=>rw[q]at h1;obtain⟨S1,e,x1,w1⟩:=h1;rw[e];exact⟨S1,rfl,x1,w1⟩
  |ok f s1=>
   rw[q]at h1;obtain⟨g,S1,e,x1,w1,fr⟩:=h1;rw[e];cases f with
   |nx ρ1 os1=>cases g with|nx σ1=>obtain⟨W1,wx1,he1⟩:=fr;exact ZJ.from x1 wx1<|Uj H ms l he1 w1|_=>exact fr.elim
   |cnt ρ1 os1=>cases g with|cnt σ1=>exact⟨_,S1,rfl,x1,w1,fr⟩|_=>exact fr.elim
   |brk ρ1 os1=>cases g with|brk σ1=>exact⟨_,S1,rfl,x1,w1,fr⟩|_=>exact fr.elim
   |ret v1=>cases g with|ret d1=>exact⟨_,S1,rfl,x1,w1,fr⟩|_=>exact fr.elim
end
end
noncomputable def W8:Fn:=⟨2,4,
 [.ite (.ix (.v 0)<|.c<|.int 1) [.asg [2]<|.bin .mod (.ix (.v 0)<|.c<|.int 0)<|.v 1,
  .put (.v 0) (.c<|.int 0) (.bin .fdiv (.ix (.v 0)<|.c<|.int 0)<|.v 1),
  .ret (.v 2)] [],
  .put (.v 0) (.c<|.int 0) (.bin .mod (.bin .add (.bin .mul (.ix (.v 0)<|.c<|.int 0)<|.c<|.int 48271)<|.c<|.int 29)<|.c<|.int 2147483647),
  .asg [3] (.bin .mod (.bin .add (.bin .add (.bin .mul (.ix (.v 0)<|.c<|.int 0)<|.ix (.v 0)<|.c<|.int 0)<|.bin .mul (.c<|.int 39373)<|.ix (.v 0)<|.c<|.int 0)<|.c<|.int 7)<|.c<|.int 2147483629),
  .asg [3] (.bin .mod (.bin .add (.bin .mul (.v 3)<|.v 3)<|.bin .mul (.c<|.int 16807)<|.v 3)<|.c<|.int 2147483587),
  .ret (.bin .mod (.bin .fdiv (.v 3)<|.c<|.int 8)<|.v 1)]⟩
def WH(h0:0<=a)(h:a<4294967296):fits a=ah:=by
 refine T5 ?_;have h1:a.natAbs<2^32:=by omega
 exact aQ h1<|dP (by decide)<|by decide
def evT:(∀a b S,Yx .add (.int a) (.int b) S=.ok (.int<|a+b) S)/\(∀a b S,Yx .mul (.int a) (.int b) S=if(fits a&&fits b)=ah then .ok (.int<|a*b) S else .no)/\(∀a b S,Yx .fdiv (.int a) (.int b) S=if 0<b/\b<big then .ok (.int<|a / b) S else .no)/\(∀a b S,Yx .mod (.int a) (.int b) S=if 0<b then .ok (.int<|a%b) S else .no)/\(∀S b,Yc S (.bl b)=aa b)/\(∀i x S σ,assign [i] x S σ=aa (σ.set i<|aa x)):=
 ⟨λ_ _ _=>rfl,λ_ _ _=>rfl,λ_ _ _=>rfl,λ_ _ _=>rfl,λ_ _=>rfl,λ_ _ _ _=>rfl⟩
def Uz(h:S[n]?=aa (.lst xs)):wW (.loc n) (.int i) S=ob (at' xs i) S:=by
 have e:Yd S n=aa xs:=by unfold Yd;rw[h]
 show(match Yd S n with|some xs=>ob (at' xs i) S|none=>.no)=_
 rw[e]
def wn(h:S[n]?=aa (.lst xs)):JL (.loc n) (.int i) v S=(ob (ixN xs.length i) S).bind λj S=>.ok () (S.set n<|.lst<|xs.set j v):=by
 show(match S[n]? with|some (.lst xs)=>(ob (ixN xs.length i) S).bind λj S=>.ok ()<|S.set n<|.lst<|xs.set j v|_=>.no)=_
 rw[h]
def lt8:(8:Int)<big:=ZaQ (by decide)
def Zc1(hF:F[tk]?=aa W8)(h:Dw n0 S s)(m0:0<m)(m1:m<1073741824) :
  ∃S',Zt F (d+1) tk [.loc n0,.int m] S=.ok (.int (Yw s m).1) S'/\Ext n0 S S'/\Dw n0 S' (Yw s m).2:=by
 obtain⟨a,b⟩:=s;obtain⟨hs,ha,hb⟩:=h;simp only at hs ha hb;have hn:=YJ hs;have hx:∀o,Ext n0 S (S.set n0 o):=λo=>⟨by simp,λn o' z e=>by rw[aH<|Ne.symm z];exact e⟩
 have hset:∀o,(S.set n0 o)[n0]?=aa o:=λo=>aS hn
 rw[Zt,hF];cases b with
 |true=>
  refine⟨S.set n0<|.lst [.int<|a / m,.bl ah],?_,hx _,hset _,?_,by simp[Yw]⟩
  ·simp[W8,Yw,Ev.runs,Ev.run,Ev.ev.eq_1,Ev.ev.eq_2,Ev.ev.eq_7,Ev.ev.eq_15,Ev.tst,Ev.R.bind,Ev.ob,evT,Ev.start,Uz hs,wn hs,Uz<|hset _,hs,at',ixN,m0,m1,ZaQ m1]
  ·simp only[Yw,if_true]
   exact Int.ediv_nonneg ha (by omega)
 |false=>
  have hb:=hb rfl;have h1:=WH ha (by omega)
  have x0:0<=(a*48271+29)%2147483647:=by omega
  have x1:(a*48271+29)%2147483647<2147483647:=by omega
  generalize hxx:(a*48271+29)%2147483647=x at x0 x1;have y0:0<=(x*x+39373*x+7)%2147483629:=by omega
  have y1:(x*x+39373*x+7)%2147483629<2147483629:=by omega
  generalize hyy:(x*x+39373*x+7)%2147483629=y at y0 y1;refine⟨S.set n0<|.lst [.int x,.bl ai],?_,hx _,by simp only[Yw,bQ,if_false,hxx];exact hset _,by simp only[Yw,bQ,if_false,hxx];exact x0,by simp only[Yw,bQ,if_false,hxx];exact λ_=>x1⟩
  have f1:=WH x0 (by omega)
  have f2:=WH y0 (by omega)
  have f3:fits 48271=ah:=WH (by omega) (by omega)
  have f4:fits 39373=ah:=WH (by omega) (by omega)
  have f5:fits 16807=ah:=WH (by omega) (by omega)
  clear hn;simp[W8,Yw,Ev.runs,Ev.run,Ev.ev.eq_1,Ev.ev.eq_2,Ev.ev.eq_7,Ev.ev.eq_15,Ev.tst,Ev.R.bind,Ev.ob,evT,Ev.start,Uz hs,wn hs,Uz<|hset _,hs,at',ixN,m0,m1,lt8,h1,hxx,hyy,f1,f2,f3,f4,f5,hset]
def ZaA{X:Nat->Prop}(n:Nat)(xo:Xok X n0 S)(rs:Rq S X n0 vs ds):Eu S X n0 S.length (λ_=>ac) (Xz n vs) [] (start n ds):=by
 refine⟨xo.z,xo.lt,aB _,by unfold Xz start;simp[rs.length],λi=>rfl,λi j n h=>(by cases h),λi n h=>(by cases h),λi n h=>(by cases h),λi v e _=>?_⟩
 unfold Xz at e;unfold start;by_cases c:i<vs.length
 ·rw[aO<|by simpa using c,aX]at e
  rw[aO<|by simpa[rs.length]using c,aX]
  cases q:vs[i]? with
  |none=>rw[q]at e;cases e
  |some u=>
   rw[q]at e;have e:=ak e;cases e;obtain⟨d,a,b⟩:=rs.get q;rw[a];exact⟨d,rfl,b.mono (λ_ _ _ z=>z) λn _ z=>z.elim id λ⟨_,z⟩=>by cases z⟩
 ·rw[bj<|by simpa using df c,bI]at e
  split at e<;>cases e
theorem Qo(hF:F[tk]?=aa W8):∀d,Z3 n0 (Zt F d) (ZL F tk d)
 |0,f,vs,ds,S,s,X,xo,w,rs=>by rw[ZL];exact aA
 |d+1,f,vs,ds,S,s,X,xo,w,rs=>by
  rw[ZL];by_cases c:f=tk
  ·rw[T9 c]
   subst c
   match vs,rs with
   |[.drw,.int m],rs=>
    show Sim n0 S (RlV X n0) _ (if 0<m/\m<1073741824 then .ok (.int (Yw s m).1) (Yw s m).2 else .no)
    by_cases c2:0<m/\m<1073741824
    ·rw[T9 c2]
     obtain⟨d1,es,rfl,r1,r2⟩:=rs.cons';obtain⟨d2,es2,rfl,r3,r4⟩:=r2.cons';cases r4.nil';cases r1.drw';cases r3.int';obtain⟨S',e,x,w'⟩:=Zc1 hF w c2.1 c2.2;exact⟨_,S',e,x,w',Zq _⟩
    ·rw[T8 c2];exact aA
   |[],_=>exact aA
   |[_],_=>unfold Zat;split<;>first|exact aA|(rename_i h;cases h)
   |a::b::c::l,_=>unfold Zat;split<;>first|exact aA|(rename_i h;cases h)
   |[.non,_],_|[.bl _,_],_|[.int _,_],_|[.str _,_],_|[.tup _,_],_|[.lst _,_],_|[.dct _,_],_=>exact aA
   |[.drw,.non],_|[.drw,.bl _],_|[.drw,.str _],_|[.drw,.tup _],_|[.drw,.lst _],_|[.drw,.drw],_|[.drw,.dct _],_=>exact aA
  ·rw[T8 c,Zt]
   cases q:F[f]? with
   |none=>exact aA
   |some fn=>
    rw[rs.length];refine Sim.guard λ_=>?_
    have h1:=Uj (Qo hF d) (muts fn.body) fn.body (ZaA fn.ns xo rs) w;have ex:∀{S':Zc},ExtS n0 (λ_=>ac) S S'->Ext n0 S S':=λ{S'} x=>⟨x.len,λn o a b=>x.keep n o a (λi z=>by cases z) b⟩
    cases q2:rvs (ZL F tk d) (muts fn.body) fn.body (Xz fn.ns vs) [] s with
    |no=>exact aA
    |ex c s1=>rw[q2]at h1;obtain⟨S1,e,x1,w1⟩:=h1;rw[e];exact⟨S1,rfl,ex x1,w1⟩
    |ok g s1=>
     rw[q2]at h1;obtain⟨g',S1,e,x1,w1,fr⟩:=h1;rw[e];cases g with
     |nx ρ1 os1=>cases g' with|nx σ1=>exact⟨.non,S1,rfl,ex x1,w1,YT⟩|_=>exact fr.elim
     |ret v1=>cases g' with|ret d1=>exact⟨d1,S1,rfl,ex x1,w1,fr⟩|_=>exact fr.elim
     |brk _ _=>exact aA
     |cnt _ _=>exact aA
end Pv
namespace La
variable{F:Type}[gE F]
noncomputable abbrev Vec(F:Type):=Nat->F
noncomputable abbrev Pt(F:Type):=List<|Nat×Vec F
noncomputable def pr:Pt F->Vec F->Vec F
 |[],_,_=>0
 |a::P,v,j=>v a.1*a.2 j+pr P v j
structure Rf(P:Pt F):Prop where
 inc:P.Pairwise λa b=>a.1<b.1
 low:∀a∈P,∀j,j<a.1->a.2 j=0
 one:∀a∈P,a.2 a.1=1
 zer:∀a∈P,∀b∈P,a.1≠b.1->b.2 a.1=0
def Mem(P:Pt F)(v:Vec F):Prop:=∀j,v j=pr P v j
def ZeD(P:Pt F)(u v:Vec F)(c:F)(j:Nat):pr P (λj=>u j+c*v j) j=pr P u j+c*pr P v j:=by
 induction P with|nil=>show(0:F)=0+c*0;grind|cons a P ih=>show(u a.1+c*v a.1)*a.2 j+pr P _ j=(u a.1*a.2 j+pr P u j)+c*(v a.1*a.2 j+pr P v j);grind
def Gh(P:Pt F)(u v:Vec F)(c:F)(j:Nat):pr P (λj=>u j-c*v j) j=pr P u j-c*pr P v j:=by
 induction P with|nil=>show(0:F)=0-c*0;grind|cons a P ih=>show(u a.1-c*v a.1)*a.2 j+pr P _ j=(u a.1*a.2 j+pr P u j)-c*(v a.1*a.2 j+pr P v j);grind
def ZaR{P:Pt F}{u v:Vec F}(h:∀b∈P,u b.1=v b.1)(j:Nat):pr P u j=pr P v j:=by
 induction P with
 |nil=>rfl
 |cons a P ih=>
  show u a.1*a.2 j+pr P u j=v a.1*a.2 j+pr P v j;rw[h a<|am ..,ih λb hb=>h b<|al _ hb]
def X3{P:Pt F}{v:Vec F}{j:Nat}(h:∀b∈P,v b.1*b.2 j=0):pr P v j=0:=by
 induction P with
 |nil=>rfl
 |cons a P ih=>
  show v a.1*a.2 j+pr P v j=0;rw[h a<|am ..,ih λb hb=>h b<|al _ hb];grind
def vc{P:Pt F}{v:Vec F}{j:Nat}{a:Nat×Vec F}(inc:P.Pairwise λa b=>a.1<b.1)(ha:a∈P)(h:∀b∈P,b.1≠a.1->v b.1*b.2 j=0):pr P v j=v a.1*a.2 j:=by
 induction P with
 |nil=>cases ha
 |cons b P ih=>
  rw[bg]at inc;show v b.1*b.2 j+pr P v j=_;rcases az.mp ha with e|hm
  ·subst e
   rw[X3 λc hc=>h c (al _ hc)<|by grind];grind
  ·grind
def Rf.tail{a:Nat×Vec F}{P:Pt F}(h:Rf (a::P)):Rf P:=
 ⟨(bg.mp h.inc).2,λb hb=>h.low b<|al _ hb,λb hb=>h.one b<|al _ hb,λb hb c hc=>h.zer b (al _ hb) c<|al _ hc⟩
def Rf.nil:Rf ([]:Pt F):=⟨im,λ_ h=>(by cases h),λ_ h=>(by cases h),λ_ h=>(by cases h)⟩
def GZ{P:Pt F}(h:Rf P){a:Nat×Vec F}(ha:a∈P)(v:Vec F):pr P v a.1=v a.1:=by
 rw[vc h.inc ha λb hb ne=>by rw[h.zer a ha b hb<|Ne.symm ne];grind,h.one a ha];grind
def X1{P:Pt F}(h:Rf P){a:Nat×Vec F}(ha:a∈P):Mem P a.2:=λj=>by
 rw[vc h.inc ha λb hb ne=>by rw[h.zer b hb a ha ne];grind,h.one a ha];grind
def Xn(c:F)(hu:Mem P u)(hv:Mem P v):Mem P λj=>u j+c*v j:=λj=>by
 rw[ZeD,<-hu j,<-hv j]
def Vq(c:F)(hu:Mem P u)(hv:Mem P v):Mem P λj=>u j-c*v j:=λj=>by
 rw[Gh,<-hu j,<-hv j]
def XT{P:Pt F}:Mem P λ_=>0:=λj=>(X3 λb _=>by grind).symm
def yS{P:Pt F}(h:Rf P)(v:Vec F):Mem P (pr P v):=λj=>ZaR (λb hb=>(GZ h hb v).symm) j
def ye{P:Pt F}{v:Vec F}(h:Mem P v)(z:∀b∈P,v b.1=0)(j:Nat):v j=0:=by
 rw[h j];exact X3 λb hb=>by rw[z b hb];grind
def Zaz{P:Pt F}(h:Rf P){v:Vec F}(hv:Mem P v){k:Nat}(hk:v k≠0)(hl:∀j,j<k->v j=0):∃a∈P,a.1=k:=by
 have inc:=h.inc;have low:=h.low;have gen:∀Q:Pt F,Q.Pairwise (λa b=>a.1<b.1)->(∀a∈Q,∀j,j<a.1->a.2 j=0)->(∀j,v j=pr Q v j)->∃a∈Q,v a.1≠0/\∀j,j<a.1->v j=0:=by
  intro Q
  induction Q with
  |nil=>intro _ _ e;exact T7 (e k) hk
  |cons a Q ih=>
   intro inc low e;rw[bg]at inc;by_cases c:v a.1=0
   ·obtain⟨b,hb,r⟩:=ih inc.2 (λb hb=>low b<|al _ hb) λj=>by
     have:v j=v a.1*a.2 j+pr Q v j:=e j;rw[c]at this;grind
    exact⟨b,al _ hb,r⟩
   ·refine⟨a,am ..,c,λj hj=>?_⟩
    have e1:v j=v a.1*a.2 j+pr Q v j:=e j;have e2:pr Q v j=0:=X3 λb hb=>by rw[low b (al _ hb) j (by have:=inc.1 b hb;omega)];grind
    rw[e1,e2,low a (am ..) j hj];grind
 obtain⟨a,ha,h1,h2⟩:=gen P inc low hv;refine⟨a,ha,?_⟩;by_cases c:a.1<k
 ·grind
 ·grind
def VR{P Q:Pt F}(one0:(1:F)≠0)(hP:Rf P)(hQ:Rf Q)(h:∀v,Mem P v->Mem Q v):∀a∈P,∃b∈Q,b.1=a.1:=λa ha=>
 Zaz hQ (h _<|X1 hP ha) (by rw[hP.one a ha];exact one0) (hP.low a ha)
theorem xC:∀{a b:List Nat},a.Pairwise (· < ·)->b.Pairwise (· < ·)->(∀x,x∈a↔x∈b)->a=b
 |[],[],_,_,_=>rfl
 |[],y::b,_,_,h=>by have:=(h y).mpr<|am ..;cases this
 |x::a,[],_,_,h=>by have:=(h x).mp<|am ..;cases this
 |x::a,y::b,ha,hb,h=>by
  rw[bg]at ha hb;have e:x=y:=by
   rcases az.mp ((h x).mp<|am ..)with e|e
   ·exact e
   ·rcases az.mp ((h y).mpr<|am ..)with e'|e'
    ·exact e'.symm
    ·grind
  subst e;rw[xC ha.2 hb.2 λz=>?_]
  constructor
  ·grind
  ·grind
theorem J8:∀{a b:List Nat},a.Pairwise (· < ·)->b.Pairwise (· < ·)->(∀x∈a,x∈b)->a.length<=b.length/\(a.length=b.length->a=b)
 |[],b,_,_,_=>⟨dL _,λe=>(dW.mp e.symm).symm⟩
 |x::a,[],_,_,h=>by have:=h x<|am ..;cases this
 |x::a,y::b,ha,hb,h=>by
  have ha':=ha;rw[bg]at ha hb;by_cases e:x=y
  ·subst e
   obtain⟨h1,h2⟩:=J8 ha.2 hb.2 λz hz=>by
    rcases az.mp (h z<|al _ hz)with e|e
    ·grind
    ·exact e
   refine⟨by simp only[aP];omega,λe=>?_⟩
   rw[h2<|by simpa using e]
  ·have hxb:x∈b:=by
    rcases az.mp (h x<|am ..)with e'|e'
    ·exact T7 e' e
    ·exact e'
   have:=hb.1 x hxb;obtain⟨h1,h2⟩:=J8 ha' hb.2 λz hz=>by grind
   simp only[aP]at h1 ⊢;exact⟨by omega,λe=>by omega⟩
def Rf.heads{P:Pt F}(h:Rf P):(P.map (·.1)).Pairwise (· < ·):=cU.mpr h.inc
def Za3{P Q:Pt F}(one0:(1:F)≠0)(hP:Rf P)(hQ:Rf Q)(h:∀v,Mem P v->Mem Q v):P.length<=Q.length/\(P.length=Q.length->∀v,Mem Q v->Mem P v):=by
 obtain⟨h1,h2⟩:=J8 hP.heads hQ.heads λx hx=>by
  obtain⟨a,ha,rfl⟩:=aK.mp hx;obtain⟨b,hb,e⟩:=VR one0 hP hQ h a ha;exact aK.mpr ⟨b,hb,e⟩
 rw[aF,aF]at h1 h2;refine⟨h1,λe v hv=>?_⟩
 have eh:=h2 e;have hd:=Vq 1 hv<|h _<|yS hP v
 have z:=λj=>ye hd (λb hb=>by
  have:b.1∈P.map (·.1):=by grind
  obtain⟨a,ha,ea⟩:=aK.mp this;rw[<-ea,GZ hP ha v];grind) j
 intro j;have:=z j
 grind
def uniq{P Q:Pt F}(one0:(1:F)≠0)(hP:Rf P)(hQ:Rf Q)(h:∀v,Mem P v↔Mem Q v):P=Q:=by
 have eh:=xC hP.heads hQ.heads λx=>by
  constructor
  ·intro hx
   obtain⟨a,ha,rfl⟩:=aK.mp hx;obtain⟨b,hb,e⟩:=VR one0 hP hQ (λv=>(h v).mp) a ha
   exact aK.mpr ⟨b,hb,e⟩
  ·intro hx
   obtain⟨a,ha,rfl⟩:=aK.mp hx;obtain⟨b,hb,e⟩:=VR one0 hQ hP (λv=>(h v).mpr) a ha
   exact aK.mpr ⟨b,hb,e⟩
 have ev:∀a∈P,∀b∈Q,a.1=b.1->a.2=b.2:=by
  intro a ha b hb e;have hd:=Vq 1 (X1 hP ha)<|(h _).mpr<|X1 hQ hb
  funext j
  have:=ye hd (λc hc=>by
   have:c.1∈Q.map (·.1):=by grind
   obtain⟨c',hc',ec⟩:=aK.mp this;by_cases z:c.1=a.1
   ·rw[z,hP.one a ha,e,hQ.one b hb];grind
   ·rw[hP.zer c hc a ha z,<-ec,hQ.zer c' hc' b hb<|by omega];grind) j
  grind
 clear h hP hQ
 induction P generalizing Q with
 |nil=>cases Q with|nil=>rfl|cons b Q=>cases eh
 |cons a P ih=>cases Q with|nil=>cases eh|cons b Q=>grind
noncomputable def ins(x:Nat×Vec F):Pt F->Pt F
 |[]=>[x]
 |y::P=>if x.1<y.1 then x::y::P else y::ins x P
theorem YE(x:Nat×Vec F):∀P:Pt F,(ins x P).Perm (x::P)
 |[]=>dZ _
 |y::P=>by
  unfold ins;split
  ·exact dZ _
  ·exact((YE x P).cons y).trans<|kC x y P
theorem wH(x:Nat×Vec F):∀{P:Pt F},P.Pairwise (λa b=>a.1<b.1)->(∀a∈P,a.1≠x.1)->(ins x P).Pairwise λa b=>a.1<b.1
 |[],_,_=>by exact iN ..
 |y::P,h,hn=>by
  have h':=bg.mp h;unfold ins;split
  ·rename_i c
   refine bg.mpr ⟨λz hz=>?_,h⟩
   rcases az.mp hz with rfl|hz
   ·exact c
   ·grind
  ·rename_i c
   refine bg.mpr ⟨λz hz=>?_,wH x h'.2 λa ha=>hn a<|al _ ha⟩
   rcases az.mp ((YE x P).mem_iff.mp hz)with rfl|hz
   ·grind
   ·exact h'.1 z hz
theorem Zaw(x:Nat×Vec F)(v:Vec F)(j:Nat):∀P:Pt F,pr (ins x P) v j=v x.1*x.2 j+pr P v j
 |[]=>rfl
 |y::P=>by
  unfold ins;split
  ·rfl
  ·show v y.1*y.2 j+pr (ins x P) v j=v x.1*x.2 j+(v y.1*y.2 j+pr P v j)
   rw[Zaw x v j P];grind
noncomputable def off(h:Nat)(l:Vec F)(a:Nat×Vec F):Nat×Vec F:=(a.1,λj=>a.2 j-a.2 h*l j)
noncomputable def wid(P:Pt F)(h:Nat)(l:Vec F):Pt F:=ins (h,l)<|P.map<|off h l
theorem qQ(h:Nat)(l v:Vec F)(j:Nat):∀P:Pt F,pr (P.map<|off h l) v j=pr P v j-pr P v h*l j
 |[]=>by show(0:F)=0-0*l j;grind
 |a::P=>by
  show v a.1*(a.2 j-a.2 h*l j)+pr (P.map<|off h l) v j=(v a.1*a.2 j+pr P v j)-(v a.1*a.2 h+pr P v h)*l j;rw[qQ h l v j P];grind
structure Lead(P:Pt F)(h:Nat)(l:Vec F):Prop where
 one:l h=1
 low:∀j,j<h->l j=0
 zer:∀a∈P,l a.1=0
def Lead.ne{P:Pt F}{h:Nat}{l:Vec F}(one0:(1:F)≠0)(L:Lead P h l){a:Nat×Vec F}(ha:a∈P):a.1≠h:=λe=>by
 have:=L.zer a ha;rw[e,L.one]at this;exact one0 this
def Zaq{P:Pt F}{h:Nat}{l:Vec F}(one0:(1:F)≠0)(hP:Rf P)(L:Lead P h l):Rf (wid P h l):=by
 have mem:∀{x},x∈wid P h l->x=(h,l)\/∃a∈P,x=off h l a:=λ{x} hx=>by
  rcases az.mp ((YE _ _).mem_iff.mp hx)with e|e
  ·exact .inl e
  ·grind
 refine⟨wH _ ?_ ?_,λx hx j hj=>?_,λx hx=>?_,λx hx y hy ne=>?_⟩
 ·exact cU.mpr hP.inc
 ·intro a ha
  obtain⟨b,hb,rfl⟩:=aK.mp ha;exact L.ne (a:=b) one0 hb
 ·rcases mem hx with rfl|⟨a,ha,rfl⟩
  ·exact L.low j hj
  ·show a.2 j-a.2 h*l j=0
   rw[hP.low a ha j hj];by_cases c:h<a.1
   ·rw[hP.low a ha h c];grind
   ·have:j<a.1:=hj
    rw[L.low j<|by grind];grind
 ·rcases mem hx with rfl|⟨a,ha,rfl⟩
  ·exact L.one
  ·show a.2 a.1-a.2 h*l a.1=1
   rw[hP.one a ha,L.zer a ha];grind
 ·rcases mem hx with rfl|⟨a,ha,rfl⟩
  ·rcases mem hy with rfl|⟨b,hb,rfl⟩
   ·grind
   ·show b.2 h-b.2 h*l h=0
    rw[L.one];grind
  ·rcases mem hy with rfl|⟨b,hb,rfl⟩
   ·exact L.zer a ha
   ·show b.2 a.1-b.2 h*l a.1=0
    rw[hP.zer a ha b hb ne,L.zer a ha];grind
def ZbY(P:Pt F)(h:Nat)(l:Vec F):(wid P h l).length=P.length+1:=by
 have:=(YE (h,l)<|P.map<|off h l).length_eq;rw[aP,aF]at this;exact this
def ZbJ{P:Pt F}{h:Nat}{l:Vec F}(hP:Rf P)(L:Lead P h l)(u:Vec F):Mem (wid P h l) u↔∃c,Mem P λj=>u j-c*l j:=by
 have e:∀j,pr (wid P h l) u j=u h*l j+(pr P u j-pr P u h*l j):=λj=>by
  unfold wid;rw[Zaw,qQ]
 have pl:∀j,pr P l j=0:=λj=>X3 λb hb=>by rw[L.zer b hb];grind
 constructor
 ·intro hu
  refine⟨u h-pr P u h,λj=>?_⟩
  rw[Gh,pl];have:=hu j;rw[e j]at this;show u j-(u h-pr P u h)*l j=_
  grind
 ·rintro ⟨c,hc⟩ j
  rw[e j];have h1:=hc j;have h2:u h-c*l h=_:=hc h;rw[Gh,pl]at h1 h2;rw[L.one]at h2
  grind
noncomputable def rest(P:Pt F)(v:Vec F):Vec F:=λj=>v j-pr P v j
def jV(hP:Rf P)(v:Vec F)(ha:a∈P):rest P v a.1=0:=by
 unfold rest;rw[GZ hP ha];grind
def Qe{P:Pt F}{v:Vec F}:(∀j,rest P v j=0)↔Mem P v:=by
 constructor
 ·intro h j;have:=h j;unfold rest at this;grind
 ·intro h j;have:=h j;unfold rest;grind
def w6{P:Pt F}(hP:Rf P){v:Vec F}{h:Nat}{i:F}(hi:i*rest P v h=1)(hl:∀j,j<h->rest P v j=0):Lead P h λj=>i*rest P v j:=
 ⟨hi,λj hj=>by rw[hl j hj];grind,λa ha=>by rw[jV hP v ha];grind⟩
def qS{P:Pt F}(hP:Rf P){v:Vec F}{h:Nat}{i:F}(hi:i*rest P v h=1)(hl:∀j,j<h->rest P v j=0)(u:Vec F) :
  Mem (wid P h λj=>i*rest P v j) u↔∃c,Mem P λj=>u j-c*v j:=by
 rw[ZbJ hP<|w6 hP hi hl]
 constructor
 ·rintro ⟨c,hc⟩
  refine⟨c*i,?_⟩;have:=Vq (c*i) hc<|yS hP v;have e:(λj=>(u j-c*(i*rest P v j))-c*i*pr P v j)=λj=>u j-c*i*v j:=by funext j;unfold rest;grind
  rw[e]at this;exact this
 ·rintro ⟨c,hc⟩
  refine⟨c*rest P v h,?_⟩;have:=Xn c hc<|yS hP v;have e:(λj=>(u j-c*v j)+c*pr P v j)=λj=>u j-c*rest P v h*(i*rest P v j):=by funext j;unfold rest at hi ⊢;grind
  rw[e]at this;exact this
def Zbh(hv:Mem P v)(u:Vec F):Mem P u↔∃c,Mem P λj=>u j-c*v j:=by
 constructor
 ·intro h;exact⟨0,by have:=Vq 0 h hv;exact this⟩
 ·rintro ⟨c,hc⟩
  have:=Xn c hc hv;have e:(λj=>(u j-c*v j)+c*v j)=u:=by funext j;grind
  rw[e]at this;exact this
def Ga(P:Pt F):List (Vec F)->Vec F->Prop
 |[],u=>Mem P u
 |v::vs,u=>∃c,Ga P vs λj=>u j-c*v j
theorem VW(h:∀u,Mem P' u↔∃c,Mem P λj=>u j-c*v j):∀(vs:List (Vec F))(u:Vec F),Ga P' vs u↔Ga P (v::vs) u
 |[],u=>h u
 |w::vs,u=>by
  constructor
  ·rintro ⟨d,hd⟩
   obtain⟨c,hc⟩:=(VW h vs _).mp hd;refine⟨c,d,?_⟩;have e:(λj=>u j-c*v j-d*w j)=λj=>u j-d*w j-c*v j:=by funext j;grind
   rw[e];exact hc
  ·rintro ⟨c,d,hc⟩
   refine⟨d,(VW h vs _).mpr ⟨c,?_⟩⟩;have e:(λj=>u j-d*w j-c*v j)=λj=>u j-c*v j-d*w j:=by funext j;grind
   rw[e];exact hc
def uj(hQ:Rf Q)(u:Vec F):Ga P (Q.map (·.2)) u↔∃q,Mem Q q/\Mem P λj=>u j-q j:=by
 constructor
 ·have gen:∀(ws:List (Vec F))(u:Vec F),(∀w∈ws,Mem Q w)->Ga P ws u->∃q,Mem Q q/\Mem P λj=>u j-q j:=by
   intro ws
   induction ws with
   |nil=>intro u _ h;exact⟨λ_=>0,XT,by
    have e:(λj=>u j-0)=u:=by funext j;grind
    rw[e];exact h⟩
   |cons w ws ih=>
    rintro u hw ⟨c,h⟩
    obtain⟨q,hq,hp⟩:=ih _ (λx hx=>hw x<|al _ hx) h
    refine⟨λj=>q j+c*w j,Xn c hq<|hw w<|am ..,?_⟩
    have e:(λj=>u j-(q j+c*w j))=λj=>u j-c*w j-q j:=by funext j;grind
    rw[e];exact hp
  exact gen _ u λw hw=>by obtain⟨a,ha,rfl⟩:=aK.mp hw;exact X1 hQ ha
 ·rintro ⟨q,hq,hp⟩
  have gen:∀(R:Pt F)(u:Vec F),(Mem P λj=>u j-pr R q j)->Ga P (R.map (·.2)) u:=by
   intro R
   induction R with
   |nil=>
    intro u h;have e:(λj=>u j-pr [] q j)=u:=by funext j;show u j-0=u j;grind
    rw[e]at h;exact h
   |cons a R ih=>
    intro u h;refine⟨q a.1,ih _ ?_⟩;have e:(λj=>u j-q a.1*a.2 j-pr R q j)=λj=>u j-pr (a::R) q j:=by funext j;show _=u j-(q a.1*a.2 j+pr R q j);grind
    rw[e];exact h
  refine gen Q u ?_;have e:(λj=>u j-pr Q q j)=λj=>u j-q j:=by funext j;rw[<-hq j]
  rw[e];exact hp
variable{F:Type}[gE F][DecidableEq F]
def Supp(n:Nat)(v:Vec F):Prop:=∀j,n<=j->v j=0
structure Pn(n:Nat)(P:Pt F):Prop where
 rf:Rf P
 lt:∀a∈P,a.1<n
 sp:∀a∈P,Supp n a.2
theorem Pn.nil{n:Nat}:Pn n ([]:Pt F):=⟨Rf.nil,λ_ h=>(by cases h),λ_ h=>(by cases h)⟩
def vo(h:Pn n P)(v:Vec F):Supp n (pr P v):=λj hj=>X3 λb hb=>by rw[h.sp b hb j hj];grind
def Qz{n:Nat}{P:Pt F}(h:Pn n P){v:Vec F}(hv:Mem P v):Supp n v:=λj hj=>by rw[hv j];exact vo h v j hj
noncomputable def hdV(n:Nat)(v:Vec F):Option Nat:=(aR n).find? λj=>ae<|v j≠0
def j9{n:Nat}{v:Vec F}(hs:Supp n v)(h:hdV n v=ac)(j:Nat):v j=0:=by
 by_cases c:j<n
 ·have:=lu.mp h j (bw.mpr c)
  simpa using this
 ·exact hs j (by omega)
def zJ{n:Nat}{v:Vec F}{k:Nat}(h:hdV n v=aa k):k<n/\v k≠0/\∀j,j<k->v j=0:=by
 unfold hdV at h;rw[iH]at h;obtain⟨h1,h2,h3⟩:=h;refine⟨bw.mp h2,by simpa using h1,λj hj=>?_⟩
 have:=h3 j hj
 simpa using this
def yQ{n:Nat}{v:Vec F}{k:Nat}(hk:k<n)(h1:v k≠0)(h2:∀j,j<k->v j=0):hdV n v=aa k:=by
 unfold hdV;rw[iH];exact⟨by simpa using h1,bw.mpr hk,λj hj=>by grind⟩
structure Fld(inv:F->F):Prop where
 inv:∀a,a≠0->inv a*a=1
 one0:(1:F)≠0
section
variable{inv:F->F}{n:Nat}
noncomputable def more(inv:F->F)(n:Nat)(P:Pt F)(v:Vec F):Pt F:=match hdV n (rest P v)with
 |none=>P
 |some h=>wid P h λj=>inv (rest P v h)*rest P v j
structure Grow(n:Nat)(P:Pt F)(v:Vec F)(P':Pt F):Prop where
 pn:Pn n P'
 mem:∀u,Mem P' u↔∃c,Mem P λj=>u j-c*v j
 same:Mem P v->P'=P
 len:¬Mem P v->P'.length=P.length+1
def GQ(f:Fld inv){P:Pt F}{v:Vec F}(hP:Pn n P)(hv:Supp n v):Grow n P v (more inv n P v):=by
 have hs:Supp n (rest P v):=λj hj=>by unfold rest;rw[hv j hj,vo hP v j hj];grind
 cases q:hdV n (rest P v)with
 |none=>
  have e:more inv n P v=P:=by unfold more;rw[q]
  have hm:=Qe.mp<|j9 hs q;rw[e];exact⟨hP,Zbh hm,λ_=>rfl,λh=>T7 hm h⟩
 |some h=>
  have e:more inv n P v=wid P h λj=>inv (rest P v h)*rest P v j:=by unfold more;rw[q]
  obtain⟨h1,h2,h3⟩:=zJ q;have hi:=f.inv _ h2;have L:=w6 hP.rf hi h3;rw[e];refine⟨⟨Zaq f.one0 hP.rf L,λa ha=>?_,λa ha=>?_⟩,qS hP.rf hi h3,λhm=>T7 (Qe.mpr hm h) h2,λ_=>ZbY ..⟩
  ·rcases az.mp ((YE _ _).mem_iff.mp ha)with e|e
   ·rw[e];exact h1
   ·obtain⟨b,hb,rfl⟩:=aK.mp e
    exact hP.lt b hb
  ·rcases az.mp ((YE _ _).mem_iff.mp ha)with e|e
   ·rw[e];intro j hj
    show inv (rest P v h)*rest P v j=0;rw[hs j hj];grind
   ·obtain⟨b,hb,rfl⟩:=aK.mp e
    intro j hj;show b.2 j-b.2 h*(inv (rest P v h)*rest P v j)=0;rw[hP.sp b hb j hj,hs j hj];grind
noncomputable def QE(inv:F->F)(n:Nat)(P:Pt F)(vs:List (Vec F)):Pt F:=vs.foldl (more inv n) P
theorem Wt(f:Fld inv):∀(vs:List (Vec F)){P:Pt F},Pn n P->(∀v∈vs,Supp n v)->Pn n (QE inv n P vs)/\∀u,Mem (QE inv n P vs) u↔Ga P vs u
 |[],P,hP,_=>⟨hP,λu=>Iff.rfl⟩
 |v::vs,P,hP,hv=>by
  have g:=GQ f hP<|hv v<|am ..;obtain⟨a,b⟩:=Wt f vs g.pn λw hw=>hv w<|al _ hw
  exact⟨a,λu=>(b u).trans<|VW g.mem vs u⟩
noncomputable def join(inv:F->F)(n:Nat)(P Q:Pt F):Pt F:=QE inv n P (Q.map (·.2))
def ZcI(f:Fld inv)(hP:Pn n P)(hQ:Pn n Q):Pn n (join inv n P Q):=(Wt f _ hP λv hv=>by obtain⟨a,ha,rfl⟩:=aK.mp hv;exact hQ.sp a ha).1
def Vb(f:Fld inv)(hP:Pn n P)(hQ:Pn n Q)(u:Vec F):Mem (join inv n P Q) u↔∃q,Mem Q q/\Mem P λj=>u j-q j:=
 ((Wt f _ hP λv hv=>by obtain⟨a,ha,rfl⟩:=aK.mp hv;exact hQ.sp a ha).2 u).trans (uj hQ.rf u)
def Zdx(f:Fld inv){P Q:Pt F}(hP:Pn n P)(hQ:Pn n Q)(h:∀v,Mem P v↔Mem Q v):P=Q:=uniq f.one0 hP.rf hQ.rf h
def sub_self(u:Vec F):(λj=>u j-u j)=λ_=>0:=by funext j;grind
def Jt(f:Fld inv)(hP:Pn n P)(hQ:Pn n Q)(h:Mem P u):Mem (join inv n P Q) u:=
 (Vb f hP hQ u).mpr ⟨λ_=>0,XT,by
   have e:(λj=>u j-0)=u:=by funext j;grind
   rw[e];exact h⟩
def Qj(f:Fld inv)(hP:Pn n P)(hQ:Pn n Q)(h:Mem Q u):Mem (join inv n P Q) u:=
 (Vb f hP hQ u).mpr ⟨u,h,by rw[sub_self];exact XT⟩
def xd(f:Fld inv)(hP:Pn n P)(hQ:Pn n Q)(h1:∀u,Mem P u->Mem R u)(h2:∀u,Mem Q u->Mem R u)(h:Mem (join inv n P Q) u):Mem R u:=by
 obtain⟨q,a,b⟩:=(Vb f hP hQ u).mp h;have:=Xn 1 (h1 _ b)<|h2 _ a;have e:(λj=>u j-q j+1*q j)=u:=by funext j;grind
 rw[e]at this;exact this
noncomputable def sl:List Nat->(Nat->F)->F
 |[],_=>0
 |k::L,g=>g k+sl L g
def XO{L:List Nat}{g g':Nat->F}(h:∀k∈L,g k=g' k):sl L g=sl L g':=by
 induction L with|nil=>rfl|cons k L ih=>show g k+sl L g=g' k+sl L g';rw[h k<|am ..,ih λj hj=>h j<|al _ hj]
def jm(L:List Nat)(g g':Nat->F)(c:F):sl L (λj=>g j-c*g' j)=sl L g-c*sl L g':=by
 induction L with|nil=>show(0:F)=0-c*0;grind|cons k L ih=>show(g k-c*g' k)+sl L _=(g k+sl L g)-c*(g' k+sl L g');rw[ih];grind
def Vl{L:List Nat}{g:Nat->F}(h:∀k∈L,g k=0):sl L g=0:=by
 induction L with|nil=>rfl|cons k L ih=>show g k+sl L g=0;rw[h k<|am ..,ih λj hj=>h j<|al _ hj];grind
def yF{L:List Nat}{g:Nat->F}{k:Nat}(hn:L.Nodup)(hk:k∈L)(h:∀j∈L,j≠k->g j=0):sl L g=g k:=by
 induction L with
 |nil=>cases hk
 |cons m L ih=>
  rw[cp]at hn;show g m+sl L g=_;rcases az.mp hk with e|e
  ·subst e
   rw[Vl λj hj=>h j (al _ hj) λz=>hn.1<|z▸hj];grind
  ·grind
def ZcY(p:Nat->Bool)(L:List Nat)(g:Nat->F):sl L g=sl (L.filter p) g+sl (L.filter λk=>!p k) g:=by
 induction L with
 |nil=>show(0:F)=0+0;grind
 |cons k L ih=>
  rw[iS,iS];show g k+sl L g=_;cases p k with|true=>simp only[if_true,nv,bQ,if_false];show _=g k+sl _ g+_;rw[ih];grind|false=>simp only[bQ,if_false,g9,if_true];show _=_+(g k+sl _ g);rw[ih];grind
noncomputable def dot(n:Nat)(u w:Vec F):F:=sl (aR n) λj=>u j*w j
def G3(n:Nat)(a u v:Vec F)(c:F):dot n a (λj=>u j-c*v j)=dot n a u-c*dot n a v:=by
 unfold dot;rw[<-jm];exact XO λk _=>by grind
def Vz(n:Nat)(u w:Vec F):dot n u w=dot n w u:=XO λk _=>by grind
noncomputable def Z2(P:Pt F)(j:Nat):Bool:=(P.map (·.1)).contains j
noncomputable def free(n:Nat)(P:Pt F):List Nat:=(aR n).filter λj=>!Z2 P j
noncomputable def av:Pt F->Nat->Vec F
 |[],f,j=>if j=f then 1 else 0
 |a::P,f,j=>if j=a.1 then-a.2 f else av P f j
def Ym{P:Pt F}{j:Nat}:Z2 P j=ah↔∃a∈P,a.1=j:=by
 unfold Z2;rw[bS,aK]
def Ww{P:Pt F}{f j:Nat}(h:Z2 P j=ai):av P f j=if j=f then 1 else 0:=by
 induction P with
 |nil=>rfl
 |cons a P ih=>
  have h1:¬∃b∈a::P,b.1=j:=λz=>by rw[Ym.mpr z]at h;cases h
  show(if j=a.1 then-a.2 f else av P f j)=_
  rw[T8 λz=>h1 ⟨a,am ..,z.symm⟩]
  exact ih (by
   cases q:Z2 P j with
   |false=>rfl
   |true=>obtain⟨b,hb,e⟩:=Ym.mp q;exact T7 ⟨b,al _ hb,e⟩ h1)
def vJ{P:Pt F}(hP:P.Pairwise λa b=>a.1<b.1){a:Nat×Vec F}(ha:a∈P)(f:Nat):av P f a.1 = - a.2 f:=by
 induction P with
 |nil=>cases ha
 |cons b P ih=>
  rw[bg]at hP;show(if a.1=b.1 then-b.2 f else av P f a.1)=_
  rcases az.mp ha with e|e
  ·grind
  ·grind
def Ye{P:Pt F}{j:Nat}:j∈free n P↔j<n/\Z2 P j=ai:=by
 unfold free;rw[bM,bw];simp
def Qa{P:Pt F}:(free n P).Nodup:=eR _ fW
def UD{P:Pt F}(hP:Pn n P){f:Nat}(hf:f<n):Supp n (av P f):=λj hj=>by
 rw[Ww (by
  cases q:Z2 P j with
  |false=>rfl
  |true=>obtain⟨b,hb,e⟩:=Ym.mp q;have:=hP.lt b hb;omega),T8<|by omega]
def JJ{P:Pt F}(hP:Pn n P){a:Nat×Vec F}(ha:a∈P)(u:Vec F):dot n a.2 u=sl (free n P) (λj=>a.2 j*u j)+u a.1:=by
 unfold dot;rw[ZcY (Z2 P)<|aR n];have e:sl ((aR n).filter<|Z2 P) (λj=>a.2 j*u j)=a.2 a.1*u a.1:=by
  refine yF (eR _ fW) (bM.mpr ⟨bw.mpr<|hP.lt a ha,Ym.mpr ⟨a,ha,rfl⟩⟩) λj hj ne=>?_
  obtain⟨b,hb,rfl⟩:=Ym.mp (bM.mp hj).2;rw[hP.rf.zer b hb a ha ne];grind
 rw[e,hP.rf.one a ha];show _=sl ((aR n).filter λj=>!Z2 P j) _+_
 grind
def Zev{P:Pt F}(hP:Pn n P){a:Nat×Vec F}(ha:a∈P){f:Nat}(hf:f∈free n P):dot n a.2 (av P f)=0:=by
 obtain⟨f1,f2⟩:=Ye.mp hf;rw[JJ hP ha,vJ hP.rf.inc ha,yF Qa hf λj hj ne=>by
  rw[Ww (Ye.mp hj).2,T8 ne];grind]
 rw[Ww f2,T9 rfl];grind
noncomputable def perp(inv:F->F)(n:Nat)(P:Pt F):Pt F:=QE inv n []<|(free n P).map<|av P
def UJ(f:Fld inv)(hP:Pn n P):Pn n (perp inv n P):=(Wt f _ Pn.nil λv hv=>by
 obtain⟨k,hk,rfl⟩:=aK.mp hv;exact UD hP (Ye.mp hk).1).1
theorem zF{P:Pt F}(hP:Pn n P){a:Nat×Vec F}(ha:a∈P):∀(L:List Nat)(u:Vec F),(∀k∈L,k∈free n P)->Ga [] (L.map<|av P) u->dot n a.2 u=0
 |[],u,_,h=>Vl λk _=>by rw[h k];show a.2 k*0=0;grind
 |k::L,u,hL,⟨c,h⟩=>by
  have:=zF hP ha L _ (λj hj=>hL j<|al _ hj) h
  rw[G3,Zev hP ha<|hL k<|am ..]at this
  grind
theorem Jb{P:Pt F}{u:Vec F}:∀(L:List Nat)(w:Vec F),(∀j,w j=sl L λf=>u f*av P f j)->Ga [] (L.map<|av P) w
 |[],w,h=>h
 |k::L,w,h=>⟨u k,Jb (u:=u) L _ λj=>by rw[h j];show u k*av P k j+sl L (λf=>u f*av P f j)-u k*av P k j=_;grind⟩
def jF(f:Fld inv){P:Pt F}(hP:Pn n P)(u:Vec F):Mem (perp inv n P) u↔Supp n u/\∀a∈P,dot n a.2 u=0:=by
 have ok:=Wt f ((free n P).map<|av P) (Pn.nil) λv hv=>by
  obtain⟨k,hk,rfl⟩:=aK.mp hv;exact UD hP (Ye.mp hk).1
 constructor
 ·intro h
  exact⟨Qz ok.1 h,λa ha=>zF hP ha _ u (λk hk=>hk)<|(ok.2 u).mp h⟩
 ·rintro ⟨hs,hd⟩
  refine(ok.2 u).mpr<|Jb (u:=u) _ u λj=>?_
  by_cases c:n<=j
  ·rw[hs j c]
   exact(Vl λk hk=>by rw[UD hP (Ye.mp hk).1 j c];grind).symm
  ·cases q:Z2 P j with
   |false=>
    rw[yF Qa (Ye.mpr ⟨by omega,q⟩) λk hk ne=>by
     rw[Ww q,T8<|Ne.symm ne];grind]
    rw[Ww q,T9 rfl];grind
   |true=>
    obtain⟨a,ha,rfl⟩:=Ym.mp q;have h1:=hd a ha;rw[JJ hP ha]at h1;have e:sl (free n P) (λf=>u f*av P f a.1) = - sl (free n P) λj=>a.2 j*u j:=by
     have:=jm (free n P) (λ_=>(0:F)) (λj=>a.2 j*u j) 1
     rw[Vl λ_ _=>rfl]at this
     have e2:sl (free n P) (λf=>u f*av P f a.1)=sl (free n P) λj=>0-1*(a.2 j*u j):=XO λk _=>by rw[vJ hP.rf.inc ha];grind
     rw[e2,this];grind
    rw[e];grind
def Yy(f:Fld inv)(hP:Pn n P)(u:Vec F):Mem (perp inv n P) u↔Supp n u/\∀v,Mem P v->dot n v u=0:=by
 rw[jF f hP]
 constructor
 ·rintro ⟨hs,hd⟩
  refine⟨hs,λv hv=>?_⟩
  have e:dot n v u=dot n u (pr P v):=by rw[Vz];exact XO λk _=>by rw[<-hv k]
  rw[e];have gen:∀Q:Pt F,(∀a∈Q,dot n a.2 u=0)->dot n u (pr Q v)=0:=by
   intro Q
   induction Q with
   |nil=>intro _;exact Vl λk _=>by show u k*0=0;grind
   |cons a Q ih=>
    intro h;have e2:dot n u (pr (a::Q) v)=dot n u (λj=>pr Q v j-(- v a.1)*a.2 j):=XO λk _=>by show u k*(v a.1*a.2 k+pr Q v k)=_;grind
    rw[e2,G3,ih λb hb=>h b<|al _ hb,Vz,h a<|am ..];grind
  exact gen P hd
 ·rintro ⟨hs,hd⟩
  exact⟨hs,λa ha=>hd _<|X1 hP.rf ha⟩
def VS(f:Fld inv){P:Pt F}(hP:Pn n P):(perp inv n P).length+P.length=n:=by
 have gen:∀(L:List Nat)(A:Pt F)(D:List Nat),Pn n A->(∀k∈L,k∈free n P)->L.Nodup->(∀k∈L,k∉D)->(∀u,Mem A u->∀k∈free n P,k∉D->u k=0)->(QE inv n A<|L.map<|av P).length=A.length+L.length:=by
  intro L
  induction L with
  |nil=>intro A D _ _ _ _ _;rfl
  |cons k L ih=>
   intro A D hA hL hn hD hz;rw[cp]at hn;have hk:=hL k<|am ..;have g:=GQ f hA<|UD hP (Ye.mp hk).1;have nm:¬Mem A (av P k):=λh=>by
    have:=hz _ h k hk<|hD k<|am ..;rw[Ww (Ye.mp hk).2,T9 rfl]at this;exact f.one0 this
   have:=ih (more inv n A<|av P k) (k::D) g.pn (λj hj=>hL j<|al _ hj) hn.2 (λj hj=>by grind) λu hu j hj hjD=>by
     obtain⟨c,hc⟩:=(g.mem u).mp hu;rw[az]at hjD;have h1:=hz _ hc j hj λz=>hjD<|.inr z
     rw[Ww (Ye.mp hj).2,T8 λz=>hjD<|.inl z]at h1
     grind
   show(QE inv n (more inv n A<|av P k)<|L.map<|av P).length=_;rw[this,g.len nm,aP];omega
 have h1:=gen (free n P) [] [] Pn.nil (λ_ h=>h) (eR _ fW) (λ_ _ h=>by cases h) λu hu k _ _=>hu k
 have h2:(aR n).filter (Z2 P)=P.map (·.1):=xC (eR _ List.pairwise_lt_range) hP.rf.heads λx=>by
  rw[bM,bw,Ym,aK]
  constructor
  ·grind
  ·rintro ⟨a,ha,e⟩;exact⟨by rw[<-e];exact hP.lt a ha,a,ha,e⟩
 have h3:((aR n).filter<|Z2 P).length+(free n P).length=n:=by
  have gen:∀L:List Nat,(L.filter<|Z2 P).length+(L.filter λj=>!Z2 P j).length=L.length:=by
   intro L
   induction L with|nil=>rfl|cons k L ih=>grind
  have:=gen<|aR n;rw[bW]at this;exact this
 rw[h2,aF]at h3;have h4:(perp inv n P).length=(free n P).length:=by
  have e:(perp inv n P).length=0+(free n P).length:=h1;omega
 omega
def Jl(f:Fld inv)(hP:Pn n P):perp inv n (perp inv n P)=P:=by
 have h1:=UJ f hP;have h2:=UJ f h1;have s1:=VS f hP;have s2:=VS f h1;have nj:=λv hv=>(Yy f h1 v).mpr ⟨Qz hP hv,λw hw=>by
  rw[Vz];exact((Yy f hP w).mp hw).2 v hv⟩
 refine(Zdx f hP h2 λv=>⟨nj v,(Za3 f.one0 hP.rf h2.rf nj).2 (by omega) v⟩).symm
noncomputable def meet(inv:F->F)(n:Nat)(P Q:Pt F):Pt F:=perp inv n<|join inv n (perp inv n P)<|perp inv n Q
def Zad(f:Fld inv)(hP:Pn n P)(hQ:Pn n Q)(u:Vec F):Mem (meet inv n P Q) u↔Mem P u/\Mem Q u:=by
 have hA:=UJ f hP;have hB:=UJ f hQ;unfold meet;rw[Yy f<|ZcI f hA hB]
 constructor
 ·rintro ⟨hs,h⟩
  refine⟨?_,?_⟩
  ·have:=(Yy f hA u).mpr ⟨hs,λv hv=>h v<|Jt f hA hB hv⟩
   rw[Jl f hP]at this;exact this
  ·have:=(Yy f hB u).mpr ⟨hs,λv hv=>h v<|Qj f hA hB hv⟩
   rw[Jl f hQ]at this;exact this
 ·rintro ⟨h1,h2⟩
  refine⟨Qz hP h1,λv hv=>?_⟩
  obtain⟨q,hq,hp⟩:=(Vb f hA hB v).mp hv;have e1:=((Yy f hP _).mp hp).2 u h1;have e2:=((Yy f hQ _).mp hq).2 u h2;have e3:dot n u v=dot n u (λj=>(v j-q j)-(-1)*q j):=XO λk _=>by grind
  rw[Vz,e3,G3,e1,e2];grind
end
end La
namespace Rw
open La
open Ev (ltI VU Z5)
section
variable{p:Nat}[NeZero p]
noncomputable def ph(p:Nat)[NeZero p](a:Int):Fin p:=Fin.ofNat p (a%p).toNat
def ppos:(0:Int)<p:=by have:=NeZero.ne p;omega
def Y3(a:Int):((ph p a).val:Int)=a%p:=by
 have h:=ppos (p:=p);have h0:=eA a (by omega:(p:Int)≠0)
 have h1:=dA a h;show((((a%p).toNat)%p:Nat):Int)=a%p;rw[Nat.mod_eq_of_lt<|by omega]
 omega
def Uy{x y:Fin p}(h:(x.val:Int)=y.val):x=y:=Fin.ext (by omega)
def qX(a b:Int):ph p (a+b)=ph p a+ph p b:=Uy (by
 rw[Y3,Fin.val_add];show(a+b)%p=(((ph p a).val+(ph p b).val:Nat):Int)%p;rw[mF,Y3,Y3,<-Int.add_emod])
def qO(a b:Int):ph p (a*b)=ph p a*ph p b:=Uy (by
 rw[Y3,Fin.val_mul];show(a*b)%p=(((ph p a).val*(ph p b).val:Nat):Int)%p;rw[Int.natCast_mul,Y3,Y3,<-Int.mul_emod])
def x8(a:Int):ph p (a%p)=ph p a:=Uy (by rw[Y3,Y3,Int.emod_emod])
def Ve:ph p 0=0:=Uy (by rw[Y3];simp)
def J1(a:Int):ph p (-a) = - ph p a:=by
 have h:ph p (-a+a)=ph p (-a)+ph p a:=qX _ _;rw[show -a+a=0 by omega,Ve]at h
 grind
def xF{a b:Int}(ha:0<=a/\a<p)(hb:0<=b/\b<p)(h:ph p a=ph p b):a=b:=by
 have:=congrArg (λx:Fin p=>(x.val:Int)) h
 simp only[Y3]at this;rw[fN ha.1 ha.2,fN hb.1 hb.2]at this;exact this
def ZfF{a:Int}(ha:0<=a/\a<p):ph p a=0↔a=0:=by
 constructor
 ·intro h;exact xF ha ⟨by omega,ppos⟩ (by rw[h,Ve])
 ·rintro rfl;exact Ve
end
abbrev Row:=List Int
def Zj(p n:Nat)(r:Row):Prop:=r.length=n/\∀a∈r,0<=a/\a<(p:Int)
noncomputable def gt(r:Row)(j:Nat):Int:=r.getD j 0
def Wi{p n:Nat}(h0:(0:Int)<p){r:Row}(h:Zj p n r)(j:Nat):0<=gt r j/\gt r j<p:=by
 unfold gt;rw[aG];cases q:r[j]? with|none=>exact⟨Int.le_refl _,h0⟩|some a=>exact h.2 a<|cy q
def xh(h:r.length<=j):gt r j=0:=by unfold gt;rw[aG,fQ h];rfl
def ZeW(hl:r.length=s.length)(h:∀j,gt r j=gt s j):r=s:=by
 apply iT hl;intro j h1 h2;have:=h j;unfold gt at this;rw[aG,aG,ag h1,ag h2]at this;exact this
noncomputable def hdI:Row->Option Nat
 |[]=>ac
 |a::r=>if a≠0 then aa 0 else(hdI r).map (· + 1)
theorem Yj:∀{r:Row}{k:Nat},hdI r=aa k->gt r k≠0/\k<r.length/\∀j,j<k->gt r j=0
 |[],k,h=>by cases h
 |a::r,k,h=>by
  unfold hdI at h;by_cases c:a≠0
  ·rw[T9 c]at h;cases h;exact⟨c,by simp,λj hj=>by omega⟩
  ·rw[T8 c]at h
   cases q:hdI r with
   |none=>rw[q]at h;cases h
   |some m=>
    rw[q]at h;have e:m+1=k:=ak h;subst e;obtain⟨h1,h2,h3⟩:=Yj q;refine⟨h1,by simp;omega,λj hj=>?_⟩
    cases j with|zero=>exact lX.mp c|succ j=>exact h3 j (by omega)
theorem XY:∀{r:Row},hdI r=ac->∀j,gt r j=0
 |[],_,j=>xh (dL _)
 |a::r,h,j=>by
  unfold hdI at h;by_cases c:a≠0
  ·rw[T9 c]at h;cases h
  ·rw[T8 c]at h
   have h':=i4.mp h;cases j with|zero=>exact lX.mp c|succ j=>exact XY h' j
def Zed(h1:gt r k≠0)(h2:∀j,j<k->gt r j=0):hdI r=aa k:=by
 cases q:hdI r with
 |none=>exact T7 (XY q k) h1
 |some m=>
  obtain⟨a,_,c⟩:=Yj q;have:¬k<m:=λz=>h1<|c k z
  have:¬m<k:=λz=>a<|h2 m z
  rw[show m=k by omega]
section
variable{p n:Nat}[NeZero p]
noncomputable def toV(p:Nat)[NeZero p](r:Row):Vec (Fin p):=λj=>ph p<|gt r j
def Va{r s:Row}(hr:Zj p n r)(hs:Zj p n s)(h:toV p r=toV p s):r=s:=
 ZeW (by rw[hr.1,hs.1]) λj=>xF (Wi ppos hr j) (Wi ppos hs j)<|congrFun h j
def Qu(hr:Zj p n r):Supp n (toV p r):=λj hj=>by unfold toV;rw[xh<|by rw[hr.1];exact hj,Ve]
def Yk{r:Row}(hr:Zj p n r){j:Nat}:toV p r j=0↔gt r j=0:=ZfF<|Wi ppos hr j
def Gb(hr:Zj p n r):hdV n (toV p r)=hdI r:=by
 cases q:hdI r with
 |none=>
  cases q2:hdV n (toV p r)with|none=>rfl|some k=>exact T7 ((Yk hr).mpr<|XY q k) (zJ q2).2.1
 |some k=>
  obtain⟨a,b,c⟩:=Yj q;exact yQ (by rw[<-hr.1];exact b) (λz=>a<|(Yk hr).mp z) λj hj=>(Yk hr).mpr<|c j hj
noncomputable def ZT(p:Nat)(r o:Row)(k:Int):Row:=List.zipWith (λa b=>(a+k*b)%p) r o
noncomputable def XC(p:Nat)(r:Row)(k:Int):Row:=r.map λa=>k*a%p
def Zem(hl:r.length=o.length)(h0:f 0 0=0)(j:Nat):gt (List.zipWith f r o) j=f (gt r j) (gt o j):=by
 unfold gt;simp only[aG];rw[List.getElem?_zipWith];by_cases c:j<r.length
 ·rw[ag c,ag<|by omega];rfl
 ·rw[fQ<|by omega,fQ<|by omega];exact h0.symm
def ZD(hr:Zj p n r)(ho:Zj p n o):Zj p n (ZT p r o k):=by
 refine⟨by unfold ZT;rw[List.length_zipWith,hr.1,ho.1];simp,λa ha=>?_⟩
 unfold ZT at ha;rw[<-dR]at ha;obtain⟨⟨x,y⟩,_,rfl⟩:=aK.mp ha;exact⟨eA _ (by have:=ppos (p:=p);omega),dA _ ppos⟩
def UF(hr:Zj p n r)(ho:Zj p n o)(j:Nat):gt (ZT p r o k) j=(gt r j+k*gt o j)%p:=by
 unfold ZT;rw[Zem (by rw[hr.1,ho.1])<|by simp]
def Yv(hr:Zj p n r)(ho:Zj p n o):toV p (ZT p r o k)=λj=>toV p r j+ph p k*toV p o j:=by
 funext j
 unfold toV;rw[UF hr ho,x8,qX,qO]
def UV(j:Nat):gt (XC p r k) j=k*gt r j%p:=by
 unfold XC gt;simp only[aG,aX];cases r[j]?<;>simp
def YX{r:Row}{k:Int}(hr:Zj p n r):Zj p n (XC p r k):=by
 refine⟨by unfold XC;rw[aF,hr.1],λa ha=>?_⟩
 obtain⟨x,_,rfl⟩:=aK.mp ha;exact⟨eA _ (by have:=ppos (p:=p);omega),dA _ ppos⟩
def Q6 :toV p (XC p r k)=λj=>ph p k*toV p r j:=by
 funext j
 unfold toV;rw[UV,x8,qO]
noncomputable def toP(p:Nat)[NeZero p](P:List Row):Pt (Fin p):=P.map λr=>((hdI r).getD 0,toV p r)
structure pZ(p n:Nat)[NeZero p](P:List Row):Prop where
 row:∀r∈P,Zj p n r
 pn:Pn n (toP p P)
theorem pZ.nil:pZ p n []:=⟨λ_ h=>(by cases h),Pn.nil⟩
def Yf(h:r∈P):((hdI r).getD 0,toV p r)∈toP p P:=aK.mpr ⟨r,h,rfl⟩
def pZ.head(one0:(1:Fin p)≠0)(h:pZ p n P)(hr:r∈P):∃k,hdI r=aa k/\k<n/\toV p r k=1:=by
 have h1:=h.pn.rf.one _<|Yf hr;cases q:hdI r with
 |none=>
  rw[q]at h1;have:toV p r 0=1:=h1;have z:=(Yk<|h.row r hr).mpr<|XY q 0;rw[z]at this;exact T7 this.symm one0
 |some k=>
  rw[q]at h1;have h2:=h.pn.lt _<|Yf hr;rw[q]at h2;exact⟨k,rfl,h2,h1⟩
def ZbO(hP:∀r∈P,Zj p n r)(hQ:∀r∈Q,Zj p n r)(h:toP p P=toP p Q):P=Q:=by
 induction P generalizing Q with
 |nil=>cases Q with|nil=>rfl|cons b Q=>cases h
 |cons a P ih=>cases Q with
  |nil=>cases h
  |cons b Q=>
   have h':=h;injection h' with e1 e2
   have e3:=congrArg Prod.snd e1;rw[Va (hP a<|am ..) (hQ b<|am ..) e3,ih (λr hr=>hP r<|al _ hr) (λr hr=>hQ r<|al _ hr) e2]
def Zc5(P:List Row):(toP p P).map (·.2)=P.map (toV p):=by unfold toP;rw[bE];rfl
def ZbQ(P:List Row):(toP p P).length=P.length:=by unfold toP;rw[aF]
noncomputable def clr(p:Nat)(r o:Row)(h:Nat):Row:=ZT p r o<|-(gt r h)
noncomputable def Zp(p:Nat)(P:List Row)(r:Row):Row:=P.foldl (λs o=>clr p s o<|(hdI o).getD 0) r
def Wb(hr:Zj p n r)(ho:Zj p n o):toV p (clr p r o h)=λj=>toV p r j-toV p r h*toV p o j:=by
 unfold clr;rw[Yv hr ho]
 funext j
 rw[J1];show toV p r j+(- toV p r h)*toV p o j=_
 grind
theorem UH:∀{P:List Row}{r:Row},(∀o∈P,Zj p n o)->Rf (toP p P)->Zj p n r->Zj p n (Zp p P r)/\toV p (Zp p P r)=rest (toP p P) (toV p r)
 |[],r,_,_,hr=>⟨hr,by funext j;show toV p r j=toV p r j-0;grind⟩
 |o::P,r,hP,hf,hr=>by
  have ho:=hP o<|am ..;have hc:Zj p n (clr p r o<|(hdI o).getD 0):=ZD hr ho;obtain⟨a,b⟩:=UH (λo h=>hP o<|al _ h) hf.tail hc
  refine⟨a,?_⟩;show toV p (Zp p P<|clr p r o<|(hdI o).getD 0)=_;rw[b,Wb hr ho];have z:∀j,pr (toP p P) (toV p o) j=0:=λj=>X3 λc hc=>by
   have:toV p o c.1=0:=by
    have h1:c∈toP p (o::P):=al _ hc;have h2:((hdI o).getD 0,toV p o)∈toP p (o::P):=am ..;have h3:=(bg.mp hf.inc).1 c hc;exact hf.zer c h1 _ h2 (by simp only at h3 ⊢;omega)
   rw[this];grind
  funext j
  unfold rest;rw[Gh,z];show toV p r j-toV p r ((hdI o).getD 0)*toV p o j-(pr (toP p P) (toV p r) j-_*0)=toV p r j-(toV p r ((hdI o).getD 0)*toV p o j+pr (toP p P) (toV p r) j)
  grind
def Zab(hP:pZ p n P)(hr:Zj p n r):hdI (Zp p P r)=ac↔Mem (toP p P) (toV p r):=by
 obtain⟨a,b⟩:=UH hP.row hP.pn.rf hr;rw[<-Qe,<-b]
 constructor
 ·intro h j;exact(Yk a).mpr<|XY h j
 ·intro h
  cases q:hdI (Zp p P r)with|none=>rfl|some k=>exact T7 ((Yk a).mp<|h k) (Yj q).1
end
noncomputable def Yq(p:Nat)(a:Int):Int:=if a=1 then 1 else if p=3 then 2 else if a=2 then 3 else if a=3 then 2 else 4
noncomputable def QW(p:Nat)[NeZero p](x:Fin p):Fin p:=ph p<|Yq p x.val
class Base(p:Nat):Prop where
 b:p=2\/p=3\/p=5
instance(p:Nat)[h:Base p]:NeZero p:=⟨by rcases h.b with e|e|e<;>omega⟩
section
variable{p n:Nat}[Base p]
def fld2:∀a:Fin 2,a≠0->QW 2 a*a=1:=by decide
def fld3:∀a:Fin 3,a≠0->QW 3 a*a=1:=by decide
def fld5:∀a:Fin 5,a≠0->QW 5 a*a=1:=by decide
def one2:(1:Fin 2)≠0:=by decide
def one3:(1:Fin 3)≠0:=by decide
def one5:(1:Fin 5)≠0:=by decide
def fld:Fld (QW p):=by
 rcases(inferInstance:Base p).b with e|e|e<;>subst e
 ·exact⟨fld2,one2⟩
 ·exact⟨fld3,one3⟩
 ·exact⟨fld5,one5⟩
def Zct(h:0<=a/\a<(p:Int)):((ph p a).val:Int)=a:=by rw[Y3,fN h.1 h.2]
noncomputable def lead(p:Nat)(s:Row)(h:Nat):Row:=XC p s<|Yq p<|gt s h
noncomputable def QU(p:Nat)(P:List Row)(r:Row):List Row:=match hdI (Zp p P r)with
 |none=>P
 |some h=>(Z5<|P.map (λo=>clr p o (lead p (Zp p P r) h) h)++[lead p (Zp p P r) h]).reverse
noncomputable def yY(h:Nat)(x:Row):List Row->List Row
 |[]=>[x]
 |y::P=>if h<(hdI y).getD 0 then x::y::P else y::yY h x P
theorem VT(h:Nat)(x:Row):∀P:List Row,(yY h x P).Perm (x::P)
 |[]=>dZ _
 |y::P=>by
  unfold yY;split
  ·exact dZ _
  ·exact((VT h x P).cons y).trans<|kC x y P
theorem zj(hx:hdI x=aa h):∀P:List Row,toP p (yY h x P)=ins (h,toV p x) (toP p P)
 |[]=>by show[((hdI x).getD 0,toV p x)]=_;rw[hx];rfl
 |y::P=>by
  show toP p (if h<(hdI y).getD 0 then _ else _)=(if h<(hdI y).getD 0 then _ else _)
  split
  ·show((hdI x).getD 0,toV p x)::_=_;rw[hx];rfl
  ·show((hdI y).getD 0,toV p y)::toP p (yY h x P)=_;rw[zj hx P];rfl
theorem Zbp:∀{a b:Row}{h:Nat},a.length=b.length->(∀j,j<h->gt a j=gt b j)->gt b h<gt a h->h<a.length->ltI b a=ah
 |[],_,_,_,_,_,hl=>by simp at hl
 |x::a,[],_,e,_,_,_=>by simp at e
 |x::a,y::b,0,_,_,hlt,_=>by
  have:y<x:=hlt;unfold ltI;rw[T8<|by omega]
  exact T5 this
 |x::a,y::b,h+1,e,hj,hlt,hl=>by
  have:x=y:=hj 0 (by omega)
  unfold ltI;rw[T9 this.symm];exact Zbp (by simpa using e) (λj h'=>hj (j+1)<|by omega) hlt (by simpa using hl)
def qP(ha:Zj p n a)(hb:Zj p n b)(h1:hdI a=aa h)(h2:hdI b=aa k)(hk:h<k):ltI b a=ah:=by
 obtain⟨a1,a2,a3⟩:=Yj h1;obtain⟨b1,b2,b3⟩:=Yj h2;refine Zbp (by rw[ha.1,hb.1]) (λj hj=>by rw[a3 j hj,b3 j<|by omega]) ?_ a2
 rw[b3 h hk];have:=(Wi ppos ha h).1;omega
def pZ.falls(hP:pZ p n P):P.Pairwise λa b=>ltI b a=ah:=by
 have inc:P.Pairwise λa b=>(hdI a).getD 0<(hdI b).getD 0:=by
  have:=hP.pn.rf.inc;unfold toP at this;rw[cU]at this;exact this
 refine List.Pairwise.imp_of_mem (λ{a b} ha hb hab=>?_) inc
 obtain⟨h,e1,_⟩:=hP.head fld.one0 ha;obtain⟨k,e2,_⟩:=hP.head fld.one0 hb;rw[e1,e2]at hab;exact qP (hP.row a ha) (hP.row b hb) e1 e2 hab
def Ug{P:List Row}(h:P.Pairwise λa b=>ltI b a=ah):P.Nodup:=List.Pairwise.imp (λ{a b} hab e=>by
 rw[e]at hab;have:=Sd.UB hab;rw[hab]at this;cases this) h
def Zco(hp:Q.Perm P)(h:Q.Pairwise λa b=>ltI b a=ah):(Z5 P).reverse=Q:=by
 have hn:=(hp.nodup_iff).mp<|Ug h;have e:=Sd.Wy ((Sd.Y2 P).trans<|hp.symm.trans (iy Q).symm) (Sd.X2 hn)<|List.pairwise_reverse.mpr h;rw[e,List.reverse_reverse]
def xU(hP:pZ p n P)(hr:Zj p n r):pZ p n (QU p P r)/\toP p (QU p P r)=more (QW p) n (toP p P) (toV p r):=by
 obtain⟨s1,s2⟩:=UH hP.row hP.pn.rf hr;have eh:=Gb s1;rw[s2]at eh;have g:=GQ fld hP.pn<|Qu hr;unfold QU;cases q:hdI (Zp p P r)with
 |none=>
  rw[q]at eh;exact⟨hP,by unfold more;rw[eh]⟩
 |some h=>
  rw[q]at eh;have em:more (QW p) n (toP p P) (toV p r)=wid (toP p P) h (toV p<|lead p (Zp p P r) h):=by
   unfold more;rw[eh];show wid _ h _=_
   congr 1
   unfold lead;rw[Q6,s2]
   funext j
   congr 1
   rw[<-s2];show ph p (Yq p<|(ph p<|gt (Zp p P r) h).val)=_;rw[Zct<|Wi ppos s1 h]
  have hl:Zj p n (lead p (Zp p P r) h):=YX s1;rw[em]at g;have mem:=λx hx=>yQ (g.pn.lt x hx) (by rw[g.pn.rf.one x hx];exact fld.one0)<|g.pn.rf.low x hx
  have hx:hdI (lead p (Zp p P r) h)=aa h:=by
   rw[<-Gb hl];exact mem (h,toV p<|lead p (Zp p P r) h)<|(YE _ _).mem_iff.mpr<|am ..
  have e1:toP p (P.map λo=>clr p o (lead p (Zp p P r) h) h)=(toP p P).map (off h<|toV p<|lead p (Zp p P r) h):=by
   unfold toP;rw[bE,bE];refine cW λo ho=>?_
   have ho':=hP.row o ho;have hc:Zj p n (clr p o (lead p (Zp p P r) h) h):=ZD ho' hl;have ev:toV p (clr p o (lead p (Zp p P r) h) h)=(off h (toV p<|lead p (Zp p P r) h) ((hdI o).getD 0,toV p o)).2:=Wb ho' hl;show((hdI<|clr p o (lead p (Zp p P r) h) h).getD 0,toV p<|clr p o (lead p (Zp p P r) h) h)=off h _ ((hdI o).getD 0,toV p o);have:=mem (off h (toV p<|lead p (Zp p P r) h) ((hdI o).getD 0,toV p o))<|(YE _ _).mem_iff.mpr<|al _<|aK.mpr ⟨_,Yf ho,rfl⟩;rw[<-ev,Gb hc]at this;rw[this,ev];rfl
  have e2:toP p (yY h (lead p (Zp p P r) h)<|P.map λo=>clr p o (lead p (Zp p P r) h) h)=wid (toP p P) h (toV p<|lead p (Zp p P r) h):=by
   rw[zj hx,e1];rfl
  have hQ:pZ p n (yY h (lead p (Zp p P r) h)<|P.map λo=>clr p o (lead p (Zp p P r) h) h):=by
   refine⟨λx hx=>?_,by rw[e2];exact g.pn⟩
   rcases az.mp ((VT _ _ _).mem_iff.mp hx)with e|e
   ·rw[e];exact hl
   ·obtain⟨o,ho,rfl⟩:=aK.mp e
    exact ZD (hP.row o ho) hl
  have e3:=Zco ((VT h (lead p (Zp p P r) h)<|P.map λo=>clr p o (lead p (Zp p P r) h) h).trans (List.perm_append_singleton _ _).symm) hQ.falls
  show pZ p n (Z5 _).reverse/\toP p (Z5 _).reverse=_;rw[e3];exact⟨hQ,by rw[e2,em]⟩
noncomputable def WM(p:Nat)(P:List Row)(rs:List Row):List Row:=rs.foldl (QU p) P
theorem GH:∀{rs:List Row}{P:List Row},pZ p n P->(∀r∈rs,Zj p n r)->pZ p n (WM p P rs)/\toP p (WM p P rs)=QE (QW p) n (toP p P) (rs.map<|toV p)
 |[],P,hP,_=>⟨hP,rfl⟩
 |r::rs,P,hP,hr=>by
  obtain⟨a,b⟩:=xU hP<|hr r<|am ..;obtain⟨c,d⟩:=GH a λx hx=>hr x<|al _ hx
  refine⟨c,?_⟩;show toP p (WM p (QU p P r) rs)=_;rw[d,b];rfl
def XR(hP:pZ p n P)(hQ:pZ p n Q):pZ p n (WM p P Q)/\toP p (WM p P Q)=join (QW p) n (toP p P) (toP p Q):=by
 obtain⟨a,b⟩:=GH hP hQ.row;exact⟨a,by rw[b];unfold join;rw[Zc5]⟩
noncomputable def Zx(P:List Row):List Nat:=P.map λr=>(hdI r).getD 0
noncomputable def WQ(n:Nat)(P:List Row):List Nat:=(aR n).filter λj=>!(Zx P).contains j
def YY(P:List Row):(toP p P).map (·.1)=Zx P:=by unfold toP Zx;rw[bE];rfl
def U4(P:List Row):free n (toP p P)=WQ n P:=by unfold free WQ Z2;rw[YY]
noncomputable def avF(p:Nat)(P:List Row)(f:Nat)(s:Row):Row:=P.foldl (λs r=>s.set ((hdI r).getD 0)<|(-(gt r f))%p) s
noncomputable def avI(p n:Nat)(P:List Row)(f:Nat):Row:=avF p P f<|(ar n 0).set f 1
def jh(hi:i<s.length):gt (s.set i x) j=if j=i then x else gt s j:=by
 unfold gt;simp only[aG];rw[cE];by_cases c:i=j
 ·rw[T9 c,T9 hi,T9 c.symm];rfl
 ·rw[T8 c,T8<|Ne.symm c]
theorem wT:∀{P:List Row}{f:Nat}{s:Row},Zj p n s->Zj p n (avF p P f s)
 |[],_,_,h=>h
 |r::P,f,s,h=>by
  refine wT (P:=P) ⟨by rw[aT];exact h.1,λa ha=>?_⟩
  rcases h9 ha with z|z
  ·exact h.2 a z
  ·rw[z];exact⟨eA _ (by have:=ppos (p:=p);omega),dA _ ppos⟩
theorem v8:∀{P:List Row}{f:Nat}{s:Row}(j:Nat),(∀r∈P,(hdI r).getD 0<n)->(Zx P).Pairwise (· < ·)->s.length=n->toV p (avF p P f s) j=if Z2 (toP p P) j=ah then av (toP p P) f j else toV p s j
 |[],_,_,j,_,_,_=>rfl
 |r::P,f,s,j,hb,hi,hl=>by
  have hi':=bg.mp hi;show toV p (avF p P f<|s.set ((hdI r).getD 0)<|(-(gt r f))%p) j=_;rw[v8 j (λx hx=>hb x<|al _ hx) hi'.2<|by rw[aT];exact hl]
  have e:av (toP p (r::P)) f j=if j=(hdI r).getD 0 then-toV p r f else av (toP p P) f j:=rfl
  have e0:Z2 (toP p (r::P)) j=(ae (j=(hdI r).getD 0)||Z2 (toP p P) j):=by
   show(((hdI r).getD 0)::(toP p P).map (·.1)).contains j=_
   rw[hU]
   congr 1
  cases q:Z2 (toP p P) j with
  |true=>
   rw[T9 rfl,T9<|by rw[e0,q];simp,e,T8]
   intro z;have:j∈Zx P:=by rw[<-YY (p:=p)];exact bS.mp q
   have h5:(hdI r).getD 0<j:=hi'.1 j this;omega
  |false=>
   rw[T8<|by simp]
   unfold toV;rw[jh<|by rw[hl];exact hb r<|am ..]
   by_cases c:j=(hdI r).getD 0
   ·rw[T9 c,T9<|by rw[e0];simp[c],e,T9 c,x8,J1];rfl
   ·rw[T8 c,T8<|by rw[e0,q];simp[c]]
def ZaJ(hP:pZ p n P)(hf:f∈WQ n P):Zj p n (avI p n P f)/\toV p (avI p n P f)=av (toP p P) f:=by
 rw[<-U4 (p:=p)]at hf;obtain⟨f1,f2⟩:=Ye.mp hf;have hone:(1:Int)<p:=by rcases(inferInstance:Base p).b with e|e|e<;>subst e<;>decide
 have hs:Zj p n ((ar n (0:Int)).set f 1):=by
  refine⟨by simp,λa ha=>?_⟩
  rcases h9 ha with z|z
  ·rw[(List.mem_replicate.mp z).2];exact⟨by omega,ppos⟩
  ·rw[z];exact⟨by omega,hone⟩
 refine⟨wT hs,?_⟩
 funext j
 unfold avI;rw[v8 j (λr hr=>hP.pn.lt _<|Yf hr) (by rw[<-YY (p:=p)];exact hP.pn.rf.heads) hs.1]
 cases q:Z2 (toP p P) j with
 |true=>rw[T9 rfl]
 |false=>
  rw[T8<|by simp,Ww q]
  unfold toV;rw[jh<|by simpa using f1]
  have one:ph p 1=1:=by rcases(inferInstance:Base p).b with e|e|e<;>subst e<;>rfl
  by_cases c:j=f
  ·rw[T9 c,T9 c,one]
  ·rw[T8 c,T8 c]
   have:gt (ar n (0:Int)) j=0:=by
    unfold gt;rw[aG,bI];split<;>rfl
   rw[this,Ve]
noncomputable def Qs(p n:Nat)(P:List Row):List Row:=WM p []<|(WQ n P).map<|avI p n P
def Ws(hP:pZ p n P):pZ p n (Qs p n P)/\toP p (Qs p n P)=perp (QW p) n (toP p P):=by
 obtain⟨a,b⟩:=GH (pZ.nil) λr hr=>by
  obtain⟨f,hf,rfl⟩:=aK.mp hr;exact(ZaJ hP hf).1
 refine⟨a,?_⟩;unfold Qs;rw[b];unfold perp;rw[U4,bE]
 congr 1
 exact cW λf hf=>(ZaJ hP hf).2
noncomputable def Ur(p n:Nat)(P Q:List Row):List Row:=Qs p n<|WM p (Qs p n P)<|Qs p n Q
def zC(hP:pZ p n P)(hQ:pZ p n Q):pZ p n (Ur p n P Q)/\toP p (Ur p n P Q)=meet (QW p) n (toP p P) (toP p Q):=by
 obtain⟨a1,a2⟩:=Ws hP;obtain⟨b1,b2⟩:=Ws hQ;obtain⟨c1,c2⟩:=XR a1 b1;obtain⟨d1,d2⟩:=Ws c1;exact⟨d1,by unfold Ur;rw[d2,c2,a2,b2];rfl⟩
end
section
variable{p n:Nat}[Base p]
abbrev Mm(p:Nat)[NeZero p](P:List Row)(u:Vec (Fin p)):Prop:=Mem (toP p P) u
def eqP(hA:pZ p n A)(hB:pZ p n B)(h:∀u,Mm p A u↔Mm p B u):A=B:=ZbO hA.row hB.row<|Zdx fld hA.pn hB.pn h
def Zda(hP:pZ p n P)(hQ:pZ p n Q)(h:Mm p P u):Mm p (WM p P Q) u:=by
 unfold Mm;rw[(XR hP hQ).2];exact Jt fld hP.pn hQ.pn h
def Zbj(hP:pZ p n P)(hQ:pZ p n Q)(h:Mm p Q u):Mm p (WM p P Q) u:=by
 unfold Mm;rw[(XR hP hQ).2];exact Qj fld hP.pn hQ.pn h
def j5(hP:pZ p n P)(hQ:pZ p n Q)(h1:∀u,Mm p P u->Mm p R u)(h2:∀u,Mm p Q u->Mm p R u)(h:Mm p (WM p P Q) u):Mm p R u:=by
 unfold Mm at h;rw[(XR hP hQ).2]at h;exact xd fld hP.pn hQ.pn h1 h2 h
def vU(hP:pZ p n P)(hQ:pZ p n Q)(u:Vec (Fin p)):Mm p (Ur p n P Q) u↔Mm p P u/\Mm p Q u:=by
 unfold Mm;rw[(zC hP hQ).2];exact Zad fld hP.pn hQ.pn u
def pJ(hP:pZ p n P)(hQ:pZ p n Q):pZ p n (WM p P Q):=(XR hP hQ).1
def pM(hP:pZ p n P)(hQ:pZ p n Q):pZ p n (Ur p n P Q):=(zC hP hQ).1
noncomputable def Yu(p:Nat)(P:List Row)(r:Row):Bool:=(hdI<|Zp p P r).isNone
def Zu(hP:pZ p n P)(hr:Zj p n r):Yu p P r=ah↔Mm p P (toV p r):=by
 unfold Mm;rw[<-Zab hP hr];unfold Yu;cases hdI (Zp p P r)<;>simp
def Vs(hP:pZ p n P)(hQ:pZ p n Q):P.all (Yu p Q)=ah↔∀u,Mm p P u->Mm p Q u:=by
 rw[aV]
 constructor
 ·intro h u hu
  have gen:∀R:Pt (Fin p),(∀a∈R,Mm p Q a.2)->Mm p Q (pr R u):=by
   intro R
   induction R with
   |nil=>intro _;exact XT
   |cons a R ih=>
    intro hR;have:=Xn (u a.1) (ih λb hb=>hR b<|al _ hb)<|hR a<|am ..
    have e:(λj=>pr R u j+u a.1*a.2 j)=pr (a::R) u:=by funext j;show _=u a.1*a.2 j+pr R u j;grind
    rw[e]at this;exact this
  have:=gen (toP p P) λa ha=>by
   obtain⟨r,hr,rfl⟩:=aK.mp ha;exact(Zu hQ<|hP.row r hr).mp<|h r hr
  have e:=funext λj=>(hu j).symm
  rw[e]at this;exact this
 ·intro h r hr
  exact(Zu hQ<|hP.row r hr).mpr<|h _<|X1 hP.pn.rf<|Yf hr
theorem wQ{F:Type}[gE F]{x:Nat×Vec F}:∀{P:Pt F},(∀a∈P,a.1<x.1)->ins x P=P++[x]
 |[],_=>rfl
 |y::P,h=>by
  unfold ins;rw[T8<|by grind,wQ λa ha=>h a<|al _ ha];rfl
def uD{P:List Row}{l:Row}{j:Nat}(hP:pZ p n P)(hl:Zj p n l)(hj:j<n)(h1:gt l j=1)(h0:∀i,i<j->gt l i=0)(hh:∀r∈P,(hdI r).getD 0<j):pZ p n (P.map (λo=>clr p o l j)++[l])/\∀r∈P.map (λo=>clr p o l j)++[l],(hdI r).getD 0<j+1:=by
 have one:ph p 1=1:=by rcases(inferInstance:Base p).b with e|e|e<;>subst e<;>rfl
 have hlt:∀a∈toP p P,a.1<j:=λa ha=>by
  obtain⟨r,hr,rfl⟩:=aK.mp ha;exact hh r hr
 have L:Lead (toP p P) j (toV p l):=⟨by unfold toV;rw[h1,one],λi hi=>(Yk hl).mpr<|h0 i hi,λa ha=>(Yk hl).mpr<|h0 _<|hlt a ha⟩
 have rf:=Zaq fld.one0 hP.pn.rf L;have ew:wid (toP p P) j (toV p l)=(toP p P).map (off j<|toV p l)++[(j,toV p l)]:=wQ λa ha=>by
  obtain⟨b,hb,rfl⟩:=aK.mp ha;exact hlt b hb
 have hx:=Zed (by rw[h1];decide) h0
 have hmem:∀o∈P,off j (toV p l) ((hdI o).getD 0,toV p o)∈wid (toP p P) j (toV p l):=λo ho=>by
  rw[ew];exact cm _<|aK.mpr ⟨_,Yf ho,rfl⟩
 have eh:∀o∈P,hdI (clr p o l j)=aa ((hdI o).getD 0):=λo ho=>by
  have ho':=hP.row o ho;have hc:Zj p n (clr p o l j):=ZD ho' hl;have ev:toV p (clr p o l j)=(off j (toV p l) ((hdI o).getD 0,toV p o)).2:=Wb ho' hl;rw[<-Gb hc,ev];exact yQ (hP.pn.lt _<|Yf ho) (λz=>fld.one0<|(rf.one _<|hmem o ho).symm.trans z)<|rf.low _<|hmem o ho
 have eP:toP p (P.map (λo=>clr p o l j)++[l])=wid (toP p P) j (toV p l):=by
  rw[ew];unfold toP;rw[dH,bE,bE]
  congr 1
  ·refine cW λo ho=>?_
   show((hdI<|clr p o l j).getD 0,toV p<|clr p o l j)=off j _ ((hdI o).getD 0,toV p o);rw[eh o ho,Wb (hP.row o ho) hl];rfl
  ·grind
 have hrow:∀r∈P.map (λo=>clr p o l j)++[l],Zj p n r:=λr hr=>by
  rcases bN.mp hr with z|z
  ·obtain⟨o,ho,rfl⟩:=aK.mp z
   exact ZD (hP.row o ho) hl
  ·grind
 refine⟨⟨hrow,⟨by rw[eP];exact rf,λa ha=>?_,λa ha=>?_⟩⟩,λr hr=>?_⟩
 ·unfold toP at ha
  obtain⟨r,hr,rfl⟩:=aK.mp ha;rcases bN.mp hr with z|z
  ·grind
  ·grind
 ·unfold toP at ha
  obtain⟨r,hr,rfl⟩:=aK.mp ha;exact Qu<|hrow r hr
 ·grind
def Zb7{a:Int}(h0:0<a)(h1:a<p):Yq p a*a%p=1:=by
 rcases(inferInstance:Base p).b with e|e|e<;>subst e
 ·have:a=1:=by omega
  subst this;rfl
 ·have:a=1\/a=2:=by omega
  rcases this with e|e<;>subst e<;>rfl
 ·have:a=1\/a=2\/a=3\/a=4:=by omega
  rcases this with e|e|e|e<;>subst e<;>rfl
def ja{a:Int}(h0:0<a)(h1:a<p):(aR p).filter (λk:Nat=>ae<|(k:Int)*a%p=1)=[(Yq p a).toNat]/\((Yq p a).toNat:Int)=Yq p a:=by
 rcases(inferInstance:Base p).b with e|e|e<;>subst e
 ·have:a=1:=by omega
  subst this;exact⟨rfl,rfl⟩
 ·have:a=1\/a=2:=by omega
  rcases this with e|e<;>subst e<;>exact⟨rfl,rfl⟩
 ·have:a=1\/a=2\/a=3\/a=4:=by omega
  rcases this with e|e|e|e<;>subst e<;>exact⟨rfl,rfl⟩
structure Red(p n:Nat)[NeZero p](j:Nat)(rest found:List Row):Prop where
 row:∀r∈rest,Zj p n r
 low:∀r∈rest,∀i,i<j->gt r i=0
 part:pZ p n found
 head:∀r∈found,(hdI r).getD 0<j
def ZaH{j:Nat}{rest found:List Row}(h:Red p n j rest found)(hz:∀r∈rest,gt r j=0):Red p n (j+1) rest found:=
 ⟨h.row,λr hr i hi=>by
   by_cases c:i=j
   ·grind
   ·exact h.low r hr i<|by omega,h.part,λr hr=>by have:=h.head r hr;omega⟩
def qY{j:Nat}{rest found:List Row}{f:Row}(h:Red p n j rest found)(hj:j<n)(hf:f∈rest)(hz:gt f j≠0):Red p n (j+1) (rest.map λr=>clr p r (lead p f j) j) (found.map (λr=>clr p r (lead p f j) j)++[lead p f j]):=by
 have hfr:=h.row f hf;have hg:=Wi ppos hfr j;have hl:Zj p n (lead p f j):=YX hfr;have h1:gt (lead p f j) j=1:=by unfold lead;rw[UV];exact Zb7 (by omega) hg.2
 have h0:∀i,i<j->gt (lead p f j) i=0:=λi hi=>by unfold lead;rw[UV,h.low f hf i hi];simp
 obtain⟨a,b⟩:=uD h.part hl hj h1 h0 h.head;refine⟨λr hr=>?_,λr hr i hi=>?_,a,b⟩
 ·obtain⟨o,ho,rfl⟩:=aK.mp hr
  exact ZD (h.row o ho) hl
 ·obtain⟨o,ho,rfl⟩:=aK.mp hr
  unfold clr;rw[UF (h.row o ho) hl];by_cases c:i=j
  ·rw[c,h1]
   rw[show gt o j + -(gt o j)*1=0 by omega];rfl
  ·rw[h.low o ho i<|by omega,h0 i<|by omega];simp
end
end Rw
namespace Pv
open Ev
open Rw
def Zb{α β:Type}{a:α}{s:DS}{f:α->DS->PR β}:(PR.ok a s).bind f=f a s:=rfl
def Uf(hf:F[f]?=aa fn)(hne:f≠tk)(hl:vs.length=fn.ps):ZL F tk (d+1) f vs s=(rvs (ZL F tk d) (muts fn.body) fn.body (Xz fn.ns vs) [] s).bind λg s=>match g with
  |.ret v=>.ok v s
  |.nx _ _=>.ok .non s
  |_=>.no:=by
 rw[ZL,T8 hne,hf];show(if vs.length=fn.ps then _ else _)=_
 rw[T9 hl]
 all_goals rfl
def Zam(s:DS)(h:0<m):0<=(Yw s m).1/\(Yw s m).1<m:=by
 unfold Yw;split
 ·exact⟨eA _<|by omega,dA _ h⟩
 ·exact⟨eA _<|by omega,dA _ h⟩
def vC(s:DS)(h0:0<m)(h1:m<1073741824):∃v s',ZL F tk (d+1) tk [.drw,.int m] s=.ok (.int v) s'/\0<=v/\v<m:=by
 refine⟨(Yw s m).1,(Yw s m).2,?_,Zam s h0⟩;rw[ZL,T9 rfl];show(if 0<m/\m<1073741824 then _ else _)=_
 rw[T9 ⟨h0,h1⟩]
theorem yg{α:Type}{f:V->DS->PR (List V)}{s:DS}{e:α->V}{g:α->V}:∀{l:List α},(∀x∈l,f (e x) s=.ok [g x] s)->mapP f (l.map e) s=.ok (l.map g) s
 |[],_=>rfl
 |x::l,h=>by
  rw[aU,mapP,h x<|am ..];show(match mapP f (l.map e) s with|.ok zs s=>PR.ok ([g x]++zs) s|_=>.no)=_
  rw[yg λy hy=>h y<|al _ hy];rfl
theorem Uc{α:Type}{f:V->DS->PR (List V)}{s:DS}{e:α->V}{g:α->V}{q:α->Bool}:∀{l:List α},(∀x∈l,f (e x) s=.ok (if q x=ah then[g x]else[]) s)->mapP f (l.map e) s=.ok ((l.filter q).map g) s
 |[],_=>rfl
 |x::l,h=>by
  rw[aU,mapP,h x<|am ..];show(match mapP f (l.map e) s with|.ok zs s=>PR.ok ((if q x=ah then[g x]else[])++zs) s|_=>.no)=_
  rw[Uc λy hy=>h y<|al _ hy,iS]
  cases q x<;>rfl
theorem Jm{Q:V->Prop}(h:∀x s,∃y s',f x s=.ok [y] s'/\Q y):∀(l:List V)(s:DS),∃ys s',mapP f l s=.ok ys s'/\ys.length=l.length/\∀y∈ys,Q y
 |[],s=>⟨[],s,rfl,rfl,λ_ h=>by cases h⟩
 |x::l,s=>by
  obtain⟨y,s1,e1,q1⟩:=h x s;obtain⟨ys,s2,e2,l2,q2⟩:=Jm h l s1;refine⟨y::ys,s2,?_,by rw[aP,aP,l2],λz hz=>?_⟩
  ·rw[mapP,e1]
   show(match mapP f l s1 with|.ok zs s=>PR.ok ([y]++zs) s|_=>.no)=_
   rw[e2];rfl
  ·rcases az.mp hz with rfl|hz
   ·exact q1
   ·exact q2 z hz
theorem JH{σ α:Type}{body:V->Env->List Nat->DS->PR FlV}{s:DS}{os:List Nat}{ρ:σ->Option V->Env}{step:σ->α->σ}{e:α->V}(I:σ->Prop):∀{l:List α}{st:σ}{o:Option V},I st->(∀x∈l,∀st o,I st->I (step st x)/\∃o',body (e x) (ρ st o) os s=.ok (.nx (ρ (step st x) o') os) s)->∃o',I (l.foldl step st)/\XG body (l.map e) (ρ st o) os s=.ok (.nx (ρ (l.foldl step st) o') os) s
 |[],st,o,hI,_=>⟨o,hI,rfl⟩
 |x::l,st,o,hI,h=>by
  obtain⟨h1,o1,e1⟩:=h x (am ..) st o hI;obtain⟨o2,h2,e2⟩:=JH I h1 λy hy=>h y<|al _ hy
  refine⟨o2,h2,?_⟩;rw[aU,XG,e1];exact e2
noncomputable def WK:Option Nat->V
 |none=>.non
 |some k=>.int k
noncomputable def spV(p n:Nat):V:=.tup [.int p,.int n]
def ZN{a:Int}(h:-4294967296<a)(h':a<4294967296):fits a=ah:=by
 refine T5 ?_;have h1:a.natAbs<2^32:=by omega
 exact aQ h1<|dP (by decide)<|by decide
def UU{α:Type}{xs:List α}{k:Nat}{x:α}(h:xs[k]?=aa x):at' xs (k:Int)=aa x:=by
 have hk:=(ay.mp h).1;unfold at' ixN;rw[T9<|by omega,T9<|by omega]
 rw[show(k:Int).toNat=k by omega];exact h
def Wu{r:Row}{k:Nat}(hk:k<r.length):at' (r.map V.int) (k:Int)=aa (.int<|gt r k):=by
 refine UU ?_;rw[aX,ag hk];unfold gt;rw[aG,ag hk];rfl
theorem Yp{α:Type}{g:α->Bool}:∀l:List α,ZV (l.map λx=>.bl<|g x)=aa (l.map g)
 |[]=>rfl
 |x::l=>by rw[aU,ZV,Yp l];rfl
theorem UO{α:Type}{f:V->V->Option Bool}{e:α->V}{d:α->α->Bool}(hd:∀a b,d a b=ah↔a=b)(h:∀a b,f (e a) (e b)=aa (d a b)):∀a b:List α,∃c,Vw f (a.map e) (b.map e)=aa c/\(c=ah↔a=b)
 |[],[]=>⟨ah,rfl,by simp⟩
 |[],_::_=>⟨ai,rfl,by simp⟩
 |_::_,[]=>⟨ai,rfl,by simp⟩
 |x::a,y::b=>by
  obtain⟨c,e1,e2⟩:=UO hd h a b;refine⟨d x y&&c,?_,?_⟩
  ·rw[aU,aU,Vw,h,e1]
  ·rw[aE,hd,e2];simp
def ZbM(k:Nat)(a b:Row):eqV (k+2) (Zd a) (Zd b)=aa (ae<|a=b):=by
 show Vw (eqV<|k+1) (a.map .int) (b.map .int)=_;obtain⟨c,e1,e2⟩:=UO (f:=eqV<|k+1) (e:=V.int) (λa b=>by simp) (λa b=>rfl) a b
 rw[e1,show c=ae (a=b) by rw[bT,e2];simp]
def jx(k:Nat)(a b:List Row):eqV (k+3) (Ze a) (Ze b)=aa (ae<|a=b):=by
 show Vw (eqV<|k+2) (a.map Zd) (b.map Zd)=_;obtain⟨c,e1,e2⟩:=UO (λa b=>by simp) (λa b=>ZbM k a b) a b
 rw[e1,show c=ae (a=b) by rw[bT,e2];simp]
theorem Qq:∀(r o:Row),((r.map V.int).zip<|o.map V.int).map (λq=>V.tup [q.1,q.2])=(r.zip o).map λq=>V.tup [.int q.1,.int q.2]
 |[],_=>rfl
 |_::_,[]=>rfl
 |a::r,b::o=>by rw[aU,aU,cP,aU,cP,aU,Qq r o]
theorem YW:∀r:Row,intsV (r.map V.int)=aa r
 |[]=>rfl
 |a::r=>by show(intsV<|r.map V.int).map (a :: ·)=_;rw[YW r];rfl
theorem Yz:∀P:List Row,Y8 (P.map Zd)=aa P
 |[]=>rfl
 |r::P=>by
  show(match intsV (r.map V.int),Y8 (P.map Zd)with|some a,aa b=>aa (a::b)|_,_=>ac)=_
  rw[YW,Yz P]
theorem X8:∀r:Row,ZP (r.map V.int)=ah
 |[]=>rfl
 |a::r=>X8 r
def Zck(n:Nat):XQ 0 n=(aR n).map λ(k:Nat)=>V.int (k:Int):=by
 refine cW λk _=>?_
 simp
def Z8{α:Type}{a:α}{s:DS}:po (aa a) s=.ok a s:=rfl
section
variable{C:Zy}{cap:List Nat}{nl:Nat}{t:List Nat}{it:W}{elt tst:E}{ρ:Env}{s:DS}{α:Type}
def ZG{l:List α}{e g:α->V}(hw:pvw C it ρ s=.ok (l.map e) s)(hl:l.length<=lim)(h:∀x∈l,∃σ,ZA t (e x) (Yr cap nl ρ)=aa σ/\pv C elt σ s=.ok (g x) s)(ho:own nl t=ah:=by rfl):pv C (.comp1 cap nl t it [] elt) ρ s=.ok (.lst<|l.map g) s:=by
 rw[pv,T9 ho,hw,Zb,yg λx hx=>by
  obtain⟨σ,e1,e2⟩:=h x hx;rw[e1,Z8,Zb,pvt,Zb];rw[e2];rfl]
 rw[Zb,T9<|by rw[aF];exact hl];rfl
def YG{l:List α}{e g:α->V}{q:α->Bool}(hw:pvw C it ρ s=.ok (l.map e) s)(hl:l.length<=lim)(h:∀x∈l,∃σ v,ZA t (e x) (Yr cap nl ρ)=aa σ/\pv C tst σ s=.ok v s/\Yh v=aa (q x)/\(q x=ah->pv C elt σ s=.ok (g x) s))(ho:own nl t=ah:=by rfl):pv C (.comp1 cap nl t it [tst] elt) ρ s=.ok (.lst<|(l.filter q).map g) s:=by
 rw[pv,T9 ho,hw,Zb,Uc (q:=q) λx hx=>by
  obtain⟨σ,v,e1,e2,e3,e4⟩:=h x hx;rw[e1,Z8,Zb,pvt,e2,Zb,e3,Z8,Zb];cases c:q x with
  |true=>
   rw[T9 rfl,pvt,Zb,T9 rfl,T9 rfl,e4 c];rfl
  |false=>rw[T8<|by simp,Zb,T8<|by simp,T8<|by simp]]
 rw[Zb,T9<|by rw[aF];exact bh (eD ..) hl];rfl
def Q7{Q:V->Prop}(hw:pvw C it ρ s=.ok (XQ 0 k) s)(hl:k<=lim)(h:∀(x:V)(s:DS),∃σ y s',ZA t x (Yr cap nl ρ)=aa σ/\pv C elt σ s=.ok y s'/\Q y)(ho:own nl t=ah:=by rfl) :
  ∃ys s',pv C (.comp1 cap nl t it [] elt) ρ s=.ok (.lst ys) s'/\ys.length=k/\∀y∈ys,Q y:=by
 obtain⟨ys,s',e1,e2,e3⟩:=Jm (f:=λx s=>(po (ZA t x<|Yr cap nl ρ) s).bind λσ s=>(pvt C [] σ s).bind λb s=>if b then(pv C elt σ s).bind λy s=>.ok [y] s else .ok [] s) (λx s=>by
  obtain⟨σ,y,s',f1,f2,f3⟩:=h x s;refine⟨y,s',?_,f3⟩;rw[f1,Z8,Zb,pvt,Zb];rw[f2];rfl) (XQ 0 k) s
 have hk:(XQ 0 k).length=k:=by unfold XQ;simp
 refine⟨ys,s',?_,by rw[e2,hk],e3⟩
 rw[pv,T9 ho,hw,Zb,e1,Zb,T9<|by rw[e2,hk];exact hl];rfl
end
def Zeh{xs:List V}{k:Nat}(h:k<=xs.length):YR xs ac (aa (k:Int))=xs.take k:=by
 show(xs.drop 0).take ((if(k:Int)<0 then((k:Int)+xs.length).toNat else nM (k:Int).toNat xs.length)-0)=_
 rw[T8<|by omega,show nM (k:Int).toNat xs.length-0=k by omega];rfl
def zP{xs:List V}{i:Int}{k:Nat}(hi:i=k)(h:k<=xs.length):YR xs (aa i) ac=xs.drop k:=by
 subst hi;show(xs.drop<|if(k:Int)<0 then((k:Int)+xs.length).toNat else nM (k:Int).toNat xs.length).take (xs.length-(if(k:Int)<0 then((k:Int)+xs.length).toNat else nM (k:Int).toNat xs.length))=_
 rw[T8<|by omega,show nM (k:Int).toNat xs.length=k by omega]
 exact fJ (by rw[cr];omega)
def ZaB{xs:List V}:YR xs (aa 1) ac=xs.tail:=by
 cases xs with|nil=>rfl|cons x xs=>exact zP rfl (by simp)
noncomputable def Zv(k:Nat):V:=.int k
def J9(n:Nat):XQ 0 n=(aR n).map Zv:=by rw[Zck];rfl
def ya(h0:0<=i)(h1:i<1000000):Uh i=ah:=by
 unfold Uh;have e:(2:Int)^62=4611686018427387904:=by decide
 rw[e];exact T5 ⟨by omega,by omega⟩
def Zs(hf:F[f]?=aa fn)(hne:f≠tk)(hl:vs.length=fn.ps)(h:rvs (ZL F tk d) (muts fn.body) fn.body (Xz fn.ns vs) [] s=.ok (.ret v) s'):ZL F tk (d+1) f vs s=.ok v s':=by
 rw[Uf hf hne hl,h];rfl
def UG(hf:F[f]?=aa fn)(hne:f≠tk)(hl:vs.length=fn.ps)(h:rvs (ZL F tk d) (muts fn.body) fn.body (Xz fn.ns vs) [] s=.ok (.nx ρ os) s'):ZL F tk (d+1) f vs s=.ok .non s':=by
 rw[Uf hf hne hl,h];rfl
section
variable{C:Zy}{ms:List Nat}{m:Sm}{l:List Sm}{ρ ρ':Env}{os os':List Nat}{s s':DS}
def Zi(h:rv C ms m ρ os s=.ok (.nx ρ' os') s'):rvs C ms (m::l) ρ os s=rvs C ms l ρ' os' s':=by rw[rvs,h];rfl
def Zl(h:rv C ms m ρ os s=.ok (.ret v) s'):rvs C ms (m::l) ρ os s=.ok (.ret v) s':=by rw[rvs,h];rfl
def ZH(h:pv C e ρ s=.ok v s'):rv C ms (.ret e) ρ os s=.ok (.ret v) s':=by rw[rv,h];rfl
def vm(h:pv C (.call f as) ρ s=.ok v s'):rv C ms (.ex<|.call f as) ρ os s=.ok (.nx ρ os) s':=by
 have:rv C ms (.ex<|.call f as) ρ os s=(pv C (.call f as) ρ s).bind λ_ s=>.ok (.nx ρ os) s:=by
  rw[rv]
  all_goals(intro _ _ z;cases z)
 rw[this,h];rfl
def WP{b:Bool}{t:E}{x y:List Sm}(h:Uv C t ρ s=.ok b s'):rv C ms (.ite t x y) ρ os s=if b=ah then rvs C ms x ρ os s' else rvs C ms y ρ os s':=by rw[rv,h];rfl
def Wc{v:V}{b:Bool}{t:E}(h:pv C t ρ s=.ok v s')(hb:Yh v=aa b):Uv C t ρ s=.ok b s':=by unfold Uv;rw[h,Zb,hb];rfl
def Zk{f:Nat}{as:List E}{vs:List V}{v:V}{s1:DS}(h:pvs C as ρ s=.ok vs s1)(hc:C f vs s1=.ok v s'):pv C (.call f as) ρ s=.ok v s':=by rw[pv,h];exact hc
def Zf:pvs C [] ρ s=.ok [] s:=by rw[pvs]
def Za{e:E}{es:List E}{v:V}{vs:List V}{s1:DS}(h:pv C e ρ s=.ok v s1)(h2:pvs C es ρ s1=.ok vs s'):pvs C (e::es) ρ s=.ok (v::vs) s':=by rw[pvs,h,Zb,h2];rfl
def Zh{i:Nat}{v:V}(h:ρ[i]?=aa (aa v)):pv C (.v i) ρ s=.ok v s:=by rw[pv,h];rfl
def ZZ{i:Nat}{e:E}{v:V}(h:pv C e ρ s=.ok v s')(hm:(ms.contains i&&fresh e)=ai):rv C ms (.asg [i] e) ρ [] s=.ok (.nx (ρ.set i<|aa v) []) s':=by
 rw[rv];show(pv C e ρ s).bind _=_;rw[h,Zb,T8<|by rw[hm];simp];rfl
def GY{σ α:Type}{t:List Nat}{it:W}{b:List Sm}{L:List α}{e:α->V}{step:σ->α->σ}{ρ:σ->Option V->Env}{st:σ}{o:Option V}(I:σ->Prop)(hw:pvw C it (hide os<|ρ st o) s=.ok (L.map e) s)(hI:I st)(ht:(t.any os.contains)=ai)
  (h:∀x∈L,∀st o,I st->I (step st x)/\(os.isEmpty||(e x).flat)=ah/\∃ρ1 o',ZA t (e x) (ρ st o)=aa ρ1/\rvs C ms b ρ1 os s=.ok (.nx (ρ (step st x) o') os) s) :
  ∃o',I (L.foldl step st)/\rv C ms (.forr t it b) (ρ st o) os s=.ok (.nx (ρ (L.foldl step st) o') os) s:=by
 obtain⟨o',h1,h2⟩:=JH (body:=λx ρ os s=>if(t.any os.contains)=ah then .no else if(os.isEmpty||x.flat)=ah then(po (ZA t x ρ) s).bind λρ s=>rvs C ms b ρ os s else .no) I hI (λx hx st o hI=>by
  obtain⟨a,f,ρ1,o',b1,b2⟩:=h x hx st o hI;refine⟨a,o',?_⟩;rw[T8<|by rw[ht];simp,T9 f,b1,Z8,Zb,b2])
 refine⟨o',h1,?_⟩;rw[rv,hw,Zb];exact h2
def X5{e:E}{n:Nat}(h:pv C e ρ s=.ok (.int n) s')(hn:n<1000000):pvw C (.rng1 e) ρ s=.ok ((aR n).map Zv) s':=by
 rw[pvw,h,Zb];show(if Uh (n:Int)=ah then PR.ok (XQ 0 (n:Int).toNat) s' else .no)=_
 rw[T9<|ya (by omega)<|by omega,cT,J9]
def ub{α:Type}{t:List Nat}{it:W}{b:List Sm}{L:List α}{e:α->V}(I:List α->Env->Prop)(hw:pvw C it (hide os ρ) s=.ok (L.map e) s)(hI:I L ρ)(ht:(t.any os.contains)=ai)
  (h:∀x l ρ,I (x::l) ρ->(os.isEmpty||(e x).flat)=ah/\∃ρ1 ρ',ZA t (e x) ρ=aa ρ1/\rvs C ms b ρ1 os s=.ok (.nx ρ' os) s/\I l ρ') :
  ∃ρ',I [] ρ'/\rv C ms (.forr t it b) ρ os s=.ok (.nx ρ' os) s:=by
 rw[rv,hw,Zb];clear hw
 induction L generalizing ρ with
 |nil=>exact⟨ρ,hI,rfl⟩
 |cons x L ih=>
  obtain⟨f,ρ1,ρ',b1,b2,b3⟩:=h x L ρ hI;obtain⟨ρ2,c1,c2⟩:=ih b3;refine⟨ρ2,c1,?_⟩;rw[aU,XG,T8<|by rw[ht];simp,T9 f,b1,Z8,Zb,b2,Zb]
  exact c2
def ZcN{σ α:Type}{t:List Nat}{it:W}{b:List Sm}{L:List α}{e:α->V}{step:σ->α->σ}{ρ:σ->Option V->Env}{st:σ}{o:Option V}(I:List α->σ->Prop)(hw:pvw C it (hide os<|ρ st o) s=.ok (L.map e) s)(hI:I L st)(ht:(t.any os.contains)=ai)
  (h:∀x l st o,I (x::l) st->I l (step st x)/\(os.isEmpty||(e x).flat)=ah/\∃ρ1 o',ZA t (e x) (ρ st o)=aa ρ1/\rvs C ms b ρ1 os s=.ok (.nx (ρ (step st x) o') os) s) :
  ∃o',I [] (L.foldl step st)/\rv C ms (.forr t it b) (ρ st o) os s=.ok (.nx (ρ (L.foldl step st) o') os) s:=by
 rw[rv,hw,Zb];clear hw
 induction L generalizing st o with
 |nil=>exact⟨o,hI,rfl⟩
 |cons x L ih=>
  obtain⟨a,f,ρ1,o',b1,b2⟩:=h x L st o hI;obtain⟨o2,c1,c2⟩:=ih a;refine⟨o2,c1,?_⟩;rw[aU,XG,T8<|by rw[ht];simp,T9 f,b1,Z8,Zb,b2,Zb]
  exact c2
end
def pvF:(∀a,fresh (.lst a)=ah)/\(∀a b,fresh (.bin .mul (.lst a) b)=ah)/\(∀b,Yh (.bl b)=aa b)/\(∀i,Yh (.int i)=aa (ae<|i≠0))/\(∀xs,Yh (.tup xs)=aa (!xs.isEmpty))/\(∀xs,Yh (.lst xs)=aa (!xs.isEmpty))/\(Yh .non=aa ai)/\(∀xs i,ixV (.tup xs) (.int i)=at' xs i)/\(∀xs i,ixV (.lst xs) (.int i)=at' xs i)/\(∀xs,Z9 (.tup xs)=aa xs)/\(∀xs,Z9 (.lst xs)=aa xs)/\(∀x,US .len [x]=(Z9 x).map λxs=>.int xs.length)/\(∀x,US .tuple [x]=(Z9 x).map .tup)/\(∀x,US .list [x]=(Z9 x).map .lst)/\(∀xs,US .all [.lst xs]=(ZV xs).map λbs=>.bl<|bs.all id)/\(∀a b,US .max2 [.int a,.int b]=aa (.int (if b>a then b else a)))/\(∀a b,US .min2 [.int a,.int b]=aa (.int (if b<a then b else a)))/\(∀a,US .toInt [.int a]=aa (.int a))/\(∀a,US .toInt [.bl a]=aa (.int<|b2i a))/\(∀xs,US .sortedR [.lst xs]=(Y8 xs).bind λrs=>if Y7 rs=ah then aa (.lst<|(Z5 rs).reverse.map Zd)else ac)/\(∀a b s,WV .add (.int a) (.int b) s=.ok (.int<|a+b) s)/\(∀a b s,WV .sub (.int a) (.int b) s=.ok (.int<|a-b) s)/\(∀a b s,WV .mul (.int a) (.int b) s=if(fits a&&fits b)=ah then .ok (.int<|a*b) s else .no)/\(∀a b s,WV .mod (.int a) (.int b) s=if 0<b then .ok (.int<|a%b) s else .no)/\(∀a b s,WV .add (.tup a) (.tup b) s=if a.length+b.length<=lim then .ok (.tup<|a++b) s else .no)/\(∀a b s,WV .mul (.tup a) (.int b) s=if 0<=b/\b<1000/\a.length<=1000 then .ok (.tup (ar b.toNat a).flatten) s else .no)/\(∀a b s,WV .mul (.lst a) (.int b) s=if 0<=b/\b<1000/\a.length<=1000 then .ok (.lst (ar b.toNat a).flatten) s else .no)/\(∀a b s,WV .add (.lst a) (.lst b) s=if a.length+b.length<=lim then .ok (.lst<|a++b) s else .no)/\(∀x y,WZ .eq x y=(eqV Zo x y).map .bl)/\(∀x y,WZ .ne x y=(eqV Zo x y).map λb=>.bl !b)/\(∀a b,WZ .lt (.int a) (.int b)=aa (.bl<|ae<|a<b))/\(∀a b,WZ .le (.int a) (.int b)=aa (.bl<|ae<|a<=b))/\(∀a b,WZ .ge (.int a) (.int b)=aa (.bl<|ae<|b<=a))/\(∀x,WZ .is x .non=aa (.bl<|UX x))/\(∀a b,WZ .is (.bl a) (.bl b)=aa (.bl<|ae<|a=b))/\(∀x y,WZ .inn x y=(XF x y).map .bl)/\(∀x y,WZ .nin x y=(XF x y).map λb=>.bl !b)/\(UX .non=ah)/\(∀b,UX (.bl b)=ai)/\(∀b,UX (.int b)=ai)/\(∀b,UX (.tup b)=ai)/\(∀b,UX (.lst b)=ai)/\(ofD .non=aa .non)/\(∀b,ofD (.bl b)=aa (.bl b))/\(∀b,ofD (.int b)=aa (.int b))/\(∀ρ,YL [] [] ρ=aa ρ)/\(∀i t x xs ρ,YL (i::t) (x::xs) ρ=YL t xs (ρ.set i<|aa x))/\(∀i x ρ,ZA [i] x ρ=aa (ρ.set i<|aa x))/\(∀i j t xs ρ,ZA (i::j::t) (.tup xs) ρ=YL (i::j::t) xs ρ)/\(∀i j t xs ρ,ZA (i::j::t) (.lst xs) ρ=YL (i::j::t) xs ρ)/\(∀k a b,eqV (k+1) (.int a) (.int b)=aa (ae<|a=b))/\(∀k a b,eqV (k+1) (.bl a) (.bl b)=aa (ae<|a=b))/\(∀k a b,eqV (k+1) (.tup a) (.tup b)=Vw (eqV k) a b)/\(∀k a b,eqV (k+1) (.lst a) (.lst b)=if a.length=b.length then Vw (eqV k) a b else aa ai):=
 ⟨λ_=>rfl,λ_ _=>rfl,λ_=>rfl,λ_=>rfl,λ_=>rfl,λ_=>rfl,rfl,λ_ _=>rfl,λ_ _=>rfl,λ_=>rfl,λ_=>rfl,λ_=>rfl,λ_=>rfl,λ_=>rfl,λ_=>rfl,λ_ _=>rfl,λ_ _=>rfl,λ_=>rfl,λ_=>rfl,λ_=>rfl,λ_ _ _=>rfl,λ_ _ _=>rfl,λ_ _ _=>rfl,λ_ _ _=>rfl,λ_ _ _=>rfl,λ_ _ _=>rfl,λ_ _ _=>rfl,λ_ _ _=>rfl,λ_ _=>rfl,λ_ _=>rfl,λ_ _=>rfl,λ_ _=>rfl,λ_ _=>rfl,λ_=>rfl,λ_ _=>rfl,λ_ _=>rfl,λ_ _=>rfl,rfl,λ_=>rfl,λ_=>rfl,λ_=>rfl,λ_=>rfl,rfl,λ_=>rfl,λ_=>rfl,λ_=>rfl,λ_ _ _ _ _=>rfl,λ_ _ _=>rfl,λ_ _ _ _ _=>rfl,λ_ _ _ _ _=>rfl,λ_ _ _=>rfl,λ_ _ _=>rfl,λ_ _ _=>rfl,λ_ _ _=>rfl⟩
def pvE:=aI (aI (aI (aI (aI pvF<|aI @Zb @Z8)<|aI (aI @Uv.eq_1 @Xz.eq_1)<|aI @hide.eq_1 @Yr.eq_1)<|aI (aI (aI @Option.join.eq_1.{0} @lim.eq_1)<|aI @rvs.eq_1 @rvs.eq_2)<|aI (aI @rv.eq_1 @rv.eq_2)<|aI @rv.eq_3 @rv.eq_4)<|aI (aI (aI @rv.eq_5<|aI @rv.eq_6 @rv.eq_7)<|aI (aI @rv.eq_8 @rv.eq_9)<|aI @rv.eq_10 @rv.eq_11)<|aI (aI (aI @rv.eq_12 @rv.eq_13)<|aI @rv.eq_14 @rv.eq_15)<|aI (aI @rv.eq_16 @pvA.eq_1)<|aI @pvA.eq_2 @pvs.eq_1)<|aI (aI (aI (aI @pvs.eq_2<|aI @pvo.eq_1 @pvo.eq_2)<|aI (aI @pvt.eq_1 @pvt.eq_2)<|aI @pvw.eq_1 @pvw.eq_2)<|aI (aI (aI @pvw.eq_3 @pvw.eq_4)<|aI @pv.eq_1 @pv.eq_2)<|aI (aI @pv.eq_3 @pv.eq_4)<|aI @pv.eq_5 @pv.eq_6)<|aI (aI (aI @pv.eq_7<|aI @pv.eq_8 @pv.eq_9)<|aI (aI @pv.eq_10 @pv.eq_11)<|aI @pv.eq_12 @pv.eq_13)<|aI (aI (aI @pv.eq_14 @pv.eq_15)<|aI @pv.eq_16 @pv.eq_17)<|aI (aI @pv.eq_18 @pv.eq_19)<|aI @pv.eq_20 @pv.eq_21
end Pv
namespace K21
open Ev Pv Rw La
noncomputable abbrev CV(d:Nat):Zy:=ZL fns 2 d
theorem JM(C:Zy)(s:DS)(v:V):∀(r:Row)(k:Nat)(a b:Option V),∃a' b',XG (λx ρ os s=>if(([1,2]:List Nat).any os.contains)=ah then .no else if(os.isEmpty||x.flat)=ah then(po (ZA [1,2] x ρ) s).bind λρ s=>rvs C [] [.ite (.cmp .ne (.v 2)<|.c<|.int 0) [.ret<|.v 1] []] ρ os s else .no)
   (((XQ k r.length).zip<|r.map V.int).map λp=>V.tup [p.1,p.2]) [aa v,a,b] [] s=match hdI r with
    |some m=>.ok (.ret<|.int (k+m:Nat)) s
    |none=>.ok (.nx [aa v,a',b'] []) s
 |[],k,a,b=>⟨a,b,rfl⟩
 |x::r,k,a,b=>by
  have er:XQ k (x::r).length=.int k::XQ (k+1:Nat) r.length:=by
   unfold XQ;rw[aP,fI,aU,bE];refine List.cons_eq_cons.mpr ⟨by simp,?_⟩
   ·refine cW λj _=>?_
    show V.int ((k:Int)+((j+1:Nat):Int))=V.int (((k+1:Nat):Int)+(j:Int))
    congr 1
    omega
  obtain⟨a',b',ih⟩:=JM C s v r (k+1) (aa<|.int k)<|aa<|.int x;refine⟨a',b',?_⟩;rw[er,aU,cP,aU,XG];by_cases c:x=0
  ·subst c
   have e0:hdI (0::r)=(hdI r).map (· + 1):=by rw[hdI,T8<|by simp]
   have e1:(if(([1,2]:List Nat).any ([]:List Nat).contains)=ah then(.no:PR FlV)else if(([]:List Nat).isEmpty||(V.tup [V.int k,V.int 0]).flat)=ah then(po (ZA [1,2] (V.tup [.int k,.int 0]) [aa v,a,b]) s).bind λρ s=>rvs C [] [.ite (.cmp .ne (.v 2)<|.c<|.int 0) [.ret<|.v 1] []] ρ [] s else .no)=.ok (.nx [aa v,aa<|.int k,aa<|.int 0] []) s:=by
    simp[pvE,Zo]
   rw[e1,Zb,e0];show XG _ _ [aa v,aa<|.int k,aa<|.int 0] [] s=_;rw[ih];cases hdI r with|none=>rfl|some m=>show PR.ok (FlV.ret<|.int ((k+1+m:Nat):Int)) s=PR.ok (FlV.ret<|.int ((k+(m+1):Nat):Int)) s;congr 3;omega
  ·have e0:hdI (x::r)=aa 0:=by rw[hdI,T9 c]
   have e1:(if(([1,2]:List Nat).any ([]:List Nat).contains)=ah then(.no:PR FlV)else if(([]:List Nat).isEmpty||(V.tup [V.int k,V.int x]).flat)=ah then(po (ZA [1,2] (V.tup [.int k,.int x]) [aa v,a,b]) s).bind λρ s=>rvs C [] [.ite (.cmp .ne (.v 2)<|.c<|.int 0) [.ret<|.v 1] []] ρ [] s else .no)=.ok (.ret<|.int k) s:=by
    simp[pvE,Zo,c]
   rw[e1,Zb,e0];rfl
def Vp(d:Nat)(r:Row)(s:DS):CV (d+1) 4 [Zd r] s=.ok (WK<|hdI r) s:=by
 rw[CV,Uf rfl (by decide) rfl]
 obtain⟨a,b,e⟩:=JM (ZL fns 2 d) s (Zd r) r 0 ac ac;show((rv _ [] (.forr [1,2] (.enum<|.v 0) _) [aa<|Zd r,ac,ac] [] s).bind _).bind _=_;have e2:rv (ZL fns 2 d) [] (.forr [1,2] (.enum<|.v 0) [.ite (.cmp .ne (.v 2)<|.c<|.int 0) [.ret<|.v 1] []]) [aa<|Zd r,ac,ac] [] s=match hdI r with
    |some m=>.ok (.ret<|.int (m:Nat)) s
    |none=>.ok (.nx [aa<|Zd r,a,b] []) s:=by
  rw[rv];have ew:pvw (ZL fns 2 d) (.enum<|.v 0) (hide [] [aa<|Zd r,ac,ac]) s=.ok (((XQ 0 r.length).zip<|r.map V.int).map λp=>V.tup [p.1,p.2]) s:=by
   simp[pvE,Zd]
  rw[ew,Zb];simp only[Nat.zero_add,Int.natCast_zero]at e;exact e
 rw[e2];cases hdI r with|none=>rfl|some m=>rfl
section
variable{p n:Nat}[Base p]
def VZ:(p:Int)<=5/\(2:Int)<=p:=by rcases(inferInstance:Base p).b with e|e|e<;>subst e<;>decide
def yL(d:Nat){r o:Row}{k:Int}(s:DS)(hn:n<=6)(hr:Zj p n r)(ho:Zj p n o)(hk:-1000<k/\k<1000):CV (d+1) 13 [.int p,Zd r,Zd o,.int k] s=.ok (Zd<|ZT p r o k) s:=by
 rw[CV,Uf rfl (by decide) rfl]
 have hp:=VZ (p:=p);have hc:=ZG (C:=ZL fns 2 d) (cap:=[3,0]) (nl:=2) (t:=[0,1]) (it:=.zip (.v 1)<|.v 2) (elt:=.bin .mod (.bin .add (.v 0)<|.bin .mul (.v 2)<|.v 1)<|.v 3) (ρ:=[aa<|.int p,aa<|Zd r,aa<|Zd o,aa<|.int k]) (s:=s) (l:=r.zip o) (e:=λq=>V.tup [.int q.1,.int q.2]) (g:=λq=>V.int<|(q.1+k*q.2)%p)
  (by simp[pvE,Zd,Qq]) (by rw[fo,hr.1,ho.1];unfold lim;omega) (λq hq=>by
   have h2:=ho.2 q.2 (eg hq).2;refine⟨_,rfl,?_⟩;have f1:=ZN (a:=k) (by omega) (by omega)
   have f2:=ZN (a:=q.2) (by omega) (by omega)
   have hp0:0<p:=by omega
   simp[pvE,f1,f2,hp0])
 have e:(r.zip o).map (λq=>V.int<|(q.1+k*q.2)%p)=(ZT p r o k).map V.int:=by
  unfold ZT;rw[<-dR,bE];rfl
 simp[Vh,pvE,hc,e];rfl
def wB(d:Nat){r o:Row}{h:Nat}(s:DS)(hn:n<=6)(hr:Zj p n r)(ho:Zj p n o)(hh:h<n):CV (d+2) 14 [.int p,Zd r,Zd o,.int h] s=.ok (Zd<|clr p r o h) s:=by
 rw[CV,Uf rfl (by decide) rfl]
 have hg:=Wi ppos hr h;have hp:=VZ (p:=p);have e:=yL d (k:=-(gt r h)) s hn hr ho ⟨by omega,by omega⟩
 have e2:=Wu (by rw[hr.1];exact hh)
 simp only[CV]at e;simp[Jg,pvE,Zd,e2];simp only[Zd]at e;rw[e];simp[pvE,clr]
def Zfa(d:Nat){r:Row}{k:Int}(s:DS)(hn:n<=6)(hr:Zj p n r)(hk:-1000<k/\k<1000):CV (d+1) 16 [.int p,Zd r,.int k] s=.ok (Zd<|XC p r k) s:=by
 rw[CV,Uf rfl (by decide) rfl]
 have hp:=VZ (p:=p);have hc:=ZG (C:=ZL fns 2 d) (cap:=[2,0]) (nl:=1) (t:=[0]) (it:=.of<|.v 1) (elt:=.bin .mod (.bin .mul (.v 1)<|.v 0)<|.v 2) (ρ:=[aa<|.int p,aa<|Zd r,aa<|.int k]) (s:=s) (l:=r) (e:=V.int) (g:=λq=>V.int<|k*q%p)
  (by simp[pvE,Zd]) (by rw[hr.1];unfold lim;omega) (λq hq=>by
   have h2:=hr.2 q hq;refine⟨_,rfl,?_⟩;have f1:=ZN (a:=k) (by omega) (by omega)
   have f2:=ZN (a:=q) (by omega) (by omega)
   have hp0:0<p:=by omega
   simp[pvE,f1,f2,hp0])
 simp[vt,pvE,hc];simp[Zd,XC]
def GK(C:Zy)(m:Nat){q a k:Int}(s:DS)(hq:0<q)(f1:fits a=ah)(f2:fits k=ah):Xu (Uv C<|.cmp .ne (.bin .mod (.bin .mul (.v 2)<|.v 1)<|.v 0)<|.c<|.int 1) (rvs C [] [.aug 2 .add<|.c<|.int 1]) (m+1) [aa<|.int q,aa<|.int a,aa<|.int k] [] s =
  if k*a%q=1 then .ok (.nx [aa<|.int q,aa<|.int a,aa<|.int k] []) s else Xu (Uv C<|.cmp .ne (.bin .mod (.bin .mul (.v 2)<|.v 1)<|.v 0)<|.c<|.int 1) (rvs C [] [.aug 2 .add<|.c<|.int 1]) m [aa<|.int q,aa<|.int a,aa<|.int<|k+1] [] s:=by
 rw[Xu];by_cases c:k*a%q=1<;>simp[pvE,f1,f2,hq,Zo,c,uZ]
def Zb2(d:Nat){a:Int}(s:DS)(ha:0<a/\a<p):CV (d+1) 17 [.int p,.int a] s=.ok (.int<|Yq p a) s:=by
 rw[CV,Uf rfl (by decide) rfl]
 generalize ZL fns 2 d=C;have fs:∀k:Int,0<=k->k<=5->fits k=ah:=λk h0 h1=>ZN (by omega) (by omega)
 have hp:=VZ (p:=p);have fa:=fs a (by omega) (by omega)
 have key:Xu (Uv C<|.cmp .ne (.bin .mod (.bin .mul (.v 2)<|.v 1)<|.v 0)<|.c<|.int 1) (rvs C [] [.aug 2 .add<|.c<|.int 1]) (996+1+1+1+1) [aa<|.int p,aa<|.int a,aa<|.int 1] [] s=.ok (.nx [aa<|.int p,aa<|.int a,aa<|.int<|Yq p a] []) s:=by
  rw[GK C _ s (by omega) fa<|fs 1 (by omega)<|by omega,GK C _ s (by omega) fa<|fs (1+1) (by omega)<|by omega,GK C _ s (by omega) fa<|fs (1+1+1) (by omega)<|by omega,GK C _ s (by omega) fa<|fs (1+1+1+1) (by omega)<|by omega]
  rcases(inferInstance:Base p).b with e|e|e<;>subst e
  ·have:a=1:=by omega
   subst this;rfl
  ·have:a=1\/a=2:=by omega
   rcases this with e|e<;>subst e<;>rfl
  ·have:a=1\/a=2\/a=3\/a=4:=by omega
   rcases this with e|e|e|e<;>subst e<;>rfl
 have e:rv C [] (.whl (.cmp .ne (.bin .mod (.bin .mul (.v 2)<|.v 1)<|.v 0)<|.c<|.int 1) [.aug 2 .add<|.c<|.int 1]) [aa<|.int p,aa<|.int a,aa<|.int 1] [] s=.ok (.nx [aa<|.int p,aa<|.int a,aa<|.int<|Yq p a] []) s:=by
  rw[rv];exact key
 show((rvs C [] (.asg [2] (.c<|.int 1) :: .whl _ _ :: .ret (.v 2)::[]) [aa<|.int p,aa<|.int a,ac] [] s).bind _)=_;have e1:rv C [] (.asg [2]<|.c<|.int 1) [aa<|.int p,aa<|.int a,ac] [] s=.ok (.nx [aa<|.int p,aa<|.int a,aa<|.int 1] []) s:=by simp[pvE]
 rw[rvs,e1,Zb];show((rvs C [] (.whl _ _ :: .ret (.v 2)::[]) [aa<|.int p,aa<|.int a,aa<|.int 1] [] s).bind _)=_;rw[rvs,e,Zb];simp[pvE]
end
section
variable{p n:Nat}[Base p]
def XS(C:Zy)(ms:List Nat){i j:Nat}{ρ:Env}{os:List Nat}{s:DS}{e:E}(h:pvA C e ρ os s=.ok (spV p n) s)(ho:os.contains i=ai/\os.contains j=ai):rv C ms (.asg [i,j] e) ρ os s=.ok (.nx ((ρ.set i<|aa<|.int p).set j<|aa<|.int n) os) s:=by
 rw[rv,h,Zb,T8<|by simpa using ho]
 ·rfl
 ·simp
def uT(d:Nat){P:List Row}{r:Row}(s:DS)(hn:n<=6)(hP:pZ p n P)(hr:Zj p n r):CV (d+3) 15 [spV p n,Ze P,Zd r] s=.ok (Zd<|Zp p P r) s:=by
 refine Zs rfl (by decide) rfl ?_
 show rvs (CV<|d+2) [] (.asg [3,4] (.v 0) :: .asg [5] (.v 2) :: .forr [6] (.of<|.v 1) [.asg [5]<|.call 14 [(.v 3),(.v 5),(.v 6),(.call 4 [(.v 6)])]] :: .ret (.v 5)::[]) [aa<|spV p n,aa<|Ze P,aa<|Zd r,ac,ac,ac,ac] [] s=_;rw[Zi<|XS (p:=p) (n:=n) _ _ (by simp[pvE])<|by simp]
 rw[Zi (ρ':=[aa<|spV p n,aa<|Ze P,aa<|Zd r,aa<|.int p,aa<|.int n,aa<|Zd r,ac]) (os':=[]) (s':=s)<|by simp[pvE]]
 obtain⟨o',hI,e⟩:=GY (C:=CV<|d+2) (ms:=[]) (t:=[6]) (it:=.of<|.v 1) (b:=[.asg [5]<|.call 14 [(.v 3),(.v 5),(.v 6),(.call 4 [(.v 6)])]]) (L:=P) (e:=Zd) (step:=λst o=>clr p st o<|(hdI o).getD 0) (ρ:=λst o=>[aa<|spV p n,aa<|Ze P,aa<|Zd r,aa<|.int p,aa<|.int n,aa<|Zd st,o]) (os:=[]) (s:=s) (Zj p n) (by simp[pvE,Ze]) hr rfl (λx hx st o hst=>by
  have hx':=hP.row x hx;obtain⟨k,hk,hkn,_⟩:=hP.head fld.one0 hx;refine⟨ZD hst hx',rfl,_,aa<|Zd x,rfl,?_⟩;have e1:=Vp (d+1) x s;have e2:=wB d s hn hst hx' hkn;rw[hk]at e1;simp only[WK]at e1;have e3:=e1;simp[pvE,e3,e2,hk])
 rw[Zi e];exact Zl<|ZH<|by simp[pvE,Zp]
def dsum{P:List Row}(hP:pZ p n P):P.length<=n:=by
 have:=VS fld hP.pn;rw[ZbQ]at this;omega
def Zb1(d:Nat){P:List Row}{r:Row}(s:DS)(hn:n<=6)(hP:pZ p n P)(hr:Zj p n r):CV (d+4) 18 [spV p n,Ze P,Zd r] s=.ok (Ze<|QU p P r) s:=by
 refine Zs rfl (by decide) rfl ?_
 show rvs (CV<|d+3) [] (.asg [3,4] (.v 0) :: .asg [5] (.call 15 [(.v 0),(.v 1),(.v 2)]) :: .asg [6] (.call 4 [(.v 5)]) :: .ite (.cmp .is (.v 6)<|.c .non) [.ret<|.v 1] [] ::
  .asg [7] (.call 16 [(.v 3),(.v 5),(.call 17 [(.v 3),(.ix (.v 5)<|.v 6)])]) :: .asg [8] (.comp1 [3,7,6] 1 [0] (.of<|.v 1) []<|.call 14 [(.v 1),(.v 0),(.v 2),(.v 3)]) ::
  .ret (.blt .tuple [(.blt .sortedR [(.bin .add (.v 8)<|.lst [(.v 7)])])])::[]) [aa<|spV p n,aa<|Ze P,aa<|Zd r,ac,ac,ac,ac,ac,ac] [] s=_
 obtain⟨l1,l2⟩:=UH hP.row hP.pn.rf hr;have hw:=(xU hP hr).1;rw[Zi<|XS (p:=p) (n:=n) _ _ (by simp[pvE])<|by simp]
 have e1:=uT d s hn hP hr;rw[Zi (ρ':=[aa<|spV p n,aa<|Ze P,aa<|Zd r,aa<|.int p,aa<|.int n,aa<|Zd<|Zp p P r,ac,ac,ac]) (os':=[]) (s':=s)<|by simp[pvE,e1]]
 have e2:=Vp (d+2) (Zp p P r) s;rw[Zi (ρ':=[aa<|spV p n,aa<|Ze P,aa<|Zd r,aa<|.int p,aa<|.int n,aa<|Zd<|Zp p P r,aa<|WK<|hdI<|Zp p P r,ac,ac]) (os':=[]) (s':=s)<|by simp[pvE,e2]]
 cases q:hdI (Zp p P r)with
 |none=>
  refine Zl ?_;have:QU p P r=P:=by unfold QU;rw[q]
  simp[pvE,WK,this]
 |some h=>
  obtain⟨h1,h2,h3⟩:=Yj q;rw[l1.1]at h2;have hg:=Wi ppos l1 h;have hp:=VZ (p:=p);have hwid:QU p P r=(Z5<|P.map (λo=>clr p o (lead p (Zp p P r) h) h)++[lead p (Zp p P r) h]).reverse:=by unfold QU;rw[q]
  rw[Zi (ρ':=[aa<|spV p n,aa<|Ze P,aa<|Zd r,aa<|.int p,aa<|.int n,aa<|Zd<|Zp p P r,aa<|.int h,ac,ac]) (os':=[]) (s':=s)<|by simp[pvE,WK]]
  have e3:=Zb2 (p:=p) (d+2) s ⟨by omega,hg.2⟩
  have hi:-1000<Yq p (gt (Zp p P r) h)/\Yq p (gt (Zp p P r) h)<1000:=by
   unfold Yq
   repeat' split
   all_goals omega
  have e4:=Zfa (p:=p) (d+2) s hn l1 hi;have e5:=Wu (k:=h) (by rw[l1.1];exact h2)
  have hl:Zj p n (lead p (Zp p P r) h):=YX l1;rw[Zi (ρ':=[aa<|spV p n,aa<|Ze P,aa<|Zd r,aa<|.int p,aa<|.int n,aa<|Zd<|Zp p P r,aa<|.int h,aa<|Zd<|lead p (Zp p P r) h,ac]) (os':=[]) (s':=s) (by
   have e6:pv (CV<|d+3) (.call 16 [(.v 3),(.v 5),(.call 17 [(.v 3),(.ix (.v 5)<|.v 6)])]) [aa<|spV p n,aa<|Ze P,aa<|Zd r,aa<|.int p,aa<|.int n,aa<|Zd<|Zp p P r,aa<|.int h,ac,ac] s=.ok (Zd<|lead p (Zp p P r) h) s:=by
    refine Zk ?_ e4;have e7:pv (CV<|d+3) (.call 17 [(.v 3),(.ix (.v 5)<|.v 6)]) [aa<|spV p n,aa<|Ze P,aa<|Zd r,aa<|.int p,aa<|.int n,aa<|Zd<|Zp p P r,aa<|.int h,ac,ac] s=.ok (.int<|Yq p<|gt (Zp p P r) h) s:=by
     refine Zk ?_ e3;simp[pvE,Zd,e5]
    exact Za (Zh rfl)<|Za (Zh rfl)<|Za e7 Zf
   rw[rv];show(pv _ _ _ _).bind _=_;rw[e6];rfl)]
  have hc:=ZG (C:=CV<|d+3) (cap:=[3,7,6]) (nl:=1) (t:=[0]) (it:=.of<|.v 1) (elt:=.call 14 [(.v 1),(.v 0),(.v 2),(.v 3)]) (ρ:=[aa<|spV p n,aa<|Ze P,aa<|Zd r,aa<|.int p,aa<|.int n,aa<|Zd<|Zp p P r,aa<|.int h,aa<|Zd<|lead p (Zp p P r) h,ac]) (s:=s) (l:=P) (e:=Zd) (g:=λo=>Zd<|clr p o (lead p (Zp p P r) h) h)
   (by simp[pvE,Ze]) (by have:=dsum hP;unfold lim;omega) (λo ho=>⟨_,rfl,by
    have:=wB (p:=p) (d+1) (h:=h) s hn (hP.row o ho) hl h2;simp[pvE,this]⟩)
  rw[Zi (ρ':=[aa<|spV p n,aa<|Ze P,aa<|Zd r,aa<|.int p,aa<|.int n,aa<|Zd<|Zp p P r,aa<|.int h,aa<|Zd<|lead p (Zp p P r) h,aa<|.lst<|P.map λo=>Zd<|clr p o (lead p (Zp p P r) h) h]) (os':=[]) (s':=s)<|by simp[pvE,hc]]
  refine Zl<|ZH ?_;have ea:(P.map λo=>Zd<|clr p o (lead p (Zp p P r) h) h)++[Zd<|lead p (Zp p P r) h]=((P.map λo=>clr p o (lead p (Zp p P r) h) h)++[lead p (Zp p P r) h]).map Zd:=by rw[dH,bE];rfl
  have hs:Y7 ((P.map λo=>clr p o (lead p (Zp p P r) h) h)++[lead p (Zp p P r) h])=ah:=by
   have hlen:((P.map λo=>clr p o (lead p (Zp p P r) h) h)++[lead p (Zp p P r) h]).length=P.length+1:=by simp
   have hnd:((P.map λo=>clr p o (lead p (Zp p P r) h) h)++[lead p (Zp p P r) h]).Nodup:=by
    have h5:=Ug hw.falls;rw[hwid]at h5;exact((Sd.Y2 _).nodup_iff).mp<|((iy _).nodup_iff).mp h5
   have hd:=dsum hP;unfold Y7;rw[T5<|by rw[hlen];omega,T5 hnd]
   rw[aE];refine⟨rfl,aV.mpr λx hx=>?_⟩
   have:x.length=n:=by
    rcases bN.mp hx with z|z
    ·obtain⟨o,ho,rfl⟩:=aK.mp z
     exact(ZD (hP.row o ho) hl).1
    ·rw[bt.mp z];exact hl.1
   cases x with|nil=>simp at this;omega|cons _ _=>rfl
  have hlen2:P.length+1<=16777216:=by have:=dsum hP;omega
  simp[pvE,hlen2];rw[ea,Yz];simp[pvE,hs,hwid,Ze,mr]
def Wn(d:Nat){P R:List Row}{v:V}(s:DS)(hn:n<=6)(hP:pZ p n P)(hR:∀r∈R,Zj p n r)(hv:Z9 v=aa (R.map Zd)):CV (d+5) 19 [spV p n,Ze P,v] s=.ok (Ze<|WM p P R) s:=by
 refine Zs rfl (by decide) rfl ?_
 show rvs (CV<|d+4) [] (.asg [3] (.v 1) :: .forr [4] (.of<|.v 2) [.asg [3]<|.call 18 [(.v 0),(.v 3),(.v 4)]] :: .ret (.v 3)::[]) [aa<|spV p n,aa<|Ze P,aa v,ac,ac] [] s=_;rw[Zi (ρ':=[aa<|spV p n,aa<|Ze P,aa v,aa<|Ze P,ac]) (os':=[]) (s':=s)<|by simp[pvE]]
 obtain⟨o',hI,e⟩:=GY (C:=CV<|d+4) (ms:=[]) (t:=[4]) (it:=.of<|.v 2) (b:=[.asg [3]<|.call 18 [(.v 0),(.v 3),(.v 4)]]) (L:=R) (ρ:=λst o=>[aa<|spV p n,aa<|Ze P,aa v,aa<|Ze st,o]) (os:=[]) (s:=s) (pZ p n) (by rw[pvw,pv];show po (Z9 v) s=_;rw[hv];rfl) hP rfl (λx hx st o hst=>by
  have hx':=hR x hx;refine⟨(xU hst hx').1,rfl,_,aa<|Zd x,rfl,?_⟩;have e2:=Zb1 d s hn hst hx';simp[pvE,e2])
 rw[Zi e];exact Zl<|ZH<|by simp[pvE,WM]
end
end K21
namespace Rw
open La
open Ev (ltI VU Z5)
end Rw
namespace Rw
open Ev (ltP zA vQ)
noncomputable def ZeT:List (Nat×Nat):=[(2,1),(2,2),(2,3),(2,4),(3,1),(3,2),(3,3),(5,1),(5,2)]
noncomputable def ZeJ:List (Nat×Nat):=[(2,5),(2,6),(3,4),(5,3)]
end Rw
namespace Rw
open La
section
variable{p n:Nat}[Base p]
def zK(hW:pZ p n W)(hr:Zj p n r)(hl:Zj p n l)(h1:Yu p W l=ah)(h2:Yu p W (clr p r l j)=ah):Yu p W r=ah:=by
 rw[Zu hW hr];have a:=(Zu hW hl).mp h1;have b:=(Zu hW<|ZD hr hl).mp h2;rw[show toV p (ZT p r l<|-gt r j)=_ from Wb hr hl]at b
 have c:=Xn (toV p r j) b a;have e:(λk=>(toV p r k-toV p r j*toV p l k)+toV p r j*toV p l k)=toV p r:=by funext k;grind
 rw[e]at c;exact c
def Zbq(hW:pZ p n W)(hr:Zj p n r)(hl:Zj p n l)(h1:Yu p W l=ah)(h2:Yu p W r=ah):Yu p W (clr p r l j)=ah:=by
 show Yu p W (ZT p r l<|-gt r j)=ah;rw[Zu hW<|ZD hr hl];rw[show toV p (ZT p r l<|-gt r j)=_ from Wb hr hl]
 exact Vq (toV p r j) ((Zu hW hr).mp h2)<|(Zu hW hl).mp h1
def Zan(hW:pZ p n W)(hr:Zj p n r)(h:Yu p W r=ah):Yu p W (XC p r k)=ah:=by
 rw[Zu hW<|YX hr];rw[Q6];have:=Xn (ph p k) (XT)<|(Zu hW hr).mp h;have e:(λj=>(0:Fin p)+ph p k*toV p r j)=λj=>ph p k*toV p r j:=by funext j;grind
 rw[e]at this;exact this
def wR(hW:pZ p n W)(hr:Zj p n r)(h:∀i,gt r i=0):Yu p W r=ah:=by
 rw[Zu hW hr];have e:toV p r=λ_=>0:=by funext k;exact(Yk hr).mpr<|h k
 rw[e];exact XT
def X0(hW:pZ p n W)(hr:r∈W):Yu p W r=ah:=by
 rw[Zu hW<|hW.row r hr];exact X1 hW.pn.rf<|Yf hr
def Bk(p n:Nat)[NeZero p](R rest found:List Row):Prop:=∀W,pZ p n W->(((∀r∈rest,Yu p W r=ah)/\∀r∈found,Yu p W r=ah)↔∀r∈R,Yu p W r=ah)
def Bk.take{R rest found:List Row}{j:Nat}{f:Row}(B:Bk p n R rest found)(h:Red p n j rest found)(hf:f∈rest):Bk p n R (rest.map λr=>clr p r (lead p f j) j) (found.map (λr=>clr p r (lead p f j) j)++[lead p f j]):=λW hW=>by
 have hl:Zj p n (lead p f j):=YX<|h.row f hf;rw[<-B W hW]
 constructor
 ·intro⟨h1,h2⟩
  have l1:=h2 _<|bi _<|bt.mpr rfl;exact⟨λr hr=>zK hW (h.row r hr) hl l1<|h1 _<|aK.mpr ⟨r,hr,rfl⟩,λr hr=>zK hW (h.part.row r hr) hl l1<|h2 _<|cm _<|aK.mpr ⟨r,hr,rfl⟩⟩
 ·intro⟨h1,h2⟩
  have l1:Yu p W (lead p f j)=ah:=Zan hW (h.row f hf)<|h1 f hf;refine⟨λr hr=>?_,λr hr=>?_⟩
  ·obtain⟨o,ho,rfl⟩:=aK.mp hr
   exact Zbq hW (h.row o ho) hl l1<|h1 o ho
  ·rcases bN.mp hr with hr|hr
   ·obtain⟨o,ho,rfl⟩:=aK.mp hr
    exact Zbq hW (h.part.row o ho) hl l1<|h2 o ho
   ·rw[bt.mp hr];exact l1
def Bk.fin{R rest found:List Row}{j:Nat}(B:Bk p n R rest found)(h:Red p n j rest found)(hj:n<=j):∀r∈R,Yu p found r=ah:=
 (B found h.part).mp ⟨λr hr=>wR h.part (h.row r hr) λi=>by
  by_cases c:i<j
  ·exact h.low r hr i c
  ·exact xh<|by rw[(h.row r hr).1];omega,λr hr=>X0 h.part hr⟩
structure Spans(p n:Nat)[NeZero p](R P:List Row):Prop where
 part:pZ p n P
 holds:∀r∈R,Yu p P r=ah
 least:∀W,pZ p n W->(∀r∈R,Yu p W r=ah)->∀r∈P,Yu p W r=ah
def Spans.uniq(hP:Spans p n R P)(hQ:Spans p n R Q):P=Q:=
 eqP hP.part hQ.part λu=>⟨(Vs hP.part hQ.part).mp (aV.mpr<|hP.least Q hQ.part hQ.holds) u,(Vs hQ.part hP.part).mp (aV.mpr<|hQ.least P hP.part hP.holds) u⟩
def Spans.self(hP:pZ p n P):Spans p n P P:=⟨hP,λr hr=>X0 hP hr,λW hW h=>h⟩
def Bk.spans{R rest found:List Row}{j:Nat}(B:Bk p n R rest found)(h:Red p n j rest found)(hj:n<=j):Spans p n R found:=⟨h.part,B.fin h hj,λW hW hR=>((B W hW).mpr hR).2⟩
end
noncomputable def rise(hs:List Nat):Bool:=(hs.zip hs.tail).all λq=>ae<|q.1<q.2
theorem Qv:∀{hs:List Nat},rise hs=ah↔hs.Pairwise (· < ·)
 |[]=>by simp[rise]
 |[a]=>by simp[rise]
 |a::b::l=>by
  have ih:=Qv (hs:=b::l);unfold rise at ih ⊢;rw[ni,cP,gf,aE,T2];rw[ni]at ih
  constructor
  ·intro⟨h1,h2⟩
   have h3:=ih.mp h2;refine bg.mpr ⟨λx hx=>?_,h3⟩
   rcases az.mp hx with rfl|hx
   ·exact h1
   ·exact cc h1<|(bg.mp h3).1 x hx
  ·intro h
   obtain⟨h1,h2⟩:=bg.mp h;exact⟨h1 b<|am ..,ih.mpr h2⟩
noncomputable def V2(R:List Row)(i k:Nat):Bool:=ae (gt (R.getD i []) k=1)&&(R.take i++R.drop (i+1)).all λr=>ae<|gt r k=0
noncomputable def QN(R:List Row):Bool:=(R.all λr=>(hdI r).isSome)&&(rise (Zx R)&&(aR R.length).all λi=>V2 R i<|(Zx R).getD i 0)
section
variable{p n:Nat}[Base p]
def GL{R:List Row}{i:Nat}(hi:i<R.length):R.getD i []=R[i]:=by rw[aG,ag hi];rfl
def U8(hi:i<R.length):(Zx R).getD i 0=(hdI R[i]).getD 0:=by
 unfold Zx;rw[aG,aX,ag hi];rfl
def ZdV{R:List Row}{i j:Nat}(hj:j<R.length)(h:j≠i):R[j]∈R.take i++R.drop (i+1):=by
 by_cases c:j<i
 ·refine cm _ ?_
  have hl:j<(R.take i).length:=by rw[cq];omega
  rw[<-lY];exact ba hl
 ·refine bi _ ?_
  have hl:j-(i+1)<(R.drop<|i+1).length:=by rw[cr];omega
  have e:(R.drop<|i+1)[j-(i+1)]=R[j]:=by rw[lZ];congr 1;omega
  rw[<-e];exact ba hl
def Js{R:List Row}{i:Nat}{r:Row}(h:r∈R.take i++R.drop (i+1)):∃j,∃(hj:j<R.length),j≠i/\R[j]=r:=by
 rcases bN.mp h with z|z
 ·obtain⟨j,hj,e⟩:=bZ z
  rw[cq]at hj;exact⟨j,by omega,by omega,by rw[<-e,lY]⟩
 ·obtain⟨j,hj,e⟩:=bZ z
  rw[cr]at hj;exact⟨i+1+j,by omega,by omega,by rw[<-e,lZ]⟩
def JQ:ph p 1=1:=by
 rcases(inferInstance:Base p).b with e|e|e<;>subst e<;>rfl
def GP(hr:Zj p n r):toV p r k=1↔gt r k=1:=by
 have hb:=(inferInstance:Base p).b
 constructor
 ·intro h
  refine xF (Wi ppos hr k) ⟨by omega,by omega⟩ ?_
  rw[JQ];exact h
 ·intro h
  unfold toV;rw[h,JQ]
def Jf{R:List Row}(hR:∀r∈R,Zj p n r):QN R=ah↔pZ p n R:=by
 unfold QN;simp only[aE,aV,bw]
 constructor
 ·intro⟨h1,h2,h3⟩
  have hd:∀i (hi:i<R.length),∃k,hdI R[i]=aa k/\gt R[i] k=1/\∀j (hj:j<R.length),j≠i->gt R[j] k=0:=λi hi=>by
   obtain⟨k,hk⟩:=bP.mp<|h1 _<|ba hi;have a:=h3 i hi;unfold V2 at a;rw[U8 hi,GL hi,hk,aE,T2,aV]at a;exact⟨k,hk,a.1,λj hj ne=>T6<|a.2 _<|ZdV hj ne⟩
  have inc:=Qv.mp h2;have memP:∀a∈toP p R,∃i,∃(hi:i<R.length),a=((hdI R[i]).getD 0,toV p R[i]):=λa ha=>by
   obtain⟨r,hr,rfl⟩:=aK.mp ha;obtain⟨i,hi,rfl⟩:=bZ hr;exact⟨i,hi,rfl⟩
  refine⟨hR,⟨⟨?_,λa ha j hj=>?_,λa ha=>?_,λa ha b hb ne=>?_⟩,λa ha=>?_,λa ha=>?_⟩⟩
  ·rw[<-YY (p:=p)]at inc
   exact cU.mp inc
  ·obtain⟨i,hi,rfl⟩:=memP a ha
   obtain⟨k,hk,_,_⟩:=hd i hi;rw[hk]at hj;exact(Yk<|hR _<|ba hi).mpr<|(Yj hk).2.2 j hj
  ·obtain⟨i,hi,rfl⟩:=memP a ha
   obtain⟨k,hk,h,_⟩:=hd i hi;rw[hk];exact(GP<|hR _<|ba hi).mpr h
  ·obtain⟨i,hi,rfl⟩:=memP a ha
   obtain⟨j,hj,rfl⟩:=memP b hb;obtain⟨k,hk,_,h⟩:=hd i hi;rw[hk];refine(Yk<|hR _<|ba hj).mpr<|h j hj λe=>?_
   subst e;exact ne rfl
  ·obtain⟨i,hi,rfl⟩:=memP a ha
   obtain⟨k,hk,_,_⟩:=hd i hi;rw[hk,<-(hR _<|ba hi).1];exact(Yj hk).2.1
  ·obtain⟨i,hi,rfl⟩:=memP a ha
   exact Qu<|hR _<|ba hi
 ·intro hP
  have hk:∀r∈R,∃k,hdI r=aa k/\k<n/\toV p r k=1:=λr hr=>hP.head fld.one0 hr
  refine⟨λr hr=>?_,Qv.mpr ?_,λi hi=>?_⟩
  ·obtain⟨k,e,_⟩:=hk r hr
   rw[e];rfl
  ·rw[<-YY (p:=p)];exact hP.pn.rf.heads
  ·obtain⟨k,e,_,h1⟩:=hk _ (ba hi)
   unfold V2;rw[U8 hi,GL hi,e,aE,T2,aV];refine⟨(GP<|hR _<|ba hi).mp h1,λr hr=>?_⟩
   obtain⟨j,hj,ne,rfl⟩:=Js hr;refine T5 ?_;obtain⟨k2,e2,_,_⟩:=hk _<|ba hj;have hh:((hdI R[i]).getD 0,toV p R[i]).1≠((hdI R[j]).getD 0,toV p R[j]).1:=by
    have inc:(Zx R).Pairwise (· < ·):=by rw[<-YY (p:=p)];exact hP.pn.rf.heads
    have pw:=h8.mp inc;have li:(Zx R).length=R.length:=by unfold Zx;rw[aF]
    have gi:∀m (hm:m<R.length),(Zx R)[m]'(by omega)=(hdI R[m]).getD 0:=λm hm=>by unfold Zx;rw[List.getElem_map]
    intro z;have z:=z;rcases Nat.lt_or_gt_of_ne ne with c|c
    ·have:=pw j i (by omega) (by omega) c
     rw[gi j hj,gi i hi]at this;omega
    ·have:=pw i j (by omega) (by omega) c
     rw[gi j hj,gi i hi]at this;omega
   have:=hP.pn.rf.zer _ (Yf<|ba hi) _ (Yf<|ba hj) hh;rw[e]at this;exact(Yk<|hR _<|ba hj).mp this
end
end Rw
namespace K21
open Ev Pv Rw La
def Vn{F:List Fn}{tk d f c:Nat}{vs:List V}{s s':DS}{fn:Fn}(hf:F[f]?=aa fn)(hne:f≠tk)(hl:vs.length=fn.ps)(h:rvs (ZL F tk d) (muts fn.body) fn.body (Xz fn.ns vs) [] s=.ex c s'):ZL F tk (d+1) f vs s=.ex c s':=by
 rw[Uf hf hne hl,h];rfl
def Go{C:Zy}{ms:List Nat}{m:Sm}{l:List Sm}{ρ:Env}{os:List Nat}{s s':DS}{c:Nat}(h:rv C ms m ρ os s=.ex c s'):rvs C ms (m::l) ρ os s=.ex c s':=by rw[rvs,h];rfl
def Wk{C:Zy}{ρ:Env}{s s1 s':DS}{f c:Nat}{as:List E}{vs:List V}(h:pvs C as ρ s=.ok vs s1)(hc:C f vs s1=.ex c s'):pv C (.call f as) ρ s=.ex c s':=by rw[pv,h];exact hc
def G8{C:Zy}{ms:List Nat}{ρ:Env}{os:List Nat}{s s':DS}{f c:Nat}{as:List E}(h:pv C (.call f as) ρ s=.ex c s'):rv C ms (.ex<|.call f as) ρ os s=.ex c s':=by
 rw[rv,h]
 ·rfl
 all_goals(intro i e z;cases z)
mutual
noncomputable def okV:V->Bool
 |.tup xs=>YN xs
 |.lst xs=>YN xs
 |.drw=>ai
 |.dct (aa _)=>ai
 |_=>ah
noncomputable def YN:List V->Bool
 |[]=>ah
 |x::xs=>okV x&&YN xs
end
theorem Xv:∀{xs:List V},YN xs=ah->∀x∈xs,okV x=ah
 |[],_,x,h=>by cases h
 |y::xs,h,x,m=>by
  obtain⟨h1,h2⟩:=(aE _ _).mp h;rcases az.mp m with rfl|m
  ·exact h1
  ·exact Xv h2 x m
noncomputable def isW(x:V)(lo hi:Int):Bool:=match x with
 |.int i=>ae (lo<=i)&&ae (i<=hi)
 |_=>ai
def Zew{x:V}{lo hi:Int}(h:∀i,x≠.int i):isW x lo hi=ai:=by
 cases x with|int i=>exact T7 rfl<|h i|_=>rfl
def qE{x:V}(hx:okV x=ah):(∃i,x=.int i)\/(∃b,x=.bl b)\/Z4 x [.int]=aa ai/\∀i,x≠.int i:=by
 cases x with
 |int i=>exact .inl ⟨i,rfl⟩
 |bl b=>exact .inr (.inl ⟨b,rfl⟩)
 |drw=>cases hx
 |dct o=>cases o with|none=>exact .inr<|.inr ⟨rfl,nofun⟩|some _=>cases hx
 |_=>exact .inr<|.inr ⟨rfl,nofun⟩
def GU{x:V}(hx:okV x=ah):(∃xs,x=.tup xs)\/Z4 x [.tuple]=aa ai/\∀xs,x≠.tup xs:=by
 cases x with
 |tup xs=>exact .inl ⟨xs,rfl⟩
 |drw=>cases hx
 |dct o=>cases o with|none=>exact .inr ⟨rfl,nofun⟩|some _=>cases hx
 |_=>exact .inr ⟨rfl,nofun⟩
def jw(d:Nat){x:V}{lo hi:Int}(s:DS)(hx:okV x=ah):CV (d+1) 8 [x,.int lo,.int hi] s=.ok (.bl<|isW x lo hi) s:=by
 refine Zs rfl (by decide) rfl ?_
 rcases qE hx with⟨i,rfl⟩|⟨b,rfl⟩|⟨ha,no⟩
 ·by_cases h:lo<=i
  ·simp[Y0,pvE,isW,Z4,Xg,h]
  ·simp[Y0,pvE,isW,Z4,Xg,h]
 ·simp[Y0,pvE,isW,Z4,Xg]
 ·rw[Zew no]
  simp[Y0,pvE,ha]
noncomputable def Z6(p n:Nat)(x:V):Bool:=match x with
 |.tup xs=>ae (xs.length=n)&&xs.all λv=>isW v 0 ((p:Int)-1)
 |_=>ai
def Zag{p n:Nat}{x:V}(h:∀xs,x≠.tup xs):Z6 p n x=ai:=by
 cases x with|tup xs=>exact T7 rfl<|h xs|_=>rfl
theorem wO{p:Nat}:∀{xs:List V},(xs.all λv=>isW v 0<|(p:Int)-1)=ah->∃r:Row,xs=r.map .int/\∀a∈r,0<=a/\a<(p:Int)
 |[],_=>⟨[],rfl,λ_ h=>by cases h⟩
 |x::xs,h=>by
  rw[gf,aE]at h;obtain⟨r,rfl,hr⟩:=wO h.2;cases x with
  |int i=>
   have:=h.1;simp only[isW,aE,T2]at this;refine⟨i::r,rfl,λa ha=>?_⟩
   rcases az.mp ha with rfl|ha
   ·omega
   ·exact hr a ha
  |_=>cases h.1
def jE{p n:Nat}{x:V}(h:Z6 p n x=ah):∃r:Row,x=Zd r/\Zj p n r:=by
 cases x with
 |tup xs=>
  unfold Z6 at h;rw[aE,T2]at h;obtain⟨r,rfl,hr⟩:=wO h.2;exact⟨r,rfl,by simpa using h.1,hr⟩
 |_=>cases h
def jz{p n:Nat}{r:Row}(hr:Zj p n r):Z6 p n (Zd r)=ah:=by
 unfold Z6 Zd;rw[aE,T2,aF];refine⟨hr.1,aV.mpr λv hv=>?_⟩
 obtain⟨a,ha,rfl⟩:=aK.mp hv;have:=hr.2 a ha;simp only[isW,aE,T2];omega
theorem Gu:∀r:Row,YN (r.map .int)=ah
 |[]=>rfl
 |a::r=>Gu r
def x6(r:Row):okV (Zd r)=ah:=Gu r
section
variable{p n:Nat}[Base p]
def vB(d:Nat){x:V}(s:DS)(hn:n<=6)(hx:okV x=ah):CV (d+2) 9 [spV p n,x] s=.ok (.bl<|Z6 p n x) s:=by
 refine Zs rfl (by decide) rfl ?_
 dsimp only[zq]
 rw[Zi<|XS (p:=p) (n:=n) _ _ (by simp[pvE])<|by simp]
 rcases GU hx with⟨xs,rfl⟩|⟨ha,no⟩
 ·
  by_cases hl:xs.length=n
  ·rw[Zi (ρ':=[aa<|spV p n,aa<|.tup xs,aa<|.int p,aa<|.int n]) (os':=[]) (s':=s)<|by simp[pvE,Z4,Xg,Zo,hl]]
   refine Zl<|ZH ?_;have hc:=ZG (C:=CV<|d+1) (cap:=[2]) (nl:=1) (t:=[0]) (it:=.of<|.v 1) (elt:=.call 8 [(.v 0),(.c<|.int 0),(.bin .sub (.v 1)<|.c<|.int 1)]) (ρ:=[aa<|spV p n,aa<|.tup xs,aa<|.int p,aa<|.int n]) (s:=s) (l:=xs) (e:=id) (g:=λv=>V.bl<|isW v 0<|(p:Int)-1)
    (by simp[pvE]) (by unfold lim;omega) (λv hv=>⟨_,rfl,by
     have e:=jw d (lo:=0) (hi:=(p:Int)-1) s<|Xv hx v hv;simp[pvE,e]⟩)
   have ht:=Yp (g:=λv:V=>isW v 0<|(p:Int)-1) xs
   simp[pvE,hc,ht,Z6,hl]
  ·refine Zl ?_
   simp[pvE,Z4,Xg,Zo,Z6,hl];omega
 ·rw[Zag no]
  exact Zl (by simp[pvE,ha])
def ZeG(d:Nat){r:Row}(s:DS)(hn:n<=6)(hr:Zj p n r):CV (d+2) 9 [spV p n,Zd r] s=.ok (.bl ah) s:=by
 have e:=vB (p:=p) d s hn<|x6 r;rw[jz hr]at e;exact e
def Zav(d:Nat){r:Row}(s:DS)(hn:n<=6)(hr:Zj p n r):CV (d+3) 21 [spV p n,Zd r] s=.ok .non s:=by
 have e:=ZeG d s hn hr;refine UG (ρ:=[aa<|spV p n,aa<|Zd r]) (os:=[]) rfl (by decide) rfl ?_
 simp[UZ,pvE,e]
def uF(d:Nat){hs:List Nat}(s:DS)(hl:hs.length<=1000):CV (d+1) 5 [.lst<|hs.map Zv] s=.ok (.bl<|rise hs) s:=by
 refine Zs rfl (by decide) rfl ?_
 have ez:∀(a b:List Nat),((a.map Zv).zip<|b.map Zv).map (λq=>V.tup [q.1,q.2])=(a.zip b).map λq=>V.tup [Zv q.1,Zv q.2]:=by
  intro a
  induction a with
  |nil=>intro b;rfl
  |cons x a ih=>intro b;cases b with|nil=>rfl|cons y b=>simp only[aU,cP];rw[ih]
 have hc:=ZG (C:=CV d) (cap:=[]) (nl:=2) (t:=[0,1]) (it:=.zip (.v 0)<|.sl (.v 0) (aa<|.c<|.int 1) ac) (elt:=.cmp .lt (.v 0)<|.v 1) (ρ:=[aa<|.lst<|hs.map Zv]) (s:=s) (l:=hs.zip hs.tail) (g:=λq=>V.bl<|ae<|q.1<q.2)
  (by
   have e1:YR (hs.map Zv) (aa 1) ac=hs.tail.map Zv:=by rw[ZaB,nz]
   simp[pvE,slV,e1];rw[<-nz,ez]) (by rw[fo];unfold lim;omega) (λq hq=>⟨_,rfl,by simp[pvE,Zv]⟩)
 have ht:=Yp (g:=λq:Nat×Nat=>ae<|q.1<q.2)<|hs.zip hs.tail
 simp[Ub,pvE,hc,ht,rise]
def xp(d:Nat){R:List Row}{k:Nat}(s:DS)(hl:R.length<=1000)(hk:∀r∈R,k<r.length):CV (d+1) 6 [Ze R,.int k] s=.ok (.bl<|R.all λr=>ae<|gt r k=0) s:=by
 refine Zs rfl (by decide) rfl ?_
 have hc:=ZG (C:=CV d) (cap:=[1]) (nl:=1) (t:=[0]) (it:=.of<|.v 0) (elt:=.cmp .eq (.ix (.v 0)<|.v 1)<|.c<|.int 0) (ρ:=[aa<|Ze R,aa<|.int k]) (s:=s) (l:=R) (e:=Zd) (g:=λr=>V.bl<|ae<|gt r k=0)
  (by simp[pvE,Ze]) (by unfold lim;omega) (λr hr=>⟨_,rfl,by
   have:=Wu<|hk r hr;simp[pvE,Zd,this,Zo]⟩)
 have ht:=Yp (g:=λr:Row=>ae<|gt r k=0) R
 simp[Vi,pvE,hc,ht]
def JZ(d:Nat){R:List Row}{i k:Nat}(s:DS)(hR:∀r∈R,Zj p n r)(hl:R.length<=1000)(hi:i<R.length)(hk:k<n):CV (d+2) 7 [Ze R,Zv i,Zv k] s=.ok (.bl<|V2 R i k) s:=by
 refine Zs rfl (by decide) rfl ?_
 show rvs (CV<|d+1) [] Y4.body [aa<|Ze R,aa<|.int i,aa<|.int k] [] s=_
 dsimp only[Y4]
 have hrow:=hR _<|ba hi;have e1:at' (R.map Zd) (i:Int)=aa (Zd R[i]):=UU (by rw[aX,ag hi];rfl)
 have e2:=Wu (by rw[hrow.1];exact hk)
 have e3:=xp d (R:=R.take i++R.drop (i+1)) s (by rw[bn,cq,cr];omega) (λr hr=>by
  obtain⟨j,hj,ne,rfl⟩:=Js hr;rw[(hR _<|ba hj).1];exact hk)
 have c1:YR (R.map Zd) ac (aa (i:Int))=(R.take i).map Zd:=by rw[Zeh<|by rw[aF];omega,List.map_take]
 have c2:YR (R.map Zd) (aa<|(i:Int)+1) ac=(R.drop<|i+1).map Zd:=by rw[zP (k:=i+1) (by omega)<|by rw[aF];omega,List.map_drop]
 have g0:pv (CV<|d+1) (.ix (.ix (.v 0)<|.v 1)<|.v 2) [aa<|Ze R,aa<|.int i,aa<|.int k] s=.ok (.int<|gt R[i] k) s:=by
  rw[pv,pv,Zh rfl,Zb,Zh rfl,Zb];show((po (at' (R.map Zd) (i:Int)) s).bind _)=_;rw[e1,Z8,Zb,Zh rfl,Zb];show po (at' (R[i].map V.int) (k:Int)) s=_;rw[e2];rfl
 have g1:pv (CV<|d+1) (.cmp .eq (.ix (.ix (.v 0)<|.v 1)<|.v 2)<|.c<|.int 1) [aa<|Ze R,aa<|.int i,aa<|.int k] s=.ok (.bl<|ae<|gt R[i] k=1) s:=by
  rw[pv,g0,Zb];simp[pvE,ofD,Zo]
 have g2:pv (CV<|d+1) (.bin .add (.sl (.v 0) ac<|aa<|.v 1)<|.sl (.v 0) (aa<|.bin .add (.v 1)<|.c<|.int 1) ac) [aa<|Ze R,aa<|.int i,aa<|.int k] s=.ok (Ze<|R.take i++R.drop (i+1)) s:=by
  have c3:(R.take i).length+(R.drop<|i+1).length<=16777216:=by rw[cq,cr];omega
  rw[cq,cr]at c3;simp[pvE,Ze,slV,c1,c2,c3]
 have g3:=Zk (Za g2<|Za (Zh (i:=2) rfl) Zf) e3;refine Zl<|ZH ?_;rw[pv,g1,Zb];unfold V2;rw[GL hi];cases ae (gt R[i] k=1)with|true=>exact g3|false=>rfl
theorem wA:∀R:List Row,QT .non (R.map λr=>WK<|hdI r)=aa (!(R.all λr=>(hdI r).isSome))
 |[]=>rfl
 |r::R=>by
  show(match eqV Zo (WK<|hdI r) .non,QT .non (R.map λr=>WK<|hdI r)with|some a,aa b=>aa (a||b)|_,_=>ac)=_
  rw[wA R,gf];cases hdI r with|none=>simp[WK,eqV,Zo]|some k=>simp[WK,eqV,Zo]
def yi{R:List Row}(h:(R.all λr=>(hdI r).isSome)=ah):R.map (λr=>WK<|hdI r)=(Zx R).map Zv:=by
 unfold Zx;rw[bE];refine cW λr hr=>?_
 obtain⟨k,hk⟩:=bP.mp<|aV.mp h r hr;show WK (hdI r)=Zv ((hdI r).getD 0);rw[hk];rfl
def j7(d:Nat){R:List Row}(s:DS)(hn:n<=6)(hR:∀r∈R,Zj p n r)(hl:R.length<=1000):rvs (CV<|d+2) [] (V1.body.drop 1) [aa<|spV p n,aa<|Ze R,ac] [] s=.ok (.ret<|.bl<|QN R) s:=by
 show rvs _ _ (.asg [2] (.comp1 [] 1 [0] (.of<|.v 1) []<|.call 4 [(.v 0)]) ::
  .ite (.or (.cmp .inn (.c .non)<|.v 2)<|.not<|.call 5 [(.v 2)]) [.ret<|.c<|.bl ai] [] ::
  .ret (.blt .all [(.comp1 [1] 2 [0,1] (.enum<|.v 2) []<|.call 7 [(.v 2),(.v 0),(.v 1)])])::[]) _ _ _=_
 have hc2:=ZG (C:=CV<|d+2) (cap:=[]) (nl:=1) (t:=[0]) (it:=.of<|.v 1) (elt:=.call 4 [(.v 0)]) (ρ:=[aa<|spV p n,aa<|Ze R,ac]) (s:=s) (l:=R) (e:=Zd) (g:=λr=>WK<|hdI r)
  (by simp[pvE,Ze]) (by unfold lim;omega) (λx hx=>⟨_,rfl,by
   have e:=Vp (d+1) x s;simp[pvE,e]⟩)
 rw[Zi (ρ':=[aa<|spV p n,aa<|Ze R,aa<|.lst<|R.map λr=>WK<|hdI r]) (os':=[]) (s':=s)<|by simp[pvE,hc2]]
 have hin:=wA R;unfold QN;cases hh:R.all λr=>(hdI r).isSome with
 |false=>
  rw[hh]at hin;exact Zl (by simp[pvE,XF,hin])
 |true=>
  rw[hh]at hin;rw[yi hh]at hin ⊢;have hln:(Zx R).length=R.length:=by unfold Zx;rw[aF]
  have e3:=uF (d+1) (hs:=Zx R) s (by omega)
  cases hr:rise (Zx R)with
  |false=>
   rw[hr]at e3;exact Zl (by simp[pvE,XF,hin,e3])
  |true=>
  rw[hr]at e3;rw[Zi (ρ':=[aa<|spV p n,aa<|Ze R,aa<|.lst<|(Zx R).map Zv]) (os':=[]) (s':=s)<|by simp[pvE,XF,hin,e3]]
  refine Zl<|ZH ?_;have ew:((XQ 0 (Zx R).length).zip<|(Zx R).map Zv).map (λq=>V.tup [q.1,q.2])=(aR R.length).map λi=>V.tup [Zv i,Zv<|(Zx R).getD i 0]:=by
   apply iT
   ·simp[XQ,hln]
   ·intro i h1 h2
    have h3:i<R.length:=by simpa using h2
    have h4:i<(Zx R).length:=by omega
    simp[XQ,Zv,h4]
  have hc3:=ZG (cap:=[1]) (nl:=2) (t:=[0,1]) (elt:=.call 7 [(.v 2),(.v 0),(.v 1)]) (s:=s) (l:=aR R.length)
   (by
    have:pvw (CV<|d+2) (.enum<|.v 2) [aa<|spV p n,aa<|Ze R,aa<|.lst<|(Zx R).map Zv] s=.ok (((XQ 0 ((Zx R).map Zv).length).zip<|(Zx R).map Zv).map λq=>V.tup [q.1,q.2]) s:=by simp[pvE]
    rw[this,aF,ew]) (by rw[bW];unfold lim;omega) (λi hi=>⟨_,rfl,by
    have hi':=bw.mp hi;have hk:(Zx R).getD i 0<n:=by
     rw[U8 hi'];obtain⟨k,hk⟩:=bP.mp<|aV.mp hh _<|ba hi';rw[hk,<-(hR _<|ba hi').1];exact(Yj hk).2.1
    exact Zk (Za (Zh rfl)<|Za (Zh rfl)<|Za (Zh rfl) Zf)<|JZ d s hR hl hi' hk⟩)
  have ht3:=Yp (g:=λi:Nat=>V2 R i<|(Zx R).getD i 0)<|aR R.length
  rw[pv,Za hc3 Zf,Zb];show po ((ZV _).map λbs=>V.bl<|bs.all id) s=_
  rw[ht3];show PR.ok (V.bl<|(List.map _ _).all id) s=_;rw[gG];rfl
noncomputable def isP(p n:Nat)(x:V):Bool:=match x with
 |.tup xs=>xs.all (Z6 p n)&&match Y8 xs with
  |some R=>QN R
  |none=>ai
 |_=>ai
theorem WC:∀{xs:List V},xs.all (Z6 p n)=ah->∃R:List Row,xs=R.map Zd/\∀r∈R,Zj p n r
 |[],_=>⟨[],rfl,λ_ h=>by cases h⟩
 |x::xs,h=>by
  rw[gf,aE]at h;obtain⟨R,rfl,hR⟩:=WC h.2;obtain⟨r,rfl,hr⟩:=jE h.1;refine⟨r::R,rfl,λa ha=>?_⟩
  rcases az.mp ha with rfl|ha
  ·exact hr
  ·exact hR a ha
def Vx{x:V}:isP p n x=ah↔∃P,x=Ze P/\pZ p n P:=by
 constructor
 ·intro h
  cases x with
  |tup xs=>
   unfold isP at h;rw[aE]at h;obtain⟨R,rfl,hR⟩:=WC h.1;have h2:=h.2;rw[Yz]at h2;exact⟨R,rfl,(Jf hR).mp h2⟩
  |_=>cases h
 ·rintro ⟨P,rfl,hP⟩
  show(_&&_)=ah;rw[aE,Yz];refine⟨aV.mpr λv hv=>?_,(Jf hP.row).mpr hP⟩
  obtain⟨r,hr,rfl⟩:=aK.mp hv;exact jz<|hP.row r hr
def ZaM{x:V}(h:∀xs,x≠.tup xs):isP p n x=ai:=by
 cases x with|tup xs=>exact T7 rfl<|h xs|_=>rfl
def jv(d:Nat){x:V}(s:DS)(hn:n<=6)(hx:okV x=ah)(hl:∀xs,x=.tup xs->xs.length<=1000):CV (d+3) 10 [spV p n,x] s=.ok (.bl<|isP p n x) s:=by
 refine Zs rfl (by decide) rfl ?_
 show rvs (CV<|d+2) [] (.ite (.or (.not<|.isi (.v 1) [.tuple])<|.not<|.blt .all [(.comp1 [0] 1 [0] (.of<|.v 1) []<|.call 9 [(.v 1),(.v 0)])]) [.ret<|.c<|.bl ai] []::V1.body.drop 1) [aa<|spV p n,aa x,ac] [] s=_;rcases GU hx with⟨xs,rfl⟩|⟨ha,no⟩
 ·
  have hl:=hl xs rfl;have hc1:=ZG (C:=CV<|d+2) (cap:=[0]) (nl:=1) (t:=[0]) (it:=.of<|.v 1) (elt:=.call 9 [(.v 1),(.v 0)]) (ρ:=[aa<|spV p n,aa<|.tup xs,ac]) (s:=s) (l:=xs) (e:=id) (g:=λv=>V.bl<|Z6 p n v)
   (by simp[pvE]) (by unfold lim;omega) (λv hv=>⟨_,rfl,by
    have e:=vB (p:=p) d s hn<|Xv hx v hv;simp[pvE,e]⟩)
  have ht:=Yp (g:=λv:V=>Z6 p n v) xs
  have hpt:Z4 (.tup xs) [.tuple]=aa ah:=rfl;cases ha:xs.all (Z6 p n)with
  |false=>
   have hf:(xs.map λv=>Z6 p n v).all id=ai:=by rw[gG];exact ha
   refine Zl ?_;simp[pvE,hpt,hc1,ht,isP,ha,hf]
  |true=>
   have hf:(xs.map λv=>Z6 p n v).all id=ah:=by rw[gG];exact ha
   rw[Zi (ρ':=[aa<|spV p n,aa<|.tup xs,ac]) (os':=[]) (s':=s)<|by simp[pvE,hpt,hc1,ht,hf]]
   obtain⟨R,rfl,hR⟩:=WC ha;have e:=j7 d s hn hR (by simpa using hl)
   have eb:isP p n (.tup<|R.map Zd)=QN R:=by
    show((R.map Zd).all (Z6 p n)&&match Y8 (R.map Zd)with|some R=>QN R|none=>ai)=_
    rw[ha,Yz];rfl
   rw[eb];exact e
 ·rw[ZaM no]
  exact Zl (by simp[pvE,ha])
theorem Gi:∀P:List Row,YN (P.map Zd)=ah
 |[]=>rfl
 |r::P=>by
  show(okV (Zd r)&&YN (P.map Zd))=ah;rw[x6,Gi P];rfl
def vh(P:List Row):okV (Ze P)=ah:=Gi P
def Qi{P:List Row}(hP:pZ p n P):∀xs,Ze P=.tup xs->xs.length<=n:=λxs e=>by
 cases e;rw[aF];exact dsum hP
def W6(d:Nat){x:V}(s:DS)(hn:n<=6)(hx:okV x=ah)(hl:∀xs,x=.tup xs->xs.length<=1000):CV (d+4) 11 [spV p n,x] s=if isP p n x=ah then .ok .non s else .ex 2 s:=by
 have e:=jv (p:=p) d s hn hx hl;cases h:isP p n x with
 |true=>
  rw[h]at e;refine UG (ρ:=[aa<|spV p n,aa x]) (os:=[]) rfl (by decide) rfl ?_
  simp[Wp,pvE,e]
 |false=>
  rw[h]at e;refine Vn rfl (by decide) rfl ?_
  simp[Wp,pvE,e];rfl
def VX(d:Nat){P:List Row}(s:DS)(hn:n<=6)(hP:pZ p n P):CV (d+4) 11 [spV p n,Ze P] s=.ok .non s:=by
 have e:=W6 (p:=p) d s hn (vh P) λxs z=>by have:=Qi hP xs z;omega
 rw[T9<|Vx.mpr ⟨P,rfl,hP⟩]at e;exact e
def Qc(d:Nat){P Q:List Row}(s:DS)(hn:n<=6)(hP:pZ p n P)(hQ:pZ p n Q):CV (d+5) 12 [spV p n,Ze P,Ze Q] s=.ok .non s:=by
 have e1:=VX d s hn hP;have e2:=VX d s hn hQ;refine UG (ρ:=[aa<|spV p n,aa<|Ze P,aa<|Ze Q]) (os:=[]) rfl (by decide) rfl ?_
 simp[Z7,pvE,e1,e2]
def qr{P:List Row}(hP:pZ p n P):P.map (λr=>WK<|hdI r)=(Zx P).map Zv:=yi (aV.mpr λr hr=>by
 obtain⟨k,hk,_⟩:=hP.head fld.one0 hr;rw[hk];rfl)
end
section
variable{p n:Nat}[Base p]
def Zcy(d:Nat){R:List Row}{v:V}(s:DS)(hn:n<=6)(hR:∀r∈R,Zj p n r)(hv:Z9 v=aa (R.map Zd))(ht:Z4 v [.tuple,.list]=aa ah):CV (d+6) 22 [spV p n,v] s=.ok (Ze<|WM p [] R) s:=by
 refine Zs rfl (by decide) rfl ?_
 show rvs (CV<|d+5) [] (.ite (.not<|.isi (.v 1) [.tuple,.list]) [.raise _ []] [] :: .forr [2] (.of<|.v 1) [.ex<|.call 21 [(.v 0),(.v 2)]] :: .ret (.call 19 [(.v 0),(.tup []),(.v 1)])::[]) [aa<|spV p n,aa v,ac] [] s=_;rw[Zi (ρ':=[aa<|spV p n,aa v,ac]) (os':=[]) (s':=s)<|by simp[pvE,ht]]
 obtain⟨o',hI,e⟩:=GY (C:=CV<|d+5) (t:=[2]) (it:=.of<|.v 1) (b:=[.ex<|.call 21 [(.v 0),(.v 2)]]) (L:=R) (step:=λ(st:Unit) _=>st) (ρ:=λ_ o=>[aa<|spV p n,aa v,o]) (st:=()) (os:=[]) (s:=s) (λ_=>True) (by rw[pvw,pv];show po (Z9 v) s=_;rw[hv];rfl) aA rfl (λx hx st o hst=>by
  refine⟨aA,rfl,_,aa<|Zd x,rfl,?_⟩;have e2:=Zav (d+2) s hn<|hR x hx;show rvs (CV<|d+5) [] _ [aa<|spV p n,aa v,aa<|Zd x] [] s=_;rw[Zi<|vm (s':=s)<|Zk (s1:=s) (Za (Zh rfl)<|Za (Zh rfl) Zf) e2,rvs])
 rw[Zi e];refine Zl<|ZH<|Zk (s1:=s) (Za (Zh rfl)<|Za (by simp[pvE,Ze])<|Za (Zh rfl) Zf)<|Wn d s hn pZ.nil hR hv
def joined(d:Nat){P Q:List Row}(s:DS)(hn:n<=6)(hP:pZ p n P)(hQ:pZ p n Q):CV (d+6) 20 [spV p n,Ze P,Ze Q] s=.ok (Ze<|WM p P Q) s:=by
 refine Zs rfl (by decide) rfl ?_
 show rvs (CV<|d+5) [] (.ex (.call 12 [(.v 0),(.v 1),(.v 2)]) :: .ret (.call 19 [(.v 0),(.v 1),(.v 2)])::[]) [aa<|spV p n,aa<|Ze P,aa<|Ze Q] [] s=_;have ha:pvs (CV<|d+5) [(.v 0),(.v 1),(.v 2)] [aa<|spV p n,aa<|Ze P,aa<|Ze Q] s=.ok [spV p n,Ze P,Ze Q] s:=Za (Zh rfl)<|Za (Zh rfl)<|Za (Zh rfl) Zf;rw[Zi<|vm<|Zk ha<|Qc d s hn hP hQ];exact Zl<|ZH<|Zk ha<|Wn d s hn hP hQ.row rfl
def zk{r:Row}{k:Nat}{x:Int}:(r.map V.int).set k (.int x)=(r.set k x).map V.int:=by rw[List.map_set]
def zD(d:Nat){P:List Row}{f:Nat}(s:DS)(hn:n<=6)(hP:pZ p n P)(hf:f<n):CV (d+2) 23 [spV p n,Ze P,.int f] s=.ok (Zd<|avI p n P f) s:=by
 refine Zs rfl (by decide) rfl ?_
 show rvs (CV<|d+1) [5,5] (.asg [3,4] (.v 0) :: .asg [5] (.bin .mul (.lst [(.c<|.int 0)])<|.v 4) :: .put (.v 5) (.v 2) (.c<|.int 1) :: .forr [6] (.of<|.v 1) [.put (.v 5) (.call 4 [(.v 6)])<|.bin .mod (.neg<|.ix (.v 6)<|.v 2)<|.v 3] :: .ret (.blt .tuple [(.v 5)])::[]) [aa<|spV p n,aa<|Ze P,aa<|.int f,ac,ac,ac,ac] [] s=_;rw[Zi<|XS (p:=p) (n:=n) _ _ (by simp[pvE])<|by simp]
 have er:(ar n [V.int 0]).flatten=(ar n (0:Int)).map V.int:=by
  rw[hV];clear hf hP hn
  induction n with|zero=>rfl|succ k ih=>rw[bD,bV,ih];rfl
 have hp:=VZ (p:=p);have e1:rv (CV<|d+1) [5,5] (.asg [5]<|.bin .mul (.lst [(.c<|.int 0)])<|.v 4) [aa<|spV p n,aa<|Ze P,aa<|.int f,aa<|.int p,aa<|.int n,ac,ac] [] s=.ok (.nx [aa<|spV p n,aa<|Ze P,aa<|.int f,aa<|.int p,aa<|.int n,aa<|.lst<|(ar n (0:Int)).map V.int,ac] [5]) s:=by
  have h1:n<1000:=by omega
  have hfl:=X8<|ar n (0:Int);rw[hV]at hfl er;have h2:(n:Int)<1000:=by omega
  simp[pvE,h2,er,hfl]
 rw[show(([aa<|spV p n,aa<|Ze P,aa<|.int f,ac,ac,ac,ac]:Env).set 3<|aa<|.int p).set 4 (aa<|.int n)=[aa<|spV p n,aa<|Ze P,aa<|.int f,aa<|.int p,aa<|.int n,ac,ac]from rfl,Zi e1]
 have ix:∀(r:Row)(k:Nat),k<r.length->ixN (r.map V.int).length (k:Int)=aa k:=λr k h=>by
  unfold ixN;rw[T9<|by omega,T9<|by rw[aF];omega];rfl
 have e2:rv (CV<|d+1) [5,5] (.put (.v 5) (.v 2)<|.c<|.int 1) [aa<|spV p n,aa<|Ze P,aa<|.int f,aa<|.int p,aa<|.int n,aa<|.lst<|(ar n (0:Int)).map V.int,ac] [5] s=.ok (.nx [aa<|spV p n,aa<|Ze P,aa<|.int f,aa<|.int p,aa<|.int n,aa<|.lst<|((ar n (0:Int)).set f 1).map V.int,ac] [5]) s:=by
  have h1:=ix (ar n 0) f (by simpa using hf)
  rw[rv];simp only[pvE,Vc,V.flat];simp only[hU,BEq.rfl,Bool.true_or,if_true,List.getElem?_cons_succ,List.getElem?_cons_zero,Option.bind,id,pvE];rw[h1,Z8,Zb,zk];rfl
 rw[Zi e2];obtain⟨o',hI,e⟩:=GY (t:=[6]) (it:=.of<|.v 1) (b:=[.put (.v 5) (.call 4 [(.v 6)])<|.bin .mod (.neg<|.ix (.v 6)<|.v 2)<|.v 3]) (L:=P) (e:=Zd) (step:=λ(s:Row) r=>s.set ((hdI r).getD 0)<|(-(gt r f))%p) (ρ:=λst o=>[aa<|spV p n,aa<|Ze P,aa<|.int f,aa<|.int p,aa<|.int n,aa<|.lst<|st.map V.int,o]) (st:=(ar n (0:Int)).set f 1) (os:=[5]) (s:=s) (λst=>st.length=n) (by simp[pvE,Ze]) (by simp) (by simp) (λx hx st o hst=>by
  have hx':=hP.row x hx;obtain⟨k,hk,hkn,_⟩:=hP.head fld.one0 hx;refine⟨by rw[aT];exact hst,by simp[Zd,V.flat,X8],_,aa<|Zd x,rfl,?_⟩
  show rvs (CV<|d+1) [5,5] _ [aa<|spV p n,aa<|Ze P,aa<|.int f,aa<|.int p,aa<|.int n,aa<|.lst<|st.map V.int,aa<|Zd x] [5] s=_;have e3:=Vp d x s;rw[hk]at e3;have e3':=e3;have e4:=Wu (r:=x) (k:=f) (by rw[hx'.1];exact hf)
  have ev:pv (CV<|d+1) (.bin .mod (.neg<|.ix (.v 6)<|.v 2)<|.v 3) [aa<|spV p n,aa<|Ze P,aa<|.int f,aa<|.int p,aa<|.int n,aa<|.lst<|st.map V.int,aa<|Zd x] s=.ok (.int<|(-(gt x f))%p) s:=by
   have hp0:0<p:=by omega
   simp[pvE,Zd,e4,hp0]
  have ek:pv (CV<|d+1) (.call 4 [(.v 6)]) [aa<|spV p n,aa<|Ze P,aa<|.int f,aa<|.int p,aa<|.int n,aa<|.lst<|st.map V.int,aa<|Zd x] s=.ok (.int k) s:=Zk (Za (Zh rfl) Zf) e3';have h1:=ix st k (by rw[hst];exact hkn)
  rw[hk];rw[Zi (ρ':=[aa<|spV p n,aa<|Ze P,aa<|.int f,aa<|.int p,aa<|.int n,aa<|.lst<|(st.set k<|(-(gt x f))%p).map V.int,aa<|Zd x]) (os':=[5]) (s':=s) (by
   rw[rv,T9<|by simp,ev,Zb,T9<|by rfl]
   show(po (aa<|st.map V.int) s).bind _=_;rw[Z8,Zb,ek,Zb];show(po (ixN (st.map V.int).length (k:Int)) s).bind _=_;rw[h1,Z8,Zb,zk];rfl),rvs]
  rfl)
 rw[Zi e];refine Zl<|ZH ?_;simp[pvE,Zd,avI,avF]
theorem jR(j:Nat):∀hs:List Nat,QT (Zv j) (hs.map Zv)=aa (hs.contains j)
 |[]=>rfl
 |h::hs=>by
  show(match eqV Zo (Zv h) (Zv j),QT (Zv j) (hs.map Zv)with|some a,aa b=>aa (a||b)|_,_=>ac)=_
  rw[jR j hs,hU];show aa (ae ((h:Int)=(j:Int))||hs.contains j)=_
  congr 2
  rw[bT];simp;omega
def GW(d:Nat){P:List Row}(s:DS)(hn:n<=6)(hP:pZ p n P):CV (d+7) 24 [spV p n,Ze P] s=.ok (Ze<|Qs p n P) s:=by
 refine Zs rfl (by decide) rfl ?_
 show rvs (CV<|d+6) [] (.ex (.call 11 [(.v 0),(.v 1)]) :: .asg [2,3] (.v 0) :: .asg [4] (.comp1 [] 1 [0] (.of<|.v 1) []<|.call 4 [(.v 0)]) :: .asg [5] (.comp1 [4] 1 [0] (.rng1<|.v 3) [(.cmp .nin (.v 0)<|.v 1)]<|.v 0) :: .ret (.call 22 [(.v 0),(.comp1 [0,1] 1 [0] (.of<|.v 5) []<|.call 23 [(.v 1),(.v 2),(.v 0)])])::[]) [aa<|spV p n,aa<|Ze P,ac,ac,ac,ac] [] s=_;have hd:=dsum hP;rw[Zi<|vm<|Zk (Za (Zh rfl)<|Za (Zh rfl) Zf)<|VX (d+2) s hn hP];rw[Zi<|XS (p:=p) (n:=n) _ _ (by simp[pvE])<|by simp]
 have hc2:=ZG (C:=CV<|d+6) (cap:=[]) (nl:=1) (t:=[0]) (it:=.of<|.v 1) (elt:=.call 4 [(.v 0)]) (ρ:=[aa<|spV p n,aa<|Ze P,aa<|.int p,aa<|.int n,ac,ac]) (s:=s) (l:=P) (e:=Zd) (g:=λr=>WK<|hdI r)
  (by simp[pvE,Ze]) (by unfold lim;omega) (λx hx=>⟨_,rfl,by
   have e:=Vp (d+5) x s;simp[pvE,e]⟩)
 rw[qr hP]at hc2;rw[Zi (ρ':=[aa<|spV p n,aa<|Ze P,aa<|.int p,aa<|.int n,aa<|.lst<|(Zx P).map Zv,ac]) (os':=[]) (s':=s)<|by simp[pvE,hc2]]
 have hc3:=YG (C:=CV<|d+6) (cap:=[4]) (nl:=1) (t:=[0]) (it:=.rng1<|.v 3) (tst:=.cmp .nin (.v 0)<|.v 1) (elt:=.v 0) (ρ:=[aa<|spV p n,aa<|Ze P,aa<|.int p,aa<|.int n,aa<|.lst<|(Zx P).map Zv,ac]) (s:=s) (e:=Zv) (g:=Zv)
  (X5 (Zh rfl)<|by omega) (by rw[bW];unfold lim;omega) (λj hj=>⟨_,.bl<|!(Zx P).contains j,rfl,by
   have:=jR j<|Zx P;simp[pvE,XF,this],rfl,λ_=>by simp[pvE]⟩)
 rw[Zi (ρ':=[aa<|spV p n,aa<|Ze P,aa<|.int p,aa<|.int n,aa<|.lst<|(Zx P).map Zv,aa<|.lst<|(WQ n P).map Zv]) (os':=[]) (s':=s) (by
  refine(ZZ hc3 rfl).trans ?_;rfl)]
 have hc4:=ZG (C:=CV<|d+6) (cap:=[0,1]) (nl:=1) (t:=[0]) (it:=.of<|.v 5) (elt:=.call 23 [(.v 1),(.v 2),(.v 0)]) (ρ:=[aa<|spV p n,aa<|Ze P,aa<|.int p,aa<|.int n,aa<|.lst<|(Zx P).map Zv,aa<|.lst<|(WQ n P).map Zv]) (s:=s) (l:=WQ n P) (e:=Zv)
  (by simp[pvE]) (by
   have:(WQ n P).length<=n:=by unfold WQ;exact bh (eD ..) (by rw[bW];exact aB _)
   unfold lim;omega) (λf hf=>⟨_,rfl,by
   have hf':f<n:=by rw[<-U4 (p:=p)]at hf;exact(Ye.mp hf).1
   have e:=zD (d+4) s hn hP hf';exact Zk (Za (Zh rfl)<|Za (Zh rfl)<|Za (Zh rfl) Zf) e⟩)
 have e5:=Zcy (p:=p) (n:=n) d (v:=.lst<|(WQ n P).map λf=>Zd<|avI p n P f) s hn (λr hr=>by obtain⟨f,hf,rfl⟩:=aK.mp hr;exact(ZaJ hP hf).1) (by rw[bE];rfl) rfl
 exact Zl<|ZH<|Zk (Za (Zh rfl)<|Za hc4 Zf) e5
def met(d:Nat){P Q:List Row}(s:DS)(hn:n<=6)(hP:pZ p n P)(hQ:pZ p n Q):CV (d+8) 25 [spV p n,Ze P,Ze Q] s=.ok (Ze<|Ur p n P Q) s:=by
 refine Zs rfl (by decide) rfl ?_
 show rvs (CV<|d+7) [] (.ex (.call 12 [(.v 0),(.v 1),(.v 2)]) :: .ret (.call 24 [(.v 0),(.call 20 [(.v 0),(.call 24 [(.v 0),(.v 1)]),(.call 24 [(.v 0),(.v 2)])])])::[]) [aa<|spV p n,aa<|Ze P,aa<|Ze Q] [] s=_;rw[Zi<|vm<|Zk (Za (Zh rfl)<|Za (Zh rfl)<|Za (Zh rfl) Zf)<|Qc (d+2) s hn hP hQ];have a1:=(Ws hP).1;have a2:=(Ws hQ).1;have a3:=(XR a1 a2).1;exact Zl<|ZH<|Zk (Za (Zh rfl)<|Za (Zk (Za (Zh rfl)<|Za (Zk (Za (Zh rfl)<|Za (Zh rfl) Zf)<|GW d s hn hP)<|Za (Zk (Za (Zh rfl)<|Za (Zh rfl) Zf)<|GW d s hn hQ) Zf)<|joined (d+1) s hn a1 a2) Zf)<|GW d s hn a3
end
section
variable{p n:Nat}[Base p]
def ix0{C:Zy}{i:Nat}{ρ:Env}{s:DS}(h:ρ[i]?=aa (aa<|spV p n)):pv C (.ix (.v i)<|.c<|.int 0) ρ s=.ok (.int p) s:=by
 rw[pv,Zh h,Zb,pv];rfl
def ix1{C:Zy}{i:Nat}{ρ:Env}{s:DS}(h:ρ[i]?=aa (aa<|spV p n)):pv C (.ix (.v i)<|.c<|.int 1) ρ s=.ok (.int n) s:=by
 rw[pv,Zh h,Zb,pv];rfl
def UC{C:Zy}{e:E}{x:V}{xs:List V}{ρ:Env}{s:DS}(h:pv C e ρ s=.ok (.lst (x::xs)) s):pv C (.ix e<|.c<|.int 0) ρ s=.ok x s:=by
 rw[pv,h,Zb,pv];show po (at' (x::xs) 0) s=_;simp[at',ixN,po]
def ze(d:Nat){r o:Row}{k:Int}(s:DS)(hn:n<=6)(hr:Zj p n r)(ho:Zj p n o)(hk:-1000<k/\k<1000):CV (d+1) 26 [spV p n,Zd r,Zd o,.int k] s=.ok (Zd<|ZT p r o k) s:=by
 refine Zs rfl (by decide) rfl ?_
 show rvs (CV d) [] (.ret (.blt .tuple [(.comp1 [3,0] 2 [0,1] (.zip (.v 1)<|.v 2) []<|.bin .mod (.bin .add (.v 0)<|.bin .mul (.v 2)<|.v 1)<|.ix (.v 3)<|.c<|.int 0)])::[]) [aa<|spV p n,aa<|Zd r,aa<|Zd o,aa<|.int k] [] s=_;have hp:=VZ (p:=p);have hc:=ZG (cap:=[3,0]) (nl:=2) (t:=[0,1]) (it:=.zip (.v 1)<|.v 2) (elt:=.bin .mod (.bin .add (.v 0)<|.bin .mul (.v 2)<|.v 1)<|.ix (.v 3)<|.c<|.int 0) (ρ:=[aa<|spV p n,aa<|Zd r,aa<|Zd o,aa<|.int k]) (s:=s) (l:=r.zip o) (e:=λq=>V.tup [.int q.1,.int q.2]) (g:=λq=>V.int<|(q.1+k*q.2)%p)
  (by simp[pvE,Zd,Qq]) (by rw[fo,hr.1,ho.1];unfold lim;omega) (λq hq=>by
   have h2:=ho.2 q.2 (eg hq).2;refine⟨_,rfl,?_⟩;have f1:=ZN (a:=k) (by omega) (by omega)
   have f2:=ZN (a:=q.2) (by omega) (by omega)
   have hp0:0<p:=by omega
   have e0:=ix0 (p:=p) (n:=n) (C:=CV d) (i:=3) (ρ:=[aa<|.int q.1,aa<|.int q.2,aa<|.int k,aa<|spV p n]) (s:=s) rfl;show pv (CV d) _ [aa<|.int q.1,aa<|.int q.2,aa<|.int k,aa<|spV p n] s=_;have g:pv (CV d) (.bin .add (.v 0)<|.bin .mul (.v 2)<|.v 1) [aa<|.int q.1,aa<|.int q.2,aa<|.int k,aa<|spV p n] s=.ok (.int<|q.1+k*q.2) s:=by simp[pvE,f1,f2]
   rw[pv,g,Zb,e0,Zb];simp[pvF,hp0])
 have e:(r.zip o).map (λq=>V.int<|(q.1+k*q.2)%p)=(ZT p r o k).map V.int:=by
  unfold ZT;rw[<-dR,bE];rfl
 refine Zl<|ZH ?_;rw[pv,Za hc Zf,e];rfl
def QG(d:Nat)(s:DS)(hn:n<=6):∃r s',CV (d+2) 28 [.drw,spV p n] s=.ok (Zd r) s'/\Zj p n r:=by
 have hp:=VZ (p:=p);obtain⟨ys,s',e1,e2,e3⟩:=Q7 (C:=CV<|d+1) (cap:=[0,1]) (nl:=1) (t:=[0]) (it:=.rng1<|.ix (.v 1)<|.c<|.int 1) (elt:=.call 2 [(.v 1),(.ix (.v 2)<|.c<|.int 0)]) (ρ:=[aa .drw,aa<|spV p n]) (s:=s) (Q:=λy=>∃a:Int,y=.int a/\0<=a/\a<p)
  (by rw[J9];exact X5 (ix1 rfl)<|by omega) (by unfold lim;omega) (λx s=>by
   obtain⟨v,s',f1,f2,f3⟩:=vC (m:=p) s (by omega) (by omega)
   refine⟨[aa x,aa .drw,aa<|spV p n],.int v,s',rfl,Zk (Za (Zh rfl)<|Za (ix0 rfl) Zf) f1,v,rfl,f2,f3⟩)
 have:∃r:Row,ys=r.map V.int/\∀a∈r,0<=a/\a<(p:Int):=by
  clear e1 e2
  induction ys with
  |nil=>exact⟨[],rfl,λ_ h=>by cases h⟩
  |cons y ys ih=>
   obtain⟨r,h1,h2⟩:=ih λz hz=>e3 z<|al _ hz
   obtain⟨a,rfl,h3⟩:=e3 y<|am ..;refine⟨a::r,by rw[h1];rfl,λx hx=>?_⟩
   rcases az.mp hx with rfl|hx
   ·exact h3
   ·exact h2 x hx
 obtain⟨r,rfl,h2⟩:=this;refine⟨r,s',Zs rfl (by decide) rfl ?_,by simpa using e2,h2⟩
 show rvs (CV<|d+1) [] (.ret (.blt .tuple [(.comp1 [0,1] 1 [0] (.rng1<|.ix (.v 1)<|.c<|.int 1) []<|.call 2 [(.v 1),(.ix (.v 2)<|.c<|.int 0)])])::[]) [aa .drw,aa<|spV p n] [] s=_;refine Zl<|ZH ?_;rw[pv,Za e1 Zf];rfl
noncomputable def Zeo:List Sm:=[.asg [5]<|.comp1 [4] 1 [0] (.of<|.v 2) [(.cmp .ne (.ix (.v 0)<|.v 1)<|.c<|.int 0)]<|.v 0,
  .ite (.cmp .ne (.v 5)<|.lst []) [.asg [6]<|.ix (.comp1 [5,4,0] 1 [0] (.rng1<|.ix (.v 0)<|.c<|.int 0) [(.cmp .eq (.bin .mod (.bin .mul (.v 0)<|.ix (.ix (.v 1)<|.c<|.int 0)<|.v 2)<|.ix (.v 3)<|.c<|.int 0)<|.c<|.int 1)]<|.v 0)<|.c<|.int 0,
  .asg [7] (.blt .tuple [(.comp1 [6,0] 1 [0] (.of<|.ix (.v 5)<|.c<|.int 0) []<|.bin .mod (.bin .mul (.v 1)<|.v 0)<|.ix (.v 2)<|.c<|.int 0)]),
  .asg [2] (.comp1 [0,7,4] 1 [0] (.of<|.v 2) []<|.call 26 [(.v 1),(.v 0),(.v 2),(.neg<|.ix (.v 0)<|.v 3)]),
  .asg [3] (.bin .add (.comp1 [0,7,4] 1 [0] (.of<|.v 3) []<|.call 26 [(.v 1),(.v 0),(.v 2),(.neg<|.ix (.v 0)<|.v 3)])<|.lst [(.v 7)])] []]
def Za0(d:Nat){rest found:List Row}{j:Nat}{v:V}{a5 a6 a7:Option V}(s:DS)(hn:n<=6)(hj:j<n){R:List Row}(hR:Red p n j rest found)(hB:Bk p n R rest found)(hl:rest.length<=1000)(hl2:found.length<=1000):∃rest' found' b5 b6 b7,rvs (CV<|d+1) [] Zeo [aa<|spV p n,aa v,aa<|.lst<|rest.map Zd,aa<|.lst<|found.map Zd,aa<|Zv j,a5,a6,a7] [] s=.ok (.nx [aa<|spV p n,aa v,aa<|.lst<|rest'.map Zd,aa<|.lst<|found'.map Zd,aa<|Zv j,b5,b6,b7] []) s/\Red p n (j+1) rest' found'/\rest'.length=rest.length/\found'.length<=found.length+1/\Bk p n R rest' found':=by
 have hp:=VZ (p:=p);have hatj:=λr hr=>Wu (by rw[(hR.row r hr).1];exact hj)
 have hc1:=YG (C:=CV<|d+1) (cap:=[4]) (nl:=1) (t:=[0]) (it:=.of<|.v 2) (tst:=.cmp .ne (.ix (.v 0)<|.v 1)<|.c<|.int 0) (elt:=.v 0) (ρ:=[aa<|spV p n,aa v,aa<|.lst<|rest.map Zd,aa<|.lst<|found.map Zd,aa<|Zv j,a5,a6,a7]) (s:=s) (l:=rest) (e:=Zd) (g:=Zd)
  (by simp[pvE]) (by unfold lim;omega) (λr hr=>⟨[aa<|Zd r,aa<|Zv j],.bl<|ae<|gt r j≠0,rfl,by
   have:=hatj r hr;simp[pvE,Zd,Zv,this,Zo],rfl,λ_=>Zh rfl⟩)
 unfold Zeo;rw[Zi<|ZZ hc1 rfl];show ∃rest' found' b5 b6 b7,rvs (CV<|d+1) [] _ [aa<|spV p n,aa v,aa<|.lst<|rest.map Zd,aa<|.lst<|found.map Zd,aa<|Zv j,aa<|.lst<|(rest.filter λr=>ae<|gt r j≠0).map Zd,_,_] [] s=_/\_
 cases q:rest.filter λr=>ae (gt r j≠0)with
 |nil=>
  refine⟨rest,found,aa<|.lst<|[].map Zd,a6,a7,?_,ZaH hR λr hr=>?_,rfl,by omega,hB⟩
  ·have e1:Uv (CV<|d+1) (.cmp .ne (.v 5)<|.lst []) [aa<|spV p n,aa v,aa<|.lst<|rest.map Zd,aa<|.lst<|found.map Zd,aa<|Zv j,aa<|.lst<|[].map Zd,a6,a7] s=.ok ai s:=by
    refine Wc (v:=.bl ai) ?_ rfl;rw[pv,Zh (v:=.lst []) rfl];simp[pvE,Zo,Vw]
   rw[Zi<|(WP e1).trans<|by rw[T8<|by simp,rvs],rvs]
  ·have:=List.filter_eq_nil_iff.mp q r hr
   simpa using this
 |cons f fs=>
  have hf:f∈rest/\gt f j≠0:=by
   have:f∈rest.filter λr=>ae (gt r j≠0):=by rw[q];exact am ..
   rw[bM]at this;exact⟨this.1,by simpa using this.2⟩
  have hfr:=hR.row f hf.1;have hg:=Wi ppos hfr j;obtain⟨io1,io2⟩:=ja (p:=p) (a:=gt f j) (by omega) hg.2
  have hl1:Zj p n (lead p f j):=YX hfr;have hi:0<=Yq p (gt f j)/\Yq p (gt f j)<1000:=by
   unfold Yq
   repeat' split
   all_goals omega
  let ρ0:Env:=[aa<|spV p n,aa v,aa<|.lst<|rest.map Zd,aa<|.lst<|found.map Zd,aa<|Zv j,aa<|.lst<|(f::fs).map Zd,a6,a7]
  have e1:Uv (CV<|d+1) (.cmp .ne (.v 5)<|.lst []) ρ0 s=.ok ah s:=by
   refine Wc (v:=.bl ah) ?_ rfl;rw[pv,Zh rfl];simp[pvE,Zo]
  have ef:pv (CV<|d+1) (.ix (.v 5)<|.c<|.int 0) ρ0 s=.ok (Zd f) s:=by
   exact UC<|Zh rfl
  have hatf:=Wu (r:=f) (k:=j) (by rw[hfr.1];exact hj)
  have hc2:=YG (C:=CV<|d+1) (cap:=[5,4,0]) (nl:=1) (t:=[0]) (it:=.rng1<|.ix (.v 0)<|.c<|.int 0) (tst:=.cmp .eq (.bin .mod (.bin .mul (.v 0)<|.ix (.ix (.v 1)<|.c<|.int 0)<|.v 2)<|.ix (.v 3)<|.c<|.int 0)<|.c<|.int 1) (elt:=.v 0) (ρ:=ρ0) (s:=s) (l:=aR p) (e:=Zv) (g:=Zv)
   (X5 (ix0 rfl)<|by omega) (by rw[bW];unfold lim;omega) (λk hk=>⟨[aa<|Zv k,aa<|.lst<|(f::fs).map Zd,aa<|Zv j,aa<|spV p n],.bl<|ae<|(k:Int)*gt f j%p=1,rfl,by
    have hk':=bw.mp hk;have f1:=ZN (a:=(k:Int)) (by omega) (by omega)
    have f2:=ZN (a:=gt f j) (by omega) (by omega)
    have g1:pv (CV<|d+1) (.ix (.ix (.v 1)<|.c<|.int 0)<|.v 2) [aa<|Zv k,aa<|.lst<|(f::fs).map Zd,aa<|Zv j,aa<|spV p n] s=.ok (.int<|gt f j) s:=by
     have g0:pv (CV<|d+1) (.ix (.v 1)<|.c<|.int 0) [aa<|Zv k,aa<|.lst<|(f::fs).map Zd,aa<|Zv j,aa<|spV p n] s=.ok (Zd f) s:=by
      exact UC<|Zh rfl
     rw[pv,g0,Zb,Zh (v:=Zv j) rfl,Zb];show po (at' (f.map V.int) (j:Int)) s=_;rw[hatf];rfl
    have g2:=ix0 (p:=p) (n:=n) (C:=CV<|d+1) (i:=3) (ρ:=[aa<|Zv k,aa<|.lst<|(f::fs).map Zd,aa<|Zv j,aa<|spV p n]) (s:=s) rfl;have g3:pv (CV<|d+1) (.bin .mul (.v 0)<|.ix (.ix (.v 1)<|.c<|.int 0)<|.v 2) [aa<|Zv k,aa<|.lst<|(f::fs).map Zd,aa<|Zv j,aa<|spV p n] s=.ok (.int<|(k:Int)*gt f j) s:=by
     rw[pv,Zh (v:=Zv k) rfl,Zb,g1,Zb];simp[Zv,WV,ji,f1,f2]
    have hp0:0<p:=by omega
    rw[pv,pv,g3,Zb,g2,Zb];simp[pvE,Zo,hp0],rfl,λ_=>Zh rfl⟩)
  rw[io1]at hc2;have e6:pv (CV<|d+1) (.ix (.comp1 [5,4,0] 1 [0] (.rng1<|.ix (.v 0)<|.c<|.int 0) [(.cmp .eq (.bin .mod (.bin .mul (.v 0)<|.ix (.ix (.v 1)<|.c<|.int 0)<|.v 2)<|.ix (.v 3)<|.c<|.int 0)<|.c<|.int 1)]<|.v 0)<|.c<|.int 0) ρ0 s=.ok (.int<|Yq p<|gt f j) s:=by
   have:=UC hc2;rw[Zv,io2]at this;exact this
  let ρ1:Env:=[aa<|spV p n,aa v,aa<|.lst<|rest.map Zd,aa<|.lst<|found.map Zd,aa<|Zv j,aa<|.lst<|(f::fs).map Zd,aa<|.int<|Yq p<|gt f j,a7]
  have ef1:pv (CV<|d+1) (.ix (.v 5)<|.c<|.int 0) ρ1 s=.ok (Zd f) s:=by
   exact UC<|Zh rfl
  have hc3:=ZG (C:=CV<|d+1) (cap:=[6,0]) (nl:=1) (t:=[0]) (it:=.of<|.ix (.v 5)<|.c<|.int 0) (elt:=.bin .mod (.bin .mul (.v 1)<|.v 0)<|.ix (.v 2)<|.c<|.int 0) (ρ:=ρ1) (s:=s) (l:=f) (e:=V.int) (g:=λa=>V.int<|Yq p (gt f j)*a%p)
   (by rw[pvw,ef1];rfl) (by rw[hfr.1];unfold lim;omega) (λa ha=>⟨[aa<|.int a,aa<|.int<|Yq p<|gt f j,aa<|spV p n],rfl,by
    have h2:=hfr.2 a ha;have f1:=ZN (a:=Yq p<|gt f j) (by omega) (by omega)
    have f2:=ZN (a:=a) (by omega) (by omega)
    have g2:=ix0 (p:=p) (n:=n) (C:=CV<|d+1) (i:=2) (ρ:=[aa<|.int a,aa<|.int<|Yq p<|gt f j,aa<|spV p n]) (s:=s) rfl;have hp0:0<p:=by omega
    have g:pv (CV<|d+1) (.bin .mul (.v 1)<|.v 0) [aa<|.int a,aa<|.int<|Yq p<|gt f j,aa<|spV p n] s=.ok (.int<|Yq p (gt f j)*a) s:=by simp[pvE,f1,f2]
    rw[pv,g,Zb,g2,Zb];simp[pvF,hp0]⟩)
  have el:f.map (λa=>V.int<|Yq p (gt f j)*a%p)=(lead p f j).map V.int:=by unfold lead XC;rw[bE];rfl
  rw[el]at hc3;have e7:pv (CV<|d+1) (.blt .tuple [(.comp1 [6,0] 1 [0] (.of<|.ix (.v 5)<|.c<|.int 0) []<|.bin .mod (.bin .mul (.v 1)<|.v 0)<|.ix (.v 2)<|.c<|.int 0)]) ρ1 s=.ok (Zd<|lead p f j) s:=by
   rw[pv,Za hc3 Zf];rfl
  let ρ2:Env:=[aa<|spV p n,aa v,aa<|.lst<|rest.map Zd,aa<|.lst<|found.map Zd,aa<|Zv j,aa<|.lst<|(f::fs).map Zd,aa<|.int<|Yq p<|gt f j,aa<|Zd<|lead p f j]
  have elt:∀r:Row,Zj p n r->pv (CV<|d+1) (.call 26 [(.v 1),(.v 0),(.v 2),(.neg<|.ix (.v 0)<|.v 3)]) [aa<|Zd r,aa<|spV p n,aa<|Zd<|lead p f j,aa<|Zv j] s=.ok (Zd<|clr p r (lead p f j) j) s:=λr hr=>by
   have hgr:=Wi ppos hr j;have h3:=Wu (r:=r) (k:=j) (by rw[hr.1];exact hj)
   have g1:pv (CV<|d+1) (.neg<|.ix (.v 0)<|.v 3) [aa<|Zd r,aa<|spV p n,aa<|Zd<|lead p f j,aa<|Zv j] s=.ok (.int<|-(gt r j)) s:=by
    simp[pvE,Zd,Zv,h3]
   exact Zk (Za (Zh rfl)<|Za (Zh rfl)<|Za (Zh rfl)<|Za g1 Zf)<|ze d s hn hr hl1 ⟨by omega,by omega⟩
  have hc4:=ZG (C:=CV<|d+1) (cap:=[0,7,4]) (nl:=1) (t:=[0]) (it:=.of<|.v 2) (ρ:=ρ2) (s:=s) (l:=rest) (e:=Zd)
   (by rw[pvw,Zh (v:=.lst<|rest.map Zd) rfl];rfl) (by unfold lim;omega) (λr hr=>⟨_,rfl,elt r<|hR.row r hr⟩)
  let ρ3:Env:=[aa<|spV p n,aa v,aa<|.lst<|rest.map λr=>Zd<|clr p r (lead p f j) j,aa<|.lst<|found.map Zd,aa<|Zv j,aa<|.lst<|(f::fs).map Zd,aa<|.int<|Yq p<|gt f j,aa<|Zd<|lead p f j]
  have hc5:=ZG (C:=CV<|d+1) (cap:=[0,7,4]) (nl:=1) (t:=[0]) (it:=.of<|.v 3) (ρ:=ρ3) (s:=s) (l:=found) (e:=Zd)
   (by rw[pvw,Zh rfl];rfl) (by unfold lim;omega) (λr hr=>⟨_,rfl,elt r<|hR.part.row r hr⟩)
  have e9:pv (CV<|d+1) (.bin .add (.comp1 [0,7,4] 1 [0] (.of<|.v 3) []<|.call 26 [(.v 1),(.v 0),(.v 2),(.neg<|.ix (.v 0)<|.v 3)])<|.lst [(.v 7)]) ρ3 s=.ok (.lst<|(found.map λr=>Zd<|clr p r (lead p f j) j)++[Zd<|lead p f j]) s:=by
   have hll:pv (CV<|d+1) (.lst [(.v 7)]) ρ3 s=.ok (.lst [Zd<|lead p f j]) s:=by
    rw[pv,Za (Zh (v:=Zd<|lead p f j) rfl) Zf,Zb,T9<|by simp[lim]]
   rw[pv,hc5,Zb,hll,Zb];show(if(found.map λr=>Zd<|clr p r (lead p f j) j).length+[Zd<|lead p f j].length<=lim then _ else _)=_
   rw[T9<|by rw[aF,cK];unfold lim;omega]
  refine⟨rest.map λr=>clr p r (lead p f j) j,found.map (λr=>clr p r (lead p f j) j)++[lead p f j],aa<|.lst<|(f::fs).map Zd,aa<|.int<|Yq p<|gt f j,aa<|Zd<|lead p f j,?_,qY hR hj hf.1 hf.2,by rw[aF],by simp,hB.take hR hf.1⟩
  rw[Zi (ρ':=[aa<|spV p n,aa v,aa<|.lst<|rest.map λr=>Zd<|clr p r (lead p f j) j,aa<|.lst<|(found.map λr=>Zd<|clr p r (lead p f j) j)++[Zd<|lead p f j],aa<|Zv j,aa<|.lst<|(f::fs).map Zd,aa<|.int<|Yq p<|gt f j,aa<|Zd<|lead p f j]) (os':=[]) (s':=s) ((WP e1).trans (by
   rw[T9 rfl,Zi<|ZZ e6 rfl];show rvs _ _ _ ρ1 [] s=_;rw[Zi<|ZZ e7 rfl];show rvs _ _ _ ρ2 [] s=_;rw[Zi<|ZZ hc4 rfl];show rvs _ _ _ ρ3 [] s=_;rw[Zi<|ZZ e9 rfl,rvs];rfl)),rvs]
  rw[bE,dH,bE];rfl
def xH{n j:Nat}{x:Nat}{l:List Nat}(h:x::l=(aR n).drop j):x=j/\j<n/\l=(aR n).drop (j+1):=by
 have hj:j<n:=by
  by_cases c:j<n
  ·exact c
  ·rw[List.drop_eq_nil_of_le<|by rw[bW];omega]at h;cases h
 rw[cJ<|by rw[bW];exact hj]at h
 injection h with h1 h2
 exact⟨by rw[h1,List.getElem_range],hj,h2⟩
def Xj(d:Nat){R:List Row}{v:V}(s:DS)(hn:n<=6)(hR:∀r∈R,Zj p n r)(hl:R.length<=1000)(hv:Z9 v=aa (R.map Zd)):∃P,CV (d+2) 27 [spV p n,v] s=.ok (Ze P) s/\Spans p n R P:=by
 let I:List Nat->Env->Prop:=λl ρ=>∃rest found j a4 a5 a6 a7,ρ=[aa<|spV p n,aa v,aa<|.lst<|rest.map Zd,aa<|.lst<|found.map Zd,a4,a5,a6,a7]/\l=(aR n).drop j/\Red p n j rest found/\rest.length<=1000/\found.length<=j/\Bk p n R rest found
 obtain⟨ρ',hI,e⟩:=ub (t:=[4]) (it:=.rng1<|.ix (.v 0)<|.c<|.int 1) (os:=[]) (s:=s) (ρ:=[aa<|spV p n,aa v,aa<|.lst<|R.map Zd,aa<|.lst [],ac,ac,ac,ac]) I
  (X5 (ix1 rfl)<|by omega) ⟨R,[],0,ac,ac,ac,ac,rfl,rfl,⟨hR,λr _ i hi=>by omega,pZ.nil,λr hr=>by cases hr⟩,hl,aB _,λW hW=>⟨λh=>h.1,λh=>⟨h,λr hr=>by cases hr⟩⟩⟩ rfl (λx l ρ hx=>by
   obtain⟨rest,found,j,a4,a5,a6,a7,rfl,hl',hred,h1,h2,h3⟩:=hx;obtain⟨rfl,hj,hl2⟩:=xH hl';obtain⟨rest',found',b5,b6,b7,e1,e2,e3,e4,e5⟩:=Za0 (p:=p) (n:=n) d (j:=x) (v:=v) (a5:=a5) (a6:=a6) (a7:=a7) s hn hj hred h3 h1 (by omega)
   exact⟨rfl,_,_,rfl,e1,rest',found',x+1,_,_,_,_,rfl,hl2,e2,by omega,by omega,e5⟩)
 obtain⟨rest,found,j,a4,a5,a6,a7,rfl,hz,hred,_,_,hB⟩:=hI;have hj:n<=j:=by
  have:=congrArg gj hz;rw[cr,bW,gn]at this;omega
 refine⟨found,Zs rfl (by decide) rfl ?_,hB.spans hred hj⟩
 show rvs (CV<|d+1) [] (.asg [2] (.blt .list [(.v 1)]) :: .asg [3] (.lst []) :: .forr [4] (.rng1<|.ix (.v 0)<|.c<|.int 1) Zeo :: .ret (.blt .tuple [(.v 3)])::[]) [aa<|spV p n,aa v,ac,ac,ac,ac,ac,ac] [] s=_;have hlst:pv (CV<|d+1) (.blt .list [(.v 1)]) [aa<|spV p n,aa v,ac,ac,ac,ac,ac,ac] s=.ok (.lst<|R.map Zd) s:=by
  rw[pv,Za (Zh (v:=v) rfl) Zf,Zb];show po ((Z9 v).map V.lst) s=_;rw[hv];rfl
 rw[Zi<|ZZ hlst rfl];rw[Zi (ρ':=[aa<|spV p n,aa v,aa<|.lst<|R.map Zd,aa<|.lst [],ac,ac,ac,ac]) (os':=[]) (s':=s)<|by simp[pvE]]
 rw[Zi e];exact Zl<|ZH<|by simp[pvE,Ze]
def zR(d:Nat)(s:DS)(hn:n<=6):∃P s',CV (d+3) 29 [.drw,spV p n] s=.ok (Ze P) s'/\pZ p n P:=by
 obtain⟨v,s1,f1,f2,f3⟩:=vC (m:=(n:Int)+1) s (by omega) (by omega)
 obtain⟨k,rfl⟩:∃k:Nat,v=k:=⟨v.toNat,by omega⟩
 obtain⟨ys,s2,e1,e2,e3⟩:=Q7 (C:=CV<|d+2) (cap:=[0,1]) (nl:=1) (t:=[0]) (it:=.rng1<|.v 2) (elt:=.call 28 [(.v 1),(.v 2)]) (ρ:=[aa .drw,aa<|spV p n,aa<|.int k]) (s:=s1) (k:=k) (Q:=λy=>∃r:Row,y=Zd r/\Zj p n r)
  (by rw[J9];exact X5 (Zh rfl)<|by omega) (by unfold lim;omega) (λx s=>by
   obtain⟨r,s',g1,g2⟩:=QG (p:=p) (n:=n) d s hn;exact⟨[aa x,aa .drw,aa<|spV p n],Zd r,s',rfl,Zk (Za (Zh rfl)<|Za (Zh rfl) Zf) g1,r,rfl,g2⟩)
 have:∃R:List Row,ys=R.map Zd/\∀r∈R,Zj p n r:=by
  clear e1 e2
  induction ys with
  |nil=>exact⟨[],rfl,λ_ h=>by cases h⟩
  |cons y ys ih=>
   obtain⟨r,h1,h2⟩:=ih λz hz=>e3 z<|al _ hz
   obtain⟨a,rfl,h3⟩:=e3 y<|am ..;refine⟨a::r,by rw[h1];rfl,λx hx=>?_⟩
   rcases az.mp hx with rfl|hx
   ·exact h3
   ·exact h2 x hx
 obtain⟨R,rfl,hR⟩:=this;rw[aF]at e2;obtain⟨P,e4,hP⟩:=Xj (p:=p) (n:=n) d (v:=.lst<|R.map Zd) s2 hn hR (by omega) rfl
 refine⟨P,s2,Zs rfl (by decide) rfl ?_,hP.part⟩
 show rvs (CV<|d+2) [] (.asg [2] (.call 2 [(.v 0),(.bin .add (.ix (.v 1)<|.c<|.int 1)<|.c<|.int 1)]) :: .ret (.call 27 [(.v 1),(.comp1 [0,1] 1 [0] (.rng1<|.v 2) []<|.call 28 [(.v 1),(.v 2)])])::[]) [aa .drw,aa<|spV p n,ac] [] s=_;have g1:pv (CV<|d+2) (.bin .add (.ix (.v 1)<|.c<|.int 1)<|.c<|.int 1) [aa .drw,aa<|spV p n,ac] s=.ok (.int<|(n:Int)+1) s:=by
  rw[pv,ix1 (p:=p) (n:=n) rfl];simp[pvE]
 rw[Zi<|ZZ (Zk (Za (Zh rfl)<|Za g1 Zf) f1) rfl];exact Zl<|ZH<|Zk (Za (Zh rfl)<|Za e1 Zf) e4
end
section
variable{C:Zy}{ρ:Env}{s:DS}{a b:E}
def Zdn{c:Bool}(h1:pv C a ρ s=.ok (.bl ai) s)(h2:pv C b ρ s=.ok (.bl c) s):pv C (.or a b) ρ s=.ok (.bl c) s:=by rw[pv,h1];exact h2
def Wd{c:Bool}(h1:pv C a ρ s=.ok (.bl c) s):pv C (.not a) ρ s=.ok (.bl !c) s:=by rw[pv,h1];rfl
def JV{P Q:List Row}(h1:pv C a ρ s=.ok (Ze P) s)(h2:pv C b ρ s=.ok (Ze Q) s):pv C (.cmp .eq a b) ρ s=.ok (.bl<|ae<|P=Q) s:=by
 rw[pv,h1,Zb,h2,Zb];show po ((eqV Zo (Ze P)<|Ze Q).map V.bl) s=_;rw[Zo,jx];rfl
def guard{ms:List Nat}{t:E}{x l:List Sm}(h:pv C t ρ s=.ok (.bl ai) s):rvs C ms (.ite t x []::l) ρ [] s=rvs C ms l ρ [] s:=by
 rw[Zi<|(WP<|Wc h rfl).trans<|by rw[T8<|by simp,rvs]]
def Zal{P:List Row}(h1:pv C a ρ s=.ok (Ze P) s):pv C (.blt .len [a]) ρ s=.ok (.int P.length) s:=by
 rw[pv,Za h1 Zf,Zb];show po (aa<|V.int (P.map Zd).length) s=_;rw[aF];rfl
def ZaF{x y:Int}(h1:pv C a ρ s=.ok (.int x) s)(h2:pv C b ρ s=.ok (.int y) s):pv C (.bin .add a b) ρ s=.ok (.int<|x+y) s:=by
 rw[pv,h1,Zb,h2,Zb];rfl
def qm{x y:List V}(h1:pv C a ρ s=.ok (.lst x) s)(h2:pv C b ρ s=.ok (.lst y) s)(h:x.length+y.length<=lim):pv C (.bin .add a b) ρ s=.ok (.lst<|x++y) s:=by
 rw[pv,h1,Zb,h2,Zb];show(if x.length+y.length<=lim then _ else _)=_
 rw[T9 h]
end
noncomputable def menu:List (Nat×Nat×Nat):=[(2,2,1),(4,2,2),(8,2,3),(16,2,4),(32,2,5),(64,2,6),(3,3,1),(9,3,2),(27,3,3),(81,3,4),(5,5,1),(25,5,2),(125,5,3)]
def Zbu:∀q∈menu,(q.2.1=2\/q.2.1=3\/q.2.1=5)/\1<=q.2.2/\q.2.2<=6/\q.2∈ZeT++ZeJ:=by decide
def uU(d:Nat){m:Int}(s:DS)(hm:2<=m):∃p n s',CV (d+2) 3 [.drw,.int m] s=.ok (spV p n) s'/\(p=2\/p=3\/p=5)/\1<=n/\n<=6/\(p,n)∈ZeT++ZeJ:=by
 let L:=menu.filter λq=>ae<|(q.1:Int)<=m
 have hL:0<L.length:=List.length_pos_of_mem (a:=(2,2,1))<|bM.mpr ⟨am ..,T5 hm⟩;have hL2:L.length<=13:=eD ..;have hc:=YG (C:=CV<|d+1) (cap:=[1]) (nl:=2) (t:=[0,1]) (it:=.of<|.v 2) (tst:=.cmp .le (.v 0)<|.v 2) (elt:=.v 1) (ρ:=[aa .drw,aa<|.int m,aa<|.lst<|menu.map λq=>.tup [.int q.1,spV q.2.1 q.2.2]]) (s:=s) (l:=menu)
  (by rw[pvw,Zh rfl];rfl) (by decide) (λq _=>⟨[aa<|.int q.1,aa<|spV q.2.1 q.2.2,aa<|.int m],.bl<|ae<|(q.1:Int)<=m,rfl,by
   rw[pv,Zh rfl,Zb,Zh (v:=.int m) rfl];rfl,rfl,λ_=>Zh rfl⟩)
 obtain⟨v,s',f1,f2,f3⟩:=vC (F:=fns) (tk:=2) (d:=d) (m:=L.length) s (by omega) (by omega)
 obtain⟨k,rfl⟩:∃k:Nat,v=k:=⟨v.toNat,by omega⟩
 have hk:k<L.length:=by omega
 have hq:=Zbu _ (bM.mp<|ba hk).1;refine⟨L[k].2.1,L[k].2.2,s',Zs rfl (by decide) rfl ?_,hq⟩
 show rvs (CV<|d+1) [] (.asg [2] (.lst [(.tup [(.c<|.int 2),(.tup [(.c<|.int 2),(.c<|.int 1)])]),(.tup [(.c<|.int 4),(.tup [(.c<|.int 2),(.c<|.int 2)])]),(.tup [(.c<|.int 8),(.tup [(.c<|.int 2),(.c<|.int 3)])]),(.tup [(.c<|.int 16),(.tup [(.c<|.int 2),(.c<|.int 4)])]),(.tup [(.c<|.int 32),(.tup [(.c<|.int 2),(.c<|.int 5)])]),(.tup [(.c<|.int 64),(.tup [(.c<|.int 2),(.c<|.int 6)])]),(.tup [(.c<|.int 3),(.tup [(.c<|.int 3),(.c<|.int 1)])]),(.tup [(.c<|.int 9),(.tup [(.c<|.int 3),(.c<|.int 2)])])]) ::
  .asg [2] (.bin .add (.v 2)<|.lst [(.tup [(.c<|.int 27),(.tup [(.c<|.int 3),(.c<|.int 3)])]),(.tup [(.c<|.int 81),(.tup [(.c<|.int 3),(.c<|.int 4)])]),(.tup [(.c<|.int 5),(.tup [(.c<|.int 5),(.c<|.int 1)])]),(.tup [(.c<|.int 25),(.tup [(.c<|.int 5),(.c<|.int 2)])]),(.tup [(.c<|.int 125),(.tup [(.c<|.int 5),(.c<|.int 3)])])]) ::
  .asg [2] (.comp1 [1] 2 [0,1] (.of<|.v 2) [(.cmp .le (.v 0)<|.v 2)]<|.v 1) ::
  .ret (.ix (.v 2)<|.call 2 [(.v 0),(.blt .len [(.v 2)])])::[]) [aa .drw,aa<|.int m,ac] [] s=_
 rw[Zi (ρ':=[aa .drw,aa<|.int m,aa<|.lst<|(menu.take 8).map λq=>.tup [.int q.1,spV q.2.1 q.2.2]]) (os':=[]) (s':=s)<|by simp[pvE,menu,spV]]
 rw[Zi (ρ':=[aa .drw,aa<|.int m,aa<|.lst<|menu.map λq=>.tup [.int q.1,spV q.2.1 q.2.2]]) (os':=[]) (s':=s)<|by simp[pvE,menu,spV]]
 rw[Zi<|ZZ hc rfl];show rvs _ _ _ [aa .drw,aa<|.int m,aa<|.lst<|L.map λq=>spV q.2.1 q.2.2] _ _=_
 refine Zl<|ZH ?_;have e1:pv (CV<|d+1) (.blt .len [(.v 2)]) [aa .drw,aa<|.int m,aa<|.lst<|L.map λq=>spV q.2.1 q.2.2] s=.ok (.int L.length) s:=by
  rw[pv,Za (Zh rfl) Zf,Zb]
  show po (aa<|V.int (L.map λq=>spV q.2.1 q.2.2).length) s=_
  rw[aF];rfl
 rw[pv,Zh rfl,Zb,Zk (Za (Zh rfl)<|Za e1 Zf) f1,Zb]
 show po (at' (L.map λq=>spV q.2.1 q.2.2) (k:Int)) s'=_
 rw[UU<|by rw[aX,ag hk];rfl];rfl
section
variable{C:Zy}{ρ:Env}{s s1 s2:DS}{a b:E}{x y:V}{xs ys:List V}
def Yo{i:Int}:pv C (.c<|.int i) ρ s=.ok (.int i) s:=by rw[pv];rfl
def pick{i:E}{v:Int}(h1:pv C a ρ s=.ok (.lst xs) s1)(h2:pv C i ρ s1=.ok (.int v) s2)(h0:0<=v)(hv:v<xs.length):∃x,x∈xs/\pv C (.ix a i) ρ s=.ok x s2:=by
 obtain⟨k,rfl⟩:∃k:Nat,v=k:=⟨v.toNat,by omega⟩
 have hk:k<xs.length:=by omega
 refine⟨xs[k],ba hk,?_⟩;rw[pv,h1,Zb,h2,Zb];show po (at' xs (k:Int)) s2=_;rw[UU<|ag hk];rfl
def Ys(d:Nat)(s:DS){m:Int}{ρ:Env}{i:Nat}{e:E}(hd:ρ[i]?=aa (aa .drw))(he:pv (CV<|d+1) e ρ s=.ok (.int m) s)(h0:0<m)(h1:m<1000):∃v s',pv (CV<|d+1) (.call 2 [(.v i),e]) ρ s=.ok (.int v) s'/\0<=v/\v<m:=by
 obtain⟨v,s',e1,b⟩:=vC s h0 (by omega)
 exact⟨v,s',Zk (Za (Zh hd)<|Za he Zf) e1,b⟩
def XM(h1:pv C a ρ s=.ok (.tup xs) s)(h2:pv C b ρ s=.ok (.tup ys) s)(h:xs.length+ys.length<=1000):pv C (.bin .add a b) ρ s=.ok (.tup<|xs++ys) s:=by
 rw[pv,h1,Zb,h2,Zb];show(if xs.length+ys.length<=lim then _ else _)=_
 rw[T9<|by unfold lim;omega]
def ZaI(h1:pv C a ρ s=.ok (.tup xs) s){k:Int}(h2:pv C b ρ s=.ok (.int k) s):pv C (.sl a ac<|aa b) ρ s=.ok (.tup<|YR xs ac<|aa k) s:=by
 rw[pv,h1,Zb,pvo,Zb,pvo,h2,Zb];rfl
def UI(h1:pv C a ρ s=.ok (.tup xs) s){k:Int}(h2:pv C b ρ s=.ok (.int k) s):pv C (.sl a (aa b) ac) ρ s=.ok (.tup<|YR xs (aa k) ac) s:=by
 rw[pv,h1,Zb,pvo,h2,Zb];show((PR.ok (aa k) s).bind λl s=>(pvo C ac ρ s).bind λh s=>po (slV (.tup xs) l h) s)=_
 rw[Zb,pvo,Zb];rfl
def X6{lo hi:Option Int}:(YR xs lo hi).length<=xs.length:=by
 unfold YR;rw[cq,cr];omega
def zH(h:∀x∈xs,okV x=ah):YN xs=ah:=by
 induction xs with
 |nil=>rfl
 |cons x xs ih=>
  show(okV x&&YN xs)=ah;rw[h x<|am ..,ih λy hy=>h y<|al _ hy];rfl
def Xt{lo hi:Option Int}(h:YN xs=ah):YN (YR xs lo hi)=ah:=
 zH λx hx=>Xv h x<|List.mem_of_mem_drop<|kE hx
def Qd(h:YN xs=ah)(h2:YN ys=ah):YN (xs++ys)=ah:=
 zH λx hx=>by
  rcases bN.mp hx with z|z
  ·exact Xv h x z
  ·exact Xv h2 x z
def X4(h:pv C a ρ s=.ok x s):pv C (.tup [a]) ρ s=.ok (.tup [x]) s:=by
 rw[pv,Za h Zf];rfl
def wU{α:Type}{ms:List Nat}{i:Nat}{it:W}{b:List Sm}{L:List α}{e:α->V}{q:α->Bool}{v:V}{ρ:Option V->Env}(o:Option V)(hw:pvw C it (hide []<|ρ o) s=.ok (L.map e) s)(hs:∀o x,(ρ o).set i (aa x)=ρ (aa x))(hb:∀x∈L,rvs C ms b (ρ<|aa<|e x) [] s=if q x=ah then .ok (.ret v) s else .ok (.nx (ρ<|aa<|e x) []) s) :
  (L.any q=ah->rv C ms (.forr [i] it b) (ρ o) [] s=.ok (.ret v) s)/\(L.any q=ai->∃o',rv C ms (.forr [i] it b) (ρ o) [] s=.ok (.nx (ρ o') []) s):=by
 rw[rv,hw,Zb];clear hw
 induction L generalizing o with
 |nil=>exact⟨λh=>(by cases h),λ_=>⟨o,rfl⟩⟩
 |cons x L ih=>
  have ih:=ih (aa<|e x) λy hy=>hb y<|al _ hy
  have h1:=hb x<|am ..;have step:XG (λx ρ os s=>if(([i]:List Nat).any os.contains)=ah then .no else if(os.isEmpty||x.flat)=ah then(po (ZA [i] x ρ) s).bind λρ s=>rvs C ms b ρ os s else .no) ((x::L).map e) (ρ o) [] s=if q x=ah then .ok (.ret v) s else XG (λx ρ os s=>if(([i]:List Nat).any os.contains)=ah then .no else if(os.isEmpty||x.flat)=ah then(po (ZA [i] x ρ) s).bind λρ s=>rvs C ms b ρ os s else .no) (L.map e) (ρ<|aa<|e x) [] s:=by
   rw[aU,XG,T8<|by simp,T9<|by rfl]
   show((PR.ok ((ρ o).set i<|aa<|e x) s).bind λρ s=>rvs C ms b ρ [] s).bind _=_
   rw[Zb,hs o<|e x,h1];cases q x<;>rfl
  rw[step,eB];cases hq:q x with
  |true=>exact⟨λ_=>rfl,λh=>(by cases h)⟩
  |false=>
   rw[T8<|by simp,kT]
   exact ih
def Th(m:Nat)(x:V):Prop:=okV x=ah/\∀xs,x=.tup xs->xs.length<=m
def Xy{m:Nat}(h:YN xs=ah)(hl:xs.length<=m):Th m (.tup xs):=⟨h,λys e=>by cases e;exact hl⟩
theorem wz{Q:V->Prop}:∀{es:List E},(∀e∈es,∃v,pv C e ρ s=.ok v s/\Q v)->∃vs,pvs C es ρ s=.ok vs s/\vs.length=es.length/\∀v∈vs,Q v
 |[],_=>⟨[],Zf,rfl,λ_ h=>by cases h⟩
 |e::es,h=>by
  obtain⟨v,e1,q1⟩:=h e<|am ..;obtain⟨vs,e2,l2,q2⟩:=wz λe he=>h e<|al _ he
  refine⟨v::vs,Za e1 e2,by rw[aP,aP,l2],λu hu=>?_⟩
  rcases az.mp hu with rfl|hu
  ·exact q1
  ·exact q2 u hu
end
section
variable{p n:Nat}[Base p]
noncomputable def isI(x:V):Bool:=match x with
 |.int _=>ah
 |_=>ai
def Ze7{x:V}(h:∀i,x≠.int i):isI x=ai:=by
 cases x with|int i=>exact T7 rfl<|h i|_=>rfl
def uk(d:Nat){x:V}(s:DS)(hx:okV x=ah):CV (d+1) 35 [x] s=.ok (.bl<|isI x) s:=by
 refine Zs rfl (by decide) rfl ?_
 rcases qE hx with⟨i,rfl⟩|⟨b,rfl⟩|⟨ha,no⟩
 ·simp[YO,pvE,Z4,Xg,isI]
 ·simp[YO,pvE,Z4,Xg,isI]
 ·rw[Ze7 no]
  simp[YO,pvE,ha]
def xG(d:Nat){x:V}(s:DS)(hn:n<=6)(hx:okV x=ah):CV (d+2) 36 [spV p n,x] s=.ok (.bl<|Z6 p n x) s:=by
 refine Zs rfl (by decide) rfl ?_
 show rvs (CV<|d+1) [] XA.body [aa<|spV p n,aa x] [] s=_
 dsimp only[XA]
 have e1:=ix1 (p:=p) (n:=n) (C:=CV<|d+1) (i:=0) (ρ:=[aa<|spV p n,aa x]) (s:=s) rfl;rcases GU hx with⟨xs,rfl⟩|⟨ha,no⟩
 ·
  have g:pv (CV<|d+1) (.or (.not<|.isi (.v 1) [.tuple])<|.cmp .ne (.blt .len [(.v 1)])<|.ix (.v 0)<|.c<|.int 1) [aa<|spV p n,aa<|.tup xs] s=.ok (.bl !(ae<|xs.length=n)) s:=by
   rw[pv];have:pv (CV<|d+1) (.not<|.isi (.v 1) [.tuple]) [aa<|spV p n,aa<|.tup xs] s=.ok (.bl ai) s:=by simp[pvE,Z4,Xg]
   rw[this,Zb];rw[pv];have:pv (CV<|d+1) (.blt .len [(.v 1)]) [aa<|spV p n,aa<|.tup xs] s=.ok (.int xs.length) s:=by simp[pvE]
   rw[this,Zb,e1,Zb];show po (aa<|V.bl !(ae<|(xs.length:Int)=n)) s=_;rw[show(ae<|(xs.length:Int)=n)=ae (xs.length=n) by rw[decide_eq_decide];omega];rfl
  by_cases hl:xs.length=n
  ·rw[T5 hl]at g
   rw[guard g];refine Zl<|ZH ?_;have hc:=ZG (C:=CV<|d+1) (cap:=[0]) (nl:=1) (t:=[0]) (it:=.of<|.v 1) (elt:=.and (.call 35 [(.v 0)])<|.chain .le .lt (.c<|.int 0) (.v 0)<|.ix (.v 1)<|.c<|.int 0) (ρ:=[aa<|spV p n,aa<|.tup xs]) (s:=s) (l:=xs) (e:=id) (g:=λv=>V.bl<|isW v 0<|(p:Int)-1)
    (by simp[pvE]) (by unfold lim;omega) (λv hv=>⟨[aa v,aa<|spV p n],rfl,by
     have e:=Zk (Za (Zh (C:=CV<|d+1) (i:=0) (ρ:=[aa v,aa<|spV p n]) (s:=s) rfl) Zf)<|uk d s<|Xv hx v hv;have e0:=ix0 (p:=p) (n:=n) (C:=CV<|d+1) (i:=1) (ρ:=[aa v,aa<|spV p n]) (s:=s) rfl;rw[pv,e,Zb];cases v with
     |int i=>
      show pv _ _ _ _=_;rw[pv,Yo,Zb,Zh rfl,Zb];show(po (aa<|V.bl<|ae<|0<=i) s).bind _=_;rw[Z8,Zb];by_cases c:0<=i
      ·rw[T5 c]
       show(if ah=ah then _ else _)=_
       rw[T9 rfl,e0,Zb];show po (aa<|V.bl<|ae<|i<(p:Int)) s=PR.ok (V.bl<|ae (0<=i)&&ae (i<=(p:Int)-1)) s;rw[T5 c,nA,show ae (i<(p:Int))=ae (i<=(p:Int)-1) by rw[decide_eq_decide];omega];rfl
      ·rw[T4 c]
       show _=PR.ok (V.bl<|ae (0<=i)&&ae (i<=(p:Int)-1)) s;rw[T4 c];rfl
     |_=>rfl⟩)
   have ht:=Yp (g:=λv:V=>isW v 0<|(p:Int)-1) xs
   rw[pv,Za hc Zf,Zb];show po ((ZV _).map λbs=>V.bl<|bs.all id) s=_
   rw[ht];show PR.ok (V.bl<|(xs.map _).all id) s=PR.ok (V.bl<|ae (xs.length=n)&&_) s;rw[gG,T5 hl];rfl
  ·rw[T4 hl,g9]at g
   refine Zl ?_;rw[WP<|Wc g rfl,T9 rfl,Zl<|ZH<|by rw[pv];rfl]
   show _=PR.ok (FlV.ret<|V.bl<|ae (xs.length=n)&&_) s;rw[T4 hl];rfl
 ·rw[Zag no]
  exact Zl (by simp[pvE,ha])
noncomputable def Zcd(v:V):Bool:=match v with
 |.tup xs=>match intsV xs with
  |some r=>(hdI r).isSome
  |none=>ai
 |_=>ai
theorem Uo:∀r:Row,ZV (r.map V.int)=aa (r.map λa=>ae<|a≠0)
 |[]=>rfl
 |a::r=>by rw[aU,ZV,Uo r];rfl
theorem qB:∀r:Row,(r.map λa=>ae<|a≠0).any id=(hdI r).isSome
 |[]=>rfl
 |a::r=>by
  rw[aU,eB,qB r,hdI];by_cases c:a=0
  ·subst c
   rw[T8<|by simp]
   cases hdI r<;>rfl
  ·rw[T9 c,T5 c];rfl
def Zdb{C:Zy}{ρ:Env}{i:Nat}{r:Row}(s:DS)(h:ρ[i]?=aa (aa<|Zd r)):pv C (.blt .any [(.v i)]) ρ s=.ok (.bl (hdI r).isSome) s:=by
 rw[pv,Za (Zh h) Zf,Zb];show po ((ZV<|r.map V.int).map λbs=>V.bl<|bs.any id) s=_
 rw[Uo];show PR.ok (V.bl _) s=_;rw[qB]
def Ue(d:Nat){x:V}(s:DS)(hn:n<=6)(hx:okV x=ah)(hl:∀xs,x=.tup xs->xs.length<=1000):CV (d+3) 37 [spV p n,x] s=.ok (.bl<|isP p n x) s:=by
 refine Zs rfl (by decide) rfl ?_
 show rvs (CV<|d+2) [] Xd.body [aa<|spV p n,aa x,ac] [] s=_
 dsimp only[Xd]
 rcases GU hx with⟨xs,rfl⟩|⟨ha,no⟩
 ·
  have hl:=hl xs rfl;rw[guard<|by simp[pvE,Z4,Xg]]
  obtain⟨f1,f2⟩:=wU (C:=CV<|d+2) (ms:=[]) (s:=s) (i:=2) (it:=.of<|.v 1) (b:=[.ite (.or (.not<|.call 36 [(.v 0),(.v 2)])<|.not<|.blt .any [(.v 2)]) [.ret<|.c<|.bl ai] []]) (L:=xs) (e:=id) (q:=λv=>!(Z6 p n v&&Zcd v)) (v:=.bl ai) (ρ:=λo=>[aa<|spV p n,aa<|.tup xs,o]) ac
   (by rw[List.map_id];simp[pvE]) (λ_ _=>rfl) (λv hv=>by
    have e:=xG (p:=p) d s hn<|Xv hx v hv;have e1:=Zk (Za (Zh (i:=0) (v:=spV p n) (ρ:=[aa<|spV p n,aa<|.tup xs,aa v]) (s:=s) rfl)<|Za (Zh (i:=2) (v:=v) rfl) Zf) e;show rvs _ _ _ [aa<|spV p n,aa<|.tup xs,aa v] _ _=if _ then _ else PR.ok (FlV.nx [aa<|spV p n,aa<|.tup xs,aa v] []) s
    cases hb:Z6 p n v with
    |false=>
     rw[hb]at e1;rw[T9<|by simp[hb]]
     refine Zl ?_;rw[WP<|Wc (b:=ah) (by rw[pv,Wd e1];rfl) rfl,T9 rfl]
     exact Zl (ZH<|by rw[pv];rfl)
    |true=>
     rw[hb]at e1;obtain⟨r,rfl,hr⟩:=jE hb;have e2:=Zdb (C:=CV<|d+2) (ρ:=[aa<|spV p n,aa<|.tup xs,aa<|Zd r]) (i:=2) s rfl;have e3:Zcd (Zd r)=(hdI r).isSome:=by
      show(match intsV (r.map V.int)with|some r=>(hdI r).isSome|none=>ai)=_
      rw[YW]
     have e4:=Wc (Zdn (Wd e1)<|Wd e2) rfl;rw[e3,nA];cases hh:(hdI r).isSome with
     |false=>
      rw[hh,g9]at e4;rw[g9,T9 rfl];refine Zl ?_;rw[WP e4,T9 rfl];exact Zl (ZH<|by rw[pv];rfl)
     |true=>
      rw[hh]at e4;rw[T8<|by simp,Zi<|(WP e4).trans<|by rw[T8<|by simp,rvs],rvs])
  cases ha:xs.any λv=>!(Z6 p n v&&Zcd v)with
  |true=>
   rw[Zl<|f1 ha];have:isP p n (.tup xs)=ai:=by
    cases hp:isP p n (.tup xs)with
    |false=>rfl
    |true=>
     exfalso
     obtain⟨P,e,hP⟩:=Vx.mp hp;cases e;obtain⟨v,hv,hq⟩:=eV.mp ha;obtain⟨r,hr,rfl⟩:=aK.mp hv;obtain⟨k,hk,_⟩:=hP.head fld.one0 hr;have e3:Zcd (Zd r)=(hdI r).isSome:=by
      show(match intsV (r.map V.int)with|some r=>(hdI r).isSome|none=>ai)=_
      rw[YW]
     rw[jz<|hP.row r hr,e3,hk]at hq;cases hq
   rw[this]
  |false=>
   obtain⟨o,f3⟩:=f2 ha;rw[Zi f3];have hall:=λv hv=>by
    have:=List.any_eq_false.mp ha v hv;simp at this;exact this.1
   obtain⟨R,rfl,hR⟩:=WC (p:=p)<|aV.mpr hall;obtain⟨P,e4,hS⟩:=Xj (p:=p) (n:=n) d (v:=.tup<|R.map Zd) s hn hR (by simpa using hl) rfl
   refine Zl<|ZH ?_;have e5:=JV (C:=CV<|d+2) (ρ:=[aa<|spV p n,aa<|Ze R,o]) (Zk (Za (Zh (i:=0) rfl)<|Za (Zh (i:=1) rfl) Zf) e4)<|Zh (i:=1) (v:=Ze R) rfl;rw[show ae (P=R)=isP p n (.tup<|R.map Zd)from ?_]at e5
   ·exact e5
   ·rw[bT,T2,Vx]
    constructor
    ·rintro rfl
     exact⟨P,rfl,hS.part⟩
    ·rintro ⟨Q,e,hQ⟩
     have e:=e;have e:R=Q:=by
      have:=congrArg (λv=>match v with|V.tup ks=>Y8 ks|_=>ac) e
      have:Y8 (R.map Zd)=Y8 (Q.map Zd):=this;rw[Yz,Yz]at this;exact ak this
     subst e;exact hS.uniq<|Spans.self hQ
 ·rw[ZaM no]
  exact Zl (by simp[pvE,ha])
end
noncomputable def JP:List V:=[.non,.bl ah,.bl ai,.int<|-1,.int 0,.int 1,.str<|bp "",.str<|bp "1",.tup [],.lst [],.tup [.tup []],.tup [.tup [.int 0]],.tup [.tup [.int 1]],.lst [.tup [.int 1]],.dct ac,.tup [.non],.int<|10^29]
noncomputable def uw:List V:=[.tup [.tup [.int 1,.int 0],.tup [.int 0,.int 1]],.tup [.tup [.bl ah]],.tup [.tup [.tup [.int 1]]]]
def Ze4:∀v∈JP++uw,okV v=ah:=by
 intro v h;refine Xv ?_ v h;rfl
def qk:∀v∈JP++uw,∀xs,v=.tup xs->xs.length<=1000:=by
 intro v h xs e;subst e;simp only[JP,uw,iP,fm,az,bz,or_false,reduceCtorEq,false_or,V.tup.injEq]at h;rcases h with rfl|rfl|rfl|rfl|rfl|rfl|rfl|rfl<;>decide
def ZcG(d:Nat)(s:DS):∃x s',CV (d+2) 34 [.drw] s=.ok x s'/\Th 1000 x:=by
 obtain⟨v,s1,t1,t2,t3⟩:=Ys d s (m:=20) (i:=0) (ρ:=[aa .drw,aa<|.lst JP]) rfl Yo (by decide) (by decide)
 have e1:pv (CV<|d+1) (.bin .add (.v 1)<|.lst [(.tup [(.tup [(.c<|.int 1),(.c<|.int 0)]),(.tup [(.c<|.int 0),(.c<|.int 1)])]),(.tup [(.tup [(.c<|.bl ah)])]),(.tup [(.tup [(.tup [(.c<|.int 1)])])])]) [aa .drw,aa<|.lst JP] s=.ok (.lst<|JP++uw) s:=by
  have g:pv (CV<|d+1) (.lst [(.tup [(.tup [(.c<|.int 1),(.c<|.int 0)]),(.tup [(.c<|.int 0),(.c<|.int 1)])]),(.tup [(.tup [(.c<|.bl ah)])]),(.tup [(.tup [(.tup [(.c<|.int 1)])])])]) [aa .drw,aa<|.lst JP] s=.ok (.lst uw) s:=by simp[pvE,ofD,uw]
  exact qm (Zh rfl) g (by decide)
 obtain⟨x,hx,e2⟩:=pick e1 t1 t2 t3;refine⟨x,s1,Zs rfl (by decide) rfl ?_,Ze4 x hx,qk x hx⟩
 show rvs (CV<|d+1) [] W7.body [aa .drw,ac] [] s=_
 dsimp only[W7]
 rw[Zi (ρ':=[aa .drw,aa<|.lst JP]) (os':=[]) (s':=s)<|by simp[pvE,ofD,JP,pv.eq_6,WV,ji]]
 exact Zl<|ZH e2
section
variable{C:Zy}{ρ:Env}{s:DS}{a b e:E}{x y:V}{xs ys:List V}
def Gp{i:Int}{k:Nat}(he:pv C e ρ s=.ok (.int k) s)(hk:k<1000):∃ys,pv C (.bin .mul (.tup [(.c<|.int i)]) e) ρ s=.ok (.tup ys) s/\YN ys=ah/\ys.length<=1000:=by
 refine⟨(ar k [V.int i]).flatten,?_,zH λx hx=>?_,?_⟩
 ·rw[pv,X4 Yo,Zb,he,Zb]
  show(if 0<=(k:Int)/\(k:Int)<1000/\[V.int i].length<=1000 then PR.ok (V.tup (ar (k:Int).toNat [V.int i]).flatten) s else .no)=_
  rw[T9 ⟨by omega,by omega,by show 1<=1000;omega⟩,cT]
 ·obtain⟨l,hl,hx⟩:=List.mem_flatten.mp hx
  rw[fk hl]at hx;rw[bt.mp hx];rfl
 ·rw[List.length_flatten,hV]
  simp;omega
def UA{Q:V->Prop}{es:List E}(hl:es.length<=1000)(h:∀e∈es,∃v,pv C e ρ s=.ok v s/\Q v):∃vs,pv C (.lst es) ρ s=.ok (.lst vs) s/\vs.length=es.length/\∀v∈vs,Q v:=by
 obtain⟨vs,e,l,q⟩:=wz h;refine⟨vs,?_,l,q⟩;rw[pv,e,Zb,T9<|by unfold lim;omega]
def VJ{k:Int}(h:pv C a ρ s=.ok (.int k) s):pv C (.bin .add a<|.c<|.int 1) ρ s=.ok (.int<|k+1) s:=ZaF h Yo
def yO{ms:List Nat}{t:E}{z l:List Sm}(h:pv C t ρ s=.ok (.bl ai) s):rvs C ms (.ite t z []::l) ρ [] s=rvs C ms l ρ [] s:=guard h
def GS{lo hi:E}{j k:Int}(ha:pv C a ρ s=.ok (.tup xs) s)(hlo:pv C lo ρ s=.ok (.int j) s)(hhi:pv C hi ρ s=.ok (.int k) s)(hb:pv C b ρ s=.ok x s)(hl:xs.length<=400)(ho:YN xs=ah)(hx:okV x=ah):∃ys,pv C (.bin .add (.bin .add (.sl a ac<|aa lo)<|.tup [b])<|.sl a (aa hi) ac) ρ s=.ok (.tup ys) s/\YN ys=ah/\ys.length<=1000:=by
 have l1:=X6 (xs:=xs) (lo:=ac) (hi:=aa j);have l2:=X6 (xs:=xs) (lo:=aa k) (hi:=ac);refine⟨(YR xs ac (aa j)++[x])++YR xs (aa k) ac,XM (XM (ZaI ha hlo) (X4 hb)<|by simp;omega) (UI ha hhi)<|by simp;omega,Qd (Qd (Xt ho) ?_)<|Xt ho,by simp;omega⟩
 show(okV x&&ah)=ah;rw[hx];rfl
def wM{lo hi:E}{j k:Int}(ha:pv C a ρ s=.ok (.tup xs) s)(hlo:pv C lo ρ s=.ok (.int j) s)(hhi:pv C hi ρ s=.ok (.int k) s)(hl:xs.length<=400)(ho:YN xs=ah):∃ys,pv C (.bin .add (.sl a ac<|aa lo)<|.sl a (aa hi) ac) ρ s=.ok (.tup ys) s/\YN ys=ah/\ys.length<=1000:=by
 have l1:=X6 (xs:=xs) (lo:=ac) (hi:=aa j);have l2:=X6 (xs:=xs) (lo:=aa k) (hi:=ac);exact⟨_,XM (ZaI ha hlo) (UI ha hhi)<|by omega,Qd (Xt ho)<|Xt ho,by simp;omega⟩
end
section
variable{p n:Nat}[Base p]
def uQ(d:Nat)(s:DS)(hn:n<=6):∃x s',CV (d+3) 30 [.drw,spV p n,Ze []] s=.ok x s'/\Th 1000 x:=by
 let ρ:Env:=[aa .drw,aa<|spV p n,aa<|Ze [],ac,ac,ac,ac,ac,ac,ac,ac]
 have e1:∀s,pv (CV<|d+2) (.ix (.v 1)<|.c<|.int 1) ρ s=.ok (.int n) s:=λs=>ix1 rfl
 obtain⟨vs,e2,l2,q2⟩:=UA (C:=CV<|d+2) (ρ:=ρ) (s:=s) (es:=[(.lst []),(.c .non),(.tup [(.tup [])]),(.tup [(.bin .mul (.tup [(.c<|.int 0)])<|.ix (.v 1)<|.c<|.int 1)]),(.tup [(.bin .mul (.tup [(.c<|.int 1)])<|.bin .add (.ix (.v 1)<|.c<|.int 1)<|.c<|.int 1)]),.dnew,(.c<|.str<|bp "none")]) (by decide) (λe he=>by
  simp only[az,bz,or_false]at he;have nt:∀x:V,okV x=ah->(∀xs,x≠.tup xs)->Th 1000 x:=λx h1 h2=>⟨h1,λxs e=>T7 e<|h2 xs⟩
  rcases he with rfl|rfl|rfl|rfl|rfl|rfl|rfl
  ·exact⟨.lst [],by simp[pvE],nt _ rfl λxs z=>by cases z⟩
  ·exact⟨.non,by rw[pv];rfl,nt _ rfl λxs z=>by cases z⟩
  ·exact⟨.tup [.tup []],by simp[pvE],Xy rfl<|by decide⟩
  ·obtain⟨ys,g,ho,_⟩:=Gp (i:=0) (e1 s) (by omega)
   exact⟨_,X4 g,Xy (by show(YN ys&&ah)=ah;rw[ho];rfl)<|by show 1<=1000;decide⟩
  ·obtain⟨ys,g,ho,_⟩:=Gp (s:=s) (i:=1) (k:=n+1) (by have:=VJ<|e1 s;rw[this];rfl) (by omega)
   exact⟨_,X4 g,Xy (by show(YN ys&&ah)=ah;rw[ho];rfl)<|by show 1<=1000;decide⟩
  ·exact⟨.dct ac,by rw[pv],nt _ rfl λxs z=>by cases z⟩
  ·exact⟨.str<|bp "none",by rw[pv];rfl,nt _ rfl λxs z=>by cases z⟩)
 obtain⟨v,s1,t1,t2,t3⟩:=Ys (d+1) s (m:=7) (i:=0) (ρ:=ρ) rfl Yo (by decide) (by decide)
 obtain⟨x,hx,e3⟩:=pick e2 t1 t2 (by rw[l2];exact t3)
 refine⟨x,s1,Zs rfl (by decide) rfl ?_,q2 x hx⟩
 show rvs (CV<|d+2) [] ZY.body ρ [] s=_
 dsimp only[ZY]
 have g:pv (CV<|d+2) (.cmp .eq (.v 2)<|.tup []) ρ s=.ok (.bl ah) s:=by
  have:=JV (C:=CV<|d+2) (ρ:=ρ) (s:=s) (P:=[]) (Q:=[]) (a:=.v 2) (b:=.tup []) (Zh rfl) (by rw[pv,pvs];rfl)
  rw[T5 rfl]at this;exact this
 refine Zl ?_;rw[WP<|Wc g rfl,T9 rfl];exact Zl<|ZH e3
def qc(d:Nat){P:List Row}(s:DS)(hn:n<=6)(h1:1<=n)(hP:pZ p n P)(h0:P≠[]):∃x s',CV (d+3) 30 [.drw,spV p n,Ze P] s=.ok x s'/\Th 1000 x:=by
 have hz:=dsum hP;have hpos:0<P.length:=List.length_pos_iff.mpr h0
 let ρ (a3 a4 a5 a6 a7 a8 a9 a10:Option V):Env:=[aa .drw,aa<|spV p n,aa<|Ze P,a3,a4,a5,a6,a7,a8,a9,a10]
 have ep:∀a3 a4 a5 a6 a7 a8 a9 a10 s,pv (CV<|d+2) (.v 2) (ρ a3 a4 a5 a6 a7 a8 a9 a10) s=.ok (.tup<|P.map Zd) s:=λ_ _ _ _ _ _ _ _ s=>Zh rfl
 have e0:∀a3 a4 a5 a6 a7 a8 a9 a10 s,pv (CV<|d+2) (.ix (.v 1)<|.c<|.int 0) (ρ a3 a4 a5 a6 a7 a8 a9 a10) s=.ok (.int p) s:=λ_ _ _ _ _ _ _ _ s=>ix0 rfl
 have e1:∀a3 a4 a5 a6 a7 a8 a9 a10 s,pv (CV<|d+2) (.ix (.v 1)<|.c<|.int 1) (ρ a3 a4 a5 a6 a7 a8 a9 a10) s=.ok (.int n) s:=λ_ _ _ _ _ _ _ _ s=>ix1 rfl
 have op:=Gi P;have lp:(P.map Zd).length<=400:=by rw[aF];omega
 obtain⟨v1,s1,t1,t2,t3⟩:=Ys (d+1) s (m:=P.length) (i:=0) (e:=.blt .len [(.v 2)]) (ρ:=ρ ac ac ac ac ac ac ac ac) rfl (Zal<|Zh rfl) (by omega) (by omega)
 obtain⟨j,rfl⟩:∃j:Nat,v1=j:=⟨v1.toNat,by omega⟩
 have hj:j<P.length:=by omega
 have hr:=hP.row _<|ba hj;have er:pv (CV<|d+2) (.ix (.v 2)<|.v 3) (ρ (aa<|.int j) ac ac ac ac ac ac ac) s1=.ok (Zd P[j]) s1:=by
  rw[pv,Zh rfl,Zb,Zh rfl,Zb];show po (at' (P.map Zd) (j:Int)) s1=_;rw[UU (x:=Zd P[j])<|by rw[aX,ag hj];rfl];rfl
 obtain⟨v2,s2,u1,u2,u3⟩:=Ys (d+1) s1 (m:=n) (i:=0) (e:=.ix (.v 1)<|.c<|.int 1) rfl (e1 ..) (by omega) (by omega)
 let ρ5:Env:=ρ (aa<|.int j) (aa<|Zd P[j]) (aa<|.int v2) ac ac ac ac ac
 obtain⟨os,m1,m2,m3⟩:=UA (C:=CV<|d+2) (ρ:=ρ5) (s:=s2) (Q:=λv=>okV v=ah) (es:=[(.c<|.int 0),(.c<|.int 1),(.ix (.v 1)<|.c<|.int 0),(.bin .sub (.ix (.v 1)<|.c<|.int 0)<|.c<|.int 1),(.neg<|.c<|.int 1),(.c<|.bl ah),(.c .non),(.c<|.str<|bp "1"),(.tup [(.c<|.int 1)]),(.bin .pow (.c<|.int 10)<|.c<|.int 29)]) (by decide) (λe he=>by
  simp only[az,bz,or_false]at he;rcases he with rfl|rfl|rfl|rfl|rfl|rfl|rfl|rfl|rfl|rfl
  ·exact⟨_,Yo,rfl⟩
  ·exact⟨_,Yo,rfl⟩
  ·exact⟨_,e0 ..,rfl⟩
  ·exact⟨.int<|(p:Int)-1,by rw[pv,e0,Zb,Yo,Zb];rfl,rfl⟩
  ·exact⟨.int<|-1,by rw[pv,Yo];rfl,rfl⟩
  ·exact⟨.bl ah,by rw[pv];rfl,rfl⟩
  ·exact⟨.non,by rw[pv];rfl,rfl⟩
  ·exact⟨.str<|bp "1",by rw[pv];rfl,rfl⟩
  ·exact⟨_,X4 Yo,rfl⟩
  ·exact⟨.int<|10^29,by simp[pvE,ofD,WV,ji],rfl⟩)
 obtain⟨v3,s3,w1,w2,w3⟩:=Ys (d+1) s2 (m:=10) (i:=0) (e:=.c<|.int 10) (ρ:=ρ5) rfl Yo (by decide) (by decide)
 obtain⟨od,hod,e6⟩:=pick m1 w1 w2 (by rw[m2];exact w3)
 have ho:=m3 od hod
 let ρ6 (a7:Option V):Env:=ρ (aa<|.int j) (aa<|Zd P[j]) (aa<|.int v2) (aa od) a7 ac ac ac
 have e4:∀a s,pv (CV<|d+2) (.v 4) (ρ6 a) s=.ok (.tup<|P[j].map .int) s:=λa s=>Zh rfl
 have e5:∀a s,pv (CV<|d+2) (.v 5) (ρ6 a) s=.ok (.int v2) s:=λa s=>Zh rfl
 have or':=Gu P[j];have lr:(P[j].map V.int).length<=400:=by rw[aF,hr.1];omega
 have tok:∀ys,YN ys=ah->okV (.tup ys)=ah:=λys h=>h
 obtain⟨ra,a1,a2,a3⟩:=UA (C:=CV<|d+2) (ρ:=ρ6 ac) (s:=s3) (Q:=λv=>okV v=ah) (es:=[(.bin .add (.bin .add (.sl (.v 4) ac<|aa<|.v 5)<|.tup [(.v 6)])<|.sl (.v 4) (aa<|.bin .add (.v 5)<|.c<|.int 1) ac),(.bin .add (.bin .add (.sl (.v 4) ac<|aa<|.v 5)<|.tup [(.v 6)])<|.sl (.v 4) (aa<|.v 5) ac),(.bin .add (.sl (.v 4) ac<|aa<|.v 5)<|.sl (.v 4) (aa<|.bin .add (.v 5)<|.c<|.int 1) ac),(.blt .list [(.v 4)]),(.c .non)]) (by decide) (λe he=>by
  simp only[az,bz,or_false]at he;rcases he with rfl|rfl|rfl|rfl|rfl
  ·obtain⟨ys,g,h,_⟩:=GS (e4 ac s3) (e5 ac s3) (VJ<|e5 ac s3) (Zh (i:=6) (v:=od) rfl) lr or' ho
   exact⟨_,g,h⟩
  ·obtain⟨ys,g,h,_⟩:=GS (e4 ac s3) (e5 ac s3) (e5 ac s3) (Zh (i:=6) (v:=od) rfl) lr or' ho
   exact⟨_,g,h⟩
  ·obtain⟨ys,g,h,_⟩:=wM (e4 ac s3) (e5 ac s3) (VJ<|e5 ac s3) lr or'
   exact⟨_,g,h⟩
  ·exact⟨.lst<|P[j].map .int,by rw[pv,Za (e4 ac s3) Zf];rfl,or'⟩
  ·exact⟨.non,by rw[pv];rfl,rfl⟩)
 have hp:=VZ (p:=p);have b1:=ZG (C:=CV<|d+2) (cap:=[1]) (nl:=1) (t:=[0]) (it:=.of<|.v 4) (elt:=.bin .mod (.bin .mul (.c<|.int 2)<|.v 0)<|.ix (.v 1)<|.c<|.int 0) (ρ:=ρ6<|aa<|.lst ra) (s:=s3) (l:=P[j]) (e:=V.int) (g:=λa=>V.int<|2*a%p)
  (by rw[pvw,e4];rfl) (by rw[hr.1];unfold lim;omega) (λa ha=>⟨[aa<|.int a,aa<|spV p n],rfl,by
   have h2:=hr.2 a ha;have f1:=ZN (a:=2) (by omega) (by omega)
   have f2:=ZN (a:=a) (by omega) (by omega)
   have g2:=ix0 (p:=p) (n:=n) (C:=CV<|d+2) (i:=1) (ρ:=[aa<|.int a,aa<|spV p n]) (s:=s3) rfl;have g:pv (CV<|d+2) (.bin .mul (.c<|.int 2)<|.v 0) [aa<|.int a,aa<|spV p n] s3=.ok (.int<|2*a) s3:=by simp[pvE,ofD,WV,ji,f1,f2]
   have hp0:(0:Int)<p:=by omega
   rw[pv,g,Zb,g2,Zb];show(if(0:Int)<p then _ else _)=_
   rw[T9 hp0]⟩)
 have b2:pv (CV<|d+2) (.blt .tuple [(.comp1 [1] 1 [0] (.of<|.v 4) []<|.bin .mod (.bin .mul (.c<|.int 2)<|.v 0)<|.ix (.v 1)<|.c<|.int 0)]) (ρ6<|aa<|.lst ra) s3=.ok (.tup<|P[j].map λa=>V.int<|2*a%p) s3:=by
  rw[pv,Za b1 Zf];rfl
 obtain⟨zs,b3,b4,_⟩:=Gp (C:=CV<|d+2) (ρ:=ρ6<|aa<|.lst ra) (s:=s3) (i:=0) (k:=n) (e1 ..) (by omega)
 obtain⟨r2,s4,b5,b6⟩:=QG (p:=p) (n:=n) d s3 hn;have b7:pv (CV<|d+2) (.lst [(.blt .tuple [(.comp1 [1] 1 [0] (.of<|.v 4) []<|.bin .mod (.bin .mul (.c<|.int 2)<|.v 0)<|.ix (.v 1)<|.c<|.int 0)]),(.bin .mul (.tup [(.c<|.int 0)])<|.ix (.v 1)<|.c<|.int 1),(.call 28 [(.v 0),(.v 1)])]) (ρ6<|aa<|.lst ra) s3=.ok (.lst [.tup<|P[j].map λa=>V.int<|2*a%p,.tup zs,Zd r2]) s4:=by
  rw[pv,Za b2<|Za b3<|Za (Zk (Za (Zh rfl)<|Za (Zh rfl) Zf) b5) Zf];rfl
 let rb:List V:=ra++[.tup<|P[j].map λa=>V.int<|2*a%p,.tup zs,Zd r2]
 have hrb:∀v∈rb,okV v=ah:=λv hv=>by
  rcases bN.mp hv with z|z
  ·exact a3 v z
  ·simp only[az,bz,or_false]at z
   rcases z with rfl|rfl|rfl
   ·exact tok _ (zH λx hx=>by obtain⟨a,_,rfl⟩:=aK.mp hx;rfl)
   ·exact tok _ b4
   ·exact x6 r2
 have lrb:rb.length=8:=by show(ra++_).length=8;rw[bn,a2];rfl
 have b8:pv (CV<|d+2) (.bin .add (.v 7)<|.lst [(.blt .tuple [(.comp1 [1] 1 [0] (.of<|.v 4) []<|.bin .mod (.bin .mul (.c<|.int 2)<|.v 0)<|.ix (.v 1)<|.c<|.int 0)]),(.bin .mul (.tup [(.c<|.int 0)])<|.ix (.v 1)<|.c<|.int 1),(.call 28 [(.v 0),(.v 1)])]) (ρ6<|aa<|.lst ra) s3=.ok (.lst rb) s4:=by
  rw[pv,Zh (v:=.lst ra) rfl,Zb,b7,Zb];show(if ra.length+3<=lim then _ else _)=_
  rw[T9<|by rw[a2];decide]
 obtain⟨v5,s5,c1,c2,c3⟩:=Ys (d+1) s4 (m:=11) (i:=0) (e:=.c<|.int 11) (ρ:=ρ6<|aa<|.lst rb) rfl Yo (by decide) (by decide)
 obtain⟨ix,hix,c4⟩:=pick (a:=.lst [(.c<|.int 0),(.c<|.int 0),(.c<|.int 0),(.c<|.int 0),(.c<|.int 1),(.c<|.int 2),(.c<|.int 3),(.c<|.int 4),(.c<|.int 5),(.c<|.int 6),(.c<|.int 7)]) (xs:=[.int 0,.int 0,.int 0,.int 0,.int 1,.int 2,.int 3,.int 4,.int 5,.int 6,.int 7]) (s:=s4) (s1:=s4) (by simp[pvE,ofD]) c1 c2 c3
 obtain⟨q,rfl,hq0,hq⟩:∃q:Int,ix=.int q/\0<=q/\q<8:=by
  simp at hix;rcases hix with rfl|rfl|rfl|rfl|rfl|rfl|rfl|rfl<;>exact⟨_,rfl,by decide,by decide⟩
 obtain⟨one,hone,c5⟩:=pick (a:=.v 7) (Zh (v:=.lst rb) rfl) c4 hq0 (by rw[lrb];exact hq)
 have oone:=hrb one hone
 let ρ8 (a9 a10:Option V):Env:=ρ (aa<|.int j) (aa<|Zd P[j]) (aa<|.int v2) (aa od) (aa<|.lst rb) (aa one) a9 a10
 obtain⟨v6,s6,g1,g2,g3⟩:=Ys (d+1) s5 (m:=8) (i:=0) (e:=.c<|.int 8) (ρ:=ρ8 ac ac) rfl Yo (by decide) (by decide)
 have e3:∀a b s,pv (CV<|d+2) (.v 3) (ρ8 a b) s=.ok (.int j) s:=λ_ _ s=>Zh rfl
 have lt9:∀k:Int,pv (CV<|d+2) (.cmp .lt (.v 9)<|.c<|.int k) (ρ8 (aa<|.int v6) ac) s6=.ok (.bl<|ae<|v6<k) s6:=λk=>by
  rw[pv,Zh (v:=.int v6) rfl,Zb,Yo,Zb];rfl
 have start:∀x s',rvs (CV<|d+2) [] (ZY.body.drop 9) (ρ8 (aa<|.int v6) ac) [] s6=.ok (.ret x) s'->CV (d+3) 30 [.drw,spV p n,Ze P] s=.ok x s':=λx s' h=>by
  refine Zs (fn:=ZY) rfl (by decide) rfl ?_
  show rvs (CV<|d+2) [] ZY.body (ρ ac ac ac ac ac ac ac ac) [] s=_;have g:pv (CV<|d+2) (.cmp .eq (.v 2)<|.tup []) (ρ ac ac ac ac ac ac ac ac) s=.ok (.bl ai) s:=by
   have:=JV (C:=CV<|d+2) (ρ:=ρ ac ac ac ac ac ac ac ac) (s:=s) (P:=P) (Q:=[]) (a:=.v 2) (b:=.tup []) (Zh rfl) (by rw[pv,pvs];rfl)
   rw[T4 h0]at this;exact this
  dsimp only[ZY]
  rw[guard g,Zi<|ZZ t1 rfl];show rvs _ _ _ (ρ (aa<|.int j) ac ac ac ac ac ac ac) _ _=_;rw[Zi<|ZZ er rfl];show rvs _ _ _ (ρ (aa<|.int j) (aa<|Zd P[j]) ac ac ac ac ac ac) _ _=_;rw[Zi<|ZZ u1 rfl];show rvs _ _ _ ρ5 _ _=_;rw[Zi<|ZZ e6 rfl];show rvs _ _ _ (ρ6 ac) _ _=_;rw[Zi<|ZZ a1 rfl];show rvs _ _ _ (ρ6<|aa<|.lst ra) _ _=_;rw[Zi<|ZZ b8 rfl];show rvs _ _ _ (ρ6<|aa<|.lst rb) _ _=_;rw[Zi<|ZZ c5 rfl];show rvs _ _ _ (ρ8 ac ac) _ _=_;rw[Zi<|ZZ g1 rfl];exact h
 by_cases k4:v6<4
 ·obtain⟨ys,h1,h2,h3⟩:=GS (x:=one) (b:=.v 8) (ep ..) (e3 (aa<|.int v6) ac s6) (VJ<|e3 (aa<|.int v6) ac s6) (Zh rfl) lp op oone
  refine⟨.tup ys,s6,start _ _ ?_,Xy h2 h3⟩
  dsimp only[ZY,mi]
  refine Zl ?_;rw[WP<|Wc (lt9 4) rfl,T9<|T5 k4];exact Zl<|ZH h1
 by_cases k6:v6<6
 ·obtain⟨ys,h1,h2,h3⟩:=GS (x:=one) (b:=.v 8) (ep ..) (e3 (aa<|.int v6) ac s6) (e3 (aa<|.int v6) ac s6) (Zh rfl) lp op oone
  refine⟨.tup ys,s6,start _ _ ?_,Xy h2 h3⟩
  dsimp only[ZY,mi]
  have z:=lt9 4;rw[T4 k4]at z;rw[yO z];refine Zl ?_;rw[WP<|Wc (lt9 6) rfl,T9<|T5 k6];exact Zl<|ZH h1
 let ρ9 (a10:Option V):Env:=ρ8 (aa<|.int v6) a10
 obtain⟨ws,y1,y2,y3⟩:=UA (C:=CV<|d+2) (ρ:=ρ9 ac) (s:=s6) (Q:=Th 1000) (es:=[(.bin .add (.sl (.v 2) ac<|aa<|.v 3)<|.sl (.v 2) (aa<|.bin .add (.v 3)<|.c<|.int 1) ac),(.rev<|.v 2),(.blt .list [(.v 2)]),(.tup [(.v 2)]),(.bin .add (.v 2)<|.sl (.v 2) (aa<|.neg<|.c<|.int 1) ac),(.bin .add (.sl (.v 2) (aa<|.v 3) ac)<|.sl (.v 2) ac<|aa<|.v 3)]) (by decide) (λe he=>by
  simp only[az,bz,or_false]at he;have ep':pv (CV<|d+2) (.v 2) (ρ9 ac) s6=.ok (.tup<|P.map Zd) s6:=ep ..;have e3':=e3 (aa<|.int v6) ac s6;rcases he with rfl|rfl|rfl|rfl|rfl|rfl
  ·obtain⟨ys,h1,h2,h3⟩:=wM ep' e3' (VJ e3') lp op
   exact⟨_,h1,Xy h2 h3⟩
  ·refine⟨.tup (P.map Zd).reverse,by rw[pv,ep'];rfl,Xy (zH λx hx=>Xv op x<|List.mem_reverse.mp hx)<|by rw[kL];omega⟩
  ·exact⟨.lst<|P.map Zd,by rw[pv,Za ep' Zf];rfl,op,λxs z=>by cases z⟩
  ·exact⟨_,X4 ep',Xy (by show(YN _&&ah)=ah;rw[op];rfl)<|by show 1<=1000;decide⟩
  ·have l1:=X6 (xs:=P.map Zd) (lo:=aa<|-1) (hi:=ac)
   exact⟨_,XM ep' (UI ep' (k:=-1)<|by rw[pv,Yo];rfl)<|by omega,Xy (Qd op<|Xt op)<|by rw[bn];omega⟩
  ·have l1:=X6 (xs:=P.map Zd) (lo:=aa (j:Int)) (hi:=ac)
   have l2:=X6 (xs:=P.map Zd) (lo:=ac) (hi:=aa (j:Int));exact⟨_,XM (UI ep' e3') (ZaI ep' e3')<|by omega,Xy (Qd (Xt op)<|Xt op)<|by rw[bn];omega⟩)
 obtain⟨v7,s7,z1,z2,z3⟩:=Ys (d+1) s6 (m:=6) (i:=0) (e:=.c<|.int 6) (ρ:=ρ9<|aa<|.lst ws) rfl Yo (by decide) (by decide)
 obtain⟨x,hx,z4⟩:=pick (a:=.v 10) (Zh (v:=.lst ws) rfl) z1 z2 (by rw[y2];exact z3)
 refine⟨x,s7,start _ _ ?_,y3 x hx⟩
 dsimp only[ZY,mi]
 have z:=lt9 4;rw[T4 k4]at z;have zz:=lt9 6;rw[T4 k6]at zz;rw[yO z,yO zz,Zi<|ZZ y1 rfl];exact Zl<|ZH z4
def zT(d:Nat){P:List Row}(s:DS)(hn:n<=6)(h1:1<=n)(hP:pZ p n P):∃x s',CV (d+3) 30 [.drw,spV p n,Ze P] s=.ok x s'/\Th 1000 x:=by
 cases P with|nil=>exact uQ d s hn|cons r P=>exact qc d s hn h1 hP (by simp)
end
end K21
namespace Rw
open La
noncomputable def Wh(p:Nat)(L:List Row)(o:Row):List Row:=(aR p).flatMap λ(k:Nat)=>L.map λr=>ZT p r o (k:Int)
noncomputable def Yg(p n:Nat)(P:List Row):List Row:=P.foldl (Wh p) [ar n 0]
def JD(L:List Row)(o:Row):(Wh p L o).length=L.length*p:=by
 unfold Wh;rw[List.length_flatMap,show((aR p).map λ(k:Nat)=>(L.map λr=>ZT p r o (k:Int)).length)=ar p L.length from iT (by simp) λi h1 h2=>by simp,List.sum_replicate_nat,lI]
def zZ(P:List Row):(Yg p n P).length=p^P.length:=by
 unfold Yg
 suffices ∀(P L:List Row),(P.foldl (Wh p) L).length=L.length*p^P.length by rw[this];simp
 intro P
 induction P with|nil=>intro L;simp|cons o P ih=>intro L;rw[ei,ih,JD,aP,Nat.pow_succ,Nat.mul_assoc,lI p]
section
variable{p n:Nat}[Base p]
def Xa:Zj p n (ar n 0):=⟨b9,λa ha=>by
 have:=(inferInstance:Base p).b;rw[fk ha];omega⟩
def Gq(j:Nat):gt (ar n 0) j=0:=by
 unfold gt;rw[aG,bI];split<;>rfl
def Jj(hL:∀r∈L,Zj p n r)(ho:Zj p n o):∀r∈Wh p L o,Zj p n r:=λr hr=>by
 obtain⟨k,_,h⟩:=fX.mp hr;obtain⟨q,hq,rfl⟩:=aK.mp h;exact ZD (hL q hq) ho
def Zbz(hW:pZ p n W)(hr:Zj p n r)(ho:Zj p n o)(h1:Yu p W r=ah)(h2:Yu p W o=ah):Yu p W (ZT p r o k)=ah:=by
 rw[Zu hW<|ZD hr ho];rw[Yv hr ho];exact Xn (ph p k) ((Zu hW hr).mp h1)<|(Zu hW ho).mp h2
theorem vO(hW:pZ p n W):∀{P L:List Row},(∀r∈P,r∈W)->(∀r∈L,Zj p n r/\Yu p W r=ah)->∀r∈P.foldl (Wh p) L,Zj p n r/\Yu p W r=ah
 |[],_,_,h=>h
 |o::P,L,hP,h=>by
  have ho:=hP o<|am ..;refine vO hW (P:=P) (λr hr=>hP r<|al _ hr) λr hr=>?_
  obtain⟨k,_,h3⟩:=fX.mp hr;obtain⟨q,hq,rfl⟩:=aK.mp h3;exact⟨ZD (h q hq).1<|hW.row o ho,Zbz hW (h q hq).1 (hW.row o ho) (h q hq).2<|X0 hW ho⟩
theorem vY:∀{P L:List Row}{a r:Row},(∀o∈P,Zj p n o)->a∈L->Zj p n a->Zj p n r->hdI (Zp p P<|ZT p r a<|-1)=ac->r∈P.foldl (Wh p) L
 |[],L,a,r,_,ha,h1,h2,h=>by
  have e:r=a:=Va h2 h1 (by
   funext j
   have z:=(Yk<|ZD h2 h1).mpr<|XY h j;rw[Yv h2 h1,J1,JQ]at z
   grind)
  rw[e];exact ha
 |o::P,L,a,r,hP,ha,h1,h2,h=>by
  have ho:=hP o<|am ..
  let x:=ZT p r a<|-1
  have hx:Zj p n x:=ZD h2 h1;have hk:=Wi ppos hx<|(hdI o).getD 0;have e:clr p x o ((hdI o).getD 0)=ZT p r (ZT p a o<|gt x<|(hdI o).getD 0) (-1):=Va (ZD hx ho) (ZD h2<|ZD h1 ho) (by
   rw[Wb hx ho,Yv h2<|ZD h1 ho,Yv h1 ho]
   funext j
   show toV p (ZT p r a<|-1) j-toV p x ((hdI o).getD 0)*toV p o j=toV p r j+ph p (-1)*(toV p a j+toV p x ((hdI o).getD 0)*toV p o j);rw[Yv h2 h1,J1,JQ]
   grind)
  refine vY (P:=P) (λq hq=>hP q<|al _ hq) (fX.mpr ⟨(gt x<|(hdI o).getD 0).toNat,bw.mpr<|by omega,aK.mpr ⟨a,ha,by rw[Int.toNat_of_nonneg hk.1]⟩⟩) (ZD h1 ho) h2 ?_
  rw[<-e];exact h
def UR(hP:pZ p n P):r∈Yg p n P↔Zj p n r/\Yu p P r=ah:=by
 constructor
 ·exact vO hP (λ_ h=>h) (λq hq=>by rw[bt.mp hq];exact⟨Xa,wR hP Xa Gq⟩) r
 ·intro⟨h1,h2⟩
  refine vY hP.row (bt.mpr rfl) Xa h1 ?_;have e:ZT p r (ar n 0) (-1)=r:=Va (ZD h1 Xa) h1 (by
   rw[Yv h1 Xa]
   funext j
   rw[(Yk Xa).mpr<|Gq j]
   grind)
  rw[e];exact Option.isNone_iff_eq_none.mp h2
theorem zu:∀{P L:List Row},(∀o∈P,Zj p n o/\gt o ((hdI o).getD 0)=1)->(P.Pairwise λo q=>gt o ((hdI q).getD 0)=0)->(∀r∈L,Zj p n r/\∀o∈P,gt r ((hdI o).getD 0)=0)->L.Nodup->(P.foldl (Wh p) L).Nodup
 |[],_,_,_,_,h=>h
 |o::P,L,hP,hz,hL,h=>by
  obtain⟨ho,h1⟩:=hP o<|am ..;obtain⟨z1,z2⟩:=bg.mp hz;have hp:=(inferInstance:Base p).b;refine zu (P:=P) (λq hq=>hP q<|al _ hq) z2 (λr hr=>⟨Jj (λr hr=>(hL r hr).1) ho r hr,λq hq=>?_⟩) ?_
  ·obtain⟨k,_,h3⟩:=fX.mp hr
   obtain⟨s,hs,rfl⟩:=aK.mp h3;rw[UF (hL s hs).1 ho,(hL s hs).2 q<|al _ hq,z1 q hq];simp
  ·have at_:∀(k:Nat) r,k<p->r∈L->gt (ZT p r o (k:Int)) ((hdI o).getD 0)=k:=λk r hk hr=>by
    rw[UF (hL r hr).1 ho,(hL r hr).2 o<|am ..,h1,Int.zero_add,Int.mul_one,fN (by omega)<|by omega]
   refine List.pairwise_flatMap.mpr ⟨λk hk=>?_,?_⟩
   ·refine cU.mpr (h.imp_of_mem λ{a b} ha hb ne e=>ne<|Va (hL a ha).1 (hL b hb).1 ?_)
    have q:=congrArg (toV p) e;rw[Yv (hL a ha).1 ho,Yv (hL b hb).1 ho]at q
    funext j
    have:=congrFun q j
    grind
   ·refine fW.imp_of_mem λ{a b} ha hb ne x hx y hy e=>ne ?_
    obtain⟨r,hr,rfl⟩:=aK.mp hx;obtain⟨q,hq,rfl⟩:=aK.mp hy;have:=at_ a r (bw.mp ha) hr;rw[e,at_ b q (bw.mp hb) hq]at this;omega
def Zdd(hP:pZ p n P):(Yg p n P).Nodup:=by
 have rf:=hP.pn.rf;refine zu (λo ho=>⟨hP.row o ho,(GP<|hP.row o ho).mp<|rf.one _<|Yf ho⟩) ?_ (λr hr=>?_)<|cp.mpr ⟨by simp,ku⟩
 ·exact(cU.mp rf.inc).imp_of_mem λ{a b} ha hb lt=>(Yk<|hP.row a ha).mp<|rf.zer _ (Yf hb) _ (Yf ha)<|cY lt
 ·rw[bt.mp hr]
  exact⟨Xa,λo _=>Gq _⟩
noncomputable def U3(p n:Nat)(P Q:List Row):List Row:=(Yg p n P).filter λr=>(Yg p n Q).contains r
def xD(hP:pZ p n P)(hQ:pZ p n Q):Spans p n (U3 p n P Q) (Ur p n P Q):=by
 have hM:=pM hP hQ;have key:∀r,r∈U3 p n P Q↔Zj p n r/\Yu p (Ur p n P Q) r=ah:=λr=>by
  unfold U3;rw[bM,bS,UR hP,UR hQ]
  constructor
  ·intro⟨⟨h1,h2⟩,_,h3⟩
   exact⟨h1,(Zu hM h1).mpr<|(vU hP hQ _).mpr ⟨(Zu hP h1).mp h2,(Zu hQ h1).mp h3⟩⟩
  ·intro⟨h1,h2⟩
   obtain⟨a,b⟩:=(vU hP hQ _).mp<|(Zu hM h1).mp h2;exact⟨⟨h1,(Zu hP h1).mpr a⟩,h1,(Zu hQ h1).mpr b⟩
 exact⟨hM,λr hr=>((key r).mp hr).2,λW hW h r hr=>h r<|(key r).mpr ⟨hM.row r hr,X0 hM hr⟩⟩
def yJ(hP:pZ p n P)(hQ:pZ p n Q):Spans p n (P++Q) (WM p P Q):=by
 have hJ:=pJ hP hQ;refine⟨hJ,λr hr=>?_,λW hW h r hr=>?_⟩
 ·rcases bN.mp hr with z|z
  ·exact(Zu hJ<|hP.row r z).mpr<|Zda hP hQ<|(Zu hP<|hP.row r z).mp<|X0 hP z
  ·exact(Zu hJ<|hQ.row r z).mpr<|Zbj hP hQ<|(Zu hQ<|hQ.row r z).mp<|X0 hQ z
 ·have h1:=(Vs hP hW).mp (aV.mpr λq hq=>h q<|cm _ hq)
  have h2:=(Vs hQ hW).mp<|aV.mpr λq hq=>h q<|bi _ hq
  exact(Zu hW<|hJ.row r hr).mpr<|j5 hP hQ h1 h2<|(Zu hJ<|hJ.row r hr).mp<|X0 hJ hr
end
end Rw
namespace Lw
def evE:=aI (aI (aI (aI @Ev.ev.eq_1 @Ev.ev.eq_2)<|aI @Ev.ev.eq_3<|aI @Ev.ev.eq_4 @Ev.ev.eq_5)<|aI (aI @Ev.ev.eq_6 @Ev.ev.eq_7)<|aI @Ev.ev.eq_8<|aI @Ev.ev.eq_9 @Ev.ev.eq_10)<|aI (aI (aI @Ev.ev.eq_11 @Ev.ev.eq_12)<|aI @Ev.ev.eq_13<|aI @Ev.ev.eq_14 @Ev.ev.eq_15)<|aI (aI @Ev.ev.eq_16<|aI @Ev.ev.eq_17 @Ev.ev.eq_18)<|aI @Ev.ev.eq_19<|aI @Ev.ev.eq_20 @Ev.ev.eq_21
open Ev Pv
section
def evF:(∀x S,Y9 .len [x] S=(ob (Wf S x) S).bind λxs S=>.ok (.int xs.length) S)/\(∀a b S,Y9 .max2 [.int a,.int b] S=.ok (.int (if b>a then b else a)) S)/\(∀a b S,Y9 .min2 [.int a,.int b] S=.ok (.int (if b<a then b else a)) S)/\(∀a b S,YZ .lt (.int a) (.int b) S=.ok (.bl<|ae<|a<b) S)/\(∀a b S,YZ .ge (.int a) (.int b) S=.ok (.bl<|ae<|b<=a) S)/\(∀a b S,Yx .sub (.int a) (.int b) S=.ok (.int<|a-b) S)/\(∀a b S,Yx .mod (.int a) (.int b) S=if 0<b then .ok (.int<|a%b) S else .no)/\(∀a b S,Yx .pow (.int a) (.int b) S=if 0<=b/\b<=1000/\a.natAbs<2^64 then .ok (.int<|a^b.toNat) S else .no)/\(∀S b,Yc S (.bl b)=aa b)/\(∀n S,Wf S (.loc n)=Yd S n)/\(∀i x S σ,assign [i] x S σ=aa (σ.set i<|aa x)):=
 ⟨λ_ _=>rfl,λ_ _ _=>rfl,λ_ _ _=>rfl,λ_ _ _=>rfl,λ_ _ _=>rfl,λ_ _ _=>rfl,λ_ _ _=>rfl,λ_ _ _=>rfl,λ_ _=>rfl,λ_ _=>rfl,λ_ _ _ _=>rfl⟩
def Zc3(h:Yd S n=aa xs):wW (.loc n) (.int i) S=ob (at' xs i) S:=by
 show(match Yd S n with|some xs=>ob (at' xs i) S|none=>.no)=_
 rw[h]
def Zcz(h1:evs C es σ S=.ok xs S1):ev C (.call f es) σ S=C f xs S1:=by
 rw[ev,h1];rfl
def uz(h:ev C e σ S=.ok x S'):runs C (.asg [k] e::ss) σ S=runs C ss (σ.set k<|aa x) S':=by
 rw[runs,run,h];rfl
def vS(h:run C s σ S=.ok (.nx σ') S'):runs C (s::ss) σ S=runs C ss σ' S':=by rw[runs,h];rfl
def vA :(S++[o])[S.length]?=aa o:=by rw[bj<|aB _,lV];rfl
noncomputable def WT:Fn:=⟨2,2,[.ite (.cmp .lt (.v 1)<|.blt .len [(.v 0)]) [.ret<|.ix (.v 0)<|.v 1] [],.ret<|.c<|.int 0]⟩
noncomputable def WE(c:Nat):Fn:=⟨2,3,[.asg [2]<|.call c [(.v 0),(.v 1)],.ite (.cmp .ge (.v 2)<|.bin .pow (.c<|.int 10)<|.c<|.int 18) [.ret<|.lst [(.bin .sub (.v 2)<|.bin .pow (.c<|.int 10)<|.c<|.int 18),(.c<|.bl ah)]] [],.ret<|.lst [(.bin .mod (.v 2)<|.c<|.int 2147483647),(.c<|.bl ai)]]⟩
variable{F:List Fn}{tk ca st L nn:Nat}{M:Int}{B:List Sm}
def Zb8(hC:F[ca]?=aa WT)(d:Nat)(hs:S[0]?=aa (.scr ns))(k0:0<=k):∃c,Zt F (d+1) ca [.loc 0,.int k] S=.ok (.int c) S:=by
 have h1:Yd S 0=aa (ns.map .int):=by unfold Yd;rw[hs]
 by_cases c:k<ns.length
 ·have hk:k.toNat<ns.length:=by omega
  refine⟨ns[k.toNat],?_⟩;simp[Ev.Zt,Ev.runs,Ev.run,evE,Ev.evs,Ev.evo,Ev.evt,Ev.tst,Ev.R.bind,Ev.ob,Ev.start,Ev.lim,hC,WT,evF,h1,c,Zc3 h1,at',ixN,k0,hk]
 ·refine⟨0,?_⟩
  simp[Ev.Zt,Ev.runs,Ev.run,evE,Ev.evs,Ev.evo,Ev.evt,Ev.tst,Ev.R.bind,Ev.ob,Ev.start,Ev.lim,hC,WT,evF,h1,c]
def Zbm(hC:F[ca]?=aa WT)(hS:F[st]?=aa (WE ca))(d:Nat)(hs:S[0]?=aa (.scr ns))(k0:0<=k):∃o s,Dw S.length (S++[o]) s/\Zt F (d+2) st [.loc 0,.int k] S=.ok (.loc S.length) (S++[o]):=by
 obtain⟨c,e⟩:=Zb8 hC d hs k0;rw[show d+2=(d+1)+1 from rfl,Zt]
 generalize Zt F (d+1)=C at e ⊢;by_cases h:10^18<=c
 ·refine⟨.lst [.int<|c-10^18,.bl ah],(c-10^18,ah),⟨vA,by omega,by simp⟩,?_⟩
  have h':(1000000000000000000:Int)<=c:=by simpa using h
  simp[Ev.Zt,Ev.runs,Ev.run,evE,Ev.evs,Ev.evo,Ev.evt,Ev.tst,Ev.R.bind,Ev.ob,Ev.start,Ev.lim,hS,WE,e,evF,h']
 ·refine⟨.lst [.int<|c%2147483647,.bl ai],(c%2147483647,ai),⟨vA,by omega,λ_=>by omega⟩,?_⟩
  have h':¬(1000000000000000000:Int)<=c:=by simpa using h
  simp[Ev.Zt,Ev.runs,Ev.run,evE,Ev.evs,Ev.evo,Ev.evt,Ev.tst,Ev.R.bind,Ev.ob,Ev.start,Ev.lim,hS,WE,e,evF,h']
theorem zo(P:Lc->Zc->Prop)(hst:∀σ S,P σ S->w.still S=ah):∀(xs:List D),(∀x∈xs,∀σ S,P σ S->∃σ' S',P σ' S'/\body x σ S=.ok (.nx σ') S')->∀σ S,P σ S->∃σ' S',P σ' S'/\XU w body xs σ S=.ok (.nx σ') S'
 |[],_,σ,S,h=>⟨σ,S,h,by rw[XU,T9<|hst σ S h]⟩
 |x::xs,hb,σ,S,h=>by
  obtain⟨σ1,S1,h1,e1⟩:=hb x (am ..) σ S h;obtain⟨σ2,S2,h2,e2⟩:=zo P hst xs (λy hy=>hb y<|al _ hy) σ1 S1 h1
  refine⟨σ2,S2,h2,?_⟩;rw[XU,T9<|hst σ S h,e1];exact e2
def uG(h:x∈ZO lo k):∃i,x=.int i/\lo<=i:=by
 obtain⟨j,_,e⟩:=aK.mp h;exact⟨_,e.symm,by omega⟩
def Kept(σ σ':Lc):Prop:=σ'[0]?=σ[0]?/\σ'.length=σ.length
theorem Kept.trans(h:Kept σ σ1)(h2:Kept σ1 σ2):Kept σ σ2:=⟨h2.1.trans h.1,h2.2.trans h.2⟩
theorem Kept.set(h:i≠0):Kept σ (σ.set i x):=⟨aH h,aT ..⟩
theorem Yn:∀{t:List Nat}{xs:List D}{σ σ':Lc},fill t xs σ=aa σ'->¬0∈t->Kept σ σ'
 |[],[],σ,σ',h,_=>by cases h;exact⟨rfl,rfl⟩
 |i::t,x::xs,σ,σ',h,h0=>(Kept.set λz=>h0<|by rw[z];exact am ..).trans (Yn h λz=>h0<|al _ z)
 |[],_::_,_,_,h,_=>by cases h
 |_::_,[],_,_,h,_=>by cases h
mutual
noncomputable def kp:Sm->Bool
 |.asg t _=>!t.contains 0
 |.par t _=>!t.contains 0
 |.aug i _ _=>!(i == 0)
 |.ite _ a b=>kps a&&kps b
 |.forr t _ b=>!t.contains 0&&kps b
 |.ret _=>ah
 |.ex _=>ah
 |.brk=>ah
 |.cnt=>ah
 |_=>ai
noncomputable def kps:List Sm->Bool
 |[]=>ah
 |m::l=>kp m&&kps l
end
def Kept.refl(σ:Lc):Kept σ σ:=⟨rfl,rfl⟩
def Wz(σ:Lc):Fl->Prop
 |.nx σ'|.brk σ'|.cnt σ'=>Kept σ σ'
 |.ret _=>True
def Wz.from(h:Kept σ σ1)(k:Wz σ1 f):Wz σ f:=by
 cases f with|ret d=>trivial|nx l=>exact h.trans k|brk l=>exact h.trans k|cnt l=>exact h.trans k
def Xk(h:assign t x S σ=aa σ')(h0:¬0∈t):Kept σ σ':=by
 unfold assign at h;split at h
 ·cases h
  exact Kept.set λz=>h0 (by simp[z])
 ·split at h
  ·exact Yn h h0
  ·split at h
   ·exact Yn h h0
   ·cases h
  ·cases h
theorem Qn(hb:∀x σ S f S',body x σ S=.ok f S'->Wz σ f):∀(xs:List D){σ:Lc}{S S':Zc}{f:Fl},XU w body xs σ S=.ok f S'->Wz σ f
 |[],σ,S,S',f,h=>by
  rw[XU]at h;split at h<;>cases h;exact Kept.refl _
 |x::xs,σ,S,S',f,h=>by
  rw[XU]at h;split at h
  ·cases q:body x σ S with
   |no=>rw[q]at h;cases h
   |ex c S1=>rw[q]at h;cases h
   |ok g S1=>
    have k:=hb x σ S g S1 q;rw[q]at h;cases g with|nx l=>exact Wz.from k<|Qn hb xs h|cnt l=>exact Wz.from k<|Qn hb xs h|brk l=>cases h;exact k|ret d=>cases h;trivial
  ·cases h
mutual
theorem ZdZ :∀(m:Sm){σ:Lc}{S S':Zc}{f:Fl},kp m=ah->run C m σ S=.ok f S'->Wz σ f
 |.asg t e,σ,S,S',f,h,r=>by
  unfold kp at h;rw[run]at r;cases q:ev C e σ S with
  |no=>rw[q]at r;cases r
  |ex c S1=>rw[q]at r;cases r
  |ok x S1=>
   rw[q]at r;replace r:((ob (assign t x S1 σ) S1).bind λσ S=>R.ok (Fl.nx σ) S)=.ok f S':=r
   cases q2:assign t x S1 σ with|none=>rw[q2]at r;cases r|some σ1=>rw[q2]at r;cases r;exact Xk q2 (by simpa using h)
 |.par t es,σ,S,S',f,h,r=>by
  unfold kp at h;rw[run]at r;cases q:evs C es σ S with
  |no=>rw[q]at r;cases r
  |ex c S1=>rw[q]at r;cases r
  |ok x S1=>
   rw[q]at r;replace r:((ob (fill t x σ) S1).bind λσ S=>R.ok (Fl.nx σ) S)=.ok f S':=r
   cases q2:fill t x σ with|none=>rw[q2]at r;cases r|some σ1=>rw[q2]at r;cases r;exact Yn q2 (by simpa using h)
 |.aug i op e,σ,S,S',f,h,r=>by
  unfold kp at h;rw[run]at r;cases q0:(σ[i]?).join with
  |none=>rw[q0]at r;cases r
  |some x0=>
  rw[q0]at r;replace r:((ev C e σ S).bind λy S=>(Jh op x0 y S).bind λz S=>R.ok (Fl.nx<|σ.set i<|aa z) S)=.ok f S':=r
  cases q:ev C e σ S with
  |no=>rw[q]at r;cases r
  |ex c S1=>rw[q]at r;cases r
  |ok x S1=>
   rw[q]at r;replace r:((Jh op x0 x S1).bind λz S=>R.ok (Fl.nx<|σ.set i<|aa z) S)=.ok f S':=r
   cases q2:Jh op x0 x S1 with|no=>rw[q2]at r;cases r|ex c S2=>rw[q2]at r;cases r|ok y S2=>rw[q2]at r;cases r;exact Kept.set (by simpa using h)
 |.ite t a b,σ,S,S',f,h,r=>by
  obtain⟨h1,h2⟩:=(aE _ _).mp h;rw[run]at r;cases q:tst C t σ S with
  |no=>rw[q]at r;cases r
  |ex c S1=>rw[q]at r;cases r
  |ok c S1=>
   rw[q]at r;cases c with|false=>exact VG b h2 (r)|true=>exact VG a h1 (r)
 |.forr t it b,σ,S,S',f,h,r=>by
  obtain⟨h1,h2⟩:=(aE _ _).mp h;rw[run]at r;cases q:evw C it σ S with
  |no=>rw[q]at r;cases r
  |ex c S1=>rw[q]at r;cases r
  |ok w S1=>
   rw[q]at r;refine Qn (λx σ S g S2 hr=>?_) w.items (r)
   cases q2:assign t x S σ with
   |none=>rw[q2]at hr;cases hr
   |some σ1=>
    rw[q2]at hr;exact Wz.from (Xk q2<|by simpa using h1) (VG b h2 (hr))
 |.ret e,σ,S,S',f,h,r=>by
  rw[run]at r;cases q:ev C e σ S with|no=>rw[q]at r;cases r|ex c S1=>rw[q]at r;cases r|ok x S1=>rw[q]at r;cases r;trivial
 |.ex e,σ,S,S',f,h,r=>by
  rw[run]at r;cases q:ev C e σ S with|no=>rw[q]at r;cases r|ex c S1=>rw[q]at r;cases r|ok x S1=>rw[q]at r;cases r;exact Kept.refl _
 |.brk,σ,S,S',f,h,r=>by rw[run]at r;cases r;exact Kept.refl _
 |.cnt,σ,S,S',f,h,r=>by rw[run]at r;cases r;exact Kept.refl _
 |.put ..,_,_,_,_,h,_|.whl ..,_,_,_,_,h,_|.raise ..,_,_,_,_,h,_|.mov ..,_,_,_,_,h,_=>by cases h
theorem VG :∀(l:List Sm){σ:Lc}{S S':Zc}{f:Fl},kps l=ah->runs C l σ S=.ok f S'->Wz σ f
 |[],σ,S,S',f,h,r=>by rw[runs]at r;cases r;exact Kept.refl _
 |m::l,σ,S,S',f,h,r=>by
  obtain⟨h1,h2⟩:=(aE _ _).mp h;rw[runs]at r;cases q:run C m σ S with
  |no=>rw[q]at r;cases r
  |ex c S1=>rw[q]at r;cases r
  |ok g S1=>
   have k:=ZdZ m h1 q;rw[q]at r;cases g with|nx l1=>exact Wz.from k<|VG l h2 (r)|ret d=>cases r;trivial|brk l1=>cases r;exact k|cnt l1=>cases r;exact k
end
def ZeX(l:List Sm)(h:kps l=ah)(r:runs C l σ S=.ok (.nx σ') S'):Kept σ σ':=VG l h r
def Q0(m:Nat)(ns:List Int)(σ:Lc)(S:Zc):Prop:=∃a1 a2 as,σ=aa (.loc 0)::a1::a2::as/\as.length=m/\S[0]?=aa (.scr ns)
end
end Lw
namespace Lw
open Ev Pv
section
variable{F:List Fn}{tk ca st L nn:Nat}{M:Int}{B:List Sm}
def z8(hT:F[tk]?=aa W8)(hC:F[ca]?=aa WT)(hS:F[st]?=aa (WE ca))(hk:kps B=ah)
  (hv:∀(k:Nat)(s:DS),∃ρ' os' s',rvs (ZL F tk<|d+2) [] B (ac::aa (.int k)::aa .drw::ar m ac) [] s=.ok (.nx ρ' os') s')
      (hx:∃i,x=.int i/\0<=i)(hq:Q0 m ns σ S):∃σ' S',(Q0 m ns σ' S'/\∃n s,n≠0/\Dw n S' s)/\(ob (assign [1] x S σ) S).bind (λσ S=>runs (Zt F<|d+2) (.asg [2] (.call st [(.v 0),(.v 1)])::B) σ S)=.ok (.nx σ') S':=by
 obtain⟨i,rfl,i0⟩:=hx;obtain⟨k,rfl⟩:∃k:Nat,i=k:=⟨i.toNat,by omega⟩
 obtain⟨a1,a2,as,rfl,hm,hs⟩:=hq;show ∃σ' S',(Q0 m ns σ' S'/\∃n s,n≠0/\Dw n S' s)/\runs (Zt F<|d+2) _ (aa (.loc 0)::aa (.int k)::a2::as) S=.ok (.nx σ') S';obtain⟨o,s,h1,e1⟩:=Zbm hC hS d hs i0;have n0:S.length≠0:=by have:=YJ hs;omega
 have s1:(S++[o])[0]?=aa (.scr ns):=by rw[aO<|YJ hs];exact hs
 rw[uz (S':=S++[o])<|by rw[Zcz rfl];exact e1]
 obtain⟨ρ',os',s',e2⟩:=hv k s;have hE:Eu (S++[o]) (· = S.length) S.length (S.length+1) (λ_=>ac) (ac::aa (.int k)::aa .drw::ar m ac) [] (aa (.loc 0)::aa (.int k)::aa (.loc S.length)::as):={
  xz:=rfl
  xb:=λn h=>by omega
  bs:=by simp
  len:=by simp[hm]
  osW:=λi=>rfl
  inj:=λi j n h=>by cases h
  pl:=λi n h=>by cases h
  own:=λi n h=>by cases h
  val:=λi v h _=>by
   match i,h with
   |0,h=>cases h
   |1,h=>cases h;exact⟨_,rfl,by rfl⟩
   |2,h=>cases h;exact⟨_,rfl,by rfl⟩
   |i+3,h=>
    have h:(ar m (ac:Option V))[i]?=aa (aa v):=h;rw[bI]at h;split at h<;>cases h}
 have hS:=Uj (Qo hT<|d+2) [] B hE h1;rw[e2]at hS;obtain⟨g,S',e3,x3,w3,f3⟩:=hS;cases g with
 |nx σ'=>
  refine⟨σ',S',?_,e3⟩;have hl:=ZeX B hk e3;have hlen:σ'.length=m+3:=by rw[hl.2];simp[hm]
  replace hl:σ'[0]?=aa (aa<|.loc 0):=hl.1
  match σ',hlen,hl with
  |b0::b1::b2::bs,hlen,hl=>
   cases hl;exact⟨⟨b1,b2,bs,rfl,by simpa using hlen,x3.keep 0 _ (Ne.symm n0) (λi h=>by cases h) s1⟩,S.length,s',n0,w3⟩
 |ret v=>exact f3.elim
 |brk v=>exact f3.elim
 |cnt v=>exact f3.elim
def ZaN(hT:F[tk]?=aa W8)(hC:F[ca]?=aa WT)(hS:F[st]?=aa (WE ca))(hk:kps B=ah)(hM:1<=M/\M<1000)
  (hv:∀(k:Nat)(s:DS),∃ρ' os' s',rvs (ZL F tk<|d+2) [] B (ac::aa (.int k)::aa .drw::ar m ac) [] s=.ok (.nx ρ' os') s')
  (he:∀s:DS,∃s',rvs (ZL F tk<|d+2) [] [.ret e] (ar (m+3) ac) [] s=.ok (.ret<|.bl ah) s')
    (hs:S[0]?=aa (.scr ns)):∃S',runs (Zt F<|d+2) [.forr [1] (.rng1<|.blt .max2 [(.c<|.int 1),(.blt .min2 [(.blt .len [(.v 0)]),(.c<|.int M)])]) (.asg [2] (.call st [(.v 0),(.v 1)])::B),.ret e] (aa (.loc 0)::ac::ac::ar m ac) S=.ok (.ret<|.bl ah) S':=by
 have h1:Yd S 0=aa (ns.map .int):=by unfold Yd;rw[hs]
 let k:Int:=if(if M<(ns.length:Int)then M else ns.length)>1 then(if M<(ns.length:Int)then M else ns.length)else 1
 have hk2:Uh k=ah:=ya (by simp only[k];split<;>split<;>omega) (by simp only[k];split<;>split<;>omega)
 have hk3:1<=k:=by simp only[k];split<;>omega
 obtain⟨j,hj⟩:∃j,k.toNat=j+1:=⟨k.toNat-1,by omega⟩
 have hr:ZO 0 k.toNat=.int 0::(aR j).map λ(i:Nat)=>D.int (0+((i+1:Nat):Int)):=by
  unfold ZO;rw[hj,fI,aU,bE];rfl
 have hmem:∀x∈ZO 0 k.toNat,∃i,x=.int i/\0<=i:=λx hx=>uG hx
 obtain⟨σa,Sa,⟨hqa,hda⟩,ea⟩:=z8 hT hC hS hk hv (hmem (.int 0)<|by rw[hr];simp) (show Q0 m ns (aa (.loc 0)::ac::ac::ar m ac) S from⟨_,_,_,rfl,by simp,hs⟩)
 obtain⟨σ1,S1,⟨hq1,n1,s1,hn1,hd1⟩,e1⟩:=zo (w:=⟨ZO 0 k.toNat,[]⟩) (λσ S=>Q0 m ns σ S/\∃n s,n≠0/\Dw n S s) (λ_ _ _=>rfl) ((aR j).map λ(i:Nat)=>D.int<|0+((i+1:Nat):Int)) (λx hx σ S hq=>z8 hT hC hS hk hv (hmem x<|by rw[hr];exact al _ hx) hq.1) σa Sa ⟨hqa,hda⟩
 have e1:XU ⟨ZO 0 k.toNat,[]⟩ (λx σ S=>(ob (assign [1] x S σ) S).bind λσ S=>runs (Zt F<|d+2) (.asg [2] (.call st [(.v 0),(.v 1)])::B) σ S) (ZO 0 k.toNat) (aa (.loc 0)::ac::ac::ar m ac) S=.ok (.nx σ1) S1:=by
  rw[show XU ⟨ZO 0 k.toNat,[]⟩ (λx σ S=>(ob (assign [1] x S σ) S).bind λσ S=>runs (Zt F<|d+2) (.asg [2] (.call st [(.v 0),(.v 1)])::B) σ S) (ZO 0 k.toNat)=XU ⟨ZO 0 k.toNat,[]⟩ (λx σ S=>(ob (assign [1] x S σ) S).bind λσ S=>runs (Zt F<|d+2) (.asg [2] (.call st [(.v 0),(.v 1)])::B) σ S) (.int 0::(aR j).map λ(i:Nat)=>D.int<|0+((i+1:Nat):Int))from congrArg _ hr]
  rw[XU,T9<|by rfl,ea]
  exact e1
 obtain⟨a1,a2,as,rfl,hm,hs1⟩:=hq1;obtain⟨s2,e2⟩:=he s1;have hE:Eu S1 (· = n1) n1 S1.length (λ_=>ac) (ar (m+3) ac) [] (aa (.loc 0)::a1::a2::as):={
  xz:=rfl
  xb:=λn h=>by rw[h];exact YJ hd1.1
  bs:=aB _
  len:=by simp[hm]
  osW:=λi=>rfl
  inj:=λi j n h=>by cases h
  pl:=λi n h=>by cases h
  own:=λi n h=>by cases h
  val:=λi v h _=>by
   rw[bI]at h;split at h<;>cases h}
 have hSi:=Uj (Qo hT<|d+2) [] [.ret e] hE hd1;rw[e2]at hSi;obtain⟨g,S',e3,x3,w3,f3⟩:=hSi;cases g with
 |nx v=>exact f3.elim
 |brk v=>exact f3.elim
 |cnt v=>exact f3.elim
 |ret v=>
 have hvv:v=.bl ah:=by
  have f3:=f3;exact f3
 subst hvv;refine⟨S',?_⟩;have er:ev (Zt F<|d+2) (.blt .max2 [(.c<|.int 1),(.blt .min2 [(.blt .len [(.v 0)]),(.c<|.int M)])]) (aa (.loc 0)::ac::ac::ar m ac) S=.ok (.int k) S:=by
  simp[Ev.Zt,Ev.runs,Ev.run,evE,Ev.evs,Ev.evo,Ev.evt,Ev.tst,Ev.R.bind,Ev.ob,Ev.start,Ev.lim,evF,h1,k]
 have ew:evw (Zt F<|d+2) (.rng1<|.blt .max2 [(.c<|.int 1),(.blt .min2 [(.blt .len [(.v 0)]),(.c<|.int M)])]) (aa (.loc 0)::ac::ac::ar m ac) S=.ok ⟨ZO 0 k.toNat,[]⟩ S:=by
  rw[evw,er];show(if Uh k=ah then _ else _)=_
  rw[T9 hk2]
 rw[vS (σ':=aa (.loc 0)::a1::a2::as) (S':=S1)<|by rw[run,ew];exact e1,e3]
def Zc9(hT:F[tk]?=aa W8)(hC:F[ca]?=aa WT)(hS:F[st]?=aa (WE ca))(hL:F[L]?=aa ⟨1,m+3,[pre,.forr [1] (.rng1<|.blt .max2 [(.c<|.int 1),(.blt .min2 [(.blt .len [(.v 0)]),(.c<|.int M)])]) (.asg [2] (.call st [(.v 0),(.v 1)])::B),.ret e]⟩)(hk:kps B=ah)(hM:1<=M/\M<1000)
  (hv:∀(k:Nat)(s:DS),∃ρ' os' s',rvs (ZL F tk<|d+2) [] B (ac::aa (.int k)::aa .drw::ar m ac) [] s=.ok (.nx ρ' os') s')
  (he:∀s:DS,∃s',rvs (ZL F tk<|d+2) [] [.ret e] (ar (m+3) ac) [] s=.ok (.ret<|.bl ah) s')
   (hp:∃S1,run (Zt F<|d+2) pre (aa (.loc 0)::ac::ac::ar m ac) [.scr ns]=.ok (.nx (aa (.loc 0)::ac::ac::ar m ac)) (.scr ns::S1)):∃S',Zt F (d+3) L [.loc 0] [.scr ns]=.ok (.bl ah) S':=by
 obtain⟨S1,h1⟩:=hp;obtain⟨S',h⟩:=ZaN hT hC hS hk hM hv he (S:=.scr ns::S1) rfl;refine⟨S',?_⟩;rw[show d+3=(d+2)+1 from rfl,Zt,hL]
 show(runs (Zt F<|d+2) _ (aa (.loc 0)::ac::ac::ar m ac) [.scr ns]).bind _=_;rw[vS h1,h];rfl
end
end Lw
namespace K21
open Ev Pv Rw La
def qC(r:Row):V.flat (Zd r)=ah:=X8 r
theorem Je:∀L:List Row,ZP (L.map Zd)=ah
 |[]=>rfl
 |r::L=>by
  show(V.flat (Zd r)&&ZP (L.map Zd))=ah;rw[qC,Je L];rfl
def Zf1(h:Nat):(ar h [V.int 0]).flatten=(ar h (0:Int)).map V.int:=by
 induction h with|zero=>rfl|succ k ih=>rw[bD,bV,ih];rfl
theorem zI:∀L:List Row,XE (L.map λr=>V.tup [Zd r,.bl ah])=aa L
 |[]=>rfl
 |r::L=>by
  show((intsV<|r.map V.int).bind λa=>(XE<|L.map λr=>V.tup [Zd r,.bl ah]).map (a :: ·))=_
  rw[YW,zI L];rfl
section
variable{p n:Nat}[Base p]
noncomputable def wm:List Sm:=[.asg [4]<|.lst [],
  .forr [5] (.rng1<|.ix (.v 0)<|.c<|.int 0) [.ex<|.mt .extend (.v 4) [(.comp1 [0,3,5] 1 [0] (.of<|.v 2) []<|.call 26 [(.v 1),(.v 0),(.v 2),(.v 3)])]],
  .mov 2 4]
def uy(d:Nat){L:List Row}{o:Row}{v:V}{a5:Option V}(s:DS)(hn:n<=6)(hL:∀r∈L,Zj p n r)(ho:Zj p n o)(hl:L.length<=15625):∃b5,rvs (CV<|d+1) [4] wm [aa<|spV p n,aa v,aa<|.lst<|L.map Zd,aa<|Zd o,ac,a5] [] s=.ok (.nx [aa<|spV p n,aa v,aa<|.lst<|(Wh p L o).map Zd,aa<|Zd o,ac,b5] []) s:=by
 have hp:=VZ (p:=p);unfold wm;obtain⟨o5,_,e5⟩:=ZcN (C:=CV<|d+1) (ms:=[4]) (t:=[5]) (it:=.rng1<|.ix (.v 0)<|.c<|.int 0) (b:=[.ex<|.mt .extend (.v 4) [(.comp1 [0,3,5] 1 [0] (.of<|.v 2) []<|.call 26 [(.v 1),(.v 0),(.v 2),(.v 3)])]]) (e:=Zv) (step:=λ(acc:List Row) (k:Nat)=>acc++L.map λr=>ZT p r o (k:Int)) (ρ:=λacc x=>[aa<|spV p n,aa v,aa<|.lst<|L.map Zd,aa<|Zd o,aa<|.lst<|acc.map Zd,x]) (st:=[]) (o:=a5) (os:=[4]) (s:=s)
  (λl acc=>(∀k∈l,k<5)/\acc.length+l.length*L.length<=100000) (by
   exact X5 (ix0 rfl)<|by omega) ⟨λk hk=>by have:=bw.mp hk;omega,by
    rw[bW,gn];have:p*L.length<=5*15625:=gX (by omega) hl
    omega⟩ rfl (λk l acc x hI=>by
   obtain⟨h1,h2⟩:=hI;rw[aP,Nat.succ_mul]at h2;have hk:=h1 k<|am ..;refine⟨⟨λq hq=>h1 q<|al _ hq,by rw[bn,aF];omega⟩,rfl,[aa<|spV p n,aa v,aa<|.lst<|L.map Zd,aa<|Zd o,aa<|.lst<|acc.map Zd,aa<|Zv k],aa<|Zv k,rfl,?_⟩
   have hc:=ZG (cap:=[0,3,5]) (nl:=1) (t:=[0]) (it:=.of<|.v 2) (elt:=.call 26 [(.v 1),(.v 0),(.v 2),(.v 3)]) (ρ:=[aa<|spV p n,aa v,aa<|.lst<|L.map Zd,aa<|Zd o,ac,aa<|Zv k]) (s:=s) (l:=L) (e:=Zd)
    (by rw[pvw,Zh rfl];rfl) (by unfold lim;omega) (λr hr=>⟨[aa<|Zd r,aa<|spV p n,aa<|Zd o,aa<|Zv k],rfl,Zk (Za (Zh rfl)<|Za (Zh rfl)<|Za (Zh rfl)<|Za (Zh (v:=.int k) rfl) Zf)<|ze d s hn (hL r hr) ho ⟨by omega,by omega⟩⟩)
   have hm:(L.map λr=>Zd<|ZT p r o (k:Int))=(L.map λr=>ZT p r o (k:Int)).map Zd:=by rw[bE];rfl
   rw[hm]at hc;rw[Zi (ρ':=[aa<|spV p n,aa v,aa<|.lst<|L.map Zd,aa<|Zd o,aa<|.lst<|(acc++L.map λr=>ZT p r o (k:Int)).map Zd,aa<|Zv k]) (os':=[4]) (s':=s) (by
    rw[rv];show(if ah=ah then((PR.ok (acc.map Zd) s).bind λxs s=>(pv (CV<|d+1) _ [aa<|spV p n,aa v,aa<|.lst<|L.map Zd,aa<|Zd o,ac,aa<|Zv k] s).bind _)else _)=_
    rw[T9 rfl,Zb,hc,Zb];show(if ZP ((L.map λr=>ZT p r o (k:Int)).map Zd)=ah/\_<=lim then _ else _)=_
    rw[T9 ⟨Je _,by rw[aF,aF,aF];unfold lim;omega⟩,dH]
    rfl),rvs])
 have hfold:∀(l:List Nat)(acc:List Row),l.foldl (λ(acc:List Row) (k:Nat)=>acc++L.map λr=>ZT p r o (k:Int)) acc=acc++l.flatMap λ(k:Nat)=>L.map λr=>ZT p r o (k:Int):=λl=>by
  induction l with|nil=>intro acc;simp|cons r l ih=>intro acc;rw[ei,ih,List.flatMap_cons,eE]
 rw[hfold,fm]at e5;refine⟨o5,?_⟩;rw[Zi (ρ':=[aa<|spV p n,aa v,aa<|.lst<|L.map Zd,aa<|Zd o,aa<|.lst<|([]:List Row).map Zd,a5]) (os':=[4]) (s':=s)<|by simp[pvE,ZP],Zi e5]
 rw[Zi (ρ':=[aa<|spV p n,aa v,aa<|.lst<|(Wh p L o).map Zd,aa<|Zd o,ac,o5]) (os':=[]) (s':=s)<|by rw[rv];rfl,rvs]
def zM(d:Nat){P:List Row}(s:DS)(hn:n<=6)(hP:pZ p n P)(hl:p^n<=1000):CV (d+2) 31 [spV p n,Ze P] s=.ok (.dct<|aa<|Yg p n P) s:=by
 have hp:=VZ (p:=p);refine Zs rfl (by decide) rfl ?_
 show rvs (CV<|d+1) [4] (.asg [2] (.lst [(.bin .mul (.tup [(.c<|.int 0)])<|.ix (.v 0)<|.c<|.int 1)]) :: .forr [3] (.of<|.v 1) wm :: .ret (.blt .dictP [(.comp1 [] 1 [0] (.of<|.v 2) []<|.tup [(.v 0),(.c<|.bl ah)])])::[]) [aa<|spV p n,aa<|Ze P,ac,ac,ac,ac] [] s=_;have z0:pv (CV<|d+1) (.lst [(.bin .mul (.tup [(.c<|.int 0)])<|.ix (.v 0)<|.c<|.int 1)]) [aa<|spV p n,aa<|Ze P,ac,ac,ac,ac] s=.ok (.lst<|[ar n 0].map Zd) s:=by
  have g:pv (CV<|d+1) (.bin .mul (.tup [(.c<|.int 0)])<|.ix (.v 0)<|.c<|.int 1) [aa<|spV p n,aa<|Ze P,ac,ac,ac,ac] s=.ok (Zd<|ar n 0) s:=by
   rw[pv,X4 Yo,Zb,ix1 (p:=p) (n:=n) rfl,Zb];show(if(0:Int)<=n/\(n:Int)<1000/\1<=1000 then PR.ok (V.tup (ar (n:Int).toNat [V.int 0]).flatten) s else .no)=_
   rw[T9 ⟨by omega,by omega,by omega⟩,cT]
   rw[Zf1];rfl
  rw[pv,Za g Zf];rfl
 rw[Zi<|ZZ z0 rfl];show rvs _ _ _ [aa<|spV p n,aa<|Ze P,aa<|.lst<|[ar n 0].map Zd,ac,ac,ac] [] s=_;have hpow:∀(l:List Row)(k:Nat),k+l.length=P.length->p^k*p^l.length<=1000:=λl k h=>by
  rw[<-Nat.pow_add,h];exact bh (dP (by omega)<|dsum hP) hl
 obtain⟨ρ',⟨L,a3,a5,rfl,hL,_⟩,e⟩:=ub (C:=CV<|d+1) (ms:=[4]) (t:=[3]) (it:=.of<|.v 1) (b:=wm) (L:=P) (e:=Zd) (os:=[]) (s:=s)
  (λl ρ=>∃(L:List Row)(a3 a5:Option V),ρ=[aa<|spV p n,aa<|Ze P,aa<|.lst<|L.map Zd,a3,ac,a5]/\l.foldl (Wh p) L=Yg p n P/\(∀r∈L,Zj p n r)/\(∀r∈l,Zj p n r)/\∃k,k+l.length=P.length/\L.length=p^k)
  (by rw[pvw];rw[Zh rfl];rfl)
  ⟨[ar n 0],ac,ac,rfl,rfl,λr hr=>by
   rw[bt.mp hr];exact⟨b9,λa ha=>by rw[fk ha];omega⟩,λr hr=>hP.row r hr,0,by omega,by simp⟩ rfl (λr l ρ hI=>by
   obtain⟨L,a3,a5,rfl,h1,h2,h3,k,h4,h5⟩:=hI;have hr:=h3 r<|am ..;rw[aP]at h4;have hz:=hpow l (k+1) (by omega)
   have hL1:L.length<=1000:=by
    rw[h5];have:=hpow (r::l) k (by rw[aP];omega)
    have h0:0<p^(r::l).length:=Nat.pow_pos (by omega)
    exact bh (Nat.le_mul_of_pos_right _ h0) this
   obtain⟨b5,e1⟩:=uy (p:=p) (n:=n) d (L:=L) (o:=r) (a5:=a5) s hn h2 hr (by omega)
   refine⟨by rfl,_,_,rfl,e1,Wh p L r,_,b5,rfl,h1,Jj h2 hr,λq hq=>h3 q<|al _ hq,k+1,by omega,?_⟩
   rw[JD,h5,Nat.pow_succ])
 rw[Zi e];rw[List.foldl_nil]at hL;subst hL;have hlen:(Yg p n P).length<=1000:=by
  rw[zZ];exact bh (dP (by omega)<|dsum hP) hl
 have hc:=ZG (C:=CV<|d+1) (cap:=[]) (nl:=1) (t:=[0]) (it:=.of<|.v 2) (elt:=.tup [(.v 0),(.c<|.bl ah)]) (ρ:=[aa<|spV p n,aa<|Ze P,aa<|.lst<|(Yg p n P).map Zd,a3,ac,a5]) (s:=s) (e:=Zd)
  (by rw[pvw,Zh rfl];rfl) (by unfold lim;omega) (λr hr=>⟨[aa<|Zd r],rfl,by
   rw[pv,Za (Zh rfl)<|Za (by rw[pv];rfl) Zf];rfl⟩)
 refine Zl<|ZH ?_;rw[pv,Za hc Zf,Zb];show po ((XE<|(Yg p n P).map λr=>V.tup [Zd r,.bl ah]).bind λks=>if We ks=ah then aa (V.dct<|aa ks)else ac) s=_
 rw[zI];show po (if We (Yg p n P)=ah then aa (V.dct<|aa<|Yg p n P)else ac) s=_
 rw[T9 (by
  unfold We;rw[aE,T2,T2];exact⟨by unfold lim;omega,Zdd hP⟩)];rfl
def Zbo(d:Nat)(a:Int)(s:DS):CV (d+1) 32 [.int a,.int a] s=.ok (.bl ah) s:=by
 refine Zs rfl (by decide) rfl ?_
 simp[Wm,pvE,Z4,Xg,WZ,eqV,Zo]
def zY(d:Nat){α:Type}{f:α->V}{l:List α}(s:DS)(hl:l.length<=1000)(h:∀x∈l,CV d 32 [f x,f x] s=.ok (.bl ah) s):CV (d+1) 32 [.tup<|l.map f,.tup<|l.map f] s=.ok (.bl ah) s:=by
 refine Zs rfl (by decide) rfl ?_
 dsimp only[Wm]
 refine Zl ?_;have hz:((l.map f).zip<|l.map f).map (λq=>V.tup [q.1,q.2])=l.map λx=>V.tup [f x,f x]:=by
  clear h hl
  induction l with|nil=>rfl|cons x l ih=>rw[aU,cP,aU,ih];rfl
 have hc:=ZG (cap:=[]) (nl:=2) (t:=[0,1]) (it:=.zip (.v 0)<|.v 1) (elt:=.call 32 [(.v 0),(.v 1)]) (ρ:=[aa<|.tup<|l.map f,aa<|.tup<|l.map f])
  (by
   rw[pvw,Zh rfl,Zb,Zh rfl,Zb];show PR.ok (((l.map f).zip<|l.map f).map λq=>V.tup [q.1,q.2]) s=_
   rw[hz]) (by unfold lim;omega) (λx hx=>⟨_,rfl,Zk (Za (Zh rfl)<|Za (Zh rfl) Zf)<|h x hx⟩)
 have ht:=Yp (g:=λ_:α=>ah) l
 have ha:(l.map λ_=>ah).all id=ah:=by induction l<;>simp
 simp[pvE,Z4,Xg,WZ,eqV,Zo,hc,ht,ha]
def Q5(d:Nat){P:List Row}(s:DS)(hn:n<=6)(hP:pZ p n P):CV (d+3) 32 [Ze P,Ze P] s=.ok (.bl ah) s:=
 zY (d+2) s (by have:=dsum hP;omega) λr hr=>zY (d+1) s (by rw[(hP.row r hr).1];omega) λa _=>Zbo d a s
def JC(d:Nat){P Q:List Row}(s:DS)(hn:n<=6)(hP:pZ p n P)(hQ:pZ p n Q)(hl:p^n<=500):CV (d+9) 33 [spV p n,Ze P,Ze Q] s=.ok (.bl ah) s:=by
 have hp:=VZ (p:=p);refine Zs rfl (by decide) rfl ?_
 let ρ (a3 a4 a5:Option V):Env:=[aa<|spV p n,aa<|Ze P,aa<|Ze Q,a3,a4,a5]
 show rvs (CV<|d+8) [] XZ.body (ρ ac ac ac) [] s=_
 dsimp only[XZ]
 have e3:pv (CV<|d+8) (.call 31 [(.v 0),(.v 2)]) (ρ ac ac ac) s=.ok (.dct<|aa<|Yg p n Q) s:=Zk (Za (Zh rfl)<|Za (Zh rfl) Zf)<|zM (d+6) s hn hQ<|by omega
 rw[Zi<|ZZ e3 rfl];show rvs _ _ _ (ρ (aa<|.dct<|aa<|Yg p n Q) ac ac) [] s=_;have hlen:(Yg p n P).length<=500:=by
  rw[zZ];exact bh (dP (by omega)<|dsum hP) hl
 have hc:=YG (C:=CV<|d+8) (cap:=[3]) (nl:=1) (t:=[0]) (it:=.dk<|.call 31 [(.v 0),(.v 1)]) (tst:=.cmp .inn (.v 0)<|.v 1) (elt:=.v 0) (ρ:=ρ (aa<|.dct<|aa<|Yg p n Q) ac ac) (s:=s) (e:=Zd) (g:=Zd)
  (by rw[pvw,Zk (Za (Zh (v:=spV p n) rfl)<|Za (Zh (v:=Ze P) rfl) Zf)<|zM (d+6) s hn hP<|by omega];rfl) (by unfold lim;omega) (λr hr=>⟨[aa<|Zd r,aa<|.dct<|aa<|Yg p n Q],.bl<|(Yg p n Q).contains r,rfl,by
   rw[pv,Zh (v:=Zd r) rfl,Zb,Zh rfl,Zb];show po (((intsV<|r.map V.int).map λk=>(Yg p n Q).contains k).map V.bl) s=_
   rw[YW];rfl,rfl,λ_=>Zh rfl⟩)
 rw[Zi<|ZZ hc rfl];show rvs _ _ _ (ρ (aa<|.dct<|aa<|Yg p n Q) (aa<|.lst<|(U3 p n P Q).map Zd) ac) [] s=_;have hb:(U3 p n P Q).length<=1000:=bh (eD ..) (by omega)
 have hPl:=dsum hP;have hQl:=dsum hQ;have hPQ:∀r∈P++Q,Zj p n r:=λr hr=>by
  rcases bN.mp hr with z|z
  ·exact hP.row r z
  ·exact hQ.row r z
 obtain⟨J,j1,hJ⟩:=Xj (p:=p) (n:=n) (d+6) (R:=P++Q) (v:=Ze<|P++Q) s hn hPQ (by rw[bn];omega) rfl
 obtain rfl:=hJ.uniq<|yJ hP hQ;obtain⟨M,m1,hM⟩:=Xj (p:=p) (n:=n) (d+6) (v:=.lst<|(U3 p n P Q).map Zd) s hn (λr hr=>((UR hP).mp (bM.mp hr).1).1) hb rfl
 obtain rfl:=hM.uniq<|xD hP hQ
 let B:List Sm:=[.ite (.not<|.call 32 [(.call 20 [(.v 0),(.v 1),(.v 2)]),(.call 27 [(.v 0),(.bin .add (.v 1)<|.v 2)])]) [.ret<|.c<|.bl ai] [],
  .ite (.not<|.call 32 [(.call 25 [(.v 0),(.v 1),(.v 2)]),(.call 27 [(.v 0),(.v 4)])]) [.ret<|.c<|.bl ai] []]
 obtain⟨_,g1⟩:=wU (C:=CV<|d+8) (ms:=[]) (s:=s) (i:=5) (it:=.rng1<|.c<|.int 2) (b:=B) (e:=Zv) (q:=λ_=>ai) (v:=.bl ai) ac
  (X5 Yo<|by decide) (λ_ _=>rfl) (λx _=>by
   have a1:pv (CV<|d+8) (.bin .add (.v 1)<|.v 2) (ρ (aa<|.dct<|aa<|Yg p n Q) (aa<|.lst<|(U3 p n P Q).map Zd)<|aa<|Zv x) s=.ok (Ze<|P++Q) s:=by
    rw[XM (Zh rfl) (Zh rfl)<|by rw[aF,aF];omega,<-dH];rfl
   rw[T8<|by simp,guard<|Wd<|Zk (Za (Zk (Za (Zh rfl)<|Za (Zh rfl)<|Za (Zh rfl) Zf)<|joined (d+2) s hn hP hQ)<|Za (Zk (Za (Zh rfl)<|Za a1 Zf) j1) Zf)<|Q5 (p:=p) (n:=n) (d+5) s hn<|pJ hP hQ,
    guard (Wd<|Zk (Za (Zk (Za (Zh rfl)<|Za (Zh rfl)<|Za (Zh rfl) Zf)<|met d s hn hP hQ)<|Za (Zk (Za (Zh rfl)<|Za (Zh rfl) Zf) m1) Zf)<|Q5 (p:=p) (n:=n) (d+5) s hn<|pM hP hQ),rvs])
 obtain⟨o5,g1⟩:=g1 rfl;rw[Zi g1];exact Zl<|ZH<|by rw[pv];rfl
end
section
variable{p n:Nat}[Base p]
def Ud(d:Nat){x y:V}(s:DS)(hn:n<=6)(hx:Th 1000 x)(hy:Th 1000 y):CV (d+5) 12 [spV p n,x,y] s=if isP p n x=ah/\isP p n y=ah then .ok .non s else .ex 2 s:=by
 have e1:=W6 (p:=p) d s hn hx.1 hx.2;have e2:=W6 (p:=p) d s hn hy.1 hy.2;have g:∀{v:V}{i:Nat},([aa<|spV p n,aa x,aa y]:Env)[i]?=aa (aa v)->CV (d+4) 11 [spV p n,v] s=.ok .non s->rv (CV<|d+4) [] (.ex<|.call 11 [(.v 0),(.v i)]) [aa<|spV p n,aa x,aa y] [] s=.ok (.nx [aa<|spV p n,aa x,aa y] []) s:=λ{v i} h e=>by
  rw[rv]
  ·rw[Zk (Za (Zh rfl)<|Za (Zh h) Zf) e];rfl
  all_goals(intro i e z;cases z)
 cases h1:isP p n x with
 |false=>
  rw[h1,T8<|by simp]at e1
  rw[T8<|by simp]
  refine Vn rfl (by decide) rfl ?_
  dsimp only[Z7]
  exact Go (G8<|Wk (Za (Zh rfl)<|Za (Zh rfl) Zf) e1)
 |true=>
  rw[h1,T9 rfl]at e1;cases h2:isP p n y with
  |false=>
   rw[h2,T8<|by simp]at e2
   rw[T8<|by simp]
   refine Vn rfl (by decide) rfl ?_
   show rvs (CV<|d+4) [] Z7.body [aa<|spV p n,aa x,aa y] [] s=_
   dsimp only[Z7]
   rw[Zi<|g rfl e1];exact Go (G8<|Wk (Za (Zh rfl)<|Za (Zh rfl) Zf) e2)
  |true=>
   rw[h2,T9 rfl]at e2;rw[T9 ⟨rfl,rfl⟩];refine UG (ρ:=[aa<|spV p n,aa x,aa y]) (os:=[]) rfl (by decide) rfl ?_
   show rvs (CV<|d+4) [] Z7.body [aa<|spV p n,aa x,aa y] [] s=_
   dsimp only[Z7]
   rw[Zi<|g rfl e1,Zi<|g rfl e2,rvs]
def ZbZ(d:Nat){x y:V}(s:DS)(hn:n<=6)(hx:Th 1000 x)(hy:Th 1000 y)(h:¬(isP p n x=ah/\isP p n y=ah)):CV (d+6) 20 [spV p n,x,y] s=.ex 2 s:=by
 have e:=Ud (p:=p) d s hn hx hy;rw[T8 h]at e;refine Vn rfl (by decide) rfl ?_
 dsimp only[yn]
 exact Go<|G8<|Wk (Za (Zh rfl)<|Za (Zh rfl)<|Za (Zh rfl) Zf) e
def Zgd(d:Nat){x y:V}(s:DS)(hn:n<=6)(hx:Th 1000 x)(hy:Th 1000 y)(h:¬(isP p n x=ah/\isP p n y=ah)):CV (d+6) 25 [spV p n,x,y] s=.ex 2 s:=by
 have e:=Ud (p:=p) d s hn hx hy;rw[T8 h]at e;refine Vn rfl (by decide) rfl ?_
 dsimp only[Zde]
 exact Go<|G8<|Wk (Za (Zh rfl)<|Za (Zh rfl)<|Za (Zh rfl) Zf) e
end
def Zc8{C:Zy}{ρ:Env}{s s':DS}{e:E}{w:Bool}{v:V}(h:pv C e ρ s=.ok v s'):pv C (.refu w e) ρ s=.ok .non s':=by rw[pv,h]
def Zcn{C:Zy}{ρ:Env}{s s':DS}{e:E}{w:Bool}{c:Nat}(h:pv C e ρ s=.ex c s')(hc:1<=c/\c<=10):pv C (.refu w e) ρ s=.ok (Zft w<|c-1) s':=by
 rw[pv,h];show(if 1<=c/\c<=10 then _ else _)=_
 rw[T9 hc]
def ne_str{C:Zy}{ρ:Env}{s:DS}{a b:E}{x:PySem.Str}(h1:pv C a ρ s=.ok (.str x) s)(h2:pv C b ρ s=.ok (.str x) s):pv C (.cmp .ne a b) ρ s=.ok (.bl ai) s:=by
 rw[pv,h1,Zb,h2,Zb];show po (aa<|V.bl !(ae<|x=x)) s=_;rw[T5 rfl];rfl
def Zfs{C:Zy}{ρ:Env}{s:DS}{a b:E}{x y:Bool}(h1:pv C a ρ s=.ok (.bl x) s)(h2:pv C b ρ s=.ok (.bl y) s):pv C (.or a b) ρ s=.ok (.bl (x||y)) s:=by
 rw[pv,h1];cases x
 ·exact h2
 ·rfl
noncomputable def thB:List Sm:=[.asg [10]<|.ix (.lst [(.c .non),(.c<|.str<|bp "part")])<|.blt .toInt [(.or (.not<|.call 37 [(.v 3),(.v 8)])<|.not<|.call 37 [(.v 3),(.v 9)])],
  .ite (.cmp .ne (.refu ah<|.call 20 [(.v 3),(.v 8),(.v 9)])<|.v 10) [.ret<|.c<|.bl ai] [],
  .ite (.cmp .ne (.refu ah<|.call 25 [(.v 3),(.v 8),(.v 9)])<|.v 10) [.ret<|.c<|.bl ai] []]
noncomputable def Zdz:List Sm:=[.asg [3]<|.call 3 [(.v 2),(.ix (.lst [(.c<|.int 27),(.c<|.int 125)])<|.blt .toInt [(.cmp .eq (.v 1)<|.c<|.int 0)])],
  .par [4,5] [(.call 29 [(.v 2),(.v 3)]),(.call 29 [(.v 2),(.v 3)])],
  .ite (.or (.not<|.call 33 [(.v 3),(.v 4),(.v 5)])<|.not<|.call 33 [(.v 3),(.v 5),(.v 4)]) [.ret<|.c<|.bl ai] [],
  .par [6,7] [(.call 30 [(.v 2),(.v 3),(.v 4)]),(.ix (.lst [(.call 30 [(.v 2),(.v 3),(.v 5)]),(.call 34 [(.v 2)])])<|.call 2 [(.v 2),(.c<|.int 2)])],
  .forr [8,9] (.of<|.lst [(.tup [(.v 6),(.v 5)]),(.tup [(.v 4),(.v 7)]),(.tup [(.v 6),(.v 7)]),(.tup [(.v 7),(.v 6)])]) thB]
section
variable{p n:Nat}[Base p]
def ZeA(d:Nat){x y:V}(s:DS)(hn:n<=6)(hx:Th 1000 x)(hy:Th 1000 y){a0 a1 a2 a4 a5 a6 a7 a10:Option V}:∃b,rvs (CV<|d+9) [] thB [a0,a1,a2,aa<|spV p n,a4,a5,a6,a7,aa x,aa y,a10] [] s=.ok (.nx [a0,a1,a2,aa<|spV p n,a4,a5,a6,a7,aa x,aa y,b] []) s:=by
 have e1:=Ue (p:=p) (d+6) s hn hx.1 hx.2;have e2:=Ue (p:=p) (n:=n) (d+6) s hn hy.1 hy.2
 let tt:E:=.or (.not<|.call 37 [(.v 3),(.v 8)])<|.not<|.call 37 [(.v 3),(.v 9)]
 have w:∀(b:Bool)(ρ:Env),pv (CV<|d+9) tt ρ s=.ok (.bl b) s->pv (CV<|d+9) (.ix (.lst [(.c .non),(.c<|.str<|bp "part")])<|.blt .toInt [tt]) ρ s=.ok (if b=ah then .str (bp "part")else .non) s:=λb ρ h=>by
  have g1:pv (CV<|d+9) (.lst [(.c .non),(.c<|.str<|bp "part")]) ρ s=.ok (.lst [.non,.str<|bp "part"]) s:=by simp[pvE,ofD]
  rw[pv,g1,Zb,pv,Za h Zf,Zb];cases b<;>rfl
 let ρ (a10:Option V):Env:=[a0,a1,a2,aa<|spV p n,a4,a5,a6,a7,aa x,aa y,a10]
 have e3:=w _ (ρ a10)<|Zfs (Wd<|Zk (Za (Zh rfl)<|Za (Zh (v:=x) rfl) Zf) e1)<|Wd<|Zk (Za (Zh rfl)<|Za (Zh (v:=y) rfl) Zf) e2;unfold thB;rw[Zi<|ZZ e3 rfl];by_cases hp:isP p n x=ah/\isP p n y=ah
 ·obtain⟨h1,h2⟩:=hp
  obtain⟨P,rfl,hP⟩:=Vx.mp h1;obtain⟨Q,rfl,hQ⟩:=Vx.mp h2;refine⟨aa .non,?_⟩;rw[h1,h2];have j:∀{f:Nat}{v:V},CV (d+9) f [spV p n,Ze P,Ze Q] s=.ok v s->pv (CV<|d+9) (.cmp .ne (.refu ah<|.call f [(.v 3),(.v 8),(.v 9)])<|.v 10) (ρ<|aa .non) s=.ok (.bl ai) s:=λ{f v} h=>by
   rw[pv,Zc8<|Zk (Za (Zh (i:=3) rfl)<|Za (Zh (i:=8) rfl)<|Za (Zh (i:=9) rfl) Zf) h,Zb,Zh rfl];rfl
  show rvs _ _ _ (ρ<|aa .non) [] s=_;rw[guard<|j<|joined (d+3) s hn hP hQ,guard<|j<|met (d+1) s hn hP hQ,rvs]
 ·refine⟨aa<|.str<|bp "part",?_⟩
  have hb:(!isP p n x || !isP p n y)=ah:=by
   cases h1:isP p n x<;>cases h2:isP p n y<;>first|rfl|exact T7 ⟨h1,h2⟩ hp
  rw[hb];have j:∀{f:Nat},CV (d+9) f [spV p n,x,y] s=.ex 2 s->pv (CV<|d+9) (.cmp .ne (.refu ah<|.call f [(.v 3),(.v 8),(.v 9)])<|.v 10) (ρ<|aa<|.str<|bp "part") s=.ok (.bl ai) s:=λ{f} h=>
   ne_str (Zcn (Wk (Za (Zh (i:=3) rfl)<|Za (Zh (i:=8) (v:=x) rfl)<|Za (Zh (i:=9) (v:=y) rfl) Zf) h) ⟨by decide,by decide⟩) (Zh rfl)
  show rvs _ _ _ (ρ<|aa<|.str<|bp "part") [] s=_;rw[guard<|j<|ZbZ (d+3) s hn hx hy hp,guard<|j<|Zgd (d+3) s hn hx hy hp,rvs]
def vX{P:List Row}(hn:n<=6)(hP:pZ p n P):Th 1000 (Ze P):=⟨vh P,λxs e=>by have:=Qi hP xs e;omega⟩
end
def jK:∀q∈ZeT++ZeJ,q.1^q.2<=125:=by decide
def ZaY(d:Nat)(k:Nat)(s:DS):∃ρ' os' s',rvs (CV<|d+9) [] Zdz (ac::aa (.int k)::aa .drw::ar 8 ac) [] s=.ok (.nx ρ' os') s':=by
 unfold Zdz
 let ρ (a3 a4 a5 a6 a7 a8 a9 a10:Option V):Env:=[ac,aa<|.int k,aa .drw,a3,a4,a5,a6,a7,a8,a9,a10]
 show ∃ρ' os' s',rvs (CV<|d+9) [] _ (ρ ac ac ac ac ac ac ac ac) [] s=.ok (.nx ρ' os') s';obtain⟨m,e0,hm⟩:∃m:Int,pv (CV<|d+9) (.ix (.lst [(.c<|.int 27),(.c<|.int 125)])<|.blt .toInt [(.cmp .eq (.v 1)<|.c<|.int 0)]) (ρ ac ac ac ac ac ac ac ac) s=.ok (.int m) s/\2<=m:=by
  have g1:pv (CV<|d+9) (.lst [(.c<|.int 27),(.c<|.int 125)]) (ρ ac ac ac ac ac ac ac ac) s=.ok (.lst [.int 27,.int 125]) s:=by simp[pvE,ofD]
  have g2:pv (CV<|d+9) (.blt .toInt [(.cmp .eq (.v 1)<|.c<|.int 0)]) (ρ ac ac ac ac ac ac ac ac) s=.ok (.int<|b2i<|ae<|(k:Int)=0) s:=by
   rw[pv,Za (by rw[pv,Zh rfl,Zb,Yo];rfl) Zf];rfl
  by_cases c:(k:Int)=0
  ·refine⟨125,?_,by omega⟩
   rw[pv,g1,Zb,g2,Zb,T5 c];rfl
  ·refine⟨27,?_,by omega⟩
   rw[pv,g1,Zb,g2,Zb,T4 c];rfl
 obtain⟨p,n,s1,f1,f2,f3,f4,f5⟩:=uU (d+7) s hm;have hB:Base p:=⟨f2⟩;have hpn:p^n<=500:=bh (jK (p,n) f5) (by decide)
 rw[Zi<|ZZ (Zk (Za (Zh rfl)<|Za e0 Zf) f1) rfl];obtain⟨P,s2,p1,hP⟩:=zR (p:=p) (n:=n) (d+6) s1 f4;obtain⟨Q,s3,p2,hQ⟩:=zR (p:=p) (n:=n) (d+6) s2 f4;rw[Zi (ρ':=ρ (aa<|spV p n) (aa<|Ze P) (aa<|Ze Q) ac ac ac ac ac) (os':=[]) (s':=s3) (by
  rw[rv];show(pvs _ _ (ρ (aa<|spV p n) ac ac ac ac ac ac ac) s1).bind _=_;rw[Za (Zk (Za (Zh rfl)<|Za (Zh rfl) Zf) p1)<|Za (Zk (Za (Zh rfl)<|Za (Zh rfl) Zf) p2) Zf];rfl)]
 rw[guard<|Zdn (Wd<|Zk (Za (Zh rfl)<|Za (Zh rfl)<|Za (Zh rfl) Zf)<|JC d s3 f4 hP hQ hpn)<|Wd<|Zk (Za (Zh rfl)<|Za (Zh rfl)<|Za (Zh rfl) Zf)<|JC d s3 f4 hQ hP hpn];obtain⟨x1,s4,b1,t1⟩:=zT (p:=p) (n:=n) (d+6) s3 f4 f3 hP;obtain⟨x2,s5,b2,t2⟩:=zT (p:=p) (n:=n) (d+6) s4 f4 f3 hQ;obtain⟨x3,s6,b3,t3⟩:=ZcG (d+7) s5
 let ρ1:Env:=ρ (aa<|spV p n) (aa<|Ze P) (aa<|Ze Q) ac ac ac ac ac
 obtain⟨v,s7,q1,v0,v1⟩:=Ys (d+8) s6 (m:=2) (ρ:=ρ1) (i:=2) rfl Yo (by decide) (by decide)
 obtain⟨x4,m4,q4⟩:=pick (a:=.lst [(.call 30 [(.v 2),(.v 3),(.v 5)]),(.call 34 [(.v 2)])]) (xs:=[x2,x3]) (by
  rw[pv,Za (Zk (Za (Zh (i:=2) rfl)<|Za (Zh rfl)<|Za (Zh rfl) Zf) b2)<|Za (Zk (Za (Zh rfl) Zf) b3) Zf];rfl) q1 v0 v1
 have t4:Th 1000 x4:=by
  rcases az.mp m4 with rfl|m4
  ·exact t2
  ·rw[bt.mp m4];exact t3
 rw[Zi (ρ':=ρ (aa<|spV p n) (aa<|Ze P) (aa<|Ze Q) (aa x1) (aa x4) ac ac ac) (os':=[]) (s':=s7) (by
  rw[rv];show(pvs _ _ ρ1 s3).bind _=_;rw[Za (Zk (Za (Zh rfl)<|Za (Zh rfl)<|Za (Zh rfl) Zf) b1)<|Za q4 Zf];rfl)]
 let ρ2 (a8 a9 a10:Option V):Env:=ρ (aa<|spV p n) (aa<|Ze P) (aa<|Ze Q) (aa x1) (aa x4) a8 a9 a10
 have hl:pvw (CV<|d+9) (.of<|.lst [(.tup [(.v 6),(.v 5)]),(.tup [(.v 4),(.v 7)]),(.tup [(.v 6),(.v 7)]),(.tup [(.v 7),(.v 6)])]) (ρ2 ac ac ac) s7=.ok [.tup [x1,Ze Q],.tup [Ze P,x4],.tup [x1,x4],.tup [x4,x1]] s7:=by
  simp[pvE,ρ2,ρ]
 have tP:=vX f4 hP;have tQ:=vX f4 hQ;have r1:∀x y,Th 1000 x->Th 1000 y->∀a10,∃b,rvs (CV<|d+9) [] thB (ρ2 (aa x) (aa y) a10) [] s7=.ok (.nx (ρ2 (aa x) (aa y) b) []) s7:=λx y hx hy a10=>ZeA (p:=p) (n:=n) d s7 f4 hx hy
 obtain⟨c1,k1⟩:=r1 x1 (Ze Q) t1 tQ ac;obtain⟨c2,k2⟩:=r1 (Ze P) x4 tP t4 c1;obtain⟨c3,k3⟩:=r1 x1 x4 t1 t4 c2;obtain⟨c4,k4⟩:=r1 x4 x1 t4 t1 c3;refine⟨ρ2 (aa x4) (aa x1) c4,[],s7,?_⟩;rw[Zi (ρ':=ρ2 (aa x4) (aa x1) c4) (os':=[]) (s':=s7) ?_,rvs];rw[rv];show(pvw _ _ (ρ2 ac ac ac) s7).bind _=_;rw[hl,Zb]
 let bd:V->Env->List Nat->DS->PR FlV:=λx ρ os s=>if(([8,9]:List Nat).any os.contains)=ah then .no else if(os.isEmpty||x.flat)=ah then(po (ZA [8,9] x ρ) s).bind λρ s=>rvs (CV<|d+9) [] thB ρ os s else .no
 have step:∀x y xs a8 a9 a10 b,rvs (CV<|d+9) [] thB (ρ2 (aa x) (aa y) a10) [] s7=.ok (.nx (ρ2 (aa x) (aa y) b) []) s7->XG bd (.tup [x,y]::xs) (ρ2 a8 a9 a10) [] s7=XG bd xs (ρ2 (aa x) (aa y) b) [] s7:=λx y xs a8 a9 a10 b h=>by
  rw[XG];show((if(([8,9]:List Nat).any ([]:List Nat).contains)=ah then PR.no else _).bind _)=_
  rw[T8<|by simp,T9<|by rfl]
  show(((PR.ok (ρ2 (aa x) (aa y) a10) s7).bind λρ s=>rvs (CV<|d+9) [] thB ρ [] s).bind _)=_
  rw[Zb,h];rfl
 rw[step x1 (Ze Q) _ _ _ _ _ k1,step (Ze P) x4 _ _ _ _ _ k2,step x1 x4 _ _ _ _ _ k3,step x4 x1 _ _ _ _ _ k4,XG]
def Zdc(d:Nat)(s:DS):∃s',rvs (CV<|d+9) [] [.ret<|.c<|.bl ah] (ar (8+3) ac) [] s=.ok (.ret<|.bl ah) s':=⟨s,Zl<|ZH<|by rw[pv];rfl⟩
noncomputable def Zfg:Sm:=.ite (.or (.cmp .ne (.call 20 [(.tup [(.c<|.int 2),(.c<|.int 2)]),(.tup [(.tup [(.c<|.int 1),(.c<|.int 0)])]),(.tup [(.tup [(.c<|.int 1),(.c<|.int 1)])])])<|.tup [(.tup [(.c<|.int 1),(.c<|.int 0)]),(.tup [(.c<|.int 0),(.c<|.int 1)])])<|.cmp .ne (.call 25 [(.tup [(.c<|.int 2),(.c<|.int 2)]),(.tup [(.tup [(.c<|.int 1),(.c<|.int 0)])]),(.tup [(.tup [(.c<|.int 1),(.c<|.int 1)])])])<|.tup []) [.ret<|.c<|.bl ai] []
noncomputable def aft:R Fl->Zc
 |.ok _ S=>S.tail
 |_=>[]
theorem ZbF(ns:List Int):∃S1,run (Zt fns 62) Zfg (aa (.loc 0)::ac::ac::ar 8 ac) [.scr ns]=.ok (.nx (aa (.loc 0)::ac::ac::ar 8 ac)) (.scr ns::S1):=
 ⟨aft<|run (Zt fns 62) Zfg (aa (.loc 0)::ac::ac::ar 8 ac) [.scr ns],by kernel_rfl!⟩
def law_ok{ns:List Int}{S:Zc}(d:Nat)(hs:S=[.scr ns]):∃S',Zt fns 63 39 [.loc 0] S=.ok (.bl ah) S':=by
 rw[hs];exact Lw.Zc9 rfl rfl rfl rfl rfl (by omega) (ZaY 53) (Zdc 53)<|ZbF ns
end K21
namespace PySem.W.Fast
def tw1010884432427736815:=0
def tw10136058862176086060:=0
def tw10172801982713129969:=0
def tw10211796855338618052:=0
def tw10225592146917882958:=0
def tw10241867332715054165:=0
def tw10392917301297747758:=0
def tw1040635655290801000:=0
def tw10509315115935576927:=0
def tw10509915953736350689:=0
def tw10515649222917001062:=0
def tw10530805775336719649:=0
def tw1056698312549325332:=0
def tw10641450026969555231:=0
def tw10704085520878692106:=0
def tw10821938752986974320:=0
def tw10872036222032988424:=0
def tw1092689981544501268:=0
def tw11204897580168066121:=0
def tw11310514436294908957:=0
def tw11327494597372749076:=0
def tw11349769210085675600:=0
def tw11537414751774232537:=0
def tw11551036447414413319:=0
def tw11733737988048885264:=0
def tw11765256657362782245:=0
def tw11888698200569528345:=0
def tw11889214769292964096:=0
def tw11948581372785033563:=0
def tw1210045728568118040:=0
def tw12133983367552410243:=0
def tw12260187927872909425:=0
def tw12359590256615616754:=0
def tw12474553358367478307:=0
def tw1276931629417684672:=0
def tw12853068940325942002:=0
def tw12885800662929176926:=0
def tw12908564703241710344:=0
def tw12912825065861051044:=0
def tw12982529109304738160:=0
def tw13014323305109959146:=0
def tw13042622664577594574:=0
def tw13131393235255633378:=0
def tw13336137595675941346:=0
def tw13607624214470803104:=0
def tw1371922373524760002:=0
def tw14047069168475548273:=0
def tw14068638363586471070:=0
def tw14095538705026617170:=0
def tw14172060401639758521:=0
def tw14235349781111405697:=0
def tw14375658581574026592:=0
def tw14443083673557433399:=0
def tw1455233690069348114:=0
def tw14614249708369732703:=0
def tw14855527499305909093:=0
def tw14909531204117260959:=0
def tw15010690650322468867:=0
def tw15113159523926632063:=0
def tw15415285975263473321:=0
def tw1552540329018428038:=0
def tw15736586916172235201:=0
def tw15743202622531946633:=0
def tw15776158952386338289:=0
def tw15820689942705797313:=0
def tw15931092510590445240:=0
def tw16011452324337027582:=0
def tw16013668388057217569:=0
def tw16094830258618209128:=0
def tw16266197735286412872:=0
def tw16292702824821656451:=0
def tw16309705193953630604:=0
def tw16318470566900891629:=0
def tw16353189126609660003:=0
def tw16528870947104776333:=0
def tw16661097123859028997:=0
def tw16753796475781877520:=0
def tw16846572909095943951:=0
def tw1685457578404448510:=0
def tw16861242442190799968:=0
def tw16888859651564770792:=0
def tw16904225919874836571:=0
def tw16940123087335669150:=0
def tw16945984751153019262:=0
def tw16983383556626810741:=0
def tw17023993695875514382:=0
def tw17025279849490600048:=0
def tw17066162541215646820:=0
def tw17078082120177383977:=0
def tw17112815295760903323:=0
def tw17250656270540454148:=0
def tw17324951660599626852:=0
def tw17382104307580146330:=0
def tw17408771312891651081:=0
def tw17510582250722798391:=0
def tw17620818685023821123:=0
def tw17713941820185717682:=0
def tw17840240757620995205:=0
def tw17864795575637219926:=0
def tw17927495645143167018:=0
def tw17962316818778693283:=0
def tw17967792274375855139:=0
def tw18034832673517101851:=0
def tw18067570484779207356:=0
def tw18124493424790095093:=0
def tw18142161790592907902:=0
def tw18181991559179637724:=0
def tw18203468269111533086:=0
def tw1825250030279895898:=0
def tw18317197485746972325:=0
def tw183826060237406130:=0
def tw2000288634007536900:=0
def tw2011628054050130380:=0
def tw2043753804655970319:=0
def tw2193319124834119721:=0
def tw2237661507901096852:=0
def tw2416938032468096949:=0
def tw2459961688704158968:=0
def tw2485421632367349133:=0
def tw2496202606907929770:=0
def tw2532936673924484168:=0
def tw2535069842913696176:=0
def tw2565997595621718090:=0
def tw2701387884435831513:=0
def tw2764006149577520610:=0
def tw2780481168052633778:=0
def tw2800938598765571671:=0
def tw2828172531372344745:=0
def tw2833406087320863337:=0
def tw2853286323419725411:=0
def tw2891013731109249700:=0
def tw3091016319683843211:=0
def tw3094542185358054504:=0
def tw3217056308633640840:=0
def tw3231234959436411495:=0
def tw3260214480778507181:=0
def tw3281119449172672071:=0
def tw3310248897970663548:=0
def tw332302959789792254:=0
def tw3401253801703825927:=0
def tw3613917443729345407:=0
def tw3663887095373635387:=0
def tw3670366861749935270:=0
def tw3704944382526850187:=0
def tw3723980099137029247:=0
def tw3773110231150021187:=0
def tw3840707112382647332:=0
def tw3982671606829613507:=0
def tw4185031776177068503:=0
def tw4212451905806195891:=0
def tw4214808686541731311:=0
def tw4651157773447356025:=0
def tw4772697664254367959:=0
def tw484326919184592043:=0
def tw4876250404863373837:=0
def tw5048522103779864870:=0
def tw5108845251520516454:=0
def tw5114596593255762164:=0
def tw5204399579703160320:=0
def tw5382822973417275261:=0
def tw5423667479786618618:=0
def tw5455196218863419296:=0
def tw5652686899179524178:=0
def tw5656364108937798318:=0
def tw5683234265802364229:=0
def tw5744258943205059888:=0
def tw5930568818162077330:=0
def tw5964475101082021893:=0
def tw6004497744068735062:=0
def tw6110830564471294608:=0
def tw6120002251010121816:=0
def tw6218356596819941061:=0
def tw6250093923448209713:=0
def tw6286450064291588152:=0
def tw6450716290747123014:=0
def tw6460919145190411637:=0
def tw6540730910722276068:=0
def tw6669441108013118007:=0
def tw6853178330892223865:=0
def tw6886692761672642140:=0
def tw707492315503644419:=0
def tw7076375247338426322:=0
def tw7077948626964053873:=0
def tw7162586177779185569:=0
def tw7175558363650831841:=0
def tw7203591101044552153:=0
def tw7258099550563262586:=0
def tw74438136066713033:=0
def tw759736428655577469:=0
def tw7612364003194416327:=0
def tw7631278189262120066:=0
def tw7651784982911375934:=0
def tw7711953486419049518:=0
def tw7732422322991641536:=0
def tw7825584588214526304:=0
def tw7850816661704618766:=0
def tw8216230275246554631:=0
def tw8290966105400390882:=0
def tw8310552541724699485:=0
def tw8381147197951153863:=0
def tw8427425235876123658:=0
def tw8541572033394900787:=0
def tw8614005915349132315:=0
def tw8636255337832320800:=0
def tw8726836820646415217:=0
def tw8736092658552274943:=0
def tw8742775238094707351:=0
def tw8819364753754927886:=0
def tw8822587095892120535:=0
def tw8825536072865998270:=0
def tw8922906909988446034:=0
def tw8931730742141787248:=0
def tw8970930930955360458:=0
def tw9093006080178077505:=0
def tw9264268888692222542:=0
def tw9273074054363035070:=0
def tw931171645639244664:=0
def tw938982621733068887:=0
def tw9549191837362562005:=0
def tw9579549245801597905:=0
def tw9579967266539588553:=0
def tw9634411509001192411:=0
def tw9760285114970325391:=0
def tw9854065033030967069:=0
def tw9965810622144669263:=0
end PySem.W.Fast
open PySem PySem.W PyProof.Rows Gn
set_option maxRecDepth 100000 in
set_option maxHeartbeats 0 in
theorem PySem.Challenge.cw_fewspaces_k21_parts_joined_and_met_holds : PySem.Challenge.rw_fewspaces_k21_parts_joined_and_met.Holds := by
  w_on; o_law; k_head; (case hw => w_witness2)
  k_fill
  refine Gn.Zah (l := PySem.Challenge.rw_fewspaces_k21_parts_joined_and_met) (F := K21.fns) (L := 39) (c := 388) (Pt := 384) (cl := fun _ => [24, 37, 49, 61, 73, 85, 97, 109, 121, 133, 145]) (fun ns => K21.law_ok (ns := ns) (S := [.scr ns]) 0 rfl) rfl rfl (fun w h Y => PySem.W.km_in_of Y) rfl (fun w => by kernel_rfl!) (fun w => by kernel_rfl!) ?F
  case F =>
    intro w mg fa h KX G hmg;refine' Gn.ZbN (fs := K21.fs) (zs := K21.zs) (gs := K21.gs) KX G hmg K21.okl.1 (fun i fn e => by rw [List.getElem?_take] at e; split at e; exact e; cases e) ?A ?Z ?Y ?E ?L rfl rfl rfl (by decide +kernel) (Gn.Zeg (Pp := K21.pp) K21.okl.2.1 K21.okl.2.2 (by kernel_rfl!) (by kernel_rfl!) (by kernel_rfl!) (by kernel_rfl!) (by kernel_rfl!)) ?R
    case A => repeat' (first|exact FnsAt.nil|refine' FnsAt.cons ?h1 ?h2 ?h3 ?h4 ?h5 ?_; (case h1 => k_is); (case h2 => k_is); (case h3 => k_is); (case h4 => k_is); (case h5 => first|exact bd1 fun _ _ _ _ _ _ _ => rfl|exact bd2 fun _ _ _ _ _ _ _ _ => rfl|exact bd3 fun _ _ _ _ _ _ _ _ _ => rfl|exact bd4 fun _ _ _ _ _ _ _ _ _ _ => rfl|exact bd5 fun _ _ _ _ _ _ _ _ _ _ _ => rfl|exact bd6 fun _ _ _ _ _ _ _ _ _ _ _ _ => rfl))
    case L => repeat' (first|exact FnsAt.nil|refine' FnsAt.cons ?h1 ?h2 ?h3 ?h4 ?h5 ?_; (case h1 => k_is); (case h2 => k_is); (case h3 => k_is); (case h4 => k_is); (case h5 => first|exact bd1 fun _ _ _ _ _ _ _ => rfl|exact bd2 fun _ _ _ _ _ _ _ _ => rfl|exact bd3 fun _ _ _ _ _ _ _ _ _ => rfl|exact bd4 fun _ _ _ _ _ _ _ _ _ _ => rfl|exact bd5 fun _ _ _ _ _ _ _ _ _ _ _ => rfl|exact bd6 fun _ _ _ _ _ _ _ _ _ _ _ _ => rfl))
    case Z => repeat' (first|exact ZsAt.nil|refine' ZsAt.cons ?h1 ?_; (case h1 => k_is))
    case Y => repeat' (first|exact GsAt.nil|refine' GsAt.cons ?h1 ?_; (case h1 => k_is))
    case E => kernel_rfl!
    case R => rfl
