import PyProof.Rows.All
import Wide.All
import OpenK.AllK
import Wide.FinOn
import Lean
import PyProof.EqAt
import PyProof.EqKinds
import PyProof.TupleCall
import PySem.Str
import PyProof.CodeObj
import PyProof.ListMulAny
import PyProof.NeKinds
import PyProof.ConsumeWalk
import PyProof.CompFree
import PyProof.ZipIter
import PyProof.Draws
import PyProof.EnumMake
import PyProof.SumWalk
import KE.KSortTup
import PyProof.Rows.SortRev
import PyProof.FactsAll.tuple
import KE.KRevIter
import PyProof.FactsAll.range_2
import PyProof.ListRange
import PyProof.TupleOfSeq
import PyProof.TupleOfGen
import PyProof.CallType
import PyProof.StationsW
import PyProof.Rows.Own
import PyProof.ExcBaseAll.ValueError
import KE.KTryMore
import PyProof.ExcArgsOwn
import PyProof.IsiH_tuple
import PyProof.NsDelKeeps
import PyProof.RulesAs
import KE.KLam
import PyProof.P3Eq
import OpenK.KOwn
import PySem.Challenge.RW_fewspaces_k41_parts_against_parts
set_option Elab.async false
set_option linter.all false
set_option compiler.extract_closed false
set_option maxRecDepth 100000
set_option maxHeartbeats 0
abbrev T9:=@if_pos
abbrev T8:=@if_neg
abbrev T7:=@absurd
abbrev T6:=@of_decide_eq_true
abbrev T5:=@decide_eq_true
abbrev T4:=@decide_eq_false
abbrev T2:=@decide_eq_true_eq
open Option renaming some → aa,none → ac,isSome_iff_exists → bI,getD_none → lD
open Decidable renaming decide → ae
open Option.some renaming inj → af
open Bool renaming true → ag,false → ai,and_eq_true → aB,false_ne_true → aM,eq_iff_iff → bz,false_eq_true → ck,or_eq_true → fW,not_false → gE,not_eq_true' → gT,false_or → mE,true_and → mJ
open List renaming getElem?_eq_getElem → ah,mem_cons_of_mem → al,mem_cons_self → am,replicate → aq,size_toArray → au,getElem?_eq_some_iff → ay,mem_cons → az,getElem?_set_ne → aE,getD_eq_getElem?_getD → aG,length_map → aH,range → aI,mem_map → aO,getElem?_append_left → aP,getElem?_set_self → aQ,length_cons → aR,map_cons → aS,all_eq_true → aU,length_set → aV,length_append → aW,getElem_mem → ba,getElem?_append_right → bf,getElem?_map → bg,mem_append_right → bi,pairwise_cons → bj,mem_singleton → bp,not_mem_nil → bt,lookup_cons → bC,replicate_succ → bD,mem_range → bF,map_map → bH,mem_filter → bK,length_range → bL,getElem?_replicate → bN,filterMap_cons → bO,mem_append → bQ,flatten_cons → bR,contains_iff_mem → cb,length_take → cp,length_drop → cq,length_singleton → cw,nodup_cons → cA,of_mem_zip → cB,mem_append_left → cC,mem_of_getElem? → cD,reverse_cons → cG,getElem?_set → cH,getElem_of_mem → cJ,length_replicate → cL,zip_cons_cons → cP,append_assoc → cV,map_congr_left → cY,toArray → c7,filter_cons → dg,drop_eq_getElem_cons → dD,append_nil → dF,find?_cons → dG,length_zip → dH,map_uncurry_zip_eq_zipWith → dR,length_eq_zero_iff → dU,range_succ_eq_map → dY,length_nil → d4,map_append → d6,length_filter_le → d7,pairwise_map → d9,any_eq_true → eF,zipWith → eG,getElem?_zip_eq_some → eJ,any_cons → eR,foldl_cons → eU,nil_append → eV,take_of_length_le → fo,getElem?_eq_none → fw,nodup_range → fF,all_cons → fJ,isEmpty_toArray → fM,mem_zipIdx_iff_getElem? → fT,getElem?_range → fZ,length_reverse → f9,map_nil → gf,all_map → gh,contains_cons → gF,map_replicate → gG,pairwise_iff_getElem → gK,mem_or_eq_of_mem_set → gL,reverse_perm → gS,find?_range_eq_some → hJ,take_length → h7,pairwise_singleton → ia,cons_append → ig,ext_getElem → iq,forIn_cons → iK,getElem?_reverse → iQ,set_append_right → iR,drop_zero → iY,length_zipWith → kj,mem_filterMap → kB,filterMap_map → kH,find?_toArray → kM,zip_nil_right → kO,getElem?_drop → kQ,any_eq_false → kT,getElem?_inj → lg,ext_getElem? → lh,zip_nil_left → ll,getElem_take → lv,getElem_drop → lw,drop → lI,drop_length → lJ,zipIdx_cons → lK,map_reverse → lO,mem_flatMap → lP,length → lR,zipIdx_nil → l0,all_append → l4,nodup_nil → mq,forIn_nil → mv,tail_cons → mB,map_tail → mI
open PySem.W renaming Frag → aj,katRev → bv,kia_one → b9,hideAll_none → cg,kia_tup → cn,CodeHd → cy,hideAll → cz,fnOf → c6,kitAny → dA,envX → dO,kla_obj → d5,kitOne → eg,keepIn → ei,hideAll_get → eK,katRev → eM,kat_len → eW,of_hideAll → eX,kitx_list → fe,kitx_dict → fg,cellsFrom_some → fj,nsIn → fu,codeIn → gu,methodObj → gM,mg_of → g8,instObj → iI,OpenLaw → iL,lookIn → iT,tabObj → i6,noTabs → i7,kitx_float → kD,kitx_tuple → kE,callWith_K → kF,codeRec_of → kG,kitx_none → kU,kitx_bool → kW,looks_findIn → lm,plainGet → ly,kitx_int → lz,kitx_str → lA,kitx_own → lB,kat_nil → l8,kas_rev → ma,kat_len → md,findIn → mi,findIn → mw,exmOne → mx,kla_fn → my,tabIn → mG,WalkO → mH,sub → mO
open PySem renaming wpAny_bind → ak,Value → ao,Shared → aw,Addr → ax,starEach → aC,wpAny_pure → aF,wpAny → aT,sizeLine → aX,Str → aZ,model → bc,mainGlobals → bn,Program → bq,World → bG,Heap → bJ,FuncData → bP,Around → bV,wpAny_newObj_type → bW,wpAny_field → bX,eval → bZ,wpAny_callSpecial?_slot → cc,wpAny_holding → cm,assignEach → cr,compareOp → cu,bootBuiltins → cE,wpAny_mono → cF,mem_of_lookup → cI,backTo → cK,sizeLine_eq → cS,wpAny_truthy_bool → cT,foldedSetIterable → cU,Scope → c8,behindInMarks → c9,Stmt → de,wpAny_call_entry → df,sysModules → dh,wpAny_Call_Name_kw → dm,wpAny_seqItems → du,wpAny_setField_rec → dv,wpAny_passesOwn → dE,binaryOp → dL,Obj → dP,NameKind → dS,Pos → dZ,wpAny_execs_nil → d3,cLine → d8,wpAny_loadPart_at → ee,call_meets → eA,wpAny_execs_cons → eD,swapsWith → eE,wpAny_pyIter_tuple → eY,sliceBounds → fb,codeAny → fh,wpAny_pyIter_list → fm,rawInt → fA,cellsFrom → fB,closureFor → fD,Builtin → fI,wpAny_loadName_local → fK,wpAny_updateSeq_pair → fO,letOwnedTupleGo → fQ,wpAny_loadName_cell → fX,intKind → gb,codeAny_mono → gd,assign → gj,codeAmong → gp,wpAny_Name → gq,wpAny_newFunctionEnv_cells → gv,IsPart → gw,wpAny_binaryOp_repeat_ref → gI,holding → gN,getItem → gO,wpAny_sequenceKey → gP,wpAny_standAt → gV,wpAny_onRaise → g7,noFill_tuple_add → hU,DictEntry → h8,wpAny_pyNext_list_item → iz,wpAny_typeOf → iA,typeIs_int → iE,wpAny_rule → iG,IsPair → iH,wpAny_isTrue_Compare1 → iM,wpAny_pyNext_list_end → iN,codeAny_call_function → iO,ret → iS,bindArgs → iV,wpAny_newFunctionEnv → iZ,ZipApart → i3,codeAny_call_builtin → i5,BindsTo → ka,callerA → kc,wpAny_loadName_free → ke,swapsWithSole → km,swappedStores → kn,seq_tuple_add → ko,evalPart_none → kr,attributeBase → ku,pyNext → kA,typeLookup → kI,standAt → kR,wpAny_assign_Name → kS,concat_meets → kX,seqIndex_neg → kY,Keyword → kZ,valueAt → k7,wpAny_pyIter_enum → lf,PassesOwn → lx,Arguments → lC,TriplesOk → lE,seqSlot_of → lF,preSum → lM,seqIndex_of → lS,keywordEach → lT,IsZip → lU,wpAny_letGo → lV,builtinsNs → me,Sem → mf,Operator → mh,wpAny_call → mj,bindL → ml,bindC → mm,call → mo,truthy → mL,DefRec → mM,Tok → mP,CmpOp → mQ,rule → mR,atKey → mS,Meets → mT
open PySem.Heap renaming get?_push_of_some → ar,lt_size → aJ,get?_push_size → aN,size_push → dW,SameBut → eC,get?_push_ne → ft,ExtBut → fN,size_update → h9,get?_update_other → iC,get?_update_self → iP,get?_update_ne → kh
open True renaming intro → aA
open Nat renaming le_refl → aD,lt_of_lt_of_le → aY,ne_of_lt → br,lt_irrefl → bw,le_trans → bx,lt_succ_of_lt → dN,le_add_right → dX,zero_le → fc,le_of_not_lt → fC,lt_succ_self → fE,pow_le_pow_right → fP,not_lt_of_le → ib,le_of_lt → iu,ne_of_gt → iy,add_comm → iF,mul_le_mul → iX,add_sub_cancel → kP,min_self → la,sub_self → ln,zero_add → lq,le_succ → lX,succ → mU
open And renaming intro → aK
open PySem.Str renaming ofString → bh,ofString → dM
open PySem.NameKind renaming free → bu,cell → g6
open PySem.Builtin.SmallTypes renaming nextOf → bB,ownedTupleIsFree → cx,ownedTupleHandOut → eL
open PySem.Value renaming none → bE,bool → bM,ref → bU,int → fz,builtin → g9,str → i9,float → lQ,isStrOf → mD
open PySem.Builtin.Tuple renaming tupleExact → bS,tupleItemsOf → ej,tupleTooMany → gA
open PyProof.Rows renaming slot_tuple_getitem → bT,envOfC → cM,callWith_type1 → cZ,seqObj → eN,AllBare → fH,entry_tuple_getitem → fY,slicePart_none → gy,args_tuple_getitem → gz,subscriptTail_builtinR → iB,tupleItemsOf_ → kq,subscriptTail → kt,listUpdate_at → kw,seqEpoch_at → lY,IntsAre → l9,Subscript_ → mn,cnt → mC,IsTup → mK
open PySem.Builtin.Slice renaming slicePlaces → bY,sliceApplied → dn,sliceAdjust → eI,sliceFields → gH
open PySem.Obj renaming mapSeq → cN,data_mapFields → kN
open PySem.AutoSeq1 renaming wpAny_loadPart' → cO,sub_tuple_tuple → eS,wpAny_loadPart' → eT,idx_int → hV
open Int renaming emod_lt_of_pos → cQ,emod_nonneg → dJ,toNat_natCast → fq,emod_eq_of_lt → gU,natCast_add → l6,mul_le_mul → mr
open Pure renaming pure → cR
open PySem.F renaming plainAttrs_list → cW,slot_tuple_iterator_next → dq,args_tuple_add_2 → eQ,entry_tuple_add → eZ,slot_tuple_add → fk,typeOf_object_class → fv,slot_int_rmul → fR,args_tuple_iterator_next_1 → fU,slot_zip_next → fV,entry_tuple_iterator_next → gk,args_tuple_mul_2 → gB,entry_tuple_mul → gR,slot_list_append → gY,type_list_append → gZ,slot_tuple_mul → hZ,slot_list_index → im,type_list_index → ip,args_int_rmul_2 → k8,args_zip_next_1 → lc,entry_int_rmul → lG,entry_zip_next → lL,fills_int_mul → lZ
open Array renaming length_toList → cX,perm_iff_toList_perm → dw,getElem?_toList → dC,getD_eq_getD_getElem? → gm,append_empty → gC,getElem?_eq_getElem → gJ,mem_toList_iff → iU,toList_append → ki,append_assoc → kz,toList_inj → lN
open List.Perm renaming refl → dB,swap → i4
open PySem.Builtin.List renaming listTooLong → dQ
open List.Pairwise renaming filter → eB,nil → gQ
open Lean.Grind renaming CommRing → eO
open Sum renaming inl → fG,inr → i8
open ForInStep renaming yield → fS
open PyProof.Rows.IsTup renaming new → gn
open PySem.SeqAt.EqAt renaming bool_bool → gD,same → iJ,int_str → kx,str_int → ky,of_refs → kL
open Or renaming inr → gW,inl → kK
open PySem.SeqAt.RcAt renaming lists_lengths → gX,tuples → k9,lists → lH
open PySem.SeqAt renaming EqAt → iD
open PySem.Around renaming frames_deeper → iW
open PySem.Builtin.Int renaming intBits → kf
open PySem.Heap.SameBut renaming update → kg
open PySem.P renaming truthy_int → kC
open PySem.Heap.IsSliceOf renaming new → kJ
open PySem.PassesOwn renaming leaving → ls
open Classical renaming not_not → lu
open PySem.Shared renaming heap → lW
open Array.Perm renaming refl → l7
open PySem.Value.type renaming inj → mz
open PySem.Code renaming compLoop → mF
open Min renaming min → mV
namespace L2
open PySem PySem.Spec PyProof.Rows
noncomputable abbrev Key:=Sum Int aZ
noncomputable def Jg:Key->ao->Bool
 |.inl k,v=>ao.isInt k v
 |.inr x,v=>mD x v
noncomputable def ZeE(w:bG):Key->Int
 |.inl k=>hashInt k
 |.inr x=>hashStr w x
def Z1:∀{k:Key}{v:ao},Jg k v=ag->(∃i t,k=fG i/\v=fz i t)\/(∃x t,k=i8 x/\v=i9 x t)
 |.inl i,v,h=>by
  obtain⟨t,e⟩:=ao.isInt_shape (k:=i) (v:=v) h;exact .inl ⟨i,t,rfl,e⟩
 |.inr x,v,h=>by
  obtain⟨t,e⟩:=ao.isStrOf_shape (x:=x) (v:=v) h;exact .inr ⟨x,t,rfl,e⟩
def vL(i:Int)(t:mP):Jg (.inl i) (.int i t)=ag:=by simp[Jg,ao.isInt]
def vW(x:aZ)(t:mP):Jg (.inr x) (.str x t)=ag:=by simp[Jg,mD]
def ZdE(a b:Int):ae ((fG a:Key)=fG b)=(a == b):=by
 by_cases e:a=b
 ·subst e;simp
 ·have h:¬(fG a:Key)=fG b:=λq=>e (fG.inj q)
  rw[T4 h];exact(beq_eq_false_iff_ne.mpr e).symm
def ZdJ(a b:aZ):ae ((i8 a:Key)=i8 b)=ae (a=b):=by
 by_cases e:a=b
 ·subst e;simp
 ·have h:¬(i8 a:Key)=i8 b:=λq=>e (i8.inj q)
  rw[T4 h,T4 e]
def Zdy(a:Int)(b:aZ):ae ((fG a:Key)=i8 b)=ai:=T4 (λq=>nomatch q)
def Zdl(a:aZ)(b:Int):ae ((i8 a:Key)=fG b)=ai:=T4 (λq=>nomatch q)
noncomputable def Yq(prog:bq)(w:bG):PySem.KeyKind prog w Key where
 is:=Jg
 hash:=ZeE w
 inj:=λv a b ha hb=>by
  rcases Z1 ha with⟨i,t,rfl,rfl⟩ | ⟨x,t,rfl,rfl⟩
  ·rcases Z1 hb with⟨j,u,rfl,e⟩ | ⟨y,u,rfl,e⟩
   ·injection e with e1 _;rw[e1]
   ·exact nomatch e
  ·rcases Z1 hb with⟨j,u,rfl,e⟩ | ⟨y,u,rfl,e⟩
   ·exact nomatch e
   ·injection e with e1 _;rw[e1]
 byValue:=λk v h=>by
  rcases Z1 h with⟨i,t,rfl,rfl⟩ | ⟨x,t,rfl,rfl⟩ <;> rfl
 pyHash:=λhv h=>by
  rcases Z1 hv with⟨i,t,rfl,rfl⟩ | ⟨x,t,rfl,rfl⟩
  ·exact wpAny_pyHash_int h
  ·exact wpAny_pyHash_str h
 eqBool:=λhu hv h=>by
  rcases Z1 hu with⟨i,t,rfl,rfl⟩ | ⟨x,t,rfl,rfl⟩
  ·rcases Z1 hv with⟨j,u,rfl,rfl⟩ | ⟨y,u,rfl,rfl⟩
   ·rw[ZdE]at h;exact wpAny_eqBool_int h
   ·rw[Zdy]at h;exact kx i t y u _ _ _ _ h
  ·rcases Z1 hv with⟨j,u,rfl,rfl⟩ | ⟨y,u,rfl,rfl⟩
   ·rw[Zdl]at h;exact ky x t j u _ _ _ _ h
   ·rw[ZdJ]at h;exact wpAny_eqBool_str h
 «strs»:=λk x t v h=>by
  rcases Z1 h with⟨i,u,rfl,e⟩ | ⟨y,u,rfl,e⟩
  ·exact nomatch e
  ·injection e with e1 _
   subst e1;cases v <;> rfl
def GY(prog:bq)(w:bG)(i:Int)(t:mP):(Yq prog w).is (.inl i) (.int i t)=ag:=vL i t
def GC(prog:bq)(w:bG)(x:aZ)(t:mP):(Yq prog w).is (.inr x) (.str x t)=ag:=vW x t
inductive V where
 |non | bl (b:Bool) | int (i:Int) | str (x:aZ) | byt (b:Array UInt8) | flt (b:UInt64) | ref (a:ax) | ty (n:String)
 deriving DecidableEq
def ZA:V->ao->Prop
 |.non,u=>u=bE
 |.bl b,u=>u=bM b
 |.int i,u=>∃t,u=fz i t
 |.str x,u=>∃t,u=i9 x t
 |.byt b,u=>∃t,u=ao.bytes b t
 |.flt b,u=>∃t,u=lQ b t
 |.ref a,u=>u=bU a
 |.ty n,u=>u=ao.type n
noncomputable abbrev Vals:List V->List ao->Prop:=Paired ZA
theorem Vals.length(r:Vals xs us):xs.length=us.length:=Paired.length r
theorem Vals.get:∀{xs:List V}{us:List ao}{i:Nat}{x:V},Vals xs us->xs[i]? = aa x->∃u,us[i]? = aa u/\ZA x u
 |_,_,_,_,.nil,e=>by simp at e
 |_,_,0,_,.cons r _,e=>by simp at e;subst e;exact⟨_,rfl,r⟩
 |_,_,i+1,x,.cons _ t,e=>by
  obtain⟨u,h1,h2⟩:=Vals.get (i:=i) (x:=x) t (by simpa using e)
  exact⟨u,by simpa using h1,h2⟩
theorem Vals.set(r:ZA x u):∀{xs:List V}{us:List ao}(i:Nat),Vals xs us->Vals (xs.set i x) (us.set i u)
 |_,_,_,.nil=>.nil
 |_,_,0,.cons _ t=>.cons r t
 |_,_,i+1,.cons q t=>.cons q (Vals.set r i t)
theorem Vals.append:∀{xs ys:List V}{us ws:List ao},Vals xs us->Vals ys ws->Vals (xs++ys) (us++ws)
 |_,_,_,_,.nil,s=>s
 |_,_,_,_,.cons r t,s=>.cons r (Vals.append t s)
theorem Vals.take:∀{xs:List V}{us:List ao}(n:Nat),Vals xs us->Vals (xs.take n) (us.take n)
 |_,_,0,_=>.nil
 |_,_,_+1,.nil=>.nil
 |_,_,n+1,.cons r t=>.cons r (Vals.take n t)
theorem Vals.drop:∀{xs:List V}{us:List ao}(n:Nat),Vals xs us->Vals (xs.drop n) (us.drop n)
 |_,_,0,r=>r
 |_,_,_+1,.nil=>.nil
 |_,_,n+1,.cons _ t=>Vals.drop n t
def uz:Option V->Option ao->Prop
 |some v,aa u=>ZA v u
 |none,ac=>True
 |_,_=>False
noncomputable def KV{κ:Type}:List (κ×V)->List (κ×ao)->Prop:=Paired λ(p:κ×V) (q:κ×ao)=>p.1=q.1/\ZA p.2 q.2
noncomputable def kV:Key->V
 |.inl i=>.int i
 |.inr x=>.str x
inductive HO where
 |lst (xs:List V)
 |tup (xs:List V)
 |dK (kvs:List (Key×V)) | dT (kvs:List (List Key×V))
 |set (S:Int->Bool) (n:Nat)
 |ins (C dx:ax) (fs:List (aZ×V))
 |own (x:ax)
 |xd (fs:List (aZ×V))
 |met (f x:ax)
 |rng (lo hi:Int)
 |frz (o:dP) (u:HO)
 |tbl (ps:Array ao)
 |ext (φ:bJ->Prop)
abbrev Hp:=ax->Option HO
noncomputable def upd(H:Hp)(a:ax)(o:HO):Hp:=λb=>if b=a then aa o else H b
def Zq :upd H a o a=aa o:=by unfold upd;rw[T9 rfl]
def Zo(h:b≠a):upd H a o b=H b:=by unfold upd;rw[T8 h]
def Zaq :upd (upd H a o) a u=upd H a u:=by
 funext b;unfold upd;split <;> rfl
def ZH{H:Hp}{a b:ax}{o:HO}(h:H a=aa o)(h':H b=ac):a≠b:=by
 intro e;subst e;rw[h]at h';cases h'
section
variable(P:bq)(w:bG)
def ZK(H:Hp)(h:bJ)(a:ax):HO->Prop
 |.lst xs=>xs.length<=aX/\∃(its:List ao)(n:Nat),Vals xs its/\h.get? a=aa { cls:=.type "list",data:=.seq its.toArray n }
 |.tup xs=>xs.length<=aX/\∃its:List ao,Vals xs its/\mK h a its.toArray
 |.dK kvs=>kvs.length<=aX/\(a == dh)=ai/\∃vs,KV kvs vs/\h.DictOf (Yq P w) a vs
 |.dT kvs=>kvs.length<=aX/\(a == dh)=ai/\∃xs:List (List Key×ax×ao),
   Paired (λ(p:List Key×V) (q:List Key×ax×ao)=>p.1=q.1/\H q.2.1=aa (.tup (p.1.map kV))/\ZA p.2 q.2.2) kvs xs/\
   ∃o es ep,h.get? a=aa o/\o.ExactDict/\o.data=.dict es ep/\es.toList=xs.map (entryOfKey (tupleKind (Yq P w)))/\(xs.map (·.1)).Nodup
 |.set S n=>h.SetOf (gb P w) a S n
 |.ins C dx fs=>H dx=aa (.own a)/\fs.length<=1000/\dx≠a/\h.get? a=aa (iI C dx)/\
   ∃mA,h.Ns1 dx mA/\(∀f,uz (fs.lookup f) (mA f))/\PySem.Within mA (fs.map (·.1))
 |.own _=>∃o,h.get? a=aa o
 |.xd fs=>∃mA,h.Ns1 a mA/\∀f,uz (fs.lookup f) (mA f)
 |.rng lo hi=>∃t u v,h.get? a=aa { cls:=.type "range",data:=.fields #[.int lo t,.int hi u,.int 1 v] }
 |.frz o u=>h.get? a=aa o/\ZK H h a u
 |.tbl ps=>h.get? a=aa { cls:=.none,data:=.fields ps }
 |.met f x=>h.get? a=aa (gM (.ref f) (.ref x))
 |.ext φ=>φ h/\(∃o,h.get? a=aa o)/\∀h1 h2:bJ,φ h1->(∀o,h1.get? a=aa o->h2.get? a=aa o)->φ h2
def HOk(H:Hp)(h:bJ):Prop:=∀a o,H a=aa o->ZK P w H h a o
end
section
variable{P:bq}{w:bG}{H H':Hp}{h h':bJ}{a:ax}{o:HO}
theorem ZK.lt(x:ZK P w H h a o):a<h.objs.size:=by
 cases o with|lst xs=>obtain⟨_,_,_,_,e⟩:=x;exact aJ e|tup xs=>obtain⟨_,_,_,p⟩:=x;exact p.lt|dK kvs=>obtain⟨_,_,_,_,o,_,_,e,_⟩:=x;exact aJ e|dT kvs=>obtain⟨_,_,_,_,o,_,_,e,_⟩:=x;exact aJ e|set S n=>obtain⟨o,_,_,_,e,_⟩:=x;exact aJ e|ins C dx fs=>obtain⟨_,_,_,e,_⟩:=x;exact aJ e|own y=>obtain⟨_,e⟩:=x;exact aJ e|xd fs=>obtain⟨_,⟨_,_,_,e,_⟩,_⟩:=x;exact aJ e|rng lo hi=>obtain⟨_,_,_,e⟩:=x;exact aJ e|frz ob u=>obtain⟨e,_⟩:=x;exact aJ e|tbl ps=>exact aJ (show h.get? a=aa _ from x)|met f y=>exact aJ (show h.get? a=aa _ from x)|ext φ=>obtain⟨_,⟨_,e⟩,_⟩:=x;exact aJ e
theorem Paired.mapP{α β:Type}{F G:α->β->Prop}:∀{l₁:List α}{l₂:List β},Paired F l₁ l₂->(∀a b,F a b->G a b)->Paired G l₁ l₂
 |_,_,.nil,_=>.nil
 |_,_,.cons r t,f=>.cons (f _ _ r) (Paired.mapP t f)
def ZK.stay(x:ZK P w H h a o)(k:∀b u,(b=a\/H b=aa (.own a))->h.get? b=aa u->h'.get? b=aa u)
  (ho:∀b,H b=aa (.own a)->H' b=aa (.own a))(ht:∀b xs,H b=aa (.tup xs)->H' b=aa (.tup xs)):ZK P w H' h' a o:=by
 induction o with
 |lst xs=>obtain⟨z,its,n,r,e⟩:=x;exact⟨z,its,n,r,k _ _ (.inl rfl) e⟩
 |tup xs=>obtain⟨z,its,r,ob,e,c⟩:=x;exact⟨z,its,r,ob,k _ _ (.inl rfl) e,c⟩
 |dK kvs=>obtain⟨z,y,vs,r,ob,es,ep,e,c⟩:=x;exact⟨z,y,vs,r,ob,es,ep,k _ _ (.inl rfl) e,c⟩
 |dT kvs=>
  obtain⟨z,y,xs,r,ob,es,ep,e,c⟩:=x;exact⟨z,y,xs,Paired.mapP r λp q z=>⟨z.1,ht _ _ z.2.1,z.2.2⟩,ob,es,ep,k _ _ (.inl rfl) e,c⟩
 |set S n=>obtain⟨ob,es,ep,t,e,c⟩:=x;exact⟨ob,es,ep,t,k _ _ (.inl rfl) e,c⟩
 |ins C dx fs=>
  obtain⟨d,z,ne,e,mA,⟨od,es,ep,e2,c⟩,r⟩:=x;exact⟨ho _ d,z,ne,k _ _ (.inl rfl) e,mA,⟨od,es,ep,k _ _ (.inr d) e2,c⟩,r⟩
 |own y=>obtain⟨ob,e⟩:=x;exact⟨ob,k _ _ (.inl rfl) e⟩
 |xd fs=>obtain⟨mA,⟨od,es,ep,e,c⟩,r⟩:=x;exact⟨mA,⟨od,es,ep,k _ _ (.inl rfl) e,c⟩,r⟩
 |rng lo hi=>obtain⟨t,u,v,e⟩:=x;exact⟨t,u,v,k _ _ (.inl rfl) e⟩
 |frz ob u ih=>obtain⟨e,q⟩:=x;exact⟨k _ _ (.inl rfl) e,ih q⟩
 |tbl ps=>
  have e:h.get? a=aa { cls:=.none,data:=.fields ps }:=x;show h'.get? a=aa { cls:=.none,data:=.fields ps };exact k a _ (.inl rfl) e
 |met f y=>
  have e:h.get? a=aa (gM (.ref f) (.ref y)):=x;show h'.get? a=aa (gM (.ref f) (.ref y));exact k a _ (.inl rfl) e
 |ext φ=>obtain⟨p,⟨o,e⟩,st⟩:=x;exact⟨st _ _ p λo q=>k _ _ (.inl rfl) q,⟨o,k _ _ (.inl rfl) e⟩,st⟩
theorem HOk.lt(x:HOk P w H h)(e:H a=aa o):a<h.objs.size:=(x a o e).lt
def HOk.fresh(x:HOk P w H h)(e:h.objs.size<=a):H a=ac:=by
 cases q:H a with|none=>rfl|some u=>exact T7 (aY (x.lt q) e) (bw _)
def HOk.kept(x:HOk P w H h)(k:∀b u,h.get? b=aa u->h'.get? b=aa u):HOk P w H h':=λa o e=>
 (x a o e).stay (λb u _ q=>k b u q) (λ_ q=>q) λ_ _ q=>q
def HOk.laid(x:HOk P w H h)(k:∀b u,h.get? b=aa u->h'.get? b=aa u)(hp:h.objs.size<=a)(new:ZK P w (upd H a o) h' a o):HOk P w (upd H a o) h':=λb u e=>by
 have hn:=x.fresh hp;by_cases hb:b=a
 ·subst hb;rw[Zq]at e;cases e;exact new
 ·rw[Zo hb]at e
  exact(x b u e).stay (λc v _ q=>k c v q) (λc q=>by rw[Zo (ZH q hn)];exact q) λc xs q=>by rw[Zo (ZH q hn)];exact q
end
def Rd(H:Hp)(a:ax)(u:HO):Prop:=H a=aa u\/∃o,H a=aa (.frz o u)
def Rd.ok(r:Rd H a u)(x:HOk P w H h):ZK P w H h a u:=by
 rcases r with r | ⟨o,r⟩
 ·exact x a u r
 ·obtain⟨_,q⟩:=x a _ r
  exact q
def Mut:Option HO->Prop
 |some (.lst _)=>True
 |some (.dK _)=>True
 |some (.dT _)=>True
 |some (.set _ _)=>True
 |some (.ins _ _ _)=>True
 |some (.ext _)=>True
 |_=>False
section
variable{P:bq}{w:bG}{H:Hp}{h h':bJ}{x e:ax}{o':HO}
def HOk.write(ok:HOk P w H h)(mu:Mut (H x))(he:e=x\/H e=aa (.own x))(k:∀b u,b≠e->h.get? b=aa u->h'.get? b=aa u)(heo:∃u,h'.get? e=aa u)
  (new:ZK P w (upd H x o') h' x o'):HOk P w (upd H x o') h':=λb u q=>by
 have nown:∀c y,H c=aa (.own y)->c≠x:=λc y r z=>by subst z;rw[r]at mu;exact mu
 have ntup:∀c xs,H c=aa (.tup xs)->c≠x:=λc xs r z=>by subst z;rw[r]at mu;exact mu
 by_cases hb:b=x
 ·subst hb;rw[Zq]at q;cases q;exact new
 ·rw[Zo hb]at q
  by_cases hbe:b=e
  ·have q':H b=aa (.own x):=by
    rcases he with z | z
    ·exact T7 (hbe.trans z) hb
    ·rw[hbe];exact z
   rw[q]at q';cases q';obtain⟨v,hv⟩:=heo;exact⟨v,by rw[hbe];exact hv⟩
  ·refine(ok b u q).stay (λc v hc r=>k c v ?_ r) (λc r=>by rw[Zo (nown c b r)];exact r) λc xs r=>by rw[Zo (ntup c xs r)];exact r
   rcases hc with rfl | hc
   ·exact hbe
   ·rintro rfl
    rcases he with z | z
    ·exact nown c b hc z
    ·rw[hc]at z;cases z;exact hb rfl
end
structure Un(fs ex:List ax)(H H':Hp)(h h':bJ):Prop where
 keep:∀b o,h.get? b=aa o->H b=ac->b∉fs->b∉ex->h'.get? b=aa o
 slot:∀b o,h.get? b=aa o->H b=ac->b∈fs->b∉ex->∃sl,h'.get? b=aa { o with slots:=sl }
 free:∀b o,h.get? b=aa o->H b=ac->b∉ex->H' b=ac
 there:∀b o,h.get? b=aa o->b∉ex->∃o',h'.get? b=aa o'
 tups:∀b xs,H b=aa (.tup xs)->H' b=aa (.tup xs)
 frzs:∀b o u,H b=aa (.frz o u)->H' b=aa (.frz o u)
 tbls:∀b ps,H b=aa (.tbl ps)->∃more,H' b=aa (.tbl (ps++more))
section
variable{fs fs' ex ex':List ax}{H H1 H2:Hp}{h h1 h2 h':bJ}{a x e:ax}{o:HO}
def Un.any(u:Un fs ex H H1 h h1)(q:h.get? b=aa ob)(n:H b=ac)(hx:b∉ex):∃sl,h1.get? b=aa { ob with slots:=sl }:=by
 by_cases hb:b∈fs
 ·exact u.slot b ob q n hb hx
 ·exact⟨ob.slots,u.keep b ob q n hb hx⟩
def Un.kept(k:∀b u,h.get? b=aa u->h'.get? b=aa u):Un fs ex H H h h':=
 ⟨λb ob q _ _ _=>k b ob q,λb ob q _ _ _=>⟨ob.slots,k b ob q⟩,λ_ _ _ n _=>n,λb ob q _=>⟨ob,k b ob q⟩,λ_ _ q=>q,λ_ _ _ q=>q,λ_ ps q=>⟨#[],by rw[q];simp⟩⟩
def Un.refl:Un fs ex H H h h:=Un.kept λ_ _ q=>q
def Un.laid(k:∀b u,h.get? b=aa u->h'.get? b=aa u)(hp:h.objs.size<=a)(hn:H a=ac):Un fs ex H (upd H a o) h h' where
 keep:=λb u q _ _ _=>k b u q
 slot:=λb u q _ _ _=>⟨u.slots,k b u q⟩
 free:=λb u q n _=>by rw[Zo (br (aY (aJ q) hp))];exact n
 there:=λb u q _=>⟨u,k b u q⟩
 tups:=λb xs q=>by rw[Zo (ZH q hn)];exact q
 frzs:=λb u xs q=>by rw[Zo (ZH q hn)];exact q
 tbls:=λb ps q=>⟨#[],by rw[Zo (ZH q hn),q];simp⟩
def Un.write(mu:Mut (H x))(he:e=x\/H e=aa (.own x))(k:∀b u,b≠e->h.get? b=aa u->h'.get? b=aa u)(heo:∃u,h'.get? e=aa u):Un fs ex H (upd H x o) h h':=by
 have hx:∀b,H b=ac->b≠x:=λb n z=>by subst z;rw[n]at mu;exact mu
 have hb:∀b,H b=ac->b≠e:=λb n z=>by
  subst z;rcases he with r | r
  ·exact hx b n r
  ·rw[n]at r;cases r
 have hm:∀b u,H b=aa u->¬Mut (aa u)->b≠x:=λb u q nm z=>by subst z;rw[q]at mu;exact nm mu
 refine⟨λb u q n _ _=>k b u (hb b n) q,λb u q n _ _=>⟨u.slots,k b u (hb b n) q⟩,λb u q n _=>by rw[Zo (hx b n)];exact n,λb u q _=>?_,
  λb xs q=>by rw[Zo (hm b _ q λz=>z)];exact q,λb u xs q=>by rw[Zo (hm b _ q λz=>z)];exact q,λb ps q=>⟨#[],by rw[Zo (hm b _ q λz=>z),q];simp⟩⟩
 by_cases hbe:b=e
 ·subst hbe;exact heo
 ·exact⟨u,k b u hbe q⟩
end
noncomputable def trk(h:bJ)(H:Hp):List ax:=(aI h.objs.size).filter λa=>(H a).isSome
noncomputable def U9(h:bJ)(H:Hp):bJ:=cz h (trk h H)
def vM(h:bJ)(H:Hp):(U9 h H).objs.size=h.objs.size:=PySem.W.hideAll_size _ _
def uR(e:h.get? b=aa o)(n:H b=ac):(U9 h H).get? b=aa o:=
 eK _ e λhm=>by
  have q:(H b).isSome=ag:=(bK.mp hm).2;rw[n]at q;simp at q
def Zat(e:(U9 h H).get? b=aa o):h.get? b=aa o/\H b=ac:=by
 have e':h.get? b=aa o:=eX (trk h H) e;refine⟨e',?_⟩;cases q:H b with
 |none=>rfl
 |some x=>
  have hm:b∈trk h H:=bK.mpr ⟨bF.mpr (aJ e'),by simp[q]⟩
  have z:(U9 h H).get? b=ac:=cg (trk h H) hm;rw[z]at e;cases e
structure Mod(K:aj)(mg:aZ->Option ao)(base:bJ):Prop where
 kin:K.In base
 glob:base.Ns bn mg
 blt:∃mb,base.Ns me mb/\∀x:aZ,x≠"__name__"->mb x=cE x
 nolimit:base.NoLimit
structure Cx where
 prog:bq
 w:bG
 K:aj
 mg:aZ->Option ao
 base:bJ
 A:bV
 N:List aZ
 s₀:aw
 H₀:Hp
 env:Env
 outer:List Env
 stack:List Env
 ex:List ax
 fn:aZ->Bool
 calm:Bool
 pn:List (ax×dP)
 xe:ao->aw->Prop
noncomputable def frs(l:List Env):List ax:=l.filterMap (·.frame)
noncomputable abbrev Cx.fs(X:Cx):List ax:=frs X.outer
def Vis(sc:c8)(x:aZ):Prop:=sc.names.lookup x=aa .local\/sc.names.lookup x=aa .cell\/sc.names.lookup x=aa .free
def Loc(sc:c8)(x:aZ):Prop:=sc.names.lookup x=aa .local\/sc.names.lookup x=aa .cell
def Look(env:Env)(h:bJ)(m:aZ->Option ao)(x:aZ)(u:ao):Prop:=
 (env.kindOf x=aa .local/\m x=aa u)\/((env.kindOf x=aa .cell\/env.kindOf x=aa .free)/\∃c,env.cells.lookup x=aa c/\h.IsCell c (aa u))
structure Cx.Ok(X:Cx):Prop where
 mod:Mod X.K X.mg X.base
 kind:X.env.scope.kind=.function
 glob:X.env.globals=bn
 blt:X.env.builtins=me
 above:X.s₀.heap.objs.size<=X.env.locals
 inj:∀x y c,X.env.cells.lookup x=aa c->X.env.cells.lookup y=aa c->x=y
 has:∀x,(X.env.kindOf x=aa .cell\/X.env.kindOf x=aa .free)->∃c,X.env.cells.lookup x=aa c
 cab:∀x c,X.fn x=ag->X.env.cells.lookup x=aa c->X.s₀.heap.objs.size<=c
 hd:X.calm=ag->X.A.handled=ac
 frames:X.A.frames=aa X.stack
 stk:X.stack=X.outer\/(X.stack=X.env::X.outer/\X.env.frame=aa X.env.locals)
 exf:∀b∈X.ex,b≠X.env.locals/\∀x c,X.env.cells.lookup x=aa c->c≠b
 bs:∀b o,X.base.get? b=aa o->X.s₀.heap.get? b=aa o/\X.H₀ b=ac
 bsz:X.base.objs.size<=X.s₀.heap.objs.size
 noex:∀b o,X.base.get? b=aa o->b∉X.ex
 exfs:∀b∈X.ex,b∉X.fs
 funs:X.s₀.heap.FunFrames X.base X.outer
 frf:∀b∈X.fs,X.H₀ b=ac
structure Inv(X:Cx)(pq:List (ax×dP))(σ:List (Option V))(H:Hp)(s:aw):Prop where
 ok:X.Ok
 os:s.os=X.s₀.os
 bare:fH s.gens
 base:Un X.fs X.ex X.H₀ H X.s₀.heap s.heap
 loc:∃m,s.heap.Ns X.env.locals m/\∀(i:Nat)(x:aZ)(v:V),X.N[i]? = aa x->σ[i]? = aa (aa v)->Vis X.env.scope x->∃u,ZA v u/\Look X.env s.heap m x u
 cell:∀x c,X.env.cells.lookup x=aa c->∃v,s.heap.IsCell c v
 free:H X.env.locals=ac
 freeC:∀x c,X.env.cells.lookup x=aa c->H c=ac
 pin:∀p∈X.pn++pq,s.heap.get? p.1=aa p.2/\H p.1=ac/\p.1≠X.env.locals/\p.1∉X.fs/\∀v,p.2.data≠.cell v
 hok:HOk X.prog X.w H s.heap
 len:σ.length=X.N.length
section
variable{X:Cx}{pq:List (ax×dP)}{σ:List (Option V)}{H H':Hp}{s:aw}{h':bJ}
def Cx.Ok.nofr(ok:X.Ok)(e:X.base.get? b=aa o):b∉X.fs:=λhb=>by
 have:=(ok.funs.mem hb).1;rw[e]at this;cases this
theorem Inv.bs(I:Inv X pq σ H s):∀b o,X.base.get? b=aa o->s.heap.get? b=aa o/\H b=ac:=λb o e=>
 ⟨I.base.keep b o (I.ok.bs b o e).1 (I.ok.bs b o e).2 (I.ok.nofr e) (I.ok.noex b o e),I.base.free b o (I.ok.bs b o e).1 (I.ok.bs b o e).2 (I.ok.noex b o e)⟩
def Inv.bk(I:Inv X pq σ H s):∀b o,X.base.get? b=aa o->s.heap.get? b=aa o:=λb o e=>(I.bs b o e).1
theorem Inv.mod(I:Inv X pq σ H s):Mod X.K X.mg X.base:=I.ok.mod
def Inv.kIn(I:Inv X pq σ H s):X.K.In s.heap:=I.ok.mod.kin.keeps I.bk
theorem Inv.lt(I:Inv X pq σ H s):X.env.locals<s.heap.objs.size:=let ⟨_,hn,_⟩:=I.loc;hn.lt
def Inv.sz(I:Inv X pq σ H s):X.s₀.heap.objs.size<=s.heap.objs.size:=bx I.ok.above (iu I.lt)
def Inv.nofs(I:Inv X pq σ H s)(h:s.heap.objs.size<=a):a∉X.fs:=λhb=>by
 obtain⟨_,o,ho,_⟩:=I.ok.funs.mem hb;exact T7 (aY (aJ ho) (bx I.sz h)) (bw _)
def Inv.cne(I:Inv X pq σ H s):∀x c,X.env.cells.lookup x=aa c->c≠X.env.locals:=λx c e z=>by
 obtain⟨v,o,ho,hd⟩:=I.cell x c e;obtain⟨m,⟨o',es,ep,ho',hd',_⟩,_⟩:=I.loc;rw[z,ho']at ho;cases ho;rw[hd']at hd;cases hd
theorem Inv.funs(I:Inv X pq σ H s):s.heap.FunFrames X.base X.outer:=by
 have all:∀(l:List Env),(∀b∈frs l,b∈X.fs)->X.s₀.heap.FunFrames X.base l->s.heap.FunFrames X.base l:=by
  intro l
  induction l with
  |nil=>intro _ _;trivial
  |cons env r ih=>
   intro hs hl;obtain⟨hk,⟨L,o,hf,hn,ho,hd⟩,hr⟩:=hl;have hL:L∈X.fs:=hs L (by unfold frs;rw[bO,hf];exact am)
   obtain⟨sl,e⟩:=I.base.slot L o ho (I.ok.frf L hL) hL λz=>I.ok.exfs L z hL
   exact⟨hk,⟨L,_,hf,hn,e,hd⟩,ih (λb hb=>hs b (by unfold frs;rw[bO,hf];exact al _ hb)) hr⟩
 exact all X.outer (λ_ hb=>hb) I.ok.funs
theorem Inv.stack(I:Inv X pq σ H s):s.heap.FunFrames X.base X.stack:=by
 rcases I.ok.stk with e | ⟨e,hf⟩
 ·rw[e];exact I.funs
 ·rw[e]
  obtain⟨m,hn,_⟩:=I.loc;refine .cons (by rw[I.ok.kind];decide) hf hn ?_ I.funs
  exact bJ.get?_none_of_le (bx I.ok.bsz I.ok.above)
def Inv.stkSub(I:Inv X pq σ H s):∀b∈frs X.stack,b∈X.env.locals::X.fs:=λb hb=>by
 rcases I.ok.stk with e | ⟨e,hf⟩
 ·rw[e]at hb;exact al _ hb
 ·rw[e]at hb
  unfold frs at hb;rw[bO,hf]at hb;exact hb
def Inv.stkFree(I:Inv X pq σ H s):∀b∈frs X.stack,H b=ac:=λb hb=>by
 rcases az.mp (I.stkSub b hb)with e | hb
 ·rw[e];exact I.free
 ·obtain⟨_,o,ho,_⟩:=I.ok.funs.mem hb
  exact I.base.free b o ho (I.ok.frf b hb) λz=>I.ok.exfs b z hb
def Inv.step{g':Array GenState}{t':Nat}{d':Drawn}{ch:List ax}(I:Inv X pq σ H s)
  (hch:∀b∈ch,(b∈X.ex\/X.s₀.heap.objs.size<=b)/\b≠X.env.locals/\(∀x c,X.env.cells.lookup x=aa c->c≠b)/\∀p∈X.pn++pq,p.1≠b)
  (keep:∀b o,b≠X.env.locals->b∉X.fs->b∉ch->s.heap.get? b=aa o->H b=ac->h'.get? b=aa o)
  (slot:∀b o,b≠X.env.locals->b∈X.fs->b∉ch->s.heap.get? b=aa o->H b=ac->∃sl,h'.get? b=aa { o with slots:=sl })(free:∀b o,b∉ch->s.heap.get? b=aa o->H b=ac->H' b=ac)
  (there:∀b o,b∉ch->s.heap.get? b=aa o->∃o',h'.get? b=aa o')
  (tups:∀b xs,H b=aa (.tup xs)->H' b=aa (.tup xs))(frzs:∀b o u,H b=aa (.frz o u)->H' b=aa (.frz o u))(tbls:∀b ps,H b=aa (.tbl ps)->∃more,H' b=aa (.tbl (ps++more)))
  (ns:∀m,s.heap.Ns X.env.locals m->h'.Ns X.env.locals m)(hok:HOk X.prog X.w H' h')(hg:fH g') :
  Inv X pq σ H' { s with heap:=h',gens:=g',drawn:=d',toks:=t' }:=by
 have neL:∀b o,X.s₀.heap.get? b=aa o->b≠X.env.locals:=λb o e=>br (aY (aJ e) I.ok.above)
 have neC:∀b o,X.s₀.heap.get? b=aa o->b∉X.ex->b∉ch:=λb o e hx hb=>by
  rcases(hch b hb).1 with z | z
  ·exact hx z
  ·exact T7 (aY (aJ e) z) (bw _)
 have cellK:∀x c,X.env.cells.lookup x=aa c->∀v,s.heap.IsCell c v->h'.IsCell c v:=λx c e v ⟨o,ho,hd⟩=>by
  have nch:c∉ch:=λz=>(hch c z).2.2.1 x c e rfl
  by_cases hc:c∈X.fs
  ·obtain⟨sl,q⟩:=slot c o (I.cne x c e) hc nch ho (I.freeC x c e)
   exact⟨_,q,hd⟩
  ·exact⟨o,keep c o (I.cne x c e) hc nch ho (I.freeC x c e),hd⟩
 refine⟨I.ok,I.os,hg,⟨λb o e n hb hx=>?_,λb o e n hb hx=>?_,λb o e n hx=>?_,λb o e hx=>?_,λb xs e=>tups b xs (I.base.tups b xs e),λb o xs e=>frzs b o xs (I.base.frzs b o xs e),λb ps e=>?_⟩,?_,λx c e=>?_,?_,λx c e=>?_,λp hp=>?_,hok,I.len⟩
 ·exact keep b o (neL b o e) hb (neC b o e hx) (I.base.keep b o e n hb hx) (I.base.free b o e n hx)
 ·obtain⟨sl,e1⟩:=I.base.slot b o e n hb hx
  obtain⟨sl',e2⟩:=slot b _ (neL b o e) hb (neC b o e hx) e1 (I.base.free b o e n hx);exact⟨sl',e2⟩
 ·obtain⟨o',e1⟩:=I.base.there b o e hx
  exact free b o' (neC b o e hx) e1 (I.base.free b o e n hx)
 ·obtain⟨o',e1⟩:=I.base.there b o e hx
  exact there b o' (neC b o e hx) e1
 ·obtain⟨m1,e1⟩:=I.base.tbls b ps e
  obtain⟨m2,e2⟩:=tbls b _ e1;exact⟨m1++m2,by rw[e2,kz]⟩
 ·obtain⟨m,hn,hl⟩:=I.loc
  refine⟨m,ns m hn,λi x v e1 e2 e3=>?_⟩
  obtain⟨u,r,l⟩:=hl i x v e1 e2 e3;refine⟨u,r,?_⟩;rcases l with l | ⟨k,c,e,z⟩
  ·exact .inl l
  ·exact .inr ⟨k,c,e,cellK x c e _ z⟩
 ·obtain⟨v,z⟩:=I.cell x c e
  exact⟨v,cellK x c e v z⟩
 ·obtain⟨m,⟨o,_,_,ho,_⟩,_⟩:=I.loc
  exact free _ o (λz=>(hch _ z).2.1 rfl) ho I.free
 ·obtain⟨v,o,ho,hd⟩:=I.cell x c e
  exact free c o (λz=>(hch c z).2.2.1 x c e rfl) ho (I.freeC x c e)
 ·obtain⟨e,n,ne,nf,d⟩:=I.pin p hp
  have nch:p.1∉ch:=λz=>(hch p.1 z).2.2.2 p hp rfl
  exact⟨keep p.1 p.2 ne nf nch e n,free p.1 p.2 nch e n,ne,nf,d⟩
def Inv.un{t':Nat}(I:Inv X pq σ H s)(u:Un X.fs [] H H' s.heap h')(hok:HOk X.prog X.w H' h'):Inv X pq σ H' { s with heap:=h',toks:=t' }:=by
 obtain⟨m,⟨o,es,ep,ho,r⟩,_⟩:=id I.loc;obtain⟨sl,hL⟩:=u.any ho I.free (by simp)
 exact I.step (g':=s.gens) (d':=s.drawn) (ch:=[]) (λ_ z=>nomatch z) (λb o _ hb _ e n=>u.keep b o e n hb (by simp)) (λb o _ hb _ e n=>u.slot b o e n hb (by simp)) (λb o _ e n=>u.free b o e n (by simp)) (λb o _ e=>u.there b o e (by simp)) u.tups u.frzs u.tbls (λm' hm=>by
  obtain⟨o',es',ep',ho',r'⟩:=hm;rw[ho]at ho';cases ho';exact⟨_,es',ep',hL,r'⟩) hok I.bare
def Inv.call{g':Array GenState}{t':Nat}{d':Drawn}{ch:List ax}(I:Inv X pq σ H s)(u:Un (frs X.stack) ch H H' s.heap h')(hok:HOk X.prog X.w H' h')(hg:fH g')
  (hch:∀b∈ch,(b∈X.ex\/X.s₀.heap.objs.size<=b)/\b≠X.env.locals/\(∀x c,X.env.cells.lookup x=aa c->c≠b)/\∀p∈X.pn++pq,p.1≠b) :
  Inv X pq σ H' { s with heap:=h',gens:=g',drawn:=d',toks:=t' }:=by
 obtain⟨m,⟨o,es,ep,ho,r⟩,_⟩:=id I.loc;obtain⟨sl,hL⟩:=u.any ho I.free λz=>(hch _ z).2.1 rfl
 exact I.step (ch:=ch) hch (λb o hL hb hc e n=>u.keep b o e n (λz=>(az.mp (I.stkSub b z)).elim hL hb) hc) (λb o _ _ hc e n=>u.any e n hc) (λb o hc e n=>u.free b o e n hc) (λb o hc e=>u.there b o e hc) u.tups u.frzs u.tbls (λm' hm=>by
  obtain⟨o',es',ep',ho',r'⟩:=hm;rw[ho]at ho';cases ho';exact⟨_,es',ep',hL,r'⟩) hok hg
def Inv.turned{t':Nat}{it:ax}(I:Inv X pq σ H s)(k:∀b o,b≠it->s.heap.get? b=aa o->h'.get? b=aa o)(hn:H it=ac)(hL:it≠X.env.locals)
  (h1:it∈X.ex\/X.s₀.heap.objs.size<=it)(h2:∀x c,X.env.cells.lookup x=aa c->c≠it)(h3:∀p∈X.pn++pq,p.1≠it):Inv X pq σ H { s with heap:=h',toks:=t' }:=by
 have nit:∀b u,H b=aa u->b≠it:=λb u e z=>by rw[z,hn]at e;cases e
 refine I.step (g':=s.gens) (d':=s.drawn) (ch:=[it]) (λb hb=>?_) (λb o _ _ hc e _=>k b o (λz=>hc (by simp[z])) e) (λb o _ _ hc e _=>⟨o.slots,k b o (λz=>hc (by simp[z])) e⟩) (λ_ _ _ _ n=>n)
  (λb o hc e=>⟨o,k b o (λz=>hc (by simp[z])) e⟩) (λ_ _ e=>e) (λ_ _ _ e=>e) (λb ps e=>⟨#[],by rw[e];simp⟩) (λm hm=>?_) (λb u e=>?_) I.bare
 ·have e:b=it:=by simpa using hb
  subst e;exact⟨h1,hL,h2,h3⟩
 ·obtain⟨o,es,ep,ho,r⟩:=hm
  exact⟨o,es,ep,k _ o (Ne.symm hL) ho,r⟩
 ·refine(I.hok b u e).stay (λc v hc q=>k c v ?_ q) (λ_ q=>q) λ_ _ q=>q
  rcases hc with z | z
  ·rw[z];exact nit b u e
  ·exact nit c _ z
def Inv.tok(I:Inv X pq σ H s)(t:Nat):Inv X pq σ H { s with toks:=t }:=I.un (h':=s.heap) (t':=t) Un.refl I.hok
theorem Inv.kept(I:Inv X pq σ H s)(k:∀b u,s.heap.get? b=aa u->h'.get? b=aa u):Inv X pq σ H { s with heap:=h',toks:=t' }:=I.un (Un.kept k) (I.hok.kept k)
theorem Inv.laid(I:Inv X pq σ H s)(k:∀b u,s.heap.get? b=aa u->h'.get? b=aa u)(hp:s.heap.objs.size<=a)(new:ZK X.prog X.w (upd H a o) h' a o) :
  Inv X pq σ (upd H a o) { s with heap:=h',toks:=t' }:=I.un (Un.laid k hp (I.hok.fresh hp)) (I.hok.laid k hp new)
theorem Inv.write(I:Inv X pq σ H s)(mu:Mut (H x))(he:e=x\/H e=aa (.own x))(k:∀b u,b≠e->s.heap.get? b=aa u->h'.get? b=aa u)(heo:∃u,h'.get? e=aa u)
  (new:ZK X.prog X.w (upd H x o) h' x o):Inv X pq σ (upd H x o) { s with heap:=h',toks:=t' }:=I.un (Un.write mu he k heo) (I.hok.write mu he k heo new)
def Inv.pins_of(I:Inv X pq σ H s)(h:∀p∈pins',s.heap.get? p.1=aa p.2/\H p.1=ac/\p.1≠X.env.locals/\p.1∉X.fs/\∀v,p.2.data≠.cell v):Inv X pins' σ H s:=
 ⟨I.ok,I.os,I.bare,I.base,I.loc,I.cell,I.free,I.freeC,λp hp=>(bQ.mp hp).elim (λz=>I.pin p (cC _ z)) (h p),I.hok,I.len⟩
def Qp{N:List aZ}(hN:N.Nodup){i j:Nat}{x:aZ}(a:N[i]? = aa x)(b:N[j]? = aa x):i=j:=by
 obtain⟨h1,e1⟩:=ay.mp a;obtain⟨h2,e2⟩:=ay.mp b;exact(List.getElem_inj hN).mp (e1.trans e2.symm)
def QY{M:Model}{A:bV}{E:ao->aw->Prop}{i:Nat}{x:aZ}{v:V}{u:ao}{Q:Unit->aw->Prop}(I:Inv X pq σ H s)(hN:X.N.Nodup)(hi:X.N[i]? = aa x)(hx:Loc X.env.scope x)(r:ZA v u)
  (h:∀s',Inv X pq (σ.set i (aa v)) H s'->(∃a,eC a s.heap s'.heap/\(a=X.env.locals\/X.env.cells.lookup x=aa a))->Q () s')(hf:X.fn x=ag\/X.env.scope.names.lookup x=aa .local:=by first | exact .inl rfl | exact .inr rfl | assumption):aT M A (storeName X.env x u) Q E s:=by
 obtain⟨m,hn,hl⟩:=id I.loc;have hcls:(X.env.scope.kind == .class||(X.env.scope.kind == .module&&X.env.locals != X.env.globals))=ai:=by rw[I.ok.kind];rfl
 have hiσ:i<σ.length:=by rw[I.len];exact(ay.mp hi).1
 have cne:=I.cne;have tracked:∀{a:ax}{h':bJ},(∃o,s.heap.get? a=aa o/\H a=ac)->eC a s.heap h'->HOk X.prog X.w H h':=λ{a h'} ha hs b ob e=>by
  obtain⟨_,_,hfree⟩:=ha;refine(I.hok b ob e).stay (λc w' hc q=>(hs.2 c ?_).trans q) (λ_ q=>q) λ_ _ q=>q
  rintro rfl
  rcases hc with rfl | hc
  ·rw[hfree]at e;cases e
  ·rw[hfree]at hc;cases hc
 rcases hx with hk | hk
 ·refine wpAny_storeName_local hk hn (λh' hn' hs=>?_) hcls
  obtain⟨oL,_,_,hoL,_⟩:=id hn;refine h _ ⟨I.ok,I.os,I.bare,⟨λb o e n hb hx=>?_,λb o e n hb hx=>?_,I.base.free,λb o e hx=>?_,I.base.tups,I.base.frzs,I.base.tbls⟩,⟨_,hn',λj y v' e1 e2 e3=>?_⟩,λy c e=>?_,I.free,I.freeC,λp hp=>?_,tracked ⟨oL,hoL,I.free⟩ hs,by simpa using I.len⟩ ⟨_,hs,.inl rfl⟩
  ·exact(hs.2 b (br (aY (aJ e) I.ok.above))).trans (I.base.keep b o e n hb hx)
  ·obtain⟨sl,e1⟩:=I.base.slot b o e n hb hx
   exact⟨sl,(hs.2 b (br (aY (aJ e) I.ok.above))).trans e1⟩
  ·obtain⟨o',e1⟩:=I.base.there b o e hx
   exact⟨o',(hs.2 b (br (aY (aJ e) I.ok.above))).trans e1⟩
  ·by_cases hj:j=i
   ·subst hj
    rw[hi]at e1;cases e1;rw[aQ hiσ]at e2;cases e2;exact⟨u,r,.inl ⟨hk,by simp⟩⟩
   ·rw[aE (Ne.symm hj)]at e2
    obtain⟨u',r',q⟩:=hl j y v' e1 e2 e3;refine⟨u',r',?_⟩;rcases q with⟨k,e⟩ | ⟨k,c,e,z⟩
    ·refine .inl ⟨k,?_⟩
     have:y≠x:=λe=>hj (Qp hN e1 (e▸hi))
     simp[this,e]
    ·exact .inr ⟨k,c,e,z.sameBut hs (cne y c e)⟩
  ·obtain⟨w',z⟩:=I.cell y c e
   exact⟨w',z.sameBut hs (cne y c e)⟩
  ·obtain⟨e,n,ne,nf,d⟩:=I.pin p hp
   exact⟨(hs.2 p.1 ne).trans e,n,ne,nf,d⟩
 ·have hfn:X.fn x=ag:=by
   rcases hf with z | z
   ·exact z
   ·rw[z]at hk;cases hk
  obtain⟨c,hc⟩:=I.ok.has x (.inl hk);obtain⟨w',z⟩:=I.cell x c hc;refine wpAny_storeName_cell I.ok.kind hk hc z (λh' hc' hs=>?_)
  obtain⟨oc,hoc,hocd⟩:=id z;refine h { s with heap:=h' } ⟨I.ok,I.os,I.bare,⟨λb o e n hb hx=>?_,λb o e n hb hx=>?_,I.base.free,λb o e hx=>?_,I.base.tups,I.base.frzs,I.base.tbls⟩,⟨m,hn.sameBut hs (Ne.symm (cne x c hc)),λj y v' e1 e2 e3=>?_⟩,λy c' e=>?_,I.free,I.freeC,λp hp=>?_,tracked ⟨oc,hoc,I.freeC x c hc⟩ hs,by simpa using I.len⟩ ⟨c,hs,.inr hc⟩
  ·exact(hs.2 b (br (aY (aJ e) (I.ok.cab x c hfn hc)))).trans (I.base.keep b o e n hb hx)
  ·obtain⟨sl,e1⟩:=I.base.slot b o e n hb hx
   exact⟨sl,(hs.2 b (br (aY (aJ e) (I.ok.cab x c hfn hc)))).trans e1⟩
  ·obtain⟨o',e1⟩:=I.base.there b o e hx
   exact⟨o',(hs.2 b (br (aY (aJ e) (I.ok.cab x c hfn hc)))).trans e1⟩
  ·by_cases hj:j=i
   ·subst hj
    rw[hi]at e1;cases e1;rw[aQ hiσ]at e2;cases e2;exact⟨u,r,.inr ⟨.inl hk,c,hc,hc'⟩⟩
   ·rw[aE (Ne.symm hj)]at e2
    obtain⟨u',r',q⟩:=hl j y v' e1 e2 e3;refine⟨u',r',?_⟩;rcases q with q | ⟨k,c',e,z'⟩
    ·exact .inl q
    ·refine .inr ⟨k,c',e,z'.sameBut hs ?_⟩
     rintro rfl
     exact hj (Qp hN e1 (I.ok.inj _ _ _ e hc▸hi))
  ·by_cases hcc:c'=c
   ·subst hcc;exact⟨_,hc'⟩
   ·obtain⟨w2,z2⟩:=I.cell y c' e
    exact⟨w2,z2.sameBut hs hcc⟩
  ·obtain⟨e,n,ne,nf,d⟩:=I.pin p hp
   refine⟨(hs.2 p.1 ?_).trans e,n,ne,nf,d⟩;intro q;rw[q,hoc]at e;have q':oc=p.2:=af e;exact d w' (by rw[<-q'];exact hocd)
def Vp{E:ao->aw->Prop}{Q:Unit->aw->Prop}(I:Inv X pq σ H s)(hN:X.N.Nodup)(hi:X.N[i]? = aa x)(hx:Loc X.env.scope x)(r:ZA v u)
  (h:∀s',Inv X pq (σ.set i (aa v)) H s'->Q () s')(hf:X.fn x=ag\/X.env.scope.names.lookup x=aa .local:=by first | exact .inl rfl | exact .inr rfl | assumption):aT M A (storeName X.env x u) Q E s:=
 QY I hN hi hx r (λs' I' _=>h s' I') hf
def Inv.call'(I:Inv X pq σ H s)(ho:s'.os=s.os)(u:Un (frs X.stack) ch H H' s.heap s'.heap)(hok:HOk X.prog X.w H' s'.heap)(hg:fH s'.gens)
  (hch:∀b∈ch,(b∈X.ex\/X.s₀.heap.objs.size<=b)/\b≠X.env.locals/\(∀x c,X.env.cells.lookup x=aa c->c≠b)/\∀p∈X.pn++pq,p.1≠b):Inv X pq σ H' s':=by
 obtain⟨h',g',d',t',o'⟩:=s';have e:o'=s.os:=ho;subst e;exact I.call (g':=g') (t':=t') (d':=d') u hok hg hch
end
abbrev XK:=ao->Option ax->Hp->Prop
noncomputable abbrev St:=List (Option V)
abbrev VK:=V->Hp->Prop
abbrev TE:=St->Hp->VK->Prop
abbrev TT:=St->Hp->(Bool->Hp->Prop)->Prop
abbrev TA:=St->Hp->(List V->Hp->Prop)->Prop
structure Ends where
 nx:St->Hp->Prop
 rt:VK
 bk:St->Hp->Prop:=λ_ _=>False
 ct:St->Hp->Prop:=λ_ _=>False
abbrev TS:=Ends->St->Hp->Prop
def EP(X:Cx)(pq:List (ax×dP))(σ:St)(Q:VK)(u:ao)(s':aw):Prop:=∃v H',Inv X pq σ H' s'/\ZA v u/\Q v H'
def TP(X:Cx)(pq:List (ax×dP))(σ:St)(Q:Bool->Hp->Prop)(b:Bool)(s':aw):Prop:=∃H',Inv X pq σ H' s'/\Q b H'
def AP(X:Cx)(pq:List (ax×dP))(σ:St)(Q:List V->Hp->Prop)(us:List ao)(s':aw):Prop:=∃vs H',Inv X pq σ H' s'/\Vals vs us/\Q vs H'
def SP(X:Cx)(pq:List (ax×dP))(D:Ends)(f:Flow)(s':aw):Prop:=
 match f with
 |.next=>∃σ' H',Inv X pq σ' H' s'/\D.nx σ' H'
 |.brk=>∃σ' H',Inv X pq σ' H' s'/\D.bk σ' H'
 |.cont=>∃σ' H',Inv X pq σ' H' s'/\D.ct σ' H'
 |.ret u=>∃v σ' H',Inv X pq σ' H' s'/\ZA v u/\D.rt v H'
def PE(X:Cx)(e:Expr)(t:TE):Prop:=
 ∀(pq:List (ax×dP))(s:aw)(σ:St)(H:Hp)(Q:VK),Inv X pq σ H s->t σ H Q->aT (bc X.prog X.w) X.A (bZ e X.env) (EP X pq σ Q) X.xe s
def PT(X:Cx)(e:Expr)(t:TT):Prop:=
 ∀(pq:List (ax×dP))(s:aw)(σ:St)(H:Hp)(Q:Bool->Hp->Prop),Inv X pq σ H s->t σ H Q->aT (bc X.prog X.w) X.A (isTrue e X.env (bZ e X.env)) (TP X pq σ Q) X.xe s
def PW(X:Cx)(e:Expr)(t:TT):Prop:=
 ∀(whole:mf ao)(pq:List (ax×dP))(s:aw)(σ:St)(H:Hp)(Q:Bool->Hp->Prop),Inv X pq σ H s->t σ H Q->aT (bc X.prog X.w) X.A (isTrue e X.env whole) (TP X pq σ Q) X.xe s
def PW.pt(h:PW X e t):PT X e t:=h _
def PA(X:Cx)(es:List Expr)(t:TA):Prop:=
 ∀(pos:dZ)(pq:List (ax×dP))(s:aw)(σ:St)(H:Hp)(Q:List V->Hp->Prop),Inv X pq σ H s->t σ H Q->aT (bc X.prog X.w) X.A (spliced (cK pos (aC es X.env))) (AP X pq σ Q) X.xe s
def PS(X:Cx)(st:de)(t:TS):Prop:=
 ∀(pq:List (ax×dP))(s:aw)(σ:St)(H:Hp)(D:Ends),Inv X pq σ H s->t D σ H->aT (bc X.prog X.w) X.A (exec st X.env) (SP X pq D) X.xe s
def PSs(X:Cx)(st:List de)(t:TS):Prop:=
 ∀(pq:List (ax×dP))(s:aw)(σ:St)(H:Hp)(D:Ends),Inv X pq σ H s->t D σ H->aT (bc X.prog X.w) X.A (execs st X.env) (SP X pq D) X.xe s
def thn{α:Type}{t:mf α}{Q Q':α->aw->Prop}{M:Model}{A:bV}{E:ao->aw->Prop}{s:aw}(h:aT M A t Q E s)(hQ:∀a s,Q a s->Q' a s):aT M A t Q' E s:=cF h hQ λ_ _ x=>x
section
variable{X:Cx}
def Jv(i:Nat):TE:=λσ H Q=>∃v,σ[i]? = aa (aa v)/\Q v H
def tC(v:V):TE:=λ_ H Q=>Q v H
def Y8(hN:X.N[i]? = aa x)(hv:Vis X.env.scope x)(hd:(x == ("__debug__" : aZ))=ai:=by decide)(hcd:(x == ("__classdict__" : aZ))=ai:=by decide):PE X (.Name x pos) (Jv i):=by
 intro pq s σ H Q I h;obtain⟨v,e,h⟩:=h;obtain⟨m,hn,hl⟩:=I.loc;obtain⟨u,r,l⟩:=hl i x v hN e hv;have fin:EP X pq σ Q u s:=⟨v,H,I,r,h⟩;rcases l with⟨hk,hm⟩ | ⟨hk,c,hc,hcell⟩
 ·exact gq (fK I.ok.kind hk hn hm fin) hd
 ·rcases hk with hk | hk
  ·exact gq (fX I.ok.kind hk hc hcell fin) hd
  ·exact gq (ke I.ok.kind hk hc hcell fin hcd) hd
def Jy{i j pos}:PE X (.Constant (.int i) j pos) (tC (.int i)):=λ_ _ _ H _ I h=>wpAny_Constant_int ⟨.int i,H,I.tok _,⟨_,rfl⟩,h⟩
def xt{b j pos}:PE X (.Constant (.bool b) j pos) (tC (.bl b)):=λ_ _ _ H _ I h=>Constant_bool ⟨.bl b,H,I,rfl,h⟩
def yI{j pos}:PE X (.Constant .none j pos) (tC .non):=λ_ _ _ H _ I h=>Constant_none ⟨.non,H,I,rfl,h⟩
def JN{x j pos}:PE X (.Constant (.str x) j pos) (tC (.str x)):=λ_ _ _ H _ I h=>Calls.Constant_str ⟨.str x,H,I.tok _,⟨_,rfl⟩,h⟩
def Gl(X:Cx)(x:aZ):Prop:=X.env.kindOf x=aa .globalImplicit
def Vj{E:ao->aw->Prop}{Q:ao->aw->Prop}(I:Inv X pq σ H s)(hg:Gl X x)(hm:X.mg x=aa u)(h:Q u s)
  (hd:(x == ("__debug__" : aZ))=ai:=by decide):aT (bc X.prog X.w) X.A (bZ (.Name x pos) X.env) Q E s:=
 Calls.Name_function_global I.ok.kind hg (Calls.loadGlobal_global (by rw[I.ok.glob];exact I.mod.glob.keeps I.bk) hm h) hd
def W5{E:ao->aw->Prop}{Q:ao->aw->Prop}(I:Inv X pq σ H s)(hg:Gl X x)(hm:X.mg x=ac)(hv:cE x=aa u)(h:Q u s)
  (hn:x≠"__name__":=by decide)(hd:(x == ("__debug__" : aZ))=ai:=by decide):aT (bc X.prog X.w) X.A (bZ (.Name x pos) X.env) Q E s:=by
 obtain⟨mb,h1,h2⟩:=I.mod.blt;exact Calls.Name_function_global I.ok.kind hg (Calls.loadGlobal_builtin (by rw[I.ok.glob];exact I.mod.glob.keeps I.bk) hm (by rw[I.ok.blt];exact h1.keeps I.bk) ((h2 x hn).trans hv) h) hd
def Zba(hg:Gl X x)(hm:X.mg x=aa u)(r:ZA v u)(hd:(x == ("__debug__" : aZ))=ai:=by decide):PE X (.Name x pos) (tC v):=
 λ_ _ _ H _ I h=>Vj I hg hm ⟨v,H,I,r,h⟩ hd
def Ut(hg:Gl X x)(hm:X.mg x=ac)(hv:cE x=aa u)(r:ZA v u)(hn:x≠"__name__":=by decide)(hd:(x == ("__debug__" : aZ))=ai:=by decide):PE X (.Name x pos) (tC v):=
 λ_ _ _ H _ I h=>W5 I hg hm hv ⟨v,H,I,r,h⟩ hn hd
variable{a b:Expr}{ta tb:TE}{pos:dZ}
def PC(X:Cx)(op:mQ)(a b:Expr)(t:TE):Prop:=
 ∀(pq:List (ax×dP))(s:aw)(σ:St)(H:Hp)(Q:VK),Inv X pq σ H s->t σ H Q->
  aT (bc X.prog X.w) X.A (bZ a X.env) (λv s₁=>aT (bc X.prog X.w) X.A (bZ b X.env) (λu s₂=>aT (bc X.prog X.w) X.A (cu op v u) (EP X pq σ Q) X.xe s₂) X.xe s₁) X.xe s
def jb(b:Expr)(h:op≠.In)(h2:op≠.NotIn):c9 op b=ai:=by
 have e1:(op == mQ.In)=ai:=by cases op <;> first | rfl | exact T7 rfl h
 have e2:(op == mQ.NotIn)=ai:=by cases op <;> first | rfl | exact T7 rfl h2
 cases b <;> simp[c9,e1,e2]
def Zef(ta:TE):TE:=λσ H Q=>ta σ H λx H1=>Q (.bl (ae (x=.non))) H1
def ZA.none_iff(r:ZA x v):(v == bE)=ae (x=.non):=by
 cases x with|non=>cases r;rfl|bl _=>cases r;rfl|int _=>obtain⟨t,rfl⟩:=r;rfl|str _=>obtain⟨t,rfl⟩:=r;rfl|byt _=>obtain⟨t,rfl⟩:=r;rfl|flt _=>obtain⟨t,rfl⟩:=r;rfl|ref _=>cases r;rfl|ty _=>cases r;rfl
def ZcN{j pos'}(ha:PE X a ta):PC X .Is a (.Constant .none j pos') (Zef ta):=by
 intro pq s σ H Q I h;refine thn (ha pq s σ H _ I h) λv s1 ⟨x,H1,I1,r1,q1⟩=>?_
 exact Constant_none (is_none_gen ⟨.bl _,H1,I1,by rw[r1.none_iff];rfl,q1⟩)
def tB(t:TE):TT:=λσ H Q=>t σ H λx H1=>∃c,x=.bl c/\Q c H1
def Zcz{op:mQ}{t:TE}(h:PC X op a b t)(h1:c9 op b=ai:=by first | exact jb _ (by decide) (by decide) | rfl):PT X (.Compare a [op] [b] pos) (tB t):=by
 intro pq s σ H Q I hw;refine iM (thn (h pq s σ H _ I hw) λv s1 h1=>thn h1 λu s2 h2=>thn h2 λc s3 ⟨x,H1,I1,r1,q1⟩=>?_) h1
 obtain⟨d,rfl,q⟩:=q1;cases r1;exact cT ⟨H1,I1,q⟩
def Zdg{e:Expr}{t:TE}(h:PE X e t)(he:∀whole,isTrue e X.env whole=(do let v <-whole;kR e.pos;gN [v] (mL v)):=by intro _;rfl):PT X e (tB t):=by
 intro pq s σ H Q I hw;refine isTrue_plain (thn (h pq s σ H _ I hw) λv s1 ⟨x,H1,I1,r1,q1⟩=>?_) (he _)
 obtain⟨d,rfl,q⟩:=q1;cases r1;exact cT ⟨H1,I1,q⟩
variable{tA tB':TT}{rest:List Expr}
def tOr(t u:TT):TT:=λσ H Q=>t σ H λc H1=>if c=ag then Q ag H1 else u σ H1 Q
def Zd8(t:TT):TT:=λσ H Q=>t σ H λc H1=>Q (!c) H1
def Zah(ha:PT X a tA):PW X (.BoolOp .Or [a] pos) tA:=by
 intro wh pq s σ H Q I h;refine isTrue_or (thn (ha pq s σ H Q I h) λc s1 e=>?_)
 cases c with|false=>exact isTrue_or_nil e|true=>exact e
def Zb7(ha:PT X a tA)(hb:PW X (.BoolOp .Or (b::rest) pos) tB'):PW X (.BoolOp .Or (a::b::rest) pos) (tOr tA tB'):=by
 intro wh pq s σ H Q I h;refine isTrue_or (thn (ha pq s σ H _ I h) λc s1 ⟨H1,I1,q1⟩=>?_)
 cases c with|true=>exact⟨H1,I1,q1⟩|false=>exact hb wh pq s1 σ H1 Q I1 q1
def j4(ha:PT X a tA):PT X (.UnaryOp .Not a pos) (Zd8 tA):=by
 intro pq s σ H Q I h;exact isTrue_not (ha pq s σ H (λc H1=>Q (!c) H1) I h)
def ZdM(ta tb:TE):TE:=λσ H Q=>ta σ H λx H1=>∃c,x=.bl c/\if c=ag then tb σ H1 Q else Q (.bl ai) H1
def Zdm(ha:PE X a ta)(hb:PE X (.BoolOp .And (b::rest) pos) tb):PE X (.BoolOp .And (a::b::rest) pos) (ZdM ta tb):=by
 intro pq s σ H Q I h;refine BoolOp_and (thn (ha pq s σ H _ I h) λv s1 ⟨x,H1,I1,r1,q1⟩=>?_)
 obtain⟨c,rfl,q1⟩:=q1;cases r1;refine cT ?_;cases c with|true=>exact hb pq s1 σ H1 Q I1 q1|false=>exact⟨.bl ai,H1,I1,rfl,q1⟩
end
def SqL(K:aj)(H:Hp)(a:ax)(xs:List V):Prop:=
 Rd H a (.lst xs)\/
  ∃(o:dP)(its:Array ao)(n:Nat),K.lookup a=aa o/\o.cls=.type "list"/\o.dict=ac/\o.data=.seq its n/\its.size<=aX/\Vals xs its.toList
def SqT(K:aj)(H:Hp)(a:ax)(xs:List V):Prop:=
 Rd H a (.tup xs)\/
  ∃(o:dP)(its:Array ao)(n:Nat),K.lookup a=aa o/\o.cls=.type "tuple"/\o.data=.seq its n/\its.size<=aX/\Vals xs its.toList
noncomputable def ZeF:ao->Option V
 |.none=>aa .non
 |.bool b=>aa (.bl b)
 |.int i _=>aa (.int i)
 |.str x _=>aa (.str x)
 |.bytes b _=>aa (.byt b)
 |.float b _=>aa (.flt b)
 |.ref a=>aa (.ref a)
 |.type n=>aa (.ty n)
 |_=>ac
def ZA.abs(r:ZA x u):ZeF u=aa x:=by
 cases x with|non=>cases r;rfl|bl _=>cases r;rfl|int _=>obtain⟨t,rfl⟩:=r;rfl|str _=>obtain⟨t,rfl⟩:=r;rfl|byt _=>obtain⟨t,rfl⟩:=r;rfl|flt _=>obtain⟨t,rfl⟩:=r;rfl|ref _=>cases r;rfl|ty _=>cases r;rfl
def ZA.inj{x y:V}{u:ao}(r:ZA x u)(q:ZA y u):x=y:=af (r.abs.symm.trans q.abs)
theorem Vals.inj:∀{xs ys:List V}{us:List ao},Vals xs us->Vals ys us->xs=ys
 |_,_,_,.nil,.nil=>rfl
 |_,_,_,.cons r t,.cons r' t'=>by rw[r.inj r',Vals.inj t t']
section
variable{X:Cx}{pq:List (ax×dP)}{σ:St}{H:Hp}{s:aw}{a:ax}{xs ys:List V}
def SqL.of{K:aj}(h:H a=aa (.lst xs)):SqL K H a xs:=.inl (.inl h)
def SqT.of{K:aj}(h:H a=aa (.tup xs)):SqT K H a xs:=.inl (.inl h)
def Inv.list(I:Inv X pq σ H s)(h:SqL X.K H a xs):∃its:List ao,Vals xs its/\PlainL s.heap a its.toArray/\xs.length<=aX:=by
 rcases h with h | ⟨o,its,n,hk,hc,hd,hs,hz,r⟩
 ·obtain⟨z,its,n,r,e⟩:=h.ok I.hok
  exact⟨its,r,⟨_,n,e,rfl,rfl,rfl⟩,z⟩
 ·refine⟨its.toList,r,⟨o,n,I.kIn a o hk,hc,hd,by simpa using hs⟩,?_⟩
  have e:=r.length;simp only[cX]at e;omega
def Inv.tuple(I:Inv X pq σ H s)(h:SqT X.K H a xs):∃its:List ao,Vals xs its/\mK s.heap a its.toArray/\xs.length<=aX:=by
 rcases h with h | ⟨o,its,n,hk,hc,hs,hz,r⟩
 ·obtain⟨z,its,r,p⟩:=h.ok I.hok
  exact⟨its,r,p,z⟩
 ·refine⟨its.toList,r,⟨o,I.kIn a o hk,hc,n,by simpa using hs⟩,?_⟩
  have e:=r.length;simp only[cX]at e;omega
def Inv.list_inj(I:Inv X pq σ H s)(h:SqL X.K H a xs)(h':SqL X.K H a ys):xs=ys:=by
 obtain⟨its,r,⟨o,n,e,_,_,d⟩,_⟩:=I.list h;obtain⟨its',r',⟨o',n',e',_,_,d'⟩,_⟩:=I.list h';rw[e]at e';cases e';rw[d]at d';injection d' with d1 _
 have:its=its':=by simpa using congrArg Array.toList d1
 subst this;exact r.inj r'
def Inv.tuple_inj(I:Inv X pq σ H s)(h:SqT X.K H a xs)(h':SqT X.K H a ys):xs=ys:=by
 obtain⟨its,r,⟨o,e,_,n,d⟩,_⟩:=I.tuple h;obtain⟨its',r',⟨o',e',_,n',d'⟩,_⟩:=I.tuple h';rw[e]at e';cases e';rw[d]at d';injection d' with d1 _
 have:its=its':=by simpa using congrArg Array.toList d1
 subst this;exact r.inj r'
end
section
variable{X:Cx}{st:de}{rest:List de}{t u:TS}{e:Expr}{te:TE}{pos:dZ}
def qx:TS:=λD σ H=>D.nx σ H
def Gj(t u:TS):TS:=λD σ H=>t { D with nx:=u D } σ H
def J9:PSs X [] qx:=λ_ _ σ H _ I h=>d3 ⟨σ,H,I,h⟩
def YN(h1:PS X st t)(h2:PSs X rest u):PSs X (st::rest) (Gj t u):=by
 intro pq s σ H D I h;refine eD (thn (h1 pq s σ H { D with nx:=u D } I h) λf s1 q=>?_)
 cases f with
 |next=>
  obtain⟨σ',H',I',q⟩:=q;exact h2 pq s1 σ' H' D I' q
 |ret v=>exact q
 |brk=>exact q
 |cont=>exact q
def Vl(h1:PS X st t):PSs X [st] t:=by
 intro pq s σ H D I h;refine eD (thn (h1 pq s σ H D I h) λf s1 q=>?_)
 cases f with|next=>exact d3 q|ret v=>exact q|brk=>exact q|cont=>exact q
def Inv.quiet(I:Inv X pq σ H s):interactive X.env=ai:=by simp[interactive,I.ok.kind]
def Zb0(te:TE):TS:=λD σ H=>te σ H λ_ H1=>D.nx σ H1
def yY(he:PE X e te)(hs:eE e ac pos.line X.env=cR ai:=by rfl):PS X (.Expr e pos) (Zb0 te):=by
 intro pq s σ H D I h;exact wpAny_Expr_any (thn (he pq s σ H _ I h) λv s1 ⟨x,H1,I1,r1,q1⟩=>⟨σ,H1,I1,q1⟩) I.quiet hs
def ja(te:TE):TS:=λD σ H=>te σ H D.rt
def UM(he:PE X e te):PS X (.Return (aa e) pos) (ja te):=by
 intro pq s σ H D I h;exact wpAny_Return_some (thn (he pq s σ H _ I h) λv s1 ⟨x,H1,I1,r1,q1⟩=>⟨x,σ,H1,I1,r1,q1⟩)
def ZdD(c:TT)(t u:TS):TS:=λD σ H=>c σ H λb H1=>if b=ag then t D σ H1 else u D σ H1
def qB{c:Expr}{a b:List de}{tc:TT}(hc:PT X c tc)(ha:PSs X a t)(hb:PSs X b u):PS X (.If c a b pos) (ZdD tc t u):=by
 intro pq s σ H D I h;refine wpAny_If (thn (hc pq s σ H _ I h) λd s1 ⟨H1,I1,q1⟩=>?_)
 cases d with|true=>exact ha pq s1 σ H1 D I1 q1|false=>exact hb pq s1 σ H1 D I1 q1
end
abbrev TG:=V->St->Hp->(St->Hp->Prop)->Prop
abbrev TGs:=List V->St->Hp->(St->Hp->Prop)->Prop
def PG(X:Cx)(target:Expr)(t:TG):Prop:=
 ∀(pq:List (ax×dP))(s:aw)(σ:St)(H:Hp)(v:V)(u:ao)(Q:St->Hp->Prop),Inv X pq σ H s->ZA v u->t v σ H Q->
  aT (bc X.prog X.w) X.A (assign target X.env u) (λ_ s'=>∃σ' H',Inv X pq σ' H' s'/\Q σ' H') X.xe s
def PGs(X:Cx)(ts:List Expr)(t:TGs):Prop:=
 ∀(pq:List (ax×dP))(s:aw)(σ:St)(H:Hp)(vs:List V)(us:List ao)(Q:St->Hp->Prop),Inv X pq σ H s->Vals vs us->t vs σ H Q->
  aT (bc X.prog X.w) X.A (assignInOrder ((cr ts X.env).map (·.2)) us) (λ_ s'=>∃σ' H',Inv X pq σ' H' s'/\Q σ' H') X.xe s
abbrev TSet:=V->V->V->Hp->(Hp->Prop)->Prop
def PSet(X:Cx)(t:TSet):Prop:=
 ∀(pq:List (ax×dP))(s:aw)(σ:St)(H:Hp)(o i v:V)(ov iv u:ao)(Q:Hp->Prop),Inv X pq σ H s->ZA o ov->ZA i iv->ZA v u->t o i v H Q->
  aT (bc X.prog X.w) X.A (setItem ov iv u) (λ_ s'=>∃H',Inv X pq σ H' s'/\Q H') X.xe s
abbrev TIp:=V->V->Hp->VK->Prop
def PIp(X:Cx)(op:mh)(t:TIp):Prop:=
 ∀(pq:List (ax×dP))(s:aw)(σ:St)(H:Hp)(x y:V)(v u:ao)(Q:VK),Inv X pq σ H s->ZA x v->ZA y u->t x y H Q->
  aT (bc X.prog X.w) X.A (inplaceOp op v u) (EP X pq σ Q) X.xe s
section
variable{X:Cx}{pos:dZ}
def UP(i:Nat):TG:=λv σ H Q=>Q (σ.set i (aa v)) H
def wD(hN:X.N.Nodup)(hi:X.N[i]? = aa x)(hx:Loc X.env.scope x)(hf:X.fn x=ag\/X.env.scope.names.lookup x=aa .local:=by first | exact .inl rfl | exact .inr rfl | assumption):PG X (.Name x pos) (UP i):=by
 intro pq s σ H v u Q I r h;exact kS (Vp I hN hi hx r (λs' I'=>⟨_,H,I',h⟩) hf)
def ZeQ:TGs:=λvs σ H Q=>vs=[]/\Q σ H
def Zeh(t:TG)(u:TGs):TGs:=λvs σ H Q=>∃v r,vs=v::r/\t v σ H λσ' H'=>u r σ' H' Q
def ZaY:PGs X [] ZeQ:=by
 intro pq s σ H vs us Q I r h;obtain⟨e,h⟩:=h;subst e;cases r;exact assignInOrder_nil ⟨σ,H,I,h⟩
def uW{e:Expr}{es:List Expr}{t:TG}{u:TGs}(h1:PG X e t)(h2:PGs X es u)
  (hs:(cr (e::es) X.env).map (·.2)=assign e X.env::(cr es X.env).map (·.2):=by rfl):PGs X (e::es) (Zeh t u):=by
 intro pq s σ H vs us Q I r h;obtain⟨v,vr,e1,h⟩:=h;subst e1;cases r with
 |cons r rr=>
  rw[hs];refine assignInOrder_cons (thn (h1 pq s σ H _ _ _ I r h) λ_ s1 ⟨σ1,H1,I1,q1⟩=>?_)
  exact h2 pq s1 σ1 H1 _ _ Q I1 rr q1
def ZeC(K:aj)(n:Nat)(t:TGs):TG:=λv σ H Q=>∃a xs,v=.ref a/\SqT K H a xs/\xs.length=n/\t xs σ H Q
def Zcp(hc:X.calm=ag)(h:PGs X es t)
  (hn:(cr es X.env).length=n:=by rfl)(hst:(cr es X.env).findIdx? (·.1)=ac:=by rfl):PG X (.Tuple es k pos) (ZeC X.K n t):=by
 intro pq s σ H v u Q I r hw;obtain⟨a,xs,e1,hq,hl,hw⟩:=hw;subst e1;cases r;obtain⟨its,rv,ht,hz⟩:=I.tuple hq;refine assign_Tuple_tuple (I.ok.hd hc) ht (by simp[hn,<-hl,rv.length]) hst λh' hx=>?_
 have I1:Inv X pq σ H { s with heap:=h' }:=I.kept (t':=s.toks) λb o e=>hx b o (br (aJ e)) e
 exact h pq _ σ H xs _ Q I1 (by simpa using rv) hw
def ZeP(to ti:TE)(t:TSet):TG:=λv σ H Q=>to σ H λo H1=>ti σ H1 λi H2=>t o i v H2 λH3=>Q σ H3
def Zda{o i:Expr}{to ti:TE}{t:TSet}(ho:PE X o to)(hi:PE X i ti)(hs:PSet X t)
  (ha:∀v,assign (.Subscript o i pos) X.env v=(do
   let ov <-gN [v] (bZ o X.env)
   let iv <-gN [v,ov] (bZ i X.env)
   kR pos
   gN [v,ov,iv] (setItem ov iv v)
   release [v,ov,iv] []):=by intro _;rfl):PG X (.Subscript o i pos) (ZeP to ti t):=by
 intro pq s σ H v u Q I r h;rw[ha];refine ak (cm (thn (ho pq s σ H _ I h) λov s1 ⟨x,H1,I1,r1,q1⟩=>?_))
 refine ak (cm (thn (hi pq s1 σ H1 _ I1 q1) λiv s2 ⟨y,H2,I2,r2,q2⟩=>?_))
 refine ak (gV (ak (cm (thn (hs pq s2 σ H2 x y v ov iv u _ I2 r1 r2 r q2) λ_ s3 ⟨H3,I3,q3⟩=>?_))))
 exact wpAny_release ⟨σ,H3,I3,q3⟩
def ym(te:TE)(g:TG):TS:=λD σ H=>te σ H λx H1=>g x σ H1 D.nx
def jM{tg e:Expr}{te:TE}{g:TG}(he:PE X e te)(hg:PG X tg g)(hs:km [tg] e pos.line X.env=cR ai:=by rfl)(hw:kn [tg] e X.env=cR ac:=by rfl)
  (h1:(cr [tg] X.env).map (·.2)=[assign tg X.env]:=by rfl):PS X (.Assign [tg] e pos) (ym te g):=by
 intro pq s σ H D I h;refine wpAny_Assign_stores (thn (he pq s σ H _ I h) λv s1 ⟨x,H1,I1,r1,q1⟩=>?_) hs hw
 rw[h1];exact thn (hg pq s1 σ H1 x v _ I1 r1 q1) λ_ s2 q=>q
def VM{i:Nat}{x:aZ}{e:Expr}{te:TE}{pos':dZ}(hN:X.N.Nodup)(hi:X.N[i]? = aa x)(hx:Loc X.env.scope x)(he:PE X e te)(hs:eE e (aa (.Name x pos')) pos.line X.env=cR ai:=by rfl)(hf:X.fn x=ag\/X.env.scope.names.lookup x=aa .local:=by first | exact .inl rfl | exact .inr rfl | assumption) :
  PS X (.Assign [.Name x pos'] e pos) (ym te (UP i)):=by
 intro pq s σ H D I h;refine wpAny_Assign_Name (thn (he pq s σ H _ I h) λv s1 ⟨y,H1,I1,r1,q1⟩=>?_) hs
 exact Vp I1 hN hi hx r1 (λs2 I2=>⟨_,H1,I2,q1⟩) hf
def ZeM(i:Nat)(te:TE)(ti:TIp):TS:=λD σ H=>∃x,σ[i]? = aa (aa x)/\te σ H λy H1=>ti x y H1 λz H2=>D.nx (σ.set i (aa z)) H2
def Zcm{i:Nat}{x:aZ}{e:Expr}{te:TE}{op:mh}{ti:TIp}{pos':dZ}(hN:X.N.Nodup)(hi:X.N[i]? = aa x)(hx:Loc X.env.scope x)(he:PE X e te)(ho:PIp X op ti)(hf:X.fn x=ag\/X.env.scope.names.lookup x=aa .local:=by first | exact .inl rfl | exact .inr rfl | assumption) :
  PS X (.AugAssign (.Name x pos') op e pos) (ZeM i te ti):=by
 intro pq s σ H D I h;obtain⟨v,e1,h⟩:=h;obtain⟨m,hn,hl⟩:=I.loc;have vis:Vis X.env.scope x:=by rcases hx with k | k;exact .inl k;exact .inr (.inl k)
 obtain⟨u,r,l⟩:=hl i x v hi e1 vis;refine wpAny_AugAssign_Name ?_;have go:aT (bc X.prog X.w) X.A (bZ e X.env) (λw s₂=>aT (bc X.prog X.w) X.A (inplaceOp op u w) (λr s₃=>aT (bc X.prog X.w) X.A (storeName X.env x r) (λ_=>SP X pq D .next) X.xe s₃) X.xe s₂) X.xe s:=by
  refine thn (he pq s σ H _ I h) λw s1 ⟨y,H1,I1,r1,q1⟩=>?_
  refine thn (ho pq s1 σ H1 v y u w _ I1 r r1 q1) λz s2 ⟨zv,H2,I2,r2,q2⟩=>?_
  exact Vp I2 hN hi hx r2 (λs3 I3=>⟨_,H2,I3,q2⟩) hf
 rcases l with⟨hk,hm⟩ | ⟨hk,c,hc,hcell⟩
 ·exact fK I.ok.kind hk hn hm go
 ·rcases hk with hk | hk
  ·exact fX I.ok.kind hk hc hcell go
  ·rcases hx with k | k
   ·have:X.env.scope.names.lookup x=aa .free:=hk
    rw[k]at this;cases this
   ·have:X.env.scope.names.lookup x=aa .free:=hk
    rw[k]at this;cases this
end
section
variable{X:Cx}{pos:dZ}
def Zc8(c:TT)(tb:TS):TS:=λD σ H=>∃W:Nat->St->Hp->Prop,(∃m,W m σ H)/\∀m σ H,W m σ H->
 c σ H λb H1=>if b=ag then ∃N:St->Hp->Prop,(∀σ' H',N σ' H'->∃m',m'<m/\W m' σ' H')/\tb { D with nx:=N,ct:=N,bk:=D.nx } σ H1 else D.nx σ H1
def jf{c:Expr}{body:List de}{tc:TT}{tb:TS}(hp:lx (bc X.prog X.w) X.A X.env X.xe)(hc:PT X c tc)(hb:PSs X body tb):PS X (.While c body [] pos) (Zc8 tc tb):=by
 intro pq s σ H D I h;obtain⟨W,⟨m0,w0⟩,turn⟩:=h;refine wpAny_While (codeAny_whileLoop (λn s'=>∃σ' H',Inv X pq σ' H' s'/\W n σ' H') ?_ m0 ⟨σ,H,I,w0⟩)
 rintro n s1 ⟨σ1,H1,I1,w1⟩
 refine dE hp (thn (hc pq s1 σ1 H1 _ I1 (turn n σ1 H1 w1)) λb s2 ⟨H2,I2,q2⟩=>?_)
 cases b with
 |true=>
  obtain⟨N,hN,q2⟩:=q2;rw[T9 rfl];refine dE hp (thn (hb pq s2 σ1 H2 _ I2 q2) λf s3 q3=>?_)
  cases f with
  |next=>
   obtain⟨σ3,H3,I3,n3⟩:=q3;obtain⟨m',hm,w3⟩:=hN σ3 H3 n3;exact⟨m',hm,σ3,H3,I3,w3⟩
  |cont=>
   obtain⟨σ3,H3,I3,n3⟩:=q3;obtain⟨m',hm,w3⟩:=hN σ3 H3 n3;exact⟨m',hm,σ3,H3,I3,w3⟩
  |brk=>exact q3
  |ret v=>exact q3
 |false=>
  rw[T8 aM];exact d3 ⟨σ1,H2,I2,q2⟩
end
structure It where
 go:Nat->Hp->Prop
 yld:Nat->Hp->V->Hp->Prop
 stop:Nat->Hp->Prop
def VT(X:Cx)(pq:List (ax×dP))(H:Hp)(b:ax):Prop:=
 H b=ac/\b≠X.env.locals/\b∉X.fs/\(b∈X.ex\/X.s₀.heap.objs.size<=b)/\(∀x c,X.env.cells.lookup x=aa c->c≠b)/\∀p∈X.pn++pq,p.1≠b
def Inv.fpOk(I:Inv X pq σ H s)(hb:s.heap.objs.size<=b)(hn:H' b=ac):VT X pq H' b:=by
 refine⟨hn,iy (aY I.lt hb),I.nofs hb,.inr (bx I.sz hb),λx c e z=>?_,λp hp z=>?_⟩
 ·obtain⟨v,q⟩:=I.cell x c e
  exact T7 (aY q.lt (by rw[z];exact hb)) (bw _)
 ·exact T7 (aY (aJ (I.pin p hp).1) (by rw[z];exact hb)) (bw _)
structure Turn(P:bq)(w:bG)(K:aj)(tg:Expr)(J:It)(fp:List ax)(it:ax)(tn:Nat->bJ->Prop):Prop where
 mem:it∈fp
 obj:∀i h,tn i h->∀b∈fp,∃o,h.get? b=aa o/\∀v,o.data≠.cell v
 keep:∀i h h',tn i h->(∀b∈fp,∀o,h.get? b=aa o->h'.get? b=aa o)->tn i h'
 item:∀(X:Cx),X.prog=P->X.w=w->X.K=K->X.calm=ag->∀(i:Nat)(pq:List (ax×dP))(s:aw)(σ:St)(H:Hp)(E:ao->aw->Prop),Inv X pq σ H s->(∀b∈fp,VT X pq H b)->tn i s.heap->J.go i H->
  aT (bc P w) X.A (kA (.ref it)) (λr s1=>∃u,r=aa u/\
   aT (bc P w) X.A (fQ tg (.ref it) u) (λ_ s2=>∃x H',Inv X pq σ H' s2/\ZA x u/\J.yld i H x H'/\tn (i+1) s2.heap/\∀b∈fp,H' b=ac) E s1) E s
 done:∀(X:Cx),X.prog=P->X.w=w->X.K=K->X.calm=ag->∀(i:Nat)(pq:List (ax×dP))(s:aw)(σ:St)(H:Hp)(E:ao->aw->Prop),Inv X pq σ H s->(∀b∈fp,VT X pq H b)->tn i s.heap->J.stop i H->
  aT (bc P w) X.A (kA (.ref it)) (λr s1=>r=ac/\Inv X pq σ H s1) E s
 self:∀(A:bV)(i:Nat)(s:aw)(Q:ao->aw->Prop)(E:ao->aw->Prop),tn i s.heap->Q (.ref it) s->aT (bc P w) A (pyIter (.ref it)) Q E s
abbrev TI:=St->Hp->(It->Hp->Prop)->Prop
def PIE(X:Cx)(pq:List (ax×dP))(σ:St)(tg:Expr)(R:It->Hp->Prop)(itv:ao)(s2:aw):Prop:=
 ∃(it:ax)(fp:List ax)(tn:Nat->bJ->Prop)(J:It)(H':Hp),itv=.ref it/\Inv X pq σ H' s2/\Turn X.prog X.w X.K tg J fp it tn/\tn 0 s2.heap/\(∀b∈fp,VT X pq H' b)/\R J H'
def PI(X:Cx)(tg iter:Expr)(wi:TI):Prop:=
 ∀(pq:List (ax×dP))(s:aw)(σ:St)(H:Hp)(R:It->Hp->Prop),Inv X pq σ H s->wi σ H R->
  aT (bc X.prog X.w) X.A (bZ iter X.env) (λv s1=>aT (bc X.prog X.w) X.A (pyIter v) (PIE X pq σ tg R) X.xe s1) X.xe s
def ql{E:ao->aw->Prop}{Q:Unit->aw->Prop}(ho:s.heap.get? it=aa o)(hc:o.cls=.type n)(hd:o.data=.fields vs)
  (hn:["enumerate","zip","dict_itemiterator","dict_reverseitemiterator","odict_iterator","itertools.zip_longest","itertools.pairwise"].contains n=ai)(hQ:Q () s):aT M A (fQ tg (.ref it) u) Q E s:=by
 unfold fQ;cases tg <;> first
  |exact aF hQ
  |(cases u <;> first
    |exact aF hQ
    |(refine ak (wpAny_load ho ?_)
      rw[hc,hd];show aT M A (if(["enumerate","zip","dict_itemiterator","dict_reverseitemiterator","odict_iterator","itertools.zip_longest","itertools.pairwise"].contains n&&vs[0]? == aa (fA _))=ag then _ else _) Q E s
      rw[T8 (by intro h;rw[hn,Bool.false_and]at h;cases h)]
      exact aF hQ))
noncomputable def Itl(K:aj)(a:ax):It:=
 ⟨λi H=>∃xs x,SqL K H a xs/\xs[i]? = aa x,λi H x H'=>H'=H/\∀xs,SqL K H a xs->xs[i]? = aa x,λi H=>∃xs,SqL K H a xs/\xs.length<=i⟩
noncomputable def Itt(K:aj)(a:ax):It:=
 ⟨λi H=>∃xs x,SqT K H a xs/\xs[i]? = aa x,λi H x H'=>H'=H/\∀xs,SqT K H a xs->xs[i]? = aa x,λi H=>∃xs,SqT K H a xs/\xs.length<=i⟩
noncomputable def Itr(lo:Int)(n:Nat):It:=⟨λi _=>i<n,λi H x H'=>H'=H/\x=.int (lo+i),λi _=>n<=i⟩
def wY{P:bq}{w:bG}{K:aj}{tg:Expr}(a it:ax):Turn P w K tg (Itl K a) [it] it (λi h=>h.IsListIter it a i) where
 mem:=by simp
 obj:=λi h st b hb=>by
  have e:b=it:=by simpa using hb
  subst e;obtain⟨o,e,c,d⟩:=st;exact⟨o,e,λv z=>by rw[d]at z;cases z⟩
 keep:=λi h h' st k=>st.at λo e=>k it (by simp) o e
 item:=by
  intro X hP hw hK hc i pq s σ H E I hf st hg;subst hP hw hK;obtain⟨xs,x,hq,hx⟩:=hg;obtain⟨its,rv,p,hz⟩:=I.list hq;obtain⟨u,hu,ru⟩:=rv.get hx;obtain⟨f0,f1,f2,f3,f4,f5⟩:=hf it (by simp)
  refine iz st p.isList (x:=u) (by simpa using hu) λh' st' sb=>?_
  have I1:Inv X pq σ H { s with heap:=h' }:=I.turned (t':=s.toks) (λb o hb e=>(sb.2 b hb).trans e) f0 f1 f3 f4 f5
  obtain⟨o,e,c,d⟩:=id st';exact⟨u,rfl,ql (s:={ s with heap:=h' }) e c d (by decide) ⟨x,H,I1,ru,⟨rfl,λys hy=>by rw[I.list_inj hy hq];exact hx⟩,st',λb hb=>(hf b hb).1⟩⟩
 done:=by
  intro X hP hw hK hc i pq s σ H E I hf st hg;subst hP hw hK;obtain⟨xs,hq,hx⟩:=hg;obtain⟨its,rv,p,hz⟩:=I.list hq;obtain⟨f0,f1,f2,f3,f4,f5⟩:=hf it (by simp)
  have hl:=rv.length;exact iN (I.ok.hd hc) st p.isList (by simp;omega) λh' eb=>⟨rfl,I.turned (t':=s.toks) (λb o hb e=>eb b o hb e) f0 f1 f3 f4 f5⟩
 self:=λ_ _ _ _ _ st h=>wpAny_pyIter_listiter st h
def zN{P:bq}{w:bG}{K:aj}{tg:Expr}(a it:ax):Turn P w K tg (Itt K a) [it] it (λi h=>h.IsTupleIter it a i) where
 mem:=by simp
 obj:=λi h st b hb=>by
  have e:b=it:=by simpa using hb
  subst e;obtain⟨o,e,c,d⟩:=st;exact⟨o,e,λv z=>by rw[d]at z;cases z⟩
 keep:=λi h h' st k=>st.at λo e=>k it (by simp) o e
 item:=by
  intro X hP hw hK hc i pq s σ H E I hf st hg;subst hP hw hK;obtain⟨xs,x,hq,hx⟩:=hg;obtain⟨its,rv,p,hz⟩:=I.tuple hq;obtain⟨u,hu,ru⟩:=rv.get hx;obtain⟨f0,f1,f2,f3,f4,f5⟩:=hf it (by simp)
  refine wpAny_pyNext_tuple_item st (show s.heap.IsTuple a its.toArray from p) (x:=u) (by simpa using hu) λh' st' sb=>?_
  have I1:Inv X pq σ H { s with heap:=h' }:=I.turned (t':=s.toks) (λb o hb e=>(sb.2 b hb).trans e) f0 f1 f3 f4 f5
  obtain⟨o,e,c,d⟩:=id st';exact⟨u,rfl,ql (s:={ s with heap:=h' }) e c d (by decide) ⟨x,H,I1,ru,⟨rfl,λys hy=>by rw[I.tuple_inj hy hq];exact hx⟩,st',λb hb=>(hf b hb).1⟩⟩
 done:=by
  intro X hP hw hK hc i pq s σ H E I hf st hg;subst hP hw hK;obtain⟨xs,hq,hx⟩:=hg;obtain⟨its,rv,p,hz⟩:=I.tuple hq;obtain⟨f0,f1,f2,f3,f4,f5⟩:=hf it (by simp)
  have hl:=rv.length;exact wpAny_pyNext_tuple_end (I.ok.hd hc) st (show s.heap.IsTuple a its.toArray from p) (by simp;omega) λh' eb=>⟨rfl,I.turned (t':=s.toks) (λb o hb e=>eb b o hb e) f0 f1 f3 f4 f5⟩
 self:=λ_ _ _ _ _ st h=>wpAny_pyIter_tupleiter st h
def yK{P:bq}{w:bG}{K:aj}{tg:Expr}(it:ax)(lo:Int)(n:Nat):Turn P w K tg (Itr lo n) [it] it (λi h=>IsRangeIter h it (lo+(i:Nat)*1) ((n:Int)-(i:Nat)) 1) where
 mem:=by simp
 obj:=λi h st b hb=>by
  have e:b=it:=by simpa using hb
  subst e;exact⟨_,st,λv z=>by
   have z':Data.fields _=Data.cell v:=z;cases z'⟩
 keep:=λi h h' st k=>k it (by simp) _ st
 item:=by
  intro X hP hw hK hc i pq s σ H E I hf st hg;subst hP hw hK;obtain⟨f0,f1,f2,f3,f4,f5⟩:=hf it (by simp)
  have W:=Walks.range (prog:=X.prog) (w:=X.w) (I.ok.hd hc) it lo 1 n;refine W.item i s _ _ hg st λv h' tk hv st' kk=>?_
  obtain⟨t,rfl⟩:=hv;have I1:Inv X pq σ H { s with heap:=h',toks:=tk }:=I.turned (λb o hb e=>kk b o (by simpa using hb) e) f0 f1 f3 f4 f5
  refine⟨_,rfl,ql (s:={ s with heap:=h',toks:=tk }) (n:="range_iterator") st' rfl rfl (by decide) ⟨.int (lo+i),H,I1,⟨t,?_⟩,⟨rfl,rfl⟩,st',λb hb=>(hf b hb).1⟩⟩
  rw[Int.mul_one]
 done:=by
  intro X hP hw hK hc i pq s σ H E I hf st hg;subst hP hw hK;obtain⟨f0,f1,f2,f3,f4,f5⟩:=hf it (by simp)
  exact wpAny_pyNext_range_end (I.ok.hd hc) st (by have:n<=i:=hg;omega) λh' eb=>⟨rfl,I.turned (t':=s.toks) (λb o hb e=>eb b o hb e) f0 f1 f3 f4 f5⟩
 self:=λ_ _ _ _ _ st h=>wpAny_pyIter_rangeiter st h
section
variable{X:Cx}{tg:Expr}
def uf{pq:List (ax×dP)}{σ:St}{H:Hp}{s:aw}{R:It->Hp->Prop}{E:ao->aw->Prop}{lo hi:Int}{t u v:mP}{tk:Nat}(I:Inv X pq σ H s)(h1:-(2^62)<=lo)(h2:lo<2^62)(h3:-(2^62)<=hi)(h4:hi<2^62)
  (q:R (Itr lo (hi-lo).toNat) H):aT (bc X.prog X.w) X.A (pyIter (.ref s.heap.objs.size)) (PIE X pq σ tg R) E { s with heap:=s.heap.push { cls:=.type "range",data:=.fields #[.int lo t,.int hi u,.int 1 v] },toks:=tk }:=by
 refine wpAny_pyIter_range (IsRange.new ..) (small_one h1 h2 h3 h4) ?_;have I1:Inv X pq σ H { s with heap:=s.heap.push { cls:=.type "range",data:=.fields #[.int lo t,.int hi u,.int 1 v] },toks:=tk }:=I.kept λb o e=>ar _ e
 refine⟨(s.heap.push { cls:=.type "range",data:=.fields #[.int lo t,.int hi u,.int 1 v] }).objs.size,[(s.heap.push { cls:=.type "range",data:=.fields #[.int lo t,.int hi u,.int 1 v] }).objs.size],_,_,H,rfl,
  I1.kept (t':=tk) λb o e=>ar _ e,yK _ lo (hi-lo).toNat,?_,λb hb=>?_,q⟩
 ·have e1:lo+((0:Nat):Int)*1=lo:=by simp
  have e2:(((hi-lo).toNat:Nat):Int)-((0:Nat):Int)=fI.Range.rangeSize lo hi 1:=by rw[rangeSize_one];split <;> omega
  show IsRangeIter _ _ (lo+((0:Nat):Int)*1) ((((hi-lo).toNat:Nat):Int)-((0:Nat):Int)) 1;rw[e1,e2];exact aN _ rfl
 ·have e:b=(s.heap.push { cls:=.type "range",data:=.fields #[.int lo t,.int hi u,.int 1 v] }).objs.size:=by simpa using hb
  subst e;exact I1.fpOk (aD _) (I1.hok.fresh (aD _))
def Zey(ta:TA):TI:=λσ H R=>ta σ H λvs H1=>∃j:Int,vs=[.int j]/\-(2^62)<=j/\j<2^62/\R (Itr 0 j.toNat) H1
def vT{a:Expr}{ta:TA}{p pos:dZ}(hg:Gl X "range")(hm:X.mg "range" = ac)(ha:PA X [a] ta)(hs:aC [a] X.env=[(ai,bZ a X.env)]:=by rfl):PI X tg (.Call (.Name "range" p) [a] [] pos) (Zey ta):=by
 intro pq s σ H R I h;refine Call_ (W5 I hg hm boot_range (cZ (thn (ha pos pq s σ H _ I h) λus s1 ⟨vs,H1,I1,r1,q1⟩=>?_) hs rfl))
 obtain⟨j,e,q1,q2,q⟩:=q1;subst e;cases r1 with
 |cons r rr=>
  cases rr;obtain⟨t,rfl⟩:=r;exact call_range_1 (uf I1 (by omega) (by omega) q1 q2 (by simpa using q))
def ZeI(wi:TI)(g:TG)(tb:TS):TS:=λD σ H=>wi σ H λJ H1=>∃W:Nat->Nat->St->Hp->Prop,(∃m,W 0 m σ H1)/\∀i m σ H,W i m σ H->
 (J.stop i H/\D.nx σ H)\/(J.go i H/\∃N:St->Hp->Prop,(∀σ' H',N σ' H'->∃m',m'<m/\W (i+1) m' σ' H')/\∀x H',J.yld i H x H'->g x σ H' λσ2 H2=>tb { D with nx:=N,ct:=N,bk:=D.nx } σ2 H2)
noncomputable def U4(fp:List ax)(h:bJ):List (ax×dP):=fp.filterMap λb=>(h.get? b).map λo=>(b,o)
def X1(hb:b∈fp)(e:h.get? b=aa o):(b,o)∈U4 fp h:=kB.mpr ⟨b,hb,by rw[e];rfl⟩
def wZ(hp:p∈U4 fp h):p.1∈fp/\h.get? p.1=aa p.2:=by
 obtain⟨b,hb,e⟩:=kB.mp hp;cases q:h.get? b with
 |none=>rw[q]at e;cases e
 |some o=>
  rw[q]at e;have e':(b,o)=p:=af e;subst e';exact⟨hb,q⟩
def Inv.pinned(I:Inv X pq σ H s)(hf:∀b∈fp,VT X pq H b)(ho:∀b∈fp,∃o,s.heap.get? b=aa o/\∀v,o.data≠.cell v):Inv X (pq++U4 fp s.heap) σ H s:=
 I.pins_of λp hp=>(bQ.mp hp).elim (λz=>I.pin p (bi _ z)) λz=>by
  obtain⟨hb,e⟩:=wZ z;obtain⟨f0,f1,f2,_⟩:=hf p.1 hb;obtain⟨o,e',d⟩:=ho p.1 hb;rw[e]at e';cases e';exact⟨e,f0,f1,f2,d⟩
def Inv.unpinned(I:Inv X (pq++pl) σ H s):Inv X pq σ H s:=I.pins_of λp hp=>I.pin p (bi _ (cC _ hp))
def Zc2{iter:Expr}{body:List de}{wi:TI}{g:TG}{tb:TS}{pos:dZ}(hp:lx (bc X.prog X.w) X.A X.env X.xe)(hc:X.calm=ag)(hi:PI X tg iter wi)(hg:PG X tg g)(hb:PSs X body tb)
  (hs:∀x,cU iter X.env x=cR x:=by intro _;rfl):PS X (.For tg iter body [] pos) (ZeI wi g tb):=by
 intro pq s σ H D I h;refine wpAny_For (thn (hi pq s σ H _ I h) λv s1 h1=>thn h1 λitv s2 h2=>?_) hs
 obtain⟨it,fp,tn,J,H2,e,I2,T,st2,f2,W,⟨m0,w0⟩,turn⟩:=h2;subst e;have stat:∀{H':Hp},(∀b∈fp,H' b=ac)->∀b∈fp,VT X pq H' b:=λhn b hb=>⟨hn b hb,(f2 b hb).2⟩
 refine codeAny_forLoop_any (λn s'=>∃i σ' H',Inv X pq σ' H' s'/\tn i s'.heap/\(∀b∈fp,H' b=ac)/\W i n σ' H') ?_ m0 ⟨0,σ,H2,I2,st2,λb hb=>(f2 b hb).1,w0⟩
 rintro n s3 ⟨i,σ3,H3,I3,st3,fr3,w3⟩
 rcases turn i n σ3 H3 w3 with⟨stop,qn⟩ | ⟨go,N,hN,step⟩
 ·refine dE hp (thn (T.done X rfl rfl rfl hc i pq s3 σ3 H3 X.xe I3 (stat fr3) st3 stop) λr s4 ⟨hr,I4⟩=>?_)
  subst hr;exact d3 ⟨σ3,H3,I4,qn⟩
 ·refine dE hp (thn (T.item X rfl rfl rfl hc i pq s3 σ3 H3 X.xe I3 (stat fr3) st3 go) λr s4 ⟨u,hr,h4⟩=>?_)
  subst hr;refine dE hp (thn h4 λ_ s5 ⟨x,H5,I5,r5,y5,st5,fr5⟩=>?_)
  have I5':=I5.pinned (stat fr5) (T.obj _ _ st5);refine dE hp (thn (hg _ s5 σ3 H5 x u _ I5' r5 (step x H5 y5)) λ_ s6 ⟨σ6,H6,I6,q6⟩=>?_)
  refine dE hp (thn (hb _ s6 σ6 H6 _ I6 q6) λf s7 q7=>?_)
  have again:∀{σ7:St}{H7:Hp},Inv X (pq++U4 fp s5.heap) σ7 H7 s7->N σ7 H7->∃m,m<n/\∃i σ' H',Inv X pq σ' H' s7/\tn i s7.heap/\(∀b∈fp,H' b=ac)/\W i m σ' H':=λ{σ7 H7} I7 n7=>by
   obtain⟨m',hm,w7⟩:=hN σ7 H7 n7;refine⟨m',hm,i+1,σ7,H7,I7.unpinned,T.keep _ _ _ st5 λb hb o e=>(I7.pin (b,o) (bi _ (bi _ (X1 hb e)))).1,λb hb=>?_,w7⟩
   obtain⟨o,e,d⟩:=T.obj _ _ st5 b hb;exact(I7.pin (b,o) (bi _ (bi _ (X1 hb e)))).2.1
  cases f with|next=>obtain⟨σ7,H7,I7,n7⟩:=q7;exact again I7 n7|cont=>obtain⟨σ7,H7,I7,n7⟩:=q7;exact again I7 n7|brk=>obtain⟨σ7,H7,I7,q7⟩:=q7;exact⟨σ7,H7,I7.unpinned,q7⟩|ret v=>obtain⟨x7,σ7,H7,I7,r7,q7⟩:=q7;exact⟨x7,σ7,H7,I7.unpinned,r7,q7⟩
end
abbrev R2:=V->V->Hp->VK->Prop
def OpR(X:Cx)(f:ao->ao->mf ao)(r:R2):Prop:=
 ∀(pq:List (ax×dP))(s:aw)(σ:St)(H:Hp)(x y:V)(v u:ao)(Q:VK),Inv X pq σ H s->ZA x v->ZA y u->r x y H Q->
  aT (bc X.prog X.w) X.A (f v u) (EP X pq σ Q) X.xe s
def UnR(X:Cx)(f:ao->mf ao)(r:V->Hp->VK->Prop):Prop:=
 ∀(pq:List (ax×dP))(s:aw)(σ:St)(H:Hp)(x:V)(v:ao)(Q:VK),Inv X pq σ H s->ZA x v->r x H Q->
  aT (bc X.prog X.w) X.A (f v) (EP X pq σ Q) X.xe s
def ZO(X:Cx)(f:ao)(r:List V->Hp->VK->Prop):Prop:=
 ∀(pq:List (ax×dP))(s:aw)(σ:St)(H:Hp)(xs:List V)(us:List ao)(Q:VK),Inv X pq σ H s->Vals xs us->r xs H Q->
  aT (bc X.prog X.w) X.A (call f us) (EP X pq σ Q) X.xe s
def ZeL(X:Cx)(r:V->Hp->(Bool->Hp->Prop)->Prop):Prop:=
 ∀(pq:List (ax×dP))(s:aw)(σ:St)(H:Hp)(x:V)(v:ao)(Q:Bool->Hp->Prop),Inv X pq σ H s->ZA x v->r x H Q->
  aT (bc X.prog X.w) X.A (mL v) (TP X pq σ Q) X.xe s
def tOp(r:R2)(ta tb:TE):TE:=λσ H Q=>ta σ H λx H1=>tb σ H1 λy H2=>r x y H2 Q
def tUn(r:V->Hp->VK->Prop)(ta:TE):TE:=λσ H Q=>ta σ H λx H1=>r x H1 Q
def rI(C:Int->Int->Prop)(g:Int->Int->V):R2:=λx y H Q=>∃i j,x=.int i/\y=.int j/\C i j/\Q (g i j) H
def rI0(g:Int->Int->V):R2:=λx y H Q=>∃i j,x=.int i/\y=.int j/\Q (g i j) H
noncomputable def rU(g:Int->V):V->Hp->VK->Prop:=λx H Q=>∃i,x=.int i/\Q (g i) H
section
variable{X:Cx}{a b c:Expr}{ta tb tc:TE}{pos:dZ}
def Zdn(ha:PE X a ta)(hb:PE X b tb){pq:List (ax×dP)}{s:aw}{σ:St}{H:Hp}{R:V->V->Hp->Prop}(I:Inv X pq σ H s)
  (h:ta σ H λx H1=>tb σ H1 λy H2=>R x y H2){Q:ao->aw->Prop}{f:ao->ao->mf ao}
  (hf:∀v u s2 x y H2,Inv X pq σ H2 s2->ZA x v->ZA y u->R x y H2->aT (bc X.prog X.w) X.A (f v u) Q X.xe s2) :
  aT (bc X.prog X.w) X.A (bZ a X.env) (λv s₁=>aT (bc X.prog X.w) X.A (bZ b X.env) (λu s₂=>aT (bc X.prog X.w) X.A (f v u) Q X.xe s₂) X.xe s₁) X.xe s:=by
 refine thn (ha pq s σ H _ I h) λv s1 ⟨x,H1,I1,r1,q1⟩=>?_
 refine thn (hb pq s1 σ H1 _ I1 q1) λu s2 ⟨y,H2,I2,r2,q2⟩=>?_
 exact hf v u s2 x y H2 I2 r1 r2 q2
def V9(ho:OpR X (dL op) r)(ha:PE X a ta)(hb:PE X b tb):PE X (.BinOp a op b pos) (tOp r ta tb):=by
 intro pq s σ H Q I h;exact wpAny_BinOp (Zdn ha hb I h λv u s2 x y H2 I2 rx ry q=>ho pq s2 σ H2 x y v u Q I2 rx ry q)
def Zcb{op:UnaryOp}{r:V->Hp->VK->Prop}(ho:UnR X (unaryOp op) r)(ha:PE X a ta):PE X (.UnaryOp op a pos) (tUn r ta):=by
 intro pq s σ H Q I h;exact UnaryOp_ (thn (ha pq s σ H _ I h) λv s1 ⟨x,H1,I1,r1,q1⟩=>ho pq s1 σ H1 x v Q I1 r1 q1)
def opI{f:ao->ao->mf ao}{C:Int->Int->Prop}{g:Int->Int->Int}
  (mR:∀(i j:Int)(t u:mP)(s:aw)(Q:ao->aw->Prop)(E:ao->aw->Prop),C i j->Q (.int (g i j) s.toks) { s with toks:=s.toks+1 }->aT (bc X.prog X.w) X.A (f (.int i t) (.int j u)) Q E s) :
  OpR X f (rI C λi j=>.int (g i j)):=by
 intro pq s σ H x y v u Q I rx ry h;obtain⟨i,j,rfl,rfl,hc,q⟩:=h;obtain⟨t,rfl⟩:=rx;obtain⟨t',rfl⟩:=ry;exact mR i j t t' s _ _ hc ⟨.int (g i j),H,I.tok _,⟨_,rfl⟩,q⟩
def Zc7{f:ao->ao->mf ao}{g:Int->Int->Int}
  (mR:∀(i j:Int)(t u:mP)(s:aw)(Q:ao->aw->Prop)(E:ao->aw->Prop),Q (.int (g i j) s.toks) { s with toks:=s.toks+1 }->aT (bc X.prog X.w) X.A (f (.int i t) (.int j u)) Q E s) :
  OpR X f (rI0 λi j=>.int (g i j)):=by
 intro pq s σ H x y v u Q I rx ry h;obtain⟨i,j,rfl,rfl,q⟩:=h;obtain⟨t,rfl⟩:=rx;obtain⟨t',rfl⟩:=ry;exact mR i j t t' s _ _ ⟨.int (g i j),H,I.tok _,⟨_,rfl⟩,q⟩
def Zcq{f:ao->ao->mf ao}{g:Int->Int->Bool}
  (mR:∀(i j:Int)(t u:mP)(s:aw)(Q:ao->aw->Prop)(E:ao->aw->Prop),Q (.bool (g i j)) s->aT (bc X.prog X.w) X.A (f (.int i t) (.int j u)) Q E s) :
  OpR X f (rI0 λi j=>.bl (g i j)):=by
 intro pq s σ H x y v u Q I rx ry h;obtain⟨i,j,rfl,rfl,q⟩:=h;obtain⟨t,rfl⟩:=rx;obtain⟨t',rfl⟩:=ry;exact mR i j t t' s _ _ ⟨.bl (g i j),H,I,rfl,q⟩
def CPow(i j:Int):Prop:=0<=j/\j<=1000000/\i.natAbs<2^64
def Zc5:OpR X (dL .Add) (rI0 λi j=>.int (i+j)):=Zc7 λ_ _ _ _ _ _ _ q=>add_int q
def ZcK:OpR X (dL .Sub) (rI0 λi j=>.int (i-j)):=Zc7 λ_ _ _ _ _ _ _ q=>sub_int q
def ZdF:OpR X (dL .Mod) (rI (λ_ j=>0<j) λi j=>.int (i%j)):=opI λi j _ _ _ _ _ hc q=>by
 have h1:(0:Int)<j:=hc;exact mod_int' (by omega) (by rw[Int.fmod_eq_emod_of_nonneg i (by omega)];exact q)
def Zdk:OpR X (dL .Pow) (rI CPow λi j=>.int (i^j.toNat)):=opI λ_ _ _ _ _ _ _ hc q=>pow_int_small hc.1 hc.2.1 hc.2.2 q
def Za6:OpR X (inplaceOp .Add) (rI0 λi j=>.int (i+j)):=Zc7 λ_ _ _ _ _ _ _ q=>iadd_int q
def unI{f:ao->mf ao}{g:Int->Int}
  (mR:∀(i:Int)(t:mP)(s:aw)(Q:ao->aw->Prop)(E:ao->aw->Prop),Q (.int (g i) s.toks) { s with toks:=s.toks+1 }->aT (bc X.prog X.w) X.A (f (.int i t)) Q E s) :
  UnR X f (rU λi=>.int (g i)):=by
 intro pq s σ H x v Q I rx h;obtain⟨i,rfl,q⟩:=h;obtain⟨t,rfl⟩:=rx;exact mR i t s _ _ ⟨.int (g i),H,I.tok _,⟨_,rfl⟩,q⟩
def u9:UnR X (unaryOp .USub) (rU λi=>.int (-i)):=unI λ_ _ _ _ _ q=>neg_int q
end
noncomputable def scal:V->V->Bool
 |.non,.non=>ag | .non,.int _=>ag | .int _,.non=>ag | .non,.bl _=>ag | .bl _,.non=>ag | .non,.str _=>ag | .str _,.non=>ag
 |.int _,.int _=>ag | .bl _,.bl _=>ag | .str _,.str _=>ag | .byt _,.byt _=>ag
 |.int _,.str _=>ag | .str _,.int _=>ag | .bl _,.str _=>ag | .str _,.bl _=>ag
 |_,_=>ai
def rEq:R2:=λx y H Q=>scal x y=ag/\Q (.bl (ae (x=y))) H
def rNe:R2:=λx y H Q=>scal x y=ag/\Q (.bl (!decide (x=y))) H
def xW :ae (V.int i=V.int j)=(i == j):=by
 rw[bz];simp
def je :ae (V.bl i=V.bl j)=(i == j):=by
 rw[bz];simp
def wB :ae (V.str i=V.str j)=(i == j):=by
 rw[bz];simp
def xh :ae (V.byt i=V.byt j)=(i.toList == j.toList):=by
 rw[bz];cases i;cases j;simp
section
variable{X:Cx}{a b c:Expr}{ta tb tc:TE}{pos:dZ}
def ZF(I:Inv X pq σ H s)(q:Q (.bl k) H)(e:k=k'):EP X pq σ Q (.bool k') s:=by
 subst e;exact⟨.bl k,H,I,rfl,q⟩
def Zek:OpR X (cu .Eq) rEq:=by
 intro pq s σ H x y v u Q I rx ry h;obtain⟨hs,q⟩:=h;cases x with
 |non=>
  cases rx;cases y with|non=>cases ry;exact PySem.EqNone.eq_none_none (ZF I q (by simp))|bl j=>cases ry;exact PySem.EqNone.eq_none_bool (ZF I q (by simp))|int j=>obtain⟨t',rfl⟩:=ry;exact PySem.EqNone.eq_none_int (ZF I q (by simp))|str j=>obtain⟨t',rfl⟩:=ry;exact PySem.EqNone.eq_none_str (ZF I q (by simp))|_=>exact T7 (show ai=ag from hs) aM
 |bl i=>
  cases rx;cases y with|non=>cases ry;exact PySem.EqNone.eq_bool_none (ZF I q (by simp))|bl j=>cases ry;exact eq_bool (ZF I q je)|str j=>obtain⟨t',rfl⟩:=ry;exact PySem.EqMixed.eq_bool_str (ZF I q (by simp))|_=>exact T7 (show ai=ag from hs) aM
 |int i=>
  obtain⟨t,rfl⟩:=rx;cases y with|non=>cases ry;exact PySem.EqNone.eq_int_none (ZF I q (by simp))|int j=>obtain⟨t',rfl⟩:=ry;exact eq_int (ZF I q xW)|str j=>obtain⟨t',rfl⟩:=ry;exact PySem.EqMixed.eq_int_str (ZF I q (by simp))|_=>exact T7 (show ai=ag from hs) aM
 |str i=>
  obtain⟨t,rfl⟩:=rx;cases y with|non=>cases ry;exact PySem.EqNone.eq_str_none (ZF I q (by simp))|bl j=>cases ry;exact PySem.EqMixed.eq_str_bool (ZF I q (by simp))|int j=>obtain⟨t',rfl⟩:=ry;exact PySem.EqMixed.eq_str_int (ZF I q (by simp))|str j=>obtain⟨t',rfl⟩:=ry;exact eq_str (ZF I q wB)|_=>exact T7 (show ai=ag from hs) aM
 |byt i=>
  obtain⟨t,rfl⟩:=rx;cases y with|byt j=>obtain⟨t',rfl⟩:=ry;exact PySem.W.eq_bytes (ZF I q xh)|_=>exact T7 (show ai=ag from hs) aM
 |_=>cases y <;> exact T7 (show ai=ag from hs) aM
def ZdT:OpR X (cu .NotEq) rNe:=by
 intro pq s σ H x y v u Q I rx ry h;obtain⟨hs,q⟩:=h;cases x with
 |non=>
  cases rx;cases y with|non=>cases ry;exact PySem.EqNone.ne_none_none (ZF I q (by simp))|bl j=>cases ry;exact PySem.EqNone.ne_none_bool (ZF I q (by simp))|int j=>obtain⟨t',rfl⟩:=ry;exact PySem.EqNone.ne_none_int (ZF I q (by simp))|str j=>obtain⟨t',rfl⟩:=ry;exact PySem.EqNone.ne_none_str (ZF I q (by simp))|_=>exact T7 (show ai=ag from hs) aM
 |bl i=>
  cases rx;cases y with|non=>cases ry;exact PySem.EqNone.ne_bool_none (ZF I q (by simp))|bl j=>cases ry;exact ne_bool (ZF I q (congrArg not je))|str j=>obtain⟨t',rfl⟩:=ry;exact PySem.EqMixed.ne_bool_str (ZF I q (by simp))|_=>exact T7 (show ai=ag from hs) aM
 |int i=>
  obtain⟨t,rfl⟩:=rx;cases y with|non=>cases ry;exact PySem.EqNone.ne_int_none (ZF I q (by simp))|int j=>obtain⟨t',rfl⟩:=ry;exact ne_int (ZF I q (congrArg not xW))|str j=>obtain⟨t',rfl⟩:=ry;exact PySem.EqMixed.ne_int_str (ZF I q (by simp))|_=>exact T7 (show ai=ag from hs) aM
 |str i=>
  obtain⟨t,rfl⟩:=rx;cases y with|non=>cases ry;exact PySem.EqNone.ne_str_none (ZF I q (by simp))|bl j=>cases ry;exact PySem.EqMixed.ne_str_bool (ZF I q (by simp))|int j=>obtain⟨t',rfl⟩:=ry;exact PySem.EqMixed.ne_str_int (ZF I q (by simp))|str j=>obtain⟨t',rfl⟩:=ry;exact ne_str (ZF I q (congrArg not wB))|_=>exact T7 (show ai=ag from hs) aM
 |byt i=>
  obtain⟨t,rfl⟩:=rx;cases y with|byt j=>obtain⟨t',rfl⟩:=ry;exact PySem.W.ne_bytes (ZF I q (congrArg not xh))|_=>exact T7 (show ai=ag from hs) aM
 |_=>cases y <;> exact T7 (show ai=ag from hs) aM
def ZdL:OpR X (cu .Lt) (rI0 λi j=>.bl (ae (i<j))):=Zcq λ_ _ _ _ _ _ _ q=>lt_int q
def Zd6:OpR X (cu .LtE) (rI0 λi j=>.bl (ae (i<=j))):=Zcq λ_ _ _ _ _ _ _ q=>le_int q
def Zez:OpR X (cu .GtE) (rI0 λi j=>.bl (ae (j<=i))):=Zcq λ_ _ _ _ _ _ _ q=>ge_int q
def ZcM:OpR X (cu .Is) (λx y H Q=>y=.non/\Q (.bl (ae (x=.non))) H):=by
 intro pq s σ H x y v u Q I rx ry h;obtain⟨rfl,q⟩:=h;cases ry;refine is_none_gen (ZF I q ?_);cases x <;> first
  |(cases rx;rfl)
  |(obtain⟨t,rfl⟩:=rx;rfl)
def OpR.or(h:OpR X f r)(h':OpR X f r'):OpR X f (λx y H Q=>r x y H Q\/r' x y H Q):=by
 intro pq s σ H x y v u Q I rx ry q;rcases q with q | q
 ·exact h pq s σ H x y v u Q I rx ry q
 ·exact h' pq s σ H x y v u Q I rx ry q
def Z8(b:Expr)(h:op≠.In:=by decide)(h2:op≠.NotIn:=by decide):c9 op b=ai:=by
 have e1:(op == mQ.In)=ai:=by cases op <;> first | rfl | exact T7 rfl h
 have e2:(op == mQ.NotIn)=ai:=by cases op <;> first | rfl | exact T7 rfl h2
 cases b <;> simp[c9,e1,e2]
def Zaz(ho:OpR X (cu op) r)(ha:PE X a ta)(hb:PE X b tb)(hm:c9 op b=ai):PE X (.Compare a [op] [b] pos) (tOp r ta tb):=by
 intro pq s σ H Q I h;exact wpAny_Compare1 (Zdn ha hb I h λv u s2 x y H2 I2 rx ry q=>ho pq s2 σ H2 x y v u Q I2 rx ry q) hm
def Zeq(t:TE):TT:=λσ H Q=>t σ H λx H'=>∃k,x=.bl k/\Q k H'
def ZaQ(ho:OpR X (cu op) r)(ha:PE X a ta)(hb:PE X b tb)(hm:c9 op b=ai):PT X (.Compare a [op] [b] pos) (Zeq (tOp r ta tb)):=by
 intro pq s σ H Q I h;refine iM (thn (ha pq s σ H _ I h) λv s1 ⟨x,H1,I1,r1,q1⟩=>thn (hb pq s1 σ H1 _ I1 q1) λu s2 ⟨y,H2,I2,r2,q2⟩=>
  thn (ho pq s2 σ H2 x y v u _ I2 r1 r2 q2) λc s3 ⟨z,H3,I3,r3,k,e,q3⟩=>?_) hm
 subst e;cases r3;exact cT ⟨H3,I3,q3⟩
def Zdq(r r':R2)(ta tb tc:TE):TE:=λσ H Q=>ta σ H λx H1=>tb σ H1 λy H2=>r x y H2 λz H3=>∃k,z=.bl k/\
 (if k=ag then tc σ H3 λw' H4=>r' y w' H4 Q else Q (.bl ai) H3)
def jx(ho:OpR X (cu op) r)(ho':OpR X (cu op') r')(ha:PE X a ta)(hb:PE X b tb)(hc:PE X c tc)
  (hm:lastMarks [op,op'] [b,c]=ai:=by with_unfolding_all rfl):PE X (.Compare a [op,op'] [b,c] pos) (Zdq r r' ta tb tc):=by
 intro pq s σ H Q I h;refine Compare_chain (thn (ha pq s σ H _ I h) λv s1 ⟨x,H1,I1,r1,q1⟩=>chain_link (thn (hb pq s1 σ H1 _ I1 q1) λu s2 ⟨y,H2,I2,r2,q2⟩=>
  thn (ho pq s2 σ H2 x y v u _ I2 r1 r2 q2) λd s3 ⟨z,H3,I3,r3,k,e,q3⟩=>?_)) hm
 subst e;cases r3;refine cT ?_;cases k with|false=>exact ite_ff ⟨.bl ai,H3,I3,rfl,q3⟩|true=>exact ite_tt (chain_last (thn (hc pq s3 σ H3 _ I3 q3) λw' s4 ⟨z',H4,I4,r4,q4⟩=>ho' pq s4 σ H4 y z' u w' Q I4 r2 r4 q4))
def Zan(K:aj)(x:V)(H:Hp)(k:Bool):Prop:=
 match x with
 |.non=>k=ai
 |.bl b=>k=b
 |.int i=>k=(i != 0)
 |.str y=>y.length<=aX/\k=((y.length:Int) != 0)
 |.byt y=>y.size<=aX/\k=((y.size:Int) != 0)
 |.ref p=>(∃xs,SqL K H p xs/\k = !xs.isEmpty)\/(∃xs,SqT K H p xs/\k = !xs.isEmpty)\/∃kvs,H p=aa (.dK kvs)/\k = !kvs.isEmpty
 |_=>False
def zS{κ:Type}{kvs:List (κ×V)}{vs:List (κ×ao)}(r:KV kvs vs):(!vs.isEmpty) = !kvs.isEmpty:=by
 cases r <;> rfl
def UI{xs:List V}{its:List ao}(r:Vals xs its):(!its.toArray.isEmpty) = !xs.isEmpty:=by
 cases r <;> simp
def Qk:(aX:Nat)<2^63:=by rw[cS];decide
def uS:ZeL X (λx H Q=>∃k,Zan X.K x H k/\Q k H):=by
 intro pq s σ H x v Q I rx h;obtain⟨k,e,q⟩:=h;have hl:=Qk;have hs:aX=16777216:=cS;cases x with
 |non=>
  cases rx;have e':k=ai:=e;subst e';exact truthy_none ⟨H,I,q⟩
 |bl b=>
  cases rx;have e':k=b:=e;subst e';exact cT ⟨H,I,q⟩
 |int i=>
  obtain⟨t,rfl⟩:=rx;have e':k=(i != 0):=e;subst e';exact kC ⟨H,I,q⟩
 |str y=>
  obtain⟨t,rfl⟩:=rx;obtain⟨hy,e'⟩:y.length<=aX/\k=((y.length:Int) != 0):=e;subst e';exact PySem.P.truthy_str (by omega) ⟨H,I.tok _,q⟩
 |byt y=>
  obtain⟨t,rfl⟩:=rx;obtain⟨hy,e'⟩:y.size<=aX/\k=((y.size:Int) != 0):=e;subst e';exact PySem.W.truthy_bytes (by omega) ⟨H,I.tok _,q⟩
 |ref p=>
  cases rx;have e':(∃xs,SqL X.K H p xs/\k = !xs.isEmpty)\/(∃xs,SqT X.K H p xs/\k = !xs.isEmpty)\/∃kvs,H p=aa (.dK kvs)/\k = !kvs.isEmpty:=e;rcases e' with⟨xs,hx,e'⟩ | ⟨xs,hx,e'⟩ | ⟨kvs,hx,e'⟩
  ·subst e'
   obtain⟨its,r,pl,hz⟩:=I.list hx;have hlen:=r.length;exact wpAny_truthy_list pl.isList (by simp only[au];omega) ⟨H,I.tok _,by rw[UI r];exact q⟩
  ·subst e'
   obtain⟨its,r,pl,hz⟩:=I.tuple hx;have hlen:=r.length;exact truthy_tuple pl (by simp only[au];omega) ⟨H,I.tok _,by rw[UI r];exact q⟩
  ·subst e'
   obtain⟨hz,hS,vs,r,m⟩:kvs.length<=aX/\(p == dh)=ai/\∃vs,KV kvs vs/\s.heap.DictOf (Yq X.prog X.w) p vs:=I.hok p _ hx;have hlen:kvs.length=vs.length:=Paired.length r;exact wpAny_truthy_dict hS m (by omega) ⟨H,I.tok _,by rw[zS r];exact q⟩
 |_=>exact(show False from e).elim
def u4(ha:PE X a ta)(he:∀whole,isTrue a X.env whole=(do let v <-whole;kR a.pos;gN [v] (mL v))) :
  PT X a (λσ H Q=>ta σ H λx H'=>∃k,Zan X.K x H' k/\Q k H'):=by
 intro pq s σ H Q I h;exact isTrue_plain (thn (ha pq s σ H _ I h) λv s1 ⟨x,H1,I1,r1,q1⟩=>uS pq s1 σ H1 x v Q I1 r1 q1) (he _)
def VD(r:Vals [x] us):∃u,us=[u]/\ZA x u:=by
 cases r with|cons r1 r2=>cases r2;exact⟨_,rfl,r1⟩
def zD(r:Vals [x,y] us):∃u w',us=[u,w']/\ZA x u/\ZA y w':=by
 cases r with
 |cons r1 r2=>
  cases r2 with|cons r3 r4=>cases r4;exact⟨_,_,rfl,r1,r3⟩
def vq(hc:X.calm=ag):ZO X (.builtin "max") (λxs H Q=>∃i j,xs=[.int i,.int j]/\Q (.int (if j>i then j else i)) H):=by
 intro pq s σ H xs us Q I r h;obtain⟨i,j,rfl,q⟩:=h;obtain⟨u,w',rfl,⟨t,rfl⟩,⟨t',rfl⟩⟩:=zD r;refine max_two_ints (I.ok.hd hc) λh' tk k=>⟨_,H,I.kept k,?_,q⟩
 by_cases hj:j>i
 ·rw[T9 hj,T9 hj];exact⟨_,rfl⟩
 ·rw[T8 hj,T8 hj];exact⟨_,rfl⟩
def wU(hc:X.calm=ag):ZO X (.builtin "min") (λxs H Q=>∃i j,xs=[.int i,.int j]/\Q (.int (if j<i then j else i)) H):=by
 intro pq s σ H xs us Q I r h;obtain⟨i,j,rfl,q⟩:=h;obtain⟨u,w',rfl,⟨t,rfl⟩,⟨t',rfl⟩⟩:=zD r;refine min_two_ints (I.ok.hd hc) λh' tk k=>⟨_,H,I.kept k,?_,q⟩
 by_cases hj:j<i
 ·rw[T9 hj,T9 hj];exact⟨_,rfl⟩
 ·rw[T8 hj,T8 hj];exact⟨_,rfl⟩
def ua:ZO X (.type "int") (λxs H Q=>(∃i,xs=[.int i]/\Q (.int i) H)\/∃k,xs=[.bl k]/\Q (.int (if k then 1 else 0)) H):=by
 intro pq s σ H xs us Q I r h;rcases h with⟨i,rfl,q⟩ | ⟨k,rfl,q⟩
 ·obtain⟨u,rfl,t,rfl⟩:=VD r
  exact call_int_int ⟨.int i,H,I,⟨_,rfl⟩,q⟩
 ·obtain⟨u,rfl,r1⟩:=VD r
  cases r1;exact call_int_bool ⟨.int (if k then 1 else 0),H,I.tok _,⟨_,rfl⟩,q⟩
end
structure ObjM(h:bJ)(x dx C:ax)(mA:aZ->Option ao):Prop where
 obj:h.get? x=aa (iI C dx)
 ns:h.Ns1 dx mA
 ne:dx≠x
def vw{h:bJ}{dx:ax}{mA:aZ->Option ao}(n:h.Ns1 dx mA):∃od,h.get? dx=aa od/\∀name,iT name od=aa (mA name):=by
 obtain⟨o,es,ep,ho,hd,hk,_,hm⟩:=n;refine⟨o,ho,λname=>?_⟩
 have e:=hm name;unfold nsFind findBy at e;rw[<-Array.find?_toList]at e;unfold iT;rw[hd]
 dsimp only
 split
 ·rename_i y q
  rw[q]at e;exact congrArg aa e
 ·rename_i q
  rw[q]at e;have a:es.toList.any (·.refKey)=ai:=by
   rw[kT];intro y hy;obtain⟨z,t,hkey⟩:=hk y (iU.mp hy);simp[h8.refKey,hkey]
  have a':¬es.toList.any (·.refKey)=ag:=by rw[a];exact aM
  rw[T8 a'];exact congrArg aa e
def ObjM.look(I:ObjM h x dx C mA):∃od,PySem.W.InstAt h x (iI C dx) C (aa od)/\∀name,iT name od=aa (mA name):=
 let ⟨od,ho,hl⟩:=vw I.ns
 ⟨od,⟨I.obj,rfl,rfl,ho⟩,hl⟩
section
variable{P:bq}{w:bG}{H H':Hp}{h h':bJ}{a C dx:ax}{fs fs':List (aZ×V)}
def x5(hok:HOk P w H h)(e:H a=aa (.ins C dx fs)):∃mA,ObjM h a dx C mA/\(∀f,uz (fs.lookup f) (mA f))/\PySem.Within mA (fs.map (·.1))/\fs.length<=1000/\H dx=aa (.own a):=by
 obtain⟨d,z,ne,ob,mA,n,r,q⟩:=(show ZK P w H h a (.ins C dx fs)from hok a _ e)
 exact⟨mA,⟨ob,n,ne⟩,r,q,z,d⟩
end
structure Cls(K:aj)(C:ax):Prop where
 pg:ly K C aZ.empty=ag
 hd:PySem.W.hasDictIn K C=ag
 po:PySem.W.plainOver K C=ag
 sa:mi K (.ref C) "__setattr__" = aa (aa (.builtin "object.__setattr__"))
def Cls.get{K:aj}{C:ax}(c:Cls K C)(f:aZ):ly K C f=ag:=c.pg
section
variable{X:Cx}{pq:List (ax×dP)}{σ:St}{H:Hp}{s:aw}{A:bV}{E:ao->aw->Prop}{Q:ao->aw->Prop}{c:ao}{b:Bool}
inductive TyOf(K:aj)(H:Hp):V->ao->Prop where
 |non:TyOf K H .non (.type "NoneType")
 |bl (x:Bool):TyOf K H (.bl x) (.type "bool")
 |int (i:Int):TyOf K H (.int i) (.type "int")
 |str (x:aZ):TyOf K H (.str x) (.type "str")
 |flt (x:UInt64):TyOf K H (.flt x) (.type "float")
 |lst {a:ax} {xs:List V} (e:H a=aa (.lst xs)):TyOf K H (.ref a) (.type "list")
 |frz {a:ax} {o:dP} {xs:List V} (e:H a=aa (.frz o (.lst xs))):TyOf K H (.ref a) (.type "list")
 |tup {a:ax} {xs:List V} (e:H a=aa (.tup xs)):TyOf K H (.ref a) (.type "tuple")
 |dK {a:ax} {kvs:List (Key×V)} (e:H a=aa (.dK kvs)):TyOf K H (.ref a) (.type "dict")
 |dT {a:ax} {kvs:List (List Key×V)} (e:H a=aa (.dT kvs)):TyOf K H (.ref a) (.type "dict")
 |ins {a C dx:ax} {fs:List (aZ×V)} (e:H a=aa (.ins C dx fs)) (cl:Cls K C) (ha:mi K (.ref C) "__class__" = aa (aa (.builtin "object.__class__")))
   (hn:PySem.W.specialIn K (.builtin "object.__class__") "__get__" = aa (aa (.builtin "getset_descriptor.__get__"))) (htk:PySem.W.takesIn K (.builtin "object.__class__")=aa ag)
   (hm:PySem.W.mroIn K C (.type "object")=aa ag):TyOf K H (.ref a) (.ref C)
def w6(I:Inv X pq σ H s)(rx:ZA x u)(ty:TyOf X.K H x t)(e:eg X.K t c=aa b)(h:∀tk,Q (.bool b) { s with toks:=tk }) :
  aT (bc X.prog X.w) A (call (.builtin "isinstance") [u,c]) Q E s:=by
 cases ty with
 |non=>cases(show u=bE from rx);exact b9 kU I.kIn aA e (λz=>nomatch z) h
 |bl y=>cases(show u=bM y from rx);exact b9 kW I.kIn aA e (λz=>nomatch z) h
 |int i=>obtain⟨t,q⟩:=(show ∃t,u=fz i t from rx);cases q;exact b9 lz I.kIn aA e (λz=>nomatch z) h
 |str y=>obtain⟨t,q⟩:=(show ∃t,u=i9 y t from rx);cases q;exact b9 lA I.kIn aA e (λz=>nomatch z) h
 |flt y=>obtain⟨t,q⟩:=(show ∃t,u=lQ y t from rx);cases q;exact b9 kD I.kIn aA e (λz=>nomatch z) h
 |@lst a xs ea=>
  cases(show u=bU a from rx)
  obtain⟨_,_,n,_,h1⟩:=(show ZK X.prog X.w H s.heap a (.lst xs)from I.hok a _ ea)
  exact b9 fe I.kIn ⟨_,h1,rfl⟩ e (λz=>nomatch z) h
 |@frz a ob xs ea=>
  cases(show u=bU a from rx)
  obtain⟨_,_,_,n,_,h1⟩:=(show ZK X.prog X.w H s.heap a (.frz ob (.lst xs))from I.hok a _ ea)
  exact b9 fe I.kIn ⟨_,h1,rfl⟩ e (λz=>nomatch z) h
 |@tup a xs ea=>
  cases(show u=bU a from rx)
  obtain⟨_,_,_,p⟩:=(show ZK X.prog X.w H s.heap a (.tup xs)from I.hok a _ ea)
  obtain⟨o,h1,h2,_⟩:=p;exact b9 kE I.kIn ⟨o,h1,h2⟩ e (λz=>nomatch z) h
 |@dK a kvs ea=>
  cases(show u=bU a from rx)
  obtain⟨_,_,vs,_,p⟩:=(show ZK X.prog X.w H s.heap a (.dK kvs)from I.hok a _ ea)
  obtain⟨o,es,ep,h1,h2,_⟩:=p;exact b9 fg I.kIn ⟨o,h1,h2.1⟩ e (λz=>nomatch z) h
 |@dT a kvs ea=>
  cases(show u=bU a from rx)
  obtain⟨_,_,xs,_,o,es,ep,h1,h2,_⟩:=(show ZK X.prog X.w H s.heap a (.dT kvs)from I.hok a _ ea)
  exact b9 fg I.kIn ⟨o,h1,h2.1⟩ e (λz=>nomatch z) h
 |@ins a C dx fs ea cl ha hn htk hm=>
  cases(show u=bU a from rx)
  obtain⟨mA,O,_⟩:=x5 I.hok ea;obtain⟨od,J,_⟩:=O.look;exact b9 (lB (cl.get _) cl.hd ha hn htk hm) I.kIn J e (λz=>nomatch z) h
end
structure Room(k:Nat)(A:bV):Prop where
 hd:A.handled=ac
 dp:A.depth+3*k+5<recursionLimit
 un:A.units+16*k+200<d8
def Room.mono(r:Room k A)(h:j<=k):Room j A:=⟨r.hd,by have:=r.dp;omega,by have:=r.un;omega⟩
theorem Room.deeper(r:Room (k+1) A)(env:Env):Room k (A.deeper env):=
 ⟨r.hd,by have:=r.dp;show A.depth+1+3*k+5<_;omega,by have:=r.un;show A.units+3+16*k+200<_;omega⟩
theorem Room.depth(r:Room k A):A.depth<recursionLimit:=by have:=r.dp;omega
def Jr:TA:=λ_ H Q=>Q [] H
def YY(ta:TE)(tr:TA):TA:=λσ H Q=>ta σ H λx H1=>tr σ H1 λxs H2=>Q (x::xs) H2
section
variable{X:Cx}{e:Expr}{es:List Expr}{te:TE}{t:TA}{pos:dZ}
def Yn:PA X [] Jr:=λ_ _ _ _ H Q I h=>Calls.spliced_nil ⟨[],H,I,.nil,h⟩
def ZE(ha:PE X e te)(hr:PA X es t)(hs:aC (e::es) X.env=(ai,bZ e X.env)::aC es X.env:=by rfl):PA X (e::es) (YY te t):=by
 intro pos pq s σ H Q I h;rw[hs];show aT _ _ (spliced ((ai,bZ e X.env)::cK pos (aC es X.env))) _ _ s;refine Calls.spliced_cons (thn (ha pq s σ H _ I h) λu s1 ⟨x,H1,I1,r1,q1⟩=>?_)
 exact thn (hr pos pq s1 σ H1 _ I1 q1) λus s2 ⟨xs,H2,I2,r2,q2⟩=>⟨x::xs,H2,I2,.cons r1 r2,q2⟩
def ZeV(t:TA):TE:=λσ H Q=>t σ H λxs H1=>xs.length<=aX/\∀p,H1 p=ac->Q (.ref p) (upd H1 p (.tup xs))
def wT(t:TA):TE:=λσ H Q=>t σ H λxs H1=>xs.length<=aX/\∀p,H1 p=ac->Q (.ref p) (upd H1 p (.lst xs))
def jd{x1}(h:PA X es t):PE X (.Tuple es x1 pos) (ZeV t):=by
 intro pq s σ H Q I hq;refine wpAny_Tuple_spliced (thn (h pos pq s σ H _ I hq) λus s1 ⟨xs,H1,I1,r,z,q⟩=>⟨by rw[<-r.length];exact z,?_⟩)
 have hf:H1 s1.heap.objs.size=ac:=I1.hok.fresh (aD _);refine⟨.ref s1.heap.objs.size,upd H1 s1.heap.objs.size (.tup xs),I1.laid (t':=s1.toks) (λb u e=>ar _ e) (aD _) ?_,rfl,q _ hf⟩
 exact⟨z,us,r,⟨_,aN _ rfl,rfl,_,rfl⟩⟩
def Qj(h:PA X es t):PE X (.List es pos) (wT t):=by
 intro pq s σ H Q I hq;refine wpAny_List_spliced (thn (h pos pq s σ H _ I hq) λus s1 ⟨xs,H1,I1,r,z,q⟩=>⟨by rw[<-r.length];exact z,?_⟩)
 have hf:H1 s1.heap.objs.size=ac:=I1.hok.fresh (aD _);refine⟨.ref s1.heap.objs.size,upd H1 s1.heap.objs.size (.lst xs),I1.laid (t':=s1.toks) (λb u e=>ar _ e) (aD _) ?_,rfl,q _ hf⟩
 exact⟨z,us,0,r,aN _ rfl⟩
end
abbrev Sp:=List V->Hp->VK->XK->Prop
abbrev CXT:=List Env->Hp->aw->XK->ao->aw->Prop
structure Env0(P:bq)(w:bG)(K:aj)(mg:aZ->Option ao)(base:bJ)(A:bV)(outer:List Env)(s:aw)(H:Hp):Prop where
 frames:A.frames=aa outer
 mod:Mod K mg base
 bs:∀b o,base.get? b=aa o->s.heap.get? b=aa o/\H b=ac
 bsz:base.objs.size<=s.heap.objs.size
 funs:s.heap.FunFrames base outer
 frf:∀b∈frs outer,H b=ac
 hok:HOk P w H s.heap
 bare:fH s.gens
def CE(outer:List Env)(P:bq)(w:bG)(H:Hp)(s:aw)(Q:VK)(u:ao)(s':aw):Prop:=
 ∃v H',s'.os=s.os/\fH s'.gens/\Un (frs outer) [] H H' s.heap s'.heap/\HOk P w H' s'.heap/\ZA v u/\Q v H'
def CR(CX:CXT)(outer:List Env)(P:bq)(w:bG)(H:Hp)(s:aw)(Q:VK)(E:XK)(r:Result)(s':aw):Prop:=
 match r with
 |.ok (.ret u)=>CE outer P w H s Q u s'
 |.ok _=>False
 |.error e=>CX outer H s E e s'
structure FnOk(P:bq)(w:bG)(K:aj)(mg:aZ->Option ao)(base:bJ)(CX:CXT)(k:Nat)(f:ax)(fd:bP)(ps:List aZ)(sp:Sp):Prop where
 len:∀vs H Q E,sp vs H Q E->vs.length=ps.length
 run:∀(A:bV)(outer:List Env)(s:aw)(H:Hp)(args:Args)(us:List ao)(vs:List V)(Q:VK)(E:XK),Room k A->Env0 P w K mg base A outer s H->ka s fd args (ps.zip us)->Vals vs us->sp vs H Q E->
  fh (bc P w) A (.call (.ref f) args) (CR CX outer P w H s Q E) s
section
variable{X:Cx}{pq:List (ax×dP)}{σ:St}{H:Hp}{s s':aw}
def Inv.env0(I:Inv X pq σ H s):Env0 X.prog X.w X.K X.mg X.base X.A X.stack s H:=
 ⟨I.ok.frames,I.ok.mod,I.bs,bx I.ok.bsz I.sz,I.stack,I.stkFree,I.hok,I.bare⟩
def Inv.after(I:Inv X pq σ H s)(h:CE X.stack X.prog X.w H s Q u s'):EP X pq σ Q u s':=by
 obtain⟨v,H',os,bare,un,hok,r,q⟩:=h;obtain⟨hh,g,d,t,os'⟩:=s';obtain rfl:os'=s.os:=os;exact⟨v,H',I.call (h':=hh) (g':=g) (d':=d) (t':=t) (ch:=[]) un hok bare (λb z=>T7 z (by simp)),r,q⟩
end
def Zeu(sp:Sp)(dvs:List V)(E:XK)(t:TA):TE:=λσ H Q=>t σ H λvs H1=>sp (vs++dvs) H1 Q E
def V4(K:aj)(fd:bP)(ps:List aZ)(ds:List ao):Prop:=
 ∀(s:aw)(us:List ao),K.In s.heap->(us++ds).length=ps.length->ka s fd ⟨us,[]⟩ (ps.zip (us++ds))
def V4.all{K:aj}{fd:bP}{ps:List aZ}(h:∀us:List ao,us.length=ps.length->iV fd ⟨us,[]⟩=cR (ps.zip us)):V4 K fd ps []:=λs us _ hl=>by
 rw[dF]at hl ⊢;exact .of_eq (h us hl)
def Uw(CX:CXT)(X:Cx)(E:XK):Prop:=∀(pq:List (ax×dP))(σ:St)(H:Hp)(s:aw)(e:ao)(s':aw),Inv X pq σ H s->CX X.stack H s E e s'->X.xe e s'
section
variable{X:Cx}{CX:CXT}{k:Nat}{f C:ax}{fd:bP}{ps:List aZ}{sp:Sp}{dvs:List V}{ds:List ao}{E:XK}{x m:aZ}{p pos apos:dZ}{e o:Expr}{es:List Expr}{ta:TE}{t:TA}
def Zco(F:FnOk X.prog X.w X.K X.mg X.base CX k f fd ps sp)(hr:Room k X.A)(hb:V4 X.K fd ps ds)(hd:Vals dvs ds)(hx:Uw CX X E)
  (I:Inv X pq σ H s)(r:Vals vs us)(h:sp (vs++dvs) H Q E):aT (bc X.prog X.w) X.A (call (.ref f) us) (EP X pq σ Q) X.xe s:=by
 have r2:Vals (vs++dvs) (us++ds):=r.append hd;have hl:(us++ds).length=ps.length:=by rw[<-r2.length];exact F.len _ _ _ _ h
 refine mj (gd (F.run X.A X.stack s H ⟨us,[]⟩ (us++ds) (vs++dvs) Q E hr I.env0 (hb s us I.kIn hl) r2 h) λr s' hq=>?_)
 cases r with
 |error e=>exact hx pq σ H s e s' I hq
 |ok fl=>
  cases fl with|ret u=>exact I.after hq|next=>exact False.elim hq|brk=>exact False.elim hq|cont=>exact False.elim hq
def ZbP(F:FnOk X.prog X.w X.K X.mg X.base CX k f fd ps sp)(hr:Room k X.A)(hg:Gl X x)(hm:X.mg x=aa (.ref f))(hk:ei X.K (.ref f)=ag)(hb:V4 X.K fd ps ds)(hd:Vals dvs ds)(hx:Uw CX X E)
  (ha:PA X (e::es) t)(hdb:(x == ("__debug__" : aZ))=ai:=by decide)(he:aC (e::es) X.env=(ai,bZ e X.env)::aC es X.env:=by rfl)(hpl:(cK pos (aC es X.env)).any (·.1)=ai:=by rfl) :
  PE X (.Call (.Name x p) (e::es) [] pos) (Zeu sp dvs E t):=by
 intro pq s σ H Q I h;refine dm (Vj I hg hm ?_ hdb);refine kF (h₀:=X.base) I.ok.mod.kin hk (thn (ha pos pq s σ H _ I h) λus s1 ⟨vs,H1,I1,r,q⟩=>⟨I1.kIn,?_⟩) he hpl
 exact Zco F hr hb hd hx I1 r q
end
structure FnScope(N P:List aZ)(sc:c8):Prop where
 kind:sc.kind=.function
 co:sc.isCoroutine=ai
 gen:sc.isGenerator=ai
 nd:N.Nodup
 pre:N.take P.length=P
 par:∀x∈P,sc.names.lookup x=aa .local\/sc.names.lookup x=aa .cell
 nofree:∀y∈sc.names,y.2≠.free
theorem QO{kindOf:aZ->Option dS}{x:aZ}:∀{binds:List (aZ×ao)}{m:aZ->Option ao},(∀v,(x,v)∉binds)->ml kindOf binds m x=m x
 |[],_,_=>rfl
 |(n,v)::r,m,h=>by
  unfold ml;rw[QO λw hw=>h w (al _ hw)]
  split
  ·have:x≠n:=by rintro rfl;exact h v am
   simp[this]
  ·rfl
theorem Jh{kindOf:aZ->Option dS}{x:aZ}:∀{binds:List (aZ×ao)}{m:aZ->Option ao},(∀v,(x,v)∉binds)->mm kindOf binds m x=m x
 |[],_,_=>rfl
 |(n,v)::r,m,h=>by
  unfold mm;rw[Jh λw hw=>h w (al _ hw)]
  split
  ·rfl
  ·have:x≠n:=by rintro rfl;exact h v am
   simp[this]
theorem QI{kindOf:aZ->Option dS}{x:aZ}{v:ao}:∀{P:List aZ}{vs:List ao}{i:Nat}{m:aZ->Option ao},P.Nodup->P[i]? = aa x->vs[i]? = aa v->kindOf x=aa .local->
  ml kindOf (P.zip vs) m x=aa v
 |[],_,_,_,_,h,_,_=>by simp at h
 |_::_,[],_,_,_,_,h,_=>by simp at h
 |p::P,w::vs,0,m,nd,h1,h2,hk=>by
  simp at h1 h2;subst h1;subst h2;show ml kindOf ((p,w)::P.zip vs) m p=_;unfold ml;rw[QO λv hv=>(cA.mp nd).1 (cB hv).1,T9 hk]
  simp
 |p::P,w::vs,i+1,m,nd,h1,h2,hk=>by
  show ml kindOf ((p,w)::P.zip vs) m x=_;unfold ml;exact QI (i:=i) (cA.mp nd).2 (by simpa using h1) (by simpa using h2) hk
theorem QW{kindOf:aZ->Option dS}{x:aZ}{v:ao}:∀{P:List aZ}{vs:List ao}{i:Nat}{m:aZ->Option ao},P.Nodup->P[i]? = aa x->vs[i]? = aa v->kindOf x≠aa .local->
  mm kindOf (P.zip vs) m x=aa v
 |[],_,_,_,_,h,_,_=>by simp at h
 |_::_,[],_,_,_,_,h,_=>by simp at h
 |p::P,w::vs,0,m,nd,h1,h2,hk=>by
  simp at h1 h2;subst h1;subst h2;show mm kindOf ((p,w)::P.zip vs) m p=_;unfold mm;rw[Jh λv hv=>(cA.mp nd).1 (cB hv).1,T8 hk]
  simp
 |p::P,w::vs,i+1,m,nd,h1,h2,hk=>by
  show mm kindOf ((p,w)::P.zip vs) m x=_;unfold mm;exact QW (i:=i) (cA.mp nd).2 (by simpa using h1) (by simpa using h2) hk
noncomputable def start(N:List aZ)(vs:List V):St:=vs.map aa++aq (N.length-vs.length) ac
noncomputable def Wb(CX:CXT)(P:bq)(w:bG)(K:aj)(mg:aZ->Option ao)(base:bJ)(N:List aZ)(qual:aZ)(scope:c8)(f:ax)(cd:ao)(A:bV)(outer:List Env)(s:aw)(H:Hp)(E:XK):Cx where
 prog:=P
 w:=w
 K:=K
 mg:=mg
 base:=base
 A:=A.deeper (cM qual scope s.heap.objs.size f cd)
 N:=N
 s₀:=s
 H₀:=H
 env:=cM qual scope s.heap.objs.size f cd
 outer:=outer
 stack:=cM qual scope s.heap.objs.size f cd::outer
 ex:=[]
 calm:=ag
 fn:=λ_=>ag
 pn:=[]
 xe:=λe s'=>aT (bc P w) (A.deeper (cM qual scope s.heap.objs.size f cd)) (leaving (cM qual scope s.heap.objs.size f cd) e) (λ_ s''=>CX outer H s E e s'') (λe' s''=>CX outer H s E e' s'') s'
def UF{sc:c8}{n:Nat}{x:aZ}(h:sc.names.lookup x=aa .cell):∃c,(fB n sc.names []).lookup x=aa c:=by
 have q:=fj sc.names n [] (.inl h);exact bI.mp q
def QP{CX:CXT}{P:bq}{w:bG}{K:aj}{mg:aZ->Option ao}{base:bJ}{N ps:List aZ}{qual:aZ}{scope:c8}{f:ax}{cd:ao}{A:bV}{outer:List Env}{s s1:aw}{H:Hp}{E:XK}{us:List ao}{vs:List V}
  (S:FnScope N ps scope)(hd:A.handled=ac)(e0:Env0 P w K mg base A outer s H)(hl:vs.length=ps.length)(r:Vals vs us)
  (x:InCallC s s.heap.objs.size (ml (cM qual scope s.heap.objs.size f cd).kindOf (ps.zip us) λ_=>ac) (fB (s.heap.objs.size+1) scope.names []) (mm (cM qual scope s.heap.objs.size f cd).kindOf (ps.zip us) λ_=>ac) s1) :
  Inv (Wb CX P w K mg base N qual scope f cd A outer s H E) [] (start N vs) H s1:=by
 have hpl:ps.length<=N.length:=by have:=congrArg lR S.pre;rw[cp]at this;omega
 obtain⟨h1,tk,rfl,hk⟩:=x.done;have noA:∀b:ax,b∉(Wb CX P w K mg base N qual scope f cd A outer s H E).ex:=λb z=>T7 (show b∈([]:List ax)from z) (by simp)
 refine⟨⟨e0.mod,S.kind,rfl,rfl,aD _,λy z c h1 h2=>?_,λy hy=>?_,λy c _ h=>?_,λ_=>hd,iW e0.frames,.inr ⟨rfl,rfl⟩,λb z=>T7 z (noA b),e0.bs,e0.bsz,λb _ _=>noA b,λb z=>T7 z (noA b),e0.funs,e0.frf⟩,
  rfl,e0.bare,Un.kept hk,⟨_,x.toInCall.ns,λi y v h1 h2 h3=>?_⟩,λy c h=>⟨_,x.cell y c h⟩,e0.hok.fresh (aD _),λy c h=>?_,λp hp=>T7 (show p∈([]:List (ax×dP))from hp) (by simp),e0.hok.kept hk,?_⟩
 ·exact name_of_addr x.apart (cI h1) (cI h2)
 ·have hy:scope.names.lookup y=aa .cell\/scope.names.lookup y=aa .free:=hy
  rcases hy with hy | hy
  ·exact UF hy
  ·exact T7 rfl (S.nofree _ (cI hy))
 ·exact iu (x.above y c (cI h))
 ·have hi:i<vs.length:=by
   unfold start at h2;by_cases hi:i<vs.length
   ·exact hi
   ·rw[bf (by simpa using hi)]at h2
    rw[bN]at h2;split at h2 <;> cases h2
  have ha:vs[i]? = aa v:=by
   unfold start at h2;rw[aP (by simpa using hi),bg]at h2
   cases e:vs[i]? with|none=>rw[e]at h2;cases h2|some a=>rw[e]at h2;cases h2;rfl
  obtain⟨u,hu,rv⟩:=r.get ha;have hp:ps[i]? = aa y:=by
   rw[<-S.pre,List.getElem?_take_of_lt (by omega)];exact h1
  have ndP:ps.Nodup:=by rw[<-S.pre];exact S.nd.sublist (List.take_sublist _ _)
  refine⟨u,rv,?_⟩;rcases S.par y (cD hp)with k | k
  ·exact .inl ⟨k,QI ndP hp hu k⟩
  ·obtain⟨c,e⟩:=UF (n:=s.heap.objs.size+1) k
   refine .inr ⟨.inl k,c,e,?_⟩;have q:=x.cell y c e;rw[QW ndP hp hu (by show scope.names.lookup y≠_;rw[k];decide)]at q
   exact q
 ·exact e0.hok.fresh (iu (x.above y c (cI h)))
 ·unfold start
  show _=N.length;rw[aW,aH,cL];omega
def Zcd{CX:CXT}{P:bq}{w:bG}{K:aj}{mg:aZ->Option ao}{base:bJ}{k:Nat}{f:ax}{name qual:aZ}{params:lC}{body:List de}{scope:c8}{dV kV doc pm cdv ct oc:ao}{an od:Option ax}
  {osl:Array (Option ao)}{N ps:List aZ}{sp:Sp}(lk:K.lookup f=aa ⟨oc,od,.func (c6 name qual params body scope dV kV doc pm an cdv ct),osl⟩)(hcd:gu K cdv qual=ag)(S:FnScope N ps scope)
  (len:∀vs H Q E,sp vs H Q E->vs.length=ps.length)
  (hbody:∀(A:bV)(outer:List Env)(s:aw)(H:Hp)(vs:List V)(Q:VK)(E:XK),Room k (A.deeper (cM qual scope s.heap.objs.size f cdv))->sp vs H Q E->
   ∃t,PSs (Wb CX P w K mg base N qual scope f cdv A outer s H E) body t/\t { nx:=λ_ H'=>Q .non H',rt:=Q } (start N vs) H) :
  FnOk P w K mg base CX (k+1) f (c6 name qual params body scope dV kV doc pm an cdv ct) ps sp:=by
 refine⟨len,λA outer s H args us vs Q E hr e0 hb r hsp=>?_⟩
 have hl:=len _ _ _ _ hsp;have KX:K.In s.heap:=e0.mod.kin.keeps λb o e=>(e0.bs b o e).1
 have lim:s.heap.NoLimit:=e0.mod.nolimit.keeps λb o e=>(e0.bs b o e).1
 have hkind:∀y∈ps.zip us,scope.names.lookup y.1=aa .local\/(scope.names.lookup y.1=aa .cell/\((fB (s.heap.objs.size+1) scope.names []).lookup y.1).isSome=ag):=λ⟨n,v⟩ hy=>by
  rcases S.par n (cB hy).1 with q | q
  ·exact .inl q
  ·exact .inr ⟨q,fj _ _ _ (.inl q)⟩
 refine iO hr.depth (KX _ _ lk) rfl S.co S.gen rfl (kG KX hcd) (hb _ _ _ _ ?_);refine gv S.kind hkind λenv he s1 x=>?_
 subst he;refine⟨lim.keeps x.toInCall.keep,codeAny_func ?_⟩;obtain⟨t,ht,hq⟩:=hbody A outer s H vs Q E (hr.deeper _) hsp;have I:Inv (Wb CX P w K mg base N qual scope f cdv A outer s H E) [] (start N vs) H s1:=QP S hr.hd e0 hl r x;refine cF (ht [] s1 (start N vs) H _ I hq) (λfl s' hs=>?_) λe s' hs=>hs
 have fin:∀{σ':St}{H':Hp}{v:V}{u:ao},Inv (Wb CX P w K mg base N qual scope f cdv A outer s H E) [] σ' H' s'->ZA v u->Q v H'->CE outer P w H s Q u s':=
  λ{σ' H' v u} J rv q=>⟨v,H',J.os,J.bare,J.base,J.hok,rv,q⟩
 cases fl with
 |ret u=>
  obtain⟨v,σ',H',J,rv,q⟩:=hs;exact fin J rv q
 |next=>
  obtain⟨σ',H',J,q⟩:=hs;exact fin (v:=V.non) (u:=bE) J rfl q
 |brk=>
  obtain⟨_,_,_,q⟩:=hs;exact False.elim q
 |cont=>
  obtain⟨_,_,_,q⟩:=hs;exact False.elim q
section
variable{X:Cx}{x:aZ}{p pos:dZ}{e:Expr}{es:List Expr}{t:TA}{id T:String}{r:List V->Hp->VK->Prop}
def tCB(r:List V->Hp->VK->Prop)(t:TA):TE:=λσ H Q=>t σ H λvs H1=>r vs H1 Q
def Wv(hc:ZO X (.builtin id) r)(hg:Gl X x)(hm:X.mg x=ac)(hv:cE x=aa (.builtin id))(ha:PA X (e::es) t)(hn:x≠"__name__":=by decide)(hdb:(x == ("__debug__" : aZ))=ai:=by decide)
  (he:aC (e::es) X.env=(ai,bZ e X.env)::aC es X.env:=by rfl)(hpl:(cK pos (aC es X.env)).any (·.1)=ai:=by rfl):PE X (.Call (.Name x p) (e::es) [] pos) (tCB r t):=by
 intro pq s σ H Q I h;refine dm (W5 I hg hm hv ?_ hn hdb);exact PyProof.Rows.callWith_builtin1 (thn (ha pos pq s σ H _ I h) λus s1 ⟨vs,H1,I1,r1,q1⟩=>hc pq s1 σ H1 vs us Q I1 r1 q1) he hpl
def vX(hc:ZO X (.type T) r)(hg:Gl X x)(hm:X.mg x=ac)(hv:cE x=aa (.type T))(ha:PA X (e::es) t)(hn:x≠"__name__":=by decide)(hdb:(x == ("__debug__" : aZ))=ai:=by decide)
  (he:aC (e::es) X.env=(ai,bZ e X.env)::aC es X.env:=by rfl)(hpl:(cK pos (aC es X.env)).any (·.1)=ai:=by rfl):PE X (.Call (.Name x p) (e::es) [] pos) (tCB r t):=by
 intro pq s σ H Q I h;refine dm (W5 I hg hm hv ?_ hn hdb);exact cZ (thn (ha pos pq s σ H _ I h) λus s1 ⟨vs,H1,I1,r1,q1⟩=>hc pq s1 σ H1 vs us Q I1 r1 q1) he hpl
end
end L2
namespace HT
open PySem PyProof.Rows
section
variable{prog:bq}{w:bG}{A:bV}{E:ao->aw->Prop}{s:aw}
def ZaE{Q:ao->aw->Prop}(ht:mK s.heap t vs.toArray)(hb:mK s.heap b ws.toArray)(hv:vs≠[])
  (h1:ws=[]->Q (.ref t) s)(h2:ws≠[]->Q (.ref s.heap.objs.size) { s with heap:=s.heap.push { cls:=.type "tuple",data:=.seq (vs++ws).toArray } })
  (hsz:vs.length+ws.length<=aX):aT (bc prog w) A (dL .Add (.ref t) (.ref b)) Q E s:=by
 obtain⟨⟨cls,dd,data,sl⟩,ho,hc,n,hd⟩:=id ht;obtain⟨⟨cls2,dd2,data2,sl2⟩,ho2,hc2,n2,hd2⟩:=id hb;simp only at hc hd hc2 hd2;subst hc hd hc2 hd2;have e:vs.toArray++ws.toArray=(vs++ws).toArray:=by simp
 by_cases hw:ws=[]
 ·exact kX ⟨_,ho,rfl⟩ ⟨_,ho2,rfl⟩ hU ko fk eZ (eQ _ _)
   (tuple_addW1 t b vs.toArray ws.toArray n n2 dd dd2 sl sl2 (by simpa using hv) (by simp[hw])) ⟨ho,ho2,h1 hw⟩
 ·refine kX ⟨_,ho,rfl⟩ ⟨_,ho2,rfl⟩ hU ko fk eZ (eQ _ _)
   (tuple_addW2 t b vs.toArray ws.toArray n n2 dd dd2 sl sl2 (by simpa using hv) (by simpa using hw) (by rw[au,au];exact hsz)) ⟨ho,ho2,?_⟩
  rw[e];exact h2 hw
noncomputable def sIx(n d:Nat):Option Int->Nat
 |none=>d
 |some v=>if v<0 then(v+(n:Int)).toNat else mV v.toNat n
def ZdG(n d:Nat)(hd:d<=n)(o:Option Int):sIx n d o<=n:=by
 cases o with
 |none=>exact hd
 |some v=>
  show(if v<0 then(v+(n:Int)).toNat else mV v.toNat n)<=n
  by_cases hv:v<0
  ·rw[T9 hv];omega
  ·rw[T8 hv];exact Nat.min_le_right _ _
def wz(v:Int)(n d:Nat):(if v<0 then max (v+(n:Int)) 0 else mV v (n:Int))=((sIx n d (aa v):Nat):Int):=by
 show(if v<0 then max (v+(n:Int)) 0 else mV v (n:Int))=(((if v<0 then(v+(n:Int)).toNat else mV v.toNat n):Nat):Int)
 by_cases hv:v<0
 ·simp only[T9 hv];omega
 ·simp only[T8 hv];omega
def zR(lo hi:Option Int)(n:Nat):eI lo hi 1 (n:Int)=(((sIx n 0 lo:Nat):Int),((sIx n n hi:Nat):Int)):=by
 have h1:¬((1:Int)<0):=by omega
 unfold eI;simp only[h1,if_false];refine Prod.ext ?_ ?_
 ·cases lo with|none=>rfl|some v=>exact wz v n 0
 ·cases hi with|none=>rfl|some v=>exact wz v n n
def z8(i j:Nat):bY (i:Int) (j:Int) 1=j-i:=by
 unfold bY;have h1:(1:Int)>0:=by omega
 simp only[h1,if_true,Int.ediv_one];split <;> omega
def WW{Q:Option Int->aw->Prop}(p:gw v o)(h:Q o s):aT (bc prog w) A (fI.Slice.slicePartIndex v) Q E s:=by
 cases p with|none=>exact gy h|int i t=>exact slicePart_int h
def XO{sl:ax}{vl vu:ao}{lo hi:Option Int}{n:Nat}{Q:Int×Int×Nat->aw->Prop}(hs:s.heap.IsSliceOf sl vl vu .none)(pl:gw vl lo)(pu:gw vu hi)
  (h:Q (((sIx n 0 lo:Nat):Int),1,sIx n n hi-sIx n 0 lo) s):aT (bc prog w) A (dn (.ref sl) (cR (n:Int))) Q E s:=by
 obtain⟨os,hos,hcs,hds⟩:=id hs;unfold dn gH;refine ak (ak (bX hos hds (x:=vl) rfl (ak (bX hos hds (x:=vu) rfl (ak (bX hos hds (x:=.none) rfl (aF ?_)))))));refine ak (gy ?_);show aT _ _ (if((1:Int) == 0)=ag then _ else _) _ _ s
 rw[T8 (by decide)]
 refine ak (WW pl (ak (WW pu (ak (aF ?_)))));show aT _ _ (match eI lo hi 1 (n:Int)with | (lo,hi)=>cR (lo,(1:Int),bY lo hi 1)) _ _ s
 rw[zR lo hi n];show aT _ _ (cR (((sIx n 0 lo:Nat):Int),(1:Int),bY ((sIx n 0 lo:Nat):Int) ((sIx n n hi:Nat):Int) 1)) _ _ s;rw[z8];exact aF h
def uU(xs:Array ao)(i k:Nat):((aI k).filterMap λ(m:Nat)=>xs[((i:Int)+(m:Int)*1).toNat]?).toArray=((xs.toList.drop i).take k).toArray:=by
 have e:(λ(m:Nat)=>xs[((i:Int)+(m:Int)*1).toNat]?)=λm=>xs[i+m]?:=by
  funext m
  have:((i:Int)+(m:Int)*1).toNat=i+m:=by omega
  rw[this]
 rw[e];have:=pick_run xs i k;rw[kH]at this;have e2:((λx=>xs[x]?)∘λx=>i+x)=λm=>xs[i+m]?:=rfl
 rw[e2]at this;rw[this]
def VA{t sl:ax}{items:Array ao}{vl vu:ao}{lo hi:Option Int}{Q:ao->aw->Prop}(ht:mK s.heap t items)(hs:s.heap.IsSliceOf sl vl vu .none)(pl:gw vl lo)(pu:gw vu hi)
  (hw:¬(sIx items.size 0 lo=0/\sIx items.size items.size hi=items.size))
  (h:Q (.ref s.heap.objs.size) { s with heap:=s.heap.push { cls:=.type "tuple",data:=.seq ((items.toList.drop (sIx items.size 0 lo)).take (sIx items.size items.size hi-sIx items.size 0 lo)).toArray } })
  (hsz:items.size<=aX):aT (bc prog w) A (gO (.ref t) (.ref sl)) Q E s:=by
 have htake:sizeOk (.seq ((items.toList.drop (sIx items.size 0 lo)).take (sIx items.size items.size hi-sIx items.size 0 lo)).toArray):=by
  show((items.toList.drop (sIx items.size 0 lo)).take (sIx items.size items.size hi-sIx items.size 0 lo)).toArray.size<=aX;rw[au,cp,cq,cX];omega
 have hj:sIx items.size items.size hi<=items.size:=ZdG _ _ (aD _) hi;obtain⟨os,hos,hcs,hds⟩:=id hs;have hTs:s.TypeIs (.ref sl) "slice":=⟨os,hos,hcs⟩;unfold gO
 try with_reducible refine cm ?_
 first | refine ak (aF ?_) | skip
 refine ak (gP ht.typeIs (by decide) ?_)
 refine ak (cc (name:=dM "__getitem__") ht.typeIs bT
  (df bT ht.typeIs fY ?_ (gz _ _)))
 show aT _ _ (ej (.ref t) >>= _) _ _ s;refine ak (kq ht ?_);refine ak (iA hTs ?_);rw[T9 (by decide)]
 refine ak (XO hs pl pu ?_);have hno:¬((((sIx items.size 0 lo:Nat):Int) == 0&&(1:Int) == 1&&(sIx items.size items.size hi-sIx items.size 0 lo) == items.size)=ag):=by
  intro q;rw[aB,aB]at q;have q1:((sIx items.size 0 lo:Nat):Int)=0:=eq_of_beq q.1.1;have q2:sIx items.size items.size hi-sIx items.size 0 lo=items.size:=eq_of_beq q.2;exact hw ⟨by omega,by omega⟩
 show aT _ _ (if(((sIx items.size 0 lo:Nat):Int) == 0&&(1:Int) == 1&&(sIx items.size items.size hi-sIx items.size 0 lo) == items.size)=ag then _ else _) _ _ s
 rw[T8 hno,uU]
 first
  |exact ak (m:=bS _) (bW (aF ⟨_,rfl,aF h⟩) htake)
  |exact ak (m:=bS _) (bW (ak (aF (aF ⟨_,rfl,aF h⟩))) htake)
  |exact ak (ak (m:=bS _) (bW (aF (aF ⟨_,rfl,aF h⟩)) htake))
  |exact ak (ak (m:=bS _) (bW (aF ⟨_,rfl,aF h⟩) htake))
end
end HT
namespace L2
open PySem PySem.Spec PyProof.Rows
abbrev TO:=St->Hp->(Option Int->Hp->Prop)->Prop
def PO(X:Cx)(e:Option Expr)(t:TO):Prop:=
 ∀(pq:List (ax×dP))(s:aw)(σ:St)(H:Hp)(Q:Option Int->Hp->Prop),Inv X pq σ H s->t σ H Q->
  aT (bc X.prog X.w) X.A (evalPart e X.env) (λu s'=>∃o H',Inv X pq σ H' s'/\gw u o/\Q o H') X.xe s
def ZbN:TO:=λ_ H Q=>Q ac H
def Zd7(t:TE):TO:=λσ H Q=>t σ H λx H1=>∃i,x=.int i/\Q (aa i) H1
section
variable{X:Cx}{e:Expr}{te:TE}{lo hi:Option Expr}{tl th:TO}{pos p2:dZ}
def ZaM:PO X ac ZbN:=by
 intro pq s σ H Q I h;rw[kr];exact aF ⟨ac,H,I,.none,h⟩
def Z6(h:PE X e te):PO X (aa e) (Zd7 te):=by
 intro pq s σ H Q I hw;rw[evalPart_some];refine thn (h pq s σ H _ I hw) λu s1 ⟨x,H1,I1,r1,q1⟩=>?_
 obtain⟨i,rfl,q⟩:=q1;obtain⟨t,rfl⟩:=r1;exact⟨aa i,H1,I1,.int i t,q⟩
def SlR(X:Cx)(r:V->Option Int->Option Int->Hp->VK->Prop):Prop:=
 ∀(pq:List (ax×dP))(s:aw)(σ:St)(H:Hp)(x:V)(v vl vu:ao)(lo hi:Option Int)(sl:ax)(Q:VK),Inv X pq σ H s->ZA x v->s.heap.IsSliceOf sl vl vu .none->gw vl lo->gw vu hi->r x lo hi H Q->
  ∃T id,kI (.type T) "__getitem__" = cR (aa (.builtin id))/\s.TypeIs v T/\aT (bc X.prog X.w) X.A (gO v (.ref sl)) (EP X pq σ Q) X.xe s
def SlR.or{r r':V->Option Int->Option Int->Hp->VK->Prop}(h:SlR X r)(h':SlR X r'):SlR X (λx lo hi H Q=>r x lo hi H Q\/r' x lo hi H Q):=by
 intro pq s σ H x v vl vu lo hi sl Q I rx hs pl pu q;rcases q with q | q
 ·exact h pq s σ H x v vl vu lo hi sl Q I rx hs pl pu q
 ·exact h' pq s σ H x v vl vu lo hi sl Q I rx hs pl pu q
def tSl(r:V->Option Int->Option Int->Hp->VK->Prop)(te:TE)(tl th:TO):TE:=λσ H Q=>te σ H λx H1=>tl σ H1 λl H2=>th σ H2 λu H3=>r x l u H3 Q
def jA{r:V->Option Int->Option Int->Hp->VK->Prop}(hr:SlR X r)(he:PE X e te)(hl:PO X lo tl)(hu:PO X hi th):PE X (.Subscript e (.Slice lo hi ac p2) pos) (tSl r te tl th):=by
 intro pq s σ H Q I h;refine mn (thn (he pq s σ H _ I h) λv s1 ⟨x,H1,I1,r1,q1⟩=>?_)
 refine wpAny_Slice (thn (hl pq s1 σ H1 _ I1 q1) λvl s2 ⟨l,H2,I2,pl,q2⟩=>thn (hu pq s2 σ H2 _ I2 q2) λvu s3 ⟨u,H3,I3,pu,q3⟩=>?_)
 rw[kr];refine aF ?_;have I4:Inv X pq σ H3 { s3 with heap:=s3.heap.push { cls:=.type "slice",data:=.fields #[vl,vu,.none] } }:=I3.kept (t':=s3.toks) λb ob q=>ar _ q
 obtain⟨T,id,hT,ht,hg⟩:=hr pq { s3 with heap:=s3.heap.push { cls:=.type "slice",data:=.fields #[vl,vu,.none] } } σ H3 x v vl vu l u s3.heap.objs.size Q I4 r1 (kJ ..) pl pu q3
 show aT (bc X.prog X.w) X.A (kt e (.Slice lo hi ac p2) v (.ref s3.heap.objs.size)) (EP X pq σ Q) X.xe { s3 with heap:=s3.heap.push { cls:=.type "slice",data:=.fields #[vl,vu,.none] } }
 exact tail_any (ops:=[.ref s3.heap.objs.size,v]) ht hT hg (by with_unfolding_all rfl)
noncomputable def YH(xs:List V)(lo hi:Option Int):List V:=(xs.drop (HT.sIx xs.length 0 lo)).take (HT.sIx xs.length xs.length hi-HT.sIx xs.length 0 lo)
def Ue(xs:List V)(lo hi:Option Int):(YH xs lo hi).length<=xs.length:=by
 unfold YH;rw[cp,cq];omega
noncomputable def ZeU(K:aj):V->Option Int->Option Int->Hp->VK->Prop:=λx lo hi H Q=>∃a xs,x=.ref a/\SqT K H a xs/\
 ¬(HT.sIx xs.length 0 lo=0/\HT.sIx xs.length xs.length hi=xs.length)/\∀p,H p=ac->Q (.ref p) (upd H p (.tup (YH xs lo hi)))
def Zcy:SlR X (ZeU X.K):=by
 intro pq s σ H x v vl vu lo hi sl Q I rx hs pl pu h;obtain⟨a,xs,rfl,hx,hw,q⟩:=h;cases rx;obtain⟨its,r,ht,hz⟩:=I.tuple hx;have hlen:its.toArray.size=xs.length:=by rw[au];exact r.length.symm
 refine⟨"tuple",_,bT.lookup,ht.typeIs,?_⟩;refine HT.VA ht hs pl pu (by rw[hlen];exact hw) ?_ (by rw[hlen];exact hz)
 rw[hlen];refine⟨.ref s.heap.objs.size,_,I.laid (t':=s.toks) (o:=.tup (YH xs lo hi)) (λb ob q=>ar _ q) (aD _) ?_,rfl,q _ (I.hok.fresh (aD _))⟩
 exact⟨bx (Ue xs lo hi) hz,_,(r.drop (HT.sIx xs.length 0 lo)).take (HT.sIx xs.length xs.length hi-HT.sIx xs.length 0 lo),gn _ _⟩
def Zb8(K:aj):R2:=λx y H Q=>∃a b xs ys,x=.ref a/\y=.ref b/\SqT K H a xs/\SqT K H b ys/\xs≠[]/\xs.length+ys.length<=aX/\
 (ys=[]->Q (.ref a) H)/\(ys≠[]->∀p,H p=ac->Q (.ref p) (upd H p (.tup (xs++ys))))
def Vals.nil_iff(r:Vals xs us):us=[]↔xs=[]:=by
 cases r with|nil=>simp|cons _ _=>simp
def Zbq:OpR X (dL .Add) (Zb8 X.K):=by
 intro pq s σ H x y v u Q I rx ry h;obtain⟨a,b,xs,ys,rfl,rfl,ha,hb,hx,hz,q1,q2⟩:=h;cases rx;cases ry;obtain⟨its,r1,p1,_⟩:=I.tuple ha;obtain⟨its2,r2,p2,_⟩:=I.tuple hb;refine HT.ZaE p1 p2 (λz=>hx (r1.nil_iff.mp z)) (λz=>⟨.ref a,H,I,rfl,q1 (r2.nil_iff.mp z)⟩) (λz=>?_) (by rw[<-r1.length,<-r2.length];exact hz)
 refine⟨.ref s.heap.objs.size,_,I.laid (t':=s.toks) (o:=.tup (xs++ys)) (λb ob q=>ar _ q) (aD _) ?_,rfl,q2 (λw=>z (r2.nil_iff.mpr w)) _ (I.hok.fresh (aD _))⟩
 exact⟨by rw[aW];exact hz,_,r1.append r2,gn _ _⟩
end
noncomputable def ixN(n:Nat)(i:Int):Option Nat:=if 0<=i then(if i<n then aa i.toNat else ac)else if -(n:Int)<=i then aa (i+n).toNat else ac
noncomputable def atI{α:Type}(xs:List α)(i:Int):Option α:=(ixN xs.length i).bind λj=>xs[j]?
def wg(h:ixN n i=aa j):seqIndex? i n=aa j/\j<n/\-(n:Int)<=i/\i<n:=by
 unfold ixN at h;by_cases h0:0<=i
 ·rw[T9 h0]at h
  by_cases h1:i<n
  ·rw[T9 h1]at h
   have e:i.toNat=j:=af h;exact⟨by rw[lS h0 h1,e],by omega,by omega,h1⟩
  ·rw[T8 h1]at h;cases h
 ·rw[T8 h0]at h
  by_cases h1:-(n:Int)<=i
  ·rw[T9 h1]at h
   have e:(i+n).toNat=j:=af h;exact⟨by rw[kY (by omega) h1,e],by omega,h1,by omega⟩
  ·rw[T8 h1]at h;cases h
def xR{α:Type}{xs:List α}{i:Int}{v:α}(h:atI xs i=aa v):∃j,seqIndex? i xs.length=aa j/\xs[j]? = aa v/\j<xs.length/\-(xs.length:Int)<=i/\i<xs.length:=by
 unfold atI at h;cases e:ixN xs.length i with
 |none=>rw[e]at h;cases h
 |some j=>
  rw[e]at h;obtain⟨h1,h2,h3,h4⟩:=wg e;exact⟨j,h1,h,h2,h3,h4⟩
def xi(b:Expr):Prop:=∀o i,subscripted b ai o i=operate [o,i] (gO o i)
def IxR(X:Cx)(r:R2):Prop:=
 ∀(value slice:Expr)(pq:List (ax×dP))(s:aw)(σ:St)(H:Hp)(x y:V)(v u:ao)(Q:VK),Inv X pq σ H s->ZA x v->ZA y u->r x y H Q->
  subscripted slice ai v u=operate [v,u] (gO v u)->aT (bc X.prog X.w) X.A (kt value slice v u) (EP X pq σ Q) X.xe s
def MtR(X:Cx)(id:String)(r:V->List V->Hp->VK->Prop):Prop:=
 ∀(pq:List (ax×dP))(s:aw)(σ:St)(H:Hp)(x:V)(xs:List V)(v:ao)(us:List ao)(Q:VK),Inv X pq σ H s->ZA x v->Vals xs us->r x xs H Q->
  aT (bc X.prog X.w) X.A (call (.builtin id) (v::us)) (EP X pq σ Q) X.xe s
section
variable{X:Cx}{a b:Expr}{ta tb:TE}{pos:dZ}
def IxR.or(h:IxR X r)(h':IxR X r'):IxR X (λx y H Q=>r x y H Q\/r' x y H Q):=by
 intro value slice pq s σ H x y v u Q I rx ry q hs;rcases q with q | q
 ·exact h value slice pq s σ H x y v u Q I rx ry q hs
 ·exact h' value slice pq s σ H x y v u Q I rx ry q hs
def Zb1(hr:IxR X r)(ha:PE X a ta)(hb:PE X b tb)(hs:xi b):PE X (.Subscript a b pos) (tOp r ta tb):=by
 intro pq s σ H Q I h;exact mn (Zdn ha hb I h λv u s2 x y H2 I2 rx ry q=>hr a b pq s2 σ H2 x y v u Q I2 rx ry q (hs _ _))
def Zer(K:aj):R2:=λx y H Q=>∃p xs i v,x=.ref p/\y=.int i/\SqL K H p xs/\atI xs i=aa v/\Q v H
def ZeK(K:aj):R2:=λx y H Q=>∃p xs i v,x=.ref p/\y=.int i/\SqT K H p xs/\atI xs i=aa v/\Q v H
def xX:IxR X (Zer X.K):=by
 intro value slice pq s σ H x y v u Q I rx ry h hs;obtain⟨p,xs,i,z,rfl,rfl,hq,he,q⟩:=h;cases rx;obtain⟨t,rfl⟩:=ry;obtain⟨its,r,pl,hz⟩:=I.list hq;obtain⟨j,h1,h2,h3,h4,h5⟩:=xR he;obtain⟨w,ew,rw'⟩:=r.get h2;have hl:=r.length;have hn:=Qk;have fin:EP X pq σ Q w s:=⟨z,H,I,rw',q⟩;by_cases h0:0<=i
 ·have hj:i.toNat=j:=by
   rw[lS h0 h5]at h1;exact af h1
  exact item_listR pl.isList h0 (by omega) (by rw[hj];simpa using ew) fin hs
 ·have hj:(i+(its.toArray.size:Int)).toNat=j:=by
   rw[kY (by omega) h4]at h1
   rw[au,<-hl];exact af h1
  exact iB (x:=w) pl.isList.typeIs slot_list_getitem.lookup
   (wpAny_getItem_list_neg (Q:=λr s'=>r=w/\EP X pq σ Q r s') pl.isList (by omega) (by rw[au] <;> omega) (by omega) (by rw[hj];simpa using ew) ⟨rfl,fin⟩) hs
def Zcr:IxR X (ZeK X.K):=by
 intro value slice pq s σ H x y v u Q I rx ry h hs;obtain⟨p,xs,i,z,rfl,rfl,hq,he,q⟩:=h;cases rx;obtain⟨t,rfl⟩:=ry;obtain⟨its,r,pl,hz⟩:=I.tuple hq;obtain⟨j,h1,h2,h3,h4,h5⟩:=xR he;obtain⟨w,ew,rw'⟩:=r.get h2;have hl:=r.length;have hn:=Qk;have fin:EP X pq σ Q w s:=⟨z,H,I,rw',q⟩;exact iB (x:=w) pl.typeIs slot_tuple_getitem.lookup
  (getItem_tuple (j:=j) (Q:=λr s'=>r=w/\EP X pq σ Q r s') pl (by omega) (by omega) (by rw[au,<-hl];exact h1) (by simpa using ew) ⟨rfl,fin⟩) hs
def z9(its:List ao)(n j:Nat)(u:ao):cN (·.setIfInBounds j u) { cls:=.type "list",data:=.seq its.toArray n }={ cls:=.type "list",data:=.seq (its.set j u).toArray n }:=by
 simp[cN]
theorem Inv.lst{pq:List (ax×dP)}{σ:St}{H:Hp}{s:aw}{p:ax}{xs:List V}(I:Inv X pq σ H s)(h:H p=aa (.lst xs)) :
  ∃(its:List ao)(n:Nat),Vals xs its/\s.heap.get? p=aa { cls:=.type "list",data:=.seq its.toArray n }/\xs.length<=aX:=by
 obtain⟨z,its,n,r,e⟩:=I.hok p _ h;exact⟨its,n,r,e,z⟩
def Inv.lstUpd{pq:List (ax×dP)}{σ:St}{H:Hp}{s:aw}{p:ax}{xs ys:List V}{its its':List ao}{n n':Nat}{f:dP->dP}(I:Inv X pq σ H s)(h:H p=aa (.lst xs))
  (ho:s.heap.get? p=aa { cls:=.type "list",data:=.seq its.toArray n })(hf:f { cls:=.type "list",data:=.seq its.toArray n }={ cls:=.type "list",data:=.seq its'.toArray n' })(r:Vals ys its')(hz:ys.length<=aX)(t:Nat) :
  Inv X pq σ (upd H p (.lst ys)) { s with heap:=s.heap.update p f,toks:=t }:=by
 have e:(s.heap.update p f).get? p=aa { cls:=.type "list",data:=.seq its'.toArray n' }:=by
  rw[iP f ho (by rw[hf] <;> rfl),hf]
 refine I.write (x:=p) (e:=p) (by rw[h];trivial) (.inl rfl) (λb u hb q=>(iC _ _ (Ne.symm hb)).trans q) ⟨_,e⟩ ?_
 exact⟨hz,its',n',r,e⟩
noncomputable def Zeo:V->V->V->Hp->(Hp->Prop)->Prop:=λo i v H Q=>∃p xs k j,o=.ref p/\i=.int k/\H p=aa (.lst xs)/\ixN xs.length k=aa j/\Q (upd H p (.lst (xs.set j v)))
def jo:PSet X Zeo:=by
 intro pq s σ H o i v ov iv u Q I ro ri rv h;obtain⟨p,xs,k,j,rfl,rfl,hp,hj,q⟩:=h;cases ro;obtain⟨t,rfl⟩:=ri;obtain⟨its,n,r,ho,hz⟩:=I.lst hp;obtain⟨h1,h2,h3,h4⟩:=wg hj;have hl:=r.length;have hn:=Qk;have I':Inv X pq σ (upd H p (.lst (xs.set j v))) { s with heap:=s.heap.update p (cN (·.setIfInBounds j u)) }:=
  I.lstUpd hp ho (z9 its n j u) (r.set rv j) (by rw[aV];exact hz) s.toks
 by_cases h0:0<=k
 ·have hk:k.toNat=j:=by
   rw[lS h0 h4]at h1;exact af h1
  exact PySem.W.ki_setAt ho h0 (by omega) (by rw[au,<-hl];exact h4) (by rw[hk];exact⟨_,I',q⟩)
 ·have hk:(k+(its.toArray.size:Int)).toNat=j:=by
   rw[kY (by omega) h3]at h1
   rw[au,<-hl];exact af h1
  exact PySem.W.ki_setBack ho (by omega) (by rw[au,<-hl];exact h3) (by omega) (by rw[hk];exact⟨_,I',q⟩)
def Gc(lo hi:Option Int)(n:Nat):(fb lo hi ac n).1=((HT.sIx n 0 lo:Nat):Int)/\(fb lo hi ac n).2.1=((HT.sIx n n hi:Nat):Int)/\(fb lo hi ac n).2.2=1:=by
 refine⟨?_,?_,rfl⟩
 ·cases lo with
  |none=>simp[fb,HT.sIx]
  |some i=>
   simp only[fb,HT.sIx,lD,show(1:Int)>0 by decide,if_true]
   by_cases h:i<0
   ·simp only[h,if_true] <;> omega
   ·simp only[h,if_false] <;> omega
 ·cases hi with
  |none=>simp[fb,HT.sIx]
  |some i=>
   simp only[fb,HT.sIx,lD,show(1:Int)>0 by decide,if_true]
   by_cases h:i<0
   ·simp only[h,if_true] <;> omega
   ·simp only[h,if_false] <;> omega
def QB(its:List ao)(lo hi:Option Int):slicePick its.toArray lo hi ac=((its.drop (HT.sIx its.length 0 lo)).take (HT.sIx its.length its.length hi-HT.sIx its.length 0 lo)).toArray:=by
 obtain⟨h1,h2,h3⟩:=Gc lo hi its.toArray.size;unfold slicePick;rw[h1,h2,h3];simp only[sliceRange_one,pick_run,au] <;> rfl
noncomputable def ZeO(K:aj):V->Option Int->Option Int->Hp->VK->Prop:=λx lo hi H Q=>∃a xs,x=.ref a/\SqL K H a xs/\∀p,H p=ac->Q (.ref p) (upd H p (.lst (YH xs lo hi)))
def Zbp:SlR X (ZeO X.K):=by
 intro pq s σ H x v vl vu lo hi sl Q I rx hs pl pu h;obtain⟨a,xs,rfl,hx,q⟩:=h;cases rx;obtain⟨its,r,ht,hz⟩:=I.list hx;have hlen:=r.length;refine⟨"list",_,slot_list_getitem.lookup,ht.isList.typeIs,?_⟩;refine wpAny_getItem_list_slice ht.isList hs pl pu .none (by simp) ?_ (by rw[au] <;> omega)
 rw[QB,<-hlen];refine⟨.ref s.heap.objs.size,_,I.laid (t':=s.toks) (o:=.lst (YH xs lo hi)) (λb ob q=>ar _ q) (aD _) ?_,rfl,q _ (I.hok.fresh (aD _))⟩
 exact⟨bx (Ue xs lo hi) hz,_,0,(r.drop (HT.sIx xs.length 0 lo)).take (HT.sIx xs.length xs.length hi-HT.sIx xs.length 0 lo),aN _ rfl⟩
noncomputable def wa:V->Bool
 |.non=>ag
 |.bl _=>ag
 |.int _=>ag
 |.str _=>ag
 |_=>ai
noncomputable def eqV:V->V->Bool
 |.non,.non=>ag
 |.bl a,.bl b=>a == b
 |.bl a,.int b=>(if a then 1 else 0) == b
 |.int a,.bl b=>a == (if b then 1 else 0)
 |.int a,.int b=>a == b
 |.str a,.str b=>a == b
 |_,_=>ai
def Zci(ry:ZA y u)(rx:ZA x v)(fy:wa y=ag)(fx:wa x=ag):iD A s u v (eqV y x):=by
 cases y with
 |non=>
  cases ry;cases x with|non=>cases rx;exact iJ _|bl b=>cases rx;exact iD.none_bool b|int b=>obtain⟨t,rfl⟩:=rx;exact iD.none_int b t|str b=>obtain⟨t,rfl⟩:=rx;exact iD.none_str b t|_=>exact T7 (show ai=ag from fx) aM
 |bl a=>
  cases ry;cases x with|non=>cases rx;exact iD.bool_none a|bl b=>cases rx;exact iD.bool_bool a b|int b=>obtain⟨t,rfl⟩:=rx;exact iD.bool_int a b t|str b=>obtain⟨t,rfl⟩:=rx;exact iD.bool_str a b t|_=>exact T7 (show ai=ag from fx) aM
 |int a=>
  obtain⟨t',rfl⟩:=ry;cases x with|non=>cases rx;exact iD.int_none a t'|bl b=>cases rx;exact iD.int_bool a t' b|int b=>obtain⟨t,rfl⟩:=rx;exact iD.int_int a t' b t|str b=>obtain⟨t,rfl⟩:=rx;exact kx a t' b t|_=>exact T7 (show ai=ag from fx) aM
 |str a=>
  obtain⟨t',rfl⟩:=ry;cases x with|non=>cases rx;exact iD.str_none a t'|bl b=>cases rx;exact iD.str_bool a t' b|int b=>obtain⟨t,rfl⟩:=rx;exact ky a t' b t|str b=>obtain⟨t,rfl⟩:=rx;exact iD.str_str a t' b t|_=>exact T7 (show ai=ag from fx) aM
 |_=>exact T7 (show ai=ag from fy) aM
def JB:ZO X (.builtin "len") (λxs H Q=>∃p ys,xs=[.ref p]/\(SqL X.K H p ys\/SqT X.K H p ys)/\Q (.int ys.length) H):=by
 intro pq s σ H xs us Q I r h;obtain⟨p,ys,rfl,hq,q⟩:=h;obtain⟨u,rfl,rx⟩:=VD r;cases rx;have hn:=Qk;rcases hq with hq | hq
 ·obtain⟨its,r',pl,hz⟩:=I.list hq
  have hlen:=r'.length;exact Calls.call_len_list pl.isList (by simp only[au] <;> omega) ⟨.int ys.length,H,I.tok _,⟨s.toks+1,by rw[au,hlen]⟩,q⟩
 ·obtain⟨its,r',pl,hz⟩:=I.tuple hq
  have hlen:=r'.length;exact len_tuple pl (by simp only[au] <;> omega) ⟨.int ys.length,H,I.tok _,⟨s.toks+1,by rw[au,hlen]⟩,q⟩
def JI:ZO X (.type "list") (λxs H Q=>∃p ys,xs=[.ref p]/\(SqL X.K H p ys\/SqT X.K H p ys)/\∀l,H l=ac->Q (.ref l) (upd H l (.lst ys))):=by
 intro pq s σ H xs us Q I r h;obtain⟨p,ys,rfl,hq,q⟩:=h;obtain⟨u,rfl,rx⟩:=VD r;cases rx;have fin:∀(its:List ao),Vals ys its->ys.length<=aX->∀(h':bJ)(c':Nat),(∀b o',s.heap.get? b=aa o'->h'.get? b=aa o')->
   h'.get? s.heap.objs.size=aa { cls:=.type "list",dict:=ac,data:=.seq its.toArray c',slots:=#[] }->EP X pq σ Q (.ref s.heap.objs.size) { s with heap:=h' }:=λits r' hz h' c' kp e=>
  ⟨.ref s.heap.objs.size,_,I.laid (t':=s.toks) kp (aD _) (show ZK X.prog X.w _ h' _ (.lst ys)from⟨hz,its,c',r',e⟩),rfl,q _ (I.hok.fresh (aD _))⟩
 rcases hq with hq | hq
 ·obtain⟨its,r',pl,hz⟩:=I.list hq
  have hlen:=r'.length;obtain⟨o,ho,hc,n,hd⟩:=pl.isList;exact call_list_seq p (.inl rfl) ho hc hd (λh' c' kp e=>fin its r' hz h' c' kp e) (by simp only[au] <;> omega)
 ·obtain⟨its,r',pl,hz⟩:=I.tuple hq
  have hlen:=r'.length;obtain⟨o,ho,hc,n,hd⟩:=pl;exact call_list_seq p (.inr rfl) ho hc hd (λh' c' kp e=>fin its r' hz h' c' kp e) (by simp only[au] <;> omega)
def Qx:ZO X (.type "tuple") (λxs H Q=>∃p ys,xs=[.ref p]/\((SqL X.K H p ys/\∀l,H l=ac->Q (.ref l) (upd H l (.tup ys)))\/(SqT X.K H p ys/\Q (.ref p) H))):=by
 intro pq s σ H xs us Q I r h;obtain⟨p,ys,rfl,h⟩:=h;obtain⟨u,rfl,rx⟩:=VD r;cases rx;rcases h with⟨hq,q⟩ | ⟨hq,q⟩
 ·obtain⟨its,r',pl,hz⟩:=I.list hq
  have hlen:=r'.length;refine call_tuple_list pl.isList (λh' kp=>?_) (by simp only[au] <;> omega)
  have I1:Inv X pq σ H { s with heap:=h' }:=I.kept (t':=s.toks) kp
  have I2:Inv X pq σ (upd H h'.objs.size (.tup ys)) { s with heap:=h'.push { cls:=.type "tuple",data:=.seq its.toArray } }:=
   I1.laid (t':=s.toks) (λb o e=>ar _ e) (aD _) (show ZK X.prog X.w _ _ _ (.tup ys)from⟨hz,its,r',gn _ _⟩)
  exact⟨.ref h'.objs.size,_,I2,rfl,q _ (I1.hok.fresh (aD _))⟩
 ·obtain⟨its,r',pl,hz⟩:=I.tuple hq
  exact call_tuple_same pl ⟨.ref p,H,I,rfl,q⟩
def tyV(K:aj)(T:String)(x:V)(H:Hp):Prop:=match x with
 |.str _=>T = "str"
 |.int _=>T = "int"
 |.ref p=>(T = "list"/\∃xs,SqL K H p xs)\/(T = "tuple"/\∃o,K.lookup p=aa o/\o.cls=.type "tuple"/\o.dict=ac)\/
   (T = "dict"/\((∃kvs,H p=aa (.dK kvs))\/∃kvs,H p=aa (.dT kvs)))\/(T = "set"/\∃S n,H p=aa (.set S n))
 |_=>False
def ZcW(I:Inv X pq σ H s)(r:ZA x v)(ty:tyV X.K T x H) :
  s.TypeIs v T/\∀a,v=.ref a->∃ob,s.heap.get? a=aa ob/\ob.dict=ac:=by
 cases x with
 |str z=>
  obtain⟨t,rfl⟩:=r;cases(show T = "str" from ty)
  exact⟨typeIs_str s z t,λ_ e=>nomatch e⟩
 |int i=>
  obtain⟨t,rfl⟩:=r;cases(show T = "int" from ty)
  exact⟨iE s i t,λ_ e=>nomatch e⟩
 |ref p=>
  cases r;rcases ty with⟨rfl,xs,hq⟩ | ⟨rfl,o,hk,hc,hd⟩ | ⟨rfl,hk⟩ | ⟨rfl,S,n,hk⟩
  ·obtain⟨its,_,pl,_⟩:=I.list hq
   refine⟨pl.isList.typeIs,λa e=>?_⟩
   cases e;obtain⟨o,n,e,c,hd,_⟩:=pl;exact⟨o,e,hd⟩
  ·refine⟨⟨o,I.kIn p o hk,hc⟩,λa e=>?_⟩
   cases e;exact⟨o,I.kIn _ o hk,hd⟩
  ·have z:∃o,s.heap.get? p=aa o/\o.ExactDict:=by
    rcases hk with⟨kvs,hk⟩ | ⟨kvs,hk⟩
    ·obtain⟨_,_,_,_,o,_,_,e,ex,_⟩:=I.hok p _ hk
     exact⟨o,e,ex⟩
    ·obtain⟨_,_,_,_,o,_,_,e,ex,_⟩:=I.hok p _ hk
     exact⟨o,e,ex⟩
   obtain⟨o,e,ex⟩:=z;refine⟨⟨o,e,ex.1⟩,λa e2=>?_⟩
   cases e2;exact⟨o,e,ex.2.1⟩
  ·obtain⟨o,_,_,_,e,ex,_⟩:=I.hok p _ hk
   refine⟨⟨o,e,ex.1⟩,λa e2=>?_⟩
   cases e2;exact⟨o,e,ex.2.1⟩
 |_=>exact False.elim ty
def tBM(K:aj)(T:String)(r:V->List V->Hp->VK->Prop)(to:TE)(t:TA):TE:=λσ H Q=>to σ H λx H1=>tyV K T x H1/\t σ H1 λxs H2=>r x xs H2 Q
variable{o e:Expr}{es:List Expr}{to:TE}{t:TA}{name:aZ}{apos cpos:dZ}{T id:String}{r:V->List V->Hp->VK->Prop}
def GQ(pa:PlainAttrs T)(slot:Slot T name id)(hty:typeOf (.builtin id)=cR (.type "method_descriptor"))(hm:MtR X id r)(ho:PE X o to)(ha:PA X (e::es) t)
  (hbase:ku o name X.env (bZ o X.env)=bZ o X.env:=by rfl)
  (hfew:((cK cpos (aC (e::es) X.env)).all (λx=>!x.1)&&(backToKw cpos (lT [] X.env)).all (λx=>x.1.isSome)
   && ae ((e::es).length+([]:List kZ).length+(if([]:List kZ).isEmpty then 0 else 1)<30))=ag:=by rfl)
  (hline:(apos.endLine == cpos.line)=ag:=by rfl)(hs:aC (e::es) X.env=(ai,bZ e X.env)::aC es X.env:=by rfl)(hplain:(cK cpos (aC es X.env)).any (·.1)=ai:=by rfl) :
  PE X (.Call (.Attribute o name apos) (e::es) [] cpos) (tBM X.K T r to t):=by
 intro pq s σ H Q I h;refine wpAny_Call_method_late hbase hfew hline rfl (thn (ho pq s σ H _ I h) λv s1 ⟨x,H1,I1,r1,ty,q1⟩=>?_)
 obtain⟨h1,h2⟩:=ZcW I1 r1 ty;refine⟨T,id,pa,slot,hty,h1,h2,?_⟩;have hA:=ha cpos pq s1 σ H1 _ I1 q1;rw[hs]at hA ⊢;refine Calls.callWith_builtin (by show(ai||(cK cpos (aC es X.env)).any (·.1))=ai;rw[hplain] <;> rfl) (Calls.evalArgs_plain ?_)
 exact thn hA λus s2 ⟨vs,H2,I2,r2,q2⟩=>hm pq s2 σ H2 x vs v us Q I2 r1 r2 q2
end
def MtM(X:Cx)(id:String)(r:V->List V->Hp->VK->Prop):Prop:=
 ∀(pq:List (ax×dP))(s:aw)(σ:St)(H:Hp)(x:V)(xs:List V)(v:ao)(us:List ao)(Q:VK),Inv X pq σ H s->ZA x v->Vals xs us->r x xs H Q->
  aT (bc X.prog X.w) X.A (call (.builtin id) (v::us)) (EP X pq σ Q) X.xe s
def Vals.one:∀{x:V}{us:List ao},Vals [x] us->∃u,us=[u]/\ZA x u
 |_,_,.cons r .nil=>⟨_,rfl,r⟩
theorem Vals.reverse(h:Vals xs us):Vals xs.reverse us.reverse:=by
 induction h with|nil=>exact .nil|cons r t ih=>rw[cG,cG];exact Vals.append ih (.cons r .nil)
theorem Vals.rep(h:Vals xs us):∀k:Nat,Vals (aq k xs).flatten (aq k us).flatten
 |0=>.nil
 |k+1=>by
  rw[bD,bD,bR,bR];exact Vals.append h (Vals.rep h k)
theorem VN(its:List ao):∀(k:Nat)(acc:List ao),
  List.foldl (λx1 x2=>x1++x2) acc.toArray (aq k its.toArray)=(acc++(aq k its).flatten).toArray
 |0,acc=>by simp
 |k+1,acc=>by
  have e:acc.toArray++its.toArray=(acc++its).toArray:=by simp
  have e2:(acc++its)++(aq k its).flatten=acc++(aq (k+1) its).flatten:=by
   rw[bD,bR,cV]
  rw[<-e2,<-VN its k (acc++its),<-e,bD,eU]
section
variable{X:Cx}{pq:List (ax×dP)}{σ:St}{H:Hp}{s:aw}{l b:ax}{xs ys zs:List V}
def Inv.lset{its its':List ao}{n:Nat}{f:Array ao->Array ao}{t':Nat}(I:Inv X pq σ H s)(hH:H l=aa (.lst xs))
  (e:s.heap.get? l=aa { cls:=.type "list",data:=.seq its.toArray n })(hf:f its.toArray=its'.toArray)(hv:Vals ys its')(hz:ys.length<=aX) :
  Inv X pq σ (upd H l (.lst ys)) { s with heap:=s.heap.update l (cN f),toks:=t' }:=by
 have q:=PySem.IsL.update e f;rw[hf]at q;refine I.write (x:=l) (e:=l) (by rw[hH];exact trivial) (.inl rfl) (λb' u hb hu=>(iC s.heap (cN f) (Ne.symm hb)).trans hu) ⟨_,q⟩ ?_
 exact⟨hz,its',_,hv,q⟩
def Inv.lnew(I:Inv X pq σ H s)(hv:Vals ys its)(hz:ys.length<=aX) :
  Inv X pq σ (upd H s.heap.objs.size (.lst ys)) { s with heap:=s.heap.push { cls:=.type "list",data:=.seq its.toArray },toks:=t' }:=
 I.laid (λ_ _ q=>ar _ q) (aD _) ⟨hz,its,0,hv,aN _ rfl⟩
theorem Inv.fresh(I:Inv X pq σ H s):H s.heap.objs.size=ac:=I.hok.fresh (aD _)
def Inv.lstM(I:Inv X pq σ H s)(hH:H l=aa (.lst xs)):xs.length<=aX/\∃(its:List ao)(n:Nat),Vals xs its/\xs.length=its.length/\s.heap.get? l=aa { cls:=.type "list",data:=.seq its.toArray n }:=by
 obtain⟨z,its,n,r,e⟩:=I.hok l _ hH;exact⟨z,its,n,r,r.length,e⟩
def Zab(h:n<=aX):dQ n=ai:=by
 unfold dQ;exact T4 (by omega)
end
section
variable{X:Cx}
noncomputable def xn:V->List V->Hp->VK->Prop:=λx vs H Q=>∃l xs y,x=.ref l/\vs=[y]/\H l=aa (.lst xs)/\xs.length<aX/\Q .non (upd H l (.lst (xs++[y])))
def VQ:MtM X "list.append" xn:=by
 intro pq s σ H x vs v us Q I rx rv h;obtain⟨l,xs,y,rfl,rfl,hH,hz,q⟩:=h;cases rx;obtain⟨u,rfl,ru⟩:=rv.one;obtain⟨z,its,n,r,hl,e⟩:=I.lstM hH;refine eA F.slot_list_append ⟨_,e,rfl⟩ F.entry_list_append (F.args_list_append_2 _ _) (PySem.list_append l its.toArray n u (by rw[au];omega)) ⟨e,?_⟩
 refine⟨.non,_,I.lset (its':=its++[u]) hH e (by simp) (r.append (.cons ru .nil)) ?_,rfl,q⟩
 rw[aW,cw];omega
noncomputable def ZbG:V->List V->Hp->VK->Prop:=λx vs H Q=>∃l b xs zs,x=.ref l/\vs=[.ref b]/\H l=aa (.lst xs)/\H b=aa (.lst zs)/\xs.length+zs.length<=aX/\Q .non (upd H l (.lst (xs++zs)))
def vO:MtM X "list.extend" ZbG:=by
 intro pq s σ H x vs v us Q I rx rv h;obtain⟨l,b,xs,zs,rfl,rfl,hH,hB,hz,q⟩:=h;cases rx;obtain⟨u,rfl,ru⟩:=rv.one;cases ru;obtain⟨z,its,n,r,hl,e⟩:=I.lstM hH;obtain⟨z2,its2,n2,r2,hl2,e2⟩:=I.lstM hB;have hsz:its.toArray.size+its2.toArray.size<=aX:=by rw[au,au];omega
 have hlong:¬(!its.toArray.isEmpty&&dQ (its.toArray.size+its2.toArray.size))=ag:=by
  rw[Zab hsz,Bool.and_false];exact aM
 refine eA F.slot_list_extend ⟨_,e,rfl⟩ F.entry_list_extend (F.args_list_extend_2 _ _)
  (AutoSeq1.list_extend_list_list_0 l its.toArray n b its2.toArray n2 hlong (by rw[au];omega) (by omega)) ⟨e,e2,?_⟩
 refine⟨.non,_,I.lset (its':=its++its2) hH e (by simp) (r.append r2) ?_,rfl,q⟩
 rw[aW];omega
def Zbb:R2:=λx y H Q=>∃l b xs zs,x=.ref l/\y=.ref b/\H l=aa (.lst xs)/\H b=aa (.lst zs)/\xs.length+zs.length<=aX/\∀p,H p=ac->Q (.ref p) (upd H p (.lst (xs++zs)))
def zP:OpR X (dL .Add) Zbb:=by
 intro pq s σ H x y v u Q I rx ry h;obtain⟨l,b,xs,zs,rfl,rfl,hH,hB,hz,q⟩:=h;cases rx;cases ry;obtain⟨z,its,n,r,hl,e⟩:=I.lstM hH;obtain⟨z2,its2,n2,r2,hl2,e2⟩:=I.lstM hB;refine PySem.P.add_list e e2 ?_ (by rw[au,au];omega)
 have ea:its.toArray++its2.toArray=(its++its2).toArray:=by simp
 rw[ea];exact⟨.ref _,_,I.lnew (t':=s.toks) (r.append r2) (by rw[aW];omega),rfl,q _ I.fresh⟩
def Jw{α:Type}(xs:List α)(k:Nat):(aq k xs).flatten.length=k*xs.length:=by
 induction k with|zero=>simp|succ k ih=>rw[bD,bR,aW,ih,Nat.succ_mul,iF]
end
end L2
namespace Att
open PySem PySem.W PySem.Calls PyProof.Rows
def Ug :∀(ns:List Int)(vs:List ao),WellAll P h vs (ns.map WData.int)->l9 vs ns:=by
 intro ns
 induction ns with
 |nil=>
  intro vs w;rw[gf]at w;cases w;exact .nil
 |cons n ns ih=>
  intro vs w;rw[aS]at w;cases w with
  |cons a b=>
   cases a;exact .cons _ _ (ih _ b)
def vP{l:OpenLaw}{n:Nat}(hn:l.most=aa n){P:Params}{h:bJ}{args:List WData}{vals:List ao}
  (hpre:l.row.toRowW.claim.pre args=ag)(hwl:WellAll P h vals args) :
  ∃a vs ns,vals=[bU a]/\args=[WData.list (ns.map WData.int)]/\h.get? a=aa { cls:=.type "list",data:=.seq vs.toArray }/\l9 vs ns/\ns.length<=n:=by
 have hsh:WShape.hasAll [] args [.list .int]=ag:=(pre_splitW hpre).1;have hc:l.pre.holds [] { args:=args }=ag:=(pre_splitW hpre).2;obtain⟨d,r,rfl,h1,h2⟩:=hasAllW_cons hsh;obtain rfl:=hasAllW_nil h2;obtain⟨xs,rfl,h3⟩:=hasW_list h1;obtain⟨ns,rfl⟩:=items_int h3;have hlen:ns.length<=n:=by
  unfold OpenLaw.pre at hc;have h4:(WTm.not (.lt (.lit (.int (n:Int))) (.len (.arg 0)))).holds [] { args:=[.list (ns.map .int)] }=ag:=by
   have h4:=(holds_andW hc).1;rw[hn]at h4;exact h4
  have h5:=condW_of h4 (w_not (w_lt w_lit (w_len_list (w_arg rfl))));rw[aH]at h5;refine fC λq=>?_
  have q':(n:Int)<((ns.length:Nat):Int):=by omega
  first
   |(rw[T5 q']at h5;exact T7 h5 (by decide))
   |(simp at h5;omega)
 cases hwl with
 |cons w1 w2=>
  cases w2;cases w1 with|list ho hall=>exact⟨_,_,ns,rfl,rfl,ho,Ug ns _ hall,hlen⟩
def v0(l:OpenLaw)(args:List WData):l.row.toRowW.claim.post args (.bool ag) args=ag:=
 postW_of (r:=l.row.toRowW) (X:=(ag == ag))
  (show WShape.has [] (.bool ag) .bool=ag by first | rfl | decide | simp[WShape.has,WShape.arms,WShape.armsAll])
  (show(WTm.eq .res (.lit (.bool ag))).value [] { args:=args,res:=aa (.bool ag),after:=args }=aa (.bool (ag == ag))from w_eq_bool (w_res rfl) w_lit) rfl
def G5{l:OpenLaw}{n:Nat}{q:bq}{loose:List aZ}{XP:(aZ->Option ao)->bJ->Prop}{YP:bG->bJ->Prop}{d:mM}
  (hn:l.most=aa n)(hdf:d.params.defaults=[])
  (call:∀(w:bG)(s₀ s₁:aw)(mg mb:aZ->Option ao)(fa:ax)(o:dP)(pm cd doc:ao)(a:ax)(vs:List ao)(ns:List Int),
   Ground q loose [] XP w s₀ mg mb s₁.heap->YP w s₁.heap->
   s₁.heap.get? fa=aa o->o.data=.func (docDef d.name d.params d.body d.scope pm cd doc)->s₁.heap.CodeRec cd d.name->mg d.name=aa (.ref fa)->
   s₁.heap.get? a=aa { cls:=.type "list",data:=.seq vs.toArray }->l9 vs ns->ns.length<=n->s₁.gens = #[]->
   fh (bc l.prog w) kc (.call (.ref fa) ⟨[.ref a],[]⟩) (λr s'=>r=.ok (.ret (.bool ag))/\OldK s₁.heap s'.heap/\s'.os=s₁.os/\fH s'.gens) s₁) :
  WalkO q loose XP YP l.row.toRowW d [] (λf vs=>mo f vs):=by
 intro w s₀ s₁ mg mb G Y fa o pm cd doc dV kV ho hd hcd hD hmg hg args vals as hpre hlay hrd hwl hlo;obtain rfl:dV=.none:=Dflts.none hD hdf;obtain rfl:kV=.none:=Dflts.noKw hD;obtain⟨a,vs,ns,rfl,rfl,hobj,hints,hlen⟩:=vP hn hpre hwl;refine enter_call (gd (call w s₀ s₁ mg mb fa o pm cd doc a vs ns G Y ho (fd_plain hd) hcd hmg hobj hints hlen hg) λr s' hq=>?_)
 obtain⟨rfl,h2,h3,h4⟩:=hq;exact⟨.inl ⟨.bool ag,.bool ag,[],rfl,λ_=>rfl,.bool ag,v0 l _,λ_=>⟨gQ,λ_ hm=>(nomatch hm)⟩⟩,h2,h3,h4⟩
end Att
namespace L2
open PySem PySem.Spec PyProof.Rows
theorem QM:∀{vs:List ao}{ns:List Int},l9 vs ns->Vals (ns.map V.int) vs
 |_,_,.nil=>.nil
 |_,_,.cons n t h=>.cons ⟨t,rfl⟩ (QM h)
noncomputable def Xo(s:de):lC:=match s with
 |.FunctionDef _ a _ _ _ _ _ _ _ _=>a
 |_=>{ posonlyargs:=[],args:=[],vararg:=ac,kwonlyargs:=[],kw_defaults:=[],kwarg:=ac,defaults:=[] }
noncomputable def ZC(s:de):List de:=match s with
 |.FunctionDef _ _ b _ _ _ _ _ _ _=>b
 |_=>[]
noncomputable def Zf(s:de):c8:=match s with
 |.FunctionDef _ _ _ _ _ _ sc _ _ _=>sc
 |_=>{ kind:=.function,names:=[],isGenerator:=ai,isCoroutine:=ai }
noncomputable abbrev E0:XK:=λ_ _ _=>False
structure Fun(K:aj)(x qual:aZ)(st:de)(f:ax)(fd:bP):Prop where
 ex:∃(oc:ao)(od:Option ax)(kV doc pm:ao)(an:Option ax)(cdv ct:ao)(osl:Array (Option ao)),
  fd=c6 x qual (Xo st) (ZC st) (Zf st) .none kV doc pm an cdv ct/\K.lookup f=aa ⟨oc,od,.func fd,osl⟩/\gu K cdv qual=ag
 kp:ei K (.ref f)=ag
section
variable{P:bq}{w:bG}{K:aj}{mg:aZ->Option ao}{base:bJ}
def Fun.binds{x qual:aZ}{st:de}{f:ax}{fd:bP}{ps:List aZ}(F:Fun K x qual st f fd)
  (h:∀(kV doc pm:ao)(an:Option ax)(cdv ct:ao)(us:List ao),us.length=ps.length->iV (c6 x qual (Xo st) (ZC st) (Zf st) .none kV doc pm an cdv ct) ⟨us,[]⟩=cR (ps.zip us)):V4 K fd ps []:=by
 obtain⟨oc,od,kV,doc,pm,an,cdv,ct,osl,rfl,lk,hcd⟩:=F.ex;exact .all (h kV doc pm an cdv ct)
def ZcE{x qual:aZ}{st:de}{f:ax}{oc:ao}{od an:Option ax}{osl:Array (Option ao)}{kV doc pm cdv ct:ao}(l:K.lookup f=aa ⟨oc,od,.func (c6 x qual (Xo st) (ZC st) (Zf st) .none kV doc pm an cdv ct),osl⟩)
  (c:gu K cdv qual=ag)(k:ei K (.ref f)=ag):Fun K x qual st f (c6 x qual (Xo st) (ZC st) (Zf st) .none kV doc pm an cdv ct):=⟨⟨oc,od,kV,doc,pm,an,cdv,ct,osl,rfl,l,c⟩,k⟩
end
section
variable{κ:Type}[DecidableEq κ]
noncomputable def Qz(kvs:List (κ×V))(k:κ):Option V:=(kvs.find? λkv=>ae (kv.1=k)).map (·.2)
noncomputable def zo(kvs:List (κ×V))(k:κ)(v:V):List (κ×V):=
 if(kvs.any λkv=>ae (kv.1=k))=ag then kvs.map (λkv=>if kv.1=k then(kv.1,v)else kv)else kvs++[(k,v)]
def GS{p:κ×V}{r:List (κ×V)}{k:κ}(e:p.1=k):Qz (p::r) k=aa p.2:=by simp[Qz,dG,e]
def G2{p:κ×V}{r:List (κ×V)}{k:κ}(e:¬p.1=k):Qz (p::r) k=Qz r k:=by simp[Qz,dG,e]
def G8(kvs:List (κ×V))(k:κ)(v:V):(zo kvs k v).length<=kvs.length+1:=by
 unfold zo;split
 ·rw[aH];omega
 ·rw[aW,aR,d4];omega
def KV.val{kvs:List (κ×V)}{vs:List (κ×ao)}(r:KV kvs vs)(k:κ):uz (Qz kvs k) (k7 vs k):=by
 unfold KV at r
 induction r with
 |nil=>exact aA
 |@cons p q ps qs h t ih=>
  obtain⟨h1,h2⟩:=h;by_cases e:p.1=k
  ·have e':q.1=k:=h1.symm.trans e
   have b:k7 (q::qs) k=aa q.2:=by simp[k7,dG,e']
   rw[GS e,b];exact h2
  ·have e':¬q.1=k:=λz=>e (h1.trans z)
   have b:k7 (q::qs) k=k7 qs k:=by simp[k7,dG,e']
   rw[G2 e,b];exact ih
theorem KV.any(r:KV kvs vs)(k:κ):(kvs.any λkv=>ae (kv.1=k))=vs.any λkv=>ae (kv.1=k):=by
 unfold KV at r
 induction r with|nil=>rfl|cons h t ih=>rw[eR,eR,ih,h.1]
def KV.repl(r:KV kvs vs)(k:κ)(ry:ZA y u) :
  KV (kvs.map λkv=>if kv.1=k then(kv.1,y)else kv) (vs.map λkv=>if kv.1=k then(kv.1,u)else kv):=by
 unfold KV at r ⊢
 induction r with
 |nil=>exact .nil
 |@cons p q ps qs h t ih=>
  rw[aS,aS];refine .cons ?_ ih;obtain⟨h1,h2⟩:=h;by_cases e:p.1=k
  ·rw[T9 e,T9 (h1.symm.trans e)];exact⟨h1,ry⟩
  ·rw[T8 e,T8 (λz=>e (h1.trans z))];exact⟨h1,h2⟩
def KV.put(r:KV kvs vs)(k:κ)(ry:ZA y u):KV (zo kvs k y) (stored vs k u):=by
 unfold zo stored;rw[r.any k];by_cases e:(vs.any λkv=>ae (kv.1=k))=ag
 ·rw[T9 e,T9 e];exact r.repl k ry
 ·rw[T8 e,T8 e];exact Paired.snoc r ⟨rfl,ry⟩
end
def Zd3(r:ZA (kV k) u):(Yq P w).is k u=ag:=by
 cases k with|inl i=>obtain⟨t,e⟩:=(show ∃t,u=fz i t from r);subst e;exact GY P w i t|inr x=>obtain⟨t,e⟩:=(show ∃t,u=i9 x t from r);subst e;exact GC P w x t
noncomputable abbrev KT(H:Hp):List (List Key×V)->List (List Key×ax×ao)->Prop:=Paired λp q=>p.1=q.1/\H q.2.1=aa (.tup (p.1.map kV))/\ZA p.2 q.2.2
def KT.val{H:Hp}{kvs:List (List Key×V)}{xs:List (List Key×ax×ao)}(r:KT H kvs xs)(k:List Key):uz (Qz kvs k) ((mS xs k).map (·.2)):=by
 induction r with
 |nil=>exact aA
 |@cons p q ps qs h t ih=>
  obtain⟨h1,_,h2⟩:=h;by_cases e:p.1=k
  ·have e':q.1=k:=h1.symm.trans e
   have b:mS (q::qs) k=aa q.2:=by simp[mS,dG,e']
   rw[GS e,b];exact h2
  ·have e':¬q.1=k:=λz=>e (h1.trans z)
   have b:mS (q::qs) k=mS qs k:=by simp[mS,dG,e']
   rw[G2 e,b];exact ih
section
variable{P:bq}{w:bG}{H:Hp}{h:bJ}{a:ax}
def ZdQ(ok:HOk P w H h)(e:Rd H a u):ZK P w H h a u:=e.ok ok
def ZdW(ok:HOk P w H h)(e:Rd H a (.dK kvs)):kvs.length<=aX/\(a == dh)=ai/\∃vs,KV kvs vs/\h.DictOf (Yq P w) a vs:=
 show ZK P w H h a (.dK kvs)from ZdQ ok e
def ZeA(ok:HOk P w H h)(e:H a=aa (.dK kvs)):kvs.length<=aX/\(a == dh)=ai/\∃vs,KV kvs vs/\h.DictOf (Yq P w) a vs:=ZdW ok (.inl e)
end
def DGet(H:Hp)(a:ax)(y:V)(r:Option V):Prop:=
 (∃kvs k,Rd H a (.dK kvs)/\y=kV k/\r=Qz kvs k)\/∃kvs k b,Rd H a (.dT kvs)/\y=.ref b/\H b=aa (.tup (k.map kV))/\r=Qz kvs k
def DGet.t(e:H a=aa (.dT kvs))(eb:H b=aa (.tup (k.map kV))):DGet H a (.ref b) (Qz kvs k):=.inr ⟨kvs,k,b,.inl e,rfl,eb,rfl⟩
section
variable{X:Cx}{pq:List (ax×dP)}{σ:St}{H:Hp}{s:aw}{a:ax}{y v:V}{u r:ao}{o:Option V}{A:bV}{E:ao->aw->Prop}
def Inv.big(I:Inv X pq σ H s):dh<s.heap.objs.size:=by
 have h:bn<s.heap.objs.size:=(I.mod.glob.keeps I.bk).lt;exact Nat.lt_trans (by decide) h
def ZbQ(I:Inv X pq σ H s)(mu:Mut (H a))(hs:eC a s.heap h')(he:∃q,h'.get? a=aa q)(new:ZK X.prog X.w (upd H a ob) h' a ob) :
  Inv X pq σ (upd H a ob) { s with heap:=h',toks:=t' }:=
 I.write (x:=a) (e:=a) mu (.inl rfl) (λb q hb z=>(hs.2 b hb).trans z) he new
def ZcB(z:kvs.length<=aX)(hd:(a == dh)=ai)(rel:KV kvs vs)(dd:h'.DictOf (Yq P w) a vs) :
  ZK P w H' h' a (.dK kvs):=⟨z,hd,vs,rel,dd⟩
end
def qy(h:bJ)(hb:dh<h.objs.size):ZK P w H (h.push { cls:=.type "dict",data:=.dict #[] }) h.objs.size (.dK []):=
 ⟨fc _,beq_eq_false_iff_ne.mpr (Ne.symm (br hb)),[],.nil,bJ.DictOf.new h⟩
def jI(h:bJ)(hb:dh<h.objs.size):ZK P w H (h.push { cls:=.type "dict",data:=.dict #[] }) h.objs.size (.dT []):=
 ⟨fc _,beq_eq_false_iff_ne.mpr (Ne.symm (br hb)),[],.nil,_,#[],0,aN _ rfl,⟨rfl,rfl,rfl⟩,rfl,rfl,mq⟩
def Zcv:TE:=λ_ H Q=>∀p,H p=ac->Q (.ref p) (upd H p (.dT []))
section
variable{X:Cx}{pos:dZ}
def ju:PE X (.Dict [] [] pos) Zcv:=λpq s σ H Q I h=>
 wpAny_Dict_empty ⟨.ref s.heap.objs.size,_,I.laid (a:=s.heap.objs.size) (o:=.dT []) (t':=s.toks) (λ_ _ q=>ar _ q) (aD _) (jI s.heap I.big),rfl,h _ (I.hok.fresh (aD _))⟩
end
def yX:List (TE×TE)->St->Hp->(List (V×V)->Hp->Prop)->Prop
 |[],_,H,Q=>Q [] H
 |(tk,tv)::r,σ,H,Q=>tk σ H λx H1=>tv σ H1 λy H2=>yX r σ H2 λps H3=>Q ((x,y)::ps) H3
noncomputable abbrev VV:List (V×V)->List (ao×ao)->Prop:=Paired λp q=>ZA p.1 q.1/\ZA p.2 q.2
def PPs(X:Cx)(pos:dZ)(keys:List (Option Expr))(values:List Expr)(trs:List (TE×TE)):Prop:=
 ∀(pq:List (ax×dP))(s:aw)(σ:St)(H:Hp)(Q:List (V×V)->Hp->Prop),Inv X pq σ H s->yX trs σ H Q->
  aT (bc X.prog X.w) X.A (evalPairs (pairTrees keys values X.env pos)) (λvs s'=>∃ps H',Inv X pq σ H' s'/\VV ps vs/\Q ps H') X.xe s
def Zbc :PPs X pos [] [] []:=λpq s σ H Q I h=>pairTrees_nil_walk ⟨[],H,I,.nil,h⟩
def qZ(hk:PE X k tk)(hv:PE X v tv)(hr:PPs X pos ks vs trs) :
  PPs X pos (aa k::ks) (v::vs) ((tk,tv)::trs):=λpq s σ H Q I h=>
 pairTrees_cons_walk (thn (hk pq s σ H _ I h) λu s1 ⟨x,H1,I1,rx,q1⟩=>thn (hv pq s1 σ H1 _ I1 q1) λw2 s2 ⟨y,H2,I2,ry,q2⟩=>
  thn (hr pq s2 σ H2 _ I2 q2) λws s3 ⟨ps,H3,I3,rel,q3⟩=>⟨(x,y)::ps,H3,I3,.cons ⟨rx,ry⟩ rel,q3⟩)
noncomputable def UO(kvs more:List (Key×V)):List (Key×V):=more.foldl (λacc kv=>zo acc kv.1 kv.2) kvs
def KV.merge:∀{more:List (Key×V)}{rs:List (Key×ao)}{kvs:List (Key×V)}{vs:List (Key×ao)},KV more rs->KV kvs vs->KV (UO kvs more) (merged vs rs):=by
 intro more rs kvs vs r;unfold KV at r
 induction r generalizing kvs vs with
 |nil=>intro q;exact q
 |@cons p q ps qs h t ih=>
  intro r0;have e:KV (zo kvs p.1 p.2) (stored vs q.1 q.2):=by
   have:=r0.put p.1 h.2;rw[<-h.1];exact this
  exact ih e
theorem WP:∀(more kvs:List (Key×V)),(UO kvs more).length<=kvs.length+more.length
 |[],kvs=>by show kvs.length<=kvs.length+0;omega
 |p::r,kvs=>by
  have h1:=WP r (zo kvs p.1 p.2);have h2:=G8 kvs p.1 p.2;show(UO (zo kvs p.1 p.2) r).length<=_;rw[aR];omega
theorem Qc :∀{kvs:List (Key×V)}{ws:List (ao×ao)},VV (kvs.map λkv=>(kV kv.1,kv.2)) ws->∃rs,Carries (Yq P w) ws rs/\KV kvs rs
 |[],_,r=>by rw[gf]at r;cases r;exact⟨[],aA,.nil⟩
 |p::kvs,_,r=>by
  rw[aS]at r;cases r with
  |@cons a b as bs h t=>
   obtain⟨rs,c,q⟩:=Qc (P:=P) (w:=w) t;obtain⟨b1,b2⟩:=b;exact⟨(p.1,b2)::rs,⟨Zd3 h.1,rfl,c⟩,.cons ⟨rfl,h.2⟩ q⟩
def ZdV(trs:List (TE×TE)):TE:=λσ H Q=>∀p,H p=ac->yX trs σ (upd H p (.dK [])) λps H2=>H2 p=aa (.dK [])/\∃kvs:List (Key×V),ps=kvs.map (λkv=>(kV kv.1,kv.2))/\kvs.length<=15/\Q (.ref p) (upd H2 p (.dK (UO [] kvs)))
def Za8(h:PPs X pos keys values trs)(hall:keys.all (·.isSome)=ag)(hl:keys.length=values.length)(h0:keys≠[])
  (h15:keys.length<=15):PE X (.Dict keys values pos) (ZdV trs):=by
 intro pq s σ H Q I q;have hn:=I.hok.fresh (aD s.heap.objs.size);have I1:=I.laid (a:=s.heap.objs.size) (o:=.dK []) (h':=s.heap.push { cls:=.type "dict",data:=.dict #[] }) (t':=s.toks) (λ_ _ q=>ar _ q) (aD _) (qy s.heap I.big)
 refine wpAny_Dict_walk (knd:=Yq X.prog X.w) hall hl h0 h15 (thn (h pq _ σ _ _ I1 (q _ hn)) λws s2 ⟨ps,H2,I2,rel,e,kvs,ep,lk,q2⟩=>?_)
 subst ep;obtain⟨rs,c,rk⟩:=Qc (P:=X.prog) (w:=X.w) rel;obtain⟨z,hd,vs0,r0,dd⟩:=ZeA I2.hok e;cases r0;refine⟨rs,c,dd,λh' dd' hs=>⟨.ref s.heap.objs.size,_,?_,rfl,q2⟩⟩
 have hz:(UO [] kvs).length<=aX:=by
  have h1:=WP kvs [];rw[d4]at h1;rw[cS];omega
 have he:∃q,h'.get? s.heap.objs.size=aa q:=let ⟨q,_,_,hq,_⟩:=dd';⟨q,hq⟩;exact ZbQ I2 (by rw[e];exact aA) hs he (ZcB hz hd (rk.merge .nil) dd')
end L2
namespace Ev
open PySem (Str)
inductive D where
 |non | bl (b:Bool) | int (i:Int) | str (x:aZ) | tup (xs:List D) | loc (n:Nat)
 deriving Inhabited
mutual
def D.beq:D->D->Bool
 |.non,.non=>ag
 |.bl a,.bl b=>ae (a=b)
 |.int a,.int b=>ae (a=b)
 |.str a,.str b=>ae (a=b)
 |.tup a,.tup b=>D.beqs a b
 |.loc a,.loc b=>ae (a=b)
 |_,_=>ai
def D.beqs:List D->List D->Bool
 |[],[]=>ag
 |x::xs,y::ys=>D.beq x y&&D.beqs xs ys
 |_,_=>ai
end
mutual
theorem D.eq_of_beq:∀{a b:D},D.beq a b=ag->a=b
 |.non,.non,_=>rfl
 |.bl a,.bl b,h=>by unfold D.beq at h;rw[T6 h]
 |.int a,.int b,h=>by unfold D.beq at h;rw[T6 h]
 |.str a,.str b,h=>by unfold D.beq at h;rw[T6 h]
 |.tup a,.tup b,h=>by unfold D.beq at h;rw[D.eq_of_beqs h]
 |.loc a,.loc b,h=>by unfold D.beq at h;rw[T6 h]
 |.non,.bl _,h | .non,.int _,h | .non,.str _,h | .non,.tup _,h | .non,.loc _,h=>by unfold D.beq at h;cases h
 |.bl _,.non,h | .bl _,.int _,h | .bl _,.str _,h | .bl _,.tup _,h | .bl _,.loc _,h=>by unfold D.beq at h;cases h
 |.int _,.non,h | .int _,.bl _,h | .int _,.str _,h | .int _,.tup _,h | .int _,.loc _,h=>by unfold D.beq at h;cases h
 |.str _,.non,h | .str _,.bl _,h | .str _,.int _,h | .str _,.tup _,h | .str _,.loc _,h=>by unfold D.beq at h;cases h
 |.tup _,.non,h | .tup _,.bl _,h | .tup _,.int _,h | .tup _,.str _,h | .tup _,.loc _,h=>by unfold D.beq at h;cases h
 |.loc _,.non,h | .loc _,.bl _,h | .loc _,.int _,h | .loc _,.str _,h | .loc _,.tup _,h=>by unfold D.beq at h;cases h
theorem D.eq_of_beqs:∀{a b:List D},D.beqs a b=ag->a=b
 |[],[],_=>rfl
 |x::xs,y::ys,h=>by
  unfold D.beqs at h;have h1:=(aB _ _).mp h;rw[D.eq_of_beq h1.1,D.eq_of_beqs h1.2]
 |[],_::_,h=>by unfold D.beqs at h;cases h
 |_::_,[],h=>by unfold D.beqs at h;cases h
end
mutual
theorem D.beq_self:∀a:D,D.beq a a=ag
 |.non=>rfl
 |.bl a=>by unfold D.beq;exact T5 rfl
 |.int a=>by unfold D.beq;exact T5 rfl
 |.str a=>by unfold D.beq;exact T5 rfl
 |.tup a=>by unfold D.beq;exact D.beqs_self a
 |.loc a=>by unfold D.beq;exact T5 rfl
theorem D.beqs_self:∀a:List D,D.beqs a a=ag
 |[]=>rfl
 |x::xs=>by unfold D.beqs;rw[D.beq_self x,D.beqs_self xs];rfl
end
instance:DecidableEq D:=λa b=>if h:D.beq a b=ag then isTrue (D.eq_of_beq h)else isFalse λe=>h (by rw[e];exact D.beq_self b)
inductive Ob where
 |lst (xs:List D) | scr (ns:List Int) | dt (kvs:List (List Int×D)) | dk (kvs:List (Int×D))
 deriving DecidableEq
noncomputable abbrev Zb:=List Ob
noncomputable abbrev Lc:=List (Option D)
inductive R(α:Type) where
 |ok (a:α) (S:Zb) | ex (c:Nat) (S:Zb) | no
noncomputable def R.bind{α β:Type}(r:R α)(f:α->Zb->R β):R β:=match r with
 |.ok a S=>f a S
 |.ex c S=>.ex c S
 |.no=>.no
noncomputable def R.nox{α:Type}(r:R α):R α:=match r with
 |.ex _ _=>.no
 |r=>r
noncomputable def lim:Nat:=16777216
inductive Bop where | add | sub | mul | fdiv | mod | pow
 deriving DecidableEq
inductive Cop where | eq | ne | lt | le | ge | is | inn | nin
 deriving DecidableEq
inductive Ty where | int | bool | str | tuple | list | dict | cls (c:Nat)
 deriving DecidableEq
inductive Bf where | len | max2 | min2 | toInt | tuple | list | all | any | sum | sortedR
 deriving DecidableEq
inductive Mf where | append | extend
 deriving DecidableEq
mutual
inductive E where
 |c (d:D) | v (i:Nat)
 |tup (es:List E) | lst (es:List E) | dnew
 |bin (op:Bop) (a b:E) | neg (a:E) | not (a:E) | and (a b:E) | or (a b:E) | ite (t a b:E)
 |cmp (op:Cop) (a b:E) | chain (o p:Cop) (a b d:E)
 |ix (a i:E) | sl (a:E) (lo hi:Option E) | rev (a:E)
 |call (f:Nat) (as:List E) | blt (f:Bf) (as:List E) | mt (m:Mf) (o:E) (as:List E)
 |isi (a:E) (ts:List Ty)
 |dput1 (k v:E)
 |comp1 (cap:List Nat) (nl:Nat) (t:List Nat) (it:W) (ifs:List E) (elt:E)
 |refu (w:Bool) (e:E)
inductive W where
 |of (e:E) | rng1 (a:E) | zip (a b:E) | enum (a:E)
end
inductive Sm where
 |asg (t:List Nat) (e:E) | aug (i:Nat) (op:Bop) (e:E) | put (o i e:E)
 |ret (e:E) | ex (e:E) | ite (t:E) (a b:List Sm) | forr (t:List Nat) (it:W) (b:List Sm) | whl (t:E) (b:List Sm)
 |raise (c:Nat) (as:List E) | brk | cnt
 |mov (i j:Nat)
noncomputable def Z9(S:Zb)(n:Nat):Option (List D):=match S[n]? with
 |some (.lst xs)=>aa xs
 |some (.scr ns)=>aa (ns.map .int)
 |_=>ac
noncomputable def Zi(S:Zb)(n:Nat):Option (List D):=match S[n]? with
 |some (.lst xs)=>aa xs
 |_=>ac
noncomputable def Z5(S:Zb):D->Option Bool
 |.non=>aa ai
 |.bl b=>aa b
 |.int i=>aa (ae (i≠0))
 |.tup xs=>aa (!xs.isEmpty)
 |.loc n=>(Z9 S n).map λxs=>!xs.isEmpty
 |_=>ac
noncomputable def b2i(b:Bool):Int:=if b then 1 else 0
noncomputable def eqL(f:D->D->Option Bool):List D->List D->Option Bool
 |[],[]=>aa ag
 |x::xs,y::ys=>match f x y,eqL f xs ys with
  |some a,aa b=>aa (a&&b)
  |_,_=>ac
 |_,_=>aa ai
noncomputable def eqD(S:Zb):Nat->D->D->Option Bool
 |0,_,_=>ac
 |k+1,x,y=>match x,y with
  |.non,.non=>aa ag
  |.bl a,.bl b=>aa (ae (a=b))
  |.int a,.int b=>aa (ae (a=b))
  |.bl a,.int b=>aa (ae (b2i a=b))
  |.int a,.bl b=>aa (ae (a=b2i b))
  |.str a,.str b=>aa (ae (a=b))
  |.tup xs,.tup ys=>eqL (eqD S k) xs ys
  |.loc m,.loc n=>match Zi S m,Zi S n with
   |some xs,aa ys=>if xs.length=ys.length then eqL (eqD S k) xs ys else aa ai
   |_,_=>ac
  |.non,.bl _ | .non,.int _ | .non,.str _ | .bl _,.non | .int _,.non | .str _,.non=>aa ai
  |.bl _,.str _ | .int _,.str _ | .str _,.bl _ | .str _,.int _=>aa ai
  |_,_=>ac
noncomputable def Zn:Nat:=6
noncomputable def inL(S:Zb)(x:D):List D->Option Bool
 |[]=>aa ai
 |y::ys=>match eqD S Zn y x,inL S x ys with
  |some a,aa b=>aa (a||b)
  |_,_=>ac
noncomputable def Uc:List D->Option (List Int)
 |[]=>aa []
 |.int i::r=>(Uc r).map (i :: ·)
 |_::_=>ac
noncomputable def zu(S:Zb):D->Ty->Option Bool
 |.non,_=>aa ai
 |.bl _,t=>aa (ae (t=.bool\/t=.int))
 |.int _,t=>aa (ae (t=.int))
 |.str _,t=>aa (ae (t=.str))
 |.tup _,t=>aa (ae (t=.tuple))
 |.loc n,t=>match S[n]? with
  |some (.lst _)=>aa (ae (t=.list))
  |some (.dt _)=>aa (ae (t=.dict))
  |some (.dk _)=>aa (ae (t=.dict))
  |_=>ac
noncomputable def UN(S:Zb)(x:D):List Ty->Option Bool
 |[]=>aa ai
 |t::ts=>match zu S x t with
  |some ag=>aa ag
  |some ai=>UN S x ts
  |none=>ac
noncomputable def ixN(n:Nat)(i:Int):Option Nat:=if 0<=i then(if i<n then aa i.toNat else ac)else if -(n:Int)<=i then aa (i+n).toNat else ac
noncomputable def at'{α:Type}(xs:List α)(i:Int):Option α:=(ixN xs.length i).bind λj=>xs[j]?
noncomputable def sIx(n d:Nat):Option Int->Nat
 |none=>d
 |some i=>if i<0 then(i+n).toNat else mV i.toNat n
noncomputable def cut(xs:List D)(lo hi:Option Int):List D:=(xs.drop (sIx xs.length 0 lo)).take (sIx xs.length xs.length hi-sIx xs.length 0 lo)
noncomputable def fits(i:Int):Bool:=ae (i.natAbs<2^8000)
noncomputable def big:Int:=2^8000
def qA(h:b<1073741824):b<big:=Int.lt_trans h (by unfold big;decide +kernel)
noncomputable def Yl(op:Bop)(x y:D)(S:Zb):R D:=match op,x,y with
 |.add,.int a,.int b=>.ok (.int (a+b)) S
 |.sub,.int a,.int b=>.ok (.int (a-b)) S
 |.mul,.int a,.int b=>if(fits a&&fits b)=ag then .ok (.int (a*b)) S else .no
 |.fdiv,.int a,.int b=>if 0<b/\b<big then .ok (.int (a / b)) S else .no
 |.mod,.int a,.int b=>if 0<b then .ok (.int (a%b)) S else .no
 |.pow,.int a,.int b=>if 0<=b/\b<=1000/\a.natAbs<2^64 then .ok (.int (a^b.toNat)) S else .no
 |.add,.tup a,.tup b=>if a.length+b.length<=lim then .ok (.tup (a++b)) S else .no
 |.mul,.tup a,.int b=>if 0<=b/\b<1000/\a.length<=1000 then .ok (.tup (aq b.toNat a).flatten) S else .no
 |.mul,.loc m,.int b=>match Zi S m with
  |some a=>if 0<=b/\b<1000/\a.length<=1000 then .ok (.loc S.length) (S++[.lst (aq b.toNat a).flatten])else .no
  |none=>.no
 |.add,.loc m,.loc n=>match Zi S m,Zi S n with
  |some a,aa b=>if a.length+b.length<=lim then .ok (.loc S.length) (S++[.lst (a++b)])else .no
  |_,_=>.no
 |_,_,_=>.no
noncomputable def Qo(op:Bop)(x y:D)(S:Zb):R D:=match x,y with
 |.int _,.int _=>Yl op x y S
 |_,_=>.no
noncomputable def ob{α:Type}(o:Option α)(S:Zb):R α:=match o with
 |some a=>.ok a S
 |none=>.no
noncomputable def Zdj(S:Zb)(x:D):Option Ob->R Bool
 |some (.lst ys)=>ob (inL S x ys) S
 |_=>.no
noncomputable def WK(S:Zb)(x y:D):R Bool:=match y with
 |.tup ys=>ob (inL S x ys) S
 |.loc n=>Zdj S x S[n]?
 |_=>.no
noncomputable def Qm:D->Option (List Int)
 |.tup ks=>Uc ks
 |_=>ac
noncomputable def YC:List D->Option (List (List Int))
 |[]=>aa []
 |x::r=>match Qm x,YC r with
  |some a,aa b=>aa (a::b)
  |_,_=>ac
noncomputable def WY(r:List Int):D:=.tup (r.map .int)
noncomputable def ltI:List Int->List Int->Bool
 |[],[]=>ai
 |[],_::_=>ag
 |_::_,[]=>ai
 |a::x,b::y=>if a=b then ltI x y else ae (a<b)
noncomputable def Vk(x:List Int):List (List Int)->List (List Int)
 |[]=>[x]
 |y::r=>if ltI x y then x::y::r else y::Vk x r
noncomputable def ZY:List (List Int)->List (List Int)
 |[]=>[]
 |x::r=>Vk x (ZY r)
noncomputable def Za5{α:Type}(lt:α->α->Bool)(x:α):List α->List α
 |[]=>[x]
 |y::r=>if lt x y then x::y::r else y::Za5 lt x r
noncomputable def Gq{α:Type}(lt:α->α->Bool):List α->List α
 |[]=>[]
 |x::r=>Za5 lt x (Gq lt r)
noncomputable def ltP:List (List Int)->List (List Int)->Bool
 |[],[]=>ai
 |[],_::_=>ag
 |_::_,[]=>ai
 |a::x,b::y=>if a=b then ltP x y else ltI a b
noncomputable def Zb5(P:List (List Int)):D:=.tup (P.map WY)
noncomputable def qM:D->Option (List (List Int))
 |.tup ks=>YC ks
 |_=>ac
noncomputable def Jn:List D->Option (List (List (List Int)))
 |[]=>aa []
 |x::r=>match qM x,Jn r with
  |some a,aa b=>aa (a::b)
  |_,_=>ac
noncomputable def Xq(op:Cop)(x y:D)(S:Zb):R D:=match op with
 |.eq=>(ob (eqD S Zn x y) S).bind λb S=>.ok (.bl b) S
 |.ne=>(ob (eqD S Zn x y) S).bind λb S=>.ok (.bl !b) S
 |.lt=>match x,y with
  |.int a,.int b=>.ok (.bl (ae (a<b))) S
  |_,_=>.no
 |.le=>match x,y with
  |.int a,.int b=>.ok (.bl (ae (a<=b))) S
  |_,_=>.no
 |.ge=>match x,y with
  |.int a,.int b=>.ok (.bl (ae (b<=a))) S
  |_,_=>.no
 |.is=>match x,y with
  |_,.non=>.ok (.bl (ae (x=.non))) S
  |.bl a,.bl b=>.ok (.bl (ae (a=b))) S
  |_,_=>.no
 |.inn=>(WK S x y).bind λb S=>.ok (.bl b) S
 |.nin=>(WK S x y).bind λb S=>.ok (.bl !b) S
noncomputable def wE(x y:D)(S:Zb):R D:=match x,y with
 |.tup xs,.int i=>ob (at' xs i) S
 |.loc n,.int i=>match Z9 S n with
  |some xs=>ob (at' xs i) S
  |none=>.no
 |_,_=>.no
noncomputable def slice(x:D)(lo hi:Option Int)(S:Zb):R D:=match x with
 |.tup xs=>.ok (.tup (cut xs lo hi)) S
 |.loc n=>match Zi S n with
  |some xs=>.ok (.loc S.length) (S++[.lst (cut xs lo hi)])
  |none=>.no
 |_=>.no
noncomputable def Qe(x:D)(S:Zb):R D:=match x with
 |.tup xs=>.ok (.tup xs.reverse) S
 |_=>.no
noncomputable def UK(o i v:D)(S:Zb):R Unit:=match o,i with
 |.loc n,.int k=>match S[n]? with
  |some (.lst xs)=>(ob (ixN xs.length k) S).bind λj S=>.ok () (S.set n (.lst (xs.set j v)))
  |_=>.no
 |_,_=>.no
noncomputable def UE:D->Option Bool
 |.non=>aa ai
 |.bl b=>aa b
 |.int i=>aa (ae (i≠0))
 |_=>ac
noncomputable def Yt:List D->Option (List Bool)
 |[]=>aa []
 |x::xs=>match UE x,Yt xs with
  |some b,aa bs=>aa (b::bs)
  |_,_=>ac
noncomputable def YT:List D->Option (List Int)
 |[]=>aa []
 |.int i::r=>(YT r).map (i :: ·)
 |_::_=>ac
noncomputable def XR(is:List Int):Bool:=ae (is.length<=1000)&&is.all λi=>ae (-1099511627776<=i/\i<=1099511627776)
noncomputable def YW(rs:List (List Int)):Bool:=ae (rs.length<64)&&decide rs.Nodup&&rs.all λr=>!r.isEmpty
noncomputable def sorted(rev:Bool)(n:Nat)(S:Zb):R D:=(ob (Zi S n) S).bind λxs S=>(ob (YC xs) S).bind λrs S=>
 if YW rs=ag then .ok (.loc S.length) (S++[.lst ((if rev then(ZY rs).reverse else ZY rs).map WY)])else .no
noncomputable def twin:List (List (List Int))->Bool
 |[P,Q]=>ae (P=Q) && !P.isEmpty
 |_=>ai
noncomputable def xH(ps:List (List (List Int))):Bool:=(ae (ps.length<64)&&decide ps.Nodup&&(ae (ps.length<=1)||ps.all λP=>!P.isEmpty))||twin ps
noncomputable def Y0(S:Zb):D->Option (List D)
 |.tup xs=>aa xs
 |.loc n=>Z9 S n
 |_=>ac
noncomputable def ZB(lo:Int)(n:Nat):List D:=(aI n).map λ(k:Nat)=>.int (lo+(k:Int))
noncomputable def W8(i:Int):Bool:=ae (-(2^62)<=i/\i<2^62)
noncomputable def YJ(f:Bf)(as:List D)(S:Zb):R D:=match f,as with
 |.len,[x]=>(ob (Y0 S x) S).bind λxs S=>.ok (.int xs.length) S
 |.max2,[.int a,.int b]=>.ok (.int (if b>a then b else a)) S
 |.min2,[.int a,.int b]=>.ok (.int (if b<a then b else a)) S
 |.toInt,[.int a]=>.ok (.int a) S
 |.toInt,[.bl b]=>.ok (.int (b2i b)) S
 |.tuple,[.tup xs]=>.ok (.tup xs) S
 |.tuple,[.loc n]=>(ob (Zi S n) S).bind λxs S=>.ok (.tup xs) S
 |.list,[x]=>(ob (Y0 S x) S).bind λxs S=>.ok (.loc S.length) (S++[.lst xs])
 |.all,[.loc n]=>(ob (Zi S n) S).bind λxs S=>(ob (Yt xs) S).bind λbs S=>.ok (.bl (bs.all id)) S
 |.any,[x]=>(ob (Y0 S x) S).bind λxs S=>(ob (Yt xs) S).bind λbs S=>.ok (.bl (bs.any id)) S
 |.sum,[.loc n]=>(ob (Zi S n) S).bind λxs S=>(ob (YT xs) S).bind λis S=>if XR is=ag then .ok (.int is.sum) S else .no
 |.sortedR,[.loc n]=>sorted ag n S
 |_,_=>.no
noncomputable def WU(m:Mf)(o:D)(as:List D)(S:Zb):R D:=match m,o,as with
 |.append,.loc n,[x]=>(ob (Zi S n) S).bind λxs S=>if xs.length<lim then .ok .non (S.set n (.lst (xs++[x])))else .no
 |.extend,.loc n,[.loc k]=>if n=k then .no else(ob (Zi S n) S).bind λxs S=>(ob (Zi S k) S).bind λys S=>if xs.length+ys.length<=lim then .ok .non (S.set n (.lst (xs++ys)))else .no
 |_,_,_=>.no
noncomputable def UQ(S:Zb):D->Bool
 |.loc n=>(Zi S n).isSome
 |_=>ai
noncomputable def fill:List Nat->List D->Lc->Option Lc
 |[],[],σ=>aa σ
 |i::t,x::xs,σ=>fill t xs (σ.set i (aa x))
 |_,_,_=>ac
noncomputable def assign(t:List Nat)(x:D)(S:Zb)(σ:Lc):Option Lc:=match t with
 |[i]=>aa (σ.set i (aa x))
 |t=>match x with
  |.tup xs=>fill t xs σ
  |.loc n=>match Zi S n with
   |some xs=>fill t xs σ
   |none=>ac
  |_=>ac
inductive Fl where | nx (σ:Lc) | ret (d:D) | brk (σ:Lc) | cnt (σ:Lc)
noncomputable abbrev Calls:=Nat->List D->Zb->R D
structure Walk where
 items:List D
 kept:List (Nat×List D)
noncomputable def Walk.still(w:Walk)(S:Zb):Bool:=w.kept.all λp=>ae (S[p.1]? = aa (.lst p.2))
noncomputable def Ya(S:Zb):D->Option Walk
 |.tup xs=>aa ⟨xs,[]⟩
 |.loc n=>match S[n]? with
  |some (.lst xs)=>aa ⟨xs,[(n,xs)]⟩
  |_=>ac
 |_=>ac
noncomputable def Xk(w:Walk)(body:D->Lc->Zb->R Fl):List D->Lc->Zb->R Fl
 |[],σ,S=>if w.still S then .ok (.nx σ) S else .no
 |x::xs,σ,S=>if w.still S then match body x σ S with
   |.ok (.nx σ') S'=>Xk w body xs σ' S'
   |.ok (.cnt σ') S'=>Xk w body xs σ' S'
   |.ok (.brk σ') S'=>.ok (.nx σ') S'
   |.ok (.ret d) S'=>.ok (.ret d) S'
   |.ex c S'=>.ex c S'
   |.no=>.no
  else .no
noncomputable def Xb(test:Lc->Zb->R Bool)(body:Lc->Zb->R Fl):Nat->Lc->Zb->R Fl
 |0,_,_=>.no
 |n+1,σ,S=>(test σ S).bind λb S=>if b then match body σ S with
   |.ok (.nx σ') S'=>Xb test body n σ' S'
   |.ok (.cnt σ') S'=>Xb test body n σ' S'
   |.ok (.brk σ') S'=>.ok (.nx σ') S'
   |.ok (.ret d) S'=>.ok (.ret d) S'
   |.ex c S'=>.ex c S'
   |.no=>.no
  else .ok (.nx σ) S
noncomputable def Xd(w:Walk)(turn:D->Lc->Zb->R Lc):List D->Lc->Zb->R Lc
 |[],σ,S=>if w.still S then .ok σ S else .no
 |x::xs,σ,S=>if w.still S then(turn x σ S).bind λσ S=>Xd w turn xs σ S else .no
noncomputable def push(n:Nat)(y:D)(S:Zb):R Unit:=match Zi S n with
 |some ys=>if ys.length<lim then .ok () (S.set n (.lst (ys++[y])))else .no
 |none=>.no
noncomputable def caught(cap:List Nat)(nl:Nat)(σ:Lc):Lc:=aq nl ac++cap.map λi=>(σ[i]?).join
noncomputable def Vu:Nat:=1000
noncomputable def Zw(c:Nat):List Bool:=(aI 10).map λj=>ae (c=j)
noncomputable def junk(c:Nat):Zb:=[.lst ((Zw c).map .bl),.lst ((Zw c).map λb=>.int (b2i b))]
noncomputable def Yz:List aZ:=["row","part","number","heads","not beside","not in","turn","lot","many","note"]
noncomputable def Zbh(w:Bool)(c:Nat):D:=if w then .str (Yz.getD c "")else .int c
noncomputable def Q9(w:Bool)(c:Nat):Zb:=if w then junk c++[.lst (Yz.map .str)]else junk c
mutual
noncomputable def ev(C:Calls):E->Lc->Zb->R D
 |.c d,_,S=>.ok d S
 |.v i,σ,S=>ob (σ[i]?).join S
 |.tup es,σ,S=>(evs C es σ S).bind λxs S=>if xs.length<=lim then .ok (.tup xs) S else .no
 |.lst es,σ,S=>(evs C es σ S).bind λxs S=>if xs.length<=lim then .ok (.loc S.length) (S++[.lst xs])else .no
 |.dnew,_,S=>.ok (.loc S.length) (S++[.dt []])
 |.dput1 k v,σ,S=>(ev C k σ S).bind λx S=>(ev C v σ S).bind λy S=>match x with
  |.tup k=>(ob (Uc k) S).bind λk S=>.ok (.loc S.length) (S++[.dt [(k,y)]])
  |.int i=>.ok (.loc S.length) (S++[.dk [(i,y)]])
  |_=>.no
 |.bin op a b,σ,S=>(ev C a σ S).bind λx S=>(ev C b σ S).bind λy S=>Yl op x y S
 |.neg a,σ,S=>(ev C a σ S).bind λx S=>match x with
  |.int i=>.ok (.int (-i)) S
  |_=>.no
 |.not a,σ,S=>(ev C a σ S).bind λx S=>(ob (Z5 S x) S).bind λb S=>.ok (.bl !b) S
 |.and a b,σ,S=>(ev C a σ S).bind λx S=>match x with
  |.bl c=>if c then ev C b σ S else .ok (.bl ai) S
  |_=>.no
 |.or a b,σ,S=>(ev C a σ S).bind λx S=>match x with
  |.bl c=>if c then .ok (.bl ag) S else ev C b σ S
  |_=>.no
 |.ite t a b,σ,S=>(ev C t σ S).bind λx S=>(ob (Z5 S x) S).bind λc S=>if c then ev C a σ S else ev C b σ S
 |.cmp op a b,σ,S=>(ev C a σ S).bind λx S=>(ev C b σ S).bind λy S=>Xq op x y S
 |.chain o p a b d,σ,S=>(ev C a σ S).bind λx S=>(ev C b σ S).bind λy S=>(Xq o x y S).bind λz S=>match z with
  |.bl c=>if c then(ev C d σ S).bind λw S=>Xq p y w S else .ok (.bl ai) S
  |_=>.no
 |.ix a i,σ,S=>(ev C a σ S).bind λx S=>(ev C i σ S).bind λy S=>wE x y S
 |.sl a lo hi,σ,S=>(ev C a σ S).bind λx S=>(evo C lo σ S).bind λl S=>(evo C hi σ S).bind λh S=>slice x l h S
 |.rev a,σ,S=>(ev C a σ S).bind λx S=>Qe x S
 |.call f as,σ,S=>(evs C as σ S).bind λxs S=>C f xs S
 |.blt f as,σ,S=>(evs C as σ S).bind λxs S=>YJ f xs S
 |.mt m o as,σ,S=>(ev C o σ S).bind λx S=>if UQ S x=ag then(evs C as σ S).bind λxs S=>WU m x xs S else .no
 |.isi a ts,σ,S=>(ev C a σ S).bind λx S=>(ob (UN S x ts) S).bind λb S=>.ok (.bl b) S
 |.comp1 cap nl t it ifs elt,σ,S=>(evw C it σ S).bind λw S=>
   ((Xd w (λx σ S1=>(ob (assign t x S1 σ) S1).bind λσ S1=>(evt C ifs σ S1).bind λb S1=>if b then(ev C elt σ S1).bind λy S1=>(push S.length y S1).bind λ_ S1=>.ok σ S1 else .ok σ S1) w.items (caught cap nl σ) (S++[.lst []])).bind
    λ_ S1=>.ok (.loc S.length) S1).nox
 |.refu w e,σ,S=>match ev C e σ S with
  |.ok _ S=>.ok .non S
  |.ex c S=>if 1<=c/\c<=10 then .ok (Zbh w (c-1)) (S++Q9 w (c-1))else .no
  |.no=>.no
noncomputable def evs(C:Calls):List E->Lc->Zb->R (List D)
 |[],_,S=>.ok [] S
 |e::es,σ,S=>(ev C e σ S).bind λx S=>(evs C es σ S).bind λxs S=>.ok (x::xs) S
noncomputable def evo(C:Calls):Option E->Lc->Zb->R (Option Int)
 |none,_,S=>.ok ac S
 |some e,σ,S=>(ev C e σ S).bind λx S=>match x with
  |.int i=>.ok (aa i) S
  |_=>.no
noncomputable def evt(C:Calls):List E->Lc->Zb->R Bool
 |[],_,S=>.ok ag S
 |e::es,σ,S=>(ev C e σ S).bind λx S=>(ob (Z5 S x) S).bind λb S=>if b then evt C es σ S else .ok ai S
noncomputable def evw(C:Calls):W->Lc->Zb->R Walk
 |.rng1 a,σ,S=>(ev C a σ S).bind λx S=>match x with
  |.int i=>if W8 i then .ok ⟨ZB 0 i.toNat,[]⟩ S else .no
  |_=>.no
 |.zip a b,σ,S=>(ev C a σ S).bind λx S=>(ev C b σ S).bind λy S=>match Ya S x,Ya S y with
  |some v,aa w=>.ok ⟨(v.items.zip w.items).map λp=>.tup [p.1,p.2],v.kept++w.kept⟩ S
  |_,_=>.no
 |.enum a,σ,S=>(ev C a σ S).bind λx S=>match Ya S x with
  |some w=>.ok ⟨(ZB 0 w.items.length).zip w.items |>.map λp=>.tup [p.1,p.2],w.kept⟩ S
  |none=>.no
 |.of e,σ,S=>(ev C e σ S).bind λx S=>ob (Ya S x) S
end
noncomputable def tst(C:Calls)(e:E)(σ:Lc)(S:Zb):R Bool:=(ev C e σ S).bind λx S=>ob (Z5 S x) S
mutual
noncomputable def run(C:Calls):Sm->Lc->Zb->R Fl
 |.asg t e,σ,S=>(ev C e σ S).bind λx S=>(ob (assign t x S σ) S).bind λσ S=>.ok (.nx σ) S
 |.aug i op e,σ,S=>(ob (σ[i]?).join S).bind λx S=>(ev C e σ S).bind λy S=>(Qo op x y S).bind λz S=>.ok (.nx (σ.set i (aa z))) S
 |.put o i e,σ,S=>(ev C e σ S).bind λv S=>(ev C o σ S).bind λx S=>(ev C i σ S).bind λy S=>(UK x y v S).bind λ_ S=>.ok (.nx σ) S
 |.ret e,σ,S=>(ev C e σ S).bind λx S=>.ok (.ret x) S
 |.ex e,σ,S=>(ev C e σ S).bind λ_ S=>.ok (.nx σ) S
 |.ite t a b,σ,S=>(tst C t σ S).bind λc S=>if c then runs C a σ S else runs C b σ S
 |.forr t it b,σ,S=>(evw C it σ S).bind λw S=>Xk w (λx σ S=>(ob (assign t x S σ) S).bind λσ S=>runs C b σ S) w.items σ S
 |.whl t b,σ,S=>Xb (tst C t) (runs C b) Vu σ S
 |.raise c as,σ,S=>(evs C as σ S).bind λ_ S=>.ex c S
 |.brk,σ,S=>.ok (.brk σ) S
 |.cnt,σ,S=>.ok (.cnt σ) S
 |.mov i j,σ,S=>(ev C (.v j) σ S).bind λx S=>(ob (assign [i] x S σ) S).bind λσ S=>.ok (.nx σ) S
noncomputable def runs(C:Calls):List Sm->Lc->Zb->R Fl
 |[],σ,S=>.ok (.nx σ) S
 |s::ss,σ,S=>(run C s σ S).bind λf S=>match f with
  |.nx σ=>runs C ss σ S
  |f=>.ok f S
end
structure Fn where
 ps:Nat
 ns:Nat
 body:List Sm
noncomputable def start(n:Nat)(xs:List D):Lc:=xs.map aa++aq (n-xs.length) ac
noncomputable def Zt(F:List Fn):Nat->Calls
 |0,_,_,_=>.no
 |d+1,f,xs,S=>match F[f]? with
  |some fn=>if xs.length=fn.ps then(runs (Zt F d) fn.body (start fn.ns xs) S).bind λf S=>match f with
    |.ret x=>.ok x S
    |.nx _=>.ok .non S
    |_=>.no
   else .no
  |none=>.no
end Ev
namespace Sd
open PySem PySem.Spec PyProof.Rows L2
open Ev (D Ob Zb Lc R E Sm Calls Walk Fl Fn Bop Cop Ty Bf Mf ev evs evo evt evw tst run runs)
mutual
def Rep(ρ:List ax)(H:Hp):D->V->Prop
 |.non,v=>v=.non
 |.bl b,v=>v=.bl b
 |.int i,v=>v=.int i
 |.str x,v=>v=.str x
 |.tup ds,v=>∃a xs,v=.ref a/\H a=aa (.tup xs)/\Rq ρ H ds xs
 |.loc n,v=>∃a,v=.ref a/\ρ[n]? = aa a
def Rq(ρ:List ax)(H:Hp):List D->List V->Prop
 |[],xs=>xs=[]
 |d::ds,xs=>∃v vs,xs=v::vs/\Rep ρ H d v/\Rq ρ H ds vs
end
structure Fut(ρ:List ax)(H:Hp)(ρ':List ax)(H':Hp):Prop where
 pre:∃t,ρ'=ρ++t
 tup:∀a xs,H a=aa (.tup xs)->H' a=aa (.tup xs)
def Fut.refl(ρ:List ax)(H:Hp):Fut ρ H ρ H:=⟨⟨[],by simp⟩,λ_ _ h=>h⟩
def Fut.trans(a:Fut ρ H ρ1 H1)(b:Fut ρ1 H1 ρ2 H2):Fut ρ H ρ2 H2:=
 ⟨by obtain⟨t,e⟩:=a.pre;obtain⟨u,f⟩:=b.pre;exact⟨t++u,by rw[f,e,cV]⟩,λc xs h=>b.tup c xs (a.tup c xs h)⟩
def Fut.at{ρ ρ':List ax}{H H':Hp}(f:Fut ρ H ρ' H'){n:Nat}{a:ax}(h:ρ[n]? = aa a):ρ'[n]? = aa a:=by
 obtain⟨t,rfl⟩:=f.pre;have hn:n<ρ.length:=(ay.mp h).1;rw[aP hn];exact h
mutual
theorem Rep.mono{ρ ρ':List ax}{H H':Hp}(f:Fut ρ H ρ' H'):∀{d:D}{v:V},Rep ρ H d v->Rep ρ' H' d v
 |.non,_,h | .bl _,_,h | .int _,_,h | .str _,_,h=>by unfold Rep at h ⊢;exact h
 |.tup ds,v,h=>by
  unfold Rep at h ⊢;obtain⟨a,xs,e,t,r⟩:=h;exact⟨a,xs,e,f.tup a xs t,Rq.mono f r⟩
 |.loc n,v,h=>by
  unfold Rep at h ⊢;obtain⟨a,e,t⟩:=h;exact⟨a,e,f.at t⟩
theorem Rq.mono(f:Fut ρ H ρ' H'):∀{ds:List D}{xs:List V},Rq ρ H ds xs->Rq ρ' H' ds xs
 |[],_,h=>by unfold Rq at h ⊢;exact h
 |d::ds,xs,h=>by
  unfold Rq at h ⊢;obtain⟨v,vs,e,r,rs⟩:=h;exact⟨v,vs,e,Rep.mono f r,Rq.mono f rs⟩
end
def Rq.nil :Rq ρ H [] []:=by unfold Rq;rfl
def Rq.cons{ρ:List ax}{H:Hp}{d:D}{v:V}{ds:List D}{vs:List V}(r:Rep ρ H d v)(rs:Rq ρ H ds vs):Rq ρ H (d::ds) (v::vs):=by
 unfold Rq;exact⟨v,vs,rfl,r,rs⟩
theorem Rq.length :∀{ds:List D}{xs:List V},Rq ρ H ds xs->xs.length=ds.length
 |[],_,h=>by unfold Rq at h;rw[h];rfl
 |d::ds,xs,h=>by
  unfold Rq at h;obtain⟨v,vs,rfl,_,rs⟩:=h;rw[aR,aR,Rq.length rs]
theorem Rq.append :∀{ds es:List D}{xs ys:List V},Rq ρ H ds xs->Rq ρ H es ys->Rq ρ H (ds++es) (xs++ys)
 |[],_,_,_,h,r=>by unfold Rq at h;rw[h];exact r
 |d::ds,_,_,_,h,r=>by
  unfold Rq at h;obtain⟨v,vs,rfl,a,rs⟩:=h;exact Rq.cons a (Rq.append rs r)
theorem Rq.take :∀{ds:List D}{xs:List V}(k:Nat),Rq ρ H ds xs->Rq ρ H (ds.take k) (xs.take k)
 |_,_,0,_=>Rq.nil
 |[],_,k+1,h=>by unfold Rq at h;rw[h];exact Rq.nil
 |d::ds,_,k+1,h=>by
  unfold Rq at h;obtain⟨v,vs,rfl,a,rs⟩:=h;exact Rq.cons a (Rq.take k rs)
theorem Rq.drop :∀{ds:List D}{xs:List V}(k:Nat),Rq ρ H ds xs->Rq ρ H (ds.drop k) (xs.drop k)
 |_,_,0,h=>h
 |[],_,k+1,h=>by unfold Rq at h;rw[h];exact Rq.nil
 |d::ds,_,k+1,h=>by
  unfold Rq at h;obtain⟨v,vs,rfl,a,rs⟩:=h;exact Rq.drop k rs
theorem Rq.get :∀{ds:List D}{xs:List V}{i:Nat}{d:D},Rq ρ H ds xs->ds[i]? = aa d->∃v,xs[i]? = aa v/\Rep ρ H d v
 |[],_,_,_,_,e=>by simp at e
 |d::ds,_,0,_,h,e=>by
  unfold Rq at h;obtain⟨v,vs,rfl,a,rs⟩:=h;simp at e;subst e;exact⟨v,rfl,a⟩
 |d::ds,_,i+1,_,h,e=>by
  unfold Rq at h;obtain⟨v,vs,rfl,a,rs⟩:=h;obtain⟨u,q,r⟩:=Rq.get (i:=i) rs (by simpa using e)
  exact⟨u,by simpa using q,r⟩
theorem Rq.set(r:Rep ρ H d v):∀{ds:List D}{xs:List V}(i:Nat),Rq ρ H ds xs->Rq ρ H (ds.set i d) (xs.set i v)
 |[],_,i,h=>by unfold Rq at h;rw[h];exact Rq.nil
 |_::_,_,0,h=>by
  unfold Rq at h;obtain⟨_,_,rfl,_,rs⟩:=h;exact Rq.cons r rs
 |_::_,_,i+1,h=>by
  unfold Rq at h;obtain⟨_,_,rfl,a,rs⟩:=h;exact Rq.cons a (Rq.set r i rs)
theorem Rq.reverse :∀{ds:List D}{xs:List V},Rq ρ H ds xs->Rq ρ H ds.reverse xs.reverse
 |[],_,h=>by unfold Rq at h;rw[h];exact Rq.nil
 |d::ds,_,h=>by
  unfold Rq at h;obtain⟨v,vs,rfl,a,rs⟩:=h;rw[cG,cG];exact Rq.append (Rq.reverse rs) (Rq.cons a Rq.nil)
theorem Rq.rep(h:Rq ρ H ds xs):∀k:Nat,Rq ρ H (aq k ds).flatten (aq k xs).flatten
 |0=>Rq.nil
 |k+1=>by
  rw[bD,bD,bR,bR];exact Rq.append h (Rq.rep h k)
theorem Rq.ints :∀ns:List Int,Rq ρ H (ns.map D.int) (ns.map V.int)
 |[]=>Rq.nil
 |n::ns=>Rq.cons (by unfold Rep;rfl) (Rq.ints ns)
def Scr(K:aj)(H:Hp)(a:ax)(ns:List Int):Prop:=
 (∃o,H a=aa (.frz o (.lst (ns.map V.int))))\/
  ∃(o:dP)(its:Array ao)(n:Nat),K.lookup a=aa o/\o.cls=.type "list"/\o.dict=ac/\o.data=.seq its n/\its.size<=aX/\Vals (ns.map V.int) its.toList
def Scr.sq{K:aj}{H:Hp}{a:ax}{ns:List Int}(h:Scr K H a ns):SqL K H a (ns.map V.int):=by
 rcases h with⟨o,h⟩ | h
 ·exact .inl (.inr ⟨o,h⟩)
 ·exact .inr h
def Zed(ρ:List ax)(H:Hp)(kvs:List (List Int×D))(vs:List (List Key×V)):Prop:=
 Paired (λ(p:List Int×D) (q:List Key×V)=>q.1=p.1.map fG/\Rep ρ H p.2 q.2) kvs vs
def ZdO(ρ:List ax)(H:Hp)(kvs:List (Int×D))(vs:List (Key×V)):Prop:=
 Paired (λ(p:Int×D) (q:Key×V)=>q.1=fG p.1/\Rep ρ H p.2 q.2) kvs vs
def QL(K:aj)(ρ:List ax)(H:Hp)(a:ax):Ob->Prop
 |.lst ds=>∃xs,H a=aa (.lst xs)/\Rq ρ H ds xs
 |.scr ns=>Scr K H a ns
 |.dt kvs=>∃vs,H a=aa (.dT vs)/\Zed ρ H kvs vs
 |.dk kvs=>∃vs,H a=aa (.dK vs)/\ZdO ρ H kvs vs
noncomputable def YS:aZ:="law.<locals>.<lambda>"
def Tb(H:Hp):Prop:=∀(P:ax)(ps:Array ao),H P=aa (.tbl ps)->lE ps.toList/\∀(pos:dZ)(cv:ao),gp pos ps.toList=aa cv->
 ∃(c:ax)(oc:dP)(vs:Array ao)(t:mP),cv=.ref c/\H c=aa (.frz oc (.own c))/\oc.data=.fields vs/\vs[1]? = aa (.str YS t)
theorem Tb.upd(h:Tb H)(hp:∀ob u,H p≠aa (.frz ob u))(ho:∀ps,o≠.tbl ps):Tb (upd H p o):=λP ps e=>by
 by_cases z:P=p
 ·subst z;rw[Zq]at e;cases e;exact T7 rfl (ho ps)
 ·rw[Zo z]at e
  obtain⟨a,b⟩:=h P ps e;refine⟨a,λpos cv q=>?_⟩
  obtain⟨c,oc,vs,t,e1,e2,e3⟩:=b pos cv q;exact⟨c,oc,vs,t,e1,by rw[Zo (λz=>hp oc (.own c) (by rw[<-z];exact e2))];exact e2,e3⟩
structure St3(K:aj)(ρ:List ax)(S:Zb)(H:Hp):Prop where
 len:ρ.length=S.length
 nd:∀(m n:Nat)(a:ax),ρ[m]? = aa a->ρ[n]? = aa a->m≠n->(∃ns,S[m]? = aa (.scr ns))\/(∃ns,S[n]? = aa (.scr ns))
 ob:∀(n:Nat)(o:Ob)(a:ax),S[n]? = aa o->ρ[n]? = aa a->QL K ρ H a o
 tb:Tb H
structure LocR(ρ:List ax)(H:Hp)(l:Lc)(σ:L2.St):Prop where
 len:l.length=σ.length
 val:∀(i:Nat)(d:D),l[i]? = aa (aa d)->∃v,σ[i]? = aa (aa v)/\Rep ρ H d v
theorem LocR.mono(f:Fut ρ H ρ' H')(r:LocR ρ H l σ):LocR ρ' H' l σ:=
 ⟨r.len,λi d e=>let ⟨v,q,h⟩:=r.val i d e;⟨v,q,h.mono f⟩⟩
theorem LocR.set(r:LocR ρ H l σ)(i:Nat)(h:Rep ρ H d v):LocR ρ H (l.set i (aa d)) (σ.set i (aa v)):=
 ⟨by rw[aV,aV];exact r.len,λj e q=>by
  rw[cH]at q ⊢;split at q
  ·rename_i hij
   subst hij;split at q
   ·rename_i hl
    cases q;rw[T9 rfl,T9 (by rw[<-r.len];exact hl)]
    exact⟨v,rfl,h⟩
   ·cases q
  ·rename_i hij
   rw[T8 hij];exact r.val j e q⟩
def End{α β:Type}(K:aj)(xw:Nat->Hp->Prop)(rep:List ax->Hp->α->β->Prop)(ρ:List ax)(H:Hp)(Q:β->Hp->Prop):R α->Prop
 |.ok d S=>∀ρ' H' v,Fut ρ H ρ' H'->St3 K ρ' S H'->rep ρ' H' d v->Q v H'
 |.ex c S=>∀ρ' H',Fut ρ H ρ' H'->St3 K ρ' S H'->xw c H'
 |.no=>False
section
variable{K:aj}{xw:Nat->Hp->Prop}{ρ ρ':List ax}{H H':Hp}{α β α' β':Type}{rep:List ax->Hp->α->β->Prop}{rep':List ax->Hp->α'->β'->Prop}
def End.mono{Q:β->Hp->Prop}(f:Fut ρ H ρ' H')(h:End K xw rep ρ H Q r):End K xw rep ρ' H' Q r:=by
 cases r with|ok d S=>exact λρ2 H2 v g st r=>h ρ2 H2 v (f.trans g) st r|ex c S=>exact λρ2 H2 g st=>h ρ2 H2 (f.trans g) st|no=>exact h
theorem End.bind{Q:β'->Hp->Prop}{Q1:β->Hp->Prop}(h:End K xw rep' ρ H Q (r.bind f))
  (k:∀d S ρ1 H1 v,Fut ρ H ρ1 H1->St3 K ρ1 S H1->rep ρ1 H1 d v->End K xw rep' ρ1 H1 Q (f d S)->Q1 v H1):End K xw rep ρ H Q1 r:=by
 cases r with|ok d S=>exact λρ1 H1 v g st r=>k d S ρ1 H1 v g st r (End.mono g h)|ex c S=>exact h|no=>exact h
theorem End.ok{Q:β->Hp->Prop}(h:End K xw rep ρ H Q (.ok a S))(st:St3 K ρ S H)(r:rep ρ H a v):Q v H:=h ρ H v (Fut.refl ρ H) st r
theorem End.ob{Q:β'->Hp->Prop}(h:End K xw rep' ρ H Q ((Ev.ob o S).bind f)):∃a,o=aa a/\End K xw rep' ρ H Q (f a S):=by
 cases o with|none=>exact h.elim|some a=>exact⟨a,rfl,h⟩
def End.ite{c:Prop}[Decidable c]{Q:β->Hp->Prop}(h:End K xw rep ρ H Q (if c then a else b)):(c/\End K xw rep ρ H Q a)\/(¬c/\End K xw rep ρ H Q b):=by
 split at h
 ·exact .inl ⟨‹_›,h⟩
 ·exact .inr ⟨‹_›,h⟩
def End.guard{c:Prop}[Decidable c]{Q:β->Hp->Prop}(h:End K xw rep ρ H Q (if c then a else .no)):c/\End K xw rep ρ H Q a:=by
 rcases h.ite with h | ⟨_,h⟩
 ·exact h
 ·exact h.elim
end
noncomputable abbrev nx:Nat->Hp->Prop:=λ_ _=>False
theorem End.nox{α β:Type}{K:aj}{xw:Nat->Hp->Prop}{ρ:List ax}{H:Hp}{rep:List ax->Hp->α->β->Prop}{Q:β->Hp->Prop}{r:R α}(h:End K xw rep ρ H Q r.nox):End K nx rep ρ H Q r:=by
 cases r with|ok d S=>exact h|ex c S=>exact h.elim|no=>exact h
def Vr(_:List ax)(_:Hp)(a b:Bool):Prop:=a=b
def ZbL(_:List ax)(_:Hp)(a b:Option Int):Prop:=a=b
section
variable(X:Cx)(xw:Nat->Hp->Prop)
def tE(f:Lc->Zb->R D):TE:=λσ H Q=>∃ρ l S,St3 X.K ρ S H/\LocR ρ H l σ/\End X.K xw Rep ρ H Q (f l S)
def tA(f:Lc->Zb->R (List D)):TA:=λσ H Q=>∃ρ l S,St3 X.K ρ S H/\LocR ρ H l σ/\End X.K xw Rq ρ H Q (f l S)
def tB3(f:Lc->Zb->R Bool):TT:=λσ H Q=>∃ρ l S,St3 X.K ρ S H/\LocR ρ H l σ/\End X.K xw Vr ρ H Q (f l S)
def tO(f:Lc->Zb->R (Option Int)):TO:=λσ H Q=>∃ρ l S,St3 X.K ρ S H/\LocR ρ H l σ/\End X.K xw ZbL ρ H Q (f l S)
variable(C:Calls)
def CE(e:Expr)(i:E):Prop:=PE X e (tE X xw (ev C i))
def CT(e:Expr)(i:E):Prop:=PT X e (tB3 X xw (tst C i))
def CA(es:List Expr)(is:List E):Prop:=PA X es (tA X xw (evs C is))
def CO(e:Option Expr)(i:Option E):Prop:=PO X e (tO X xw (evo C i))
end
def PE.imp(h:PE X e t)(k:∀σ H Q,t' σ H Q->t σ H Q):PE X e t':=λpq s σ H Q I q=>h pq s σ H Q I (k σ H Q q)
def PT.imp(h:PT X e t)(k:∀σ H Q,t' σ H Q->t σ H Q):PT X e t':=λpq s σ H Q I q=>h pq s σ H Q I (k σ H Q q)
def PA.imp(h:PA X e t)(k:∀σ H Q,t' σ H Q->t σ H Q):PA X e t':=λpos pq s σ H Q I q=>h pos pq s σ H Q I (k σ H Q q)
def PO.imp(h:PO X e t)(k:∀σ H Q,t' σ H Q->t σ H Q):PO X e t':=λpq s σ H Q I q=>h pq s σ H Q I (k σ H Q q)
section
variable{K:aj}{ρ ρ':List ax}{S:Zb}{H H':Hp}{a p:ax}{n:Nat}
def St3.at(st:St3 K ρ S H)(h:S[n]? = aa o):∃a,ρ[n]? = aa a/\QL K ρ H a o:=by
 have hn:n<S.length:=(ay.mp h).1;have hr:n<ρ.length:=by rw[st.len];exact hn
 exact⟨ρ[n],ah hr,st.ob n o _ h (ah hr)⟩
theorem Paired.map2{α β:Type}{F G:α->β->Prop}:∀{l₁:List α}{l₂:List β},Paired F l₁ l₂->(∀a b,F a b->G a b)->Paired G l₁ l₂
 |_,_,.nil,_=>.nil
 |_,_,.cons r t,f=>.cons (f _ _ r) (Paired.map2 t f)
def QL.keep(f:Fut ρ H ρ' H')(k:∀u,H a=aa u->H' a=aa u)(h:QL K ρ H a o):QL K ρ' H' a o:=by
 cases o with
 |lst ds=>obtain⟨xs,e,r⟩:=h;exact⟨xs,k _ e,r.mono f⟩
 |scr ns=>
  rcases h with⟨o,e⟩ | h
  ·exact .inl ⟨o,k _ e⟩
  ·exact .inr h
 |dt kvs=>obtain⟨vs,e,r⟩:=h;exact⟨vs,k _ e,Paired.map2 r λp q z=>⟨z.1,z.2.mono f⟩⟩
 |dk kvs=>obtain⟨vs,e,r⟩:=h;exact⟨vs,k _ e,Paired.map2 r λp q z=>⟨z.1,z.2.mono f⟩⟩
def ZT(hp:H p=ac):Fut ρ H ρ (upd H p o):=⟨⟨[],by simp⟩,λb xs h=>by rw[Zo (ZH h hp)];exact h⟩
def Xl(hp:H p=ac):Fut ρ H (ρ++[p]) (upd H p o):=⟨⟨[p],rfl⟩,λb xs h=>by rw[Zo (ZH h hp)];exact h⟩
def St3.fresh(st:St3 K ρ S H)(hp:H p=ac)(ho:∀ps,o≠.tbl ps:=by intro _ z;cases z):St3 K ρ S (upd H p o):=
 ⟨st.len,st.nd,λn ob a h1 h2=>(st.ob n ob a h1 h2).keep (ZT hp) λu e=>by rw[Zo (ZH e hp)];exact e,st.tb.upd (λob u z=>by rw[hp]at z;cases z) ho⟩
def St3.new(st:St3 K ρ S H)(hp:H p=ac)(r:QL K (ρ++[p]) (upd H p ho) p o)(ht:∀ps,ho≠.tbl ps:=by intro _ z;cases z):St3 K (ρ++[p]) (S++[o]) (upd H p ho):=by
 have old:∀(m:Nat),(ρ++[p])[m]? = aa p->m≠S.length->∃ns,S[m]? = aa (.scr ns):=λm e hm=>by
  have hml:m<S.length:=by
   have:=(ay.mp e).1;rw[aW,st.len,cw]at this;omega
  rw[aP (by rw[st.len];exact hml)]at e
  have q:=st.ob m S[m] p (ah hml) e;rw[ah hml];generalize S[m]=ob at q;cases ob with|lst ds=>obtain⟨xs,z,_⟩:=q;rw[hp]at z;cases z|scr ns=>exact⟨ns,rfl⟩|dt kvs=>obtain⟨xs,z,_⟩:=q;rw[hp]at z;cases z|dk kvs=>obtain⟨xs,z,_⟩:=q;rw[hp]at z;cases z
 have lenE:(S++[o])[S.length]? = aa o:=by simp
 have up:∀{m:Nat}{ns:List Int},S[m]? = aa (.scr ns)->(S++[o])[m]? = aa (.scr ns):=λ{m ns} e=>by
  rw[aP (ay.mp e).1];exact e
 refine⟨by rw[aW,aW,st.len];rfl,λm n a h1 h2 ne=>?_,λn ob a h1 h2=>?_,st.tb.upd (λob u z=>by rw[hp]at z;cases z) ht⟩
 ·by_cases hm:m=S.length
  ·have ha:a=p:=by
    rw[hm,<-st.len,bf (aD _)]at h1
    simpa using h1.symm
   rw[ha]at h2;obtain⟨ns,e⟩:=old n h2 (by omega)
   exact .inr ⟨ns,up e⟩
  ·by_cases hn:n=S.length
   ·have ha:a=p:=by
     rw[hn,<-st.len,bf (aD _)]at h2
     simpa using h2.symm
    rw[ha]at h1;obtain⟨ns,e⟩:=old m h1 hm;exact .inl ⟨ns,up e⟩
   ·have lt:∀{k:Nat},(ρ++[p])[k]? = aa a->k≠S.length->ρ[k]? = aa a:=λ{k} e hk=>by
     have:=(ay.mp e).1;rw[aW,st.len,cw]at this;rw[aP (by rw[st.len];omega)]at e
     exact e
    rcases st.nd m n a (lt h1 hm) (lt h2 hn) ne with⟨ns,e⟩ | ⟨ns,e⟩
    ·exact .inl ⟨ns,up e⟩
    ·exact .inr ⟨ns,up e⟩
 ·by_cases hn:n=S.length
  ·subst hn
   rw[lenE]at h1;cases h1;have ha:a=p:=by
    rw[<-st.len,bf (aD _)]at h2
    simpa using h2.symm
   subst ha;exact r
  ·have hl:n<S.length:=by
    have:=(ay.mp h1).1;rw[aW,cw]at this;omega
   rw[aP hl]at h1;rw[aP (by rw[st.len];exact hl)]at h2
   exact(st.ob n ob a h1 h2).keep (Xl hp) λu e=>by rw[Zo (ZH e hp)];exact e
def Y4(h:H a=aa (.lst xs)):Fut ρ H ρ (upd H a (.lst ys)):=⟨⟨[],by simp⟩,λb zs e=>by
 rw[Zo (by intro z;rw[z,h]at e;cases e)];exact e⟩
def St3.wr(st:St3 K ρ S H)(hr:ρ[n]? = aa a)(hS:S[n]? = aa (.lst ds))(h:H a=aa (.lst xs))(r:Rq ρ H es ys):St3 K ρ (S.set n (.lst es)) (upd H a (.lst ys)):=by
 have f:=Y4 (ρ:=ρ) (ys:=ys) h;refine⟨by rw[aV];exact st.len,λm k b h1 h2 ne=>?_,λm ob b h1 h2=>?_,st.tb.upd (λob u z=>by rw[h]at z;cases z) λps z=>by cases z⟩
 ·have keep:∀{j:Nat}{ns:List Int},S[j]? = aa (.scr ns)->(S.set n (.lst es))[j]? = aa (.scr ns):=λ{j ns} e=>by
   rw[cH];split
   ·rename_i z;rw[<-z,hS]at e;cases e
   ·exact e
  rcases st.nd m k b h1 h2 ne with⟨ns,e⟩ | ⟨ns,e⟩
  ·exact .inl ⟨ns,keep e⟩
  ·exact .inr ⟨ns,keep e⟩
 ·by_cases hm:n=m
  ·subst hm
   rw[hr]at h2;cases h2;rw[cH,T9 rfl]at h1;split at h1
   ·cases h1
    exact⟨ys,Zq,r.mono f⟩
   ·cases h1
  ·rw[cH,T8 hm]at h1
   have q:=st.ob m ob b h1 h2;by_cases hb:b=a
   ·subst hb
    rcases st.nd n m b hr h2 hm with⟨ns,e⟩ | ⟨ns,e⟩
    ·rw[hS]at e;cases e
    ·rw[h1]at e
     cases e;rcases q with⟨o,e⟩ | q
     ·rw[h]at e;cases e
     ·exact .inr q
   ·exact q.keep f λu e=>by rw[Zo hb];exact e
theorem St3.lst(st:St3 K ρ S H){ds:List D}(h:Ev.Zi S n=aa ds):S[n]? = aa (.lst ds)/\∃a xs,ρ[n]? = aa a/\H a=aa (.lst xs)/\Rq ρ H ds xs:=by
 unfold Ev.Zi at h;split at h
 ·rename_i zs e
  cases h;obtain⟨a,hr,xs,e2,r⟩:=st.at e;exact⟨e,a,xs,hr,e2,r⟩
 ·cases h
def St3.seq(st:St3 K ρ S H)(h:Ev.Z9 S n=aa ds):∃a xs,ρ[n]? = aa a/\SqL K H a xs/\Rq ρ H ds xs:=by
 unfold Ev.Z9 at h;split at h
 ·rename_i zs e
  cases h;obtain⟨a,hr,xs,e2,r⟩:=st.at e;exact⟨a,xs,hr,SqL.of e2,r⟩
 ·rename_i ns e
  cases h;obtain⟨a,hr,q⟩:=st.at e;exact⟨a,_,hr,Scr.sq q,Rq.ints ns⟩
 ·cases h
end
section
variable{ρ:List ax}{H:Hp}{v:V}
def Rep.int'(h:Rep ρ H (.int i) v):v=.int i:=by unfold Rep at h;exact h
def Rep.bl'(h:Rep ρ H (.bl b) v):v=.bl b:=by unfold Rep at h;exact h
def Rep.non'(h:Rep ρ H .non v):v=.non:=by unfold Rep at h;exact h
def Rep.str'(h:Rep ρ H (.str x) v):v=.str x:=by unfold Rep at h;exact h
def Rep.tup'(h:Rep ρ H (.tup ds) v):∃a xs,v=.ref a/\H a=aa (.tup xs)/\Rq ρ H ds xs:=by unfold Rep at h;exact h
def Rep.loc'(h:Rep ρ H (.loc n) v):∃a,v=.ref a/\ρ[n]? = aa a:=by unfold Rep at h;exact h
def Zp(i:Int):Rep ρ H (.int i) (.int i):=by unfold Rep;rfl
def Zz(b:Bool):Rep ρ H (.bl b) (.bl b):=by unfold Rep;rfl
def YF:Rep ρ H .non .non:=by unfold Rep;rfl
def Vt(x:aZ):Rep ρ H (.str x) (.str x):=by unfold Rep;rfl
def ZW(h:H a=aa (.tup xs))(r:Rq ρ H ds xs):Rep ρ H (.tup ds) (.ref a):=by unfold Rep;exact⟨a,xs,rfl,h,r⟩
def Wx(h:ρ[n]? = aa a):Rep ρ H (.loc n) (.ref a):=by unfold Rep;exact⟨a,rfl,h⟩
end
def WV:Ev.lim=aX:=by rw[cS];rfl
section
variable{K:aj}{xw:Nat->Hp->Prop}{ρ:List ax}{H:Hp}{S:Zb}{Q:VK}
def End.newT(h:End K xw Rep ρ H Q (.ok (.tup ds) S))(st:St3 K ρ S H)(r:Rq ρ H ds xs):∀p,H p=ac->Q (.ref p) (upd H p (.tup xs)):=λp hp=>
 h ρ _ _ (ZT hp) (st.fresh hp) (ZW Zq (r.mono (ZT hp)))
def End.newL(h:End K xw Rep ρ H Q (.ok (.loc S.length) (S++[.lst ds])))(st:St3 K ρ S H)(r:Rq ρ H ds xs):∀p,H p=ac->Q (.ref p) (upd H p (.lst xs)):=λp hp=>
 h (ρ++[p]) _ _ (Xl hp) (st.new hp ⟨xs,Zq,r.mono (Xl hp)⟩) (Wx (by rw[<-st.len];simp))
end
section
variable{X:Cx}{xw:Nat->Hp->Prop}{C:Calls}{e a b c:Expr}{i j k:E}{pos:dZ}
def yU{n:Int}{q}:CE X xw C (.Constant (.int n) q pos) (.c (.int n)):=PE.imp Jy λσ H Q ⟨ρ,l,S,st,lr,h⟩=>End.ok h st (Zp n)
def jR{n:Bool}{q}:CE X xw C (.Constant (.bool n) q pos) (.c (.bl n)):=PE.imp xt λσ H Q ⟨ρ,l,S,st,lr,h⟩=>End.ok h st (Zz n)
def yh{q}:CE X xw C (.Constant .none q pos) (.c .non):=PE.imp yI λσ H Q ⟨ρ,l,S,st,lr,h⟩=>End.ok h st YF
def yH{x:aZ}{q}:CE X xw C (.Constant (.str x) q pos) (.c (.str x)):=PE.imp JN λσ H Q ⟨ρ,l,S,st,lr,h⟩=>End.ok h st (Vt x)
def ZcY(n:Nat){x:aZ}(hN:X.N[n]? = aa x:=by rfl)(hv:Vis X.env.scope x:=by first | exact kK rfl | exact gW (kK rfl) | exact gW (gW rfl))(hd:(x == ("__debug__" : aZ))=ai:=by decide)
  (hcd:(x == ("__classdict__" : aZ))=ai:=by decide):CE X xw C (.Name x pos) (.v n):=PE.imp (Y8 hN hv hd hcd) λσ H Q ⟨ρ,l,S,st,lr,h⟩=>by
 rw[ev]at h;cases q:l[n]? with
 |none=>rw[q]at h;exact h.elim
 |some o=>
  cases o with
  |none=>rw[q]at h;exact h.elim
  |some d=>
   rw[q]at h;obtain⟨v,q2,r⟩:=lr.val n d q;exact⟨v,q2,End.ok h st r⟩
def z5:CA X xw C [] []:=PA.imp Yn λσ H Q ⟨ρ,l,S,st,lr,h⟩=>by
 rw[evs]at h;exact End.ok h st Rq.nil
def JZ{es:List Expr}{is:List E}(ha:CE X xw C e i)(hr:CA X xw C es is)(hs:aC (e::es) X.env=(ai,bZ e X.env)::aC es X.env:=by rfl):CA X xw C (e::es) (i::is):=
 PA.imp (ZE ha hr hs) λσ H Q ⟨ρ,l,S,st,lr,h⟩=>by
  rw[evs]at h;exact⟨ρ,l,S,st,lr,h.bind λx S1 ρ1 H1 v f1 st1 r1 h1=>⟨ρ1,l,S1,st1,lr.mono f1,h1.bind λxs S2 ρ2 H2 vs f2 st2 r2 h2=>h2.ok st2 (Rq.cons (r1.mono f2) r2)⟩⟩
def zO{es:List Expr}{is:List E}{q}(h:CA X xw C es is):CE X xw C (.Tuple es q pos) (.tup is):=PE.imp (jd h) λσ H Q ⟨ρ,l,S,st,lr,h⟩=>by
 rw[ev]at h;refine⟨ρ,l,S,st,lr,h.bind λxs S1 ρ1 H1 vs f1 st1 r1 h1=>?_⟩
 obtain⟨hl,h1⟩:=h1.guard;exact⟨by rw[r1.length,<-WV];exact hl,h1.newT st1 r1⟩
def zL{es:List Expr}{is:List E}(h:CA X xw C es is):CE X xw C (.List es pos) (.lst is):=PE.imp (Qj h) λσ H Q ⟨ρ,l,S,st,lr,h⟩=>by
 rw[ev]at h;refine⟨ρ,l,S,st,lr,h.bind λxs S1 ρ1 H1 vs f1 st1 r1 h1=>?_⟩
 obtain⟨hl,h1⟩:=h1.guard;exact⟨by rw[r1.length,<-WV];exact hl,h1.newL st1 r1⟩
def Wo{r:R2}{g:D->D->Zb->R D}(hg:∀{ρ H S x y v u Q},St3 X.K ρ S H->Rep ρ H x v->Rep ρ H y u->End X.K xw Rep ρ H Q (g x y S)->r v u H Q) :
  ∀σ H Q,tE X xw (λl S=>(ev C i l S).bind λx S=>(ev C j l S).bind λy S=>g x y S) σ H Q->tOp r (tE X xw (ev C i)) (tE X xw (ev C j)) σ H Q:=λσ H Q ⟨ρ,l,S,st,lr,h⟩=>
 ⟨ρ,l,S,st,lr,h.bind λx S1 ρ1 H1 v f1 st1 r1 h1=>⟨ρ1,l,S1,st1,lr.mono f1,h1.bind λy S2 ρ2 H2 u f2 st2 r2 h2=>hg st2 (r1.mono f2) r2 h2⟩⟩
end
section
variable{X:Cx}
def qI(K:aj):R2:=λx y H Q=>∃a b ys,x=.ref a/\y=.ref b/\SqT K H a []/\SqT K H b ys/\Q (.ref b) H
def qd:OpR X (dL .Add) (qI X.K):=by
 intro pq s σ H x y v u Q I rx ry h;obtain⟨a,b,ys,rfl,rfl,ha,hb,q⟩:=h;cases rx;cases ry;obtain⟨its,r1,p1,_⟩:=I.tuple ha;obtain⟨its2,r2,p2,_⟩:=I.tuple hb;have e0:its=[]:=r1.nil_iff.mpr rfl;obtain⟨⟨cls,dd,data,sl⟩,ho,hc,n,hd⟩:=id p1;obtain⟨⟨cls2,dd2,data2,sl2⟩,ho2,hc2,n2,hd2⟩:=id p2;simp only at hc hd hc2 hd2;subst hc hd hc2 hd2;exact kX ⟨_,ho,rfl⟩ ⟨_,ho2,rfl⟩ hU ko fk eZ (eQ _ _)
   (tuple_addW0 a b its.toArray its2.toArray n n2 dd dd2 sl sl2 (by rw[e0];rfl)) ⟨ho,ho2,⟨.ref b,H,I,rfl,q⟩⟩
noncomputable def ZeJ(K:aj):V->Option Int->Option Int->Hp->VK->Prop:=λx lo hi H Q=>∃a xs,x=.ref a/\SqT K H a xs/\
 (HT.sIx xs.length 0 lo=0/\HT.sIx xs.length xs.length hi=xs.length)/\Q (.ref a) H
def WM{prog:bq}{w:bG}{A:bV}{E:ao->aw->Prop}{s:aw}{t sl:ax}{items:Array ao}{vl vu:ao}{lo hi:Option Int}{Q:ao->aw->Prop}(ht:mK s.heap t items)(hs:s.heap.IsSliceOf sl vl vu .none)(pl:gw vl lo)(pu:gw vu hi)
  (hw:HT.sIx items.size 0 lo=0/\HT.sIx items.size items.size hi=items.size)(h:Q (.ref t) s):aT (bc prog w) A (gO (.ref t) (.ref sl)) Q E s:=by
 obtain⟨os,hos,hcs,hds⟩:=id hs;have hTs:s.TypeIs (.ref sl) "slice":=⟨os,hos,hcs⟩;unfold gO
 try with_reducible refine cm ?_
 first | refine ak (aF ?_) | skip
 refine ak (gP ht.typeIs (by decide) ?_)
 refine ak (cc (name:=dM "__getitem__") ht.typeIs bT
  (df bT ht.typeIs fY ?_ (gz _ _)))
 show aT _ _ (ej (.ref t) >>= _) _ _ s;refine ak (kq ht ?_);refine ak (iA hTs ?_);rw[T9 (by decide)]
 refine ak (HT.XO hs pl pu ?_);have hyes:((((HT.sIx items.size 0 lo:Nat):Int) == 0&&(1:Int) == 1&&(HT.sIx items.size items.size hi-HT.sIx items.size 0 lo) == items.size)=ag):=by
  rw[hw.1,hw.2];simp
 show aT _ _ (if(((HT.sIx items.size 0 lo:Nat):Int) == 0&&(1:Int) == 1&&(HT.sIx items.size items.size hi-HT.sIx items.size 0 lo) == items.size)=ag then _ else _) _ _ s
 rw[T9 hyes];refine ak (ak (iA ht.typeIs (aF ?_)));rw[T9 (by decide)]
 exact ak (iG (aF ⟨_,rfl,aF h⟩))
def qc:SlR X (ZeJ X.K):=by
 intro pq s σ H x v vl vu lo hi sl Q I rx hs pl pu h;obtain⟨a,xs,rfl,hx,hw,q⟩:=h;cases rx;obtain⟨its,r,ht,hz⟩:=I.tuple hx;have hlen:its.toArray.size=xs.length:=by rw[au];exact r.length.symm
 refine⟨"tuple",_,bT.lookup,ht.typeIs,?_⟩;exact WM ht hs pl pu (by rw[hlen];exact hw) ⟨.ref a,H,I,rfl,q⟩
def wv(h:Ev.fits i=ag):kf i<=2^20:=by
 have h1:i.natAbs<2^8000:=T6 h;unfold kf;split
 ·exact fc _
 ·rename_i hz
  have hne:i.natAbs≠0:=by intro z;exact hz (by simp[Int.natAbs_eq_zero.mp z])
  have:=(Nat.log2_lt hne).mpr h1;have e:(2:Nat)^20=1048576:=by decide
  omega
def j8:OpR X (dL .FloorDiv) (rI (λ_ j=>0<j/\j<Ev.big) λi j=>.int (i / j)):=opI λi j _ _ _ _ _ hc q=>by
 have h1:(0:Int)<j:=hc.1;have h2:j<Ev.big:=hc.2;have hne:j.natAbs≠0:=by omega
 have h3:j.natAbs<2^8000:=by
  have e:(j.natAbs:Int)=j:=Int.natAbs_of_nonneg (by omega)
  have h4:(j.natAbs:Int)<((2^8000:Nat):Int):=by rw[e,Int.natCast_pow];exact h2
  exact Int.ofNat_lt.mp h4
 have h5:=(Nat.log2_lt hne).mpr h3;exact floordiv_int (by omega) (by rw[Int.fdiv_eq_ediv_of_nonneg i (by omega)];exact q) (.inl (PyProof.noPylong_of_log2 (by omega)))
def ZbB:OpR X (dL .Mult) (rI (λi j=>Ev.fits i=ag/\Ev.fits j=ag) λi j=>.int (i*j)):=opI λ_ _ _ _ _ _ _ hc q=>mul_int q (IntMulOk.of_bits (wv hc.1) (wv hc.2))
def ZcZ:OpR X (cu .Is) (λx y H Q=>∃a b,x=.bl a/\y=.bl b/\Q (.bl (ae (a=b))) H):=by
 intro pq s σ H x y v u Q I rx ry h;obtain⟨a,b,rfl,rfl,q⟩:=h;cases rx;cases ry;cases a <;> cases b <;> exact aF ⟨.bl _,H,I,rfl,q⟩
end
end Sd
namespace Sd
open PySem PySem.Spec PyProof.Rows L2
def QA:fillsNumberSlot (.type "tuple") "mul" = cR ai:=
 PySem.fillsNumberSlot_seq (id:="tuple.__mul__") (r:=aa (.builtin "tuple.__rmul__")) hZ.lookup (by decide +kernel) F.slot_tuple_rmul.lookup (by decide +kernel)
def Jq:seqRepeat? (.type "tuple")=cR (aa (.builtin "tuple.__mul__")):=by
 unfold seqRepeat?
 rw[lF (T:="tuple") (name:="__mul__") (id:="tuple.__mul__") hZ.lookup (by decide +kernel),lF (T:="tuple") (name:="__rmul__") (id:="tuple.__rmul__") F.slot_tuple_rmul.lookup (by decide +kernel)]
 rfl
def Uy(a:Int)(t:mP)(l:ax)(items:Array ao)(n:Nat)(dd:Option ax)(sl:Array (Option ao)) :
  mT (fI.«int.__rmul__» ⟨[.int a t,.ref l],[]⟩) (λ_ R s=>s.heap.get? l=aa { cls:=.type "tuple",dict:=dd,data:=.seq items n,slots:=sl }/\R (.ok (.ret ao.notImplemented)) s):=
 .of_wp λprog w A R s h=>by obtain⟨hp,g,d,tk,os⟩:=s;obtain⟨hl,h⟩:=h;wp_walk;exact⟨_,rfl,h⟩
def Gg(l:ax)(items:Array ao)(n:Nat)(dd:Option ax)(sl:Array (Option ao))(x:Int)(u:mP)(h0:¬(x < -(2^63)||x>=2^63)=ag)(hc:(items.isEmpty||x == 1)=ag) :
  mT (fI.«tuple.__mul__» ⟨[.ref l,.int x u],[]⟩) (λ_ R s=>s.heap.get? l=aa { cls:=.type "tuple",dict:=dd,data:=.seq items n,slots:=sl }/\R (.ok (.ret (bU l))) { s with heap:=s.heap,toks:=s.toks }):=
 .of_wp λprog w A R s h=>by obtain⟨hp,g,d,tk,os⟩:=s;obtain⟨hl,h⟩:=h;have f1:=hV;have f2:=eS;wp_walk;rw[T8 h0];wp_walk using cO hl;exact⟨_,rfl,h⟩
def JD(l:ax)(items:Array ao)(n:Nat)(dd:Option ax)(sl:Array (Option ao))(x:Int)(u:mP)(h0:¬(x < -(2^63)||x>=2^63)=ag)(hc:¬(items.isEmpty||x == 1)=ag)(h1:(x<=0||items.isEmpty)=ag) :
  mT (fI.«tuple.__mul__» ⟨[.ref l,.int x u],[]⟩) (λ_ R s=>s.heap.get? l=aa { cls:=.type "tuple",dict:=dd,data:=.seq items n,slots:=sl }/\R (.ok (.ret (bU s.heap.objs.size))) { s with heap:=s.heap.push { cls:=.type "tuple",data:=.seq #[] },toks:=s.toks }):=
 .of_wp λprog w A R s h=>by obtain⟨hp,g,d,tk,os⟩:=s;obtain⟨hl,h⟩:=h;have f1:=hV;have f2:=eS;wp_walk;rw[T8 h0];wp_walk using cO hl;exact⟨_,rfl,h⟩
def G4(l:ax)(items:Array ao)(n:Nat)(dd:Option ax)(sl:Array (Option ao))(x:Int)(u:mP)(h0:¬(x < -(2^63)||x>=2^63)=ag)(hc:¬(items.isEmpty||x == 1)=ag)(h1:¬(x<=0||items.isEmpty)=ag)
  (h2:¬(items.size*x>(2^63-1) / 8))(h3:¬gA (items.size*x)=ag)(hsz:((aq x.toNat items).foldl (·++·) #[]).size<=aX) :
  mT (fI.«tuple.__mul__» ⟨[.ref l,.int x u],[]⟩) (λ_ R s=>s.heap.get? l=aa { cls:=.type "tuple",dict:=dd,data:=.seq items n,slots:=sl }/\R (.ok (.ret (bU s.heap.objs.size))) { s with heap:=s.heap.push { cls:=.type "tuple",data:=.seq ((aq x.toNat items).foldl (·++·) #[]) },toks:=s.toks }):=
 .of_wp λprog w A R s h=>by obtain⟨hp,g,d,tk,os⟩:=s;obtain⟨hl,h⟩:=h;have f1:=hV;have f2:=eS;wp_walk;rw[T8 h0];wp_walk using cO hl;rw[T8 h2];wp_walk using cO hl;exact⟨_,rfl,h⟩
def Zcf(K:aj):R2:=λx y H Q=>∃a k xs,x=.ref a/\y=.int k/\SqT K H a xs/\(0<=k/\k<1000/\xs.length<=1000)/\
 ((xs=[]\/k=1)->Q (.ref a) H)/\(¬(xs=[]\/k=1)->∀p,H p=ac->Q (.ref p) (upd H p (.tup (aq k.toNat xs).flatten)))
def Zas :OpR X (dL .Mult) (Zcf X.K):=by
 intro pq s σ H x y v u Q I rx ry h;obtain⟨a,k,xs,rfl,rfl,hx,⟨k0,k1,hz⟩,q1,q2⟩:=h;cases rx;obtain⟨t,rfl⟩:=ry;obtain⟨its,r,pt,_⟩:=I.tuple hx;have hl:=r.length;obtain⟨⟨cls,dd,data,sl⟩,ho,hc,n,hd⟩:=id pt;simp only at hc hd;subst hc hd;have h0:¬(ae (k < -(2^63))||decide (k>=2^63))=ag:=by
  rw[T4 (by omega),T4 (by omega)];exact aM
 refine gI (T:="tuple") (U:="int") (by decide) ⟨_,ho,rfl⟩ (λs'=>iE s' k t) QA lZ fR Jq F.slot_int_index.lookup
  (eA fR (iE s k t) lG (k8 _ _) (Uy k t a its.toArray n dd sl) ⟨ho,rfl,⟨_,ho,rfl⟩,?_⟩)
 have hnil:its=[]↔xs=[]:=r.nil_iff;by_cases c:xs=[]\/k=1
 ·have c':(its.toArray.isEmpty||k == 1)=ag:=by
   rcases c with c | c
   ·rw[hnil.mpr c];rfl
   ·rw[c];simp
  exact eA hZ ⟨_,ho,rfl⟩ gR (gB _ _) (Gg a its.toArray n dd sl k t h0 c') ⟨ho,⟨.ref a,H,I,rfl,q1 c⟩⟩
 ·have ne:its≠[]:=λz=>c (.inl (hnil.mp z))
  have k1:k≠1:=λz=>c (.inr z)
  have c':¬(its.toArray.isEmpty||k == 1)=ag:=by
   rw[beq_eq_false_iff_ne.mpr k1,Bool.or_false,fM];cases its with|nil=>exact T7 rfl ne|cons _ _=>exact aM
  have fin:∀arr:List ao,arr=(aq k.toNat its).flatten->EP X pq σ Q (bU s.heap.objs.size) { s with heap:=s.heap.push { cls:=.type "tuple",data:=.seq arr.toArray } }:=λarr e=>by
   subst e;refine⟨.ref s.heap.objs.size,_,I.laid (t':=s.toks) (o:=.tup (aq k.toNat xs).flatten) (λb ob q=>ar _ q) (aD _) ?_,rfl,q2 c _ (I.hok.fresh (aD _))⟩
   refine⟨?_,_,r.rep k.toNat,gn _ _⟩;rw[Jw,cS];have:k.toNat*xs.length<=1000*1000:=iX (by omega) hz
   omega
  by_cases z:k=0
  ·have h1:(ae (k<=0)||its.toArray.isEmpty)=ag:=by rw[z];rfl
   refine eA hZ ⟨_,ho,rfl⟩ gR (gB _ _) (JD a its.toArray n dd sl k t h0 c' h1) ⟨ho,?_⟩;exact fin [] (by rw[z];rfl)
  ·have h1:¬(ae (k<=0)||its.toArray.isEmpty)=ag:=by
    rw[T4 (by omega),mE,fM]
    cases its with|nil=>exact T7 rfl ne|cons _ _=>exact aM
   have hm:(its.toArray.size:Int)*k<=1000*1000:=by
    rw[au,<-hl];exact mr (by omega) (by omega) k0 (by omega)
   have joined:(aq k.toNat its.toArray).foldl (·++·) #[]=(aq k.toNat its).flatten.toArray:=by
    have:=VN its k.toNat [];rw[eV]at this;exact this
   have hsz:((aq k.toNat its.toArray).foldl (·++·) #[]).size<=aX:=by
    rw[joined,au,Jw,cS,<-hl];have:k.toNat*xs.length<=1000*1000:=iX (by omega) hz
    omega
   refine eA hZ ⟨_,ho,rfl⟩ gR (gB _ _) (G4 a its.toArray n dd sl k t h0 c' h1 (by omega) (by
    unfold gA;rw[T4 (by rw[cS];omega)]
    exact aM) hsz) ⟨ho,?_⟩
   rw[joined];exact fin _ rfl
def Zb2:R2:=λx y H Q=>∃a k xs,x=.ref a/\y=.int k/\H a=aa (.lst xs)/\(0<=k/\k<1000/\xs.length<=1000)/\∀p,H p=ac->Q (.ref p) (upd H p (.lst (aq k.toNat xs).flatten))
def ZbK :OpR X (dL .Mult) Zb2:=by
 intro pq s σ H x y v u Q I rx ry h;obtain⟨a,k,xs,rfl,rfl,hx,⟨k0,k1,hz⟩,q2⟩:=h;cases rx;obtain⟨t,rfl⟩:=ry;obtain⟨its,r,pl,_⟩:=I.list (SqL.of hx);have hl:=r.length;obtain⟨⟨cls,dd,data,sl⟩,n,ho,hc,hd2,hd⟩:=id pl;simp only at hc hd hd2;subst hc hd;have hm:k.toNat*its.length<=1000*1000:=iX (by omega) (by omega)
 have hm2:its.length*k.toNat<=1000*1000:=by rw[Nat.mul_comm];exact hm
 refine gI (T:="list") (U:="int") (by decide) ⟨_,ho,rfl⟩ (λs'=>iE s' k t) noFill_list_mul lZ fR repeat_list F.slot_int_index.lookup
  (eA fR (iE s k t) lG (k8 _ _) (lm_int_rmul_list_any k t a its.toArray n dd sl) ⟨ho,rfl,⟨_,ho,rfl⟩,
   eA F.slot_list_mul ⟨_,ho,rfl⟩ F.entry_list_mul (F.args_list_mul_2 _ _) (lm_list_mul_any a its.toArray n dd sl k t (by simp[fI.List.listFitsIndex];omega) (by rw[au];omega) (by rw[au];simp[dQ,aX];omega)) ⟨ho,?_⟩⟩)
 have joined:(aq (if its.toArray.isEmpty=ag then 0 else k.toNat) its.toArray).foldl (λx1 x2=>x1++x2) #[]=(aq k.toNat its).flatten.toArray:=by
  have h0:=VN its k.toNat [];rw[eV]at h0;by_cases z:its=[]
  ·subst z
   have e:∀m:Nat,(aq m ([]:List ao)).flatten=[]:=λm=>by induction m with | zero=>rfl | succ m ih=>rw[bD,bR,ih];rfl
   rw[e];rfl
  ·rw[T8 (by rw[fM];cases its with | nil=>exact T7 rfl z | cons _ _=>exact aM)]
   exact h0
 rw[joined];refine⟨.ref s.heap.objs.size,_,I.laid (t':=s.toks) (o:=.lst (aq k.toNat xs).flatten) (λb ob q=>ar _ q) (aD _) ?_,rfl,q2 _ (I.hok.fresh (aD _))⟩
 refine⟨?_,_,0,r.rep k.toNat,aN _ rfl⟩;rw[Jw,cS];rw[hl];omega
end Sd
namespace Sd
open PySem PySem.Spec PyProof.Rows L2
open Ev (D Ob Zb Lc R E Sm Calls Walk Fl Fn Bop Cop Ty Bf Mf ev evs evo evt evw tst run runs)
section
variable{X:Cx}{xw:Nat->Hp->Prop}{C:Calls}{e a b c:Expr}{i j k:E}{pos:dZ}
variable{ρ:List ax}{H:Hp}{S:Zb}{x y:D}{v u:V}{Q:VK}{K:aj}
def ZbX(K:aj):R2:=λx y H Q=>rI0 (λi j=>.int (i+j)) x y H Q\/(Zb8 K x y H Q\/(qI K x y H Q\/Zbb x y H Q))
def Zbo:OpR X (dL .Add) (ZbX X.K):=Zc5.or (Zbq.or (qd.or zP))
def Zcn(st:St3 K ρ S H)(rx:Rep ρ H x v)(ry:Rep ρ H y u)(h:End K xw Rep ρ H Q (Ev.Yl .add x y S)):ZbX K v u H Q:=by
 cases x with
 |int i=>cases y with|int j=>exact .inl ⟨i,j,rx.int',ry.int',End.ok h st (Zp _)⟩|_=>exact False.elim h
 |tup ds=>cases y with
  |tup es=>
   obtain⟨hl,h⟩:=End.guard h;obtain⟨p,xs,rfl,hp,r1⟩:=rx.tup';obtain⟨q,ys,rfl,hq,r2⟩:=ry.tup';have l1:=r1.length;have l2:=r2.length;by_cases z:xs=[]
   ·subst z
    have e1:ds=[]:=dU.mp l1.symm;subst e1;exact .inr (.inr (.inl ⟨p,q,ys,rfl,rfl,SqT.of hp,SqT.of hq,End.ok h st (ZW hq r2)⟩))
   ·refine .inr (.inl ⟨p,q,xs,ys,rfl,rfl,SqT.of hp,SqT.of hq,z,by rw[l1,l2,<-WV];exact hl,λz2=>?_,λ_=>h.newT st (r1.append r2)⟩)
    subst z2;have e2:es=[]:=dU.mp l2.symm;subst e2;refine End.ok h st ?_;rw[dF];exact ZW hp r1
  |_=>exact False.elim h
 |loc m=>cases y with
  |loc n=>
   have h':End K xw Rep ρ H Q (match Ev.Zi S m,Ev.Zi S n with
    |some a,aa b=>if a.length+b.length<=Ev.lim then .ok (.loc S.length) (S++[.lst (a++b)])else .no
    |_,_=>.no):=h
   cases e1:Ev.Zi S m with
   |none=>rw[e1]at h';exact False.elim h'
   |some ds=>
    cases e2:Ev.Zi S n with
    |none=>rw[e1,e2]at h';exact False.elim h'
    |some es=>
     rw[e1,e2]at h';obtain⟨hl,h⟩:=End.guard h';obtain⟨_,p,xs,q1,hp,r1⟩:=st.lst e1;obtain⟨_,q,ys,q2,hq,r2⟩:=st.lst e2;obtain⟨p',rfl,t1⟩:=rx.loc';obtain⟨q',rfl,t2⟩:=ry.loc';rw[q1]at t1;cases t1;rw[q2]at t2;cases t2;exact .inr (.inr (.inr ⟨p,q,xs,ys,rfl,rfl,hp,hq,by rw[r1.length,r2.length,<-WV];exact hl,h.newL st (r1.append r2)⟩))
  |_=>exact False.elim h
 |_=>cases y <;> exact False.elim h
def Zdv(st:St3 K ρ S H)(rx:Rep ρ H x v)(ry:Rep ρ H y u)(h:End K xw Rep ρ H Q (Ev.Yl .sub x y S)):rI0 (λi j=>.int (i-j)) v u H Q:=by
 cases x with
 |int i=>cases y with|int j=>exact⟨i,j,rx.int',ry.int',End.ok h st (Zp _)⟩|_=>exact False.elim h
 |_=>cases y <;> exact False.elim h
def Zb6(K:aj):R2:=λx y H Q=>rI (λi j=>Ev.fits i=ag/\Ev.fits j=ag) (λi j=>.int (i*j)) x y H Q\/(Zcf K x y H Q\/Zb2 x y H Q)
def Zav:OpR X (dL .Mult) (Zb6 X.K):=ZbB.or (Zas.or ZbK)
def Zcx(st:St3 K ρ S H)(rx:Rep ρ H x v)(ry:Rep ρ H y u)(h:End K xw Rep ρ H Q (Ev.Yl .mul x y S)):Zb6 K v u H Q:=by
 cases x with
 |int i=>cases y with
  |int j=>
   obtain⟨hc,h⟩:=End.guard h;exact .inl ⟨i,j,rx.int',ry.int',(aB _ _).mp hc,End.ok h st (Zp _)⟩
  |_=>exact False.elim h
 |tup ds=>cases y with
  |int k=>
   obtain⟨⟨h0,h1,h2⟩,h⟩:=End.guard h;obtain⟨p,xs,rfl,hp,r1⟩:=rx.tup';have l1:=r1.length;refine .inr <| .inl ⟨p,k,xs,rfl,ry.int',SqT.of hp,⟨h0,h1,by rw[l1];exact h2⟩,λz=>?_,λ_=>h.newT st (r1.rep k.toNat)⟩
   refine End.ok h st (ZW hp ?_);rcases z with z | z
   ·subst z
    have e1:ds=[]:=dU.mp l1.symm;subst e1;have:∀m:Nat,(aq m ([]:List D)).flatten=[]:=λm=>by induction m with | zero=>rfl | succ m ih=>rw[bD,bR,ih];rfl
    rw[this];exact Rq.nil
   ·subst z
    show Rq ρ H (aq 1 ds).flatten xs;rw[bD,List.replicate_zero,bR,List.flatten_nil,dF];exact r1
  |_=>exact False.elim h
 |loc m=>cases y with
  |int k=>
   have h':End K xw Rep ρ H Q (match Ev.Zi S m with
    |some a=>if 0<=k/\k<1000/\a.length<=1000 then .ok (.loc S.length) (S++[.lst (aq k.toNat a).flatten])else .no
    |none=>.no):=h
   cases e1:Ev.Zi S m with
   |none=>rw[e1]at h';exact False.elim h'
   |some ds=>
    rw[e1]at h';obtain⟨⟨h0,h1,h2⟩,h⟩:=End.guard h';obtain⟨_,p,xs,q1,hp,r1⟩:=st.lst e1;obtain⟨p',rfl,t1⟩:=rx.loc';rw[q1]at t1;cases t1;exact .inr (.inr ⟨p,k,xs,rfl,ry.int',hp,⟨h0,h1,by rw[r1.length];exact h2⟩,h.newL st (r1.rep k.toNat)⟩)
  |_=>exact False.elim h
 |_=>cases y <;> exact False.elim h
def Zby(st:St3 K ρ S H)(rx:Rep ρ H x v)(ry:Rep ρ H y u)(h:End K xw Rep ρ H Q (Ev.Yl .fdiv x y S)):rI (λ_ j=>0<j/\j<Ev.big) (λi j=>.int (i / j)) v u H Q:=by
 cases x with
 |int i=>cases y with
  |int j=>
   obtain⟨hc,h⟩:=End.guard h;exact⟨i,j,rx.int',ry.int',hc,End.ok h st (Zp _)⟩
  |_=>exact False.elim h
 |_=>cases y <;> exact False.elim h
def Zds(st:St3 K ρ S H)(rx:Rep ρ H x v)(ry:Rep ρ H y u)(h:End K xw Rep ρ H Q (Ev.Yl .mod x y S)):rI (λ_ j=>0<j) (λi j=>.int (i%j)) v u H Q:=by
 cases x with
 |int i=>cases y with
  |int j=>
   obtain⟨hc,h⟩:=End.guard h;exact⟨i,j,rx.int',ry.int',hc,End.ok h st (Zp _)⟩
  |_=>exact False.elim h
 |_=>cases y <;> exact False.elim h
def ZcQ(st:St3 K ρ S H)(rx:Rep ρ H x v)(ry:Rep ρ H y u)(h:End K xw Rep ρ H Q (Ev.Yl .pow x y S)):rI CPow (λi j=>.int (i^j.toNat)) v u H Q:=by
 cases x with
 |int i=>cases y with
  |int j=>
   obtain⟨hc,h⟩:=End.guard h;exact⟨i,j,rx.int',ry.int',⟨hc.1,by omega,hc.2.2⟩,End.ok h st (Zp _)⟩
  |_=>exact False.elim h
 |_=>cases y <;> exact False.elim h
def zT(ha:CE X xw C a i)(hb:CE X xw C b j):CE X xw C (.BinOp a .Add b pos) (.bin .add i j):=PE.imp (V9 Zbo ha hb) (Wo λst rx ry h=>Zcn st rx ry h)
def ye(ha:CE X xw C a i)(hb:CE X xw C b j):CE X xw C (.BinOp a .Sub b pos) (.bin .sub i j):=PE.imp (V9 ZcK ha hb) (Wo λst rx ry h=>Zdv st rx ry h)
def yo(ha:CE X xw C a i)(hb:CE X xw C b j):CE X xw C (.BinOp a .Mult b pos) (.bin .mul i j):=PE.imp (V9 Zav ha hb) (Wo λst rx ry h=>Zcx st rx ry h)
def J7(ha:CE X xw C a i)(hb:CE X xw C b j):CE X xw C (.BinOp a .FloorDiv b pos) (.bin .fdiv i j):=PE.imp (V9 j8 ha hb) (Wo λst rx ry h=>Zby st rx ry h)
def yf(ha:CE X xw C a i)(hb:CE X xw C b j):CE X xw C (.BinOp a .Mod b pos) (.bin .mod i j):=PE.imp (V9 ZdF ha hb) (Wo λst rx ry h=>Zds st rx ry h)
def yx(ha:CE X xw C a i)(hb:CE X xw C b j):CE X xw C (.BinOp a .Pow b pos) (.bin .pow i j):=PE.imp (V9 Zdk ha hb) (Wo λst rx ry h=>ZcQ st rx ry h)
def yV(ha:CE X xw C a i):CE X xw C (.UnaryOp .USub a pos) (.neg i):=PE.imp (Zcb u9 ha) λσ H Q ⟨ρ,l,S,st,lr,h⟩=>by
 refine⟨ρ,l,S,st,lr,End.bind (show End X.K xw Rep ρ H Q ((ev C i l S).bind _)from h) λx S1 ρ1 H1 v f1 st1 r1 h1=>?_⟩
 cases x with|int n=>exact⟨n,r1.int',End.ok h1 st1 (Zp _)⟩|_=>exact False.elim h1
def Xa(st:St3 K ρ S H)(rx:Rep ρ H x v)(h:Ev.Z5 S x=aa n):Zan K v H n:=by
 cases x with
 |non=>rw[rx.non'];exact(af h).symm
 |bl b=>rw[rx.bl'];exact(af h).symm
 |int i=>
  rw[rx.int'];have h':=af h;show n=(i != 0);rw[<-h'];by_cases z:i=0
  ·subst z;rfl
  ·rw[T5 z];exact(bne_iff_ne.mpr z).symm
 |tup ds=>
  obtain⟨p,xs,rfl,hp,r⟩:=rx.tup';have h':=af h;refine .inr (.inl ⟨xs,SqT.of hp,?_⟩);rw[<-h'];have:=r.length;cases ds <;> cases xs <;> first | rfl | (simp at this)
 |loc m=>
  have h2:(Ev.Z9 S m).map (λxs=>!xs.isEmpty)=aa n:=h
  cases e:Ev.Z9 S m with
  |none=>rw[e]at h2;cases h2
  |some ds=>
   rw[e]at h2;obtain⟨p,xs,q,hp,r⟩:=st.seq e;obtain⟨p',rfl,t⟩:=rx.loc';rw[q]at t;cases t;refine .inl ⟨xs,hp,?_⟩;have h':=af h2;rw[<-h'];have:=r.length;cases ds <;> cases xs <;> first | rfl | (simp at this)
 |_=>cases h
def yA(ha:CE X xw C a i)(he:∀whole,isTrue a X.env whole=(do let v <-whole;kR a.pos;gN [v] (mL v)):=by intro _;rfl):CT X xw C a i:=
 PT.imp (u4 ha he) λσ H Q ⟨ρ,l,S,st,lr,h⟩=>by
  refine⟨ρ,l,S,st,lr,End.bind (show End X.K xw Vr ρ H Q ((ev C i l S).bind λx S=>Ev.ob (Ev.Z5 S x) S)from h) λx S1 ρ1 H1 v f1 st1 r1 h1=>?_⟩
  cases q:Ev.Z5 S1 x with|none=>rw[q]at h1;exact False.elim h1|some n=>rw[q]at h1;exact⟨n,Xa st1 r1 q,End.ok h1 st1 rfl⟩
def yE(ha:CT X xw C a i):CT X xw C (.UnaryOp .Not a pos) (.not i):=PT.imp (j4 ha) λσ H Q ⟨ρ,l,S,st,lr,h⟩=>by
 refine⟨ρ,l,S,st,lr,?_⟩;have h':End X.K xw Vr ρ H Q (((ev C i l S).bind λx S=>(Ev.ob (Ev.Z5 S x) S).bind λb S=>.ok (.bl !b) S).bind λx S=>Ev.ob (Ev.Z5 S x) S):=h
 show End X.K xw Vr ρ H (λc H1=>Q (!c) H1) ((ev C i l S).bind λx S=>Ev.ob (Ev.Z5 S x) S)
 cases q:ev C i l S with
 |no=>rw[q]at h';exact h'
 |ex c S1=>rw[q]at h';exact h'
 |ok x S1=>
  rw[q]at h';show End X.K xw Vr ρ H _ (Ev.ob (Ev.Z5 S1 x) S1);have h2:End X.K xw Vr ρ H Q (((Ev.ob (Ev.Z5 S1 x) S1).bind λb S=>.ok (.bl !b) S).bind λx S=>Ev.ob (Ev.Z5 S x) S):=h'
  cases t:Ev.Z5 S1 x with
  |none=>rw[t]at h2;exact h2
  |some n=>
   rw[t]at h2;intro ρ1 H1 w f1 st1 e;exact h2 ρ1 H1 (!w) f1 st1 (by rw[<-(show n=w from e)];rfl)
def yj(ha:CE X xw C a i):CE X xw C (.UnaryOp .Not a pos) (.not i):=by
 intro pq s σ H Q I hq;obtain⟨ρ,l,S,st,lr,h⟩:=hq;have h':End X.K xw Rep ρ H Q ((ev C i l S).bind λx S=>(Ev.ob (Ev.Z5 S x) S).bind λb S=>.ok (.bl !b) S):=h
 refine UnaryOp_ (thn (ha pq s σ H (λv H1=>∃k,Zan X.K v H1 k/\Q (.bl !k) H1) I ⟨ρ,l,S,st,lr,End.bind h' λx S1 ρ1 H1 v f1 st1 r1 h1=>?_⟩) λv s1 ⟨x,H1,I1,r1,q1⟩=>?_)
 ·cases q:Ev.Z5 S1 x with|none=>rw[q]at h1;exact False.elim h1|some n=>rw[q]at h1;exact⟨n,Xa st1 r1 q,End.ok h1 st1 (Zz _)⟩
 ·obtain⟨k,tk,q2⟩:=q1
  refine not_of (thn (uS pq s1 σ H1 x v (λk' H'=>Q (.bl !k') H') I1 r1 ⟨k,tk,q2⟩) λk' s2 ⟨H2,I2,q3⟩=>?_)
  exact⟨.bl (!k'),H2,I2,rfl,q3⟩
def zQ{rest:List Expr}(ha:CE X xw C a i)(hb:CE X xw C (.BoolOp .And (b::rest) pos) j):CE X xw C (.BoolOp .And (a::b::rest) pos) (.and i j):=PE.imp (Zdm ha hb) λσ H Q ⟨ρ,l,S,st,lr,h⟩=>by
 refine⟨ρ,l,S,st,lr,End.bind (show End X.K xw Rep ρ H Q ((ev C i l S).bind _)from h) λx S1 ρ1 H1 v f1 st1 r1 h1=>?_⟩
 cases x with
 |bl c=>
  refine⟨c,r1.bl',?_⟩;cases c with|true=>exact⟨ρ1,l,S1,st1,lr.mono f1,h1⟩|false=>exact End.ok h1 st1 (Zz _)
 |_=>exact False.elim h1
def CWh(X:Cx)(xw:Nat->Hp->Prop)(C:Calls)(e:Expr)(i:E):Prop:=PW X e (tB3 X xw (tst C i))
def CWh.ct(h:CWh X xw C e i):CT X xw C e i:=PW.pt h
def PW.imp(h:PW X e t)(k:∀σ H Q,t' σ H Q->t σ H Q):PW X e t':=λwh pq s σ H Q I q=>h wh pq s σ H Q I (k σ H Q q)
def zV(ha:CT X xw C a i):CWh X xw C (.BoolOp .Or [a] pos) i:=Zah ha
def xp{rest:List Expr}(ha:CT X xw C a i)(hb:CWh X xw C (.BoolOp .Or (b::rest) pos) j):CWh X xw C (.BoolOp .Or (a::b::rest) pos) (.or i j):=PW.imp (Zb7 ha hb) λσ H Q ⟨ρ,l,S,st,lr,h⟩=>by
 have h':End X.K xw Vr ρ H Q (((ev C i l S).bind λx S=>match x with | .bl c=>if c then .ok (.bl ag) S else ev C j l S | _=>.no).bind λx S=>Ev.ob (Ev.Z5 S x) S):=h
 refine⟨ρ,l,S,st,lr,?_⟩;show End X.K xw Vr ρ H _ ((ev C i l S).bind λx S=>Ev.ob (Ev.Z5 S x) S)
 cases q:ev C i l S with
 |no=>rw[q]at h';exact h'
 |ex c S1=>rw[q]at h';exact h'
 |ok x S1=>
  rw[q]at h';cases x with
  |bl n=>
   intro ρ1 H1 w f1 st1 e;have e':n=w:=e;subst e';cases n with|false=>exact⟨ρ1,l,S1,st1,lr.mono f1,End.mono f1 (show End X.K xw Vr ρ H Q ((ev C j l S1).bind λx S=>Ev.ob (Ev.Z5 S x) S)from h')⟩|true=>exact(show End X.K xw Vr ρ H Q (.ok ag S1)from h') ρ1 H1 ag f1 st1 rfl
  |_=>exact False.elim h'
end
section
variable{K:aj}{ρ:List ax}{H:Hp}{S:Zb}
theorem U8(hf:∀x y v b,Rep ρ H x v->Rep ρ H y v->f x y=aa b->b=ag):∀{ds es:List D}{xs:List V}{b:Bool},Rq ρ H ds xs->Rq ρ H es xs->Ev.eqL f ds es=aa b->b=ag
 |[],[],_,b,_,_,h=>(af h).symm
 |d::ds,e::es,_,b,r1,r2,h=>by
  unfold Rq at r1 r2;obtain⟨v,vs,rfl,a1,b1⟩:=r1;obtain⟨v',vs',e',a2,b2⟩:=r2;cases e';unfold Ev.eqL at h;cases q1:f d e with
  |none=>rw[q1]at h;cases h
  |some p=>
   cases q2:Ev.eqL f ds es with
   |none=>rw[q1,q2]at h;cases h
   |some q=>
    rw[q1,q2]at h;have h':(p&&q)=b:=af h;rw[<-h',hf d e v p a1 a2 q1,U8 hf b1 b2 q2];rfl
 |[],_::_,_,b,r1,r2,h=>by
  have l1:=r1.length;have l2:=r2.length;rw[l1]at l2;simp at l2
 |_::_,[],_,b,r1,r2,h=>by
  have l1:=r1.length;have l2:=r2.length;rw[l1]at l2;simp at l2
theorem Vx(st:St3 K ρ S H):∀(k:Nat)(x y:D)(v:V)(b:Bool),Rep ρ H x v->Rep ρ H y v->Ev.eqD S k x y=aa b->b=ag
 |0,_,_,_,_,_,_,h=>by cases h
 |k+1,x,y,v,b,r1,r2,h=>by
  cases x with
  |non=>
   cases r1.non';cases y with|non=>exact(af h).symm|bl _=>cases r2.bl'|int _=>cases r2.int'|str _=>cases r2.str'|tup _=>obtain⟨_,_,z,_⟩:=r2.tup';cases z|loc _=>obtain⟨_,z,_⟩:=r2.loc';cases z
  |bl i=>
   cases r1.bl';cases y with|bl j=>cases r2.bl';have:=af h;rw[<-this];exact T5 rfl|non=>cases r2.non'|int _=>cases r2.int'|str _=>cases r2.str'|tup _=>obtain⟨_,_,z,_⟩:=r2.tup';cases z|loc _=>obtain⟨_,z,_⟩:=r2.loc';cases z
  |int i=>
   cases r1.int';cases y with|int j=>cases r2.int';have:=af h;rw[<-this];exact T5 rfl|non=>cases r2.non'|bl _=>cases r2.bl'|str _=>cases r2.str'|tup _=>obtain⟨_,_,z,_⟩:=r2.tup';cases z|loc _=>obtain⟨_,z,_⟩:=r2.loc';cases z
  |str i=>
   cases r1.str';cases y with|str j=>cases r2.str';have:=af h;rw[<-this];exact T5 rfl|non=>cases r2.non'|bl _=>cases r2.bl'|int _=>cases r2.int'|tup _=>obtain⟨_,_,z,_⟩:=r2.tup';cases z|loc _=>obtain⟨_,z,_⟩:=r2.loc';cases z
  |tup ds=>
   obtain⟨p,xs,rfl,hp,q1⟩:=r1.tup';cases y with
   |tup es=>
    obtain⟨p',xs',z,hp',q2⟩:=r2.tup';cases z;rw[hp]at hp';cases hp';exact U8 (λx y v b=>Vx st k x y v b) q1 q2 h
   |non=>cases r2.non'
   |bl _=>cases r2.bl'
   |int _=>cases r2.int'
   |str _=>cases r2.str'
   |loc _=>cases h
  |loc m=>
   obtain⟨p,rfl,hp⟩:=r1.loc';cases y with
   |loc n=>
    obtain⟨p',z,hp'⟩:=r2.loc';cases z;have h':(match Ev.Zi S m,Ev.Zi S n with
     |some xs,aa ys=>if xs.length=ys.length then Ev.eqL (Ev.eqD S k) xs ys else aa ai
     |_,_=>ac)=aa b:=h
    cases e1:Ev.Zi S m with
    |none=>rw[e1]at h';cases h'
    |some ds=>
     cases e2:Ev.Zi S n with
     |none=>rw[e1,e2]at h';cases h'
     |some es=>
      rw[e1,e2]at h';obtain⟨s1,a1,xs,t1,u1,q1⟩:=st.lst e1;obtain⟨s2,a2,ys,t2,u2,q2⟩:=st.lst e2;by_cases hmn:m=n
      ·subst hmn
       rw[e1]at e2;cases e2;have h2:(if ds.length=ds.length then Ev.eqL (Ev.eqD S k) ds ds else aa ai)=aa b:=h'
       rw[T9 rfl]at h2;exact U8 (λx y v b=>Vx st k x y v b) q1 q1 h2
      ·rcases st.nd m n p hp hp' hmn with⟨ns,z⟩ | ⟨ns,z⟩
       ·rw[s1]at z;cases z
       ·rw[s2]at z;cases z
   |non=>cases r2.non'
   |bl _=>cases r2.bl'
   |int _=>cases r2.int'
   |str _=>cases r2.str'
   |tup _=>cases h
noncomputable def eAt(f:D->D->Option Bool)(ds es:List D)(j:Nat):Bool:=match ds[j]?,es[j]? with
 |some x,aa y=>(f x y).getD ai
 |_,_=>ai
theorem Xn :∀{ds es:List D}{b:Bool},Ev.eqL f ds es=aa b->
  ((aI (mV ds.length es.length)).all (eAt f ds es)&&ds.length == es.length)=b/\∀j x y,ds[j]? = aa x->es[j]? = aa y->f x y=aa (eAt f ds es j)
 |[],[],b,h=>⟨af h,λj x y e=>by simp at e⟩
 |[],_::es,b,h=>⟨by rw[<-af h];simp,λj x y e=>by simp at e⟩
 |_::ds,[],b,h=>⟨by rw[<-af h];simp,λj x y _ e=>by simp at e⟩
 |d::ds,e::es,b,h=>by
  unfold Ev.eqL at h;cases q1:f d e with
  |none=>rw[q1]at h;cases h
  |some p=>
   cases q2:Ev.eqL f ds es with
   |none=>rw[q1,q2]at h;cases h
   |some q=>
    rw[q1,q2]at h;obtain⟨ih,ih2⟩:=Xn q2;have h':(p&&q)=b:=af h;have e0:eAt f (d::ds) (e::es) 0=p:=by simp[eAt,q1]
    have es':∀j,eAt f (d::ds) (e::es) (j+1)=eAt f ds es j:=λj=>by simp[eAt]
    refine⟨?_,λj x y hx hy=>?_⟩
    ·rw[<-h',<-ih,aR,aR,Nat.succ_min_succ,dY,fJ,e0,gh]
     have:((aI (mV ds.length es.length)).all (eAt f (d::ds) (e::es)∘mU))=(aI (mV ds.length es.length)).all (eAt f ds es):=by
      exact congrArg (λg=>(aI (mV ds.length es.length)).all g) (funext λj=>es' j)
     rw[this,Bool.and_assoc]
     congr 2
     simp
    ·cases j with
     |zero=>
      simp at hx hy;subst hx hy;rw[e0];exact q1
     |succ j=>
      rw[es' j];exact ih2 j x y (by simpa using hx) (by simpa using hy)
end
section
variable{X:Cx}{pq:List (ax×dP)}{σ:L2.St}{H:Hp}{s:aw}{ρ:List ax}{S:Zb}
def Yy{A:bV}{k:Nat}(h:A.units+(k+1)<d8):A.in1.units+k<d8:=by
 have e:A.in1.units<=A.units+1:=by
  first | exact aD _ | (simp[bV.in1,bV.units] <;> omega)
 omega
theorem Js(I:Inv X pq σ H s)(st:St3 X.K ρ S H):∀(k:Nat)(A:bV)(x y:D)(v u:V)(vv uu:ao)(b:Bool),A.units+k<d8->Rep ρ H x v->Rep ρ H y u->ZA v vv->ZA u uu->Ev.eqD S k x y=aa b->iD A s vv uu b
 |0,_,_,_,_,_,_,_,_,_,_,_,_,_,h=>by cases h
 |k+1,A,x,y,v,u,vv,uu,b,hu,r1,r2,e1,e2,h=>by
  have flat:wa v=ag->wa u=ag->eqV v u=b->iD A s vv uu b:=λf1 f2 e=>by rw[<-e];exact Zci e1 e2 f1 f2
  have bb:∀{a c:Bool},(a == c)=ae (a=c):=λ{a c}=>by cases a <;> cases c <;> rfl
  have ii:∀{a c:Int},(a == c)=ae (a=c):=λ{a c}=>by rw[bz];simp
  have ss:∀{a c:aZ},(a == c)=ae (a=c):=λ{a c}=>by rw[bz];simp
  cases x with
  |non=>
   cases r1.non';cases y with|non=>cases r2.non';exact flat rfl rfl (af h)|bl _=>cases r2.bl';exact flat rfl rfl (af h)|int _=>cases r2.int';exact flat rfl rfl (af h)|str _=>cases r2.str';exact flat rfl rfl (af h)|_=>cases h
  |bl i=>
   cases r1.bl';cases y with|non=>cases r2.non';exact flat rfl rfl (af h)|bl _=>cases r2.bl';exact flat rfl rfl (bb.trans (af h))|int _=>cases r2.int';exact flat rfl rfl (ii.trans (af h))|str _=>cases r2.str';exact flat rfl rfl (af h)|_=>cases h
  |int i=>
   cases r1.int';cases y with|non=>cases r2.non';exact flat rfl rfl (af h)|bl _=>cases r2.bl';exact flat rfl rfl (ii.trans (af h))|int _=>cases r2.int';exact flat rfl rfl (ii.trans (af h))|str _=>cases r2.str';exact flat rfl rfl (af h)|_=>cases h
  |str i=>
   cases r1.str';cases y with|non=>cases r2.non';exact flat rfl rfl (af h)|bl _=>cases r2.bl';exact flat rfl rfl (af h)|int _=>cases r2.int';exact flat rfl rfl (af h)|str _=>cases r2.str';exact flat rfl rfl (ss.trans (af h))|_=>cases h
  |tup ds=>
   obtain⟨p,xs,rfl,hp,q1⟩:=r1.tup';cases e1;cases y with
   |tup es=>
    obtain⟨p',ys,rfl,hp',q2⟩:=r2.tup';cases e2;by_cases hpp:p=p'
    ·subst hpp
     rw[Vx st (k+1) (.tup ds) (.tup es) (.ref p) b r1 r2 h];exact iJ _
    ·obtain⟨its,v1,t1,_⟩:=I.tuple (SqT.of hp)
     obtain⟨its2,v2,t2,_⟩:=I.tuple (SqT.of hp');have h':Ev.eqL (Ev.eqD S k) ds es=aa b:=h;obtain⟨ev,ea⟩:=Xn h';have n1:its.toArray.size=ds.length:=by rw[au,<-v1.length,q1.length]
     have n2:its2.toArray.size=es.length:=by rw[au,<-v2.length,q2.length]
     refine kL hpp ?_;rw[<-ev,<-n1,<-n2];refine k9 t1 t2 (by omega) λj j1 j2=>?_
     have d1:ds[j]? = aa ds[j]:=ah (by omega)
     have d2:es[j]? = aa es[j]:=ah (by omega)
     obtain⟨w1,g1,z1⟩:=q1.get d1;obtain⟨w2,g2,z2⟩:=q2.get d2;obtain⟨m1,k1,y1⟩:=v1.get g1;obtain⟨m2,k2,y2⟩:=v2.get g2;have o1:its.toArray[j]=m1:=by
      have:=ay.mp k1
      simpa using this.2
     have o2:its2.toArray[j]=m2:=by
      have:=ay.mp k2
      simpa using this.2
     rw[o1,o2];exact Js I st k A.in1 ds[j] es[j] w1 w2 m1 m2 _ (Yy hu) z1 z2 y1 y2 (ea j _ _ d1 d2)
   |_=>cases h
  |loc m=>
   obtain⟨p,rfl,hp⟩:=r1.loc';cases e1;cases y with
   |loc n=>
    obtain⟨p',rfl,hp'⟩:=r2.loc';cases e2;by_cases hpp:p=p'
    ·subst hpp
     rw[Vx st (k+1) (.loc m) (.loc n) (.ref p) b r1 r2 h];exact iJ _
    ·have h':(match Ev.Zi S m,Ev.Zi S n with
      |some xs,aa ys=>if xs.length=ys.length then Ev.eqL (Ev.eqD S k) xs ys else aa ai
      |_,_=>ac)=aa b:=h
     cases a1:Ev.Zi S m with
     |none=>rw[a1]at h';cases h'
     |some ds=>
      cases a2:Ev.Zi S n with
      |none=>rw[a1,a2]at h';cases h'
      |some es=>
       rw[a1,a2]at h';obtain⟨s1,c1,xs,t1,u1,q1⟩:=st.lst a1;obtain⟨s2,c2,ys,t2,u2,q2⟩:=st.lst a2;rw[hp]at t1;cases t1;rw[hp']at t2;cases t2;obtain⟨its,v1,p1,_⟩:=I.list (SqL.of u1);obtain⟨its2,v2,p2,_⟩:=I.list (SqL.of u2);have n1:its.toArray.size=ds.length:=by rw[au,<-v1.length,q1.length]
       have n2:its2.toArray.size=es.length:=by rw[au,<-v2.length,q2.length]
       refine kL hpp ?_;have h2:(if ds.length=es.length then Ev.eqL (Ev.eqD S k) ds es else aa ai)=aa b:=h'
       by_cases hl:ds.length=es.length
       ·rw[T9 hl]at h2
        obtain⟨ev,ea⟩:=Xn h2;have ev':(aI ds.length).all (eAt (Ev.eqD S k) ds es)=b:=by
         rw[<-ev,<-hl,la];simp
        rw[<-ev',<-n1];refine lH p1.isList p2.isList (by omega) (by omega) λj j1 j2=>?_
        have d1:ds[j]? = aa ds[j]:=ah (by omega)
        have d2:es[j]? = aa es[j]:=ah (by omega)
        obtain⟨w1,g1,z1⟩:=q1.get d1;obtain⟨w2,g2,z2⟩:=q2.get d2;obtain⟨m1,k1,y1⟩:=v1.get g1;obtain⟨m2,k2,y2⟩:=v2.get g2;have o1:its.toArray[j]=m1:=by
         have:=ay.mp k1
         simpa using this.2
        have o2:its2.toArray[j]=m2:=by
         have:=ay.mp k2
         simpa using this.2
        rw[o1,o2];exact Js I st k A.in1 ds[j] es[j] w1 w2 m1 m2 _ (Yy hu) z1 z2 y1 y2 (ea j _ _ d1 d2)
       ·rw[T8 hl]at h2
        rw[<-af h2];exact gX p1.isList p2.isList (bne_iff_ne.mpr (by omega)) (by omega)
   |_=>cases h
end
section
variable{X:Cx}{pq:List (ax×dP)}{σ:L2.St}{H:Hp}{s:aw}{ρ:List ax}{S:Zb}
def VB(I:Inv X pq σ H s)(st:St3 X.K ρ S H){k:Nat}{A:bV}{ds es:List D}{xs ys:List V}{its its2:List ao}{b:Bool}(hu:A.units+(k+1)<d8)
  (q1:Rq ρ H ds xs)(q2:Rq ρ H es ys)(v1:Vals xs its)(v2:Vals ys its2)(h:Ev.eqL (Ev.eqD S k) ds es=aa b) :
  ∀j (h1:j<its.toArray.size) (h2:j<its2.toArray.size),iD A.in1 s its.toArray[j] its2.toArray[j] (eAt (Ev.eqD S k) ds es j):=λj j1 j2=>by
 obtain⟨_,ea⟩:=Xn h;have n1:its.toArray.size=ds.length:=by rw[au,<-v1.length,q1.length]
 have n2:its2.toArray.size=es.length:=by rw[au,<-v2.length,q2.length]
 have d1:ds[j]? = aa ds[j]:=ah (by omega)
 have d2:es[j]? = aa es[j]:=ah (by omega)
 obtain⟨w1,g1,z1⟩:=q1.get d1;obtain⟨w2,g2,z2⟩:=q2.get d2;obtain⟨m1,k1,y1⟩:=v1.get g1;obtain⟨m2,k2,y2⟩:=v2.get g2;have o1:its.toArray[j]=m1:=by
  have:=ay.mp k1
  simpa using this.2
 have o2:its2.toArray[j]=m2:=by
  have:=ay.mp k2
  simpa using this.2
 rw[o1,o2];exact Js I st k A.in1 ds[j] es[j] w1 w2 m1 m2 _ (Yy hu) z1 z2 y1 y2 (ea j _ _ d1 d2)
end
section
variable{X:Cx}{xw:Nat->Hp->Prop}{C:Calls}{e a b c:Expr}{i j k:E}{pos p p':dZ}
def jH(K:aj)(xw:Nat->Hp->Prop)(op:Cop):R2:=λv u H Q=>∃ρ S x y,St3 K ρ S H/\Rep ρ H x v/\Rep ρ H y u/\End K xw Rep ρ H Q (Ev.Xq op x y S)
def ZcD :∀σ H Q,tE X xw (ev C (.cmp op i j)) σ H Q->tOp (jH X.K xw op) (tE X xw (ev C i)) (tE X xw (ev C j)) σ H Q:=λσ H Q h=>
 Wo (r:=jH X.K xw op) (g:=Ev.Xq op) (λ{ρ H S x y v u Q} st rx ry h=>⟨ρ,S,x,y,st,rx,ry,h⟩) σ H Q h
def dI{a c:Int}:(a == c)=ae (a=c):=by rw[bz];simp
def Zct(hu:X.A.units+6<d8):OpR X (cu .Eq) (jH X.K xw .eq):=by
 intro pq s σ H v u vv uu Q I e1 e2 h;obtain⟨ρ,S,x,y,st,rx,ry,h⟩:=h;have h0:End X.K xw Rep ρ H Q ((Ev.ob (Ev.eqD S Ev.Zn x y) S).bind λb S=>.ok (.bl b) S):=h
 obtain⟨b,hb,h1⟩:=End.ob h0;have q:Q (.bl b) H:=End.ok h1 st (Zz b);have flat:scal v u=ag->ae (v=u)=b->aT (bc X.prog X.w) X.A (cu .Eq vv uu) (EP X pq σ Q) X.xe s:=λhs e=>Zek pq s σ H v u vv uu Q I e1 e2 ⟨hs,by rw[e];exact q⟩
 cases x with
 |non=>
  cases rx.non';cases y with|non=>cases ry.non';exact flat rfl (af hb▸by simp)|bl _=>cases ry.bl';exact flat rfl (af hb▸by simp)|int _=>cases ry.int';exact flat rfl (af hb▸by simp)|str _=>cases ry.str';exact flat rfl (af hb▸by simp)|_=>cases hb
 |bl i=>
  cases rx.bl';cases y with
  |non=>cases ry.non';exact flat rfl (af hb▸by simp)
  |bl j=>cases ry.bl';exact flat rfl (af hb▸by simp)
  |int j=>
   cases ry.int';cases e1;obtain⟨t,rfl⟩:=e2;refine EqBoolInt.eq_bool_int ⟨.bl b,H,I,?_,q⟩;show bM ((if i then 1 else 0) == j)=bM b
   rw[dI];exact congrArg bM (af hb)
  |str _=>cases ry.str';exact flat rfl (af hb▸by simp)
  |_=>cases hb
 |int i=>
  cases rx.int';cases y with
  |non=>cases ry.non';exact flat rfl (af hb▸by simp)
  |bl j=>
   cases ry.bl';cases e2;obtain⟨t,rfl⟩:=e1;refine EqBoolInt.eq_int_bool ⟨.bl b,H,I,?_,q⟩;show bM (i == (if j then 1 else 0))=bM b
   rw[dI];exact congrArg bM (af hb)
  |int _=>cases ry.int';exact flat rfl (af hb▸by simp)
  |str _=>cases ry.str';exact flat rfl (af hb▸by simp)
  |_=>cases hb
 |str i=>
  cases rx.str';cases y with|non=>cases ry.non';exact flat rfl (af hb▸by simp)|bl _=>cases ry.bl';exact flat rfl (af hb▸by simp)|int _=>cases ry.int';exact flat rfl (af hb▸by simp)|str _=>cases ry.str';exact flat rfl (af hb▸by simp)|_=>cases hb
 |tup ds=>
  obtain⟨p,xs,rfl,hp,q1⟩:=rx.tup';cases e1;cases y with
  |tup es=>
   obtain⟨p',ys,rfl,hp',q2⟩:=ry.tup';cases e2;obtain⟨its,v1,t1,_⟩:=I.tuple (SqT.of hp);obtain⟨its2,v2,t2,_⟩:=I.tuple (SqT.of hp');have hb':Ev.eqL (Ev.eqD S 5) ds es=aa b:=hb;obtain⟨ev,_⟩:=Xn hb';have n1:its.toArray.size=ds.length:=by rw[au,<-v1.length,q1.length]
   have n2:its2.toArray.size=es.length:=by rw[au,<-v2.length,q2.length]
   refine k9 t1 t2 (by omega) (VB I st hu q1 q2 v1 v2 hb') X.prog X.w X.xe _ ?_
   rw[n1,n2,ev];exact⟨.bl b,H,I,rfl,q⟩
  |_=>cases hb
 |loc m=>
  obtain⟨p,rfl,hp⟩:=rx.loc';cases e1;cases y with
  |loc n=>
   obtain⟨p',rfl,hp'⟩:=ry.loc';cases e2;have h':(match Ev.Zi S m,Ev.Zi S n with
    |some xs,aa ys=>if xs.length=ys.length then Ev.eqL (Ev.eqD S 5) xs ys else aa ai
    |_,_=>ac)=aa b:=hb
   cases a1:Ev.Zi S m with
   |none=>rw[a1]at h';cases h'
   |some ds=>
    cases a2:Ev.Zi S n with
    |none=>rw[a1,a2]at h';cases h'
    |some es=>
     rw[a1,a2]at h';obtain⟨s1,c1,xs,t1,u1,q1⟩:=st.lst a1;obtain⟨s2,c2,ys,t2,u2,q2⟩:=st.lst a2;rw[hp]at t1;cases t1;rw[hp']at t2;cases t2;obtain⟨its,v1,p1,_⟩:=I.list (SqL.of u1);obtain⟨its2,v2,p2,_⟩:=I.list (SqL.of u2);have n1:its.toArray.size=ds.length:=by rw[au,<-v1.length,q1.length]
     have n2:its2.toArray.size=es.length:=by rw[au,<-v2.length,q2.length]
     have h2:(if ds.length=es.length then Ev.eqL (Ev.eqD S 5) ds es else aa ai)=aa b:=h'
     by_cases hl:ds.length=es.length
     ·rw[T9 hl]at h2
      obtain⟨ev,_⟩:=Xn h2;have ev':(aI ds.length).all (eAt (Ev.eqD S 5) ds es)=b:=by
       rw[<-ev,<-hl,la];simp
      refine lH p1.isList p2.isList (by omega) (by omega) (VB I st hu q1 q2 v1 v2 h2) X.prog X.w X.xe _ ?_
      rw[n1,ev'];exact⟨.bl b,H,I,rfl,q⟩
     ·rw[T8 hl]at h2
      refine gX p1.isList p2.isList (bne_iff_ne.mpr (by omega)) (by omega) X.prog X.w X.xe _ ?_
      exact⟨.bl b,H,I,congrArg bM (af h2),q⟩
  |_=>cases hb
def Zdf(hu:X.A.units+6<d8):OpR X (cu .NotEq) (jH X.K xw .ne):=by
 intro pq s σ H v u vv uu Q I e1 e2 h;obtain⟨ρ,S,x,y,st,rx,ry,h⟩:=h;have h0:End X.K xw Rep ρ H Q ((Ev.ob (Ev.eqD S Ev.Zn x y) S).bind λb S=>.ok (.bl !b) S):=h
 obtain⟨b,hb,h1⟩:=End.ob h0;have q:Q (.bl !b) H:=End.ok h1 st (Zz _);have flat:scal v u=ag->ae (v=u)=b->aT (bc X.prog X.w) X.A (cu .NotEq vv uu) (EP X pq σ Q) X.xe s:=λhs e=>ZdT pq s σ H v u vv uu Q I e1 e2 ⟨hs,by rw[e];exact q⟩
 cases x with
 |non=>
  cases rx.non';cases y with|non=>cases ry.non';exact flat rfl (af hb▸by simp)|bl _=>cases ry.bl';exact flat rfl (af hb▸by simp)|int _=>cases ry.int';exact flat rfl (af hb▸by simp)|str _=>cases ry.str';exact flat rfl (af hb▸by simp)|_=>cases hb
 |bl i=>
  cases rx.bl';cases y with
  |non=>cases ry.non';exact flat rfl (af hb▸by simp)
  |bl j=>cases ry.bl';exact flat rfl (af hb▸by simp)
  |int j=>
   cases ry.int';cases e1;obtain⟨t,rfl⟩:=e2;refine EqBoolInt.ne_bool_int ⟨.bl !b,H,I,?_,q⟩;show bM (!((if i then 1 else 0) == j))=bM !b
   rw[dI];exact congrArg (λz=>bM !z) (af hb)
  |str _=>cases ry.str';exact flat rfl (af hb▸by simp)
  |_=>cases hb
 |int i=>
  cases rx.int';cases y with
  |non=>cases ry.non';exact flat rfl (af hb▸by simp)
  |bl j=>
   cases ry.bl';cases e2;obtain⟨t,rfl⟩:=e1;refine EqBoolInt.ne_int_bool ⟨.bl !b,H,I,?_,q⟩;show bM (!(i == (if j then 1 else 0)))=bM !b
   rw[dI];exact congrArg (λz=>bM !z) (af hb)
  |int _=>cases ry.int';exact flat rfl (af hb▸by simp)
  |str _=>cases ry.str';exact flat rfl (af hb▸by simp)
  |_=>cases hb
 |str i=>
  cases rx.str';cases y with|non=>cases ry.non';exact flat rfl (af hb▸by simp)|bl _=>cases ry.bl';exact flat rfl (af hb▸by simp)|int _=>cases ry.int';exact flat rfl (af hb▸by simp)|str _=>cases ry.str';exact flat rfl (af hb▸by simp)|_=>cases hb
 |tup ds=>
  obtain⟨p,xs,rfl,hp,q1⟩:=rx.tup';cases e1;cases y with
  |tup es=>
   obtain⟨p',ys,rfl,hp',q2⟩:=ry.tup';cases e2;obtain⟨its,v1,t1,_⟩:=I.tuple (SqT.of hp);obtain⟨its2,v2,t2,_⟩:=I.tuple (SqT.of hp');have hb':Ev.eqL (Ev.eqD S 5) ds es=aa b:=hb;obtain⟨ev,_⟩:=Xn hb';have n1:its.toArray.size=ds.length:=by rw[au,<-v1.length,q1.length]
   have n2:its2.toArray.size=es.length:=by rw[au,<-v2.length,q2.length]
   refine SeqAt.RcNeAt.tuples t1 t2 (by omega) (VB I st hu q1 q2 v1 v2 hb') X.prog X.w X.xe _ ?_
   rw[n1,n2,ev];exact⟨.bl !b,H,I,rfl,q⟩
  |_=>cases hb
 |loc m=>
  obtain⟨p,rfl,hp⟩:=rx.loc';cases e1;cases y with
  |loc n=>
   obtain⟨p',rfl,hp'⟩:=ry.loc';cases e2;have h':(match Ev.Zi S m,Ev.Zi S n with
    |some xs,aa ys=>if xs.length=ys.length then Ev.eqL (Ev.eqD S 5) xs ys else aa ai
    |_,_=>ac)=aa b:=hb
   cases a1:Ev.Zi S m with
   |none=>rw[a1]at h';cases h'
   |some ds=>
    cases a2:Ev.Zi S n with
    |none=>rw[a1,a2]at h';cases h'
    |some es=>
     rw[a1,a2]at h';obtain⟨s1,c1,xs,t1,u1,q1⟩:=st.lst a1;obtain⟨s2,c2,ys,t2,u2,q2⟩:=st.lst a2;rw[hp]at t1;cases t1;rw[hp']at t2;cases t2;obtain⟨its,v1,p1,_⟩:=I.list (SqL.of u1);obtain⟨its2,v2,p2,_⟩:=I.list (SqL.of u2);have n1:its.toArray.size=ds.length:=by rw[au,<-v1.length,q1.length]
     have n2:its2.toArray.size=es.length:=by rw[au,<-v2.length,q2.length]
     have h2:(if ds.length=es.length then Ev.eqL (Ev.eqD S 5) ds es else aa ai)=aa b:=h'
     by_cases hl:ds.length=es.length
     ·rw[T9 hl]at h2
      obtain⟨ev,_⟩:=Xn h2;have ev':(aI ds.length).all (eAt (Ev.eqD S 5) ds es)=b:=by
       rw[<-ev,<-hl,la];simp
      refine SeqAt.RcNeAt.lists p1.isList p2.isList (by omega) (by omega) (VB I st hu q1 q2 v1 v2 h2) X.prog X.w X.xe _ ?_
      rw[n1,ev'];exact⟨.bl !b,H,I,rfl,q⟩
     ·rw[T8 hl]at h2
      refine SeqAt.RcNeAt.lists_lengths p1.isList p2.isList (bne_iff_ne.mpr (by omega)) (by omega) X.prog X.w X.xe _ ?_
      exact⟨.bl !b,H,I,congrArg (λz=>bM !z) (af h2),q⟩
  |_=>cases hb
end
section
variable{K:aj}{ρ:List ax}{H:Hp}{S:Zb}
theorem wy(hf:∀x x' y v b b',Rep ρ H x v->Rep ρ H x' v->f x y=aa b->f x' y=aa b'->b=b') :
  ∀{ds ds' es:List D}{xs:List V}{b b':Bool},Rq ρ H ds xs->Rq ρ H ds' xs->Ev.eqL f ds es=aa b->Ev.eqL f ds' es=aa b'->b=b'
 |[],[],[],_,b,b',_,_,h,h'=>(af h).symm.trans (af h')
 |[],[],_::_,_,b,b',_,_,h,h'=>(af h).symm.trans (af h')
 |_::_,_::_,[],_,b,b',_,_,h,h'=>(af h).symm.trans (af h')
 |d::ds,d'::ds',e::es,_,b,b',r1,r2,h,h'=>by
  unfold Rq at r1 r2;obtain⟨v,vs,rfl,a1,b1⟩:=r1;obtain⟨v',vs',e',a2,b2⟩:=r2;cases e';unfold Ev.eqL at h h';cases q1:f d e with
  |none=>rw[q1]at h;cases h
  |some p=>
   cases q2:Ev.eqL f ds es with
   |none=>rw[q1,q2]at h;cases h
   |some q=>
    cases q3:f d' e with
    |none=>rw[q3]at h';cases h'
    |some p'=>
     cases q4:Ev.eqL f ds' es with
     |none=>rw[q3,q4]at h';cases h'
     |some q'=>
      rw[q1,q2]at h;rw[q3,q4]at h';have z1:(p&&q)=b:=af h;have z2:(p'&&q')=b':=af h';rw[<-z1,<-z2,hf d d' e v p p' a1 a2 q1 q3,wy hf b1 b2 q2 q4]
 |[],_::_,_,_,b,b',r1,r2,_,_=>by
  have l1:=r1.length;have l2:=r2.length;rw[l1]at l2;simp at l2
 |_::_,[],_,_,b,b',r1,r2,_,_=>by
  have l1:=r1.length;have l2:=r2.length;rw[l1]at l2;simp at l2
theorem xC(st:St3 K ρ S H):∀(k:Nat)(x x' y:D)(v:V)(b b':Bool),Rep ρ H x v->Rep ρ H x' v->Ev.eqD S k x y=aa b->Ev.eqD S k x' y=aa b'->b=b'
 |0,_,_,_,_,_,_,_,_,h,_=>by cases h
 |k+1,x,x',y,v,b,b',r1,r2,h,h'=>by
  cases x with
  |non=>
   cases r1.non';cases x' with|non=>exact af (h.symm.trans h')|bl _=>cases r2.bl'|int _=>cases r2.int'|str _=>cases r2.str'|tup _=>obtain⟨_,_,z,_⟩:=r2.tup';cases z|loc _=>obtain⟨_,z,_⟩:=r2.loc';cases z
  |bl i=>
   cases r1.bl';cases x' with|bl j=>cases r2.bl';exact af (h.symm.trans h')|non=>cases r2.non'|int _=>cases r2.int'|str _=>cases r2.str'|tup _=>obtain⟨_,_,z,_⟩:=r2.tup';cases z|loc _=>obtain⟨_,z,_⟩:=r2.loc';cases z
  |int i=>
   cases r1.int';cases x' with|int j=>cases r2.int';exact af (h.symm.trans h')|non=>cases r2.non'|bl _=>cases r2.bl'|str _=>cases r2.str'|tup _=>obtain⟨_,_,z,_⟩:=r2.tup';cases z|loc _=>obtain⟨_,z,_⟩:=r2.loc';cases z
  |str i=>
   cases r1.str';cases x' with|str j=>cases r2.str';exact af (h.symm.trans h')|non=>cases r2.non'|bl _=>cases r2.bl'|int _=>cases r2.int'|tup _=>obtain⟨_,_,z,_⟩:=r2.tup';cases z|loc _=>obtain⟨_,z,_⟩:=r2.loc';cases z
  |tup ds=>
   obtain⟨p,xs,rfl,hp,q1⟩:=r1.tup';cases y with
   |tup es=>
    cases x' with
    |tup ds'=>
     obtain⟨p',xs',z,hp',q2⟩:=r2.tup';cases z;rw[hp]at hp';cases hp';exact wy (λx x' y v b b'=>xC st k x x' y v b b') q1 q2 h h'
    |non=>cases r2.non'
    |bl _=>cases r2.bl'
    |int _=>cases r2.int'
    |str _=>cases r2.str'
    |loc _=>cases h'
   |_=>cases h
  |loc m=>
   obtain⟨p,rfl,hp⟩:=r1.loc';cases y with
   |loc n=>
    cases x' with
    |loc m'=>
     obtain⟨p',z,hp'⟩:=r2.loc';cases z;by_cases hm:m=m'
     ·subst hm
      exact af (h.symm.trans h')
     ·have one:∀{q:Nat}{b:Bool},Ev.eqD S (k+1) (.loc q) (.loc n)=aa b->∃ds,Ev.Zi S q=aa ds:=λ{q b} h=>by
       have h2:(match Ev.Zi S q,Ev.Zi S n with
        |some xs,aa ys=>if xs.length=ys.length then Ev.eqL (Ev.eqD S k) xs ys else aa ai
        |_,_=>ac)=aa b:=h
       cases e1:Ev.Zi S q with|none=>rw[e1]at h2;cases h2|some ds=>exact⟨ds,rfl⟩
      obtain⟨ds,e1⟩:=one h;obtain⟨ds',e2⟩:=one h';rcases st.nd m m' p hp hp' hm with⟨ns,z⟩ | ⟨ns,z⟩
      ·rw[(st.lst e1).1]at z;cases z
      ·rw[(st.lst e2).1]at z;cases z
    |non=>cases r2.non'
    |bl _=>cases r2.bl'
    |int _=>cases r2.int'
    |str _=>cases r2.str'
    |tup _=>cases h'
   |_=>cases h
theorem Ju :∀{ds:List D}{b:Bool},Ev.inL S x ds=aa b->∀d∈ds,∃c,Ev.eqD S Ev.Zn d x=aa c
 |[],_,_,d,hd=>by cases hd
 |y::ys,b,h,d,hd=>by
  unfold Ev.inL at h;cases q1:Ev.eqD S Ev.Zn y x with
  |none=>rw[q1]at h;cases h
  |some p=>
   cases q2:Ev.inL S x ys with
   |none=>rw[q1,q2]at h;cases h
   |some q=>
    rcases az.mp hd with rfl | hd
    ·exact⟨p,q1⟩
    ·exact Ju q2 d hd
theorem xI :∀{ds:List D}{b:Bool},Ev.inL S x ds=aa b->(ds.any λd=>(Ev.eqD S Ev.Zn d x).getD ai)=b
 |[],_,h=>af h
 |y::ys,b,h=>by
  unfold Ev.inL at h;cases q1:Ev.eqD S Ev.Zn y x with
  |none=>rw[q1]at h;cases h
  |some p=>
   cases q2:Ev.inL S x ys with
   |none=>rw[q1,q2]at h;cases h
   |some q=>
    rw[q1,q2]at h;rw[eR,xI q2,q1,<-af h];rfl
end
section
variable{X:Cx}{pq:List (ax×dP)}{σ:L2.St}{H:Hp}{s:aw}{ρ:List ax}{S:Zb}
open Classical in
def Vs(I:Inv X pq σ H s)(st:St3 X.K ρ S H)(hu:A.units+6<d8)(rx:Rep ρ H x v)(ex:ZA v vv)
  (q:Rq ρ H ds xs)(vs:Vals xs its)(h:Ev.inL S x ds=aa b):∃e:ao->Bool,(∀u,u∈its.toArray->iD A s u vv (e u))/\its.toArray.any e=b:=by
 refine⟨λu=>ae (∃d∈ds,∃w,Rep ρ H d w/\ZA w u/\Ev.eqD S Ev.Zn d x=aa ag),λu hu'=>?_,?_⟩
 ·have hu2:u∈its:=by simpa using hu'
  obtain⟨j,hj,e⟩:=cJ hu2;have hl:j<ds.length:=by rw[<-q.length,vs.length];exact hj
  obtain⟨w,g,r⟩:=q.get (ah hl);obtain⟨u',g',r'⟩:=vs.get g;have eu:u'=u:=by
   rw[ah hj]at g';exact(af g').symm.trans e
  subst eu;obtain⟨c,hc⟩:=Ju h ds[j] (ba hl);have ec:ae (∃d∈ds,∃w,Rep ρ H d w/\ZA w u'/\Ev.eqD S Ev.Zn d x=aa ag)=c:=by
   cases c with
   |true=>exact T5 ⟨ds[j],ba hl,w,r,r',hc⟩
   |false=>
    refine T4 ?_
    rintro ⟨d,hd,w',a1,a2,a3⟩
    cases a2.inj r';exact T7 (xC st 6 d ds[j] x w ag ai a1 r a3 hc) (by decide)
  dsimp only
  rw[ec];exact Js I st 6 A ds[j] x w v u' vv c hu r rx r' ex hc
 ·rw[<-xI h,List.any_toArray,bz,eF,eF]
  constructor
  ·rintro ⟨u,hu1,h1⟩
   obtain⟨d,hd,w,a1,a2,a3⟩:=T6 h1;exact⟨d,hd,by rw[a3];rfl⟩
  ·rintro ⟨d,hd,h1⟩
   obtain⟨j,hj,e⟩:=cJ hd;subst e;obtain⟨w,g,r⟩:=q.get (ah hj);obtain⟨u,g',r'⟩:=vs.get g;refine⟨u,cD g',T5 ⟨ds[j],hd,w,r,r',?_⟩⟩;obtain⟨c,hc⟩:=Ju h ds[j] hd;rw[hc]at h1 ⊢;exact congrArg aa h1
end
section
variable{X:Cx}{xw:Nat->Hp->Prop}{C:Calls}{e a b c:Expr}{i j k:E}{pos p p':dZ}
def ZcV(hu:X.A.units+7<d8):OpR X (cu .In) (λv u H Q=>∃ρ S x ds b,St3 X.K ρ S H/\Rep ρ H x v/\(Rep ρ H (.tup ds) u\/∃n,Rep ρ H (.loc n) u/\S[n]? = aa (.lst ds))/\Ev.inL S x ds=aa b/\Q (.bl b) H):=by
 intro pq s σ H v u vv uu Q I e1 e2 h;obtain⟨ρ,S,x,ds,b,st,rx,ry,hb,q⟩:=h;rcases ry with ry | ⟨n,ry,hn⟩
 ·obtain⟨p,xs,rfl,hp,q1⟩:=ry.tup'
  cases e2;obtain⟨its,v1,t1,_⟩:=I.tuple (SqT.of hp);obtain⟨f,h1,h2⟩:=Vs I st (A:=X.A.in1) (Yy hu) rx e1 q1 v1 hb;exact SeqAt.in_tupleAt f t1 h1 (by rw[h2];exact⟨.bl b,H,I,rfl,q⟩)
 ·obtain⟨p,rfl,hp⟩:=ry.loc'
  cases e2;obtain⟨p',hp',xs,hx,q1⟩:=st.at hn;rw[hp]at hp';cases hp';obtain⟨its,v1,t1,_⟩:=I.list (SqL.of hx);obtain⟨f,h1,h2⟩:=Vs I st (A:=X.A.in1) (Yy hu) rx e1 q1 v1 hb;exact SeqAt.in_listAt f t1.isList h1 (by rw[h2];exact⟨.bl b,H,I,rfl,q⟩)
def ZbV(hu:X.A.units+7<d8):OpR X (cu .NotIn) (λv u H Q=>∃ρ S x ds b,St3 X.K ρ S H/\Rep ρ H x v/\(Rep ρ H (.tup ds) u\/∃n,Rep ρ H (.loc n) u/\S[n]? = aa (.lst ds))/\Ev.inL S x ds=aa b/\Q (.bl !b) H):=by
 intro pq s σ H v u vv uu Q I e1 e2 h;obtain⟨ρ,S,x,ds,b,st,rx,ry,hb,q⟩:=h;rcases ry with ry | ⟨n,ry,hn⟩
 ·obtain⟨p,xs,rfl,hp,q1⟩:=ry.tup'
  cases e2;obtain⟨its,v1,t1,_⟩:=I.tuple (SqT.of hp);obtain⟨f,h1,h2⟩:=Vs I st (A:=X.A.in1) (Yy hu) rx e1 q1 v1 hb;exact SeqAt.notIn_tupleAt f t1 h1 (by rw[h2];exact⟨.bl !b,H,I,rfl,q⟩)
 ·obtain⟨p,rfl,hp⟩:=ry.loc'
  cases e2;obtain⟨p',hp',xs,hx,q1⟩:=st.at hn;rw[hp]at hp';cases hp';obtain⟨its,v1,t1,_⟩:=I.list (SqL.of hx);obtain⟨f,h1,h2⟩:=Vs I st (A:=X.A.in1) (Yy hu) rx e1 q1 v1 hb;exact SeqAt.notIn_listAt f t1.isList h1 (by rw[h2];exact⟨.bl !b,H,I,rfl,q⟩)
variable{ρ:List ax}{H:Hp}{S:Zb}{x y:D}{v u:V}{Q:VK}{K:aj}
def ZdN(st:St3 K ρ S H)(rx:Rep ρ H x v)(ry:Rep ρ H y u)(h:End K xw Rep ρ H Q (Ev.Xq .lt x y S)):rI0 (λi j=>.bl (ae (i<j))) v u H Q:=by
 cases x with
 |int i=>cases y with|int j=>exact⟨i,j,rx.int',ry.int',End.ok h st (Zz _)⟩|_=>exact False.elim h
 |_=>cases y <;> exact False.elim h
def Zea(st:St3 K ρ S H)(rx:Rep ρ H x v)(ry:Rep ρ H y u)(h:End K xw Rep ρ H Q (Ev.Xq .le x y S)):rI0 (λi j=>.bl (ae (i<=j))) v u H Q:=by
 cases x with
 |int i=>cases y with|int j=>exact⟨i,j,rx.int',ry.int',End.ok h st (Zz _)⟩|_=>exact False.elim h
 |_=>cases y <;> exact False.elim h
def Zd9(st:St3 K ρ S H)(rx:Rep ρ H x v)(ry:Rep ρ H y u)(h:End K xw Rep ρ H Q (Ev.Xq .ge x y S)):rI0 (λi j=>.bl (ae (j<=i))) v u H Q:=by
 cases x with
 |int i=>cases y with|int j=>exact⟨i,j,rx.int',ry.int',End.ok h st (Zz _)⟩|_=>exact False.elim h
 |_=>cases y <;> exact False.elim h
end
section
variable{X:Cx}{xw:Nat->Hp->Prop}{C:Calls}{e a b c:Expr}{i j k:E}{pos p p':dZ}
def Wf{α β γ:Type}(r:R α)(f:α->Zb->R β)(g:β->Zb->R γ):(r.bind f).bind g=r.bind λa S=>(f a S).bind g:=by cases r <;> rfl
def Uq{α β:Type}{o:Option α}{S S':Zb}{f:α->Zb->R β}{z:β}(h:(Ev.ob o S).bind f=.ok z S'):∃a,o=aa a/\f a S=.ok z S':=by
 cases o with|none=>cases h|some a=>exact⟨a,rfl,h⟩
def ur{o:Cop}{x y:D}{S S':Zb}{z:D}(h:Ev.Xq o x y S=.ok z S'):∃b,z=.bl b:=by
 have fin:∀{n:Bool},R.ok (D.bl n) S=.ok z S'->∃b,z=.bl b:=λ{n} e=>by cases e;exact⟨n,rfl⟩
 cases o with
 |eq=>obtain⟨_,_,e⟩:=Uq h;exact fin e
 |ne=>obtain⟨_,_,e⟩:=Uq h;exact fin e
 |lt=>cases x <;> cases y <;> first | exact fin h | (obtain⟨_,_,e⟩:=Uq h;obtain⟨_,_,e⟩:=Uq e;exact fin e) | cases h
 |le=>cases x <;> cases y <;> first | exact fin h | cases h
 |ge=>cases x <;> cases y <;> first | exact fin h | cases h
 |is=>cases x <;> cases y <;> first | exact fin h | cases h
 |inn=>cases q:Ev.WK S x y with|ok b S1=>have h':((Ev.WK S x y).bind λb S=>R.ok (D.bl b) S)=.ok z S':=h;rw[q]at h';cases h';exact⟨b,rfl⟩|ex _ _=>have h':((Ev.WK S x y).bind λb S=>R.ok (D.bl b) S)=.ok z S':=h;rw[q]at h';cases h'|no=>have h':((Ev.WK S x y).bind λb S=>R.ok (D.bl b) S)=.ok z S':=h;rw[q]at h';cases h'
 |nin=>cases q:Ev.WK S x y with|ok b S1=>have h':((Ev.WK S x y).bind λb S=>R.ok (D.bl !b) S)=.ok z S':=h;rw[q]at h';cases h';exact⟨!b,rfl⟩|ex _ _=>have h':((Ev.WK S x y).bind λb S=>R.ok (D.bl !b) S)=.ok z S':=h;rw[q]at h';cases h'|no=>have h':((Ev.WK S x y).bind λb S=>R.ok (D.bl !b) S)=.ok z S':=h;rw[q]at h';cases h'
def Wa(X:Cx)(xw:Nat->Hp->Prop)(op:mQ)(o:Cop):Prop:=OpR X (cu op) (jH X.K xw o)
def OpR.imp(h:OpR X f r)(k:∀v u H Q,r' v u H Q->r v u H Q):OpR X f r':=λpq s σ H x y v u Q I e1 e2 q=>h pq s σ H x y v u Q I e1 e2 (k x y H Q q)
def jE(hu:X.A.units+7<d8):Wa X xw .Eq .eq:=Zct (by omega)
def jm(hu:X.A.units+7<d8):Wa X xw .NotEq .ne:=Zdf (by omega)
def xK(hu:X.A.units+7<d8):Wa X xw .Lt .lt:=OpR.imp ZdL λv u H Q ⟨ρ,S,x,y,st,rx,ry,h⟩=>ZdN st rx ry h
def Jm(hu:X.A.units+7<d8):Wa X xw .LtE .le:=OpR.imp Zd6 λv u H Q ⟨ρ,S,x,y,st,rx,ry,h⟩=>Zea st rx ry h
def qK(hu:X.A.units+7<d8):Wa X xw .GtE .ge:=OpR.imp Zez λv u H Q ⟨ρ,S,x,y,st,rx,ry,h⟩=>Zd9 st rx ry h
def jU(hu:X.A.units+7<d8):Wa X xw .Is .is:=OpR.imp (ZcM.or ZcZ) λv u H Q ⟨ρ,S,x,y,st,rx,ry,h⟩=>by
 cases y with
 |non=>
  refine .inl ⟨ry.non',?_⟩;have e:ae (x=D.non)=ae (v=V.non):=by
   cases x with|non=>rw[rx.non'];simp|bl _=>rw[rx.bl'];simp|int _=>rw[rx.int'];simp|str _=>rw[rx.str'];simp|tup _=>obtain⟨_,_,z,_⟩:=rx.tup';rw[z];simp|loc _=>obtain⟨_,z,_⟩:=rx.loc';rw[z];simp
  rw[<-e];have h':End X.K xw Rep ρ H Q (.ok (.bl (ae (x=.non))) S):=by cases x <;> exact h
  exact End.ok h' st (Zz _)
 |bl j=>cases x with|bl i=>exact .inr ⟨i,j,rx.bl',ry.bl',End.ok h st (Zz _)⟩|_=>exact False.elim h
 |_=>cases x <;> exact False.elim h
def zE(st:St3 X.K ρ S H)(ry:Rep ρ H y u)(h:End X.K xw Rep ρ H Q ((Ev.WK S x y).bind f)) :
  (∃ds b,(Rep ρ H (.tup ds) u\/∃n,Rep ρ H (.loc n) u/\S[n]? = aa (.lst ds))/\Ev.inL S x ds=aa b/\End X.K xw Rep ρ H Q (f b S)):=by
 cases y with
 |tup ys=>
  obtain⟨b,hb,h1⟩:=End.ob (show End X.K xw Rep ρ H Q ((Ev.ob (Ev.inL S x ys) S).bind f)from h)
  exact⟨ys,b,.inl ry,hb,h1⟩
 |loc n=>
  have h':End X.K xw Rep ρ H Q ((Ev.Zdj S x S[n]?).bind f):=h;cases q:S[n]? with
  |none=>rw[q]at h';exact False.elim h'
  |some o=>
   rw[q]at h';cases o with
   |lst ys=>
    obtain⟨b,hb,h1⟩:=End.ob (show End X.K xw Rep ρ H Q ((Ev.ob (Ev.inL S x ys) S).bind f)from h')
    exact⟨ys,b,.inr ⟨n,ry,q⟩,hb,h1⟩
   |_=>exact False.elim h'
 |_=>exact False.elim h
def Xx{op:mQ}{o:Cop}(hc:Wa X xw op o)(ha:CE X xw C a i)(hb:CE X xw C b j)(hm:c9 op b=ai:=by first | exact Z8 _ | rfl | (with_unfolding_all rfl)):CE X xw C (.Compare a [op] [b] pos) (.cmp o i j):=
 PE.imp (Zaz hc ha hb hm) (ZcD)
def XE{op:mQ}{o:Cop}(hc:Wa X xw op o)(ha:CE X xw C a i)(hb:CE X xw C b j)(hm:c9 op b=ai:=by first | exact Z8 _ | rfl | (with_unfolding_all rfl)):CT X xw C (.Compare a [op] [b] pos) (.cmp o i j):=
 PT.imp (ZaQ hc ha hb hm) λσ H Q ⟨ρ,l,S,st,lr,h⟩=>by
  have h':End X.K xw Vr ρ H Q (((ev C i l S).bind λx S=>(ev C j l S).bind λy S=>Ev.Xq o x y S).bind λx S=>Ev.ob (Ev.Z5 S x) S):=h
  simp only[Wf]at h';refine⟨ρ,l,S,st,lr,h'.bind λx S1 ρ1 H1 v f1 st1 r1 h1=>⟨ρ1,l,S1,st1,lr.mono f1,h1.bind λy S2 ρ2 H2 u f2 st2 r2 h2=>⟨ρ2,S2,x,y,st2,r1.mono f2,r2,?_⟩⟩⟩
  have h3:∀{r:R D},(∀z S',r=.ok z S'->∃b,z=.bl b)->End X.K xw Vr ρ2 H2 Q (r.bind λx S=>Ev.ob (Ev.Z5 S x) S)->End X.K xw Rep ρ2 H2 (λx H'=>∃k,x=V.bl k/\Q k H') r:=λ{r} hr h=>by
   cases r with
   |no=>exact h
   |ex _ _=>exact h
   |ok z S3=>
    obtain⟨b,rfl⟩:=hr z S3 rfl;exact λρ3 H3 w f3 st3 r3=>⟨b,r3.bl',h ρ3 H3 b f3 st3 rfl⟩
  exact h3 (λz S' e=>ur e) h2
def Vw{op op':mQ}{o o':Cop}{d:Expr}{k:E}(hc:Wa X xw op o)(hc':Wa X xw op' o')(ha:CE X xw C a i)(hb:CE X xw C b j)(hd:CE X xw C d k)
  (hm:lastMarks [op,op'] [b,d]=ai:=by with_unfolding_all rfl):CE X xw C (.Compare a [op,op'] [b,d] pos) (.chain o o' i j k):=
 PE.imp (jx hc hc' ha hb hd hm) λσ H Q ⟨ρ,l,S,st,lr,h⟩=>by
  refine⟨ρ,l,S,st,lr,End.bind (show End X.K xw Rep ρ H Q ((ev C i l S).bind _)from h) λx S1 ρ1 H1 v f1 st1 r1 h1=>⟨ρ1,l,S1,st1,lr.mono f1,h1.bind λy S2 ρ2 H2 u f2 st2 r2 h2=>⟨ρ2,S2,x,y,st2,r1.mono f2,r2,h2.bind λz S3 ρ3 H3 w f3 st3 r3 h3=>?_⟩⟩⟩
  cases z with
  |bl n=>
   refine⟨n,r3.bl',?_⟩;cases n with|true=>exact⟨ρ3,l,S3,st3,((lr.mono f1).mono f2).mono f3,End.bind (show End X.K xw Rep ρ3 H3 Q ((ev C k l S3).bind _)from h3) λt S4 ρ4 H4 t' f4 st4 r4 h4=>⟨ρ4,S4,y,t,st4,(r2.mono f3).mono f4,r4,h4⟩⟩|false=>exact End.ok h3 st3 (Zz _)
  |_=>exact False.elim h3
end
section
variable{X:Cx}{xw:Nat->Hp->Prop}{C:Calls}{e a b c:Expr}{i j k:E}{pos p p' p2:dZ}
variable{ρ:List ax}{H:Hp}{S:Zb}{x y:D}{v u:V}{Q:VK}{K:aj}
def jO(hu:X.A.units+7<d8):Wa X xw .In .inn:=OpR.imp (ZcV hu) λv u H Q ⟨ρ,S,x,y,st,rx,ry,h⟩=>by
 obtain⟨ds,b,hy,hb,h1⟩:=zE st ry (show End X.K xw Rep ρ H Q ((Ev.WK S x y).bind λb S=>.ok (.bl b) S)from h);exact⟨ρ,S,x,ds,b,st,rx,hy,hb,End.ok h1 st (Zz _)⟩
def yB(hu:X.A.units+7<d8):Wa X xw .NotIn .nin:=OpR.imp (ZbV hu) λv u H Q ⟨ρ,S,x,y,st,rx,ry,h⟩=>by
 obtain⟨ds,b,hy,hb,h1⟩:=zE st ry (show End X.K xw Rep ρ H Q ((Ev.WK S x y).bind λb S=>.ok (.bl !b) S)from h);exact⟨ρ,S,x,ds,b,st,rx,hy,hb,End.ok h1 st (Zz _)⟩
def qu(ha:CE X xw C a i)(hb:CE X xw C b j)(hs:xi b:=by intro _ _;with_unfolding_all rfl):CE X xw C (.Subscript a b pos) (.ix i j):=PE.imp (Zb1 (xX.or Zcr) ha hb hs) (Wo λ{ρ H S x y v u Q} st rx ry h=>by
 cases x with
 |tup ds=>cases y with
  |int n=>
   obtain⟨p,xs,rfl,hp,r⟩:=rx.tup';have h':End X.K xw Rep ρ H Q (Ev.ob (Ev.at' ds n) S):=h;cases q:Ev.at' ds n with
   |none=>rw[q]at h';exact False.elim h'
   |some d=>
    rw[q]at h';unfold Ev.at' at q;cases q2:Ev.ixN ds.length n with
    |none=>rw[q2]at q;cases q
    |some m=>
     rw[q2]at q;obtain⟨w,g,rw'⟩:=r.get (show ds[m]? = aa d from q)
     refine .inr ⟨p,xs,n,w,rfl,ry.int',SqT.of hp,?_,End.ok h' st rw'⟩;unfold atI;rw[r.length,show ixN ds.length n=aa m from q2]
     exact g
  |_=>exact False.elim h
 |loc m=>cases y with
  |int n=>
   have h':End X.K xw Rep ρ H Q (match Ev.Z9 S m with
    |some xs=>Ev.ob (Ev.at' xs n) S
    |none=>.no):=h
   cases e1:Ev.Z9 S m with
   |none=>rw[e1]at h';exact False.elim h'
   |some ds=>
    rw[e1]at h';obtain⟨p,xs,q1,hp,r⟩:=st.seq e1;obtain⟨p',rfl,t⟩:=rx.loc';rw[q1]at t;cases t;have h2:End X.K xw Rep ρ H Q (Ev.ob (Ev.at' ds n) S):=h';cases q:Ev.at' ds n with
    |none=>rw[q]at h2;exact False.elim h2
    |some d=>
     rw[q]at h2;unfold Ev.at' at q;cases q2:Ev.ixN ds.length n with
     |none=>rw[q2]at q;cases q
     |some k=>
      rw[q2]at q;obtain⟨w,g,rw'⟩:=r.get (show ds[k]? = aa d from q)
      refine .inl ⟨p,xs,n,w,rfl,ry.int',hp,?_,End.ok h2 st rw'⟩;unfold atI;rw[r.length,show ixN ds.length n=aa k from q2]
      exact g
  |_=>exact False.elim h
 |_=>cases y <;> exact False.elim h)
def Gk:CO X xw C ac ac:=PO.imp ZaM λσ H Q ⟨ρ,l,S,st,lr,h⟩=>End.ok (rep:=ZbL) h st rfl
def JA(h:CE X xw C e i):CO X xw C (aa e) (aa i):=PO.imp (Z6 h) λσ H Q ⟨ρ,l,S,st,lr,h⟩=>by
 refine⟨ρ,l,S,st,lr,End.bind (show End X.K xw ZbL ρ H Q ((ev C i l S).bind _)from h) λx S1 ρ1 H1 v f1 st1 r1 h1=>?_⟩
 cases x with|int n=>exact⟨n,r1.int',End.ok (rep:=ZbL) h1 st1 rfl⟩|_=>exact False.elim h1
def JE(n d:Nat)(o:Option Int):Ev.sIx n d o=HT.sIx n d o:=by
 cases o with
 |none=>rfl
 |some i=>first | rfl | (unfold Ev.sIx HT.sIx;rfl)
def wG(r:Rq ρ H ds xs)(lo hi:Option Int):Rq ρ H (Ev.cut ds lo hi) (YH xs lo hi):=by
 unfold Ev.cut YH;rw[JE,JE,r.length];exact(r.drop _).take _
def jS{lo hi:Option Expr}{il ih:Option E}(ha:CE X xw C a i)(hl:CO X xw C lo il)(hh:CO X xw C hi ih):CE X xw C (.Subscript a (.Slice lo hi ac p2) pos) (.sl i il ih):=
 PE.imp (jA (Zcy.or (qc.or Zbp)) ha hl hh) λσ H Q ⟨ρ,l,S,st,lr,h⟩=>by
  refine⟨ρ,l,S,st,lr,End.bind (show End X.K xw Rep ρ H Q ((ev C i l S).bind _)from h) λx S1 ρ1 H1 v f1 st1 r1 h1=>⟨ρ1,l,S1,st1,lr.mono f1,h1.bind λy S2 ρ2 H2 u f2 st2 r2 h2=>⟨ρ2,l,S2,st2,(lr.mono f1).mono f2,h2.bind λz S3 ρ3 H3 w f3 st3 r3 h3=>?_⟩⟩⟩
  have e1:y=u:=r2;have e2:z=w:=r3;subst e1 e2;have r0:=(r1.mono f2).mono f3;cases x with
  |tup ds=>
   obtain⟨p,xs,rfl,hp,r⟩:=r0.tup';have h':End X.K xw Rep ρ3 H3 Q (.ok (.tup (Ev.cut ds y z)) S3):=h3;by_cases hw:HT.sIx xs.length 0 y=0/\HT.sIx xs.length xs.length z=xs.length
   ·refine .inr (.inl ⟨p,xs,rfl,SqT.of hp,hw,End.ok h' st3 ?_⟩)
    have ew:Ev.cut ds y z=ds:=by
     unfold Ev.cut;rw[JE,JE,<-r.length,hw.1,hw.2,iY,Nat.sub_zero,r.length,h7]
    rw[ew];exact ZW hp r
   ·exact .inl ⟨p,xs,rfl,SqT.of hp,hw,h'.newT st3 (wG r y z)⟩
  |loc n=>
   have h':End X.K xw Rep ρ3 H3 Q (match Ev.Zi S3 n with
    |some xs=>.ok (.loc S3.length) (S3++[.lst (Ev.cut xs y z)])
    |none=>.no):=h3
   cases e1:Ev.Zi S3 n with
   |none=>rw[e1]at h';exact False.elim h'
   |some ds=>
    rw[e1]at h';obtain⟨_,p,xs,q1,hp,r⟩:=st3.lst e1;obtain⟨p',rfl,t⟩:=r0.loc';rw[q1]at t;cases t;exact .inr (.inr ⟨p,xs,rfl,SqL.of hp,End.newL h' st3 (wG r y z)⟩)
  |_=>exact False.elim h3
noncomputable def Uh(K:aj)(xw:Nat->Hp->Prop)(f:Bf):List V->Hp->VK->Prop:=λvs H Q=>∃ρ S ds,St3 K ρ S H/\Rq ρ H ds vs/\End K xw Rep ρ H Q (Ev.YJ f ds S)
def ZO.imp{r r':List V->Hp->VK->Prop}(h:ZO X f r)(k:∀vs H Q,r' vs H Q->r vs H Q):ZO X f r':=λpq s σ H xs us Q I e q=>h pq s σ H xs us Q I e (k xs H Q q)
def uV :∀σ H Q,tE X xw (ev C (.blt f is)) σ H Q->tCB (Uh X.K xw f) (tA X xw (evs C is)) σ H Q:=λσ H Q ⟨ρ,l,S,st,lr,h⟩=>
 ⟨ρ,l,S,st,lr,End.bind (show End X.K xw Rep ρ H Q ((evs C is l S).bind _)from h) λxs S1 ρ1 H1 vs f1 st1 r1 h1=>⟨ρ1,S1,xs,st1,r1,h1⟩⟩
def Xg(r:Rq ρ H [d] vs):∃v,vs=[v]/\Rep ρ H d v:=by
 unfold Rq at r;obtain⟨v,ws,rfl,a1,b1⟩:=r;unfold Rq at b1;exact⟨v,by rw[b1],a1⟩
def qo{d e:D}{vs:List V}(r:Rq ρ H [d,e] vs):∃v w,vs=[v,w]/\Rep ρ H d v/\Rep ρ H e w:=by
 unfold Rq at r;obtain⟨v,ws,rfl,a1,b1⟩:=r;obtain⟨w,rfl,b2⟩:=Xg b1;exact⟨v,w,rfl,a1,b2⟩
def V1(st:St3 K ρ S H)(rx:Rep ρ H x v)(h:Ev.Y0 S x=aa ds):∃p xs,v=.ref p/\(SqL K H p xs\/SqT K H p xs)/\Rq ρ H ds xs:=by
 cases x with
 |tup es=>
  cases h;obtain⟨p,xs,rfl,hp,r⟩:=rx.tup';exact⟨p,xs,rfl,.inr (SqT.of hp),r⟩
 |loc n=>
  obtain⟨p,rfl,hp⟩:=rx.loc';obtain⟨p',xs,q1,hx,r⟩:=st.seq (show Ev.Z9 S n=aa ds from h)
  rw[hp]at q1;cases q1;exact⟨p,xs,rfl,.inl hx,r⟩
 |_=>cases h
def wK:ZO X (.builtin "len") (Uh X.K xw .len):=ZO.imp JB λvs H Q ⟨ρ,S,ds,st,r,h⟩=>by
 cases ds with
 |nil=>exact False.elim h
 |cons d ds=>cases ds with
  |cons _ _=>exact False.elim h
  |nil=>
   obtain⟨v,rfl,rv⟩:=Xg r;obtain⟨xs,hx,h1⟩:=End.ob (show End X.K xw Rep ρ H Q ((Ev.ob (Ev.Y0 S d) S).bind λxs S=>.ok (.int xs.length) S)from h)
   obtain⟨p,ys,rfl,hq,r2⟩:=V1 st rv hx;refine⟨p,ys,rfl,hq,?_⟩;rw[r2.length];exact End.ok h1 st (Zp _)
def Zdw:∀(as:List D)(S:Zb),(∃a b,as=[.int a,.int b])\/Ev.YJ .max2 as S=.no
 |[.int a,.int b],_=>.inl ⟨a,b,rfl⟩
 |[],_=>.inr rfl
 |[x],_=>.inr (by cases x <;> rfl)
 |x::y::_::_,_=>.inr (by cases x <;> first | rfl | (cases y <;> rfl))
 |[.non,_],_ | [.bl _,_],_ | [.str _,_],_ | [.tup _,_],_ | [.loc _,_],_=>.inr rfl
 |[.int _,.non],_ | [.int _,.bl _],_ | [.int _,.str _],_ | [.int _,.tup _],_ | [.int _,.loc _],_=>.inr rfl
def Zdb:∀(as:List D)(S:Zb),(∃a b,as=[.int a,.int b])\/Ev.YJ .min2 as S=.no
 |[.int a,.int b],_=>.inl ⟨a,b,rfl⟩
 |[],_=>.inr rfl
 |[x],_=>.inr (by cases x <;> rfl)
 |x::y::_::_,_=>.inr (by cases x <;> first | rfl | (cases y <;> rfl))
 |[.non,_],_ | [.bl _,_],_ | [.str _,_],_ | [.tup _,_],_ | [.loc _,_],_=>.inr rfl
 |[.int _,.non],_ | [.int _,.bl _],_ | [.int _,.str _],_ | [.int _,.tup _],_ | [.int _,.loc _],_=>.inr rfl
def ZdH:∀(as:List D)(S:Zb),(∃a,as=[.int a])\/(∃b,as=[.bl b])\/Ev.YJ .toInt as S=.no
 |[.int a],_=>.inl ⟨a,rfl⟩
 |[.bl b],_=>.inr (.inl ⟨b,rfl⟩)
 |x::_::_,_=>.inr (.inr (by cases x <;> rfl))
 |[],_ | [.non],_ | [.str _],_ | [.tup _],_ | [.loc _],_=>.inr (.inr rfl)
def uD:∀(as:List D)(S:Zb),(∃a,as=[.tup a])\/(∃b,as=[.loc b])\/Ev.YJ .tuple as S=.no
 |[.tup a],_=>.inl ⟨a,rfl⟩
 |[.loc b],_=>.inr (.inl ⟨b,rfl⟩)
 |x::_::_,_=>.inr (.inr (by cases x <;> rfl))
 |[],_ | [.non],_ | [.str _],_ | [.bl _],_ | [.int _],_=>.inr (.inr rfl)
def Zbg:∀(as:List D)(S:Zb),(∃a,as=[a])\/Ev.YJ .list as S=.no
 |[a],_=>.inl ⟨a,rfl⟩
 |[],_=>.inr rfl
 |x::_::_,_=>.inr (by cases x <;> rfl)
def ZcG:∀(as:List D)(S:Zb),(∃b,as=[.loc b])\/Ev.YJ .all as S=.no
 |[.loc b],_=>.inl ⟨b,rfl⟩
 |x::_::_,_=>.inr (by cases x <;> rfl)
 |[],_ | [.non],_ | [.str _],_ | [.bl _],_ | [.int _],_ | [.tup _],_=>.inr rfl
def xB(hc:X.calm=ag):ZO X (.builtin "max") (Uh X.K xw .max2):=ZO.imp (vq hc) λvs H Q ⟨ρ,S,ds,st,r,h⟩=>by
 rcases Zdw ds S with⟨m,n,rfl⟩ | e
 ·obtain⟨v,w,rfl,r1,r2⟩:=qo r
  exact⟨m,n,by rw[r1.int',r2.int'],End.ok h st (Zp _)⟩
 ·rw[e]at h;exact h.elim
def wC(hc:X.calm=ag):ZO X (.builtin "min") (Uh X.K xw .min2):=ZO.imp (wU hc) λvs H Q ⟨ρ,S,ds,st,r,h⟩=>by
 rcases Zdb ds S with⟨m,n,rfl⟩ | e
 ·obtain⟨v,w,rfl,r1,r2⟩:=qo r
  exact⟨m,n,by rw[r1.int',r2.int'],End.ok h st (Zp _)⟩
 ·rw[e]at h;exact h.elim
def wj:ZO X (.type "int") (Uh X.K xw .toInt):=ZO.imp ua λvs H Q ⟨ρ,S,ds,st,r,h⟩=>by
 rcases ZdH ds S with⟨m,rfl⟩ | ⟨m,rfl⟩ | e
 ·obtain⟨v,rfl,r1⟩:=Xg r
  exact .inl ⟨m,by rw[r1.int'],End.ok h st (Zp _)⟩
 ·obtain⟨v,rfl,r1⟩:=Xg r
  exact .inr ⟨m,by rw[r1.bl'],End.ok h st (Zp _)⟩
 ·rw[e]at h;exact h.elim
def QN:ZO X (.type "tuple") (Uh X.K xw .tuple):=ZO.imp Qx λvs H Q ⟨ρ,S,ds,st,r,h⟩=>by
 rcases uD ds S with⟨es,rfl⟩ | ⟨n,rfl⟩ | e
 ·obtain⟨v,rfl,r1⟩:=Xg r
  obtain⟨p,xs,rfl,hp,r2⟩:=r1.tup';exact⟨p,xs,rfl,.inr ⟨SqT.of hp,End.ok h st r1⟩⟩
 ·obtain⟨v,rfl,r1⟩:=Xg r
  obtain⟨xs,hx,h1⟩:=End.ob (show End X.K xw Rep ρ H Q ((Ev.ob (Ev.Zi S n) S).bind λxs S=>.ok (.tup xs) S)from h)
  obtain⟨_,p,ys,q1,hp,r2⟩:=st.lst hx;obtain⟨p',rfl,t⟩:=r1.loc';rw[q1]at t;cases t;exact⟨p,ys,rfl,.inl ⟨SqL.of hp,h1.newT st r2⟩⟩
 ·rw[e]at h;exact h.elim
def zq:ZO X (.type "list") (Uh X.K xw .list):=ZO.imp JI λvs H Q ⟨ρ,S,ds,st,r,h⟩=>by
 rcases Zbg ds S with⟨d,rfl⟩ | e
 case inr=>rw[e]at h;exact h.elim
 case inl=>
  obtain⟨v,rfl,r1⟩:=Xg r;obtain⟨xs,hx,h1⟩:=End.ob (show End X.K xw Rep ρ H Q ((Ev.ob (Ev.Y0 S d) S).bind λxs S=>.ok (.loc S.length) (S++[.lst xs]))from h)
  obtain⟨p,ys,rfl,hq,r2⟩:=V1 st r1 hx;exact⟨p,ys,rfl,hq,h1.newL st r2⟩
def Xp{f:Bf}{id:String}{x:aZ}{es:List Expr}{is:List E}(hc:ZO X (.builtin id) (Uh X.K xw f))(hm:X.mg x=ac)(ha:CA X xw C (e::es) is)(hg:Gl X x:=by rfl)(hv:cE x=aa (.builtin id):=by rfl)(hn:x≠"__name__":=by decide)(hdb:(x == ("__debug__" : aZ))=ai:=by decide)
  (he:aC (e::es) X.env=(ai,bZ e X.env)::aC es X.env:=by rfl)(hpl:(cK pos (aC es X.env)).any (·.1)=ai:=by rfl):CE X xw C (.Call (.Name x p) (e::es) [] pos) (.blt f is):=
 PE.imp (Wv hc hg hm hv ha hn hdb he hpl) uV
def Vg{f:Bf}{id:String}{x:aZ}{es:List Expr}{is:List E}(hc:ZO X (.type id) (Uh X.K xw f))(hm:X.mg x=ac)(ha:CA X xw C (e::es) is)(hg:Gl X x:=by rfl)(hv:cE x=aa (.type id):=by rfl)(hn:x≠"__name__":=by decide)(hdb:(x == ("__debug__" : aZ))=ai:=by decide)
  (he:aC (e::es) X.env=(ai,bZ e X.env)::aC es X.env:=by rfl)(hpl:(cK pos (aC es X.env)).any (·.1)=ai:=by rfl):CE X xw C (.Call (.Name x p) (e::es) [] pos) (.blt f is):=
 PE.imp (vX hc hg hm hv ha hn hdb he hpl) uV
end
section
variable{X:Cx}{xw:Nat->Hp->Prop}{C:Calls}{e a b c:Expr}{i j k:E}{pos p p' p2:dZ}
theorem WX:∀{ds:List D}{bs:List Bool},Ev.Yt ds=aa bs->bs.length=ds.length/\∀j d,ds[j]? = aa d->Ev.UE d=aa (bs.getD j ai)
 |[],bs,h=>by cases h;exact⟨rfl,λj d e=>by simp at e⟩
 |d::ds,bs,h=>by
  unfold Ev.Yt at h;cases q1:Ev.UE d with
  |none=>rw[q1]at h;cases h
  |some b=>
   cases q2:Ev.Yt ds with
   |none=>rw[q1,q2]at h;cases h
   |some cs=>
    rw[q1,q2]at h;cases h;obtain⟨l,ih⟩:=WX q2;refine⟨by rw[aR,aR,l],λj d' e=>?_⟩
    cases j with|zero=>simp at e;subst e;simpa using q1|succ j=>simpa using ih j d' (by simpa using e)
def vY(bs:List Bool):(aI bs.length).all (λj=>bs.getD j ai)=bs.all id:=by
 rw[bz,aU,aU]
 constructor
 ·intro h b hb
  obtain⟨j,hj,e⟩:=cJ hb;have:=h j (bF.mpr hj)
  simpa[ah hj,e]using this
 ·intro h j hj
  have hj':=bF.mp hj
  simpa[ah hj']using h bs[j] (ba hj')
def vx(bs:List Bool):(aI bs.length).any (λj=>bs.getD j ai)=bs.any id:=by
 rw[bz,eF,eF]
 constructor
 ·rintro ⟨j,hj,h⟩
  have hj':=bF.mp hj;exact⟨bs[j],ba hj',by simpa[ah hj']using h⟩
 ·rintro ⟨b,hb,h⟩
  obtain⟨j,hj,e⟩:=cJ hb;exact⟨j,bF.mpr hj,by simpa[ah hj,e]using h⟩
def Vh(r:Rep ρ H d v)(e:ZA v u)(h:Ev.UE d=aa n)(s:aw)(Q:Bool->aw->Prop)(E:ao->aw->Prop)(q:Q n s) :
  aT (bc prog w) A (mL u) Q E s:=by
 cases d with
 |non=>cases r.non';cases e;cases h;exact truthy_none q
 |bl b=>cases r.bl';cases e;cases h;exact cT q
 |int m=>
  cases r.int';obtain⟨t,rfl⟩:=e;have h':ae (m≠0)=n:=af h;refine kC ?_;have:(m != 0)=n:=by
   rw[<-h'];by_cases z:m=0
   ·subst z;rfl
   ·rw[T5 z];exact bne_iff_ne.mpr z
  rw[this];exact q
 |_=>cases h
def wX(hc:X.calm=ag):ZO X (.builtin "all") (λvs H Q=>∃ρ S ds n bs,St3 X.K ρ S H/\Rq ρ H [.loc n] vs/\Ev.Zi S n=aa ds/\Ev.Yt ds=aa bs/\Q (.bl (bs.all id)) H):=by
 intro pq s σ H vs us Q I r h;obtain⟨ρ,S,ds,n,bs,st,rs,hl,hb,q⟩:=h;obtain⟨v,rfl,r1⟩:=Xg rs;obtain⟨_,p,xs,q1,hx,rx⟩:=st.lst hl;obtain⟨p',rfl,t⟩:=r1.loc';rw[q1]at t;cases t;obtain⟨u,rfl,ru⟩:=VD r;cases ru;obtain⟨its,rv,pl,hz⟩:=I.list (SqL.of hx);obtain⟨lb,tb⟩:=WX hb;have hlt:p<s.heap.objs.size:=by obtain⟨_,e,_⟩:=pl.isList;exact aJ e
 have hlen:its.toArray.size=bs.length:=by rw[au,<-rv.length,rx.length,lb]
 refine call_all_walk (fm pl.isList ⟨s.heap.objs.size,[s.heap.objs.size,p],[s.heap.objs.size],its.toArray.size,(λi v=>its.toArray[i]? = aa v),(λi h=>h.IsListIter s.heap.objs.size p i/\h.IsList p its.toArray),λj=>bs.getD j ai,rfl,Walks.list (A:=X.A.in1) (show X.A.in1.handled=ac from I.ok.hd hc) s.heap.objs.size p (br hlt) its.toArray,⟨⟨_,aN _ rfl,rfl,rfl⟩,pl.isList.push _⟩,?_,?_⟩)
 ·intro j v s' Q' E' hv hQ'
  have hj:its[j]? = aa v:=by simpa using hv
  have jl:j<ds.length:=by
   have:=(ay.mp hj).1;rw[<-rv.length,rx.length]at this;exact this
  obtain⟨w',g,r'⟩:=rx.get (ah jl);obtain⟨u',g',ru'⟩:=rv.get g;rw[hj]at g';cases g';exact Vh r' ru' (tb j _ (ah jl)) s' Q' E' hQ'
 ·intro h' tk hk
  rw[hlen,vY];have kp:∀b o,s.heap.get? b=aa o->h'.get? b=aa o:=λb o e=>hk b o (λhm=>by
   have:b=s.heap.objs.size:=by simpa using hm
   exact T7 (this▸aJ e) (bw _)) (ar _ e)
  exact⟨.bl (bs.all id),H,I.kept (t':=tk) kp,rfl,q⟩
def wM(hc:X.calm=ag):ZO X (.builtin "all") (Uh X.K xw .all):=ZO.imp (wX hc) λvs H Q ⟨ρ,S,ds,st,r,h⟩=>by
 rcases ZcG ds S with⟨n,rfl⟩ | e
 case inr=>rw[e]at h;exact h.elim
 case inl=>
  obtain⟨xs,hx,h1⟩:=End.ob (show End X.K xw Rep ρ H Q ((Ev.ob (Ev.Zi S n) S).bind λxs S=>(Ev.ob (Ev.Yt xs) S).bind λbs S=>.ok (.bl (bs.all id)) S)from h)
  obtain⟨bs,hb,h2⟩:=End.ob h1;exact⟨ρ,S,xs,n,bs,st,r,hx,hb,End.ok h2 st (Zz _)⟩
noncomputable def ZQ:Ty->String
 |.int=>"int" | .bool=>"bool" | .str=>"str" | .tuple=>"tuple" | .list=>"list" | .dict=>"dict" | .cls _=>""
def yk{K:aj}{ρ:List ax}{S:Zb}{H:Hp}{x:D}{v:V}{t:Ty}{n:Bool}(st:St3 K ρ S H)(rx:Rep ρ H x v)(ht:∀m,t≠.cls m)(h:Ev.zu S x t=aa n) :
  ∃tv,TyOf K H v tv/\eg K tv (.type (ZQ t))=aa n:=by
 cases x with
 |non=>rw[rx.non'];refine⟨_,.non,?_⟩;cases h;cases t <;> first | rfl | exact T7 rfl (ht _)
 |bl b=>rw[rx.bl'];refine⟨_,.bl b,?_⟩;cases h;cases t <;> first | rfl | exact T7 rfl (ht _)
 |int b=>rw[rx.int'];refine⟨_,.int b,?_⟩;cases h;cases t <;> first | rfl | exact T7 rfl (ht _)
 |str b=>rw[rx.str'];refine⟨_,.str b,?_⟩;cases h;cases t <;> first | rfl | exact T7 rfl (ht _)
 |tup ds=>
  obtain⟨p,xs,rfl,hp,_⟩:=rx.tup';refine⟨_,.tup hp,?_⟩;cases h;cases t <;> first | rfl | exact T7 rfl (ht _)
 |loc m=>
  obtain⟨p,rfl,hp⟩:=rx.loc';have h':(match S[m]? with
   |some (.lst _)=>aa (ae (t=.list))
   |some (.dt _)=>aa (ae (t=.dict))
   |some (.dk _)=>aa (ae (t=.dict))
   |_=>ac)=aa n:=h
  cases q:S[m]? with
  |none=>rw[q]at h';cases h'
  |some o=>
   rw[q]at h';obtain⟨p',hp',ro⟩:=st.at q;rw[hp]at hp';cases hp';cases o with
   |lst xs=>obtain⟨ys,e,_⟩:=ro;refine⟨_,.lst e,?_⟩;cases h';cases t <;> first | rfl | exact T7 rfl (ht _)
   |dt kvs=>obtain⟨ys,e,_⟩:=ro;refine⟨_,.dT e,?_⟩;cases h';cases t <;> first | rfl | exact T7 rfl (ht _)
   |dk kvs=>obtain⟨ys,e,_⟩:=ro;refine⟨_,.dK e,?_⟩;cases h';cases t <;> first | rfl | exact T7 rfl (ht _)
   |_=>cases h'
def jc(T:String):ZO X (.builtin "isinstance") (λvs H Q=>∃v tv n,vs=[v,.ty T]/\TyOf X.K H v tv/\eg X.K tv (.type T)=aa n/\Q (.bl n) H):=by
 intro pq s σ H vs us Q I r h;obtain⟨v,tv,n,rfl,ty,e,q⟩:=h;obtain⟨u,w',rfl,r1,r2⟩:=zD r;cases r2;exact w6 I r1 ty e λtk=>⟨.bl n,H,I.tok tk,rfl,q⟩
def VZ{T:aZ}{t:Ty}(ht:∀m,t≠.cls m)(hm:X.mg "isinstance" = ac)(hmT:X.mg T=ac)(ha:CE X xw C a i)(hg:Gl X "isinstance":=by rfl)(hgT:Gl X T:=by rfl)(hvT:cE T=aa (.type (ZQ t)):=by rfl)(hnT:T≠"__name__":=by decide)(hdT:(T == ("__debug__" : aZ))=ai:=by decide)
  (hs1:aC [a,.Name T p2] X.env=(ai,bZ a X.env)::aC [.Name T p2] X.env:=by rfl)(hs2:aC [.Name T p2] X.env=(ai,bZ (.Name T p2) X.env)::aC [] X.env:=by rfl)(hpl:(cK pos (aC [.Name T p2] X.env)).any (·.1)=ai:=by rfl) :
  CE X xw C (.Call (.Name "isinstance" p) [a,.Name T p2] [] pos) (.isi i [t]):=
 PE.imp (Wv (jc (ZQ t)) hg hm (by rfl) (ZE ha (ZE (Ut (v:=.ty (ZQ t)) hgT hmT hvT rfl hnT hdT) Yn hs2) hs1) (by decide) (by decide) hs1 hpl) λσ H Q ⟨ρ,l,S,st,lr,h⟩=>by
  refine⟨ρ,l,S,st,lr,End.bind (show End X.K xw Rep ρ H Q ((ev C i l S).bind _)from h) λx S1 ρ1 H1 v f1 st1 r1 h1=>?_⟩
  obtain⟨n,hn,h2⟩:=End.ob h1;have hn':Ev.zu S1 x t=aa n:=by
   unfold Ev.UN at hn;cases q:Ev.zu S1 x t with|none=>rw[q]at hn;cases hn|some m=>rw[q]at hn;cases m <;> exact hn
  obtain⟨tv,ty,e⟩:=yk st1 r1 ht hn';exact⟨v,tv,n,rfl,ty,e,End.ok h2 st1 (Zz _)⟩
def Zev(P:bq)(w:bG)(K:aj)(a:ax)(tab:List (Int×Int)):Prop:=(a == dh)=ai/\∃f:Int->Option ao,(∀h:bJ,K.In h->h.MapOf (gb P w) a f)/\∀k,(tab.lookup k=ac->f k=ac)/\∀j,tab.lookup k=aa j->∃t,f k=aa (.int j t)
def VS{o:Expr}{io:E}{apos cpos:dZ}(ho:CE X xw C o io)(ha:CA X xw C [e] [i])
  (hbase:ku o "append" X.env (bZ o X.env)=bZ o X.env:=by rfl)
  (hfew:((cK cpos (aC [e] X.env)).all (λx=>!x.1)&&(backToKw cpos (lT [] X.env)).all (λx=>x.1.isSome)
   && ae (([e]:List Expr).length+([]:List kZ).length+(if([]:List kZ).isEmpty then 0 else 1)<30))=ag:=by rfl)
  (hline:(apos.endLine == cpos.line)=ag:=by rfl)(hs:aC [e] X.env=(ai,bZ e X.env)::aC [] X.env:=by rfl)(hplain:(cK cpos (aC [] X.env)).any (·.1)=ai:=by rfl) :
  CE X xw C (.Call (.Attribute o "append" apos) [e] [] cpos) (.mt .append io [i]):=
 PE.imp (GQ cW gY gZ VQ ho ha hbase hfew hline hs hplain) λσ H Q ⟨ρ,l,S,st,lr,h⟩=>by
  have h':End X.K xw Rep ρ H Q ((ev C io l S).bind λx S=>if Ev.UQ S x=ag then(evs C [i] l S).bind λxs S=>Ev.WU .append x xs S else .no):=h
  refine⟨ρ,l,S,st,lr,h'.bind λx S1 ρ1 H1 v f1 st1 r1 h1=>?_⟩
  obtain⟨hl,h1⟩:=h1.guard;cases x with
  |loc n=>
   obtain⟨p,rfl,hp⟩:=r1.loc';obtain⟨ds,hds⟩:=bI.mp (show(Ev.Zi S1 n).isSome=ag from hl)
   obtain⟨_,p',xs,q1,hx,_⟩:=st1.lst hds;rw[hp]at q1;cases q1;refine⟨.inl ⟨rfl,xs,SqL.of hx⟩,ρ1,l,S1,st1,lr.mono f1,h1.bind λys S2 ρ2 H2 vs f2 st2 r2 h2=>?_⟩
   match ys,r2,h2 with
   |[y],r2,h2=>
    obtain⟨w,rfl,rw'⟩:=Xg r2;obtain⟨zs,hz,h3⟩:=End.ob (show End X.K xw Rep ρ2 H2 Q ((Ev.ob (Ev.Zi S2 n) S2).bind λxs S=>if xs.length<Ev.lim then .ok .non (S.set n (.lst (xs++[y])))else .no)from h2)
    obtain⟨hlen,h4⟩:=h3.guard;obtain⟨sn,p2,zs',q2,hz2,rz⟩:=st2.lst hz;rw[f2.at hp]at q2;cases q2;refine⟨p,zs',w,rfl,rfl,hz2,by rw[rz.length,<-WV];exact hlen,?_⟩
    exact h4 ρ2 _ .non (Y4 hz2) (st2.wr (f2.at hp) sn hz2 (rz.append (Rq.cons rw' Rq.nil))) YF
   |[],r2,h2=>exact False.elim h2
   |_::_::_,r2,h2=>exact False.elim h2
  |_=>exact T7 hl (by simp[Ev.UQ])
def Go:CE X xw C (.Dict [] [] pos) .dnew:=PE.imp ju λσ H Q ⟨ρ,l,S,st,lr,h⟩=>λp hp=>
 (show End X.K xw Rep ρ H Q (.ok (.loc S.length) (S++[.dt []]))from h) (ρ++[p]) _ _ (Xl hp) (st.new hp ⟨[],Zq,.nil⟩) (Wx (by rw[<-st.len];simp))
end
def ZM(K:aj)(xw:Nat->Hp->Prop)(ρ:List ax)(H:Hp)(D:Ends):R Fl->Prop
 |.ok (.nx l) S=>∀ρ' H' σ',Fut ρ H ρ' H'->St3 K ρ' S H'->LocR ρ' H' l σ'->D.nx σ' H'
 |.ok (.brk l) S=>∀ρ' H' σ',Fut ρ H ρ' H'->St3 K ρ' S H'->LocR ρ' H' l σ'->D.bk σ' H'
 |.ok (.cnt l) S=>∀ρ' H' σ',Fut ρ H ρ' H'->St3 K ρ' S H'->LocR ρ' H' l σ'->D.ct σ' H'
 |.ok (.ret d) S=>∀ρ' H' v,Fut ρ H ρ' H'->St3 K ρ' S H'->Rep ρ' H' d v->D.rt v H'
 |.ex c S=>∀ρ' H',Fut ρ H ρ' H'->St3 K ρ' S H'->xw c H'
 |.no=>False
section
variable{K:aj}{xw:Nat->Hp->Prop}{ρ ρ':List ax}{H H':Hp}{α β:Type}{rep:List ax->Hp->α->β->Prop}{D:Ends}
def ZM.mono(f:Fut ρ H ρ' H')(h:ZM K xw ρ H D r):ZM K xw ρ' H' D r:=by
 cases r with
 |ok fl S=>
  cases fl with|nx l=>exact λρ2 H2 σ g=>h ρ2 H2 σ (f.trans g)|brk l=>exact λρ2 H2 σ g=>h ρ2 H2 σ (f.trans g)|cnt l=>exact λρ2 H2 σ g=>h ρ2 H2 σ (f.trans g)|ret d=>exact λρ2 H2 v g=>h ρ2 H2 v (f.trans g)
 |ex c S=>exact λρ2 H2 g=>h ρ2 H2 (f.trans g)
 |no=>exact h
theorem ZM.bind{Q1:β->Hp->Prop}(h:ZM K xw ρ H D (r.bind f))
  (k:∀d S ρ1 H1 v,Fut ρ H ρ1 H1->St3 K ρ1 S H1->rep ρ1 H1 d v->ZM K xw ρ1 H1 D (f d S)->Q1 v H1):End K xw rep ρ H Q1 r:=by
 cases r with|ok d S=>exact λρ1 H1 v g st r=>k d S ρ1 H1 v g st r (ZM.mono g h)|ex c S=>exact h|no=>exact h
theorem ZM.ob(h:ZM K xw ρ H D ((Ev.ob o S).bind f)):∃a,o=aa a/\ZM K xw ρ H D (f a S):=by
 cases o with|none=>exact h.elim|some a=>exact⟨a,rfl,h⟩
theorem ZM.nx(h:ZM K xw ρ H D (.ok (.nx l) S))(st:St3 K ρ S H)(lr:LocR ρ H l σ):D.nx σ H:=h ρ H σ (Fut.refl ρ H) st lr
end
section
variable(X:Cx)(xw:Nat->Hp->Prop)
def tS3(f:Lc->Zb->R Fl):TS:=λD σ H=>∃ρ l S,St3 X.K ρ S H/\LocR ρ H l σ/\ZM X.K xw ρ H D (f l S)
variable(C:Calls)
def CS(st:de)(s:Sm):Prop:=PS X st (tS3 X xw (run C s))
def CSs(st:List de)(s:List Sm):Prop:=PSs X st (tS3 X xw (runs C s))
def tG3(t:List Nat):TG:=λv σ H Q=>∃ρ l S d l',St3 X.K ρ S H/\LocR ρ H l σ/\Rep ρ H d v/\Ev.assign t d S l=aa l'/\∀σ',LocR ρ H l' σ'->Q σ' H
def CG(tg:Expr)(t:List Nat):Prop:=PG X tg (tG3 X t)
def ZeS(t:List Nat):TGs:=λvs σ H Q=>∃ρ l ds l',LocR ρ H l σ/\Rq ρ H ds vs/\Ev.fill t ds l=aa l'/\∀σ',LocR ρ H l' σ'->Q σ' H
def CGs(tgs:List Expr)(t:List Nat):Prop:=PGs X tgs (ZeS t)
end
def PS.imp(h:PS X e t)(k:∀D σ H,t' D σ H->t D σ H):PS X e t':=λpq s σ H D I q=>h pq s σ H D I (k D σ H q)
def PSs.imp(h:PSs X e t)(k:∀D σ H,t' D σ H->t D σ H):PSs X e t':=λpq s σ H D I q=>h pq s σ H D I (k D σ H q)
def PG.imp(h:PG X e t)(k:∀v σ H Q,t' v σ H Q->t v σ H Q):PG X e t':=λpq s σ H v u Q I r q=>h pq s σ H v u Q I r (k v σ H Q q)
def PGs.imp(h:PGs X e t)(k:∀v σ H Q,t' v σ H Q->t v σ H Q):PGs X e t':=λpq s σ H v u Q I r q=>h pq s σ H v u Q I r (k v σ H Q q)
section
variable{X:Cx}{xw:Nat->Hp->Prop}{C:Calls}{e a b c:Expr}{i j k:E}{pos p p' p2:dZ}{s0:de}{ss:List de}{m0:Sm}{ms ms':List Sm}
def yq:CSs X xw C [] []:=PSs.imp J9 λD σ H ⟨ρ,l,S,st,lr,h⟩=>ZM.nx h st lr
def JU(h1:CS X xw C s0 m0)(h2:CSs X xw C ss ms):CSs X xw C (s0::ss) (m0::ms):=PSs.imp (YN h1 h2) λD σ H ⟨ρ,l,S,st,lr,h⟩=>by
 refine⟨ρ,l,S,st,lr,?_⟩;have h':ZM X.K xw ρ H D ((run C m0 l S).bind λf S=>match f with | .nx σ=>runs C ms σ S | f=>.ok f S):=h
 cases q:run C m0 l S with
 |no=>rw[q]at h';exact h'
 |ex c S1=>rw[q]at h';exact h'
 |ok fl S1=>
  rw[q]at h';cases fl with|nx l1=>exact λρ1 H1 σ1 f1 st1 lr1=>⟨ρ1,l1,S1,st1,lr1,ZM.mono f1 h'⟩|brk l1=>exact h'|cnt l1=>exact h'|ret d=>exact h'
def yS(he:CE X xw C e i):CS X xw C (.Return (aa e) pos) (.ret i):=PS.imp (UM he) λD σ H ⟨ρ,l,S,st,lr,h⟩=>
 ⟨ρ,l,S,st,lr,ZM.bind (show ZM X.K xw ρ H D ((ev C i l S).bind λx S=>.ok (.ret x) S)from h) λx S1 ρ1 H1 v f1 st1 r1 h1=>h1 ρ1 H1 v (Fut.refl _ _) st1 r1⟩
def Ge(he:CE X xw C e i)(hs:eE e ac pos.line X.env=cR ai:=by rfl):CS X xw C (.Expr e pos) (.ex i):=PS.imp (yY he hs) λD σ H ⟨ρ,l,S,st,lr,h⟩=>
 ⟨ρ,l,S,st,lr,ZM.bind (show ZM X.K xw ρ H D ((ev C i l S).bind λ_ S=>.ok (.nx l) S)from h) λx S1 ρ1 H1 v f1 st1 r1 h1=>ZM.nx h1 st1 (lr.mono f1)⟩
def qG{sa sb:List de}(hc:CT X xw C c k)(ha:CSs X xw C sa ms)(hb:CSs X xw C sb ms'):CS X xw C (.If c sa sb pos) (.ite k ms ms'):=PS.imp (qB hc ha hb) λD σ H ⟨ρ,l,S,st,lr,h⟩=>
 ⟨ρ,l,S,st,lr,ZM.bind (show ZM X.K xw ρ H D ((tst C k l S).bind λc S=>if c then runs C ms l S else runs C ms' l S)from h) λx S1 ρ1 H1 v f1 st1 r1 h1=>by
  have e1:x=v:=r1;subst e1;cases x with
  |true=>exact⟨ρ1,l,S1,st1,lr.mono f1,h1⟩
  |false=>exact⟨ρ1,l,S1,st1,lr.mono f1,h1⟩⟩
def Gh{n:Nat}{x:aZ}(hN:X.N.Nodup)(hi:X.N[n]? = aa x:=by rfl)(hx:L2.Loc X.env.scope x:=by first | exact kK rfl | exact gW rfl)(hf:X.fn x=ag\/X.env.scope.names.lookup x=aa .local:=by first | exact .inl rfl | exact .inr rfl):CG X (.Name x pos) [n]:=
 PG.imp (wD hN hi hx hf) λv σ H Q ⟨ρ,l,S,d,l',st,lr,r,ha,q⟩=>by
  have e:l.set n (aa d)=l':=af ha;exact q _ (by rw[<-e];exact lr.set n r)
def Jx:CGs X [] []:=PGs.imp ZaY λvs σ H Q ⟨ρ,l,ds,l',lr,r,hf,q⟩=>by
 cases ds with
 |nil=>
  unfold Rq at r;cases hf;exact⟨r,q σ lr⟩
 |cons _ _=>cases hf
def U7{tgs:List Expr}{n:Nat}{t:List Nat}{x:aZ}(hN:X.N.Nodup)(h2:CGs X tgs t)(hi:X.N[n]? = aa x:=by rfl)(hx:L2.Loc X.env.scope x:=by first | exact kK rfl | exact gW rfl)(hf:X.fn x=ag\/X.env.scope.names.lookup x=aa .local:=by first | exact .inl rfl | exact .inr rfl)
  (hs:(cr (.Name x pos::tgs) X.env).map (·.2)=gj (.Name x pos) X.env::(cr tgs X.env).map (·.2):=by rfl):CGs X (.Name x pos::tgs) (n::t):=
 PGs.imp (uW (wD hN hi hx hf) h2 hs) λvs σ H Q ⟨ρ,l,ds,l',lr,r,hf,q⟩=>by
  cases ds with
  |nil=>cases hf
  |cons d ds=>
   unfold Rq at r;obtain⟨v,ws,rfl,r1,r2⟩:=r;exact⟨v,ws,rfl,ρ,l.set n (aa d),ds,l',lr.set n r1,r2,hf,q⟩
theorem UD:∀{t:List Nat}{ds:List D}{l l':Lc},Ev.fill t ds l=aa l'->ds.length=t.length
 |[],[],_,_,_=>rfl
 |[],_::_,_,_,h=>by cases h
 |_::_,[],_,_,h=>by cases h
 |n::t,d::ds,l,l',h=>by rw[aR,aR,UD (t:=t) (ds:=ds) h]
theorem QU{E:ao->aw->Prop}(hne:t≠it):∀(n i:Nat)(s:aw)(Q:List ao->aw->Prop),s.heap.IsListIter it t i->s.heap.IsList t items->i+n<=items.size->
  (∀h',bJ.IsListIter h' it t (i+n)->eC it s.heap h'->Q ((items.toList.drop i).take n) { s with heap:=h' })->aT (bc prog w) A (draw (.ref it) n) Q E s
 |0,i,s,Q,hit,_,_,hQ=>by
  show aT _ _ (cR []) Q E s;exact aF (by simpa using hQ s.heap hit (eC.refl ..))
 |n+1,i,s,Q,hit,ht,hle,hQ=>by
  have hlt:i<items.size:=by omega
  show aT _ _ (kA (.ref it) >>= _) Q E s;refine ak (iz hit ht (x:=items[i]) (by simp[hlt]) λh₁ hit₁ hs₁=>?_)
  refine ak (cm (QU hne n (i+1) _ _ hit₁ (ht.extBut hs₁.extBut hne) (by omega) λh₂ hit₂ hs₂=>aF ?_))
  have hd:items.toList.drop i=items[i]::items.toList.drop (i+1):=by simp[dD,hlt]
  have:=hQ h₂ (by rw[show i+(n+1)=i+1+n by omega];exact hit₂) (hs₁.trans hs₂)
  rw[hd,List.take_succ_cons]at this;exact this
def GO{E:ao->aw->Prop}{x1}{Q:Unit->aw->Prop}(hh:A.handled=ac)(ht:s.heap.IsList t items)
  (hn:(cr elts env).length=items.size)(hstar:(cr elts env).findIdx? (·.1)=ac)
  (h:∀h',fN s.heap.objs.size s.heap h'->aT (bc prog w) A (assignInOrder ((cr elts env).map (·.2)) items.toList) Q E { s with heap:=h' }) :
  aT (bc prog w) A (gj (.Tuple elts x1 pos) env (.ref t)) Q E s:=by
 rw[assign_Tuple];refine ak (gV ?_);have hlt:t≠s.heap.objs.size:=by obtain⟨o,ho,_⟩:=ht;exact br (aJ ho)
 unfold unpack;rw[hn,hstar];refine ak (cm ?_);unfold unpackItems;refine ak ?_;unfold notIterableAtAll;refine ak (wpAny_specialOf ht.typeIs slot_list_iter.lookup ?_);refine aF ?_;simp only[ck,if_false];refine ak (cm (fm ht ?_));refine ak (cm (QU hlt items.size 0 _ _ ⟨_,aN _ rfl,rfl,rfl⟩ (ht.push _) (by omega) λh₁ hit₁ hs₁=>?_))
 have hall:List.take items.size (lI 0 items.toList)=items.toList:=by
  rw[iY];exact fo (by simp)
 rw[hall];rw[T8 (by simp)]
 have ht₁:h₁.IsList t items:=(ht.push _).extBut hs₁.extBut hlt;refine ak (cm (iN hh hit₁ ht₁ (by simp) λh₂ he₂=>?_))
 simp only[Option.isSome_none,ck,if_false];exact aF (h h₂ λb o hb e=>he₂ b o hb (hs₁.extBut b o hb (ar _ e)))
def gTL(K:aj)(n:Nat)(t:TGs):TG:=λv σ H Q=>∃a xs,v=.ref a/\(SqT K H a xs\/H a=aa (.lst xs))/\xs.length=n/\t xs σ H Q
def Zex{X:Cx}{pos:dZ}{es:List Expr}{k:Nat}{t:TGs}{n:Nat}(hc:X.calm=ag)(h:PGs X es t)
  (hn:(cr es X.env).length=n:=by rfl)(hst:(cr es X.env).findIdx? (·.1)=ac:=by rfl):PG X (.Tuple es k pos) (gTL X.K n t):=by
 intro pq s σ H v u Q I r hw;obtain⟨a,xs,e1,hq | hq,hl,hw⟩:=hw
 ·exact Zcp hc h hn hst pq s σ H v u Q I r ⟨a,xs,e1,hq,hl,hw⟩
 ·subst e1
  cases r;obtain⟨its,rv,pl,hz⟩:=I.list (SqL.of hq);refine GO (I.ok.hd hc) pl.isList (by simp[hn,<-hl,rv.length]) hst λh' hx=>?_
  have I1:Inv X pq σ H { s with heap:=h' }:=I.kept (t':=s.toks) λb o e=>hx b o (br (aJ e)) e
  exact h pq _ σ H xs _ Q I1 (by simpa using rv) hw
def zZ{tgs:List Expr}{q2:Nat}{n m:Nat}{r:List Nat}(hc:X.calm=ag)(h:CGs X tgs (n::m::r))(hn:(cr tgs X.env).length=(n::m::r).length:=by rfl)(hst:(cr tgs X.env).findIdx? (·.1)=ac:=by rfl):CG X (.Tuple tgs q2 pos) (n::m::r):=
 PG.imp (Zex hc h hn hst) λv σ H Q ⟨ρ,l,S,d,l',st,lr,rd,ha,q⟩=>by
  cases d with
  |tup ds=>
   have hf:Ev.fill (n::m::r) ds l=aa l':=ha;obtain⟨p,xs,rfl,hp,rs⟩:=rd.tup';exact⟨p,xs,rfl,.inl (SqT.of hp),by rw[rs.length];exact UD hf,ρ,l,ds,l',lr,rs,hf,q⟩
  |loc k=>
   have ha':(match Ev.Zi S k with
    |some xs=>Ev.fill (n::m::r) xs l
    |none=>ac)=aa l':=ha
   cases e1:Ev.Zi S k with
   |none=>rw[e1]at ha';cases ha'
   |some ds=>
    rw[e1]at ha';have hf:Ev.fill (n::m::r) ds l=aa l':=ha';obtain⟨_,p,xs,q1,hp,r1⟩:=st.lst e1;obtain⟨p',rfl,t1⟩:=rd.loc';rw[q1]at t1;cases t1;exact⟨p,xs,rfl,.inr hp,by rw[r1.length];exact UD hf,ρ,l,ds,l',lr,r1,hf,q⟩
  |_=>cases ha
def ya{tg:Expr}{t:List Nat}(he:CE X xw C e i)(hg:CG X tg t)(hs:km [tg] e pos.line X.env=cR ai:=by rfl)(hw:kn [tg] e X.env=cR ac:=by rfl)
  (h1:(cr [tg] X.env).map (·.2)=[gj tg X.env]:=by rfl):CS X xw C (.Assign [tg] e pos) (.asg t i):=PS.imp (jM he hg hs hw h1) λD σ H ⟨ρ,l,S,st,lr,h⟩=>
 ⟨ρ,l,S,st,lr,ZM.bind (show ZM X.K xw ρ H D ((ev C i l S).bind λx S=>(Ev.ob (Ev.assign t x S l) S).bind λσ S=>.ok (.nx σ) S)from h) λx S1 ρ1 H1 v f1 st1 r1 h1=>by
  obtain⟨l',hl',h2⟩:=ZM.ob h1;exact⟨ρ1,l,S1,x,l',st1,lr.mono f1,r1,hl',λσ' lr'=>ZM.nx h2 st1 lr'⟩⟩
def zX{o ix:Expr}{io ii:E}(ho:CE X xw C o io)(hi:CE X xw C ix ii)(he:CE X xw C e i)
  (ha:∀v,gj (.Subscript o ix p) X.env v=(do
   let ov <-gN [v] (bZ o X.env)
   let iv <-gN [v,ov] (bZ ix X.env)
   kR p
   gN [v,ov,iv] (setItem ov iv v)
   release [v,ov,iv] []):=by intro _;rfl)(hs:km [.Subscript o ix p] e pos.line X.env=cR ai:=by rfl)(hw:kn [.Subscript o ix p] e X.env=cR ac:=by rfl)
  (h1:(cr [.Subscript o ix p] X.env).map (·.2)=[gj (.Subscript o ix p) X.env]:=by rfl):CS X xw C (.Assign [.Subscript o ix p] e pos) (.put io ii i):=
 PS.imp (jM he (Zda ho hi (jo (X:=X)) ha) hs hw h1) λD σ H ⟨ρ,l,S,st,lr,h⟩=>
 ⟨ρ,l,S,st,lr,ZM.bind (show ZM X.K xw ρ H D ((ev C i l S).bind λv S=>(ev C io l S).bind λx S=>(ev C ii l S).bind λy S=>(Ev.UK x y v S).bind λ_ S=>.ok (.nx l) S)from h) λx S1 ρ1 H1 v f1 st1 r1 h1=>
  ⟨ρ1,l,S1,st1,lr.mono f1,h1.bind λy S2 ρ2 H2 u f2 st2 r2 h2=>⟨ρ2,l,S2,st2,(lr.mono f1).mono f2,h2.bind λz S3 ρ3 H3 w f3 st3 r3 h3=>by
   cases y with
   |loc n=>cases z with
    |int m=>
     obtain⟨pa,rfl,hp⟩:=(r2.mono f3).loc';have h4:ZM X.K xw ρ3 H3 D ((match S3[n]? with
      |some (.lst xs)=>(Ev.ob (Ev.ixN xs.length m) S3).bind λj S=>.ok () (S.set n (.lst (xs.set j x)))
      |_=>.no).bind λ_ S=>.ok (.nx l) S):=h3
     cases q:S3[n]? with
     |none=>rw[q]at h4;exact False.elim h4
     |some ob=>
      rw[q]at h4;cases ob with
      |lst xs=>
       have h5:ZM X.K xw ρ3 H3 D (((Ev.ob (Ev.ixN xs.length m) S3).bind λj S=>R.ok () (S.set n (.lst (xs.set j x)))).bind λ_ S=>.ok (.nx l) S):=h4
       cases hj:Ev.ixN xs.length m with
       |none=>rw[hj]at h5;exact False.elim h5
       |some jj=>
        rw[hj]at h5;obtain⟨pb,hp',ys,hy,ry⟩:=st3.at q;rw[hp]at hp';cases hp';refine⟨pa,ys,m,jj,rfl,r3.int',hy,by rw[ry.length];exact hj,?_⟩
        have rx:=(r1.mono f2).mono f3;exact h5 ρ3 _ σ (Y4 hy) (st3.wr hp q hy (Rq.set rx jj ry)) ((((lr.mono f1).mono f2).mono f3).mono (Y4 hy))
      |_=>exact False.elim h4
    |_=>exact False.elim h3
   |_=>exact False.elim h3⟩⟩⟩
end
structure WRel(K:aj)(ρ:List ax)(H:Hp)(w:Walk)(J:It):Prop where
 go:∀(i:Nat) ρ' S' H',Fut ρ H ρ' H'->St3 K ρ' S' H'->w.still S'=ag->i<w.items.length->J.go i H'/\∀x H'',J.yld i H' x H''->Fut ρ' H' ρ' H''/\St3 K ρ' S' H''/\∀d,w.items[i]? = aa d->Rep ρ' H'' d x
 stop:∀ρ' S' H',Fut ρ H ρ' H'->St3 K ρ' S' H'->w.still S'=ag->J.stop w.items.length H'
section
variable(X:Cx)(xw:Nat->Hp->Prop)
def tW3(f:Lc->Zb->R Walk):TI:=λσ H Q=>∃ρ l S,St3 X.K ρ S H/\LocR ρ H l σ/\End X.K xw (WRel X.K) ρ H Q (f l S)
def CW(C:Calls)(tg it:Expr)(w:Ev.W):Prop:=PI X tg it (tW3 X xw (evw C w))
end
def PI.imp(h:PI X tg it t)(k:∀σ H Q,t' σ H Q->t σ H Q):PI X tg it t':=λpq s σ H R I q=>h pq s σ H R I (k σ H R q)
section
variable{X:Cx}{xw:Nat->Hp->Prop}{C:Calls}{e a b c tg it:Expr}{i j k:E}{pos p p' p2:dZ}
def ZeT(K:aj)(tl:TE):TI:=λσ H R=>tl σ H λx H1=>∃a,x=.ref a/\(((∃xs,SqL K H1 a xs)/\R (Itl K a) H1)\/((∃xs,SqT K H1 a xs)/\R (Itt K a) H1))
def Zc3(hl:PE X l tl):PI X tg l (ZeT X.K tl):=by
 intro pq s σ H R I h;refine thn (hl pq s σ H _ I h) λv s1 ⟨x,H1,I1,r1,a,e,q⟩=>?_
 subst e;cases r1;rcases q with⟨⟨xs,hq⟩,q⟩ | ⟨⟨xs,hq⟩,q⟩
 ·obtain⟨its,rv,p,hz⟩:=I1.list hq
  refine fm p.isList ?_;refine⟨s1.heap.objs.size,[s1.heap.objs.size],_,_,H1,rfl,I1.kept (t':=s1.toks) λb o e=>ar _ e,wY a _,⟨_,aN _ rfl,rfl,rfl⟩,λb hb=>?_,q⟩
  have e:b=s1.heap.objs.size:=by simpa using hb
  subst e;exact I1.fpOk (aD _) (I1.hok.fresh (aD _))
 ·obtain⟨its,rv,p,hz⟩:=I1.tuple hq
  refine eY (show s1.heap.IsTuple a its.toArray from p) ?_
  refine⟨s1.heap.objs.size,[s1.heap.objs.size],_,_,H1,rfl,I1.kept (t':=s1.toks) λb o e=>ar _ e,zN a _,⟨_,aN _ rfl,rfl,rfl⟩,λb hb=>?_,q⟩
  have e:b=s1.heap.objs.size:=by simpa using hb
  subst e;exact I1.fpOk (aD _) (I1.hok.fresh (aD _))
def uQ{K:aj}{ρ:List ax}{H:Hp}{ds:List D}{a:ax}{xs:List V}(hp:H a=aa (.tup xs))(r:Rq ρ H ds xs):WRel K ρ H ⟨ds,[]⟩ (Itt K a) where
 go:=λi ρ' S' H' f st _ hi=>by
  have hi':i<ds.length:=hi;obtain⟨v,g,_⟩:=(r.mono f).get (ah hi');refine⟨⟨xs,v,SqT.of (f.tup a xs hp),g⟩,λx H'' y=>?_⟩
  obtain⟨rfl,y⟩:=y;refine⟨Fut.refl _ _,st,λd hd=>?_⟩
  obtain⟨v',g',r'⟩:=(r.mono f).get hd;have:=y xs (SqT.of (f.tup a xs hp));rw[g']at this;cases this;exact r'
 stop:=λρ' S' H' f st _=>⟨xs,SqT.of (f.tup a xs hp),by show xs.length<=ds.length;rw[r.length];exact aD _⟩
def jv{K:aj}{ρ:List ax}{H:Hp}{ds:List D}{a:ax}{n:Nat}(hp:ρ[n]? = aa a):WRel K ρ H ⟨ds,[(n,ds)]⟩ (Itl K a) where
 go:=λi ρ' S' H' f st hs hi=>by
  have hn:S'[n]? = aa (.lst ds):=by simpa[Walk.still]using hs
  obtain⟨a',ha,xs,hx,r⟩:=st.at hn;rw[f.at hp]at ha;cases ha;have hi':i<ds.length:=hi;obtain⟨v,g,_⟩:=r.get (ah hi');refine⟨⟨xs,v,SqL.of hx,g⟩,λx H'' y=>?_⟩
  obtain⟨rfl,y⟩:=y;refine⟨Fut.refl _ _,st,λd hd=>?_⟩
  obtain⟨v',g',r'⟩:=r.get hd;have:=y xs (SqL.of hx);rw[g']at this;cases this;exact r'
 stop:=λρ' S' H' f st hs=>by
  have hn:S'[n]? = aa (.lst ds):=by simpa[Walk.still]using hs
  obtain⟨a',ha,xs,hx,r⟩:=st.at hn;rw[f.at hp]at ha;cases ha;exact⟨xs,SqL.of hx,by show xs.length<=ds.length;rw[r.length];exact aD _⟩
def zr{lo:Int}{n i:Nat}(h:i<n):(Ev.ZB lo n)[i]? = aa (.int (lo+i)):=by
 unfold Ev.ZB;rw[bg,fZ h];rfl
def WD(lo:Int)(n:Nat):(Ev.ZB lo n).length=n:=by unfold Ev.ZB;rw[aH,bL]
def Zaa{K:aj}{ρ:List ax}{H:Hp}{lo:Int}{n:Nat}:WRel K ρ H ⟨Ev.ZB lo n,[]⟩ (Itr lo n) where
 go:=λi ρ' S' H' f st _ hi=>by
  have hi':i<n:=by simpa[WD]using hi
  refine⟨hi',λx H'' y=>?_⟩
  obtain⟨rfl,rfl⟩:=y;refine⟨Fut.refl _ _,st,λd hd=>?_⟩
  have hd':(Ev.ZB lo n)[i]? = aa d:=hd;rw[zr hi']at hd';cases hd';exact Zp _
 stop:=λρ' S' H' f st _=>by
  show n<=(Ev.ZB lo n).length;rw[WD];exact aD _
def qp(he:CE X xw C e i):CW X xw C tg e (.of i):=PI.imp (Zc3 he) λσ H Q ⟨ρ,l,S,st,lr,h⟩=>by
 refine⟨ρ,l,S,st,lr,End.bind (show End X.K xw (WRel X.K) ρ H Q ((ev C i l S).bind λx S=>Ev.ob (Ev.Ya S x) S)from h) λx S1 ρ1 H1 v f1 st1 r1 h1=>?_⟩
 cases x with
 |tup ds=>
  obtain⟨a,xs,rfl,hp,r⟩:=r1.tup';exact⟨a,rfl,.inr ⟨⟨xs,SqT.of hp⟩,End.ok (rep:=WRel X.K) h1 st1 (uQ hp r)⟩⟩
 |loc n=>
  obtain⟨a,rfl,hp⟩:=r1.loc';have h':End X.K xw (WRel X.K) ρ1 H1 Q (Ev.ob (match S1[n]? with
   |some (.lst xs)=>aa ⟨xs,[(n,xs)]⟩
   |_=>ac) S1):=h1
  cases q:S1[n]? with
  |none=>rw[q]at h';exact False.elim h'
  |some o=>
   rw[q]at h';cases o with
   |lst ds=>
    obtain⟨a',ha,xs,hx,r⟩:=st1.at q;rw[hp]at ha;cases ha;exact⟨a,rfl,.inl ⟨⟨xs,SqL.of hx⟩,End.ok (rep:=WRel X.K) h' st1 (jv hp)⟩⟩
   |_=>exact False.elim h'
 |_=>exact False.elim h1
def JJ(hm:X.mg "range" = ac)(ha:CA X xw C [a] [i])(hg:Gl X "range":=by rfl)(hs:aC [a] X.env=[(ai,bZ a X.env)]:=by rfl):CW X xw C tg (.Call (.Name "range" p) [a] [] pos) (.rng1 i):=
 PI.imp (vT hg hm ha hs) λσ H Q ⟨ρ,l,S,st,lr,h⟩=>by
  refine⟨ρ,l,S,st,lr,?_⟩;show End X.K xw Rq ρ H _ ((ev C i l S).bind λx S=>(Ev.R.ok [] S).bind λxs S=>.ok (x::xs) S)
  have h':End X.K xw (WRel X.K) ρ H Q ((ev C i l S).bind λx S=>match x with
   |.int i=>if Ev.W8 i then .ok ⟨Ev.ZB 0 i.toNat,[]⟩ S else .no
   |_=>.no):=h
  cases q:ev C i l S with
  |no=>rw[q]at h';exact h'
  |ex c S1=>rw[q]at h';exact h'
  |ok x S1=>
   rw[q]at h';intro ρ1 H1 vs f1 st1 r1;obtain⟨v,rfl,r⟩:=Xg r1;cases x with
   |int n=>
    obtain⟨hs,h2⟩:=End.guard (End.mono f1 (show End X.K xw (WRel X.K) ρ H Q (if Ev.W8 n=ag then .ok ⟨Ev.ZB 0 n.toNat,[]⟩ S1 else .no)from h'))
    have hs':=T6 (show ae (-(2^62)<=n/\n<2^62)=ag from hs)
    exact⟨n,by rw[r.int'],hs'.1,hs'.2,End.ok (rep:=WRel X.K) h2 st1 Zaa⟩
   |_=>exact False.elim h'
def yu{body:List de}{ms:List Sm}{w:Ev.W}{t:List Nat}(hp:lx (bc X.prog X.w) X.A X.env X.xe)(hc:X.calm=ag)(hw:CW X xw C tg it w)(hg:CG X tg t)(hb:CSs X xw C body ms)
  (hs:∀x,cU it X.env x=cR x:=by intro _;rfl):CS X xw C (.For tg it body [] pos) (.forr t w ms):=PS.imp (Zc2 hp hc hw hg hb hs) λD σ H ⟨ρ,l,S,st,lr,h⟩=>by
 have h':ZM X.K xw ρ H D ((evw C w l S).bind λw S=>Ev.Xk w (λx σ S=>(Ev.ob (Ev.assign t x S σ) S).bind λσ S=>runs C ms σ S) w.items l S):=h
 refine⟨ρ,l,S,st,lr,h'.bind λwk S1 ρ1 H1 J f1 st1 r1 h1=>?_⟩
 let B:Ev.D->Lc->Zb->R Fl:=λx σ S=>(Ev.ob (Ev.assign t x S σ) S).bind λσ S=>runs C ms σ S
 refine⟨λn m σ' H'=>m=wk.items.length-n/\n<=wk.items.length/\∃ρ' l' S',Fut ρ1 H1 ρ' H'/\St3 X.K ρ' S' H'/\LocR ρ' H' l' σ'/\ZM X.K xw ρ' H' D (Ev.Xk wk B (wk.items.drop n) l' S'),
  ⟨wk.items.length,rfl,fc _,ρ1,l,S1,Fut.refl _ _,st1,lr.mono f1,h1⟩,?_⟩
 rintro n m σ' H' ⟨rfl,hn,ρ',l',S',f',st',lr',e'⟩
 by_cases hlt:n<wk.items.length
 ·right
  have hd:wk.items.drop n=wk.items[n]::wk.items.drop (n+1):=dD hlt;rw[hd]at e';have e2:ZM X.K xw ρ' H' D (if wk.still S'=ag then(match B wk.items[n] l' S' with
   |.ok (.nx σ') S'=>Ev.Xk wk B (wk.items.drop (n+1)) σ' S'
   |.ok (.cnt σ') S'=>Ev.Xk wk B (wk.items.drop (n+1)) σ' S'
   |.ok (.brk σ') S'=>.ok (.nx σ') S'
   |.ok (.ret d) S'=>.ok (.ret d) S'
   |.ex c S'=>.ex c S'
   |.no=>.no)else .no):=e'
  by_cases hst:wk.still S'=ag
  ·rw[T9 hst]at e2
   obtain⟨go,yl⟩:=r1.go n ρ' S' H' f' st' hst hlt;refine⟨go,λσ2 H2=>∃ρ2 l2 S2,Fut ρ1 H1 ρ2 H2/\St3 X.K ρ2 S2 H2/\LocR ρ2 H2 l2 σ2/\ZM X.K xw ρ2 H2 D (Ev.Xk wk B (wk.items.drop (n+1)) l2 S2),λσ2 H2 ⟨ρ2,l2,S2,a1,a2,a3,a4⟩=>⟨wk.items.length-(n+1),by omega,rfl,hlt,ρ2,l2,S2,a1,a2,a3,a4⟩,λx H3 y=>?_⟩
   obtain⟨f3,st3,rp⟩:=yl x H3 y;have rx:=rp _ (ah hlt);cases ha:Ev.assign t wk.items[n] S' l' with
   |none=>
    have e3:B wk.items[n] l' S'=.no:=by show(Ev.ob (Ev.assign t wk.items[n] S' l') S').bind _=_;rw[ha];rfl
    rw[e3]at e2;exact False.elim e2
   |some l2=>
    have e3:B wk.items[n] l' S'=runs C ms l2 S':=by show(Ev.ob (Ev.assign t wk.items[n] S' l') S').bind _=_;rw[ha];rfl
    rw[e3]at e2;refine⟨ρ',l',S',wk.items[n],l2,st3,lr'.mono f3,rx,ha,λσ2 lr2=>⟨ρ',l2,S',st3,lr2,?_⟩⟩
    have e4:=ZM.mono f3 e2;have ff:=f'.trans f3;cases q:runs C ms l2 S' with
    |no=>rw[q]at e4;exact e4
    |ex c S2=>rw[q]at e4;exact e4
    |ok fl S2=>
     rw[q]at e4;cases fl with|nx l3=>exact λρ4 H4 σ4 f4 st4 lr4=>⟨ρ4,l3,S2,ff.trans f4,st4,lr4,ZM.mono f4 e4⟩|cnt l3=>exact λρ4 H4 σ4 f4 st4 lr4=>⟨ρ4,l3,S2,ff.trans f4,st4,lr4,ZM.mono f4 e4⟩|brk l3=>exact e4|ret d=>exact e4
  ·rw[T8 hst]at e2
   exact False.elim e2
 ·left
  have en:n=wk.items.length:=by omega
  subst en;rw[lJ]at e';have e2:ZM X.K xw ρ' H' D (if wk.still S'=ag then .ok (.nx l') S' else .no):=e'
  by_cases hst:wk.still S'=ag
  ·rw[T9 hst]at e2
   exact⟨r1.stop ρ' S' H' f' st' hst,ZM.nx e2 st' lr'⟩
  ·rw[T8 hst]at e2
   exact False.elim e2
end
end Sd
namespace Sd
open PySem PySem.Spec PyProof.Rows L2
noncomputable def wV(env:Env):List (aZ×dS)->List (aZ×ax)->List (aZ×ax)
 |[],acc=>acc
 |x::r,acc=>wV env r (if(x.2 == bu)=ag then(x.1,(env.cells.lookup x.1).getD 0)::acc else acc)
theorem US{env:Env}{f:aZ×dS->List (aZ×ax)->mf (ForInStep (List (aZ×ax)))}:∀(names:List (aZ×dS))(acc:List (aZ×ax)),
  (∀x∈names,∀c,f x c=cR (.yield (if(x.2 == bu)=ag then(x.1,(env.cells.lookup x.1).getD 0)::c else c)))->forIn names acc f=cR (wV env names acc)
 |[],acc,_=>rfl
 |x::r,acc,h=>by
  rw[iK,h x am,pure_bind];exact US r _ λy hy=>h y (al _ hy)
theorem zf :∀(names:List (aZ×dS))(acc:List (aZ×ax)),(wV env names acc).lookup x=aa c->acc.lookup x=aa c\/(∃y∈names,y.1=x/\y.2=.free/\c=(env.cells.lookup x).getD 0)
 |[],acc,h=>.inl h
 |y::r,acc,h=>by
  rcases zf r _ h with h | ⟨z,hz,e⟩
  ·by_cases hf:(y.2 == bu)=ag
   ·rw[T9 hf,bC]at h
    cases q:(x == y.1)with
    |true=>
     rw[q]at h;have e:x=y.1:=eq_of_beq q;exact .inr ⟨y,am,e.symm,eq_of_beq hf,by rw[e];exact(af h).symm⟩
    |false=>rw[q]at h;exact .inl h
   ·rw[T8 hf]at h;exact .inl h
  ·exact .inr ⟨z,al _ hz,e⟩
theorem GU :∀(names:List (aZ×dS))(acc:List (aZ×ax)),(acc.lookup x).isSome=ag->((wV env names acc).lookup x).isSome=ag
 |[],acc,h=>h
 |y::r,acc,h=>by
  refine GU r _ ?_;split
  ·rw[bC]
   cases(x == y.1)with|true=>rfl|false=>exact h
  ·exact h
theorem zg :∀(names:List (aZ×dS))(acc:List (aZ×ax)),(x,bu)∈names->((wV env names acc).lookup x).isSome=ag
 |[],acc,h=>by cases h
 |y::r,acc,h=>by
  rcases az.mp h with h | h
  ·subst h
   refine GU r _ ?_;rw[T9 (by rfl),bC,beq_self_eq_true]
   rfl
  ·exact zg r _ h
def WR{scope:c8}{env:Env}(h:∀y∈scope.names,y.2=.free->∃c,env.cells.lookup y.1=aa c) :
  ∃cl,fD scope env=cR cl/\(∀x c,cl.lookup x=aa c->env.cells.lookup x=aa c)/\∀x,(x,bu)∈scope.names->∃c,cl.lookup x=aa c:=by
 refine⟨wV env scope.names [],?_,λx c e=>?_,λx hx=>bI.mp (zg _ _ hx)⟩
 ·simp only[fD]
  rw[US (env:=env) scope.names [] (λx hx c=>by
   obtain⟨n,kind⟩:=x;by_cases hk:(kind == bu)=ag
   ·obtain⟨a,ha⟩:=h (n,kind) hx (eq_of_beq hk)
    have ha':env.cells.lookup n=aa a:=ha;simp only[hk,if_true,cellOf,ha',pure_bind,Option.getD_some]
   ·simp only[hk,if_false]
    rfl),pure_bind]
 ·rcases zf _ _ e with e | ⟨y,hy,e1,e2,e3⟩
  ·cases e
  ·obtain⟨a,ha⟩:=h y hy e2
   rw[e1]at ha;rw[e3,ha];rfl
noncomputable def cxC(X:Cx)(N:List aZ)(scope:c8)(cl:List (aZ×ax))(s:aw)(H:Hp)(fp:List ax):Cx:=
 { X with N:=N,s₀:=s,H₀:=H,env:=compEnvC scope cl s.heap.objs.size X.env,outer:=X.stack,ex:=fp,fn:=λ_=>ai,pn:=[],xe:=λ_ _=>False }
def PTs(X:Cx)(ifs:List Expr)(t:TT):Prop:=
 ∀(pq:List (ax×dP))(s:aw)(σ:L2.St)(H:Hp)(Q:Bool->Hp->Prop),Inv X pq σ H s->t σ H Q->
  aT (bc X.prog X.w) X.A (forIn ifs ag λc r=>if r=ag then do let ok <-isTrue c X.env (bZ c X.env);cR (fS ok)else cR (fS r)) (TP X pq σ Q) X.xe s
def ZaR :PTs X [] (λσ H Q=>Q ag H):=λpq s σ H Q I h=>wpAny_tests_nil ⟨H,I,h⟩
def ZaB(h:PT X c t):PTs X [c] t:=λpq s σ H Q I hq=>wpAny_tests_one (h pq s σ H Q I hq)
structure CompScope(sc:c8)(N0:List aZ)(scope:c8)(N:List aZ)(cap:List Nat)(nl:Nat):Prop where
 kind:scope.kind=.function
 nocell:∀y∈scope.names,y.2≠.cell
 names:∀y∈scope.names,y.2=.local->scope.names.lookup y.1=aa .local
 free:∀y∈scope.names,y.2=.free->sc.names.lookup y.1=aa .cell\/sc.names.lookup y.1=aa .free
 apart:∀y∈scope.names,y.2=.free->scope.names.lookup y.1≠aa .local
 len:N.length=nl+cap.length
 cap:∀p∈cap.zipIdx,N[nl+p.2]? = N0[p.1]?/\(N0[p.1]?).map (λx=>ae ((x,bu)∈scope.names))=aa ag
def CompScope.capt{sc:c8}{N0:List aZ}{scope:c8}{N:List aZ}{cap:List Nat}{nl:Nat}(h:CompScope sc N0 scope N cap nl)(i j:Nat)(e:cap[i]? = aa j):∃x,N[nl+i]? = aa x/\N0[j]? = aa x/\(x,bu)∈scope.names:=by
 have hm:(j,i)∈cap.zipIdx:=by
  rw[fT];exact e
 obtain⟨h1,h2⟩:=h.cap (j,i) hm;cases q:N0[j]? with
 |none=>rw[show N0[(j,i).1]? = ac from q]at h2;cases h2
 |some x=>
  rw[show N0[(j,i).1]? = aa x from q]at h1 h2
  exact⟨x,h1,rfl,T6 (af h2)⟩
noncomputable def Xc(cap:List Nat)(nl:Nat)(σ:L2.St):L2.St:=aq nl ac++cap.map λi=>(σ[i]?).join
section
variable{X:Cx}{pq:List (ax×dP)}{σ:L2.St}{H:Hp}{s:aw}
theorem Vi{scope:c8}{env:Env}:∀{names:List (aZ×dS)}{x:aZ},(names.map λ(n,k)=>if(k == bu&&env.scope.kind == .function&&env.kindOf n == aa .cell)then(n,g6)else(n,k)).lookup x=aa .cell\/
  (names.map λ(n,k)=>if(k == bu&&env.scope.kind == .function&&env.kindOf n == aa .cell)then(n,g6)else(n,k)).lookup x=aa .free->(∀y∈names,y.2≠.cell)->(x,bu)∈names
 |[],x,h,_=>by rcases h with h | h <;> cases h
 |(n,k)::r,x,h,hc=>by
  have ih:=@Vi scope env r x;have hk:k≠.cell:=hc (n,k) am;by_cases e:x=n
  ·subst e
   have hk2:k=.free:=by
    rcases h with h | h
    ·rw[aS]at h
     by_cases c:(k == bu&&env.scope.kind == .function&&env.kindOf x == aa .cell)=ag
     ·have:=(aB _ _).mp c
      exact eq_of_beq ((aB _ _).mp this.1).1
     ·simp only[T8 c,bC,beq_self_eq_true]at h
      exact T7 (af h) hk
    ·rw[aS]at h
     by_cases c:(k == bu&&env.scope.kind == .function&&env.kindOf x == aa .cell)=ag
     ·simp only[T9 c,bC,beq_self_eq_true]at h
      cases h
     ·simp only[T8 c,bC,beq_self_eq_true]at h
      exact af h
   rw[hk2];exact am
  ·have hb:(x == n)=ai:=beq_eq_false_iff_ne.mpr e
   refine al _ (ih ?_ λy hy=>hc y (al _ hy))
   rcases h with h | h
   ·left
    rw[aS]at h;by_cases c:(k == bu&&env.scope.kind == .function&&env.kindOf n == aa .cell)=ag
    ·simp only[T9 c,bC,hb]at h;exact h
    ·simp only[T8 c,bC,hb]at h;exact h
   ·right
    rw[aS]at h;by_cases c:(k == bu&&env.scope.kind == .function&&env.kindOf n == aa .cell)=ag
    ·simp only[T9 c,bC,hb]at h;exact h
    ·simp only[T8 c,bC,hb]at h;exact h
def qT{N:List aZ}{scope:c8}{cl:List (aZ×ax)}{fp:List ax}{cap:List Nat}{nl:Nat}{h1:bJ}{tk:Nat}(I:Inv X pq σ H s)(CS:CompScope X.env.scope X.N scope N cap nl)(hN:X.N.Nodup)
  (c1:∀x c,cl.lookup x=aa c->X.env.cells.lookup x=aa c)(c2:∀x,(x,bu)∈scope.names->∃c,cl.lookup x=aa c)
  (hf:∀b∈fp,VT X pq H b)(hb:∀b∈fp,∃o,s.heap.get? b=aa o)(hns:∃m,h1.Ns s.heap.objs.size m)(hk:∀b o,s.heap.get? b=aa o->h1.get? b=aa o) :
  Inv (cxC X N scope cl s H fp) [] (Xc cap nl σ) H { s with heap:=h1,toks:=tk }:=by
 have bne:∀b∈fp,b≠s.heap.objs.size:=λb hb' e=>by
  obtain⟨o,ho⟩:=hb b hb';exact T7 (aJ ho) (by rw[e];exact bw _)
 refine⟨⟨I.ok.mod,CS.kind,I.ok.glob,I.ok.blt,aD _,λx y c h1 h2=>I.ok.inj x y c (c1 x c h1) (c1 y c h2),λx hx=>c2 x (Vi (scope:=scope) (env:=X.env) hx CS.nocell),λx c h=>(by cases h),I.ok.hd,I.ok.frames,.inl rfl,
  λb hb'=>⟨bne b hb',λx c e=>(hf b hb').2.2.2.2.1 x c (c1 x c e)⟩,I.bs,bx I.ok.bsz I.sz,λb o e hb'=>?_,λb hb' hm=>?_,I.stack,I.stkFree⟩,
  rfl,I.bare,Un.kept hk,?_,λx c e=>?_,I.hok.fresh (aD _),λx c e=>I.freeC x c (c1 x c e),λp hp=>T7 hp (by simp[cxC]),I.hok.kept hk,?_⟩
 ·rcases(hf b hb').2.2.2.1 with z | z
  ·exact I.ok.noex b o e z
  ·exact T7 (aJ e) (Nat.not_lt.mpr (bx I.ok.bsz z))
 ·rcases az.mp (I.stkSub b hm)with e | e
  ·exact(hf b hb').2.1 e
  ·exact(hf b hb').2.2.1 e
 ·obtain⟨m1,hm1⟩:=hns
  refine⟨m1,hm1,λi x v e1 e2 e3=>?_⟩
  obtain⟨m,hm,hl⟩:=I.loc;have hi:nl<=i:=by
   by_cases hi:nl<=i
   ·exact hi
   ·have z:(Xc cap nl σ)[i]? = aa ac:=by
     unfold Xc;rw[aP (by simp;omega),bN,T9 (by omega)]
    rw[z]at e2;cases e2
  have e2':(cap.map λi=>(σ[i]?).join)[i-nl]? = aa (aa v):=by
   have:(Xc cap nl σ)[i]? = aa (aa v):=e2;unfold Xc at this
   rwa [bf (by simp;exact hi),cL]at this
  rw[bg]at e2';cases hj:cap[i-nl]? with
  |none=>rw[hj]at e2';cases e2'
  |some j=>
   rw[hj]at e2';have hv:σ[j]? = aa (aa v):=by
    have:(σ[j]?).join=aa v:=af e2';cases q:σ[j]? with
    |none=>rw[q]at this;cases this
    |some o=>rw[q]at this;cases o with|none=>cases this|some w=>cases this;rfl
   obtain⟨x',n1,n2,fr⟩:=CS.capt _ _ hj;have ex:x'=x:=by
    have:N[nl+(i-nl)]? = aa x:=by rw[show nl+(i-nl)=i by omega];exact e1
    rw[n1]at this;exact af this
   subst ex;have kd:=CS.free _ fr rfl;have vis:Vis X.env.scope x':=by
    rcases kd with z | z
    ·exact .inr (.inl z)
    ·exact .inr (.inr z)
   obtain⟨u,r,lk⟩:=hl j x' v n2 hv vis;refine⟨u,r,?_⟩;rcases lk with⟨k,_⟩ | ⟨k,c,ec,hc⟩
   ·have k':X.env.scope.names.lookup x'=aa .local:=k
    rcases kd with z | z <;> (rw[z]at k';cases k')
   ·obtain⟨c',ec'⟩:=c2 x' fr
    have ecc:c'=c:=by
     have:=c1 x' c' ec';rw[ec]at this;exact(af this).symm
    subst ecc;have vis2:Vis (relabel scope X.env) x':=e3;refine .inr ⟨?_,c',ec',?_⟩
    ·rcases vis2 with z | z | z
     ·have z':(scope.names.map λ(n,k)=>if(k == bu&&X.env.scope.kind == .function&&X.env.kindOf n == aa .cell)then(n,g6)else(n,k)).lookup x'=aa .local:=z
      exfalso
      have:∀(names:List (aZ×dS)),(∀y∈names,y.2=dS.local->y.1≠x')->(names.map λ(n,k)=>if(k == bu&&X.env.scope.kind == .function&&X.env.kindOf n == aa .cell)then(n,g6)else(n,k)).lookup x'≠aa .local:=by
       intro names
       induction names with
       |nil=>intro _ h;cases h
       |cons y r ih=>
        obtain⟨n,k⟩:=y;intro hy h;rw[aS]at h;by_cases e:x'=n
        ·subst e
         by_cases c:(k == bu&&X.env.scope.kind == .function&&X.env.kindOf x' == aa .cell)=ag
         ·simp only[T9 c,bC,beq_self_eq_true]at h;cases h
         ·simp only[T8 c,bC,beq_self_eq_true]at h
          exact hy (x',k) am (af h) rfl
        ·have hb:(x' == n)=ai:=beq_eq_false_iff_ne.mpr e
         refine ih (λy hy'=>hy y (al _ hy')) ?_
         by_cases c:(k == bu&&X.env.scope.kind == .function&&X.env.kindOf n == aa .cell)=ag
         ·simp only[T9 c,bC,hb]at h;exact h
         ·simp only[T8 c,bC,hb]at h;exact h
      refine this scope.names (λy hy hl e=>?_) z'
      have l1:=CS.names y hy hl;rw[e]at l1;exact CS.apart (x',.free) fr rfl l1
     ·exact .inl z
     ·exact .inr z
    ·obtain⟨o,ho,hd⟩:=hc
     exact⟨o,hk c' o ho,hd⟩
 ·obtain⟨v,o,ho,hd⟩:=I.cell x c (c1 x c e)
  exact⟨v,o,hk c o ho,hd⟩
 ·unfold Xc
  show _=N.length;rw[aW,cL,aH,CS.len]
end
abbrev TEm:=L2.St->Hp->(L2.St->Hp->Prop)->Prop
def um(X:Cx)(act:mf Fin->mf Fin)(te:TEm):Prop:=
 ∀(pq:List (ax×dP))(s:aw)(σ:L2.St)(H:Hp)(Q:L2.St->Hp->Prop)(k:mf Fin)(QF:Fin->aw->Prop)(EE:ao->aw->Prop),Inv X pq σ H s->te σ H Q->(∀s' σ' H',Inv X pq σ' H' s'->Q σ' H'->aT (bc X.prog X.w) X.A k QF EE s')->
  aT (bc X.prog X.w) X.A (act k) QF EE s
noncomputable def UZ(ipos:dZ)(tg:Expr)(ifs:List Expr)(act:mf Fin->mf Fin)(it:ao)(env:Env)(c:Code):mf Fin:=do
 kR ipos
 match <-kA it with
 |none=>cR (.done .next)
 |some v=>
  fQ tg it v
  assign tg env v
  let mut ok:=ag
  for c in ifs do
   if ok then ok <-isTrue c env (bZ c env)
  if ok then act (again c)else again c
def Zb4(J:It)(g:TG)(tt:TT)(te:TEm)(W:Nat->Nat->L2.St->Hp->Prop)(Q:L2.St->Hp->Prop):Prop:=∀i m σ' H',W i m σ' H'->
  (J.stop i H'/\Q σ' H')\/(J.go i H'/\∀x H'',J.yld i H' x H''->g x σ' H'' λσ2 H2=>tt σ2 H2 λok H3=>if ok=ag then te σ2 H3 λσ3 H4=>∃m',m'<m/\W (i+1) m' σ3 H4 else ∃m',m'<m/\W (i+1) m' σ2 H3)
def ub{tn:Nat->bJ->Prop}{Rr:Result->aw->Prop}{Q:L2.St->Hp->Prop}{W:Nat->Nat->L2.St->Hp->Prop}
  (hc:Y.calm=ag)(hx:∀a b,Y.xe a b->False)(hT:compTurn e depth (.ref it) acc Y.env=UZ ipos tg ifs act (.ref it) Y.env (.compLoop e depth (.ref it) acc Y.env))(hquiet:(mF e depth (.ref it) acc Y.env).isFrame=ai)
  (hq:(mF e depth (.ref it) acc Y.env).quiet=ag)(T:Turn Y.prog Y.w Y.K tg J fp it tn)(hg:PG Y tg g)(ht:PTs Y ifs tt)(he:um Y act te)(stat:∀{H':Hp},(∀b∈fp,H' b=ac)->∀b∈fp,VT Y pq H' b)
  (turn:Zb4 J g tt te W Q)(fin:∀σ H s,Inv Y pq σ H s->Q σ H->Rr (.ok .next) s)
  (I0:Inv Y pq σ H s)(st0:tn 0 s.heap)(fr0:∀b∈fp,H b=ac)(w0:W 0 m σ H)(hden:(bc Y.prog Y.w).den (.compLoop e depth (.ref it) acc Y.env)=(compTurn e depth (.ref it) acc Y.env).onRaise (λx=>do noteFrame x Y.env;theTreesLotGoes x))
  (hund:Y.A.under (.compLoop e depth (.ref it) acc Y.env)=Y.A):fh (bc Y.prog Y.w) Y.A (.compLoop e depth (.ref it) acc Y.env) Rr s:=by
 refine codeAny_loop hq (λn s'=>∃i σ' H',Inv Y pq σ' H' s'/\tn i s'.heap/\(∀b∈fp,H' b=ac)/\W i n σ' H') (λn s5 hI=>?_) m ⟨0,σ,H,I0,st0,fr0,w0⟩
 rw[hund,hden,hT];refine wpAny_noted ?_;obtain⟨i,σ5,H5,I5,st5,fr5,w5⟩:=hI;unfold UZ;refine ak (gV (ak ?_));rcases turn i n σ5 H5 w5 with⟨stop,qn⟩ | ⟨go,step⟩
 ·refine cF (T.done Y rfl rfl rfl hc i pq s5 σ5 H5 (λ_ _=>False) I5 (stat fr5) st5 stop) (λr s6 ⟨hr,I6⟩=>?_) λ_ _ h'=>h'.elim
  subst hr;exact aF (fin σ5 H5 s6 I6 qn)
 ·refine cF (T.item Y rfl rfl rfl hc i pq s5 σ5 H5 (λ_ _=>False) I5 (stat fr5) st5 go) (λr s6 ⟨u,hr,h6⟩=>?_) λ_ _ h'=>h'.elim
  subst hr;refine ak (cF h6 (λ_ s7 ⟨x,H7,I7,r7,y7,st7,fr7⟩=>?_) λ_ _ h'=>h'.elim)
  have I7':=I7.pinned (stat fr7) (T.obj _ _ st7);have back:∀{σ8:L2.St}{H8:Hp}{s8:aw}{m':Nat},Inv Y (pq++U4 fp s7.heap) σ8 H8 s8->m'<n->W (i+1) m' σ8 H8->∃m,m<n/\∃i σ' H',Inv Y pq σ' H' s8/\tn i s8.heap/\(∀b∈fp,H' b=ac)/\W i m σ' H':=λ{σ8 H8 s8 m'} I8 hm w8=>by
   refine⟨m',hm,i+1,σ8,H8,I8.unpinned,T.keep _ _ _ st7 λb hb' o e=>(I8.pin (b,o) (bi _ (bi _ (X1 hb' e)))).1,λb hb'=>?_,w8⟩
   obtain⟨o,e,d⟩:=T.obj _ _ st7 b hb';exact(I8.pin (b,o) (bi _ (bi _ (X1 hb' e)))).2.1
  refine ak (cF (hg _ s7 σ5 H7 x u _ I7' r7 (step x H7 y7)) (λ_ s8 ⟨σ8,H8,I8,q8⟩=>?_) λ_ _ h'=>(hx _ _ h').elim)
  refine ak (cF (ht _ s8 σ8 H8 _ I8 q8) (λok s9 ⟨H9,I9,q9⟩=>?_) λ_ _ h'=>(hx _ _ h').elim)
  cases ok with
  |false=>
   rw[T8 aM]at q9;obtain⟨m',hm,w9⟩:=q9;exact aF ⟨rfl,back I9 hm w9⟩
  |true=>
   rw[T9 rfl]at q9;exact he _ s9 σ8 H9 _ _ _ _ I9 q9 λs10 σ10 H10 I10 ⟨m',hm,w10⟩=>aF ⟨rfl,back I10 hm w10⟩
def GW(hx:∀a b,Y.xe a b->False)(he:PE Y elt te):um Y (λk=>(do let _ <-call (.builtin "list.append") [.ref D,<-bZ elt Y.env]:mf Unit) >>= λ_=>k) (λσ H Q=>te σ H λy H4=>∃ys,H4 D=aa (.lst ys)/\ys.length<aX/\Q σ (upd H4 D (.lst (ys++[y])))):=by
 intro pq s σ H Q k QF EE I h hk;refine ak ?_;refine ak (cF (he pq s σ H _ I h) (λxv s10 ⟨y,H10,I10,r10,ys,hDy,hz,q⟩=>?_) λ_ _ h'=>(hx _ _ h').elim)
 refine ak (cF (VQ (X:=Y) pq s10 σ H10 (.ref D) [y] (.ref D) [xv] (λv H'=>v=.non/\H'=upd H10 D (.lst (ys++[y]))) I10 rfl (.cons r10 .nil) ⟨D,ys,y,rfl,rfl,hDy,hz,rfl,rfl⟩) (λ_ s11 ⟨v11,H11,I11,_,_,eH⟩=>?_) λ_ _ h'=>(hx _ _ h').elim)
 subst eH;exact aF (hk _ _ _ I11 q)
def Zdd(wi:TI)(g:TG)(tt:TT)(te:ax->TEm)(cap:List Nat)(nl:Nat):TE:=λσ H Q=>wi σ H λJ H1=>∀D,H1 D=ac->∃W:Nat->Nat->L2.St->Hp->Prop,(∃m,W 0 m (Xc cap nl σ) (upd H1 D (.lst [])))/\Zb4 J g tt (te D) W λ_ H'=>Q (.ref D) H'
def jV(wi:TI)(g:TG)(tt:TT)(te:TE)(cap:List Nat)(nl:Nat):TE:=λσ H Q=>wi σ H λJ H1=>∀D,H1 D=ac->∃W:Nat->Nat->L2.St->Hp->Prop,(∃m,W 0 m (Xc cap nl σ) (upd H1 D (.lst [])))/\∀i m σ' H',W i m σ' H'->
  (J.stop i H'/\Q (.ref D) H')\/(J.go i H'/\∀x H'',J.yld i H' x H''->g x σ' H'' λσ2 H2=>tt σ2 H2 λok H3=>if ok=ag then te σ2 H3 λy H4=>∃ys,H4 D=aa (.lst ys)/\ys.length<aX/\∃m',m'<m/\W (i+1) m' σ2 (upd H4 D (.lst (ys++[y])))else ∃m',m'<m/\W (i+1) m' σ2 H3)
section
variable{X:Cx}
structure Gone(X:Cx)(pq:List (ax×dP))(H:Hp)(s:aw)(C:ax):Prop where
 free:H C=ac
 ns:∃m,s.heap.Ns C m
 loc:C≠X.env.locals
 big:X.s₀.heap.objs.size<=C
 cel:∀x c,X.env.cells.lookup x=aa c->c≠C
 pin:∀p∈X.pn++pq,p.1≠C
def QT{tg iter elt:Expr}{ifs:List Expr}{scope:c8}{pos fpos:dZ}{N:List aZ}{cap:List Nat}{nl:Nat}{wi:TI}{g:TG}{tt:TT}{te:ax->TEm}{act:ao->Env->mf Fin->mf Fin}{rest:List Comprehension}{pq:List (ax×dP)}{s:aw}{σ:L2.St}{H:Hp}{Q:VK}{use:Option (ao->mf Unit)}{QQ:ao->aw->Prop}(hc:X.calm=ag)(hN:X.N.Nodup)(CS:CompScope X.env.scope X.N scope N cap nl)(hi:PI X tg iter wi)
  (hT:∀it acc env,compTurn (.ListComp elt (⟨tg,iter,ifs,0⟩::rest) scope pos) 0 it acc env=UZ iter.pos tg ifs (act acc env) it env (.compLoop (.ListComp elt (⟨tg,iter,ifs,0⟩::rest) scope pos) 0 it acc env))
  (hb:∀cl s H fp,PG (cxC X N scope cl s H fp) tg g/\PTs (cxC X N scope cl s H fp) ifs tt/\∀D,um (cxC X N scope cl s H fp) (act (.ref D) (cxC X N scope cl s H fp).env) (te D))
  (hs:∀x,cU iter X.env x=cR x)(I:Inv X pq σ H s)(h:Zdd wi g tt te cap nl σ H Q)
  (fin:∀D C H5 s6,Inv X pq σ H5 s6->Gone X pq H5 s6 C->Q (.ref D) H5->compPost (bc X.prog X.w) X.A X.xe use QQ (.ref D) C (.ok .next) s6) :
  aT (bc X.prog X.w) X.A (comprehension (.ListComp elt (⟨tg,iter,ifs,0⟩::rest) scope pos) scope X.env fpos (newList []) ai (bZ iter X.env) use) QQ X.xe s:=by
 obtain⟨cl,hcl,c1,c2⟩:=WR (scope:=scope) (env:=X.env) λy hy hf=>I.ok.has y.1 (CS.free y hy hf)
 refine wpAny_comprehension_free (use:=use) rfl hs hcl CS.kind CS.names ?_;refine thn (hi pq s σ H _ I h) λv s1 h1=>thn h1 λitv s2 h2=>?_
 obtain⟨it,fp,tn,J,H2,rfl,I2,T,st2,f2,q2⟩:=h2;obtain⟨W,⟨m0,w0⟩,turn⟩:=q2 s2.heap.objs.size (I2.hok.fresh (aD _));refine bW (iZ CS.nocell (by intro y hy;simp at hy) (λh₁ hns₁ hsb₁=>?_) CS.kind)
 dsimp only at hns₁ hsb₁ ⊢
 have I3:Inv X pq σ (upd H2 s2.heap.objs.size (.lst [])) { s2 with heap:=s2.heap.push { cls:=.type "list",dict:=ac,data:=.seq ([]:List ao).toArray },toks:=s2.toks }:=
  I2.laid (λb u e=>ar _ e) (aD _) ⟨fc _,[],0,.nil,aN _ rfl⟩
 generalize hD:s2.heap.objs.size=D at I3 w0 turn hns₁ hsb₁ ⊢;generalize hs3:({ s2 with heap:=s2.heap.push { cls:=.type "list",dict:=ac,data:=.seq ([]:List ao).toArray },toks:=s2.toks }:aw)=s3 at I3
 have hh3:s2.heap.push { cls:=.type "list",dict:=ac,data:=.seq ([]:List ao).toArray }=s3.heap:=by rw[<-hs3]
 rw[hh3]at hns₁ hsb₁;have old:∀b o,s2.heap.get? b=aa o->s3.heap.get? b=aa o:=λb o e=>by rw[<-hh3];exact ar _ e
 have neD:∀b∈fp,b≠D:=λb hb' e=>by
  obtain⟨o,ho,_⟩:=T.obj _ _ st2 b hb';exact T7 (aJ ho) (by rw[e,<-hD];exact bw _)
 have f3:∀b∈fp,VT X pq (upd H2 D (.lst [])) b:=λb hb'=>⟨by rw[Zo (neD b hb')];exact(f2 b hb').1,(f2 b hb').2⟩
 have keep4:∀b o,s3.heap.get? b=aa o->h₁.get? b=aa o:=λb o e=>hsb₁.extBut b o (br (aJ e)) (ar _ e)
 have I4:=qT (tk:=s2.toks+([]:List (aZ×ao)).length) I3 CS hN c1 c2 f3 (λb hb'=>let ⟨o,ho,_⟩:=T.obj _ _ st2 b hb';⟨o,old b o ho⟩) ⟨_,hns₁⟩ keep4
 have e4:({ s3 with heap:=h₁,toks:=s2.toks+([]:List (aZ×ao)).length }:aw)={ s2 with heap:=h₁,toks:=s2.toks+([]:List (aZ×ao)).length }:=by rw[<-hs3]
 rw[e4]at I4;obtain⟨hg,ht,he⟩:=hb cl s3 (upd H2 D (.lst [])) fp;generalize hY:cxC X N scope cl s3 (upd H2 D (.lst [])) fp=Y at I4 hg ht he;have yP:Y.prog=X.prog:=by rw[<-hY];rfl
 have stat:∀{H':Hp},(∀b∈fp,H' b=ac)->∀b∈fp,VT Y [] H' b:=λhn b hb'=>by
  subst hY;refine⟨hn b hb',λe=>?_,λhm=>?_,.inl hb',λx c e=>(f3 b hb').2.2.2.2.1 x c (c1 x c e),λp hp=>T7 hp (by simp[cxC])⟩
  ·obtain⟨o,ho,_⟩:=T.obj _ _ st2 b hb'
   have:=aJ (old b o ho);rw[e]at this;exact T7 this (bw _)
  ·rcases az.mp (I3.stkSub b hm)with e | e
   ·exact(f3 b hb').2.1 e
   ·exact(f3 b hb').2.2.1 e
 subst hY
 let Y:=cxC X N scope cl s3 (upd H2 D (.lst [])) fp
 have st4:tn 0 h₁:=T.keep _ _ _ st2 λb hb' o e=>keep4 b o (old b o e)
 have fr4:∀b∈fp,upd H2 D (HO.lst []) b=ac:=λb hb'=>(f3 b hb').1
 have loop:fh (bc X.prog X.w) X.A (.compLoop (.ListComp elt (⟨tg,iter,ifs,0⟩::rest) scope pos) 0 (.ref it) (.ref D) (compEnvC scope cl s3.heap.objs.size X.env))
   (compPost (bc X.prog X.w) X.A X.xe use QQ (.ref D) s3.heap.objs.size) { s2 with heap:=h₁,toks:=s2.toks+([]:List (aZ×ao)).length }:=by
  refine ub (Y:=cxC X N scope cl s3 (upd H2 D (.lst [])) fp) (pq:=[]) (W:=W) (Q:=λ_ H'=>Q (.ref D) H') hc (λ_ _ z=>z) (hT _ _ _) rfl rfl T hg ht (he D) stat turn (λσ5 H5 s6 I6 qn=>?_) I4 st4 fr4 w0 rfl rfl
  obtain⟨m6,hn6,_⟩:=I6.loc;have u:=I6.base;have IX:Inv X pq σ H5 s6:=Inv.call' (s':=s6) (ch:=fp) I3 I6.os ⟨u.keep,u.slot,u.free,u.there,u.tups,u.frzs,u.tbls⟩ I6.hok I6.bare λb hb'=>⟨(f3 b hb').2.2.2.1,(f3 b hb').2.1,(f3 b hb').2.2.2.2.1,λp hp e=>(f3 b hb').2.2.2.2.2 p hp e⟩
  refine fin D s3.heap.objs.size H5 s6 IX ⟨I6.free,⟨m6,hn6⟩,Ne.symm (br I3.lt),I3.sz,λx c e z=>?_,λp hp z=>?_⟩ qn
  ·obtain⟨v,q⟩:=I3.cell x c e
   exact T7 q.lt (by rw[z];exact bw _)
  ·exact T7 (aJ (I3.pin p hp).1) (by rw[z];exact bw _)
 subst hs3;exact codeAny_compStart_list loop (T.self _ 0 _ _ _ st4 loop)
def Gone.inv(G:Gone X pq H s C)(I:Inv X pq σ H s)(hsb:eC C s.heap h'):Inv X pq σ H { s with heap:=h' }:=
 I.turned (t':=s.toks) (λb o hb e=>(hsb.2 b hb).trans e) G.free G.loc (.inr G.big) G.cel G.pin
def Zel(te:TE)(D:ax):TEm:=λσ H Q=>te σ H λy H4=>∃ys,H4 D=aa (.lst ys)/\ys.length<aX/\Q σ (upd H4 D (.lst (ys++[y])))
def ZaA(hc:X.calm=ag)(hN:X.N.Nodup)(CS:CompScope X.env.scope X.N scope N cap nl)(hi:PI X tg iter wi)
  (hb:∀cl s H fp,PG (cxC X N scope cl s H fp) tg g/\PTs (cxC X N scope cl s H fp) ifs tt/\PE (cxC X N scope cl s H fp) elt te)
  (hs:∀x,cU iter X.env x=cR x:=by intro _;rfl):PE X (.ListComp elt [⟨tg,iter,ifs,0⟩] scope pos) (jV wi g tt te cap nl):=by
 intro pq s σ H Q I h;rw[eval_ListComp];refine QT (te:=Zel te) (act:=λacc env k=>(do let _ <-call (.builtin "list.append") [acc,<-bZ elt env]:mf Unit) >>= λ_=>k) hc hN CS hi (λ_ _ _=>rfl) (λcl s H fp=>⟨(hb cl s H fp).1,(hb cl s H fp).2.1,λD=>GW (λ_ _ z=>z) (hb cl s H fp).2.2⟩) hs I h λD C H5 s6 I6 G q=>?_
 obtain⟨m6,hn6⟩:=G.ns;exact⟨m6,hn6,λh' hsb=>⟨.ref D,H5,G.inv I6 hsb,rfl,q⟩⟩
def u6(hc:X.calm=ag)(hN:X.N.Nodup)(CS:CompScope X.env.scope X.N scope N cap nl)(hi:PI X tg iter wi)
  (hb:∀cl s H fp,PG (cxC X N scope cl s H fp) tg g/\PTs (cxC X N scope cl s H fp) ifs tt/\PE (cxC X N scope cl s H fp) elt te)
  (hsw:eE (.ListComp elt [⟨tg,iter,ifs,0⟩] scope pos) (aa (.Name y py)) spos.line X.env=cR ag)
  (hy:X.N[i]? = aa y)(hx:L2.Loc X.env.scope y)(hf:X.fn y=ag\/X.env.scope.names.lookup y=aa .local)
  (hs:∀x,cU iter X.env x=cR x:=by intro _;rfl):PS X (.Assign [.Name y py] (.ListComp elt [⟨tg,iter,ifs,0⟩] scope pos) spos) (λD σ H=>jV wi g tt te cap nl σ H λv H1=>D.nx (σ.set i (aa v)) H1):=by
 intro pq s σ H D I h;rw[exec_Assign_Name_used _ _ _ _ hsw];refine ak (gV (ak ?_));show aT _ X.A (do let _ <-comprehension (.ListComp elt [⟨tg,iter,ifs,0⟩] scope pos) scope X.env _ (newList []) ai (bZ iter X.env) (aa (assign (.Name y py) X.env))) _ _ s;refine ak (cF (QT (use:=aa (assign (.Name y py) X.env)) (QQ:=λ_ s'=>SP X pq D .next s') (Q:=λv H1=>D.nx (σ.set i (aa v)) H1) (te:=Zel te) (act:=λacc env k=>(do let _ <-call (.builtin "list.append") [acc,<-bZ elt env]:mf Unit) >>= λ_=>k) hc hN CS hi (λ_ _ _=>rfl) (λcl s H fp=>⟨(hb cl s H fp).1,(hb cl s H fp).2.1,λD=>GW (λ_ _ z=>z) (hb cl s H fp).2.2⟩) hs I h λA C H5 s6 I6 G q=>?_) (λ_ s' hq=>aF (aF hq)) λ_ _ e=>e)
 show aT _ X.A (assign (.Name y py) X.env (.ref A)) _ _ s6;refine kS (QY (v:=V.ref A) I6 hN hy hx rfl (λs7 I7 ⟨a,hsb,ha⟩=>?_) hf)
 have hCa:C≠a:=by
  rcases ha with e | e
  ·rw[e];exact G.loc
  ·exact Ne.symm (G.cel y a e)
 obtain⟨m6,hn6⟩:=G.ns;have G7:Gone X pq H5 s7 C:=⟨G.free,⟨m6,hn6.sameBut hsb hCa⟩,G.loc,G.big,G.cel,G.pin⟩;exact⟨m6,hn6.sameBut hsb hCa,λh' hs'=>⟨σ.set i (aa (.ref A)),H5,G7.inv I7 hs',q⟩⟩
end
end Sd
namespace Sd
open PySem PySem.Spec PyProof.Rows L2
open Ev (D Ob Zb Lc R E Sm Calls Walk Fl Fn Bop Cop Ty Bf Mf ev evs evo evt evw tst run runs)
section
variable{X:Cx}{xw:Nat->Hp->Prop}{C:Calls}{e a b c tg it:Expr}{i j k:E}{pos p p' p2:dZ}
def CTs(X:Cx)(xw:Nat->Hp->Prop)(C:Calls)(ifs:List Expr)(is:List E):Prop:=PTs X ifs (tB3 X xw (evt C is))
def PTs.imp{X:Cx}{e:List Expr}{t t':TT}(h:PTs X e t)(k:∀σ H Q,t' σ H Q->t σ H Q):PTs X e t':=λpq s σ H Q I q=>h pq s σ H Q I (k σ H Q q)
def Gm:CTs X xw C [] []:=PTs.imp ZaR λσ H Q ⟨ρ,l,S,st,lr,h⟩=>End.ok (rep:=Vr) (show End X.K xw Vr ρ H Q (.ok ag S)from h) st rfl
def Zbx(σ:Lc)(S:Zb):evt C [i] σ S=tst C i σ S:=by
 show((ev C i σ S).bind λx S=>(Ev.ob (Ev.Z5 S x) S).bind λb S=>if b then evt C [] σ S else .ok ai S)=(ev C i σ S).bind λx S=>Ev.ob (Ev.Z5 S x) S
 congr 1
 funext x S
 cases Ev.Z5 S x with|none=>rfl|some b=>cases b <;> rfl
def J4(h:CT X xw C c i):CTs X xw C [c] [i]:=PTs.imp (ZaB h) λσ H Q ⟨ρ,l,S,st,lr,h⟩=>⟨ρ,l,S,st,lr,by rw[<-Zbx];exact h⟩
theorem LocR.caught(lr:LocR ρ H l σ)(cap:List Nat)(nl:Nat):LocR ρ H (Ev.caught cap nl l) (Xc cap nl σ):=by
 refine⟨by unfold Ev.caught Xc;simp,λn d e=>?_⟩
 unfold Ev.caught at e;by_cases hn:n<nl
 ·rw[aP (by simp;exact hn),bN,T9 hn]at e
  cases e
 ·rw[bf (by simp;omega),cL,bg]at e
  unfold Xc;rw[bf (by simp;omega),cL,bg]
  cases q:cap[n-nl]? with
  |none=>rw[q]at e;cases e
  |some m=>
   rw[q]at e;have e':(l[m]?).join=aa d:=af e;have:l[m]? = aa (aa d):=by
    cases z:l[m]? with
    |none=>rw[z]at e';cases e'
    |some o=>rw[z]at e';cases o with|none=>cases e'|some w=>cases e';rfl
   obtain⟨v,hv,r⟩:=lr.val m d this;exact⟨v,by show aa ((σ[m]?).join)=_;rw[hv];rfl,r⟩
def GE(hyp:tE X xw (ev C (.comp1 cap nl t w is ie)) σ H Q):jV (tW3 X xw (evw C w)) (tG3 X t) (tB3 X nx (evt C is)) (tE X nx (ev C ie)) cap nl σ H Q:=by
  obtain⟨ρ,l,S,st,lr,h⟩:=hyp;rw[ev]at h;refine⟨ρ,l,S,st,lr,h.bind λwk S1 ρ1 H1 J f1 st1 r1 h1=>λD hD=>?_⟩
  have st2:St3 X.K (ρ1++[D]) (S1++[.lst []]) (upd H1 D (.lst [])):=st1.new hD ⟨[],Zq,Rq.nil⟩;have f2:Fut ρ1 H1 (ρ1++[D]) (upd H1 D (.lst [])):=Xl hD;have pD:(ρ1++[D])[S1.length]? = aa D:=by rw[<-st1.len];simp
  let B:Ev.D->Lc->Zb->R Lc:=λx σ S2=>(Ev.ob (Ev.assign t x S2 σ) S2).bind λσ S2=>(evt C is σ S2).bind λb S2=>if b then(ev C ie σ S2).bind λy S2=>(Ev.push S1.length y S2).bind λ_ S2=>.ok σ S2 else .ok σ S2
  have h2:End X.K nx Rep ρ1 H1 Q ((Ev.Xd wk B wk.items (Ev.caught cap nl l) (S1++[.lst []])).bind λ_ S2=>.ok (.loc S1.length) S2):=End.nox h1
  refine⟨λn m σ' H'=>m=wk.items.length-n/\n<=wk.items.length/\∃ρ' l' S',Fut (ρ1++[D]) (upd H1 D (.lst [])) ρ' H'/\St3 X.K ρ' S' H'/\LocR ρ' H' l' σ'/\End X.K nx Rep ρ' H' Q ((Ev.Xd wk B (wk.items.drop n) l' S').bind λ_ S2=>.ok (.loc S1.length) S2),
   ⟨wk.items.length,rfl,fc _,ρ1++[D],Ev.caught cap nl l,S1++[Ob.lst []],Fut.refl _ _,st2,(((lr.mono f1).mono f2).caught cap nl),by rw[iY];exact End.mono f2 h2⟩,?_⟩
  rintro n m σ' H' ⟨rfl,hn,ρ',l',S',f',st',lr',e'⟩
  by_cases hlt:n<wk.items.length
  ·right
   have hd:wk.items.drop n=wk.items[n]::wk.items.drop (n+1):=dD hlt;rw[hd]at e';have e2:End X.K nx Rep ρ' H' Q ((if wk.still S'=ag then(B wk.items[n] l' S').bind λσ S=>Ev.Xd wk B (wk.items.drop (n+1)) σ S else .no).bind λ_ S2=>.ok (.loc S1.length) S2):=e'
   by_cases hst:wk.still S'=ag
   ·rw[T9 hst]at e2
    obtain⟨go,yl⟩:=r1.go n ρ' S' H' (f2.trans f') st' hst hlt;refine⟨go,λx H3 y=>?_⟩
    obtain⟨f3,st3,rp⟩:=yl x H3 y;have rx:=rp _ (ah hlt);have e3:=End.mono f3 e2;have ff:=f'.trans f3;cases ha:Ev.assign t wk.items[n] S' l' with
    |none=>
     have z:B wk.items[n] l' S'=.no:=by show(Ev.ob (Ev.assign t wk.items[n] S' l') S').bind _=_;rw[ha];rfl
     rw[z]at e3;exact False.elim e3
    |some l2=>
     have z:B wk.items[n] l' S'=(evt C is l2 S').bind λb S2=>if b then(ev C ie l2 S2).bind λy S2=>(Ev.push S1.length y S2).bind λ_ S2=>.ok l2 S2 else .ok l2 S2:=by
      show(Ev.ob (Ev.assign t wk.items[n] S' l') S').bind _=_;rw[ha];rfl
     rw[z]at e3;simp only[Wf]at e3;refine⟨ρ',l',S',wk.items[n],l2,st3,lr'.mono f3,rx,ha,λσ2 lr2=>⟨ρ',l2,S',st3,lr2,e3.bind λok S4 ρ4 H4 ok' f4 st4 ro h4=>?_⟩⟩
     have eo:ok=ok':=ro;subst eo;cases ok with
     |false=>
      rw[T8 aM];exact⟨wk.items.length-(n+1),by omega,rfl,hlt,ρ4,l2,S4,ff.trans f4,st4,lr2.mono f4,h4⟩
     |true=>
      rw[T9 rfl];have h5:End X.K nx Rep ρ4 H4 Q (((ev C ie l2 S4).bind λy S2=>(Ev.push S1.length y S2).bind λ_ S2=>.ok l2 S2).bind λa S=>(Ev.Xd wk B (wk.items.drop (n+1)) a S).bind λ_ S2=>.ok (.loc S1.length) S2):=h4
      simp only[Wf]at h5;refine⟨ρ4,l2,S4,st4,lr2.mono f4,h5.bind λy S5 ρ5 H5 v f5 st5 r5 h6=>?_⟩
      have p5:ρ5[S1.length]? = aa D:=f5.at (f4.at (ff.at pD));cases q:Ev.Zi S5 S1.length with
      |none=>
       have z:Ev.push S1.length y S5=.no:=by unfold Ev.push;rw[q]
       rw[z]at h6;exact False.elim h6
      |some zs=>
       have z:Ev.push S1.length y S5=if zs.length<Ev.lim then .ok () (S5.set S1.length (.lst (zs++[y])))else .no:=by unfold Ev.push;rw[q]
       rw[z]at h6;by_cases hl:zs.length<Ev.lim
       ·rw[T9 hl]at h6
        obtain⟨sn,a,xs,pa,hx,rz⟩:=st5.lst q;rw[p5]at pa;cases pa;refine⟨xs,hx,by rw[rz.length,<-WV];exact hl,wk.items.length-(n+1),by omega,rfl,hlt,ρ5,l2,S5.set S1.length (.lst (zs++[y])),((ff.trans f4).trans f5).trans (Y4 hx),st5.wr p5 sn hx (rz.append (Rq.cons r5 Rq.nil)),((lr2.mono f4).mono f5).mono (Y4 hx),End.mono (Y4 hx) h6⟩
       ·rw[T8 hl]at h6
        exact False.elim h6
   ·rw[T8 hst]at e2
    exact False.elim e2
  ·left
   have en:n=wk.items.length:=by omega
   subst en;rw[lJ]at e';have e2:End X.K nx Rep ρ' H' Q ((if wk.still S'=ag then Ev.R.ok l' S' else .no).bind λ_ S2=>.ok (.loc S1.length) S2):=e'
   by_cases hst:wk.still S'=ag
   ·rw[T9 hst]at e2
    exact⟨r1.stop ρ' S' H' (f2.trans f') st' hst,End.ok (rep:=Rep) (show End X.K nx Rep ρ' H' Q (.ok (.loc S1.length) S')from e2) st' (Wx (f'.at pD))⟩
   ·rw[T8 hst]at e2
    exact False.elim e2
def U2{elt:Expr}{ifs:List Expr}{is:List E}{ie:E}{scope:c8}{N:List aZ}{cap:List Nat}{nl:Nat}{w:Ev.W}{t:List Nat}(hc:X.calm=ag)(hN:X.N.Nodup)(CS:CompScope X.env.scope X.N scope N cap nl)(hi:CW X xw C tg it w)
  (hb:∀cl s H fp,CG (cxC X N scope cl s H fp) tg t/\CTs (cxC X N scope cl s H fp) nx C ifs is/\CE (cxC X N scope cl s H fp) nx C elt ie)
  (hs:∀x,cU it X.env x=cR x:=by intro _;rfl):CE X xw C (.ListComp elt [⟨tg,it,ifs,0⟩] scope pos) (.comp1 cap nl t w is ie):=
 PE.imp (ZaA (g:=tG3 X t) (tt:=tB3 X nx (evt C is)) (te:=tE X nx (ev C ie)) hc hN CS hi (λcl s H fp=>hb cl s H fp) hs) λσ H Q hyp=>GE hyp
def Qv{elt:Expr}{ifs:List Expr}{is:List E}{ie:E}{scope:c8}{N:List aZ}{cap:List Nat}{nl:Nat}{w:Ev.W}{t:List Nat}{n:Nat}{y:aZ}{spos py:dZ}(hc:X.calm=ag)(hN:X.N.Nodup)(CSc:CompScope X.env.scope X.N scope N cap nl)(hi:CW X xw C tg it w)
  (hb:∀cl s H fp,CG (cxC X N scope cl s H fp) tg t/\CTs (cxC X N scope cl s H fp) nx C ifs is/\CE (cxC X N scope cl s H fp) nx C elt ie)
  (hsw:eE (.ListComp elt [⟨tg,it,ifs,0⟩] scope pos) (aa (.Name y py)) spos.line X.env=cR ag:=by rfl)
  (hy:X.N[n]? = aa y:=by rfl)(hx:L2.Loc X.env.scope y:=by first | exact kK rfl | exact gW rfl)(hf:X.fn y=ag\/X.env.scope.names.lookup y=aa .local:=by first | exact .inl rfl | exact .inr rfl)
  (hs:∀x,cU it X.env x=cR x:=by intro _;rfl):CS X xw C (.Assign [.Name y py] (.ListComp elt [⟨tg,it,ifs,0⟩] scope pos) spos) (.asg [n] (.comp1 cap nl t w is ie)):=
 PS.imp (u6 (g:=tG3 X t) (tt:=tB3 X nx (evt C is)) (te:=tE X nx (ev C ie)) hc hN CSc hi (λcl s H fp=>hb cl s H fp) hsw hy hx hf hs) λD σ H ⟨ρ,l,S,st,lr,h⟩=>
  GE ⟨ρ,l,S,st,lr,ZM.bind (show ZM X.K xw ρ H D ((ev C (.comp1 cap nl t w is ie) l S).bind λx S=>(Ev.ob (Ev.assign [n] x S l) S).bind λσ S=>.ok (.nx σ) S)from h) λx S1 ρ1 H1 v f1 st1 r1 h1=>by
   obtain⟨l',hl',h2⟩:=ZM.ob h1;have e:l.set n (aa x)=l':=af hl';exact ZM.nx h2 st1 (by rw[<-e];exact(lr.mono f1).set n r1)⟩
end
theorem LocR.start(r:Rq ρ H ds vs)(N:List aZ)(n:Nat)(hn:n=N.length):LocR ρ H (Ev.start n ds) (L2.start N vs):=by
 subst hn;have hl:=r.length;refine⟨by unfold Ev.start L2.start;simp[hl],λi d e=>?_⟩
 unfold Ev.start at e;by_cases hi:i<ds.length
 ·rw[aP (by simpa using hi),bg]at e
  cases q:ds[i]? with
  |none=>rw[q]at e;cases e
  |some d'=>
   rw[q]at e;cases e;obtain⟨v,hv,r'⟩:=r.get q;refine⟨v,?_,r'⟩;unfold L2.start;rw[aP (by simp;omega),bg,hv]
   rfl
 ·rw[bf (by simp;omega),bN]at e
  split at e <;> cases e
section
variable{prog:bq}{w:bG}{A:bV}{E:ao->aw->Prop}{s:aw}
def wN(n:Nat):bY ((n:Int)-1) (-1) (-1)=n:=by
 unfold bY;have h1:¬((-1:Int)>0):=by decide
 rw[T8 h1];by_cases h:(n:Int)-1 > -1
 ·rw[T9 h,show(- -1:Int)=1 by decide,Int.ediv_one]
  omega
 ·rw[T8 h]
  omega
def VU{sl:ax}{vk:ao}{n:Nat}{Q:Int×Int×Nat->aw->Prop}(hs:s.heap.IsSliceOf sl .none .none vk)(pk:gw vk (aa (-1)))
  (h:Q ((n:Int)-1,-1,n) s):aT (bc prog w) A (dn (.ref sl) (cR (n:Int))) Q E s:=by
 obtain⟨os,hos,hcs,hds⟩:=id hs;unfold dn gH;refine ak (ak (bX hos hds (x:=.none) rfl (ak (bX hos hds (x:=.none) rfl (ak (bX hos hds (x:=vk) rfl (aF ?_)))))));refine ak (HT.WW pk ?_);show aT _ _ (if((-1:Int) == 0)=ag then _ else _) _ _ s
 rw[T8 (by decide)]
 refine ak (gy (ak (gy (ak (aF ?_)))));show aT _ _ (cR ((n:Int)-1,(-1:Int),bY ((n:Int)-1) (-1) (-1))) _ _ s;rw[wN];exact aF h
def jn(xs:Array ao):((aI xs.size).filterMap λ(k:Nat)=>xs[((xs.size:Int)-1+(k:Int) * -1).toNat]?).toArray=xs.toList.reverse.toArray:=by
 congr 1
 have e:(aI xs.size).filterMap (λ(k:Nat)=>xs[((xs.size:Int)-1+(k:Int) * -1).toNat]?)=((aI xs.size).map λk=>xs.size-1-k).filterMap (xs[·]?):=by
  rw[kH]
  congr 1
  funext k
  have:((xs.size:Int)-1+(k:Int) * -1).toNat=xs.size-1-k:=by omega
  rw[this];rfl
 rw[e,PySem.W.krv_range,List.filterMap_reverse,PySem.W.krv_all]
def Vm{Q:ao->aw->Prop}(ht:mK s.heap t items)(hs:s.heap.IsSliceOf sl .none .none vk)(pk:gw vk (aa (-1)))
  (h:Q (.ref s.heap.objs.size) { s with heap:=s.heap.push { cls:=.type "tuple",data:=.seq items.toList.reverse.toArray } })
  (hsz:items.size<=aX):aT (bc prog w) A (gO (.ref t) (.ref sl)) Q E s:=by
 have htake:sizeOk (.seq items.toList.reverse.toArray):=by
  show items.toList.reverse.toArray.size<=aX;rw[au,f9,cX];exact hsz
 obtain⟨os,hos,hcs,hds⟩:=id hs;have hTs:s.TypeIs (.ref sl) "slice":=⟨os,hos,hcs⟩;unfold gO
 try with_reducible refine cm ?_
 first | refine ak (aF ?_) | skip
 refine ak (gP ht.typeIs (by decide) ?_)
 refine ak (cc (name:=dM "__getitem__") ht.typeIs bT
  (df bT ht.typeIs fY ?_ (gz _ _)))
 show aT _ _ (ej (.ref t) >>= _) _ _ s;refine ak (kq ht ?_);refine ak (iA hTs ?_);rw[T9 (by decide)]
 refine ak (VU hs pk ?_);have hno:¬(((items.size:Int)-1 == 0&&(-1:Int) == 1&&items.size == items.size)=ag):=by
  intro q;rw[aB,aB]at q;exact T7 q.1.2 (by decide)
 show aT _ _ (if((items.size:Int)-1 == 0&&(-1:Int) == 1&&items.size == items.size)=ag then _ else _) _ _ s
 rw[T8 hno,jn]
 first
  |exact ak (m:=bS _) (bW (aF ⟨_,rfl,aF h⟩) htake)
  |exact ak (m:=bS _) (bW (ak (aF (aF ⟨_,rfl,aF h⟩))) htake)
  |exact ak (ak (m:=bS _) (bW (aF (aF ⟨_,rfl,aF h⟩)) htake))
  |exact ak (ak (m:=bS _) (bW (aF ⟨_,rfl,aF h⟩) htake))
end
section
variable{X:Cx}{xw:Nat->Hp->Prop}{C:Calls}{e a b c tg it:Expr}{i j k:E}{pos p p' p2 p3:dZ}{q1:Option aZ}
def yG{e1:Expr}(ha:CE X xw C a i)(h1:CE X xw C e1 (.neg (.c (.int 1)))):CE X xw C (.Subscript a (.Slice ac ac (aa e1) p2) pos) (.rev i):=by
 intro pq s σ H Q I hq;obtain⟨ρ,l,S,st,lr,h⟩:=hq;have h':End X.K xw Rep ρ H Q ((ev C i l S).bind λx S=>Ev.Qe x S):=h
 refine mn (thn (ha pq s σ H (λx H1=>∃ρ1 S1 d,St3 X.K ρ1 S1 H1/\LocR ρ1 H1 l σ/\Rep ρ1 H1 d x/\End X.K xw Rep ρ1 H1 Q (Ev.Qe d S1)) I ⟨ρ,l,S,st,lr,h'.bind λd S1 ρ1 H1 v f1 st1 r1 h1=>⟨ρ1,S1,d,st1,lr.mono f1,r1,h1⟩⟩) λv s1 ⟨x,H1,I1,r1,ρ1,S1,d,st1,lr1,rd,h2⟩=>?_)
 refine wpAny_Slice ?_;rw[kr];refine aF (aF ?_);rw[evalPart_some];refine thn (h1 pq s1 σ H1 (λy H2=>y=.int (-1)/\∃ρ2,Fut ρ1 H1 ρ2 H2/\St3 X.K ρ2 S1 H2) I1 ⟨ρ1,l,S1,st1,lr1,λρ2 H2 y f2 st2 ry=>⟨ry.int',ρ2,f2,st2⟩⟩) λvk s2 ⟨y,H2,I2,ry,ey,ρ2,f2,st2⟩=>?_
 subst ey;obtain⟨t,rfl⟩:=ry;have rd2:=rd.mono f2;have h3:=End.mono f2 h2;cases d with
 |tup ds=>
  obtain⟨q,xs,rfl,hp,rs⟩:=rd2.tup';cases r1;have I4:Inv X pq σ H2 { s2 with heap:=s2.heap.push { cls:=.type "slice",data:=.fields #[.none,.none,.int (-1) t] } }:=I2.kept (t':=s2.toks) λb ob q=>ar _ q
  obtain⟨its,r,ht,hz⟩:=I4.tuple (SqT.of hp);have hlen:its.toArray.size=xs.length:=by rw[au];exact r.length.symm
  show aT (bc X.prog X.w) X.A (kt a (.Slice ac ac (aa e1) p2) (.ref q) (.ref s2.heap.objs.size)) (EP X pq σ Q) X.xe { s2 with heap:=s2.heap.push { cls:=.type "slice",data:=.fields #[.none,.none,.int (-1) t] } }
  refine tail_any (ops:=[.ref q,.ref s2.heap.objs.size]) ht.typeIs bT.lookup ?_ (by with_unfolding_all rfl)
  refine Vm ht (kJ ..) (gw.int _ _) ?_ (by rw[hlen];exact hz)
  refine⟨.ref _,_,I4.laid (t':=s2.toks) (o:=.tup xs.reverse) (λb ob q=>ar _ q) (aD _) ⟨by rw[f9];exact hz,_,r.reverse,gn _ _⟩,rfl,h3.newT st2 rs.reverse _ (I4.hok.fresh (aD _))⟩
 |_=>exact False.elim h3
end
section
variable{es:List Expr}{env:Env}
def G3{a b c}:aC (.Constant a b c::es) env=(ai,bZ (.Constant a b c) env)::aC es env:=rfl
def xN{a b}:aC (.Name a b::es) env=(ai,bZ (.Name a b) env)::aC es env:=rfl
def jG{a b c}:aC (.Tuple a b c::es) env=(ai,bZ (.Tuple a b c) env)::aC es env:=rfl
def uB{a b}:aC (.List a b::es) env=(ai,bZ (.List a b) env)::aC es env:=rfl
def wf{a b c}:aC (.Dict a b c::es) env=(ai,bZ (.Dict a b c) env)::aC es env:=rfl
def j3{a b c d}:aC (.BinOp a b c d::es) env=(ai,bZ (.BinOp a b c d) env)::aC es env:=rfl
def ZbZ{a b c}:aC (.UnaryOp a b c::es) env=(ai,bZ (.UnaryOp a b c) env)::aC es env:=rfl
def qj{a b c d}:aC (.Compare a b c d::es) env=(ai,bZ (.Compare a b c d) env)::aC es env:=rfl
def uF{a b c}:aC (.Subscript a b c::es) env=(ai,bZ (.Subscript a b c) env)::aC es env:=rfl
def xm{a b c d}:aC (.Call a b c d::es) env=(ai,bZ (.Call a b c d) env)::aC es env:=rfl
def xx{a b c d}:aC (.ListComp a b c d::es) env=(ai,bZ (.ListComp a b c d) env)::aC es env:=rfl
end
def Xz:List h8->List (Int×Int)->Prop
 |[],[]=>True
 |e::r,(k,j)::q=>(∃t,e.key=.int k t)/\e.hash=hashInt k/\(∃u,e.val=.int j u)/\Xz r q
 |_,_=>False
theorem Xz.mem :∀{es:List h8}{tab:List (Int×Int)},Xz es tab->∀e∈es,∃k,(gb P w).is k e.key=ag/\e.hash=(gb P w).hash k
 |[],_,_,e,h=>by cases h
 |e::r,[],h,_,_=>h.elim
 |e::r,(k,j)::q,h,x,hx=>by
  obtain⟨⟨t,h1⟩,h2,_,h4⟩:=h;rcases az.mp hx with rfl | hx
  ·exact⟨k,by rw[h1];exact intKind_is P w k t,h2⟩
  ·exact Xz.mem h4 x hx
theorem Xz.find(k:Int):∀{es:List h8}{tab:List (Int×Int)},Xz es tab->(tab.lookup k=ac->(es.find? λe=>(gb P w).is k e.key)=ac)/\∀j,tab.lookup k=aa j->∃e t,(es.find? λe=>(gb P w).is k e.key)=aa e/\e.val=.int j t
 |[],[],_=>⟨λ_=>rfl,λj h=>by cases h⟩
 |[],_::_,h=>h.elim
 |e::r,[],h=>h.elim
 |e::r,(k',j')::q,h=>by
  obtain⟨⟨t,h1⟩,h2,⟨u,h3⟩,h4⟩:=h;obtain⟨i1,i2⟩:=Xz.find (P:=P) (w:=w) k h4;rw[bC,dG];have hd:(gb P w).is k e.key=ae (k=k'):=KeyKind.is_eq_decide (by rw[h1];exact intKind_is P w k' t) k
  rw[hd];by_cases z:k=k'
  ·subst z
   rw[beq_self_eq_true,T5 rfl];exact⟨λz=>(by cases z),λj z=>(by cases z;exact⟨e,u,rfl,h3⟩)⟩
  ·rw[beq_eq_false_iff_ne.mpr z,T4 z]
   exact⟨i1,i2⟩
def Za3{P:bq}{w:bG}{K:aj}{a:ax}{es:Array h8}{n:Nat}{tab:List (Int×Int)}(hl:K.lookup a=aa ⟨.type "dict",ac,.dict es n,#[]⟩)(ht:Xz es.toList tab)(ha:(a == dh)=ai):Zev P w K a tab:=by
 refine⟨ha,λk=>findBy (gb P w).is es k,λh X=>⟨_,es,n,X _ _ hl,⟨rfl,rfl,rfl⟩,rfl,λe he=>ht.mem e (iU.mpr he),λ_=>rfl⟩,λk=>?_⟩
 obtain⟨l⟩:=es;obtain⟨i1,i2⟩:=Xz.find (P:=P) (w:=w) k ht;refine⟨λz=>?_,λj z=>?_⟩
 ·show((l.toArray.find? λe=>(gb P w).is k e.key).map (·.val))=ac
  rw[kM,i1 z];rfl
 ·obtain⟨e,t,q1,q2⟩:=i2 j z
  refine⟨t,?_⟩;show((l.toArray.find? λe=>(gb P w).is k e.key).map (·.val))=_
  rw[kM,q1];exact congrArg aa q2
def hu7(hr:Room k A):A.units+7<d8:=Nat.lt_of_le_of_lt (by omega) hr.un
section
variable{X:Cx}{xw:Nat->Hp->Prop}{C:Calls}{e a b c tg it:Expr}{i j k:E}{pos p p' p2 p3:dZ}{s0:de}{ss:List de}{m0:Sm}{ms ms':List Sm}
structure AugOk(X:Cx)(op:mh)(o:Bop):Prop where
 h:∃t:TIp,PIp X op t/\∀(xw:Nat->Hp->Prop) ρ S H n m Q,St3 X.K ρ S H->End X.K xw Rep ρ H Q (Ev.Yl o (.int n) (.int m) S)->t (.int n) (.int m) H Q
def ux:AugOk X .Add .add:=⟨_,Za6,λxw ρ S H n m Q st h=>⟨n,m,rfl,rfl,End.ok h st (Zp _)⟩⟩
def yR{op:mh}{o:Bop}{n:Nat}{x:aZ}(ho:AugOk X op o)(hN:X.N.Nodup)(he:CE X xw C e i)(hi:X.N[n]? = aa x:=by rfl)(hx:L2.Loc X.env.scope x:=by first | exact kK rfl | exact gW rfl)(hf:X.fn x=ag\/X.env.scope.names.lookup x=aa .local:=by first | exact .inl rfl | exact .inr rfl) :
  CS X xw C (.AugAssign (.Name x p) op e pos) (.aug n o i):=by
 obtain⟨t,ht,hq⟩:=ho.h;refine PS.imp (Zcm hN hi hx he ht hf) λD σ H ⟨ρ,l,S,st,lr,h⟩=>?_
 obtain⟨d,hd,h1⟩:=ZM.ob (show ZM X.K xw ρ H D ((Ev.ob (l[n]?).join S).bind λx S=>(ev C i l S).bind λy S=>(Ev.Qo o x y S).bind λz S=>.ok (.nx (l.set n (aa z))) S)from h)
 have hd':l[n]? = aa (aa d):=by
  cases z:l[n]? with
  |none=>rw[z]at hd;cases hd
  |some oo=>rw[z]at hd;cases oo with|none=>cases hd|some w=>cases hd;rfl
 obtain⟨v,hv,rv⟩:=lr.val n d hd';refine⟨v,hv,ρ,l,S,st,lr,h1.bind λy S1 ρ1 H1 u f1 st1 r1 h2=>?_⟩
 cases d with
 |int m=>cases y with
  |int m'=>
   rw[rv.int',r1.int'];refine hq xw ρ1 S1 H1 m m' _ st1 ?_;exact ZM.bind (show ZM X.K xw ρ1 H1 D ((Ev.Yl o (.int m) (.int m') S1).bind λz S=>.ok (.nx (l.set n (aa z))) S)from h2) λz S2 ρ2 H2 w f2 st2 r2 h3=>ZM.nx h3 st2 (((lr.mono f1).mono f2).set n r2)
  |_=>exact False.elim h2
 |_=>exact False.elim h2
def Ux{body:List de}(hp:lx (bc X.prog X.w) X.A X.env X.xe)(hc:CT X xw C c k)(hb:CSs X xw C body ms):CS X xw C (.While c body [] pos) (.whl k ms):=PS.imp (jf hp hc hb) λD σ H ⟨ρ,l,S,st,lr,h⟩=>by
 refine⟨λm σ' H'=>∃ρ' l' S',St3 X.K ρ' S' H'/\LocR ρ' H' l' σ'/\ZM X.K xw ρ' H' D (Ev.Xb (tst C k) (runs C ms) m l' S'),⟨Ev.Vu,ρ,l,S,st,lr,h⟩,?_⟩
 rintro m σ' H' ⟨ρ',l',S',st',lr',e'⟩
 cases m with
 |zero=>exact False.elim e'
 |succ m=>
  refine⟨ρ',l',S',st',lr',ZM.bind (show ZM X.K xw ρ' H' D ((tst C k l' S').bind λb S=>if b then(match runs C ms l' S with
   |.ok (.nx σ') S'=>Ev.Xb (tst C k) (runs C ms) m σ' S'
   |.ok (.cnt σ') S'=>Ev.Xb (tst C k) (runs C ms) m σ' S'
   |.ok (.brk σ') S'=>.ok (.nx σ') S'
   |.ok (.ret d) S'=>.ok (.ret d) S'
   |.ex c S'=>.ex c S'
   |.no=>.no)else .ok (.nx l') S)from e') λb S1 ρ1 H1 b' f1 st1 r1 h1=>?_⟩
  have eb:b=b':=r1;subst eb;cases b with
  |false=>
   rw[T8 aM]at h1 ⊢;exact ZM.nx h1 st1 (lr'.mono f1)
  |true=>
   rw[T9 rfl]at h1 ⊢;refine⟨λσ2 H2=>∃ρ2 l2 S2,St3 X.K ρ2 S2 H2/\LocR ρ2 H2 l2 σ2/\ZM X.K xw ρ2 H2 D (Ev.Xb (tst C k) (runs C ms) m l2 S2),λσ2 H2 w=>⟨m,fE m,w⟩,ρ1,l',S1,st1,lr'.mono f1,?_⟩
   cases q:runs C ms l' S1 with
   |no=>rw[q]at h1;exact h1
   |ex c S2=>rw[q]at h1;exact h1
   |ok fl S2=>
    rw[q]at h1;cases fl with|nx l3=>exact λρ4 H4 σ4 f4 st4 lr4=>⟨ρ4,l3,S2,st4,lr4,ZM.mono f4 h1⟩|cnt l3=>exact λρ4 H4 σ4 f4 st4 lr4=>⟨ρ4,l3,S2,st4,lr4,ZM.mono f4 h1⟩|brk l3=>exact h1|ret d=>exact h1
end
end Sd
namespace Sd
open PySem PySem.Spec PyProof.Rows L2
def Src(b:Bool)(h:bJ)(it l:ax)(k:Nat):Prop:=match b with
 |true=>h.IsListIter it l k
 |false=>h.IsTupleIter it l k
def YI(b:Bool)(h:bJ)(l:ax)(xs:Array ao):Prop:=match b with
 |true=>h.IsList l xs
 |false=>h.IsTuple l xs
def Src.ext(x:Src b h it l k)(e:fN c h h')(n:it≠c):Src b h' it l k:=by
 cases b
 ·exact bJ.IsTupleIter.extBut x e n
 ·exact bJ.IsListIter.extBut x e n
def Src.keep(x:Src b h it l k)(e:∀o,h.get? it=aa o->h'.get? it=aa o):Src b h' it l k:=by
 cases b
 ·obtain⟨o,ho,r⟩:=x;exact⟨o,e o ho,r⟩
 ·obtain⟨o,ho,r⟩:=x;exact⟨o,e o ho,r⟩
def Src.obj(x:Src b h it l k):∃o,h.get? it=aa o/\∀v,o.data≠.cell v:=by
 cases b
 ·obtain⟨o,ho,_,d⟩:=x;exact⟨o,ho,λv z=>by rw[d]at z;cases z⟩
 ·obtain⟨o,ho,_,d⟩:=x;exact⟨o,ho,λv z=>by rw[d]at z;cases z⟩
def YI.keep(x:YI b h l xs)(e:∀o,h.get? l=aa o->h'.get? l=aa o):YI b h' l xs:=by
 cases b
 ·obtain⟨o,ho,r⟩:=x;exact⟨o,e o ho,r⟩
 ·obtain⟨o,ho,r⟩:=x;exact⟨o,e o ho,r⟩
section
variable{prog:bq}{w:bG}{A:bV}{E:ao->aw->Prop}{s:aw}
def ue{Q:ao->aw->Prop}(hit:s.heap.IsTupleIter it t i)(ht:s.heap.IsTuple t items)(hx:items[i]? = aa x)
  (hQ:∀h',h'.IsTupleIter it t (i+1)->eC it s.heap h'->Q x { s with heap:=h' }):aT (bc prog w) A (bB (.ref it)) Q E s:=by
 obtain⟨o,ho,hc,hd⟩:=id hit;obtain⟨ol,hol,_,nl,hdl⟩:=ht;unfold bB;refine ak (cc (name:=dM "__next__") hit.typeIs dq (df dq hit.typeIs gk ?_ (fU _)));show aT _ _ (field (.ref it) 0 >>= _) _ _ s;refine ak (bX ho hd (x:=.ref t) rfl ?_);show aT _ _ (if(bU t == bE)=ag then _ else _) _ _ s
 rw[T8 (show¬((bU t == bE)=ag) by exact aM)];show aT _ _ (field (.ref it) 1 >>= _) _ _ s;refine ak (bX ho hd (x:=.int i 0) rfl ?_)
 show aT _ _ (seqItems? (.ref t) >>= _) _ _ s;refine ak (du hol hdl ?_);simp only[fq,hx];refine ak (wpAny_setField ho hd (by simp) (aF ⟨x,rfl,aF (hQ _ ⟨_,iP _ ho (dP.isFreed_of_fields (kN hd _)),(dP.cls_mapFields ..).trans hc,?_⟩ (kg ..))⟩))
 rw[kN hd];simp[fA]
def Jt{Q:ao->aw->Prop}(hh:A.handled=ac)(hit:s.heap.IsTupleIter it t i)(ht:s.heap.IsTuple t items)(hx:items[i]? = ac)
  (hE:∀h' e,fN it s.heap h'->(∃o,h'.get? e=aa o/\o.cls=.type "StopIteration")->E (.ref e) { s with heap:=h' }):aT (bc prog w) A (bB (.ref it)) Q E s:=by
 obtain⟨o,ho,hc,hd⟩:=id hit;obtain⟨ol,hol,_,nl,hdl⟩:=ht;unfold bB;refine ak (cc (name:=dM "__next__") hit.typeIs dq (df dq hit.typeIs gk ?_ (fU _)));show aT _ _ (field (.ref it) 0 >>= _) _ _ s;refine ak (bX ho hd (x:=.ref t) rfl ?_);show aT _ _ (if(bU t == bE)=ag then _ else _) _ _ s
 rw[T8 (show¬((bU t == bE)=ag) by exact aM)];show aT _ _ (field (.ref it) 1 >>= _) _ _ s;refine ak (bX ho hd (x:=.int i 0) rfl ?_)
 show aT _ _ (seqItems? (.ref t) >>= _) _ _ s;refine ak (du hol hdl ?_);simp only[fq,hx];refine ak (iG (ak (wpAny_setField ho hd (by simp) ?_)));show aT _ _ (newExc (.type "StopIteration") [] >>= _) _ _ _
 refine ak ?_;simp only[newExc,newTuple];refine ak (bW ?_ (by size_fits))
 refine ak (m:=firstArgMember _ _) (wpAny_of_eq (a:=bE) (by first | rfl | (simp only[firstArgMember];rfl)) (bW ?_ (by size_fits)))
 simp only[raiseNew];refine ak (wpAny_handled ?_);first | rw[show A.in1.handled=ac from hh] | rw[hh]
 exact ak (aF (wpAny_throw (hE _ _ (((kg ..).extBut.push _).push _) ⟨_,aN _ rfl,rfl⟩)))
def Vo{Q:ao->aw->Prop}(hit:Src b s.heap it l k)(hl:YI b s.heap l xs)(hx:xs[k]? = aa x)
  (hQ:∀h',Src b h' it l (k+1)->eC it s.heap h'->Q x { s with heap:=h' }):aT (bc prog w) A (bB (.ref it)) Q E s:=by
 cases b
 ·exact ue hit hl hx hQ
 ·exact wpAny_nextOf_list_item hit hl hx hQ
def Ga{Q:ao->aw->Prop}(hh:A.handled=ac)(hit:Src b s.heap it l k)(hl:YI b s.heap l xs)(hx:xs[k]? = ac)
  (hE:∀h' e,fN it s.heap h'->(∃o,h'.get? e=aa o/\o.cls=.type "StopIteration")->E (.ref e) { s with heap:=h' }):aT (bc prog w) A (bB (.ref it)) Q E s:=by
 cases b
 ·exact Jt hh hit hl hx hE
 ·exact wpAny_nextOf_list_end hh hit hl hx hE
noncomputable def Yv(b:Bool)(l:ax):dP:={ cls:=.type (if b then "list_iterator" else "tuple_iterator"),data:=.fields #[.ref l,.int 0 0] }
def VE{Q:ao->aw->Prop}(hl:YI b s.heap l xs)(h:Q (.ref s.heap.objs.size) { s with heap:=s.heap.push (Yv b l) }):aT (bc prog w) A (pyIter (.ref l)) Q E s:=by
 cases b
 ·exact eY hl h
 ·exact fm hl h
structure ZipSt(b1 b2:Bool)(z TI TO i1 i2 l1 l2:ax)(k:Nat)(f0:ao)(h:bJ):Prop where
 zp:lU h z TI TO f0
 ti:iH h TI (.ref i1) (.ref i2)
 to:∃a b,iH h TO a b
 s1:Src b1 h i1 l1 k
 s2:Src b2 h i2 l2 k
def Zag{b1 b2:Bool}{z TI TO i1 i2 l1 l2:ax}{k:Nat}{xs ys:Array ao}{x y:ao}{Q:ao->aw->Prop}(D:i3 z TI TO i1 i2 l1 l2)(Z:ZipSt b1 b2 z TI TO i1 i2 l1 l2 k .none s.heap)(hl1:YI b1 s.heap l1 xs)(hl2:YI b2 s.heap l2 ys)(hx:xs[k]? = aa x)(hy:ys[k]? = aa y)
  (hQ:∀h',ZipSt b1 b2 z TI TO i1 i2 l1 l2 (k+1) (fA s.heap.objs.size) h'->iH h' s.heap.objs.size x y->(∀c o,c∉[z,TO,i1,i2]->s.heap.get? c=aa o->h'.get? c=aa o)->Q (.ref s.heap.objs.size) { s with heap:=h' }) :
  aT (bc prog w) A (fI.«zip.__next__» ⟨[.ref z],[]⟩) (λfin s'=>∃v,fin=.done (.ret v)/\Q v s') E s:=by
 obtain⟨hz,hTI,⟨a,b,hTO⟩,h1,h2⟩:=Z;show aT _ _ (field (.ref z) 2 >>= _) _ _ _;refine ak (bX hz rfl (x:=.bool ai) rfl ?_);show aT _ _ (field (.ref z) 3 >>= _) _ _ _;refine ak (bX hz rfl (x:=.ref TI) rfl (ak (du hTI rfl ?_)));show aT _ _ (cx (.ref z) >>= _) _ _ _;refine ak ?_;unfold cx;refine ak (bX hz rfl (x:=.none) rfl (aF ?_));simp only[if_true];refine ak (iG (ak (bX hz rfl (x:=.ref TO) rfl (ak (dv hz (by simp) λh₁ hz₁ hs₁=>?_)))))
 replace hz₁:lU h₁ z TI TO .ellipsis:=by exact hz₁
 refine ak ?_;simp only[lK,l0,iK,mv];refine ak (ak (g7 ?_));show aT _ _ (bB (.ref i1) >>= _) _ _ _;refine ak (Vo (h1.ext hs₁.extBut D.i1z) (hl1.keep λo e=>hs₁.extBut _ o D.l1z e) hx λh₂ h1₂ hs₂=>aF ?_)
 have hTO₂:iH h₂ TO a b:=by exact hs₂.extBut _ _ D.TOi1 (hs₁.extBut _ _ D.TOz hTO)
 refine ak (du hTO₂ rfl (ak (fO hTO₂ λh₃ hTO₃ hs₃=>?_)))
 replace hTO₃:iH h₃ TO x b:=by exact hTO₃
 refine ak (lV (aF (ak (ak (g7 ?_)))));show aT _ _ (bB (.ref i2) >>= _) _ _ _;have to3:∀c o,c≠z->c≠TO->c≠i1->s.heap.get? c=aa o->h₃.get? c=aa o:=λc o c1 c2 c3 e=>hs₃.extBut _ _ c2 (hs₂.extBut _ _ c3 (hs₁.extBut _ _ c1 e))
 refine ak (Vo (h2.keep λo e=>to3 _ o D.i2z D.TOi2.symm D.i12.symm e) (hl2.keep λo e=>to3 _ o D.l2z D.l2TO D.l2i1 e) hy λh₄ h2₄ hs₄=>aF ?_)
 have hTO₄:iH h₄ TO x b:=by exact hs₄.extBut _ _ D.TOi2 hTO₃
 refine ak (du hTO₄ rfl (ak (fO hTO₄ λh₅ hTO₅ hs₅=>?_)))
 replace hTO₅:iH h₅ TO x y:=by exact hTO₅
 refine ak (lV (aF (aF (ak (du hTO₅ rfl (ak (wpAny_newTuple ?_)))))));have hsz:h₅.objs.size=s.heap.objs.size:=by rw[hs₅.1,hs₄.1,hs₃.1,hs₂.1,hs₁.1]
 have to5:∀c o,c≠z->c≠TO->c≠i1->c≠i2->s.heap.get? c=aa o->h₅.get? c=aa o:=λc o c1 c2 c3 c4 e=>hs₅.extBut _ _ c2 (hs₄.extBut _ _ c4 (to3 c o c1 c2 c3 e))
 have hz₅:lU h₅ z TI TO .ellipsis:=by exact hs₅.extBut _ _ D.TOz.symm (hs₄.extBut _ _ D.i2z.symm (hs₃.extBut _ _ D.TOz.symm (hs₂.extBut _ _ D.i1z.symm hz₁)))
 have h1₅:Src b1 h₅ i1 l1 (k+1):=((h1₂.ext hs₃.extBut D.TOi1.symm).ext hs₄.extBut D.i12).ext hs₅.extBut D.TOi1.symm;have h2₅:Src b2 h₅ i2 l2 (k+1):=h2₄.ext hs₅.extBut D.TOi2.symm;have zl:z<h₅.objs.size:=aJ hz₅;show aT _ _ (eL (.ref z) (.ref h₅.objs.size) >>= _) _ _ _;refine ak ?_;unfold eL;have hz₆:lU (h₅.push { cls:=.type "tuple",data:=.seq #[x,y] }) z TI TO .ellipsis:=by exact ar _ hz₅
 refine ak (dv hz₆ (by simp) λh₇ hz₇ hs₇=>?_)
 replace hz₇:lU h₇ z TI TO (fA h₅.objs.size):=by exact hz₇
 refine dv hz₇ (by simp) λh₈ hz₈ hs₈=>aF ⟨_,rfl,?_⟩
 replace hz₈:lU h₈ z TI TO (fA h₅.objs.size):=by exact hz₈
 have up:∀c o,c≠z->h₅.get? c=aa o->h₈.get? c=aa o:=λc o c1 e=>by exact hs₈.extBut _ _ c1 (hs₇.extBut _ _ c1 (ar _ e))
 have hT₈:iH h₈ h₅.objs.size x y:=by exact hs₈.extBut _ _ (iy zl) (hs₇.extBut _ _ (iy zl) (aN _ rfl))
 show Q (.ref h₅.objs.size) _;rw[hsz]at hz₈ hT₈ ⊢;refine hQ h₈ ⟨hz₈,up _ _ D.TIz (to5 _ _ D.TIz D.TITO D.TIi1 D.TIi2 hTI),⟨x,y,up _ _ D.TOz hTO₅⟩,h1₅.keep λo e=>up _ o D.i1z e,h2₅.keep λo e=>up _ o D.i2z e⟩ hT₈ λc o hc e=>?_
 simp only[az,bt,or_false,not_or]at hc;exact up c o hc.1 (to5 c o hc.1 hc.2.1 hc.2.2.1 hc.2.2.2 e)
end
section
variable{prog:bq}{w:bG}{A:bV}{E:ao->aw->Prop}{s:aw}
def QG{b1 b2:Bool}{z TI TO i1 i2 l1 l2:ax}{k:Nat}{xs ys:Array ao}{Q:Fin->aw->Prop}(hh:A.handled=ac)(D:i3 z TI TO i1 i2 l1 l2)(Z:ZipSt b1 b2 z TI TO i1 i2 l1 l2 k .none s.heap)(hl1:YI b1 s.heap l1 xs)(hl2:YI b2 s.heap l2 ys)(hend:xs[k]? = ac\/ys[k]? = ac)
  (hE:∀h' e,(∀c o,c∉[z,TO,i1,i2]->s.heap.get? c=aa o->h'.get? c=aa o)->(∃o,h'.get? e=aa o/\o.cls=.type "StopIteration")->E (.ref e) { s with heap:=h' }) :
  aT (bc prog w) A (fI.«zip.__next__» ⟨[.ref z],[]⟩) Q E s:=by
 obtain⟨hz,hTI,⟨a,b,hTO⟩,h1,h2⟩:=Z;have hk:∀{c:ax},c∉[z,TO,i1,i2]->c≠z/\c≠TO/\c≠i1/\c≠i2:=λhc=>by
  simp only[az,bt,or_false,not_or]at hc;exact hc
 show aT _ _ (field (.ref z) 2 >>= _) _ _ _;refine ak (bX hz rfl (x:=.bool ai) rfl ?_);show aT _ _ (field (.ref z) 3 >>= _) _ _ _;refine ak (bX hz rfl (x:=.ref TI) rfl (ak (du hTI rfl ?_)));show aT _ _ (cx (.ref z) >>= _) _ _ _;refine ak ?_;unfold cx;refine ak (bX hz rfl (x:=.none) rfl (aF ?_));simp only[if_true];refine ak (iG (ak (bX hz rfl (x:=.ref TO) rfl (ak (dv hz (by simp) λh₁ hz₁ hs₁=>?_)))))
 replace hz₁:lU h₁ z TI TO .ellipsis:=by exact hz₁
 refine ak ?_;simp only[lK,l0,iK,mv];refine ak (ak (g7 ?_));show aT _ _ (bB (.ref i1) >>= _) _ _ _;have l1₁:YI b1 h₁ l1 xs:=hl1.keep λo e=>hs₁.extBut _ o D.l1z e
 cases hx:xs[k]? with
 |none=>
  refine ak (Ga hh (h1.ext hs₁.extBut D.i1z) l1₁ hx λh₂ e hs₂ he=>?_)
  obtain⟨oe,hoe,hce⟩:=he;have hz₂:lU h₂ z TI TO .ellipsis:=by exact hs₂ _ _ D.i1z.symm hz₁
  have hez:e≠z:=λx=>by subst x;rw[hz₂]at hoe;cases hoe;simp at hce
  exact dv hz₂ (by simp) λh₃ _ hs₃=>hE h₃ e (λc o hc x=>hs₃.extBut _ _ (hk hc).1 (hs₂ _ _ (hk hc).2.2.1 (hs₁.extBut _ _ (hk hc).1 x))) ⟨oe,hs₃.extBut _ _ hez hoe,hce⟩
 |some x=>
  have hy:ys[k]? = ac:=by rcases hend with q | q;rw[hx]at q;cases q;exact q
  refine ak (Vo (h1.ext hs₁.extBut D.i1z) l1₁ hx λh₂ h1₂ hs₂=>aF ?_)
  have hTO₂:iH h₂ TO a b:=by exact hs₂.extBut _ _ D.TOi1 (hs₁.extBut _ _ D.TOz hTO)
  refine ak (du hTO₂ rfl (ak (fO hTO₂ λh₃ hTO₃ hs₃=>?_)))
  refine ak (lV (aF (ak (ak (g7 ?_)))));show aT _ _ (bB (.ref i2) >>= _) _ _ _;have to3:∀c o,c≠z->c≠TO->c≠i1->s.heap.get? c=aa o->h₃.get? c=aa o:=λc o c1 c2 c3 e=>hs₃.extBut _ _ c2 (hs₂.extBut _ _ c3 (hs₁.extBut _ _ c1 e))
  refine ak (Ga hh (h2.keep λo e=>to3 _ o D.i2z D.TOi2.symm D.i12.symm e) (hl2.keep λo e=>to3 _ o D.l2z D.l2TO D.l2i1 e) hy λh₄ e hs₄ he=>?_)
  obtain⟨oe,hoe,hce⟩:=he;have hz₄:lU h₄ z TI TO .ellipsis:=by exact hs₄ _ _ D.i2z.symm (hs₃.extBut _ _ D.TOz.symm (hs₂.extBut _ _ D.i1z.symm hz₁))
  have hez:e≠z:=λx=>by subst x;rw[hz₄]at hoe;cases hoe;simp at hce
  exact dv hz₄ (by simp) λh₅ _ hs₅=>hE h₅ e (λc o hc x=>hs₅.extBut _ _ (hk hc).1 (hs₄ _ _ (hk hc).2.2.2 (to3 c o (hk hc).1 (hk hc).2.1 (hk hc).2.2.1 x))) ⟨oe,hs₅.extBut _ _ hez hoe,hce⟩
def z6{b1 b2:Bool}{z TI TO i1 i2 l1 l2:ax}{k:Nat}{xs ys:Array ao}{x y:ao}{Q:Option ao->aw->Prop}(D:i3 z TI TO i1 i2 l1 l2)(Z:ZipSt b1 b2 z TI TO i1 i2 l1 l2 k .none s.heap)(hl1:YI b1 s.heap l1 xs)(hl2:YI b2 s.heap l2 ys)(hx:xs[k]? = aa x)(hy:ys[k]? = aa y)
  (hQ:∀h',ZipSt b1 b2 z TI TO i1 i2 l1 l2 (k+1) (fA s.heap.objs.size) h'->iH h' s.heap.objs.size x y->(∀c o,c∉[z,TO,i1,i2]->s.heap.get? c=aa o->h'.get? c=aa o)->Q (aa (.ref s.heap.objs.size)) { s with heap:=h' }) :
  aT (bc prog w) A (kA (.ref z)) Q E s:=by
 have hT:s.TypeIs (.ref z) "zip":=⟨_,Z.zp,rfl⟩;unfold kA;exact ak (wpAny_attempt (cc (name:=dM "__next__") hT fV (df fV hT lL (Zag D Z hl1 hl2 hx hy λh' a1 a2 a3=>aF (hQ h' a1 a2 a3)) (lc _))))
def UU{b1 b2:Bool}{z TI TO i1 i2 l1 l2:ax}{k:Nat}{xs ys:Array ao}{Q:Option ao->aw->Prop}(hh:A.handled=ac)(D:i3 z TI TO i1 i2 l1 l2)(Z:ZipSt b1 b2 z TI TO i1 i2 l1 l2 k .none s.heap)(hl1:YI b1 s.heap l1 xs)(hl2:YI b2 s.heap l2 ys)(hend:xs[k]? = ac\/ys[k]? = ac)
  (hQ:∀h',(∀c o,c∉[z,TO,i1,i2]->s.heap.get? c=aa o->h'.get? c=aa o)->Q ac { s with heap:=h' }):aT (bc prog w) A (kA (.ref z)) Q E s:=by
 have hT:s.TypeIs (.ref z) "zip":=⟨_,Z.zp,rfl⟩;unfold kA;refine ak (wpAny_attempt (cc (name:=dM "__next__") hT fV (df fV hT lL (QG hh D Z hl1 hl2 hend λh' e hk he=>?_) (lc _))))
 obtain⟨o,ho,hc⟩:=he;exact ak (wpAny_isInstance (T:="StopIteration") (b:=ag) ⟨o,ho,hc⟩ isSubtype_stop (aF (hQ _ hk)))
noncomputable def zH1(h:bJ)(b1:Bool)(l1:ax):bJ:=h.push (Yv b1 l1)
noncomputable def zH2(h:bJ)(b1 b2:Bool)(l1 l2:ax):bJ:=(zH1 h b1 l1).push (Yv b2 l2)
noncomputable def zH3(h:bJ)(b1 b2:Bool)(l1 l2:ax):bJ:=(zH2 h b1 b2 l1 l2).push { cls:=.type "tuple",data:=.seq #[.ref h.objs.size,.ref (zH1 h b1 l1).objs.size] }
noncomputable def zH4(h:bJ)(b1 b2:Bool)(l1 l2:ax):bJ:=(zH3 h b1 b2 l1 l2).push { cls:=.type "tuple",data:=.seq #[.none,.none] }
noncomputable def zH5(h:bJ)(b1 b2:Bool)(l1 l2:ax):bJ:=(zH4 h b1 b2 l1 l2).push { cls:=.type "zip",data:=.fields #[.none,.bool ai,.bool ai,.ref (zH2 h b1 b2 l1 l2).objs.size,.ref (zH3 h b1 b2 l1 l2).objs.size] }
def ZaI(b1 b2:Bool)(l1 l2:ax)(xs ys:Array ao) :
  mT (fI.«zip.__new__» ⟨[.type "zip",.ref l1,.ref l2],[]⟩) (λ_ R s=>YI b1 s.heap l1 xs/\YI b2 s.heap l2 ys/\R (.ok (.ret (.ref (zH4 s.heap b1 b2 l1 l2).objs.size))) { s with heap:=zH5 s.heap b1 b2 l1 l2 }):=
 .of_wp λprog w A R s h=>by
  obtain⟨hp,g,d,tk,os⟩:=s;obtain⟨hl1,hl2,h⟩:=h;have hsub:=sub_zip;have hL1:YI b1 (lW ⟨hp,g,d,tk,os⟩) l1 xs:=hl1;have hL2:YI b2 (lW ⟨hp.push (Yv b1 l1),g,d,tk,os⟩) l2 ys:=hl2.keep λo e=>ar _ e
  wp_walk using VE hL1,VE hL2
  exact⟨_,rfl,h⟩
def uo{Q:ao->aw->Prop}(hl1:YI b1 s.heap l1 xs)(hl2:YI b2 s.heap l2 ys)
  (h:∀h' n,n=s.heap.objs.size->ZipSt b1 b2 (n+4) (n+2) (n+3) n (n+1) l1 l2 0 .none h'->(∀c o,s.heap.get? c=aa o->h'.get? c=aa o)->Q (.ref (n+4)) { s with heap:=h' }) :
  aT (bc prog w) A (call (.type "zip") [.ref l1,.ref l2]) Q E s:=by
 refine callType_new F.called_zip (by decide) (F.typeCall_zip_2 _ _) (F.newCall_zip_2 _ _) (λobj=>F.args_object_init_3 obj _ _) F.entry_zip_new (ZaI b1 b2 l1 l2 xs ys) ⟨hl1,hl2,?_⟩
 have z1:(zH1 s.heap b1 l1).objs.size=s.heap.objs.size+1:=dW ..;have z2:(zH2 s.heap b1 b2 l1 l2).objs.size=s.heap.objs.size+2:=by unfold zH2;rw[dW,z1]
 have z3:(zH3 s.heap b1 b2 l1 l2).objs.size=s.heap.objs.size+3:=by unfold zH3;rw[dW,z2]
 have z4:(zH4 s.heap b1 b2 l1 l2).objs.size=s.heap.objs.size+4:=by unfold zH4;rw[dW,z3]
 have g5:(zH5 s.heap b1 b2 l1 l2).get? (zH4 s.heap b1 b2 l1 l2).objs.size=aa { cls:=.type "zip",data:=.fields #[.none,.bool ai,.bool ai,.ref (zH2 s.heap b1 b2 l1 l2).objs.size,.ref (zH3 s.heap b1 b2 l1 l2).objs.size] }:=aN _ rfl;have k4:∀c o,(zH4 s.heap b1 b2 l1 l2).get? c=aa o->(zH5 s.heap b1 b2 l1 l2).get? c=aa o:=λc o e=>ar _ e
 have k3:∀c o,(zH3 s.heap b1 b2 l1 l2).get? c=aa o->(zH5 s.heap b1 b2 l1 l2).get? c=aa o:=λc o e=>k4 c o (ar _ e)
 have k2:∀c o,(zH2 s.heap b1 b2 l1 l2).get? c=aa o->(zH5 s.heap b1 b2 l1 l2).get? c=aa o:=λc o e=>k3 c o (ar _ e)
 have k1:∀c o,(zH1 s.heap b1 l1).get? c=aa o->(zH5 s.heap b1 b2 l1 l2).get? c=aa o:=λc o e=>k2 c o (ar _ e)
 have g4:=k4 _ _ (aN (zH3 s.heap b1 b2 l1 l2) (o:={ cls:=.type "tuple",data:=.seq #[.none,.none] }) rfl);have g3:=k3 _ _ (aN (zH2 s.heap b1 b2 l1 l2) (o:={ cls:=.type "tuple",data:=.seq #[.ref s.heap.objs.size,.ref (zH1 s.heap b1 l1).objs.size] }) rfl);have g2:=k2 _ _ (aN (zH1 s.heap b1 l1) (o:=Yv b2 l2) rfl);have g1:=k1 _ _ (aN s.heap (o:=Yv b1 l1) rfl);rw[z2,z3,z4]at g5;rw[z1,z2]at g3;rw[z3]at g4;rw[z1]at g2;rw[z4];have src:∀b l it,(zH5 s.heap b1 b2 l1 l2).get? it=aa (Yv b l)->Src b (zH5 s.heap b1 b2 l1 l2) it l 0:=λb l it e=>by
  cases b
  ·exact⟨_,e,rfl,rfl⟩
  ·exact⟨_,e,rfl,rfl⟩
 exact⟨⟨_,g5,rfl⟩,h _ _ rfl ⟨g5,g3,⟨_,_,g4⟩,src b1 l1 _ g1,src b2 l2 _ g2⟩ λc o e=>k1 c o (ar _ e)⟩
end
end Sd
namespace Sd
open PySem PySem.Spec PyProof.Rows L2
open Ev (D Ob Zb Lc R E Sm Calls Walk Fl Fn Bop Cop Ty Bf Mf ev evs evo evt evw tst run runs)
def Wy{X:Cx}{pq:List (ax×dP)}{σ:L2.St}{H:Hp}{s:aw}{h':bJ}{t':Nat}{ch:List ax}(I:Inv X pq σ H s)(k:∀b o,b∉ch->s.heap.get? b=aa o->h'.get? b=aa o)(hf:∀b∈ch,VT X pq H b):Inv X pq σ H { s with heap:=h',toks:=t' }:=by
 have nit:∀b u,H b=aa u->b∉ch:=λb u e z=>by have:=(hf b z).1;rw[e]at this;cases this
 refine I.step (g':=s.gens) (d':=s.drawn) (ch:=ch) (λb hb=>?_) (λb o _ _ hc e _=>k b o hc e) (λb o _ _ hc e _=>⟨o.slots,k b o hc e⟩) (λ_ _ _ _ n=>n) (λb o hc e=>⟨o,k b o hc e⟩) (λ_ _ e=>e) (λ_ _ _ e=>e) (λb ps e=>⟨#[],by rw[e];simp⟩) (λm hm=>?_) (λb u e=>?_) I.bare
 ·exact⟨(hf b hb).2.2.2.1,(hf b hb).2.1,(hf b hb).2.2.2.2.1,(hf b hb).2.2.2.2.2⟩
 ·obtain⟨o,es,ep,ho,r⟩:=hm
  exact⟨o,es,ep,k _ o (λz=>(hf _ z).2.1 rfl) ho,r⟩
 ·refine(I.hok b u e).stay (λc v hc q=>k c v ?_ q) (λ_ q=>q) λ_ _ q=>q
  rcases hc with z | z
  ·rw[z];exact nit b u e
  ·exact nit c _ z
def Q2{h:bJ}{o o':dP}{b:ax}(e:(h.push o').get? b=aa o)(n:b≠h.objs.size):h.get? b=aa o:=by
 unfold bJ.get? bJ.push at *;simp only[Array.getElem?_push]at e;rw[T8 n]at e;exact e
def Wk{a b:Nat}(h:a<b\/b<a):(a:ax)≠b:=λe=>by
 have e':(a:Nat)=b:=e;omega
def Sq(b:Bool)(K:aj)(H:Hp)(l:ax)(xs:List V):Prop:=match b with
 |true=>SqL K H l xs
 |false=>SqT K H l xs
section
variable{X:Cx}{pq:List (ax×dP)}{σ:L2.St}{H:Hp}{s:aw}
def Xh(I:Inv X pq σ H s)(h:Sq b X.K H l xs):∃its:List ao,Vals xs its/\YI b s.heap l its.toArray:=by
 cases b
 ·obtain⟨its,r,p,_⟩:=I.tuple h;exact⟨its,r,p⟩
 ·obtain⟨its,r,p,_⟩:=I.list h;exact⟨its,r,p.isList⟩
def zM(I:Inv X pq σ H s)(h:Sq b X.K H l xs)(h':Sq b X.K H l ys):xs=ys:=by
 cases b
 ·exact I.tuple_inj h h'
 ·exact I.list_inj h h'
def W7(x:YI b h l xs):l<h.objs.size:=by
 cases b
 ·obtain⟨o,ho,_⟩:=x;exact aJ ho
 ·obtain⟨o,ho,_⟩:=x;exact aJ ho
end
noncomputable def Itz(K:aj)(b1 b2:Bool)(l1 l2:ax):It:=
 ⟨λi H=>∃xs ys x y,Sq b1 K H l1 xs/\Sq b2 K H l2 ys/\xs[i]? = aa x/\ys[i]? = aa y,
  λi H v H'=>∃T x y,(∀xs,Sq b1 K H l1 xs->xs[i]? = aa x)/\(∀ys,Sq b2 K H l2 ys->ys[i]? = aa y)/\H T=ac/\H'=upd H T (.tup [x,y])/\v=.ref T,
  λi H=>∃xs ys,Sq b1 K H l1 xs/\Sq b2 K H l2 ys/\(xs.length<=i\/ys.length<=i)⟩
def uA{P:bq}{w:bG}{K:aj}{elts:List Expr}{kk:Nat}{tp:dZ}{b1 b2:Bool}{z TI TO i1 i2 l1 l2:ax}(D:i3 z TI TO i1 i2 l1 l2) :
  Turn P w K (.Tuple elts kk tp) (Itz K b1 b2 l1 l2) [z,TI,TO,i1,i2] z (λi h=>ZipSt b1 b2 z TI TO i1 i2 l1 l2 i .none h) where
 mem:=by simp
 obj:=λi h st b hb=>by
  simp only[az,bt,or_false]at hb;obtain⟨a,c,hTO⟩:=st.to;rcases hb with e | e | e | e | e <;> subst e
  ·exact⟨_,st.zp,λv q=>by cases q⟩
  ·exact⟨_,st.ti,λv q=>by cases q⟩
  ·exact⟨_,hTO,λv q=>by cases q⟩
  ·exact st.s1.obj
  ·exact st.s2.obj
 keep:=λi h h' st k=>by
  obtain⟨a,c,hTO⟩:=st.to;exact⟨k z (by simp) _ st.zp,k TI (by simp) _ st.ti,⟨a,c,k TO (by simp) _ hTO⟩,st.s1.keep λo e=>k i1 (by simp) o e,st.s2.keep λo e=>k i2 (by simp) o e⟩
 item:=by
  intro X hP hw hK hc i pq s σ H E I hf st hg;subst hP hw hK;obtain⟨xs,ys,x,y,hq1,hq2,hx,hy⟩:=hg;obtain⟨its,rv,o1⟩:=Xh I hq1;obtain⟨its2,rv2,o2⟩:=Xh I hq2;obtain⟨u,hu,ru⟩:=rv.get hx;obtain⟨u2,hu2,ru2⟩:=rv2.get hy;refine z6 D st o1 o2 (x:=u) (y:=u2) (by simpa using hu) (by simpa using hu2) λh' Z' hT hk=>?_
  have hfree:H s.heap.objs.size=ac:=I.hok.fresh (aD _);have ltz:∀b∈[z,TI,TO,i1,i2],b≠s.heap.objs.size:=λb hb e=>by
   simp only[az,bt,or_false]at hb;obtain⟨a,c,hTO⟩:=st.to;rcases hb with q | q | q | q | q <;> subst q
   ·exact T7 (aJ st.zp) (by rw[e];exact bw _)
   ·exact T7 (aJ st.ti) (by rw[e];exact bw _)
   ·exact T7 (aJ hTO) (by rw[e];exact bw _)
   ·obtain⟨o,ho,_⟩:=st.s1.obj;exact T7 (aJ ho) (by rw[e];exact bw _)
   ·obtain⟨o,ho,_⟩:=st.s2.obj;exact T7 (aJ ho) (by rw[e];exact bw _)
  have IA:Inv X pq σ (upd H s.heap.objs.size (.tup [x,y])) { s with heap:=s.heap.push { cls:=.type "tuple",data:=.seq [u,u2].toArray },toks:=s.toks }:=
   I.laid (λb o e=>ar _ e) (aD _) ⟨by show 2<=aX;decide,[u,u2],.cons ru (.cons ru2 .nil),gn _ _⟩
  have hf2:∀b∈[z,TI,TO,i1,i2],VT X pq (upd H s.heap.objs.size (.tup [x,y])) b:=λb hb=>⟨by rw[Zo (ltz b hb)];exact(hf b hb).1,(hf b hb).2⟩
  have IB:Inv X pq σ (upd H s.heap.objs.size (.tup [x,y])) { s with heap:=h',toks:=s.toks }:=by
   refine Wy (s:={ s with heap:=s.heap.push { cls:=.type "tuple",data:=.seq [u,u2].toArray },toks:=s.toks }) (ch:=[z,TO,i1,i2]) IA (λb o hb e=>?_) λb hb=>hf2 b (by simp only[az,bt,or_false]at hb ⊢;rcases hb with q | q | q | q <;> simp[q])
   by_cases hbs:b=s.heap.objs.size
   ·subst hbs
    have e':(s.heap.push { cls:=.type "tuple",data:=.seq [u,u2].toArray }).get? s.heap.objs.size=aa o:=e;rw[aN _ rfl]at e';cases e';exact hT
   ·refine hk b o hb ?_
    have e':(s.heap.push { cls:=.type "tuple",data:=.seq [u,u2].toArray }).get? b=aa o:=e;have hlt:=aJ e';rw[dW]at hlt;exact Q2 e' hbs
  refine⟨.ref s.heap.objs.size,rfl,wpAny_letOwnedTupleGo_zip (s:={ s with heap:=h' }) Z'.zp λh2 hz2 hs2=>?_⟩
  have IC:Inv X pq σ (upd H s.heap.objs.size (.tup [x,y])) { s with heap:=h2,toks:=s.toks }:=Wy (s:={ s with heap:=h',toks:=s.toks }) (ch:=[z]) IB (λb o hb e=>(hs2.2 b (by simpa using hb)).trans e) λb hb=>hf2 b (by simp only[bp]at hb;simp[hb])
  obtain⟨a,c,hTO⟩:=Z'.to;refine⟨.ref s.heap.objs.size,_,IC,rfl,⟨_,x,y,λzs hz=>by rw[zM I hz hq1];exact hx,λzs hz=>by rw[zM I hz hq2];exact hy,hfree,rfl,rfl⟩,?_,λb hb=>(hf2 b hb).1⟩
  exact⟨hz2,hs2.extBut _ _ D.TIz Z'.ti,⟨a,c,hs2.extBut _ _ D.TOz hTO⟩,Z'.s1.ext hs2.extBut D.i1z,Z'.s2.ext hs2.extBut D.i2z⟩
 done:=by
  intro X hP hw hK hc i pq s σ H E I hf st hg;subst hP hw hK;obtain⟨xs,ys,hq1,hq2,hend⟩:=hg;obtain⟨its,rv,o1⟩:=Xh I hq1;obtain⟨its2,rv2,o2⟩:=Xh I hq2;have e1:=rv.length;have e2:=rv2.length;refine UU (I.ok.hd hc) D st o1 o2 (by rcases hend with q | q;exact .inl (by simp;omega);exact .inr (by simp;omega)) λh' hk=>⟨rfl,Wy (t':=s.toks) (ch:=[z,TO,i1,i2]) I (λb o hb e=>hk b o hb e) λb hb=>hf b (by simp only[az,bt,or_false]at hb ⊢;rcases hb with q | q | q | q <;> simp[q])⟩
 self:=λ_ _ _ _ _ st h=>wpAny_pyIter_zip st.zp h
section
variable{X:Cx}{elts:List Expr}{kk:Nat}{tp:dZ}
def ZeX(K:aj)(ta:TA):TI:=λσ H R=>ta σ H λvs H1=>∃b1 b2 l1 l2,vs=[.ref l1,.ref l2]/\(∃xs,Sq b1 K H1 l1 xs)/\(∃ys,Sq b2 K H1 l2 ys)/\R (Itz K b1 b2 l1 l2) H1
def Zcj{a b:Expr}{ta:TA}{p pos:dZ}(hg:Gl X "zip")(hm:X.mg "zip" = ac)(ha:PA X [a,b] ta)(hs:aC [a,b] X.env=[(ai,bZ a X.env),(ai,bZ b X.env)]:=by rfl)(hs2:aC [b] X.env=[(ai,bZ b X.env)]:=by rfl) :
  PI X (.Tuple elts kk tp) (.Call (.Name "zip" p) [a,b] [] pos) (ZeX X.K ta):=by
 intro pq s σ H R I h;refine Call_ (W5 I hg hm (by rfl) (cZ (thn (ha pos pq s σ H _ I h) λus s1 ⟨vs,H1,I1,r1,q1⟩=>?_) (by rw[hs,hs2]) (by rw[hs2];rfl)))
 obtain⟨b1,b2,l1,l2,e,⟨xs,hq1⟩,⟨ys,hq2⟩,q⟩:=q1;subst e;cases r1 with
 |cons r rr=>
  cases rr with
  |cons r' rr=>
   cases rr;cases r;cases r';obtain⟨its,rv,o1⟩:=Xh I1 hq1;obtain⟨its2,rv2,o2⟩:=Xh I1 hq2;have lt1:=W7 o1;have lt2:=W7 o2;refine uo o1 o2 λh' n hn Z hk=>?_
   have I2:Inv X pq σ H1 { s1 with heap:=h' }:=I1.kept (t':=s1.toks) hk
   have q1:(l1:Nat)<n:=by rw[hn];exact lt1
   have q2:(l2:Nat)<n:=by rw[hn];exact lt2
   have D:i3 (n+4) (n+2) (n+3) n (n+1) l1 l2:=by constructor <;> first | exact Wk (by omega) | exact Wk (.inl (aY q1 (dX n _))) | exact Wk (.inl (aY q2 (dX n _))) | exact Wk (.inl q1) | exact Wk (.inl q2)
   refine wpAny_pyIter_zip (s:={ s1 with heap:=h' }) Z.zp ⟨n+4,[n+4,n+2,n+3,n,n+1],_,_,H1,rfl,I2,uA D,Z,λb hb=>?_,q⟩
   have hbn:s1.heap.objs.size<=b:=by
    rw[<-hn];simp only[az,bt,or_false]at hb;rcases hb with e | e | e | e | e <;> rw[e]
    ·exact dX n 4
    ·exact dX n 2
    ·exact dX n 3
    ·exact aD n
    ·exact dX n 1
   exact I1.fpOk hbn (I1.hok.fresh hbn)
end
def Side(K:aj)(ρ:List ax)(H:Hp)(wk:Walk)(b:Bool)(l:ax):Prop:=∀ρ' S' H',Fut ρ H ρ' H'->St3 K ρ' S' H'->wk.still S'=ag->∃vs,Sq b K H' l vs/\Rq ρ' H' wk.items vs
def Jp{K:aj}{ρ:List ax}{S:Zb}{H:Hp}{x:D}{v:V}{wk:Walk}(st:St3 K ρ S H)(r:Rep ρ H x v)(h:Ev.Ya S x=aa wk):∃b l,v=.ref l/\(∃xs,Sq b K H l xs)/\Side K ρ H wk b l:=by
 cases x with
 |tup ds=>
  obtain⟨a,xs,rfl,hp,rs⟩:=r.tup';cases h;exact⟨ai,a,rfl,⟨xs,SqT.of hp⟩,λρ' S' H' f _ _=>⟨xs,SqT.of (f.tup a xs hp),rs.mono f⟩⟩
 |loc n=>
  obtain⟨a,rfl,hp⟩:=r.loc';have h':(match S[n]? with
   |some (.lst xs)=>aa (Walk.mk xs [(n,xs)])
   |_=>ac)=aa wk:=h
  cases q:S[n]? with
  |none=>rw[q]at h';cases h'
  |some o=>
   rw[q]at h';cases o with
   |lst ds=>
    cases h';obtain⟨a',ha,xs,hx,rs⟩:=st.at q;rw[hp]at ha;cases ha;refine⟨ag,a,rfl,⟨xs,SqL.of hx⟩,λρ' S' H' f st' hs=>?_⟩
    have hn:S'[n]? = aa (.lst ds):=by simpa[Walk.still]using hs
    obtain⟨a',ha,xs',hx',rs'⟩:=st'.at hn;rw[f.at hp]at ha;cases ha;exact⟨xs',SqL.of hx',rs'⟩
   |_=>cases h'
 |_=>cases h
def uv{K:aj}{ρ:List ax}{H:Hp}{v w:Walk}{b1 b2:Bool}{l1 l2:ax}(h1:Side K ρ H v b1 l1)(h2:Side K ρ H w b2 l2):WRel K ρ H ⟨(v.items.zip w.items).map λp=>.tup [p.1,p.2],v.kept++w.kept⟩ (Itz K b1 b2 l1 l2) where
 go:=λi ρ' S' H' f st hs hi=>by
  have hs':v.still S'=ag/\w.still S'=ag:=by
   have:(v.kept++w.kept).all (λp=>ae (S'[p.1]? = aa (.lst p.2)))=ag:=hs
   rw[l4,aB]at this;exact this
  obtain⟨xs,q1,r1⟩:=h1 ρ' S' H' f st hs'.1;obtain⟨ys,q2,r2⟩:=h2 ρ' S' H' f st hs'.2;have hi':i<mV v.items.length w.items.length:=by simpa using hi
  obtain⟨x,g1,rx⟩:=r1.get (ah (show i<v.items.length by omega))
  obtain⟨y,g2,ry⟩:=r2.get (ah (show i<w.items.length by omega))
  refine⟨⟨xs,ys,x,y,q1,q2,g1,g2⟩,λu H'' ⟨T,x',y',e1,e2,hT,eH,eu⟩=>?_⟩
  subst eH eu;have ex:=(e1 xs q1).symm.trans g1;have ey:=(e2 ys q2).symm.trans g2;cases ex;cases ey;refine⟨ZT hT,st.fresh hT,λd hd=>?_⟩
  have hd':((v.items.zip w.items).map λp=>D.tup [p.1,p.2])[i]? = aa d:=hd
  have hz:(v.items.zip w.items)[i]? = aa (v.items[i],w.items[i]):=eJ.mpr ⟨ah (show i<v.items.length by omega),ah (show i<w.items.length by omega)⟩
  rw[bg,hz]at hd';cases hd';exact ZW Zq (Rq.cons (rx.mono (ZT hT)) (Rq.cons (ry.mono (ZT hT)) Rq.nil))
 stop:=λρ' S' H' f st hs=>by
  have hs':v.still S'=ag/\w.still S'=ag:=by
   have:(v.kept++w.kept).all (λp=>ae (S'[p.1]? = aa (.lst p.2)))=ag:=hs
   rw[l4,aB]at this;exact this
  obtain⟨xs,q1,r1⟩:=h1 ρ' S' H' f st hs'.1;obtain⟨ys,q2,r2⟩:=h2 ρ' S' H' f st hs'.2;refine⟨xs,ys,q1,q2,?_⟩;show xs.length<=((v.items.zip w.items).map λp=>D.tup [p.1,p.2]).length\/_
  rw[r1.length,r2.length,aH,dH];omega
section
variable{X:Cx}{xw:Nat->Hp->Prop}{C:Calls}{a b:Expr}{i j:E}{pos p tp:dZ}{elts:List Expr}{kk:Nat}
noncomputable def Zbk(x y:D)(S:Zb):R Walk:=match Ev.Ya S x,Ev.Ya S y with
 |some v,aa w=>.ok ⟨(v.items.zip w.items).map λp=>.tup [p.1,p.2],v.kept++w.kept⟩ S
 |_,_=>.no
def yg(hm:X.mg "zip" = ac)(ha:CA X xw C [a,b] [i,j])(hg:Gl X "zip":=by rfl)(hs:aC [a,b] X.env=[(ai,bZ a X.env),(ai,bZ b X.env)]:=by rfl)(hs2:aC [b] X.env=[(ai,bZ b X.env)]:=by rfl) :
  CW X xw C (.Tuple elts kk tp) (.Call (.Name "zip" p) [a,b] [] pos) (.zip i j):=
 PI.imp (Zcj hg hm ha hs hs2) λσ H Q ⟨ρ,l,S,st,lr,h⟩=>by
  refine⟨ρ,l,S,st,lr,?_⟩;show End X.K xw Rq ρ H _ ((ev C i l S).bind λx S=>((ev C j l S).bind λy S=>(Ev.R.ok [] S).bind λxs S=>.ok (y::xs) S).bind λxs S=>.ok (x::xs) S)
  have h':End X.K xw (WRel X.K) ρ H Q ((ev C i l S).bind λx S=>(ev C j l S).bind λy S=>Zbk x y S):=h
  cases q:ev C i l S with
  |no=>rw[q]at h';exact h'
  |ex c S1=>rw[q]at h';exact h'
  |ok x S1=>
   rw[q]at h';have h2:End X.K xw (WRel X.K) ρ H Q ((ev C j l S1).bind λy S=>Zbk x y S):=h'
   show End X.K xw Rq ρ H _ (((ev C j l S1).bind λy S=>(Ev.R.ok [] S).bind λxs S=>.ok (y::xs) S).bind λxs S=>.ok (x::xs) S)
   cases q2:ev C j l S1 with
   |no=>rw[q2]at h2;exact h2
   |ex c S2=>rw[q2]at h2;exact h2
   |ok y S2=>
    rw[q2]at h2;intro ρ1 H1 vs f1 st1 r1;obtain⟨v,u,rfl,rv,ru⟩:=qo r1;have h3:End X.K xw (WRel X.K) ρ1 H1 Q (Zbk x y S2):=End.mono f1 h2;unfold Zbk at h3;cases e1:Ev.Ya S2 x with
    |none=>rw[e1]at h3;exact False.elim h3
    |some v1=>
     cases e2:Ev.Ya S2 y with
     |none=>rw[e1,e2]at h3;exact False.elim h3
     |some v2=>
      rw[e1,e2]at h3;obtain⟨b1,l1,rfl,s1,d1⟩:=Jp st1 rv e1;obtain⟨b2,l2,rfl,s2,d2⟩:=Jp st1 ru e2;exact⟨b1,b2,l1,l2,rfl,s1,s2,End.ok (rep:=WRel X.K) h3 st1 (uv d1 d2)⟩
end
def Je(hh:A.handled=ac)(b:Bool)(it l:ax)(hne:l≠it)(xs:Array ao) :
  Draws prog w A it [it,l] xs.size (λi v=>xs[i]? = aa v) (λi h=>Src b h it l i/\YI b h l xs) where
 live:=λ_ _ st=>let ⟨o,ho,_⟩:=st.1.obj;⟨o,ho⟩
 frame:=λ_ _ _ st hk=>⟨st.1.keep λo e=>hk it (by simp) o e,st.2.keep λo e=>hk l (by simp) o e⟩
 item:=λi s Q E hi st hQ=>Vo st.1 st.2 (x:=xs[i]) (gJ hi) λh' hit' hs'=>hQ _ h' s.toks (gJ hi) ⟨hit',st.2.keep λo e=>hs'.extBut _ o hne e⟩ hs'
 done:=λs Q E st hE=>Ga hh st.1 st.2 (Array.getElem?_eq_none (aD _)) hE
noncomputable def Ite(K:aj)(b:Bool)(l:ax):It:=
 ⟨λi H=>∃xs x,Sq b K H l xs/\xs[i]? = aa x,
  λi H v H'=>∃T x,(∀xs,Sq b K H l xs->xs[i]? = aa x)/\H T=ac/\H'=upd H T (.tup [.int i,x])/\v=.ref T,
  λi H=>∃xs,Sq b K H l xs/\xs.length=i⟩
def vo{P:bq}{w:bG}{K:aj}{elts:List Expr}{kk:Nat}{tp:dZ}{b:Bool}{e it l:ax}(hei:e≠it)(hle:l≠e)(hli:l≠it) :
  Turn P w K (.Tuple elts kk tp) (Ite K b l) [e,it] e (λi h=>(∃old,IsEnum h e it i old)/\Src b h it l i) where
 mem:=by simp
 obj:=λi h st c hc=>by
  simp only[az,bt,or_false]at hc;obtain⟨⟨old,he⟩,hs⟩:=st;rcases hc with q | q <;> subst q
  ·exact⟨_,he,λv q=>by cases q⟩
  ·exact hs.obj
 keep:=λi h h' st k=>by
  obtain⟨⟨old,he⟩,hs⟩:=st;exact⟨⟨old,k e (by simp) _ he⟩,hs.keep λo q=>k it (by simp) o q⟩
 item:=by
  intro X hP hw hK hc i pq s σ H E I hf st hg;subst hP hw hK;obtain⟨xs,x,hq,hx⟩:=hg;obtain⟨its,rv,o1⟩:=Xh I hq;obtain⟨⟨old,he⟩,hs⟩:=st;obtain⟨u,hu,ru⟩:=rv.get hx;have hlt:i<its.toArray.size:=by
   have:=(ay.mp hu).1
   simpa using this
  have hh:X.A.in1.handled=ac:=I.ok.hd hc;refine wpAny_pyNext_enum_itemD (Je hh b it l hli its.toArray) he ⟨hs,o1⟩ hlt hei (by simp only[az,bt,or_false,not_or];exact⟨hei,Ne.symm hle⟩) λx' h' tk hP ho hst hT hsz hk=>?_
  have ex:x'=u:=by
   have:its.toArray[i]? = aa u:=by simpa using hu
   rw[this]at hP;exact(af hP).symm
  subst ex;have hfree:H s.heap.objs.size=ac:=I.hok.fresh (aD _);have ltz:∀c∈[e,it],c≠s.heap.objs.size:=λc hc q=>by
   simp only[az,bt,or_false]at hc;rcases hc with z | z <;> subst z
   ·exact T7 (aJ he) (by rw[q];exact bw _)
   ·obtain⟨o,ho,_⟩:=hs.obj;exact T7 (aJ ho) (by rw[q];exact bw _)
  have IA:Inv X pq σ (upd H s.heap.objs.size (.tup [.int i,x])) { s with heap:=s.heap.push { cls:=.type "tuple",data:=.seq [.int i tk,x'].toArray },toks:=tk+1 }:=
   I.laid (λc o q=>ar _ q) (aD _) ⟨by show 2<=aX;decide,[.int i tk,x'],.cons ⟨tk,rfl⟩ (.cons ru .nil),gn _ _⟩
  have hf2:∀c∈[e,it],VT X pq (upd H s.heap.objs.size (.tup [.int i,x])) c:=λc hc=>⟨by rw[Zo (ltz c hc)];exact(hf c hc).1,(hf c hc).2⟩
  have IB:Inv X pq σ (upd H s.heap.objs.size (.tup [.int i,x])) { s with heap:=h',toks:=tk+1 }:=by
   refine Wy (s:={ s with heap:=s.heap.push { cls:=.type "tuple",data:=.seq [.int i tk,x'].toArray },toks:=tk+1 }) (ch:=[e,it]) IA (λc o hc q=>?_) hf2
   by_cases hcs:c=s.heap.objs.size
   ·subst hcs
    have q':(s.heap.push { cls:=.type "tuple",data:=.seq [.int i tk,x'].toArray }).get? s.heap.objs.size=aa o:=q;rw[aN _ rfl]at q';cases q';exact hT
   ·simp only[az,bt,or_false,not_or]at hc
    exact hk c o hc.1 hc.2 (Q2 q hcs)
  refine⟨.ref s.heap.objs.size,rfl,wpAny_letOwnedTupleGo_enum (s:={ s with heap:=h',toks:=tk+1 }) ho λh2 he2 hs2=>?_⟩
  have IC:Inv X pq σ (upd H s.heap.objs.size (.tup [.int i,x])) { s with heap:=h2,toks:=tk+1 }:=Wy (s:={ s with heap:=h',toks:=tk+1 }) (ch:=[e]) IB (λc o hc q=>(hs2.2 c (by simpa using hc)).trans q) λc hc=>hf2 c (by simp only[bp]at hc;simp[hc])
  refine⟨.ref s.heap.objs.size,_,IC,rfl,⟨_,x,λzs hz=>by rw[zM I hz hq];exact hx,hfree,rfl,rfl⟩,⟨⟨x',by simpa using he2⟩,hst.1.ext hs2.extBut (Ne.symm hei)⟩,λc hc=>(hf2 c hc).1⟩
 done:=by
  intro X hP hw hK hc i pq s σ H E I hf st hg;subst hP hw hK;obtain⟨xs,hq,hend⟩:=hg;obtain⟨its,rv,o1⟩:=Xh I hq;obtain⟨⟨old,he⟩,hs⟩:=st;have e1:=rv.length;have hh:X.A.in1.handled=ac:=I.ok.hd hc;have en:i=its.toArray.size:=by simp;omega
  subst en;exact wpAny_pyNext_enum_endD (Je hh b it l hli its.toArray) he ⟨hs,o1⟩ λh' hx=>⟨rfl,Wy (t':=s.toks) (ch:=[e,it]) I (λc o hc q=>hx c o (λz=>hc (by simp[z])) q) hf⟩
 self:=λ_ _ _ _ _ st h=>by
  obtain⟨⟨old,he⟩,_⟩:=st;exact lf he h
section
variable{prog:bq}{w:bG}{A:bV}{E:ao->aw->Prop}{s:aw}
def ul(l:ax)(items:Array ao)(n:Nat)(dct:Option ax)(sl:Array (Option ao)) :
  mT (fI.«enumerate.__new__» ⟨[.type "enumerate",.ref l],[]⟩) (λ_ R s=>s.heap.get? l=aa { cls:=.type "tuple",dict:=dct,data:=.seq items n,slots:=sl }/\
   R (.ok (.ret (.ref (s.heap.push (Yv ai l)).objs.size))) { s with heap:=(s.heap.push (Yv ai l)).push { cls:=.type "enumerate",data:=.fields #[.none,.bool ai,.ref s.heap.objs.size,fA 0,.none,.none] } }):=
 .of_wp λprog w A R s h=>by
  obtain⟨hp,g,d,tk,os⟩:=s;obtain⟨hl,h⟩:=h;have hsub:=sub_enumerate;have hL:bJ.IsTuple (lW ⟨hp,g,d,tk,os⟩) l items:=⟨_,hl,rfl,n,rfl⟩
  wp_walk using eT hl;refine wpAny_stack_any λst=>aF ?_;split
  ·rename_i c _ _ _ _ _;cases(c == ao.type "enumerate") <;> (wp_walk using eT hl,eY hL;exact⟨_,rfl,h⟩)
  ·wp_walk using eT hl,eY hL;exact⟨_,rfl,h⟩
def vi{Q:ao->aw->Prop}(hL:YI b s.heap l xs)
  (h:∀h' n,n=s.heap.objs.size->IsEnum h' (n+1) n 0 .none->Src b h' n l 0->(∀c o,s.heap.get? c=aa o->h'.get? c=aa o)->Q (.ref (n+1)) { s with heap:=h' }):aT (bc prog w) A (call (.type "enumerate") [.ref l]) Q E s:=by
 cases b with
 |true=>exact call_enumerate_list hL λh' a1 a2 _ a4=>h h' _ rfl a1 a2 a4
 |false=>
  obtain⟨⟨c,dct,dt,sl⟩,hl,hc,n,hd⟩:=hL;simp only at hc hd;subst hc hd;refine callType_new F.called_enumerate (by decide) (F.typeCall_enumerate_1 _) (F.newCall_enumerate_1 _) (λobj=>F.args_object_init_2 obj _) F.entry_enumerate_new (ul l xs n dct sl) ⟨hl,?_⟩
  have hz:(s.heap.push (Yv ai l)).objs.size=s.heap.objs.size+1:=dW ..;have g2:=aN (s.heap.push (Yv ai l)) (o:={ cls:=.type "enumerate",data:=.fields #[.none,.bool ai,.ref s.heap.objs.size,fA 0,.none,.none] }) rfl;have g1:((s.heap.push (Yv ai l)).push { cls:=.type "enumerate",data:=.fields #[.none,.bool ai,.ref s.heap.objs.size,fA 0,.none,.none] }).get? s.heap.objs.size=aa (Yv ai l):=ar _ (aN _ rfl);rw[hz]at g2 ⊢;exact⟨⟨_,g2,rfl⟩,h _ _ rfl g2 ⟨_,g1,rfl,rfl⟩ λc o q=>ar _ (ar _ q)⟩
end
section
variable{X:Cx}{elts:List Expr}{kk:Nat}{tp:dZ}
def Zeb(K:aj)(ta:TA):TI:=λσ H R=>ta σ H λvs H1=>∃b l,vs=[.ref l]/\(∃xs,Sq b K H1 l xs)/\R (Ite K b l) H1
def Za0{a:Expr}{ta:TA}{p pos:dZ}(hg:Gl X "enumerate")(hm:X.mg "enumerate" = ac)(ha:PA X [a] ta)(hs:aC [a] X.env=[(ai,bZ a X.env)]:=by rfl):PI X (.Tuple elts kk tp) (.Call (.Name "enumerate" p) [a] [] pos) (Zeb X.K ta):=by
 intro pq s σ H R I h;refine Call_ (W5 I hg hm (by rfl) (cZ (thn (ha pos pq s σ H _ I h) λus s1 ⟨vs,H1,I1,r1,q1⟩=>?_) hs rfl))
 obtain⟨b,l,e,⟨xs,hq⟩,q⟩:=q1;subst e;cases r1 with
 |cons r rr=>
  cases rr;cases r;obtain⟨its,rv,o1⟩:=Xh I1 hq;have lt1:=W7 o1;refine vi o1 λh' n hn he hs' hk=>?_
  have I2:Inv X pq σ H1 { s1 with heap:=h' }:=I1.kept (t':=s1.toks) hk
  have q1:(l:Nat)<n:=by rw[hn];exact lt1
  refine lf (s:={ s1 with heap:=h' }) he ⟨n+1,[n+1,n],_,_,H1,rfl,I2,vo (Wk (.inr (fE n))) (Wk (.inl (dN q1))) (Wk (.inl q1)),⟨⟨_,he⟩,hs'⟩,λc hc=>?_,q⟩
  have hbn:s1.heap.objs.size<=c:=by
   rw[<-hn];simp only[az,bt,or_false]at hc;rcases hc with e | e <;> rw[e]
   ·exact lX n
   ·exact aD n
  exact I1.fpOk hbn (I1.hok.fresh hbn)
end
def uc{K:aj}{ρ:List ax}{H:Hp}{w:Walk}{b:Bool}{l:ax}(h1:Side K ρ H w b l):WRel K ρ H ⟨(Ev.ZB 0 w.items.length).zip w.items |>.map λp=>.tup [p.1,p.2],w.kept⟩ (Ite K b l) where
 go:=λi ρ' S' H' f st hs hi=>by
  obtain⟨xs,q1,r1⟩:=h1 ρ' S' H' f st hs;have hi':i<w.items.length:=by
   have:i<(((Ev.ZB 0 w.items.length).zip w.items).map λp=>D.tup [p.1,p.2]).length:=hi
   rw[aH,dH,WD]at this;omega
  obtain⟨x,g1,rx⟩:=r1.get (ah hi');refine⟨⟨xs,x,q1,g1⟩,λu H'' ⟨T,x',e1,hT,eH,eu⟩=>?_⟩
  subst eH eu;have ex:=(e1 xs q1).symm.trans g1;cases ex;refine⟨ZT hT,st.fresh hT,λd hd=>?_⟩
  have hd':(((Ev.ZB 0 w.items.length).zip w.items).map λp=>D.tup [p.1,p.2])[i]? = aa d:=hd
  have hz:((Ev.ZB 0 w.items.length).zip w.items)[i]? = aa (.int (0+i),w.items[i]):=eJ.mpr ⟨zr hi',ah hi'⟩;rw[bg,hz]at hd';cases hd';refine ZW Zq (Rq.cons ?_ (Rq.cons (rx.mono (ZT hT)) Rq.nil));have:((0:Int)+i)=i:=by omega
  show Rep _ _ (D.int (0+i)) (V.int i);rw[this];exact Zp _
 stop:=λρ' S' H' f st hs=>by
  obtain⟨xs,q1,r1⟩:=h1 ρ' S' H' f st hs;refine⟨xs,q1,?_⟩;show xs.length=(((Ev.ZB 0 w.items.length).zip w.items).map λp=>D.tup [p.1,p.2]).length
  rw[aH,dH,WD,r1.length];omega
section
variable{X:Cx}{xw:Nat->Hp->Prop}{C:Calls}{a b:Expr}{i j:E}{pos p tp:dZ}{elts:List Expr}{kk:Nat}
def JW(hm:X.mg "enumerate" = ac)(ha:CA X xw C [a] [i])(hg:Gl X "enumerate":=by rfl)(hs:aC [a] X.env=[(ai,bZ a X.env)]:=by rfl) :
  CW X xw C (.Tuple elts kk tp) (.Call (.Name "enumerate" p) [a] [] pos) (.enum i):=
 PI.imp (Za0 hg hm ha hs) λσ H Q ⟨ρ,l,S,st,lr,h⟩=>by
  refine⟨ρ,l,S,st,lr,?_⟩;show End X.K xw Rq ρ H _ ((ev C i l S).bind λx S=>(Ev.R.ok [] S).bind λxs S=>.ok (x::xs) S)
  have h':End X.K xw (WRel X.K) ρ H Q ((ev C i l S).bind λx S=>match Ev.Ya S x with
   |some w=>.ok ⟨(Ev.ZB 0 w.items.length).zip w.items |>.map λp=>.tup [p.1,p.2],w.kept⟩ S
   |none=>.no):=h
  cases q:ev C i l S with
  |no=>rw[q]at h';exact h'
  |ex c S1=>rw[q]at h';exact h'
  |ok x S1=>
   rw[q]at h';intro ρ1 H1 vs f1 st1 r1;obtain⟨v,rfl,r⟩:=Xg r1;have h3:End X.K xw (WRel X.K) ρ1 H1 Q (match Ev.Ya S1 x with
    |some w=>.ok ⟨(Ev.ZB 0 w.items.length).zip w.items |>.map λp=>.tup [p.1,p.2],w.kept⟩ S1
    |none=>.no):=End.mono f1 (show End X.K xw (WRel X.K) ρ H Q _ from h')
   cases e1:Ev.Ya S1 x with
   |none=>rw[e1]at h3;exact False.elim h3
   |some wk=>
    rw[e1]at h3;obtain⟨b1,l1,rfl,s1,d1⟩:=Jp st1 r e1;exact⟨b1,l1,rfl,s1,End.ok (rep:=WRel X.K) h3 st1 (uc d1)⟩
end
def QX(hh:A.handled=ac)(b:Bool)(it l:ax)(hne:l≠it)(xs:Array ao) :
  Walks prog w A it [it,l] [it] xs.size (λi v=>xs[i]? = aa v) (λi h=>Src b h it l i/\YI b h l xs):=by
 cases b
 ·exact Walks.tuple hh it l hne xs
 ·exact Walks.list hh it l hne xs
def xV{b:Bool}{h:bJ}{l:ax}:Src b (h.push (Yv b l)) h.objs.size l 0:=by
 cases b
 ·exact⟨_,aN _ rfl,rfl,rfl⟩
 ·exact⟨_,aN _ rfl,rfl,rfl⟩
def Zeg{K:aj}{H:Hp}{p:ax}{xs:List V}(h:SqL K H p xs\/SqT K H p xs):∃b,Sq b K H p xs:=by
 rcases h with h | h
 ·exact⟨ag,h⟩
 ·exact⟨ai,h⟩
section
variable{X:Cx}{xw:Nat->Hp->Prop}{C:Calls}{e a b c:Expr}{i j k:E}{pos p p' p2:dZ}
def vG(hc:X.calm=ag):ZO X (.builtin "any") (λvs H Q=>∃ρ S ds x bs,St3 X.K ρ S H/\Rq ρ H [x] vs/\Ev.Y0 S x=aa ds/\Ev.Yt ds=aa bs/\Q (.bl (bs.any id)) H):=by
 intro pq s σ H vs us Q I r h;obtain⟨ρ,S,ds,x,bs,st,rs,hl,hb,q⟩:=h;obtain⟨v,rfl,r1⟩:=Xg rs;obtain⟨l,xs,rfl,hsq,rx⟩:=V1 st r1 hl;obtain⟨kb,hq⟩:=Zeg hsq;obtain⟨u,rfl,ru⟩:=VD r;cases ru;obtain⟨its,rv,o1⟩:=Xh I hq;obtain⟨lb,tb⟩:=WX hb;have hlt:=W7 o1;have hlen:its.toArray.size=bs.length:=by rw[au,<-rv.length,rx.length,lb]
 refine call_any_walk (VE o1 ⟨s.heap.objs.size,[s.heap.objs.size,l],[s.heap.objs.size],its.toArray.size,_,_,λj=>bs.getD j ai,rfl,QX (A:=X.A.in1) (show X.A.in1.handled=ac from I.ok.hd hc) kb s.heap.objs.size l (br hlt) its.toArray,⟨xV,o1.keep λo q=>ar _ q⟩,?_,?_⟩)
 ·intro j v s' Q' E' hv hQ'
  have hj:its[j]? = aa v:=by simpa using hv
  have jl:j<ds.length:=by
   have:=(ay.mp hj).1;rw[<-rv.length,rx.length]at this;exact this
  obtain⟨w',g,r'⟩:=rx.get (ah jl);obtain⟨u',g',ru'⟩:=rv.get g;rw[hj]at g';cases g';exact Vh r' ru' (tb j _ (ah jl)) s' Q' E' hQ'
 ·intro h' tk hk
  rw[hlen,vx];exact⟨.bl (bs.any id),H,I.kept (t':=tk) λb o e=>hk b o (λhm=>by
   have:b=s.heap.objs.size:=by simpa using hm
   exact T7 (this▸aJ e) (bw _)) (ar _ e),rfl,q⟩
def xq(hc:X.calm=ag):ZO X (.builtin "any") (Uh X.K xw .any):=ZO.imp (vG hc) λvs H Q ⟨ρ,S,ds,st,r,h⟩=>by
 match ds,r,h with
 |[x],r,h=>
  obtain⟨xs,hx,h1⟩:=End.ob (show End X.K xw Rep ρ H Q ((Ev.ob (Ev.Y0 S x) S).bind λxs S=>(Ev.ob (Ev.Yt xs) S).bind λbs S=>.ok (.bl (bs.any id)) S)from h)
  obtain⟨bs,hb,h2⟩:=End.ob h1;exact⟨ρ,S,xs,x,bs,st,r,hx,hb,End.ok h2 st (Zz _)⟩
 |[],r,h=>exact False.elim h
 |_::_::_,r,h=>exact False.elim h
theorem Qa :∀{ds:List D}{is:List Int}{xs:List V},Ev.YT ds=aa is->Rq ρ H ds xs->xs=is.map V.int
 |[],is,xs,h,r=>by unfold Rq at r;cases h;rw[r];rfl
 |d::ds,is,xs,h,r=>by
  unfold Rq at r;obtain⟨v,vs,rfl,a1,b1⟩:=r;cases d with
  |int n=>
   have h':(Ev.YT ds).map (n :: ·)=aa is:=h
   cases q:Ev.YT ds with
   |none=>rw[q]at h';cases h'
   |some k'=>
    rw[q]at h';have e:n::k'=is:=af h';rw[<-e,a1.int',Qa q b1];rfl
  |_=>cases h
def UJ(f:Nat->Int)(n:Nat):lM f (n+1)=lM f n+f n:=rfl
def ze:∀(is:List Int),lM (λj=>is.getD j 0) is.length=is.sum:=by
 have gen:∀(is:List Int)(n:Nat),n<=is.length->lM (λj=>is.getD j 0) n=(is.take n).sum:=by
  intro is n
  induction n with
  |zero=>intro _;rfl
  |succ n ih=>
   intro h;rw[UJ,ih (by omega),List.take_add_one,List.sum_append]
   have:is[n]? = aa is[n]:=ah (by omega)
   simp[this]
 intro is;rw[gen is is.length (aD _),h7]
theorem Va(h:∀j,-M<=f j/\f j<=M)(hM:0<=M):∀n:Nat,-(M*n)<=lM f n/\lM f n<=M*n
 |0=>by rw[show lM f 0=0 from rfl];simp
 |n+1=>by
  obtain⟨a,b⟩:=Va h hM n;obtain⟨c,d⟩:=h n;rw[UJ];have:M*((n+1:Nat):Int)=M*n+M:=by rw[l6,Int.mul_add];simp
  rw[this];omega
def vK(hc:X.calm=ag):ZO X (.builtin "sum") (λvs H Q=>∃ρ S ds n is,St3 X.K ρ S H/\Rq ρ H [.loc n] vs/\Ev.Zi S n=aa ds/\Ev.YT ds=aa is/\Ev.XR is=ag/\Q (.int is.sum) H):=by
 intro pq s σ H vs us Q I r h;obtain⟨ρ,S,ds,n,is,st,rs,hl,hb,hok,q⟩:=h;obtain⟨v,rfl,r1⟩:=Xg rs;obtain⟨_,l,xs,q1,hx,rx⟩:=st.lst hl;obtain⟨p',rfl,t⟩:=r1.loc';rw[q1]at t;cases t;obtain⟨u,rfl,ru⟩:=VD r;cases ru;have hq:Sq ag X.K H l xs:=SqL.of hx;obtain⟨its,rv,o1⟩:=Xh I hq;have hlt:=W7 o1;have ex:=Qa hb rx;subst ex;have hlen:its.toArray.size=is.length:=by rw[au,<-rv.length,aH]
 obtain⟨k1,k2⟩:=(aB _ _).mp hok;have k1':=T6 k1;have bd:∀j,-1099511627776<=is.getD j 0/\is.getD j 0<=1099511627776:=λj=>by
  cases e:is[j]? with
  |none=>rw[aG,e];simp
  |some y=>
   have:=T6 (aU.mp k2 y (cD e));rw[aG,e];exact this
 refine call_sum_walk (VE o1 ⟨s.heap.objs.size,[s.heap.objs.size,l],[s.heap.objs.size],its.toArray.size,_,_,λj=>is.getD j 0,rfl,QX (A:=X.A.in1) (show X.A.in1.handled=ac from I.ok.hd hc) ag s.heap.objs.size l (br hlt) its.toArray,⟨xV,o1.keep λo q=>ar _ q⟩,λb hb=>?_,λj v hv=>?_,λj hj=>?_,?_⟩)
 ·rw[dW]
  simp only[az,bt,or_false]at hb;rcases hb with q | q <;> rw[q]
  ·exact fE _
  ·exact dN hlt
 ·have hj:its[j]? = aa v:=by simpa using hv
  have jl:j<is.length:=by
   have:=(ay.mp hj).1;rw[<-rv.length,aH]at this;exact this
  obtain⟨u',g',ru'⟩:=rv.get (i:=j) (show(is.map V.int)[j]? = aa (V.int is[j]) by rw[bg,ah jl];rfl)
  rw[hj]at g';cases g';obtain⟨t,e⟩:=ru';exact⟨t,by rw[e];show fz is[j] t=fz (is.getD j 0) t;rw[aG,ah jl];rfl⟩
 ·have b1:=bd j
  have b2:=Va bd (by omega) (j+1)
  have jl:j+1<=1000:=by omega
  have b3:(1099511627776:Int)*((j+1:Nat):Int)<=1099511627776*1000:=Int.mul_le_mul_of_nonneg_left (by omega) (by omega)
  refine⟨show InLong (is.getD j 0)from ?_,?_⟩ <;> (unfold InLong;omega)
 ·intro h' tk t' hk
  rw[hlen,ze];exact⟨.int is.sum,H,I.kept (t':=tk) λb o e=>hk b o (λhm=>by
   have:b=s.heap.objs.size:=by simpa using hm
   exact T7 (this▸aJ e) (bw _)) (ar _ e),⟨t',rfl⟩,q⟩
def xa(hc:X.calm=ag):ZO X (.builtin "sum") (Uh X.K xw .sum):=ZO.imp (vK hc) λvs H Q ⟨ρ,S,ds,st,r,h⟩=>by
 have hn:∃n,ds=[.loc n]:=by
  rcases ds with _ | ⟨d,_ | ⟨e,t⟩⟩
  ·exact False.elim h
  ·cases d <;> first | exact⟨_,rfl⟩ | exact False.elim h
  ·cases d <;> exact False.elim h
 obtain⟨n,rfl⟩:=hn
 obtain⟨xs,hx,h1⟩:=End.ob (show End X.K xw Rep ρ H Q ((Ev.ob (Ev.Zi S n) S).bind λxs S=>(Ev.ob (Ev.YT xs) S).bind λis S=>if Ev.XR is=ag then .ok (.int is.sum) S else .no)from h)
 obtain⟨is,hb,h2⟩:=End.ob h1;obtain⟨hs,h3⟩:=End.guard h2;exact⟨ρ,S,xs,n,is,st,r,hx,hb,hs,End.ok h3 st (Zp _)⟩
def VJ{o:Expr}{io:E}{apos cpos:dZ}(ho:CE X xw C o io)(ha:CA X xw C [e] [i])
  (hbase:ku o "extend" X.env (bZ o X.env)=bZ o X.env:=by rfl)
  (hfew:((cK cpos (aC [e] X.env)).all (λx=>!x.1)&&(backToKw cpos (lT [] X.env)).all (λx=>x.1.isSome)
   && ae (([e]:List Expr).length+([]:List kZ).length+(if([]:List kZ).isEmpty then 0 else 1)<30))=ag:=by rfl)
  (hline:(apos.endLine == cpos.line)=ag:=by rfl)(hs:aC [e] X.env=(ai,bZ e X.env)::aC [] X.env:=by rfl)(hplain:(cK cpos (aC [] X.env)).any (·.1)=ai:=by rfl) :
  CE X xw C (.Call (.Attribute o "extend" apos) [e] [] cpos) (.mt .extend io [i]):=
 PE.imp (GQ cW PySem.F.slot_list_extend PySem.F.type_list_extend vO ho ha hbase hfew hline hs hplain) λσ H Q ⟨ρ,l,S,st,lr,h⟩=>by
  have h':End X.K xw Rep ρ H Q ((ev C io l S).bind λx S=>if Ev.UQ S x=ag then(evs C [i] l S).bind λxs S=>Ev.WU .extend x xs S else .no):=h
  refine⟨ρ,l,S,st,lr,h'.bind λx S1 ρ1 H1 v f1 st1 r1 h1=>?_⟩
  obtain⟨hl,h1⟩:=h1.guard;cases x with
  |loc n=>
   obtain⟨p,rfl,hp⟩:=r1.loc';obtain⟨ds,hds⟩:=bI.mp (show(Ev.Zi S1 n).isSome=ag from hl)
   obtain⟨_,p',xs,q1,hx,_⟩:=st1.lst hds;rw[hp]at q1;cases q1;refine⟨.inl ⟨rfl,xs,SqL.of hx⟩,ρ1,l,S1,st1,lr.mono f1,h1.bind λys S2 ρ2 H2 vs f2 st2 r2 h2=>?_⟩
   match ys,r2,h2 with
   |[.loc m],r2,h2=>
    obtain⟨w,rfl,rw'⟩:=Xg r2;obtain⟨pm,rfl,hpm⟩:=rw'.loc';have h2':End X.K xw Rep ρ2 H2 Q (if n=m then .no else(Ev.ob (Ev.Zi S2 n) S2).bind λxs S=>(Ev.ob (Ev.Zi S m) S).bind λys S=>if xs.length+ys.length<=Ev.lim then .ok .non (S.set n (.lst (xs++ys)))else .no):=h2
    by_cases hnm:n=m
    ·rw[T9 hnm]at h2';exact False.elim h2'
    ·rw[T8 hnm]at h2'
     obtain⟨zs,hz,h3⟩:=End.ob h2';obtain⟨ws,hw,h4⟩:=End.ob h3;obtain⟨hlen,h5⟩:=h4.guard;obtain⟨sn,p2,zs',q2,hz2,rz⟩:=st2.lst hz;rw[f2.at hp]at q2;cases q2;obtain⟨sm,p3,ws',q3,hw2,rw2⟩:=st2.lst hw;rw[hpm]at q3;cases q3;refine⟨p,pm,zs',ws',rfl,rfl,hz2,hw2,by rw[rz.length,rw2.length,<-WV];exact hlen,?_⟩
     exact h5 ρ2 _ .non (Y4 hz2) (st2.wr (f2.at hp) sn hz2 (rz.append rw2)) YF
   |[.non],r2,h2=>exact False.elim h2
   |[.bl _],r2,h2=>exact False.elim h2
   |[.int _],r2,h2=>exact False.elim h2
   |[.str _],r2,h2=>exact False.elim h2
   |[.tup _],r2,h2=>exact False.elim h2
   |[],r2,h2=>exact False.elim h2
   |d::_::_,r2,h2=>cases d <;> exact False.elim h2
  |_=>exact T7 hl (by simp[Ev.UQ])
end
end Sd
namespace Sq
open PySem PySem.W PyProof.Rows
noncomputable def evT{α:Type}(n:Nat)(lt:Nat->Nat->Bool):KasT α->Option α
 |.ret a=>aa a
 |.ask i j k=>if i<n/\j<n then evT n lt (k (lt i j))else ac
def WG{α:Type}{n:Nat}{lt:Nat->Nat->Bool}{i j:Nat}{k:Bool->KasT α}(c:i<n/\j<n):evT n lt (.ask i j k)=evT n lt (k (lt i j)):=by
 show(if i<n/\j<n then evT n lt (k (lt i j))else ac)=_
 rw[T9 c]
theorem XU{α β:Type}{n:Nat}{lt:Nat->Nat->Bool}{f:α->KasT β}:∀{t:KasT α}{a:α},evT n lt t=aa a->evT n lt (t.bind f)=evT n lt (f a)
 |.ret a,b,h=>by cases h;rfl
 |.ask i j k,b,h=>by
  unfold evT at h;by_cases c:i<n/\j<n
  ·rw[T9 c]at h
   show evT n lt (.ask i j λb=>(k b).bind f)=_
   rw[WG c];exact XU h
  ·rw[T8 c]at h;cases h
theorem qL{α:Type}{cmp:Nat->Nat->(Bool->aw->Prop)->aw->Prop}{G:α->aw->Prop}(hc:∀i j,i<n->j<n->∀C:Bool->aw->Prop,C (lt i j) s->cmp i j C s) :
  ∀{t:KasT α}{a:α},evT n lt t=aa a->G a s->t.kasWp cmp G s
 |.ret a,b,h,g=>by cases h;exact g
 |.ask i j k,b,h,g=>by
  unfold evT at h;by_cases c:i<n/\j<n
  ·rw[T9 c]at h
   exact hc i j c.1 c.2 _ (qL hc h g)
  ·rw[T8 c]at h;cases h
structure Ord(n:Nat)(lt:Nat->Nat->Bool):Prop where
 tot:∀i j,i<n->j<n->i≠j->lt i j=ai->lt j i=ag
 asy:∀i j,i<n->j<n->lt i j=ag->lt j i=ai
 tr:∀i j k,i<n->j<n->k<n->lt i j=ag->lt j k=ag->lt i k=ag
noncomputable abbrev g(p:Array Nat)(i:Nat):Nat:=p.getD i 0
def Pm(n:Nat)(p:Array Nat):Prop:=p.Perm (c7 (aI n))
theorem Pm.size{n:Nat}{p:Array Nat}(h:Pm n p):p.size=n:=by have:=Array.Perm.size_eq h;simpa using this
def qS(h:i<p.size):p[i]? = aa (g p i):=by simp[g,h]
def Pm.lt{n:Nat}{p:Array Nat}(h:Pm n p){i:Nat}(hi:i<n):g p i<n:=by
 have hs:=h.size;have h1:g p i∈p.toList:=by
  have:p.toList[i]? = aa (g p i):=by rw[dC];exact qS (by omega)
  exact cD this
 have h2:p.toList.Perm (aI n):=by simpa using dw.mp h
 exact bF.mp (h2.mem_iff.mp h1)
def Pm.inj{n:Nat}{p:Array Nat}(h:Pm n p){i j:Nat}(hi:i<n)(hj:j<n)(e:g p i=g p j):i=j:=by
 have hs:=h.size;have h2:p.toList.Perm (aI n):=by simpa using dw.mp h
 have nd:p.toList.Nodup:=(h2.nodup_iff).mpr fF;have e1:p.toList[i]? = aa (g p i):=by rw[dC];exact qS (by omega)
 have e2:p.toList[j]? = aa (g p j):=by rw[dC];exact qS (by omega)
 have hl:i<p.toList.length:=by simpa[hs]using hi
 exact(lg hl nd).mp (by rw[e1,e2,e])
def GI(hs:src<p.size)(hd:d<=src)(k:Nat):g (bubble p src d) k=if k=src-d then g p src else if src-d<k/\k<=src then g p (k-1)else g p k:=by
 have:=getElem?_bubble hs d hd k;unfold g;simp only[gm,this]
 repeat' split
 all_goals rfl
def Zb3{p:Array Nat}{m:Nat}(hm:m<=p.size)(k:Nat):g (ma p 0 m) k=if k<m then g p (m-1-k)else g p k:=by
 have:=getElem?_mirror (xs:=p) (i:=0) (j:=m) hm ((m-0) / 2) (by omega) k
 unfold g ma;simp only[gm,this];by_cases c:k<m
 ·rw[T9 c]
  split
  ·congr 2;omega
  ·congr 2;omega
 ·rw[T8 c,T8 (by omega)]
def uJ{n:Nat}{p:Array Nat}(h:Pm n p)(i j:Nat):Pm n (ma p i j):=(mirror_perm _ _ _ _).trans h
def vt(h:Pm n p)(i j:Nat):Pm n (bubble p i j):=(bubble_perm _ _ _).trans h
section
variable{n:Nat}{lt:Nat->Nat->Bool}
def Up(lt:Nat->Nat->Bool)(p:Array Nat)(m:Nat):Prop:=∀i j,i<j->j<m->lt (g p i) (g p j)=ag
def Dn(lt:Nat->Nat->Bool)(p:Array Nat)(m:Nat):Prop:=∀i j,i<j->j<m->lt (g p j) (g p i)=ag
def Zc9(p:Array Nat):Up lt p 1:=λi j a b=>by omega
def ZbI(O:Ord n lt){p:Array Nat}(h:Pm n p){m:Nat}(hm:m<n)(h1:1<=m)(u:Up lt p m)(c:lt (g p m) (g p (m-1))=ai):Up lt p (m+1):=by
 have hl:lt (g p (m-1)) (g p m)=ag:=O.tot _ _ (h.lt hm) (h.lt (by omega)) (λe=>by have:=h.inj hm (by omega) e;omega) c
 intro i j a b;by_cases z:j=m
 ·subst z
  by_cases y:i=j-1
  ·subst y;exact hl
  ·exact O.tr _ _ _ (h.lt (by omega)) (h.lt (by omega)) (h.lt hm) (u i (j-1) (by omega) (by omega)) hl
 ·exact u i j a (by omega)
theorem yT(O:Ord n lt){p:Array Nat}(h:Pm n p):∀(f m:Nat),1<=m->m+f=n->Up lt p m->∃k,evT n lt (kas_asc p f m)=aa k/\m<=k/\k<=n/\Up lt p k/\(k<n->lt (g p k) (g p (k-1))=ag)
 |0,m,h1,e,u=>⟨m,rfl,aD _,by omega,u,λz=>by omega⟩
 |f+1,m,h1,e,u=>by
  unfold kas_asc;rw[WG ⟨h.lt (by omega),h.lt (by omega)⟩]
  cases c:lt (g p m) (g p (m-1))with
  |true=>exact⟨m,by rw[T9 rfl];rfl,aD _,by omega,u,λ_=>c⟩
  |false=>
   obtain⟨k,e1,e2,e3,e4⟩:=yT O h f (m+1) (by omega) (by omega) (ZbI O h (by omega) h1 u c)
   exact⟨k,by rw[T8 (by simp)];exact e1,by omega,e3,e4⟩
def wA(O:Ord n lt){p:Array Nat}(h:Pm n p){m:Nat}(hm:m<n)(h1:1<=m)(u:Dn lt p m)(c:lt (g p m) (g p (m-1))=ag):Dn lt p (m+1):=by
 intro i j a b;by_cases z:j=m
 ·subst z
  by_cases y:i=j-1
  ·subst y;exact c
  ·exact O.tr _ _ _ (h.lt hm) (h.lt (by omega)) (h.lt (by omega)) c (u i (j-1) (by omega) (by omega))
 ·exact u i j a (by omega)
theorem wt(O:Ord n lt){p:Array Nat}(h:Pm n p):∀(f m:Nat),1<=m->m+f=n->Dn lt p m->∃k,evT n lt (kas_desc f p m 0)=aa (p,k,0)/\m<=k/\k<=n/\Dn lt p k
 |0,m,h1,e,u=>⟨m,rfl,aD _,by omega,u⟩
 |f+1,m,h1,e,u=>by
  unfold kas_desc;rw[WG ⟨h.lt (by omega),h.lt (by omega)⟩]
  cases c:lt (g p m) (g p (m-1))with
  |true=>
   obtain⟨k,e1,e2,e3,e4⟩:=wt O h f (m+1) (by omega) (by omega) (wA O h (by omega) h1 u c)
   exact⟨k,by rw[T9 rfl,T8 (by omega)];exact e1,by omega,e3,e4⟩
  |false=>
   have hl:lt (g p (m-1)) (g p m)=ag:=O.tot _ _ (h.lt (by omega)) (h.lt (by omega)) (λe=>by have:=h.inj (by omega) (by omega) e;omega) c
   refine⟨m,?_,aD _,by omega,u⟩
   rw[T8 (by simp)]
   rw[WG ⟨h.lt (by omega),h.lt (by omega)⟩]
   show evT n lt (if lt (g p (m-1)) (g p m)=ag then _ else _)=_
   rw[T9 hl];rfl
def qX(O:Ord n lt){p:Array Nat}(h:Pm n p)(hn:1<=n):∃k p',evT n lt (kas_count n p)=aa (k,p')/\1<=k/\k<=n/\Pm n p'/\Up lt p' k:=by
 obtain⟨k,e1,e2,e3,e4,e5⟩:=yT O h (n-1) 1 (aD _) (by omega) (Zc9 p)
 unfold kas_count;rw[XU e1];by_cases c:k=n
 ·exact⟨k,p,by rw[T9 (by simpa using c)];rfl,e2,e3,h,e4⟩
 ·rw[T8 (by simpa using c)]
  by_cases c1:k>1
  ·refine⟨k,p,?_,e2,e3,h,e4⟩
   rw[T9 c1];rw[WG ⟨h.lt (by omega),h.lt (by omega)⟩]
   show evT n lt (if lt (g p 0) (g p (k-1))=ag then _ else _)=_
   rw[T9 (e4 0 (k-1) (by omega) (by omega))];rfl
  ·rw[T8 c1]
   have hk:k=1:=by omega
   subst hk;have c2:=e5 (by omega)
   have d2:Dn lt p 2:=wA O h (by omega) (aD _) (λi j a b=>by omega) c2
   obtain⟨m,f1,f2,f3,f4⟩:=wt O h (n-(1+1)) 2 (by omega) (by omega) d2
   unfold kas_descPart;rw[XU f1,T8 (by simp)]
   unfold kas_tail3;have hu:Up lt (ma p 0 m) m:=by
    intro i j a b;rw[Zb3 (by rw[h.size];exact f3),Zb3 (by rw[h.size];exact f3),T9 (by omega),T9 b]
    exact f4 _ _ (by omega) (by omega)
   obtain⟨k',a1,a2,a3,a4,_⟩:=yT O (uJ h 0 m) (n-m) m (by omega) (by omega) hu
   exact⟨k',ma p 0 m,by rw[XU a1];rfl,by omega,a3,uJ h 0 m,a4⟩
theorem Qf(O:Ord n lt){p:Array Nat}(h:Pm n p){k:Nat}(hk:k<n)(u:Up lt p k):∀(f l r:Nat),l<=r->r<=k->r-l<=f->(∀i,i<l->lt (g p i) (g p k)=ag)->(∀i,r<=i->i<k->lt (g p k) (g p i)=ag)->
  ∃m,evT n lt (kas_place p k f l r)=aa m/\m<=k/\(∀i,i<m->lt (g p i) (g p k)=ag)/\∀i,m<=i->i<k->lt (g p k) (g p i)=ag
 |0,l,r,h1,h2,h3,a,b=>⟨l,rfl,by omega,a,λi z=>b i (by omega)⟩
 |f+1,l,r,h1,h2,h3,a,b=>by
  unfold kas_place;by_cases c:l>=r
  ·rw[T9 c];exact⟨l,rfl,by omega,a,λi z=>b i (by omega)⟩
  ·rw[T8 c]
   rw[WG ⟨h.lt hk,h.lt (by omega)⟩]
   cases q:lt (g p k) (g p ((l+r) / 2))with
   |true=>
    rw[T9 rfl];refine Qf O h hk u f l ((l+r) / 2) (by omega) (by omega) (by omega) a λi z1 z2=>?_
    by_cases y:i=(l+r) / 2
    ·rw[y];exact q
    ·exact O.tr _ _ _ (h.lt hk) (h.lt (by omega)) (h.lt (by omega)) q (u _ _ (by omega) z2)
   |false=>
    rw[T8 (by simp)]
    have q':lt (g p ((l+r) / 2)) (g p k)=ag:=O.tot _ _ (h.lt hk) (h.lt (by omega)) (λe=>by have:=h.inj hk (by omega) e;omega) q
    refine Qf O h hk u f ((l+r) / 2+1) r (by omega) h2 (by omega) (λi z=>?_) b
    by_cases y:i=(l+r) / 2
    ·rw[y];exact q'
    ·exact O.tr _ _ _ (h.lt (by omega)) (h.lt (by omega)) (h.lt hk) (u _ _ (by omega) (by omega)) q'
theorem qV(O:Ord n lt):∀(f:Nat){p:Array Nat}{k:Nat},Pm n p->1<=k->k+f=n->Up lt p k->∃p',evT n lt (kas_bin f p k)=aa p'/\Pm n p'/\Up lt p' n
 |0,p,k,h,h1,e,u=>⟨p,rfl,h,by
  have:k=n:=by omega
  rw[<-this];exact u⟩
 |f+1,p,k,h,h1,e,u=>by
  obtain⟨l,e1,e2,e3,e4⟩:=Qf O h (by omega) u k 0 k (by omega) (aD _) (by omega) (λi z=>by omega) (λi a b=>by omega)
  unfold kas_bin;rw[XU e1];refine qV O f (vt h k (k-l)) (by omega) (by omega) ?_
  have hs:k<p.size:=by rw[h.size];omega
  intro i j a b;rw[GI hs (by omega),GI hs (by omega)]
  have y:k-(k-l)=l:=by omega
  rw[y];by_cases ci:i=l
  ·rw[T9 ci,T8 (by omega),T9 (by omega)]
   exact e4 _ (by omega) (by omega)
  ·rw[T8 ci]
   by_cases cj:j=l
   ·rw[T9 cj,T8 (by omega)]
    exact e3 _ (by omega)
   ·rw[T8 cj]
    by_cases di:l<i/\i<=k
    ·rw[T9 di,T9 (by omega)]
     exact u _ _ (by omega) (by omega)
    ·rw[T8 di]
     by_cases dj:l<j/\j<=k
     ·rw[T9 dj];exact u _ _ (by omega) (by omega)
     ·rw[T8 dj];exact u _ _ (by omega) (by omega)
def Zbe(O:Ord n lt)(hn:1<=n):∃p,evT n lt (kas_sort n)=aa p/\Pm n p/\Up lt p n:=by
 obtain⟨k,p,e1,e2,e3,e4,e5⟩:=qX O (p:=c7 (aI n)) (l7 _) hn;unfold kas_sort;rw[XU e1];by_cases c:k<n
 ·rw[T9 c]
  have:max k 1=k:=by omega
  rw[this];exact qV O (n-k) e4 e2 (by omega) e5
 ·rw[T8 c]
  have:k=n:=by omega
  exact⟨p,rfl,e4,by rw[<-this];exact e5⟩
end
end Sq
namespace Sq
open PySem PySem.W PyProof.Rows PySem.Calls
section
variable{prog:bq}{w:bG}{A:bV}{E:ao->aw->Prop}{s:aw}
def Lat(h h':bJ):Prop:=∀b o,h.get? b=aa o->h'.get? b=aa o
structure Asks(prog:bq)(w:bG)(A:bV)(h:bJ)(vs:List ao)(κ:SortKind)(lt:Nat->Nat->Bool):Prop where
 kind:2<=vs.length->∀(s':aw)(E:ao->aw->Prop)(Q:SortKind->aw->Prop),Lat h s'.heap->Q κ s'->aT (bc prog w) A (keyKind' vs.toArray) Q E s'
 cmp:∀i j,i<vs.length->j<vs.length->∀(s':aw)(C:Bool->aw->Prop)(E:ao->aw->Prop),Lat h s'.heap->C (lt i j) s'->aT (bc prog w) A (keyLt' κ (vs.getD i bE) (vs.getD j bE)) C E s'
noncomputable def ltR(b:Bool)(n:Nat)(lt:Nat->Nat->Bool):Nat->Nat->Bool:=λi j=>if b=ag then lt (n-1-i) (n-1-j)else lt i j
def ZaO(O:Ord n lt):Ord n (ltR b n lt):=by
 cases b
 ·exact O
 ·exact⟨λi j hi hj ne h=>O.tot _ _ (by omega) (by omega) (by omega) h,λi j hi hj h=>O.asy _ _ (by omega) (by omega) h,λi j k hi hj hk h1 h2=>O.tr _ _ _ (by omega) (by omega) (by omega) h1 h2⟩
def Gy(hi:i<vs.length):(eM b vs).getD i bE=vs.getD (if b=ag then vs.length-1-i else i) bE:=by
 cases b
 ·rfl
 ·show vs.reverse.getD i bE=vs.getD (vs.length-1-i) bE
  simp only[aG];rw[iQ hi]
def wR(vs:List ao):(aI vs.length).map (λi=>vs.getD i bE)=vs:=by
 apply lh
 intro i;rw[bg];by_cases h:i<vs.length
 ·rw[fZ h];simp[h]
 ·simp[fC h]
theorem list_sort_rev{P:PySem.Fin->aw->Prop}(ho:s.heap.get? a=aa (eN "list" vs.toArray n))(h64:vs.length<64)
  (h00:∀b o,h0.get? b=aa o->b≠a/\s.heap.get? b=aa o)(O:Ord vs.length lt)(K:Asks prog w A h0 vs κ lt)
  (h:∀p,Pm vs.length p->Up (ltR b vs.length lt) p vs.length->P (.done (.ret .none)) { s with heap:=sortedHeap s.heap a vs (c7 (eM b (p.toList.map λi=>(eM b vs).getD i bE))) }) :
  aT (bc prog w) A (fI.«list.sort» ⟨[.ref a],[(dM "reverse",.bool b)]⟩) P E s:=by
 rw[PyProof.Rows.list_sort_rev];have ha:a<s.heap.objs.size:=aJ ho;refine ak (listItems_at ho rfl ?_);refine ak (kw ho rfl ?_);obtain⟨e1,ho1⟩:∃e1,(s.heap.update a (cN λ_=>#[])).get? a=aa (eN "list" #[] e1):=⟨_,get?_update_seq ho (λ_=>#[])⟩
 refine ak (lY ho1 rfl ?_);refine ak (wpAny_newTuple ?_);refine ak (wpAny_newList ?_);refine cm ?_;have ho6:(((s.heap.update a (cN λ_=>#[])).push (eN "tuple" vs.toArray 0)).push (eN "list" #[] 0)).get? a=aa (eN "list" #[] e1):=by
  rw[ft _ _ _ (by rw[size_push',h9];exact br (dN ha)),ft _ _ _ (by rw[h9];exact br ha)]
  exact ho1
 have lat:Lat h0 (((s.heap.update a (cN λ_=>#[])).push (eN "tuple" vs.toArray 0)).push (eN "list" #[] 0)):=λb o e=>by
  obtain⟨nb,e⟩:=h00 b o e;exact ar _ (ar _ (by rw[kh _ _ _ _ nb];exact e))
 show aT (bc prog w) A _ P E { s with heap:=((s.heap.update a (cN λ_=>#[])).push (eN "tuple" vs.toArray 0)).push (eN "list" #[] 0) }
 generalize hs':((s.heap.update a (cN λ_=>#[])).push (eN "tuple" vs.toArray 0)).push (eN "list" #[] 0)=h1 at ho6 lat ⊢
 dsimp only
 have step:∀t:mf PySem.Fin,aT (bc prog w) A t P E { s with heap:=h1 }->aT (bc prog w) A (if b=ag then(do let _ <-mR "list.sort.reverse";t)else t) P E { s with heap:=h1 }:=by
  intro t ht;split
  ·exact ak (iG ht)
  ·exact ht
 refine step _ ?_;have hrl:(eM b vs).length=vs.length:=md b vs;have fin:∀out:List ao,out.length=vs.length->(∃p,Pm vs.length p/\Up (ltR b vs.length lt) p vs.length/\out=p.toList.map λi=>(eM b vs).getD i bE)->
   P (.done (.ret .none)) { s with heap:=h1.update a (cN λ_=>c7 (eM b out)) }:=by
  rintro out _ ⟨p,h1',h2',rfl⟩
  subst hs';exact h p h1' h2'
 by_cases h2:vs.toArray.size<2
 ·rw[T9 h2,T9 h2]
  refine ak (aF ?_);rw[StateT.run_pure];refine ak (aF ?_)
  dsimp only
  have hz:((arrOf (SortSt.mk' general' (if b=ag then(vs.toArray.zip vs.toArray).reverse else vs.toArray.zip vs.toArray) #[] 7 ac)).map (·.2))=c7 (eM b vs):=by
   show((if b=ag then(vs.toArray.zip vs.toArray).reverse else vs.toArray.zip vs.toArray).map (·.2))=_
   rw[kat_pairs b rfl];apply lN.mp;rw[Array.toList_map,ksk_zip];show(List.zip (eM b vs) (eM b vs)).map Prod.snd=eM b vs;exact List.map_snd_zip (aD _)
  rw[hz];refine ak (lY ho6 rfl ?_);rw[kat_outs];refine ak (kw ho6 rfl ?_ (hsz2:=by rw[au];(try rw[md]);(try rw[md]);rw[cS];omega))
  simp only[bne_self_eq_false,ck,if_false];refine aF (fin (eM b vs) (md b vs) ⟨c7 (aI vs.length),l7 _,λi j a1 a2=>by rw[au]at h2;omega,?_⟩)
  rw[<-hrl];exact(wR _).symm
 ·rw[T8 h2,T8 h2]
  have l2:2<=vs.length:=by rw[au]at h2;omega
  refine ak (K.kind l2 _ _ _ lat ?_);rw[kat_pairs b rfl];obtain⟨p,e1,e2,e3⟩:=Zbe (ZaO (b:=b) O) (by omega)
  refine ak (cF (kat_run (s:={ s with heap:=h1 }) (vs:=eM b vs) (ks:=eM b vs) (κ:=κ) (G:=λp' s'=>s'={ s with heap:=h1 }/\p'=p) (Q:=λst' s'=>s'={ s with heap:=h1 }/\failedOf st'=ac/\(arrOf st').map (·.2)=c7 (p.toList.map λi=>(eM b vs).getD i bE)) rfl (by rw[hrl];exact l2) (by rw[hrl];exact h64)
   (λp' st' s' a1 a2 a3 a4=>⟨a4.1,a3,by rw[kat_snds rfl a2,a4.2]⟩) (by
    rw[hrl];refine qL (n:=vs.length) (lt:=ltR b vs.length lt) (λi j hi hj C hC=>?_) e1 ⟨rfl,rfl⟩
    unfold kas_ask;rw[Gy hi,Gy hj];cases b
    ·exact K.cmp i j hi hj _ _ _ lat hC
    ·exact K.cmp _ _ (by simp only[if_true];omega) (by simp only[if_true];omega) _ _ _ lat hC)) ?_ λ_ _ x=>x)
  rintro ⟨⟨⟩,st'⟩ s' ⟨rfl,hf,har⟩
  dsimp only
  rw[har];have hl:(p.toList.map λi=>(eM b vs).getD i bE).length=vs.length:=by rw[aH,cX,e2.size]
  refine ak (lY ho6 rfl ?_);rw[kat_outs];refine ak (kw ho6 rfl ?_ (hsz2:=by rw[au];(try rw[md]);rw[hl,cS];omega))
  rw[hf];simp only[bne_self_eq_false,ck,if_false];exact aF (fin _ hl ⟨p,e2,e3,rfl⟩)
def zU{Q:ao->aw->Prop}(hl:s.heap.IsList l vs.toArray)(h64:vs.length<64)(O:Ord vs.length lt)(K:Asks prog w A.in1.in1 s.heap vs κ lt)
  (h:∀p,Pm vs.length p->Up (ltR b vs.length lt) p vs.length->Q (.ref (s.heap.objs.size+1)) { s with heap:=sortedAll s.heap vs (c7 (eM b (p.toList.map λi=>(eM b vs).getD i bE))) }) :
  aT (bc prog w) A (call (.builtin "sorted") [.ref l] [(dM "reverse",.bool b)]) Q E s:=by
 refine call_function_entry_kw kind_sorted plain_sorted entry_sorted (args_sorted_rev _ _) ?_;unfold fI.«sorted»;refine ak (m:=checkCount "sorted" 1 1 _) (aF ?_);refine ak (collect_list hl ?_);refine ak (wpAny_newList ?_);have hsz:((s.heap.push (eN "list" #[] 0)).update s.heap.objs.size (cN (·++vs.toArray))).objs.size=s.heap.objs.size+1:=by
  rw[h9,size_push']
 have hoL:(((s.heap.push (eN "list" #[] 0)).update s.heap.objs.size (cN (·++vs.toArray))).push (eN "list" vs.toArray 0)).get? (s.heap.objs.size+1)=aa (eN "list" vs.toArray 0):=by
  rw[<-hsz];exact aN _ rfl
 show aT _ _ _ _ _ { s with heap:=((s.heap.push (eN "list" #[] 0)).update s.heap.objs.size (cN (·++vs.toArray))).push (eN "list" vs.toArray 0) }
 rw[hsz];refine ak (cm (wpAny_call_entry_kw slot_list_sort ⟨_,hoL,rfl⟩ entry_list_sort (list_sort_rev (h0:=s.heap) hoL h64 (λb o e=>?_) O K  λp a1 a2=>⟨_,rfl,?_⟩) (args_list_sort_rev _ _)))
 ·have hlt:b<s.heap.objs.size:=aJ e
  refine⟨br (dN hlt),?_⟩;rw[ft _ _ _ (by rw[hsz];exact br (dN hlt)),kh _ _ _ _ (br hlt),ft _ _ _ (br hlt)]
  exact e
 ·exact aF ⟨_,rfl,h p a1 a2⟩
end
end Sq
namespace Sd
open PySem PySem.Spec PyProof.Rows L2
open Ev (D Ob Zb Lc R E Sm Calls Walk Fl Fn Bop Cop Ty Bf Mf ev evs evo evt evw tst run runs)
section
variable{X:Cx}{pq:List (ax×dP)}{σ:L2.St}{H:Hp}{s:aw}{A:bV}{E:ao->aw->Prop}{b:Bool}{Q:ao->aw->Prop}
def yJ(I:Inv X pq σ H s)(rx:ZA x u)(ty:TyOf X.K H x t)(htp:s.heap.get? tp=aa ⟨.type "tuple",dd,.seq its.toArray n,sl⟩)
  (e:dA X.K t its=aa b)(h:∀tk,Q (.bool b) { s with toks:=tk }):aT (bc X.prog X.w) A (call (.builtin "isinstance") [u,.ref tp]) Q E s:=by
 cases ty with
 |non=>cases(show u=bE from rx);exact cn kU I.kIn aA htp e (λz=>nomatch z) h
 |bl y=>cases(show u=bM y from rx);exact cn kW I.kIn aA htp e (λz=>nomatch z) h
 |int i=>obtain⟨t,q⟩:=(show ∃t,u=fz i t from rx);cases q;exact cn lz I.kIn aA htp e (λz=>nomatch z) h
 |str y=>obtain⟨t,q⟩:=(show ∃t,u=i9 y t from rx);cases q;exact cn lA I.kIn aA htp e (λz=>nomatch z) h
 |flt y=>obtain⟨t,q⟩:=(show ∃t,u=lQ y t from rx);cases q;exact cn kD I.kIn aA htp e (λz=>nomatch z) h
 |@lst a xs ea=>
  cases(show u=bU a from rx);obtain⟨_,_,n,_,h1⟩:=(show ZK X.prog X.w H s.heap a (.lst xs)from I.hok a _ ea)
  exact cn fe I.kIn ⟨_,h1,rfl⟩ htp e (λz=>nomatch z) h
 |@frz a ob xs ea=>
  cases(show u=bU a from rx);obtain⟨_,_,_,n,_,h1⟩:=(show ZK X.prog X.w H s.heap a (.frz ob (.lst xs))from I.hok a _ ea)
  exact cn fe I.kIn ⟨_,h1,rfl⟩ htp e (λz=>nomatch z) h
 |@tup a xs ea=>
  cases(show u=bU a from rx);obtain⟨_,_,_,p⟩:=(show ZK X.prog X.w H s.heap a (.tup xs)from I.hok a _ ea)
  obtain⟨o,h1,h2,_⟩:=p;exact cn kE I.kIn ⟨o,h1,h2⟩ htp e (λz=>nomatch z) h
 |@dK a kvs ea=>
  cases(show u=bU a from rx);obtain⟨_,_,vs,_,p⟩:=(show ZK X.prog X.w H s.heap a (.dK kvs)from I.hok a _ ea)
  obtain⟨o,es,ep,h1,h2,_⟩:=p;exact cn fg I.kIn ⟨o,h1,h2.1⟩ htp e (λz=>nomatch z) h
 |@dT a kvs ea=>
  cases(show u=bU a from rx);obtain⟨_,_,xs,_,o,es,ep,h1,h2,_⟩:=(show ZK X.prog X.w H s.heap a (.dT kvs)from I.hok a _ ea)
  exact cn fg I.kIn ⟨o,h1,h2.1⟩ htp e (λz=>nomatch z) h
 |@ins a C dx fs ea cl ha hn htk hm=>
  cases(show u=bU a from rx);obtain⟨mA,O,_⟩:=x5 I.hok ea
  obtain⟨od,J,_⟩:=O.look;exact cn (lB (cl.get _) cl.hd ha hn htk hm) I.kIn J htp e (λz=>nomatch z) h
end
section
variable{X:Cx}{xw:Nat->Hp->Prop}{C:Calls}{e a b c:Expr}{i j k:E}{pos p p' p2 p3:dZ}
def vF(T U:String):ZO X (.builtin "isinstance") (λvs H Q=>∃v tv n q,vs=[v,.ref q]/\H q=aa (.tup [.ty T,.ty U])/\TyOf X.K H v tv/\dA X.K tv [.type T,.type U]=aa n/\Q (.bl n) H):=by
 intro pq s σ H vs us Q I r h;obtain⟨v,tv,n,q,rfl,hq,ty,e,qq⟩:=h;obtain⟨u,w',rfl,r1,r2⟩:=zD r;cases r2;obtain⟨its,rv,⟨o,ho,hc,m,hd⟩,_⟩:=I.tuple (SqT.of hq);obtain⟨cls,dd,data,sl⟩:=o;simp only at hc hd;subst hc hd;obtain⟨z1,z2,rfl,q1,q2⟩:=zD rv;cases q1;cases q2;exact yJ I r1 ty ho e λtk=>⟨.bl n,H,I.tok tk,rfl,qq⟩
def TyOf.later{K:aj}{H:Hp}{v:V}{tv:ao}{q:ax}{o:HO}(h:TyOf K H v tv)(hq:H q=ac):TyOf K (upd H q o) v tv:=by
 cases h with|non=>exact .non|bl b=>exact .bl b|int b=>exact .int b|str b=>exact .str b|flt b=>exact .flt b|lst e=>exact .lst (by rw[Zo (ZH e hq)];exact e)|frz e=>exact .frz (by rw[Zo (ZH e hq)];exact e)|tup e=>exact .tup (by rw[Zo (ZH e hq)];exact e)|dK e=>exact .dK (by rw[Zo (ZH e hq)];exact e)|dT e=>exact .dT (by rw[Zo (ZH e hq)];exact e)|ins e a1 a2 a3 a4 a5=>exact .ins (by rw[Zo (ZH e hq)];exact e) a1 a2 a3 a4 a5
def TyOf.uniq{K:aj}{H:Hp}{v:V}{t1 t2:ao}(h1:TyOf K H v t1)(h2:TyOf K H v t2):t1=t2:=by
 cases h1 <;> cases h2 <;> first | rfl | simp_all
def JV{T U:aZ}{t u:Ty}{k0:Nat}{p4:dZ}(ht:∀m,t≠.cls m)(hu:∀m,u≠.cls m)(hm:X.mg "isinstance" = ac)(hmT:X.mg T=ac)(hmU:X.mg U=ac)(ha:CE X xw C a i)(hg:Gl X "isinstance":=by rfl)(hgT:Gl X T:=by rfl)(hgU:Gl X U:=by rfl)(hvT:cE T=aa (.type (ZQ t)):=by rfl)(hvU:cE U=aa (.type (ZQ u)):=by rfl)(hnT:T≠"__name__":=by decide)(hdT:(T == ("__debug__" : aZ))=ai:=by decide)(hnU:U≠"__name__":=by decide)(hdU:(U == ("__debug__" : aZ))=ai:=by decide)
  (hs0:aC [.Name T p2,.Name U p3] X.env=(ai,bZ (.Name T p2) X.env)::aC [.Name U p3] X.env:=by rfl)(hs00:aC [.Name U p3] X.env=(ai,bZ (.Name U p3) X.env)::aC [] X.env:=by rfl)
  (hs1:aC [a,.Tuple [.Name T p2,.Name U p3] k0 p4] X.env=(ai,bZ a X.env)::aC [.Tuple [.Name T p2,.Name U p3] k0 p4] X.env:=by rfl)(hs2:aC [.Tuple [.Name T p2,.Name U p3] k0 p4] X.env=(ai,bZ (.Tuple [.Name T p2,.Name U p3] k0 p4) X.env)::aC [] X.env:=by rfl)(hpl:(cK pos (aC [.Tuple [.Name T p2,.Name U p3] k0 p4] X.env)).any (·.1)=ai:=by rfl) :
  CE X xw C (.Call (.Name "isinstance" p) [a,.Tuple [.Name T p2,.Name U p3] k0 p4] [] pos) (.isi i [t,u]):=
 PE.imp (Wv (vF (ZQ t) (ZQ u)) hg hm (by rfl) (ZE ha (ZE (jd (ZE (Ut (v:=.ty (ZQ t)) hgT hmT hvT rfl hnT hdT) (ZE (Ut (v:=.ty (ZQ u)) hgU hmU hvU rfl hnU hdU) Yn hs00) hs0)) Yn hs2) hs1) (by decide) (by decide) hs1 hpl) λσ H Q ⟨ρ,l,S,st,lr,h⟩=>by
  refine⟨ρ,l,S,st,lr,End.bind (show End X.K xw Rep ρ H Q ((ev C i l S).bind _)from h) λx S1 ρ1 H1 v f1 st1 r1 h1=>⟨by show 2<=aX;rw[cS];omega,λq hq=>?_⟩⟩
  obtain⟨n,hn,h2⟩:=End.ob h1;have st2:=st1.fresh (o:=.tup [.ty (ZQ t),.ty (ZQ u)]) hq;have f2:=ZT (ρ:=ρ1) (o:=.tup [.ty (ZQ t),.ty (ZQ u)]) hq;have fin:∀tv,TyOf X.K H1 v tv->dA X.K tv [.type (ZQ t),.type (ZQ u)]=aa n->_:=λtv ty e=>(⟨v,tv,n,q,rfl,Zq,TyOf.later ty hq,e,h2 ρ1 _ _ f2 st2 (Zz n)⟩:∃v' tv n q',[v,V.ref q]=[v',.ref q']/\upd H1 q (.tup [.ty (ZQ t),.ty (ZQ u)]) q'=aa (.tup [.ty (ZQ t),.ty (ZQ u)])/\TyOf X.K (upd H1 q (.tup [.ty (ZQ t),.ty (ZQ u)])) v' tv/\dA X.K tv [.type (ZQ t),.type (ZQ u)]=aa n/\Q (.bl n) (upd H1 q (.tup [.ty (ZQ t),.ty (ZQ u)])))
  unfold Ev.UN at hn;cases q1:Ev.zu S1 x t with
  |none=>rw[q1]at hn;cases hn
  |some m=>
   rw[q1]at hn;obtain⟨tv,ty,e⟩:=yk st1 r1 ht q1;cases m with
   |true=>
    have hn':n=ag:=(af hn).symm;exact fin tv ty (by unfold dA;rw[e,hn'])
   |false=>
    have hn1:(match Ev.zu S1 x u with
     |some ag=>aa ag
     |some ai=>Ev.UN S1 x []
     |none=>ac)=aa n:=hn
    cases q2:Ev.zu S1 x u with
    |none=>rw[q2]at hn1;cases hn1
    |some m2=>
     rw[q2]at hn1;obtain⟨tv2,ty2,e2⟩:=yk st1 r1 hu q2;have et:tv2=tv:=TyOf.uniq ty2 ty;subst et;refine fin tv2 ty ?_;unfold dA;rw[e];show dA X.K tv2 [.type (ZQ u)]=aa n;unfold dA;rw[e2];cases m2 with|true=>exact hn1|false=>exact hn1
end
end Sd
namespace Sd
open Ev (ltI Vk ZY)
theorem JC:∀{x y:List Int},x≠y->ltI x y=ai->ltI y x=ag
 |[],[],h,_=>T7 rfl h
 |[],_::_,_,h=>by cases h
 |_::_,[],_,_=>rfl
 |a::x,b::y,h,e=>by
  unfold ltI at e ⊢;by_cases c:a=b
  ·subst c
   rw[T9 rfl]at e ⊢;exact JC (λz=>h (by rw[z])) e
  ·rw[T8 c]at e
   rw[T8 (Ne.symm c)];have:=of_decide_eq_false e;exact T5 (by omega)
theorem Uj:∀{x y:List Int},ltI x y=ag->ltI y x=ai
 |[],[],h=>by cases h
 |[],_::_,_=>rfl
 |_::_,[],h=>by cases h
 |a::x,b::y,e=>by
  unfold ltI at e ⊢;by_cases c:a=b
  ·subst c
   rw[T9 rfl]at e ⊢;exact Uj e
  ·rw[T8 c]at e
   rw[T8 (Ne.symm c)];have:=T6 e;exact T4 (by omega)
theorem yv:∀{x y z:List Int},ltI x y=ag->ltI y z=ag->ltI x z=ag
 |[],[],_,h,_=>by cases h
 |_::_,[],_,h,_=>by cases h
 |_,_::_,[],_,h=>by cases h
 |[],_::_,_::_,_,_=>rfl
 |a::x,b::y,c::z,e,f=>by
  unfold ltI at e f ⊢;by_cases h1:a=b
  ·subst h1
   rw[T9 rfl]at e;by_cases h2:a=c
   ·subst h2
    rw[T9 rfl]at f ⊢;exact yv e f
   ·rw[T8 h2]at f ⊢;exact f
  ·rw[T8 h1]at e
   have e':=T6 e;by_cases h2:b=c
   ·subst h2
    rw[T8 h1];exact e
   ·rw[T8 h2]at f
    have f':=T6 f;rw[T8 (by omega)]
    exact T5 (by omega)
theorem VX(x:List Int):∀l:List (List Int),(Vk x l).Perm (x::l)
 |[]=>dB _
 |y::r=>by
  unfold Vk;split
  ·exact dB _
  ·exact((VX x r).cons y).trans (i4 x y r)
theorem Y9:∀l:List (List Int),(ZY l).Perm l
 |[]=>dB _
 |x::r=>(VX x (ZY r)).trans ((Y9 r).cons x)
theorem V2(x:List Int):∀{l:List (List Int)},(∀y∈l,x≠y)->l.Pairwise (λa b=>ltI a b=ag)->(Vk x l).Pairwise (λa b=>ltI a b=ag)
 |[],_,_=>by unfold Vk;exact ia ..
 |y::r,hn,h=>by
  rw[bj]at h;unfold Vk;split
  ·rename_i c
   rw[bj,bj];refine⟨λz hz=>?_,h⟩
   rcases az.mp hz with rfl | hz
   ·exact c
   ·exact yv c (h.1 z hz)
  ·rename_i c
   rw[bj];refine⟨λz hz=>?_,V2 x (λy hy=>hn y (al _ hy)) h.2⟩
   rcases az.mp ((VX x r).mem_iff.mp hz)with rfl | hz
   ·exact JC (hn y (am ..)) (by simpa using c)
   ·exact h.1 z hz
theorem X5:∀{l:List (List Int)},l.Nodup->(ZY l).Pairwise (λa b=>ltI a b=ag)
 |[],_=>gQ
 |x::r,h=>by
  rw[cA]at h;exact V2 x (λy hy e=>h.1 (by rw[e];exact(Y9 r).mem_iff.mp hy)) (X5 h.2)
theorem Wq:∀{a b:List (List Int)},a.Perm b->a.Pairwise (λx y=>ltI x y=ag)->b.Pairwise (λx y=>ltI x y=ag)->a=b
 |[],b,p,_,_=>(List.Perm.nil_eq p)
 |x::a,[],p,_,_=>by have:=p.length_eq;simp at this
 |x::a,y::b,p,ha,hb=>by
  rw[bj]at ha hb;have e:x=y:=by
   rcases az.mp (p.mem_iff.mp (am ..))with h | h
   ·exact h
   ·rcases az.mp (p.mem_iff.mpr (am (a:=y) (l:=b)))with h2 | h2
    ·exact h2.symm
    ·have z1:=hb.1 x h
     have z2:=ha.1 y h2;rw[Uj z1]at z2;cases z2
  subst e;rw[Wq (List.perm_cons x |>.mp p) ha.2 hb.2]
end Sd
namespace Sd
open PySem PySem.Spec PyProof.Rows L2
open Ev (D Ob Zb Lc R E Sm Calls Walk Fl Fn Bop Cop Ty Bf Mf ev evs evo evt evw tst run runs ltI Vk ZY YC Qm WY YW)
noncomputable def yD(fin:Bool):List Int->List Int->Bool
 |[],_=>fin
 |_::_,[]=>fin
 |a::x,b::y=>if a=b then yD fin x y else ae (a<b)
theorem y9:∀(x y:List Int),yD (ae (x.length<y.length)) x y=ltI x y
 |[],[]=>rfl
 |[],_::_=>by unfold yD ltI;simp
 |_::_,[]=>by unfold yD ltI;simp
 |a::x,b::y=>by
  unfold yD ltI;have:ae ((a::x).length<(b::y).length)=ae (x.length<y.length):=by simp
  rw[this,y9 x y]
section
variable{prog:bq}{w:bG}{A:bV}{s:aw}
theorem Gp{C:Bool->aw->Prop}:∀{x y:List Int}{u v:List ao}{i:Nat},Vals (x.map V.int) u->Vals (y.map V.int) v->C (yD fin x y) s->PySem.W.KatLex prog w A b fin C (u.zip v) i s
 |[],_,_,_,_,.nil,_,h=>by rw[ll];exact l8 h
 |_::_,[],_,_,_,_,.nil,h=>by rw[kO];exact l8 h
 |a::x,c::y,_,_,i,.cons ra ta,.cons rb tb,h=>by
  obtain⟨t,rfl⟩:=ra;obtain⟨t',rfl⟩:=rb;rw[cP];refine PySem.W.kat_cons (wpAny_eqBool_int ?_);unfold yD at h;by_cases e:a=c
  ·rw[T9 e]at h
   rw[beq_iff_eq.mpr e];exact PySem.W.kat_yes (Gp ta tb h)
  ·rw[T8 e]at h
   rw[beq_eq_false_iff_ne.mpr e];refine PySem.W.kat_no ?_;cases q:(b&&i == 0)with|true=>exact oneLt_int h|false=>exact PySem.W.kat_one _ _ (lt_int h)
end
section
variable{X:Cx}{pq:List (ax×dP)}{σ:L2.St}{H:Hp}{s:aw}{ρ:List ax}
inductive RowsAt(h:bJ):List (List Int)->List ao->Prop where
 |nil:RowsAt h [] []
 |cons {r:List Int} {rs:List (List Int)} {vs:List ao} {a:ax} {o:dP} {us:List ao} {m:Nat} (ho:h.get? a=aa o) (hc:o.cls=.type "tuple") (hd:o.data=.seq us.toArray m) (hv:Vals (r.map V.int) us) (t:RowsAt h rs vs):RowsAt h (r::rs) (.ref a::vs)
theorem Qi:∀{ks:List D}{k:List Int},Ev.Uc ks=aa k->ks=k.map D.int
 |[],k,h=>by cases h;rfl
 |.int n::ks,k,h=>by
  have h':(Ev.Uc ks).map (n :: ·)=aa k:=h
  cases q:Ev.Uc ks with
  |none=>rw[q]at h';cases h'
  |some k'=>
   rw[q]at h';have e:n::k'=k:=af h';rw[<-e,Qi q];rfl
 |.non::_,_,h | .bl _::_,_,h | .str _::_,_,h | .tup _::_,_,h | .loc _::_,_,h=>by cases h
def vC(h:Qm d=aa r):d=WY r:=by
 cases d with|tup ks=>exact congrArg D.tup (Qi h)|_=>cases h
theorem Rq.intsV:∀{r:List Int}{xs:List V},Rq ρ H (r.map D.int) xs->xs=r.map V.int
 |[],xs,h=>by unfold Rq at h;exact h
 |n::r,xs,h=>by
  have h':Rq ρ H (D.int n::r.map D.int) xs:=h;unfold Rq at h';obtain⟨v,vs,rfl,a,b⟩:=h';rw[a.int',Rq.intsV b];rfl
theorem wm(I:Inv X pq σ H s):∀{ds:List D}{rs:List (List Int)}{xs:List V}{its:List ao},YC ds=aa rs->Rq ρ H ds xs->Vals xs its->RowsAt s.heap rs its/\ds=rs.map WY
 |[],rs,xs,its,h,r,v=>by
  unfold Rq at r;subst r;cases v;cases h;exact⟨.nil,rfl⟩
 |d::ds,rs,xs,its,h,r,v=>by
  unfold Rq at r;obtain⟨x,xs',rfl,r1,r2⟩:=r;cases v with
  |cons v1 v2=>
   unfold YC at h;cases q1:Qm d with
   |none=>rw[q1]at h;cases h
   |some a=>
    cases q2:YC ds with
    |none=>rw[q1,q2]at h;cases h
    |some b=>
     rw[q1,q2]at h;cases h;obtain⟨t,e⟩:=wm I q2 r2 v2;have ed:=vC q1;subst ed;obtain⟨p,ys,rfl,hp,ry⟩:=r1.tup';have ey:=Rq.intsV ry;subst ey;cases v1;obtain⟨us,rv,⟨o,ho,hc,m,hd⟩,_⟩:=I.tuple (SqT.of hp);exact⟨.cons ho hc hd rv t,by rw[e];rfl⟩
theorem RowsAt.length{h:bJ}:∀{rs:List (List Int)}{vs:List ao},RowsAt h rs vs->rs.length=vs.length
 |_,_,.nil=>rfl
 |_,_,.cons _ _ _ _ t=>by rw[aR,aR,RowsAt.length t]
theorem RowsAt.at{h:bJ}:∀{rs:List (List Int)}{vs:List ao}(i:Nat),RowsAt h rs vs->i<vs.length->∃a o us m,vs.getD i bE=.ref a/\h.get? a=aa o/\o.data=.seq us.toArray m/\Vals ((rs.getD i []).map V.int) us
 |_,_,_,.nil,hi=>by simp at hi
 |_,_,0,.cons ho hc hd hv t,_=>⟨_,_,_,_,rfl,ho,hd,hv⟩
 |_,_,i+1,.cons ho hc hd hv t,hi=>by
  obtain⟨a,o,us,m,e1,e2,e3,e4⟩:=RowsAt.at i t (by simpa using hi)
  exact⟨a,o,us,m,by simpa using e1,e2,e3,by simpa using e4⟩
theorem RowsAt.tups(k:Sq.Lat h h'):∀{rs:List (List Int)}{vs:List ao},RowsAt h rs vs->(∀r∈rs,r≠[])->∃fs,PySem.W.KatTups h' vs fs/\fs.length=vs.length/\∀v∈fs,∃n t,v=fz n t
 |_,_,.nil,_=>⟨[],.nil,rfl,λv hv=>by cases hv⟩
 |_,_,.cons (r:=r) (us:=us) ho hc hd hv t,hn=>by
  obtain⟨fs,t1,t2,t3⟩:=RowsAt.tups k t λr hr=>hn r (al _ hr)
  have hr:=hn r (am ..);cases r with
  |nil=>exact T7 rfl hr
  |cons n r=>
   obtain⟨u,g,rel⟩:=hv.get (i:=0) (x:=V.int n) rfl;refine⟨u::fs,.cons (k _ _ ho) hc hd (by simpa using g) t1,by rw[aR,aR,t2],λv hv=>?_⟩
   rcases az.mp hv with rfl | hv
   ·obtain⟨tk,e⟩:=rel
    exact⟨n,tk,e⟩
   ·exact t3 v hv
def vn(R:RowsAt h rs vs)(hn:∀r∈rs,r≠[]):Sq.Asks prog w A h vs (tuples' ag) (λi j=>ltI (rs.getD i []) (rs.getD j [])):=by
 refine⟨λh2 s' E Q k q=>?_,λi j hi hj s' C E k q=>?_⟩
 ·obtain⟨fs,t1,t2,t3⟩:=R.tups k hn
  exact PySem.W.kat_kind (T:=.type "int") t1 (by omega) (λv hv=>by obtain⟨n,t,rfl⟩:=t3 v hv;exact PySem.W.Looks.of_pure rfl) rfl q
 ·obtain⟨a,o,us,m,e1,e2,e3,e4⟩:=R.at i hi
  obtain⟨a',o',us',m',f1,f2,f3,f4⟩:=R.at j hj;rw[e1,f1];refine PySem.W.kat_lt (k _ _ e2) e3 (k _ _ f2) f3 (Gp e4 f4 ?_);have l1:us.toArray.size=(rs.getD i []).length:=by rw[au,<-e4.length,aH]
  have l2:us'.toArray.size=(rs.getD j []).length:=by rw[au,<-f4.length,aH]
  rw[l1,l2,y9];exact q
def uw{rs:List (List Int)}{n:Nat}(hn:rs.Nodup)(hl:rs.length=n):Sq.Ord n (λi j=>ltI (rs.getD i []) (rs.getD j [])):=by
 have hd:∀i j,i<n->j<n->i≠j->rs.getD i []≠rs.getD j []:=λi j hi hj ne e=>by
  simp only[aG]at e;have hi':i<rs.length:=by omega
  have hj':j<rs.length:=by omega
  refine ne ((lg hi' hn).mp ?_);rw[ah hi',ah hj']at e ⊢;exact congrArg aa e
 exact⟨λi j hi hj ne e=>JC (hd i j hi hj ne) e,λi j _ _ e=>Uj e,λi j k _ _ _ e f=>yv e f⟩
def UY{α β:Type}(b:Bool)(f:α->β)(l:List α):bv b (l.map f)=(bv b l).map f:=by
 cases b
 ·rfl
 ·exact lO.symm
def GV{α:Type}(b:Bool)(l:List α):(bv b l).Perm l:=by
 cases b
 ·exact dB _
 ·exact gS l
def V6{α:Type}{d:α}{b:Bool}{vs:List α}{i:Nat}(hi:i<vs.length):(bv b vs).getD i d=vs.getD (if b=ag then vs.length-1-i else i) d:=by
 cases b
 ·rfl
 ·show vs.reverse.getD i d=vs.getD (vs.length-1-i) d
  simp only[aG];rw[iQ hi]
def qP{rs:List (List Int)}{b:Bool}{p:Array Nat}(hn:rs.Nodup)(h1:Sq.Pm rs.length p)(h2:Sq.Up (Sq.ltR b rs.length λi j=>ltI (rs.getD i []) (rs.getD j [])) p rs.length) :
  (p.toList.map λi=>(bv b rs).getD i [])=ZY rs:=by
 have hp:p.toList.Perm (aI rs.length):=by simpa using dw.mp h1
 have hl:p.toList.length=rs.length:=by rw[hp.length_eq,bL]
 refine Wq ?_ ?_ (X5 hn)
 ·refine((hp.map _).trans ?_).trans (Y9 rs).symm
  have e:(aI rs.length).map (λi=>(bv b rs).getD i [])=bv b rs:=by
   apply lh
   intro i;rw[bg];by_cases h:i<rs.length
   ·have:i<(bv b rs).length:=by rw[eW];exact h
    rw[fZ h];simp[this]
   ·have:(bv b rs).length<=i:=by rw[eW];omega
    simp[fC h,this]
  rw[e];exact GV b rs
 ·rw[d9,gK]
  intro i j hi hj hij;have g1:p.toList[i]=Sq.g p i:=by
   have:=Sq.qS (p:=p) (i:=i) (by simpa using hi)
   rw[<-dC,ah hi]at this;exact af this
  have g2:p.toList[j]=Sq.g p j:=by
   have:=Sq.qS (p:=p) (i:=j) (by simpa using hj)
   rw[<-dC,ah hj]at this;exact af this
  rw[g1,g2,V6 (h1.lt (by omega)),V6 (h1.lt (by omega))]
  have:=h2 i j hij (by omega)
  unfold Sq.ltR at this;cases b
  ·exact this
  ·exact this
def u0{F:List Nat}{xs:List V}{rs:List (List Int)}(h:Rq ρ H (rs.map WY) xs)(hF:∀i∈F,i<rs.length):Rq ρ H ((F.map λi=>rs.getD i []).map WY) (F.map λi=>xs.getD i V.non):=by
 induction F with
 |nil=>exact Rq.nil
 |cons i F ih=>
  refine Rq.cons ?_ (ih λj hj=>hF j (al _ hj))
  have hi:=hF i (am ..);obtain⟨v,g,r⟩:=h.get (i:=i) (d:=WY rs[i]) (by rw[bg,ah hi];rfl)
  show Rep ρ H (WY (rs.getD i [])) (xs.getD i V.non);rw[aG,aG,g,ah hi];exact r
def jP{F:List Nat}{xs:List V}{us:List ao}(h:Vals xs us)(hF:∀i∈F,i<xs.length):Vals (F.map λi=>xs.getD i V.non) (F.map λi=>us.getD i bE):=by
 induction F with
 |nil=>exact .nil
 |cons i F ih=>
  refine .cons ?_ (ih λj hj=>hF j (al _ hj))
  have hi:=hF i (am ..);obtain⟨u,g,r⟩:=h.get (ah hi);show ZA (xs.getD i V.non) (us.getD i bE);rw[aG,aG,g,ah hi];exact r
def zk(h:Rq ρ H ds xs):Rq ρ H (bv b ds) (bv b xs):=by
 cases b
 ·exact h
 ·exact h.reverse
def za :∀{xs:List V}{us:List ao},Vals xs us->Vals (bv b xs) (bv b us):=by
 cases b
 ·exact λh=>h
 ·have snoc:∀{xs:List V}{us:List ao}{x:V}{u:ao},Vals xs us->ZA x u->Vals (xs++[x]) (us++[u]):=by
   intro xs us x u h r
   induction h with|nil=>exact .cons r .nil|cons a _ ih=>exact .cons a ih
  intro xs us h;show Vals xs.reverse us.reverse
  induction h with|nil=>exact .nil|cons r t ih=>rw[cG,cG];exact snoc ih r
end
section
variable{X:Cx}{xw:Nat->Hp->Prop}{C:Calls}{e a b c:Expr}{i j k:E}{pos p p' p2 p3:dZ}
noncomputable def Zcg(K:aj)(xw:Nat->Hp->Prop)(b:Bool):List V->Hp->VK->Prop:=λvs H Q=>∃ρ S n,St3 K ρ S H/\Rq ρ H [.loc n] vs/\End K xw Rep ρ H Q (Ev.sorted b n S)
def vH{pq:List (ax×dP)}{s:aw}{σ:L2.St}{H:Hp}{vs:List V}{us:List ao}{Q:VK}{b:Bool}(I:Inv X pq σ H s)(r:Vals vs us)(h:Zcg X.K xw b vs H Q) :
  ∃(l:ax)(its:List ao)(rs:List (List Int)),us=[.ref l]/\s.heap.IsList l its.toArray/\its.length<64/\rs.length=its.length/\Sq.Ord its.length (λi j=>ltI (rs.getD i []) (rs.getD j []))/\(∀A,Sq.Asks X.prog X.w A s.heap its (tuples' ag) (λi j=>ltI (rs.getD i []) (rs.getD j [])))/\
   ∀p,Sq.Pm its.length p->Sq.Up (Sq.ltR b its.length λi j=>ltI (rs.getD i []) (rs.getD j [])) p its.length->
    EP X pq σ Q (.ref (s.heap.objs.size+1)) { s with heap:=sortedAll s.heap its (c7 (bv b (p.toList.map λi=>(bv b its).getD i bE))) }:=by
 obtain⟨ρ,S,n,st,rs,h⟩:=h;obtain⟨ds,hl,h1⟩:=End.ob (show End X.K xw Rep ρ H Q ((Ev.ob (Ev.Zi S n) S).bind λxs S=>(Ev.ob (YC xs) S).bind λrs S=>if YW rs=ag then .ok (.loc S.length) (S++[.lst ((if b then(ZY rs).reverse else ZY rs).map WY)])else .no)from h)
 obtain⟨rws,hrw,h2⟩:=End.ob h1;obtain⟨hok,h3⟩:=h2.guard;obtain⟨v,rfl,r1⟩:=Xg rs;obtain⟨_,l,xs,q1,hx,rx⟩:=st.lst hl;obtain⟨l',rfl,t⟩:=r1.loc';rw[q1]at t;cases t;obtain⟨u,rfl,ru⟩:=VD r;cases ru;obtain⟨its,rv,pl,hz⟩:=I.list (SqL.of hx);obtain⟨RA,ed⟩:=wm I hrw rx rv;obtain⟨hok1,hok3⟩:=(aB _ _).mp hok;obtain⟨hok1,hok2⟩:=(aB _ _).mp hok1;have h64:=T6 hok1;have hnd:=T6 hok2;have hne:∀r∈rws,r≠[]:=λr hr e=>by
  have:=aU.mp hok3 r hr;rw[e]at this;cases this
 have hlen:=RA.length;refine⟨l,its,rws,rfl,pl.isList,by omega,hlen,uw hnd hlen,λA=>vn RA hne,λp hp hu=>?_⟩
 rw[<-hlen]at hp hu;have out:=qP hnd hp hu;have hmem:∀i∈p.toList,i<rws.length:=λi hi=>by
  have hp':p.toList.Perm (aI rws.length):=by simpa using dw.mp hp
  exact bF.mp (hp'.mem_iff.mp hi)
 subst ed;have xl:xs.length=rws.length:=by rw[rx.length,aH]
 have rx1:Rq ρ H ((bv b rws).map WY) (bv b xs):=by rw[<-UY];exact zk rx
 have rx2:=u0 (F:=p.toList) rx1 (by rw[eW];exact hmem)
 rw[out]at rx2;have rx3:=zk (b:=b) rx2;have rv2:=za (b:=b) (jP (F:=p.toList) (za (b:=b) rv) (by rw[eW,xl];exact hmem))
 have eb:(if b=ag then(ZY rws).reverse else ZY rws)=bv b (ZY rws):=rfl
 rw[eb,<-UY]at h3;obtain⟨ep,he⟩:=sortedAll_at s.heap its (c7 (bv b (p.toList.map λi=>(bv b its).getD i bE)))
 refine⟨.ref (s.heap.objs.size+1),_,I.laid (t':=s.toks) (o:=.lst (bv b (p.toList.map λi=>(bv b xs).getD i V.non))) (λb ob q=>sortedAll_old q) (lX _) ?_,rfl,h3.newL st rx3 _ (I.hok.fresh (lX _))⟩
 refine⟨?_,_,ep,rv2,he⟩;rw[eW,aH,cX,hp.size,cS];omega
def ZaZ:∀(as:List D)(S:Zb),(∃n,as=[.loc n])\/Ev.YJ .sortedR as S=.no
 |[.loc n],_=>.inl ⟨n,rfl⟩
 |x::_::_,_=>.inr (by cases x <;> rfl)
 |[],_ | [.non],_ | [.str _],_ | [.bl _],_ | [.int _],_ | [.tup _],_=>.inr rfl
def WZ{kp kp2:dZ}{q0}(hm:X.mg "sorted" = ac)(ha:CA X xw C [e] [i])(hg:Gl X "sorted":=by rfl)
  (he:cK pos (aC [e] X.env)=(ai,bZ e X.env)::cK pos (aC [] X.env):=by rfl)(hpl:(cK pos (aC [e] X.env)).any (·.1)=ai:=by rfl) :
  CE X xw C (.Call (.Name "sorted" p) [e] [⟨aa "reverse",.Constant (.bool ag) q0 kp,kp2⟩] pos) (.blt .sortedR [i]):=by
 intro pq s σ H Q I hq;obtain⟨ρ,l,S,st,lr,h⟩:=hq;refine dm (W5 I hg hm (show cE "sorted" = aa (.builtin "sorted")from rfl) ?_ (by decide) (by decide))
 refine callWith_kw (thn (ha pos pq s σ H (λvs H1=>Zcg X.K xw ag vs H1 Q) I ?_) λus s1 ⟨vs,H1,I1,r1,q1⟩=>?_) he hpl rfl rfl
 ·refine⟨ρ,l,S,st,lr,End.bind (show End X.K xw Rep ρ H Q ((evs C [i] l S).bind λxs S=>Ev.YJ .sortedR xs S)from h) λxs S1 ρ1 H1 vs f1 st1 r1 h1=>?_⟩
  rcases ZaZ xs S1 with⟨n,rfl⟩ | e
  ·exact⟨ρ1,S1,n,st1,r1,h1⟩
  ·exact(show End X.K xw Rep ρ1 H1 Q (.no:R D)from e▸h1).elim
 ·refine kws_cons (thn (xt pq s1 σ H1 (λv H2=>v=.bl ag/\H2=H1) I1 ⟨rfl,rfl⟩) λu s2 ⟨x,H2,I2,r2,e1,e2⟩=>kws_nil ?_)
  subst e1 e2;cases r2;obtain⟨l,its,rs,rfl,h1,h2,h3,h4,h5,h6⟩:=vH I2 r1 q1;exact Sq.zU (b:=ag) h1 h2 h4 (h5 _) λp a b=>h6 p a b
end
end Sd
namespace Sd
open PySem PySem.Spec PyProof.Rows L2
open Ev (ltI)
open PySem.SeqAt PySem.MeetsSeq PySem.MeetsSeq2 PySem.MeetsSeq3 PySem.SeqRoads2
open PySem.AutoSeq1 (wpAny_loadPart')
end Sd
namespace Sd
open Ev (ltI ltP Za5 Gq)
end Sd
namespace Sd
open PySem PySem.Spec PyProof.Rows L2
open Ev (ltI ltP)
def Zen(h:bJ)(r:List Int)(v:ao):Prop:=∃a o us m,v=.ref a/\h.get? a=aa o/\o.cls=.type "tuple"/\o.data=.seq us.toArray m/\Vals (r.map V.int) us
inductive RowsIn(h:bJ):List (List Int)->List ao->Prop where
 |nil:RowsIn h [] []
 |cons {r:List Int} {rs:List (List Int)} {v:ao} {vs:List ao} (a:Zen h r v) (t:RowsIn h rs vs):RowsIn h (r::rs) (v::vs)
theorem RowsIn.length :∀{rs:List (List Int)}{vs:List ao},RowsIn h rs vs->rs.length=vs.length
 |_,_,.nil=>rfl
 |_,_,.cons _ t=>by rw[aR,aR,RowsIn.length t]
end Sd
namespace Sd
open PySem PySem.Spec PyProof.Rows L2
open Ev (D ltI ltP Za5 Gq Zb5 qM Jn YC Qm WY)
section
variable{X:Cx}{pq:List (ax×dP)}{σ:L2.St}{H:Hp}{s:aw}{ρ:List ax}
theorem RowsAt.ins{h:bJ}:∀{rs:List (List Int)}{vs:List ao},RowsAt h rs vs->RowsIn h rs vs
 |_,_,.nil=>.nil
 |_,_,.cons ho hc hd hv t=>.cons ⟨_,_,_,_,rfl,ho,hc,hd,hv⟩ (RowsAt.ins t)
end
end Sd
namespace Sd
open PySem PySem.Spec PyProof.Rows L2
open Ev (D Ob Zb Lc R E Sm Calls Walk Fl Fn Bop Cop Ty Bf Mf ltP Gq Zb5 Jn xH)
end Sd
namespace Sd
open PySem PySem.Spec PyProof.Rows L2
open Ev (D Ob Zb Lc R E Sm Calls Walk Fl Fn Bop Cop Ty Bf Mf ev evs)
end Sd
structure Bx(P:Prop):Prop where
 h:P
namespace Wr
def bx3{P Q R:Prop}(h:Bx P/\Bx Q/\Bx R):P/\Q/\R:=⟨h.1.h,h.2.1.h,h.2.2.h⟩
def yU{X xw C pos n q}:=Bx.mk (@Sd.yU X xw C pos n q)
def jR{X xw C pos n q}:=Bx.mk (@Sd.jR X xw C pos n q)
def yh{X xw C pos q}:=Bx.mk (@Sd.yh X xw C pos q)
def yH{X xw C pos x q}:=Bx.mk (@Sd.yH X xw C pos x q)
def ZcY{X xw C pos}(n){x}(hN hv hd hcd):=Bx.mk (@Sd.ZcY X xw C pos n x hN hv hd hcd)
def zO{X xw C pos es is q}(h):=Bx.mk (@Sd.zO X xw C pos es is q (Bx.h h))
def zL{X xw C pos es is}(h):=Bx.mk (@Sd.zL X xw C pos es is (Bx.h h))
def zT{X xw C a b i j pos}(ha hb):=Bx.mk (@Sd.zT X xw C a b i j pos (Bx.h ha) (Bx.h hb))
def ye{X xw C a b i j pos}(ha hb):=Bx.mk (@Sd.ye X xw C a b i j pos (Bx.h ha) (Bx.h hb))
def yo{X xw C a b i j pos}(ha hb):=Bx.mk (@Sd.yo X xw C a b i j pos (Bx.h ha) (Bx.h hb))
def J7{X xw C a b i j pos}(ha hb):=Bx.mk (@Sd.J7 X xw C a b i j pos (Bx.h ha) (Bx.h hb))
def yf{X xw C a b i j pos}(ha hb):=Bx.mk (@Sd.yf X xw C a b i j pos (Bx.h ha) (Bx.h hb))
def yx{X xw C a b i j pos}(ha hb):=Bx.mk (@Sd.yx X xw C a b i j pos (Bx.h ha) (Bx.h hb))
def yV{X xw C a i pos}(ha):=Bx.mk (@Sd.yV X xw C a i pos (Bx.h ha))
def yj{X xw C a i pos}(ha):=Bx.mk (@Sd.yj X xw C a i pos (Bx.h ha))
def zQ{X xw C a b i j pos rest}(ha hb):=Bx.mk (@Sd.zQ X xw C a b i j pos rest (Bx.h ha) (Bx.h hb))
def Xx{X xw C a b i j pos op o}(hc ha hb)(hm):=Bx.mk (@Sd.Xx X xw C a b i j pos op o hc (Bx.h ha) (Bx.h hb) hm)
def Vw{X xw C a b i j pos op op' o o' d k}(hc hc' ha hb hd)(hm):=Bx.mk (@Sd.Vw X xw C a b i j pos op op' o o' d k hc hc' (Bx.h ha) (Bx.h hb) (Bx.h hd) hm)
def yG{X xw C a i pos p2 e1}(ha h1):=Bx.mk (@Sd.yG X xw C a i pos p2 e1 (Bx.h ha) (Bx.h h1))
def jS{X xw C a i pos p2 lo hi il ih}(ha hl hh):=Bx.mk (@Sd.jS X xw C a i pos p2 lo hi il ih (Bx.h ha) (Bx.h hl) (Bx.h hh))
def qu{X xw C a b i j pos}(ha hb)(hs):=Bx.mk (@Sd.qu X xw C a b i j pos (Bx.h ha) (Bx.h hb) hs)
def VZ{X xw C a i pos p p2 T t}(ht hm hmT ha)(hg hgT hvT hnT hdT hs1 hs2 hpl):=Bx.mk (@Sd.VZ X xw C a i pos p p2 T t ht hm hmT (Bx.h ha) hg hgT hvT hnT hdT hs1 hs2 hpl)
def Xp{X xw C e pos p f id x es is}(hc hm ha)(hg hv hn hdb he hpl):=Bx.mk (@Sd.Xp X xw C e pos p f id x es is hc hm (Bx.h ha) hg hv hn hdb he hpl)
def Vg{X xw C e pos p f id x es is}(hc hm ha)(hg hv hn hdb he hpl):=Bx.mk (@Sd.Vg X xw C e pos p f id x es is hc hm (Bx.h ha) hg hv hn hdb he hpl)
def VS{X xw C e i o io apos cpos}(ho ha)(hbase hfew hline hs hplain):=Bx.mk (@Sd.VS X xw C e i o io apos cpos (Bx.h ho) (Bx.h ha) hbase hfew hline hs hplain)
def z5{X xw C}:=Bx.mk (@Sd.z5 X xw C)
def JZ{X xw C e i es is}(ha hr)(hs):=Bx.mk (@Sd.JZ X xw C e i es is (Bx.h ha) (Bx.h hr) hs)
def Gk{X xw C}:=Bx.mk (@Sd.Gk X xw C)
def JA{X xw C e i}(h):=Bx.mk (@Sd.JA X xw C e i (Bx.h h))
def yE{X xw C a i pos}(ha):=Bx.mk (@Sd.yE X xw C a i pos (Bx.h ha))
def XE{X xw C a b i j pos op o}(hc ha hb)(hm):=Bx.mk (@Sd.XE X xw C a b i j pos op o hc (Bx.h ha) (Bx.h hb) hm)
def yA{X xw C a i}(ha)(he):=Bx.mk (@Sd.yA X xw C a i (Bx.h ha) he)
def xp{X xw C a b i j pos rest}(ha hb):=Bx.mk (@Sd.xp X xw C a b i j pos rest (Bx.h ha) (Bx.h hb))
def zV{X xw C a i pos}(ha):=Bx.mk (@Sd.zV X xw C a i pos (Bx.h ha))
def Gm{X xw C}:=Bx.mk (@Sd.Gm X xw C)
def J4{X xw C c i}(h):=Bx.mk (@Sd.J4 X xw C c i (Bx.h h))
def qp{X xw C e tg i}(he):=Bx.mk (@Sd.qp X xw C e tg i (Bx.h he))
def JJ{X xw C a tg i pos p}(hm ha)(hg hs):=Bx.mk (@Sd.JJ X xw C a tg i pos p hm (Bx.h ha) hg hs)
def Gh{X pos n x}(hN)(hi hx hf):=Bx.mk (@Sd.Gh X pos n x hN hi hx hf)
def zZ{X pos tgs q2 n m r}(hc h)(hn hst):=Bx.mk (@Sd.zZ X pos tgs q2 n m r hc (Bx.h h) hn hst)
def Jx{X}:=Bx.mk (@Sd.Jx X)
def U7{X pos tgs n t x}(hN h2)(hi hx hf hs):=Bx.mk (@Sd.U7 X pos tgs n t x hN (Bx.h h2) hi hx hf hs)
def yq{X xw C}:=Bx.mk (@Sd.yq X xw C)
def JU{X xw C s0 ss m0 ms}(h1 h2):=Bx.mk (@Sd.JU X xw C s0 ss m0 ms (Bx.h h1) (Bx.h h2))
def ya{X xw C e i pos tg t}(he hg)(hs hw h1):=Bx.mk (@Sd.ya X xw C e i pos tg t (Bx.h he) (Bx.h hg) hs hw h1)
def zX{X xw C e i pos p o ix io ii}(ho hi he)(ha hs hw h1):=Bx.mk (@Sd.zX X xw C e i pos p o ix io ii (Bx.h ho) (Bx.h hi) (Bx.h he) ha hs hw h1)
def yS{X xw C e i pos}(he):=Bx.mk (@Sd.yS X xw C e i pos (Bx.h he))
def Ge{X xw C e i pos}(he)(hs):=Bx.mk (@Sd.Ge X xw C e i pos (Bx.h he) hs)
def qG{X xw C c k pos ms ms' sa sb}(hc ha hb):=Bx.mk (@Sd.qG X xw C c k pos ms ms' sa sb (Bx.h hc) (Bx.h ha) (Bx.h hb))
def yu{X xw C tg it pos body ms w t}(hp hc hw hg hb)(hs):=Bx.mk (@Sd.yu X xw C tg it pos body ms w t hp hc (Bx.h hw) (Bx.h hg) (Bx.h hb) hs)
def yR{X xw C e i pos p op o n x}(ho hN he)(hi hx hf):=Bx.mk (@Sd.yR X xw C e i pos p op o n x ho hN (Bx.h he) hi hx hf)
def Ux{X xw C c k pos ms body}(hp hc hb):=Bx.mk (@Sd.Ux X xw C c k pos ms body hp (Bx.h hc) (Bx.h hb))
def yg{X xw C a b i j pos p tp elts kk}(hm ha)(hg hs hs2):=Bx.mk (@Sd.yg X xw C a b i j pos p tp elts kk hm (Bx.h ha) hg hs hs2)
def JW{X xw C a i pos p tp elts kk}(hm ha)(hg hs):=Bx.mk (@Sd.JW X xw C a i pos p tp elts kk hm (Bx.h ha) hg hs)
def VJ{X xw C e i o io apos cpos}(ho ha)(hbase hfew hline hs hplain):=Bx.mk (@Sd.VJ X xw C e i o io apos cpos (Bx.h ho) (Bx.h ha) hbase hfew hline hs hplain)
def JV{X xw C a i pos p p2 p3 T U t u k0 p4}(ht hu hm hmT hmU ha)(hg hgT hgU hvT hvU hnT hdT hnU hdU hs0 hs00 hs1 hs2 hpl):=Bx.mk (@Sd.JV X xw C a i pos p p2 p3 T U t u k0 p4 ht hu hm hmT hmU (Bx.h ha) hg hgT hgU hvT hvU hnT hdT hnU hdU hs0 hs00 hs1 hs2 hpl)
def WZ{X xw C e i pos p kp kp2 q0}(hm ha)(hg he hpl):=Bx.mk (@Sd.WZ X xw C e i pos p kp kp2 q0 hm (Bx.h ha) hg he hpl)
def U2{X xw C tg it pos elt ifs is ie scope N cap nl w t}(hc hN CS hi)(hb:∀c s H p,Bx _/\Bx _/\Bx _)(hs):=Bx.mk (@Sd.U2 X xw C tg it pos elt ifs is ie scope N cap nl w t hc hN CS (Bx.h hi) (λc s H p=>bx3 (hb c s H p)) hs)
def Qv{X xw C tg it pos elt ifs is ie scope N cap nl w t n y spos py}(hc hN CSc hi)(hb:∀c s H p,Bx _/\Bx _/\Bx _)(hsw hy hx hf hs):=Bx.mk (@Sd.Qv X xw C tg it pos elt ifs is ie scope N cap nl w t n y spos py hc hN CSc (Bx.h hi) (λc s H p=>bx3 (hb c s H p)) hsw hy hx hf hs)
def ZcS{X xw C e i}(h):=Bx.mk (@Sd.CWh.ct X xw C e i (Bx.h h))
end Wr
namespace Gn
open PySem PySem.Spec PyProof.Rows L2
open Ev (D Ob Zb Lc R E Sm Calls Walk Fl Fn Bop Cop Ty Bf Mf)
open Sd (CompScope cxC hu7)
structure FR where
 x:aZ
 st:de
 N:List aZ
 k:Nat
noncomputable def FR.ps(r:FR):List aZ:=r.N.take r.k
noncomputable def scB(N:List aZ)(k:Nat)(sc:c8):Bool:=
 (match sc.kind with | .function=>ag | _=>ai)&&(!sc.isCoroutine&&(!sc.isGenerator&&(decide N.Nodup&&((N.take k).all (λx=>ae (sc.names.lookup x=aa .local)||decide (sc.names.lookup x=aa .cell))&&sc.names.all λy=>ae (y.2≠.free)))))
def VP(h:scB N k sc=ag):FnScope N (N.take k) sc:=by
 unfold scB at h;simp only[aB,gT,T2,aU,fW]at h;obtain⟨h1,h2,h3,h4,h5,h6⟩:=h;refine⟨?_,h2,h3,h4,?_,h5,h6⟩
 ·cases e:sc.kind <;> rw[e]at h1 <;> first | rfl | cases h1
 ·rw[cp]
  by_cases hk:k<=N.length
  ·rw[Nat.min_eq_left hk]
  ·rw[Nat.min_eq_right (by omega),h7,fo (by omega)]
inductive Gv where
 |int (n:Int) | tab (t:List (Int×Int))
 deriving DecidableEq
def Zd2(K:aj)(mg:aZ->Option ao)(x:aZ):Gv->Prop
 |.int n=>∃t:mP,mg x=aa (.int n t)
 |.tab t=>∃tb:ax,(∀P w,Sd.Zev P w K tb t)/\mg x=aa (.ref tb)
structure Top(K:aj)(mg:aZ->Option ao)(fs:List FR)(zs:List aZ)(gs:List (aZ×Gv))(f:Nat->ax)(fd:Nat->bP):Prop where
 d:∀i r,fs[i]? = aa r->Fun K r.x r.x r.st (f i) (fd i)
 b:∀i r,fs[i]? = aa r->V4 K (fd i) r.ps []
 m:∀i r,fs[i]? = aa r->mg r.x=aa (.ref (f i))
 z:∀x∈zs,mg x=ac
 g:∀y∈gs,Zd2 K mg y.1 y.2
def Jd(r:FR):Prop:=∀(kV doc pm:ao)(an:Option ax)(cdv ct:ao)(us:List ao),us.length=r.ps.length->iV (c6 r.x r.x (Xo r.st) (ZC r.st) (Zf r.st) .none kV doc pm an cdv ct) ⟨us,[]⟩=cR (r.ps.zip us)
section
variable{x:aZ}{st:de}
noncomputable abbrev bA(x:aZ)(st:de)(kV doc pm:ao)(an:Option ax)(cdv ct:ao)(us:List ao):=iV (c6 x x (Xo st) (ZC st) (Zf st) .none kV doc pm an cdv ct) ⟨us,[]⟩
def bd1(h:∀kV doc pm an cdv ct a0,bA x st kV doc pm an cdv ct [a0]=cR ((N.take n).zip [a0]))(hl:(N.take n).length=1:=by rfl):Jd ⟨x,st,N,n⟩:=λkV doc pm an cdv ct us e=>match us,e.trans hl with | [a0],_=>h kV doc pm an cdv ct a0
def bd2(h:∀kV doc pm an cdv ct a0 a1,bA x st kV doc pm an cdv ct [a0,a1]=cR ((N.take n).zip [a0,a1]))(hl:(N.take n).length=2:=by rfl):Jd ⟨x,st,N,n⟩:=λkV doc pm an cdv ct us e=>match us,e.trans hl with | [a0,a1],_=>h kV doc pm an cdv ct a0 a1
def bd3(h:∀kV doc pm an cdv ct a0 a1 a2,bA x st kV doc pm an cdv ct [a0,a1,a2]=cR ((N.take n).zip [a0,a1,a2]))(hl:(N.take n).length=3:=by rfl):Jd ⟨x,st,N,n⟩:=λkV doc pm an cdv ct us e=>match us,e.trans hl with | [a0,a1,a2],_=>h kV doc pm an cdv ct a0 a1 a2
def bd4(h:∀kV doc pm an cdv ct a0 a1 a2 a3,bA x st kV doc pm an cdv ct [a0,a1,a2,a3]=cR ((N.take n).zip [a0,a1,a2,a3]))(hl:(N.take n).length=4:=by rfl):Jd ⟨x,st,N,n⟩:=λkV doc pm an cdv ct us e=>match us,e.trans hl with | [a0,a1,a2,a3],_=>h kV doc pm an cdv ct a0 a1 a2 a3
end
inductive FnsAt(K:aj):List FR->List ax->List bP->Prop
 |nil:FnsAt K [] [] []
 |cons {x:aZ} {st:de} {N:List aZ} {n:Nat} {a:ax} {rs:List FR} {as:List ax} {fds:List bP} {oc kV dc pm cd ct:ao} {od an:Option ax} {sl:Array (Option ao)}
   (h1:fu K bn x=aa (aa (.ref a))) (h2:K.lookup a=aa ⟨oc,od,.func (c6 x x (Xo st) (ZC st) (Zf st) .none kV dc pm an cd ct),sl⟩)
   (h3:gu K cd x=ag) (h4:ei K (.ref a)=ag) (h5:Jd ⟨x,st,N,n⟩) (t:FnsAt K rs as fds) :
   FnsAt K (⟨x,st,N,n⟩::rs) (a::as) (c6 x x (Xo st) (ZC st) (Zf st) .none kV dc pm an cd ct::fds)
inductive ZsAt(K:aj):List aZ->Prop
 |nil:ZsAt K []
 |cons {x:aZ} {zs:List aZ} (h:fu K bn x=aa ac) (t:ZsAt K zs):ZsAt K (x::zs)
inductive GsAt(K:aj):List (aZ×Gv)->Prop
 |nil:GsAt K []
 |cons {x:aZ} {n:Int} {u:mP} {gs:List (aZ×Gv)} (h:fu K bn x=aa (aa (.int n u))) (t:GsAt K gs):GsAt K ((x,.int n)::gs)
 |tab {x:aZ} {a:ax} {es:Array h8} {n:Nat} {tb:List (Int×Int)} {gs:List (aZ×Gv)} (h:fu K bn x=aa (aa (.ref a))) (h2:K.lookup a=aa ⟨.type "dict",ac,.dict es n,#[]⟩) (h3:Sd.Xz es.toList tb) (h4:(a == dh)=ai) (t:GsAt K gs):GsAt K ((x,.tab tb)::gs)
theorem GsAt.get{K:aj}{h:bJ}{mg:aZ->Option ao}(X:K.In h)(G:h.Ns bn mg):∀{gs:List (aZ×Gv)},GsAt K gs->∀y∈gs,Zd2 K mg y.1 y.2
 |_,.nil,x,h=>by simp at h
 |_,.cons h t,x,m=>by
  rcases az.mp m with rfl | m
  ·exact⟨_,g8 X G h⟩
  ·exact t.get X G x m
 |_,.tab h h2 h3 h4 t,x,m=>by
  rcases az.mp m with rfl | m
  ·exact⟨_,λP w=>Sd.Za3 h2 h3 h4,g8 X G h⟩
  ·exact t.get X G x m
theorem FnsAt.get{K:aj}{fd0:bP}:∀{fs:List FR}{as:List ax}{fds:List bP},FnsAt K fs as fds->∀i r,fs[i]? = aa r->
  fu K bn r.x=aa (aa (.ref (as.getD i 0)))/\Fun K r.x r.x r.st (as.getD i 0) (fds.getD i fd0)/\Jd r
 |_,_,_,.nil,i,r,e=>by simp at e
 |_,_,_,.cons h1 h2 h3 h4 h5 t,0,r,e=>by
  simp at e;subst e;exact⟨h1,ZcE h2 h3 h4,h5⟩
 |_,_,_,.cons h1 h2 h3 h4 h5 t,i+1,r,e=>by
  obtain⟨a,b,c⟩:=t.get i r (by simpa using e)
  exact⟨by simpa using a,by simpa using b,c⟩
theorem ZsAt.get{K:aj}:∀{zs:List aZ},ZsAt K zs->∀x∈zs,fu K bn x=aa ac
 |_,.nil,x,h=>by simp at h
 |_,.cons h t,x,m=>by
  rcases az.mp m with rfl | m
  ·exact h
  ·exact t.get x m
section
variable{X:Cx}{xw:Nat->Hp->Prop}{C:Calls}{e a b:Expr}{i j:E}{es:List Expr}{is:List E}{pos p p2 p3:dZ}{fs:List FR}{zs:List aZ}{gs:List (aZ×Gv)}{F:List Fn}{f:Nat->ax}{fd:Nat->bP}{d:Nat}
def Top.no{K:aj}{mg:aZ->Option ao}{x:aZ}(T:Top K mg fs zs gs f fd)(h:zs.contains x=ag):mg x=ac:=T.z x (by simpa using h)
noncomputable def csB(sc:c8)(N0:List aZ)(scope:c8)(N:List aZ)(cap:List Nat)(nl:Nat):Bool:=
 ((N.take nl).all (λx=>ae (scope.names.lookup x=aa .local))&&(ae (N.length=nl+cap.length)&&(cap.zipIdx.all (λp=>ae (N[nl+p.2]? = N0[p.1]?)&&ae ((N0[p.1]?).map (λx=>ae ((x,bu)∈scope.names))=aa ag)) &&
  ((match scope.kind with | .function=>ag | _=>ai)&&scope.names.all λy=>ae (y.2≠.cell)&&((!decide (y.2=.local)||decide (scope.names.lookup y.1=aa .local))&&(!decide (y.2=.free)||((ae (sc.names.lookup y.1=aa .cell)||decide (sc.names.lookup y.1=aa .free))&&ae (scope.names.lookup y.1≠aa .local))))))))
def ZU(h:csB sc N0 scope N cap nl=ag):CompScope sc N0 scope N cap nl:=by
 unfold csB at h;simp only[aB,fW,gT,T2,decide_eq_false_iff_not,aU]at h;obtain⟨_,h1,h2,h3,h4⟩:=h;refine⟨?_,λy hy=>(h4 y hy).1,λy hy z=>?_,λy hy z=>?_,λy hy z=>?_,h1,h2⟩
 ·cases e:scope.kind <;> rw[e]at h3 <;> first | rfl | cases h3
 ·rcases(h4 y hy).2.1 with q | q
  ·exact T7 z q
  ·exact q
 ·rcases(h4 y hy).2.2 with q | q
  ·exact T7 z q
  ·exact q.1
 ·rcases(h4 y hy).2.2 with q | q
  ·exact T7 z q
  ·exact q.2
end
end Gn
namespace Sd
open PySem PySem.Spec PyProof.Rows L2
def Fly(h:bJ)(e T C:ax):Prop:=
 ∃(oe:dP)(vs:Array ao)(a0:ao)(oT:dP)(ts:Array ao),h.get? e=aa oe/\(oe.cls=.ref C/\vs[0]? = aa a0)/\oe.data=.fields vs/\vs[1]? = aa (.ref T)/\T≠e/\h.get? T=aa oT/\oT.data=.fields ts/\ts[3]? = aa .none
noncomputable def CX1(P:bq)(w:bG):CXT:=λouter H s E e s'=>
 ∃(a T C:ax)(H':Hp),e=.ref a/\s'.os=s.os/\fH s'.gens/\Un (frs outer) [] H H' s.heap s'.heap/\HOk P w H' s'.heap/\Fly s'.heap a T C/\s.heap.get? a=ac/\s.heap.get? T=ac/\H' a=ac/\H' T=ac/\E (.ref C) ac H'
def ZK.there(x:ZK P w H h a o):∃u,h.get? a=aa u:=by
 cases o with|lst xs=>obtain⟨_,_,_,_,e⟩:=x;exact⟨_,e⟩|tup xs=>obtain⟨_,_,_,_,e,_⟩:=x;exact⟨_,e⟩|dK kvs=>obtain⟨_,_,_,_,o,_,_,e,_⟩:=x;exact⟨_,e⟩|dT kvs=>obtain⟨_,_,_,_,o,_,_,e,_⟩:=x;exact⟨_,e⟩|set S n=>obtain⟨o,_,_,_,e,_⟩:=x;exact⟨_,e⟩|ins C dx fs=>obtain⟨_,_,_,e,_⟩:=x;exact⟨_,e⟩|own y=>obtain⟨_,e⟩:=x;exact⟨_,e⟩|xd fs=>obtain⟨_,⟨_,_,_,e,_⟩,_⟩:=x;exact⟨_,e⟩|rng lo hi=>obtain⟨_,_,_,e⟩:=x;exact⟨_,e⟩|frz ob u=>obtain⟨e,_⟩:=x;exact⟨_,e⟩|tbl ps=>exact⟨_,(show h.get? a=aa _ from x)⟩|met f y=>exact⟨_,(show h.get? a=aa _ from x)⟩|ext φ=>obtain⟨_,⟨_,e⟩,_⟩:=x;exact⟨_,e⟩
theorem FunFrames.rebase{h h' base base':bJ}:∀{l:List Env},h.FunFrames base l->(∀b∈frs l,∀o,h.get? b=aa o->∃sl,h'.get? b=aa { o with slots:=sl })->(∀b∈frs l,base'.get? b=ac)->h'.FunFrames base' l
 |[],_,_,_=>trivial
 |env::l,⟨hk,⟨L,o,hf,hn,ho,hd⟩,hr⟩,k,n=>by
  have hm:L∈frs (env::l):=by unfold frs;rw[bO,hf];exact am ..
  obtain⟨sl,e⟩:=k L hm o ho;refine⟨hk,⟨L,_,hf,n L hm,e,hd⟩,FunFrames.rebase hr (λb hb=>k b ?_) λb hb=>n b ?_⟩
  all_goals unfold frs at hb ⊢;rw[bO,hf];exact al _ hb
structure DefX(X:Cx)(E:XK):Prop where
 xe:X.xe=λe s'=>aT (bc X.prog X.w) X.A (leaving X.env e) (λ_ s''=>CX1 X.prog X.w X.outer X.H₀ X.s₀ E e s'') (λe' s''=>CX1 X.prog X.w X.outer X.H₀ X.s₀ E e' s'') s'
 st:X.stack=X.env::X.outer
 fr:X.env.frame=aa X.env.locals
 ex:X.ex=[]
section
variable{X:Cx}{E:XK}{pq:List (ax×dP)}{σ:L2.St}{H H':Hp}{s s':aw}
def Inv.outside(D:DefX X E)(I:Inv X pq σ H s)(un:Un (frs X.stack) [] H H' s.heap s'.heap)(hos:s'.os=s.os)(bare:fH s'.gens)(hok:HOk X.prog X.w H' s'.heap)(na:s.heap.get? a=ac)(Ha:H' a=ac)
   (hh:∀b∈hid,b∈frs X.stack\/(s.heap.get? b=ac/\H' b=ac))(st:(cz s'.heap hid).StaysIn h')(up:s'.heap.UpToSlots h')(fl:Fly h' a T C)(hT:(cz s'.heap hid).get? T=ac)(hE:E (.ref C) ac H') :
  CX1 X.prog X.w X.outer X.H₀ X.s₀ E (.ref a) { s' with heap:=h' }:=by
 have U1:=I.base;rw[D.ex]at U1;have mO:∀b∈frs X.outer,b∈frs X.stack:=λb hb=>by
  rw[D.st];unfold frs at hb ⊢;rw[bO,D.fr];exact al _ hb
 have own:∀b o,X.s₀.heap.get? b=aa o->b∈frs X.stack->b∈frs X.outer:=λb o e hb=>by
  rw[D.st]at hb;unfold frs at hb ⊢;rw[bO,D.fr]at hb;rcases az.mp hb with z | z
  ·exact T7 (aJ e) (by rw[z];exact ib I.ok.above)
  ·exact z
 have nx:∀b:ax,b∉([]:List ax):=λb=>by simp
 have frN:∀b∈frs X.stack,H' b=ac:=λb hb=>by
  obtain⟨_,o,ho,_⟩:=I.stack.mem hb;exact un.free b o ho (I.stkFree b hb) (nx b)
 have hidN:∀b∈hid,H' b=ac:=λb hb=>by
  rcases hh b hb with z | z
  ·exact frN b z
  ·exact z.2
 have old:∀b o,s.heap.get? b=aa o->b∉frs X.stack->b∉hid:=λb o e hb hm=>by
  rcases hh b hm with z | z
  ·exact hb z
  ·rw[e]at z;cases z.1
 have keep:∀b u,s'.heap.get? b=aa u->b∉hid->h'.get? b=aa u:=λb u e n=>st b u (eK _ e n)
 have nof:∀b∈frs X.stack,∀o,s'.heap.get? b=aa o->∀vs,o.data≠.fields vs:=λb hb o e=>by
  obtain⟨_,o1,ho,hd⟩:=I.stack.mem hb;obtain⟨sl,e1⟩:=un.any ho (I.stkFree b hb) (nx b);rw[e]at e1;cases e1;exact hd
 have frS:∀b∈frs X.stack,∀o,s'.heap.get? b=aa o->∃sl,h'.get? b=aa { o with slots:=sl }:=λb hb o e=>up b o e (nof b hb o e)
 have trk:∀b u,H' b=aa u->b∉hid:=λb u e hm=>by rw[hidN b hm]at e;cases e
 have hT2:∀o,s'.heap.get? T=aa o->H' T=ac/\s.heap.get? T=ac\/False:=λo e=>by
  by_cases hm:T∈hid
  ·rcases hh T hm with z | z
   ·obtain⟨oe,vs,a0,oT,ts,_,_,_,_,_,g1,g2,_⟩:=fl
    obtain⟨sl,e2⟩:=frS T z o e;rw[g1]at e2;cases e2;exact T7 g2 (nof T z o e ts)
   ·exact .inl ⟨z.2,z.1⟩
  ·rw[eK _ e hm]at hT;cases hT
 have there:∀b o,X.s₀.heap.get? b=aa o->∃o',s'.heap.get? b=aa o':=λb o e=>by
  obtain⟨o1,e1⟩:=U1.there b o e (nx b);exact un.there b o1 e1 (nx b)
 refine⟨a,T,C,H',rfl,hos.trans I.os,bare,⟨λb o e n hb _=>?_,λb o e n hb _=>?_,λb o e n _=>?_,λb o e _=>?_,λb xs e=>un.tups b xs (U1.tups b xs e),λb o u e=>un.frzs b o u (U1.frzs b o u e),λb ps e=>?_⟩,λc o e=>?_,fl,?_,?_,Ha,?_,hE⟩
 ·have e1:=U1.keep b o e n hb (nx b)
  have hn:b∉frs X.stack:=λz=>hb (own b o e z)
  exact keep b o (un.keep b o e1 (U1.free b o e n (nx b)) hn (nx b)) (old b o e1 hn)
 ·obtain⟨sl,e1⟩:=U1.slot b o e n hb (nx b)
  obtain⟨sl2,e2⟩:=un.slot b _ e1 (U1.free b o e n (nx b)) (mO b hb) (nx b);obtain⟨sl3,e3⟩:=frS b (mO b hb) _ e2;exact⟨sl3,e3⟩
 ·obtain⟨o1,e1⟩:=U1.there b o e (nx b)
  exact un.free b o1 e1 (U1.free b o e n (nx b)) (nx b)
 ·obtain⟨o1,e1⟩:=U1.there b o e (nx b)
  obtain⟨o2,e2⟩:=un.there b o1 e1 (nx b);by_cases hm:b∈frs X.stack
  ·obtain⟨sl,e3⟩:=frS b hm o2 e2
   exact⟨_,e3⟩
  ·exact⟨o2,keep b o2 e2 (old b o1 e1 hm)⟩
 ·obtain⟨m1,e1⟩:=U1.tbls b ps e
  obtain⟨m2,e2⟩:=un.tbls b _ e1;exact⟨m1++m2,by rw[e2,kz]⟩
 ·refine(hok c o e).stay (λb u hb q=>?_) (λ_ q=>q) λ_ _ q=>q
  rcases hb with rfl | hb
  ·exact keep _ u q (trk _ _ e)
  ·exact keep _ u q (trk _ _ hb)
 ·cases q:X.s₀.heap.get? a with
  |none=>rfl
  |some o=>
   obtain⟨o1,e1⟩:=U1.there a o q (nx a);rw[na]at e1;cases e1
 ·cases q:X.s₀.heap.get? T with
  |none=>rfl
  |some o=>
   obtain⟨o1,e1⟩:=U1.there T o q (nx T);obtain⟨o2,e2⟩:=un.there T o1 e1 (nx T);rcases hT2 o2 e2 with z | z
   ·rw[e1]at z;cases z.2
   ·exact z.elim
 ·cases q:H' T with
  |none=>rfl
  |some u=>
   obtain⟨o,e⟩:=ZK.there (hok T u q);rcases hT2 o e with z | z
   ·rw[q]at z;cases z.1
   ·exact z.elim
def ZdU(D:DefX X E):Uw (CX1 X.prog X.w) X E:=by
 rintro pq σ H s e s' I ⟨a,T,C,H',rfl,os,bare,un,hok,fly,na,nT,Ha,HT,hE⟩
 rw[D.xe];have nx:∀b:ax,b∉([]:List ax):=λb=>by simp
 have hfr:X.A.frames=aa (X.env::X.outer):=by rw[<-D.st];exact I.ok.frames
 let hid:=frs X.stack++[a,T]
 have hin:∀b∈frs X.stack,b∈hid:=λb hb=>cC _ hb
 have FF:s'.heap.FunFrames (cz s'.heap hid) (X.env::X.outer):=by
  rw[<-D.st];exact FunFrames.rebase I.stack (λb hb o e=>un.any e (I.stkFree b hb) (nx b)) λb hb=>cg _ (hin b hb)
 obtain⟨oe,vs,a0,oT,ts,f1,f2,f3,f4,f5,f6,f7,f8⟩:=fly;refine wpAny_leaves_onW (base:=cz s'.heap hid) hfr D.fr (cls:=.ref C) (a0:=a0) (e:=a) ⟨λb o e=>eX _ e,cg _ (bi _ (am ..)),FF,oe,vs,T,oT,ts,f1,f2,f3,f4,cg _ (bi _ (al _ (am ..))),f5,f6,f7,f8⟩ λh' fl' up=>?_
 obtain⟨g1,_,_,oe',vs',T',oT',ts',e1,e2,e3,e4,e5,e6,e7,e8,e9⟩:=fl';refine Inv.outside D I un os bare hok na Ha (hid:=hid) (λb hb=>?_) g1 up (T:=T') ⟨oe',vs',a0,oT',ts',e1,e2,e3,e4,e6,e7,e8,e9⟩ e5 hE
 rcases bQ.mp hb with z | z
 ·exact .inl z
 ·rcases az.mp z with rfl | z
  ·exact .inr ⟨na,Ha⟩
  ·rw[bp.mp z];exact .inr ⟨nT,HT⟩
end
end Sd
namespace Sd
open PySem PySem.Spec PyProof.Rows L2
open Ev (D Ob Zb Lc R E Sm Calls Walk Fl Fn Bop Cop Ty Bf Mf ev evs evo evt evw tst run runs)
noncomputable abbrev veM:List ao:=[.type "ValueError",.type "Exception",.type "BaseException",.type "object"]
structure Cls1(h:bJ)(S C:ax):Prop where
 ob:∃bm N nm q bs hdct sn mO ab col dd k0 k1 k2 k3 k5 mN,h.get? C=aa (excClassObj nm q C N bs bm hdct sn mO ab col dd k0 k1 k2 k3 k5 "ValueError.__new__")/\h.Ns N mN/\mN "__init__" = ac/\OwnTail h veM bm
section
variable{X:Cx}{E:XK}{S C:ax}{x:aZ}{np cpos pos:dZ}{e:Expr}{es:List Expr}{t:TA}
def ZcT(C:ax)(E:XK)(t:TA):TS:=λ_ σ H=>t σ H λvs H'=>vs.length<=aX/\E (.ref C) ac H'
def jZ(D:DefX X E)(hc:X.calm=ag)(O:Cls1 X.base S C)(hg:Gl X x)(hm:X.mg x=aa (.ref C))(ha:PA X (e::es) t)(hd:(x == ("__debug__" : aZ))=ai)
  (he:aC (e::es) X.env=(ai,bZ e X.env)::aC es X.env)(hpl:(cK cpos (aC es X.env)).any (·.1)=ai) :
  PS X (.Raise (aa (.Call (.Name x np) (e::es) [] cpos)) ac pos) (ZcT C E t):=by
 intro pq s σ H Dn I h;obtain⟨bm,N,nm,q,bs,hdct,sn,mO,ab,col,dd,k0,k1,k2,k3,k5,mN,hC,hN,hi,tl⟩:=O.ob;refine wpAny_Raise_call_subT (C:=C) (nm:=nm) (q:=q) (N:=N) (bs:=bs) (bm:=bm) (hdct:=hdct) (sn:=sn) (sub:=mO) (ab:=ab) (col:=col) (dd:=dd) (k0:=k0) (k1:=k1) (k2:=k2) (k3:=k3) (k5:=k5)
  PySem.F.excBase_ValueError (mN:=mN) (tl.hasType PySem.F.excBase_ValueError.hasBase) (I.ok.hd hc) (by rw[he];show(ai||(cK cpos (aC es X.env)).any (·.1))=ai;rw[hpl];rfl) hi (Vj I hg hm ⟨rfl,?_⟩ hd)
 have ha':=ha cpos pq s σ H _ I h;rw[he]at ha' ⊢;refine Calls.evalArgs_plain (cF ha' (λus s2 ⟨vs,H2,I2,r2,hl,hE⟩=>⟨rfl,by rw[<-r2.length];exact hl,I2.bk _ _ hC,hN.keeps I2.bk,tl.keeps I2.bk,λh' a hx=>?_⟩) λ_ _ y=>y)
 rw[D.xe];have hfr:X.A.frames=aa (X.env::X.outer):=by rw[<-D.st];exact I2.ok.frames
 let hid:=frs X.stack
 have FF:s2.heap.FunFrames (cz s2.heap hid) (X.env::X.outer):=by
  rw[<-D.st];exact FunFrames.rebase I2.stack (λb hb o e=>⟨o.slots,e⟩) λb hb=>cg _ hb
 have nx:∀b:ax,b∉([]:List ax):=λb=>by simp
 refine wpAny_leaves_madeW (base:=cz s2.heap hid) (h:=s2.heap) hfr D.fr (λb o e=>eX _ e) FF hx λh2 t fl _ _ up=>?_
 obtain⟨g1,_,_,oe,vs',T,oT,ts,e1,e2,e3,e4,e5,e6,e7,e8,e9⟩:=fl;have na:s2.heap.get? a=ac:=hx.new;have Ha:H2 a=ac:=by
  cases q:H2 a with
  |none=>rfl
  |some u=>
   obtain⟨o,e⟩:=ZK.there (I2.hok a u q);rw[na]at e;cases e
 exact Inv.outside (s':=s2) (H':=H2) D I2 (Un.kept λb o e=>e) rfl I2.bare I2.hok na Ha (hid:=hid) (λb hb=>.inl hb) g1
  ((bJ.UpToSlots.of_keeps hx.keeps).trans up) (T:=T) ⟨oe,vs',.ref t,oT,ts,e1,e2,e3,e4,e6,e7,e8,e9⟩ e5 hE
variable{tj:TJ}
end
end Sd
namespace Sd
open PySem PySem.Spec PyProof.Rows L2
open Ev (D Ob Zb Lc R Sm Calls Walk Fl Fn Bop Cop Ty Bf Mf ev evs evo evt evw tst run runs)
noncomputable def xwE(cl:List ax)(E:XK):Nat->Hp->Prop:=λc H=>∃C,cl[c]? = aa C/\E (.ref C) ac H
def End.ex_mono{α β:Type}{K:aj}{xw xw':Nat->Hp->Prop}{ρ:List ax}{H:Hp}{rep:List ax->Hp->α->β->Prop}{Q:β->Hp->Prop}{r:R α}(k:∀c H,xw c H->xw' c H)(h:End K xw rep ρ H Q r):End K xw' rep ρ H Q r:=by
 cases r with|ok d S=>exact h|ex c S=>exact λρ' H' f st=>k c H' (h ρ' H' f st)|no=>exact h
section
variable{X:Cx}{E:XK}{S C:ax}{x:aZ}{np cpos pos jp p:dZ}{e v1 v2:Expr}{es rest:List Expr}{xw:Nat->Hp->Prop}{cl:List ax}{Cc:Calls}{n m:Nat}{is:List Ev.E}{i:Ev.E}
def qi(D:DefX X E)(hc:X.calm=ag)(O:Cls1 X.base S C)(hn:cl[n]? = aa C)(hg:Gl X x)(hm:X.mg x=aa (.ref C))(hd:(x == ("__debug__" : aZ))=ai)
  (he:aC [.Constant (.str y) j p] X.env=(ai,bZ (.Constant (.str y) j p) X.env)::aC [] X.env)(hpl:(cK cpos (aC [] X.env)).any (·.1)=ai) :
  CS X (xwE cl E) Cc (.Raise (aa (.Call (.Name x np) [.Constant (.str y) j p] [] cpos)) ac pos) (.raise n []):=
 PS.imp (jZ D hc O hg hm (ZE JN Yn he) hd he hpl) λDn σ H ⟨ρ,l,S,st,lr,h⟩=>by
  refine⟨by show 1<=aX;decide,?_⟩
  obtain⟨C',e1,e2⟩:=h ρ H (Fut.refl _ _) st;rw[hn]at e1;cases e1;exact e2
def spX(K:aj)(cl:List ax)(C:Calls)(n:Nat):Sp:=λvs H Q E=>∃ρ ds S,St3 K ρ S H/\Rq ρ H ds vs/\End K (xwE cl E) Rep ρ H Q (C n ds S)
def zA{kk:Nat}{f:ax}{fd:bP}{ps:List aZ}(F:FnOk X.prog X.w X.K X.mg X.base (CX1 X.prog X.w) kk f fd ps (spX X.K cl Cc n))(hr:Room kk X.A)(hx:Uw (CX1 X.prog X.w) X E)(hw:∀c H,xw c H->xwE cl E c H)(hm:X.mg x=aa (.ref f))(hk:ei X.K (.ref f)=ag)(hb:V4 X.K fd ps [])
  (ha:CA X xw Cc (e::es) is)(hg:Gl X x)(hdb:(x == ("__debug__" : aZ))=ai)(he:aC (e::es) X.env=(ai,bZ e X.env)::aC es X.env)(hpl:(cK pos (aC es X.env)).any (·.1)=ai) :
  CE X xw Cc (.Call (.Name x p) (e::es) [] pos) (.call n is):=
 PE.imp (ZbP F hr hg hm hk hb .nil hx ha hdb he hpl) λσ H Q ⟨ρ,l,S,st,lr,h⟩=>
  ⟨ρ,l,S,st,lr,End.bind (show End X.K xw Rep ρ H Q ((evs Cc is l S).bind _)from h) λxs S1 ρ1 H1 vs f1 st1 r1 h1=>by
   rw[dF];exact⟨ρ1,xs,S1,st1,r1,End.ex_mono hw h1⟩⟩
end
section
variable{P:bq}{w:bG}{K:aj}{mg:aZ->Option ao}{base:bJ}{cl:List ax}
def qv{F:List Fn}{n d:Nat}{fn:Fn}{x qual:aZ}{st:de}{f:ax}{fd:bP}{N ps:List aZ}{k:Nat}(hF:F[n]? = aa fn)(hns:fn.ns=N.length)(hps:fn.ps=ps.length)(Fu:Fun K x qual st f fd)(S:FnScope N ps (Zf st))
  (hb:∀(cdv:ao)(A:bV)(outer:List Env)(s:aw)(H:Hp)(E:XK),Room k (A.deeper (cM qual (Zf st) s.heap.objs.size f cdv))->
   CSs (Wb (CX1 P w) P w K mg base N qual (Zf st) f cdv A outer s H E) (xwE cl E) (Ev.Zt F d) (ZC st) fn.body) :
  FnOk P w K mg base (CX1 P w) (k+1) f fd ps (spX K cl (Ev.Zt F (d+1)) n):=by
 have eq:∀ds S,Ev.Zt F (d+1) n ds S=if ds.length=fn.ps then(runs (Ev.Zt F d) fn.body (Ev.start fn.ns ds) S).bind λf S=>match f with
    |.ret x=>.ok x S
    |.nx _=>.ok .non S
    |_=>.no
   else .no:=λds S=>by
  rw[Ev.Zt,hF]
  all_goals rfl
 obtain⟨oc,od,kV,doc,pm,an,cdv,ct,osl,rfl,lk,hcd⟩:=Fu.ex;refine Zcd lk hcd S (λvs H Q E ⟨ρ,ds,S,st,r,h⟩=>?_) λA outer s H vs Q E hr ⟨ρ,ds,S',st,r,h⟩=>⟨_,hb cdv A outer s H E hr,ρ,Ev.start fn.ns ds,S',st,LocR.start r N fn.ns hns,?_⟩
 ·rw[eq]at h
  obtain⟨hl,_⟩:=End.guard h;rw[r.length,hl,hps]
 ·rw[eq]at h
  obtain⟨hl,h⟩:=End.guard h;cases q:runs (Ev.Zt F d) fn.body (Ev.start fn.ns ds) S' with
  |no=>rw[q]at h;exact h
  |ex c S2=>rw[q]at h;exact h
  |ok fl S2=>
   rw[q]at h;cases fl with|ret x=>exact λρ' H' v g st r=>h ρ' H' v g st r|nx l=>exact λρ' H' σ' g st lr=>h ρ' H' .non g st YF|brk l=>exact False.elim h|cnt l=>exact False.elim h
def qJ :FnOk P w K mg base (CX1 P w) k f fd ps (spX K cl (Ev.Zt F 0) n):=
 ⟨λvs H Q E ⟨ρ,ds,S,st,r,h⟩=>False.elim h,λA outer s H args us vs Q E hr e0 hb r ⟨ρ,ds,S,st,r',h⟩=>False.elim h⟩
def Zbf :DefX (Wb (CX1 P w) P w K mg base N qual sc f cdv A outer s H E) E:=⟨rfl,rfl,rfl,rfl⟩
def Zet :Uw (CX1 X.prog X.w) X E0:=λpq σ H s e s' I ⟨_,_,_,_,_,_,_,_,_,_,_,_,_,_,z⟩=>z.elim
end
end Sd
namespace Sd
open PySem PySem.Spec PyProof.Rows L2 PySem.W
structure ExK(K:Frag)(C:ax):Prop where
 cd:(clsIn K C).isSome=ag
 ga:mw K (.ref C) "__getattribute__" = aa (aa (.builtin "BaseException.__getattribute__"))
 gx:mw K (.ref C) "__getattr__" = aa ac
 gc:mw K (.ref C) "__class__" = aa (aa (.builtin "object.__class__"))
 be:mroIn K C (.type "BaseException")=aa ag
 ob:mroIn K C (.type "object")=aa ag
section
variable{prog:bq}{w:bG}{A:bV}{E:ao->aw->Prop}{h:bJ}{g:Array GenState}{d:Drawn}{t:Nat}{os:OsState}{a C:ax}{o:dP}{K:Frag}
def ZbR{R:Result->aw->Prop}(X:K.In h)(k:ExK K C)(hx:h.get? a=aa o)(hc:o.cls=.ref C)(hq:R (.ok (.ret (.ref C))) ⟨h,g,d,t,os⟩) :
  fh (bc prog w) A (.call (.builtin "getset_descriptor.__get__") ⟨[.builtin "object.__class__",.ref a,.ref C],[]⟩) R ⟨h,g,d,t,os⟩:=by
 have hT5:(⟨h,g,d,t,os⟩:aw).TypeIs (.builtin "object.__class__") "getset_descriptor":=fv;have L1:Looks (bc prog w) h (isSubtype (.ref C) (.type (".".intercalate ("object.__class__".cutAt '.').dropLast))) ag:=by
  rw[F.owner_object_class];exact looks_mroIn X k.ob
 refine i5 F.slot_gs_get.plain F.entry_gs_get (F.slot_gs_get.check _ _ _ _ _ _ _ _ hT5 (F.args_gs_get _ _ _) ?_)
 repeat(any_goals (first | assumption | (with_reducible refine ee hx ?_;rw[hc]) | with_reducible refine L1.at ?_ | wp_step))
 refine⟨Code.quiet_builtin _ (by decide +kernel),codeAny_builtin F.entry_object_class ?_⟩
 repeat(any_goals (first | assumption | (with_reducible refine ee hx ?_;rw[hc]) | wp_step))
def vj{Q:Unit->aw->Prop}(X:K.In h)(k:ExK K C)(hx:h.get? a=aa o)(hc:o.cls=.ref C)(hq:Q () ⟨h,g,d,t,os⟩) :
  aT M A (checkBuiltinCall "BaseException.__getattribute__" ⟨[.ref a,nameV],[]⟩) Q E ⟨h,g,d,t,os⟩:=by
 have hk:builtinKind "BaseException.__getattribute__" = aa .slot:=by decide +kernel
 have hsplit:splitId "BaseException.__getattribute__" = aa ("BaseException","__getattribute__"):=by decide +kernel
 have L1:Looks M h (isSubtype (.ref C) (.type "BaseException")) ag:=looks_mroIn X k.be;have ha:=F.args_bexc_ga (.ref a) nameV;simp only[checkBuiltinCall,hk,hsplit];refine ak ?_;unfold isInstance
 repeat(first | (with_reducible refine ee hx ?_;rw[hc]) | with_reducible refine L1.at ?_ | wp_step)
 exact hq
def vE{Q:Fin->aw->Prop}(X:K.In h)(k:ExK K C)(hx:h.get? a=aa o)(hc:o.cls=.ref C)(hq:Q (.done (.ret (.ref C))) ⟨h,g,d,t,os⟩) :
  aT (bc prog w) A (fI.«object.__getattribute__» ⟨[.ref a,.str "__class__" tk],[]⟩) Q E ⟨h,g,d,t,os⟩:=by
 have hT5:(⟨h,g,d,t,os⟩:aw).TypeIs (.builtin "object.__class__") "getset_descriptor":=fv;have f5:=fv;have f6:=F.slot_gs_get.lookup;have f7:=F.slot_gs_set.lookup;have L1:Looks (bc prog w) h (kI (.ref C) "__class__") (aa (.builtin "object.__class__")):=lm X k.gc
 repeat(any_goals (first | assumption | (with_reducible refine ee hx ?_;rw[hc]) | with_reducible refine L1.at ?_ | wp_step))
 refine ZbR X k hx hc ?_
 repeat(any_goals (first | assumption | wp_step))
def Zc0{Q:ao->aw->Prop}(X:K.In h)(k:ExK K C)(hx:h.get? a=aa o)(hc:o.cls=.ref C)(hq:Q (.ref C) ⟨h,g,d,t,os⟩) :
  aT (bc prog w) A (getAttrBy (.ref a) (.str "__class__" tk) ai) Q E ⟨h,g,d,t,os⟩:=by
 have f3:=PySem.F.excAttr_ValueError.ga.bind (.ref a);have hx2:(g9 "BaseException.__getattribute__" == g9 "object.__getattribute__")=ai:=by decide +kernel
 have hx1:(onTheHeap (bU C)&&g9 "BaseException.__getattribute__" == g9 "object.__getattribute__")=ai:=by rw[hx2];rfl
 have L1:Looks (bc prog w) h (kI (.ref C) "__getattribute__") (aa (.builtin "BaseException.__getattribute__")):=lm X k.ga;have L2:Looks (bc prog w) h (kI (.ref C) "__getattr__") ac:=lm X k.gx
 repeat(any_goals (first | assumption | (with_reducible refine ee hx ?_;rw[hc]) | with_reducible refine L1.at ?_ | with_reducible refine L2.at ?_ | wp_step))
 refine i5 PySem.F.excAttr_ValueError.ga.plain F.entry_bexc_ga (vj X k hx hc (vE X k hx hc ?_))
 repeat(any_goals (first | assumption | wp_step))
def wQ{Q:Option ao->aw->Prop}(X:K.In h)(k:ExK K C)(hx:h.get? a=aa o)(hc:o.cls=.ref C)(hq:Q (aa (.ref C)) ⟨h,g,d,t+1,os⟩) :
  aT (bc prog w) A (getAttr? (.ref a) "__class__") Q E ⟨h,g,d,t,os⟩:=by
 unfold getAttr? getAttrBy?
 repeat(any_goals (first | assumption | with_reducible apply Zc0 X k hx hc | wp_step))
end
def jt{K:Frag}{a C:ax}(k:ExK K C):KitX K (.ref a) (.ref C) (λh=>∃o,h.get? a=aa o/\o.cls=.ref C) where
 ty:=λ_ _ _ ⟨o,hx,hc⟩=>hc▸(Looks.ld hx).andThen .now
 it:=λ_ _ X _=>by
  have hcD:=k.cd;unfold clsIn at hcD;split at hcD
  ·rename_i c' d' cd' sl' ho
   intro A' Q' E' s' kk q;unfold isType loadHead;exact ak (wpAny_loadPart (kk _ _ (X _ _ ho)) (aF q))
  ·cases hcD
 ne:=λh tp dd its n sl X htp=>by
  have hcD:=k.cd;refine Bool.eq_false_iff.mpr λq=>?_
  have e:C=tp:=bU.inj (beq_iff_eq.mp q);subst e;unfold clsIn at hcD;split at hcD
  ·rename_i c' d' cd' sl' ho
   have z:=(X _ _ ho).symm.trans htp;cases z
  ·cases hcD
 ca:=λ{_ _ _ _ _ s} X ⟨o,hx,hc⟩ q=>by obtain⟨h,g,d,t,os⟩:=s;exact wQ X k hx hc q
end Sd
namespace Sd
open PySem PySem.Spec PyProof.Rows L2
section
variable{X:Cx}{E:XK}{pq:List (ax×dP)}{σ:L2.St}{H:Hp}{s:aw}
theorem Inv.slots(D:DefX X E)(I:L2.Inv X pq σ H s)(hh:∀b∈hid,b∈frs X.stack\/(X.s₀.heap.get? b=ac/\H b=ac/\∀p∈X.pn++pq,p.1≠b))
  (st:(cz s.heap hid).StaysIn h')(up:s.heap.UpToSlots h'):L2.Inv X pq σ H { s with heap:=h' }:=by
 have keep:∀b u,s.heap.get? b=aa u->b∉hid->h'.get? b=aa u:=λb u e n=>st b u (eK _ e n)
 have nof:∀b∈frs X.stack,∀o,s.heap.get? b=aa o->∀vs,o.data≠.fields vs:=λb hb o e=>by
  obtain⟨_,o1,ho,hd⟩:=I.stack.mem hb;rw[e]at ho;cases ho;exact hd
 have frS:∀b∈frs X.stack,∀o,s.heap.get? b=aa o->∃sl,h'.get? b=aa { o with slots:=sl }:=λb hb o e=>up b o e (nof b hb o e)
 have frH:∀b∈frs X.stack,H b=ac:=I.stkFree;have mO:∀b∈X.fs,b∈frs X.stack:=λb hb=>by
  change b∈frs X.outer at hb
  rw[D.st];unfold frs at hb ⊢;rw[bO,D.fr];exact al _ hb
 have own:∀b o,X.s₀.heap.get? b=aa o->b∈frs X.stack->b∈X.fs:=λb o e hb=>by
  rw[D.st]at hb;show b∈frs X.outer;unfold frs at hb ⊢;rw[bO,D.fr]at hb;rcases az.mp hb with z | z
  ·exact T7 (aJ e) (by rw[z];exact ib I.ok.above)
  ·exact z
 have hidN:∀b∈hid,H b=ac:=λb hb=>(hh b hb).elim (frH b) λz=>z.2.1
 have old:∀b o,X.s₀.heap.get? b=aa o->b∉X.fs->b∉hid:=λb o e hb hm=>by
  rcases hh b hm with z | z
  ·exact hb (own b o e z)
  ·rw[e]at z;cases z.1
 have U:=I.base;refine⟨I.ok,I.os,I.bare,⟨λb o e n hb hx=>keep b o (U.keep b o e n hb hx) (old b o e hb),λb o e n hb hx=>?_,U.free,λb o e hx=>?_,U.tups,U.frzs,U.tbls⟩,?_,λy c e=>?_,I.free,I.freeC,λp hp=>?_,λc o e=>?_,I.len⟩
 ·obtain⟨sl,e1⟩:=U.slot b o e n hb hx
  obtain⟨sl2,e2⟩:=frS b (mO b hb) _ e1;exact⟨sl2,e2⟩
 ·obtain⟨o1,e1⟩:=U.there b o e hx
  by_cases hm:b∈frs X.stack
  ·obtain⟨sl,e2⟩:=frS b hm o1 e1
   exact⟨_,e2⟩
  ·refine⟨o1,keep b o1 e1 λz=>?_⟩
   rcases hh b z with q | q
   ·exact hm q
   ·rw[e]at q;cases q.1
 ·obtain⟨m,hn,hl⟩:=I.loc
  refine⟨m,up.ns hn,λi x v e1 e2 e3=>?_⟩
  obtain⟨u,r,q⟩:=hl i x v e1 e2 e3;refine⟨u,r,?_⟩;rcases q with q | ⟨k,c,e,z⟩
  ·exact .inl q
  ·refine .inr ⟨k,c,e,?_⟩
   obtain⟨o,ho,hd⟩:=z;obtain⟨sl,e2⟩:=up c o ho λvs q=>by rw[hd]at q;cases q
   exact⟨_,e2,hd⟩
 ·obtain⟨v,o,ho,hd⟩:=I.cell y c e
  obtain⟨sl,e2⟩:=up c o ho λvs q=>by rw[hd]at q;cases q
  exact⟨v,_,e2,hd⟩
 ·obtain⟨e,n,ne,nf,d⟩:=I.pin p hp
  refine⟨keep _ _ e λz=>?_,n,ne,nf,d⟩
  rcases hh p.1 z with q | q
  ·rw[D.st]at q;unfold frs at q;rw[bO,D.fr]at q
   rcases az.mp q with q | q
   ·exact ne q
   ·exact nf q
  ·exact q.2.2 p hp rfl
 ·refine(I.hok c o e).stay (λb u hb q=>?_) (λ_ q=>q) λ_ _ q=>q
  have nh:∀b u,H b=aa u->b∉hid:=λb u e hm=>by rw[hidN b hm]at e;cases e
  rcases hb with rfl | hb
  ·exact keep _ u q (nh _ _ e)
  ·exact keep _ u q (nh _ _ hb)
def Inv.freeze(I:L2.Inv X pq σ H s)(ha:s.heap.get? a=aa o)(Ha:H a=ac)(n0:X.s₀.heap.get? a=ac)(hl:a≠X.env.locals)(hc:∀x c,X.env.cells.lookup x=aa c->c≠a)(hp:∀p∈X.pn++pq,p.1≠a) :
  L2.Inv X pq σ (upd H a (.frz o (.own a))) s:=by
 have nu:∀b u,H b=aa u->upd H a (.frz o (.own a)) b=aa u:=λb u e=>by rw[Zo (λz=>by rw[z,Ha]at e;cases e)];exact e
 have nn:∀b,b≠a->H b=ac->upd H a (.frz o (.own a)) b=ac:=λb z e=>by rw[Zo z];exact e
 have U:=I.base;refine⟨I.ok,I.os,I.bare,⟨U.keep,U.slot,λb o e n hx=>nn b (λz=>by rw[z,n0]at e;cases e) (U.free b o e n hx),U.there,λb xs e=>nu _ _ (U.tups b xs e),λb o u e=>nu _ _ (U.frzs b o u e),λb ps e=>?_⟩,I.loc,I.cell,nn _ (Ne.symm hl) I.free,λx c e=>nn _ (hc x c e) (I.freeC x c e),λp hp'=>?_,λc u e=>?_,I.len⟩
 ·obtain⟨more,e1⟩:=U.tbls b ps e
  exact⟨more,nu _ _ e1⟩
 ·obtain⟨e,n,r⟩:=I.pin p hp'
  exact⟨e,nn _ (hp p hp') n,r⟩
 ·by_cases z:c=a
  ·subst z
   rw[Zq]at e;cases e;exact⟨ha,_,ha⟩
  ·rw[Zo z]at e
   exact(I.hok c u e).stay (λb v hb q=>q) (λ_ q=>nu _ _ q) λ_ _ q=>nu _ _ q
def Zay{E:ao->aw->Prop}{Q:Unit->aw->Prop}(I:L2.Inv X pq σ H s)(hN:X.N.Nodup)(hi:X.N[i]? = aa n)(hk:X.env.kindOf n=aa .local)
  (h:∀s',L2.Inv X pq (σ.set i ac) H s'->Q () s'):aT M A (do bindName X.env n .none;unbindBehindTheSuite X.env n pos) Q E s:=by
 obtain⟨m,hn,hl⟩:=id I.loc;have hcls:(X.env.scope.kind == .class||(X.env.scope.kind == .module&&X.env.locals != X.env.globals))=ai:=by rw[I.ok.kind];rfl
 have hiσ:i<σ.length:=by rw[I.len];exact(ay.mp hi).1
 refine wpAny_nameGoes_keeps hk hn hcls λh' v hn' hs=>?_
 obtain⟨oL,_,_,hoL,_⟩:=id hn;have ab:∀b o,X.s₀.heap.get? b=aa o->b≠X.env.locals:=λb o e=>br (aY (aJ e) I.ok.above)
 have U:=I.base;refine h _ ⟨I.ok,I.os,I.bare,⟨λb o e n hb hx=>(hs.2 b (ab b o e)).trans (U.keep b o e n hb hx),λb o e n hb hx=>?_,U.free,λb o e hx=>?_,U.tups,U.frzs,U.tbls⟩,⟨_,hn',λj y v' e1 e2 e3=>?_⟩,λy c e=>?_,I.free,I.freeC,λp hp=>?_,λc o e=>?_,by simpa using I.len⟩
 ·obtain⟨sl,e1⟩:=U.slot b o e n hb hx
  exact⟨sl,(hs.2 b (ab b o e)).trans e1⟩
 ·obtain⟨o',e1⟩:=U.there b o e hx
  exact⟨o',(hs.2 b (ab b o e)).trans e1⟩
 ·by_cases hj:j=i
  ·subst hj
   rw[aQ hiσ]at e2;cases e2
  ·rw[aE (Ne.symm hj)]at e2
   obtain⟨u',r',q⟩:=hl j y v' e1 e2 e3;refine⟨u',r',?_⟩;rcases q with⟨k,e⟩ | ⟨k,c,e,z⟩
   ·refine .inl ⟨k,?_⟩
    have:y≠n:=λe=>hj (Qp hN e1 (e▸hi))
    simp[this,e]
   ·exact .inr ⟨k,c,e,z.sameBut hs (I.cne y c e)⟩
 ·obtain⟨w',z⟩:=I.cell y c e
  exact⟨w',z.sameBut hs (I.cne y c e)⟩
 ·obtain⟨e,n,ne,nf,d⟩:=I.pin p hp
  exact⟨(hs.2 p.1 ne).trans e,n,ne,nf,d⟩
 ·refine(I.hok c o e).stay (λb u hb q=>(hs.2 b λz=>?_).trans q) (λ_ q=>q) λ_ _ q=>q
  subst z;rcases hb with rfl | hb
  ·rw[I.free]at e;cases e
  ·rw[I.free]at hb;cases hb
end
section
variable{X:Cx}{E:XK}{pq:List (ax×dP)}{σ:L2.St}{H:Hp}{s:aw}
noncomputable abbrev Cx.held(X:Cx)(a:ax):Cx:={ X with A:=X.A.mark (aa (.ref a)),calm:=ai,xe:=λ_ _=>False }
theorem Inv.held(I:L2.Inv X pq σ H s):L2.Inv (Cx.held X a) pq σ H s:=
 ⟨⟨I.ok.mod,I.ok.kind,I.ok.glob,I.ok.blt,I.ok.above,I.ok.inj,I.ok.has,I.ok.cab,(λz=>by cases z),I.ok.frames,I.ok.stk,I.ok.exf,I.ok.bs,I.ok.bsz,I.ok.noex,I.ok.exfs,I.ok.funs,I.ok.frf⟩,I.os,I.bare,I.base,I.loc,I.cell,I.free,I.freeC,I.pin,I.hok,I.len⟩
def Inv.unheld(ok:X.Ok)(I:L2.Inv (Cx.held X a) pq σ H s):L2.Inv X pq σ H s:=
 ⟨ok,I.os,I.bare,I.base,I.loc,I.cell,I.free,I.freeC,I.pin,I.hok,I.len⟩
def Zdu{M:Model}{A:bV}{E:ao->aw->Prop}{i:Nat}{x:aZ}{pos:dZ}{v:V}{Q:ao->aw->Prop}(I:L2.Inv X pq σ H s)(hi:X.N[i]? = aa x)(hv:Vis X.env.scope x)(e:σ[i]? = aa (aa v))(h:∀u,ZA v u->Q u s)
  (hd:(x == ("__debug__" : aZ))=ai)(hcd:(x == ("__classdict__" : aZ))=ai):aT M A (bZ (.Name x pos) X.env) Q E s:=by
 obtain⟨m,hn,hl⟩:=I.loc;obtain⟨u,r,l⟩:=hl i x v hi e hv;rcases l with⟨hk,hm⟩ | ⟨hk,c,hc,hcell⟩
 ·exact gq (fK I.ok.kind hk hn hm (h u r)) hd
 ·rcases hk with hk | hk
  ·exact gq (fX I.ok.kind hk hc hcell (h u r)) hd
  ·exact gq (ke I.ok.kind hk hc hcell (h u r) hcd) hd
def ZaP{Dn:Ends}{E1:XK}{g S:ax}{ic ie ir:Nat}{xc n xr xS:aZ}{p1 p2 p3 p4 p5 p6 p7 p8 p9:dZ}(D:DefX X E)(I:L2.Inv X pq σ H s)(hN:X.N.Nodup)
  (hic:X.N[ic]? = aa xc)(hvc:Vis X.env.scope xc)(hsc:σ[ic]? = aa (aa (.ref g)))(hie:X.N[ie]? = aa n)(hke:X.env.scope.names.lookup n=aa .local)(hir:X.N[ir]? = aa xr)(hlr:X.env.scope.names.lookup xr=aa .local)
  (hgS:Gl X xS)(hmS:X.mg xS=aa (.ref S))(hg:PySem.W.FnAt g s.heap)
  (run:fh (bc X.prog X.w) X.A (.call (.ref g) ⟨[],[]⟩) (CR (CX1 X.prog X.w) X.stack X.prog X.w H s (λ_ H'=>Dn.nx σ H') E1) s)
  (hE1:∀C H',E1 (.ref C) ac H'->mx X.K (.ref C) (.ref S)=aa ag/\∀a oe,H' a=ac->oe.cls=.ref C->Dn.nx (((σ.set ie (aa (.ref a))).set ir (aa (.ref a))).set ie ac) (upd H' a (.frz oe (.own a))))
  (hd1:(xc == ("__debug__" : aZ))=ai)(hd2:(xc == ("__classdict__" : aZ))=ai)(hd3:(n == ("__debug__" : aZ))=ai)(hd4:(n == ("__classdict__" : aZ))=ai)(hd5:(xS == ("__debug__" : aZ))=ai)
  (hs1:eE (.Call (.Name xc p1) [] [] p2) ac p3.line X.env=cR ai)(hs2:eE (.Name n p6) (aa (.Name xr p5)) p7.line X.env=cR ai) :
  aT (bc X.prog X.w) X.A (exec (.Try [.Expr (.Call (.Name xc p1) [] [] p2) p3] [.ExceptHandler (aa (.Name xS p4)) (aa n) [.Assign [.Name xr p5] (.Name n p6) p7] p8] [] [] p9) X.env) (SP X pq Dn) X.xe s:=by
 refine wpAny_Try_except (eD (wpAny_Expr_any ?_ I.quiet hs1));refine dm ?_;refine Zdu I hic hvc hsc (λu r=>?_) hd1 hd2
 obtain rfl:u=bU g:=r;refine PySem.W.callWith_F0 hg (mj (gd run λr s' hq=>?_))
 cases r with
 |ok fl=>
  cases fl with
  |ret u=>
   obtain⟨v,H',I',r',q'⟩:=I.after hq;exact d3 (d3 ⟨σ,H',I',q'⟩)
  |next=>exact False.elim hq
  |brk=>exact False.elim hq
  |cont=>exact False.elim hq
 |error e=>
  obtain⟨a,T,C,H',rfl,os,bare,un,hok,fly,na,nT,Ha,HT,hE⟩:=hq;obtain⟨exm,fin⟩:=hE1 C H' hE;have nx:∀b:ax,b∉([]:List ax):=λb=>by simp
  have hfr:X.A.frames=aa (X.env::X.outer):=by rw[<-D.st];exact I.ok.frames
  have I1:L2.Inv X pq σ H' s':=by
   obtain⟨hh,gg,d,t,os'⟩:=s';obtain rfl:os'=s.os:=os;exact I.call (h':=hh) (g':=gg) (d':=d) (t':=t) (ch:=[]) un hok bare (λb z=>T7 z (by simp))
  let hid:=frs X.stack++[a,T]
  have hin:∀b∈frs X.stack,b∈hid:=λb hb=>cC _ hb
  have old0:∀b,s.heap.get? b=ac->X.s₀.heap.get? b=ac:=λb e=>by
   cases q:X.s₀.heap.get? b with
   |none=>rfl
   |some o=>
    have U1:=I.base;rw[D.ex]at U1;obtain⟨o1,e1⟩:=U1.there b o q (nx b);rw[e]at e1;cases e1
  have pn:∀b,s.heap.get? b=ac->∀p∈X.pn++pq,p.1≠b:=λb e p hp z=>by
   have:=(I.pin p hp).1;rw[z,e]at this;cases this
  have hhid:∀b∈hid,b∈frs X.stack\/(X.s₀.heap.get? b=ac/\H' b=ac/\∀p∈X.pn++pq,p.1≠b):=λb hb=>by
   rcases bQ.mp hb with z | z
   ·exact .inl z
   ·rcases az.mp z with rfl | z
    ·exact .inr ⟨old0 _ na,Ha,pn _ na⟩
    ·rw[bp.mp z];exact .inr ⟨old0 _ nT,HT,pn _ nT⟩
  have FF:s'.heap.FunFrames (cz s'.heap hid) (X.env::X.outer):=by
   rw[<-D.st];exact FunFrames.rebase I1.stack (λb hb o e=>⟨o.slots,e⟩) λb hb=>cg _ (hin b hb)
  obtain⟨oe,vs,a0,oT,ts,f1,f2,f3,f4,f5,f6,f7,f8⟩:=fly;refine wpAny_looks_onW (base:=cz s'.heap hid) hfr D.fr (cls:=.ref C) (a0:=a0) (e:=a) ⟨λb o e=>eX _ e,cg _ (bi _ (am ..)),FF,oe,vs,T,oT,ts,f1,f2,f3,f4,cg _ (bi _ (al _ (am ..))),f5,f6,f7,f8⟩ λh1 held up1=>?_
  refine wpAny_landsW held λh2 fly2 up2=>?_
  have I2:L2.Inv X pq σ H' { s' with heap:=h2 }:=Inv.slots D I1 hhid fly2.1 (up1.trans up2)
  obtain⟨oe2,ge2,ce2⟩:=fly2.there;have K2:=I2.kIn;refine wpAny_handleBy_cons (codeAny_handlers_test (Vj (X:=Cx.held X a) (Inv.held I2) hgS hmS ?_ hd5)) (by intro q;cases q)
  refine(PySem.W.exm_one (M:=bc X.prog X.w) (h:=h2) K2 (ce2▸(PySem.W.Looks.ld ge2).andThen .now) exm).here ?_;show fh _ _ _ _ _;refine codeAny_handlers_suite_as ?_;obtain⟨k1,k2,k3,k4⟩:=fly2;refine wpAny_setFlight_noneW k1 k3 k4 λh3 m1 m2 m3 m4=>?_
  have I3:L2.Inv X pq σ H' { s' with heap:=h3 }:=Inv.slots D I1 hhid m1 ((up1.trans up2).trans λb o e hn=>⟨o.slots,m4 b o e hn⟩)
  obtain⟨oe3,vs3,T3,oT3,ts3,ge3,⟨ce3,_⟩,de3,_⟩:=m3;have I4:L2.Inv X pq σ (upd H' a (.frz oe3 (.own a))) { s' with heap:=h3 }:=Inv.freeze I3 ge3 Ha (old0 _ na)
   (λz=>by
    obtain⟨m,⟨o,es,ep,ho,hd,_⟩,_⟩:=I3.loc;have e1:h3.get? X.env.locals=aa o:=ho;rw[<-z,ge3]at e1;cases e1;rw[de3]at hd;cases hd)
   (λx c e z=>by
    obtain⟨v,o,ho,hd⟩:=I3.cell x c e;have e1:h3.get? c=aa o:=ho;rw[z,ge3]at e1;cases e1;rw[de3]at hd;cases hd) (pn _ na)
  refine Vp (X:=X) I4 hN hie (.inl hke) (v:=.ref a) rfl (λs4 I5=>?_) (.inr hke)
  have hiσ:ie<σ.length:=by rw[I.len];exact(ay.mp hie).1
  refine cF ((Vl (VM (X:=Cx.held X a) (pos:=p7) (pos':=p5) hN hir (.inl hlr) (Y8 (pos:=p6) hie (.inl hke) hd3 hd4) hs2 (.inr hlr))) pq s4 _ _
   { nx:=λσ' H1=>σ'=(σ.set ie (aa (.ref a))).set ir (aa (.ref a))/\H1=upd H' a (.frz oe3 (.own a)),rt:=λ_ _=>False } (Inv.held I5) ⟨.ref a,aQ hiσ,rfl,rfl⟩) (λf s5 hsp=>?_) λ_ _ z=>False.elim z
  cases f with
  |next=>
   obtain⟨σ',H1,J,rfl,rfl⟩:=hsp;exact Zay (Inv.unheld I.ok J) hN hie hke λs6 I6=>⟨_,_,I6,fin a oe3 Ha ce3⟩
  |ret u=>obtain⟨_,_,_,_,_,z⟩:=hsp;exact z.elim
  |brk=>obtain⟨_,_,_,z⟩:=hsp;exact False.elim z
  |cont=>obtain⟨_,_,_,z⟩:=hsp;exact False.elim z
end
end Sd
namespace Sd
open PySem PySem.Spec PyProof.Rows L2
open Ev (D Ob Zb Lc R Sm Calls Walk Fl Fn Bop Cop Ty Bf Mf ev evs evo evt evw tst run runs)
structure Gr(H H':Hp):Prop where
 k:∀b u,H b=aa u->(∀ps,u≠.tbl ps)->H' b=aa u
def Gr.fut(g:Gr H H'):Fut ρ H ρ H':=⟨⟨[],by simp⟩,λa xs e=>g.k a _ e λps z=>by cases z⟩
def St3.grow{K:aj}{ρ:List ax}{S:Zb}{H H':Hp}(st:St3 K ρ S H)(g:Gr H H')(tb:Tb H'):St3 K ρ S H':=
 ⟨st.len,st.nd,λn ob a h1 h2=>by
  have r:=st.ob n ob a h1 h2;have f:=g.fut (ρ:=ρ);cases ob with
  |lst ds=>obtain⟨xs,e,r⟩:=r;exact⟨xs,g.k _ _ e (λps z=>by cases z),r.mono f⟩
  |scr ns=>
   rcases r with⟨o,e⟩ | h
   ·exact .inl ⟨o,g.k _ _ e λps z=>by cases z⟩
   ·exact .inr h
  |dt kvs=>obtain⟨vs,e,r⟩:=r;exact⟨vs,g.k _ _ e (λps z=>by cases z),Paired.map2 r λp q z=>⟨z.1,z.2.mono f⟩⟩
  |dk kvs=>obtain⟨vs,e,r⟩:=r;exact⟨vs,g.k _ _ e (λps z=>by cases z),Paired.map2 r λp q z=>⟨z.1,z.2.mono f⟩⟩,tb⟩
def yc(l:List ao)(h:lE l)(e:gp q (l++[fA a,fA b,c])=aa cv):gp q l=aa cv\/cv=c:=by
 fun_induction lE l with
 |case1=>
  simp only[eV,gp,fA]at e;split at e
  ·cases e;exact .inr rfl
  ·cases e
 |case2 a' t b' u x rest ih=>
  simp only[ig,gp]at e ⊢;split at e
  ·rename_i z;rw[T9 z];exact .inl e
  ·rename_i z;rw[T8 z];exact ih h e
 |case3 l h1 h2=>exact h.elim
section
variable{X:Cx}{E:ao->aw->Prop}{pq:List (ax×dP)}{σ:L2.St}{H:Hp}{s:aw}
def Inv.grow(I:L2.Inv X pq σ H s){h':bJ}{tk:mP}{P:ax}{ps more:Array ao}(hP:H P=aa (.tbl ps))(hx:fN P s.heap h')(hT:h'.get? P=aa { cls:=.none,data:=.fields (ps++more) }){new:List (ax×dP)}
  (hn:∀p∈new,s.heap.objs.size<=p.1/\h'.get? p.1=aa p.2)(nd:(new.map (·.1)).Nodup) :
  let H':=new.foldl (λG p=>upd G p.1 (.frz p.2 (.own p.1))) (upd H P (.tbl (ps++more)))
  L2.Inv X pq σ H' { s with heap:=h',toks:=tk }/\Gr H H'/\(∀p∈new,H' p.1=aa (.frz p.2 (.own p.1)))/\H' P=aa (.tbl (ps++more))/\∀b qs,H' b=aa (.tbl qs)->(b=P/\qs=ps++more)\/H b=aa (.tbl qs):=by
 intro H';have hPs:P<s.heap.objs.size:=ZK.lt (I.hok P _ hP);have H0:∀b,(∀p∈new,p.1≠b)->H' b=upd H P (.tbl (ps++more)) b:=by
  have gen:∀(l:List (ax×dP))(G:Hp)(b:ax),(∀p∈l,p.1≠b)->l.foldl (λG p=>upd G p.1 (.frz p.2 (.own p.1))) G b=G b:=by
   intro l
   induction l with
   |nil=>intro G b _;rfl
   |cons p l ih=>
    intro G b h;rw[eU,ih _ b λq hq=>h q (al _ hq),Zo (Ne.symm (h p (am ..)))]
  exact λb h=>gen new _ b h
 have H1:∀p∈new,H' p.1=aa (.frz p.2 (.own p.1)):=by
  have gen:∀(l:List (ax×dP))(G:Hp),(l.map (·.1)).Nodup->∀p∈l,l.foldl (λG p=>upd G p.1 (.frz p.2 (.own p.1))) G p.1=aa (.frz p.2 (.own p.1)):=by
   intro l
   induction l with
   |nil=>intro G _ p hp;simp at hp
   |cons q l ih=>
    intro G hd p hp;rw[aS,cA]at hd;rw[eU];rcases az.mp hp with rfl | hp
    ·have rest:∀(l:List (ax×dP))(G:Hp)(b:ax),b∉l.map (·.1)->l.foldl (λG p=>upd G p.1 (.frz p.2 (.own p.1))) G b=G b:=by
      intro l
      induction l with
      |nil=>intro G b _;rfl
      |cons p l ih=>
       intro G b h;rw[aS,az,not_or]at h;rw[eU,ih _ b h.2,Zo h.1]
     rw[rest l _ _ hd.1,Zq]
    ·exact ih _ hd.2 p hp
  exact gen new _ nd
 have new0:∀b,b<s.heap.objs.size->∀p∈new,p.1≠b:=λb hb p hp z=>by have q:=(hn p hp).1;rw[z]at q;omega
 have old:∀b u,H b=aa u->b≠P->H' b=aa u:=λb u e z=>by
  rw[H0 b (new0 b (ZK.lt (I.hok b u e))),Zo z];exact e
 have HP:H' P=aa (.tbl (ps++more)):=by rw[H0 P (new0 P hPs),Zq]
 have cases':∀b u,H' b=aa u->(∃p∈new,p.1=b/\u=.frz p.2 (.own p.1))\/(b=P/\u=.tbl (ps++more))\/(b≠P/\H b=aa u):=λb u e=>by
  by_cases q:∃p∈new,p.1=b
  ·obtain⟨p,hp,rfl⟩:=q
   rw[H1 p hp]at e;cases e;exact .inl ⟨p,hp,rfl,rfl⟩
  ·rw[H0 b λp hp z=>q ⟨p,hp,z⟩]at e
   by_cases z:b=P
   ·subst z;rw[Zq]at e;cases e;exact .inr (.inl ⟨rfl,rfl⟩)
   ·rw[Zo z]at e;exact .inr (.inr ⟨z,e⟩)
 have gr:Gr H H':=⟨λb u e n=>old b u e λz=>by rw[z,hP]at e;cases e;exact n ps rfl⟩
 refine⟨I.un ⟨λb o e n _ _=>hx b o (λz=>by rw[z,hP]at n;cases n) e,λb o e n _ _=>⟨o.slots,hx b o (λz=>by rw[z,hP]at n;cases n) e⟩,λb o e n _=>?_,λb o e _=>?_,λb xs e=>gr.k b _ e (λps z=>by cases z),λb o u e=>gr.k b _ e (λps z=>by cases z),λb qs e=>?_⟩ λb u e=>?_,gr,H1,HP,λb qs e=>?_⟩
 ·rw[H0 b (new0 b (aJ e)),Zo (λz=>by rw[z,hP]at n;cases n)];exact n
 ·by_cases z:b=P
  ·subst z;exact⟨_,hT⟩
  ·exact⟨o,hx b o z e⟩
 ·by_cases z:b=P
  ·subst z;rw[hP]at e;cases e;exact⟨more,HP⟩
  ·exact⟨#[],by rw[old b _ e z];simp⟩
 ·rcases cases' b u e with⟨p,hp,rfl,rfl⟩ | ⟨rfl,rfl⟩ | ⟨z,e0⟩
  ·exact⟨(hn p hp).2,_,(hn p hp).2⟩
  ·exact hT
  ·refine(I.hok b u e0).stay (λc v hc q=>hx c v ?_ q) (λc q=>gr.k c _ q λps z=>by cases z) λc xs q=>gr.k c _ q λps z=>by cases z
   rcases hc with rfl | hc
   ·exact z
   ·intro y;rw[y,hP]at hc;cases hc
 ·rcases cases' b _ e with⟨p,hp,rfl,z⟩ | ⟨rfl,z⟩ | ⟨z,e0⟩
  ·cases z
  ·cases z;exact .inl ⟨rfl,rfl⟩
  ·exact .inr e0
def Tb.grow(tb:Tb H)(g:Gr H H')(hb:∀b rs,H' b=aa (.tbl rs)->(b=P/\rs=qs)\/H b=aa (.tbl rs))(ht:lE qs.toList)
  (hc:∀pos cv,gp pos qs.toList=aa cv->∃(c:ax)(oc:dP)(vs:Array ao)(t:mP),cv=.ref c/\H' c=aa (.frz oc (.own c))/\oc.data=.fields vs/\vs[1]? = aa (.str YS t)):Tb H':=λb rs e=>by
 rcases hb b rs e with⟨_,rfl⟩ | e0
 ·exact⟨ht,hc⟩
 ·obtain⟨h1,h2⟩:=tb b rs e0
  refine⟨h1,λpos cv q=>?_⟩
  obtain⟨c,oc,vs,t,e1,e2,e3⟩:=h2 pos cv q;exact⟨c,oc,vs,t,e1,g.k c _ e2 (λps z=>by cases z),e3⟩
def jh{P c:ax}{ps:Array ao}{params:lC}{body:Expr}{scope:c8}{pos:dZ}{clos:List (aZ×ax)}{Q:ao->aw->Prop}(I:L2.Inv X pq σ H s)(tb:Tb H)(hP:H P=aa (.tbl ps))(hcode:X.env.code=.ref c)(C:cy X.base c P)(hB:X.base.BuiltinsAt X.mg P)(hgP:bn≠P)
  (hq:X.env.qual++"<lambda>" = YS)(hcl:fD scope X.env=cR clos)(hdef:defaultsOf params X.env=([],[]))
  (h:∀(g c':ax)(oc:dP)(vs:Array ao)(t:mP)(pm ctv:ao)(H':Hp)(s':aw),L2.Inv X pq σ H' s'->Gr H H'->Tb H'->(∃ps',H' P=aa (.tbl ps'))->H' g=aa (.frz (d5 "<lambda>" YS params body scope clos pm c' ctv) (.own g))->
   H' c'=aa (.frz oc (.own c'))->oc.data=.fields vs->vs[1]? = aa (.str YS t)->Q (.ref g) s') :
  aT (bc X.prog X.w) X.A (bZ (.Lambda params body scope pos) X.env) Q E s:=by
 refine PySem.W.kla_eval hdef ?_;rw[hq];have hPo:s.heap.get? P=aa (i6 ps):=I.hok P _ hP;obtain⟨ht,hcs⟩:=tb P ps hP;have hg:=I.ok.mod.glob.keeps I.bk;have hBs:s.heap.BuiltinsAt X.mg P:=by
  obtain⟨bm,o,b1,b2,b3,b4,b5,b6⟩:=hB;exact⟨bm,o,b1,b2,b3,b4,I.bk _ _ b5,b6⟩
 cases q:gp pos ps.toList with
 |some cv=>
  obtain⟨c',oc,vs,t,rfl,e2,e3,e4⟩:=hcs pos cv q;refine PySem.W.kla_makeFunctionHit hcl I.ok.glob hg hcode (C.keeps I.bk) hPo ht q hBs λctv h' tk hk hz=>?_
  have kp:∀b o,s.heap.get? b=aa o->(h'.push (d5 "<lambda>" YS params body scope clos ((X.mg "__name__").getD .none) c' ctv)).get? b=aa o:=λb o e=>ar _ (hk b o e)
  obtain⟨I',gr,n1,hP',tbs⟩:=Inv.grow (tk:=tk) (more:=#[]) I hP (λb o _ e=>kp b o e) (by rw[gC];exact kp _ _ hPo)
   (new:=[(h'.objs.size,d5 "<lambda>" YS params body scope clos ((X.mg "__name__").getD .none) c' ctv)]) (λp hp=>by
    rw[bp.mp hp];exact⟨hz,aN _ rfl⟩) (by simp)
  refine h _ c' oc vs t _ ctv _ _ I' gr (tb.grow gr tbs (by rw[gC];exact ht) λpos' cv' q'=>?_) ⟨_,hP'⟩ (n1 _ (am ..)) (gr.k _ _ e2 λps z=>by cases z) e3 e4
  rw[gC]at q';obtain⟨c2,oc2,vs2,t2,f1,f2,f3⟩:=hcs pos' cv' q';exact⟨c2,oc2,vs2,t2,f1,gr.k _ _ f2 (λps z=>by cases z),f3⟩
 |none=>
  refine PySem.W.kla_makeFunction hcl I.ok.glob hg hcode (C.keeps I.bk) hPo ht q hgP hBs λc' ctv h' tk hx hge hlt hrec htb=>?_
  obtain⟨c2,oc,vs,t,e2,hoc,hd,hv⟩:=hrec;cases e2;have kp:fN P s.heap (h'.push (d5 "<lambda>" YS params body scope clos ((X.mg "__name__").getD .none) c' ctv)):=λb o hb e=>ar _ (hx b o hb e)
  have hsz:s.heap.objs.size<=h'.objs.size:=bx hge (iu hlt);obtain⟨I',gr,n1,hP',tbs⟩:=Inv.grow (tk:=tk) (more:=#[fA pos.line,fA pos.col,.ref c']) I hP kp (ar _ htb)
   (new:=[(c',oc),(h'.objs.size,d5 "<lambda>" YS params body scope clos ((X.mg "__name__").getD .none) c' ctv)]) (λp hp=>by
    rcases az.mp hp with rfl | hp
    ·exact⟨hge,ar _ hoc⟩
    ·rw[bp.mp hp];exact⟨hsz,aN _ rfl⟩) (cA.mpr ⟨λz=>T7 (bp.mp z) (br hlt),cA.mpr ⟨by simp,mq⟩⟩)
  refine h _ c' oc vs t _ ctv _ _ I' gr (tb.grow gr tbs (by rw[ki];exact TriplesOk_snoc _ _ _ _ ht) λpos' cv' q'=>?_) ⟨_,hP'⟩ (n1 _ (al _ (am ..))) (n1 _ (am ..)) hd hv
  rw[ki]at q';rcases yc _ ht q' with z | rfl
  ·obtain⟨c2,oc2,vs2,t2,f1,f2,f3⟩:=hcs pos' cv' z
   exact⟨c2,oc2,vs2,t2,f1,gr.k _ _ f2 (λps z=>by cases z),f3⟩
  ·exact⟨c',oc,vs,t,rfl,n1 _ (am ..),hd,hv⟩
end
end Sd
namespace Sd
open PySem PySem.Spec PyProof.Rows L2
noncomputable def cxL(P:bq)(w:bG)(K:aj)(mg:aZ->Option ao)(base:bJ)(N:List aZ)(scope:c8)(g:ax)(cd:ao)(clos:List (aZ×ax))(A:bV)(outer:List Env)(s:aw)(H:Hp)(E:XK):Cx where
 prog:=P
 w:=w
 K:=K
 mg:=mg
 base:=base
 A:=A.deeper (dO YS scope s.heap.objs.size g cd clos)
 N:=N
 s₀:=s
 H₀:=H
 env:=dO YS scope s.heap.objs.size g cd clos
 outer:=outer
 stack:=dO YS scope s.heap.objs.size g cd clos::outer
 ex:=[]
 calm:=ag
 fn:=λ_=>ai
 pn:=[]
 xe:=λe s'=>aT (bc P w) (A.deeper (dO YS scope s.heap.objs.size g cd clos)) (leaving (dO YS scope s.heap.objs.size g cd clos) e) (λ_ s''=>CX1 P w outer H s E e s'') (λe' s''=>CX1 P w outer H s E e' s'') s'
section
variable{P:bq}{w:bG}{K:aj}{mg:aZ->Option ao}{base:bJ}{N:List aZ}{scope:c8}{g c':ax}{clos:List (aZ×ax)}{A:bV}{outer:List Env}{s:aw}{H:Hp}{E:XK}
def ZeN :DefX (cxL P w K mg base N scope g cd clos A outer s H E) E:=⟨rfl,rfl,rfl,rfl⟩
structure LamS(scope:c8)(clos:List (aZ×ax)):Prop where
 kind:scope.kind=.function
 co:scope.isCoroutine=ai
 gen:scope.isGenerator=ai
 nc:∀x∈scope.names,x.2≠.cell
 vis:∀x,Vis scope x->scope.names.lookup x=aa .free
 has:∀x,scope.names.lookup x=aa .free->∃c,clos.lookup x=aa c
 inj:∀x y c,clos.lookup x=aa c->clos.lookup y=aa c->x=y
def u7(hr:Room (k+1) A)(e0:Env0 P w K mg base A outer s H)(L:LamS scope clos)
  (hg:s.heap.get? g=aa (d5 "<lambda>" YS params body scope clos pm c' ctv))(hcd:s.heap.CodeRec (.ref c') YS)(hbind:iV (my "<lambda>" YS params body scope clos pm (.ref c') ctv) ⟨[],[]⟩=cR [])
  (hcell:∀x c,clos.lookup x=aa c->(∃v,s.heap.IsCell c v)/\H c=ac)(hlen:σ.length=N.length)
  (hval:∀(i:Nat)(x:aZ)(v:V),N[i]? = aa x->σ[i]? = aa (aa v)->scope.names.lookup x=aa .free->∃u c,ZA v u/\clos.lookup x=aa c/\s.heap.IsCell c (aa u))
  (hb:PE (cxL P w K mg base N scope g (.ref c') clos A outer s H E) body t)(ht:t σ H Q) :
  fh (bc P w) A (.call (.ref g) ⟨[],[]⟩) (CR (CX1 P w) outer P w H s Q E) s:=by
 have lim:s.heap.NoLimit:=e0.mod.nolimit.keeps λb o e=>(e0.bs b o e).1
 refine PySem.W.kla_callFunE hr.depth hg rfl L.co L.gen rfl hcd ?_;rw[hbind];refine aF (iZ L.nc (λx hx=>by simp at hx) (λh1 hns hsb=>?_) L.kind)
 have hk1:∀b o,s.heap.get? b=aa o->h1.get? b=aa o:=λb o e=>hsb.extBut b o (br (aJ e)) (ar _ e)
 refine⟨lim.keeps hk1,?_⟩;show fh _ _ (.expr body (dO YS scope s.heap.objs.size g (.ref c') clos)) _ _;have noA:∀b:ax,b∉(cxL P w K mg base N scope g (.ref c') clos A outer s H E).ex:=λb z=>T7 (show b∈([]:List ax)from z) (by simp)
 have I:L2.Inv (cxL P w K mg base N scope g (.ref c') clos A outer s H E) [] σ H { s with heap:=h1,toks:=s.toks+([]:List (aZ×ao)).length }:=by
  refine⟨⟨e0.mod,L.kind,rfl,rfl,aD _,L.inj,λx hx=>?_,λx c z=>(by cases z),λ_=>hr.hd,iW e0.frames,.inr ⟨rfl,rfl⟩,λb z=>T7 z (noA b),e0.bs,e0.bsz,λb _ _=>noA b,λb z=>T7 z (noA b),e0.funs,e0.frf⟩,
   rfl,e0.bare,Un.kept hk1,⟨_,hns,λi x v e1 e2 e3=>?_⟩,λx c e=>?_,e0.hok.fresh (aD _),λx c e=>(hcell x c e).2,λp hp=>T7 (show p∈([]:List (ax×dP))from hp) (by simp),e0.hok.kept hk1,hlen⟩
  ·have hx:scope.names.lookup x=aa .cell\/scope.names.lookup x=aa .free:=hx
   rcases hx with z | z
   ·exact T7 rfl (L.nc _ (cI z))
   ·exact L.has x z
  ·have fr:=L.vis x e3
   obtain⟨u,c,r,e,z⟩:=hval i x v e1 e2 fr;refine⟨u,r,.inr ⟨.inr fr,c,e,?_⟩⟩;obtain⟨o,ho,hd⟩:=z;exact⟨o,hk1 _ _ ho,hd⟩
  ·obtain⟨⟨v,o,ho,hd⟩,_⟩:=hcell x c e
   exact⟨v,o,hk1 _ _ ho,hd⟩
 exact PySem.W.kla_codeExpr (cF (hb [] _ σ H Q I ht) (λu s' ⟨v,H',J,r,q⟩=>⟨v,H',J.os,J.bare,J.base,J.hok,r,q⟩) λ_ _ y=>y)
end
section
variable{X:Cx}
noncomputable def Zep(K:aj):List V->Hp->VK->Prop:=λvs H Q=>∃a oe C Dv u b,vs=[.ref a,Dv]/\ZA Dv u/\(∀u',ZA Dv u'->u'=u)/\H a=aa (.frz oe (.own a))/\oe.cls=.ref C/\ExK K C/\eg K (.ref C) u=aa b/\Q (.bl b) H
def GG:ZO X (.builtin "isinstance") (Zep X.K):=by
 intro pq s σ H xs us Q I r h;obtain⟨a,oe,C,Dv,u,b,rfl,ru,uq,Ha,ce,k,e,q⟩:=h;cases r with
 |cons ra r=>
  cases r with
  |cons rD r=>
   cases r;cases ra;obtain rfl:=uq _ rD;obtain⟨ge,_⟩:=I.hok a _ Ha;exact b9 (jt k) I.kIn ⟨oe,ge,ce⟩ e (by intro q;cases q) λtk=>⟨.bl b,H,I.tok tk,rfl,q⟩
noncomputable def JH:V->List V->Hp->VK->Prop:=λx vs H Q=>∃(l:ax)(bs:List Bool)(j:Nat),x=.ref l/\vs=[.bl ag]/\H l=aa (.lst (bs.map .bl))/\bs[j]? = aa ag/\(∀m,m<j->bs[m]? = aa ai)/\Q (.int j) H
theorem xk:∀{bs:List Bool}{us:List ao},Vals (bs.map V.bl) us->us=bs.map bM
 |[],_,.nil=>rfl
 |b::bs,_,.cons r t=>by cases r;rw[xk t];rfl
def Gx:MtM X "list.index" JH:=by
 intro pq s σ H x vs v us Q I rx rv h;obtain⟨l,bs,j,rfl,rfl,hH,hj,hno,q⟩:=h;cases rx;obtain⟨u,rfl,ru⟩:=rv.one;cases ru;obtain⟨z,its,n,r,hl,e⟩:=I.lstM hH;obtain rfl:=xk r;have hjl:j<bs.length:=(ay.mp hj).1;have hsz:(bs.map bM).toArray.size=bs.length:=by simp
 have get:∀m (hm:m<(bs.map bM).toArray.size),(bs.map bM).toArray[m]=bM (bs[m]'(by rw[hsz]at hm;exact hm)):=λm hm=>by simp
 refine eA F.slot_list_index ⟨_,e,rfl⟩ F.entry_list_index (F.args_list_index_2 _ _) (PySem.SeqAt.list_indexAt l (bs.map bM).toArray n ac #[] (.bool ag) (λy=>y == .bool ag) j (by rw[hsz];exact hjl) (by
  rw[aH]at z;have:aX=16777216:=rfl;omega) (by rw[get];rw[(ay.mp hj).2];rfl) λm hm hmj=>by
   rw[get];have:=ay.mp (hno m hmj);rw[this.2];rfl) ⟨e,λy hy=>?_,?_⟩
 ·obtain⟨b,_,rfl⟩:=aO.mp (List.mem_toArray.mp hy)
  cases b
  ·exact gD ai ag
  ·exact gD ag ag
 ·exact⟨.int j,H,I.tok _,⟨_,rfl⟩,q⟩
end
def ZdR{CX:CXT}{P:bq}{w:bG}{K:aj}{mg:aZ->Option ao}{base:bJ}{k:Nat}{f:ax}{x qual:aZ}{st:de}{fd:bP}{N ps:List aZ}{A:bV}{outer:List Env}{s:aw}{H:Hp}{args:Args}{us:List ao}{vs:List V}{Q:VK}{E:XK}
  (Fu:Fun K x qual st f fd)(S:FnScope N ps (Zf st))(hr:Room (k+1) A)(e0:Env0 P w K mg base A outer s H)(hb:ka s fd args (ps.zip us))(r:Vals vs us)(hl:vs.length=ps.length)
  (hbody:∀(cdv:ao)(s1:aw),Room k (A.deeper (cM qual (Zf st) s.heap.objs.size f cdv))->L2.Inv (Wb CX P w K mg base N qual (Zf st) f cdv A outer s H E) [] (start N vs) H s1->
   aT (bc P w) (A.deeper (cM qual (Zf st) s.heap.objs.size f cdv)) (execs (ZC st) (cM qual (Zf st) s.heap.objs.size f cdv)) (SP (Wb CX P w K mg base N qual (Zf st) f cdv A outer s H E) [] { nx:=λ_ H'=>Q .non H',rt:=Q }) (Wb CX P w K mg base N qual (Zf st) f cdv A outer s H E).xe s1) :
  fh (bc P w) A (.call (.ref f) args) (CR CX outer P w H s Q E) s:=by
 obtain⟨oc,od,kV,doc,pm,an,cdv,ct,osl,rfl,lk,hcd⟩:=Fu.ex;have KX:K.In s.heap:=e0.mod.kin.keeps λb o e=>(e0.bs b o e).1
 have lim:s.heap.NoLimit:=e0.mod.nolimit.keeps λb o e=>(e0.bs b o e).1
 have hkind:∀y∈ps.zip us,(Zf st).names.lookup y.1=aa .local\/((Zf st).names.lookup y.1=aa .cell/\((fB (s.heap.objs.size+1) (Zf st).names []).lookup y.1).isSome=ag):=λ⟨n,v⟩ hy=>by
  rcases S.par n (cB hy).1 with q | q
  ·exact .inl q
  ·exact .inr ⟨q,fj _ _ _ (.inl q)⟩
 refine iO hr.depth (KX _ _ lk) rfl S.co S.gen rfl (kG KX hcd) (hb _ _ _ _ ?_);refine gv S.kind hkind λenv he s1 x=>?_
 subst he;refine⟨lim.keeps x.toInCall.keep,codeAny_func ?_⟩;have I:=QP (CX:=CX) (E:=E) (cd:=cdv) (f:=f) (qual:=qual) S hr.hd e0 hl r x;refine cF (hbody cdv s1 (hr.deeper _) I) (λfl s' hs=>?_) λe s' hs=>hs
 cases fl with
 |ret u=>
  obtain⟨v,σ',H',J,rv,q⟩:=hs;exact⟨v,H',J.os,J.bare,J.base,J.hok,rv,q⟩
 |next=>
  obtain⟨σ',H',J,q⟩:=hs;exact⟨.non,H',J.os,J.bare,J.base,J.hok,rfl,q⟩
 |brk=>
  obtain⟨_,_,_,q⟩:=hs;exact False.elim q
 |cont=>
  obtain⟨_,_,_,q⟩:=hs;exact False.elim q
def wo(Pt:ax)(H:Hp):Prop:=H Pt=aa (.tbl #[])/\∀b,b≠Pt->H b=ac\/∃o xs,H b=aa (.frz o (.lst xs))
def wS{P:bq}{w:bG}{K:aj}{mg mb:aZ->Option ao}{CX:CXT}{k:Nat}{fa a c Pt:ax}{fd:bP}{x:aZ}{sp:Sp}{s₁:aw}{vs:List ao}{ns:List Int}
  (KX:K.In s₁.heap)(hns:s₁.heap.Ns bn mg)(hb:s₁.heap.Ns me mb)(hbb:∀x:aZ,x≠"__name__"->mb x=cE x)(hlim:s₁.heap.NoLimit)(hg:s₁.gens = #[])
  (hC:cy s₁.heap c Pt)(hPt:s₁.heap.get? Pt=aa (i6 #[]))(hK:i7 K=ag)(hB:s₁.heap.BuiltinsAt mg Pt)
  (ha:s₁.heap.get? a=aa { cls:=.type "list",data:=.seq vs.toArray })(hi:l9 vs ns)(hl:ns.length<=aX)(hr:Room k kc)
  (F:∀base:bJ,K.In base->base.Ns bn mg->cy base c Pt->base.BuiltinsAt mg Pt->bn≠Pt->FnOk P w K mg base CX k fa fd [x] sp)(hbind:∀(s:aw)(u:ao),ka s fd ⟨[u],[]⟩ [(x,u)])
  (hsp:∀H:Hp,wo Pt H->SqL K H a (ns.map V.int)->sp [.ref a] H (λv _=>v=.bl ag) λ_ _ _=>False)
  (hCX:∀H e s',CX [] H s₁ (λ_ _ _=>False) e s'->False) :
  fh (bc P w) kc (.call (.ref fa) ⟨[.ref a],[]⟩) (λr s'=>r=.ok (.ret (.bool ag))/\OldK s₁.heap s'.heap/\s'.os=s₁.os/\fH s'.gens) s₁:=by
 have rv:=QM hi;have lenV:=hi.length;have hPa:Pt≠a:=λz=>by rw[z,ha]at hPt;cases hPt
 have hKP:K.lookup Pt=ac:=by
  cases q:K.lookup Pt with
  |none=>rfl
  |some o=>
   have e:=KX Pt o q;rw[hPt]at e;cases e;have h2:=aU.mp hK (Pt,i6 #[]) (PySem.W.mem_of_lookupK q);exact T7 (show ai=ag from h2) aM
 have core:∀H:Hp,wo Pt H->SqL K H a (ns.map V.int)->HOk P w H s₁.heap->(∀b,H b≠ac->b=a\/b=Pt)->(H a≠ac->K.lookup a=ac)->
   fh (bc P w) kc (.call (.ref fa) ⟨[.ref a],[]⟩) (λr s'=>r=.ok (.ret (.bool ag))/\OldK s₁.heap s'.heap/\s'.os=s₁.os/\fH s'.gens) s₁:=by
  intro H hO hS hok hA hK;have base_of:∀{b:ax}{o:dP},s₁.heap.get? b=aa o->H b=ac->(U9 s₁.heap H).get? b=aa o:=λe n=>uR e n
  have noT:∀{b:ax}{o:dP},s₁.heap.get? b=aa o->b≠a->b≠Pt->H b=ac:=λ{b o} e z1 z2=>by
   cases q:H b with|none=>rfl|some u=>exact((hA b (by rw[q];simp)).elim z1 z2).elim
  have noA:∀{b:ax}{o:dP}{es:Array h8}{ep:Nat},s₁.heap.get? b=aa o->o.data=.dict es ep->H b=ac:=λ{b o es ep} e d=>
   noT e (λz=>by subst z;rw[ha]at e;cases e;cases d) λz=>by subst z;rw[hPt]at e;cases e;cases d
  have nsK:∀{b:ax}{m:aZ->Option ao},s₁.heap.Ns b m->(U9 s₁.heap H).Ns b m:=λ{b m} ⟨o,es,ep,e,d,r⟩=>⟨o,es,ep,base_of e (noA e d),d,r⟩
  have hKb:K.In (U9 s₁.heap H):=λb o e=>base_of (KX b o e) (by
   cases q:H b with
   |none=>rfl
   |some u=>
    rcases hA b (by rw[q];simp)with z | z
    ·subst z;rw[hK (by rw[q];simp)]at e;cases e
    ·subst z;rw[hKP]at e;cases e)
  have hM:Mod K mg (U9 s₁.heap H):=⟨hKb,nsK hns,⟨mb,nsK hb,hbb⟩,let ⟨mc,h1,h2⟩:=hlim;⟨mc,nsK h1,h2⟩⟩;have e0:Env0 P w K mg (U9 s₁.heap H) kc [] s₁ H:=⟨rfl,hM,λb o e=>Zat e,Nat.le_of_eq (vM _ _),trivial,λb hb=>T7 (show b∈([]:List ax)from hb) (by simp),hok,.of_eq hg⟩
  have hCb:cy (U9 s₁.heap H) c Pt:=by
   obtain⟨o,vs',file,tf,flags,tg,inF,text,tt,e1,r1,r⟩:=hC;refine⟨o,vs',file,tf,flags,tg,inF,text,tt,base_of e1 (noT e1 (λz=>?_) λz=>?_),r1,r⟩
   ·subst z;rw[ha]at e1;cases e1;exact T7 (mz r1) (by decide)
   ·subst z;rw[hPt]at e1;cases e1;cases r1
  have hBb:(U9 s₁.heap H).BuiltinsAt mg Pt:=by
   obtain⟨bm,o,b1,b2,b3,b4,b5,b6,b7,b8⟩:=hB;refine⟨bm,o,b1,b2,b3,b4,base_of b5 (noT b5 (λz=>?_) b4),b6,b7,b8⟩
   subst z;rw[ha]at b5;cases b5;exact T7 (mz b6) (by decide)
  have hgP:bn≠Pt:=λz=>by
   obtain⟨o,es,ep,e,d,_⟩:=hns;rw[z,hPt]at e;cases e;cases d
  refine gd ((F _ hKb (nsK hns) hCb hBb hgP).run kc [] s₁ H ⟨[.ref a],[]⟩ [.ref a] [.ref a] _ _ hr e0 (hbind s₁ (.ref a)) (.cons rfl .nil) (hsp H hO hS)) λr s' h=>?_
  cases r with
  |error e=>exact(hCX H e s' h).elim
  |ok fl=>
   cases fl with
   |next=>exact False.elim h
   |brk=>exact False.elim h
   |cont=>exact False.elim h
   |ret u=>
    obtain⟨v,H',os,bare,un,hok',r',q⟩:=h;have q':v=.bl ag:=q;subst q';obtain rfl:u=bM ag:=r';have keep:∀b o,b≠Pt->s₁.heap.get? b=aa o->s'.heap.get? b=aa o:=λb o z e=>by
     cases q:H b with
     |none=>exact un.keep b o e q (by intro z;exact T7 (show b∈([]:List ax)from z) (by simp)) (by simp)
     |some u=>
      rcases hO.2 b z with z | ⟨ob,xs,z⟩
      ·rw[q]at z;cases z
      ·have z2:=un.frzs b ob _ z
       obtain⟨e1,_⟩:=hok b _ z;obtain⟨e2,_⟩:=hok' b _ z2;rw[e]at e1;cases e1;exact e2
    obtain⟨more,hm⟩:=un.tbls Pt #[] hO.1;have hT':s'.heap.get? Pt=aa { cls:=.none,data:=.fields (#[]++more) }:=hok' Pt _ hm;refine⟨rfl,⟨λb o e=>?_,λb o e=>?_⟩,os,bare⟩
    ·by_cases z:b=Pt
     ·subst z
      rw[hPt]at e;cases e;exact .inr (.inl ⟨(hC.tab hPt).isCodeTable,rfl,#[],more,rfl,hT'⟩)
     ·exact .inl (keep b o z e)
    ·by_cases z:b=Pt
     ·subst z;exact⟨_,hT'⟩
     ·exact⟨o,keep b o z e⟩
 have tbOk:ZK P w (upd (λb=>if b=a then aa (.frz { cls:=.type "list",data:=.seq vs.toArray } (.lst (ns.map V.int)))else ac) Pt (.tbl #[])) s₁.heap Pt (.tbl #[]):=hPt
 cases hk:K.lookup a with
 |some o=>
  have e:=KX a o hk;rw[ha]at e;cases e;refine core (upd (λ_=>ac) Pt (.tbl #[])) ⟨Zq,λb z=>.inl (Zo z)⟩ (.inr ⟨_,vs.toArray,_,hk,rfl,rfl,rfl,by rw[au,lenV];exact hl,by simpa using rv⟩) (λb u z=>?_) (λb z=>?_) λz=>T7 (Zo (Ne.symm hPa)) z
  ·by_cases q:b=Pt
   ·subst q;rw[Zq]at z;cases z;exact hPt
   ·rw[Zo q]at z;cases z
  ·by_cases q:b=Pt
   ·exact .inr q
   ·exact T7 (Zo q) z
 |none=>
  refine core (upd (λb=>if b=a then aa (.frz { cls:=.type "list",data:=.seq vs.toArray } (.lst (ns.map V.int)))else ac) Pt (.tbl #[])) ⟨Zq,λb z=>?_⟩ (.inl (.inr ⟨{ cls:=.type "list",data:=.seq vs.toArray },by rw[Zo (Ne.symm hPa)];exact T9 rfl⟩)) (λb u z=>?_) (λb z=>?_) λ_=>hk
  ·rw[Zo z]
   by_cases hb:b=a
   ·exact .inr ⟨_,_,T9 hb⟩
   ·exact .inl (T8 hb)
  ·by_cases q:b=Pt
   ·subst q;rw[Zq]at z;cases z;exact hPt
   ·rw[Zo q]at z
    by_cases hb:b=a
    ·have z':=(T9 hb).symm.trans z
     cases z';subst hb;exact⟨ha,by rw[aH];exact hl,vs,_,rv,ha⟩
    ·have z':=(T8 hb).symm.trans z
     cases z'
  ·by_cases q:b=Pt
   ·exact .inr q
   ·rw[Zo q]at z
    by_cases hb:b=a
    ·exact .inl hb
    ·exact T7 (T8 hb) z
def j6{l:iL}{n k:Nat}{q:bq}{loose:List aZ}{XP:(aZ->Option ao)->bJ->Prop}{YP:bG->bJ->Prop}{d:mM}{K:Params->aj}{CX:bG->CXT}{sp:bG->ax->Sp}{x:aZ}{c Pt:ax}{dr:mM}
  (hn:l.most=aa n)(hn2:n<=aX)(hdf:d.params.defaults=[])(hr:Room k kc)
  (hY:∀(w:bG)(h:bJ),YP w h->(K w.params).In h)(hrec:(recsOf q).find? (λe=>e.name == d.name)=aa dr)(ht:∀w:bG,mG (K w.params) d.name=aa (c,Pt))(hK:∀w:bG,i7 (K w.params)=ag)
  (F:∀(w:bG)(mg:aZ->Option ao)(fa:ax)(h:bJ),(K w.params).In h->h.Ns bn mg->mg d.name=aa (.ref fa)->
   ∃fd:bP,(∀(s:aw)(u:ao),ka s fd ⟨[u],[]⟩ [(x,u)])/\
    ∀base:bJ,(K w.params).In base->base.Ns bn mg->cy base c Pt->base.BuiltinsAt mg Pt->bn≠Pt->FnOk l.prog w (K w.params) mg base (CX w) k fa fd [x] (sp w Pt))
  (hsp:∀(w:bG)(H:Hp)(a:ax)(ns:List Int),ns.length<=n->wo Pt H->SqL (K w.params) H a (ns.map V.int)->sp w Pt [.ref a] H (λv _=>v=.bl ag) λ_ _ _=>False)
  (hCX:∀(w:bG)(H:Hp)(s:aw)(e:ao)(s':aw),CX w [] H s (λ_ _ _=>False) e s'->False) :
  mH q loose XP YP l.row.toRowW d [] (λf vs=>mo f vs):=by
 refine Att.G5 hn hdf λw s₀ s₁ mg mb fa o pm cd doc a vs ns G Y ho hd hcd hmg hobj hints hlen hg=>?_
 have KX:=hY w _ Y;obtain⟨fd,hb,hF⟩:=F w mg fa _ KX G.T.g hmg;obtain⟨hC,hPt⟩:=PySem.W.tab_of G.T KX hrec (ht w);obtain⟨bm,ob,b1,b2,b3,b4,b5,b6⟩:=G.T.bmain;have hbP:bm≠Pt:=λz=>by rw[z,hPt]at b3;cases b3;cases b4
 have hbG:bm≠bn:=λz=>by
  obtain⟨o,es,ep,e,hd,_⟩:=G.T.g;rw[z,e]at b3;cases b3;rw[hd]at b6;cases b6
 exact wS KX G.T.g G.T.b G.T.builtins G.T.nolimit hg hC hPt (hK w) ⟨bm,ob,b1,b2,hbG,hbP,b3,b4,b5,b6⟩ hobj hints (bx hlen hn2) hr hF hb (λH hO hS=>hsp w H a ns hlen hO hS) λH e s'=>hCX w H s₁ e s'
end Sd
namespace Sd
open PySem PySem.Spec PyProof.Rows L2
open Ev (D Ob Zb Lc R Sm Calls Walk Fl Fn Bop Cop Ty Bf Mf ev evs evo evt evw tst run runs)
noncomputable def YR:List aZ:=["SpaceError","NoRow","NoPart","NoNumber","NoHeads","NotBeside","NotIn","NoTurn","NoLot","TooMany","BadNote"]
structure Errs(K:aj)(mg:aZ->Option ao)(cl:List ax):Prop where
 len:cl.length=11
 nm:∀(j:Nat)(C:ax)(x:aZ),cl[j]? = aa C->YR[j]? = aa x->mg x=aa (.ref C)
 exk:∀(j:Nat)(C:ax),cl[j+1]? = aa C->ExK K C
 one:∀(i j:Nat)(C D:ax),cl[i+1]? = aa C->cl[j+1]? = aa D->eg K (.ref C) (.ref D)=aa (ae (i=j))
 ve:∀(i:Nat)(C:ax),cl[i+1]? = aa C->eg K (.ref C) (.type "ValueError")=aa ag
 exm:∀(i:Nat)(C S:ax),cl[i+1]? = aa C->cl[0]? = aa S->mx K (.ref C) (.ref S)=aa ag
def tIs(K:aj)(ir:Nat)(Dv:V):TE:=tCB (Zep K) (YY (Jv ir) (YY (tC Dv) Jr))
section
variable{X:Cx}{ir is:Nat}{σ:L2.St}{H:Hp}{Q:VK}{p p1 p2 pos:dZ}{xr x:aZ}{cl:List ax}
structure ErAt(K:aj)(cl:List ax)(ir c:Nat)(σ:L2.St)(H:Hp):Prop where
 ex:∃a oe C,σ[ir]? = aa (aa (.ref a))/\H a=aa (.frz oe (.own a))/\oe.cls=.ref C/\cl[c+1]? = aa C
theorem ErAt.upd{K:aj}{c:Nat}{q:ax}{o:HO}(e:ErAt K cl ir c σ H)(hq:H q=ac):ErAt K cl ir c σ (L2.upd H q o):=by
 obtain⟨a,oe,C,h1,h2,h3⟩:=e.ex;exact⟨a,oe,C,h1,by rw[Zo (λz=>by rw[z,hq]at h2;cases h2)];exact h2,h3⟩
def ErAt.wr{K:aj}{c:Nat}{q:ax}{xs:List V}{o:HO}(e:ErAt K cl ir c σ H)(hq:H q=aa (.lst xs)):ErAt K cl ir c σ (L2.upd H q o):=by
 obtain⟨a,oe,C,h1,h2,h3⟩:=e.ex;exact⟨a,oe,C,h1,by rw[Zo (λz=>by rw[z,hq]at h2;cases h2)];exact h2,h3⟩
theorem ErAt.set{K:aj}{c j:Nat}{v:V}(e:ErAt K cl ir c σ H)(hj:ir≠j):ErAt K cl ir c (σ.set j (aa v)) H:=by
 obtain⟨a,oe,C,h1,h2⟩:=e.ex;exact⟨a,oe,C,by rw[aE (Ne.symm hj)];exact h1,h2⟩
def XA{K:aj}{mg:aZ->Option ao}{c j:Nat}{Dj:ax}(R:Errs K mg cl)(e:ErAt K cl ir c σ H)(hj:cl[j+1]? = aa Dj)(q:Q (.bl (ae (c=j))) H):tIs K ir (.ref Dj) σ H Q:=by
 obtain⟨a,oe,C,h1,h2,h3,h4⟩:=e.ex;exact⟨.ref a,h1,a,oe,C,.ref Dj,.ref Dj,ae (c=j),rfl,rfl,λu' r=>r,h2,h3,R.exk c C h4,R.one c j C Dj h4 hj,q⟩
def Zch{K:aj}{mg:aZ->Option ao}{c:Nat}(R:Errs K mg cl)(e:ErAt K cl ir c σ H)(q:Q (.bl ag) H):tIs K ir (.ty "ValueError") σ H Q:=by
 obtain⟨a,oe,C,h1,h2,h3,h4⟩:=e.ex;exact⟨.ref a,h1,a,oe,C,.ty "ValueError",.type "ValueError",ag,rfl,rfl,λu' r=>r,h2,h3,R.exk c C h4,R.ve c C h4,q⟩
def Zd4(hi:X.N[ir]? = aa xr)(hv:Vis X.env.scope xr)(hg0:Gl X "isinstance")(hm0:X.mg "isinstance" = ac)(hg:Gl X x)(hm:X.mg x=aa (.ref Dj))(hd1:(xr == ("__debug__" : aZ))=ai)(hd2:(xr == ("__classdict__" : aZ))=ai)(hd3:(x == ("__debug__" : aZ))=ai)
  (hs:aC [.Name xr p1,.Name x p2] X.env=(ai,bZ (.Name xr p1) X.env)::aC [.Name x p2] X.env:=by rfl)(hs2:aC [.Name x p2] X.env=(ai,bZ (.Name x p2) X.env)::aC [] X.env:=by rfl)(hpl:(cK pos (aC [.Name x p2] X.env)).any (·.1)=ai:=by rfl) :
  PE X (.Call (.Name "isinstance" p) [.Name xr p1,.Name x p2] [] pos) (tIs X.K ir (.ref Dj)):=
 Wv GG hg0 hm0 rfl (ZE (Y8 hi hv hd1 hd2) (ZE (Zba hg hm rfl hd3) Yn hs2) hs) (by decide) (by decide) hs hpl
def Zcs(hi:X.N[ir]? = aa xr)(hv:Vis X.env.scope xr)(hg0:Gl X "isinstance")(hm0:X.mg "isinstance" = ac)(hg:Gl X "ValueError")(hm:X.mg "ValueError" = ac)(hd1:(xr == ("__debug__" : aZ))=ai)(hd2:(xr == ("__classdict__" : aZ))=ai)
  (hs:aC [.Name xr p1,.Name "ValueError" p2] X.env=(ai,bZ (.Name xr p1) X.env)::aC [.Name "ValueError" p2] X.env:=by rfl)(hs2:aC [.Name "ValueError" p2] X.env=(ai,bZ (.Name "ValueError" p2) X.env)::aC [] X.env:=by rfl)(hpl:(cK pos (aC [.Name "ValueError" p2] X.env)).any (·.1)=ai:=by rfl) :
  PE X (.Call (.Name "isinstance" p) [.Name xr p1,.Name "ValueError" p2] [] pos) (tIs X.K ir (.ty "ValueError")):=
 Wv GG hg0 hm0 rfl (ZE (Y8 hi hv hd1 hd2) (ZE (Ut hg hm rfl rfl) Yn hs2) hs) (by decide) (by decide) hs hpl
def Vf(K:aj)(ir is:Nat)(cl:List ax)(ts:TT)(rb:TE)(fin:TS):TS:=
 let I:=λj=>tIs K ir (.ref (cl.getD (j+1) 0))
 Gj (ZdD (tB (Zef (Jv ir))) (ja (tC .non)) qx) (Gj (ym (wT (YY (I 0) (YY (I 1) (YY (I 2) Jr)))) (UP is))
  (Gj (ym (tOp Zbb (Jv is) (wT (YY (I 3) (YY (I 4) (YY (I 5) Jr))))) (UP is)) (Gj (ym (tOp Zbb (Jv is) (wT (YY (I 6) (YY (I 7) (YY (I 8) Jr))))) (UP is))
   (Gj (Zb0 (tBM K "list" xn (Jv is) (YY (I 9) Jr))) (Gj (ZdD (tOr (Zd8 (tB (tIs K ir (.ty "ValueError")))) ts) (ja rb) qx) fin)))))
def zW{K:aj}{ts:TT}{rb:TE}{fin:TS}{Dn:Ends}(h:σ[ir]? = aa (aa .non))(q:Dn.rt .non H):Vf K ir is cl ts rb fin Dn σ H:=by
 refine⟨.non,h,ag,rfl,?_⟩
 change (if ag=ag then _ else _)
 rw[T9 rfl];exact q
def QV(xs:List V):∀ps,HO.lst xs≠.tbl ps:=λ_ z=>by cases z
def Zaj:∀c,c<10->(Ev.Zw c)[c]? = aa ag:=by decide
def qW:∀c,c<10->∀m,m<c->(Ev.Zw c)[m]? = aa ai:=by decide
theorem wc :∀{bs:List Bool}{xs:List V},Rq ρ H (bs.map D.bl) xs->xs=bs.map V.bl
 |[],_,h=>by unfold Rq at h;exact h
 |b::bs,_,h=>by
  rw[aS]at h;unfold Rq at h;obtain⟨v,vs,rfl,r,rs⟩:=h;rw[wc rs,r.bl'];rfl
theorem Jo :∀(bs:List Bool),Rq ρ H (bs.map D.bl) (bs.map V.bl)
 |[]=>Rq.nil
 |b::bs=>Rq.cons (Zz b) (Jo bs)
def vN{K:aj}{mg:aZ->Option ao}{ts:TT}{rb:TE}{fi:TS}{Dn:Ends}{c:Nat}{ρ:List ax}{S:Zb}(R:Errs K mg cl)(hc:c<10)(e:ErAt K cl ir c σ H)(hne:ir≠is)(hsl:is<σ.length)(st:St3 K ρ S H)
  (hts:∀(σ':L2.St)(H':Hp)(p:ax)(Q':Bool->Hp->Prop),σ'[is]? = aa (aa (.ref p))->σ'.length=σ.length->St3 K (ρ++[p]) (S++[.lst ((Ev.Zw c).map .bl)]) H'->(∀ρ2 H2,Fut (ρ++[p]) H' ρ2 H2->St3 K ρ2 (S++Ev.junk c) H2->Q' ai H2)->ts σ' H' Q')
  (fin:∀(σ':L2.St)(ρ':List ax)(H':Hp)(q:ax),σ'[is]? = aa (aa (.ref q))->σ'.length=σ.length->H' q=aa (.lst ((Ev.Zw c).map .bl))->Fut ρ H ρ' H'->St3 K ρ' (S++Ev.junk c) H'->fi Dn σ' H'):Vf K ir is cl ts rb fi Dn σ H:=by
 have cj:∀j,j<10->cl[j+1]? = aa (cl.getD (j+1) 0):=λj hj=>by
  have hl:j+1<cl.length:=by rw[R.len];omega
  rw[ah hl,aG,ah hl];rfl
 obtain⟨a,oe,C,h1,h2,h3,h4⟩:=id e.ex;refine⟨.ref a,h1,ai,rfl,?_⟩
 change (if ai=ag then _ else _)
 rw[T8 aM]
 let A1:HO:=.lst [.bl (ae (c=0)),.bl (ae (c=1)),.bl (ae (c=2))]
 let A2:HO:=.lst [.bl (ae (c=3)),.bl (ae (c=4)),.bl (ae (c=5))]
 let A3:HO:=.lst [.bl (ae (c=0)),.bl (ae (c=1)),.bl (ae (c=2)),.bl (ae (c=3)),.bl (ae (c=4)),.bl (ae (c=5))]
 let A4:HO:=.lst [.bl (ae (c=6)),.bl (ae (c=7)),.bl (ae (c=8))]
 let L5:List Bool:=[ae (c=0),ae (c=1),ae (c=2),ae (c=3),ae (c=4),ae (c=5),ae (c=6),ae (c=7),ae (c=8)]
 let A5:HO:=.lst (L5.map .bl)
 have neq:∀{G:Hp}{b d:ax}{u:HO},G b=aa u->G d=ac->b≠d:=λh1 h2 z=>by rw[z,h2]at h1;cases h1
 refine XA R e (cj 0 (by omega)) (XA R e (cj 1 (by omega)) (XA R e (cj 2 (by omega)) ⟨by show 3<=aX;decide,λq1 hq1=>?_⟩))
 have e1:ErAt K cl ir c (σ.set is (aa (.ref q1))) (upd H q1 A1):=(e.upd (o:=A1) hq1).set (j:=is) (v:=.ref q1) hne;have st1:=st.fresh (o:=A1) hq1 (QV _);have f1:Fut ρ H ρ (upd H q1 A1):=ZT hq1;have g1:upd H q1 A1 q1=aa A1:=Zq;have l1:(σ.set is (aa (.ref q1))).length=σ.length:=aV;refine⟨.ref q1,aQ hsl,?_⟩;refine XA R e1 (cj 3 (by omega)) (XA R e1 (cj 4 (by omega)) (XA R e1 (cj 5 (by omega)) ⟨by show 3<=aX;decide,λq2 hq2=>?_⟩))
 have g2:upd (upd H q1 A1) q2 A2 q1=aa A1:=by rw[Zo (neq g1 hq2)];exact g1
 have st2:=st1.fresh (o:=A2) hq2 (QV _);have f2:Fut ρ H ρ (upd (upd H q1 A1) q2 A2):=f1.trans (ZT hq2);refine⟨q1,q2,_,_,rfl,rfl,g2,Zq,by show 6<=aX;decide,λq3 hq3=>?_⟩
 let H3:=upd (upd (upd H q1 A1) q2 A2) q3 A3
 have e3:ErAt K cl ir c ((σ.set is (aa (.ref q1))).set is (aa (.ref q3))) H3:=((e1.upd (o:=A2) hq2).upd (o:=A3) hq3).set (j:=is) (v:=.ref q3) hne;have st3:St3 K ρ S H3:=st2.fresh (o:=A3) hq3 (QV _);have f3:Fut ρ H ρ H3:=f2.trans (ZT hq3);have g3:H3 q3=aa A3:=Zq;have l3:((σ.set is (aa (.ref q1))).set is (aa (.ref q3))).length=σ.length:=by rw[aV,l1]
 refine⟨.ref q3,aQ (by rw[l1];exact hsl),?_⟩
 refine XA R e3 (cj 6 (by omega)) (XA R e3 (cj 7 (by omega)) (XA R e3 (cj 8 (by omega)) ⟨by show 3<=aX;decide,λq4 hq4=>?_⟩))
 have g4:upd H3 q4 A4 q3=aa A3:=by rw[Zo (neq g3 hq4)];exact g3
 have st4:St3 K ρ S (upd H3 q4 A4):=st3.fresh (o:=A4) hq4 (QV _);have f4:Fut ρ H ρ (upd H3 q4 A4):=f3.trans (ZT hq4);refine⟨q3,q4,_,_,rfl,rfl,g4,Zq,by show 9<=aX;decide,λq5 hq5=>?_⟩
 let H5:=upd (upd H3 q4 A4) q5 A5
 let σ5:=((σ.set is (aa (.ref q1))).set is (aa (.ref q3))).set is (aa (.ref q5))
 have e5:ErAt K cl ir c σ5 H5:=((e3.upd (o:=A4) hq4).upd (o:=A5) hq5).set (j:=is) (v:=.ref q5) hne;have l5:σ5.length=σ.length:=by show lR (List.set _ _ _)=_;rw[aV,l3]
 have v5:σ5[is]? = aa (aa (.ref q5)):=aQ (by rw[l3];exact hsl)
 have st5:St3 K (ρ++[q5]) (S++[.lst (L5.map .bl)]) H5:=st4.new (o:=.lst (L5.map .bl)) hq5 ⟨L5.map .bl,Zq,Jo L5⟩ (QV _);have f5:Fut ρ H (ρ++[q5]) H5:=f4.trans (Xl hq5);have g5:H5 q5=aa A5:=Zq;refine⟨.ref q5,v5,.inl ⟨rfl,_,SqL.of g5⟩,?_⟩;refine XA R e5 (cj 9 (by omega)) ⟨q5,_,_,rfl,rfl,g5,by show 9<aX;decide,?_⟩
 let L6:List Bool:=Ev.Zw c
 have hL:L5.map V.bl++[.bl (ae (c=9))]=L6.map V.bl:=rfl
 let H6:=upd H5 q5 (.lst (L5.map V.bl++[.bl (ae (c=9))]))
 have hpl:(ρ++[q5])[S.length]? = aa q5:=by rw[<-st.len,bf (aD _)];simp
 have st6:St3 K (ρ++[q5]) (S++[.lst (L6.map .bl)]) H6:=by
  have h:=st5.wr (n:=S.length) (es:=L6.map D.bl) (ys:=L5.map V.bl++[.bl (ae (c=9))]) hpl (show(S++[Ob.lst (L5.map D.bl)])[S.length]? = aa (.lst (L5.map D.bl))from by simp) g5 (by rw[hL];exact Jo L6)
  have hs:(S++[Ob.lst (L5.map D.bl)]).set S.length (.lst (L6.map D.bl))=S++[.lst (L6.map D.bl)]:=by
   rw[iR _ _ (aD _),ln];rfl
  rw[hs]at h;exact h
 have f6:Fut ρ H (ρ++[q5]) H6:=f5.trans (Y4 g5);have e6:ErAt K cl ir c σ5 H6:=e5.wr g5;refine Zch R e6 ⟨ag,rfl,?_⟩
 change (if ai=ag then _ else _)
 rw[T8 aM];refine hts σ5 H6 q5 _ v5 l5 st6 λρ7 H7 f7 st7=>?_
 change (if ai=ag then _ else _)
 rw[T8 aM];have pl7:=f7.at hpl;obtain⟨xs,hx,rx⟩:=st7.ob S.length (.lst (L6.map D.bl)) q5 (by show(S++[_,_])[S.length]? = _;simp[L6]) pl7
 obtain rfl:=wc rx;exact fin σ5 ρ7 H7 q5 v5 l5 hx (f6.trans f7) st7
def rbI:TE:=tUn (rU λi=>.int (-i)) (tC (.int 1))
def ZdC(K:aj)(is:Nat):TS:=ja (tBM K "list" JH (Jv is) (YY (tC (.bl ag)) Jr))
def ZbT{K:aj}{c:Nat}{Dn:Ends}{q:ax}(hc:c<10)(v:σ[is]? = aa (aa (.ref q)))(h:H q=aa (.lst ((Ev.Zw c).map .bl)))(k:Dn.rt (.int c) H):ZdC K is Dn σ H:=
 ⟨.ref q,v,.inl ⟨rfl,_,SqL.of h⟩,q,Ev.Zw c,c,rfl,rfl,h,Zaj c hc,qW c hc,k⟩
noncomputable def tWs:List aZ->TA
 |[]=>Jr
 |w::ws=>YY (tC (.str w)) (tWs ws)
theorem ui{Q:List V->Hp->Prop}:∀{ws:List aZ} ,Q (ws.map .str) H->tWs ws σ H Q
 |[],h=>h
 |w::ws,h=>ui (ws:=ws) h
def ZcR(K:aj)(is iw:Nat):TS:=Gj (ym (wT (tWs Ev.Yz)) (UP iw)) (ja (tOp (Zer K) (Jv iw) (tBM K "list" JH (Jv is) (YY (tC (.bl ag)) Jr))))
theorem zj :∀(ws:List aZ),Rq ρ H (ws.map D.str) (ws.map V.str)
 |[]=>Rq.nil
 |w::ws=>Rq.cons (Vt w) (zj ws)
def jK:∀c:Nat,c<10->atI (Ev.Yz.map V.str) (c:Int)=aa (.str (Ev.Yz.getD c "")):=by decide +kernel
def ZbC{K:aj}{c iw:Nat}{Dn:Ends}{q:ax}{ρ:List ax}{S:Zb}(hc:c<10)(v:σ[is]? = aa (aa (.ref q)))(hw:iw<σ.length)(hne:iw≠is)(h:H q=aa (.lst ((Ev.Zw c).map .bl)))(st:St3 K ρ (S++Ev.junk c) H)(k:∀ρ' H',Fut ρ H ρ' H'->St3 K ρ' (S++Ev.Q9 ag c) H'->Dn.rt (.str (Ev.Yz.getD c "")) H'):ZcR K is iw Dn σ H:=by
 refine ui ⟨by show 10<=aX;decide,λp hp=>?_⟩
 have hqp:q≠p:=λz=>by rw[z,hp]at h;cases h
 have h1:upd H p (.lst (Ev.Yz.map V.str)) q=aa (.lst ((Ev.Zw c).map .bl)):=by rw[Zo hqp];exact h
 have st1:St3 K (ρ++[p]) ((S++Ev.junk c)++[.lst (Ev.Yz.map .str)]) (upd H p (.lst (Ev.Yz.map V.str))):=st.new (o:=.lst (Ev.Yz.map .str)) hp ⟨_,Zq,zj _⟩ (QV _);refine⟨.ref p,aQ hw,.ref q,by rw[aE hne];exact v,.inl ⟨rfl,_,SqL.of h1⟩,q,Ev.Zw c,c,rfl,rfl,h1,Zaj c hc,qW c hc,p,_,_,_,rfl,rfl,SqL.of Zq,jK c hc,?_⟩
 exact k (ρ++[p]) _ (Xl hp) (by rw[cV]at st1;exact st1)
end
structure LamIn(X:Cx)(scope:c8)(clos:List (aZ×ax)):Prop where
 S:LamS scope clos
 cl:∀x c,clos.lookup x=aa c->X.env.cells.lookup x=aa c
 kd:∀x,scope.names.lookup x=aa .free->X.env.scope.names.lookup x=aa .cell
section
variable{X:Cx}{E:XK}{cl:List ax}{Cc:Calls}{i:Ev.E}{xw:Nat->Hp->Prop}
noncomputable def vR(w:Bool)(c:Nat):V:=if w then .str (Ev.Yz.getD c "")else .int c
def Zdx(w:Bool)(c:Nat):Rep ρ H (Ev.Zbh w c) (vR w c):=by
 cases w
 ·exact Zp _
 ·exact Vt _
def Za7{wd:Bool}{rb:TE}{fi:TS}{k:Nat}{f P c S0:ax}{fd:bP}{xf xc xr n xS:aZ}{st:de}{Nr:List aZ}{ic ie ir is:Nat}{params:lC}{body:Expr}{scope:c8}{lp p pos p0 p1 p2 p3 p4 p5 p6 p7 p8 p9 q0 q1:dZ}{j0:Nat}{clos:List (aZ×ax)}{rest:List de}{ts:Cx->TT}
  (D:DefX X E)(hfn:∀x,X.fn x=ag)(hr:Room (k+2) X.A)(R:Errs X.K X.mg cl)(hS0:cl[0]? = aa S0)
  (hP:∃ps,X.H₀ P=aa (.tbl ps))(hcode:X.env.code=.ref c)(C:cy X.base c P)(hB:X.base.BuiltinsAt X.mg P)(hgP:bn≠P)(hq:X.env.qual++"<lambda>" = YS)(hcl:fD scope X.env=cR clos)(hdef:defaultsOf params X.env=([],[]))(L:LamIn X scope clos)
  (hbind0:∀pm c' ctv,iV (my "<lambda>" YS params body scope clos pm (.ref c') ctv) ⟨[],[]⟩=cR [])
  (hbody:∀(g:ax)(c':ax)(A:bV)(outer:List Env)(s:aw)(H:Hp)(E1:XK),Room k (A.deeper (dO YS scope s.heap.objs.size g (.ref c') clos))->CE (cxL X.prog X.w X.K X.mg X.base X.N scope g (.ref c') clos A outer s H E1) (xwE cl E1) Cc body i)
  (hg:Gl X xf)(hm:X.mg xf=aa (.ref f))(hk:ei X.K (.ref f)=ag)(Fu:Fun X.K xf xf st f fd)(Sc:FnScope Nr [xc] (Zf st))(hb:V4 X.K fd [xc] [])(hdb:(xf == ("__debug__" : aZ))=ai)
  (he:aC [.Lambda params body scope lp] X.env=(ai,bZ (.Lambda params body scope lp) X.env)::aC [] X.env)(hpl:(cK pos (aC [] X.env)).any (·.1)=ai)
  (hst:ZC st=.Assign [.Name xr p0] (.Constant .none j0 q0) q1 :: .Try [.Expr (.Call (.Name xc p1) [] [] p2) p3] [.ExceptHandler (aa (.Name xS p4)) (aa n) [.Assign [.Name xr p5] (.Name n p6) p7] p8] [] [] p9::rest)
  (hN:Nr.Nodup)(hic:Nr[ic]? = aa xc)(hic0:ic=0)(hie:Nr[ie]? = aa n)(hir:Nr[ir]? = aa xr)(his:is<Nr.length)(hne:ir≠is)(hne2:ir≠ie)(hne3:ir≠0)
  (hkc:(Zf st).names.lookup xc=aa .local)(hke:(Zf st).names.lookup n=aa .local)(hkr:(Zf st).names.lookup xr=aa .local)(hkS:∀L f cdv,(cM xf (Zf st) L f cdv).kindOf xS=aa .globalImplicit)(hmS:X.mg xS=aa (.ref S0))
  (hd1:(xc == ("__debug__" : aZ))=ai)(hd2:(xc == ("__classdict__" : aZ))=ai)(hd3:(n == ("__debug__" : aZ))=ai)(hd4:(n == ("__classdict__" : aZ))=ai)(hd5:(xS == ("__debug__" : aZ))=ai)
  (hs0:∀L f cdv,eE (.Constant .none j0 q0) (aa (.Name xr p0)) q1.line (cM xf (Zf st) L f cdv)=cR ai)(hs1:∀L f cdv,eE (.Call (.Name xc p1) [] [] p2) ac p3.line (cM xf (Zf st) L f cdv)=cR ai)
  (hs2:∀L f cdv,eE (.Name n p6) (aa (.Name xr p5)) p7.line (cM xf (Zf st) L f cdv)=cR ai)
  (hrest:∀(cdv:ao)(A:bV)(outer:List Env)(s:aw)(H:Hp),Room (k+1) (A.deeper (cM xf (Zf st) s.heap.objs.size f cdv))->
   PSs (Wb (CX1 X.prog X.w) X.prog X.w X.K X.mg X.base Nr xf (Zf st) f cdv A outer s H E0) rest (Vf X.K ir is cl (ts (Wb (CX1 X.prog X.w) X.prog X.w X.K X.mg X.base Nr xf (Zf st) f cdv A outer s H E0)) rb fi))
  (hts:∀(Y:Cx)(ρ:List ax)(S:Zb)(e:Nat)(σ':L2.St)(H':Hp)(q:ax)(Q':Bool->Hp->Prop),Y.K=X.K->e<10->σ'[is]? = aa (aa (.ref q))->σ'.length=Nr.length->St3 X.K (ρ++[q]) (S++[.lst ((Ev.Zw e).map .bl)]) H'->(∀ρ2 H2,Fut (ρ++[q]) H' ρ2 H2->St3 X.K ρ2 (S++Ev.junk e) H2->Q' ai H2)->ts Y σ' H' Q')
  (hfi:∀(Dn:Ends)(σ':L2.St)(ρ':List ax)(H':Hp)(S:Zb)(e:Nat)(q:ax),e<10->σ'[is]? = aa (aa (.ref q))->σ'.length=Nr.length->H' q=aa (.lst ((Ev.Zw e).map .bl))->St3 X.K ρ' (S++Ev.junk e) H'->(∀ρ2 H2,Fut ρ' H' ρ2 H2->St3 X.K ρ2 (S++Ev.Q9 wd e) H2->Dn.rt (vR wd e) H2)->fi Dn σ' H') :
  CE X xw Cc (.Call (.Name xf p) [.Lambda params body scope lp] [] pos) (.refu wd i):=by
 rintro pq s σ H Q I ⟨ρ,l,S,st0,lr,h⟩
 obtain⟨ps0,hP0⟩:=hP;obtain⟨more,hPH⟩:=I.base.tbls P ps0 hP0;refine dm (Vj I hg hm ?_ hdb);refine kF (h₀:=X.base) I.ok.mod.kin hk ?_ he hpl;rw[he];refine Calls.spliced_cons (jh I st0.tb hPH hcode C hB hgP hq hcl hdef λg c' oc vs t pm ctv H1 s1 I1 gr tb1 _ hg1 hc1 d1 v1=>Calls.spliced_nil ⟨I1.kIn,?_⟩)
 have nx:∀b:ax,b∉([]:List ax):=λb=>by simp
 have hbd:=hb s1 [.ref g] I1.kIn rfl;have st1:=st0.grow gr tb1;have f1:Fut ρ H ρ H1:=gr.fut;refine mj (gd (ZdR (CX:=CX1 X.prog X.w) (k:=k+1) (Q:=Q) (E:=E0) (us:=[.ref g]) (vs:=[.ref g]) Fu Sc hr I1.env0 (by simpa using hbd) (.cons rfl .nil) rfl λcdv s2 hrm I2=>?_) λr s' hq=>?_)
 rotate_left
 ·cases r with
  |error e=>obtain⟨_,_,_,_,_,_,_,_,_,_,_,_,_,_,z⟩:=hq;exact z.elim
  |ok fl=>
   cases fl with|ret u=>exact I1.after hq|next=>exact False.elim hq|brk=>exact False.elim hq|cont=>exact False.elim hq
 rw[hst]
 let Xr:=Wb (CX1 X.prog X.w) X.prog X.w X.K X.mg X.base Nr xf (Zf st) f cdv X.A X.stack s1 H1 E0
 let D0:Ends:={ nx:=λ_ H'=>Q .non H',rt:=Q }
 let σ2:L2.St:=(start Nr [.ref g]).set ir (aa .non)
 have b0:=VM (X:=Xr) (pos:=q1) (pos':=p0) hN hir (.inl hkr) (yI (j:=j0) (pos:=q0)) (hs0 _ _ _) (.inr hkr);refine eD (thn (b0 [] s2 _ H1 { nx:=λσ' H'=>σ'=σ2/\H'=H1,rt:=λ_ _=>False } I2 ⟨rfl,rfl⟩) λfl s3 hq3=>?_)
 cases fl with
 |ret v=>obtain⟨_,_,_,_,_,z⟩:=hq3;exact z.elim
 |brk=>obtain⟨_,_,_,z⟩:=hq3;exact False.elim z
 |cont=>obtain⟨_,_,_,z⟩:=hq3;exact False.elim z
 |next=>
 obtain⟨σx,Hx,I3,z1,z2⟩:=hq3;rw[z1,z2]at I3
 let E1:XK:=λCv _ H'=>∃e Ce S' ρ',Cv=.ref Ce/\cl[e]? = aa Ce/\ev Cc i l S=.ex e S'/\Fut ρ H1 ρ' H'/\St3 X.K ρ' S' H'
 have hl0:0<Nr.length:=by have:=(ay.mp hic).1;omega
 have hσl:σ2.length=Nr.length:=I3.len;have hirl:ir<σ2.length:=by rw[hσl];exact(ay.mp hir).1
 have hσ0:σ2[ic]? = aa (aa (.ref g)):=by
  rw[hic0,aE hne3];rfl
 have hσr:σ2[ir]? = aa (aa .non):=aQ (by simpa[σ2]using hirl)
 have og:=(I3.hok g _ hg1).1;have oc':=(I3.hok c' _ hc1).1;have notin:∀x c0,X.env.cells.lookup x=aa c0->c0∉frs X.stack:=λx c0 hx hb=>by
  rw[D.st]at hb;unfold frs at hb;rw[bO,D.fr]at hb;rcases az.mp hb with z | z
  ·exact I1.cne x c0 hx z
  ·obtain⟨_,o,ho,_⟩:=I1.ok.funs.mem z
   exact T7 (aJ ho) (ib (I1.ok.cab x c0 (hfn x) hx))
 have cellKeep:∀x c0 v,X.env.cells.lookup x=aa c0->s1.heap.IsCell c0 v->s3.heap.IsCell c0 v:=λx c0 v hx ⟨o,ho,hd⟩=>
  ⟨o,I3.base.keep c0 o ho (I1.freeC x c0 hx) (notin x c0 hx) (nx c0),hd⟩
 have hEnd:End X.K (xwE cl E1) Rep ρ H1 (λ_ H'=>Vf X.K ir is cl (ts Xr) rb fi D0 σ2 H') (ev Cc i l S):=by
  have h:End X.K xw Rep ρ H Q (match ev Cc i l S with
   |.ok _ S=>.ok .non S
   |.ex c S=>if 1<=c/\c<=10 then .ok (Ev.Zbh wd (c-1)) (S++Ev.Q9 wd (c-1))else .no
   |.no=>.no):=by
   have h0:=h;rw[ev]at h0;exact h0
  cases q:ev Cc i l S with
  |no=>rw[q]at h;exact h.elim
  |ok d S'=>
   rw[q]at h;exact λρ' H' v f st' r=>zW hσr (h ρ' H' .non (f1.trans f) st' YF)
  |ex e S'=>
   rw[q]at h;have hg:=(End.guard h).1;intro ρ' H' f st';have he:e<cl.length:=by rw[R.len];omega
   exact⟨cl[e],ah he,e,cl[e],S',ρ',rfl,ah he,q,f,st'⟩
 refine eD (thn (ZaP (X:=Xr) (E:=E0) (Dn:={ nx:=λσ' H'=>Vf X.K ir is cl (ts Xr) rb fi D0 σ' H',rt:=λ_ _=>False }) (E1:=E1) (S:=S0) (ic:=ic) (ie:=ie) (ir:=ir) Zbf I3 hN hic (.inl hkc) hσ0 hie hke hir hkr (hkS _ _ _) hmS ⟨_,_,_,_,og⟩ ?run ?e1 hd1 hd2 hd3 hd4 hd5 (hs1 _ _ _) (hs2 _ _ _)) λfl s4 hq4=>?_)
 case run=>
  exact u7 (k:=k) (N:=X.N) (σ:=σ) hrm I3.env0 L.S og ⟨c',oc,vs,t,rfl,oc',d1,v1⟩ (hbind0 pm c' ctv) (λx c0 e=>⟨let ⟨v,z⟩:=I1.cell x c0 (L.cl x c0 e);⟨v,cellKeep x c0 v (L.cl x c0 e) z⟩,I1.freeC x c0 (L.cl x c0 e)⟩) I1.len
   (λj x v e1 e2 fr=>by
    obtain⟨m,hn,hl⟩:=I1.loc;obtain⟨u,r,lk⟩:=hl j x v e1 e2 (.inr (.inl (L.kd x fr)));obtain⟨c1,hc1⟩:=L.S.has x fr;rcases lk with⟨k1,_⟩ | ⟨_,c0,hc0,z⟩
    ·have k1:X.env.scope.names.lookup x=aa .local:=k1
     rw[L.kd x fr]at k1;cases k1
    ·have:=L.cl x c1 hc1
     rw[hc0]at this;cases this;exact⟨u,c1,r,hc1,cellKeep x c1 _ hc0 z⟩)
   (hbody g c' Xr.A Xr.stack s3 H1 E1 (hrm.deeper _)) ⟨ρ,l,S,st1,lr.mono f1,hEnd⟩
 case e1=>
  rintro Ce H' ⟨e,Ce',S',ρ',z,hce,hev,f,st'⟩
  cases z;have h2:End X.K xw Rep ρ H Q (if 1<=e/\e<=10 then .ok (Ev.Zbh wd (e-1)) (S'++Ev.Q9 wd (e-1))else .no):=by
   have h0:=h;rw[ev,hev]at h0;exact h0
  obtain⟨hge,h3⟩:=End.guard h2;obtain⟨e',rfl⟩:∃e',e=e'+1:=⟨e-1,by omega⟩
  refine⟨R.exm e' Ce S0 hce hS0,λa oe Ha ce=>?_⟩
  have stA:St3 X.K ρ' S' (upd H' a (.frz oe (.own a))):=st'.fresh (o:=.frz oe (.own a)) Ha;have er:ErAt X.K cl ir e' (((σ2.set ie (aa (.ref a))).set ir (aa (.ref a))).set ie ac) (upd H' a (.frz oe (.own a))):=
   ⟨a,oe,Ce,by rw[aE (Ne.symm hne2),aQ (by rw[aV];exact hirl)],Zq,ce,hce⟩
  have len':(((σ2.set ie (aa (.ref a))).set ir (aa (.ref a))).set ie ac).length=Nr.length:=by rw[aV,aV,aV];exact hσl
  refine vN R (by omega) er hne (by rw[len'];exact his) stA (λσ' H2 q Q' a1 a2 a3 a4=>hts Xr ρ' S' e' σ' H2 q Q' rfl (by omega) a1 (a2.trans len') a3 a4) λσ' ρ2 H2 q b1 b2 b3 f2 st2=>?_
  refine hfi D0 σ' ρ2 H2 S' e' q (by omega) b1 (b2.trans len') b3 st2 λρ3 H3 f3 st3=>?_
  exact h3 ρ3 H3 (vR wd e') (f1.trans (f.trans ((ZT Ha).trans (f2.trans f3)))) (by rw[kP];exact st3) (by rw[kP];exact Zdx wd e')
 cases fl with
 |ret v=>obtain⟨_,_,_,_,_,z⟩:=hq4;exact z.elim
 |brk=>obtain⟨_,_,_,z⟩:=hq4;exact False.elim z
 |cont=>obtain⟨_,_,_,z⟩:=hq4;exact False.elim z
 |next=>
  obtain⟨σ4,H4,I4,q4⟩:=hq4;exact hrest cdv X.A X.stack s1 H1 hrm [] s4 σ4 H4 D0 I4 q4
end
noncomputable def ksum(is:Nat):Ev.E:=.cmp .ne (.blt .sum [.comp1 [] 1 [0] (.of (.v is)) [] (.blt .toInt [.v 0])]) (.c (.int 1))
section
variable{Cc:Calls}{S:Zb}{bs:List Bool}{is:Nat}{l:Lc}
noncomputable abbrev VW(S:Zb)(bs:List Bool)(ys:List D):Zb:=S++[.lst (bs.map .bl),.lst ys]
def xM(ys:List D):Ev.Zi (VW S bs ys) (S.length+1)=aa ys:=by simp[Ev.Zi]
def Zbv(ys zs:List D):(VW S bs ys).set (S.length+1) (.lst zs)=VW S bs zs:=by
 unfold VW;rw[iR _ _ (by omega)]
 have:S.length+1-S.length=1:=by omega
 rw[this];rfl
theorem GK:∀(cs:List Bool)(ys:List D)(o:Option D),ys.length+cs.length<=1000->∃σ,Ev.Xd ⟨bs.map .bl,[(S.length,bs.map .bl)]⟩ (λx σ S1=>(Ev.ob (Ev.assign [0] x S1 σ) S1).bind λσ S1=>(evt Cc [] σ S1).bind λb S1=>
   if b then(ev Cc (.blt .toInt [.v 0]) σ S1).bind λy S1=>(Ev.push (S.length+1) y S1).bind λ_ S1=>.ok σ S1 else .ok σ S1) (cs.map .bl) [o] (VW S bs ys)=.ok σ (VW S bs (ys++cs.map λb=>.int (Ev.b2i b)))
 |[],ys,o,_=>⟨[o],by
  rw[gf,Ev.Xd,T9 (by simp[Ev.Walk.still])]
  simp⟩
 |c::cs,ys,o,h=>by
  have hl:ys.length<Ev.lim:=by unfold Ev.lim;simp only[aR]at h;omega
  obtain⟨σ,e⟩:=GK cs (ys++[.int (Ev.b2i c)]) (aa (.bl c)) (by simp only[aW,aR,d4]at h ⊢;omega)
  refine⟨σ,?_⟩;rw[aS,Ev.Xd,T9 (by simp[Ev.Walk.still])]
  have step:((Ev.ob (Ev.assign [0] (.bl c) (VW S bs ys) [o]) (VW S bs ys)).bind λσ S1=>(evt Cc [] σ S1).bind λb S1=>
   if b then(ev Cc (.blt .toInt [.v 0]) σ S1).bind λy S1=>(Ev.push (S.length+1) y S1).bind λ_ S1=>.ok σ S1 else .ok σ S1)=.ok [aa (.bl c)] (VW S bs (ys++[.int (Ev.b2i c)])):=by
   show(Ev.push (S.length+1) (.int (Ev.b2i c)) (VW S bs ys)).bind (λ_ S1=>R.ok [aa (D.bl c)] S1)=_
   unfold Ev.push;rw[xM];simp only[T9 hl,Zbv];rfl
  rw[step];show Ev.Xd _ _ (cs.map .bl) [aa (.bl c)] (VW S bs (ys++[.int (Ev.b2i c)]))=_;rw[e,cV];rfl
theorem zd:∀(bs:List Bool),Ev.YT (bs.map λb=>D.int (Ev.b2i b))=aa (bs.map Ev.b2i)
 |[]=>rfl
 |b::bs=>by rw[aS,Ev.YT,zd bs];rfl
def x6:∀e,e<10->((Ev.Zw e).map Ev.b2i).sum=1/\Ev.XR ((Ev.Zw e).map Ev.b2i)=ag:=by decide
def ZbU(he:e<10)(hl:l[is]? = aa (aa (.loc S.length))):tst Cc (ksum is) l (S++[.lst ((Ev.Zw e).map .bl)])=.ok ai (S++Ev.junk e):=by
 obtain⟨σ,h⟩:=GK (Cc:=Cc) (S:=S) (bs:=Ev.Zw e) (Ev.Zw e) [] ac (by show 0+10<=1000;decide)
 have w:evw Cc (.of (.v is)) l (S++[.lst ((Ev.Zw e).map .bl)])=.ok ⟨(Ev.Zw e).map .bl,[(S.length,(Ev.Zw e).map .bl)]⟩ (S++[.lst ((Ev.Zw e).map .bl)]):=by
  rw[evw,ev,hl];show Ev.ob (Ev.Ya (S++[.lst ((Ev.Zw e).map .bl)]) (.loc S.length)) _=_;unfold Ev.Ya;simp;rfl
 have c1:ev Cc (.comp1 [] 1 [0] (.of (.v is)) [] (.blt .toInt [.v 0])) l (S++[.lst ((Ev.Zw e).map .bl)])=.ok (.loc (S.length+1)) (S++Ev.junk e):=by
  rw[ev,w];have hs:(S++[Ob.lst ((Ev.Zw e).map D.bl)]).length=S.length+1:=by simp
  have ha:(S++[Ob.lst ((Ev.Zw e).map D.bl)])++[.lst []]=VW S (Ev.Zw e) []:=by simp[VW]
  change ((Ev.Xd ⟨(Ev.Zw e).map .bl,[(S.length,(Ev.Zw e).map .bl)]⟩ (λx σ S1=>(Ev.ob (Ev.assign [0] x S1 σ) S1).bind λσ S1=>(evt Cc [] σ S1).bind λb S1=>
   if b then(ev Cc (.blt .toInt [.v 0]) σ S1).bind λy S1=>(Ev.push (S++[Ob.lst ((Ev.Zw e).map D.bl)]).length y S1).bind λ_ S1=>.ok σ S1 else .ok σ S1) ((Ev.Zw e).map .bl) (Ev.caught [] 1 l) ((S++[Ob.lst ((Ev.Zw e).map D.bl)])++[.lst []])).bind
    λ_ S1=>R.ok (D.loc (S++[Ob.lst ((Ev.Zw e).map D.bl)]).length) S1).nox=_
  rw[hs,ha,show Ev.caught [] 1 l=[ac]from rfl,h]
  rfl
 have c2:ev Cc (.blt .sum [.comp1 [] 1 [0] (.of (.v is)) [] (.blt .toInt [.v 0])]) l (S++[.lst ((Ev.Zw e).map .bl)])=.ok (.int 1) (S++Ev.junk e):=by
  have c3:evs Cc [.comp1 [] 1 [0] (.of (.v is)) [] (.blt .toInt [.v 0])] l (S++[.lst ((Ev.Zw e).map .bl)])=.ok [.loc (S.length+1)] (S++Ev.junk e):=by
   rw[evs,c1];simp only[R.bind,evs]
  rw[ev,c3];show Ev.YJ .sum [.loc (S.length+1)] (S++Ev.junk e)=_;have g1:Ev.Zi (S++Ev.junk e) (S.length+1)=aa ((Ev.Zw e).map λb=>D.int (Ev.b2i b)):=xM (bs:=Ev.Zw e) _
  unfold Ev.YJ;simp only[g1,Ev.ob,R.bind,zd,(x6 e he).2,if_true,(x6 e he).1]
 unfold tst ksum;rw[ev,c2];simp only[R.bind,ev];rfl
end
section
variable{X:Cx}{cl:List ax}{ir is:Nat}{Cc:Calls}
def Zcu{Q':Bool->Hp->Prop}{xw:Nat->Hp->Prop}(he:e<10)(h1:σ'[is]? = aa (aa (.ref q)))(st:St3 Y.K (ρ++[q]) (S++[.lst ((Ev.Zw e).map .bl)]) H')
  (hQ:∀ρ2 H2,Fut (ρ++[q]) H' ρ2 H2->St3 Y.K ρ2 (S++Ev.junk e) H2->Q' ai H2):tB3 Y xw (tst Cc (ksum is)) σ' H' Q':=by
 have hl:is<σ'.length:=(ay.mp h1).1;have hn:ρ.length=S.length:=by have:=st.len;simp at this;exact this
 refine⟨ρ++[q],(aq σ'.length ac).set is (aa (.loc S.length)),_,st,⟨by simp,λi d e1=>?_⟩,?_⟩
 ·by_cases z:i=is
  ·subst z
   rw[aQ (by simpa using hl)]at e1
   cases e1;refine⟨.ref q,h1,Wx ?_⟩;rw[<-hn,bf (aD _)];simp
  ·rw[aE (Ne.symm z),bN]at e1
   split at e1 <;> cases e1
 ·rw[ZbU he (aQ (by simpa using hl))]
  exact λρ2 H2 v f s2 r=>by
   have r:ai=v:=r;subst r;exact hQ ρ2 H2 f s2
def Zar{xr xs:aZ}{ts:TT}{rb:TE}{fi:TS}{badE:Expr}{last:List de}{sumE:Expr}{P:Nat->dZ}{J:Nat->Nat}(R:Errs X.K X.mg cl)(hN:X.N.Nodup)(hi:X.N[ir]? = aa xr)(hv:X.env.scope.names.lookup xr=aa .local)(hj:X.N[is]? = aa xs)(hw:X.env.scope.names.lookup xs=aa .local)
  (g0:Gl X "isinstance")(m0:X.mg "isinstance" = ac)(g1:Gl X "ValueError")(m1:X.mg "ValueError" = ac)(gc:∀x∈YR,Gl X x)
  (r1:(xr == ("__debug__" : aZ))=ai)(r2:(xr == ("__classdict__" : aZ))=ai)(s1:(xs == ("__debug__" : aZ))=ai)(s2:(xs == ("__classdict__" : aZ))=ai)(hs:PT X sumE ts)
  (l1:((P 30).endLine == (P 31).line)=ag)(hbad:PE X badE rb)(hlast:PSs X last fi) :
  PSs X (.If (.Compare (.Name xr (P 0)) [.Is] [.Constant .none (J 0) (P 1)] (P 2)) [.Return (aa (.Constant .none (J 1) (P 3))) (P 4)] [] (P 5) ::
   .Assign [.Name xs (P 6)] (.List [.Call (.Name "isinstance" (P 40)) [.Name xr (P 41),.Name "NoRow" (P 42)] [] (P 43),.Call (.Name "isinstance" (P 44)) [.Name xr (P 45),.Name "NoPart" (P 46)] [] (P 47),.Call (.Name "isinstance" (P 48)) [.Name xr (P 49),.Name "NoNumber" (P 50)] [] (P 51)] (P 7)) (P 8) ::
   .Assign [.Name xs (P 9)] (.BinOp (.Name xs (P 10)) .Add (.List [.Call (.Name "isinstance" (P 52)) [.Name xr (P 53),.Name "NoHeads" (P 54)] [] (P 55),.Call (.Name "isinstance" (P 56)) [.Name xr (P 57),.Name "NotBeside" (P 58)] [] (P 59),.Call (.Name "isinstance" (P 60)) [.Name xr (P 61),.Name "NotIn" (P 62)] [] (P 63)] (P 11)) (P 12)) (P 13) ::
   .Assign [.Name xs (P 14)] (.BinOp (.Name xs (P 15)) .Add (.List [.Call (.Name "isinstance" (P 64)) [.Name xr (P 65),.Name "NoTurn" (P 66)] [] (P 67),.Call (.Name "isinstance" (P 68)) [.Name xr (P 69),.Name "NoLot" (P 70)] [] (P 71),.Call (.Name "isinstance" (P 72)) [.Name xr (P 73),.Name "TooMany" (P 74)] [] (P 75)] (P 16)) (P 17)) (P 18) ::
   .Expr (.Call (.Attribute (.Name xs (P 19)) "append" (P 30)) [.Call (.Name "isinstance" (P 76)) [.Name xr (P 77),.Name "BadNote" (P 78)] [] (P 79)] [] (P 31)) (P 20) ::
   .If (.BoolOp .Or [.UnaryOp .Not (.Call (.Name "isinstance" (P 80)) [.Name xr (P 81),.Name "ValueError" (P 82)] [] (P 83)) (P 21),sumE] (P 22)) [.Return (aa badE) (P 25)] [] (P 26) ::
   last) (Vf X.K ir is cl ts rb fi):=by
 have cj:∀j (x:aZ),j<11->YR[j]? = aa x->X.mg x=aa (.ref (cl.getD j 0)):=λj x hj e=>by
  have hl:j<cl.length:=by rw[R.len];exact hj
  exact R.nm j _ x (by rw[ah hl,aG,ah hl];rfl) e
 have vr:Vis X.env.scope xr:=.inl hv;have vs:Vis X.env.scope xs:=.inl hw;have is:∀{a b c d:dZ}(j:Nat)(x:aZ),j<11->YR[j]? = aa x->(x == ("__debug__" : aZ))=ai->PE X (.Call (.Name "isinstance" a) [.Name xr b,.Name x c] [] d) (tIs X.K ir (.ref (cl.getD j 0))):=λj x h e hd=>
  Zd4 hi vr g0 m0 (gc x (cD e)) (cj j x h e) r1 r2 hd
 unfold Vf
 dsimp only
 refine YN (qB (Zcz (ZcN (Y8 hi vr r1 r2))) (Vl (UM yI)) J9) ?_;refine YN (VM hN hj (.inl hw) (Qj (ZE (is 1 "NoRow" (by decide) rfl (by decide)) (ZE (is 2 "NoPart" (by decide) rfl (by decide)) (ZE (is 3 "NoNumber" (by decide) rfl (by decide)) Yn)))) rfl (.inr hw)) ?_
 refine YN (VM hN hj (.inl hw) (V9 zP (Y8 hj vs s1 s2) (Qj (ZE (is 4 "NoHeads" (by decide) rfl (by decide)) (ZE (is 5 "NotBeside" (by decide) rfl (by decide)) (ZE (is 6 "NotIn" (by decide) rfl (by decide)) Yn))))) rfl (.inr hw)) ?_
 refine YN (VM hN hj (.inl hw) (V9 zP (Y8 hj vs s1 s2) (Qj (ZE (is 7 "NoTurn" (by decide) rfl (by decide)) (ZE (is 8 "NoLot" (by decide) rfl (by decide)) (ZE (is 9 "TooMany" (by decide) rfl (by decide)) Yn))))) rfl (.inr hw)) ?_
 refine YN (yY (GQ cW gY gZ VQ (Y8 hj vs s1 s2) (ZE (is 10 "BadNote" (by decide) rfl (by decide)) Yn) rfl rfl l1 rfl rfl) rfl) ?_
 exact YN (qB (PW.pt (Zb7 (j4 (Zdg (Zcs hi vr g0 m0 g1 m1 r1 r2))) (Zah hs))) (Vl (UM hbad)) J9) hlast
def ZdP{xs:aZ}{P:Nat->dZ}{J:Nat->Nat}(hj:X.N[is]? = aa xs)(hw:X.env.scope.names.lookup xs=aa .local)(s1:(xs == ("__debug__" : aZ))=ai)(s2:(xs == ("__classdict__" : aZ))=ai)(l2:((P 32).endLine == (P 33).line)=ag) :
  PSs X [.Return (aa (.Call (.Attribute (.Name xs (P 27)) "index" (P 32)) [.Constant (.bool ag) (J 3) (P 28)] [] (P 33))) (P 29)] (ZdC X.K is):=
 Vl (UM (GQ cW im ip Gx (Y8 hj (.inl hw) s1 s2) (ZE xt Yn) rfl rfl l2 rfl rfl))
def ZeD{P:Nat->dZ}{J:Nat->Nat}:PE X (.UnaryOp .USub (.Constant (.int 1) (J 2) (P 23)) (P 24)) rbI:=Zcb u9 Jy
structure BS(X:Cx)(s:de)(t:TS):Prop where
 h:PS X s t
structure BSs(X:Cx)(s:List de)(t:TS):Prop where
 h:PSs X s t
def Zbz(hN:X.N.Nodup)(hk:X.N[iw]? = aa xw)(hv:X.env.scope.names.lookup xw=aa .local)(h:PA X es ta):BS X (.Assign [.Name xw p1] (.List es p2) p3) (ym (wT ta) (UP iw)):=
 ⟨VM hN hk (.inl hv) (Qj h) rfl (.inr hv)⟩
def ZbE(h1:BS X s1 t1)(h2:BS X s2 t2):BSs X [s1,s2] (Gj t1 t2):=⟨YN h1.h (Vl h2.h)⟩
structure BA(X:Cx)(es:List Expr)(ws:List aZ):Prop where
 h:PA X es (tWs ws)
def paW(h:BA X es ws):BA X (.Constant (.str x) 0 p::es) (x::ws):=⟨ZE JN h.h⟩
def ZeH:BA X [] []:=⟨Yn⟩
def Zdo{P:Nat->dZ}:BA X [.Constant (.str "row") 0 (P 102),.Constant (.str "part") 0 (P 103),.Constant (.str "number") 0 (P 104),.Constant (.str "heads") 0 (P 105),.Constant (.str "not beside") 0 (P 106),.Constant (.str "not in") 0 (P 107),.Constant (.str "turn") 0 (P 108),.Constant (.str "lot") 0 (P 109),.Constant (.str "many") 0 (P 110),.Constant (.str "note") 0 (P 111)] Ev.Yz:=
 paW (paW (paW (paW (paW (paW (paW (paW (paW (paW ZeH)))))))))
def Zd5{xs xw:aZ}{iw:Nat}{P:Nat->dZ}(hN:X.N.Nodup)(hj:X.N[is]? = aa xs)(hw:X.env.scope.names.lookup xs=aa .local)(s1:(xs == ("__debug__" : aZ))=ai)(s2:(xs == ("__classdict__" : aZ))=ai)(hk:X.N[iw]? = aa xw)(hv:X.env.scope.names.lookup xw=aa .local)(t1:(xw == ("__debug__" : aZ))=ai)(t2:(xw == ("__classdict__" : aZ))=ai)(l2:((P 32).endLine == (P 33).line)=ag) :
  BSs X [.Assign [.Name xw (P 34)] (.List [.Constant (.str "row") 0 (P 102),.Constant (.str "part") 0 (P 103),.Constant (.str "number") 0 (P 104),.Constant (.str "heads") 0 (P 105),.Constant (.str "not beside") 0 (P 106),.Constant (.str "not in") 0 (P 107),.Constant (.str "turn") 0 (P 108),.Constant (.str "lot") 0 (P 109),.Constant (.str "many") 0 (P 110),.Constant (.str "note") 0 (P 111)] (P 35)) (P 36),
   .Return (aa (.Subscript (.Name xw (P 37)) (.Call (.Attribute (.Name xs (P 27)) "index" (P 32)) [.Constant (.bool ag) 0 (P 28)] [] (P 33)) (P 38))) (P 29)] (ZcR X.K is iw):=by
 refine ZbE (Zbz hN hk hv Zdo.h) ⟨?_⟩;refine UM (Zb1 xX (Y8 hk (.inl hv) t1 t2) (GQ cW im ip Gx (Y8 hj (.inl hw) s1 s2) (ZE xt Yn) rfl rfl l2 rfl rfl) ?_);intro _ _;with_unfolding_all rfl
end
end Sd
namespace Gn
open PySem PySem.Spec PyProof.Rows L2
open Ev (D Ob Zb Lc R E Sm Calls Walk Fl Fn Bop Cop Ty Bf Mf)
open Sd (CX1 spX xwE Errs Cls1 DefX)
structure Cls(K:aj)(mg:aZ->Option ao)(base:bJ)(cl:List ax):Prop where
 er:Errs K mg cl
 rs:∀(c:Nat)(S C:ax),cl[0]? = aa S->cl[c+1]? = aa C->Cls1 base S C
def vU(P:bq)(w:bG)(K:aj)(mg:aZ->Option ao)(base:bJ)(cl:List ax)(fs:List FR)(F:List Fn)(f:Nat->ax)(fd:Nat->bP)(d:Nat):Prop:=
 ∀i r,fs[i]? = aa r->FnOk P w K mg base (CX1 P w) d (f i) (fd i) r.ps (spX K cl (Ev.Zt F d) i)
def BdX(fs:List FR)(zs:List aZ)(gs:List (aZ×Gv))(F:List Fn)(i:Nat)(r:FR)(fn:Fn):Prop:=
 ∀(P:bq)(w:bG)(K:aj)(mg:aZ->Option ao)(base:bJ)(cl:List ax)(f:Nat->ax)(fd:Nat->bP)(d:Nat),Top K mg fs zs gs f fd->Cls K mg base cl->vU P w K mg base cl fs F f fd d->r.N.Nodup->
  ∀(cdv:ao)(A:bV)(outer:List Env)(s:aw)(H:Hp)(E:XK),Room d (A.deeper (cM r.x (Zf r.st) s.heap.objs.size (f i) cdv))->(A.deeper (cM r.x (Zf r.st) s.heap.objs.size (f i) cdv)).units+7<d8->
   Bx (Sd.CSs (Wb (CX1 P w) P w K mg base r.N r.x (Zf r.st) (f i) cdv A outer s H E) (xwE cl E) (Ev.Zt F d) (ZC r.st) fn.body)
def OkX(fs:List FR)(zs:List aZ)(gs:List (aZ×Gv))(F:List Fn):Nat->List FR->List Fn->Prop
 |_,[],[]=>True
 |i,r::rs,fn::fns=>(fn.ns=r.N.length/\fn.ps=r.ps.length/\scB r.N r.k (Zf r.st)=ag/\BdX fs zs gs F i r fn)/\OkX fs zs gs F (i+1) rs fns
 |_,_,_=>False
theorem OkX.get :∀{rs:List FR}{fns:List Fn}{i0:Nat},OkX fs zs gs F i0 rs fns->∀i r,rs[i]? = aa r->∃fn,fns[i]? = aa fn/\fn.ns=r.N.length/\fn.ps=r.ps.length/\scB r.N r.k (Zf r.st)=ag/\BdX fs zs gs F (i0+i) r fn
 |[],_,_,_,i,r,e=>by simp at e
 |_::_,[],_,h,_,_,_=>h.elim
 |r::rs,fn::fns,i0,h,0,r',e=>by
  simp at e;subst e;exact⟨fn,rfl,h.1.1,h.1.2.1,h.1.2.2.1,h.1.2.2.2⟩
 |r::rs,fn::fns,i0,h,i+1,r',e=>by
  obtain⟨g,a,b,c,d,q⟩:=OkX.get h.2 i r' (by simpa using e)
  exact⟨g,by simpa using a,b,c,d,by rw[Nat.add_assoc,iF 1 i]at q;exact q⟩
theorem xy{P:bq}{w:bG}{K:aj}{mg:aZ->Option ao}{base:bJ}{cl:List ax}{fs:List FR}{zs:List aZ}{gs:List (aZ×Gv)}{F G:List Fn}{f:Nat->ax}{fd:Nat->bP}(O:OkX fs zs gs F 0 fs G)(hG:∀(i:Nat)(fn:Fn),G[i]? = aa fn->F[i]? = aa fn)(T:Top K mg fs zs gs f fd)(L:Cls K mg base cl):∀d,vU P w K mg base cl fs F f fd d
 |0=>λi r h=>Sd.qJ
 |d+1=>λi r h=>by
  obtain⟨fn,a,b,c,e,q⟩:=O.get i r h;rw[lq]at q;have S:=VP e;exact Sd.qv (hG i fn a) b c (T.d i r h) S λcdv A outer s H E hr=>(q P w K mg base cl f fd d T L (xy O hG T L d) S.nd cdv A outer s H E hr (Sd.hu7 hr)).h
section
variable{X:Cx}{xw:Nat->Hp->Prop}{C:Calls}{e a b:Expr}{i j:Ev.E}{es:List Expr}{is:List Ev.E}{pos p p2 p3 jp np cpos:dZ}{fs:List FR}{zs:List aZ}{gs:List (aZ×Gv)}{F:List Fn}{f:Nat->ax}{fd:Nat->bP}{d:Nat}{cl:List ax}
def uy{n:Nat}{x:aZ}{E:XK}(D:DefX X E)(T:Top X.K X.mg fs zs gs f fd)(h:vU X.prog X.w X.K X.mg X.base cl fs F f fd d)(hr:Room d X.A)(ha:Bx (Sd.CA X (xwE cl E) (Ev.Zt F d) (e::es) is))(hx:(fs[n]?).map FR.x=aa x)(hg:Gl X x)(hdb:(x == ("__debug__" : aZ))=ai)
  (he:aC (e::es) X.env=(ai,bZ e X.env)::aC es X.env)(hpl:(cK pos (aC es X.env)).any (·.1)=ai):Bx (Sd.CE X (xwE cl E) (Ev.Zt F d) (.Call (.Name x p) (e::es) [] pos) (.call n is)):=by
 cases e0:fs[n]? with
 |none=>rw[e0]at hx;cases hx
 |some r=>
  rw[e0]at hx;obtain rfl:r.x=x:=af hx;exact⟨Sd.zA (h n r e0) hr (Sd.ZdU D) (λ_ _ z=>z) (T.m n r e0) (T.d n r e0).kp (T.b n r e0) ha.h hg hdb he hpl⟩
def ZcA(T:Top X.K X.mg fs zs gs f fd)(h:vU X.prog X.w X.K X.mg X.base cl fs F f fd d)(hr:Room d X.A)(ha:Bx (Sd.CA X Sd.nx (Ev.Zt F d) (e::es) is))(hx:(fs[n]?).map FR.x=aa x)(hg:Gl X x)(hdb:(x == ("__debug__" : aZ))=ai)
  (he:aC (e::es) X.env=(ai,bZ e X.env)::aC es X.env)(hpl:(cK pos (aC es X.env)).any (·.1)=ai):Bx (Sd.CE X Sd.nx (Ev.Zt F d) (.Call (.Name x p) (e::es) [] pos) (.call n is)):=by
 cases e0:fs[n]? with
 |none=>rw[e0]at hx;cases hx
 |some r=>
  rw[e0]at hx;obtain rfl:r.x=x:=af hx;exact⟨Sd.zA (E:=E0) (h n r e0) hr Sd.Zet (λ_ _ z=>z.elim) (T.m n r e0) (T.d n r e0).kp (T.b n r e0) ha.h hg hdb he hpl⟩
def ZdS{c:Nat}{x y:aZ}{k:Nat}{E:XK}(D:DefX X E)(hc:X.calm=ag)(L:Cls X.K X.mg X.base cl)(hx:Sd.YR[c+1]? = aa x)(hg:Gl X x)(hd:(x == ("__debug__" : aZ))=ai)
  (he:aC [.Constant (.str y) k p] X.env=(ai,bZ (.Constant (.str y) k p) X.env)::aC [] X.env)(hpl:(cK cpos (aC [] X.env)).any (·.1)=ai) :
  Bx (Sd.CS X (xwE cl E) C (.Raise (aa (.Call (.Name x np) [.Constant (.str y) k p] [] cpos)) ac pos) (.raise (c+1) [])):=by
 have hl:c+1<cl.length:=by rw[L.er.len];have:=(ay.mp hx).1;exact this
 have h0:0<cl.length:=by omega
 exact⟨Sd.qi D hc (L.rs c _ _ (ah h0) (ah hl)) (ah hl) hg (L.er.nm (c+1) _ x (ah hl) hx) hd he hpl⟩
end
end Gn
namespace Gn
open PySem PySem.Spec PyProof.Rows L2
open Ev (D Ob Zb Lc R E Sm Calls Walk Fl Fn Bop Cop Ty Bf Mf run runs)
open Sd (CX1 spX xwE Errs Cls1 DefX St3 End Rep Rq LocR YF)
def spL(Pt:ax)(K:aj)(cl:List ax)(C:Calls)(n:Nat):Sp:=λvs H Q E=>(∃ps,H Pt=aa (.tbl ps))/\spX K cl C n vs H Q E
section
variable{P:bq}{w:bG}{K:aj}{mg:aZ->Option ao}{base:bJ}{cl:List ax}
def qw{F:List Fn}{n d:Nat}{fn:Fn}{x qual:aZ}{st:de}{f c Pt:ax}{fd:bP}{N ps:List aZ}{k:Nat}(hF:F[n]? = aa fn)(hns:fn.ns=N.length)(hps:fn.ps=ps.length)(Fu:Fun K x qual st f fd)(S:FnScope N ps (Zf st))(hcd:fd.code=.ref c)
  (hb:∀(A:bV)(outer:List Env)(s:aw)(H:Hp)(E:XK),(∃ps,H Pt=aa (.tbl ps))->Room k (A.deeper (cM qual (Zf st) s.heap.objs.size f (.ref c)))->
   Sd.CSs (Wb (CX1 P w) P w K mg base N qual (Zf st) f (.ref c) A outer s H E) (xwE cl E) (Ev.Zt F d) (ZC st) fn.body) :
  FnOk P w K mg base (CX1 P w) (k+1) f fd ps (spL Pt K cl (Ev.Zt F (d+1)) n):=by
 have eq:∀ds S,Ev.Zt F (d+1) n ds S=if ds.length=fn.ps then(runs (Ev.Zt F d) fn.body (Ev.start fn.ns ds) S).bind λf S=>match f with
    |.ret x=>.ok x S
    |.nx _=>.ok .non S
    |_=>.no
   else .no:=λds S=>by
  rw[Ev.Zt,hF]
  all_goals rfl
 obtain⟨oc,od,kV,doc,pm,an,cdv,ct,osl,rfl,lk,hcode⟩:=Fu.ex;obtain rfl:cdv=.ref c:=hcd;refine Zcd lk hcode S (λvs H Q E ⟨_,ρ,ds,S,st,r,h⟩=>?_) λA outer s H vs Q E hr ⟨hP,ρ,ds,S',st,r,h⟩=>⟨_,hb A outer s H E hP hr,ρ,Ev.start fn.ns ds,S',st,Sd.LocR.start r N fn.ns hns,?_⟩
 ·rw[eq]at h
  obtain⟨hl,_⟩:=Sd.End.guard h;rw[r.length,hl,hps]
 ·rw[eq]at h
  obtain⟨hl,h⟩:=Sd.End.guard h;cases q:runs (Ev.Zt F d) fn.body (Ev.start fn.ns ds) S' with
  |no=>rw[q]at h;exact h
  |ex c S2=>rw[q]at h;exact h
  |ok fl S2=>
   rw[q]at h;cases fl with|ret x=>exact λρ' H' v g st r=>h ρ' H' v g st r|nx l=>exact λρ' H' σ' g st lr=>h ρ' H' .non g st YF|brk l=>exact False.elim h|cnt l=>exact False.elim h
def ZaJ(hO:Sd.wo Pt H)(hS:SqL K H a (ns.map V.int))(h:∃S',C n [.loc 0] [.scr ns]=.ok (.bl ag) S'):spL Pt K cl C n [.ref a] H (λv _=>v=.bl ag) λ_ _ _=>False:=by
 obtain⟨S',e⟩:=h;refine⟨⟨_,hO.1⟩,[a],[.loc 0],[.scr ns],⟨rfl,λm k b h1 h2 hm=>?_,λm o b h1 h2=>?_,λQ ps e=>?_⟩,Sd.Rq.cons (Sd.Wx rfl) Sd.Rq.nil,?_⟩
 ·have l1:=(ay.mp h1).1
  have l2:=(ay.mp h2).1;simp at l1 l2;omega
 ·have l1:=(ay.mp h1).1
  have e0:m=0:=by simp at l1;exact l1
  subst e0;cases h1;cases h2;show Sd.Scr K H a ns;rcases hS with(hS | hS) | hS
  ·by_cases z:a=Pt
   ·rw[z,hO.1]at hS;cases hS
   ·rcases hO.2 a z with z | ⟨o,xs,z⟩
    ·rw[z]at hS;cases hS
    ·rw[z]at hS;cases hS
  ·exact .inl hS
  ·exact .inr hS
 ·by_cases z:Q=Pt
  ·subst z
   rw[hO.1]at e;cases e;exact⟨trivial,λpos cv q=>by cases q⟩
  ·rcases hO.2 Q z with z | ⟨_,_,z⟩ <;> (rw[z]at e;cases e)
 ·rw[e]
  exact λρ' H' v _ _ r=>r.bl'
end
def BdL(fs:List FR)(zs:List aZ)(gs:List (aZ×Gv))(F:List Fn)(r:FR)(fn:Fn):Prop:=
 ∀(P:bq)(w:bG)(K:aj)(mg:aZ->Option ao)(base:bJ)(cl:List ax)(f:Nat->ax)(fd:Nat->bP)(fL c Pt:ax)(d:Nat),Top K mg fs zs gs f fd->Cls K mg base cl->vU P w K mg base cl fs F f fd d->r.N.Nodup->
  cy base c Pt->base.BuiltinsAt mg Pt->bn≠Pt->
  ∀(A:bV)(outer:List Env)(s:aw)(H:Hp)(E:XK),(∃ps,H Pt=aa (.tbl ps))->Room (d+2) (A.deeper (cM r.x (Zf r.st) s.heap.objs.size fL (.ref c)))->(A.deeper (cM r.x (Zf r.st) s.heap.objs.size fL (.ref c))).units+7<d8->
   Bx (Sd.CSs (Wb (CX1 P w) P w K mg base r.N r.x (Zf r.st) fL (.ref c) A outer s H E) (xwE cl E) (Ev.Zt F d) (ZC r.st) fn.body)
end Gn
namespace Gn
open PySem PySem.Spec PyProof.Rows L2 PySem.W
open Sd (Errs Cls1 ExK YR veM)
noncomputable def Zam(K:Frag)(cl:List ax)(i:Nat)(C:ax):Bool:=
 excIn K C veM "ValueError.__new__" && ((clsIn K C).isSome&&(mw K (.ref C) "__getattribute__" == aa (aa (.builtin "BaseException.__getattribute__"))&&(mw K (.ref C) "__getattr__" == aa ac &&
  (mw K (.ref C) "__class__" == aa (aa (.builtin "object.__class__"))&&(mroIn K C (.type "BaseException") == aa ag&&(mroIn K C (.type "object") == aa ag&&(kitOne K (.ref C) (.type "ValueError") == aa ag &&
   (exmOne K (.ref C) (.ref (cl.getD 0 0)) == aa ag&&(cl.drop 1).zipIdx.all λq=>kitOne K (.ref C) (.ref q.1) == aa (ae (i=q.2))))))))))
noncomputable def Jf(K:Frag)(cl:List ax):Bool:=
 decide (cl.length=11)&&((cl.zip YR).all (λq=>nsIn K bn q.2 == aa (aa (.ref q.1)))&&(cl.drop 1).zipIdx.all λq=>Zam K cl q.2 q.1)
def UC{α:Type}{l:List α}{f:α×Nat->Bool}(h:l.zipIdx.all f=ag){i:Nat}{a:α}(e:l[i]? = aa a):f (a,i)=ag:=by
 refine aU.mp h (a,i) ?_;rw[fT];exact e
section
variable{K:Frag}{cl:List ax}
def G6(h:Jf K cl=ag){i:Nat}{C:ax}(e:cl[i+1]? = aa C):Zam K cl i C=ag:=by
 unfold Jf at h;rw[aB,aB]at h;have e1:(cl.drop 1)[i]? = aa C:=by rw[kQ,iF];exact e
 exact UC h.2.2 e1
def ZaC{hh:bJ}{mg:aZ->Option ao}(X:K.In hh)(G:hh.Ns bn mg)(h:Jf K cl=ag):Errs K mg cl:=by
 have h0:=h;unfold Jf at h0;rw[aB,aB,T2]at h0;obtain⟨hl,hn,_⟩:=h0;have parts:∀{i:Nat}{C:ax},cl[i+1]? = aa C->_:=λ{i C} e=>by
  have:=G6 h e;unfold Zam at this;simp only[aB,beq_iff_eq]at this;exact this
 refine⟨hl,λj C x e1 e2=>?_,λj C e=>?_,λi j C D e1 e2=>?_,λi C e=>?_,λi C S e1 e2=>?_⟩
 ·have:=aU.mp hn (C,x) (cD (i:=j) (by rw[eJ];exact⟨e1,e2⟩))
  exact mg_of X G (beq_iff_eq.mp this)
 ·obtain⟨_,a,b,c,d,e5,e6,_⟩:=parts e
  exact⟨a,b,c,d,e5,e6⟩
 ·obtain⟨_,_,_,_,_,_,_,_,_,z⟩:=parts e1
  have e3:(cl.drop 1)[j]? = aa D:=by rw[kQ,iF];exact e2
  exact beq_iff_eq.mp (UC z e3)
 ·obtain⟨_,_,_,_,_,_,_,z,_⟩:=parts e
  exact z
 ·obtain⟨_,_,_,_,_,_,_,_,z,_⟩:=parts e1
  have:cl.getD 0 0=S:=by rw[aG,e2];rfl
  rw[this]at z;exact z
def ZcC(X:K.In base)(q:excIn K C veM "ValueError.__new__" = ag):Cls1 base S C:=by
 unfold excIn at q;split at q
 case h_2=>cases q
 case h_1 d0 k sl lk=>
  split at q
  case h_2=>cases q
  case h_1 c0 rest s0 s1 s2 s3 made s5 em es=>
   repeat rw[aB]at q
   obtain⟨⟨⟨⟨⟨y1,y2⟩,y3⟩,y4⟩,y5⟩,y6⟩:=q;cases beq_iff_eq.mp y1;cases beq_iff_eq.mp y2;have y3:k.hasDel=ai:=by simpa using y3
   cases k;cases em;cases y3;have es:sl = #[s0,s1,s2,s3,aa (.builtin "ValueError.__new__"),s5]:=lN.mp es;cases es;exact⟨rest,_,_,_,_,_,_,_,_,_,d0,s0,s1,s2,s3,s5,_,X _ _ lk,.of_isNs (isNs_of_in X y5),nsMap_none_of_in X y5 (beq_iff_eq.mp y6),tail_of_in X y4⟩
def ZbH(X:K.In hh)(G:hh.Ns bn mg)(XB:K.In base)(h:Jf K cl=ag):Cls K mg base cl:=by
 refine⟨ZaC X G h,λc S C e0 e1=>ZcC XB ?_⟩
 have:=G6 h e1;unfold Zam at this;rw[aB]at this;exact this.1
end
end Gn
namespace Gn
open PySem PySem.Spec PyProof.Rows L2
open Ev (D Ob Zb Lc R E Sm Calls Walk Fl Fn Bop Cop Ty Bf Mf)
open Sd (CX1)
def ZaN{l:iL}{w:bG}{K:aj}{h:bJ}{mg:aZ->Option ao}{fa c Pt aL:ax}{fs:List FR}{zs:List aZ}{gs:List (aZ×Gv)}{F G:List Fn}{L:Nat}{fnL:Fn}{fdL:bP}{st:de}{N:List aZ}{as cl:List ax}{fds:List bP}
  (X:K.In h)(Gs:h.Ns bn mg)(hfa:mg "law" = aa (.ref fa))(O:OkX fs zs gs F 0 fs G)(hG:∀(i:Nat)(fn:Fn),G[i]? = aa fn->F[i]? = aa fn)(A:FnsAt K fs as fds)(Z:ZsAt K zs)(Y:GsAt K gs)(Er:Jf K cl=ag)
  (AL:FnsAt K [⟨"law",st,"_law_script" :: N,1⟩] [aL] [fdL])(hFL:F[L]? = aa fnL)(h1:fnL.ns=N.length+1)(h2:fnL.ps=1)(hsc:scB ("_law_script" :: N) 1 (Zf st)=ag)(B:BdL fs zs gs F ⟨"law",st,"_law_script" :: N,1⟩ fnL)(hcode:fdL.code=.ref c) :
  ∃fd:bP,(∀(s:aw)(v:ao),ka s fd ⟨[v],[]⟩ [("_law_script",v)])/\∀base:bJ,K.In base->base.Ns bn mg->cy base c Pt->base.BuiltinsAt mg Pt->bn≠Pt->FnOk l.prog w K mg base (CX1 l.prog w) 65 fa fd ["_law_script"] (spL Pt K cl (Ev.Zt F 63) L):=by
 have T:Top K mg fs zs gs (λi=>as.getD i 0) (λi=>fds.getD i fdL):=
  ⟨λi r e=>(A.get i r e).2.1,λi r e=>by
   obtain⟨_,F,B⟩:=A.get (fd0:=fdL) i r e;exact F.binds B,λi r e=>g8 X Gs (A.get (fd0:=fdL) i r e).1,λx hx=>PySem.W.mg_none_of X Gs (Z.get x hx),λy hy=>Y.get X Gs y hy⟩
 obtain⟨hn,Fu,Bn⟩:=AL.get (fd0:=fdL) 0 _ rfl;have e:=hfa.symm.trans (g8 X Gs hn);cases e;have S:=VP hsc;refine⟨fdL,λs v=>?_,λbase XB GB hC hB hP=>?_⟩
 ·obtain⟨oc,od,kV,doc,pm,an,cdv,ct,osl,e,lk,hcd⟩:=Fu.ex
  have e:fdL=_:=e;rw[e];exact .of_eq (Bn kV doc pm an cdv ct [v] rfl)
 ·have Lc:=ZbH X Gs XB Er
  exact qw (k:=64) (d:=62) (N:="_law_script" :: N) hFL h1 h2 Fu S hcode λA outer s H E hp hr=>(B l.prog w K mg base cl _ _ _ c Pt 62 T Lc (xy O hG T Lc 62) S.nd hC hB hP A outer s H E hp hr (Sd.hu7 hr)).h
theorem j6{l:iL}{q:bq}{loose:List aZ}{XP:(aZ->Option ao)->bJ->Prop}{YP:bG->bJ->Prop}{d:mM}{K:Params->aj}{F:List Fn}{L:Nat}{c Pt:ax}{dr:mM}{cl:bG->List ax}(hok:∀ns:List Int,∃S,Ev.Zt F 63 L [.loc 0] [.scr ns]=.ok (.bl ag) S)(hn:l.most=aa 63)(hdf:d.params.defaults=[])
  (hY:∀(w:bG)(h:bJ),YP w h->(K w.params).In h)(hrec:(recsOf q).find? (λe=>e.name == d.name)=aa dr)(ht:∀w:bG,mG (K w.params) d.name=aa (c,Pt))(hK:∀w:bG,i7 (K w.params)=ag)
  (hF:∀(w:bG)(mg:aZ->Option ao)(fa:ax)(h:bJ),(K w.params).In h->h.Ns bn mg->mg d.name=aa (.ref fa)->
   ∃fd:bP,(∀(s:aw)(u:ao),ka s fd ⟨[u],[]⟩ [("_law_script",u)])/\∀base:bJ,(K w.params).In base->base.Ns bn mg->cy base c Pt->base.BuiltinsAt mg Pt->bn≠Pt->FnOk l.prog w (K w.params) mg base (CX1 l.prog w) 65 fa fd ["_law_script"] (spL Pt (K w.params) (cl w) (Ev.Zt F 63) L)) :
  mH q loose XP YP l.row.toRowW d [] (λf vs=>mo f vs):=
 Sd.j6 (n:=63) (k:=65) (x:="_law_script") (CX:=λw=>CX1 l.prog w) (sp:=λw Pt=>spL Pt (K w.params) (cl w) (Ev.Zt F 63) L) hn (by decide) hdf ⟨rfl,by decide,by decide⟩ hY hrec ht hK hF (λw H a ns hl hO hS=>ZaJ hO hS (hok ns)) λ_ _ _ _ _ ⟨_,_,_,_,_,_,_,_,_,_,_,_,_,_,z⟩=>z
end Gn
namespace Sd
open PySem PySem.Spec PyProof.Rows L2
open Ev (D Ob Zb Lc R E Sm Calls Walk Fl Fn Bop Cop Ty Bf Mf ev evs evo evt evw tst run runs)
section
variable{X:Cx}{xw:Nat->Hp->Prop}{C:Calls}
def uh :CE X xw C (.Dict [aa (.Constant (.int i) a p1)] [.Constant (.int j) b p2] pos) (.dput1 (.c (.int i)) (.c (.int j))):=
 PE.imp (Za8 (qZ Jy Jy Zbc) rfl rfl (by simp) (by show 1<=15;omega)) λσ H Q ⟨ρ,l,S,st,lr,h⟩=>λp hp=>
  ⟨Zq,[(fG i,.int j)],rfl,by show 1<=15;omega,by
   rw[Zaq];have h:End X.K xw Rep ρ H Q (.ok (.loc S.length) (S++[.dk [(i,.int j)]])):=h;exact h (ρ++[p]) _ _ (Xl hp) (st.new (o:=.dk [(i,.int j)]) hp ⟨[(fG i,.int j)],Zq,.cons ⟨rfl,Zp j⟩ .nil⟩ (λ_ z=>by cases z)) (Wx (by rw[<-st.len];simp))⟩
end
end Sd
namespace Gn
open PySem PySem.Spec PyProof.Rows L2
open Ev (D Ob Zb Lc R E Sm Calls Walk Fl Fn Bop Cop Ty Bf Mf tst)
open Sd (CX1 spX xwE Errs Cls1 DefX LamS LamIn Vf tB3 ksum YS YR)
theorem WT :∀(l:List (aZ×dS))(acc:List (aZ×ax)),(∀y∈l,y.2=.free->(env.cells.lookup y.1).isSome=ag)->(∀x c,(x,c)∈acc->env.cells.lookup x=aa c)->
  ∃cs,(forIn l acc (λy r=>if y.2 == .free then do let a <-cellOf env y.1;cR (fS ((y.1,a)::r))else cR (fS r)):mf _)=cR cs/\(∀x c,(x,c)∈cs->env.cells.lookup x=aa c)/\(∀x c,(x,c)∈acc->(x,c)∈cs)/\∀x,(x,bu)∈l->∃c,(x,c)∈cs
 |[],acc,_,ha=>⟨acc,rfl,ha,λ_ _ h=>h,λx h=>by simp at h⟩
 |(x,k)::l,acc,hl,ha=>by
  by_cases e:k=.free
  ·subst e
   have h0:=hl (x,.free) (by simp) rfl
   obtain⟨c,hc⟩:=bI.mp h0;obtain⟨cs,e1,h1,h2,h3⟩:=WT l ((x,c)::acc) (λy hy=>hl y (by simp[hy])) (λy d hd=>by
    rcases az.mp hd with z | z
    ·cases z;exact hc
    ·exact ha y d z)
   refine⟨cs,?_,h1,λy d hd=>h2 y d (by simp[hd]),λy hy=>?_⟩
   ·rw[<-e1]
    unfold cellOf;have hc:env.cells.lookup x=aa c:=hc;simp[hc]
   ·rcases az.mp hy with z | z
    ·cases z;exact⟨c,h2 x c (by simp)⟩
    ·exact h3 y z
  ·obtain⟨cs,e1,h1,h2,h3⟩:=WT l acc (λy hy=>hl y (by simp[hy])) ha
   refine⟨cs,?_,h1,h2,λy hy=>?_⟩
   ·rw[<-e1]
    simp[e]
   ·rcases az.mp hy with z | z
    ·cases z;exact T7 rfl e
    ·exact h3 y z
def WR(hl:∀y∈scope.names,y.2=.free->(env.cells.lookup y.1).isSome=ag):∃cs,fD scope env=cR cs/\(∀x c,(x,c)∈cs->env.cells.lookup x=aa c)/\∀x,(x,bu)∈scope.names->∃c,(x,c)∈cs:=by
 obtain⟨cs,e,h1,_,h3⟩:=WT scope.names [] hl (λx c h=>by simp at h)
 refine⟨cs,?_,h1,h3⟩;rw[<-e];unfold fD;simp
theorem Ww:∀(names:List (aZ×dS))(n:Nat)(acc:List (aZ×ax)),(acc.Pairwise λx y=>x.2≠y.2)->(∀y∈acc,y.2<n)->(fB n names acc).Pairwise λx y=>x.2≠y.2
 |[],_,_,h,_=>h
 |(x,k)::r,n,acc,h,hn=>by
  unfold fB;split
  ·refine Ww r (n+1) _ (bj.mpr ⟨λy hy z=>?_,h⟩) λy hy=>?_
   ·have:=hn y hy
    exact T7 (show n=y.2 from z) (iy this)
   ·rcases az.mp hy with rfl | hy
    ·exact fE n
    ·exact dN (hn y hy)
  ·exact Ww r n acc h hn
def Yi{α:Type}{l:List (aZ×α)}{x:aZ}{a:α}(h:l.lookup x=aa a):(x,a)∈l:=cI h
def vV{l:List (aZ×ax)}(h:l.Pairwise λx y=>x.2≠y.2){x y:aZ}{c:ax}(h1:(x,c)∈l)(h2:(y,c)∈l):x=y:=by
 induction h with
 |nil=>simp at h1
 |cons hd _ ih=>
  rcases az.mp h1 with z1 | z1 <;> rcases az.mp h2 with z2 | z2
  ·exact congrArg Prod.fst (z1.trans z2.symm)
  ·rw[<-z1]at hd;exact T7 rfl (hd (y,c) z2)
  ·rw[<-z2]at hd;exact T7 rfl (hd (x,c) z1)
  ·exact ih z1 z2
def QC{l:List (aZ×ax)}{x:aZ}{c:ax}(h:(x,c)∈l):∃d,l.lookup x=aa d:=by
 induction l with
 |nil=>simp at h
 |cons p l ih=>
  obtain⟨y,d⟩:=p;rw[bC];by_cases e:x=y
  ·subst e;exact⟨d,by simp⟩
  ·rcases az.mp h with z | z
   ·cases z;exact T7 rfl e
   ·have:(x == y)=ai:=by simpa using e
    rw[this];exact ih z
noncomputable def ZdI(sc scope:c8):Bool:=
 (match scope.kind with | .function=>ag | _=>ai)&&(!scope.isCoroutine&&(!scope.isGenerator&&scope.names.all λy=>ae (y.2≠.cell)&&(ae (y.2≠.local)&&(!decide (y.2=.free)||decide (sc.names.lookup y.1=aa .cell)))))
def ZcI{X:Cx}{sc scope:c8}{n:Nat}(hs:X.env.scope=sc)(hc:X.env.cells=fB n sc.names [])(h:ZdI sc scope=ag):∃clos,fD scope X.env=cR clos/\LamIn X scope clos:=by
 unfold ZdI at h;simp only[aB,gT,T2,aU,fW,decide_eq_false_iff_not]at h;obtain⟨h1,h2,h3,h4⟩:=h;have fr:∀x,(x,bu)∈scope.names->sc.names.lookup x=aa .cell:=λx hx=>by
  rcases(h4 _ hx).2.2 with z | z
  ·exact T7 rfl z
  ·exact z
 obtain⟨cs,e,c1,c2⟩:=WR (scope:=scope) (env:=X.env) λy hy z=>by
  obtain⟨x,k⟩:=y;cases z;obtain⟨c,q⟩:=L2.UF (n:=n) (fr x hy);rw[hc,q];rfl
 have ap:=Ww sc.names n [] (by simp) (by simp)
 have lk:∀x c,cs.lookup x=aa c->X.env.cells.lookup x=aa c:=λx c q=>c1 x c (Yi q)
 refine⟨cs,e,⟨?_,h2,h3,λy hy=>(h4 y hy).1,λx v=>?_,λx q=>?_,λx y c q1 q2=>?_⟩,lk,λx q=>?_⟩
 ·cases e:scope.kind <;> rw[e]at h1 <;> first | rfl | cases h1
 ·rcases v with v | v | v
  ·exact T7 rfl (h4 _ (Yi v)).2.1
  ·exact T7 rfl (h4 _ (Yi v)).1
  ·exact v
 ·obtain⟨c,q⟩:=c2 x (Yi q)
  exact QC q
 ·have a1:=Yi (lk x c q1)
  have a2:=Yi (lk y c q2);rw[hc]at a1 a2;exact vV ap a1 a2
 ·rw[hs]
  exact fr x (Yi q)
noncomputable abbrev rN(wd:Bool):List aZ:=if wd then["_law_call","_law_error","e","_law_sorts","_law_words"]else["_law_call","_law_error","e","_law_sorts"]
noncomputable def ZcP(wd:Bool)(P:Nat->dZ):Expr:=if wd then .Constant (.str "none of these") 0 (P 24)else .UnaryOp .USub (.Constant (.int 1) 0 (P 23)) (P 24)
noncomputable def ud(wd:Bool)(P:Nat->dZ):List de:=if wd then[.Assign [.Name "_law_words" (P 34)] (.List [.Constant (.str "row") 0 (P 102),.Constant (.str "part") 0 (P 103),.Constant (.str "number") 0 (P 104),.Constant (.str "heads") 0 (P 105),.Constant (.str "not beside") 0 (P 106),.Constant (.str "not in") 0 (P 107),.Constant (.str "turn") 0 (P 108),.Constant (.str "lot") 0 (P 109),.Constant (.str "many") 0 (P 110),.Constant (.str "note") 0 (P 111)] (P 35)) (P 36),
   .Return (aa (.Subscript (.Name "_law_words" (P 37)) (.Call (.Attribute (.Name "_law_sorts" (P 27)) "index" (P 32)) [.Constant (.bool ag) 0 (P 28)] [] (P 33)) (P 38))) (P 29)]
 else[.Return (aa (.Call (.Attribute (.Name "_law_sorts" (P 27)) "index" (P 32)) [.Constant (.bool ag) 0 (P 28)] [] (P 33))) (P 29)]
def rbR(wd:Bool):TE:=if wd then tC (.str "none of these")else Sd.rbI
def fiR(K:aj)(wd:Bool):TS:=if wd then Sd.ZcR K 3 4 else Sd.ZdC K 3
noncomputable def xL(wd:Bool)(P:Nat->dZ)(sumE:Expr):List de:=
 let n:="_law_error"
 let s:="_law_sorts"
 let i:=λ(x:aZ) (k:Nat)=>Expr.Call (.Name "isinstance" (P k)) [.Name n (P (k+1)),.Name x (P (k+2))] [] (P (k+3))
 .If (.Compare (.Name n (P 0)) [.Is] [.Constant .none 0 (P 1)] (P 2)) [.Return (aa (.Constant .none 0 (P 3))) (P 4)] [] (P 5) ::
   .Assign [.Name s (P 6)] (.List [i "NoRow" 40,i "NoPart" 44,i "NoNumber" 48] (P 7)) (P 8) ::
   .Assign [.Name s (P 9)] (.BinOp (.Name s (P 10)) .Add (.List [i "NoHeads" 52,i "NotBeside" 56,i "NotIn" 60] (P 11)) (P 12)) (P 13) ::
   .Assign [.Name s (P 14)] (.BinOp (.Name s (P 15)) .Add (.List [i "NoTurn" 64,i "NoLot" 68,i "TooMany" 72] (P 16)) (P 17)) (P 18) ::
   .Expr (.Call (.Attribute (.Name s (P 19)) "append" (P 30)) [i "BadNote" 76] [] (P 31)) (P 20) ::
   .If (.BoolOp .Or [.UnaryOp .Not (i "ValueError" 80) (P 21),sumE] (P 22)) [.Return (aa (ZcP wd P)) (P 25)] [] (P 26)::ud wd P
noncomputable def xD(P:Nat->dZ):List de:=
 [.Assign [.Name "_law_error" (P 90)] (.Constant .none 0 (P 91)) (P 92),.Try [.Expr (.Call (.Name "_law_call" (P 93)) [] [] (P 94)) (P 95)] [.ExceptHandler (aa (.Name "SpaceError" (P 96))) (aa "e") [.Assign [.Name "_law_error" (P 97)] (.Name "e" (P 98)) (P 99)] (P 100)] [] [] (P 101)]
noncomputable def zt(b:List de):Expr:=match b.getD 7 (.Pass ⟨0,0,0,0⟩)with
 |.If (.BoolOp _ [_,e] _) _ _ _=>e
 |_=>.Constant .none 0 ⟨0,0,0,0⟩
noncomputable def qR(wd:Bool)(P:Nat->dZ)(sc:c8):Bool:=
 (rN wd).all (λx=>ae (sc.names.lookup x=aa .local))&&(((["isinstance","ValueError"]:List aZ)++YR).all (λx=>ae (sc.names.lookup x=aa .globalImplicit))&&((P 30).endLine == (P 31).line&&(P 32).endLine == (P 33).line))
noncomputable abbrev cxR(wd:Bool)(P:bq)(w:bG)(K:aj)(mg:aZ->Option ao)(base:bJ)(st:de)(f:ax)(cdv:ao)(A:bV)(outer:List Env)(s:aw)(H:Hp):Cx:=Wb (CX1 P w) P w K mg base (rN wd) "_law_refused" (Zf st) f cdv A outer s H E0
def uL(wd:Bool)(P:bq)(w:bG)(K:aj)(mg:aZ->Option ao)(base:bJ)(cl:List ax)(C:Calls)(d:Nat)(st:de)(f:ax):Prop:=
 ∀(cdv:ao)(A:bV)(outer:List Env)(s:aw)(H:Hp),Room (d+1) (A.deeper (cM "_law_refused" (Zf st) s.heap.objs.size f cdv))->
  PSs (cxR wd P w K mg base st f cdv A outer s H) ((ZC st).drop 2) (Vf K 1 3 cl (tB3 (cxR wd P w K mg base st f cdv A outer s H) Sd.nx (tst C (ksum 3))) (rbR wd) (fiR K wd))
section
variable{wd:Bool}{P:bq}{w:bG}{K:aj}{mg:aZ->Option ao}{base:bJ}{cl:List ax}{fs:List FR}{zs:List aZ}{gs:List (aZ×Gv)}{F:List Fn}{f:Nat->ax}{fd:Nat->bP}{d nR:Nat}{st:de}{Pp:Nat->dZ}{C:Calls}
def xJ(h:qR wd Pp sc=ag):(∀x∈rN wd,sc.names.lookup x=aa .local)/\(∀x∈(["isinstance","ValueError"]:List aZ)++YR,sc.names.lookup x=aa .globalImplicit)/\((Pp 30).endLine == (Pp 31).line)=ag/\((Pp 32).endLine == (Pp 33).line)=ag:=by
 unfold qR at h;simp only[aB,aU,T2]at h;exact⟨h.1,h.2.1,h.2.2.1,h.2.2.2⟩
def Zc4(T:Top K mg fs zs gs f fd)(L:Cls K mg base cl)(hst:(ZC st).drop 2=xL wd Pp (zt (ZC st)))(hB:qR wd Pp (Zf st)=ag)(hsc:scB (rN wd) 1 (Zf st)=ag)(hz:zs.contains "isinstance" = ag)(hz2:zs.contains "ValueError" = ag)
  (hsum:∀(cdv:ao)(A:bV)(outer:List Env)(s:aw)(H:Hp),(A.deeper (cM "_law_refused" (Zf st) s.heap.objs.size (f nR) cdv)).units+7<d8->Bx (Sd.CT (cxR wd P w K mg base st (f nR) cdv A outer s H) Sd.nx C (zt (ZC st)) (ksum 3))) :
  uL wd P w K mg base cl C d st (f nR):=by
 intro cdv A outer s H hr;obtain⟨b1,b2,b3,b4⟩:=xJ hB;rw[hst];have gl:∀x,x∈(["isinstance","ValueError"]:List aZ)++YR->Gl (cxR wd P w K mg base st (f nR) cdv A outer s H) x:=λx hx=>b2 x hx
 have nd:=(VP hsc).nd;have hs:=(hsum cdv A outer s H (Sd.hu7 hr)).h;have hl:Sd.BSs (cxR wd P w K mg base st (f nR) cdv A outer s H) (ud wd Pp) (fiR K wd):=by
  cases wd with|false=>exact⟨Sd.ZdP (J:=λ_=>0) (xs:="_law_sorts") rfl (b1 _ (by simp[rN])) rfl rfl b4⟩|true=>exact Sd.Zd5 (iw:=4) (xs:="_law_sorts") (xw:="_law_words") nd rfl (b1 _ (by simp[rN])) rfl rfl rfl (b1 _ (by simp[rN])) rfl rfl b4
 have hb:PE (cxR wd P w K mg base st (f nR) cdv A outer s H) (ZcP wd Pp) (rbR wd):=by
  cases wd with|false=>exact Sd.ZeD (J:=λ_=>0)|true=>exact JN
 have hir:(rN wd)[1]? = aa ("_law_error" : aZ):=by cases wd <;> rfl
 have his:(rN wd)[3]? = aa ("_law_sorts" : aZ):=by cases wd <;> rfl
 have mem:∀x∈[("_law_error" : aZ),"_law_sorts"],x∈rN wd:=by cases wd <;> simp[rN]
 exact Sd.Zar (X:=cxR wd P w K mg base st (f nR) cdv A outer s H) (cl:=cl) (ir:=1) (is:=3) (J:=λ_=>0) (P:=Pp) (sumE:=zt (ZC st)) (badE:=ZcP wd Pp) (last:=ud wd Pp) (rb:=rbR wd) (fi:=fiR K wd) L.er nd hir (b1 _ (mem _ (by simp))) his (b1 _ (mem _ (by simp))) (gl _ (by simp)) (T.no hz) (gl _ (by simp)) (T.no hz2) (λx hx=>gl x (by simp[hx])) rfl rfl rfl rfl hs b3 hb hl.h
def Zc1(he:e<10)(v:σ'[3]? = aa (aa (.ref q)))(hl:σ'.length=(rN wd).length)(h:H' q=aa (.lst ((Ev.Zw e).map .bl)))(st:Sd.St3 K ρ' (S++Ev.junk e) H')(k:∀ρ2 H2,Sd.Fut ρ' H' ρ2 H2->Sd.St3 K ρ2 (S++Ev.Q9 wd e) H2->Dn.rt (Sd.vR wd e) H2):fiR K wd Dn σ' H':=by
 cases wd with|false=>exact Sd.ZbT he v h (k ρ' H' (Sd.Fut.refl _ _) st)|true=>exact Sd.ZbC he v (by rw[hl];decide) (by decide) h st k
def ZdX{X:Cx}{E:XK}{sc:c8}{n:Nat}{c Pt:ax}{i:Ev.E}{xw:Nat->Hp->Prop}{body:Expr}{scope:c8}{lp p pos:dZ}
  (D:DefX X E)(hr:Room (d+2) X.A)(T:Top X.K X.mg fs zs gs f fd)(L:Cls X.K X.mg X.base cl)(RA:uL wd X.prog X.w X.K X.mg X.base cl C d st (f nR))(hx:fs[nR]? = aa ⟨"_law_refused",st,rN wd,1⟩)
  (hst:(ZC st).take 2=xD Pp)(hB:qR wd Pp (Zf st)=ag)(hsc:scB (rN wd) 1 (Zf st)=ag)
  (hP:∃ps,X.H₀ Pt=aa (.tbl ps))(CH:cy X.base c Pt)(hBi:X.base.BuiltinsAt X.mg Pt)(hgP:bn≠Pt)
  (hfn:X.fn=λ_=>ag)(hcode:X.env.code=.ref c)(hs:X.env.scope=sc)(hc:X.env.cells=fB n sc.names [])(hq:X.env.qual++"<lambda>" = YS)(hl:ZdI sc scope=ag)(hg:Gl X "_law_refused")
  (hbody:∀(g:ax)(c':ax)(clos:List (aZ×ax))(A:bV)(outer:List Env)(s:aw)(H:Hp)(E1:XK),LamS scope clos->Room d (A.deeper (dO YS scope s.heap.objs.size g (.ref c') clos))->(A.deeper (dO YS scope s.heap.objs.size g (.ref c') clos)).units+7<d8->Bx (Sd.CE (Sd.cxL X.prog X.w X.K X.mg X.base X.N scope g (.ref c') clos A outer s H E1) (xwE cl E1) C body i)) :
  Bx (Sd.CE X xw C (.Call (.Name "_law_refused" p) [.Lambda ⟨[],[],ac,[],[],ac,[]⟩ body scope lp] [] pos) (.refu wd i)):=by
 obtain⟨b1,b2,b3,b4⟩:=xJ hB;obtain⟨clos,hcl,LI⟩:=ZcI hs hc hl;have hl0:0<cl.length:=by rw[L.er.len];decide
 have h0:cl[0]? = aa cl[0]:=ah hl0;have hst:ZC st=xD Pp++(ZC st).drop 2:=by rw[<-hst,List.take_append_drop]
 have hic:(rN wd)[0]? = aa ("_law_call" : aZ):=by cases wd <;> rfl
 have hie:(rN wd)[2]? = aa ("e" : aZ):=by cases wd <;> rfl
 have hir:(rN wd)[1]? = aa ("_law_error" : aZ):=by cases wd <;> rfl
 have hil:3<(rN wd).length:=by cases wd <;> decide
 have mem:∀x∈[("_law_call" : aZ),"_law_error","e"],x∈rN wd:=by cases wd <;> simp[rN]
 have pr:(⟨"_law_refused",st,rN wd,1⟩:FR).ps=[("_law_call" : aZ)]:=by cases wd <;> rfl
 have hbn:=T.b nR _ hx;rw[pr]at hbn;have hsc1:=VP hsc;have tk:(rN wd).take 1=[("_law_call" : aZ)]:=by cases wd <;> rfl
 rw[tk]at hsc1;exact⟨Sd.Za7 (wd:=wd) (rb:=rbR wd) (fi:=fiR X.K wd) (k:=d) (ic:=0) (ie:=2) (ir:=1) (is:=3) (Nr:=rN wd) (xc:="_law_call") (xr:="_law_error") (n:="e") (xS:="SpaceError") (ts:=λY=>tB3 Y Sd.nx (tst C (ksum 3))) (fd:=fd nR) D (λx=>by rw[hfn]) hr L.er h0 hP hcode CH hBi hgP hq hcl rfl LI (λpm c' ctv=>rfl)
  (λg c' A outer s H E1 hr=>(hbody g c' clos A outer s H E1 LI.S hr (Sd.hu7 hr)).h) hg (T.m nR _ hx) (T.d nR _ hx).kp (T.d nR _ hx) hsc1 hbn rfl rfl rfl hst (VP hsc).nd hic rfl hie hir hil (by decide) (by decide) (by decide)
  (b1 _ (mem _ (by simp))) (b1 _ (mem _ (by simp))) (b1 _ (mem _ (by simp))) (λ_ _ _=>b2 _ (by simp[YR])) (L.er.nm 0 _ _ h0 rfl) rfl rfl rfl rfl rfl (λ_ _ _=>rfl) (λ_ _ _=>rfl) (λ_ _ _=>rfl) RA
  (λY ρ S e σ' H' q Q' hK he h1 _ st' hQ=>Sd.Zcu he h1 (hK▸st') (λρ2 H2 f2 s2=>hQ ρ2 H2 f2 (hK▸s2)))
  (λDn σ' ρ' H' S e q he v hl h st k=>Zc1 he v hl h st k)⟩
end
section
variable{X:Cx}{xw:Nat->Hp->Prop}{C:Calls}{e:Expr}{i:Ev.E}{es:List Expr}{is:List Ev.E}{p:dZ}{m j:Nat}{y:aZ}
def Zdc{s0:de}{i j:Nat}(h:Bx (Sd.CS X xw C s0 (.asg [i] (.v j)))):Bx (Sd.CS X xw C s0 (.mov i j)):=⟨Sd.PS.imp h.h λD σ H ⟨ρ,l,S,st,lr,h⟩=>⟨ρ,l,S,st,lr,h⟩⟩
theorem Go:Bx (Sd.CE X xw C (.Dict [] [] p) .dnew):=⟨Sd.Go⟩
theorem uh{i j:Int}{a b:Nat}{p1 p2 pos:dZ}:Bx (Sd.CE X xw C (.Dict [aa (.Constant (.int i) a p1)] [.Constant (.int j) b p2] pos) (.dput1 (.c (.int i)) (.c (.int j)))):=⟨Sd.uh⟩
end
def qY :BdX fs zs gs F i r ⟨a,b,[.asg [] (.c .non)]⟩:=λP w K mg base cl f fd d T L h hn cdv A outer s H E hr hu=>
 ⟨λpq s σ H D I ⟨ρ,l,S,st,lr,h⟩=>False.elim h⟩
def Zee(wd:Bool)(fs:List FR)(zs:List aZ)(gs:List (aZ×Gv))(F:List Fn)(nR:Nat)(st:de):Prop:=
 ∀(P:bq)(w:bG)(K:aj)(mg:aZ->Option ao)(base:bJ)(f:Nat->ax)(fd:Nat->bP)(d:Nat),Top K mg fs zs gs f fd->(rN wd).Nodup->∀(cdv:ao)(A:bV)(outer:List Env)(s:aw)(H:Hp),(A.deeper (cM "_law_refused" (Zf st) s.heap.objs.size (f nR) cdv)).units+7<d8->Bx (Sd.CT (cxR wd P w K mg base st (f nR) cdv A outer s H) Sd.nx (Ev.Zt F d) (zt (ZC st)) (ksum 3))
def BdR(wd:Bool)(fs:List FR)(zs:List aZ)(gs:List (aZ×Gv))(F:List Fn)(nR:Nat)(st:de)(r:FR)(fn:Fn):Prop:=
 ∀(P:bq)(w:bG)(K:aj)(mg:aZ->Option ao)(base:bJ)(cl:List ax)(f:Nat->ax)(fd:Nat->bP)(fL c Pt:ax)(d:Nat),Top K mg fs zs gs f fd->Cls K mg base cl->vU P w K mg base cl fs F f fd d->uL wd P w K mg base cl (Ev.Zt F d) d st (f nR)->r.N.Nodup->
  cy base c Pt->base.BuiltinsAt mg Pt->bn≠Pt->
  ∀(A:bV)(outer:List Env)(s:aw)(H:Hp)(E:XK),(∃ps,H Pt=aa (.tbl ps))->Room (d+2) (A.deeper (cM r.x (Zf r.st) s.heap.objs.size fL (.ref c)))->Room d (A.deeper (cM r.x (Zf r.st) s.heap.objs.size fL (.ref c)))->(A.deeper (cM r.x (Zf r.st) s.heap.objs.size fL (.ref c))).units+7<d8->
   Bx (Sd.CSs (Wb (CX1 P w) P w K mg base r.N r.x (Zf r.st) fL (.ref c) A outer s H E) (xwE cl E) (Ev.Zt F d) (ZC r.st) fn.body)
def Zcw{wd:Bool}{fs:List FR}{zs:List aZ}{gs:List (aZ×Gv)}{F:List Fn}{nR:Nat}{st:de}{r:FR}{fn:Fn}{Pp:Nat->dZ}(S:Zee wd fs zs gs F nR st)(B:BdR wd fs zs gs F nR st r fn)(hst:(ZC st).drop 2=xL wd Pp (zt (ZC st)))(hB:qR wd Pp (Zf st)=ag)(hsc:scB (rN wd) 1 (Zf st)=ag)(hz:zs.contains "isinstance" = ag)(hz2:zs.contains "ValueError" = ag):BdL fs zs gs F r fn:=
 λP w K mg base cl f fd fL c Pt d T L h hn hC hBi hP A outer s H E hp hr hu=>
  B P w K mg base cl f fd fL c Pt d T L h (Zc4 T L hst hB hsc hz hz2 (S P w K mg base f fd d T (VP hsc).nd)) hn hC hBi hP A outer s H E hp hr (hr.mono (by omega)) hu
end Gn
namespace K41
open Ev
noncomputable def UH:Fn:=⟨2,2,
 [.ite (.cmp .lt (.v 1) (.blt .len [(.v 0)])) [.ret (.ix (.v 0) (.v 1))] [],
  .ret (.c (.int 0))]⟩
noncomputable def JK:Fn:=⟨2,3,
 [.asg [2] (.call 0 [(.v 0),(.v 1)]),
  .ite (.cmp .ge (.v 2) (.bin .pow (.c (.int 10)) (.c (.int 18)))) [.ret (.lst [(.bin .sub (.v 2) (.bin .pow (.c (.int 10)) (.c (.int 18)))),(.c (.bl ag))])] [],
  .ret (.lst [(.bin .mod (.v 2) (.c (.int 2147483647))),(.c (.bl ai))])]⟩
noncomputable def zC:Fn:=⟨2,4,
 [.ite (.ix (.v 0) (.c (.int 1))) [.asg [2] (.bin .mod (.ix (.v 0) (.c (.int 0))) (.v 1)),
  .put (.v 0) (.c (.int 0)) (.bin .fdiv (.ix (.v 0) (.c (.int 0))) (.v 1)),
  .ret (.v 2)] [],
  .put (.v 0) (.c (.int 0)) (.bin .mod (.bin .add (.bin .mul (.ix (.v 0) (.c (.int 0))) (.c (.int 48271))) (.c (.int 29))) (.c (.int 2147483647))),
  .asg [3] (.bin .mod (.bin .add (.bin .add (.bin .mul (.ix (.v 0) (.c (.int 0))) (.ix (.v 0) (.c (.int 0)))) (.bin .mul (.c (.int 39373)) (.ix (.v 0) (.c (.int 0))))) (.c (.int 7))) (.c (.int 2147483629))),
  .asg [3] (.bin .mod (.bin .add (.bin .mul (.v 3) (.v 3)) (.bin .mul (.c (.int 16807)) (.v 3))) (.c (.int 2147483587))),
  .ret (.bin .mod (.bin .fdiv (.v 3) (.c (.int 8))) (.v 1))]⟩
noncomputable def Vd:Fn:=⟨2,3,
 [.asg [2] (.lst [(.tup [(.c (.int 2)),(.tup [(.c (.int 2)),(.c (.int 1))])]),(.tup [(.c (.int 4)),(.tup [(.c (.int 2)),(.c (.int 2))])]),(.tup [(.c (.int 8)),(.tup [(.c (.int 2)),(.c (.int 3))])]),(.tup [(.c (.int 16)),(.tup [(.c (.int 2)),(.c (.int 4))])]),(.tup [(.c (.int 32)),(.tup [(.c (.int 2)),(.c (.int 5))])]),(.tup [(.c (.int 64)),(.tup [(.c (.int 2)),(.c (.int 6))])]),(.tup [(.c (.int 3)),(.tup [(.c (.int 3)),(.c (.int 1))])]),(.tup [(.c (.int 9)),(.tup [(.c (.int 3)),(.c (.int 2))])])]),
  .asg [2] (.bin .add (.v 2) (.lst [(.tup [(.c (.int 27)),(.tup [(.c (.int 3)),(.c (.int 3))])]),(.tup [(.c (.int 81)),(.tup [(.c (.int 3)),(.c (.int 4))])]),(.tup [(.c (.int 5)),(.tup [(.c (.int 5)),(.c (.int 1))])]),(.tup [(.c (.int 25)),(.tup [(.c (.int 5)),(.c (.int 2))])]),(.tup [(.c (.int 125)),(.tup [(.c (.int 5)),(.c (.int 3))])])])),
  .asg [2] (.comp1 [1] 2 [0,1] (.of (.v 2)) [(.cmp .le (.v 0) (.v 2))] (.v 1)),
  .ret (.ix (.v 2) (.call 2 [(.v 0),(.blt .len [(.v 2)])]))]⟩
noncomputable def Ua:Fn:=⟨4,4,
 [.ret (.blt .tuple [(.comp1 [3,0] 2 [0,1] (.zip (.v 1) (.v 2)) [] (.bin .mod (.bin .add (.v 0) (.bin .mul (.v 2) (.v 1))) (.ix (.v 3) (.c (.int 0)))))])]⟩
noncomputable def Wm:Fn:=⟨2,8,
 [.asg [2] (.blt .list [(.v 1)]),
  .asg [3] (.lst []),
  .forr [4] (.rng1 (.ix (.v 0) (.c (.int 1)))) [.asg [5] (.comp1 [4] 1 [0] (.of (.v 2)) [(.cmp .ne (.ix (.v 0) (.v 1)) (.c (.int 0)))] (.v 0)),
  .ite (.cmp .ne (.v 5) (.lst [])) [.asg [6] (.ix (.comp1 [5,4,0] 1 [0] (.rng1 (.ix (.v 0) (.c (.int 0)))) [(.cmp .eq (.bin .mod (.bin .mul (.v 0) (.ix (.ix (.v 1) (.c (.int 0))) (.v 2))) (.ix (.v 3) (.c (.int 0)))) (.c (.int 1)))] (.v 0)) (.c (.int 0))),
  .asg [7] (.blt .tuple [(.comp1 [6,0] 1 [0] (.of (.ix (.v 5) (.c (.int 0)))) [] (.bin .mod (.bin .mul (.v 1) (.v 0)) (.ix (.v 2) (.c (.int 0)))))]),
  .asg [2] (.comp1 [0,7,4] 1 [0] (.of (.v 2)) [] (.call 4 [(.v 1),(.v 0),(.v 2),(.neg (.ix (.v 0) (.v 3)))])),
  .asg [3] (.bin .add (.comp1 [0,7,4] 1 [0] (.of (.v 3)) [] (.call 4 [(.v 1),(.v 0),(.v 2),(.neg (.ix (.v 0) (.v 3)))])) (.lst [(.v 7)]))] []],
  .ret (.blt .tuple [(.v 3)])]⟩
noncomputable def WO:Fn:=⟨2,2,
 [.ret (.blt .tuple [(.comp1 [0,1] 1 [0] (.rng1 (.ix (.v 1) (.c (.int 1)))) [] (.call 2 [(.v 1),(.ix (.v 2) (.c (.int 0)))]))])]⟩
noncomputable def V7:Fn:=⟨2,3,
 [.asg [2] (.call 2 [(.v 0),(.bin .add (.ix (.v 1) (.c (.int 1))) (.c (.int 1)))]),
  .ret (.call 5 [(.v 1),(.comp1 [0,1] 1 [0] (.rng1 (.v 2)) [] (.call 6 [(.v 1),(.v 2)]))])]⟩
noncomputable def QR:Fn:=⟨1,3,
 [.forr [1,2] (.enum (.v 0)) [.ite (.cmp .ne (.v 2) (.c (.int 0))) [.ret (.v 1)] []],
  .ret (.c .non)]⟩
noncomputable def Wp:Fn:=⟨1,1,
 [.ret (.blt .all [(.comp1 [] 2 [0,1] (.zip (.v 0) (.sl (.v 0) (aa (.c (.int 1))) ac)) [] (.cmp .lt (.v 0) (.v 1)))])]⟩
noncomputable def X0:Fn:=⟨2,2,
 [.ret (.blt .all [(.comp1 [1] 1 [0] (.of (.v 0)) [] (.cmp .eq (.ix (.v 0) (.v 1)) (.c (.int 0))))])]⟩
noncomputable def Yr:Fn:=⟨3,3,
 [.ret (.and (.cmp .eq (.ix (.ix (.v 0) (.v 1)) (.v 2)) (.c (.int 1))) (.call 10 [(.bin .add (.sl (.v 0) ac (aa (.v 1))) (.sl (.v 0) (aa (.bin .add (.v 1) (.c (.int 1)))) ac)),(.v 2)]))]⟩
noncomputable def YB:Fn:=⟨3,3,
 [.ret (.and (.isi (.v 0) [.int]) (.and (.not (.isi (.v 0) [.bool])) (.chain .le .le (.v 1) (.v 0) (.v 2))))]⟩
noncomputable def W9:Fn:=⟨2,4,
 [.asg [2,3] (.v 0),
  .ite (.or (.not (.isi (.v 1) [.tuple])) (.cmp .ne (.blt .len [(.v 1)]) (.v 3))) [.ret (.c (.bl ai))] [],
  .ret (.blt .all [(.comp1 [2] 1 [0] (.of (.v 1)) [] (.call 12 [(.v 0),(.c (.int 0)),(.bin .sub (.v 1) (.c (.int 1)))]))])]⟩
noncomputable def WC:Fn:=⟨2,3,
 [.ite (.or (.not (.isi (.v 1) [.tuple])) (.not (.blt .all [(.comp1 [0] 1 [0] (.of (.v 1)) [] (.call 13 [(.v 1),(.v 0)]))]))) [.ret (.c (.bl ai))] [],
  .asg [2] (.comp1 [] 1 [0] (.of (.v 1)) [] (.call 8 [(.v 0)])),
  .ite (.or (.cmp .inn (.c .non) (.v 2)) (.not (.call 9 [(.v 2)]))) [.ret (.c (.bl ai))] [],
  .ret (.blt .all [(.comp1 [1] 2 [0,1] (.enum (.v 2)) [] (.call 11 [(.v 2),(.v 0),(.v 1)]))])]⟩
noncomputable def YM:Fn:=⟨2,2,
 [.ite (.not (.call 14 [(.v 0),(.v 1)])) [.raise 2 []] []]⟩
noncomputable def X3:Fn:=⟨4,4,
 [.ret (.blt .tuple [(.comp1 [3,0] 2 [0,1] (.zip (.v 1) (.v 2)) [] (.bin .mod (.bin .add (.v 0) (.bin .mul (.v 2) (.v 1))) (.v 3)))])]⟩
noncomputable def VR:Fn:=⟨4,4,
 [.ret (.call 16 [(.v 0),(.v 1),(.v 2),(.neg (.ix (.v 1) (.v 3)))])]⟩
noncomputable def Ud:Fn:=⟨3,7,
 [.asg [3,4] (.v 0),
  .asg [5] (.v 2),
  .forr [6] (.of (.v 1)) [.asg [5] (.call 17 [(.v 3),(.v 5),(.v 6),(.call 8 [(.v 6)])])],
  .ret (.v 5)]⟩
noncomputable def Jz:Fn:=⟨3,3,
 [.ret (.blt .tuple [(.comp1 [2,0] 1 [0] (.of (.v 1)) [] (.bin .mod (.bin .mul (.v 1) (.v 0)) (.v 2)))])]⟩
noncomputable def Q8:Fn:=⟨2,3,
 [.asg [2] (.c (.int 1)),
  .whl (.cmp .ne (.bin .mod (.bin .mul (.v 2) (.v 1)) (.v 0)) (.c (.int 1))) [.aug 2 .add (.c (.int 1))],
  .ret (.v 2)]⟩
noncomputable def Jj:Fn:=⟨3,9,
 [.asg [3,4] (.v 0),
  .asg [5] (.call 18 [(.v 0),(.v 1),(.v 2)]),
  .asg [6] (.call 8 [(.v 5)]),
  .ite (.cmp .is (.v 6) (.c .non)) [.ret (.v 1)] [],
  .asg [7] (.call 19 [(.v 3),(.v 5),(.call 20 [(.v 3),(.ix (.v 5) (.v 6))])]),
  .asg [8] (.comp1 [3,7,6] 1 [0] (.of (.v 1)) [] (.call 17 [(.v 1),(.v 0),(.v 2),(.v 3)])),
  .ret (.blt .tuple [(.blt .sortedR [(.bin .add (.v 8) (.lst [(.v 7)]))])])]⟩
noncomputable def XJ:Fn:=⟨3,5,
 [.asg [3] (.v 1),
  .forr [4] (.of (.v 2)) [.asg [3] (.call 21 [(.v 0),(.v 3),(.v 4)])],
  .ret (.v 3)]⟩
noncomputable def WQ:Fn:=⟨2,2,
 [.ite (.not (.call 13 [(.v 0),(.v 1)])) [.raise 1 []] []]⟩
noncomputable def Q6:Fn:=⟨2,3,
 [.ite (.not (.isi (.v 1) [.tuple,.list])) [.raise 1 []] [],
  .forr [2] (.of (.v 1)) [.ex (.call 23 [(.v 0),(.v 2)])],
  .ret (.call 22 [(.v 0),(.tup []),(.v 1)])]⟩
noncomputable def WN:Fn:=⟨3,7,
 [.asg [3,4] (.v 0),
  .asg [5] (.bin .mul (.lst [(.c (.int 0))]) (.v 4)),
  .put (.v 5) (.v 2) (.c (.int 1)),
  .forr [6] (.of (.v 1)) [.put (.v 5) (.call 8 [(.v 6)]) (.bin .mod (.neg (.ix (.v 6) (.v 2))) (.v 3))],
  .ret (.blt .tuple [(.v 5)])]⟩
noncomputable def XI:Fn:=⟨2,6,
 [.ex (.call 15 [(.v 0),(.v 1)]),
  .asg [2,3] (.v 0),
  .asg [4] (.comp1 [] 1 [0] (.of (.v 1)) [] (.call 8 [(.v 0)])),
  .asg [5] (.comp1 [4] 1 [0] (.rng1 (.v 3)) [(.cmp .nin (.v 0) (.v 1))] (.v 0)),
  .ret (.call 24 [(.v 0),(.comp1 [0,1] 1 [0] (.of (.v 5)) [] (.call 25 [(.v 1),(.v 2),(.v 0)]))])]⟩
noncomputable def Xm:Fn:=⟨1,5,
 [.asg [1] (.lst [(.tup [])]),
  .forr [2] (.rng1 (.ix (.v 0) (.c (.int 1)))) [.asg [3] (.lst []),
  .forr [4] (.of (.v 1)) [.ex (.mt .extend (.v 3) [(.comp1 [4] 1 [0] (.rng1 (.ix (.v 0) (.c (.int 0)))) [] (.bin .add (.v 1) (.tup [(.v 0)])))])],
  .mov 1 3],
  .ret (.v 1)]⟩
noncomputable def Ys:Fn:=⟨2,5,
 [.asg [2] (.lst []),
  .forr [3] (.of (.call 27 [(.v 0)])) [.asg [4] (.comp1 [3,0] 1 [0] (.of (.v 1)) [] (.bin .mod (.blt .sum [(.comp1 [] 2 [0,1] (.zip (.v 1) (.v 0)) [] (.bin .mul (.v 0) (.v 1)))]) (.ix (.v 2) (.c (.int 0))))),
  .ite (.not (.blt .any [(.v 4)])) [.ex (.mt .append (.v 2) [(.v 3)])] []],
  .ret (.v 2)]⟩
noncomputable def ZR:Fn:=⟨3,11,
 [.ite (.cmp .eq (.v 2) (.tup [])) [.ret (.ix (.lst [(.lst []),(.c .non),(.tup [(.tup [])]),(.tup [(.bin .mul (.tup [(.c (.int 0))]) (.ix (.v 1) (.c (.int 1))))]),(.tup [(.bin .mul (.tup [(.c (.int 1))]) (.bin .add (.ix (.v 1) (.c (.int 1))) (.c (.int 1))))]),.dnew,(.c (.str (bh "none")))]) (.call 2 [(.v 0),(.c (.int 7))]))] [],
  .asg [3] (.call 2 [(.v 0),(.blt .len [(.v 2)])]),
  .asg [4] (.ix (.v 2) (.v 3)),
  .asg [5] (.call 2 [(.v 0),(.ix (.v 1) (.c (.int 1)))]),
  .asg [6] (.ix (.lst [(.c (.int 0)),(.c (.int 1)),(.ix (.v 1) (.c (.int 0))),(.bin .sub (.ix (.v 1) (.c (.int 0))) (.c (.int 1))),(.neg (.c (.int 1))),(.c (.bl ag)),(.c .non),(.c (.str (bh "1"))),(.tup [(.c (.int 1))]),(.bin .pow (.c (.int 10)) (.c (.int 29)))]) (.call 2 [(.v 0),(.c (.int 10))])),
  .asg [7] (.lst [(.bin .add (.bin .add (.sl (.v 4) ac (aa (.v 5))) (.tup [(.v 6)])) (.sl (.v 4) (aa (.bin .add (.v 5) (.c (.int 1)))) ac)),(.bin .add (.bin .add (.sl (.v 4) ac (aa (.v 5))) (.tup [(.v 6)])) (.sl (.v 4) (aa (.v 5)) ac)),(.bin .add (.sl (.v 4) ac (aa (.v 5))) (.sl (.v 4) (aa (.bin .add (.v 5) (.c (.int 1)))) ac)),(.blt .list [(.v 4)]),(.c .non)]),
  .asg [7] (.bin .add (.v 7) (.lst [(.blt .tuple [(.comp1 [1] 1 [0] (.of (.v 4)) [] (.bin .mod (.bin .mul (.c (.int 2)) (.v 0)) (.ix (.v 1) (.c (.int 0)))))]),(.bin .mul (.tup [(.c (.int 0))]) (.ix (.v 1) (.c (.int 1)))),(.call 6 [(.v 0),(.v 1)])])),
  .asg [8] (.ix (.v 7) (.ix (.lst [(.c (.int 0)),(.c (.int 0)),(.c (.int 0)),(.c (.int 0)),(.c (.int 1)),(.c (.int 2)),(.c (.int 3)),(.c (.int 4)),(.c (.int 5)),(.c (.int 6)),(.c (.int 7))]) (.call 2 [(.v 0),(.c (.int 11))]))),
  .asg [9] (.call 2 [(.v 0),(.c (.int 8))]),
  .ite (.cmp .lt (.v 9) (.c (.int 4))) [.ret (.bin .add (.bin .add (.sl (.v 2) ac (aa (.v 3))) (.tup [(.v 8)])) (.sl (.v 2) (aa (.bin .add (.v 3) (.c (.int 1)))) ac))] [],
  .ite (.cmp .lt (.v 9) (.c (.int 6))) [.ret (.bin .add (.bin .add (.sl (.v 2) ac (aa (.v 3))) (.tup [(.v 8)])) (.sl (.v 2) (aa (.v 3)) ac))] [],
  .asg [10] (.lst [(.bin .add (.sl (.v 2) ac (aa (.v 3))) (.sl (.v 2) (aa (.bin .add (.v 3) (.c (.int 1)))) ac)),(.rev (.v 2)),(.blt .list [(.v 2)]),(.tup [(.v 2)]),(.bin .add (.v 2) (.sl (.v 2) (aa (.neg (.c (.int 1)))) ac)),(.bin .add (.sl (.v 2) (aa (.v 3)) ac) (.sl (.v 2) ac (aa (.v 3))))]),
  .ret (.ix (.v 10) (.call 2 [(.v 0),(.c (.int 6))]))]⟩
noncomputable def XX:Fn:=⟨1,2,
 [.asg [1] (.lst [(.c .non),(.c (.bl ag)),(.c (.bl ai)),(.neg (.c (.int 1))),(.c (.int 0)),(.c (.int 1)),(.c (.str (bh ""))),(.c (.str (bh "1"))),(.tup []),(.lst []),(.tup [(.tup [])]),(.tup [(.tup [(.c (.int 0))])]),(.tup [(.tup [(.c (.int 1))])]),(.lst [(.tup [(.c (.int 1))])]),(.dput1 (.c (.int 0)) (.c (.int 1))),(.tup [(.c .non)]),(.bin .pow (.c (.int 10)) (.c (.int 29)))]),
  .ret (.ix (.bin .add (.v 1) (.lst [(.tup [(.tup [(.c (.int 1)),(.c (.int 0))]),(.tup [(.c (.int 0)),(.c (.int 1))])]),(.tup [(.tup [(.c (.bl ag))])]),(.tup [(.tup [(.tup [(.c (.int 1))])])])])) (.call 2 [(.v 0),(.c (.int 20))]))]⟩
noncomputable def Yb:Fn:=⟨2,2,
 [.ite (.isi (.v 1) [.tuple,.list]) [.ite (.or (.cmp .ne (.isi (.v 0) [.tuple]) (.isi (.v 1) [.tuple])) (.cmp .ne (.isi (.v 0) [.list]) (.isi (.v 1) [.list]))) [.ret (.c (.bl ai))] [],
  .ret (.and (.cmp .eq (.blt .len [(.v 0)]) (.blt .len [(.v 1)])) (.blt .all [(.comp1 [] 2 [0,1] (.zip (.v 0) (.v 1)) [] (.call 31 [(.v 0),(.v 1)]))]))] [],
  .ret (.and (.cmp .eq (.v 0) (.v 1)) (.cmp .eq (.isi (.v 0) [.bool]) (.isi (.v 1) [.bool])))]⟩
noncomputable def Y2:Fn:=⟨1,1,
 [.ret (.and (.isi (.v 0) [.int]) (.not (.isi (.v 0) [.bool])))]⟩
noncomputable def YE:Fn:=⟨2,2,
 [.ite (.or (.not (.isi (.v 1) [.tuple])) (.cmp .ne (.blt .len [(.v 1)]) (.ix (.v 0) (.c (.int 1))))) [.ret (.c (.bl ai))] [],
  .ret (.blt .all [(.comp1 [0] 1 [0] (.of (.v 1)) [] (.and (.call 32 [(.v 0)]) (.chain .le .lt (.c (.int 0)) (.v 0) (.ix (.v 1) (.c (.int 0))))))])]⟩
noncomputable def Yo:Fn:=⟨2,3,
 [.ite (.not (.isi (.v 1) [.tuple])) [.ret (.c (.bl ai))] [],
  .forr [2] (.of (.v 1)) [.ite (.or (.not (.call 33 [(.v 0),(.v 2)])) (.not (.blt .any [(.v 2)]))) [.ret (.c (.bl ai))] []],
  .ret (.cmp .eq (.call 5 [(.v 0),(.v 1)]) (.v 1))]⟩
noncomputable def Qh:Fn:=⟨1,5,
 [.asg [] (.c .non)]⟩
noncomputable def Zcc:Fn:=⟨1,9,
 [.ite (.or (.cmp .ne (.call 26 [(.tup [(.c (.int 2)),(.c (.int 2))]),(.tup [(.tup [(.c (.int 1)),(.c (.int 1))])])]) (.tup [(.tup [(.c (.int 1)),(.c (.int 1))])])) (.cmp .ne (.call 26 [(.tup [(.c (.int 3)),(.c (.int 2))]),(.tup [(.tup [(.c (.int 1)),(.c (.int 1))])])]) (.tup [(.tup [(.c (.int 1)),(.c (.int 2))])]))) [.ret (.c (.bl ai))] [],
  .forr [1] (.rng1 (.blt .max2 [(.c (.int 1)),(.blt .min2 [(.blt .len [(.v 0)]),(.c (.int 6))])])) [.asg [2] (.call 1 [(.v 0),(.v 1)]),
  .asg [3] (.call 3 [(.v 2),(.ix (.lst [(.c (.int 27)),(.c (.int 125))]) (.blt .toInt [(.cmp .eq (.v 1) (.c (.int 0)))]))]),
  .asg [4] (.call 7 [(.v 2),(.v 3)]),
  .asg [5] (.call 5 [(.v 3),(.call 28 [(.v 3),(.v 4)])]),
  .forr [6] (.rng1 (.c (.int 2))) [.ite (.not (.call 31 [(.call 26 [(.v 3),(.v 4)]),(.v 5)])) [.ret (.c (.bl ai))] []],
  .forr [7] (.of (.lst [(.call 29 [(.v 2),(.v 3),(.v 4)]),(.call 29 [(.v 2),(.v 3),(.v 4)]),(.call 30 [(.v 2)])])) [.asg [8] (.ix (.lst [(.c .non),(.c (.str (bh "part")))]) (.blt .toInt [(.not (.call 34 [(.v 3),(.v 7)]))])),
  .ite (.cmp .ne (.refu ag (.call 26 [(.v 3),(.v 7)])) (.v 8)) [.ret (.c (.bl ai))] []]],
  .ret (.c (.bl ag))]⟩
noncomputable def fns:List Fn:=[UH,JK,zC,Vd,Ua,Wm,WO,V7,QR,Wp,X0,Yr,YB,W9,WC,YM,X3,VR,Ud,Jz,Q8,Jj,XJ,WQ,Q6,WN,XI,Xm,Ys,ZR,XX,Yb,Y2,YE,Yo,Qh,Zcc]
end K41
namespace K41
open PySem PySem.Spec PyProof.Rows L2 Wr Gn
open Sd (G3 xN jG uB wf j3 ZbZ qj uF xm xx jE jm xK Jm qK jU jO yB wK xB wC wj QN zq wM xq xa ux)
noncomputable def top(i:Nat):de:=PySem.Challenge.pw_fewspaces_k41_parts_against_parts.main.body.getD i (.Pass ⟨0,0,0,0⟩)
noncomputable abbrev r0:FR:=⟨"_law_cell_at",top 35,["_law_script","_law_k"],2⟩
noncomputable abbrev r1:FR:=⟨"_law_state",top 36,["_law_script","_law_k","_law_cell"],2⟩
noncomputable abbrev r2:FR:=⟨"_law_take",top 37,["_law_state_here","_law_many","_law_found","_law_mixed"],2⟩
noncomputable abbrev r3:FR:=⟨"_law_space",top 38,["_law_state_here","_law_most","_law_some"],2⟩
noncomputable abbrev r4:FR:=⟨"_law_plus",top 40,["_law_space_here","_law_one","_law_other","_law_often"],4⟩
noncomputable abbrev r5:FR:=⟨"_law_reduced",top 41,["_law_space_here","_law_rows_here","_law_rest","_law_found","_law_place","_law_fit","_law_often","_law_one"],2⟩
noncomputable abbrev r6:FR:=⟨"_law_row_of",top 39,["_law_state_here","_law_space_here"],2⟩
noncomputable abbrev r7:FR:=⟨"_law_part",top 44,["_law_state_here","_law_space_here","_law_many"],2⟩
noncomputable abbrev r8:FR:=⟨"head_of",top 15,["row","place","number"],1⟩
noncomputable abbrev r9:FR:=⟨"is_rising",top 14,["things"],1⟩
noncomputable abbrev r10:FR:=⟨"noughts_at",top 20,["rows","place"],2⟩
noncomputable abbrev r11:FR:=⟨"stands_alone",top 24,["rows","at","place"],3⟩
noncomputable abbrev r12:FR:=⟨"is_whole",top 13,["thing","least","greatest"],3⟩
noncomputable abbrev r13:FR:=⟨"is_row",top 22,["space","thing","p","n"],2⟩
noncomputable abbrev r14:FR:=⟨"is_part",top 23,["space","thing","places"],2⟩
noncomputable abbrev r15:FR:=⟨"need_part",top 26,["space","thing"],2⟩
noncomputable abbrev r16:FR:=⟨"plus_times",top 17,["p","row","other","number"],4⟩
noncomputable abbrev r17:FR:=⟨"cleared",top 19,["p","row","other","head"],4⟩
noncomputable abbrev r18:FR:=⟨"left_over",top 30,["space","part","row","p","n","rest","other"],3⟩
noncomputable abbrev r19:FR:=⟨"times",top 16,["p","row","number"],3⟩
noncomputable abbrev r20:FR:=⟨"inverse",top 18,["p","number","found"],2⟩
noncomputable abbrev r21:FR:=⟨"widened",top 29,["space","part","row","p","n","rest","head","lead","rows"],3⟩
noncomputable abbrev r22:FR:=⟨"widened_by_all",top 28,["space","part","rows","wider","row"],3⟩
noncomputable abbrev r23:FR:=⟨"need_row",top 25,["space","thing"],2⟩
noncomputable abbrev r24:FR:=⟨"spanned",top 27,["space","rows","row"],2⟩
noncomputable abbrev r25:FR:=⟨"row_against",top 33,["space","part","free","p","n","numbers","row"],3⟩
noncomputable abbrev r26:FR:=⟨"against",top 32,["space","part","p","n","places","free"],2⟩
noncomputable abbrev r27:FR:=⟨"_law_rows",top 42,["_law_space_here","_law_found","_law_place","_law_longer","_law_row"],1⟩
noncomputable abbrev r28:FR:=⟨"_law_against",top 43,["_law_space_here","_law_part_here","_law_found","_law_row","_law_sums"],2⟩
noncomputable abbrev r29:FR:=⟨"_law_bent",top 49,["_law_state_here","_law_space_here","_law_part_here","_law_at","_law_row","_law_k","_law_odd_here","_law_rows_here","_law_one","_law_kind","_law_some"],3⟩
noncomputable abbrev r30:FR:=⟨"_law_odd",top 48,["_law_state_here","_law_some"],1⟩
noncomputable abbrev r31:FR:=⟨"_law_same",top 50,["_law_found","_law_due"],2⟩
noncomputable abbrev r32:FR:=⟨"_law_whole",top 45,["_law_thing"],1⟩
noncomputable abbrev r33:FR:=⟨"_law_is_row",top 46,["_law_space_here","_law_thing"],2⟩
noncomputable abbrev r34:FR:=⟨"_law_is_part",top 47,["_law_space_here","_law_thing","_law_row"],2⟩
noncomputable abbrev r35:FR:=⟨"_law_refused",top 51,["_law_call","_law_error","e","_law_sorts","_law_words"],1⟩
noncomputable abbrev r36:FR:=⟨"law",top 52,["_law_script","_law_k","_law_state_here","_law_space_here","_law_part_here","_law_due","_law_turn","_law_thing","_law_word"],1⟩
noncomputable abbrev rL:FR:=r36
noncomputable abbrev fs:List FR:=[r0,r1,r2,r3,r4,r5,r6,r7,r8,r9,r10,r11,r12,r13,r14,r15,r16,r17,r18,r19,r20,r21,r22,r23,r24,r25,r26,r27,r28,r29,r30,r31,r32,r33,r34,r35]
abbrev zs:List aZ:=["all","any","bool","enumerate","int","isinstance","len","list","max","min","range","sorted","sum","tuple","zip","ValueError"]
abbrev gs:List (aZ×Gv):=[]
abbrev n0:List aZ:=["_law_rows_here","_law_space_here","_law_most"]
abbrev n1:List aZ:=["_law_first","_law_second","_law_often","_law_space_here"]
abbrev n2:List aZ:=["_law_row","_law_place"]
abbrev n3:List aZ:=["_law_row","_law_space_here","_law_one","_law_place"]
abbrev n4:List aZ:=["_law_number","_law_fit","_law_place","_law_space_here"]
abbrev n5:List aZ:=["_law_number","_law_often","_law_space_here"]
abbrev n6:List aZ:=["_law_place","_law_state_here","_law_space_here"]
abbrev n7:List aZ:=["_law_turn","_law_state_here","_law_space_here"]
abbrev n8:List aZ:=["one","other"]
abbrev n9:List aZ:=["row","place"]
abbrev n10:List aZ:=["number","p"]
abbrev n11:List aZ:=["row"]
abbrev n12:List aZ:=["at","place","thing"]
abbrev n13:List aZ:=["row","space"]
abbrev n14:List aZ:=["mine","its","number","p"]
abbrev n15:List aZ:=["mine","number","p"]
abbrev n16:List aZ:=["other","p","lead","head"]
abbrev n17:List aZ:=["place","places"]
abbrev n18:List aZ:=["place","space","part"]
abbrev n19:List aZ:=["_law_number","_law_row"]
abbrev n20:List aZ:=["_law_other","_law_row","_law_space_here"]
abbrev n21:List aZ:=["_law_first","_law_second"]
abbrev n22:List aZ:=["_law_number","_law_space_here"]
abbrev n23:List aZ:=["_law_one","_law_other"]
abbrev n24:List aZ:=["_law_one"]
local macro_rules | `(tactic| walk_at "n") => `(tactic| first|exact ZU (N:=n0) (by kernel_rfl!)|exact ZU (N:=n1) (by kernel_rfl!)|exact ZU (N:=n2) (by kernel_rfl!)|exact ZU (N:=n3) (by kernel_rfl!)|exact ZU (N:=n4) (by kernel_rfl!)|exact ZU (N:=n5) (by kernel_rfl!)|exact ZU (N:=n6) (by kernel_rfl!)|exact ZU (N:=n7) (by kernel_rfl!)|exact ZU (N:=n8) (by kernel_rfl!)|exact ZU (N:=n9) (by kernel_rfl!)|exact ZU (N:=n10) (by kernel_rfl!)|exact ZU (N:=n11) (by kernel_rfl!)|exact ZU (N:=n12) (by kernel_rfl!)|exact ZU (N:=n13) (by kernel_rfl!)|exact ZU (N:=n14) (by kernel_rfl!)|exact ZU (N:=n15) (by kernel_rfl!)|exact ZU (N:=n16) (by kernel_rfl!)|exact ZU (N:=n17) (by kernel_rfl!)|exact ZU (N:=n18) (by kernel_rfl!)|exact ZU (N:=n19) (by kernel_rfl!)|exact ZU (N:=n20) (by kernel_rfl!)|exact ZU (N:=n21) (by kernel_rfl!)|exact ZU (N:=n22) (by kernel_rfl!)|exact ZU (N:=n23) (by kernel_rfl!)|exact ZU (N:=n24) (by kernel_rfl!))
local macro_rules | `(tactic| walk_at "e") => `(tactic| first|exact xN|exact G3|exact xm|exact uF|exact jG|exact j3|exact xx|exact uB|exact ZbZ|exact qj|exact wf)
local macro_rules | `(tactic| walk_at "z") => `(tactic| exact Top.no (by assumption) (by kernel_rfl!))
local macro_rules | `(tactic| walk_at "v") => `(tactic| first|exact kK (by kernel_rfl!)|exact gW (by kernel_rfl!)|exact gW (kK (by kernel_rfl!))|exact gW (gW (by kernel_rfl!)))
noncomputable def pp(k:Nat):dZ:=([⟨210,7,210,17⟩,⟨210,21,210,25⟩,⟨210,7,210,25⟩,⟨211,15,211,19⟩,⟨211,8,211,19⟩,⟨210,4,211,19⟩,⟨212,4,212,14⟩,⟨212,17,212,114⟩,⟨212,4,212,114⟩,⟨213,4,213,14⟩,⟨213,17,213,27⟩,⟨213,30,213,129⟩,⟨213,17,213,129⟩,⟨213,4,213,129⟩,⟨214,4,214,14⟩,⟨214,17,214,27⟩,⟨214,30,214,126⟩,⟨214,17,214,126⟩,⟨214,4,214,126⟩,⟨215,4,215,14⟩,⟨215,4,215,54⟩,⟨216,7,216,45⟩,⟨216,7,216,101⟩,⟨0,0,0,0⟩,⟨217,15,217,30⟩,⟨217,8,217,30⟩,⟨216,4,217,30⟩,⟨219,22,219,32⟩,⟨219,39,219,43⟩,⟨219,4,219,45⟩,⟨215,4,215,21⟩,⟨215,4,215,54⟩,⟨219,22,219,38⟩,⟨219,22,219,44⟩,⟨218,4,218,14⟩,⟨218,17,218,106⟩,⟨218,4,218,106⟩,⟨219,11,219,21⟩,⟨219,11,219,45⟩,⟨0,0,0,0⟩,⟨212,18,212,28⟩,⟨212,29,212,39⟩,⟨212,41,212,46⟩,⟨212,18,212,47⟩,⟨212,49,212,59⟩,⟨212,60,212,70⟩,⟨212,72,212,78⟩,⟨212,49,212,79⟩,⟨212,81,212,91⟩,⟨212,92,212,102⟩,⟨212,104,212,112⟩,⟨212,81,212,113⟩,⟨213,31,213,41⟩,⟨213,42,213,52⟩,⟨213,54,213,61⟩,⟨213,31,213,62⟩,⟨213,64,213,74⟩,⟨213,75,213,85⟩,⟨213,87,213,96⟩,⟨213,64,213,97⟩,⟨213,99,213,109⟩,⟨213,110,213,120⟩,⟨213,122,213,127⟩,⟨213,99,213,128⟩,⟨214,31,214,41⟩,⟨214,42,214,52⟩,⟨214,54,214,60⟩,⟨214,31,214,61⟩,⟨214,63,214,73⟩,⟨214,74,214,84⟩,⟨214,86,214,91⟩,⟨214,63,214,92⟩,⟨214,94,214,104⟩,⟨214,105,214,115⟩,⟨214,117,214,124⟩,⟨214,94,214,125⟩,⟨215,22,215,32⟩,⟨215,33,215,43⟩,⟨215,45,215,52⟩,⟨215,22,215,53⟩,⟨216,11,216,21⟩,⟨216,22,216,32⟩,⟨216,34,216,44⟩,⟨216,11,216,45⟩,⟨0,0,0,0⟩,⟨0,0,0,0⟩,⟨0,0,0,0⟩,⟨0,0,0,0⟩,⟨0,0,0,0⟩,⟨0,0,0,0⟩,⟨205,4,205,14⟩,⟨205,17,205,21⟩,⟨205,4,205,21⟩,⟨207,8,207,17⟩,⟨207,8,207,19⟩,⟨207,8,207,19⟩,⟨208,11,208,21⟩,⟨209,8,209,18⟩,⟨209,21,209,22⟩,⟨209,8,209,22⟩,⟨208,4,209,22⟩,⟨206,4,209,22⟩,⟨218,18,218,23⟩,⟨218,25,218,31⟩,⟨218,33,218,41⟩,⟨218,43,218,50⟩,⟨218,52,218,64⟩,⟨218,66,218,74⟩,⟨218,76,218,82⟩,⟨218,84,218,89⟩,⟨218,91,218,97⟩,⟨218,99,218,105⟩]:List dZ).getD k ⟨0,0,0,0⟩
def okl:OkX fs zs gs fns 0 fs (fns.take 36)/\Zee ag fs zs gs fns 35 r35.st/\BdR ag fs zs gs fns 35 r35.st rL Zcc:=by
 refine⟨?a,?b,?c⟩
 case' a=>repeat'(first | exact aA | refine⟨⟨rfl,rfl,by decide +kernel,?_⟩,?_⟩ | exact qY | intro P w K mg base cl f fd d T L h hn cdv A outer s H E hr hu)
 case' b=>intro P w K mg base f fd d T hn cdv A outer s H hu;unfold Sd.ksum
 case' c=>intro P w K mg base cl f fd fL c Pt d T L h RA hn hC hB hP A outer s H E hp hr hr0 hu
 all_goals
 (repeat'(first
 |(with_reducible show Bx (Sd.CSs _ _ _ _ _));first | exact yq | refine JU ?_ ?_
 |(with_reducible show Bx (Sd.CA _ _ _ _ _));first | exact z5 | refine JZ ?_ ?_ (by walk_at "e")
 |(with_reducible show Bx (Sd.CE _ _ _ _ (.v _)));exact ZcY _ (hN:=by kernel_rfl!) (hv:=by walk_at "v") (hd:=by kernel_rfl!) (hcd:=by kernel_rfl!)
 |(with_reducible show Bx (Sd.CE _ _ _ _ (.c _)));first | exact yU | exact jR | exact yh | exact yH
 |(with_reducible show Bx (Sd.CE _ _ _ _ (.call _ _)));first | refine uy Sd.Zbf (by assumption) (by assumption) (by assumption) ?_ (by kernel_rfl!) (show _=_ from by kernel_rfl!) (by kernel_rfl!) (by walk_at "e") rfl | refine ZcA (by assumption) (by assumption) (by assumption) ?_ (by kernel_rfl!) (show _=_ from by kernel_rfl!) (by kernel_rfl!) (by walk_at "e") rfl | refine uy Sd.ZeN (by assumption) (by assumption) (by assumption) ?_ (by kernel_rfl!) (show _=_ from by kernel_rfl!) (by kernel_rfl!) (by walk_at "e") rfl
 |(with_reducible show Bx (Sd.CE _ _ _ _ (.refu _ _)));refine ZdX (Pp:=pp) Sd.Zbf (by assumption) (by assumption) (by assumption) (by assumption) rfl (by kernel_rfl!) (by kernel_rfl!) (by kernel_rfl!) (by assumption) (by assumption) (by assumption) (by assumption) rfl rfl rfl rfl (by kernel_rfl!) (by kernel_rfl!) (show _=_ from by kernel_rfl!) (λ_ _ _ _ _ _ _ _ _ _ _=>?_)
 |(with_reducible show Bx (Sd.CE _ _ _ _ .dnew));exact Go
 |(with_reducible show Bx (Sd.CE _ _ _ _ (.dput1 _ _)));exact uh
 |(with_reducible show Bx (Sd.CJ _ _ _ _ _ _));first | exact cj_nil | refine cj_c ?_ | refine cj_f ?_ ?_
 |(with_reducible show Bx (Sd.CE _ _ _ _ (.ix _ _)));refine qu ?_ ?_ (hs:=by intro _ _;kernel_rfl!)
 |(with_reducible show Bx (Sd.CE _ _ _ _ (.blt .len _)));refine Xp (x:="len") (f:=.len) wK (by walk_at "z") ?_ (he:=(by walk_at "e")) (hg:=show _=_ from by kernel_rfl!) (hv:=by kernel_rfl!) (hn:=by decide) (hdb:=by kernel_rfl!) (hpl:=by kernel_rfl!)
 |(with_reducible show Bx (Sd.CE _ _ _ _ (.blt .tuple _)));refine Vg (x:="tuple") (f:=.tuple) QN (by walk_at "z") ?_ (he:=(by walk_at "e")) (hg:=show _=_ from by kernel_rfl!) (hv:=by kernel_rfl!) (hn:=by decide) (hdb:=by kernel_rfl!) (hpl:=by kernel_rfl!)
 |(with_reducible show Bx (Sd.CE _ _ _ _ (.blt .all _)));refine Xp (x:="all") (f:=.all) (wM rfl) (by walk_at "z") ?_ (he:=(by walk_at "e")) (hg:=show _=_ from by kernel_rfl!) (hv:=by kernel_rfl!) (hn:=by decide) (hdb:=by kernel_rfl!) (hpl:=by kernel_rfl!)
 |(with_reducible show Bx (Sd.CE _ _ _ _ (.blt .list _)));refine Vg (x:="list") (f:=.list) zq (by walk_at "z") ?_ (he:=(by walk_at "e")) (hg:=show _=_ from by kernel_rfl!) (hv:=by kernel_rfl!) (hn:=by decide) (hdb:=by kernel_rfl!) (hpl:=by kernel_rfl!)
 |(with_reducible show Bx (Sd.CE _ _ _ _ (.blt .any _)));refine Xp (x:="any") (f:=.any) (xq rfl) (by walk_at "z") ?_ (he:=(by walk_at "e")) (hg:=show _=_ from by kernel_rfl!) (hv:=by kernel_rfl!) (hn:=by decide) (hdb:=by kernel_rfl!) (hpl:=by kernel_rfl!)
 |(with_reducible show Bx (Sd.CE _ _ _ _ (.blt .toInt _)));refine Vg (x:="int") (f:=.toInt) wj (by walk_at "z") ?_ (he:=(by walk_at "e")) (hg:=show _=_ from by kernel_rfl!) (hv:=by kernel_rfl!) (hn:=by decide) (hdb:=by kernel_rfl!) (hpl:=by kernel_rfl!)
 |(with_reducible show Bx (Sd.CE _ _ _ _ (.blt .max2 _)));refine Xp (x:="max") (f:=.max2) (xB rfl) (by walk_at "z") ?_ (he:=(by walk_at "e")) (hg:=show _=_ from by kernel_rfl!) (hv:=by kernel_rfl!) (hn:=by decide) (hdb:=by kernel_rfl!) (hpl:=by kernel_rfl!)
 |(with_reducible show Bx (Sd.CE _ _ _ _ (.blt .min2 _)));refine Xp (x:="min") (f:=.min2) (wC rfl) (by walk_at "z") ?_ (he:=(by walk_at "e")) (hg:=show _=_ from by kernel_rfl!) (hv:=by kernel_rfl!) (hn:=by decide) (hdb:=by kernel_rfl!) (hpl:=by kernel_rfl!)
 |(with_reducible show Bx (Sd.CE _ _ _ _ (.blt .sum _)));refine Xp (x:="sum") (f:=.sum) (xa rfl) (by walk_at "z") ?_ (he:=(by walk_at "e")) (hg:=show _=_ from by kernel_rfl!) (hv:=by kernel_rfl!) (hn:=by decide) (hdb:=by kernel_rfl!) (hpl:=by kernel_rfl!)
 |(with_reducible show Bx (Sd.CE _ _ _ _ (.blt _ _)));refine WZ (by walk_at "z") ?_ (hg:=show _=_ from by kernel_rfl!) (he:=by kernel_rfl!) (hpl:=by kernel_rfl!)
 |(with_reducible show Bx (Sd.CE _ _ _ _ (.bin _ _ _)));first | refine zT ?_ ?_ | refine yf ?_ ?_ | refine ye ?_ ?_ | refine yo ?_ ?_ | refine J7 ?_ ?_ | refine yx ?_ ?_
 |(with_reducible show Bx (Sd.CE _ _ _ _ (.tup _)));refine zO ?_
 |(with_reducible show Bx (Sd.CE _ _ _ _ (.lst _)));refine zL ?_
 |(with_reducible show Bx (Sd.CE _ _ _ _ (.neg _)));refine yV ?_
 |(with_reducible show Bx (Sd.CE _ _ _ _ (.not _)));refine yj ?_
 |(with_reducible show Bx (Sd.CE _ _ _ _ (.cmp .eq _ _)));refine Xx (op:=.Eq) (o:=.eq) (jE (by assumption)) ?_ ?_ (hm:=by first | exact Z8 _ | kernel_rfl!)
 |(with_reducible show Bx (Sd.CE _ _ _ _ (.cmp .ne _ _)));refine Xx (op:=.NotEq) (o:=.ne) (jm (by assumption)) ?_ ?_ (hm:=by first | exact Z8 _ | kernel_rfl!)
 |(with_reducible show Bx (Sd.CE _ _ _ _ (.cmp .lt _ _)));refine Xx (op:=.Lt) (o:=.lt) (xK (by assumption)) ?_ ?_ (hm:=by first | exact Z8 _ | kernel_rfl!)
 |(with_reducible show Bx (Sd.CE _ _ _ _ (.cmp .le _ _)));refine Xx (op:=.LtE) (o:=.le) (Jm (by assumption)) ?_ ?_ (hm:=by first | exact Z8 _ | kernel_rfl!)
 |(with_reducible show Bx (Sd.CE _ _ _ _ (.cmp .ge _ _)));refine Xx (op:=.GtE) (o:=.ge) (qK (by assumption)) ?_ ?_ (hm:=by first | exact Z8 _ | kernel_rfl!)
 |(with_reducible show Bx (Sd.CE _ _ _ _ (.cmp .is _ _)));refine Xx (op:=.Is) (o:=.is) (jU (by assumption)) ?_ ?_ (hm:=by first | exact Z8 _ | kernel_rfl!)
 |(with_reducible show Bx (Sd.CE _ _ _ _ (.cmp .inn _ _)));refine Xx (op:=.In) (o:=.inn) (jO (by assumption)) ?_ ?_ (hm:=by first | exact Z8 _ | kernel_rfl!)
 |(with_reducible show Bx (Sd.CE _ _ _ _ (.cmp .nin _ _)));refine Xx (op:=.NotIn) (o:=.nin) (yB (by assumption)) ?_ ?_ (hm:=by first | exact Z8 _ | kernel_rfl!)
 |(with_reducible show Bx (Sd.CE _ _ _ _ (.chain _ _ _ _ _)));first | refine Vw (op:=.LtE) (o:=.le) (op':=.LtE) (o':=.le) (Jm (by assumption)) (Jm (by assumption)) ?_ ?_ ?_ (hm:=by kernel_rfl!) | refine Vw (op:=.LtE) (o:=.le) (op':=.Lt) (o':=.lt) (Jm (by assumption)) (xK (by assumption)) ?_ ?_ ?_ (hm:=by kernel_rfl!)
 |(with_reducible show Bx (Sd.CE _ _ _ _ (.sl _ _ _)));refine jS ?_ ?_ ?_
 |(with_reducible show Bx (Sd.CE _ _ _ _ (.rev _)));refine yG ?_ ?_
 |(with_reducible show Bx (Sd.CE _ _ _ _ (.isi _ _)));first | refine VZ (T:="int") (t:=.int) (by intro m h;cases h) (by walk_at "z") (by walk_at "z") ?_ (hg:=show _=_ from by kernel_rfl!) (hgT:=show _=_ from by kernel_rfl!) (hvT:=by kernel_rfl!) (hnT:=by decide) (hdT:=by kernel_rfl!) (hs1:=by kernel_rfl!) (hs2:=by kernel_rfl!) (hpl:=by kernel_rfl!) | refine VZ (T:="bool") (t:=.bool) (by intro m h;cases h) (by walk_at "z") (by walk_at "z") ?_ (hg:=show _=_ from by kernel_rfl!) (hgT:=show _=_ from by kernel_rfl!) (hvT:=by kernel_rfl!) (hnT:=by decide) (hdT:=by kernel_rfl!) (hs1:=by kernel_rfl!) (hs2:=by kernel_rfl!) (hpl:=by kernel_rfl!) | refine VZ (T:="tuple") (t:=.tuple) (by intro m h;cases h) (by walk_at "z") (by walk_at "z") ?_ (hg:=show _=_ from by kernel_rfl!) (hgT:=show _=_ from by kernel_rfl!) (hvT:=by kernel_rfl!) (hnT:=by decide) (hdT:=by kernel_rfl!) (hs1:=by kernel_rfl!) (hs2:=by kernel_rfl!) (hpl:=by kernel_rfl!) | refine VZ (T:="list") (t:=.list) (by intro m h;cases h) (by walk_at "z") (by walk_at "z") ?_ (hg:=show _=_ from by kernel_rfl!) (hgT:=show _=_ from by kernel_rfl!) (hvT:=by kernel_rfl!) (hnT:=by decide) (hdT:=by kernel_rfl!) (hs1:=by kernel_rfl!) (hs2:=by kernel_rfl!) (hpl:=by kernel_rfl!) | refine JV (T:="tuple") (U:="list") (t:=.tuple) (u:=.list) (by intro m h;cases h) (by intro m h;cases h) (by walk_at "z") (by walk_at "z") (by walk_at "z") ?_ (hg:=show _=_ from by kernel_rfl!) (hgT:=show _=_ from by kernel_rfl!) (hgU:=show _=_ from by kernel_rfl!) (hvT:=by kernel_rfl!) (hvU:=by kernel_rfl!) (hnT:=by decide) (hdT:=by kernel_rfl!) (hnU:=by decide) (hdU:=by kernel_rfl!) (hs0:=by kernel_rfl!) (hs00:=by kernel_rfl!) (hs1:=by kernel_rfl!) (hs2:=by kernel_rfl!) (hpl:=by kernel_rfl!)
 |(with_reducible show Bx (Sd.CE _ _ _ _ (.mt _ _ _)));first | refine VS ?_ ?_ (hbase:=by kernel_rfl!) (hfew:=by kernel_rfl!) (hline:=by kernel_rfl!) (hs:=by kernel_rfl!) (hplain:=by kernel_rfl!) | refine VJ ?_ ?_ (hbase:=by kernel_rfl!) (hfew:=by kernel_rfl!) (hline:=by kernel_rfl!) (hs:=by kernel_rfl!) (hplain:=by kernel_rfl!)
 |(with_reducible show Bx (Sd.CE _ _ _ _ (.comp1 _ _ _ _ _ _)));refine U2 rfl (by first | assumption | exact T6 (by kernel_rfl!)) (by walk_at "n") ?_ (λ_ _ _ _=>⟨?_,?_,?_⟩) (hs:=by intro _;kernel_rfl!)
 |(with_reducible show Bx (Sd.CE _ _ _ _ _));refine zQ ?_ ?_
 |(with_reducible show Bx (Sd.CO _ _ _ _ _));first | exact Gk | refine JA ?_
 |(with_reducible show Bx (Sd.CS _ _ _ _ (.raise _ _)));exact ZdS Sd.Zbf rfl (by assumption) (by kernel_rfl!) (show _=_ from by kernel_rfl!) (by kernel_rfl!) (by walk_at "e") rfl
 |(with_reducible show Bx (Sd.CS _ _ _ _ (.ret _)));refine yS ?_
 |(with_reducible show Bx (Sd.CS _ _ _ _ (.put _ _ _)));refine zX ?_ ?_ ?_ (ha:=by intro _;kernel_rfl!) (hs:=by kernel_rfl!) (hw:=by kernel_rfl!) (h1:=by kernel_rfl!)
 |(with_reducible show Bx (Sd.CS _ _ _ _ (.asg _ (.comp1 _ _ _ _ _ _))));refine Qv rfl (by assumption) (by walk_at "n") ?_ (λ_ _ _ _=>⟨?_,?_,?_⟩) (hsw:=by kernel_rfl!) (hy:=by kernel_rfl!) (hx:=by walk_at "v") (hf:=by first | exact .inl rfl | exact .inr (by kernel_rfl!)) (hs:=by intro _;kernel_rfl!)
 |(with_reducible show Bx (Sd.CS _ _ _ _ (.mov _ _)));refine Zdc ?_
 |(with_reducible show Bx (Sd.CS _ _ _ _ (.asg _ _)));refine ya ?_ ?_ (hs:=by kernel_rfl!) (hw:=by kernel_rfl!) (h1:=by kernel_rfl!)
 |(with_reducible show Bx (Sd.CS _ _ _ _ (.ex _)));refine Ge ?_ (hs:=by kernel_rfl!)
 |(with_reducible show Bx (Sd.CS _ _ _ _ (.ite _ _ _)));refine qG ?_ ?_ ?_
 |(with_reducible show Bx (Sd.CS _ _ _ _ (.forr _ _ _)));refine yu ls rfl ?_ ?_ ?_ (hs:=by intro _;kernel_rfl!)
 |(with_reducible show Bx (Sd.CS _ _ _ _ (.whl _ _)));refine Ux ls ?_ ?_
 |(with_reducible show Bx (Sd.CS _ _ _ _ (.aug _ _ _)));refine yR (op:=.Add) ux (by assumption) ?_ (hi:=by kernel_rfl!) (hx:=by walk_at "v") (hf:=by first | exact .inl rfl | exact .inr (by kernel_rfl!))
 |(with_reducible show Bx (Sd.CT _ _ _ _ (.not _)));refine yE ?_
 |(with_reducible show Bx (Sd.CT _ _ _ _ (.cmp .eq _ _)));refine XE (op:=.Eq) (o:=.eq) (jE (by assumption)) ?_ ?_ (hm:=by first | exact Z8 _ | kernel_rfl!)
 |(with_reducible show Bx (Sd.CT _ _ _ _ (.cmp .ne _ _)));refine XE (op:=.NotEq) (o:=.ne) (jm (by assumption)) ?_ ?_ (hm:=by first | exact Z8 _ | kernel_rfl!)
 |(with_reducible show Bx (Sd.CT _ _ _ _ (.cmp .lt _ _)));refine XE (op:=.Lt) (o:=.lt) (xK (by assumption)) ?_ ?_ (hm:=by first | exact Z8 _ | kernel_rfl!)
 |(with_reducible show Bx (Sd.CT _ _ _ _ (.cmp .le _ _)));refine XE (op:=.LtE) (o:=.le) (Jm (by assumption)) ?_ ?_ (hm:=by first | exact Z8 _ | kernel_rfl!)
 |(with_reducible show Bx (Sd.CT _ _ _ _ (.cmp .ge _ _)));refine XE (op:=.GtE) (o:=.ge) (qK (by assumption)) ?_ ?_ (hm:=by first | exact Z8 _ | kernel_rfl!)
 |(with_reducible show Bx (Sd.CT _ _ _ _ (.cmp .is _ _)));refine XE (op:=.Is) (o:=.is) (jU (by assumption)) ?_ ?_ (hm:=by first | exact Z8 _ | kernel_rfl!)
 |(with_reducible show Bx (Sd.CT _ _ _ _ (.cmp .inn _ _)));refine XE (op:=.In) (o:=.inn) (jO (by assumption)) ?_ ?_ (hm:=by first | exact Z8 _ | kernel_rfl!)
 |(with_reducible show Bx (Sd.CT _ _ _ _ (.cmp .nin _ _)));refine XE (op:=.NotIn) (o:=.nin) (yB (by assumption)) ?_ ?_ (hm:=by first | exact Z8 _ | kernel_rfl!)
 |(with_reducible show Bx (Sd.CT _ _ _ _ (.or _ _)));refine ZcS (xp ?_ ?_)
 |(with_reducible show Bx (Sd.CT _ _ _ _ _));refine yA ?_ (he:=by intro _;kernel_rfl!)
 |(with_reducible show Bx (Sd.CWh _ _ _ _ _));first | refine xp ?_ ?_ | refine zV ?_
 |(with_reducible show Bx (Sd.CTs _ _ _ _ _));first | exact Gm | refine J4 ?_
 |(with_reducible show Bx (Sd.CW _ _ _ _ _ _));first | refine JJ (by walk_at "z") ?_ (hg:=show _=_ from by kernel_rfl!) (hs:=by kernel_rfl!) | refine yg (by walk_at "z") ?_ (hg:=show _=_ from by kernel_rfl!) (hs:=by kernel_rfl!) (hs2:=by kernel_rfl!) | refine JW (by walk_at "z") ?_ (hg:=show _=_ from by kernel_rfl!) (hs:=by kernel_rfl!) | refine qp ?_
 |(with_reducible show Bx (Sd.CG _ _ _));first | exact Gh (by first | assumption | exact T6 (by kernel_rfl!)) (hi:=by kernel_rfl!) (hx:=by walk_at "v") (hf:=by first | exact .inl rfl | exact .inr (by kernel_rfl!)) | refine zZ rfl ?_ (hn:=by kernel_rfl!) (hst:=by kernel_rfl!)
 |(with_reducible show Bx (Sd.CGs _ _ _));first | exact Jx | refine U7 (by first | assumption | exact T6 (by kernel_rfl!)) ?_ (hi:=by kernel_rfl!) (hx:=by walk_at "v") (hf:=by first | exact .inl rfl | exact .inr (by kernel_rfl!)) (hs:=by kernel_rfl!)))
end K41
namespace Pv
open Ev
open PySem (Str)
inductive V where
 |non | bl (b:Bool) | int (i:Int) | str (x:aZ) | tup (xs:List V) | lst (xs:List V) | drw | dct (ks:Option (List (List Int)))
 deriving Inhabited
noncomputable abbrev DS:=Int×Bool
inductive PR(α:Type) where
 |ok (a:α) (s:DS) | ex (c:Nat) (s:DS) | no
noncomputable def PR.bind{α β:Type}(r:PR α)(f:α->DS->PR β):PR β:=match r with
 |.ok a s=>f a s
 |.ex c s=>.ex c s
 |.no=>.no
noncomputable def PR.nox{α:Type}(r:PR α):PR α:=match r with
 |.ex _ _=>.no
 |r=>r
noncomputable def po{α:Type}(o:Option α)(s:DS):PR α:=match o with
 |some a=>.ok a s
 |none=>.no
noncomputable abbrev Env:=List (Option V)
mutual
noncomputable def V.flat:V->Bool
 |.tup xs=>ZN xs
 |.lst _=>ai
 |.drw=>ai
 |.dct _=>ai
 |_=>ag
noncomputable def ZN:List V->Bool
 |[]=>ag
 |x::xs=>x.flat&&ZN xs
end
mutual
noncomputable def toD:V->D
 |.non=>.non
 |.bl b=>.bl b
 |.int i=>.int i
 |.str x=>.str x
 |.tup xs=>.tup (Ym xs)
 |_=>.non
noncomputable def Ym:List V->List D
 |[]=>[]
 |x::xs=>toD x::Ym xs
end
mutual
noncomputable def ofD:D->Option V
 |.non=>aa .non
 |.bl b=>aa (.bl b)
 |.int i=>aa (.int i)
 |.str x=>aa (.str x)
 |.tup xs=>(v9 xs).map .tup
 |_=>ac
noncomputable def v9:List D->Option (List V)
 |[]=>aa []
 |x::xs=>match ofD x,v9 xs with
  |some a,aa b=>aa (a::b)
  |_,_=>ac
end
noncomputable def Yc:V->Option Bool
 |.non=>aa ai
 |.bl b=>aa b
 |.int i=>aa (ae (i≠0))
 |.tup xs=>aa (!xs.isEmpty)
 |.lst xs=>aa (!xs.isEmpty)
 |_=>ac
noncomputable def Vv(f:V->V->Option Bool):List V->List V->Option Bool
 |[],[]=>aa ag
 |x::xs,y::ys=>match f x y,Vv f xs ys with
  |some a,aa b=>aa (a&&b)
  |_,_=>ac
 |_,_=>aa ai
noncomputable def eqV:Nat->V->V->Option Bool
 |0,_,_=>ac
 |k+1,x,y=>match x,y with
  |.non,.non=>aa ag
  |.bl a,.bl b=>aa (ae (a=b))
  |.int a,.int b=>aa (ae (a=b))
  |.bl a,.int b=>aa (ae (b2i a=b))
  |.int a,.bl b=>aa (ae (a=b2i b))
  |.str a,.str b=>aa (ae (a=b))
  |.tup xs,.tup ys=>Vv (eqV k) xs ys
  |.lst xs,.lst ys=>if xs.length=ys.length then Vv (eqV k) xs ys else aa ai
  |.non,.bl _ | .non,.int _ | .non,.str _ | .bl _,.non | .int _,.non | .str _,.non=>aa ai
  |.bl _,.str _ | .int _,.str _ | .str _,.bl _ | .str _,.int _=>aa ai
  |_,_=>ac
noncomputable def Qy(x:V):List V->Option Bool
 |[]=>aa ai
 |y::ys=>match eqV Zn y x,Qy x ys with
  |some a,aa b=>aa (a||b)
  |_,_=>ac
noncomputable def YG:V->Ty->Option Bool
 |.non,_=>aa ai
 |.bl _,t=>aa (ae (t=.bool\/t=.int))
 |.int _,t=>aa (ae (t=.int))
 |.str _,t=>aa (ae (t=.str))
 |.tup _,t=>aa (ae (t=.tuple))
 |.lst _,t=>aa (ae (t=.list))
 |.dct _,t=>aa (ae (t=.dict))
 |_,_=>ac
noncomputable def Z2(x:V):List Ty->Option Bool
 |[]=>aa ai
 |t::ts=>match YG x t with
  |some ag=>aa ag
  |some ai=>Z2 x ts
  |none=>ac
noncomputable def YH(xs:List V)(lo hi:Option Int):List V:=(xs.drop (sIx xs.length 0 lo)).take (sIx xs.length xs.length hi-sIx xs.length 0 lo)
noncomputable def W6(op:Bop)(x y:V)(s:DS):PR V:=match op,x,y with
 |.add,.int a,.int b=>.ok (.int (a+b)) s
 |.sub,.int a,.int b=>.ok (.int (a-b)) s
 |.mul,.int a,.int b=>if(fits a&&fits b)=ag then .ok (.int (a*b)) s else .no
 |.fdiv,.int a,.int b=>if 0<b/\b<Ev.big then .ok (.int (a / b)) s else .no
 |.mod,.int a,.int b=>if 0<b then .ok (.int (a%b)) s else .no
 |.pow,.int a,.int b=>if 0<=b/\b<=1000/\a.natAbs<2^64 then .ok (.int (a^b.toNat)) s else .no
 |.add,.tup a,.tup b=>if a.length+b.length<=lim then .ok (.tup (a++b)) s else .no
 |.mul,.tup a,.int b=>if 0<=b/\b<1000/\a.length<=1000 then .ok (.tup (aq b.toNat a).flatten) s else .no
 |.mul,.lst a,.int b=>if 0<=b/\b<1000/\a.length<=1000 then .ok (.lst (aq b.toNat a).flatten) s else .no
 |.add,.lst a,.lst b=>if a.length+b.length<=lim then .ok (.lst (a++b)) s else .no
 |_,_,_=>.no
noncomputable def vm(op:Bop)(x y:V)(s:DS):PR V:=match x,y with
 |.int _,.int _=>W6 op x y s
 |_,_=>.no
noncomputable def XQ(x y:V):Option Bool:=match y with
 |.tup ys=>Qy x ys
 |.lst ys=>Qy x ys
 |_=>ac
noncomputable def Vn:V->Bool
 |.non=>ag
 |_=>ai
noncomputable def intsV:List V->Option (List Int)
 |[]=>aa []
 |.int i::r=>(intsV r).map (i :: ·)
 |_::_=>ac
noncomputable def Zc(r:List Int):V:=.tup (r.map .int)
noncomputable def Xi:List V->Option (List (List Int))
 |[]=>aa []
 |.tup x::r=>match intsV x,Xi r with
  |some a,aa b=>aa (a::b)
  |_,_=>ac
 |_::_=>ac
noncomputable def Wn(op:Cop)(x y:V):Option V:=match op with
 |.eq=>(eqV Zn x y).map .bl
 |.ne=>(eqV Zn x y).map λb=>.bl !b
 |.lt=>match x,y with
  |.int a,.int b=>aa (.bl (ae (a<b)))
  |_,_=>ac
 |.le=>match x,y with
  |.int a,.int b=>aa (.bl (ae (a<=b)))
  |_,_=>ac
 |.ge=>match x,y with
  |.int a,.int b=>aa (.bl (ae (b<=a)))
  |_,_=>ac
 |.is=>match x,y with
  |_,.non=>aa (.bl (Vn x))
  |.bl a,.bl b=>aa (.bl (ae (a=b)))
  |_,_=>ac
 |.inn=>(XQ x y).map .bl
 |.nin=>(XQ x y).map λb=>.bl !b
noncomputable def ixV(x y:V):Option V:=match x,y with
 |.tup xs,.int i=>at' xs i
 |.lst xs,.int i=>at' xs i
 |_,_=>ac
noncomputable def slV(x:V)(lo hi:Option Int):Option V:=match x with
 |.tup xs=>aa (.tup (YH xs lo hi))
 |.lst xs=>aa (.lst (YH xs lo hi))
 |_=>ac
noncomputable def ZeG:V->Option V
 |.tup xs=>aa (.tup xs.reverse)
 |_=>ac
noncomputable def J3:V->Option Bool
 |.non=>aa ai
 |.bl b=>aa b
 |.int i=>aa (ae (i≠0))
 |_=>ac
noncomputable def ZS:List V->Option (List Bool)
 |[]=>aa []
 |x::xs=>match J3 x,ZS xs with
  |some b,aa bs=>aa (b::bs)
  |_,_=>ac
noncomputable def Ze(P:List (List Int)):V:=.tup (P.map Zc)
noncomputable def Z7:V->Option (List V)
 |.tup xs=>aa xs
 |.lst xs=>aa xs
 |_=>ac
noncomputable def Xj(lo:Int)(n:Nat):List V:=(aI n).map λ(k:Nat)=>.int (lo+(k:Int))
noncomputable def UG(f:Bf)(as:List V):Option V:=match f,as with
 |.len,[x]=>(Z7 x).map λxs=>.int xs.length
 |.max2,[.int a,.int b]=>aa (.int (if b>a then b else a))
 |.min2,[.int a,.int b]=>aa (.int (if b<a then b else a))
 |.toInt,[.int a]=>aa (.int a)
 |.toInt,[.bl b]=>aa (.int (b2i b))
 |.tuple,[x]=>(Z7 x).map .tup
 |.list,[x]=>(Z7 x).map .lst
 |.all,[.lst xs]=>(ZS xs).map λbs=>.bl (bs.all id)
 |.any,[x]=>(Z7 x).bind λxs=>(ZS xs).map λbs=>.bl (bs.any id)
 |.sum,[.lst xs]=>(intsV xs).bind λis=>if XR is=ag then aa (.int is.sum)else ac
 |.sortedR,[.lst xs]=>(Xi xs).bind λrs=>if YW rs=ag then aa (.lst ((ZY rs).reverse.map Zc))else ac
 |_,_=>ac
noncomputable def Xv:List Nat->List V->Env->Option Env
 |[],[],ρ=>aa ρ
 |i::t,x::xs,ρ=>Xv t xs (ρ.set i (aa x))
 |_,_,_=>ac
noncomputable def Zx(t:List Nat)(x:V)(ρ:Env):Option Env:=match t with
 |[i]=>aa (ρ.set i (aa x))
 |t=>match Z7 x with
  |some xs=>Xv t xs ρ
  |none=>ac
noncomputable abbrev Zy:=Nat->List V->DS->PR V
noncomputable def Yp(cap:List Nat)(nl:Nat)(ρ:Env):Env:=aq nl ac++cap.map λi=>(ρ[i]?).join
noncomputable def mapP(f:V->DS->PR (List V)):List V->DS->PR (List V)
 |[],s=>.ok [] s
 |x::xs,s=>match f x s with
  |.ok ys s=>match mapP f xs s with
   |.ok zs s=>.ok (ys++zs) s
   |_=>.no
  |_=>.no
noncomputable def Zem(w:Bool)(c:Nat):V:=if w then .str (Yz.getD c "")else .int c
noncomputable def own(nl:Nat)(t:List Nat):Bool:=t.all λi=>ae (i<nl)
mutual
noncomputable def pv(C:Zy):E->Env->DS->PR V
 |.c d,_,s=>po (ofD d) s
 |.v i,ρ,s=>po (ρ[i]?).join s
 |.tup es,ρ,s=>(pvs C es ρ s).bind λxs s=>if xs.length<=lim then .ok (.tup xs) s else .no
 |.lst es,ρ,s=>(pvs C es ρ s).bind λxs s=>if xs.length<=lim then .ok (.lst xs) s else .no
 |.dnew,_,s=>.ok (.dct (aa [])) s
 |.dput1 k v,ρ,s=>(pv C k ρ s).bind λx s=>(pv C v ρ s).bind λy s=>match x,y with
  |.int _,.int _=>.ok (.dct ac) s
  |_,_=>.no
 |.bin op a b,ρ,s=>(pv C a ρ s).bind λx s=>(pv C b ρ s).bind λy s=>W6 op x y s
 |.neg a,ρ,s=>(pv C a ρ s).bind λx s=>match x with
  |.int i=>.ok (.int (-i)) s
  |_=>.no
 |.not a,ρ,s=>(pv C a ρ s).bind λx s=>(po (Yc x) s).bind λb s=>.ok (.bl !b) s
 |.and a b,ρ,s=>(pv C a ρ s).bind λx s=>match x with
  |.bl c=>if c then pv C b ρ s else .ok (.bl ai) s
  |_=>.no
 |.or a b,ρ,s=>(pv C a ρ s).bind λx s=>match x with
  |.bl c=>if c then .ok (.bl ag) s else pv C b ρ s
  |_=>.no
 |.ite t a b,ρ,s=>(pv C t ρ s).bind λx s=>(po (Yc x) s).bind λc s=>if c then pv C a ρ s else pv C b ρ s
 |.cmp op a b,ρ,s=>(pv C a ρ s).bind λx s=>(pv C b ρ s).bind λy s=>po (Wn op x y) s
 |.chain o p a b d,ρ,s=>(pv C a ρ s).bind λx s=>(pv C b ρ s).bind λy s=>(po (Wn o x y) s).bind λz s=>match z with
  |.bl c=>if c then(pv C d ρ s).bind λw s=>po (Wn p y w) s else .ok (.bl ai) s
  |_=>.no
 |.ix a i,ρ,s=>(pv C a ρ s).bind λx s=>(pv C i ρ s).bind λy s=>po (ixV x y) s
 |.sl a lo hi,ρ,s=>(pv C a ρ s).bind λx s=>(pvo C lo ρ s).bind λl s=>(pvo C hi ρ s).bind λh s=>po (slV x l h) s
 |.rev a,ρ,s=>(pv C a ρ s).bind λx s=>po (ZeG x) s
 |.call f as,ρ,s=>(pvs C as ρ s).bind λxs s=>C f xs s
 |.blt f as,ρ,s=>(pvs C as ρ s).bind λxs s=>po (UG f xs) s
 |.mt _ _ _,_,_=>.no
 |.isi a ts,ρ,s=>(pv C a ρ s).bind λx s=>(po (Z2 x ts) s).bind λb s=>.ok (.bl b) s
 |.comp1 cap nl t it ifs elt,ρ,s=>if own nl t=ag then(pvw C it ρ s).bind λw s=>
   ((mapP (λx s=>(po (Zx t x (Yp cap nl ρ)) s).bind λσ s=>(pvt C ifs σ s).bind λb s=>if b then(pv C elt σ s).bind λy s=>.ok [y] s else .ok [] s) w s).bind
    λys s=>if ys.length<=lim then .ok (.lst ys) s else .no).nox
  else .no
 |.refu w e,ρ,s=>match pv C e ρ s with
  |.ok _ s=>.ok .non s
  |.ex c s=>if 1<=c/\c<=10 then .ok (Zem w (c-1)) s else .no
  |.no=>.no
noncomputable def pvs(C:Zy):List E->Env->DS->PR (List V)
 |[],_,s=>.ok [] s
 |e::es,ρ,s=>(pv C e ρ s).bind λx s=>(pvs C es ρ s).bind λxs s=>.ok (x::xs) s
noncomputable def pvo(C:Zy):Option E->Env->DS->PR (Option Int)
 |none,_,s=>.ok ac s
 |some e,ρ,s=>(pv C e ρ s).bind λx s=>match x with
  |.int i=>.ok (aa i) s
  |_=>.no
noncomputable def pvt(C:Zy):List E->Env->DS->PR Bool
 |[],_,s=>.ok ag s
 |e::es,ρ,s=>(pv C e ρ s).bind λx s=>(po (Yc x) s).bind λb s=>if b then pvt C es ρ s else .ok ai s
noncomputable def pvw(C:Zy):W->Env->DS->PR (List V)
 |.rng1 a,ρ,s=>(pv C a ρ s).bind λx s=>match x with
  |.int i=>if W8 i then .ok (Xj 0 i.toNat) s else .no
  |_=>.no
 |.zip a b,ρ,s=>(pv C a ρ s).bind λx s=>(pv C b ρ s).bind λy s=>match Z7 x,Z7 y with
  |some v,aa w=>.ok ((v.zip w).map λp=>.tup [p.1,p.2]) s
  |_,_=>.no
 |.enum a,ρ,s=>(pv C a ρ s).bind λx s=>match Z7 x with
  |some w=>.ok (((Xj 0 w.length).zip w).map λp=>.tup [p.1,p.2]) s
  |none=>.no
 |.of e,ρ,s=>(pv C e ρ s).bind λx s=>po (Z7 x) s
end
inductive FlV where | nx (ρ:Env) (os:List Nat) | ret (v:V) | brk (ρ:Env) (os:List Nat) | cnt (ρ:Env) (os:List Nat)
noncomputable def hide(os:List Nat)(ρ:Env):Env:=ρ.mapIdx λi o=>if os.contains i then ac else o
noncomputable def fresh:E->Bool
 |.lst _=>ag
 |.comp1 .. => ag
 |.bin .mul (.lst _) _=>ag
 |.blt .list _=>ag
 |_=>ai
noncomputable def pvA(C:Zy)(e:E)(ρ:Env)(os:List Nat)(s:DS):PR V:=match os with
 |[]=>pv C e ρ s
 |os=>match pv C e (hide os ρ) s with
  |.ok v s=>.ok v s
  |.ex c s=>.ex c s
  |.no=>(pv C e ρ s).bind λv s=>if v.flat then .ok v s else .no
noncomputable def VI(C:Zy)(e:E)(ρ:Env)(s:DS):PR Bool:=(pv C e ρ s).bind λx s=>po (Yc x) s
noncomputable def XN(body:V->Env->List Nat->DS->PR FlV):List V->Env->List Nat->DS->PR FlV
 |[],ρ,os,s=>.ok (.nx ρ os) s
 |x::xs,ρ,os,s=>(body x ρ os s).bind λf s=>match f with
  |.nx ρ os=>XN body xs ρ os s
  |.cnt ρ os=>XN body xs ρ os s
  |.brk ρ os=>.ok (.nx ρ os) s
  |.ret v=>.ok (.ret v) s
noncomputable def XG(test:Env->DS->PR Bool)(body:Env->List Nat->DS->PR FlV):Nat->Env->List Nat->DS->PR FlV
 |0,_,_,_=>.no
 |n+1,ρ,os,s=>(test ρ s).bind λb s=>if b then(body ρ os s).bind λf s=>match f with
  |.nx ρ os=>XG test body n ρ os s
  |.cnt ρ os=>XG test body n ρ os s
  |.brk ρ os=>.ok (.nx ρ os) s
  |.ret v=>.ok (.ret v) s
  else .ok (.nx ρ os) s
noncomputable def X8:Option (Option V)->Option (List V)
 |some (aa (.lst xs))=>aa xs
 |_=>ac
mutual
noncomputable def rv(C:Zy)(ms:List Nat):Sm->Env->List Nat->DS->PR FlV
 |.asg [i] e,ρ,os,s=>(pvA C e ρ os s).bind λv s=>if(ms.contains i&&fresh e)=ag then match v with
   |.lst xs=>if ZN xs=ag/\i<ρ.length then .ok (.nx (ρ.set i (aa v)) (i::os.filter (· != i))) s else .no
   |_=>.no
  else .ok (.nx (ρ.set i (aa v)) (os.filter (· != i))) s
 |.asg t e,ρ,os,s=>(pvA C e ρ os s).bind λv s=>if(t.any os.contains)=ag then .no else(po (Zx t v ρ) s).bind λρ s=>.ok (.nx ρ os) s
 |.aug i op e,ρ,os,s=>if os.contains i then .no else(po (ρ[i]?).join s).bind λx s=>(pv C e ρ s).bind λy s=>(vm op x y s).bind λz s=>.ok (.nx (ρ.set i (aa z)) os) s
 |.put (.v i) k e,ρ,os,s=>if os.contains i then(pv C e ρ s).bind λv s=>if v.flat then(po (X8 ρ[i]?) s).bind λxs s=>(pv C k ρ s).bind λy s=>match y with
   |.int n=>(po (ixN xs.length n) s).bind λj s=>.ok (.nx (ρ.set i (aa (.lst (xs.set j v)))) os) s
   |_=>.no
  else .no else .no
 |.put _ _ _,_,_,_=>.no
 |.ret e,ρ,os,s=>(pv C e ρ s).bind λv s=>.ok (.ret v) s
 |.ex (.mt .append (.v i) [e]),ρ,os,s=>if os.contains i then(po (X8 ρ[i]?) s).bind λxs s=>(pv C e ρ s).bind λv s=>if v.flat=ag/\xs.length<lim then .ok (.nx (ρ.set i (aa (.lst (xs++[v])))) os) s else .no else .no
 |.ex (.mt .extend (.v i) [e]),ρ,os,s=>if os.contains i then(po (X8 ρ[i]?) s).bind λxs s=>(pv C e (hide os ρ) s).bind λv s=>match v with
   |.lst ys=>if ZN ys=ag/\xs.length+ys.length<=lim then .ok (.nx (ρ.set i (aa (.lst (xs++ys)))) os) s else .no
   |_=>.no
  else .no
 |.ex e,ρ,os,s=>(pv C e ρ s).bind λ_ s=>.ok (.nx ρ os) s
 |.ite t a b,ρ,os,s=>(VI C t ρ s).bind λc s=>if c then rvs C ms a ρ os s else rvs C ms b ρ os s
 |.forr t it b,ρ,os,s=>(pvw C it (hide os ρ) s).bind λw s=>XN (λx ρ os s=>if(t.any os.contains)=ag then .no else if(os.isEmpty||x.flat)=ag then(po (Zx t x ρ) s).bind λρ s=>rvs C ms b ρ os s else .no) w ρ os s
 |.whl t b,ρ,os,s=>XG (VI C t) (rvs C ms b) Vu ρ os s
 |.raise c as,ρ,os,s=>(pvs C as ρ s).bind λ_ s=>.ex c s
 |.brk,ρ,os,s=>.ok (.brk ρ os) s
 |.cnt,ρ,os,s=>.ok (.cnt ρ os) s
 |.mov i j,ρ,os,s=>if(os.contains j&&(!os.contains i&&ae (i≠j)))=ag then(po (X8 ρ[j]?) s).bind λxs s=>.ok (.nx ((ρ.set i (aa (.lst xs))).set j ac) (os.filter (· != j))) s else .no
noncomputable def rvs(C:Zy)(ms:List Nat):List Sm->Env->List Nat->DS->PR FlV
 |[],ρ,os,s=>.ok (.nx ρ os) s
 |m::ss,ρ,os,s=>(rv C ms m ρ os s).bind λf s=>match f with
  |.nx ρ os=>rvs C ms ss ρ os s
  |f=>.ok f s
end
mutual
noncomputable def ZdZ:Sm->List Nat
 |.put (.v i) _ _=>[i]
 |.ex (.mt .append (.v i) _)=>[i]
 |.ex (.mt .extend (.v i) _)=>[i]
 |.ite _ a b=>muts a++muts b
 |.forr _ _ b=>muts b
 |.whl _ b=>muts b
 |_=>[]
noncomputable def muts:List Sm->List Nat
 |[]=>[]
 |m::ss=>ZdZ m++muts ss
end
noncomputable def XH(n:Nat)(xs:List V):Env:=xs.map aa++aq (n-xs.length) ac
noncomputable def Yx(s:DS)(m:Int):Int×DS:=
 if s.2 then(s.1%m,(s.1 / m,ag))else
  let x:=(s.1*48271+29)%2147483647
  let y:=(x*x+39373*x+7)%2147483629
  let z:=(y*y+16807*y)%2147483587
  (z / 8%m,(x,ai))
noncomputable def uX(vs:List V)(s:DS):PR V:=match vs with
 |[.drw,.int m]=>if 0<m/\m<1073741824 then .ok (.int (Yx s m).1) (Yx s m).2 else .no
 |_=>.no
noncomputable def ZL(F:List Fn)(tk:Nat):Nat->Zy
 |0,_,_,_=>.no
 |d+1,f,xs,s=>if f=tk then uX xs s else match F[f]? with
  |some fn=>if xs.length=fn.ps then(rvs (ZL F tk d) (muts fn.body) fn.body (XH fn.ns xs) [] s).bind λf s=>match f with
    |.ret v=>.ok v s
    |.nx _ _=>.ok .non s
    |_=>.no
   else .no
  |none=>.no
end Pv
namespace Pv
open Ev
noncomputable def uP:Ob->Option (Option (List (List Int)))
 |.dt kvs=>aa (aa (kvs.map (·.1)))
 |.dk _=>aa ac
 |_=>ac
mutual
def Rep(S:Zb)(X:Nat->Prop)(n0:Nat):V->D->Prop
 |.non,d=>d=.non
 |.bl b,d=>d=.bl b
 |.int i,d=>d=.int i
 |.str x,d=>d=.str x
 |.tup vs,d=>∃ds,d=.tup ds/\Rq S X n0 vs ds
 |.lst vs,d=>∃n ds,d=.loc n/\S[n]? = aa (.lst ds)/\¬X n/\Rq S X n0 vs ds
 |.drw,d=>d=.loc n0
 |.dct o,d=>∃n ob,d=.loc n/\S[n]? = aa ob/\¬X n/\uP ob=aa o
def Rq(S:Zb)(X:Nat->Prop)(n0:Nat):List V->List D->Prop
 |[],ds=>ds=[]
 |v::vs,ds=>∃d es,ds=d::es/\Rep S X n0 v d/\Rq S X n0 vs es
end
section
variable{S S':Zb}{X X':Nat->Prop}{n0:Nat}
def YX(h:S[n]? = aa o):n<S.length:=(ay.mp h).1
mutual
theorem Rep.mono(k:∀n o,¬X n->S[n]? = aa o->S'[n]? = aa o)(x:∀n,n<S.length->X' n->X n):∀{v:V}{d:D},Rep S X n0 v d->Rep S' X' n0 v d
 |.non,_,h | .bl _,_,h | .int _,_,h | .str _,_,h | .drw,_,h=>by unfold Rep at h ⊢;exact h
 |.tup vs,d,h=>by
  unfold Rep at h ⊢;obtain⟨ds,e,r⟩:=h;exact⟨ds,e,Rq.mono k x r⟩
 |.lst vs,d,h=>by
  unfold Rep at h ⊢;obtain⟨n,ds,e,hs,hx,r⟩:=h;exact⟨n,ds,e,k n _ hx hs,λz=>hx (x n (YX hs) z),Rq.mono k x r⟩
 |.dct o,d,h=>by
  unfold Rep at h ⊢;obtain⟨n,ob,e,hs,hx,r⟩:=h;exact⟨n,ob,e,k n _ hx hs,λz=>hx (x n (YX hs) z),r⟩
theorem Rq.mono(k:∀n o,¬X n->S[n]? = aa o->S'[n]? = aa o)(x:∀n,n<S.length->X' n->X n):∀{vs:List V}{ds:List D},Rq S X n0 vs ds->Rq S' X' n0 vs ds
 |[],_,h=>by unfold Rq at h ⊢;exact h
 |v::vs,ds,h=>by
  unfold Rq at h ⊢;obtain⟨d,es,e,r,rs⟩:=h;exact⟨d,es,e,Rep.mono k x r,Rq.mono k x rs⟩
end
def Rq.nil:Rq S X n0 [] []:=by unfold Rq;rfl
def Rq.cons{v:V}{d:D}{vs:List V}{ds:List D}(r:Rep S X n0 v d)(rs:Rq S X n0 vs ds):Rq S X n0 (v::vs) (d::ds):=by unfold Rq;exact⟨d,ds,rfl,r,rs⟩
def Rq.nil'(h:Rq S X n0 [] ds):ds=[]:=by unfold Rq at h;exact h
def Rq.cons'(h:Rq S X n0 (v::vs) ds):∃d es,ds=d::es/\Rep S X n0 v d/\Rq S X n0 vs es:=by unfold Rq at h;exact h
theorem Rq.length:∀{vs:List V}{ds:List D},Rq S X n0 vs ds->ds.length=vs.length
 |[],_,h=>by rw[h.nil'];rfl
 |v::vs,_,h=>by obtain⟨d,es,rfl,_,t⟩:=h.cons';rw[aR,aR,Rq.length t]
theorem Rq.append:∀{vs ws:List V}{ds es:List D},Rq S X n0 vs ds->Rq S X n0 ws es->Rq S X n0 (vs++ws) (ds++es)
 |[],_,_,_,h,r=>by rw[h.nil'];exact r
 |v::vs,_,_,_,h,r=>by obtain⟨d,es,rfl,a,t⟩:=h.cons';exact Rq.cons a (Rq.append t r)
theorem Rq.take:∀{vs:List V}{ds:List D}(k:Nat),Rq S X n0 vs ds->Rq S X n0 (vs.take k) (ds.take k)
 |_,_,0,_=>Rq.nil
 |[],_,k+1,h=>by rw[h.nil'];exact Rq.nil
 |v::vs,_,k+1,h=>by obtain⟨d,es,rfl,a,t⟩:=h.cons';exact Rq.cons a (Rq.take k t)
theorem Rq.drop:∀{vs:List V}{ds:List D}(k:Nat),Rq S X n0 vs ds->Rq S X n0 (vs.drop k) (ds.drop k)
 |_,_,0,h=>h
 |[],_,k+1,h=>by rw[h.nil'];exact Rq.nil
 |v::vs,_,k+1,h=>by obtain⟨d,es,rfl,a,t⟩:=h.cons';exact Rq.drop k t
theorem Rq.get:∀{vs:List V}{ds:List D}{i:Nat}{v:V},Rq S X n0 vs ds->vs[i]? = aa v->∃d,ds[i]? = aa d/\Rep S X n0 v d
 |[],_,_,_,_,e=>by simp at e
 |v::vs,_,0,_,h,e=>by
  obtain⟨d,es,rfl,a,t⟩:=h.cons';simp at e;subst e;exact⟨d,rfl,a⟩
 |v::vs,_,i+1,_,h,e=>by
  obtain⟨d,es,rfl,a,t⟩:=h.cons';obtain⟨u,q,r⟩:=Rq.get (i:=i) t (by simpa using e)
  exact⟨u,by simpa using q,r⟩
theorem Rq.reverse:∀{vs:List V}{ds:List D},Rq S X n0 vs ds->Rq S X n0 vs.reverse ds.reverse
 |[],_,h=>by rw[h.nil'];exact Rq.nil
 |v::vs,_,h=>by
  obtain⟨d,es,rfl,a,t⟩:=h.cons';rw[cG,cG];exact Rq.append (Rq.reverse t) (Rq.cons a Rq.nil)
theorem Rq.rep(h:Rq S X n0 vs ds):∀k:Nat,Rq S X n0 (aq k vs).flatten (aq k ds).flatten
 |0=>Rq.nil
 |k+1=>by rw[bD,bD,bR,bR];exact Rq.append h (Rq.rep h k)
def Rq.empty:∀{vs:List V}{ds:List D},Rq S X n0 vs ds->ds.isEmpty=vs.isEmpty
 |[],_,h=>by rw[h.nil'];rfl
 |v::vs,_,h=>by obtain⟨d,es,rfl,_,_⟩:=h.cons';rfl
mutual
theorem Wg:∀{v:V}{d:D},v.flat=ag->Rep S X n0 v d->d=toD v
 |.non,_,_,h | .bl _,_,_,h | .int _,_,_,h | .str _,_,_,h=>by unfold Rep at h;exact h
 |.tup vs,d,hf,h=>by
  unfold Rep at h;obtain⟨ds,rfl,r⟩:=h;exact congrArg D.tup (WE hf r)
 |.lst _,_,hf,_=>by cases hf
 |.drw,_,hf,_=>by cases hf
theorem WE:∀{vs:List V}{ds:List D},ZN vs=ag->Rq S X n0 vs ds->ds=Ym vs
 |[],_,_,h=>h.nil'
 |v::vs,_,hf,h=>by
  obtain⟨d,es,rfl,a,t⟩:=h.cons';unfold ZN at hf;obtain⟨h1,h2⟩:=(aB _ _).mp hf;rw[Wg h1 a,WE h2 t];rfl
end
mutual
theorem UX:∀{v:V},v.flat=ag->Rep S X n0 v (toD v)
 |.non,_ | .bl _,_ | .int _,_ | .str _,_=>by unfold Rep;rfl
 |.tup vs,hf=>by unfold Rep;exact⟨Ym vs,rfl,WI hf⟩
 |.lst _,hf=>by cases hf
 |.drw,hf=>by cases hf
theorem WI:∀{vs:List V},ZN vs=ag->Rq S X n0 vs (Ym vs)
 |[],_=>Rq.nil
 |v::vs,hf=>by
  unfold ZN at hf;obtain⟨h1,h2⟩:=(aB _ _).mp hf;exact Rq.cons (UX h1) (WI h2)
end
def Rep.int'(h:Rep S X n0 (.int i) d):d=.int i:=by unfold Rep at h;exact h
def Rep.bl'(h:Rep S X n0 (.bl i) d):d=.bl i:=by unfold Rep at h;exact h
def Rep.non'(h:Rep S X n0 .non d):d=.non:=by unfold Rep at h;exact h
def Rep.str'(h:Rep S X n0 (.str x) d):d=.str x:=by unfold Rep at h;exact h
def Rep.tup'(h:Rep S X n0 (.tup vs) d):∃ds,d=.tup ds/\Rq S X n0 vs ds:=by unfold Rep at h;exact h
def Rep.dct'(h:Rep S X n0 (.dct o) d):∃n ob,d=.loc n/\S[n]? = aa ob/\¬X n/\uP ob=aa o:=by unfold Rep at h;exact h
def Rep.lst'(h:Rep S X n0 (.lst vs) d):∃n ds,d=.loc n/\S[n]? = aa (.lst ds)/\¬X n/\Rq S X n0 vs ds:=by unfold Rep at h;exact h
def Rep.drw'(h:Rep S X n0 .drw d):d=.loc n0:=by unfold Rep at h;exact h
def Zp(i:Int):Rep S X n0 (.int i) (.int i):=by unfold Rep;rfl
def Zz(i:Bool):Rep S X n0 (.bl i) (.bl i):=by unfold Rep;rfl
def Vt(i:PySem.Str):Rep S X n0 (.str i) (.str i):=by unfold Rep;rfl
def YF:Rep S X n0 .non .non:=by unfold Rep;rfl
def ZW(h:Rq S X n0 vs ds):Rep S X n0 (.tup vs) (.tup ds):=by unfold Rep;exact⟨ds,rfl,h⟩
def JF(hs:S[n]? = aa (.lst ds))(hx:¬X n)(h:Rq S X n0 vs ds):Rep S X n0 (.lst vs) (.loc n):=by unfold Rep;exact⟨n,ds,rfl,hs,hx,h⟩
def ZJ(h:S[n]? = aa (.lst ds)):Zi S n=aa ds:=by unfold Zi;rw[h]
def UT(h:S[n]? = aa (.lst ds)):Z9 S n=aa ds:=by unfold Z9;rw[h]
mutual
theorem x9:∀{d:D}{v:V},ofD d=aa v->Rep S X n0 v d
 |.non,v,h | .bl _,v,h | .int _,v,h | .str _,v,h=>by cases h;unfold Rep;rfl
 |.tup ds,v,h=>by
  unfold ofD at h;cases q:v9 ds with|none=>rw[q]at h;cases h|some vs=>rw[q]at h;cases h;exact ZW (GR q)
 |.loc _,_,h=>by cases h
theorem GR:∀{ds:List D}{vs:List V},v9 ds=aa vs->Rq S X n0 vs ds
 |[],vs,h=>by cases h;exact Rq.nil
 |d::ds,vs,h=>by
  unfold v9 at h;cases q:ofD d with
  |none=>rw[q]at h;cases h
  |some a=>
   cases q2:v9 ds with|none=>rw[q,q2]at h;cases h|some b=>rw[q,q2]at h;cases h;exact Rq.cons (x9 q) (GR q2)
end
def Xa(r:Rep S X n0 v d)(h:Yc v=aa b):Z5 S d=aa b:=by
 cases v with
 |non=>cases r.non';exact h
 |bl x=>cases r.bl';exact h
 |int x=>cases r.int';exact h
 |str x=>cases h
 |drw=>cases h
 |dct x=>cases h
 |tup vs=>
  obtain⟨ds,rfl,rs⟩:=r.tup';show aa (!ds.isEmpty)=aa b;rw[rs.empty];exact h
 |lst vs=>
  obtain⟨n,ds,rfl,hs,_,rs⟩:=r.lst';show(Z9 S n).map _=aa b;rw[UT hs];show aa (!ds.isEmpty)=aa b;rw[rs.empty];exact h
theorem yr(hf:∀v w d e b,Rep S X n0 v d->Rep S X n0 w e->f v w=aa b->g d e=aa b):∀{vs ws:List V}{ds es:List D}{b:Bool},Rq S X n0 vs ds->Rq S X n0 ws es->Vv f vs ws=aa b->eqL g ds es=aa b
 |[],[],_,_,b,h1,h2,h=>by rw[h1.nil',h2.nil'];exact h
 |[],w::ws,_,_,b,h1,h2,h=>by rw[h1.nil'];obtain⟨d,es,rfl,_,_⟩:=h2.cons';exact h
 |v::vs,[],_,_,b,h1,h2,h=>by rw[h2.nil'];obtain⟨d,es,rfl,_,_⟩:=h1.cons';exact h
 |v::vs,w::ws,_,_,b,h1,h2,h=>by
  obtain⟨d,ds,rfl,a1,t1⟩:=h1.cons';obtain⟨e,es,rfl,a2,t2⟩:=h2.cons';unfold Vv at h;cases q1:f v w with
  |none=>rw[q1]at h;cases h
  |some x=>
   cases q2:Vv f vs ws with
   |none=>rw[q1,q2]at h;cases h
   |some y=>
    rw[q1,q2]at h;unfold eqL;rw[hf v w d e x a1 a2 q1,yr hf t1 t2 q2];exact h
theorem Qb:∀(k:Nat)(v w:V)(d e:D)(b:Bool),Rep S X n0 v d->Rep S X n0 w e->eqV k v w=aa b->eqD S k d e=aa b
 |0,_,_,_,_,_,_,_,h=>by cases h
 |k+1,v,w,d,e,b,r1,r2,h=>by
  cases v with
  |tup vs=>cases w with
   |tup ws=>
    obtain⟨ds,rfl,t1⟩:=r1.tup';obtain⟨es,rfl,t2⟩:=r2.tup';exact yr (Qb k) t1 t2 h
   |_=>cases h
  |lst vs=>cases w with
   |lst ws=>
    obtain⟨m,ds,rfl,hs1,_,t1⟩:=r1.lst';obtain⟨n,es,rfl,hs2,_,t2⟩:=r2.lst';have h':(if vs.length=ws.length then Vv (eqV k) vs ws else aa ai)=aa b:=h
    show(match Zi S m,Zi S n with
     |some xs,aa ys=>if xs.length=ys.length then eqL (eqD S k) xs ys else aa ai
     |_,_=>ac)=aa b
    rw[ZJ hs1,ZJ hs2];show(if ds.length=es.length then eqL (eqD S k) ds es else aa ai)=aa b
    rw[t1.length,t2.length];by_cases c:vs.length=ws.length
    ·rw[T9 c]at h' ⊢;exact yr (Qb k) t1 t2 h'
    ·rw[T8 c]at h' ⊢;exact h'
   |_=>cases h
  |drw=>cases w <;> cases h
  |dct _=>cases w <;> cases h
  |non=>cases r1.non';cases w with|non=>cases r2.non';exact h|bl _=>cases r2.bl';exact h|int _=>cases r2.int';exact h|str _=>cases r2.str';exact h|_=>cases h
  |bl x=>cases r1.bl';cases w with|non=>cases r2.non';exact h|bl _=>cases r2.bl';exact h|int _=>cases r2.int';exact h|str _=>cases r2.str';exact h|_=>cases h
  |int x=>cases r1.int';cases w with|non=>cases r2.non';exact h|bl _=>cases r2.bl';exact h|int _=>cases r2.int';exact h|str _=>cases r2.str';exact h|_=>cases h
  |str x=>cases r1.str';cases w with|non=>cases r2.non';exact h|bl _=>cases r2.bl';exact h|int _=>cases r2.int';exact h|str _=>cases r2.str';exact h|_=>cases h
theorem yO(rx:Rep S X n0 x dx):∀{vs:List V}{ds:List D}{b:Bool},Rq S X n0 vs ds->Qy x vs=aa b->inL S dx ds=aa b
 |[],_,b,h,e=>by rw[h.nil'];exact e
 |v::vs,_,b,h,e=>by
  obtain⟨d,ds,rfl,a,t⟩:=h.cons';unfold Qy at e;cases q1:eqV Zn v x with
  |none=>rw[q1]at e;cases e
  |some y=>
   cases q2:Qy x vs with
   |none=>rw[q1,q2]at e;cases e
   |some z=>
    rw[q1,q2]at e;unfold inL;rw[Qb _ _ _ _ _ _ a rx q1,yO rx t q2];exact e
def ZaL(r:Rep S X n0 v d)(h:YG v t=aa b):zu S d t=aa b:=by
 cases v with
 |non=>cases r.non';exact h
 |bl x=>cases r.bl';exact h
 |int x=>cases r.int';exact h
 |str x=>cases r.str';exact h
 |drw=>cases h
 |dct o=>
  obtain⟨n,ob,rfl,hs,_,e⟩:=r.dct';show(match S[n]? with
   |some (.lst _)=>aa (ae (t=.list))
   |some (.dt _)=>aa (ae (t=.dict))
   |some (.dk _)=>aa (ae (t=.dict))
   |_=>ac)=aa b
  rw[hs];cases ob with|dt _=>exact h|dk _=>exact h|lst _=>cases e|scr _=>cases e
 |tup vs=>obtain⟨ds,rfl,rs⟩:=r.tup';exact h
 |lst vs=>
  obtain⟨n,ds,rfl,hs,_,rs⟩:=r.lst';show(match S[n]? with
   |some (.lst _)=>aa (ae (t=.list))
   |some (.dt _)=>aa (ae (t=.dict))
   |some (.dk _)=>aa (ae (t=.dict))
   |_=>ac)=aa b
  rw[hs];exact h
theorem zx(r:Rep S X n0 v d):∀{ts:List Ty}{b:Bool},Z2 v ts=aa b->UN S d ts=aa b
 |[],b,h=>h
 |t::ts,b,h=>by
  unfold Z2 at h;unfold UN;cases q:YG v t with
  |none=>rw[q]at h;cases h
  |some x=>
   rw[q]at h;rw[ZaL r q];cases x with|true=>exact h|false=>exact zx r h
def Zce(r:Rq S X n0 vs ds)(h:at' vs i=aa v):∃d,at' ds i=aa d/\Rep S X n0 v d:=by
 unfold at' at h ⊢;rw[r.length];cases q:ixN vs.length i with|none=>rw[q]at h;cases h|some j=>rw[q]at h;exact r.get h
def Xw(r:Rq S X n0 vs ds):Rq S X n0 (YH vs lo hi) (cut ds lo hi):=by
 unfold YH cut;rw[r.length];exact(r.drop _).take _
theorem V0:∀{vs:List V}{ds:List D}{is:List Int},Rq S X n0 vs ds->intsV vs=aa is->YT ds=aa is/\Uc ds=aa is
 |[],_,is,r,h=>by rw[r.nil'];cases h;exact⟨rfl,rfl⟩
 |v::vs,_,is,r,h=>by
  obtain⟨d,ds,rfl,a,t⟩:=r.cons';cases v with
  |int i=>
   cases a.int';have h':(intsV vs).map (i :: ·)=aa is:=h
   cases q:intsV vs with
   |none=>rw[q]at h';cases h'
   |some js=>
    rw[q]at h';obtain⟨e1,e2⟩:=V0 t q;refine⟨?_,?_⟩
    ·show(YT ds).map (i :: ·)=aa is;rw[e1];exact h'
    ·show(Uc ds).map (i :: ·)=aa is;rw[e2];exact h'
  |_=>cases h
theorem QH:∀{vs:List V}{ds:List D}{rs:List (List Int)},Rq S X n0 vs ds->Xi vs=aa rs->YC ds=aa rs
 |[],_,rs,r,h=>by rw[r.nil'];cases h;rfl
 |v::vs,_,rs,r,h=>by
  obtain⟨d,ds,rfl,a,t⟩:=r.cons';cases v with
  |tup xs=>
   obtain⟨es,rfl,r2⟩:=a.tup';unfold Xi at h;cases q1:intsV xs with
   |none=>rw[q1]at h;cases h
   |some x=>
    cases q2:Xi vs with
    |none=>rw[q1,q2]at h;cases h
    |some y=>
     rw[q1,q2]at h;unfold YC;have:Qm (.tup es)=aa x:=(V0 r2 q1).2;rw[this,QH t q2];exact h
  |_=>cases h
theorem G1:∀(is:List Int),Rq S X n0 (is.map V.int) (is.map D.int)
 |[]=>Rq.nil
 |i::is=>Rq.cons (Zp i) (G1 is)
theorem Gu:∀(rs:List (List Int)),Rq S X n0 (rs.map Zc) (rs.map WY)
 |[]=>Rq.nil
 |r::rs=>Rq.cons (ZW (G1 r)) (Gu rs)
def vB(r:Rep S X n0 v d)(h:J3 v=aa b):UE d=aa b:=by
 cases v with|non=>cases r.non';exact h|bl x=>cases r.bl';exact h|int x=>cases r.int';exact h|_=>cases h
theorem VO:∀{vs:List V}{ds:List D}{bs:List Bool},Rq S X n0 vs ds->ZS vs=aa bs->Yt ds=aa bs
 |[],_,bs,r,h=>by rw[r.nil'];exact h
 |v::vs,_,bs,r,h=>by
  obtain⟨d,ds,rfl,a,t⟩:=r.cons';unfold ZS at h;cases q1:J3 v with
  |none=>rw[q1]at h;cases h
  |some x=>
   cases q2:ZS vs with
   |none=>rw[q1,q2]at h;cases h
   |some y=>
    rw[q1,q2]at h;unfold Yt;rw[vB a q1,VO t q2];exact h
def zK(r:Rep S X n0 v d)(h:Z7 v=aa vs):∃ds,Y0 S d=aa ds/\Rq S X n0 vs ds:=by
 cases v with|tup xs=>obtain⟨ds,rfl,rs⟩:=r.tup';cases h;exact⟨ds,rfl,rs⟩|lst xs=>obtain⟨n,ds,rfl,hs,_,rs⟩:=r.lst';cases h;exact⟨ds,UT hs,rs⟩|_=>cases h
end
structure Ext(n0:Nat)(S S':Zb):Prop where
 len:S.length<=S'.length
 keep:∀n o,n≠n0->S[n]? = aa o->S'[n]? = aa o
def Ext.refl :Ext n0 S S:=⟨aD _,λ_ _ _ h=>h⟩
def Ext.trans{n0:Nat}{S S1 S2:Zb}(a:Ext n0 S S1)(b:Ext n0 S1 S2):Ext n0 S S2:=⟨bx a.len b.len,λn o h e=>b.keep n o h (a.keep n o h e)⟩
def Ext.app :Ext n0 S (S++T):=⟨by simp,λn o _ e=>by rw[aP (YX e)];exact e⟩
def Dw(n0:Nat)(S:Zb)(s:DS):Prop:=S[n0]? = aa (.lst [.int s.1,.bl s.2])/\0<=s.1/\(s.2=ai->s.1<2147483647)
def Dw.app(h:Dw n0 S s):Dw n0 (S++T) s:=⟨by rw[aP (YX h.1)];exact h.1,h.2⟩
structure Xok(X:Nat->Prop)(n0:Nat)(S:Zb):Prop where
 z:X n0
 lt:∀n,X n->n<S.length
def Xok.ext{X:Nat->Prop}(h:Xok X n0 S)(e:Ext n0 S S'):Xok X n0 S':=⟨h.z,λn x=>aY (h.lt n x) e.len⟩
def Rep.ext{X:Nat->Prop}(x:Xok X n0 S)(e:Ext n0 S S')(h:Rep S X n0 v d):Rep S' X n0 v d:=
 h.mono (λn o nx hs=>e.keep n o (λz=>nx (z▸x.z)) hs) λ_ _ h=>h
def Rq.ext{X:Nat->Prop}(x:Xok X n0 S)(e:Ext n0 S S')(h:Rq S X n0 v d):Rq S' X n0 v d:=
 h.mono (λn o nx hs=>e.keep n o (λz=>nx (z▸x.z)) hs) λ_ _ h=>h
def Sim{α β:Type}(n0:Nat)(S:Zb)(Rl:Zb->β->α->Prop)(r:R α)(q:PR β):Prop:=match q with
 |.no=>True
 |.ok b s'=>∃a S',r=.ok a S'/\Ext n0 S S'/\Dw n0 S' s'/\Rl S' b a
 |.ex c s'=>∃S',r=.ex c S'/\Ext n0 S S'/\Dw n0 S' s'
section
variable{α β γ δ:Type}{n0:Nat}{S:Zb}{X:Nat->Prop}
theorem Sim.nox{Rl:Zb->β->α->Prop}(h:Sim n0 S Rl r q):Sim n0 S Rl r.nox q.nox:=by
 cases q with
 |no=>exact aA
 |ex c s=>exact aA
 |ok b s=>
  obtain⟨a,S',rfl,x⟩:=h;exact⟨a,S',rfl,x⟩
theorem Sim.bind{Rl:Zb->β->α->Prop}{Rm:Zb->δ->γ->Prop}(h:Sim n0 S Rl r q)
  (k:∀a b S' s',Ext n0 S S'->Dw n0 S' s'->Rl S' b a->Sim n0 S' Rm (f a S') (g b s')):Sim n0 S Rm (r.bind f) (q.bind g):=by
 cases q with
 |no=>exact aA
 |ex c s'=>
  obtain⟨S',e,x,w⟩:=h;rw[e];exact⟨S',rfl,x,w⟩
 |ok b s'=>
  obtain⟨a,S',e,x,w,rl⟩:=h;rw[e];have k':=k a b S' s' x w rl;show Sim n0 S Rm (f a S') (g b s');cases q2:g b s' with
  |no=>exact aA
  |ex c s2=>
   rw[q2]at k';obtain⟨S2,e2,x2,w2⟩:=k';exact⟨S2,e2,x.trans x2,w2⟩
  |ok b2 s2=>
   rw[q2]at k';obtain⟨a2,S2,e2,x2,w2,r2⟩:=k';exact⟨a2,S2,e2,x.trans x2,w2,r2⟩
def Sim.mono{Rl Rm:Zb->β->α->Prop}(h:Sim n0 S Rl r q)(k:∀S' b a,Ext n0 S S'->Rl S' b a->Rm S' b a):Sim n0 S Rm r q:=by
 cases q with
 |no=>exact aA
 |ex c s'=>exact h
 |ok b s'=>
  obtain⟨a,S',e,x,w,rl⟩:=h;exact⟨a,S',e,x,w,k S' b a x rl⟩
theorem Sim.ok{Rl:Zb->β->α->Prop}{a:α}{b:β}{s:DS}(w:Dw n0 S s)(r:Rl S b a):Sim n0 S Rl (.ok a S) (.ok b s):=⟨a,S,rfl,Ext.refl,w,r⟩
theorem Sim.app{Rl:Zb->β->α->Prop}(w:Dw n0 S s)(r:Rl (S++T) b a):Sim n0 S Rl (.ok a (S++T)) (.ok b s):=⟨a,S++T,rfl,Ext.app,w.app,r⟩
theorem Sim.po{Rl:Zb->β->α->Prop}{r:R α}{o:Option β}{s:DS}(h:∀b,o=aa b->Sim n0 S Rl r (.ok b s)):Sim n0 S Rl r (po o s):=by
 cases o with|none=>exact aA|some b=>exact h b rfl
def Sim.obp{Rl:Zb->β->α->Prop}(w:Dw n0 S s)(h:∀b,o=aa b->∃a,o'=aa a/\Rl S b a):Sim n0 S Rl (ob o' S) (Pv.po o s):=by
 cases o with
 |none=>exact aA
 |some b=>
  obtain⟨a,e,r⟩:=h b rfl;rw[e];exact Sim.ok w r
def Sim.guard{Rl:Zb->β->α->Prop}{P:Prop}[Decidable P](h:P->Sim n0 S Rl r q):Sim n0 S Rl (if P then r else r') (if P then q else .no):=by
 by_cases c:P
 ·rw[T9 c,T9 c];exact h c
 ·rw[T8 c,T8 c];exact aA
noncomputable abbrev RlV(X:Nat->Prop)(n0:Nat):Zb->V->D->Prop:=λS v d=>Rep S X n0 v d
noncomputable abbrev ZeW(X:Nat->Prop)(n0:Nat):Zb->List V->List D->Prop:=λS v d=>Rq S X n0 v d
noncomputable abbrev RlE{α:Type}:Zb->α->α->Prop:=λ_ a b=>b=a
def Sim.new(x:Xok X n0 S)(w:Dw n0 S s)(r:Rq S X n0 vs ds):Sim n0 S (RlV X n0) (.ok (.loc S.length) (S++[.lst ds])) (.ok (.lst vs) s):=
 Sim.app w (JF (by simp) (λz=>bw _ (x.lt _ z)) (r.ext x Ext.app))
def xA(xo:Xok X n0 S)(w:Dw n0 S s)(rx:Rep S X n0 x a)(ry:Rep S X n0 y b):Sim n0 S (RlV X n0) (Yl op a b S) (W6 op x y s):=by
 have bad:∀r:R D,Sim n0 S (RlV X n0) r .no:=λ_=>aA
 cases x with
 |int i=>
  cases rx.int';cases y with
  |int j=>
   cases ry.int';cases op with|add=>exact Sim.ok w (Zp _)|sub=>exact Sim.ok w (Zp _)|mul=>exact Sim.guard λ_=>Sim.ok w (Zp _)|fdiv=>exact Sim.guard λ_=>Sim.ok w (Zp _)|mod=>exact Sim.guard λ_=>Sim.ok w (Zp _)|pow=>exact Sim.guard λ_=>Sim.ok w (Zp _)
  |_=>cases op <;> exact bad _
 |tup us=>
  obtain⟨ds,rfl,r1⟩:=rx.tup';cases y with
  |tup ws=>
   obtain⟨es,rfl,r2⟩:=ry.tup';cases op with
   |add=>
    show Sim n0 S (RlV X n0) (if ds.length+es.length<=lim then .ok (.tup (ds++es)) S else .no) (if us.length+ws.length<=lim then .ok (.tup (us++ws)) s else .no)
    rw[r1.length,r2.length];exact Sim.guard λ_=>Sim.ok w (ZW (r1.append r2))
   |_=>exact bad _
  |int j=>
   cases ry.int';cases op with
   |mul=>
    show Sim n0 S (RlV X n0) (if 0<=j/\j<1000/\ds.length<=1000 then .ok (.tup (aq j.toNat ds).flatten) S else .no) (if 0<=j/\j<1000/\us.length<=1000 then .ok (.tup (aq j.toNat us).flatten) s else .no)
    rw[r1.length];exact Sim.guard λ_=>Sim.ok w (ZW (r1.rep _))
   |_=>exact bad _
  |_=>cases op <;> exact bad _
 |lst us=>
  obtain⟨n,ds,rfl,hs,_,r1⟩:=rx.lst';cases y with
  |lst ws=>
   obtain⟨m,es,rfl,hs2,_,r2⟩:=ry.lst';cases op with
   |add=>
    show Sim n0 S (RlV X n0) (match Zi S n,Zi S m with
     |some a,aa b=>if a.length+b.length<=lim then .ok (.loc S.length) (S++[.lst (a++b)])else .no
     |_,_=>.no) (if us.length+ws.length<=lim then .ok (.lst (us++ws)) s else .no)
    rw[ZJ hs,ZJ hs2];show Sim n0 S (RlV X n0) (if ds.length+es.length<=lim then .ok (.loc S.length) (S++[.lst (ds++es)])else .no) _
    rw[r1.length,r2.length];exact Sim.guard λ_=>Sim.new xo w (r1.append r2)
   |_=>exact bad _
  |int j=>
   cases ry.int';cases op with
   |mul=>
    show Sim n0 S (RlV X n0) (match Zi S n with
     |some a=>if 0<=j/\j<1000/\a.length<=1000 then .ok (.loc S.length) (S++[.lst (aq j.toNat a).flatten])else .no
     |none=>.no) (if 0<=j/\j<1000/\us.length<=1000 then .ok (.lst (aq j.toNat us).flatten) s else .no)
    rw[ZJ hs];show Sim n0 S (RlV X n0) (if 0<=j/\j<1000/\ds.length<=1000 then .ok (.loc S.length) (S++[.lst (aq j.toNat ds).flatten])else .no) _
    rw[r1.length];exact Sim.guard λ_=>Sim.new xo w (r1.rep _)
   |_=>exact bad _
  |_=>cases op <;> exact bad _
 |_=>cases op <;> exact bad _
def ZbD(xo:Xok X n0 S)(w:Dw n0 S s)(rx:Rep S X n0 x a)(ry:Rep S X n0 y b):Sim n0 S (RlV X n0) (Qo op a b S) (vm op x y s):=by
 cases x with
 |int i=>cases y with
  |int j=>
   have h:=xA (op:=op) xo w rx ry;cases rx.int';cases ry.int';exact h
  |_=>exact aA
 |_=>exact aA
def JQ(w:Dw n0 S s)(rx:Rep S X n0 x a)(ry:Rep S X n0 y b):Sim n0 S (RlV X n0) (Xq op a b S) (po (Wn op x y) s):=by
 have inn:∀z,XQ x y=aa z->WK S a b=.ok z S:=by
  intro z h;cases y with
  |tup ys=>
   obtain⟨ds,rfl,rs⟩:=ry.tup';show ob (inL S a ds) S=_;rw[yO rx rs h];rfl
  |lst ys=>
   obtain⟨n,ds,rfl,hs,_,rs⟩:=ry.lst';show Zdj S a S[n]? = _;rw[hs];show ob (inL S a ds) S=_;rw[yO rx rs h];rfl
  |_=>cases h
 refine Sim.po λv hv=>?_
 cases op with
 |eq=>
  have hv:(eqV Zn x y).map V.bl=aa v:=hv;cases q:eqV Zn x y with
  |none=>rw[q]at hv;cases hv
  |some z=>
   rw[q]at hv;cases hv;show Sim n0 S (RlV X n0) ((ob (eqD S Zn a b) S).bind _) _;rw[Qb _ _ _ _ _ _ rx ry q];exact Sim.ok w (Zz z)
 |ne=>
  have hv:(eqV Zn x y).map (λb=>V.bl !b)=aa v:=hv
  cases q:eqV Zn x y with
  |none=>rw[q]at hv;cases hv
  |some z=>
   rw[q]at hv;cases hv;show Sim n0 S (RlV X n0) ((ob (eqD S Zn a b) S).bind _) _;rw[Qb _ _ _ _ _ _ rx ry q];exact Sim.ok w (Zz _)
 |lt=>cases x <;> cases y <;> first | (cases hv;cases rx.int';cases ry.int';exact Sim.ok w (Zz _)) | cases hv
 |le=>cases x <;> cases y <;> first | (cases hv;cases rx.int';cases ry.int';exact Sim.ok w (Zz _)) | cases hv
 |ge=>cases x <;> cases y <;> first | (cases hv;cases rx.int';cases ry.int';exact Sim.ok w (Zz _)) | cases hv
 |is=>
  cases y with
  |non=>
   cases ry.non';have e:Xq .is a .non S=.ok (.bl (Vn x)) S:=by
    cases x with|non=>cases rx.non';rfl|bl _=>cases rx.bl';rfl|int _=>cases rx.int';rfl|str _=>cases rx.str';rfl|tup _=>obtain⟨_,rfl,_⟩:=rx.tup';rfl|lst _=>obtain⟨_,_,rfl,_⟩:=rx.lst';rfl|drw=>cases rx.drw';rfl|dct _=>obtain⟨_,_,rfl,_⟩:=rx.dct';rfl
   rw[e];have hv:aa (V.bl (Vn x))=aa v:=by cases x <;> exact hv
   cases hv;exact Sim.ok w (Zz _)
  |bl j=>cases x with|bl i=>cases rx.bl';cases ry.bl';cases hv;exact Sim.ok w (Zz _)|_=>cases hv
  |_=>first | cases hv | (cases x <;> cases hv)
 |inn=>
  have hv:(XQ x y).map V.bl=aa v:=hv;cases q:XQ x y with
  |none=>rw[q]at hv;cases hv
  |some z=>
   rw[q]at hv;cases hv;show Sim n0 S (RlV X n0) ((WK S a b).bind _) _;rw[inn z q];exact Sim.ok w (Zz _)
 |nin=>
  have hv:(XQ x y).map (λb=>V.bl !b)=aa v:=hv
  cases q:XQ x y with
  |none=>rw[q]at hv;cases hv
  |some z=>
   rw[q]at hv;cases hv;show Sim n0 S (RlV X n0) ((WK S a b).bind _) _;rw[inn z q];exact Sim.ok w (Zz _)
def Zck(w:Dw n0 S s)(rx:Rep S X n0 x a)(ry:Rep S X n0 y b):Sim n0 S (RlV X n0) (wE a b S) (po (ixV x y) s):=by
 refine Sim.po λv hv=>?_
 cases x with
 |tup xs=>cases y with
  |int i=>
   obtain⟨ds,rfl,rs⟩:=rx.tup';cases ry.int';obtain⟨d,e,r⟩:=Zce rs hv;show Sim n0 S (RlV X n0) (ob (at' ds i) S) _;rw[e];exact Sim.ok w r
  |_=>cases hv
 |lst xs=>cases y with
  |int i=>
   obtain⟨n,ds,rfl,hs,_,rs⟩:=rx.lst';cases ry.int';obtain⟨d,e,r⟩:=Zce rs hv;show Sim n0 S (RlV X n0) (match Z9 S n with
    |some xs=>ob (at' xs i) S
    |none=>.no) _
   rw[UT hs];show Sim n0 S (RlV X n0) (ob (at' ds i) S) _;rw[e];exact Sim.ok w r
  |_=>cases hv
 |_=>cases y <;> cases hv
def Zde(xo:Xok X n0 S)(w:Dw n0 S s)(rx:Rep S X n0 x a):Sim n0 S (RlV X n0) (slice a lo hi S) (po (slV x lo hi) s):=by
 refine Sim.po λv hv=>?_
 cases x with
 |tup xs=>
  obtain⟨ds,rfl,rs⟩:=rx.tup';cases hv;exact Sim.ok w (ZW (Xw rs))
 |lst xs=>
  obtain⟨n,ds,rfl,hs,_,rs⟩:=rx.lst';cases hv;show Sim n0 S (RlV X n0) (match Zi S n with
    |some xs=>.ok (.loc S.length) (S++[.lst (cut xs lo hi)])
    |none=>.no) _
  rw[ZJ hs];exact Sim.new xo w (Xw rs)
 |_=>cases hv
def ww(lo:Int)(n:Nat):Rq S X n0 (Xj lo n) (ZB lo n):=by
 unfold Xj ZB
 induction aI n with|nil=>exact Rq.nil|cons k r ih=>exact Rq.cons (Zp _) ih
def ZaX(xo:Xok X n0 S)(w:Dw n0 S s)(rs:Rq S X n0 xs ds):Sim n0 S (RlV X n0) (YJ f ds S) (po (UG f xs) s):=by
 refine Sim.po λv hv=>?_
 have one:∀{x:V}{ds:List D},Rq S X n0 [x] ds->∃d,ds=[d]/\Rep S X n0 x d:=λ{x ds} h=>by
  obtain⟨d,es,rfl,a,t⟩:=h.cons';rw[t.nil'];exact⟨d,rfl,a⟩
 have two:∀{x y:V}{ds:List D},Rq S X n0 [x,y] ds->∃d e,ds=[d,e]/\Rep S X n0 x d/\Rep S X n0 y e:=λ{x y ds} h=>by
  obtain⟨d,es,rfl,a,t⟩:=h.cons';obtain⟨e,rfl,b⟩:=one t;exact⟨d,e,rfl,a,b⟩
 rcases xs with _ | ⟨x,_ | ⟨y,_ | ⟨z,ws⟩⟩⟩
 ·cases f <;> cases hv
 ·obtain⟨d,rfl,r⟩:=one rs
  cases f with
  |len=>
   have hv:(Z7 x).map (λxs=>V.int xs.length)=aa v:=hv
   cases q:Z7 x with
   |none=>rw[q]at hv;cases hv
   |some ys=>
    rw[q]at hv;cases hv;obtain⟨es,e,r2⟩:=zK r q;show Sim n0 S (RlV X n0) ((ob (Y0 S d) S).bind _) _;rw[e];show Sim n0 S (RlV X n0) (.ok (.int es.length) S) _;rw[r2.length];exact Sim.ok w (Zp _)
  |toInt=>cases x with
   |int i=>
    cases r.int';cases hv;exact Sim.ok w (Zp _)
   |bl i=>
    cases r.bl';cases hv;exact Sim.ok w (Zp _)
   |_=>cases hv
  |tuple=>
   have hv:(Z7 x).map V.tup=aa v:=hv;cases x with
   |tup ys=>
    obtain⟨es,rfl,r2⟩:=r.tup';cases hv;exact Sim.ok w (ZW r2)
   |lst ys=>
    obtain⟨n,es,rfl,hs,_,r2⟩:=r.lst';cases hv;show Sim n0 S (RlV X n0) ((ob (Zi S n) S).bind _) _;rw[ZJ hs];exact Sim.ok w (ZW r2)
   |_=>cases hv
  |list=>
   have hv:(Z7 x).map V.lst=aa v:=hv;cases q:Z7 x with
   |none=>rw[q]at hv;cases hv
   |some ys=>
    rw[q]at hv;cases hv;obtain⟨es,e,r2⟩:=zK r q;show Sim n0 S (RlV X n0) ((ob (Y0 S d) S).bind _) _;rw[e];exact Sim.new xo w r2
  |all=>cases x with
   |lst ys=>
    obtain⟨n,es,rfl,hs,_,r2⟩:=r.lst';have hv:(ZS ys).map (λbs=>V.bl (bs.all id))=aa v:=hv
    cases q:ZS ys with
    |none=>rw[q]at hv;cases hv
    |some bs=>
     rw[q]at hv;cases hv;show Sim n0 S (RlV X n0) ((ob (Zi S n) S).bind _) _;rw[ZJ hs];show Sim n0 S (RlV X n0) ((ob (Yt es) S).bind _) _;rw[VO r2 q];exact Sim.ok w (Zz _)
   |_=>cases hv
  |any=>
   have hv:(Z7 x).bind (λxs=>(ZS xs).map λbs=>V.bl (bs.any id))=aa v:=hv
   cases q:Z7 x with
   |none=>rw[q]at hv;cases hv
   |some ys=>
    rw[q]at hv;have hv:(ZS ys).map (λbs=>V.bl (bs.any id))=aa v:=hv
    obtain⟨es,e,r2⟩:=zK r q;cases q2:ZS ys with
    |none=>rw[q2]at hv;cases hv
    |some bs=>
     rw[q2]at hv;cases hv;show Sim n0 S (RlV X n0) ((ob (Y0 S d) S).bind _) _;rw[e];show Sim n0 S (RlV X n0) ((ob (Yt es) S).bind _) _;rw[VO r2 q2];exact Sim.ok w (Zz _)
  |sum=>cases x with
   |lst ys=>
    obtain⟨n,es,rfl,hs,_,r2⟩:=r.lst';have hv:(intsV ys).bind (λis=>if XR is=ag then aa (V.int is.sum)else ac)=aa v:=hv
    cases q:intsV ys with
    |none=>rw[q]at hv;cases hv
    |some is=>
     rw[q]at hv;have hv:(if XR is=ag then aa (V.int is.sum)else ac)=aa v:=hv
     show Sim n0 S (RlV X n0) ((ob (Zi S n) S).bind _) _;rw[ZJ hs];show Sim n0 S (RlV X n0) ((ob (YT es) S).bind _) _;rw[(V0 r2 q).1];show Sim n0 S (RlV X n0) (if XR is=ag then .ok (.int is.sum) S else .no) _
     by_cases c:XR is=ag
     ·rw[T9 c]at hv ⊢;cases hv;exact Sim.ok w (Zp _)
     ·rw[T8 c]at hv;cases hv
   |_=>cases hv
  |sortedR=>cases x with
   |lst ys=>
    obtain⟨n,es,rfl,hs,_,r2⟩:=r.lst';have hv:(Xi ys).bind (λrs=>if YW rs=ag then aa (V.lst ((ZY rs).reverse.map Zc))else ac)=aa v:=hv
    cases q:Xi ys with
    |none=>rw[q]at hv;cases hv
    |some ws=>
     rw[q]at hv;have hv:(if YW ws=ag then aa (V.lst ((ZY ws).reverse.map Zc))else ac)=aa v:=hv
     show Sim n0 S (RlV X n0) ((ob (Zi S n) S).bind _) _;rw[ZJ hs];show Sim n0 S (RlV X n0) ((ob (YC es) S).bind _) _;rw[QH r2 q];show Sim n0 S (RlV X n0) (if YW ws=ag then .ok (.loc S.length) (S++[.lst ((ZY ws).reverse.map WY)])else .no) _
     by_cases c:YW ws=ag
     ·rw[T9 c]at hv ⊢;cases hv;exact Sim.new xo w (Gu _)
     ·rw[T8 c]at hv;cases hv
   |_=>cases hv
  |_=>first | cases hv | (cases x <;> cases hv)
 ·obtain⟨d,e,rfl,r1,r2⟩:=two rs
  cases f with
  |max2=>cases x with
   |int i=>cases y with
    |int j=>
     cases r1.int';cases r2.int';cases hv;exact Sim.ok w (Zp _)
    |_=>cases hv
   |_=>cases y <;> cases hv
  |min2=>cases x with
   |int i=>cases y with
    |int j=>
     cases r1.int';cases r2.int';cases hv;exact Sim.ok w (Zp _)
    |_=>cases hv
   |_=>cases y <;> cases hv
  |_=>first | cases hv | (cases x <;> cases hv)
 ·cases f <;> first | cases hv | (cases x <;> first | cases hv | (cases y <;> cases hv))
end
structure Ew(S:Zb)(X:Nat->Prop)(n0:Nat)(ρ:Env)(σ:Lc):Prop where
 len:ρ.length=σ.length
 val:∀(i:Nat)(v:V),ρ[i]? = aa (aa v)->∃d,σ[i]? = aa (aa d)/\Rep S X n0 v d
section
variable{S S':Zb}{X X':Nat->Prop}{n0:Nat}{ρ ρ':Env}{σ σ':Lc}
theorem Ew.mono(k:∀n o,¬X n->S[n]? = aa o->S'[n]? = aa o)(x:∀n,n<S.length->X' n->X n)(h:Ew S X n0 ρ σ):Ew S' X' n0 ρ σ:=
 ⟨h.len,λi v e=>let ⟨d,a,b⟩:=h.val i v e;⟨d,a,b.mono k x⟩⟩
theorem Ew.ext(x:Xok X n0 S)(e:Ext n0 S S')(h:Ew S X n0 ρ σ):Ew S' X n0 ρ σ:=
 ⟨h.len,λi v q=>let ⟨d,a,b⟩:=h.val i v q;⟨d,a,b.ext x e⟩⟩
def Ew.weak(h:Ew S X n0 ρ σ)(hl:ρ'.length=ρ.length)(w:∀(i:Nat)(v:V),ρ'[i]? = aa (aa v)->ρ[i]? = aa (aa v)):Ew S X n0 ρ' σ:=⟨by rw[hl];exact h.len,λi v e=>h.val i v (w i v e)⟩
theorem Ew.set(h:Ew S X n0 ρ σ)(i:Nat)(r:Rep S X n0 v d):Ew S X n0 (ρ.set i (aa v)) (σ.set i (aa d)):=by
 refine⟨by rw[aV,aV];exact h.len,λj w e=>?_⟩
 rw[cH]at e ⊢;by_cases c:i=j
 ·rw[T9 c]at e ⊢
  by_cases l:i<ρ.length
  ·rw[T9 l]at e
   rw[T9 (by rw[<-h.len];exact l)]
   cases e;exact⟨d,rfl,r⟩
  ·rw[T8 l]at e;cases e
 ·rw[T8 c]at e ⊢
  exact h.val j w e
theorem Gb:∀{t:List Nat}{vs:List V}{ds:List D}{ρ ρ':Env}{σ:Lc},Ew S X n0 ρ σ->Rq S X n0 vs ds->Xv t vs ρ=aa ρ'->∃σ',fill t ds σ=aa σ'/\Ew S X n0 ρ' σ'
 |[],[],_,ρ,ρ',σ,h,r,e=>by rw[r.nil'];cases e;exact⟨σ,rfl,h⟩
 |[],_::_,_,_,_,_,_,_,e=>by cases e
 |_::_,[],_,_,_,_,_,_,e=>by cases e
 |i::t,v::vs,_,ρ,ρ',σ,h,r,e=>by
  obtain⟨d,ds,rfl,a,b⟩:=r.cons';exact Gb (t:=t) (vs:=vs) (h.set i a) b e
def v8(h:Ew S X n0 ρ σ)(r:Rep S X n0 v d)(e:Zx t v ρ=aa ρ'):∃σ',assign t d S σ=aa σ'/\Ew S X n0 ρ' σ':=by
 have gen:∀t:List Nat,(∀i,t≠[i])->(match Z7 v with
   |some xs=>Xv t xs ρ
   |none=>ac)=aa ρ'->∃σ',(match d with
   |.tup xs=>fill t xs σ
   |.loc n=>match Zi S n with
    |some xs=>fill t xs σ
    |none=>ac
   |_=>ac)=aa σ'/\Ew S X n0 ρ' σ':=by
  intro t _ e;cases v with
  |tup vs=>obtain⟨ds,rfl,rs⟩:=r.tup';exact Gb h rs e
  |lst vs=>
   obtain⟨n,ds,rfl,hs,_,rs⟩:=r.lst';obtain⟨σ',a,b⟩:=Gb h rs e;refine⟨σ',?_,b⟩;show(match Zi S n with
    |some xs=>fill t xs σ
    |none=>ac)=aa σ'
   rw[ZJ hs];exact a
  |_=>cases e
 match t,e with
 |[i],e=>cases e;exact⟨_,rfl,h.set i r⟩
 |[],e=>exact gen [] (by simp) e
 |i::j::t,e=>exact gen (i::j::t) (by simp) e
theorem YD:∀{t:List Nat}{vs:List V}{ρ ρ':Env},Xv t vs ρ=aa ρ'->ρ'.length=ρ.length/\∀j,j∉t->ρ'[j]? = ρ[j]?
 |[],[],ρ,ρ',e=>by cases e;exact⟨rfl,λ_ _=>rfl⟩
 |[],_::_,_,_,e=>by cases e
 |_::_,[],_,_,e=>by cases e
 |i::t,v::vs,ρ,ρ',e=>by
  obtain⟨a,b⟩:=YD (t:=t) (vs:=vs) (ρ:=ρ.set i (aa v)) e;refine⟨by rw[a,aV],λj hj=>?_⟩
  have hij:i≠j:=λz=>hj (by rw[z];exact am ..)
  rw[b j (λz=>hj (al _ z)),aE hij]
def Xu(e:Zx t v ρ=aa ρ'):ρ'.length=ρ.length/\∀j,j∉t->ρ'[j]? = ρ[j]?:=by
 match t,e with
 |[i],e=>cases e;exact⟨by simp,λj hj=>aE (λz:i=j=>hj (by rw[z];exact am ..))⟩
 |[],e=>
  have e:(match Z7 v with | some xs=>Xv [] xs ρ | none=>ac)=aa ρ':=e
  cases q:Z7 v with|none=>rw[q]at e;cases e|some xs=>rw[q]at e;exact YD e
 |i::j::t,e=>
  have e:(match Z7 v with | some xs=>Xv (i::j::t) xs ρ | none=>ac)=aa ρ':=e
  cases q:Z7 v with|none=>rw[q]at e;cases e|some xs=>rw[q]at e;exact YD e
noncomputable def WkR(X:Nat->Prop)(n0:Nat):Zb->List V->Walk->Prop:=λS vs w=>Rq S X n0 vs w.items/\∀p∈w.kept,S[p.1]? = aa (.lst p.2)/\¬X p.1
def Vc{w:Walk}(h:∀p∈w.kept,S[p.1]? = aa (.lst p.2)):w.still S=ag:=by
 unfold Walk.still;rw[aU];intro p hp;exact T5 (h p hp)
def WB(r:Rep S X n0 v d)(h:Z7 v=aa vs):∃w,Ya S d=aa w/\WkR X n0 S vs w:=by
 cases v with
 |tup xs=>obtain⟨ds,rfl,rs⟩:=r.tup';cases h;exact⟨⟨ds,[]⟩,rfl,rs,λp hp=>by cases hp⟩
 |lst xs=>
  obtain⟨n,ds,rfl,hs,hx,rs⟩:=r.lst';cases h;refine⟨⟨ds,[(n,ds)]⟩,?_,rs,λp hp=>?_⟩
  ·unfold Ya;simp only[hs]
  ·rcases bp.mp hp with rfl
   exact⟨hs,hx⟩
 |_=>cases h
theorem J6:∀{vs ws:List V}{ds es:List D},Rq S X n0 vs ds->Rq S X n0 ws es->Rq S X n0 ((vs.zip ws).map λp=>V.tup [p.1,p.2]) ((ds.zip es).map λp=>D.tup [p.1,p.2])
 |[],_,_,_,a,_=>by rw[a.nil'];simp only[ll,gf];exact Rq.nil
 |_::_,[],_,_,a,b=>by rw[b.nil'];simp only[kO,gf];exact Rq.nil
 |v::vs,w::ws,_,_,a,b=>by
  obtain⟨d,ds,rfl,a1,a2⟩:=a.cons';obtain⟨e,es,rfl,b1,b2⟩:=b.cons';exact Rq.cons (ZW (Rq.cons a1 (Rq.cons b1 Rq.nil))) (J6 a2 b2)
end
structure Ext2(n0 m:Nat)(S S':Zb):Prop where
 len:S.length<=S'.length
 keep:∀n o,n≠n0->n≠m->S[n]? = aa o->S'[n]? = aa o
def Ext2.trans{n0 m:Nat}{S S1 S2:Zb}(a:Ext2 n0 m S S1)(b:Ext2 n0 m S1 S2):Ext2 n0 m S S2:=⟨bx a.len b.len,λn o h z e=>b.keep n o h z (a.keep n o h z e)⟩
def Ext2.refl :Ext2 n0 m S S:=⟨aD _,λ_ _ _ _ h=>h⟩
def Ext.two(h:Ext n0 S S'):Ext2 n0 m S S':=⟨h.len,λn o a _ e=>h.keep n o a e⟩
section
variable{n0 m:Nat}{X:Nat->Prop}
def Rq.ext2(z:X n0)(zm:X m)(e:Ext2 n0 m S S')(h:Rq S X n0 v d):Rq S' X n0 v d:=
 h.mono (λn o nx hs=>e.keep n o (λq=>nx (q▸z)) (λq=>nx (q▸zm)) hs) λ_ _ h=>h
def Ew.ext2(z:X n0)(zm:X m)(e:Ext2 n0 m S S')(h:Ew S X n0 ρ σ):Ew S' X n0 ρ σ:=
 h.mono (λn o nx hs=>e.keep n o (λq=>nx (q▸z)) (λq=>nx (q▸zm)) hs) λ_ _ h=>h
def Xok.ext2(h:Xok X n0 S)(e:Ext2 n0 m S S'):Xok X n0 S':=⟨h.z,λn x=>aY (h.lt n x) e.len⟩
def Turn(n0 m:Nat)(X:Nat->Prop)(ρ:Env)(S:Zb)(ds:List D)(q:PR (List V))(r:R Lc):Prop:=∀ys s',q=.ok ys s'->ds.length+ys.length<=lim->
 ∃σ' S' es,r=.ok σ' S'/\Ext2 n0 m S S'/\Ew S' X n0 ρ σ'/\Dw n0 S' s'/\S'[m]? = aa (.lst (ds++es))/\Rq S' X n0 ys es
theorem zH{ρ:Env}{wk:Walk}{f:V->DS->PR (List V)}{turn:D->Lc->Zb->R Lc}(zm:X m)(hk:∀p∈wk.kept,¬X p.1)
  (ht:∀x d S s σ ds,Xok X n0 S->Rep S X n0 x d->Ew S X n0 ρ σ->Dw n0 S s->S[m]? = aa (.lst ds)->Turn n0 m X ρ S ds (f x s) (turn d σ S)) :
  ∀(vs:List V)(es:List D)(S:Zb)(s:DS)(σ:Lc)(ds:List D),Xok X n0 S->Rq S X n0 vs es->Ew S X n0 ρ σ->Dw n0 S s->S[m]? = aa (.lst ds)->(∀p∈wk.kept,S[p.1]? = aa (.lst p.2))->Turn n0 m X ρ S ds (mapP f vs s) (Xd wk turn es σ S)
 |[],es,S,s,σ,ds,xo,rs,he,w,hm,hs=>by
  intro ys s' q _;cases q;rw[rs.nil'];exact⟨σ,S,[],by rw[Xd,T9 (Vc hs)],Ext2.refl,he,w,by rw[dF];exact hm,Rq.nil⟩
 |v::vs,es,S,s,σ,ds,xo,rs,he,w,hm,hs=>by
  intro ys s' q hl;obtain⟨d,es,rfl,r1,r2⟩:=rs.cons';unfold mapP at q;cases q1:f v s with
  |no=>rw[q1]at q;cases q
  |ex _ _=>rw[q1]at q;cases q
  |ok y1 s1=>
   rw[q1]at q;cases q2:mapP f vs s1 with
   |no=>simp only[q2]at q;cases q
   |ex _ _=>simp only[q2]at q;cases q
   |ok y2 s2=>
    simp only[q2]at q;cases q;rw[aW]at hl;obtain⟨σ1,S1,e1,a1,a2,a3,a4,a5,a6⟩:=ht v d S s σ ds xo r1 he w hm y1 s1 q1 (by omega)
    have xo1:=xo.ext2 a2;have hs1:∀p∈wk.kept,S1[p.1]? = aa (.lst p.2):=λp hp=>a2.keep _ _ (λz=>hk p hp (z▸xo.z)) (λz=>hk p hp (z▸zm)) (hs p hp)
    obtain⟨σ2,S2,e2,b1,b2,b3,b4,b5,b6⟩:=zH zm hk ht vs es S1 s1 σ1 (ds++e1) xo1 (r2.ext2 xo.z zm a2) a3 a4 a5 hs1 y2 _ q2 (by rw[aW,a6.length];omega)
    refine⟨σ2,S2,e1++e2,?_,a2.trans b2,b3,b4,by rw[<-cV];exact b5,(a6.ext2 xo.z zm b2).append b6⟩
    rw[Xd,T9 (Vc hs),a1];exact b1
def Zbw(hm:S[m]? = aa (.lst ds))(hl:ds.length<lim):push m y S=.ok () (S.set m (.lst (ds++[y]))):=by
 unfold push;rw[ZJ hm];show(if ds.length<lim then _ else _)=_
 rw[T9 hl]
end
def ZaT :∀{vs:List V}{s s':DS}{c:Nat},mapP f vs s≠.ex c s'
 |[],_,_,_,h=>by cases h
 |v::vs,s,s',c,h=>by
  unfold mapP at h;cases q1:f v s with
  |no=>rw[q1]at h;cases h
  |ex _ _=>rw[q1]at h;cases h
  |ok y s1=>
   rw[q1]at h;cases q2:mapP f vs s1 with|no=>simp only[q2]at h;cases h|ex _ _=>simp only[q2]at h;cases h|ok z s2=>simp only[q2]at h;cases h
section
variable{n0 m:Nat}{X:Nat->Prop}{C:Calls}{CV:Zy}
def uG{S:Zb}{o:Ob}:Ext2 n0 m S (S.set m o):=⟨by simp,λn o' _ z e=>by rw[aE (Ne.symm z)];exact e⟩
def Zes{α:Type}{o:Option α}{s s':DS}{a:α}(h:po o s=.ok a s'):o=aa a/\s'=s:=by
 cases o with|none=>cases h|some b=>cases h;exact⟨rfl,rfl⟩
def Y1{α β:Type}{r:PR α}{f:α->DS->PR β}{b:β}{s':DS}(h:r.bind f=.ok b s'):∃a s1,r=.ok a s1/\f a s1=.ok b s':=by
 cases r with|no=>cases h|ex _ _=>cases h|ok a s1=>exact⟨a,s1,rfl,h⟩
def Sim.out{α β:Type}{S:Zb}{Rl:Zb->β->α->Prop}{r:R α}{q:PR β}{b:β}{s':DS}(h:Sim n0 S Rl r q)(e:q=.ok b s'):∃a S',r=.ok a S'/\Ext n0 S S'/\Dw n0 S' s'/\Rl S' b a:=by
 rw[e]at h;exact h
def Zae{ρ ρ1:Env}{t:List Nat}{x:V}(e:Zx t x ρ=aa ρ1)(hno:∀i∈t,∀v,ρ[i]?≠aa (aa v)):ρ.length=ρ1.length/\∀(i:Nat)(v:V),ρ[i]? = aa (aa v)->ρ1[i]? = aa (aa v):=by
 obtain⟨a,b⟩:=Xu e;refine⟨a.symm,λi v h=>?_⟩
 rw[b i λz=>hno i z v h];exact h
def Zej{ρ:Env}{t:List Nat}{ifs:List E}{elt:E}{x:V}{d:D}{S:Zb}{s:DS}{σ:Lc}{ds:List D}(hmn:m≠n0)(zm:X m)
  (hT:∀{ρ:Env}{σ:Lc}{S:Zb}{s:DS},Xok X n0 S->Ew S X n0 ρ σ->Dw n0 S s->Sim n0 S RlE (evt C ifs σ S) (pvt CV ifs ρ s))(hE:∀{ρ:Env}{σ:Lc}{S:Zb}{s:DS},Xok X n0 S->Ew S X n0 ρ σ->Dw n0 S s->Sim n0 S (RlV X n0) (ev C elt σ S) (pv CV elt ρ s))
  (hno:∀i∈t,∀v,ρ[i]?≠aa (aa v))(xo:Xok X n0 S)(rx:Rep S X n0 x d)(he:Ew S X n0 ρ σ)(w:Dw n0 S s)(hm:S[m]? = aa (.lst ds)) :
  Turn n0 m X ρ S ds ((po (Zx t x ρ) s).bind λσ s=>(pvt CV ifs σ s).bind λb s=>if b then(pv CV elt σ s).bind λy s=>.ok [y] s else .ok [] s)
   ((ob (assign t d S σ) S).bind λσ S1=>(evt C ifs σ S1).bind λb S1=>if b then(ev C elt σ S1).bind λy S1=>(push m y S1).bind λ_ S1=>.ok σ S1 else .ok σ S1):=by
 intro ys s' q hl;obtain⟨ρ1,s1,qa,qb⟩:=Y1 q;clear q;obtain⟨q1,es1⟩:=Zes qa;subst es1;obtain⟨σ1,e1,he1⟩:=v8 he rx q1;obtain⟨b,s2,q2,q⟩:=Y1 qb;clear qb;obtain⟨b',S2,e2,x2,w2,rfl⟩:=(hT xo he1 w).out q2;obtain⟨kl,kv⟩:=Zae q1 hno;have xo2:=xo.ext x2;have he2:=he1.ext xo x2;have hm2:=x2.keep m _ hmn hm;cases b' with
 |false=>
  cases q;refine⟨σ1,S2,[],?_,x2.two,he2.weak kl kv,w2,by rw[dF];exact hm2,Rq.nil⟩
  rw[e1];show((evt C ifs σ1 S).bind _)=_;rw[e2];rfl
 |true=>
  obtain⟨y,s3,q3,qe⟩:=Y1 q;cases qe;obtain⟨dy,S3,e3,x3,w3,r3⟩:=(hE xo2 he2 w2).out q3;have hm3:=x3.keep m _ hmn hm2;have xo3:=xo2.ext x3;have hs:Ext2 n0 m S3 (S3.set m (.lst (ds++[dy]))):=uG;refine⟨σ1,S3.set m (.lst (ds++[dy])),[dy],?_,(x2.two.trans x3.two).trans hs,((he2.ext xo2 x3).ext2 xo.z zm hs).weak kl kv,⟨by rw[aE hmn];exact w3.1,w3.2⟩,aQ (YX hm3),Rq.ext2 xo.z zm hs (Rq.cons r3 Rq.nil)⟩
  rw[e1];show((evt C ifs σ1 S).bind _)=_;rw[e2];show((ev C elt σ1 S2).bind _)=_;rw[e3];show((push m dy S3).bind _)=_;rw[Zbw hm3 (by simp at hl;omega)];rfl
def vf(he:Ew S X n0 ρ σ):Ew S X n0 (Yp cap nl ρ) (caught cap nl σ):=by
 refine⟨by simp[Yp,caught],λi v h=>?_⟩
 unfold Yp at h;unfold caught;by_cases c:i<nl
 ·rw[aP (by simpa using c)]at h
  simp[c]at h
 ·rw[bf (by simp;omega)]at h ⊢
  rw[cL]at h ⊢;rw[bg]at h ⊢;cases q:cap[i-nl]? with
  |none=>rw[q]at h;cases h
  |some j=>
   rw[q]at h;have h':(ρ[j]?).join=aa v:=af h;cases q2:ρ[j]? with
   |none=>rw[q2]at h';cases h'
   |some o=>
    rw[q2]at h';have h'':o=aa v:=h';subst h'';obtain⟨d,e,r⟩:=he.val j v q2;exact⟨d,by show aa ((σ[j]?).join)=_;rw[e];rfl,r⟩
def vc(h:i<nl)(v:V):(Yp cap nl ρ)[i]?≠aa (aa v):=by
 unfold Yp;rw[aP (by simpa using h)]
 simp[h]
def qf(xo:Xok X n0 S)(w:Dw n0 S s)(rw':WkR X n0 S vs wk)(he:Ew S X n0 ρ0 σ0)
  (ht:∀x d S1 s σ ds,Xok (λn=>X n\/n=S.length) n0 S1->Rep S1 (λn=>X n\/n=S.length) n0 x d->Ew S1 (λn=>X n\/n=S.length) n0 ρ0 σ->Dw n0 S1 s->S1[S.length]? = aa (.lst ds)->Turn n0 S.length (λn=>X n\/n=S.length) ρ0 S1 ds (f x s) (turn d σ S1)) :
  Sim n0 S (RlV X n0) ((Xd wk turn wk.items σ0 (S++[.lst []])).bind λ_ S1=>.ok (.loc S.length) S1) ((mapP f vs s).bind λys s=>if ys.length<=lim then .ok (.lst ys) s else .no):=by
 cases q:mapP f vs s with
 |no=>exact aA
 |ex c s'=>exact T7 q ZaT
 |ok ys s'=>
  show Sim n0 S _ _ (if ys.length<=lim then PR.ok (V.lst ys) s' else .no)
  by_cases c:ys.length<=lim
  ·rw[T9 c]
   have hX:∀n,n<S.length->(X n\/n=S.length)->X n:=λn h z=>z.elim id λe=>T7 (e▸h) (bw _)
   have hk:∀n o,¬X n->S[n]? = aa o->(S++[Ob.lst []])[n]? = aa o:=λn o _ e=>by rw[aP (YX e)];exact e
   have xo1:Xok (λn=>X n\/n=S.length) n0 (S++[.lst []]):=⟨.inl xo.z,λn h=>by
    rw[aW,cw];rcases h with h | h
    ·have:=xo.lt n h;omega
    ·omega⟩
   obtain⟨σ',S',es,a1,a2,a3,a4,a5,a6⟩:=zH (m:=S.length) (ρ:=ρ0) (wk:=wk) (.inr rfl) (λp hp z=>(rw'.2 p hp).2 (hX _ (YX (rw'.2 p hp).1) z)) ht vs wk.items (S++[.lst []]) s σ0 [] xo1 (rw'.1.mono hk hX) (he.mono hk hX) w.app (by simp) (λp hp=>hk _ _ (rw'.2 p hp).2 (rw'.2 p hp).1) ys s' q (by simpa using c)
   refine⟨.loc S.length,S',by rw[a1];rfl,⟨bx (by simp) a2.len,λn o hn e=>a2.keep n o hn (λz=>T7 (YX e) (by omega)) (by rw[aP (YX e)];exact e)⟩,a4,?_⟩
   exact JF a5 (λz=>bw _ (xo.lt _ z)) (a6.mono (λn o nx e=>e) λn _ h=>.inl h)
  ·rw[T8 c];exact aA
end
def Z3(n0:Nat)(C:Calls)(CV:Zy):Prop:=∀(f:Nat)(vs:List V)(ds:List D)(S:Zb)(s:DS)(X:Nat->Prop),Xok X n0 S->Dw n0 S s->Rq S X n0 vs ds->Sim n0 S (RlV X n0) (C f ds S) (CV f vs s)
section
variable{n0:Nat}{C:Calls}{CV:Zy}
def xP{X:Nat->Prop}(hx:¬X S.length)(h:uP o=aa ks):Rep (S++[o]) X n0 (.dct ks) (.loc S.length):=by
 unfold Rep;exact⟨S.length,o,rfl,by rw[bf (aD _),ln];rfl,hx,h⟩
mutual
theorem ZX(H:Z3 n0 C CV):∀(e:E){X:Nat->Prop}{ρ:Env}{σ:Lc}{S:Zb}{s:DS},Xok X n0 S->Ew S X n0 ρ σ->Dw n0 S s->Sim n0 S (RlV X n0) (ev C e σ S) (pv CV e ρ s)
 |.c d,X,ρ,σ,S,s,xo,he,w=>by
  rw[ev,pv];exact Sim.po λv hv=>Sim.ok w (x9 hv)
 |.v i,X,ρ,σ,S,s,xo,he,w=>by
  rw[ev,pv];refine Sim.obp w λv hv=>?_
  cases q:ρ[i]? with
  |none=>rw[q]at hv;cases hv
  |some o=>
   rw[q]at hv;have hv:o=aa v:=hv;subst hv;obtain⟨d,e,r⟩:=he.val i v q;exact⟨d,by rw[e];rfl,r⟩
 |.tup es,X,ρ,σ,S,s,xo,he,w=>by
  rw[ev,pv];refine(Uf H es xo he w).bind λds vs S1 s1 x1 w1 r1=>?_
  rw[Rq.length r1];exact Sim.guard λ_=>Sim.ok w1 (ZW r1)
 |.lst es,X,ρ,σ,S,s,xo,he,w=>by
  rw[ev,pv];refine(Uf H es xo he w).bind λds vs S1 s1 x1 w1 r1=>?_
  rw[Rq.length r1];exact Sim.guard λ_=>Sim.new (xo.ext x1) w1 r1
 |.dnew,X,ρ,σ,S,s,xo,he,w=>by
  rw[ev,pv];exact⟨_,_,rfl,Ext.app,w.app,xP (λz=>T7 (xo.lt _ z) (by omega)) rfl⟩
 |.dput1 k v,X,ρ,σ,S,s,xo,he,w=>by
  rw[ev,pv];refine(ZX H k xo he w).bind λd x S1 s1 x1 w1 r1=>?_
  have xo1:=xo.ext x1;refine(ZX H v xo1 (he.ext xo x1) w1).bind λd2 y S2 s2 x2 w2 r2=>?_
  have xo2:=xo1.ext x2;cases x with
  |int i=>
   cases y with
   |int j=>
    cases r1.int';cases r2.int';exact⟨_,_,rfl,Ext.app,w2.app,xP (λz=>T7 (xo2.lt _ z) (by omega)) rfl⟩
   |_=>exact aA
  |_=>cases y <;> exact aA
 |.mt _ _ _,X,ρ,σ,S,s,xo,he,w=>by rw[pv];exact aA
 |.bin op a b,X,ρ,σ,S,s,xo,he,w=>by
  rw[ev,pv];exact(ZX H a xo he w).bind λd v S1 s1 x1 w1 r1=>(ZX H b (xo.ext x1) (he.ext xo x1) w1).bind λe u S2 s2 x2 w2 r2=>xA ((xo.ext x1).ext x2) w2 (Rep.ext (xo.ext x1) x2 r1) r2
 |.neg a,X,ρ,σ,S,s,xo,he,w=>by
  rw[ev,pv];refine(ZX H a xo he w).bind λd v S1 s1 x1 w1 r1=>?_
  cases v with|int i=>cases Rep.int' r1;exact Sim.ok w1 (Zp _)|_=>exact aA
 |.not a,X,ρ,σ,S,s,xo,he,w=>by
  rw[ev,pv];refine(ZX H a xo he w).bind λd v S1 s1 x1 w1 r1=>?_
  cases q:Yc v with
  |none=>exact aA
  |some b=>
   rw[Xa r1 q];exact Sim.ok w1 (Zz _)
 |.and a b,X,ρ,σ,S,s,xo,he,w=>by
  rw[ev,pv];refine(ZX H a xo he w).bind λd v S1 s1 x1 w1 r1=>?_
  cases v with
  |bl c=>
   cases Rep.bl' r1;cases c with|true=>exact ZX H b (xo.ext x1) (he.ext xo x1) w1|false=>exact Sim.ok w1 (Zz _)
  |_=>exact aA
 |.or a b,X,ρ,σ,S,s,xo,he,w=>by
  rw[ev,pv];refine(ZX H a xo he w).bind λd v S1 s1 x1 w1 r1=>?_
  cases v with
  |bl c=>
   cases Rep.bl' r1;cases c with|true=>exact Sim.ok w1 (Zz _)|false=>exact ZX H b (xo.ext x1) (he.ext xo x1) w1
  |_=>exact aA
 |.ite t a b,X,ρ,σ,S,s,xo,he,w=>by
  rw[ev,pv];refine(ZX H t xo he w).bind λd v S1 s1 x1 w1 r1=>?_
  cases q:Yc v with
  |none=>exact aA
  |some c=>
   rw[Xa r1 q];cases c with|true=>exact ZX H a (xo.ext x1) (he.ext xo x1) w1|false=>exact ZX H b (xo.ext x1) (he.ext xo x1) w1
 |.cmp op a b,X,ρ,σ,S,s,xo,he,w=>by
  rw[ev,pv];exact(ZX H a xo he w).bind λd v S1 s1 x1 w1 r1=>(ZX H b (xo.ext x1) (he.ext xo x1) w1).bind λe u S2 s2 x2 w2 r2=>JQ w2 (Rep.ext (xo.ext x1) x2 r1) r2
 |.chain o p a b d,X,ρ,σ,S,s,xo,he,w=>by
  rw[ev,pv];refine(ZX H a xo he w).bind λda va S1 s1 x1 w1 r1=>(ZX H b (xo.ext x1) (he.ext xo x1) w1).bind λdb vb S2 s2 x2 w2 r2=>(JQ w2 (Rep.ext (xo.ext x1) x2 r1) r2).bind λdz vz S3 s3 x3 w3 r3=>?_
  cases vz with
  |bl c=>
   cases Rep.bl' r3;cases c with
   |true=>
    refine(ZX H d (((xo.ext x1).ext x2).ext x3) (((he.ext xo x1).ext (xo.ext x1) x2).ext ((xo.ext x1).ext x2) x3) w3).bind λdd vd S4 s4 x4 w4 r4=>JQ w4 (Rep.ext (((xo.ext x1).ext x2).ext x3) x4 (Rep.ext ((xo.ext x1).ext x2) x3 r2)) r4
   |false=>exact Sim.ok w3 (Zz _)
  |_=>exact aA
 |.ix a i,X,ρ,σ,S,s,xo,he,w=>by
  rw[ev,pv];exact(ZX H a xo he w).bind λd v S1 s1 x1 w1 r1=>(ZX H i (xo.ext x1) (he.ext xo x1) w1).bind λe u S2 s2 x2 w2 r2=>Zck w2 (Rep.ext (xo.ext x1) x2 r1) r2
 |.sl a lo hi,X,ρ,σ,S,s,xo,he,w=>by
  rw[ev,pv];refine(ZX H a xo he w).bind λd v S1 s1 x1 w1 r1=>(ZeB H lo (xo.ext x1) (he.ext xo x1) w1).bind λl' l S2 s2 x2 w2 r2=>?_
  have r2:l'=l:=r2;subst r2;refine(ZeB H hi ((xo.ext x1).ext x2) ((he.ext xo x1).ext (xo.ext x1) x2) w2).bind λh' h S3 s3 x3 w3 r3=>?_
  have r3:h'=h:=r3;subst r3;exact Zde (((xo.ext x1).ext x2).ext x3) w3 (Rep.ext ((xo.ext x1).ext x2) x3 (Rep.ext (xo.ext x1) x2 r1))
 |.rev a,X,ρ,σ,S,s,xo,he,w=>by
  rw[ev,pv];refine(ZX H a xo he w).bind λd v S1 s1 x1 w1 r1=>?_
  cases v with|tup vs=>obtain⟨ds,rfl,rs⟩:=Rep.tup' r1;exact Sim.ok w1 (ZW rs.reverse)|_=>exact aA
 |.call f as,X,ρ,σ,S,s,xo,he,w=>by
  rw[ev,pv];exact(Uf H as xo he w).bind λds vs S1 s1 x1 w1 r1=>H f vs ds S1 s1 X (xo.ext x1) w1 r1
 |.blt f as,X,ρ,σ,S,s,xo,he,w=>by
  rw[ev,pv];exact(Uf H as xo he w).bind λds vs S1 s1 x1 w1 r1=>ZaX (xo.ext x1) w1 r1
 |.isi a ts,X,ρ,σ,S,s,xo,he,w=>by
  rw[ev,pv];refine(ZX H a xo he w).bind λd v S1 s1 x1 w1 r1=>?_
  cases q:Z2 v ts with
  |none=>exact aA
  |some b=>
   rw[zx r1 q];exact Sim.ok w1 (Zz _)
 |.comp1 cap nl t it ifs elt,X,ρ,σ,S,s,xo,he,w=>by
  rw[ev,pv];by_cases c:own nl t=ag
  ·rw[T9 c]
   refine(Zdt H it xo he w).bind λwk vs S1 s1 x1 w1 r1=>?_
   have hn:∀i∈t,i<nl:=λi hi=>T6 (aU.mp c i hi)
   have xo1:=xo.ext x1;exact Sim.nox (qf xo1 w1 r1 (vf (he.ext xo x1)) λx d S2 s σ ds xo2 rx he2 w2 hm=>Zej (λz=>T7 (xo1.lt _ xo1.z) (by omega)) (.inr rfl) (Zd0 H ifs) (ZX H elt) (λi hi v=>vc (hn i hi) v) xo2 rx he2 w2 hm)
  ·rw[T8 c];exact aA
 |.refu wd e,X,ρ,σ,S,s,xo,he,w=>by
  rw[ev,pv];have h:=ZX H e xo he w;cases q:pv CV e ρ s with
  |no=>exact aA
  |ok v s'=>
   rw[q]at h;obtain⟨a,S',e1,x1,w1,_⟩:=h;rw[e1];exact⟨_,_,rfl,x1,w1,YF⟩
  |ex c s'=>
   rw[q]at h;obtain⟨S',e1,x1,w1⟩:=h;rw[e1];by_cases hc:1<=c/\c<=10
   ·simp only[T9 hc]
    refine⟨_,_,rfl,x1.trans Ext.app,w1.app,?_⟩;cases wd
    ·exact Zp _
    ·exact Vt _
   ·simp only[T8 hc]
    exact aA
theorem Uf(H:Z3 n0 C CV):∀(es:List E){X:Nat->Prop}{ρ:Env}{σ:Lc}{S:Zb}{s:DS},Xok X n0 S->Ew S X n0 ρ σ->Dw n0 S s->Sim n0 S (ZeW X n0) (evs C es σ S) (pvs CV es ρ s)
 |[],X,ρ,σ,S,s,xo,he,w=>by rw[evs,pvs];exact Sim.ok w Rq.nil
 |e::es,X,ρ,σ,S,s,xo,he,w=>by
  rw[evs,pvs];exact(ZX H e xo he w).bind λd v S1 s1 x1 w1 r1=>(Uf H es (xo.ext x1) (he.ext xo x1) w1).bind λds vs S2 s2 x2 w2 r2=>Sim.ok w2 (Rq.cons (Rep.ext (xo.ext x1) x2 r1) r2)
theorem ZeB(H:Z3 n0 C CV):∀(e:Option E){X:Nat->Prop}{ρ:Env}{σ:Lc}{S:Zb}{s:DS},Xok X n0 S->Ew S X n0 ρ σ->Dw n0 S s->Sim n0 S RlE (evo C e σ S) (pvo CV e ρ s)
 |none,X,ρ,σ,S,s,xo,he,w=>by rw[evo,pvo];exact Sim.ok w rfl
 |some e,X,ρ,σ,S,s,xo,he,w=>by
  rw[evo,pvo];refine(ZX H e xo he w).bind λd v S1 s1 x1 w1 r1=>?_
  cases v with|int i=>cases Rep.int' r1;exact Sim.ok w1 rfl|_=>exact aA
theorem Zd0(H:Z3 n0 C CV):∀(es:List E){X:Nat->Prop}{ρ:Env}{σ:Lc}{S:Zb}{s:DS},Xok X n0 S->Ew S X n0 ρ σ->Dw n0 S s->Sim n0 S RlE (evt C es σ S) (pvt CV es ρ s)
 |[],X,ρ,σ,S,s,xo,he,w=>by rw[evt,pvt];exact Sim.ok w rfl
 |e::es,X,ρ,σ,S,s,xo,he,w=>by
  rw[evt,pvt];refine(ZX H e xo he w).bind λd v S1 s1 x1 w1 r1=>?_
  cases q:Yc v with
  |none=>exact aA
  |some b=>
   rw[Xa r1 q];cases b with|true=>exact Zd0 H es (xo.ext x1) (he.ext xo x1) w1|false=>exact Sim.ok w1 rfl
theorem Zdt(H:Z3 n0 C CV):∀(wk:W){X:Nat->Prop}{ρ:Env}{σ:Lc}{S:Zb}{s:DS},Xok X n0 S->Ew S X n0 ρ σ->Dw n0 S s->Sim n0 S (WkR X n0) (evw C wk σ S) (pvw CV wk ρ s)
 |.rng1 a,X,ρ,σ,S,s,xo,he,w=>by
  rw[evw,pvw];refine(ZX H a xo he w).bind λd v S1 s1 x1 w1 r1=>?_
  cases v with
  |int i=>
   cases Rep.int' r1;exact Sim.guard λ_=>Sim.ok w1 ⟨ww _ _,λp hp=>by cases hp⟩
  |_=>exact aA
 |.zip a b,X,ρ,σ,S,s,xo,he,w=>by
  rw[evw,pvw];refine(ZX H a xo he w).bind λd v S1 s1 x1 w1 r1=>(ZX H b (xo.ext x1) (he.ext xo x1) w1).bind λe u S2 s2 x2 w2 r2=>?_
  cases q1:Z7 v with
  |none=>exact aA
  |some vs=>
   cases q2:Z7 u with
   |none=>exact aA
   |some us=>
    obtain⟨k1,e1,k2,k3⟩:=WB (Rep.ext (xo.ext x1) x2 r1) q1;obtain⟨l1,f1,l2,l3⟩:=WB r2 q2;rw[e1,f1];refine Sim.ok w2 ⟨J6 k2 l2,λp hp=>?_⟩
    rcases bQ.mp hp with hp | hp
    ·exact k3 p hp
    ·exact l3 p hp
 |.enum a,X,ρ,σ,S,s,xo,he,w=>by
  rw[evw,pvw];refine(ZX H a xo he w).bind λd v S1 s1 x1 w1 r1=>?_
  cases q1:Z7 v with
  |none=>exact aA
  |some vs=>
   obtain⟨k1,e1,k2,k3⟩:=WB r1 q1;rw[e1];refine Sim.ok w1 ⟨?_,k3⟩;show Rq S1 X n0 (((Xj 0 vs.length).zip vs).map _) (((ZB 0 k1.items.length).zip k1.items).map _);rw[k2.length];exact J6 (ww _ _) k2
 |.of e,X,ρ,σ,S,s,xo,he,w=>by
  rw[evw,pvw];refine(ZX H e xo he w).bind λd v S1 s1 x1 w1 r1=>Sim.obp w1 λvs q=>WB r1 q
end
end
abbrev Own:=Nat->Option Nat
noncomputable def XW(X:Nat->Prop)(W:Own):Nat->Prop:=λn=>X n\/∃i,W i=aa n
structure Eu(S:Zb)(X:Nat->Prop)(n0 base:Nat)(W:Own)(ρ:Env)(os:List Nat)(σ:Lc):Prop where
 xz:X n0
 xb:∀n,X n->n<base
 bs:base<=S.length
 len:ρ.length=σ.length
 osW:∀i,os.contains i=(W i).isSome
 inj:∀i j n,W i=aa n->W j=aa n->i=j
 pl:∀i n,W i=aa n->base<=n
 own:∀i n,W i=aa n->∃xs,ρ[i]? = aa (aa (.lst xs))/\ZN xs=ag/\σ[i]? = aa (aa (.loc n))/\S[n]? = aa (.lst (Ym xs))
 val:∀(i:Nat)(v:V),ρ[i]? = aa (aa v)->W i=ac->∃d,σ[i]? = aa (aa d)/\Rep S (XW X W) n0 v d
section
variable{S S':Zb}{X:Nat->Prop}{n0 base:Nat}{W W':Own}{ρ:Env}{os:List Nat}{σ:Lc}
def Eu.xok(h:Eu S X n0 base W ρ os σ):Xok X n0 S:=⟨h.xz,λn x=>aY (h.xb n x) h.bs⟩
def Eu.xokW(h:Eu S X n0 base W ρ os σ):Xok (XW X W) n0 S:=⟨.inl h.xz,λn x=>by
 rcases x with x | ⟨i,x⟩
 ·exact h.xok.lt n x
 ·obtain⟨xs,_,_,_,e⟩:=h.own i n x;exact YX e⟩
def Eu.nx(h:Eu S X n0 base W ρ os σ){i n:Nat}(e:W i=aa n):¬X n:=λz=>by have:=h.xb n z;have:=h.pl i n e;omega
def Eu.ne(h:Eu S X n0 base W ρ os σ){i n:Nat}(e:W i=aa n):n≠n0:=λz=>h.nx e (z▸h.xz)
def Eu.all(h:Eu S X n0 base W ρ os σ):Ew S X n0 ρ σ:=⟨h.len,λi v e=>by
 cases q:W i with
 |none=>
  obtain⟨d,a,b⟩:=h.val i v e q;exact⟨d,a,b.mono (λ_ _ _ z=>z) λn _ z=>.inl z⟩
 |some n=>
  obtain⟨xs,a,b,c,d⟩:=h.own i n q;rw[a]at e;cases e;exact⟨_,c,JF d (h.nx q) (WI b)⟩⟩
def j5(e:(hide os ρ)[i]? = aa (aa v)):ρ[i]? = aa (aa v)/\os.contains i=ai:=by
 unfold hide at e;rw[List.getElem?_mapIdx]at e;cases q:ρ[i]? with
 |none=>rw[q]at e;cases e
 |some o=>
  rw[q]at e;have e':(if os.contains i=ag then ac else o)=aa v:=af e
  by_cases c:os.contains i=ag
  ·rw[T9 c]at e';cases e'
  ·rw[T8 c]at e';exact⟨by rw[e'],by simpa using c⟩
def Eu.hid(h:Eu S X n0 base W ρ os σ):Ew S (XW X W) n0 (hide os ρ) σ:=⟨by unfold hide;rw[List.length_mapIdx];exact h.len,λi v e=>by
 obtain⟨a,b⟩:=j5 e;rw[h.osW]at b;exact h.val i v a (by cases q:W i with | none=>rfl | some _=>rw[q]at b;cases b)⟩
theorem Eu.ext(h:Eu S X n0 base W ρ os σ)(e:Ext n0 S S'):Eu S' X n0 base W ρ os σ:=
 ⟨h.xz,h.xb,bx h.bs e.len,h.len,h.osW,h.inj,h.pl,λi n q=>by
  obtain⟨xs,a,b,c,d⟩:=h.own i n q;exact⟨xs,a,b,c,e.keep n _ (h.ne q) d⟩,λi v a b=>by
  obtain⟨d,c,r⟩:=h.val i v a b;exact⟨d,c,r.ext h.xokW e⟩⟩
def Eu.noW(h:Eu S X n0 base W ρ [] σ):∀i,W i=ac:=λi=>by
 have:=h.osW i;cases q:W i with|none=>rfl|some n=>rw[q]at this;cases this
theorem Eu.set(h:Eu S X n0 base W ρ os σ)(hi:os.contains i=ai)(r:Rep S (XW X W) n0 v d):Eu S X n0 base W (ρ.set i (aa v)) os (σ.set i (aa d)):=by
 have hw:W i=.none:=by have:=h.osW i;rw[hi]at this;cases q:W i with | none=>rfl | some _=>rw[q]at this;cases this
 refine⟨h.xz,h.xb,h.bs,by rw[aV,aV];exact h.len,h.osW,h.inj,h.pl,λj n q=>?_,λj w e q=>?_⟩
 ·obtain⟨xs,a,b,c,e⟩:=h.own j n q
  have ij:i≠j:=λz=>by rw[z,q]at hw;cases hw
  exact⟨xs,by rw[aE ij];exact a,b,by rw[aE ij];exact c,e⟩
 ·rw[cH]at e ⊢
  by_cases c:i=j
  ·rw[T9 c]at e ⊢
   by_cases l:i<ρ.length
   ·rw[T9 l]at e
    rw[T9 (by rw[<-h.len];exact l)]
    cases e;exact⟨d,rfl,r⟩
   ·rw[T8 l]at e;cases e
  ·rw[T8 c]at e ⊢
   exact h.val j w e q
theorem Eu.fill:∀{t:List Nat}{vs:List V}{ds:List D}{ρ ρ':Env}{σ:Lc},Eu S X n0 base W ρ os σ->(t.any os.contains)=ai->Rq S (XW X W) n0 vs ds->Xv t vs ρ=aa ρ'->∃σ',Ev.fill t ds σ=aa σ'/\Eu S X n0 base W ρ' os σ'
 |[],[],_,ρ,ρ',σ,h,_,r,e=>by rw[r.nil'];cases e;exact⟨σ,rfl,h⟩
 |[],_::_,_,_,_,_,_,_,_,e=>by cases e
 |_::_,[],_,_,_,_,_,_,_,e=>by cases e
 |i::t,v::vs,_,ρ,ρ',σ,h,ht,r,e=>by
  obtain⟨d,ds,rfl,a,b⟩:=r.cons';rw[eR,Bool.or_eq_false_iff]at ht;exact Eu.fill (t:=t) (vs:=vs) (h.set ht.1 a) ht.2 b e
theorem Eu.assign(h:Eu S X n0 base W ρ os σ)(ht:(t.any os.contains)=ai)(r:Rep S (XW X W) n0 v d)(e:Zx t v ρ=aa ρ'):∃σ',Ev.assign t d S σ=aa σ'/\Eu S X n0 base W ρ' os σ':=by
 have gen:∀t:List Nat,(t.any os.contains)=ai->(match Z7 v with
   |some xs=>Xv t xs ρ
   |none=>ac)=aa ρ'->∃σ',(match d with
   |.tup xs=>Ev.fill t xs σ
   |.loc n=>match Zi S n with
    |some xs=>Ev.fill t xs σ
    |none=>ac
   |_=>ac)=aa σ'/\Eu S X n0 base W ρ' os σ':=by
  intro t ht e;cases v with
  |tup vs=>obtain⟨ds,rfl,rs⟩:=r.tup';exact h.fill ht rs e
  |lst vs=>
   obtain⟨n,ds,rfl,hs,_,rs⟩:=r.lst';obtain⟨σ',a,b⟩:=h.fill ht rs e;refine⟨σ',?_,b⟩;show(match Zi S n with
    |some xs=>Ev.fill t xs σ
    |.none=>.none)=aa σ'
   rw[ZJ hs];exact a
  |_=>cases e
 match t,ht,e with
 |[i],ht,e=>
  cases e;exact⟨_,rfl,h.set (by simpa using ht) r⟩
 |[],ht,e=>exact gen [] ht e
 |i::j::t,ht,e=>exact gen (i::j::t) ht e
def Eu.drop(h:Eu S X n0 base W ρ os σ)(r:Rep S (XW X W) n0 v d):Eu S X n0 base (λj=>if j=i then .none else W j) (ρ.set i (aa v)) (os.filter (· != i)) (σ.set i (aa d)):=by
 have mO:∀n,XW X (λj=>if j=i then ac else W j) n->XW X W n:=λn z=>by
  rcases z with z | ⟨j,z⟩
  ·exact .inl z
  ·by_cases c:j=i
   ·simp only[c,if_true]at z;cases z
   ·simp only[c,if_false]at z;exact .inr ⟨j,z⟩
 have get:∀{j n:Nat},(if j=i then Option.none else W j)=aa n->j≠i/\W j=aa n:=λ{j n} z=>by
  by_cases c:j=i
  ·rw[T9 c]at z;cases z
  ·rw[T8 c]at z;exact⟨c,z⟩
 refine⟨h.xz,h.xb,h.bs,by rw[aV,aV];exact h.len,λj=>?_,λa b n x y=>h.inj a b n (get x).2 (get y).2,λj n z=>h.pl j n (get z).2,λj n z=>?_,λj w e z=>?_⟩
 ·by_cases c:j=i
  ·simp[c]
  ·simp only[c,if_false]
   rw[<-h.osW j,bz,cb,cb,bK];simp[c]
 ·obtain⟨xs,a,b,c,e⟩:=h.own j n (get z).2
  have ij:i≠j:=Ne.symm (get z).1;exact⟨xs,by rw[aE ij];exact a,b,by rw[aE ij];exact c,e⟩
 ·rw[cH]at e ⊢
  by_cases c:i=j
  ·rw[T9 c]at e ⊢
   by_cases l:i<ρ.length
   ·rw[T9 l]at e
    rw[T9 (by rw[<-h.len];exact l)]
    cases e;exact⟨d,rfl,r.mono (λ_ _ _ q=>q) λn _ q=>mO n q⟩
   ·rw[T8 l]at e;cases e
  ·rw[T8 c]at e ⊢
   rw[T8 (Ne.symm c)]at z;obtain⟨d',a,b⟩:=h.val j w e z;exact⟨d',a,b.mono (λ_ _ _ q=>q) λn _ q=>mO n q⟩
def Eu.take{S0:Zb}{i n:Nat}{xs:List V}(h:Eu S0 X n0 base W ρ os σ)(e:Ext n0 S0 S)(hn:S0.length<=n)(hf:ZN xs=ag)(r:Rep S (XW X W) n0 (.lst xs) (.loc n))(hi:i<ρ.length) :
  Eu S X n0 base (λj=>if j=i then aa n else W j) (ρ.set i (aa (.lst xs))) (i::os.filter (· != i)) (σ.set i (aa (.loc n))):=by
 obtain⟨n',ds,en,hs,hx,rs⟩:=r.lst';cases en;have ed:=WE hf rs;subst ed;have h1:=h.ext e;have mO:∀m,m<S0.length->XW X (λj=>if j=i then aa n else W j) m->XW X W m:=λm hm z=>by
  rcases z with z | ⟨j,z⟩
  ·exact .inl z
  ·by_cases c:j=i
   ·simp only[c,if_true]at z
    have:n=m:=af z;omega
   ·simp only[c,if_false]at z;exact .inr ⟨j,z⟩
 have get:∀{j m:Nat},(if j=i then aa n else W j)=aa m->(j=i/\n=m)\/(j≠i/\W j=aa m):=λ{j m} z=>by
  by_cases c:j=i
  ·rw[T9 c]at z;exact .inl ⟨c,af z⟩
  ·rw[T8 c]at z;exact .inr ⟨c,z⟩
 refine⟨h1.xz,h1.xb,h1.bs,by rw[aV,aV];exact h.len,λj=>?_,λa b m x y=>?_,λj m z=>?_,λj m z=>?_,λj w q z=>?_⟩
 ·by_cases c:j=i
  ·simp[c]
  ·simp only[c,if_false]
   rw[<-h.osW j,bz,cb,cb,az,bK];simp[c]
 ·rcases get x with⟨x1,x2⟩ | ⟨x1,x2⟩
  ·rcases get y with⟨y1,y2⟩ | ⟨y1,y2⟩
   ·rw[x1,y1]
   ·exact T7 (.inr ⟨b,x2▸y2⟩) hx
  ·rcases get y with⟨y1,y2⟩ | ⟨y1,y2⟩
   ·exact T7 (.inr ⟨a,y2▸x2⟩) hx
   ·exact h.inj a b m x2 y2
 ·rcases get z with⟨z1,z2⟩ | ⟨z1,z2⟩
  ·have:=h.bs;omega
  ·exact h.pl j m z2
 ·rcases get z with⟨z1,z2⟩ | ⟨z1,z2⟩
  ·subst z1 z2
   exact⟨xs,aQ hi,hf,aQ (by rw[<-h.len];exact hi),hs⟩
  ·obtain⟨ys,a,b,c,q⟩:=h1.own j m z2
   exact⟨ys,by rw[aE (Ne.symm z1)];exact a,b,by rw[aE (Ne.symm z1)];exact c,q⟩
 ·by_cases c:j=i
  ·rw[T9 c]at z;cases z
  ·rw[T8 c]at z
   rw[aE (Ne.symm c)]at q ⊢;obtain⟨d,a,b⟩:=h.val j w q z;exact⟨d,a,b.mono (λm o nx hs=>e.keep m o (λq=>nx (q▸.inl h.xz)) hs) mO⟩
def Eu.mut(h:Eu S X n0 base W ρ os σ)(hw:W i=aa n)(hf:ZN ys=ag):Eu (S.set n (.lst (Ym ys))) X n0 base W (ρ.set i (aa (.lst ys))) os σ:=by
 obtain⟨xs,a,b,c,e⟩:=h.own i n hw;have hi:i<ρ.length:=(ay.mp a).1;refine⟨h.xz,h.xb,by rw[aV];exact h.bs,by rw[aV];exact h.len,h.osW,h.inj,h.pl,λj m z=>?_,λj w q z=>?_⟩
 ·by_cases k:i=j
  ·subst k
   rw[hw]at z;cases z;exact⟨ys,aQ hi,hf,c,aQ (YX e)⟩
  ·obtain⟨zs,a',b',c',e'⟩:=h.own j m z
   exact⟨zs,by rw[aE k];exact a',b',c',by rw[aE (λq:n=m=>k (h.inj i j n hw (by rw[q];exact z)))];exact e'⟩
 ·have k:i≠j:=λk=>by rw[<-k,hw]at z;cases z
  rw[aE k]at q;obtain⟨d,a',b'⟩:=h.val j w q z;exact⟨d,a',b'.mono (λm o nx hs=>by rw[aE (λq:n=m=>nx (.inr ⟨i,by rw[<-q];exact hw⟩))];exact hs) λ_ _ q=>q⟩
end
structure ExtS(n0:Nat)(W:Own)(S S':Zb):Prop where
 len:S.length<=S'.length
 keep:∀n o,n≠n0->(∀i,W i≠aa n)->S[n]? = aa o->S'[n]? = aa o
def WExt(S:Zb)(W W':Own):Prop:=∀i n,W' i=aa n->(∃j,W j=aa n)\/S.length<=n
def Ext.s{n0:Nat}{W:Own}{S S':Zb}(h:Ext n0 S S'):ExtS n0 W S S':=⟨h.len,λn o a _ e=>h.keep n o a e⟩
def ExtS.trans{n0:Nat}{W W':Own}{S S1 S2:Zb}(a:ExtS n0 W S S1)(w:WExt S W W')(b:ExtS n0 W' S1 S2):ExtS n0 W S S2:=⟨bx a.len b.len,λn o h z e=>b.keep n o h (λi q=>by
 rcases w i n q with⟨j,q⟩ | q
 ·exact z j q
 ·exact T7 (YX e) (by omega)) (a.keep n o h z e)⟩
def WExt.refl{S:Zb}{W:Own}:WExt S W W:=λi n h=>.inl ⟨i,h⟩
def WExt.trans{S S1:Zb}{W W1 W2:Own}(a:WExt S W W1)(l:S.length<=S1.length)(b:WExt S1 W1 W2):WExt S W W2:=λi n h=>by
 rcases b i n h with⟨j,h⟩ | h
 ·exact a j n h
 ·exact .inr (bx l h)
def FlR(X:Nat->Prop)(n0 base:Nat)(S:Zb)(W:Own)(S':Zb):FlV->Fl->Prop
 |.nx ρ os,.nx σ=>∃W',WExt S W W'/\Eu S' X n0 base W' ρ os σ
 |.brk ρ os,.brk σ=>∃W',WExt S W W'/\Eu S' X n0 base W' ρ os σ
 |.cnt ρ os,.cnt σ=>∃W',WExt S W W'/\Eu S' X n0 base W' ρ os σ
 |.ret v,.ret d=>Rep S' X n0 v d
 |_,_=>False
def ZI(X:Nat->Prop)(n0 base:Nat)(S:Zb)(W:Own)(r:R Fl)(q:PR FlV):Prop:=match q with
 |.no=>True
 |.ex c s'=>∃S',r=.ex c S'/\ExtS n0 W S S'/\Dw n0 S' s'
 |.ok f s'=>∃g S',r=.ok g S'/\ExtS n0 W S S'/\Dw n0 S' s'/\FlR X n0 base S W S' f g
section
variable{α β:Type}{S S':Zb}{X:Nat->Prop}{n0 base:Nat}{W W':Own}{ρ:Env}{os:List Nat}{σ:Lc}
def FlR.from(w:WExt S W W')(l:S.length<=S1.length)(h:FlR X n0 base S1 W' S' f g):FlR X n0 base S W S' f g:=by
 cases f with
 |nx ρ os=>cases g with|nx σ=>obtain⟨W2,a,b⟩:=h;exact⟨W2,w.trans l a,b⟩|_=>exact h.elim
 |brk ρ os=>cases g with|brk σ=>obtain⟨W2,a,b⟩:=h;exact⟨W2,w.trans l a,b⟩|_=>exact h.elim
 |cnt ρ os=>cases g with|cnt σ=>obtain⟨W2,a,b⟩:=h;exact⟨W2,w.trans l a,b⟩|_=>exact h.elim
 |ret v=>cases g with|ret d=>exact h|_=>exact h.elim
theorem ZI.from(x:ExtS n0 W S S1)(w:WExt S W W')(h:ZI X n0 base S1 W' r q):ZI X n0 base S W r q:=by
 cases q with|no=>exact aA|ex c s'=>obtain⟨S2,a,b,c⟩:=h;exact⟨S2,a,x.trans w b,c⟩|ok f s'=>obtain⟨g,S2,a,b,c,d⟩:=h;exact⟨g,S2,a,x.trans w b,c,FlR.from w x.len d⟩
def ZI.bindE{Rl:Zb->β->α->Prop}(h:Sim n0 S Rl r q)
  (k:∀a b S' s',Ext n0 S S'->Dw n0 S' s'->Rl S' b a->ZI X n0 base S' W (f a S') (g b s')):ZI X n0 base S W (r.bind f) (q.bind g):=by
 cases q with
 |no=>exact aA
 |ex c s'=>obtain⟨S',e,x,w⟩:=h;rw[e];exact⟨S',rfl,x.s,w⟩
 |ok b s'=>
  obtain⟨a,S',e,x,w,rl⟩:=h;rw[e];exact ZI.from x.s WExt.refl (k a b S' s' x w rl)
theorem ZI.nx{s:DS}{σ':Lc}{ρ':Env}{os':List Nat}(w:Dw n0 S s)(hw:WExt S W W')(h:Eu S X n0 base W' ρ' os' σ'):ZI X n0 base S W (.ok (.nx σ') S) (.ok (.nx ρ' os') s):=⟨_,S,rfl,Ext.refl.s,w,W',hw,h⟩
end
section
variable{n0:Nat}{C:Calls}{CV:Zy}{X:Nat->Prop}{base:Nat}
def Zew(H:Z3 n0 C CV)(e:E){W:Own}{ρ:Env}{os:List Nat}{σ:Lc}{S:Zb}{s:DS}(he:Eu S X n0 base W ρ os σ)(w:Dw n0 S s):Sim n0 S (RlV (XW X W) n0) (ev C e σ S) (pvA CV e ρ os s):=by
 cases os with
 |nil=>
  have hh:Ew S (XW X W) n0 ρ σ:=⟨he.len,λi v q=>he.val i v q (he.noW i)⟩
  exact ZX H e he.xokW hh w
 |cons o os=>
  show Sim n0 S (RlV (XW X W) n0) (ev C e σ S) (match pv CV e (hide (o::os) ρ) s with
   |.ok v s=>.ok v s
   |.ex c s=>.ex c s
   |.no=>(pv CV e ρ s).bind λv s=>if v.flat then .ok v s else .no)
  have h1:=ZX H e he.xokW he.hid w;cases q:pv CV e (hide (o::os) ρ) s with
  |ok v s1=>rw[q]at h1;exact h1
  |ex c s1=>rw[q]at h1;exact h1
  |no=>
   have h2:=ZX H e he.xok he.all w;cases q2:pv CV e ρ s with
   |no=>exact aA
   |ex c s1=>rw[q2]at h2;exact h2
   |ok v s1=>
    rw[q2]at h2;show Sim n0 S (RlV (XW X W) n0) (ev C e σ S) (if v.flat=ag then .ok v s1 else .no)
    by_cases c:v.flat=ag
    ·rw[T9 c]
     obtain⟨d,S',a1,a2,a3,a4⟩:=h2;exact⟨d,S',a1,a2,a3,by rw[Wg c a4];exact UX c⟩
    ·rw[T8 c];exact aA
def ZdB{α:Type}{r:R α}{a:α}{S:Zb}(h:r.nox=.ok a S):r=.ok a S:=by
 cases r with|ok _ _=>exact h|ex _ _=>cases h|no=>cases h
def Ja(H:Z3 n0 C CV){e:E}(hf:fresh e=ag){ρ:Env}{σ:Lc}{S S':Zb}{s s':DS}{xs:List V}{d:D}(xo:Xok X n0 S)(he:Ew S X n0 ρ σ)(w:Dw n0 S s)(q:pv CV e ρ s=.ok (.lst xs) s')(r:ev C e σ S=.ok d S'):∃n,d=.loc n/\S.length<=n:=by
 have bo:∀{α β:Type}{r:R α}{f:α->Zb->R β}{b:β}{S':Zb},r.bind f=.ok b S'->∃a S1,r=.ok a S1/\f a S1=.ok b S':=λ{α β r f b S'} h=>by
  cases r with|no=>cases h|ex _ _=>cases h|ok a S1=>exact⟨a,S1,rfl,h⟩
 have ifo:∀{α:Type}{P:Prop} [Decidable P] {r:R α} {b:α} {S':Zb},(if P then r else .no)=.ok b S'->r=.ok b S':=λ{α P _ r b S'} h=>by
  by_cases c:P
  ·rw[T9 c]at h;exact h
  ·rw[T8 c]at h;cases h
 cases e with
 |lst es=>
  rw[pv]at q;obtain⟨vs,s1,q1,_⟩:=Y1 q;obtain⟨ds,S1,e1,x1,_,_⟩:=(Uf H es xo he w).out q1;rw[ev,e1]at r;have r:=ifo (show(if ds.length<=lim then R.ok (D.loc S1.length) (S1++[.lst ds])else .no)=.ok d S' from r)
  cases r;exact⟨_,rfl,x1.len⟩
 |comp1 cap nl t it ifs elt=>
  rw[pv]at q;by_cases c:own nl t=ag
  ·rw[T9 c]at q
   obtain⟨vs,s1,q1,_⟩:=Y1 q;obtain⟨wk,S1,e1,x1,_,_⟩:=(Zdt H it xo he w).out q1;rw[ev,e1]at r;obtain⟨_,_,ea,r⟩:=bo r;cases ea;obtain⟨_,S2,_,r⟩:=bo (ZdB r);cases r;exact⟨_,rfl,x1.len⟩
  ·rw[T8 c]at q;cases q
 |bin op a b=>
  cases op with
  |mul=>cases a with
   |lst es=>
    rw[pv]at q;obtain⟨x,s1,q1,q⟩:=Y1 q;obtain⟨y,s2,q2,q⟩:=Y1 q;obtain⟨dx,S1,e1,x1,w1,r1⟩:=(ZX H (.lst es) xo he w).out q1;obtain⟨dy,S2,e2,x2,w2,r2⟩:=(ZX H b (xo.ext x1) (he.ext xo x1) w1).out q2;rw[ev,e1]at r;have r:(ev C b σ S1).bind (λy S=>Yl .mul dx y S)=.ok d S':=r
    rw[e2]at r;have r:Yl .mul dx dy S2=.ok d S':=r;cases x with
    |lst us=>cases y with
     |int j=>
      obtain⟨n,ds,rfl,hs,_,_⟩:=Rep.lst' r1;cases Rep.int' r2;have hs2:=x2.keep n _ (λz=>?_) hs
      ·have r:(match Zi S2 n with
        |some a=>if 0<=j/\j<1000/\a.length<=1000 then R.ok (D.loc S2.length) (S2++[Ob.lst (aq j.toNat a).flatten])else .no
        |none=>.no)=.ok d S':=r
       rw[ZJ hs2]at r;have r:=ifo (show(if 0<=j/\j<1000/\ds.length<=1000 then R.ok (D.loc S2.length) (S2++[Ob.lst (aq j.toNat ds).flatten])else .no)=.ok d S' from r)
       cases r;exact⟨_,rfl,bx x1.len x2.len⟩
      ·obtain⟨n',_,en,_,nx,_⟩:=Rep.lst' r1
       cases en;exact nx (z▸xo.z)
     |_=>cases q
    |tup us=>cases y with
     |int j=>
      have q:(if 0<=j/\j<1000/\us.length<=1000 then PR.ok (V.tup (aq j.toNat us).flatten) s2 else .no)=.ok (.lst xs) s':=q
      by_cases c:0<=j/\j<1000/\us.length<=1000
      ·rw[T9 c]at q;cases q
      ·rw[T8 c]at q;cases q
     |_=>cases q
    |int i=>cases y with
     |int j=>
      have q:(if(fits i&&fits j)=ag then PR.ok (V.int (i*j)) s2 else .no)=.ok (.lst xs) s':=q
      by_cases c:(fits i&&fits j)=ag
      ·rw[T9 c]at q;cases q
      ·rw[T8 c]at q;cases q
     |_=>cases q
    |_=>cases y <;> cases q
   |_=>cases hf
  |_=>cases hf
 |blt f as=>
  cases f with
  |list=>
   rw[pv]at q;obtain⟨vs,s1,q1,q⟩:=Y1 q;obtain⟨ds,S1,e1,x1,w1,r1⟩:=(Uf H as xo he w).out q1;rw[ev,e1]at r;have r:YJ .list ds S1=.ok d S':=r
   match ds,r with
   |[z],r=>
    obtain⟨_,S2,r1,r⟩:=bo (show(ob (Y0 S1 z) S1).bind (λxs S=>R.ok (D.loc S.length) (S++[.lst xs]))=.ok d S' from r)
    cases q:Y0 S1 z with|none=>rw[q]at r1;cases r1|some _=>rw[q]at r1;cases r1;cases r;exact⟨_,rfl,x1.len⟩
  |_=>cases hf
 |_=>cases hf
end
theorem We:∀(a b:List V),Ym (a++b)=Ym a++Ym b
 |[],b=>rfl
 |x::a,b=>by rw[ig];show toD x::Ym (a++b)=_;rw[We a b];rfl
theorem X6:∀{a b:List V},ZN a=ag->ZN b=ag->ZN (a++b)=ag
 |[],b,_,h=>h
 |x::a,b,h,h'=>by
  unfold ZN at h;obtain⟨h1,h2⟩:=(aB _ _).mp h;show(x.flat&&ZN (a++b))=ag;rw[h1,X6 h2 h'];rfl
theorem GT:∀(a:List V)(j:Nat)(v:V),Ym (a.set j v)=(Ym a).set j (toD v)
 |[],_,_=>rfl
 |x::a,0,v=>rfl
 |x::a,j+1,v=>by show toD x::Ym (a.set j v)=toD x::(Ym a).set j (toD v);rw[GT a j v]
theorem Jk:∀{a:List V}{j:Nat}{v:V},ZN a=ag->v.flat=ag->ZN (a.set j v)=ag
 |[],_,_,h,_=>h
 |x::a,0,v,h,h'=>by
  unfold ZN at h;obtain⟨h1,h2⟩:=(aB _ _).mp h;show(v.flat&&ZN a)=ag;rw[h',h2];rfl
 |x::a,j+1,v,h,h'=>by
  unfold ZN at h;obtain⟨h1,h2⟩:=(aB _ _).mp h;show(x.flat&&ZN (a.set j v))=ag;rw[h1,Jk h2 h'];rfl
theorem YL:∀a:List V,(Ym a).length=a.length
 |[]=>rfl
 |x::a=>by show(Ym a).length+1=_;rw[YL a];rfl
def we :evs C [e] σ S=(ev C e σ S).bind λx S=>.ok [x] S:=by
 rw[evs];rfl
section
variable{n0:Nat}{C:Calls}{CV:Zy}{X:Nat->Prop}{base:Nat}{W:Own}{ρ:Env}{os:List Nat}{σ:Lc}{S:Zb}{s:DS}
theorem Eu.at(h:Eu S X n0 base W ρ os σ){i:Nat}(hi:os.contains i=ag):∃n xs,W i=aa n/\ρ[i]? = aa (aa (.lst xs))/\ZN xs=ag/\σ[i]? = aa (aa (.loc n))/\S[n]? = aa (.lst (Ym xs)):=by
 rw[h.osW]at hi;obtain⟨n,hn⟩:=bI.mp hi;obtain⟨xs,a,b,c,d⟩:=h.own i n hn;exact⟨n,xs,hn,a,b,c,d⟩
def Zbt(hw:W i=aa n):ExtS n0 W S (S.set n o):=⟨by simp,λm o' _ z e=>by rw[aE (λq:n=m=>z i (by rw[<-q];exact hw))];exact e⟩
def Eu.move(h:Eu S X n0 base W ρ os σ)(hw:W j=aa n)(hi:os.contains i=ai)(hij:i≠j)(e1:ρ[j]? = aa (aa (.lst xs)))(hf:ZN xs=ag)(e2:σ[j]? = aa (aa (.loc n)))(e3:S[n]? = aa (.lst (Ym xs))) :
  Eu S X n0 base (λk=>if k=j then .none else W k) ((ρ.set i (aa (.lst xs))).set j ac) (os.filter (· != j)) (σ.set i (aa (.loc n))):=by
 have wi:W i=ac:=by
  have:=h.osW i;rw[hi]at this;cases q:W i with|none=>rfl|some m=>rw[q]at this;cases this
 have mO:∀m,XW X (λk=>if k=j then ac else W k) m->XW X W m:=λm z=>by
  rcases z with z | ⟨k,z⟩
  ·exact .inl z
  ·by_cases c:k=j
   ·simp only[c,if_true]at z;cases z
   ·simp only[c,if_false]at z;exact .inr ⟨k,z⟩
 have get:∀{k m:Nat},(if k=j then Option.none else W k)=aa m->k≠j/\W k=aa m:=λ{k m} z=>by
  by_cases c:k=j
  ·rw[T9 c]at z;cases z
  ·rw[T8 c]at z;exact⟨c,z⟩
 refine⟨h.xz,h.xb,h.bs,by rw[aV,aV,aV];exact h.len,λk=>?_,λa b m x y=>h.inj a b m (get x).2 (get y).2,λk m z=>h.pl k m (get z).2,λk m z=>?_,λk w e z=>?_⟩
 ·by_cases c:k=j
  ·simp[c]
  ·simp only[c,if_false]
   rw[<-h.osW k,bz,cb,cb,bK];simp[c]
 ·obtain⟨ys,a,b,c,e⟩:=h.own k m (get z).2
  have jk:j≠k:=Ne.symm (get z).1;have ik:i≠k:=λq=>by
   have w2:=(get z).2;rw[<-q,wi]at w2;cases w2
  exact⟨ys,by rw[aE jk,aE ik];exact a,b,by rw[aE ik];exact c,e⟩
 ·have lj:j<ρ.length:=(ay.mp e1).1
  by_cases cj:k=j
  ·subst cj
   rw[aQ (by rw[aV];exact lj)]at e
   cases e
  ·rw[T8 cj]at z
   rw[aE (Ne.symm cj)]at e;by_cases ci:i=k
   ·subst ci
    have li:i<ρ.length:=by
     have:=(ay.mp e).1;rw[aV]at this;exact this
    rw[aQ li]at e;cases e;refine⟨.loc n,aQ (by rw[<-h.len];exact li),?_⟩
    unfold Rep;refine⟨n,Ym xs,rfl,e3,λq=>?_,WI hf⟩
    rcases q with q | ⟨k,q⟩
    ·exact h.nx hw q
    ·obtain⟨q1,q2⟩:=get q
     exact q1 (h.inj k j n q2 hw)
   ·rw[aE ci]at e
    obtain⟨d',a,b⟩:=h.val k w e z;exact⟨d',by rw[aE ci];exact a,b.mono (λ_ _ _ q=>q) λm _ q=>mO m q⟩
def ZaG(i j:Nat)(he:Eu S X n0 base W ρ os σ)(w:Dw n0 S s):ZI X n0 base S W ((ev C (.v j) σ S).bind λx S=>(ob (assign [i] x S σ) S).bind λσ S=>.ok (.nx σ) S)
  (if(os.contains j&&(!os.contains i&&ae (i≠j)))=ag then(po (X8 ρ[j]?) s).bind λxs s=>.ok (.nx ((ρ.set i (aa (.lst xs))).set j ac) (os.filter (· != j))) s else .no):=by
 by_cases c:(os.contains j&&(!os.contains i&&ae (i≠j)))=ag
 ·rw[T9 c]
  obtain⟨c1,c2⟩:=(aB _ _).mp c;obtain⟨c2,c3⟩:=(aB _ _).mp c2;obtain⟨n,xs,h1,h2,h3,h4,h5⟩:=he.at c1;rw[h2,ev,h4];exact⟨_,S,rfl,Ext.refl.s,w,_,λk m z=>by
   by_cases q:k=j
   ·simp only[q,if_true]at z;cases z
   ·simp only[q,if_false]at z;exact .inl ⟨k,z⟩,he.move h1 (by simpa using c2) (T6 c3) h2 h3 h4 h5⟩
 ·rw[T8 c];exact aA
def ZI.mutd(he:Eu S X n0 base W ρ os σ)(w:Dw n0 S s)(hw:W i=aa n)(hf:ZN ys=ag):ZI X n0 base S W (.ok (.nx σ) (S.set n (.lst (Ym ys)))) (.ok (.nx (ρ.set i (aa (.lst ys))) os) s):=
 ⟨_,_,rfl,Zbt hw,⟨by rw[aE (he.ne hw)];exact w.1,w.2⟩,W,WExt.refl,he.mut hw hf⟩
def Zbm(h:vm op x y s=.ok z s'):∃i,z=.int i:=by
 cases x with
 |int i=>cases y with
  |int j=>
   have ifo:∀{P:Prop} [Decidable P] {k:Int} ,(if P then PR.ok (V.int k) s else .no)=.ok z s'->∃i,z=.int i:=λ{P _ k} h=>by
    by_cases c:P
    ·rw[T9 c]at h;cases h;exact⟨_,rfl⟩
    ·rw[T8 c]at h;cases h
   cases op with|add=>cases h;exact⟨_,rfl⟩|sub=>cases h;exact⟨_,rfl⟩|mul=>exact ifo h|fdiv=>exact ifo h|mod=>exact ifo h|pow=>exact ifo h
  |_=>cases h
 |_=>cases h
def j7(H:Z3 n0 C CV)(e:E)(he:Eu S X n0 base W ρ os σ)(w:Dw n0 S s):Sim n0 S RlE (tst C e σ S) (VI CV e ρ s):=by
 refine(ZX H e he.xok he.all w).bind λd v S1 s1 x1 w1 r1=>?_
 cases q:Yc v with|none=>exact aA|some b=>rw[Xa r1 q];exact Sim.ok w1 rfl
def Zb9(H:Z3 n0 C CV)(e:E)(he:Eu S X n0 base W ρ os σ)(w:Dw n0 S s):ZI X n0 base S W ((ev C e σ S).bind λ_ S=>.ok (.nx σ) S) ((pv CV e ρ s).bind λ_ s=>.ok (.nx ρ os) s):=
 ZI.bindE (ZX H e he.xok he.all w) λd v S1 s1 x1 w1 r1=>ZI.nx w1 WExt.refl (he.ext x1)
def yC(H:Z3 n0 C CV)(i:Nat)(e:E)(he:Eu S X n0 base W ρ os σ)(w:Dw n0 S s):ZI X n0 base S W ((ev C (.mt .append (.v i) [e]) σ S).bind λ_ S=>.ok (.nx σ) S)
  (if os.contains i=ag then(po (X8 ρ[i]?) s).bind λxs s=>(pv CV e ρ s).bind λv s=>if v.flat=ag/\xs.length<lim then .ok (.nx (ρ.set i (aa (.lst (xs++[v])))) os) s else .no else .no):=by
 by_cases c:os.contains i=ag
 ·rw[T9 c]
  obtain⟨n,xs,hw,a1,a2,a3,a4⟩:=he.at c;have e0:X8 ρ[i]? = aa xs:=by rw[a1];rfl
  rw[e0];show ZI X n0 base S W _ ((pv CV e ρ s).bind _);have e1:(ev C (.mt .append (.v i) [e]) σ S).bind (λ_ S=>R.ok (Fl.nx σ) S)=(ev C e σ S).bind λd S=>(WU .append (.loc n) [d] S).bind λ_ S=>.ok (.nx σ) S:=by
   rw[ev,ev,a3];show R.bind (if UQ S (.loc n)=ag then _ else _) _=_
   rw[T9 (by show(Zi S n).isSome=ag;rw[ZJ a4];rfl),we]
   cases ev C e σ S <;> rfl
  rw[e1];refine ZI.bindE (ZX H e he.xok he.all w) λd v S1 s1 x1 w1 r1=>?_
  have he1:=he.ext x1;have a5:=x1.keep n _ (he.ne hw) a4;by_cases c2:v.flat=ag/\xs.length<lim
  ·rw[T9 c2]
   have hm:WU .append (.loc n) [d] S1=.ok .non (S1.set n (.lst (Ym xs++[d]))):=by
    show R.bind (ob (Zi S1 n) S1) _=_;rw[ZJ a5];show(if(Ym xs).length<lim then _ else _)=_
    rw[T9 (by rw[YL];exact c2.2)]
   rw[hm];have:=ZI.mutd (ys:=xs++[v]) he1 w1 hw (X6 a2 (by show(v.flat&&ag)=ag;rw[c2.1];rfl))
   rw[We]at this;rw[Wg c2.1 r1];exact this
  ·rw[T8 c2];exact aA
 ·rw[T8 c];exact aA
def yn(H:Z3 n0 C CV)(i:Nat)(e:E)(he:Eu S X n0 base W ρ os σ)(w:Dw n0 S s):ZI X n0 base S W ((ev C (.mt .extend (.v i) [e]) σ S).bind λ_ S=>.ok (.nx σ) S)
  (if os.contains i=ag then(po (X8 ρ[i]?) s).bind λxs s=>(pv CV e (hide os ρ) s).bind λv s=>match v with
   |.lst ys=>if ZN ys=ag/\xs.length+ys.length<=lim then .ok (.nx (ρ.set i (aa (.lst (xs++ys)))) os) s else .no
   |_=>.no
  else .no):=by
 by_cases c:os.contains i=ag
 ·rw[T9 c]
  obtain⟨n,xs,hw,a1,a2,a3,a4⟩:=he.at c;have e0:X8 ρ[i]? = aa xs:=by rw[a1];rfl
  rw[e0];show ZI X n0 base S W _ ((pv CV e (hide os ρ) s).bind _);have e1:(ev C (.mt .extend (.v i) [e]) σ S).bind (λ_ S=>R.ok (Fl.nx σ) S)=(ev C e σ S).bind λd S=>(WU .extend (.loc n) [d] S).bind λ_ S=>.ok (.nx σ) S:=by
   rw[ev,ev,a3];show R.bind (if UQ S (.loc n)=ag then _ else _) _=_
   rw[T9 (by show(Zi S n).isSome=ag;rw[ZJ a4];rfl),we]
   cases ev C e σ S <;> rfl
  rw[e1];refine ZI.bindE (ZX H e he.xokW he.hid w) λd v S1 s1 x1 w1 r1=>?_
  have he1:=he.ext x1;have a5:=x1.keep n _ (he.ne hw) a4;cases v with
  |lst ys=>
   obtain⟨k,ds,rfl,hs,hx,rs⟩:=Rep.lst' r1;show ZI X n0 base S1 W _ (if ZN ys=ag/\xs.length+ys.length<=lim then .ok (.nx (ρ.set i (aa (.lst (xs++ys)))) os) s1 else .no)
   by_cases c2:ZN ys=ag/\xs.length+ys.length<=lim
   ·rw[T9 c2]
    have ed:=WE c2.1 rs;subst ed;have hm:WU .extend (.loc n) [.loc k] S1=.ok .non (S1.set n (.lst (Ym xs++Ym ys))):=by
     show(if n=k then R.no else(ob (Zi S1 n) S1).bind λxs S=>(ob (Zi S k) S).bind λys S=>if xs.length+ys.length<=lim then R.ok D.non (S.set n (.lst (xs++ys)))else .no)=_
     rw[T8 (λz:n=k=>hx (.inr ⟨i,by rw[<-z];exact hw⟩)),ZJ a5]
     show R.bind (ob (Zi S1 k) S1) _=_;rw[ZJ hs];show(if(Ym xs).length+(Ym ys).length<=lim then _ else _)=_
     rw[T9 (by rw[YL,YL];exact c2.2)]
    rw[hm];have:=ZI.mutd (ys:=xs++ys) he1 w1 hw (X6 a2 c2.1);rw[We]at this;exact this
   ·rw[T8 c2];exact aA
  |_=>exact aA
 ·rw[T8 c];exact aA
def ZaS(H:Z3 n0 C CV)(i:Nat)(k e:E)(he:Eu S X n0 base W ρ os σ)(w:Dw n0 S s):ZI X n0 base S W ((ev C e σ S).bind λv S=>(ev C (.v i) σ S).bind λx S=>(ev C k σ S).bind λy S=>(UK x y v S).bind λ_ S=>.ok (.nx σ) S)
  (if os.contains i then(pv CV e ρ s).bind λv s=>if v.flat then(po (X8 ρ[i]?) s).bind λxs s=>(pv CV k ρ s).bind λy s=>match y with
   |.int n=>(po (ixN xs.length n) s).bind λj s=>.ok (.nx (ρ.set i (aa (.lst (xs.set j v)))) os) s
   |_=>.no
  else .no else .no):=by
 by_cases c:os.contains i=ag
 ·rw[T9 c]
  obtain⟨n,xs,hw,a1,a2,a3,a4⟩:=he.at c;refine ZI.bindE (ZX H e he.xok he.all w) λd v S1 s1 x1 w1 r1=>?_
  have he1:=he.ext x1;have a5:=x1.keep n _ (he.ne hw) a4;by_cases c2:v.flat=ag
  ·rw[T9 c2]
   have e0:X8 ρ[i]? = aa xs:=by rw[a1];rfl
   rw[e0,ev,a3];show ZI X n0 base S1 W ((ev C k σ S1).bind λy S=>(UK (.loc n) y d S).bind λ_ S=>.ok (.nx σ) S) ((pv CV k ρ s1).bind _)
   refine ZI.bindE (ZX H k he1.xok he1.all w1) λdk vk S2 s2 x2 w2 r2=>?_
   have he2:=he1.ext x2;have a6:=x2.keep n _ (he.ne hw) a5;cases vk with
   |int m=>
    cases Rep.int' r2;show ZI X n0 base S2 W ((UK (.loc n) (.int m) d S2).bind _) ((po (ixN xs.length m) s2).bind _);cases q:ixN xs.length m with
    |none=>exact aA
    |some j=>
     have hm:UK (.loc n) (.int m) d S2=.ok () (S2.set n (.lst ((Ym xs).set j d))):=by
      show(match S2[n]? with
       |some (.lst xs)=>(ob (ixN xs.length m) S2).bind λj S=>R.ok () (S.set n (.lst (xs.set j d)))
       |_=>.no)=_
      rw[a6];show(ob (ixN (Ym xs).length m) S2).bind _=_;rw[YL,q];rfl
     rw[hm];have:=ZI.mutd (ys:=xs.set j v) he2 w2 hw (Jk a2 c2);rw[GT]at this;rw[Wg c2 r1];exact this
   |_=>exact aA
  ·rw[T8 c2];exact aA
 ·rw[T8 c];exact aA
def jD(H:Z3 n0 C CV)(ms:List Nat)(i:Nat)(e:E)(he:Eu S X n0 base W ρ os σ)(w:Dw n0 S s):ZI X n0 base S W ((ev C e σ S).bind λx S=>(ob (assign [i] x S σ) S).bind λσ S=>.ok (.nx σ) S)
  ((pvA CV e ρ os s).bind λv s=>if(ms.contains i&&fresh e)=ag then match v with
   |.lst xs=>if ZN xs=ag/\i<ρ.length then .ok (.nx (ρ.set i (aa v)) (i::os.filter (· != i))) s else .no
   |_=>.no
  else .ok (.nx (ρ.set i (aa v)) (os.filter (· != i))) s):=by
 have hA:=Zew H e he w;cases q:pvA CV e ρ os s with
 |no=>exact aA
 |ex c s1=>rw[q]at hA;obtain⟨S1,e1,x1,w1⟩:=hA;rw[e1];exact⟨S1,rfl,x1.s,w1⟩
 |ok v s1=>
  rw[q]at hA;obtain⟨d,S1,e1,x1,w1,r1⟩:=hA;rw[e1];show ZI X n0 base S W (.ok (.nx (σ.set i (aa d))) S1) (if(ms.contains i&&fresh e)=ag then _ else _)
  by_cases c:(ms.contains i&&fresh e)=ag
  ·rw[T9 c]
   cases v with
   |lst xs=>
    show ZI X n0 base S W _ (if ZN xs=ag/\i<ρ.length then _ else _)
    by_cases c2:ZN xs=ag/\i<ρ.length
    ·rw[T9 c2]
     obtain⟨c2,hi⟩:=c2;have hf:=((aB _ _).mp c).2;have fl:∃n,d=.loc n/\S.length<=n:=by
      cases os with
      |nil=>
       have hh:Ew S (XW X W) n0 ρ σ:=⟨he.len,λi v q=>he.val i v q (he.noW i)⟩
       exact Ja H hf he.xokW hh w q e1
      |cons o os=>
       have q':(match pv CV e (hide (o::os) ρ) s with
        |.ok v s=>.ok v s
        |.ex c s=>.ex c s
        |.no=>(pv CV e ρ s).bind λv s=>if v.flat then .ok v s else .no)=PR.ok (V.lst xs) s1:=q
       cases q3:pv CV e (hide (o::os) ρ) s with
       |ok v s2=>rw[q3]at q';cases q';exact Ja H hf he.xokW he.hid w q3 e1
       |ex _ _=>rw[q3]at q';cases q'
       |no=>
        rw[q3]at q';obtain⟨v,s2,_,q5⟩:=Y1 q';by_cases cf:v.flat=ag
        ·rw[T9 cf]at q5;cases q5;cases cf
        ·rw[T8 cf]at q5;cases q5
     obtain⟨n,rfl,hn⟩:=fl;refine⟨_,S1,rfl,x1.s,w1,_,?_,he.take x1 hn c2 r1 hi⟩;intro j m z;by_cases cj:j=i
     ·simp only[cj,if_true]at z;cases z;exact .inr hn
     ·simp only[cj,if_false]at z;exact .inl ⟨j,z⟩
    ·rw[T8 c2];exact aA
   |_=>exact aA
  ·rw[T8 c]
   refine⟨_,S1,rfl,x1.s,w1,_,?_,(he.ext x1).drop r1⟩;intro j m z;by_cases cj:j=i
   ·simp only[cj,if_true]at z;cases z
   ·simp only[cj,if_false]at z;exact .inl ⟨j,z⟩
end
section
variable{n0:Nat}{C:Calls}{CV:Zy}{X:Nat->Prop}{base:Nat}
theorem yW 
  (hk:∀p∈wk.kept,S0[p.1]? = aa (.lst p.2)/\¬XW X W0 p.1)(z0:X n0)
  (hb:∀x d S W ρ os σ s,Eu S X n0 base W ρ os σ->Dw n0 S s->Rep S X n0 x d->ZI X n0 base S W (body d σ S) (bodyV x ρ os s)) :
  ∀(vs:List V)(ds:List D)(S:Zb)(W:Own)(ρ:Env)(os:List Nat)(σ:Lc)(s:DS),Rq S0 (XW X W0) n0 vs ds->ExtS n0 W0 S0 S->WExt S0 W0 W->Eu S X n0 base W ρ os σ->Dw n0 S s->ZI X n0 base S W (Xk wk body ds σ S) (XN bodyV vs ρ os s)
 |[],ds,S,W,ρ,os,σ,s,rs,x,wx,he,w=>by
  rw[rs.nil',Xk,XN,T9 (Vc λp hp=>x.keep _ _ (λz=>(hk p hp).2 (.inl (z▸z0))) (λi z=>(hk p hp).2 (.inr ⟨i,z⟩)) (hk p hp).1)]
  exact ZI.nx w WExt.refl he
 |v::vs,ds,S,W,ρ,os,σ,s,rs,x,wx,he,w=>by
  obtain⟨d,ds,rfl,r1,r2⟩:=rs.cons';rw[Xk,XN,T9 (Vc λp hp=>x.keep _ _ (λz=>(hk p hp).2 (.inl (z▸z0))) (λi z=>(hk p hp).2 (.inr ⟨i,z⟩)) (hk p hp).1)]
  have r1':Rep S X n0 v d:=r1.mono (λn o nx hs=>x.keep n o (λz=>nx (.inl (z▸z0))) (λi z=>nx (.inr ⟨i,z⟩)) hs) λn _ z=>.inl z
  have h1:=hb v d S W ρ os σ s he w r1';cases q:bodyV v ρ os s with
  |no=>exact aA
  |ex c s1=>rw[q]at h1;obtain⟨S1,e,x1,w1⟩:=h1;rw[e];exact⟨S1,rfl,x1,w1⟩
  |ok f s1=>
   rw[q]at h1;obtain⟨g,S1,e,x1,w1,fr⟩:=h1;rw[e];cases f with
   |nx ρ1 os1=>cases g with
    |nx σ1=>
     obtain⟨W1,wx1,he1⟩:=fr;exact ZI.from x1 wx1 (yW hk z0 hb vs ds S1 W1 ρ1 os1 σ1 s1 r2 (x.trans wx x1) (wx.trans x.len wx1) he1 w1)
    |_=>exact fr.elim
   |cnt ρ1 os1=>cases g with
    |cnt σ1=>
     obtain⟨W1,wx1,he1⟩:=fr;exact ZI.from x1 wx1 (yW hk z0 hb vs ds S1 W1 ρ1 os1 σ1 s1 r2 (x.trans wx x1) (wx.trans x.len wx1) he1 w1)
    |_=>exact fr.elim
   |brk ρ1 os1=>cases g with|brk σ1=>exact⟨_,S1,rfl,x1,w1,fr⟩|_=>exact fr.elim
   |ret v1=>cases g with|ret d1=>exact⟨_,S1,rfl,x1,w1,fr⟩|_=>exact fr.elim
theorem Qr 
  (ht:∀S W ρ os σ s,Eu S X n0 base W ρ os σ->Dw n0 S s->Sim n0 S RlE (test σ S) (testV ρ s))
  (hb:∀S W ρ os σ s,Eu S X n0 base W ρ os σ->Dw n0 S s->ZI X n0 base S W (body σ S) (bodyV ρ os s)) :
  ∀(n:Nat)(S:Zb)(W:Own)(ρ:Env)(os:List Nat)(σ:Lc)(s:DS),Eu S X n0 base W ρ os σ->Dw n0 S s->ZI X n0 base S W (Xb test body n σ S) (XG testV bodyV n ρ os s)
 |0,S,W,ρ,os,σ,s,he,w=>by rw[XG];exact aA
 |n+1,S,W,ρ,os,σ,s,he,w=>by
  rw[Xb,XG];refine ZI.bindE (ht S W ρ os σ s he w) λb' b S1 s1 x1 w1 r1=>?_
  have r1:b'=b:=r1;subst r1;have he1:=he.ext x1;cases b' with
  |false=>exact ZI.nx w1 WExt.refl he1
  |true=>
   have h1:=hb S1 W ρ os σ s1 he1 w1;show ZI X n0 base S1 W (match body σ S1 with
    |.ok (.nx σ') S'=>Xb test body n σ' S'
    |.ok (.cnt σ') S'=>Xb test body n σ' S'
    |.ok (.brk σ') S'=>.ok (.nx σ') S'
    |.ok (.ret d) S'=>.ok (.ret d) S'
    |.ex c S'=>.ex c S'
    |.no=>.no) ((bodyV ρ os s1).bind _)
   cases q:bodyV ρ os s1 with
   |no=>exact aA
   |ex c s2=>rw[q]at h1;obtain⟨S2,e,x2,w2⟩:=h1;rw[e];exact⟨S2,rfl,x2,w2⟩
   |ok f s2=>
    rw[q]at h1;obtain⟨g,S2,e,x2,w2,fr⟩:=h1;rw[e];cases f with
    |nx ρ1 os1=>cases g with|nx σ1=>obtain⟨W1,wx1,he2⟩:=fr;exact ZI.from x2 wx1 (Qr ht hb n S2 W1 ρ1 os1 σ1 s2 he2 w2)|_=>exact fr.elim
    |cnt ρ1 os1=>cases g with|cnt σ1=>obtain⟨W1,wx1,he2⟩:=fr;exact ZI.from x2 wx1 (Qr ht hb n S2 W1 ρ1 os1 σ1 s2 he2 w2)|_=>exact fr.elim
    |brk ρ1 os1=>cases g with|brk σ1=>exact⟨_,S2,rfl,x2,w2,fr⟩|_=>exact fr.elim
    |ret v1=>cases g with|ret d1=>exact⟨_,S2,rfl,x2,w2,fr⟩|_=>exact fr.elim
mutual
theorem ZeR(H:Z3 n0 C CV)(ms:List Nat):∀(m:Sm){W:Own}{ρ:Env}{os:List Nat}{σ:Lc}{S:Zb}{s:DS},Eu S X n0 base W ρ os σ->Dw n0 S s->ZI X n0 base S W (run C m σ S) (rv CV ms m ρ os s)
 |.asg t e,W,ρ,os,σ,S,s,he,w=>by
  rw[run];have gen:∀t:List Nat,ZI X n0 base S W ((ev C e σ S).bind λx S=>(ob (assign t x S σ) S).bind λσ S=>.ok (.nx σ) S) ((pvA CV e ρ os s).bind λv s=>if(t.any os.contains)=ag then .no else(po (Zx t v ρ) s).bind λρ s=>.ok (.nx ρ os) s):=by
   intro t;refine ZI.bindE (Zew H e he w) λd v S1 s1 x1 w1 r1=>?_
   by_cases c:(t.any os.contains)=ag
   ·rw[T9 c];exact aA
   ·rw[T8 c]
    cases q:Zx t v ρ with
    |none=>exact aA
    |some ρ1=>
     obtain⟨σ1,e1,he1⟩:=(he.ext x1).assign (by simpa using c) r1 q
     rw[e1];exact ZI.nx w1 WExt.refl he1
  match t with
  |[i]=>exact jD H ms i e he w
  |[]=>exact gen []
  |i::j::t=>exact gen (i::j::t)
 |.aug i op e,W,ρ,os,σ,S,s,he,w=>by
  rw[run,rv];by_cases c:os.contains i=ag
  ·rw[T9 c];exact aA
  ·rw[T8 c]
   cases q:(ρ[i]?).join with
   |none=>exact aA
   |some x=>
    have q':ρ[i]? = aa (aa x):=by
     cases q2:ρ[i]? with|none=>rw[q2]at q;cases q|some o=>rw[q2]at q;have q:o=aa x:=q;rw[q]
    obtain⟨d,e1,r1⟩:=he.all.val i x q';rw[e1];show ZI X n0 base S W ((ev C e σ S).bind λy S=>(Qo op d y S).bind λz S=>.ok (.nx (σ.set i (aa z))) S) ((pv CV e ρ s).bind λy s=>(vm op x y s).bind λz s=>.ok (.nx (ρ.set i (aa z)) os) s)
    refine ZI.bindE (ZX H e he.xok he.all w) λdy y S1 s1 x1 w1 r2=>?_
    have he1:=he.ext x1;have hs:=ZbD (op:=op) he1.xok w1 (r1.ext he.xok x1) r2;cases q3:vm op x y s1 with
    |no=>exact aA
    |ex c s2=>rw[q3]at hs;obtain⟨S2,e2,x2,w2⟩:=hs;rw[e2];exact⟨S2,rfl,x2.s,w2⟩
    |ok z s2=>
     rw[q3]at hs;obtain⟨dz,S2,e2,x2,w2,r3⟩:=hs;obtain⟨k,rfl⟩:=Zbm q3;cases Rep.int' r3;rw[e2];exact ZI.from x2.s WExt.refl (ZI.nx w2 WExt.refl ((he1.ext x2).set (by simpa using c) (Zp k)))
 |.put o k e,W,ρ,os,σ,S,s,he,w=>by
  rw[run];cases o with|v i=>exact ZaS H i k e he w|_=>exact aA
 |.ret e,W,ρ,os,σ,S,s,he,w=>by
  rw[run,rv];exact ZI.bindE (ZX H e he.xok he.all w) λd v S1 s1 x1 w1 r1=>⟨_,S1,rfl,Ext.refl.s,w1,r1⟩
 |.ex e,W,ρ,os,σ,S,s,he,w=>by
  rw[run];cases e with
  |mt m o as=>
   have no:∀{q:PR FlV},q=(pv CV (.mt m o as) ρ s).bind (λ_ s=>.ok (.nx ρ os) s)->ZI X n0 base S W ((ev C (.mt m o as) σ S).bind λ_ S=>.ok (.nx σ) S) q:=λ{q} h=>by rw[h];exact Zb9 H _ he w
   cases m with
   |append=>cases o with
    |v i=>match as with
     |[e]=>exact yC H i e he w
     |[]=>exact no rfl
     |_::_::_=>exact no rfl
    |_=>exact no rfl
   |extend=>cases o with
    |v i=>match as with
     |[e]=>exact yn H i e he w
     |[]=>exact no rfl
     |_::_::_=>exact no rfl
    |_=>exact no rfl
  |_=>exact Zb9 H _ he w
 |.ite t a b,W,ρ,os,σ,S,s,he,w=>by
  rw[run,rv];refine ZI.bindE (j7 H t he w) λc' c S1 s1 x1 w1 r1=>?_
  have r1:c'=c:=r1;subst r1;cases c' with|true=>exact V3 H ms a (he.ext x1) w1|false=>exact V3 H ms b (he.ext x1) w1
 |.forr t it b,W,ρ,os,σ,S,s,he,w=>by
  rw[run,rv];refine ZI.bindE (Zdt H it he.xokW he.hid w) λwk vs S1 s1 x1 w1 r1=>?_
  have he1:=he.ext x1;refine yW (W0:=W) (S0:=S1) (λp hp=>r1.2 p hp) he.xz (λx d S W ρ os σ s he w r=>?_) vs wk.items S1 W ρ os σ s1 r1.1 Ext.refl.s WExt.refl he1 w1
  by_cases c:(t.any os.contains)=ag
  ·rw[T9 c];exact aA
  ·rw[T8 c]
   by_cases c2:(os.isEmpty||x.flat)=ag
   ·rw[T9 c2]
    have r':Rep S (XW X W) n0 x d:=by
     rcases(fW _ _).mp c2 with c3 | c3
     ·have:os=[]:=by simpa using c3
      subst this;exact r.mono (λ_ _ _ z=>z) λn _ z=>z.elim id λ⟨i,z⟩=>by rw[he.noW i]at z;cases z
     ·rw[Wg c3 r];exact UX c3
    cases q:Zx t x ρ with
    |none=>exact aA
    |some ρ1=>
     obtain⟨σ1,e1,he2⟩:=he.assign (by simpa using c) r' q
     rw[e1];exact V3 H ms b he2 w
   ·rw[T8 c2];exact aA
 |.whl t b,W,ρ,os,σ,S,s,he,w=>by
  rw[run,rv];exact Qr (λS W ρ os σ s he w=>j7 H t he w) (λS W ρ os σ s he w=>V3 H ms b he w) Vu S W ρ os σ s he w
 |.raise c as,W,ρ,os,σ,S,s,he,w=>by
  rw[run,rv];exact ZI.bindE (Uf H as he.xok he.all w) λd v S1 s1 x1 w1 r1=>⟨S1,rfl,Ext.refl.s,w1⟩
 |.brk,W,ρ,os,σ,S,s,he,w=>by rw[run,rv];exact⟨_,S,rfl,Ext.refl.s,w,W,WExt.refl,he⟩
 |.cnt,W,ρ,os,σ,S,s,he,w=>by rw[run,rv];exact⟨_,S,rfl,Ext.refl.s,w,W,WExt.refl,he⟩
 |.mov i j,W,ρ,os,σ,S,s,he,w=>by rw[run,rv];exact ZaG i j he w
theorem V3(H:Z3 n0 C CV)(ms:List Nat):∀(l:List Sm){W:Own}{ρ:Env}{os:List Nat}{σ:Lc}{S:Zb}{s:DS},Eu S X n0 base W ρ os σ->Dw n0 S s->ZI X n0 base S W (runs C l σ S) (rvs CV ms l ρ os s)
 |[],W,ρ,os,σ,S,s,he,w=>by rw[runs,rvs];exact ZI.nx w WExt.refl he
 |m::l,W,ρ,os,σ,S,s,he,w=>by
  rw[runs,rvs];have h1:=ZeR H ms m he w;cases q:rv CV ms m ρ os s with
  |no=>exact aA
  |ex c s1=>rw[q]at h1;obtain⟨S1,e,x1,w1⟩:=h1;rw[e];exact⟨S1,rfl,x1,w1⟩
  |ok f s1=>
   rw[q]at h1;obtain⟨g,S1,e,x1,w1,fr⟩:=h1;rw[e];cases f with
   |nx ρ1 os1=>cases g with|nx σ1=>obtain⟨W1,wx1,he1⟩:=fr;exact ZI.from x1 wx1 (V3 H ms l he1 w1)|_=>exact fr.elim
   |cnt ρ1 os1=>cases g with|cnt σ1=>exact⟨_,S1,rfl,x1,w1,fr⟩|_=>exact fr.elim
   |brk ρ1 os1=>cases g with|brk σ1=>exact⟨_,S1,rfl,x1,w1,fr⟩|_=>exact fr.elim
   |ret v1=>cases g with|ret d1=>exact⟨_,S1,rfl,x1,w1,fr⟩|_=>exact fr.elim
end
end
noncomputable def WS:Fn:=⟨2,4,
 [.ite (.ix (.v 0) (.c (.int 1))) [.asg [2] (.bin .mod (.ix (.v 0) (.c (.int 0))) (.v 1)),
  .put (.v 0) (.c (.int 0)) (.bin .fdiv (.ix (.v 0) (.c (.int 0))) (.v 1)),
  .ret (.v 2)] [],
  .put (.v 0) (.c (.int 0)) (.bin .mod (.bin .add (.bin .mul (.ix (.v 0) (.c (.int 0))) (.c (.int 48271))) (.c (.int 29))) (.c (.int 2147483647))),
  .asg [3] (.bin .mod (.bin .add (.bin .add (.bin .mul (.ix (.v 0) (.c (.int 0))) (.ix (.v 0) (.c (.int 0)))) (.bin .mul (.c (.int 39373)) (.ix (.v 0) (.c (.int 0))))) (.c (.int 7))) (.c (.int 2147483629))),
  .asg [3] (.bin .mod (.bin .add (.bin .mul (.v 3) (.v 3)) (.bin .mul (.c (.int 16807)) (.v 3))) (.c (.int 2147483587))),
  .ret (.bin .mod (.bin .fdiv (.v 3) (.c (.int 8))) (.v 1))]⟩
def WA(h0:0<=a)(h:a<4294967296):fits a=ag:=by
 unfold fits;refine T5 ?_;have h1:a.natAbs<2^32:=by omega
 exact aY h1 (fP (by decide) (by decide))
def evT:(∀a b S,Yl .add (.int a) (.int b) S=.ok (.int (a+b)) S)/\(∀a b S,Yl .mul (.int a) (.int b) S=if(fits a&&fits b)=ag then .ok (.int (a*b)) S else .no)/\(∀a b S,Yl .fdiv (.int a) (.int b) S=if 0<b/\b<big then .ok (.int (a / b)) S else .no)/\(∀a b S,Yl .mod (.int a) (.int b) S=if 0<b then .ok (.int (a%b)) S else .no)/\(∀S b,Z5 S (.bl b)=aa b)/\(∀i x S σ,assign [i] x S σ=aa (σ.set i (aa x))):=
 ⟨λ_ _ _=>rfl,λ_ _ _=>rfl,λ_ _ _=>rfl,λ_ _ _=>rfl,λ_ _=>rfl,λ_ _ _ _=>rfl⟩
def Ur(h:S[n]? = aa (.lst xs)):wE (.loc n) (.int i) S=ob (at' xs i) S:=by
 have e:Z9 S n=aa xs:=by unfold Z9;rw[h]
 show(match Z9 S n with | some xs=>ob (at' xs i) S | none=>.no)=_
 rw[e]
def xF(h:S[n]? = aa (.lst xs)):UK (.loc n) (.int i) v S=(ob (ixN xs.length i) S).bind λj S=>.ok () (S.set n (.lst (xs.set j v))):=by
 show(match S[n]? with | some (.lst xs)=>(ob (ixN xs.length i) S).bind λj S=>.ok () (S.set n (.lst (xs.set j v))) | _=>.no)=_
 rw[h]
def lt8:(8:Int)<big:=qA (by decide)
def ZaU(hF:F[tk]? = aa WS)(h:Dw n0 S s)(m0:0<m)(m1:m<1073741824) :
  ∃S',Zt F (d+1) tk [.loc n0,.int m] S=.ok (.int (Yx s m).1) S'/\Ext n0 S S'/\Dw n0 S' (Yx s m).2:=by
 obtain⟨a,b⟩:=s;obtain⟨hs,ha,hb⟩:=h;simp only at hs ha hb;have hn:=YX hs;have hx:∀o,Ext n0 S (S.set n0 o):=λo=>⟨by simp,λn o' z e=>by rw[aE (Ne.symm z)];exact e⟩
 have hset:∀o,(S.set n0 o)[n0]? = aa o:=λo=>aQ hn
 rw[Zt,hF];cases b with
 |true=>
  refine⟨S.set n0 (.lst [.int (a / m),.bl ag]),?_,hx _,hset _,?_,by simp[Yx]⟩
  ·simp[WS,Yx,Ev.runs,Ev.run,Ev.ev.eq_1,Ev.ev.eq_2,Ev.ev.eq_7,Ev.ev.eq_15,Ev.tst,Ev.R.bind,Ev.ob,evT,Ev.start,Ur hs,xF hs,Ur (hset _),hs,at',ixN,m0,m1,qA m1]
  ·simp only[Yx,if_true]
   exact Int.ediv_nonneg ha (by omega)
 |false=>
  have hb:=hb rfl;have h1:=WA ha (by omega)
  have x0:0<=(a*48271+29)%2147483647:=by omega
  have x1:(a*48271+29)%2147483647<2147483647:=by omega
  generalize hxx:(a*48271+29)%2147483647=x at x0 x1;have y0:0<=(x*x+39373*x+7)%2147483629:=by omega
  have y1:(x*x+39373*x+7)%2147483629<2147483629:=by omega
  generalize hyy:(x*x+39373*x+7)%2147483629=y at y0 y1;refine⟨S.set n0 (.lst [.int x,.bl ai]),?_,hx _,by simp only[Yx,ck,if_false,hxx];exact hset _,by simp only[Yx,ck,if_false,hxx];exact x0,by simp only[Yx,ck,if_false,hxx];exact λ_=>x1⟩
  have f1:=WA x0 (by omega)
  have f2:=WA y0 (by omega)
  have f3:fits 48271=ag:=WA (by omega) (by omega)
  have f4:fits 39373=ag:=WA (by omega) (by omega)
  have f5:fits 16807=ag:=WA (by omega) (by omega)
  clear hn;simp[WS,Yx,Ev.runs,Ev.run,Ev.ev.eq_1,Ev.ev.eq_2,Ev.ev.eq_7,Ev.ev.eq_15,Ev.tst,Ev.R.bind,Ev.ob,evT,Ev.start,Ur hs,xF hs,Ur (hset _),hs,at',ixN,m0,m1,lt8,h1,hxx,hyy,f1,f2,f3,f4,f5,hset]
def u5{X:Nat->Prop}(n:Nat)(xo:Xok X n0 S)(rs:Rq S X n0 vs ds):Eu S X n0 S.length (λ_=>ac) (XH n vs) [] (start n ds):=by
 refine⟨xo.z,xo.lt,aD _,by unfold XH start;simp[rs.length],λi=>rfl,λi j n h=>(by cases h),λi n h=>(by cases h),λi n h=>(by cases h),λi v e _=>?_⟩
 unfold XH at e;unfold start;by_cases c:i<vs.length
 ·rw[aP (by simpa using c),bg]at e
  rw[aP (by simpa[rs.length]using c),bg]
  cases q:vs[i]? with
  |none=>rw[q]at e;cases e
  |some u=>
   rw[q]at e;have e:aa u=aa v:=af e;cases e;obtain⟨d,a,b⟩:=rs.get q;rw[a];exact⟨d,rfl,b.mono (λ_ _ _ z=>z) λn _ z=>z.elim id λ⟨_,z⟩=>by cases z⟩
 ·rw[bf (by simpa using fC c),bN]at e
  split at e <;> cases e
theorem UV(hF:F[tk]? = aa WS):∀d,Z3 n0 (Zt F d) (ZL F tk d)
 |0,f,vs,ds,S,s,X,xo,w,rs=>by rw[ZL];exact aA
 |d+1,f,vs,ds,S,s,X,xo,w,rs=>by
  rw[ZL];by_cases c:f=tk
  ·rw[T9 c]
   subst c
   match vs,rs with
   |[.drw,.int m],rs=>
    show Sim n0 S (RlV X n0) _ (if 0<m/\m<1073741824 then .ok (.int (Yx s m).1) (Yx s m).2 else .no)
    by_cases c2:0<m/\m<1073741824
    ·rw[T9 c2]
     obtain⟨d1,es,rfl,r1,r2⟩:=rs.cons';obtain⟨d2,es2,rfl,r3,r4⟩:=r2.cons';cases r4.nil';cases r1.drw';cases r3.int';obtain⟨S',e,x,w'⟩:=ZaU (d:=d) hF w c2.1 c2.2;exact⟨_,S',e,x,w',Zp _⟩
    ·rw[T8 c2];exact aA
   |[],_=>exact aA
   |[_],_=>unfold uX;split <;> first | exact aA | (rename_i h;cases h)
   |a::b::c::l,_=>unfold uX;split <;> first | exact aA | (rename_i h;cases h)
   |[.non,_],_ | [.bl _,_],_ | [.int _,_],_ | [.str _,_],_ | [.tup _,_],_ | [.lst _,_],_ | [.dct _,_],_=>exact aA
   |[.drw,.non],_ | [.drw,.bl _],_ | [.drw,.str _],_ | [.drw,.tup _],_ | [.drw,.lst _],_ | [.drw,.drw],_ | [.drw,.dct _],_=>exact aA
  ·rw[T8 c,Zt]
   cases q:F[f]? with
   |none=>exact aA
   |some fn=>
    show Sim n0 S (RlV X n0) (if ds.length=fn.ps then _ else .no) (if vs.length=fn.ps then _ else .no)
    rw[rs.length];refine Sim.guard λ_=>?_
    have h1:=V3 (UV (n0:=n0) hF d) (muts fn.body) fn.body (u5 fn.ns xo rs) w;have ex:∀{S':Zb},ExtS n0 (λ_=>ac) S S'->Ext n0 S S':=λ{S'} x=>⟨x.len,λn o a b=>x.keep n o a (λi z=>by cases z) b⟩
    cases q2:rvs (ZL F tk d) (muts fn.body) fn.body (XH fn.ns vs) [] s with
    |no=>exact aA
    |ex c s1=>rw[q2]at h1;obtain⟨S1,e,x1,w1⟩:=h1;rw[e];exact⟨S1,rfl,ex x1,w1⟩
    |ok g s1=>
     rw[q2]at h1;obtain⟨g',S1,e,x1,w1,fr⟩:=h1;rw[e];cases g with
     |nx ρ1 os1=>cases g' with|nx σ1=>exact⟨.non,S1,rfl,ex x1,w1,YF⟩|_=>exact fr.elim
     |ret v1=>cases g' with|ret d1=>exact⟨d1,S1,rfl,ex x1,w1,fr⟩|_=>exact fr.elim
     |brk _ _=>exact aA
     |cnt _ _=>exact aA
end Pv
namespace La
variable{F:Type}[eO F]
noncomputable abbrev Vec(F:Type):=Nat->F
noncomputable abbrev Pt(F:Type):=List (Nat×Vec F)
noncomputable def pr:Pt F->Vec F->Vec F
 |[],_,_=>0
 |a::P,v,j=>v a.1*a.2 j+pr P v j
structure Rf(P:Pt F):Prop where
 inc:P.Pairwise λa b=>a.1<b.1
 low:∀a∈P,∀j,j<a.1->a.2 j=0
 one:∀a∈P,a.2 a.1=1
 zer:∀a∈P,∀b∈P,a.1≠b.1->b.2 a.1=0
def Mem(P:Pt F)(v:Vec F):Prop:=∀j,v j=pr P v j
def ZcU(P:Pt F)(u v:Vec F)(c:F)(j:Nat):pr P (λj=>u j+c*v j) j=pr P u j+c*pr P v j:=by
 induction P with|nil=>show(0:F)=0+c*0;grind|cons a P ih=>show(u a.1+c*v a.1)*a.2 j+pr P _ j=(u a.1*a.2 j+pr P u j)+c*(v a.1*a.2 j+pr P v j);grind
def JO(P:Pt F)(u v:Vec F)(c:F)(j:Nat):pr P (λj=>u j-c*v j) j=pr P u j-c*pr P v j:=by
 induction P with|nil=>show(0:F)=0-c*0;grind|cons a P ih=>show(u a.1-c*v a.1)*a.2 j+pr P _ j=(u a.1*a.2 j+pr P u j)-c*(v a.1*a.2 j+pr P v j);grind
def qm{P:Pt F}{u v:Vec F}(h:∀b∈P,u b.1=v b.1)(j:Nat):pr P u j=pr P v j:=by
 induction P with
 |nil=>rfl
 |cons a P ih=>
  show u a.1*a.2 j+pr P u j=v a.1*a.2 j+pr P v j;rw[h a (am ..),ih λb hb=>h b (al _ hb)]
def X2{P:Pt F}{v:Vec F}{j:Nat}(h:∀b∈P,v b.1*b.2 j=0):pr P v j=0:=by
 induction P with
 |nil=>rfl
 |cons a P ih=>
  show v a.1*a.2 j+pr P v j=0;rw[h a (am ..),ih λb hb=>h b (al _ hb)];grind
def xG{P:Pt F}{v:Vec F}{j:Nat}{a:Nat×Vec F}(inc:P.Pairwise λa b=>a.1<b.1)(ha:a∈P)(h:∀b∈P,b.1≠a.1->v b.1*b.2 j=0):pr P v j=v a.1*a.2 j:=by
 induction P with
 |nil=>cases ha
 |cons b P ih=>
  rw[bj]at inc;show v b.1*b.2 j+pr P v j=_;rcases az.mp ha with e | hm
  ·subst e
   rw[X2 λc hc=>h c (al _ hc) (by have:=inc.1 c hc;omega)];grind
  ·rw[ih inc.2 hm λc hc=>h c (al _ hc),h b (am ..) (by have:=inc.1 a hm;omega)];grind
def Rf.tail{a:Nat×Vec F}{P:Pt F}(h:Rf (a::P)):Rf P:=
 ⟨(bj.mp h.inc).2,λb hb=>h.low b (al _ hb),λb hb=>h.one b (al _ hb),λb hb c hc=>h.zer b (al _ hb) c (al _ hc)⟩
def Rf.nil:Rf ([]:Pt F):=⟨gQ,λ_ h=>(by cases h),λ_ h=>(by cases h),λ_ h=>(by cases h)⟩
def wn{P:Pt F}(h:Rf P){a:Nat×Vec F}(ha:a∈P)(v:Vec F):pr P v a.1=v a.1:=by
 rw[xG h.inc ha λb hb ne=>by rw[h.zer a ha b hb (Ne.symm ne)];grind,h.one a ha];grind
def VF{P:Pt F}(h:Rf P){a:Nat×Vec F}(ha:a∈P):Mem P a.2:=λj=>by
 rw[xG h.inc ha λb hb ne=>by rw[h.zer b hb a ha ne];grind,h.one a ha];grind
def Vb(c:F)(hu:Mem P u)(hv:Mem P v):Mem P λj=>u j+c*v j:=λj=>by
 show u j+c*v j=_;rw[ZcU,<-hu j,<-hv j]
def Uo(c:F)(hu:Mem P u)(hv:Mem P v):Mem P λj=>u j-c*v j:=λj=>by
 show u j-c*v j=_;rw[JO,<-hu j,<-hv j]
def Qn{P:Pt F}:Mem P λ_=>0:=λj=>(X2 λb _=>by grind).symm
def qC{P:Pt F}(h:Rf P)(v:Vec F):Mem P (pr P v):=λj=>qm (λb hb=>(wn h hb v).symm) j
def uN{P:Pt F}{v:Vec F}(h:Mem P v)(z:∀b∈P,v b.1=0)(j:Nat):v j=0:=by
 rw[h j];exact X2 λb hb=>by rw[z b hb];grind
def qg{P:Pt F}(h:Rf P){v:Vec F}(hv:Mem P v){k:Nat}(hk:v k≠0)(hl:∀j,j<k->v j=0):∃a∈P,a.1=k:=by
 have inc:=h.inc;have low:=h.low;have gen:∀Q:Pt F,Q.Pairwise (λa b=>a.1<b.1)->(∀a∈Q,∀j,j<a.1->a.2 j=0)->(∀j,v j=pr Q v j)->∃a∈Q,v a.1≠0/\∀j,j<a.1->v j=0:=by
  intro Q
  induction Q with
  |nil=>intro _ _ e;exact T7 (e k) hk
  |cons a Q ih=>
   intro inc low e;rw[bj]at inc;by_cases c:v a.1=0
   ·obtain⟨b,hb,r⟩:=ih inc.2 (λb hb=>low b (al _ hb)) λj=>by
     have:v j=v a.1*a.2 j+pr Q v j:=e j;rw[c]at this;grind
    exact⟨b,al _ hb,r⟩
   ·refine⟨a,am ..,c,λj hj=>?_⟩
    have e1:v j=v a.1*a.2 j+pr Q v j:=e j;have e2:pr Q v j=0:=X2 λb hb=>by rw[low b (al _ hb) j (by have:=inc.1 b hb;omega)];grind
    rw[e1,e2,low a (am ..) j hj];grind
 obtain⟨a,ha,h1,h2⟩:=gen P inc low hv;refine⟨a,ha,?_⟩;by_cases c:a.1<k
 ·exact T7 (hl _ c) h1
 ·by_cases c2:k<a.1
  ·exact T7 (h2 _ c2) hk
  ·omega
def Jl{P Q:Pt F}(one0:(1:F)≠0)(hP:Rf P)(hQ:Rf Q)(h:∀v,Mem P v->Mem Q v):∀a∈P,∃b∈Q,b.1=a.1:=λa ha=>
 qg hQ (h _ (VF hP ha)) (by rw[hP.one a ha];exact one0) (hP.low a ha)
theorem yp:∀{a b:List Nat},a.Pairwise (· < ·)->b.Pairwise (· < ·)->(∀x,x∈a↔x∈b)->a=b
 |[],[],_,_,_=>rfl
 |[],y::b,_,_,h=>by have:=(h y).mpr (am ..);cases this
 |x::a,[],_,_,h=>by have:=(h x).mp (am ..);cases this
 |x::a,y::b,ha,hb,h=>by
  rw[bj]at ha hb;have e:x=y:=by
   rcases az.mp ((h x).mp (am ..))with e | e
   ·exact e
   ·rcases az.mp ((h y).mpr (am ..))with e' | e'
    ·exact e'.symm
    ·have:=hb.1 x e;have:=ha.1 y e';omega
  subst e;rw[yp ha.2 hb.2 λz=>?_]
  constructor
  ·intro hz
   rcases az.mp ((h z).mp (al _ hz))with e | e
   ·have:=ha.1 z hz;omega
   ·exact e
  ·intro hz
   rcases az.mp ((h z).mpr (al _ hz))with e | e
   ·have:=hb.1 z hz;omega
   ·exact e
def Rf.heads{P:Pt F}(h:Rf P):(P.map (·.1)).Pairwise (· < ·):=d9.mpr h.inc
def uniq{P Q:Pt F}(one0:(1:F)≠0)(hP:Rf P)(hQ:Rf Q)(h:∀v,Mem P v↔Mem Q v):P=Q:=by
 have eh:P.map (·.1)=Q.map (·.1):=yp hP.heads hQ.heads λx=>by
  constructor
  ·intro hx
   obtain⟨a,ha,rfl⟩:=aO.mp hx;obtain⟨b,hb,e⟩:=Jl one0 hP hQ (λv=>(h v).mp) a ha
   exact aO.mpr ⟨b,hb,e⟩
  ·intro hx
   obtain⟨a,ha,rfl⟩:=aO.mp hx;obtain⟨b,hb,e⟩:=Jl one0 hQ hP (λv=>(h v).mpr) a ha
   exact aO.mpr ⟨b,hb,e⟩
 have ev:∀a∈P,∀b∈Q,a.1=b.1->a.2=b.2:=by
  intro a ha b hb e;have hd:Mem P λj=>a.2 j-1*b.2 j:=Uo 1 (VF hP ha) ((h _).mpr (VF hQ hb))
  funext j
  have:=uN hd (λc hc=>by
   show a.2 c.1-1*b.2 c.1=0;have:c.1∈Q.map (·.1):=by rw[<-eh];exact aO.mpr ⟨c,hc,rfl⟩
   obtain⟨c',hc',ec⟩:=aO.mp this;by_cases z:c.1=a.1
   ·rw[z,hP.one a ha,e,hQ.one b hb];grind
   ·rw[hP.zer c hc a ha z,<-ec,hQ.zer c' hc' b hb (by omega)];grind) j
  grind
 clear h hP hQ
 induction P generalizing Q with
 |nil=>cases Q with|nil=>rfl|cons b Q=>cases eh
 |cons a P ih=>cases Q with
  |nil=>cases eh
  |cons b Q=>
   rw[aS,aS]at eh;injection eh with e1 e2
   have e3:=ev a (am ..) b (am ..) e1;rw[ih e2 λx hx y hy=>ev x (al _ hx) y (al _ hy)]
   rw[show a=b from Prod.ext e1 e3]
noncomputable def ins(x:Nat×Vec F):Pt F->Pt F
 |[]=>[x]
 |y::P=>if x.1<y.1 then x::y::P else y::ins x P
theorem YO(x:Nat×Vec F):∀P:Pt F,(ins x P).Perm (x::P)
 |[]=>dB _
 |y::P=>by
  unfold ins;split
  ·exact dB _
  ·exact((YO x P).cons y).trans (i4 x y P)
theorem xZ(x:Nat×Vec F):∀{P:Pt F},P.Pairwise (λa b=>a.1<b.1)->(∀a∈P,a.1≠x.1)->(ins x P).Pairwise λa b=>a.1<b.1
 |[],_,_=>by unfold ins;exact ia ..
 |y::P,h,hn=>by
  have h':=bj.mp h;unfold ins;split
  ·rename_i c
   refine bj.mpr ⟨λz hz=>?_,h⟩
   rcases az.mp hz with rfl | hz
   ·exact c
   ·have:=h'.1 z hz;omega
  ·rename_i c
   refine bj.mpr ⟨λz hz=>?_,xZ x h'.2 λa ha=>hn a (al _ ha)⟩
   rcases az.mp ((YO x P).mem_iff.mp hz)with rfl | hz
   ·have:=hn y (am ..);omega
   ·exact h'.1 z hz
theorem uE(x:Nat×Vec F)(v:Vec F)(j:Nat):∀P:Pt F,pr (ins x P) v j=v x.1*x.2 j+pr P v j
 |[]=>rfl
 |y::P=>by
  unfold ins;split
  ·rfl
  ·show v y.1*y.2 j+pr (ins x P) v j=v x.1*x.2 j+(v y.1*y.2 j+pr P v j)
   rw[uE x v j P];grind
noncomputable def off(h:Nat)(l:Vec F)(a:Nat×Vec F):Nat×Vec F:=(a.1,λj=>a.2 j-a.2 h*l j)
noncomputable def wid(P:Pt F)(h:Nat)(l:Vec F):Pt F:=ins (h,l) (P.map (off h l))
theorem qt(h:Nat)(l v:Vec F)(j:Nat):∀P:Pt F,pr (P.map (off h l)) v j=pr P v j-pr P v h*l j
 |[]=>by show(0:F)=0-0*l j;grind
 |a::P=>by
  show v a.1*(a.2 j-a.2 h*l j)+pr (P.map (off h l)) v j=(v a.1*a.2 j+pr P v j)-(v a.1*a.2 h+pr P v h)*l j;rw[qt h l v j P];grind
structure Lead(P:Pt F)(h:Nat)(l:Vec F):Prop where
 one:l h=1
 low:∀j,j<h->l j=0
 zer:∀a∈P,l a.1=0
def Lead.ne{P:Pt F}{h:Nat}{l:Vec F}(one0:(1:F)≠0)(L:Lead P h l){a:Nat×Vec F}(ha:a∈P):a.1≠h:=λe=>by
 have:=L.zer a ha;rw[e,L.one]at this;exact one0 this
def uM{P:Pt F}{h:Nat}{l:Vec F}(one0:(1:F)≠0)(hP:Rf P)(L:Lead P h l):Rf (wid P h l):=by
 have mem:∀{x},x∈wid P h l->x=(h,l)\/∃a∈P,x=off h l a:=λ{x} hx=>by
  rcases az.mp ((YO _ _).mem_iff.mp hx)with e | e
  ·exact .inl e
  ·obtain⟨a,ha,e⟩:=aO.mp e
   exact .inr ⟨a,ha,e.symm⟩
 refine⟨xZ _ ?_ ?_,λx hx j hj=>?_,λx hx=>?_,λx hx y hy ne=>?_⟩
 ·exact d9.mpr hP.inc
 ·intro a ha
  obtain⟨b,hb,rfl⟩:=aO.mp ha;exact L.ne (a:=b) one0 hb
 ·rcases mem hx with rfl | ⟨a,ha,rfl⟩
  ·exact L.low j hj
  ·show a.2 j-a.2 h*l j=0
   rw[hP.low a ha j hj];by_cases c:h<a.1
   ·rw[hP.low a ha h c];grind
   ·have:j<a.1:=hj
    rw[L.low j (by have:=L.ne one0 ha;omega)];grind
 ·rcases mem hx with rfl | ⟨a,ha,rfl⟩
  ·exact L.one
  ·show a.2 a.1-a.2 h*l a.1=1
   rw[hP.one a ha,L.zer a ha];grind
 ·rcases mem hx with rfl | ⟨a,ha,rfl⟩
  ·rcases mem hy with rfl | ⟨b,hb,rfl⟩
   ·exact T7 rfl ne
   ·show b.2 h-b.2 h*l h=0
    rw[L.one];grind
  ·rcases mem hy with rfl | ⟨b,hb,rfl⟩
   ·exact L.zer a ha
   ·show b.2 a.1-b.2 h*l a.1=0
    rw[hP.zer a ha b hb ne,L.zer a ha];grind
def Zbi(P:Pt F)(h:Nat)(l:Vec F):(wid P h l).length=P.length+1:=by
 have:=(YO (h,l) (P.map (off h l))).length_eq;rw[aR,aH]at this;exact this
def Zbd{P:Pt F}{h:Nat}{l:Vec F}(hP:Rf P)(L:Lead P h l)(u:Vec F):Mem (wid P h l) u↔∃c,Mem P λj=>u j-c*l j:=by
 have e:∀j,pr (wid P h l) u j=u h*l j+(pr P u j-pr P u h*l j):=λj=>by
  unfold wid;rw[uE,qt]
 have pl:∀j,pr P l j=0:=λj=>X2 λb hb=>by rw[L.zer b hb];grind
 constructor
 ·intro hu
  refine⟨u h-pr P u h,λj=>?_⟩
  rw[JO,pl];have:=hu j;rw[e j]at this;show u j-(u h-pr P u h)*l j=_
  grind
 ·rintro ⟨c,hc⟩ j
  rw[e j];have h1:u j-c*l j=_:=hc j;have h2:u h-c*l h=_:=hc h;rw[JO,pl]at h1 h2;rw[L.one]at h2
  grind
noncomputable def rest(P:Pt F)(v:Vec F):Vec F:=λj=>v j-pr P v j
def uK(hP:Rf P)(v:Vec F)(ha:a∈P):rest P v a.1=0:=by
 unfold rest;rw[wn hP ha];grind
def UW{P:Pt F}{v:Vec F}:(∀j,rest P v j=0)↔Mem P v:=by
 constructor
 ·intro h j;have:=h j;unfold rest at this;grind
 ·intro h j;have:=h j;unfold rest;grind
def wp{P:Pt F}(hP:Rf P){v:Vec F}{h:Nat}{i:F}(hi:i*rest P v h=1)(hl:∀j,j<h->rest P v j=0):Lead P h λj=>i*rest P v j:=
 ⟨hi,λj hj=>by show i*rest P v j=0;rw[hl j hj];grind,λa ha=>by show i*rest P v a.1=0;rw[uK hP v ha];grind⟩
def qk{P:Pt F}(hP:Rf P){v:Vec F}{h:Nat}{i:F}(hi:i*rest P v h=1)(hl:∀j,j<h->rest P v j=0)(u:Vec F) :
  Mem (wid P h λj=>i*rest P v j) u↔∃c,Mem P λj=>u j-c*v j:=by
 rw[Zbd hP (wp hP hi hl)]
 constructor
 ·rintro ⟨c,hc⟩
  refine⟨c*i,?_⟩;have:=Uo (c*i) hc (qC hP v);have e:(λj=>(u j-c*(i*rest P v j))-c*i*pr P v j)=λj=>u j-c*i*v j:=by funext j;unfold rest;grind
  rw[e]at this;exact this
 ·rintro ⟨c,hc⟩
  refine⟨c*rest P v h,?_⟩;have:=Vb c hc (qC hP v);have e:(λj=>(u j-c*v j)+c*pr P v j)=λj=>u j-c*rest P v h*(i*rest P v j):=by funext j;unfold rest at hi ⊢;grind
  rw[e]at this;exact this
def jg(hv:Mem P v)(u:Vec F):Mem P u↔∃c,Mem P λj=>u j-c*v j:=by
 constructor
 ·intro h;exact⟨0,by have:=Uo 0 h hv;exact this⟩
 ·rintro ⟨c,hc⟩
  have:=Vb c hc hv;have e:(λj=>(u j-c*v j)+c*v j)=u:=by funext j;grind
  rw[e]at this;exact this
def GN(P:Pt F):List (Vec F)->Vec F->Prop
 |[],u=>Mem P u
 |v::vs,u=>∃c,GN P vs λj=>u j-c*v j
theorem VL(h:∀u,Mem P' u↔∃c,Mem P λj=>u j-c*v j):∀(vs:List (Vec F))(u:Vec F),GN P' vs u↔GN P (v::vs) u
 |[],u=>h u
 |w::vs,u=>by
  constructor
  ·rintro ⟨d,hd⟩
   obtain⟨c,hc⟩:=(VL h vs _).mp hd;refine⟨c,d,?_⟩;have e:(λj=>u j-c*v j-d*w j)=λj=>u j-d*w j-c*v j:=by funext j;grind
   show GN P vs λj=>u j-c*v j-d*w j
   rw[e];exact hc
  ·rintro ⟨c,d,hc⟩
   refine⟨d,(VL h vs _).mpr ⟨c,?_⟩⟩;have e:(λj=>u j-d*w j-c*v j)=λj=>u j-c*v j-d*w j:=by funext j;grind
   show GN P vs λj=>u j-d*w j-c*v j
   rw[e];exact hc
variable{F:Type}[eO F][DecidableEq F]
def Supp(n:Nat)(v:Vec F):Prop:=∀j,n<=j->v j=0
structure Pn(n:Nat)(P:Pt F):Prop where
 rf:Rf P
 lt:∀a∈P,a.1<n
 sp:∀a∈P,Supp n a.2
theorem Pn.nil{n:Nat}:Pn n ([]:Pt F):=⟨Rf.nil,λ_ h=>(by cases h),λ_ h=>(by cases h)⟩
def wF(h:Pn n P)(v:Vec F):Supp n (pr P v):=λj hj=>X2 λb hb=>by rw[h.sp b hb j hj];grind
def jq{n:Nat}{P:Pt F}(h:Pn n P){v:Vec F}(hv:Mem P v):Supp n v:=λj hj=>by rw[hv j];exact wF h v j hj
noncomputable def hdV(n:Nat)(v:Vec F):Option Nat:=(aI n).find? λj=>ae (v j≠0)
def jJ{n:Nat}{v:Vec F}(hs:Supp n v)(h:hdV n v=ac)(j:Nat):v j=0:=by
 by_cases c:j<n
 ·have:=List.find?_eq_none.mp h j (bF.mpr c)
  simpa using this
 ·exact hs j (by omega)
def GA{n:Nat}{v:Vec F}{k:Nat}(h:hdV n v=aa k):k<n/\v k≠0/\∀j,j<k->v j=0:=by
 unfold hdV at h;rw[hJ]at h;obtain⟨h1,h2,h3⟩:=h;refine⟨bF.mp h2,by simpa using h1,λj hj=>?_⟩
 have:=h3 j hj
 simpa using this
def yb{n:Nat}{v:Vec F}{k:Nat}(hk:k<n)(h1:v k≠0)(h2:∀j,j<k->v j=0):hdV n v=aa k:=by
 unfold hdV;rw[hJ];exact⟨by simpa using h1,bF.mpr hk,λj hj=>by simpa using h2 j hj⟩
structure Fld(inv:F->F):Prop where
 inv:∀a,a≠0->inv a*a=1
 one0:(1:F)≠0
section
variable{inv:F->F}{n:Nat}
noncomputable def more(inv:F->F)(n:Nat)(P:Pt F)(v:Vec F):Pt F:=match hdV n (rest P v)with
 |none=>P
 |some h=>wid P h λj=>inv (rest P v h)*rest P v j
structure Grow(n:Nat)(P:Pt F)(v:Vec F)(P':Pt F):Prop where
 pn:Pn n P'
 mem:∀u,Mem P' u↔∃c,Mem P λj=>u j-c*v j
 same:Mem P v->P'=P
 len:¬Mem P v->P'.length=P.length+1
def JR(f:Fld inv){P:Pt F}{v:Vec F}(hP:Pn n P)(hv:Supp n v):Grow n P v (more inv n P v):=by
 have hs:Supp n (rest P v):=λj hj=>by unfold rest;rw[hv j hj,wF hP v j hj];grind
 cases q:hdV n (rest P v)with
 |none=>
  have e:more inv n P v=P:=by unfold more;rw[q]
  have hm:Mem P v:=UW.mp (jJ hs q);rw[e];exact⟨hP,jg hm,λ_=>rfl,λh=>T7 hm h⟩
 |some h=>
  have e:more inv n P v=wid P h λj=>inv (rest P v h)*rest P v j:=by unfold more;rw[q]
  obtain⟨h1,h2,h3⟩:=GA q;have hi:=f.inv _ h2;have L:=wp hP.rf hi h3;rw[e];refine⟨⟨uM f.one0 hP.rf L,λa ha=>?_,λa ha=>?_⟩,qk hP.rf hi h3,λhm=>T7 (UW.mpr hm h) h2,λ_=>Zbi ..⟩
  ·rcases az.mp ((YO _ _).mem_iff.mp ha)with e | e
   ·rw[e];exact h1
   ·obtain⟨b,hb,rfl⟩:=aO.mp e
    exact hP.lt b hb
  ·rcases az.mp ((YO _ _).mem_iff.mp ha)with e | e
   ·rw[e];intro j hj
    show inv (rest P v h)*rest P v j=0;rw[hs j hj];grind
   ·obtain⟨b,hb,rfl⟩:=aO.mp e
    intro j hj;show b.2 j-b.2 h*(inv (rest P v h)*rest P v j)=0;rw[hP.sp b hb j hj,hs j hj];grind
noncomputable def Q7(inv:F->F)(n:Nat)(P:Pt F)(vs:List (Vec F)):Pt F:=vs.foldl (more inv n) P
theorem Gz(f:Fld inv):∀(vs:List (Vec F)){P:Pt F},Pn n P->(∀v∈vs,Supp n v)->Pn n (Q7 inv n P vs)/\∀u,Mem (Q7 inv n P vs) u↔GN P vs u
 |[],P,hP,_=>⟨hP,λu=>Iff.rfl⟩
 |v::vs,P,hP,hv=>by
  have g:=JR f hP (hv v (am ..));obtain⟨a,b⟩:=Gz f vs g.pn λw hw=>hv w (al _ hw)
  exact⟨a,λu=>(b u).trans (VL g.mem vs u)⟩
def ZdY(f:Fld inv){P Q:Pt F}(hP:Pn n P)(hQ:Pn n Q)(h:∀v,Mem P v↔Mem Q v):P=Q:=uniq f.one0 hP.rf hQ.rf h
noncomputable def sl:List Nat->(Nat->F)->F
 |[],_=>0
 |k::L,g=>g k+sl L g
def Qg{L:List Nat}{g g':Nat->F}(h:∀k∈L,g k=g' k):sl L g=sl L g':=by
 induction L with|nil=>rfl|cons k L ih=>show g k+sl L g=g' k+sl L g';rw[h k (am ..),ih λj hj=>h j (al _ hj)]
def uO(L:List Nat)(g g':Nat->F)(c:F):sl L (λj=>g j-c*g' j)=sl L g-c*sl L g':=by
 induction L with|nil=>show(0:F)=0-c*0;grind|cons k L ih=>show(g k-c*g' k)+sl L _=(g k+sl L g)-c*(g' k+sl L g');rw[ih];grind
def Us{L:List Nat}{g:Nat->F}(h:∀k∈L,g k=0):sl L g=0:=by
 induction L with|nil=>rfl|cons k L ih=>show g k+sl L g=0;rw[h k (am ..),ih λj hj=>h j (al _ hj)];grind
def yL{L:List Nat}{g:Nat->F}{k:Nat}(hn:L.Nodup)(hk:k∈L)(h:∀j∈L,j≠k->g j=0):sl L g=g k:=by
 induction L with
 |nil=>cases hk
 |cons m L ih=>
  rw[cA]at hn;show g m+sl L g=_;rcases az.mp hk with e | e
  ·subst e
   rw[Us λj hj=>h j (al _ hj) λz=>hn.1 (z▸hj)];grind
  ·rw[ih hn.2 e λj hj=>h j (al _ hj),h m (am ..) λz=>hn.1 (z▸e)];grind
def Za9(p:Nat->Bool)(L:List Nat)(g:Nat->F):sl L g=sl (L.filter p) g+sl (L.filter λk=>!p k) g:=by
 induction L with
 |nil=>show(0:F)=0+0;grind
 |cons k L ih=>
  rw[dg,dg];show g k+sl L g=_;cases p k with|true=>simp only[if_true,Bool.not_true,ck,if_false];show _=g k+sl _ g+_;rw[ih];grind|false=>simp only[ck,if_false,gE,if_true];show _=_+(g k+sl _ g);rw[ih];grind
noncomputable def dot(n:Nat)(u w:Vec F):F:=sl (aI n) λj=>u j*w j
def ZaD(n:Nat)(a u v:Vec F)(c:F):dot n a (λj=>u j-c*v j)=dot n a u-c*dot n a v:=by
 unfold dot;rw[<-uO];exact Qg λk _=>by grind
def zi(n:Nat)(u w:Vec F):dot n u w=dot n w u:=Qg λk _=>by grind
noncomputable def ZV(P:Pt F)(j:Nat):Bool:=(P.map (·.1)).contains j
noncomputable def free(n:Nat)(P:Pt F):List Nat:=(aI n).filter λj=>!ZV P j
noncomputable def av:Pt F->Nat->Vec F
 |[],f,j=>if j=f then 1 else 0
 |a::P,f,j=>if j=a.1 then-a.2 f else av P f j
def Yj{P:Pt F}{j:Nat}:ZV P j=ag↔∃a∈P,a.1=j:=by
 unfold ZV;rw[cb,aO]
def Wj{P:Pt F}{f j:Nat}(h:ZV P j=ai):av P f j=if j=f then 1 else 0:=by
 induction P with
 |nil=>rfl
 |cons a P ih=>
  have h1:¬∃b∈a::P,b.1=j:=λz=>by rw[Yj.mpr z]at h;cases h
  show(if j=a.1 then-a.2 f else av P f j)=_
  rw[T8 λz=>h1 ⟨a,am ..,z.symm⟩]
  exact ih (by
   cases q:ZV P j with
   |false=>rfl
   |true=>obtain⟨b,hb,e⟩:=Yj.mp q;exact T7 ⟨b,al _ hb,e⟩ h1)
def wu{P:Pt F}(hP:P.Pairwise λa b=>a.1<b.1){a:Nat×Vec F}(ha:a∈P)(f:Nat):av P f a.1 = - a.2 f:=by
 induction P with
 |nil=>cases ha
 |cons b P ih=>
  rw[bj]at hP;show(if a.1=b.1 then-b.2 f else av P f a.1)=_
  rcases az.mp ha with e | e
  ·subst e;rw[T9 rfl]
  ·rw[T8 (by have:=hP.1 a e;omega)];exact ih hP.2 e
def Ye{P:Pt F}{j:Nat}:j∈free n P↔j<n/\ZV P j=ai:=by
 unfold free;rw[bK,bF];simp
def U3{P:Pt F}:(free n P).Nodup:=eB _ fF
def JT{P:Pt F}(hP:Pn n P){f:Nat}(hf:f<n):Supp n (av P f):=λj hj=>by
 rw[Wj (by
  cases q:ZV P j with
  |false=>rfl
  |true=>obtain⟨b,hb,e⟩:=Yj.mp q;have:=hP.lt b hb;omega),T8 (by omega)]
def Jb{P:Pt F}(hP:Pn n P){a:Nat×Vec F}(ha:a∈P)(u:Vec F):dot n a.2 u=sl (free n P) (λj=>a.2 j*u j)+u a.1:=by
 unfold dot;rw[Za9 (ZV P) (aI n)];have e:sl ((aI n).filter (ZV P)) (λj=>a.2 j*u j)=a.2 a.1*u a.1:=by
  refine yL (eB _ fF) (bK.mpr ⟨bF.mpr (hP.lt a ha),Yj.mpr ⟨a,ha,rfl⟩⟩) λj hj ne=>?_
  obtain⟨b,hb,rfl⟩:=Yj.mp (bK.mp hj).2;rw[hP.rf.zer b hb a ha ne];grind
 rw[e,hP.rf.one a ha];show _=sl ((aI n).filter λj=>!ZV P j) _+_
 grind
def Zdp{P:Pt F}(hP:Pn n P){a:Nat×Vec F}(ha:a∈P){f:Nat}(hf:f∈free n P):dot n a.2 (av P f)=0:=by
 obtain⟨f1,f2⟩:=Ye.mp hf;rw[Jb hP ha,wu hP.rf.inc ha,yL (L:=free n P) (k:=f) U3 hf λj hj ne=>by
  rw[Wj (Ye.mp hj).2,T8 ne];grind]
 rw[Wj f2,T9 rfl];grind
noncomputable def perp(inv:F->F)(n:Nat)(P:Pt F):Pt F:=Q7 inv n [] ((free n P).map (av P))
theorem GM{P:Pt F}(hP:Pn n P){a:Nat×Vec F}(ha:a∈P):∀(L:List Nat)(u:Vec F),(∀k∈L,k∈free n P)->GN [] (L.map (av P)) u->dot n a.2 u=0
 |[],u,_,h=>Us λk _=>by rw[h k];show a.2 k*0=0;grind
 |k::L,u,hL,⟨c,h⟩=>by
  have:=GM hP ha L _ (λj hj=>hL j (al _ hj)) h
  rw[ZaD,Zdp hP ha (hL k (am ..))]at this
  grind
theorem Q3{P:Pt F}{u:Vec F}:∀(L:List Nat)(w:Vec F),(∀j,w j=sl L λf=>u f*av P f j)->GN [] (L.map (av P)) w
 |[],w,h=>h
 |k::L,w,h=>⟨u k,Q3 (u:=u) L _ λj=>by rw[h j];show u k*av P k j+sl L (λf=>u f*av P f j)-u k*av P k j=_;grind⟩
def Zac(f:Fld inv){P:Pt F}(hP:Pn n P)(u:Vec F):Mem (perp inv n P) u↔Supp n u/\∀a∈P,dot n a.2 u=0:=by
 have ok:=Gz f ((free n P).map (av P)) (Pn.nil (n:=n)) λv hv=>by
  obtain⟨k,hk,rfl⟩:=aO.mp hv;exact JT hP (Ye.mp hk).1
 constructor
 ·intro h
  exact⟨jq ok.1 h,λa ha=>GM hP ha _ u (λk hk=>hk) ((ok.2 u).mp h)⟩
 ·rintro ⟨hs,hd⟩
  refine(ok.2 u).mpr (Q3 (u:=u) _ u λj=>?_)
  by_cases c:n<=j
  ·rw[hs j c]
   exact(Us λk hk=>by rw[JT hP (Ye.mp hk).1 j c];grind).symm
  ·cases q:ZV P j with
   |false=>
    rw[yL (L:=free n P) (k:=j) U3 (Ye.mpr ⟨by omega,q⟩) λk hk ne=>by
     rw[Wj q,T8 (Ne.symm ne)];grind]
    rw[Wj q,T9 rfl];grind
   |true=>
    obtain⟨a,ha,rfl⟩:=Yj.mp q;have h1:=hd a ha;rw[Jb hP ha]at h1;have e:sl (free n P) (λf=>u f*av P f a.1) = - sl (free n P) λj=>a.2 j*u j:=by
     have:=uO (free n P) (λ_=>(0:F)) (λj=>a.2 j*u j) 1
     rw[Us (g:=λ_=>(0:F)) λ_ _=>rfl]at this
     have e2:sl (free n P) (λf=>u f*av P f a.1)=sl (free n P) λj=>0-1*(a.2 j*u j):=Qg λk _=>by rw[wu hP.rf.inc ha];grind
     rw[e2,this];grind
    rw[e];grind
def vA(f:Fld inv){P:Pt F}(hP:Pn n P):(perp inv n P).length+P.length=n:=by
 have gen:∀(L:List Nat)(A:Pt F)(D:List Nat),Pn n A->(∀k∈L,k∈free n P)->L.Nodup->(∀k∈L,k∉D)->(∀u,Mem A u->∀k∈free n P,k∉D->u k=0)->(Q7 inv n A (L.map (av P))).length=A.length+L.length:=by
  intro L
  induction L with
  |nil=>intro A D _ _ _ _ _;rfl
  |cons k L ih=>
   intro A D hA hL hn hD hz;rw[cA]at hn;have hk:=hL k (am ..);have g:=JR f hA (JT hP (Ye.mp hk).1);have nm:¬Mem A (av P k):=λh=>by
    have:=hz _ h k hk (hD k (am ..));rw[Wj (Ye.mp hk).2,T9 rfl]at this;exact f.one0 this
   have:=ih (more inv n A (av P k)) (k::D) g.pn (λj hj=>hL j (al _ hj)) hn.2 (λj hj=>by
    rw[az]
    rintro (z | z)
    ·exact hn.1 (z▸hj)
    ·exact hD j (al _ hj) z) λu hu j hj hjD=>by
     obtain⟨c,hc⟩:=(g.mem u).mp hu;rw[az]at hjD;have h1:u j-c*av P k j=0:=hz _ hc j hj λz=>hjD (.inr z)
     rw[Wj (Ye.mp hj).2,T8 λz=>hjD (.inl z)]at h1
     grind
   show(Q7 inv n (more inv n A (av P k)) (L.map (av P))).length=_;rw[this,g.len nm,aR];omega
 have h1:=gen (free n P) [] [] Pn.nil (λ_ h=>h) (eB _ fF) (λ_ _ h=>by cases h) λu hu k _ _=>hu k
 have h2:(aI n).filter (ZV P)=P.map (·.1):=yp (eB _ List.pairwise_lt_range) hP.rf.heads λx=>by
  rw[bK,bF,Yj,aO]
  constructor
  ·rintro ⟨_,a,ha,e⟩;exact⟨a,ha,e⟩
  ·rintro ⟨a,ha,e⟩;exact⟨by rw[<-e];exact hP.lt a ha,a,ha,e⟩
 have h3:((aI n).filter (ZV P)).length+(free n P).length=n:=by
  have gen:∀L:List Nat,(L.filter (ZV P)).length+(L.filter λj=>!ZV P j).length=L.length:=by
   intro L
   induction L with
   |nil=>rfl
   |cons k L ih=>
    rw[dg,dg];cases ZV P k <;> simp <;> omega
  have:=gen (aI n);rw[bL]at this;exact this
 rw[h2,aH]at h3;have h4:(perp inv n P).length=(free n P).length:=by
  have e:(perp inv n P).length=0+(free n P).length:=h1;omega
 omega
end
end La
namespace Rw
open La
open Ev (ltI Vk ZY)
section
variable{p:Nat}[NeZero p]
noncomputable def ph(p:Nat)[NeZero p](a:Int):Fin p:=Fin.ofNat p (a%p).toNat
def ppos:(0:Int)<p:=by have:=NeZero.ne p;omega
def Y7(a:Int):((ph p a).val:Int)=a%p:=by
 have h:=ppos (p:=p);have h0:=dJ a (by omega:(p:Int)≠0)
 have h1:=cQ a h;show((((a%p).toNat)%p:Nat):Int)=a%p;rw[Nat.mod_eq_of_lt (by omega)]
 omega
def Um{x y:Fin p}(h:(x.val:Int)=y.val):x=y:=Fin.ext (by omega)
def z7(a b:Int):ph p (a+b)=ph p a+ph p b:=Um (by
 rw[Y7,Fin.val_add];show(a+b)%p=(((ph p a).val+(ph p b).val:Nat):Int)%p;rw[l6,Y7,Y7,<-Int.add_emod])
def yw(a b:Int):ph p (a*b)=ph p a*ph p b:=Um (by
 rw[Y7,Fin.val_mul];show(a*b)%p=(((ph p a).val*(ph p b).val:Nat):Int)%p;rw[Int.natCast_mul,Y7,Y7,<-Int.mul_emod])
def Gd(a:Int):ph p (a%p)=ph p a:=Um (by rw[Y7,Y7,Int.emod_emod])
def WH:ph p 0=0:=Um (by rw[Y7];simp)
def Zad(a:Int):ph p (-a) = - ph p a:=by
 have h:ph p (-a+a)=ph p (-a)+ph p a:=z7 _ _;rw[show -a+a=0 by omega,WH]at h
 grind
def zJ{a b:Int}(ha:0<=a/\a<p)(hb:0<=b/\b<p)(h:ph p a=ph p b):a=b:=by
 have:=congrArg (λx:Fin p=>(x.val:Int)) h
 simp only[Y7]at this;rw[gU ha.1 ha.2,gU hb.1 hb.2]at this;exact this
def Zca{a:Int}(ha:0<=a/\a<p):ph p a=0↔a=0:=by
 constructor
 ·intro h;exact zJ ha ⟨by omega,ppos⟩ (by rw[h,WH])
 ·rintro rfl;exact WH
end
noncomputable abbrev Row:=List Int
def Zj(p n:Nat)(r:Row):Prop:=r.length=n/\∀a∈r,0<=a/\a<(p:Int)
noncomputable def gt(r:Row)(j:Nat):Int:=r.getD j 0
def Wu{p n:Nat}(h0:(0:Int)<p){r:Row}(h:Zj p n r)(j:Nat):0<=gt r j/\gt r j<p:=by
 unfold gt;rw[aG];cases q:r[j]? with|none=>exact⟨Int.le_refl _,h0⟩|some a=>exact h.2 a (cD q)
def yy(h:r.length<=j):gt r j=0:=by unfold gt;rw[aG,fw h];rfl
def ZdA(hl:r.length=s.length)(h:∀j,gt r j=gt s j):r=s:=by
 apply iq hl;intro j h1 h2;have:=h j;unfold gt at this;rw[aG,aG,ah h1,ah h2]at this;exact this
noncomputable def hdI:Row->Option Nat
 |[]=>ac
 |a::r=>if a≠0 then aa 0 else(hdI r).map (· + 1)
theorem Yf:∀{r:Row}{k:Nat},hdI r=aa k->gt r k≠0/\k<r.length/\∀j,j<k->gt r j=0
 |[],k,h=>by cases h
 |a::r,k,h=>by
  unfold hdI at h;by_cases c:a≠0
  ·rw[T9 c]at h;cases h;exact⟨c,by simp,λj hj=>by omega⟩
  ·rw[T8 c]at h
   cases q:hdI r with
   |none=>rw[q]at h;cases h
   |some m=>
    rw[q]at h;have e:m+1=k:=af h;subst e;obtain⟨h1,h2,h3⟩:=Yf q;refine⟨h1,by simp;omega,λj hj=>?_⟩
    cases j with|zero=>exact lu.mp c|succ j=>exact h3 j (by omega)
theorem Wl:∀{r:Row},hdI r=ac->∀j,gt r j=0
 |[],_,j=>yy (fc _)
 |a::r,h,j=>by
  unfold hdI at h;by_cases c:a≠0
  ·rw[T9 c]at h;cases h
  ·rw[T8 c]at h
   have h':hdI r=ac:=Option.map_eq_none_iff.mp h;cases j with|zero=>exact lu.mp c|succ j=>exact Wl h' j
def Zdi(h1:gt r k≠0)(h2:∀j,j<k->gt r j=0):hdI r=aa k:=by
 cases q:hdI r with
 |none=>exact T7 (Wl q k) h1
 |some m=>
  obtain⟨a,_,c⟩:=Yf q;have:¬k<m:=λz=>h1 (c k z)
  have:¬m<k:=λz=>a (h2 m z)
  rw[show m=k by omega]
section
variable{p n:Nat}[NeZero p]
noncomputable def toV(p:Nat)[NeZero p](r:Row):Vec (Fin p):=λj=>ph p (gt r j)
def ZbS{r s:Row}(hr:Zj p n r)(hs:Zj p n s)(h:toV p r=toV p s):r=s:=
 ZdA (by rw[hr.1,hs.1]) λj=>zJ (Wu ppos hr j) (Wu ppos hs j) (congrFun h j)
def Vy(hr:Zj p n r):Supp n (toV p r):=λj hj=>by unfold toV;rw[yy (by rw[hr.1];exact hj),WH]
def YU{r:Row}(hr:Zj p n r){j:Nat}:toV p r j=0↔gt r j=0:=Zca (Wu ppos hr j)
def J0(hr:Zj p n r):hdV n (toV p r)=hdI r:=by
 cases q:hdI r with
 |none=>
  cases q2:hdV n (toV p r)with|none=>rfl|some k=>exact T7 ((YU hr).mpr (Wl q k)) (GA q2).2.1
 |some k=>
  obtain⟨a,b,c⟩:=Yf q;exact yb (by rw[<-hr.1];exact b) (λz=>a ((YU hr).mp z)) λj hj=>(YU hr).mpr (c j hj)
noncomputable def YZ(p:Nat)(r o:Row)(k:Int):Row:=eG (λa b=>(a+k*b)%p) r o
noncomputable def Xy(p:Nat)(r:Row)(k:Int):Row:=r.map λa=>k*a%p
def ZcO(hl:r.length=o.length)(h0:f 0 0=0)(j:Nat):gt (eG f r o) j=f (gt r j) (gt o j):=by
 unfold gt;simp only[aG];rw[List.getElem?_zipWith];by_cases c:j<r.length
 ·rw[ah c,ah (by omega)];rfl
 ·rw[fw (by omega),fw (by omega)];exact h0.symm
def Yd(hr:Zj p n r)(ho:Zj p n o):Zj p n (YZ p r o k):=by
 refine⟨by unfold YZ;rw[kj,hr.1,ho.1];simp,λa ha=>?_⟩
 unfold YZ at ha;rw[<-dR]at ha;obtain⟨⟨x,y⟩,_,rfl⟩:=aO.mp ha;exact⟨dJ _ (by have:=ppos (p:=p);omega),cQ _ ppos⟩
def wl(hr:Zj p n r)(ho:Zj p n o)(j:Nat):gt (YZ p r o k) j=(gt r j+k*gt o j)%p:=by
 unfold YZ;rw[ZcO (by rw[hr.1,ho.1]) (by simp)]
def jF(hr:Zj p n r)(ho:Zj p n o):toV p (YZ p r o k)=λj=>toV p r j+ph p k*toV p o j:=by
 funext j
 unfold toV;rw[wl hr ho,Gd,z7,yw]
def UA(j:Nat):gt (Xy p r k) j=k*gt r j%p:=by
 unfold Xy gt;simp only[aG,bg];cases r[j]? <;> simp
def Y6{r:Row}{k:Int}(hr:Zj p n r):Zj p n (Xy p r k):=by
 refine⟨by unfold Xy;rw[aH,hr.1],λa ha=>?_⟩
 obtain⟨x,_,rfl⟩:=aO.mp ha;exact⟨dJ _ (by have:=ppos (p:=p);omega),cQ _ ppos⟩
def QS :toV p (Xy p r k)=λj=>ph p k*toV p r j:=by
 funext j
 unfold toV;rw[UA,Gd,yw]
noncomputable def toP(p:Nat)[NeZero p](P:List Row):Pt (Fin p):=P.map λr=>((hdI r).getD 0,toV p r)
structure pZ(p n:Nat)[NeZero p](P:List Row):Prop where
 row:∀r∈P,Zj p n r
 pn:Pn n (toP p P)
theorem pZ.nil:pZ p n []:=⟨λ_ h=>(by cases h),Pn.nil⟩
def Yg(h:r∈P):((hdI r).getD 0,toV p r)∈toP p P:=aO.mpr ⟨r,h,rfl⟩
def pZ.head(one0:(1:Fin p)≠0)(h:pZ p n P)(hr:r∈P):∃k,hdI r=aa k/\k<n/\toV p r k=1:=by
 have h1:=h.pn.rf.one _ (Yg (p:=p) hr);cases q:hdI r with
 |none=>
  rw[q]at h1;have:toV p r 0=1:=h1;have z:toV p r 0=0:=(YU (h.row r hr)).mpr (Wl q 0);rw[z]at this;exact T7 this.symm one0
 |some k=>
  rw[q]at h1;have h2:=h.pn.lt _ (Yg (p:=p) hr);rw[q]at h2;exact⟨k,rfl,h2,h1⟩
def Zbj(hP:∀r∈P,Zj p n r)(hQ:∀r∈Q,Zj p n r)(h:toP p P=toP p Q):P=Q:=by
 induction P generalizing Q with
 |nil=>cases Q with|nil=>rfl|cons b Q=>cases h
 |cons a P ih=>cases Q with
  |nil=>cases h
  |cons b Q=>
   have h':((hdI a).getD 0,toV p a)::toP p P=((hdI b).getD 0,toV p b)::toP p Q:=h;injection h' with e1 e2
   have e3:toV p a=toV p b:=congrArg Prod.snd e1;rw[ZbS (hP a (am ..)) (hQ b (am ..)) e3,ih (λr hr=>hP r (al _ hr)) (λr hr=>hQ r (al _ hr)) e2]
def Zak(P:List Row):(toP p P).length=P.length:=by unfold toP;rw[aH]
noncomputable def clr(p:Nat)(r o:Row)(h:Nat):Row:=YZ p r o (-(gt r h))
noncomputable def Zm(p:Nat)(P:List Row)(r:Row):Row:=P.foldl (λs o=>clr p s o ((hdI o).getD 0)) r
def Wz(hr:Zj p n r)(ho:Zj p n o):toV p (clr p r o h)=λj=>toV p r j-toV p r h*toV p o j:=by
 unfold clr;rw[jF hr ho]
 funext j
 rw[Zad];show toV p r j+(- toV p r h)*toV p o j=_
 grind
theorem Uv:∀{P:List Row}{r:Row},(∀o∈P,Zj p n o)->Rf (toP p P)->Zj p n r->Zj p n (Zm p P r)/\toV p (Zm p P r)=rest (toP p P) (toV p r)
 |[],r,_,_,hr=>⟨hr,by funext j;show toV p r j=toV p r j-0;grind⟩
 |o::P,r,hP,hf,hr=>by
  have ho:=hP o (am ..);have hc:Zj p n (clr p r o ((hdI o).getD 0)):=Yd hr ho;obtain⟨a,b⟩:=Uv (P:=P) (λo h=>hP o (al _ h)) hf.tail hc
  refine⟨a,?_⟩;show toV p (Zm p P (clr p r o ((hdI o).getD 0)))=_;rw[b,Wz hr ho];have z:∀j,pr (toP p P) (toV p o) j=0:=λj=>X2 λc hc=>by
   have:toV p o c.1=0:=by
    have h1:c∈toP p (o::P):=al _ hc;have h2:((hdI o).getD 0,toV p o)∈toP p (o::P):=am ..;have h3:=(bj.mp hf.inc).1 c hc;exact hf.zer c h1 _ h2 (by simp only at h3 ⊢;omega)
   rw[this];grind
  funext j
  unfold rest;rw[JO,z];show toV p r j-toV p r ((hdI o).getD 0)*toV p o j-(pr (toP p P) (toV p r) j-_*0)=toV p r j-(toV p r ((hdI o).getD 0)*toV p o j+pr (toP p P) (toV p r) j)
  grind
def qr(hP:pZ p n P)(hr:Zj p n r):hdI (Zm p P r)=ac↔Mem (toP p P) (toV p r):=by
 obtain⟨a,b⟩:=Uv hP.row hP.pn.rf hr;rw[<-UW,<-b]
 constructor
 ·intro h j;exact(YU a).mpr (Wl h j)
 ·intro h
  cases q:hdI (Zm p P r)with|none=>rfl|some k=>exact T7 ((YU a).mp (h k)) (Yf q).1
end
noncomputable def Yh(p:Nat)(a:Int):Int:=if a=1 then 1 else if p=3 then 2 else if a=2 then 3 else if a=3 then 2 else 4
noncomputable def Gi(p:Nat)[NeZero p](x:Fin p):Fin p:=ph p (Yh p x.val)
class Base(p:Nat):Prop where
 b:p=2\/p=3\/p=5
instance(p:Nat)[h:Base p]:NeZero p:=⟨by rcases h.b with e | e | e <;> omega⟩
section
variable{p n:Nat}[Base p]
def fld2:∀a:Fin 2,a≠0->Gi 2 a*a=1:=by decide
def fld3:∀a:Fin 3,a≠0->Gi 3 a*a=1:=by decide
def fld5:∀a:Fin 5,a≠0->Gi 5 a*a=1:=by decide
def one2:(1:Fin 2)≠0:=by decide
def one3:(1:Fin 3)≠0:=by decide
def one5:(1:Fin 5)≠0:=by decide
def fld:Fld (Gi p):=by
 rcases(inferInstance:Base p).b with e | e | e <;> subst e
 ·exact⟨fld2,one2⟩
 ·exact⟨fld3,one3⟩
 ·exact⟨fld5,one5⟩
def ZaF(h:0<=a/\a<(p:Int)):((ph p a).val:Int)=a:=by rw[Y7,gU h.1 h.2]
noncomputable def lead(p:Nat)(s:Row)(h:Nat):Row:=Xy p s (Yh p (gt s h))
noncomputable def UL(p:Nat)(P:List Row)(r:Row):List Row:=match hdI (Zm p P r)with
 |none=>P
 |some h=>(ZY (P.map (λo=>clr p o (lead p (Zm p P r) h) h)++[lead p (Zm p P r) h])).reverse
noncomputable def GP(h:Nat)(x:Row):List Row->List Row
 |[]=>[x]
 |y::P=>if h<(hdI y).getD 0 then x::y::P else y::GP h x P
theorem VH(h:Nat)(x:Row):∀P:List Row,(GP h x P).Perm (x::P)
 |[]=>dB _
 |y::P=>by
  unfold GP;split
  ·exact dB _
  ·exact((VH h x P).cons y).trans (i4 x y P)
theorem GZ(hx:hdI x=aa h):∀P:List Row,toP p (GP h x P)=ins (h,toV p x) (toP p P)
 |[]=>by show[((hdI x).getD 0,toV p x)]=_;rw[hx];rfl
 |y::P=>by
  unfold GP;show toP p (if h<(hdI y).getD 0 then _ else _)=(if h<(hdI y).getD 0 then _ else _)
  split
  ·show((hdI x).getD 0,toV p x)::_=_;rw[hx];rfl
  ·show((hdI y).getD 0,toV p y)::toP p (GP h x P)=_;rw[GZ hx P];rfl
theorem ji:∀{a b:Row}{h:Nat},a.length=b.length->(∀j,j<h->gt a j=gt b j)->gt b h<gt a h->h<a.length->ltI b a=ag
 |[],_,_,_,_,_,hl=>by simp at hl
 |x::a,[],_,e,_,_,_=>by simp at e
 |x::a,y::b,0,_,_,hlt,_=>by
  have:y<x:=hlt;unfold ltI;rw[T8 (by omega)]
  exact T5 this
 |x::a,y::b,h+1,e,hj,hlt,hl=>by
  have:x=y:=hj 0 (by omega)
  unfold ltI;rw[T9 this.symm];exact ji (by simpa using e) (λj h'=>hj (j+1) (by omega)) hlt (by simpa using hl)
def jw(ha:Zj p n a)(hb:Zj p n b)(h1:hdI a=aa h)(h2:hdI b=aa k)(hk:h<k):ltI b a=ag:=by
 obtain⟨a1,a2,a3⟩:=Yf h1;obtain⟨b1,b2,b3⟩:=Yf h2;refine ji (by rw[ha.1,hb.1]) (λj hj=>by rw[a3 j hj,b3 j (by omega)]) ?_ a2
 rw[b3 h hk];have:=(Wu ppos ha h).1;omega
def pZ.falls(hP:pZ p n P):P.Pairwise λa b=>ltI b a=ag:=by
 have inc:P.Pairwise λa b=>(hdI a).getD 0<(hdI b).getD 0:=by
  have:=hP.pn.rf.inc;unfold toP at this;rw[d9]at this;exact this
 refine List.Pairwise.imp_of_mem (λ{a b} ha hb hab=>?_) inc
 obtain⟨h,e1,_⟩:=hP.head fld.one0 ha;obtain⟨k,e2,_⟩:=hP.head fld.one0 hb;rw[e1,e2]at hab;exact jw (hP.row a ha) (hP.row b hb) e1 e2 hab
def V8{P:List Row}(h:P.Pairwise λa b=>ltI b a=ag):P.Nodup:=List.Pairwise.imp (λ{a b} hab e=>by
 rw[e]at hab;have:=Sd.Uj hab;rw[hab]at this;cases this) h
def Zbs(hp:Q.Perm P)(h:Q.Pairwise λa b=>ltI b a=ag):(ZY P).reverse=Q:=by
 have hn:P.Nodup:=(hp.nodup_iff).mp (V8 h);have e:ZY P=Q.reverse:=Sd.Wq ((Sd.Y9 P).trans (hp.symm.trans (gS Q).symm)) (Sd.X5 hn) (List.pairwise_reverse.mpr h);rw[e,List.reverse_reverse]
def yt(hP:pZ p n P)(hr:Zj p n r):pZ p n (UL p P r)/\toP p (UL p P r)=more (Gi p) n (toP p P) (toV p r):=by
 obtain⟨s1,s2⟩:=Uv hP.row hP.pn.rf hr;have eh:=J0 s1;rw[s2]at eh;have g:=JR fld hP.pn (Vy hr);unfold UL;cases q:hdI (Zm p P r)with
 |none=>
  rw[q]at eh;exact⟨hP,by unfold more;rw[eh]⟩
 |some h=>
  rw[q]at eh;have em:more (Gi p) n (toP p P) (toV p r)=wid (toP p P) h (toV p (lead p (Zm p P r) h)):=by
   unfold more;rw[eh];show wid _ h _=_
   congr 1
   unfold lead;rw[QS,s2]
   funext j
   congr 1
   unfold Gi;rw[<-s2];show ph p (Yh p ((ph p (gt (Zm p P r) h)).val))=_;rw[ZaF (Wu ppos s1 h)]
  have hl:Zj p n (lead p (Zm p P r) h):=Y6 s1;rw[em]at g;have mem:∀x∈wid (toP p P) h (toV p (lead p (Zm p P r) h)),hdV n x.2=aa x.1:=λx hx=>yb (g.pn.lt x hx) (by rw[g.pn.rf.one x hx];exact fld.one0) (g.pn.rf.low x hx)
  have hx:hdI (lead p (Zm p P r) h)=aa h:=by
   rw[<-J0 hl];exact mem (h,toV p (lead p (Zm p P r) h)) ((YO _ _).mem_iff.mpr (am ..))
  have e1:toP p (P.map λo=>clr p o (lead p (Zm p P r) h) h)=(toP p P).map (off h (toV p (lead p (Zm p P r) h))):=by
   unfold toP;rw[bH,bH];refine cY λo ho=>?_
   have ho':=hP.row o ho;have hc:Zj p n (clr p o (lead p (Zm p P r) h) h):=Yd ho' hl;have ev:toV p (clr p o (lead p (Zm p P r) h) h)=(off h (toV p (lead p (Zm p P r) h)) ((hdI o).getD 0,toV p o)).2:=Wz ho' hl;show((hdI (clr p o (lead p (Zm p P r) h) h)).getD 0,toV p (clr p o (lead p (Zm p P r) h) h))=off h _ ((hdI o).getD 0,toV p o);have:=mem (off h (toV p (lead p (Zm p P r) h)) ((hdI o).getD 0,toV p o)) ((YO _ _).mem_iff.mpr (al _ (aO.mpr ⟨_,Yg ho,rfl⟩)));rw[<-ev,J0 hc]at this;rw[this,ev];rfl
  have e2:toP p (GP h (lead p (Zm p P r) h) (P.map λo=>clr p o (lead p (Zm p P r) h) h))=wid (toP p P) h (toV p (lead p (Zm p P r) h)):=by
   rw[GZ hx,e1];rfl
  have hQ:pZ p n (GP h (lead p (Zm p P r) h) (P.map λo=>clr p o (lead p (Zm p P r) h) h)):=by
   refine⟨λx hx=>?_,by rw[e2];exact g.pn⟩
   rcases az.mp ((VH _ _ _).mem_iff.mp hx)with e | e
   ·rw[e];exact hl
   ·obtain⟨o,ho,rfl⟩:=aO.mp e
    exact Yd (hP.row o ho) hl
  have e3:=Zbs ((VH h (lead p (Zm p P r) h) (P.map λo=>clr p o (lead p (Zm p P r) h) h)).trans (List.perm_append_singleton _ _).symm) hQ.falls
  show pZ p n (ZY _).reverse/\toP p (ZY _).reverse=_;rw[e3];exact⟨hQ,by rw[e2,em]⟩
noncomputable def yM(p:Nat)(P:List Row)(rs:List Row):List Row:=rs.foldl (UL p) P
theorem wL:∀{rs:List Row}{P:List Row},pZ p n P->(∀r∈rs,Zj p n r)->pZ p n (yM p P rs)/\toP p (yM p P rs)=Q7 (Gi p) n (toP p P) (rs.map (toV p))
 |[],P,hP,_=>⟨hP,rfl⟩
 |r::rs,P,hP,hr=>by
  obtain⟨a,b⟩:=yt hP (hr r (am ..));obtain⟨c,d⟩:=wL (rs:=rs) a λx hx=>hr x (al _ hx)
  refine⟨c,?_⟩;show toP p (yM p (UL p P r) rs)=_;rw[d,b];rfl
noncomputable def Zu(P:List Row):List Nat:=P.map λr=>(hdI r).getD 0
noncomputable def X7(n:Nat)(P:List Row):List Nat:=(aI n).filter λj=>!(Zu P).contains j
def Y5(P:List Row):(toP p P).map (·.1)=Zu P:=by unfold toP Zu;rw[bH];rfl
def U6(P:List Row):free n (toP p P)=X7 n P:=by unfold free X7 ZV;rw[Y5]
noncomputable def avF(p:Nat)(P:List Row)(f:Nat)(s:Row):Row:=P.foldl (λs r=>s.set ((hdI r).getD 0) ((-(gt r f))%p)) s
noncomputable def avI(p n:Nat)(P:List Row)(f:Nat):Row:=avF p P f ((aq n 0).set f 1)
def jC(hi:i<s.length):gt (s.set i x) j=if j=i then x else gt s j:=by
 unfold gt;simp only[aG];rw[cH];by_cases c:i=j
 ·rw[T9 c,T9 hi,T9 c.symm];rfl
 ·rw[T8 c,T8 (Ne.symm c)]
theorem xg:∀{P:List Row}{f:Nat}{s:Row},Zj p n s->Zj p n (avF p P f s)
 |[],_,_,h=>h
 |r::P,f,s,h=>by
  refine xg (P:=P) ⟨by rw[aV];exact h.1,λa ha=>?_⟩
  rcases gL ha with z | z
  ·exact h.2 a z
  ·rw[z];exact⟨dJ _ (by have:=ppos (p:=p);omega),cQ _ ppos⟩
theorem wb:∀{P:List Row}{f:Nat}{s:Row}(j:Nat),(∀r∈P,(hdI r).getD 0<n)->(Zu P).Pairwise (· < ·)->s.length=n->toV p (avF p P f s) j=if ZV (toP p P) j=ag then av (toP p P) f j else toV p s j
 |[],_,_,j,_,_,_=>rfl
 |r::P,f,s,j,hb,hi,hl=>by
  have hi':=bj.mp hi;show toV p (avF p P f (s.set ((hdI r).getD 0) ((-(gt r f))%p))) j=_;rw[wb j (λx hx=>hb x (al _ hx)) hi'.2 (by rw[aV];exact hl)]
  have e:av (toP p (r::P)) f j=if j=(hdI r).getD 0 then-toV p r f else av (toP p P) f j:=rfl
  have e0:ZV (toP p (r::P)) j=(ae (j=(hdI r).getD 0)||ZV (toP p P) j):=by
   unfold ZV;show(((hdI r).getD 0)::(toP p P).map (·.1)).contains j=_
   rw[gF]
   congr 1
  cases q:ZV (toP p P) j with
  |true=>
   rw[T9 rfl,T9 (by rw[e0,q];simp),e,T8]
   intro z;have:j∈Zu P:=by rw[<-Y5 (p:=p)];unfold ZV at q;exact cb.mp q
   have h5:(hdI r).getD 0<j:=hi'.1 j this;omega
  |false=>
   rw[T8 (by simp)]
   unfold toV;rw[jC (by rw[hl];exact hb r (am ..))]
   by_cases c:j=(hdI r).getD 0
   ·rw[T9 c,T9 (by rw[e0];simp[c]),e,T9 c,Gd,Zad];rfl
   ·rw[T8 c,T8 (by rw[e0,q];simp[c])]
def jX(hP:pZ p n P)(hf:f∈X7 n P):Zj p n (avI p n P f)/\toV p (avI p n P f)=av (toP p P) f:=by
 rw[<-U6 (p:=p)]at hf;obtain⟨f1,f2⟩:=Ye.mp hf;have hone:(1:Int)<p:=by rcases(inferInstance:Base p).b with e | e | e <;> subst e <;> decide
 have hs:Zj p n ((aq n (0:Int)).set f 1):=by
  refine⟨by simp,λa ha=>?_⟩
  rcases gL ha with z | z
  ·rw[(List.mem_replicate.mp z).2];exact⟨by omega,ppos⟩
  ·rw[z];exact⟨by omega,hone⟩
 refine⟨xg hs,?_⟩
 funext j
 unfold avI;rw[wb (n:=n) j (λr hr=>hP.pn.lt _ (Yg hr)) (by rw[<-Y5 (p:=p)];exact hP.pn.rf.heads) hs.1]
 cases q:ZV (toP p P) j with
 |true=>rw[T9 rfl]
 |false=>
  rw[T8 (by simp),Wj q]
  unfold toV;rw[jC (by simpa using f1)]
  have one:ph p 1=1:=by rcases(inferInstance:Base p).b with e | e | e <;> subst e <;> rfl
  by_cases c:j=f
  ·rw[T9 c,T9 c,one]
  ·rw[T8 c,T8 c]
   have:gt (aq n (0:Int)) j=0:=by
    unfold gt;rw[aG,bN];split <;> rfl
   rw[this,WH]
noncomputable def Yu(p n:Nat)(P:List Row):List Row:=yM p [] ((X7 n P).map (avI p n P))
def UB(hP:pZ p n P):pZ p n (Yu p n P)/\toP p (Yu p n P)=perp (Gi p) n (toP p P):=by
 obtain⟨a,b⟩:=wL (rs:=(X7 n P).map (avI p n P)) (pZ.nil (p:=p) (n:=n)) λr hr=>by
  obtain⟨f,hf,rfl⟩:=aO.mp hr;exact(jX hP hf).1
 refine⟨a,?_⟩;unfold Yu;rw[b];unfold perp;rw[U6,bH]
 congr 1
 exact cY λf hf=>(jX hP hf).2
end
section
variable{p n:Nat}[Base p]
abbrev Mm(p:Nat)[NeZero p](P:List Row)(u:Vec (Fin p)):Prop:=Mem (toP p P) u
def eqP(hA:pZ p n A)(hB:pZ p n B)(h:∀u,Mm p A u↔Mm p B u):A=B:=Zbj hA.row hB.row (ZdY fld hA.pn hB.pn h)
noncomputable def Xf(p:Nat)(P:List Row)(r:Row):Bool:=(hdI (Zm p P r)).isNone
def Z4(hP:pZ p n P)(hr:Zj p n r):Xf p P r=ag↔Mm p P (toV p r):=by
 unfold Mm;rw[<-qr hP hr];unfold Xf;cases hdI (Zm p P r) <;> simp
def zc(hP:pZ p n P)(hQ:pZ p n Q):P.all (Xf p Q)=ag↔∀u,Mm p P u->Mm p Q u:=by
 rw[aU]
 constructor
 ·intro h u hu
  have gen:∀R:Pt (Fin p),(∀a∈R,Mm p Q a.2)->Mm p Q (pr R u):=by
   intro R
   induction R with
   |nil=>intro _;exact Qn
   |cons a R ih=>
    intro hR;have:=Vb (u a.1) (ih λb hb=>hR b (al _ hb)) (hR a (am ..))
    have e:(λj=>pr R u j+u a.1*a.2 j)=pr (a::R) u:=by funext j;show _=u a.1*a.2 j+pr R u j;grind
    rw[e]at this;exact this
  have:=gen (toP p P) λa ha=>by
   unfold toP at ha;obtain⟨r,hr,rfl⟩:=aO.mp ha;exact(Z4 hQ (hP.row r hr)).mp (h r hr)
  have e:pr (toP p P) u=u:=funext λj=>(hu j).symm
  rw[e]at this;exact this
 ·intro h r hr
  exact(Z4 hQ (hP.row r hr)).mpr (h _ (VF hP.pn.rf (Yg hr)))
theorem wH{F:Type}[eO F]{x:Nat×Vec F}:∀{P:Pt F},(∀a∈P,a.1<x.1)->ins x P=P++[x]
 |[],_=>rfl
 |y::P,h=>by
  unfold ins;rw[T8 (by have:=h y (am ..);omega),wH λa ha=>h a (al _ ha)];rfl
def vS{P:List Row}{l:Row}{j:Nat}(hP:pZ p n P)(hl:Zj p n l)(hj:j<n)(h1:gt l j=1)(h0:∀i,i<j->gt l i=0)(hh:∀r∈P,(hdI r).getD 0<j):pZ p n (P.map (λo=>clr p o l j)++[l])/\∀r∈P.map (λo=>clr p o l j)++[l],(hdI r).getD 0<j+1:=by
 have one:ph p 1=1:=by rcases(inferInstance:Base p).b with e | e | e <;> subst e <;> rfl
 have hlt:∀a∈toP p P,a.1<j:=λa ha=>by
  unfold toP at ha;obtain⟨r,hr,rfl⟩:=aO.mp ha;exact hh r hr
 have L:Lead (toP p P) j (toV p l):=⟨by unfold toV;rw[h1,one],λi hi=>(YU hl).mpr (h0 i hi),λa ha=>(YU hl).mpr (h0 _ (hlt a ha))⟩
 have rf:=uM fld.one0 hP.pn.rf L;have ew:wid (toP p P) j (toV p l)=(toP p P).map (off j (toV p l))++[(j,toV p l)]:=wH λa ha=>by
  obtain⟨b,hb,rfl⟩:=aO.mp ha;exact hlt b hb
 have hx:hdI l=aa j:=Zdi (by rw[h1];decide) h0
 have hmem:∀o∈P,off j (toV p l) ((hdI o).getD 0,toV p o)∈wid (toP p P) j (toV p l):=λo ho=>by
  rw[ew];exact cC _ (aO.mpr ⟨_,Yg ho,rfl⟩)
 have eh:∀o∈P,hdI (clr p o l j)=aa ((hdI o).getD 0):=λo ho=>by
  have ho':=hP.row o ho;have hc:Zj p n (clr p o l j):=Yd ho' hl;have ev:toV p (clr p o l j)=(off j (toV p l) ((hdI o).getD 0,toV p o)).2:=Wz ho' hl;rw[<-J0 hc,ev];exact yb (hP.pn.lt _ (Yg ho)) (λz=>fld.one0 ((rf.one _ (hmem o ho)).symm.trans z)) (rf.low _ (hmem o ho))
 have eP:toP p (P.map (λo=>clr p o l j)++[l])=wid (toP p P) j (toV p l):=by
  rw[ew];unfold toP;rw[d6,bH,bH]
  congr 1
  ·refine cY λo ho=>?_
   show((hdI (clr p o l j)).getD 0,toV p (clr p o l j))=off j _ ((hdI o).getD 0,toV p o);rw[eh o ho,Wz (hP.row o ho) hl];rfl
  ·show[((hdI l).getD 0,toV p l)]=_
   rw[hx];rfl
 have hrow:∀r∈P.map (λo=>clr p o l j)++[l],Zj p n r:=λr hr=>by
  rcases bQ.mp hr with z | z
  ·obtain⟨o,ho,rfl⟩:=aO.mp z
   exact Yd (hP.row o ho) hl
  ·rw[bp.mp z];exact hl
 refine⟨⟨hrow,⟨by rw[eP];exact rf,λa ha=>?_,λa ha=>?_⟩⟩,λr hr=>?_⟩
 ·unfold toP at ha
  obtain⟨r,hr,rfl⟩:=aO.mp ha;rcases bQ.mp hr with z | z
  ·obtain⟨o,ho,rfl⟩:=aO.mp z
   show(hdI _).getD 0<n;rw[eh o ho];exact hP.pn.lt _ (Yg ho)
  ·rw[bp.mp z];show(hdI l).getD 0<n;rw[hx];exact hj
 ·unfold toP at ha
  obtain⟨r,hr,rfl⟩:=aO.mp ha;exact Vy (hrow r hr)
 ·rcases bQ.mp hr with z | z
  ·obtain⟨o,ho,rfl⟩:=aO.mp z
   rw[eh o ho];have:=hh o ho;show(hdI o).getD 0<j+1;omega
  ·rw[bp.mp z,hx];show j<j+1;omega
def ZbM{a:Int}(h0:0<a)(h1:a<p):Yh p a*a%p=1:=by
 rcases(inferInstance:Base p).b with e | e | e <;> subst e
 ·have:a=1:=by omega
  subst this;rfl
 ·have:a=1\/a=2:=by omega
  rcases this with e | e <;> subst e <;> rfl
 ·have:a=1\/a=2\/a=3\/a=4:=by omega
  rcases this with e | e | e | e <;> subst e <;> rfl
def uj{a:Int}(h0:0<a)(h1:a<p):(aI p).filter (λk:Nat=>ae ((k:Int)*a%p=1))=[(Yh p a).toNat]/\((Yh p a).toNat:Int)=Yh p a:=by
 rcases(inferInstance:Base p).b with e | e | e <;> subst e
 ·have:a=1:=by omega
  subst this;exact⟨rfl,rfl⟩
 ·have:a=1\/a=2:=by omega
  rcases this with e | e <;> subst e <;> exact⟨rfl,rfl⟩
 ·have:a=1\/a=2\/a=3\/a=4:=by omega
  rcases this with e | e | e | e <;> subst e <;> exact⟨rfl,rfl⟩
structure Red(p n:Nat)[NeZero p](j:Nat)(rest found:List Row):Prop where
 row:∀r∈rest,Zj p n r
 low:∀r∈rest,∀i,i<j->gt r i=0
 part:pZ p n found
 head:∀r∈found,(hdI r).getD 0<j
def uT{j:Nat}{rest found:List Row}(h:Red p n j rest found)(hz:∀r∈rest,gt r j=0):Red p n (j+1) rest found:=
 ⟨h.row,λr hr i hi=>by
   by_cases c:i=j
   ·rw[c];exact hz r hr
   ·exact h.low r hr i (by omega),h.part,λr hr=>by have:=h.head r hr;omega⟩
def jy{j:Nat}{rest found:List Row}{f:Row}(h:Red p n j rest found)(hj:j<n)(hf:f∈rest)(hz:gt f j≠0):Red p n (j+1) (rest.map λr=>clr p r (lead p f j) j) (found.map (λr=>clr p r (lead p f j) j)++[lead p f j]):=by
 have hfr:=h.row f hf;have hg:=Wu ppos hfr j;have hl:Zj p n (lead p f j):=Y6 hfr;have h1:gt (lead p f j) j=1:=by unfold lead;rw[UA];exact ZbM (by omega) hg.2
 have h0:∀i,i<j->gt (lead p f j) i=0:=λi hi=>by unfold lead;rw[UA,h.low f hf i hi];simp
 obtain⟨a,b⟩:=vS h.part hl hj h1 h0 h.head;refine⟨λr hr=>?_,λr hr i hi=>?_,a,b⟩
 ·obtain⟨o,ho,rfl⟩:=aO.mp hr
  exact Yd (h.row o ho) hl
 ·obtain⟨o,ho,rfl⟩:=aO.mp hr
  unfold clr;rw[wl (h.row o ho) hl];by_cases c:i=j
  ·rw[c,h1]
   rw[show gt o j + -(gt o j)*1=0 by omega];rfl
  ·rw[h.low o ho i (by omega),h0 i (by omega)];simp
end
end Rw
namespace Pv
open Ev
open Rw
def Za{α β:Type}{a:α}{s:DS}{f:α->DS->PR β}:(PR.ok a s).bind f=f a s:=rfl
def V5(hf:F[f]? = aa fn)(hne:f≠tk)(hl:vs.length=fn.ps):ZL F tk (d+1) f vs s=(rvs (ZL F tk d) (muts fn.body) fn.body (XH fn.ns vs) [] s).bind λg s=>match g with
  |.ret v=>.ok v s
  |.nx _ _=>.ok .non s
  |_=>.no:=by
 rw[ZL,T8 hne,hf];show(if vs.length=fn.ps then _ else _)=_
 rw[T9 hl]
 all_goals rfl
def uk(s:DS)(h:0<m):0<=(Yx s m).1/\(Yx s m).1<m:=by
 unfold Yx;split
 ·exact⟨dJ _ (by omega),cQ _ h⟩
 ·exact⟨dJ _ (by omega),cQ _ h⟩
def xT(s:DS)(h0:0<m)(h1:m<1073741824):∃v s',ZL F tk (d+1) tk [.drw,.int m] s=.ok (.int v) s'/\0<=v/\v<m:=by
 refine⟨(Yx s m).1,(Yx s m).2,?_,uk s h0⟩;rw[ZL,T9 rfl];show(if 0<m/\m<1073741824 then _ else _)=_
 rw[T9 ⟨h0,h1⟩]
theorem G0{α:Type}{f:V->DS->PR (List V)}{s:DS}{e:α->V}{g:α->V}:∀{l:List α},(∀x∈l,f (e x) s=.ok [g x] s)->mapP f (l.map e) s=.ok (l.map g) s
 |[],_=>rfl
 |x::l,h=>by
  rw[aS,mapP,h x (am ..)];show(match mapP f (l.map e) s with | .ok zs s=>PR.ok ([g x]++zs) s | _=>.no)=_
  rw[G0 λy hy=>h y (al _ hy)];rfl
theorem Ub{α:Type}{f:V->DS->PR (List V)}{s:DS}{e:α->V}{g:α->V}{q:α->Bool}:∀{l:List α},(∀x∈l,f (e x) s=.ok (if q x=ag then[g x]else[]) s)->mapP f (l.map e) s=.ok ((l.filter q).map g) s
 |[],_=>rfl
 |x::l,h=>by
  rw[aS,mapP,h x (am ..)];show(match mapP f (l.map e) s with | .ok zs s=>PR.ok ((if q x=ag then[g x]else[])++zs) s | _=>.no)=_
  rw[Ub λy hy=>h y (al _ hy),dg]
  show PR.ok _ s=_;cases q x <;> rfl
theorem Q5{Q:V->Prop}(h:∀x s,∃y s',f x s=.ok [y] s'/\Q y):∀(l:List V)(s:DS),∃ys s',mapP f l s=.ok ys s'/\ys.length=l.length/\∀y∈ys,Q y
 |[],s=>⟨[],s,rfl,rfl,λ_ h=>by cases h⟩
 |x::l,s=>by
  obtain⟨y,s1,e1,q1⟩:=h x s;obtain⟨ys,s2,e2,l2,q2⟩:=Q5 h l s1;refine⟨y::ys,s2,?_,by rw[aR,aR,l2],λz hz=>?_⟩
  ·rw[mapP,e1]
   show(match mapP f l s1 with | .ok zs s=>PR.ok ([y]++zs) s | _=>.no)=_
   rw[e2];rfl
  ·rcases az.mp hz with rfl | hz
   ·exact q1
   ·exact q2 z hz
theorem QZ{σ α:Type}{body:V->Env->List Nat->DS->PR FlV}{s:DS}{os:List Nat}{ρ:σ->Option V->Env}{step:σ->α->σ}{e:α->V}(I:σ->Prop):∀{l:List α}{st:σ}{o:Option V},I st->(∀x∈l,∀st o,I st->I (step st x)/\∃o',body (e x) (ρ st o) os s=.ok (.nx (ρ (step st x) o') os) s)->∃o',I (l.foldl step st)/\XN body (l.map e) (ρ st o) os s=.ok (.nx (ρ (l.foldl step st) o') os) s
 |[],st,o,hI,_=>⟨o,hI,rfl⟩
 |x::l,st,o,hI,h=>by
  obtain⟨h1,o1,e1⟩:=h x (am ..) st o hI;obtain⟨o2,h2,e2⟩:=QZ I (l:=l) (st:=step st x) (o:=o1) h1 λy hy=>h y (al _ hy)
  refine⟨o2,h2,?_⟩;rw[aS,XN,e1];exact e2
noncomputable def WL:Option Nat->V
 |none=>.non
 |some k=>.int k
noncomputable def spV(p n:Nat):V:=.tup [.int p,.int n]
def ZG{a:Int}(h:-4294967296<a)(h':a<4294967296):fits a=ag:=by
 unfold fits;refine T5 ?_;have h1:a.natAbs<2^32:=by omega
 exact aY h1 (fP (by decide) (by decide))
def U5{α:Type}{xs:List α}{k:Nat}{x:α}(h:xs[k]? = aa x):at' xs (k:Int)=aa x:=by
 have hk:k<xs.length:=(ay.mp h).1;unfold at' ixN;rw[T9 (by omega),T9 (by omega)]
 show xs[(k:Int).toNat]? = _;rw[show(k:Int).toNat=k by omega];exact h
def Wi{r:Row}{k:Nat}(hk:k<r.length):at' (r.map V.int) (k:Int)=aa (.int (gt r k)):=by
 refine U5 ?_;rw[bg,ah hk];unfold gt;rw[aG,ah hk];rfl
theorem Yk{α:Type}{g:α->Bool}:∀l:List α,ZS (l.map λx=>.bl (g x))=aa (l.map g)
 |[]=>rfl
 |x::l=>by rw[aS,ZS,Yk l];rfl
theorem Ql{α:Type}{f:V->V->Option Bool}{e:α->V}{d:α->α->Bool}(hd:∀a b,d a b=ag↔a=b)(h:∀a b,f (e a) (e b)=aa (d a b)):∀a b:List α,∃c,Vv f (a.map e) (b.map e)=aa c/\(c=ag↔a=b)
 |[],[]=>⟨ag,rfl,by simp⟩
 |[],_::_=>⟨ai,rfl,by simp⟩
 |_::_,[]=>⟨ai,rfl,by simp⟩
 |x::a,y::b=>by
  obtain⟨c,e1,e2⟩:=Ql hd h a b;refine⟨d x y&&c,?_,?_⟩
  ·rw[aS,aS,Vv,h,e1]
  ·rw[aB,hd,e2];simp
def Zap(k:Nat)(a b:Row):eqV (k+2) (Zc a) (Zc b)=aa (ae (a=b)):=by
 show Vv (eqV (k+1)) (a.map .int) (b.map .int)=_;obtain⟨c,e1,e2⟩:=Ql (f:=eqV (k+1)) (e:=V.int) (d:=λa b=>ae (a=b)) (λa b=>by simp) (λa b=>rfl) a b
 rw[e1,show c=ae (a=b) by rw[bz,e2];simp]
def Zaf(k:Nat)(a b:List Row):eqV (k+3) (Ze a) (Ze b)=aa (ae (a=b)):=by
 show Vv (eqV (k+2)) (a.map Zc) (b.map Zc)=_;obtain⟨c,e1,e2⟩:=Ql (f:=eqV (k+2)) (e:=Zc) (d:=λa b=>ae (a=b)) (λa b=>by simp) (λa b=>Zap k a b) a b
 rw[e1,show c=ae (a=b) by rw[bz,e2];simp]
theorem VC:∀(r o:Row),((r.map V.int).zip (o.map V.int)).map (λq=>V.tup [q.1,q.2])=(r.zip o).map λq=>V.tup [.int q.1,.int q.2]
 |[],_=>rfl
 |_::_,[]=>rfl
 |a::r,b::o=>by rw[aS,aS,cP,aS,cP,aS,VC r o]
theorem XV:∀r:Row,intsV (r.map V.int)=aa r
 |[]=>rfl
 |a::r=>by show(intsV (r.map V.int)).map (a :: ·)=_;rw[XV r];rfl
theorem YA:∀P:List Row,Xi (P.map Zc)=aa P
 |[]=>rfl
 |r::P=>by
  show(match intsV (r.map V.int),Xi (P.map Zc)with | some a,aa b=>aa (a::b) | _,_=>ac)=_
  rw[XV,YA P]
theorem X4:∀r:Row,ZN (r.map V.int)=ag
 |[]=>rfl
 |a::r=>X4 r
def ZaW(n:Nat):Xj 0 n=(aI n).map λ(k:Nat)=>V.int (k:Int):=by
 unfold Xj;refine cY λk _=>?_
 simp
def Z6{α:Type}{a:α}{s:DS}:po (aa a) s=.ok a s:=rfl
section
variable{C:Zy}{cap:List Nat}{nl:Nat}{t:List Nat}{it:W}{elt tst:E}{ρ:Env}{s:DS}{α:Type}
def ZD{l:List α}{e g:α->V}(hw:pvw C it ρ s=.ok (l.map e) s)(hl:l.length<=lim)(h:∀x∈l,∃σ,Zx t (e x) (Yp cap nl ρ)=aa σ/\pv C elt σ s=.ok (g x) s)(ho:own nl t=ag:=by rfl):pv C (.comp1 cap nl t it [] elt) ρ s=.ok (.lst (l.map g)) s:=by
 rw[pv,T9 ho,hw,Za,G0 (g:=g) λx hx=>by
  obtain⟨σ,e1,e2⟩:=h x hx;rw[e1,Z6,Za,pvt,Za];show(pv C elt σ s).bind _=_;rw[e2];rfl]
 rw[Za,T9 (by rw[aH];exact hl)];rfl
def Xt{l:List α}{e g:α->V}{q:α->Bool}(hw:pvw C it ρ s=.ok (l.map e) s)(hl:l.length<=lim)(h:∀x∈l,∃σ v,Zx t (e x) (Yp cap nl ρ)=aa σ/\pv C tst σ s=.ok v s/\Yc v=aa (q x)/\(q x=ag->pv C elt σ s=.ok (g x) s))(ho:own nl t=ag:=by rfl):pv C (.comp1 cap nl t it [tst] elt) ρ s=.ok (.lst ((l.filter q).map g)) s:=by
 rw[pv,T9 ho,hw,Za,Ub (g:=g) (q:=q) λx hx=>by
  obtain⟨σ,v,e1,e2,e3,e4⟩:=h x hx;rw[e1,Z6,Za,pvt,e2,Za,e3,Z6,Za];cases c:q x with
  |true=>
   rw[T9 rfl,pvt,Za,T9 rfl,T9 rfl,e4 c];rfl
  |false=>rw[T8 (by simp),Za,T8 (by simp),T8 (by simp)]]
 rw[Za,T9 (by rw[aH];exact bx (d7 ..) hl)];rfl
def QJ{Q:V->Prop}(hw:pvw C it ρ s=.ok (Xj 0 k) s)(hl:k<=lim)(h:∀(x:V)(s:DS),∃σ y s',Zx t x (Yp cap nl ρ)=aa σ/\pv C elt σ s=.ok y s'/\Q y)(ho:own nl t=ag:=by rfl) :
  ∃ys s',pv C (.comp1 cap nl t it [] elt) ρ s=.ok (.lst ys) s'/\ys.length=k/\∀y∈ys,Q y:=by
 obtain⟨ys,s',e1,e2,e3⟩:=Q5 (Q:=Q) (f:=λx s=>(po (Zx t x (Yp cap nl ρ)) s).bind λσ s=>(pvt C [] σ s).bind λb s=>if b then(pv C elt σ s).bind λy s=>.ok [y] s else .ok [] s) (λx s=>by
  obtain⟨σ,y,s',f1,f2,f3⟩:=h x s;refine⟨y,s',?_,f3⟩;rw[f1,Z6,Za,pvt,Za];show(pv C elt σ s).bind _=_;rw[f2];rfl) (Xj 0 k) s
 have hk:(Xj 0 k).length=k:=by unfold Xj;simp
 refine⟨ys,s',?_,by rw[e2,hk],e3⟩
 rw[pv,T9 ho,hw,Za,e1,Za,T9 (by rw[e2,hk];exact hl)];rfl
end
def Zdr{xs:List V}{k:Nat}(h:k<=xs.length):YH xs ac (aa (k:Int))=xs.take k:=by
 show(xs.drop 0).take ((if(k:Int)<0 then((k:Int)+xs.length).toNat else mV (k:Int).toNat xs.length)-0)=_
 rw[T8 (by omega),show mV (k:Int).toNat xs.length-0=k by omega];rfl
def GF{xs:List V}{i:Int}{k:Nat}(hi:i=k)(h:k<=xs.length):YH xs (aa i) ac=xs.drop k:=by
 subst hi;show(xs.drop (if(k:Int)<0 then((k:Int)+xs.length).toNat else mV (k:Int).toNat xs.length)).take (xs.length-(if(k:Int)<0 then((k:Int)+xs.length).toNat else mV (k:Int).toNat xs.length))=_
 rw[T8 (by omega),show mV (k:Int).toNat xs.length=k by omega]
 exact fo (by rw[cq];omega)
def Zai{xs:List V}:YH xs (aa 1) ac=xs.tail:=by
 cases xs with|nil=>rfl|cons x xs=>exact GF (k:=1) rfl (by simp)
noncomputable def Zr(k:Nat):V:=.int k
def JL(n:Nat):Xj 0 n=(aI n).map Zr:=by rw[ZaW];rfl
def GH(h0:0<=i)(h1:i<1000000):W8 i=ag:=by
 unfold W8;have e:(2:Int)^62=4611686018427387904:=by decide
 rw[e];exact T5 ⟨by omega,by omega⟩
def Zv(hf:F[f]? = aa fn)(hne:f≠tk)(hl:vs.length=fn.ps)(h:rvs (ZL F tk d) (muts fn.body) fn.body (XH fn.ns vs) [] s=.ok (.ret v) s'):ZL F tk (d+1) f vs s=.ok v s':=by
 rw[V5 hf hne hl,h];rfl
def yZ(hf:F[f]? = aa fn)(hne:f≠tk)(hl:vs.length=fn.ps)(h:rvs (ZL F tk d) (muts fn.body) fn.body (XH fn.ns vs) [] s=.ok (.nx ρ os) s'):ZL F tk (d+1) f vs s=.ok .non s':=by
 rw[V5 hf hne hl,h];rfl
section
variable{C:Zy}{ms:List Nat}{m:Sm}{l:List Sm}{ρ ρ':Env}{os os':List Nat}{s s':DS}
def Zg(h:rv C ms m ρ os s=.ok (.nx ρ' os') s'):rvs C ms (m::l) ρ os s=rvs C ms l ρ' os' s':=by rw[rvs,h];rfl
def Zl(h:rv C ms m ρ os s=.ok (.ret v) s'):rvs C ms (m::l) ρ os s=.ok (.ret v) s':=by rw[rvs,h];rfl
def ZP(h:pv C e ρ s=.ok v s'):rv C ms (.ret e) ρ os s=.ok (.ret v) s':=by rw[rv,h];rfl
def ZbY(h:pv C (.call f as) ρ s=.ok v s'):rv C ms (.ex (.call f as)) ρ os s=.ok (.nx ρ os) s':=by
 have:rv C ms (.ex (.call f as)) ρ os s=(pv C (.call f as) ρ s).bind λ_ s=>.ok (.nx ρ os) s:=by
  rw[rv]
  all_goals(intro _ _ z;cases z)
 rw[this,h];rfl
def X9{b:Bool}{t:E}{x y:List Sm}(h:VI C t ρ s=.ok b s'):rv C ms (.ite t x y) ρ os s=if b=ag then rvs C ms x ρ os s' else rvs C ms y ρ os s':=by rw[rv,h];rfl
def XF{v:V}{b:Bool}{t:E}(h:pv C t ρ s=.ok v s')(hb:Yc v=aa b):VI C t ρ s=.ok b s':=by unfold VI;rw[h,Za,hb];rfl
def Zs{f:Nat}{as:List E}{vs:List V}{v:V}{s1:DS}(h:pvs C as ρ s=.ok vs s1)(hc:C f vs s1=.ok v s'):pv C (.call f as) ρ s=.ok v s':=by rw[pv,h];exact hc
def Zh:pvs C [] ρ s=.ok [] s:=by rw[pvs]
def Zd{e:E}{es:List E}{v:V}{vs:List V}{s1:DS}(h:pv C e ρ s=.ok v s1)(h2:pvs C es ρ s1=.ok vs s'):pvs C (e::es) ρ s=.ok (v::vs) s':=by rw[pvs,h,Za,h2];rfl
def Zk{i:Nat}{v:V}(h:ρ[i]? = aa (aa v)):pv C (.v i) ρ s=.ok v s:=by rw[pv,h];rfl
def Z0{i:Nat}{e:E}{v:V}(h:pv C e ρ s=.ok v s')(hm:(ms.contains i&&fresh e)=ai):rv C ms (.asg [i] e) ρ [] s=.ok (.nx (ρ.set i (aa v)) []) s':=by
 rw[rv];show(pv C e ρ s).bind _=_;rw[h,Za,T8 (by rw[hm];simp)];rfl
def JG{σ α:Type}{t:List Nat}{it:W}{b:List Sm}{L:List α}{e:α->V}{step:σ->α->σ}{ρ:σ->Option V->Env}{st:σ}{o:Option V}(I:σ->Prop)(hw:pvw C it (hide os (ρ st o)) s=.ok (L.map e) s)(hI:I st)(ht:(t.any os.contains)=ai)
  (h:∀x∈L,∀st o,I st->I (step st x)/\(os.isEmpty||(e x).flat)=ag/\∃ρ1 o',Zx t (e x) (ρ st o)=aa ρ1/\rvs C ms b ρ1 os s=.ok (.nx (ρ (step st x) o') os) s) :
  ∃o',I (L.foldl step st)/\rv C ms (.forr t it b) (ρ st o) os s=.ok (.nx (ρ (L.foldl step st) o') os) s:=by
 obtain⟨o',h1,h2⟩:=QZ (body:=λx ρ os s=>if(t.any os.contains)=ag then .no else if(os.isEmpty||x.flat)=ag then(po (Zx t x ρ) s).bind λρ s=>rvs C ms b ρ os s else .no) (s:=s) (os:=os) (ρ:=ρ) (step:=step) (e:=e) I (l:=L) (st:=st) (o:=o) hI (λx hx st o hI=>by
  obtain⟨a,f,ρ1,o',b1,b2⟩:=h x hx st o hI;refine⟨a,o',?_⟩;rw[T8 (by rw[ht];simp),T9 f,b1,Z6,Za,b2])
 refine⟨o',h1,?_⟩;rw[rv,hw,Za];exact h2
def Xs{e:E}{n:Nat}(h:pv C e ρ s=.ok (.int n) s')(hn:n<1000000):pvw C (.rng1 e) ρ s=.ok ((aI n).map Zr) s':=by
 rw[pvw,h,Za];show(if W8 (n:Int)=ag then PR.ok (Xj 0 (n:Int).toNat) s' else .no)=_
 rw[T9 (GH (by omega) (by omega)),fq,JL]
def JP{α:Type}{t:List Nat}{it:W}{b:List Sm}{L:List α}{e:α->V}(I:List α->Env->Prop)(hw:pvw C it (hide os ρ) s=.ok (L.map e) s)(hI:I L ρ)(ht:(t.any os.contains)=ai)
  (h:∀x l ρ,I (x::l) ρ->(os.isEmpty||(e x).flat)=ag/\∃ρ1 ρ',Zx t (e x) ρ=aa ρ1/\rvs C ms b ρ1 os s=.ok (.nx ρ' os) s/\I l ρ') :
  ∃ρ',I [] ρ'/\rv C ms (.forr t it b) ρ os s=.ok (.nx ρ' os) s:=by
 rw[rv,hw,Za];clear hw
 induction L generalizing ρ with
 |nil=>exact⟨ρ,hI,rfl⟩
 |cons x L ih=>
  obtain⟨f,ρ1,ρ',b1,b2,b3⟩:=h x L ρ hI;obtain⟨ρ2,c1,c2⟩:=ih b3;refine⟨ρ2,c1,?_⟩;rw[aS,XN,T8 (by rw[ht];simp),T9 f,b1,Z6,Za,b2,Za]
  exact c2
def Zal{σ α:Type}{t:List Nat}{it:W}{b:List Sm}{L:List α}{e:α->V}{step:σ->α->σ}{ρ:σ->Option V->Env}{st:σ}{o:Option V}(I:List α->σ->Prop)(hw:pvw C it (hide os (ρ st o)) s=.ok (L.map e) s)(hI:I L st)(ht:(t.any os.contains)=ai)
  (h:∀x l st o,I (x::l) st->I l (step st x)/\(os.isEmpty||(e x).flat)=ag/\∃ρ1 o',Zx t (e x) (ρ st o)=aa ρ1/\rvs C ms b ρ1 os s=.ok (.nx (ρ (step st x) o') os) s) :
  ∃o',I [] (L.foldl step st)/\rv C ms (.forr t it b) (ρ st o) os s=.ok (.nx (ρ (L.foldl step st) o') os) s:=by
 rw[rv,hw,Za];clear hw
 induction L generalizing st o with
 |nil=>exact⟨o,hI,rfl⟩
 |cons x L ih=>
  obtain⟨a,f,ρ1,o',b1,b2⟩:=h x L st o hI;obtain⟨o2,c1,c2⟩:=ih (st:=step st x) (o:=o') a;refine⟨o2,c1,?_⟩;rw[aS,XN,T8 (by rw[ht];simp),T9 f,b1,Z6,Za,b2,Za]
  exact c2
end
def pvF:(∀a,fresh (.lst a)=ag)/\(∀a b,fresh (.bin .mul (.lst a) b)=ag)/\(∀b,Yc (.bl b)=aa b)/\(∀i,Yc (.int i)=aa (ae (i≠0)))/\(∀xs,Yc (.tup xs)=aa (!xs.isEmpty))/\(∀xs,Yc (.lst xs)=aa (!xs.isEmpty))/\(Yc .non=aa ai)/\(∀xs i,ixV (.tup xs) (.int i)=at' xs i)/\(∀xs i,ixV (.lst xs) (.int i)=at' xs i)/\(∀xs,Z7 (.tup xs)=aa xs)/\(∀xs,Z7 (.lst xs)=aa xs)/\(∀x,UG .len [x]=(Z7 x).map λxs=>.int xs.length)/\(∀x,UG .tuple [x]=(Z7 x).map .tup)/\(∀x,UG .list [x]=(Z7 x).map .lst)/\(∀xs,UG .all [.lst xs]=(ZS xs).map λbs=>.bl (bs.all id))/\(∀a b,UG .max2 [.int a,.int b]=aa (.int (if b>a then b else a)))/\(∀a b,UG .min2 [.int a,.int b]=aa (.int (if b<a then b else a)))/\(∀a,UG .toInt [.int a]=aa (.int a))/\(∀a,UG .toInt [.bl a]=aa (.int (b2i a)))/\(∀xs,UG .sortedR [.lst xs]=(Xi xs).bind λrs=>if YW rs=ag then aa (.lst ((ZY rs).reverse.map Zc))else ac)/\(∀a b s,W6 .add (.int a) (.int b) s=.ok (.int (a+b)) s)/\(∀a b s,W6 .sub (.int a) (.int b) s=.ok (.int (a-b)) s)/\(∀a b s,W6 .mul (.int a) (.int b) s=if(fits a&&fits b)=ag then .ok (.int (a*b)) s else .no)/\(∀a b s,W6 .mod (.int a) (.int b) s=if 0<b then .ok (.int (a%b)) s else .no)/\(∀a b s,W6 .add (.tup a) (.tup b) s=if a.length+b.length<=lim then .ok (.tup (a++b)) s else .no)/\(∀a b s,W6 .mul (.tup a) (.int b) s=if 0<=b/\b<1000/\a.length<=1000 then .ok (.tup (aq b.toNat a).flatten) s else .no)/\(∀a b s,W6 .mul (.lst a) (.int b) s=if 0<=b/\b<1000/\a.length<=1000 then .ok (.lst (aq b.toNat a).flatten) s else .no)/\(∀a b s,W6 .add (.lst a) (.lst b) s=if a.length+b.length<=lim then .ok (.lst (a++b)) s else .no)/\(∀x y,Wn .eq x y=(eqV Zn x y).map .bl)/\(∀x y,Wn .ne x y=(eqV Zn x y).map λb=>.bl !b)/\(∀a b,Wn .lt (.int a) (.int b)=aa (.bl (ae (a<b))))/\(∀a b,Wn .le (.int a) (.int b)=aa (.bl (ae (a<=b))))/\(∀a b,Wn .ge (.int a) (.int b)=aa (.bl (ae (b<=a))))/\(∀x,Wn .is x .non=aa (.bl (Vn x)))/\(∀a b,Wn .is (.bl a) (.bl b)=aa (.bl (ae (a=b))))/\(∀x y,Wn .inn x y=(XQ x y).map .bl)/\(∀x y,Wn .nin x y=(XQ x y).map λb=>.bl !b)/\(Vn .non=ag)/\(∀b,Vn (.bl b)=ai)/\(∀b,Vn (.int b)=ai)/\(∀b,Vn (.tup b)=ai)/\(∀b,Vn (.lst b)=ai)/\(ofD .non=aa .non)/\(∀b,ofD (.bl b)=aa (.bl b))/\(∀b,ofD (.int b)=aa (.int b))/\(∀ρ,Xv [] [] ρ=aa ρ)/\(∀i t x xs ρ,Xv (i::t) (x::xs) ρ=Xv t xs (ρ.set i (aa x)))/\(∀i x ρ,Zx [i] x ρ=aa (ρ.set i (aa x)))/\(∀i j t xs ρ,Zx (i::j::t) (.tup xs) ρ=Xv (i::j::t) xs ρ)/\(∀i j t xs ρ,Zx (i::j::t) (.lst xs) ρ=Xv (i::j::t) xs ρ)/\(∀k a b,eqV (k+1) (.int a) (.int b)=aa (ae (a=b)))/\(∀k a b,eqV (k+1) (.bl a) (.bl b)=aa (ae (a=b)))/\(∀k a b,eqV (k+1) (.tup a) (.tup b)=Vv (eqV k) a b)/\(∀k a b,eqV (k+1) (.lst a) (.lst b)=if a.length=b.length then Vv (eqV k) a b else aa ai):=
 ⟨λ_=>rfl,λ_ _=>rfl,λ_=>rfl,λ_=>rfl,λ_=>rfl,λ_=>rfl,rfl,λ_ _=>rfl,λ_ _=>rfl,λ_=>rfl,λ_=>rfl,λ_=>rfl,λ_=>rfl,λ_=>rfl,λ_=>rfl,λ_ _=>rfl,λ_ _=>rfl,λ_=>rfl,λ_=>rfl,λ_=>rfl,λ_ _ _=>rfl,λ_ _ _=>rfl,λ_ _ _=>rfl,λ_ _ _=>rfl,λ_ _ _=>rfl,λ_ _ _=>rfl,λ_ _ _=>rfl,λ_ _ _=>rfl,λ_ _=>rfl,λ_ _=>rfl,λ_ _=>rfl,λ_ _=>rfl,λ_ _=>rfl,λ_=>rfl,λ_ _=>rfl,λ_ _=>rfl,λ_ _=>rfl,rfl,λ_=>rfl,λ_=>rfl,λ_=>rfl,λ_=>rfl,rfl,λ_=>rfl,λ_=>rfl,λ_=>rfl,λ_ _ _ _ _=>rfl,λ_ _ _=>rfl,λ_ _ _ _ _=>rfl,λ_ _ _ _ _=>rfl,λ_ _ _=>rfl,λ_ _ _=>rfl,λ_ _ _=>rfl,λ_ _ _=>rfl⟩
def pvE:=aK (aK (aK (aK (aK pvF (aK @Za @Z6)) (aK (aK @VI.eq_1 @XH.eq_1) (aK @hide.eq_1 @Yp.eq_1))) (aK (aK @Option.join.eq_1.{0} (aK @lim.eq_1 @rvs.eq_1)) (aK (aK @rvs.eq_2 @rv.eq_1) (aK @rv.eq_2 @rv.eq_3)))) (aK (aK (aK @rv.eq_4 (aK @rv.eq_5 @rv.eq_6)) (aK (aK @rv.eq_7 @rv.eq_8) (aK @rv.eq_9 @rv.eq_10))) (aK (aK (aK @rv.eq_11 @rv.eq_12) (aK @rv.eq_13 @rv.eq_14)) (aK (aK @rv.eq_15 @pvA.eq_1) (aK @pvA.eq_2 @pvs.eq_1))))) (aK (aK (aK (aK @pvs.eq_2 (aK @pvo.eq_1 @pvo.eq_2)) (aK (aK @pvt.eq_1 @pvt.eq_2) (aK @pvw.eq_1 @pvw.eq_2))) (aK (aK (aK @pvw.eq_3 @pvw.eq_4) (aK @pv.eq_1 @pv.eq_2)) (aK (aK @pv.eq_3 @pv.eq_4) (aK @pv.eq_5 @pv.eq_6)))) (aK (aK (aK @pv.eq_7 (aK @pv.eq_8 @pv.eq_9)) (aK (aK @pv.eq_10 @pv.eq_11) (aK @pv.eq_12 @pv.eq_13))) (aK (aK (aK @pv.eq_14 @pv.eq_15) (aK @pv.eq_16 @pv.eq_17)) (aK (aK @pv.eq_18 @pv.eq_19) (aK @pv.eq_20 @pv.eq_21)))))
end Pv
namespace K41
open Ev Pv Rw La
noncomputable abbrev CV(d:Nat):Zy:=ZL fns 2 d
theorem Jc(C:Zy)(s:DS)(v:V):∀(r:Row)(k:Nat)(a b:Option V),∃a' b',XN (λx ρ os s=>if(([1,2]:List Nat).any os.contains)=ag then .no else if(os.isEmpty||x.flat)=ag then(po (Zx [1,2] x ρ) s).bind λρ s=>rvs C [] [.ite (.cmp .ne (.v 2) (.c (.int 0))) [.ret (.v 1)] []] ρ os s else .no)
   (((Xj k r.length).zip (r.map V.int)).map λp=>V.tup [p.1,p.2]) [aa v,a,b] [] s=match hdI r with
    |some m=>.ok (.ret (.int (k+m:Nat))) s
    |none=>.ok (.nx [aa v,a',b'] []) s
 |[],k,a,b=>⟨a,b,rfl⟩
 |x::r,k,a,b=>by
  have er:Xj k (x::r).length=.int k::Xj (k+1:Nat) r.length:=by
   unfold Xj;rw[aR,dY,aS,bH];refine List.cons_eq_cons.mpr ⟨by simp,?_⟩
   ·refine cY λj _=>?_
    show V.int ((k:Int)+((j+1:Nat):Int))=V.int (((k+1:Nat):Int)+(j:Int))
    congr 1
    omega
  obtain⟨a',b',ih⟩:=Jc C s v r (k+1) (aa (.int k)) (aa (.int x));refine⟨a',b',?_⟩;rw[er,aS,cP,aS,XN];by_cases c:x=0
  ·subst c
   have e0:hdI (0::r)=(hdI r).map (· + 1):=by rw[hdI,T8 (by simp)]
   have e1:(if(([1,2]:List Nat).any ([]:List Nat).contains)=ag then(.no:PR FlV)else if(([]:List Nat).isEmpty||(V.tup [V.int k,V.int 0]).flat)=ag then(po (Zx [1,2] (V.tup [.int k,.int 0]) [aa v,a,b]) s).bind λρ s=>rvs C [] [.ite (.cmp .ne (.v 2) (.c (.int 0))) [.ret (.v 1)] []] ρ [] s else .no)=.ok (.nx [aa v,aa (.int k),aa (.int 0)] []) s:=by
    simp[pvE,Zn]
   rw[e1,Za,e0];show XN _ _ [aa v,aa (.int k),aa (.int 0)] [] s=_;rw[ih];cases hdI r with|none=>rfl|some m=>show PR.ok (FlV.ret (.int ((k+1+m:Nat):Int))) s=PR.ok (FlV.ret (.int ((k+(m+1):Nat):Int))) s;congr 3;omega
  ·have e0:hdI (x::r)=aa 0:=by rw[hdI,T9 c]
   have e1:(if(([1,2]:List Nat).any ([]:List Nat).contains)=ag then(.no:PR FlV)else if(([]:List Nat).isEmpty||(V.tup [V.int k,V.int x]).flat)=ag then(po (Zx [1,2] (V.tup [.int k,.int x]) [aa v,a,b]) s).bind λρ s=>rvs C [] [.ite (.cmp .ne (.v 2) (.c (.int 0))) [.ret (.v 1)] []] ρ [] s else .no)=.ok (.ret (.int k)) s:=by
    simp[pvE,Zn,c]
   rw[e1,Za,e0];rfl
def Vz(d:Nat)(r:Row)(s:DS):CV (d+1) 8 [Zc r] s=.ok (WL (hdI r)) s:=by
 rw[CV,V5 (fn:=QR) rfl (by decide) rfl]
 obtain⟨a,b,e⟩:=Jc (ZL fns 2 d) s (Zc r) r 0 ac ac;show((rv _ [] (.forr [1,2] (.enum (.v 0)) _) [aa (Zc r),ac,ac] [] s).bind _).bind _=_;have e2:rv (ZL fns 2 d) [] (.forr [1,2] (.enum (.v 0)) [.ite (.cmp .ne (.v 2) (.c (.int 0))) [.ret (.v 1)] []]) [aa (Zc r),ac,ac] [] s=match hdI r with
    |some m=>.ok (.ret (.int (m:Nat))) s
    |none=>.ok (.nx [aa (Zc r),a,b] []) s:=by
  rw[rv];have ew:pvw (ZL fns 2 d) (.enum (.v 0)) (hide [] [aa (Zc r),ac,ac]) s=.ok (((Xj 0 r.length).zip (r.map V.int)).map λp=>V.tup [p.1,p.2]) s:=by
   simp[pvE,Zc]
  rw[ew,Za];simp only[lq,Int.natCast_zero]at e;exact e
 rw[e2];cases hdI r with|none=>rfl|some m=>rfl
section
variable{p n:Nat}[Base p]
def Ve:(p:Int)<=5/\(2:Int)<=p:=by rcases(inferInstance:Base p).b with e | e | e <;> subst e <;> decide
def yz(d:Nat){r o:Row}{k:Int}(s:DS)(hn:n<=6)(hr:Zj p n r)(ho:Zj p n o)(hk:-1000<k/\k<1000):CV (d+1) 16 [.int p,Zc r,Zc o,.int k] s=.ok (Zc (YZ p r o k)) s:=by
 rw[CV,V5 (fn:=X3) rfl (by decide) rfl]
 have hp:=Ve (p:=p);have hc:=ZD (C:=ZL fns 2 d) (cap:=[3,0]) (nl:=2) (t:=[0,1]) (it:=.zip (.v 1) (.v 2)) (elt:=.bin .mod (.bin .add (.v 0) (.bin .mul (.v 2) (.v 1))) (.v 3)) (ρ:=[aa (.int p),aa (Zc r),aa (Zc o),aa (.int k)]) (s:=s) (l:=r.zip o) (e:=λq=>V.tup [.int q.1,.int q.2]) (g:=λq=>V.int ((q.1+k*q.2)%p))
  (by simp[pvE,Zc,VC]) (by rw[dH,hr.1,ho.1];unfold lim;omega) (λq hq=>by
   have h2:=ho.2 q.2 (cB hq).2;refine⟨_,rfl,?_⟩;have f1:=ZG (a:=k) (by omega) (by omega)
   have f2:=ZG (a:=q.2) (by omega) (by omega)
   have hp0:0<p:=by omega
   simp[pvE,f1,f2,hp0])
 have e:(r.zip o).map (λq=>V.int ((q.1+k*q.2)%p))=(YZ p r o k).map V.int:=by
  unfold YZ;rw[<-dR,bH];rfl
 simp[X3,pvE,hc,e];rfl
def wI(d:Nat){r o:Row}{h:Nat}(s:DS)(hn:n<=6)(hr:Zj p n r)(ho:Zj p n o)(hh:h<n):CV (d+2) 17 [.int p,Zc r,Zc o,.int h] s=.ok (Zc (clr p r o h)) s:=by
 rw[CV,V5 (fn:=VR) rfl (by decide) rfl]
 have hg:=Wu ppos hr h;have hp:=Ve (p:=p);have e:=yz (p:=p) d (k:=-(gt r h)) s hn hr ho ⟨by omega,by omega⟩
 have e2:=Wi (r:=r) (k:=h) (by rw[hr.1];exact hh)
 simp only[CV]at e;simp[VR,pvE,Zc,e2];simp only[Zc]at e;rw[e];simp[pvE,clr]
def Zei(d:Nat){r:Row}{k:Int}(s:DS)(hn:n<=6)(hr:Zj p n r)(hk:-1000<k/\k<1000):CV (d+1) 19 [.int p,Zc r,.int k] s=.ok (Zc (Xy p r k)) s:=by
 rw[CV,V5 (fn:=Jz) rfl (by decide) rfl]
 have hp:=Ve (p:=p);have hc:=ZD (C:=ZL fns 2 d) (cap:=[2,0]) (nl:=1) (t:=[0]) (it:=.of (.v 1)) (elt:=.bin .mod (.bin .mul (.v 1) (.v 0)) (.v 2)) (ρ:=[aa (.int p),aa (Zc r),aa (.int k)]) (s:=s) (l:=r) (e:=V.int) (g:=λq=>V.int (k*q%p))
  (by simp[pvE,Zc]) (by rw[hr.1];unfold lim;omega) (λq hq=>by
   have h2:=hr.2 q hq;refine⟨_,rfl,?_⟩;have f1:=ZG (a:=k) (by omega) (by omega)
   have f2:=ZG (a:=q) (by omega) (by omega)
   have hp0:0<p:=by omega
   simp[pvE,f1,f2,hp0])
 simp[Jz,pvE,hc];simp[Zc,Xy]
def JX(C:Zy)(m:Nat){q a k:Int}(s:DS)(hq:0<q)(f1:fits a=ag)(f2:fits k=ag):XG (VI C (.cmp .ne (.bin .mod (.bin .mul (.v 2) (.v 1)) (.v 0)) (.c (.int 1)))) (rvs C [] [.aug 2 .add (.c (.int 1))]) (m+1) [aa (.int q),aa (.int a),aa (.int k)] [] s =
  if k*a%q=1 then .ok (.nx [aa (.int q),aa (.int a),aa (.int k)] []) s else XG (VI C (.cmp .ne (.bin .mod (.bin .mul (.v 2) (.v 1)) (.v 0)) (.c (.int 1)))) (rvs C [] [.aug 2 .add (.c (.int 1))]) m [aa (.int q),aa (.int a),aa (.int (k+1))] [] s:=by
 rw[XG];by_cases c:k*a%q=1 <;> simp[pvE,f1,f2,hq,Zn,c,vm]
def Zax(d:Nat){a:Int}(s:DS)(ha:0<a/\a<p):CV (d+1) 20 [.int p,.int a] s=.ok (.int (Yh p a)) s:=by
 rw[CV,V5 (fn:=Q8) rfl (by decide) rfl]
 generalize ZL fns 2 d=C;have fs:∀k:Int,0<=k->k<=5->fits k=ag:=λk h0 h1=>ZG (by omega) (by omega)
 have hp:=Ve (p:=p);have fa:=fs a (by omega) (by omega)
 have key:XG (VI C (.cmp .ne (.bin .mod (.bin .mul (.v 2) (.v 1)) (.v 0)) (.c (.int 1)))) (rvs C [] [.aug 2 .add (.c (.int 1))]) (996+1+1+1+1) [aa (.int p),aa (.int a),aa (.int 1)] [] s=.ok (.nx [aa (.int p),aa (.int a),aa (.int (Yh p a))] []) s:=by
  rw[JX C _ s (by omega) fa (fs 1 (by omega) (by omega)),JX C _ s (by omega) fa (fs (1+1) (by omega) (by omega)),JX C _ s (by omega) fa (fs (1+1+1) (by omega) (by omega)),JX C _ s (by omega) fa (fs (1+1+1+1) (by omega) (by omega))]
  rcases(inferInstance:Base p).b with e | e | e <;> subst e
  ·have:a=1:=by omega
   subst this;rfl
  ·have:a=1\/a=2:=by omega
   rcases this with e | e <;> subst e <;> rfl
  ·have:a=1\/a=2\/a=3\/a=4:=by omega
   rcases this with e | e | e | e <;> subst e <;> rfl
 have e:rv C [] (.whl (.cmp .ne (.bin .mod (.bin .mul (.v 2) (.v 1)) (.v 0)) (.c (.int 1))) [.aug 2 .add (.c (.int 1))]) [aa (.int p),aa (.int a),aa (.int 1)] [] s=.ok (.nx [aa (.int p),aa (.int a),aa (.int (Yh p a))] []) s:=by
  rw[rv];exact key
 show((rvs C [] (.asg [2] (.c (.int 1)) :: .whl _ _ :: .ret (.v 2)::[]) [aa (.int p),aa (.int a),ac] [] s).bind _)=_;have e1:rv C [] (.asg [2] (.c (.int 1))) [aa (.int p),aa (.int a),ac] [] s=.ok (.nx [aa (.int p),aa (.int a),aa (.int 1)] []) s:=by simp[pvE]
 rw[rvs,e1,Za];show((rvs C [] (.whl _ _ :: .ret (.v 2)::[]) [aa (.int p),aa (.int a),aa (.int 1)] [] s).bind _)=_;rw[rvs,e,Za];simp[pvE]
end
section
variable{p n:Nat}[Base p]
def XS(C:Zy)(ms:List Nat){i j:Nat}{ρ:Env}{os:List Nat}{s:DS}{e:E}(h:pvA C e ρ os s=.ok (spV p n) s)(ho:os.contains i=ai/\os.contains j=ai):rv C ms (.asg [i,j] e) ρ os s=.ok (.nx ((ρ.set i (aa (.int p))).set j (aa (.int n))) os) s:=by
 rw[rv,h,Za,T8 (by simpa using ho)]
 ·rfl
 ·simp
def vQ(d:Nat){P:List Row}{r:Row}(s:DS)(hn:n<=6)(hP:pZ p n P)(hr:Zj p n r):CV (d+3) 18 [spV p n,Ze P,Zc r] s=.ok (Zc (Zm p P r)) s:=by
 refine Zv (fn:=Ud) rfl (by decide) rfl ?_
 show rvs (CV (d+2)) [] (.asg [3,4] (.v 0) :: .asg [5] (.v 2) :: .forr [6] (.of (.v 1)) [.asg [5] (.call 17 [(.v 3),(.v 5),(.v 6),(.call 8 [(.v 6)])])] :: .ret (.v 5)::[]) [aa (spV p n),aa (Ze P),aa (Zc r),ac,ac,ac,ac] [] s=_;rw[Zg (XS (p:=p) (n:=n) _ _ (by simp[pvE]) (by simp))]
 rw[Zg (ρ':=[aa (spV p n),aa (Ze P),aa (Zc r),aa (.int p),aa (.int n),aa (Zc r),ac]) (os':=[]) (s':=s) (by simp[pvE])]
 obtain⟨o',hI,e⟩:=JG (C:=CV (d+2)) (ms:=[]) (t:=[6]) (it:=.of (.v 1)) (b:=[.asg [5] (.call 17 [(.v 3),(.v 5),(.v 6),(.call 8 [(.v 6)])])]) (L:=P) (e:=Zc) (step:=λst o=>clr p st o ((hdI o).getD 0)) (ρ:=λst o=>[aa (spV p n),aa (Ze P),aa (Zc r),aa (.int p),aa (.int n),aa (Zc st),o]) (st:=r) (o:=ac) (os:=[]) (s:=s) (Zj p n) (by simp[pvE,Ze]) hr rfl (λx hx st o hst=>by
  have hx':=hP.row x hx;obtain⟨k,hk,hkn,_⟩:=hP.head fld.one0 hx;refine⟨Yd hst hx',rfl,_,aa (Zc x),rfl,?_⟩;have e1:=Vz (d+1) x s;have e2:=wI d (h:=k) s hn hst hx' hkn;rw[hk]at e1;simp only[WL]at e1;have e3:CV (d+2) 8 [Zc x] s=.ok (.int k) s:=e1;simp[pvE,e3,e2,hk])
 rw[Zg e];exact Zl (ZP (by simp[pvE,Zm]))
def dsum{P:List Row}(hP:pZ p n P):P.length<=n:=by
 have:=vA fld hP.pn;rw[Zak]at this;omega
def Zaw(d:Nat){P:List Row}{r:Row}(s:DS)(hn:n<=6)(hP:pZ p n P)(hr:Zj p n r):CV (d+4) 21 [spV p n,Ze P,Zc r] s=.ok (Ze (UL p P r)) s:=by
 refine Zv (fn:=Jj) rfl (by decide) rfl ?_
 show rvs (CV (d+3)) [] (.asg [3,4] (.v 0) :: .asg [5] (.call 18 [(.v 0),(.v 1),(.v 2)]) :: .asg [6] (.call 8 [(.v 5)]) :: .ite (.cmp .is (.v 6) (.c .non)) [.ret (.v 1)] [] ::
  .asg [7] (.call 19 [(.v 3),(.v 5),(.call 20 [(.v 3),(.ix (.v 5) (.v 6))])]) :: .asg [8] (.comp1 [3,7,6] 1 [0] (.of (.v 1)) [] (.call 17 [(.v 1),(.v 0),(.v 2),(.v 3)])) ::
  .ret (.blt .tuple [(.blt .sortedR [(.bin .add (.v 8) (.lst [(.v 7)]))])])::[]) [aa (spV p n),aa (Ze P),aa (Zc r),ac,ac,ac,ac,ac,ac] [] s=_
 obtain⟨l1,l2⟩:=Uv hP.row hP.pn.rf hr;have hw:=(yt hP hr).1;rw[Zg (XS (p:=p) (n:=n) _ _ (by simp[pvE]) (by simp))]
 have e1:=vQ d s hn hP hr;rw[Zg (ρ':=[aa (spV p n),aa (Ze P),aa (Zc r),aa (.int p),aa (.int n),aa (Zc (Zm p P r)),ac,ac,ac]) (os':=[]) (s':=s) (by simp[pvE,e1])]
 have e2:=Vz (d+2) (Zm p P r) s;rw[Zg (ρ':=[aa (spV p n),aa (Ze P),aa (Zc r),aa (.int p),aa (.int n),aa (Zc (Zm p P r)),aa (WL (hdI (Zm p P r))),ac,ac]) (os':=[]) (s':=s) (by simp[pvE,e2])]
 cases q:hdI (Zm p P r)with
 |none=>
  refine Zl ?_;have:UL p P r=P:=by unfold UL;rw[q]
  simp[pvE,WL,this]
 |some h=>
  obtain⟨h1,h2,h3⟩:=Yf q;rw[l1.1]at h2;have hg:=Wu ppos l1 h;have hp:=Ve (p:=p);have hwid:UL p P r=(ZY (P.map (λo=>clr p o (lead p (Zm p P r) h) h)++[lead p (Zm p P r) h])).reverse:=by unfold UL;rw[q]
  rw[Zg (ρ':=[aa (spV p n),aa (Ze P),aa (Zc r),aa (.int p),aa (.int n),aa (Zc (Zm p P r)),aa (.int h),ac,ac]) (os':=[]) (s':=s) (by simp[pvE,WL])]
  have e3:=Zax (p:=p) (d+2) (a:=gt (Zm p P r) h) s ⟨by omega,hg.2⟩
  have hi:-1000<Yh p (gt (Zm p P r) h)/\Yh p (gt (Zm p P r) h)<1000:=by
   unfold Yh
   repeat' split
   all_goals omega
  have e4:=Zei (p:=p) (d+2) s hn l1 hi;have e5:=Wi (r:=Zm p P r) (k:=h) (by rw[l1.1];exact h2)
  have hl:Zj p n (lead p (Zm p P r) h):=Y6 l1;rw[Zg (ρ':=[aa (spV p n),aa (Ze P),aa (Zc r),aa (.int p),aa (.int n),aa (Zc (Zm p P r)),aa (.int h),aa (Zc (lead p (Zm p P r) h)),ac]) (os':=[]) (s':=s) (by
   have e6:pv (CV (d+3)) (.call 19 [(.v 3),(.v 5),(.call 20 [(.v 3),(.ix (.v 5) (.v 6))])]) [aa (spV p n),aa (Ze P),aa (Zc r),aa (.int p),aa (.int n),aa (Zc (Zm p P r)),aa (.int h),ac,ac] s=.ok (Zc (lead p (Zm p P r) h)) s:=by
    refine Zs (vs:=[.int p,Zc (Zm p P r),.int (Yh p (gt (Zm p P r) h))]) (s1:=s) ?_ e4;have e7:pv (CV (d+3)) (.call 20 [(.v 3),(.ix (.v 5) (.v 6))]) [aa (spV p n),aa (Ze P),aa (Zc r),aa (.int p),aa (.int n),aa (Zc (Zm p P r)),aa (.int h),ac,ac] s=.ok (.int (Yh p (gt (Zm p P r) h))) s:=by
     refine Zs (vs:=[.int p,.int (gt (Zm p P r) h)]) (s1:=s) ?_ e3;simp[pvE,Zc,e5]
    exact Zd (Zk rfl) (Zd (Zk rfl) (Zd e7 Zh))
   rw[rv];show(pv _ _ _ _).bind _=_;rw[e6];rfl)]
  have hc:=ZD (C:=CV (d+3)) (cap:=[3,7,6]) (nl:=1) (t:=[0]) (it:=.of (.v 1)) (elt:=.call 17 [(.v 1),(.v 0),(.v 2),(.v 3)]) (ρ:=[aa (spV p n),aa (Ze P),aa (Zc r),aa (.int p),aa (.int n),aa (Zc (Zm p P r)),aa (.int h),aa (Zc (lead p (Zm p P r) h)),ac]) (s:=s) (l:=P) (e:=Zc) (g:=λo=>Zc (clr p o (lead p (Zm p P r) h) h))
   (by simp[pvE,Ze]) (by have:=dsum hP;unfold lim;omega) (λo ho=>⟨_,rfl,by
    have:=wI (p:=p) (d+1) (h:=h) s hn (hP.row o ho) hl h2;simp[pvE,this]⟩)
  rw[Zg (ρ':=[aa (spV p n),aa (Ze P),aa (Zc r),aa (.int p),aa (.int n),aa (Zc (Zm p P r)),aa (.int h),aa (Zc (lead p (Zm p P r) h)),aa (.lst (P.map λo=>Zc (clr p o (lead p (Zm p P r) h) h)))]) (os':=[]) (s':=s) (by simp[pvE,hc])]
  refine Zl (ZP ?_);have ea:(P.map λo=>Zc (clr p o (lead p (Zm p P r) h) h))++[Zc (lead p (Zm p P r) h)]=((P.map λo=>clr p o (lead p (Zm p P r) h) h)++[lead p (Zm p P r) h]).map Zc:=by rw[d6,bH];rfl
  have hs:YW ((P.map λo=>clr p o (lead p (Zm p P r) h) h)++[lead p (Zm p P r) h])=ag:=by
   have hlen:((P.map λo=>clr p o (lead p (Zm p P r) h) h)++[lead p (Zm p P r) h]).length=P.length+1:=by simp
   have hnd:((P.map λo=>clr p o (lead p (Zm p P r) h) h)++[lead p (Zm p P r) h]).Nodup:=by
    have h5:=V8 hw.falls;rw[hwid]at h5;exact((Sd.Y9 _).nodup_iff).mp (((gS _).nodup_iff).mp h5)
   have hd:=dsum hP;unfold YW;rw[T5 (by rw[hlen];omega),T5 hnd]
   rw[aB];refine⟨rfl,aU.mpr λx hx=>?_⟩
   have:x.length=n:=by
    rcases bQ.mp hx with z | z
    ·obtain⟨o,ho,rfl⟩:=aO.mp z
     exact(Yd (hP.row o ho) hl).1
    ·rw[bp.mp z];exact hl.1
   cases x with|nil=>simp at this;omega|cons _ _=>rfl
  have hlen2:P.length+1<=16777216:=by have:=dsum hP;omega
  simp[pvE,hlen2];rw[ea,YA];simp[pvE,hs,hwid,Ze,lO]
def Qq(d:Nat){P R:List Row}{v:V}(s:DS)(hn:n<=6)(hP:pZ p n P)(hR:∀r∈R,Zj p n r)(hv:Z7 v=aa (R.map Zc)):CV (d+5) 22 [spV p n,Ze P,v] s=.ok (Ze (yM p P R)) s:=by
 refine Zv (fn:=XJ) rfl (by decide) rfl ?_
 show rvs (CV (d+4)) [] (.asg [3] (.v 1) :: .forr [4] (.of (.v 2)) [.asg [3] (.call 21 [(.v 0),(.v 3),(.v 4)])] :: .ret (.v 3)::[]) [aa (spV p n),aa (Ze P),aa v,ac,ac] [] s=_;rw[Zg (ρ':=[aa (spV p n),aa (Ze P),aa v,aa (Ze P),ac]) (os':=[]) (s':=s) (by simp[pvE])]
 obtain⟨o',hI,e⟩:=JG (C:=CV (d+4)) (ms:=[]) (t:=[4]) (it:=.of (.v 2)) (b:=[.asg [3] (.call 21 [(.v 0),(.v 3),(.v 4)])]) (L:=R) (e:=Zc) (step:=UL p) (ρ:=λst o=>[aa (spV p n),aa (Ze P),aa v,aa (Ze st),o]) (st:=P) (o:=ac) (os:=[]) (s:=s) (pZ p n) (by show pvw (CV (d+4)) (.of (.v 2)) [aa (spV p n),aa (Ze P),aa v,aa (Ze P),ac] s=_;rw[pvw,pv];show po (Z7 v) s=_;rw[hv];rfl) hP rfl (λx hx st o hst=>by
  have hx':=hR x hx;refine⟨(yt hst hx').1,rfl,_,aa (Zc x),rfl,?_⟩;have e2:=Zaw d s hn hst hx';simp[pvE,e2])
 rw[Zg e];exact Zl (ZP (by simp[pvE,yM]))
end
end K41
namespace Rw
open La
open Ev (ltI Vk ZY)
section
variable{p n:Nat}[Base p]
noncomputable def Y3(r q:Row):Int:=(eG (· * ·) r q).sum
theorem GL{F:Type}[eO F](g:Nat->F):∀L:List Nat,sl (L.map (· + 1)) g=sl L λk=>g (k+1)
 |[]=>rfl
 |k::L=>by
  show g (k+1)+sl (L.map (· + 1)) g=g (k+1)+sl L λk=>g (k+1)
  rw[GL g L]
theorem qU:∀{m:Nat}{r q:Row},r.length=m->q.length=m->ph p (Y3 r q)=sl (aI m) λj=>ph p (gt r j)*ph p (gt q j)
 |0,[],[],_,_=>WH
 |m+1,a::r,b::q,hr,hq=>by
  have ih:=qU (m:=m) (r:=r) (q:=q) (by simpa using hr) (by simpa using hq)
  rw[dY];show ph p (a*b+Y3 r q)=ph p (gt (a::r) 0)*ph p (gt (b::q) 0)+sl ((aI m).map mU) _;rw[z7,yw,ih];have e:=GL (λj=>ph p (gt (a::r) j)*ph p (gt (b::q) j)) (aI m)
  have e':sl ((aI m).map mU) (λj=>ph p (gt (a::r) j)*ph p (gt (b::q) j))=sl (aI m) λj=>ph p (gt r j)*ph p (gt q j):=e
  rw[e'];rfl
def GD(hr:Zj p n r)(hq:Zj p n q):dot n (toV p r) (toV p q)=0↔Y3 r q%p=0:=by
 have e:dot n (toV p r) (toV p q)=ph p (Y3 r q):=(qU hr.1 hq.1).symm;rw[e];have h0:=dJ (Y3 r q) (show(p:Int)≠0 by have:=ppos (p:=p);omega)
 have h1:=cQ (Y3 r q) (ppos (p:=p));rw[<-Gd];exact Zca ⟨h0,h1⟩
end
end Rw
namespace Rw
open Ev (ltP Gq xH)
noncomputable def Zcl:List (Nat×Nat):=[(2,1),(2,2),(2,3),(2,4),(3,1),(3,2),(3,3),(5,1),(5,2)]
noncomputable def Zc6:List (Nat×Nat):=[(2,5),(2,6),(3,4),(5,3)]
end Rw
namespace Rw
open La
section
variable{p n:Nat}[Base p]
def zb(hW:pZ p n W)(hr:Zj p n r)(hl:Zj p n l)(h1:Xf p W l=ag)(h2:Xf p W (clr p r l j)=ag):Xf p W r=ag:=by
 rw[Z4 hW hr];have a:=(Z4 hW hl).mp h1;have b:=(Z4 hW (Yd hr hl)).mp h2;rw[show toV p (YZ p r l (-gt r j))=_ from Wz hr hl]at b
 have c:=Vb (toV p r j) b a;have e:(λk=>(toV p r k-toV p r j*toV p l k)+toV p r j*toV p l k)=toV p r:=by funext k;grind
 rw[e]at c;exact c
def uC(hW:pZ p n W)(hr:Zj p n r)(hl:Zj p n l)(h1:Xf p W l=ag)(h2:Xf p W r=ag):Xf p W (clr p r l j)=ag:=by
 show Xf p W (YZ p r l (-gt r j))=ag;rw[Z4 hW (Yd hr hl)];show Mem _ _;rw[show toV p (YZ p r l (-gt r j))=_ from Wz hr hl]
 exact Uo (toV p r j) ((Z4 hW hr).mp h2) ((Z4 hW hl).mp h1)
def uZ(hW:pZ p n W)(hr:Zj p n r)(h:Xf p W r=ag):Xf p W (Xy p r k)=ag:=by
 rw[Z4 hW (Y6 hr)];show Mem _ _;rw[QS];have:=Vb (ph p k) (Qn (P:=toP p W)) ((Z4 hW hr).mp h);have e:(λj=>(0:Fin p)+ph p k*toV p r j)=λj=>ph p k*toV p r j:=by funext j;grind
 rw[e]at this;exact this
def Za1(hW:pZ p n W)(hr:Zj p n r)(h:∀i,gt r i=0):Xf p W r=ag:=by
 rw[Z4 hW hr];have e:toV p r=λ_=>0:=by funext k;exact(YU hr).mpr (h k)
 show Mem _ _;rw[e];exact Qn
def J8(hW:pZ p n W)(hr:r∈W):Xf p W r=ag:=by
 rw[Z4 hW (hW.row r hr)];exact VF hW.pn.rf (Yg hr)
def Bk(p n:Nat)[NeZero p](R rest found:List Row):Prop:=∀W,pZ p n W->(((∀r∈rest,Xf p W r=ag)/\∀r∈found,Xf p W r=ag)↔∀r∈R,Xf p W r=ag)
def Bk.take{R rest found:List Row}{j:Nat}{f:Row}(B:Bk p n R rest found)(h:Red p n j rest found)(hf:f∈rest):Bk p n R (rest.map λr=>clr p r (lead p f j) j) (found.map (λr=>clr p r (lead p f j) j)++[lead p f j]):=λW hW=>by
 have hl:Zj p n (lead p f j):=Y6 (h.row f hf);rw[<-B W hW]
 constructor
 ·intro⟨h1,h2⟩
  have l1:=h2 _ (bi _ (bp.mpr rfl));exact⟨λr hr=>zb hW (h.row r hr) hl l1 (h1 _ (aO.mpr ⟨r,hr,rfl⟩)),λr hr=>zb hW (h.part.row r hr) hl l1 (h2 _ (cC _ (aO.mpr ⟨r,hr,rfl⟩)))⟩
 ·intro⟨h1,h2⟩
  have l1:Xf p W (lead p f j)=ag:=uZ hW (h.row f hf) (h1 f hf);refine⟨λr hr=>?_,λr hr=>?_⟩
  ·obtain⟨o,ho,rfl⟩:=aO.mp hr
   exact uC hW (h.row o ho) hl l1 (h1 o ho)
  ·rcases bQ.mp hr with hr | hr
   ·obtain⟨o,ho,rfl⟩:=aO.mp hr
    exact uC hW (h.part.row o ho) hl l1 (h2 o ho)
   ·rw[bp.mp hr];exact l1
def Bk.fin{R rest found:List Row}{j:Nat}(B:Bk p n R rest found)(h:Red p n j rest found)(hj:n<=j):∀r∈R,Xf p found r=ag:=
 (B found h.part).mp ⟨λr hr=>Za1 h.part (h.row r hr) λi=>by
  by_cases c:i<j
  ·exact h.low r hr i c
  ·exact yy (by rw[(h.row r hr).1];omega),λr hr=>J8 h.part hr⟩
structure Spans(p n:Nat)[NeZero p](R P:List Row):Prop where
 part:pZ p n P
 holds:∀r∈R,Xf p P r=ag
 least:∀W,pZ p n W->(∀r∈R,Xf p W r=ag)->∀r∈P,Xf p W r=ag
def Spans.uniq(hP:Spans p n R P)(hQ:Spans p n R Q):P=Q:=
 eqP hP.part hQ.part λu=>⟨(zc hP.part hQ.part).mp (aU.mpr (hP.least Q hQ.part hQ.holds)) u,(zc hQ.part hP.part).mp (aU.mpr (hQ.least P hP.part hP.holds)) u⟩
def Spans.self(hP:pZ p n P):Spans p n P P:=⟨hP,λr hr=>J8 hP hr,λW hW h=>h⟩
def Bk.spans{R rest found:List Row}{j:Nat}(B:Bk p n R rest found)(h:Red p n j rest found)(hj:n<=j):Spans p n R found:=⟨h.part,B.fin h hj,λW hW hR=>((B W hW).mpr hR).2⟩
end
noncomputable def rise(hs:List Nat):Bool:=(hs.zip hs.tail).all λq=>ae (q.1<q.2)
theorem U0:∀{hs:List Nat},rise hs=ag↔hs.Pairwise (· < ·)
 |[]=>by simp[rise]
 |[a]=>by simp[rise]
 |a::b::l=>by
  have ih:=U0 (hs:=b::l);unfold rise at ih ⊢;rw[mB,cP,fJ,aB,T2];rw[mB]at ih
  constructor
  ·intro⟨h1,h2⟩
   have h3:=ih.mp h2;refine bj.mpr ⟨λx hx=>?_,h3⟩
   rcases az.mp hx with rfl | hx
   ·exact h1
   ·exact Nat.lt_trans h1 ((bj.mp h3).1 x hx)
  ·intro h
   obtain⟨h1,h2⟩:=bj.mp h;exact⟨h1 b (am ..),ih.mpr h2⟩
noncomputable def W3(R:List Row)(i k:Nat):Bool:=ae (gt (R.getD i []) k=1)&&(R.take i++R.drop (i+1)).all λr=>ae (gt r k=0)
noncomputable def Qd(R:List Row):Bool:=(R.all λr=>(hdI r).isSome)&&(rise (Zu R)&&(aI R.length).all λi=>W3 R i ((Zu R).getD i 0))
section
variable{p n:Nat}[Base p]
def J2{R:List Row}{i:Nat}(hi:i<R.length):R.getD i []=R[i]:=by rw[aG,ah hi];rfl
def Qs(hi:i<R.length):(Zu R).getD i 0=(hdI R[i]).getD 0:=by
 unfold Zu;rw[aG,bg,ah hi];rfl
def Zdh{R:List Row}{i j:Nat}(hj:j<R.length)(h:j≠i):R[j]∈R.take i++R.drop (i+1):=by
 by_cases c:j<i
 ·refine cC _ ?_
  have hl:j<(R.take i).length:=by rw[cp];omega
  rw[<-lv (h:=hl)];exact ba hl
 ·refine bi _ ?_
  have hl:j-(i+1)<(R.drop (i+1)).length:=by rw[cq];omega
  have e:(R.drop (i+1))[j-(i+1)]=R[j]:=by rw[lw];congr 1;omega
  rw[<-e];exact ba hl
def Ji{R:List Row}{i:Nat}{r:Row}(h:r∈R.take i++R.drop (i+1)):∃j,∃(hj:j<R.length),j≠i/\R[j]=r:=by
 rcases bQ.mp h with z | z
 ·obtain⟨j,hj,e⟩:=cJ z
  rw[cp]at hj;exact⟨j,by omega,by omega,by rw[<-e,lv]⟩
 ·obtain⟨j,hj,e⟩:=cJ z
  rw[cq]at hj;exact⟨i+1+j,by omega,by omega,by rw[<-e,lw]⟩
def jL:ph p 1=1:=by
 rcases(inferInstance:Base p).b with e | e | e <;> subst e <;> rfl
def xE(hr:Zj p n r):toV p r k=1↔gt r k=1:=by
 have hb:=(inferInstance:Base p).b
 constructor
 ·intro h
  refine zJ (p:=p) (Wu ppos hr k) ⟨by omega,by omega⟩ ?_
  rw[jL];exact h
 ·intro h
  unfold toV;rw[h,jL]
def QK{R:List Row}(hR:∀r∈R,Zj p n r):Qd R=ag↔pZ p n R:=by
 unfold Qd;simp only[aB,aU,bF]
 constructor
 ·intro⟨h1,h2,h3⟩
  have hd:∀i (hi:i<R.length),∃k,hdI R[i]=aa k/\gt R[i] k=1/\∀j (hj:j<R.length),j≠i->gt R[j] k=0:=λi hi=>by
   obtain⟨k,hk⟩:=bI.mp (h1 _ (ba hi));have a:=h3 i hi;unfold W3 at a;rw[Qs hi,J2 hi,hk,aB,T2,aU]at a;exact⟨k,hk,a.1,λj hj ne=>T6 (a.2 _ (Zdh hj ne))⟩
  have inc:=U0.mp h2;have memP:∀a∈toP p R,∃i,∃(hi:i<R.length),a=((hdI R[i]).getD 0,toV p R[i]):=λa ha=>by
   obtain⟨r,hr,rfl⟩:=aO.mp ha;obtain⟨i,hi,rfl⟩:=cJ hr;exact⟨i,hi,rfl⟩
  refine⟨hR,⟨⟨?_,λa ha j hj=>?_,λa ha=>?_,λa ha b hb ne=>?_⟩,λa ha=>?_,λa ha=>?_⟩⟩
  ·rw[<-Y5 (p:=p)]at inc
   exact d9.mp inc
  ·obtain⟨i,hi,rfl⟩:=memP a ha
   obtain⟨k,hk,_,_⟩:=hd i hi;rw[hk]at hj;exact(YU (hR _ (ba hi))).mpr ((Yf hk).2.2 j hj)
  ·obtain⟨i,hi,rfl⟩:=memP a ha
   obtain⟨k,hk,h,_⟩:=hd i hi;show toV p R[i] ((hdI R[i]).getD 0)=1;rw[hk];exact(xE (hR _ (ba hi))).mpr h
  ·obtain⟨i,hi,rfl⟩:=memP a ha
   obtain⟨j,hj,rfl⟩:=memP b hb;obtain⟨k,hk,_,h⟩:=hd i hi;show toV p R[j] ((hdI R[i]).getD 0)=0;rw[hk];refine(YU (hR _ (ba hj))).mpr (h j hj λe=>?_)
   subst e;exact ne rfl
  ·obtain⟨i,hi,rfl⟩:=memP a ha
   obtain⟨k,hk,_,_⟩:=hd i hi;show(hdI R[i]).getD 0<n;rw[hk,<-(hR _ (ba hi)).1];exact(Yf hk).2.1
  ·obtain⟨i,hi,rfl⟩:=memP a ha
   exact Vy (hR _ (ba hi))
 ·intro hP
  have hk:∀r∈R,∃k,hdI r=aa k/\k<n/\toV p r k=1:=λr hr=>hP.head fld.one0 hr
  refine⟨λr hr=>?_,U0.mpr ?_,λi hi=>?_⟩
  ·obtain⟨k,e,_⟩:=hk r hr
   rw[e];rfl
  ·rw[<-Y5 (p:=p)];exact hP.pn.rf.heads
  ·obtain⟨k,e,_,h1⟩:=hk _ (ba hi)
   unfold W3;rw[Qs hi,J2 hi,e,aB,T2,aU];refine⟨(xE (hR _ (ba hi))).mp h1,λr hr=>?_⟩
   obtain⟨j,hj,ne,rfl⟩:=Ji hr;refine T5 ?_;obtain⟨k2,e2,_,_⟩:=hk _ (ba hj);have hh:((hdI R[i]).getD 0,toV p R[i]).1≠((hdI R[j]).getD 0,toV p R[j]).1:=by
    have inc:(Zu R).Pairwise (· < ·):=by rw[<-Y5 (p:=p)];exact hP.pn.rf.heads
    have pw:=gK.mp inc;have li:(Zu R).length=R.length:=by unfold Zu;rw[aH]
    have gi:∀m (hm:m<R.length),(Zu R)[m]'(by omega)=(hdI R[m]).getD 0:=λm hm=>by unfold Zu;rw[List.getElem_map]
    intro z;have z:(hdI R[i]).getD 0=(hdI R[j]).getD 0:=z;rcases Nat.lt_or_gt_of_ne ne with c | c
    ·have:=pw j i (by omega) (by omega) c
     rw[gi j hj,gi i hi]at this;omega
    ·have:=pw i j (by omega) (by omega) c
     rw[gi j hj,gi i hi]at this;omega
   have:=hP.pn.rf.zer _ (Yg (ba hi)) _ (Yg (ba hj)) hh;rw[e]at this;exact(YU (hR _ (ba hj))).mp this
end
end Rw
namespace K41
open Ev Pv Rw La
def xO{F:List Fn}{tk d f c:Nat}{vs:List V}{s s':DS}{fn:Fn}(hf:F[f]? = aa fn)(hne:f≠tk)(hl:vs.length=fn.ps)(h:rvs (ZL F tk d) (muts fn.body) fn.body (XH fn.ns vs) [] s=.ex c s'):ZL F tk (d+1) f vs s=.ex c s':=by
 rw[V5 hf hne hl,h];rfl
def ZcX{C:Zy}{ms:List Nat}{m:Sm}{l:List Sm}{ρ:Env}{os:List Nat}{s s':DS}{c:Nat}(h:rv C ms m ρ os s=.ex c s'):rvs C ms (m::l) ρ os s=.ex c s':=by rw[rvs,h];rfl
def zn{C:Zy}{ρ:Env}{s s1 s':DS}{f c:Nat}{as:List E}{vs:List V}(h:pvs C as ρ s=.ok vs s1)(hc:C f vs s1=.ex c s'):pv C (.call f as) ρ s=.ex c s':=by rw[pv,h];exact hc
def ZcL{C:Zy}{ms:List Nat}{ρ:Env}{os:List Nat}{s s':DS}{f c:Nat}{as:List E}(h:pv C (.call f as) ρ s=.ex c s'):rv C ms (.ex (.call f as)) ρ os s=.ex c s':=by
 rw[rv,h]
 ·rfl
 ·intro i e z;cases z
 ·intro i e z;cases z
mutual
noncomputable def okV:V->Bool
 |.tup xs=>YV xs
 |.lst xs=>YV xs
 |.drw=>ai
 |_=>ag
noncomputable def YV:List V->Bool
 |[]=>ag
 |x::xs=>okV x&&YV xs
end
theorem XC:∀{xs:List V},YV xs=ag->∀x∈xs,okV x=ag
 |[],_,x,h=>by cases h
 |y::xs,h,x,m=>by
  unfold YV at h;obtain⟨h1,h2⟩:=(aB _ _).mp h;rcases az.mp m with rfl | m
  ·exact h1
  ·exact XC h2 x m
def ZbW{x:V}(h:okV x=ag):x≠.drw:=λz=>by rw[z]at h;cases h
noncomputable def isW(x:V)(lo hi:Int):Bool:=match x with
 |.int i=>ae (lo<=i)&&ae (i<=hi)
 |_=>ai
def uH(d:Nat){x:V}{lo hi:Int}(s:DS)(hx:x≠.drw):CV (d+1) 12 [x,.int lo,.int hi] s=.ok (.bl (isW x lo hi)) s:=by
 refine Zv (fn:=YB) rfl (by decide) rfl ?_
 show rvs (CV d) [] YB.body [aa x,aa (.int lo),aa (.int hi)] [] s=_;cases x with
 |drw=>exact T7 rfl hx
 |int i=>
  by_cases h:lo<=i
  ·simp[YB,pvE,isW,Z2,YG,Wn,h]
  ·simp[YB,pvE,isW,Z2,YG,Wn,h]
 |_=>simp[YB,pvE,isW,Z2,YG]
noncomputable def ZZ(p n:Nat)(x:V):Bool:=match x with
 |.tup xs=>ae (xs.length=n)&&xs.all λv=>isW v 0 ((p:Int)-1)
 |_=>ai
theorem xY{p:Nat}:∀{xs:List V},(xs.all λv=>isW v 0 ((p:Int)-1))=ag->∃r:Row,xs=r.map .int/\∀a∈r,0<=a/\a<(p:Int)
 |[],_=>⟨[],rfl,λ_ h=>by cases h⟩
 |x::xs,h=>by
  rw[fJ,aB]at h;obtain⟨r,rfl,hr⟩:=xY h.2;cases x with
  |int i=>
   have:=h.1;simp only[isW,aB,T2]at this;refine⟨i::r,rfl,λa ha=>?_⟩
   rcases az.mp ha with rfl | ha
   ·omega
   ·exact hr a ha
  |_=>cases h.1
def qH{p n:Nat}{x:V}(h:ZZ p n x=ag):∃r:Row,x=Zc r/\Zj p n r:=by
 cases x with
 |tup xs=>
  unfold ZZ at h;rw[aB,T2]at h;obtain⟨r,rfl,hr⟩:=xY h.2;exact⟨r,rfl,by simpa using h.1,hr⟩
 |_=>cases h
def jY{p n:Nat}{r:Row}(hr:Zj p n r):ZZ p n (Zc r)=ag:=by
 unfold ZZ Zc;rw[aB,T2,aH];refine⟨hr.1,aU.mpr λv hv=>?_⟩
 obtain⟨a,ha,rfl⟩:=aO.mp hv;have:=hr.2 a ha;simp only[isW,aB,T2];omega
theorem JS:∀r:Row,YV (r.map .int)=ag
 |[]=>rfl
 |a::r=>JS r
def yF(r:Row):okV (Zc r)=ag:=JS r
section
variable{p n:Nat}[Base p]
def wJ(d:Nat){x:V}(s:DS)(hn:n<=6)(hx:okV x=ag):CV (d+2) 13 [spV p n,x] s=.ok (.bl (ZZ p n x)) s:=by
 refine Zv (fn:=W9) rfl (by decide) rfl ?_
 show rvs (CV (d+1)) [] W9.body [aa (spV p n),aa x,ac,ac] [] s=_
 dsimp only[W9]
 rw[Zg (XS (p:=p) (n:=n) _ _ (by simp[pvE]) (by simp))]
 show rvs _ _ _ [aa (spV p n),aa x,aa (.int p),aa (.int n)] [] s=_;cases x with
 |drw=>cases hx
 |tup xs=>
  by_cases hl:xs.length=n
  ·rw[Zg (ρ':=[aa (spV p n),aa (.tup xs),aa (.int p),aa (.int n)]) (os':=[]) (s':=s) (by simp[pvE,Z2,YG,Zn,hl])]
   refine Zl (ZP ?_);have hc:=ZD (C:=CV (d+1)) (cap:=[2]) (nl:=1) (t:=[0]) (it:=.of (.v 1)) (elt:=.call 12 [(.v 0),(.c (.int 0)),(.bin .sub (.v 1) (.c (.int 1)))]) (ρ:=[aa (spV p n),aa (.tup xs),aa (.int p),aa (.int n)]) (s:=s) (l:=xs) (e:=id) (g:=λv=>V.bl (isW v 0 ((p:Int)-1)))
    (by simp[pvE]) (by unfold lim;omega) (λv hv=>⟨_,rfl,by
     have e:=uH d (lo:=0) (hi:=(p:Int)-1) s (ZbW (XC hx v hv));simp[pvE,e]⟩)
   have ht:=Yk (g:=λv:V=>isW v 0 ((p:Int)-1)) xs
   simp[pvE,hc,ht,ZZ,hl]
  ·refine Zl ?_
   simp[pvE,Z2,YG,Zn,ZZ,hl];omega
 |_=>exact Zl (by simp[pvE,Z2,YG,ZZ])
def ZdK(d:Nat){r:Row}(s:DS)(hn:n<=6)(hr:Zj p n r):CV (d+2) 13 [spV p n,Zc r] s=.ok (.bl ag) s:=by
 have e:=wJ (p:=p) d s hn (yF r);rw[jY hr]at e;exact e
def jB(d:Nat){r:Row}(s:DS)(hn:n<=6)(hr:Zj p n r):CV (d+3) 23 [spV p n,Zc r] s=.ok .non s:=by
 have e:=ZdK d s hn hr;refine yZ (fn:=WQ) (ρ:=[aa (spV p n),aa (Zc r)]) (os:=[]) rfl (by decide) rfl ?_
 show rvs (CV (d+2)) [] _ [aa (spV p n),aa (Zc r)] [] s=_;simp[WQ,pvE,e]
def wO(d:Nat){hs:List Nat}(s:DS)(hl:hs.length<=1000):CV (d+1) 9 [.lst (hs.map Zr)] s=.ok (.bl (rise hs)) s:=by
 refine Zv (fn:=Wp) rfl (by decide) rfl ?_
 have ez:∀(a b:List Nat),((a.map Zr).zip (b.map Zr)).map (λq=>V.tup [q.1,q.2])=(a.zip b).map λq=>V.tup [Zr q.1,Zr q.2]:=by
  intro a
  induction a with
  |nil=>intro b;rfl
  |cons x a ih=>intro b;cases b with|nil=>rfl|cons y b=>simp only[aS,cP];rw[ih]
 have hc:=ZD (C:=CV d) (cap:=[]) (nl:=2) (t:=[0,1]) (it:=.zip (.v 0) (.sl (.v 0) (aa (.c (.int 1))) ac)) (elt:=.cmp .lt (.v 0) (.v 1)) (ρ:=[aa (.lst (hs.map Zr))]) (s:=s) (l:=hs.zip hs.tail) (e:=λq=>V.tup [Zr q.1,Zr q.2]) (g:=λq=>V.bl (ae (q.1<q.2)))
  (by
   have e1:YH (hs.map Zr) (aa 1) ac=hs.tail.map Zr:=by rw[Zai,mI]
   simp[pvE,slV,e1];rw[<-mI,ez]) (by rw[dH];unfold lim;omega) (λq hq=>⟨_,rfl,by simp[pvE,Zr]⟩)
 have ht:=Yk (g:=λq:Nat×Nat=>ae (q.1<q.2)) (hs.zip hs.tail)
 simp[Wp,pvE,hc,ht,rise]
def yQ(d:Nat){R:List Row}{k:Nat}(s:DS)(hl:R.length<=1000)(hk:∀r∈R,k<r.length):CV (d+1) 10 [Ze R,.int k] s=.ok (.bl (R.all λr=>ae (gt r k=0))) s:=by
 refine Zv (fn:=X0) rfl (by decide) rfl ?_
 have hc:=ZD (C:=CV d) (cap:=[1]) (nl:=1) (t:=[0]) (it:=.of (.v 0)) (elt:=.cmp .eq (.ix (.v 0) (.v 1)) (.c (.int 0))) (ρ:=[aa (Ze R),aa (.int k)]) (s:=s) (l:=R) (e:=Zc) (g:=λr=>V.bl (ae (gt r k=0)))
  (by simp[pvE,Ze]) (by unfold lim;omega) (λr hr=>⟨_,rfl,by
   have:=Wi (hk r hr);simp[pvE,Zc,this,Zn]⟩)
 have ht:=Yk (g:=λr:Row=>ae (gt r k=0)) R
 simp[X0,pvE,hc,ht]
def JM(d:Nat){R:List Row}{i k:Nat}(s:DS)(hR:∀r∈R,Zj p n r)(hl:R.length<=1000)(hi:i<R.length)(hk:k<n):CV (d+2) 11 [Ze R,Zr i,Zr k] s=.ok (.bl (W3 R i k)) s:=by
 refine Zv (fn:=Yr) rfl (by decide) rfl ?_
 show rvs (CV (d+1)) [] Yr.body [aa (Ze R),aa (.int i),aa (.int k)] [] s=_
 dsimp only[Yr]
 have hrow:=hR _ (ba hi);have e1:at' (R.map Zc) (i:Int)=aa (Zc R[i]):=U5 (by rw[bg,ah hi];rfl)
 have e2:=Wi (r:=R[i]) (k:=k) (by rw[hrow.1];exact hk)
 have e3:=yQ d (R:=R.take i++R.drop (i+1)) (k:=k) s (by rw[aW,cp,cq];omega) (λr hr=>by
  obtain⟨j,hj,ne,rfl⟩:=Ji hr;rw[(hR _ (ba hj)).1];exact hk)
 have c1:YH (R.map Zc) ac (aa (i:Int))=(R.take i).map Zc:=by rw[Zdr (by rw[aH];omega),List.map_take]
 have c2:YH (R.map Zc) (aa ((i:Int)+1)) ac=(R.drop (i+1)).map Zc:=by rw[GF (k:=i+1) (by omega) (by rw[aH];omega),List.map_drop]
 have g0:pv (CV (d+1)) (.ix (.ix (.v 0) (.v 1)) (.v 2)) [aa (Ze R),aa (.int i),aa (.int k)] s=.ok (.int (gt R[i] k)) s:=by
  rw[pv,pv,Zk rfl,Za,Zk rfl,Za];show((po (at' (R.map Zc) (i:Int)) s).bind _)=_;rw[e1,Z6,Za,Zk rfl,Za];show po (at' (R[i].map V.int) (k:Int)) s=_;rw[e2];rfl
 have g1:pv (CV (d+1)) (.cmp .eq (.ix (.ix (.v 0) (.v 1)) (.v 2)) (.c (.int 1))) [aa (Ze R),aa (.int i),aa (.int k)] s=.ok (.bl (ae (gt R[i] k=1))) s:=by
  rw[pv,g0,Za];simp[pvE,ofD,Zn]
 have g2:pv (CV (d+1)) (.bin .add (.sl (.v 0) ac (aa (.v 1))) (.sl (.v 0) (aa (.bin .add (.v 1) (.c (.int 1)))) ac)) [aa (Ze R),aa (.int i),aa (.int k)] s=.ok (Ze (R.take i++R.drop (i+1))) s:=by
  have c3:(R.take i).length+(R.drop (i+1)).length<=16777216:=by rw[cp,cq];omega
  rw[cp,cq]at c3;simp[pvE,Ze,slV,c1,c2,c3]
 have g3:=Zs (Zd g2 (Zd (Zk (i:=2) (ρ:=[aa (Ze R),aa (.int i),aa (.int k)]) rfl) Zh)) e3;refine Zl (ZP ?_);rw[pv,g1,Za];unfold W3;rw[J2 hi];cases ae (gt R[i] k=1)with|true=>exact g3|false=>rfl
theorem wq:∀R:List Row,Qy .non (R.map λr=>WL (hdI r))=aa (!(R.all λr=>(hdI r).isSome))
 |[]=>rfl
 |r::R=>by
  show(match eqV Zn (WL (hdI r)) .non,Qy .non (R.map λr=>WL (hdI r))with | some a,aa b=>aa (a||b) | _,_=>ac)=_
  rw[wq R,fJ];cases hdI r with|none=>simp[WL,eqV,Zn]|some k=>simp[WL,eqV,Zn]
def G9{R:List Row}(h:(R.all λr=>(hdI r).isSome)=ag):R.map (λr=>WL (hdI r))=(Zu R).map Zr:=by
 unfold Zu;rw[bH];refine cY λr hr=>?_
 obtain⟨k,hk⟩:=bI.mp (aU.mp h r hr);show WL (hdI r)=Zr ((hdI r).getD 0);rw[hk];rfl
def uY(d:Nat){R:List Row}(s:DS)(hn:n<=6)(hR:∀r∈R,Zj p n r)(hl:R.length<=1000):rvs (CV (d+2)) [] (WC.body.drop 1) [aa (spV p n),aa (Ze R),ac] [] s=.ok (.ret (.bl (Qd R))) s:=by
 show rvs _ _ (.asg [2] (.comp1 [] 1 [0] (.of (.v 1)) [] (.call 8 [(.v 0)])) ::
  .ite (.or (.cmp .inn (.c .non) (.v 2)) (.not (.call 9 [(.v 2)]))) [.ret (.c (.bl ai))] [] ::
  .ret (.blt .all [(.comp1 [1] 2 [0,1] (.enum (.v 2)) [] (.call 11 [(.v 2),(.v 0),(.v 1)]))])::[]) _ _ _=_
 have hc2:=ZD (C:=CV (d+2)) (cap:=[]) (nl:=1) (t:=[0]) (it:=.of (.v 1)) (elt:=.call 8 [(.v 0)]) (ρ:=[aa (spV p n),aa (Ze R),ac]) (s:=s) (l:=R) (e:=Zc) (g:=λr=>WL (hdI r))
  (by simp[pvE,Ze]) (by unfold lim;omega) (λx hx=>⟨_,rfl,by
   have e:=Vz (d+1) x s;simp[pvE,e]⟩)
 rw[Zg (ρ':=[aa (spV p n),aa (Ze R),aa (.lst (R.map λr=>WL (hdI r)))]) (os':=[]) (s':=s) (by simp[pvE,hc2])]
 have hin:=wq R;unfold Qd;cases hh:R.all λr=>(hdI r).isSome with
 |false=>
  rw[hh]at hin;exact Zl (by simp[pvE,XQ,hin])
 |true=>
  rw[hh]at hin;rw[G9 hh]at hin ⊢;have hln:(Zu R).length=R.length:=by unfold Zu;rw[aH]
  have e3:=wO (d+1) (hs:=Zu R) s (by omega)
  cases hr:rise (Zu R)with
  |false=>
   rw[hr]at e3;exact Zl (by simp[pvE,XQ,hin,e3])
  |true=>
  rw[hr]at e3;rw[Zg (ρ':=[aa (spV p n),aa (Ze R),aa (.lst ((Zu R).map Zr))]) (os':=[]) (s':=s) (by simp[pvE,XQ,hin,e3])]
  refine Zl (ZP ?_);have ew:((Xj 0 (Zu R).length).zip ((Zu R).map Zr)).map (λq=>V.tup [q.1,q.2])=(aI R.length).map λi=>V.tup [Zr i,Zr ((Zu R).getD i 0)]:=by
   apply iq
   ·simp[Xj,hln]
   ·intro i h1 h2
    have h3:i<R.length:=by simpa using h2
    have h4:i<(Zu R).length:=by omega
    simp[Xj,Zr,h4]
  have hc3:=ZD (C:=CV (d+2)) (cap:=[1]) (nl:=2) (t:=[0,1]) (it:=.enum (.v 2)) (elt:=.call 11 [(.v 2),(.v 0),(.v 1)]) (ρ:=[aa (spV p n),aa (Ze R),aa (.lst ((Zu R).map Zr))]) (s:=s) (l:=aI R.length) (e:=λi=>V.tup [Zr i,Zr ((Zu R).getD i 0)]) (g:=λi=>V.bl (W3 R i ((Zu R).getD i 0)))
   (by
    have:pvw (CV (d+2)) (.enum (.v 2)) [aa (spV p n),aa (Ze R),aa (.lst ((Zu R).map Zr))] s=.ok (((Xj 0 ((Zu R).map Zr).length).zip ((Zu R).map Zr)).map λq=>V.tup [q.1,q.2]) s:=by simp[pvE]
    rw[this,aH,ew]) (by rw[bL];unfold lim;omega) (λi hi=>⟨_,rfl,by
    have hi':=bF.mp hi;have hk:(Zu R).getD i 0<n:=by
     rw[Qs hi'];obtain⟨k,hk⟩:=bI.mp (aU.mp hh _ (ba hi'));rw[hk,<-(hR _ (ba hi')).1];exact(Yf hk).2.1
    exact Zs (Zd (Zk rfl) (Zd (Zk rfl) (Zd (Zk rfl) Zh))) (JM d s hR hl hi' hk)⟩)
  have ht3:=Yk (g:=λi:Nat=>W3 R i ((Zu R).getD i 0)) (aI R.length)
  rw[pv,Zd hc3 Zh,Za];show po ((ZS _).map λbs=>V.bl (bs.all id)) s=_
  rw[ht3];show PR.ok (V.bl ((List.map _ _).all id)) s=_;rw[gh];rfl
noncomputable def isP(p n:Nat)(x:V):Bool:=match x with
 |.tup xs=>xs.all (ZZ p n)&&match Xi xs with
  |some R=>Qd R
  |none=>ai
 |_=>ai
theorem WJ:∀{xs:List V},xs.all (ZZ p n)=ag->∃R:List Row,xs=R.map Zc/\∀r∈R,Zj p n r
 |[],_=>⟨[],rfl,λ_ h=>by cases h⟩
 |x::xs,h=>by
  rw[fJ,aB]at h;obtain⟨R,rfl,hR⟩:=WJ h.2;obtain⟨r,rfl,hr⟩:=qH h.1;refine⟨r::R,rfl,λa ha=>?_⟩
  rcases az.mp ha with rfl | ha
  ·exact hr
  ·exact hR a ha
def Ui{x:V}:isP p n x=ag↔∃P,x=Ze P/\pZ p n P:=by
 constructor
 ·intro h
  cases x with
  |tup xs=>
   unfold isP at h;rw[aB]at h;obtain⟨R,rfl,hR⟩:=WJ (p:=p) h.1;have h2:=h.2;rw[YA]at h2;exact⟨R,rfl,(QK hR).mp h2⟩
  |_=>cases h
 ·rintro ⟨P,rfl,hP⟩
  show(_&&_)=ag;rw[aB,YA];refine⟨aU.mpr λv hv=>?_,(QK hP.row).mpr hP⟩
  obtain⟨r,hr,rfl⟩:=aO.mp hv;exact jY (hP.row r hr)
def j9(d:Nat){x:V}(s:DS)(hn:n<=6)(hx:okV x=ag)(hl:∀xs,x=.tup xs->xs.length<=1000):CV (d+3) 14 [spV p n,x] s=.ok (.bl (isP p n x)) s:=by
 refine Zv (fn:=WC) rfl (by decide) rfl ?_
 show rvs (CV (d+2)) [] (.ite (.or (.not (.isi (.v 1) [.tuple])) (.not (.blt .all [(.comp1 [0] 1 [0] (.of (.v 1)) [] (.call 13 [(.v 1),(.v 0)]))]))) [.ret (.c (.bl ai))] []::WC.body.drop 1) [aa (spV p n),aa x,ac] [] s=_;cases x with
 |drw=>cases hx
 |tup xs=>
  have hl:=hl xs rfl;have hc1:=ZD (C:=CV (d+2)) (cap:=[0]) (nl:=1) (t:=[0]) (it:=.of (.v 1)) (elt:=.call 13 [(.v 1),(.v 0)]) (ρ:=[aa (spV p n),aa (.tup xs),ac]) (s:=s) (l:=xs) (e:=id) (g:=λv=>V.bl (ZZ p n v))
   (by simp[pvE]) (by unfold lim;omega) (λv hv=>⟨_,rfl,by
    have e:=wJ (p:=p) d s hn (XC hx v hv);simp[pvE,e]⟩)
  have ht:=Yk (g:=λv:V=>ZZ p n v) xs
  have hpt:Z2 (.tup xs) [.tuple]=aa ag:=rfl;cases ha:xs.all (ZZ p n)with
  |false=>
   have hf:(xs.map λv=>ZZ p n v).all id=ai:=by rw[gh];exact ha
   refine Zl ?_;simp[pvE,hpt,hc1,ht,isP,ha,hf]
  |true=>
   have hf:(xs.map λv=>ZZ p n v).all id=ag:=by rw[gh];exact ha
   rw[Zg (ρ':=[aa (spV p n),aa (.tup xs),ac]) (os':=[]) (s':=s) (by simp[pvE,hpt,hc1,ht,hf])]
   obtain⟨R,rfl,hR⟩:=WJ (p:=p) ha;have e:=uY d s hn hR (by simpa using hl)
   have eb:isP p n (.tup (R.map Zc))=Qd R:=by
    show((R.map Zc).all (ZZ p n)&&match Xi (R.map Zc)with | some R=>Qd R | none=>ai)=_
    rw[ha,YA];rfl
   rw[eb];exact e
 |_=>exact Zl (by simp[pvE,Z2,YG,isP])
theorem JY:∀P:List Row,YV (P.map Zc)=ag
 |[]=>rfl
 |r::P=>by
  show(okV (Zc r)&&YV (P.map Zc))=ag;rw[yF,JY P];rfl
def Za2(P:List Row):okV (Ze P)=ag:=JY P
def yi{P:List Row}(hP:pZ p n P):∀xs,Ze P=.tup xs->xs.length<=n:=λxs e=>by
 cases e;rw[aH];exact dsum hP
def Qw(d:Nat){x:V}(s:DS)(hn:n<=6)(hx:okV x=ag)(hl:∀xs,x=.tup xs->xs.length<=1000):CV (d+4) 15 [spV p n,x] s=if isP p n x=ag then .ok .non s else .ex 2 s:=by
 have e:=j9 (p:=p) d s hn hx hl;cases h:isP p n x with
 |true=>
  rw[h]at e;refine yZ (fn:=YM) (ρ:=[aa (spV p n),aa x]) (os:=[]) rfl (by decide) rfl ?_
  show rvs (CV (d+3)) [] _ [aa (spV p n),aa x] [] s=_;simp[YM,pvE,e]
 |false=>
  rw[h]at e;refine xO (fn:=YM) rfl (by decide) rfl ?_
  show rvs (CV (d+3)) [] _ [aa (spV p n),aa x] [] s=_;simp[YM,pvE,e];rfl
def vI(d:Nat){P:List Row}(s:DS)(hn:n<=6)(hP:pZ p n P):CV (d+4) 15 [spV p n,Ze P] s=.ok .non s:=by
 have e:=Qw (p:=p) d s hn (Za2 P) λxs z=>by have:=yi hP xs z;omega
 rw[T9 (Ui.mpr ⟨P,rfl,hP⟩)]at e;exact e
def v4{P:List Row}(hP:pZ p n P):P.map (λr=>WL (hdI r))=(Zu P).map Zr:=G9 (aU.mpr λr hr=>by
 obtain⟨k,hk,_⟩:=hP.head fld.one0 hr;rw[hk];rfl)
end
section
variable{p n:Nat}[Base p]
def Zbn(d:Nat){R:List Row}{v:V}(s:DS)(hn:n<=6)(hR:∀r∈R,Zj p n r)(hv:Z7 v=aa (R.map Zc))(ht:Z2 v [.tuple,.list]=aa ag):CV (d+6) 24 [spV p n,v] s=.ok (Ze (yM p [] R)) s:=by
 refine Zv (fn:=Q6) rfl (by decide) rfl ?_
 show rvs (CV (d+5)) [] (.ite (.not (.isi (.v 1) [.tuple,.list])) [.raise _ []] [] :: .forr [2] (.of (.v 1)) [.ex (.call 23 [(.v 0),(.v 2)])] :: .ret (.call 22 [(.v 0),(.tup []),(.v 1)])::[]) [aa (spV p n),aa v,ac] [] s=_;rw[Zg (ρ':=[aa (spV p n),aa v,ac]) (os':=[]) (s':=s) (by simp[pvE,ht])]
 obtain⟨o',hI,e⟩:=JG (C:=CV (d+5)) (ms:=[]) (t:=[2]) (it:=.of (.v 1)) (b:=[.ex (.call 23 [(.v 0),(.v 2)])]) (L:=R) (e:=Zc) (step:=λ(st:Unit) _=>st) (ρ:=λ_ o=>[aa (spV p n),aa v,o]) (st:=()) (o:=ac) (os:=[]) (s:=s) (λ_=>True) (by show pvw (CV (d+5)) (.of (.v 1)) [aa (spV p n),aa v,ac] s=_;rw[pvw,pv];show po (Z7 v) s=_;rw[hv];rfl) aA rfl (λx hx st o hst=>by
  refine⟨aA,rfl,_,aa (Zc x),rfl,?_⟩;have e2:=jB (d+2) s hn (hR x hx);show rvs (CV (d+5)) [] _ [aa (spV p n),aa v,aa (Zc x)] [] s=_;rw[Zg (ZbY (v:=.non) (s':=s) (Zs (vs:=[spV p n,Zc x]) (s1:=s) (Zd (Zk rfl) (Zd (Zk rfl) Zh)) e2)),rvs])
 rw[Zg e];refine Zl (ZP (Zs (vs:=[spV p n,Ze [],v]) (s1:=s) (Zd (Zk rfl) (Zd (by simp[pvE,Ze]) (Zd (Zk rfl) Zh))) (Qq d s hn pZ.nil hR hv)))
def zF{r:Row}{k:Nat}{x:Int}:(r.map V.int).set k (.int x)=(r.set k x).map V.int:=by rw[List.map_set]
def Gt(d:Nat){P:List Row}{f:Nat}(s:DS)(hn:n<=6)(hP:pZ p n P)(hf:f<n):CV (d+2) 25 [spV p n,Ze P,.int f] s=.ok (Zc (avI p n P f)) s:=by
 refine Zv (fn:=WN) rfl (by decide) rfl ?_
 show rvs (CV (d+1)) [5,5] (.asg [3,4] (.v 0) :: .asg [5] (.bin .mul (.lst [(.c (.int 0))]) (.v 4)) :: .put (.v 5) (.v 2) (.c (.int 1)) :: .forr [6] (.of (.v 1)) [.put (.v 5) (.call 8 [(.v 6)]) (.bin .mod (.neg (.ix (.v 6) (.v 2))) (.v 3))] :: .ret (.blt .tuple [(.v 5)])::[]) [aa (spV p n),aa (Ze P),aa (.int f),ac,ac,ac,ac] [] s=_;rw[Zg (XS (p:=p) (n:=n) _ _ (by simp[pvE]) (by simp))]
 have er:(aq n [V.int 0]).flatten=(aq n (0:Int)).map V.int:=by
  rw[gG];clear hf hP hn
  induction n with|zero=>rfl|succ k ih=>rw[bD,bR,ih];rfl
 have hp:=Ve (p:=p);have e1:rv (CV (d+1)) [5,5] (.asg [5] (.bin .mul (.lst [(.c (.int 0))]) (.v 4))) [aa (spV p n),aa (Ze P),aa (.int f),aa (.int p),aa (.int n),ac,ac] [] s=.ok (.nx [aa (spV p n),aa (Ze P),aa (.int f),aa (.int p),aa (.int n),aa (.lst ((aq n (0:Int)).map V.int)),ac] [5]) s:=by
  have h1:n<1000:=by omega
  have hfl:=X4 (aq n (0:Int));rw[gG]at hfl er;have h2:(n:Int)<1000:=by omega
  simp[pvE,h2,er,hfl]
 rw[show(([aa (spV p n),aa (Ze P),aa (.int f),ac,ac,ac,ac]:Env).set 3 (aa (.int p))).set 4 (aa (.int n))=[aa (spV p n),aa (Ze P),aa (.int f),aa (.int p),aa (.int n),ac,ac]from rfl,Zg e1]
 have ix:∀(r:Row)(k:Nat),k<r.length->ixN (r.map V.int).length (k:Int)=aa k:=λr k h=>by
  unfold ixN;rw[T9 (by omega),T9 (by rw[aH];omega)];rfl
 have e2:rv (CV (d+1)) [5,5] (.put (.v 5) (.v 2) (.c (.int 1))) [aa (spV p n),aa (Ze P),aa (.int f),aa (.int p),aa (.int n),aa (.lst ((aq n (0:Int)).map V.int)),ac] [5] s=.ok (.nx [aa (spV p n),aa (Ze P),aa (.int f),aa (.int p),aa (.int n),aa (.lst (((aq n (0:Int)).set f 1).map V.int)),ac] [5]) s:=by
  have h1:=ix (aq n 0) f (by simpa using hf)
  rw[rv];simp only[pvE,X8,V.flat];simp only[gF,BEq.rfl,Bool.true_or,if_true,List.getElem?_cons_succ,List.getElem?_cons_zero,Option.bind,id,pvE];rw[h1,Z6,Za,zF];rfl
 rw[Zg e2];obtain⟨o',hI,e⟩:=JG (C:=CV (d+1)) (ms:=[5,5]) (t:=[6]) (it:=.of (.v 1)) (b:=[.put (.v 5) (.call 8 [(.v 6)]) (.bin .mod (.neg (.ix (.v 6) (.v 2))) (.v 3))]) (L:=P) (e:=Zc) (step:=λ(s:Row) r=>s.set ((hdI r).getD 0) ((-(gt r f))%p)) (ρ:=λst o=>[aa (spV p n),aa (Ze P),aa (.int f),aa (.int p),aa (.int n),aa (.lst (st.map V.int)),o]) (st:=(aq n (0:Int)).set f 1) (o:=ac) (os:=[5]) (s:=s) (λst=>st.length=n) (by simp[pvE,Ze]) (by simp) (by simp) (λx hx st o hst=>by
  have hx':=hP.row x hx;obtain⟨k,hk,hkn,_⟩:=hP.head fld.one0 hx;refine⟨by rw[aV];exact hst,by simp[Zc,V.flat,X4],_,aa (Zc x),rfl,?_⟩
  show rvs (CV (d+1)) [5,5] _ [aa (spV p n),aa (Ze P),aa (.int f),aa (.int p),aa (.int n),aa (.lst (st.map V.int)),aa (Zc x)] [5] s=_;have e3:=Vz d x s;rw[hk]at e3;have e3':CV (d+1) 8 [Zc x] s=.ok (.int k) s:=e3;have e4:=Wi (r:=x) (k:=f) (by rw[hx'.1];exact hf)
  have ev:pv (CV (d+1)) (.bin .mod (.neg (.ix (.v 6) (.v 2))) (.v 3)) [aa (spV p n),aa (Ze P),aa (.int f),aa (.int p),aa (.int n),aa (.lst (st.map V.int)),aa (Zc x)] s=.ok (.int ((-(gt x f))%p)) s:=by
   have hp0:0<p:=by omega
   simp[pvE,Zc,e4,hp0]
  have ek:pv (CV (d+1)) (.call 8 [(.v 6)]) [aa (spV p n),aa (Ze P),aa (.int f),aa (.int p),aa (.int n),aa (.lst (st.map V.int)),aa (Zc x)] s=.ok (.int k) s:=Zs (Zd (Zk rfl) Zh) e3';have h1:=ix st k (by rw[hst];exact hkn)
  rw[hk];rw[Zg (ρ':=[aa (spV p n),aa (Ze P),aa (.int f),aa (.int p),aa (.int n),aa (.lst ((st.set k ((-(gt x f))%p)).map V.int)),aa (Zc x)]) (os':=[5]) (s':=s) (by
   rw[rv,T9 (by simp),ev,Za,T9 (by rfl)]
   show(po (aa (st.map V.int)) s).bind _=_;rw[Z6,Za,ek,Za];show(po (ixN (st.map V.int).length (k:Int)) s).bind _=_;rw[h1,Z6,Za,zF];rfl),rvs]
  rfl)
 rw[Zg e];refine Zl (ZP ?_);simp[pvE,Zc,avI,avF]
theorem qO(j:Nat):∀hs:List Nat,Qy (Zr j) (hs.map Zr)=aa (hs.contains j)
 |[]=>rfl
 |h::hs=>by
  show(match eqV Zn (Zr h) (Zr j),Qy (Zr j) (hs.map Zr)with | some a,aa b=>aa (a||b) | _,_=>ac)=_
  rw[qO j hs,gF];show aa (ae ((h:Int)=(j:Int))||hs.contains j)=_
  congr 2
  rw[bz];simp;omega
def x8(d:Nat){P:List Row}(s:DS)(hn:n<=6)(hP:pZ p n P):CV (d+7) 26 [spV p n,Ze P] s=.ok (Ze (Yu p n P)) s:=by
 refine Zv (fn:=XI) rfl (by decide) rfl ?_
 show rvs (CV (d+6)) [] (.ex (.call 15 [(.v 0),(.v 1)]) :: .asg [2,3] (.v 0) :: .asg [4] (.comp1 [] 1 [0] (.of (.v 1)) [] (.call 8 [(.v 0)])) :: .asg [5] (.comp1 [4] 1 [0] (.rng1 (.v 3)) [(.cmp .nin (.v 0) (.v 1))] (.v 0)) :: .ret (.call 24 [(.v 0),(.comp1 [0,1] 1 [0] (.of (.v 5)) [] (.call 25 [(.v 1),(.v 2),(.v 0)]))])::[]) [aa (spV p n),aa (Ze P),ac,ac,ac,ac] [] s=_;have hd:=dsum hP;rw[Zg (ZbY (Zs (Zd (Zk rfl) (Zd (Zk rfl) Zh)) (vI (d+2) s hn hP)))];rw[Zg (XS (p:=p) (n:=n) _ _ (by simp[pvE]) (by simp))]
 have hc2:=ZD (C:=CV (d+6)) (cap:=[]) (nl:=1) (t:=[0]) (it:=.of (.v 1)) (elt:=.call 8 [(.v 0)]) (ρ:=[aa (spV p n),aa (Ze P),aa (.int p),aa (.int n),ac,ac]) (s:=s) (l:=P) (e:=Zc) (g:=λr=>WL (hdI r))
  (by simp[pvE,Ze]) (by unfold lim;omega) (λx hx=>⟨_,rfl,by
   have e:=Vz (d+5) x s;simp[pvE,e]⟩)
 rw[v4 hP]at hc2;rw[Zg (ρ':=[aa (spV p n),aa (Ze P),aa (.int p),aa (.int n),aa (.lst ((Zu P).map Zr)),ac]) (os':=[]) (s':=s) (by simp[pvE,hc2])]
 have hc3:=Xt (C:=CV (d+6)) (cap:=[4]) (nl:=1) (t:=[0]) (it:=.rng1 (.v 3)) (tst:=.cmp .nin (.v 0) (.v 1)) (elt:=.v 0) (ρ:=[aa (spV p n),aa (Ze P),aa (.int p),aa (.int n),aa (.lst ((Zu P).map Zr)),ac]) (s:=s) (l:=aI n) (e:=Zr) (g:=Zr) (q:=λj=>!(Zu P).contains j)
  (Xs (Zk rfl) (by omega)) (by rw[bL];unfold lim;omega) (λj hj=>⟨_,.bl (!(Zu P).contains j),rfl,by
   have:=qO j (Zu P);simp[pvE,XQ,this],rfl,λ_=>by simp[pvE]⟩)
 rw[Zg (ρ':=[aa (spV p n),aa (Ze P),aa (.int p),aa (.int n),aa (.lst ((Zu P).map Zr)),aa (.lst ((X7 n P).map Zr))]) (os':=[]) (s':=s) (by
  refine(Z0 hc3 rfl).trans ?_;rfl)]
 have hc4:=ZD (C:=CV (d+6)) (cap:=[0,1]) (nl:=1) (t:=[0]) (it:=.of (.v 5)) (elt:=.call 25 [(.v 1),(.v 2),(.v 0)]) (ρ:=[aa (spV p n),aa (Ze P),aa (.int p),aa (.int n),aa (.lst ((Zu P).map Zr)),aa (.lst ((X7 n P).map Zr))]) (s:=s) (l:=X7 n P) (e:=Zr) (g:=λf=>Zc (avI p n P f))
  (by simp[pvE]) (by
   have:(X7 n P).length<=n:=by unfold X7;exact bx (d7 ..) (by rw[bL];exact aD _)
   unfold lim;omega) (λf hf=>⟨_,rfl,by
   have hf':f<n:=by rw[<-U6 (p:=p)]at hf;exact(Ye.mp hf).1
   have e:=Gt (d+4) s hn hP hf';exact Zs (Zd (Zk rfl) (Zd (Zk rfl) (Zd (Zk rfl) Zh))) e⟩)
 have e5:=Zbn (p:=p) (n:=n) d (R:=(X7 n P).map (avI p n P)) (v:=.lst ((X7 n P).map λf=>Zc (avI p n P f))) s hn (λr hr=>by obtain⟨f,hf,rfl⟩:=aO.mp hr;exact(jX hP hf).1) (by rw[bH];rfl) rfl
 exact Zl (ZP (Zs (Zd (Zk rfl) (Zd hc4 Zh)) e5))
end
section
variable{p n:Nat}[Base p]
def ix0{C:Zy}{i:Nat}{ρ:Env}{s:DS}(h:ρ[i]? = aa (aa (spV p n))):pv C (.ix (.v i) (.c (.int 0))) ρ s=.ok (.int p) s:=by
 rw[pv,Zk h,Za,pv];rfl
def ix1{C:Zy}{i:Nat}{ρ:Env}{s:DS}(h:ρ[i]? = aa (aa (spV p n))):pv C (.ix (.v i) (.c (.int 1))) ρ s=.ok (.int n) s:=by
 rw[pv,Zk h,Za,pv];rfl
def Ul{C:Zy}{e:E}{x:V}{xs:List V}{ρ:Env}{s:DS}(h:pv C e ρ s=.ok (.lst (x::xs)) s):pv C (.ix e (.c (.int 0))) ρ s=.ok x s:=by
 rw[pv,h,Za,pv];show po (at' (x::xs) 0) s=_;simp[at',ixN,po]
def qN(d:Nat){r o:Row}{k:Int}(s:DS)(hn:n<=6)(hr:Zj p n r)(ho:Zj p n o)(hk:-1000<k/\k<1000):CV (d+1) 4 [spV p n,Zc r,Zc o,.int k] s=.ok (Zc (YZ p r o k)) s:=by
 refine Zv (fn:=Ua) rfl (by decide) rfl ?_
 show rvs (CV d) [] (.ret (.blt .tuple [(.comp1 [3,0] 2 [0,1] (.zip (.v 1) (.v 2)) [] (.bin .mod (.bin .add (.v 0) (.bin .mul (.v 2) (.v 1))) (.ix (.v 3) (.c (.int 0)))))])::[]) [aa (spV p n),aa (Zc r),aa (Zc o),aa (.int k)] [] s=_;have hp:=Ve (p:=p);have hc:=ZD (C:=CV d) (cap:=[3,0]) (nl:=2) (t:=[0,1]) (it:=.zip (.v 1) (.v 2)) (elt:=.bin .mod (.bin .add (.v 0) (.bin .mul (.v 2) (.v 1))) (.ix (.v 3) (.c (.int 0)))) (ρ:=[aa (spV p n),aa (Zc r),aa (Zc o),aa (.int k)]) (s:=s) (l:=r.zip o) (e:=λq=>V.tup [.int q.1,.int q.2]) (g:=λq=>V.int ((q.1+k*q.2)%p))
  (by simp[pvE,Zc,VC]) (by rw[dH,hr.1,ho.1];unfold lim;omega) (λq hq=>by
   have h2:=ho.2 q.2 (cB hq).2;refine⟨_,rfl,?_⟩;have f1:=ZG (a:=k) (by omega) (by omega)
   have f2:=ZG (a:=q.2) (by omega) (by omega)
   have hp0:0<p:=by omega
   have e0:=ix0 (p:=p) (n:=n) (C:=CV d) (i:=3) (ρ:=[aa (.int q.1),aa (.int q.2),aa (.int k),aa (spV p n)]) (s:=s) rfl;show pv (CV d) _ [aa (.int q.1),aa (.int q.2),aa (.int k),aa (spV p n)] s=_;have g:pv (CV d) (.bin .add (.v 0) (.bin .mul (.v 2) (.v 1))) [aa (.int q.1),aa (.int q.2),aa (.int k),aa (spV p n)] s=.ok (.int (q.1+k*q.2)) s:=by simp[pvE,f1,f2]
   rw[pv,g,Za,e0,Za];simp[pvF,hp0])
 have e:(r.zip o).map (λq=>V.int ((q.1+k*q.2)%p))=(YZ p r o k).map V.int:=by
  unfold YZ;rw[<-dR,bH];rfl
 refine Zl (ZP ?_);rw[pv,Zd hc Zh,e];rfl
def Qt(d:Nat)(s:DS)(hn:n<=6):∃r s',CV (d+2) 6 [.drw,spV p n] s=.ok (Zc r) s'/\Zj p n r:=by
 have hp:=Ve (p:=p);obtain⟨ys,s',e1,e2,e3⟩:=QJ (C:=CV (d+1)) (cap:=[0,1]) (nl:=1) (t:=[0]) (it:=.rng1 (.ix (.v 1) (.c (.int 1)))) (elt:=.call 2 [(.v 1),(.ix (.v 2) (.c (.int 0)))]) (ρ:=[aa .drw,aa (spV p n)]) (s:=s) (k:=n) (Q:=λy=>∃a:Int,y=.int a/\0<=a/\a<p)
  (by rw[JL];exact Xs (ix1 rfl) (by omega)) (by unfold lim;omega) (λx s=>by
   obtain⟨v,s',f1,f2,f3⟩:=xT (F:=fns) (tk:=2) (d:=d) (m:=p) s (by omega) (by omega)
   refine⟨[aa x,aa .drw,aa (spV p n)],.int v,s',rfl,Zs (Zd (Zk rfl) (Zd (ix0 (p:=p) (n:=n) rfl) Zh)) f1,v,rfl,f2,f3⟩)
 have:∃r:Row,ys=r.map V.int/\∀a∈r,0<=a/\a<(p:Int):=by
  clear e1 e2
  induction ys with
  |nil=>exact⟨[],rfl,λ_ h=>by cases h⟩
  |cons y ys ih=>
   obtain⟨r,h1,h2⟩:=ih λz hz=>e3 z (al _ hz)
   obtain⟨a,rfl,h3⟩:=e3 y (am ..);refine⟨a::r,by rw[h1];rfl,λx hx=>?_⟩
   rcases az.mp hx with rfl | hx
   ·exact h3
   ·exact h2 x hx
 obtain⟨r,rfl,h2⟩:=this;refine⟨r,s',Zv (fn:=WO) rfl (by decide) rfl ?_,by simpa using e2,h2⟩
 show rvs (CV (d+1)) [] (.ret (.blt .tuple [(.comp1 [0,1] 1 [0] (.rng1 (.ix (.v 1) (.c (.int 1)))) [] (.call 2 [(.v 1),(.ix (.v 2) (.c (.int 0)))]))])::[]) [aa .drw,aa (spV p n)] [] s=_;refine Zl (ZP ?_);rw[pv,Zd e1 Zh];rfl
noncomputable def uI:List Sm:=[.asg [5] (.comp1 [4] 1 [0] (.of (.v 2)) [(.cmp .ne (.ix (.v 0) (.v 1)) (.c (.int 0)))] (.v 0)),
  .ite (.cmp .ne (.v 5) (.lst [])) [.asg [6] (.ix (.comp1 [5,4,0] 1 [0] (.rng1 (.ix (.v 0) (.c (.int 0)))) [(.cmp .eq (.bin .mod (.bin .mul (.v 0) (.ix (.ix (.v 1) (.c (.int 0))) (.v 2))) (.ix (.v 3) (.c (.int 0)))) (.c (.int 1)))] (.v 0)) (.c (.int 0))),
  .asg [7] (.blt .tuple [(.comp1 [6,0] 1 [0] (.of (.ix (.v 5) (.c (.int 0)))) [] (.bin .mod (.bin .mul (.v 1) (.v 0)) (.ix (.v 2) (.c (.int 0)))))]),
  .asg [2] (.comp1 [0,7,4] 1 [0] (.of (.v 2)) [] (.call 4 [(.v 1),(.v 0),(.v 2),(.neg (.ix (.v 0) (.v 3)))])),
  .asg [3] (.bin .add (.comp1 [0,7,4] 1 [0] (.of (.v 3)) [] (.call 4 [(.v 1),(.v 0),(.v 2),(.neg (.ix (.v 0) (.v 3)))])) (.lst [(.v 7)]))] []]
def qE(d:Nat){rest found:List Row}{j:Nat}{v:V}{a5 a6 a7:Option V}(s:DS)(hn:n<=6)(hj:j<n){R:List Row}(hR:Red p n j rest found)(hB:Bk p n R rest found)(hl:rest.length<=1000)(hl2:found.length<=1000):∃rest' found' b5 b6 b7,rvs (CV (d+1)) [] uI [aa (spV p n),aa v,aa (.lst (rest.map Zc)),aa (.lst (found.map Zc)),aa (Zr j),a5,a6,a7] [] s=.ok (.nx [aa (spV p n),aa v,aa (.lst (rest'.map Zc)),aa (.lst (found'.map Zc)),aa (Zr j),b5,b6,b7] []) s/\Red p n (j+1) rest' found'/\rest'.length=rest.length/\found'.length<=found.length+1/\Bk p n R rest' found':=by
 have hp:=Ve (p:=p);have hatj:∀r∈rest,at' (r.map V.int) (j:Int)=aa (.int (gt r j)):=λr hr=>Wi (by rw[(hR.row r hr).1];exact hj)
 have hc1:=Xt (C:=CV (d+1)) (cap:=[4]) (nl:=1) (t:=[0]) (it:=.of (.v 2)) (tst:=.cmp .ne (.ix (.v 0) (.v 1)) (.c (.int 0))) (elt:=.v 0) (ρ:=[aa (spV p n),aa v,aa (.lst (rest.map Zc)),aa (.lst (found.map Zc)),aa (Zr j),a5,a6,a7]) (s:=s) (l:=rest) (e:=Zc) (g:=Zc) (q:=λr=>ae (gt r j≠0))
  (by simp[pvE]) (by unfold lim;omega) (λr hr=>⟨[aa (Zc r),aa (Zr j)],.bl (ae (gt r j≠0)),rfl,by
   have:=hatj r hr;simp[pvE,Zc,Zr,this,Zn],rfl,λ_=>Zk rfl⟩)
 unfold uI;rw[Zg (Z0 hc1 rfl)];show ∃rest' found' b5 b6 b7,rvs (CV (d+1)) [] _ [aa (spV p n),aa v,aa (.lst (rest.map Zc)),aa (.lst (found.map Zc)),aa (Zr j),aa (.lst ((rest.filter λr=>ae (gt r j≠0)).map Zc)),_,_] [] s=_/\_
 cases q:rest.filter λr=>ae (gt r j≠0)with
 |nil=>
  refine⟨rest,found,aa (.lst ([].map Zc)),a6,a7,?_,uT hR λr hr=>?_,rfl,by omega,hB⟩
  ·have e1:VI (CV (d+1)) (.cmp .ne (.v 5) (.lst [])) [aa (spV p n),aa v,aa (.lst (rest.map Zc)),aa (.lst (found.map Zc)),aa (Zr j),aa (.lst ([].map Zc)),a6,a7] s=.ok ai s:=by
    refine XF (v:=.bl ai) ?_ rfl;rw[pv,Zk (v:=.lst []) rfl];simp[pvE,Zn,Vv]
   rw[Zg ((X9 e1).trans (by rw[T8 (by simp),rvs])),rvs]
  ·have:=List.filter_eq_nil_iff.mp q r hr
   simpa using this
 |cons f fs=>
  have hf:f∈rest/\gt f j≠0:=by
   have:f∈rest.filter λr=>ae (gt r j≠0):=by rw[q];exact am ..
   rw[bK]at this;exact⟨this.1,by simpa using this.2⟩
  have hfr:=hR.row f hf.1;have hg:=Wu ppos hfr j;obtain⟨io1,io2⟩:=uj (p:=p) (a:=gt f j) (by omega) hg.2
  have hl1:Zj p n (lead p f j):=Y6 hfr;have hi:0<=Yh p (gt f j)/\Yh p (gt f j)<1000:=by
   unfold Yh
   repeat' split
   all_goals omega
  let ρ0:Env:=[aa (spV p n),aa v,aa (.lst (rest.map Zc)),aa (.lst (found.map Zc)),aa (Zr j),aa (.lst ((f::fs).map Zc)),a6,a7]
  have e1:VI (CV (d+1)) (.cmp .ne (.v 5) (.lst [])) ρ0 s=.ok ag s:=by
   refine XF (v:=.bl ag) ?_ rfl;rw[pv,Zk (v:=.lst ((f::fs).map Zc)) rfl];simp[pvE,Zn]
  have ef:pv (CV (d+1)) (.ix (.v 5) (.c (.int 0))) ρ0 s=.ok (Zc f) s:=by
   exact Ul (Zk rfl)
  have hatf:=Wi (r:=f) (k:=j) (by rw[hfr.1];exact hj)
  have hc2:=Xt (C:=CV (d+1)) (cap:=[5,4,0]) (nl:=1) (t:=[0]) (it:=.rng1 (.ix (.v 0) (.c (.int 0)))) (tst:=.cmp .eq (.bin .mod (.bin .mul (.v 0) (.ix (.ix (.v 1) (.c (.int 0))) (.v 2))) (.ix (.v 3) (.c (.int 0)))) (.c (.int 1))) (elt:=.v 0) (ρ:=ρ0) (s:=s) (l:=aI p) (e:=Zr) (g:=Zr) (q:=λk=>ae ((k:Int)*gt f j%p=1))
   (Xs (ix0 rfl) (by omega)) (by rw[bL];unfold lim;omega) (λk hk=>⟨[aa (Zr k),aa (.lst ((f::fs).map Zc)),aa (Zr j),aa (spV p n)],.bl (ae ((k:Int)*gt f j%p=1)),rfl,by
    have hk':=bF.mp hk;have f1:=ZG (a:=(k:Int)) (by omega) (by omega)
    have f2:=ZG (a:=gt f j) (by omega) (by omega)
    have g1:pv (CV (d+1)) (.ix (.ix (.v 1) (.c (.int 0))) (.v 2)) [aa (Zr k),aa (.lst ((f::fs).map Zc)),aa (Zr j),aa (spV p n)] s=.ok (.int (gt f j)) s:=by
     have g0:pv (CV (d+1)) (.ix (.v 1) (.c (.int 0))) [aa (Zr k),aa (.lst ((f::fs).map Zc)),aa (Zr j),aa (spV p n)] s=.ok (Zc f) s:=by
      exact Ul (Zk rfl)
     rw[pv,g0,Za,Zk (v:=Zr j) rfl,Za];show po (at' (f.map V.int) (j:Int)) s=_;rw[hatf];rfl
    have g2:=ix0 (p:=p) (n:=n) (C:=CV (d+1)) (i:=3) (ρ:=[aa (Zr k),aa (.lst ((f::fs).map Zc)),aa (Zr j),aa (spV p n)]) (s:=s) rfl;have g3:pv (CV (d+1)) (.bin .mul (.v 0) (.ix (.ix (.v 1) (.c (.int 0))) (.v 2))) [aa (Zr k),aa (.lst ((f::fs).map Zc)),aa (Zr j),aa (spV p n)] s=.ok (.int ((k:Int)*gt f j)) s:=by
     rw[pv,Zk (v:=Zr k) rfl,Za,g1,Za];simp[Zr,W6,f1,f2]
    have hp0:0<p:=by omega
    rw[pv,pv,g3,Za,g2,Za];simp[pvE,Zn,hp0],rfl,λ_=>Zk rfl⟩)
  rw[io1]at hc2;have e6:pv (CV (d+1)) (.ix (.comp1 [5,4,0] 1 [0] (.rng1 (.ix (.v 0) (.c (.int 0)))) [(.cmp .eq (.bin .mod (.bin .mul (.v 0) (.ix (.ix (.v 1) (.c (.int 0))) (.v 2))) (.ix (.v 3) (.c (.int 0)))) (.c (.int 1)))] (.v 0)) (.c (.int 0))) ρ0 s=.ok (.int (Yh p (gt f j))) s:=by
   have:=Ul hc2;rw[Zr,io2]at this;exact this
  let ρ1:Env:=[aa (spV p n),aa v,aa (.lst (rest.map Zc)),aa (.lst (found.map Zc)),aa (Zr j),aa (.lst ((f::fs).map Zc)),aa (.int (Yh p (gt f j))),a7]
  have ef1:pv (CV (d+1)) (.ix (.v 5) (.c (.int 0))) ρ1 s=.ok (Zc f) s:=by
   exact Ul (Zk rfl)
  have hc3:=ZD (C:=CV (d+1)) (cap:=[6,0]) (nl:=1) (t:=[0]) (it:=.of (.ix (.v 5) (.c (.int 0)))) (elt:=.bin .mod (.bin .mul (.v 1) (.v 0)) (.ix (.v 2) (.c (.int 0)))) (ρ:=ρ1) (s:=s) (l:=f) (e:=V.int) (g:=λa=>V.int (Yh p (gt f j)*a%p))
   (by rw[pvw,ef1];rfl) (by rw[hfr.1];unfold lim;omega) (λa ha=>⟨[aa (.int a),aa (.int (Yh p (gt f j))),aa (spV p n)],rfl,by
    have h2:=hfr.2 a ha;have f1:=ZG (a:=Yh p (gt f j)) (by omega) (by omega)
    have f2:=ZG (a:=a) (by omega) (by omega)
    have g2:=ix0 (p:=p) (n:=n) (C:=CV (d+1)) (i:=2) (ρ:=[aa (.int a),aa (.int (Yh p (gt f j))),aa (spV p n)]) (s:=s) rfl;have hp0:0<p:=by omega
    have g:pv (CV (d+1)) (.bin .mul (.v 1) (.v 0)) [aa (.int a),aa (.int (Yh p (gt f j))),aa (spV p n)] s=.ok (.int (Yh p (gt f j)*a)) s:=by simp[pvE,f1,f2]
    rw[pv,g,Za,g2,Za];simp[pvF,hp0]⟩)
  have el:f.map (λa=>V.int (Yh p (gt f j)*a%p))=(lead p f j).map V.int:=by unfold lead Xy;rw[bH];rfl
  rw[el]at hc3;have e7:pv (CV (d+1)) (.blt .tuple [(.comp1 [6,0] 1 [0] (.of (.ix (.v 5) (.c (.int 0)))) [] (.bin .mod (.bin .mul (.v 1) (.v 0)) (.ix (.v 2) (.c (.int 0)))))]) ρ1 s=.ok (Zc (lead p f j)) s:=by
   rw[pv,Zd hc3 Zh];rfl
  let ρ2:Env:=[aa (spV p n),aa v,aa (.lst (rest.map Zc)),aa (.lst (found.map Zc)),aa (Zr j),aa (.lst ((f::fs).map Zc)),aa (.int (Yh p (gt f j))),aa (Zc (lead p f j))]
  have elt:∀r:Row,Zj p n r->pv (CV (d+1)) (.call 4 [(.v 1),(.v 0),(.v 2),(.neg (.ix (.v 0) (.v 3)))]) [aa (Zc r),aa (spV p n),aa (Zc (lead p f j)),aa (Zr j)] s=.ok (Zc (clr p r (lead p f j) j)) s:=λr hr=>by
   have hgr:=Wu ppos hr j;have h3:=Wi (r:=r) (k:=j) (by rw[hr.1];exact hj)
   have g1:pv (CV (d+1)) (.neg (.ix (.v 0) (.v 3))) [aa (Zc r),aa (spV p n),aa (Zc (lead p f j)),aa (Zr j)] s=.ok (.int (-(gt r j))) s:=by
    simp[pvE,Zc,Zr,h3]
   exact Zs (Zd (Zk rfl) (Zd (Zk rfl) (Zd (Zk rfl) (Zd g1 Zh)))) (qN d s hn hr hl1 ⟨by omega,by omega⟩)
  have hc4:=ZD (C:=CV (d+1)) (cap:=[0,7,4]) (nl:=1) (t:=[0]) (it:=.of (.v 2)) (elt:=.call 4 [(.v 1),(.v 0),(.v 2),(.neg (.ix (.v 0) (.v 3)))]) (ρ:=ρ2) (s:=s) (l:=rest) (e:=Zc) (g:=λr=>Zc (clr p r (lead p f j) j))
   (by rw[pvw,Zk (v:=.lst (rest.map Zc)) rfl];rfl) (by unfold lim;omega) (λr hr=>⟨_,rfl,elt r (hR.row r hr)⟩)
  let ρ3:Env:=[aa (spV p n),aa v,aa (.lst (rest.map λr=>Zc (clr p r (lead p f j) j))),aa (.lst (found.map Zc)),aa (Zr j),aa (.lst ((f::fs).map Zc)),aa (.int (Yh p (gt f j))),aa (Zc (lead p f j))]
  have hc5:=ZD (C:=CV (d+1)) (cap:=[0,7,4]) (nl:=1) (t:=[0]) (it:=.of (.v 3)) (elt:=.call 4 [(.v 1),(.v 0),(.v 2),(.neg (.ix (.v 0) (.v 3)))]) (ρ:=ρ3) (s:=s) (l:=found) (e:=Zc) (g:=λr=>Zc (clr p r (lead p f j) j))
   (by rw[pvw,Zk (v:=.lst (found.map Zc)) rfl];rfl) (by unfold lim;omega) (λr hr=>⟨_,rfl,elt r (hR.part.row r hr)⟩)
  have e9:pv (CV (d+1)) (.bin .add (.comp1 [0,7,4] 1 [0] (.of (.v 3)) [] (.call 4 [(.v 1),(.v 0),(.v 2),(.neg (.ix (.v 0) (.v 3)))])) (.lst [(.v 7)])) ρ3 s=.ok (.lst ((found.map λr=>Zc (clr p r (lead p f j) j))++[Zc (lead p f j)])) s:=by
   have hll:pv (CV (d+1)) (.lst [(.v 7)]) ρ3 s=.ok (.lst [Zc (lead p f j)]) s:=by
    rw[pv,Zd (Zk (v:=Zc (lead p f j)) rfl) Zh,Za,T9 (by simp[lim])]
   rw[pv,hc5,Za,hll,Za];show(if(found.map λr=>Zc (clr p r (lead p f j) j)).length+[Zc (lead p f j)].length<=lim then _ else _)=_
   rw[T9 (by rw[aH,cw];unfold lim;omega)]
  refine⟨rest.map λr=>clr p r (lead p f j) j,found.map (λr=>clr p r (lead p f j) j)++[lead p f j],aa (.lst ((f::fs).map Zc)),aa (.int (Yh p (gt f j))),aa (Zc (lead p f j)),?_,jy hR hj hf.1 hf.2,by rw[aH],by simp,hB.take hR hf.1⟩
  rw[Zg (ρ':=[aa (spV p n),aa v,aa (.lst (rest.map λr=>Zc (clr p r (lead p f j) j))),aa (.lst ((found.map λr=>Zc (clr p r (lead p f j) j))++[Zc (lead p f j)])),aa (Zr j),aa (.lst ((f::fs).map Zc)),aa (.int (Yh p (gt f j))),aa (Zc (lead p f j))]) (os':=[]) (s':=s) ((X9 e1).trans (by
   rw[T9 rfl,Zg (Z0 e6 rfl)];show rvs _ _ _ ρ1 [] s=_;rw[Zg (Z0 e7 rfl)];show rvs _ _ _ ρ2 [] s=_;rw[Zg (Z0 hc4 rfl)];show rvs _ _ _ ρ3 [] s=_;rw[Zg (Z0 e9 rfl),rvs];rfl)),rvs]
  rw[bH,d6,bH];rfl
def yd{n j:Nat}{x:Nat}{l:List Nat}(h:x::l=(aI n).drop j):x=j/\j<n/\l=(aI n).drop (j+1):=by
 have hj:j<n:=by
  by_cases c:j<n
  ·exact c
  ·rw[List.drop_eq_nil_of_le (by rw[bL];omega)]at h;cases h
 rw[dD (by rw[bL];exact hj)]at h
 injection h with h1 h2
 exact⟨by rw[h1,List.getElem_range],hj,h2⟩
def Wt(d:Nat){R:List Row}{v:V}(s:DS)(hn:n<=6)(hR:∀r∈R,Zj p n r)(hl:R.length<=1000)(hv:Z7 v=aa (R.map Zc)):∃P,CV (d+2) 5 [spV p n,v] s=.ok (Ze P) s/\Spans p n R P:=by
 let I:List Nat->Env->Prop:=λl ρ=>∃rest found j a4 a5 a6 a7,ρ=[aa (spV p n),aa v,aa (.lst (rest.map Zc)),aa (.lst (found.map Zc)),a4,a5,a6,a7]/\l=(aI n).drop j/\Red p n j rest found/\rest.length<=1000/\found.length<=j/\Bk p n R rest found
 obtain⟨ρ',hI,e⟩:=JP (C:=CV (d+1)) (ms:=[]) (t:=[4]) (it:=.rng1 (.ix (.v 0) (.c (.int 1)))) (b:=uI) (L:=aI n) (e:=Zr) (os:=[]) (s:=s) (ρ:=[aa (spV p n),aa v,aa (.lst (R.map Zc)),aa (.lst []),ac,ac,ac,ac]) I
  (Xs (ix1 rfl) (by omega)) ⟨R,[],0,ac,ac,ac,ac,rfl,rfl,⟨hR,λr _ i hi=>by omega,pZ.nil,λr hr=>by cases hr⟩,hl,aD _,λW hW=>⟨λh=>h.1,λh=>⟨h,λr hr=>by cases hr⟩⟩⟩ rfl (λx l ρ hx=>by
   obtain⟨rest,found,j,a4,a5,a6,a7,rfl,hl',hred,h1,h2,h3⟩:=hx;obtain⟨rfl,hj,hl2⟩:=yd hl';obtain⟨rest',found',b5,b6,b7,e1,e2,e3,e4,e5⟩:=qE (p:=p) (n:=n) d (rest:=rest) (found:=found) (j:=x) (v:=v) (a5:=a5) (a6:=a6) (a7:=a7) s hn hj hred h3 h1 (by omega)
   exact⟨rfl,_,_,rfl,e1,rest',found',x+1,_,_,_,_,rfl,hl2,e2,by omega,by omega,e5⟩)
 obtain⟨rest,found,j,a4,a5,a6,a7,rfl,hz,hred,_,_,hB⟩:=hI;have hj:n<=j:=by
  have:=congrArg lR hz;rw[cq,bL,d4]at this;omega
 refine⟨found,Zv (fn:=Wm) rfl (by decide) rfl ?_,hB.spans hred hj⟩
 show rvs (CV (d+1)) [] (.asg [2] (.blt .list [(.v 1)]) :: .asg [3] (.lst []) :: .forr [4] (.rng1 (.ix (.v 0) (.c (.int 1)))) uI :: .ret (.blt .tuple [(.v 3)])::[]) [aa (spV p n),aa v,ac,ac,ac,ac,ac,ac] [] s=_;have hlst:pv (CV (d+1)) (.blt .list [(.v 1)]) [aa (spV p n),aa v,ac,ac,ac,ac,ac,ac] s=.ok (.lst (R.map Zc)) s:=by
  rw[pv,Zd (Zk (v:=v) rfl) Zh,Za];show po ((Z7 v).map V.lst) s=_;rw[hv];rfl
 rw[Zg (Z0 hlst rfl)];show rvs _ _ _ [aa (spV p n),aa v,aa (.lst (R.map Zc)),ac,ac,ac,ac,ac] _ _=_;rw[Zg (ρ':=[aa (spV p n),aa v,aa (.lst (R.map Zc)),aa (.lst []),ac,ac,ac,ac]) (os':=[]) (s':=s) (by simp[pvE])]
 show rvs _ _ (.forr [4] (.rng1 (.ix (.v 0) (.c (.int 1)))) uI::_) _ _ _=_;rw[Zg e];exact Zl (ZP (by simp[pvE,Ze]))
def jr(d:Nat)(s:DS)(hn:n<=6):∃P s',CV (d+3) 7 [.drw,spV p n] s=.ok (Ze P) s'/\pZ p n P:=by
 obtain⟨v,s1,f1,f2,f3⟩:=xT (F:=fns) (tk:=2) (d:=d+1) (m:=(n:Int)+1) s (by omega) (by omega)
 obtain⟨k,rfl⟩:∃k:Nat,v=k:=⟨v.toNat,by omega⟩
 obtain⟨ys,s2,e1,e2,e3⟩:=QJ (C:=CV (d+2)) (cap:=[0,1]) (nl:=1) (t:=[0]) (it:=.rng1 (.v 2)) (elt:=.call 6 [(.v 1),(.v 2)]) (ρ:=[aa .drw,aa (spV p n),aa (.int k)]) (s:=s1) (k:=k) (Q:=λy=>∃r:Row,y=Zc r/\Zj p n r)
  (by rw[JL];exact Xs (Zk rfl) (by omega)) (by unfold lim;omega) (λx s=>by
   obtain⟨r,s',g1,g2⟩:=Qt (p:=p) (n:=n) d s hn;exact⟨[aa x,aa .drw,aa (spV p n)],Zc r,s',rfl,Zs (Zd (Zk rfl) (Zd (Zk rfl) Zh)) g1,r,rfl,g2⟩)
 have:∃R:List Row,ys=R.map Zc/\∀r∈R,Zj p n r:=by
  clear e1 e2
  induction ys with
  |nil=>exact⟨[],rfl,λ_ h=>by cases h⟩
  |cons y ys ih=>
   obtain⟨r,h1,h2⟩:=ih λz hz=>e3 z (al _ hz)
   obtain⟨a,rfl,h3⟩:=e3 y (am ..);refine⟨a::r,by rw[h1];rfl,λx hx=>?_⟩
   rcases az.mp hx with rfl | hx
   ·exact h3
   ·exact h2 x hx
 obtain⟨R,rfl,hR⟩:=this;rw[aH]at e2;obtain⟨P,e4,hP⟩:=Wt (p:=p) (n:=n) d (v:=.lst (R.map Zc)) s2 hn hR (by omega) rfl
 refine⟨P,s2,Zv (fn:=V7) rfl (by decide) rfl ?_,hP.part⟩
 show rvs (CV (d+2)) [] (.asg [2] (.call 2 [(.v 0),(.bin .add (.ix (.v 1) (.c (.int 1))) (.c (.int 1)))]) :: .ret (.call 5 [(.v 1),(.comp1 [0,1] 1 [0] (.rng1 (.v 2)) [] (.call 6 [(.v 1),(.v 2)]))])::[]) [aa .drw,aa (spV p n),ac] [] s=_;have g1:pv (CV (d+2)) (.bin .add (.ix (.v 1) (.c (.int 1))) (.c (.int 1))) [aa .drw,aa (spV p n),ac] s=.ok (.int ((n:Int)+1)) s:=by
  rw[pv,ix1 (p:=p) (n:=n) rfl];simp[pvE]
 rw[Zg (Z0 (Zs (Zd (Zk rfl) (Zd g1 Zh)) f1) rfl)];exact Zl (ZP (Zs (Zd (Zk rfl) (Zd e1 Zh)) e4))
end
section
variable{C:Zy}{ρ:Env}{s:DS}{a b:E}
def Zec{c:Bool}(h1:pv C a ρ s=.ok (.bl ai) s)(h2:pv C b ρ s=.ok (.bl c) s):pv C (.or a b) ρ s=.ok (.bl c) s:=by rw[pv,h1];exact h2
def VY{c:Bool}(h1:pv C a ρ s=.ok (.bl c) s):pv C (.not a) ρ s=.ok (.bl !c) s:=by rw[pv,h1];rfl
def J5{P Q:List Row}(h1:pv C a ρ s=.ok (Ze P) s)(h2:pv C b ρ s=.ok (Ze Q) s):pv C (.cmp .eq a b) ρ s=.ok (.bl (ae (P=Q))) s:=by
 rw[pv,h1,Za,h2,Za];show po ((eqV Zn (Ze P) (Ze Q)).map V.bl) s=_;rw[Zn,Zaf];rfl
def guard{ms:List Nat}{t:E}{x l:List Sm}(h:pv C t ρ s=.ok (.bl ai) s):rvs C ms (.ite t x []::l) ρ [] s=rvs C ms l ρ [] s:=by
 rw[Zg ((X9 (XF h rfl)).trans (by rw[T8 (by simp),rvs]))]
def qz{P:List Row}(h1:pv C a ρ s=.ok (Ze P) s):pv C (.blt .len [a]) ρ s=.ok (.int P.length) s:=by
 rw[pv,Zd h1 Zh,Za];show po (aa (V.int (P.map Zc).length)) s=_;rw[aH];rfl
def jz{x y:Int}(h1:pv C a ρ s=.ok (.int x) s)(h2:pv C b ρ s=.ok (.int y) s):pv C (.bin .add a b) ρ s=.ok (.int (x+y)) s:=by
 rw[pv,h1,Za,h2,Za];rfl
def vy{x y:List V}(h1:pv C a ρ s=.ok (.lst x) s)(h2:pv C b ρ s=.ok (.lst y) s)(h:x.length+y.length<=lim):pv C (.bin .add a b) ρ s=.ok (.lst (x++y)) s:=by
 rw[pv,h1,Za,h2,Za];show(if x.length+y.length<=lim then _ else _)=_
 rw[T9 h]
end
noncomputable def menu:List (Nat×Nat×Nat):=[(2,2,1),(4,2,2),(8,2,3),(16,2,4),(32,2,5),(64,2,6),(3,3,1),(9,3,2),(27,3,3),(81,3,4),(5,5,1),(25,5,2),(125,5,3)]
def Zbu:∀q∈menu,(q.2.1=2\/q.2.1=3\/q.2.1=5)/\1<=q.2.2/\q.2.2<=6/\q.2∈Zcl++Zc6:=by decide
def vp(d:Nat){m:Int}(s:DS)(hm:2<=m):∃p n s',CV (d+2) 3 [.drw,.int m] s=.ok (spV p n) s'/\(p=2\/p=3\/p=5)/\1<=n/\n<=6/\(p,n)∈Zcl++Zc6:=by
 let L:=menu.filter λq=>ae ((q.1:Int)<=m)
 have hL:0<L.length:=List.length_pos_of_mem (a:=(2,2,1)) (bK.mpr ⟨am ..,T5 hm⟩);have hL2:L.length<=13:=d7 ..;have hc:=Xt (C:=CV (d+1)) (cap:=[1]) (nl:=2) (t:=[0,1]) (it:=.of (.v 2)) (tst:=.cmp .le (.v 0) (.v 2)) (elt:=.v 1) (ρ:=[aa .drw,aa (.int m),aa (.lst (menu.map λq=>.tup [.int q.1,spV q.2.1 q.2.2]))]) (s:=s) (l:=menu) (e:=λq=>.tup [.int q.1,spV q.2.1 q.2.2]) (g:=λq=>spV q.2.1 q.2.2) (q:=λq=>ae ((q.1:Int)<=m))
  (by rw[pvw,Zk (v:=.lst (menu.map λq=>.tup [.int q.1,spV q.2.1 q.2.2])) rfl];rfl) (by decide) (λq _=>⟨[aa (.int q.1),aa (spV q.2.1 q.2.2),aa (.int m)],.bl (ae ((q.1:Int)<=m)),rfl,by
   rw[pv,Zk (v:=.int q.1) rfl,Za,Zk (v:=.int m) rfl];rfl,rfl,λ_=>Zk rfl⟩)
 obtain⟨v,s',f1,f2,f3⟩:=xT (F:=fns) (tk:=2) (d:=d) (m:=L.length) s (by omega) (by omega)
 obtain⟨k,rfl⟩:∃k:Nat,v=k:=⟨v.toNat,by omega⟩
 have hk:k<L.length:=by omega
 have hq:=Zbu _ (bK.mp (ba hk)).1;refine⟨L[k].2.1,L[k].2.2,s',Zv (fn:=Vd) rfl (by decide) rfl ?_,hq⟩
 show rvs (CV (d+1)) [] (.asg [2] (.lst [(.tup [(.c (.int 2)),(.tup [(.c (.int 2)),(.c (.int 1))])]),(.tup [(.c (.int 4)),(.tup [(.c (.int 2)),(.c (.int 2))])]),(.tup [(.c (.int 8)),(.tup [(.c (.int 2)),(.c (.int 3))])]),(.tup [(.c (.int 16)),(.tup [(.c (.int 2)),(.c (.int 4))])]),(.tup [(.c (.int 32)),(.tup [(.c (.int 2)),(.c (.int 5))])]),(.tup [(.c (.int 64)),(.tup [(.c (.int 2)),(.c (.int 6))])]),(.tup [(.c (.int 3)),(.tup [(.c (.int 3)),(.c (.int 1))])]),(.tup [(.c (.int 9)),(.tup [(.c (.int 3)),(.c (.int 2))])])]) ::
  .asg [2] (.bin .add (.v 2) (.lst [(.tup [(.c (.int 27)),(.tup [(.c (.int 3)),(.c (.int 3))])]),(.tup [(.c (.int 81)),(.tup [(.c (.int 3)),(.c (.int 4))])]),(.tup [(.c (.int 5)),(.tup [(.c (.int 5)),(.c (.int 1))])]),(.tup [(.c (.int 25)),(.tup [(.c (.int 5)),(.c (.int 2))])]),(.tup [(.c (.int 125)),(.tup [(.c (.int 5)),(.c (.int 3))])])])) ::
  .asg [2] (.comp1 [1] 2 [0,1] (.of (.v 2)) [(.cmp .le (.v 0) (.v 2))] (.v 1)) ::
  .ret (.ix (.v 2) (.call 2 [(.v 0),(.blt .len [(.v 2)])]))::[]) [aa .drw,aa (.int m),ac] [] s=_
 rw[Zg (ρ':=[aa .drw,aa (.int m),aa (.lst ((menu.take 8).map λq=>.tup [.int q.1,spV q.2.1 q.2.2]))]) (os':=[]) (s':=s) (by simp[pvE,menu,spV])]
 rw[Zg (ρ':=[aa .drw,aa (.int m),aa (.lst (menu.map λq=>.tup [.int q.1,spV q.2.1 q.2.2]))]) (os':=[]) (s':=s) (by simp[pvE,menu,spV])]
 rw[Zg (Z0 hc rfl)];show rvs _ _ _ [aa .drw,aa (.int m),aa (.lst (L.map λq=>spV q.2.1 q.2.2))] _ _=_
 refine Zl (ZP ?_);have e1:pv (CV (d+1)) (.blt .len [(.v 2)]) [aa .drw,aa (.int m),aa (.lst (L.map λq=>spV q.2.1 q.2.2))] s=.ok (.int L.length) s:=by
  rw[pv,Zd (Zk (v:=.lst (L.map λq=>spV q.2.1 q.2.2)) rfl) Zh,Za]
  show po (aa (V.int (L.map λq=>spV q.2.1 q.2.2).length)) s=_
  rw[aH];rfl
 rw[pv,Zk (v:=.lst (L.map λq=>spV q.2.1 q.2.2)) rfl,Za,Zs (Zd (Zk rfl) (Zd e1 Zh)) f1,Za]
 show po (at' (L.map λq=>spV q.2.1 q.2.2) (k:Int)) s'=_
 rw[U5 (x:=spV L[k].2.1 L[k].2.2) (by rw[bg,ah hk];rfl)];rfl
section
variable{C:Zy}{ρ:Env}{s s1 s2:DS}{a b:E}{x y:V}{xs ys:List V}
def Yw{i:Int}:pv C (.c (.int i)) ρ s=.ok (.int i) s:=by rw[pv];rfl
def pick{i:E}{v:Int}(h1:pv C a ρ s=.ok (.lst xs) s1)(h2:pv C i ρ s1=.ok (.int v) s2)(h0:0<=v)(hv:v<xs.length):∃x,x∈xs/\pv C (.ix a i) ρ s=.ok x s2:=by
 obtain⟨k,rfl⟩:∃k:Nat,v=k:=⟨v.toNat,by omega⟩
 have hk:k<xs.length:=by omega
 refine⟨xs[k],ba hk,?_⟩;rw[pv,h1,Za,h2,Za];show po (at' xs (k:Int)) s2=_;rw[U5 (ah hk)];rfl
def YK(d:Nat)(s:DS){m:Int}{ρ:Env}{i:Nat}{e:E}(hd:ρ[i]? = aa (aa .drw))(he:pv (CV (d+1)) e ρ s=.ok (.int m) s)(h0:0<m)(h1:m<1000):∃v s',pv (CV (d+1)) (.call 2 [(.v i),e]) ρ s=.ok (.int v) s'/\0<=v/\v<m:=by
 obtain⟨v,s',e1,b⟩:=xT (F:=fns) (tk:=2) (d:=d) (m:=m) s h0 (by omega)
 exact⟨v,s',Zs (Zd (Zk hd) (Zd he Zh)) e1,b⟩
def XT(h1:pv C a ρ s=.ok (.tup xs) s)(h2:pv C b ρ s=.ok (.tup ys) s)(h:xs.length+ys.length<=1000):pv C (.bin .add a b) ρ s=.ok (.tup (xs++ys)) s:=by
 rw[pv,h1,Za,h2,Za];show(if xs.length+ys.length<=lim then _ else _)=_
 rw[T9 (by unfold lim;omega)]
def qQ(h1:pv C a ρ s=.ok (.tup xs) s){k:Int}(h2:pv C b ρ s=.ok (.int k) s):pv C (.sl a ac (aa b)) ρ s=.ok (.tup (YH xs ac (aa k))) s:=by
 rw[pv,h1,Za,pvo,Za,pvo,h2,Za];rfl
def Uu(h1:pv C a ρ s=.ok (.tup xs) s){k:Int}(h2:pv C b ρ s=.ok (.int k) s):pv C (.sl a (aa b) ac) ρ s=.ok (.tup (YH xs (aa k) ac)) s:=by
 rw[pv,h1,Za,pvo,h2,Za];show((PR.ok (aa k) s).bind λl s=>(pvo C ac ρ s).bind λh s=>po (slV (.tup xs) l h) s)=_
 rw[Za,pvo,Za];rfl
def XY{lo hi:Option Int}:(YH xs lo hi).length<=xs.length:=by
 unfold YH;rw[cp,cq];omega
def zw(h:∀x∈xs,okV x=ag):YV xs=ag:=by
 induction xs with
 |nil=>rfl
 |cons x xs ih=>
  show(okV x&&YV xs)=ag;rw[h x (am ..),ih λy hy=>h y (al _ hy)];rfl
def Xw{lo hi:Option Int}(h:YV xs=ag):YV (YH xs lo hi)=ag:=
 zw λx hx=>XC h x (List.mem_of_mem_drop (List.mem_of_mem_take hx))
def UR(h:YV xs=ag)(h2:YV ys=ag):YV (xs++ys)=ag:=
 zw λx hx=>by
  rcases bQ.mp hx with z | z
  ·exact XC h x z
  ·exact XC h2 x z
def XZ(h:pv C a ρ s=.ok x s):pv C (.tup [a]) ρ s=.ok (.tup [x]) s:=by
 rw[pv,Zd h Zh];rfl
def y8{α:Type}{ms:List Nat}{i:Nat}{it:W}{b:List Sm}{L:List α}{e:α->V}{q:α->Bool}{v:V}{ρ:Option V->Env}(o:Option V)(hw:pvw C it (hide [] (ρ o)) s=.ok (L.map e) s)(hs:∀o x,(ρ o).set i (aa x)=ρ (aa x))(hb:∀x∈L,rvs C ms b (ρ (aa (e x))) [] s=if q x=ag then .ok (.ret v) s else .ok (.nx (ρ (aa (e x))) []) s) :
  (L.any q=ag->rv C ms (.forr [i] it b) (ρ o) [] s=.ok (.ret v) s)/\(L.any q=ai->∃o',rv C ms (.forr [i] it b) (ρ o) [] s=.ok (.nx (ρ o') []) s):=by
 rw[rv,hw,Za];clear hw
 induction L generalizing o with
 |nil=>exact⟨λh=>(by cases h),λ_=>⟨o,rfl⟩⟩
 |cons x L ih=>
  have ih:=ih (aa (e x)) λy hy=>hb y (al _ hy)
  have h1:=hb x (am ..);have step:XN (λx ρ os s=>if(([i]:List Nat).any os.contains)=ag then .no else if(os.isEmpty||x.flat)=ag then(po (Zx [i] x ρ) s).bind λρ s=>rvs C ms b ρ os s else .no) ((x::L).map e) (ρ o) [] s=if q x=ag then .ok (.ret v) s else XN (λx ρ os s=>if(([i]:List Nat).any os.contains)=ag then .no else if(os.isEmpty||x.flat)=ag then(po (Zx [i] x ρ) s).bind λρ s=>rvs C ms b ρ os s else .no) (L.map e) (ρ (aa (e x))) [] s:=by
   rw[aS,XN,T8 (by simp),T9 (by rfl)]
   show((PR.ok ((ρ o).set i (aa (e x))) s).bind λρ s=>rvs C ms b ρ [] s).bind _=_
   rw[Za,hs o (e x),h1];cases q x <;> rfl
  rw[step,eR];cases hq:q x with
  |true=>exact⟨λ_=>rfl,λh=>(by cases h)⟩
  |false=>
   rw[T8 (by simp),mE]
   exact ih
def Th(m:Nat)(x:V):Prop:=okV x=ag/\∀xs,x=.tup xs->xs.length<=m
def XD{m:Nat}(h:YV xs=ag)(hl:xs.length<=m):Th m (.tup xs):=⟨h,λys e=>by cases e;exact hl⟩
theorem xj{Q:V->Prop}:∀{es:List E},(∀e∈es,∃v,pv C e ρ s=.ok v s/\Q v)->∃vs,pvs C es ρ s=.ok vs s/\vs.length=es.length/\∀v∈vs,Q v
 |[],_=>⟨[],Zh,rfl,λ_ h=>by cases h⟩
 |e::es,h=>by
  obtain⟨v,e1,q1⟩:=h e (am ..);obtain⟨vs,e2,l2,q2⟩:=xj λe he=>h e (al _ he)
  refine⟨v::vs,Zd e1 e2,by rw[aR,aR,l2],λu hu=>?_⟩
  rcases az.mp hu with rfl | hu
  ·exact q1
  ·exact q2 u hu
end
section
variable{p n:Nat}[Base p]
def vJ(d:Nat){x:V}(s:DS)(hx:x≠.drw):CV (d+1) 32 [x] s=.ok (.bl (match x with | .int _=>ag | _=>ai)) s:=by
 refine Zv (fn:=Y2) rfl (by decide) rfl ?_
 show rvs (CV d) [] Y2.body [aa x] [] s=_;cases x with|drw=>exact T7 rfl hx|_=>simp[Y2,pvE,Z2,YG]
def zI(d:Nat){x:V}(s:DS)(hn:n<=6)(hx:okV x=ag):CV (d+2) 33 [spV p n,x] s=.ok (.bl (ZZ p n x)) s:=by
 refine Zv (fn:=YE) rfl (by decide) rfl ?_
 show rvs (CV (d+1)) [] YE.body [aa (spV p n),aa x] [] s=_
 dsimp only[YE]
 have e1:=ix1 (p:=p) (n:=n) (C:=CV (d+1)) (i:=0) (ρ:=[aa (spV p n),aa x]) (s:=s) rfl;cases x with
 |drw=>cases hx
 |tup xs=>
  have g:pv (CV (d+1)) (.or (.not (.isi (.v 1) [.tuple])) (.cmp .ne (.blt .len [(.v 1)]) (.ix (.v 0) (.c (.int 1))))) [aa (spV p n),aa (.tup xs)] s=.ok (.bl !(ae (xs.length=n))) s:=by
   rw[pv];have:pv (CV (d+1)) (.not (.isi (.v 1) [.tuple])) [aa (spV p n),aa (.tup xs)] s=.ok (.bl ai) s:=by simp[pvE,Z2,YG]
   rw[this,Za];show pv _ (.cmp .ne _ _) _ _=_;rw[pv];have:pv (CV (d+1)) (.blt .len [(.v 1)]) [aa (spV p n),aa (.tup xs)] s=.ok (.int xs.length) s:=by simp[pvE]
   rw[this,Za,e1,Za];show po (aa (V.bl !(ae ((xs.length:Int)=n)))) s=_;rw[show(ae ((xs.length:Int)=n))=ae (xs.length=n) by rw[decide_eq_decide];omega];rfl
  by_cases hl:xs.length=n
  ·rw[T5 hl]at g
   rw[guard g];refine Zl (ZP ?_);have hc:=ZD (C:=CV (d+1)) (cap:=[0]) (nl:=1) (t:=[0]) (it:=.of (.v 1)) (elt:=.and (.call 32 [(.v 0)]) (.chain .le .lt (.c (.int 0)) (.v 0) (.ix (.v 1) (.c (.int 0))))) (ρ:=[aa (spV p n),aa (.tup xs)]) (s:=s) (l:=xs) (e:=id) (g:=λv=>V.bl (isW v 0 ((p:Int)-1)))
    (by simp[pvE]) (by unfold lim;omega) (λv hv=>⟨[aa v,aa (spV p n)],rfl,by
     have e:=Zs (Zd (Zk (C:=CV (d+1)) (i:=0) (ρ:=[aa v,aa (spV p n)]) (s:=s) rfl) Zh) (vJ d s (ZbW (XC hx v hv)));have e0:=ix0 (p:=p) (n:=n) (C:=CV (d+1)) (i:=1) (ρ:=[aa v,aa (spV p n)]) (s:=s) rfl;rw[pv,e,Za];cases v with
     |int i=>
      show pv _ _ _ _=_;rw[pv,Yw,Za,Zk rfl,Za];show(po (aa (V.bl (ae (0<=i)))) s).bind _=_;rw[Z6,Za];by_cases c:0<=i
      ·rw[T5 c]
       show(if ag=ag then _ else _)=_
       rw[T9 rfl,e0,Za];show po (aa (V.bl (ae (i<(p:Int))))) s=PR.ok (V.bl (ae (0<=i)&&ae (i<=(p:Int)-1))) s;rw[T5 c,mJ,show ae (i<(p:Int))=ae (i<=(p:Int)-1) by rw[decide_eq_decide];omega];rfl
      ·rw[T4 c]
       show _=PR.ok (V.bl (ae (0<=i)&&ae (i<=(p:Int)-1))) s;rw[T4 c];rfl
     |_=>rfl⟩)
   have ht:=Yk (g:=λv:V=>isW v 0 ((p:Int)-1)) xs
   rw[pv,Zd hc Zh,Za];show po ((ZS _).map λbs=>V.bl (bs.all id)) s=_
   rw[ht];show PR.ok (V.bl ((xs.map _).all id)) s=PR.ok (V.bl (ae (xs.length=n)&&_)) s;rw[gh,T5 hl];rfl
  ·rw[T4 hl,gE]at g
   refine Zl ?_;rw[X9 (XF g rfl),T9 rfl,Zl (ZP (v:=.bl ai) (by rw[pv];rfl))]
   show _=PR.ok (FlV.ret (V.bl (ae (xs.length=n)&&_))) s;rw[T4 hl];rfl
 |_=>exact Zl (by simp[pvE,Z2,YG,ZZ])
noncomputable def Zbr(v:V):Bool:=match v with
 |.tup xs=>match intsV xs with
  |some r=>(hdI r).isSome
  |none=>ai
 |_=>ai
theorem Wd:∀r:Row,ZS (r.map V.int)=aa (r.map λa=>ae (a≠0))
 |[]=>rfl
 |a::r=>by rw[aS,ZS,Wd r];rfl
theorem ug:∀r:Row,(r.map λa=>ae (a≠0)).any id=(hdI r).isSome
 |[]=>rfl
 |a::r=>by
  rw[aS,eR,ug r,hdI];by_cases c:a=0
  ·subst c
   rw[T8 (by simp)]
   cases hdI r <;> rfl
  ·rw[T9 c,show id (ae (a≠0))=ag from T5 c];rfl
def Zao{C:Zy}{ρ:Env}{i:Nat}{r:Row}(s:DS)(h:ρ[i]? = aa (aa (Zc r))):pv C (.blt .any [(.v i)]) ρ s=.ok (.bl (hdI r).isSome) s:=by
 rw[pv,Zd (Zk h) Zh,Za];show po ((ZS (r.map V.int)).map λbs=>V.bl (bs.any id)) s=_
 rw[Wd];show PR.ok (V.bl _) s=_;rw[ug]
def zy(d:Nat){x:V}(s:DS)(hn:n<=6)(hx:okV x=ag)(hl:∀xs,x=.tup xs->xs.length<=1000):CV (d+3) 34 [spV p n,x] s=.ok (.bl (isP p n x)) s:=by
 refine Zv (fn:=Yo) rfl (by decide) rfl ?_
 show rvs (CV (d+2)) [] Yo.body [aa (spV p n),aa x,ac] [] s=_
 dsimp only[Yo]
 cases x with
 |drw=>cases hx
 |tup xs=>
  have hl:=hl xs rfl;rw[guard (by simp[pvE,Z2,YG])]
  obtain⟨f1,f2⟩:=y8 (C:=CV (d+2)) (ms:=[]) (s:=s) (i:=2) (it:=.of (.v 1)) (b:=[.ite (.or (.not (.call 33 [(.v 0),(.v 2)])) (.not (.blt .any [(.v 2)]))) [.ret (.c (.bl ai))] []]) (L:=xs) (e:=id) (q:=λv=>!(ZZ p n v&&Zbr v)) (v:=.bl ai) (ρ:=λo=>[aa (spV p n),aa (.tup xs),o]) ac
   (by rw[List.map_id];simp[pvE]) (λ_ _=>rfl) (λv hv=>by
    have e:=zI (p:=p) d s hn (XC hx v hv);have e1:=Zs (Zd (Zk (C:=CV (d+2)) (i:=0) (v:=spV p n) (ρ:=[aa (spV p n),aa (.tup xs),aa v]) (s:=s) rfl) (Zd (Zk (i:=2) (v:=v) rfl) Zh)) e;show rvs _ _ _ [aa (spV p n),aa (.tup xs),aa v] _ _=if _ then _ else PR.ok (FlV.nx [aa (spV p n),aa (.tup xs),aa v] []) s
    cases hb:ZZ p n v with
    |false=>
     rw[hb]at e1;rw[T9 (by simp[hb])]
     refine Zl ?_;rw[X9 (XF (v:=.bl ag) (b:=ag) (by rw[pv,VY e1];rfl) rfl),T9 rfl]
     exact Zl (ZP (by rw[pv];rfl))
    |true=>
     rw[hb]at e1;obtain⟨r,rfl,hr⟩:=qH hb;have e2:=Zao (C:=CV (d+2)) (ρ:=[aa (spV p n),aa (.tup xs),aa (Zc r)]) (i:=2) s rfl;have e3:Zbr (Zc r)=(hdI r).isSome:=by
      show(match intsV (r.map V.int)with | some r=>(hdI r).isSome | none=>ai)=_
      rw[XV]
     have e4:VI (CV (d+2)) (.or (.not (.call 33 [(.v 0),(.v 2)])) (.not (.blt .any [(.v 2)]))) [aa (spV p n),aa (.tup xs),aa (Zc r)] s=.ok (!(hdI r).isSome) s:=XF (v:=.bl !(hdI r).isSome) (Zec (VY e1) (VY e2)) rfl;rw[e3,mJ];cases hh:(hdI r).isSome with
     |false=>
      rw[hh,gE]at e4;rw[gE,T9 rfl];refine Zl ?_;rw[X9 e4,T9 rfl];exact Zl (ZP (by rw[pv];rfl))
     |true=>
      rw[hh]at e4;rw[T8 (by simp),Zg ((X9 e4).trans (by rw[T8 (by simp),rvs])),rvs])
  cases ha:xs.any λv=>!(ZZ p n v&&Zbr v)with
  |true=>
   rw[Zl (f1 ha)];have:isP p n (.tup xs)=ai:=by
    cases hp:isP p n (.tup xs)with
    |false=>rfl
    |true=>
     exfalso
     obtain⟨P,e,hP⟩:=Ui.mp hp;cases e;obtain⟨v,hv,hq⟩:=eF.mp ha;obtain⟨r,hr,rfl⟩:=aO.mp hv;obtain⟨k,hk,_⟩:=hP.head fld.one0 hr;have e3:Zbr (Zc r)=(hdI r).isSome:=by
      show(match intsV (r.map V.int)with | some r=>(hdI r).isSome | none=>ai)=_
      rw[XV]
     rw[jY (hP.row r hr),e3,hk]at hq;cases hq
   rw[this]
  |false=>
   obtain⟨o,f3⟩:=f2 ha;rw[Zg f3];have hall:∀v∈xs,ZZ p n v=ag:=λv hv=>by
    have:=kT.mp ha v hv;simp at this;exact this.1
   obtain⟨R,rfl,hR⟩:=WJ (p:=p) (aU.mpr hall);obtain⟨P,e4,hS⟩:=Wt (p:=p) (n:=n) d (v:=.tup (R.map Zc)) s hn hR (by simpa using hl) rfl
   refine Zl (ZP ?_);have e5:=J5 (C:=CV (d+2)) (ρ:=[aa (spV p n),aa (Ze R),o]) (Zs (Zd (Zk (i:=0) rfl) (Zd (Zk (i:=1) rfl) Zh)) e4) (Zk (i:=1) (v:=Ze R) rfl);rw[show ae (P=R)=isP p n (.tup (R.map Zc))from ?_]at e5
   ·exact e5
   ·rw[bz,T2,Ui]
    constructor
    ·rintro rfl
     exact⟨P,rfl,hS.part⟩
    ·rintro ⟨Q,e,hQ⟩
     have e:Ze R=Ze Q:=e;have e:R=Q:=by
      have:=congrArg (λv=>match v with | V.tup ks=>Xi ks | _=>ac) e
      have:Xi (R.map Zc)=Xi (Q.map Zc):=this;rw[YA,YA]at this;exact af this
     subst e;exact hS.uniq (Spans.self hQ)
 |_=>exact Zl (by simp[pvE,Z2,YG,isP])
end
noncomputable def QE:List V:=[.non,.bl ag,.bl ai,.int (-1),.int 0,.int 1,.str (bh ""),.str (bh "1"),.tup [],.lst [],.tup [.tup []],.tup [.tup [.int 0]],.tup [.tup [.int 1]],.lst [.tup [.int 1]],.dct ac,.tup [.non],.int (10^29)]
noncomputable def zY:List V:=[.tup [.tup [.int 1,.int 0],.tup [.int 0,.int 1]],.tup [.tup [.bl ag]],.tup [.tup [.tup [.int 1]]]]
def Zdz:∀v∈QE++zY,okV v=ag:=by
 intro v h;refine XC (xs:=QE++zY) ?_ v h;rfl
def vg:∀v∈QE++zY,∀xs,v=.tup xs->xs.length<=1000:=by
 intro v h xs e;subst e;simp only[QE,zY,ig,eV,az,bt,or_false,reduceCtorEq,false_or,V.tup.injEq]at h;rcases h with rfl | rfl | rfl | rfl | rfl | rfl | rfl | rfl <;> decide
def ZbO(d:Nat)(s:DS):∃x s',CV (d+2) 30 [.drw] s=.ok x s'/\Th 1000 x:=by
 obtain⟨v,s1,t1,t2,t3⟩:=YK d s (m:=20) (i:=0) (e:=.c (.int 20)) (ρ:=[aa .drw,aa (.lst QE)]) rfl Yw (by decide) (by decide)
 have e1:pv (CV (d+1)) (.bin .add (.v 1) (.lst [(.tup [(.tup [(.c (.int 1)),(.c (.int 0))]),(.tup [(.c (.int 0)),(.c (.int 1))])]),(.tup [(.tup [(.c (.bl ag))])]),(.tup [(.tup [(.tup [(.c (.int 1))])])])])) [aa .drw,aa (.lst QE)] s=.ok (.lst (QE++zY)) s:=by
  have g:pv (CV (d+1)) (.lst [(.tup [(.tup [(.c (.int 1)),(.c (.int 0))]),(.tup [(.c (.int 0)),(.c (.int 1))])]),(.tup [(.tup [(.c (.bl ag))])]),(.tup [(.tup [(.tup [(.c (.int 1))])])])]) [aa .drw,aa (.lst QE)] s=.ok (.lst zY) s:=by simp[pvE,ofD,zY]
  exact vy (Zk rfl) g (by decide)
 obtain⟨x,hx,e2⟩:=pick e1 t1 t2 t3;refine⟨x,s1,Zv (fn:=XX) rfl (by decide) rfl ?_,Zdz x hx,vg x hx⟩
 show rvs (CV (d+1)) [] XX.body [aa .drw,ac] [] s=_
 dsimp only[XX]
 rw[Zg (ρ':=[aa .drw,aa (.lst QE)]) (os':=[]) (s':=s) (by simp[pvE,ofD,QE,pv.eq_6,W6])]
 exact Zl (ZP e2)
section
variable{C:Zy}{ρ:Env}{s:DS}{a b e:E}{x y:V}{xs ys:List V}
def J1{i:Int}{k:Nat}(he:pv C e ρ s=.ok (.int k) s)(hk:k<1000):∃ys,pv C (.bin .mul (.tup [(.c (.int i))]) e) ρ s=.ok (.tup ys) s/\YV ys=ag/\ys.length<=1000:=by
 refine⟨(aq k [V.int i]).flatten,?_,zw λx hx=>?_,?_⟩
 ·rw[pv,XZ Yw,Za,he,Za]
  show(if 0<=(k:Int)/\(k:Int)<1000/\[V.int i].length<=1000 then PR.ok (V.tup (aq (k:Int).toNat [V.int i]).flatten) s else .no)=_
  rw[T9 ⟨by omega,by omega,by show 1<=1000;omega⟩,fq]
 ·obtain⟨l,hl,hx⟩:=List.mem_flatten.mp hx
  rw[List.eq_of_mem_replicate hl]at hx;rw[bp.mp hx];rfl
 ·rw[List.length_flatten,gG]
  simp;omega
def Uk{Q:V->Prop}{es:List E}(hl:es.length<=1000)(h:∀e∈es,∃v,pv C e ρ s=.ok v s/\Q v):∃vs,pv C (.lst es) ρ s=.ok (.lst vs) s/\vs.length=es.length/\∀v∈vs,Q v:=by
 obtain⟨vs,e,l,q⟩:=xj h;refine⟨vs,?_,l,q⟩;rw[pv,e,Za,T9 (by unfold lim;omega)]
def Vq{k:Int}(h:pv C a ρ s=.ok (.int k) s):pv C (.bin .add a (.c (.int 1))) ρ s=.ok (.int (k+1)) s:=jz h Yw
def yN{ms:List Nat}{t:E}{z l:List Sm}(h:pv C t ρ s=.ok (.bl ai) s):rvs C ms (.ite t z []::l) ρ [] s=rvs C ms l ρ [] s:=guard h
def Gf{lo hi:E}{j k:Int}(ha:pv C a ρ s=.ok (.tup xs) s)(hlo:pv C lo ρ s=.ok (.int j) s)(hhi:pv C hi ρ s=.ok (.int k) s)(hb:pv C b ρ s=.ok x s)(hl:xs.length<=400)(ho:YV xs=ag)(hx:okV x=ag):∃ys,pv C (.bin .add (.bin .add (.sl a ac (aa lo)) (.tup [b])) (.sl a (aa hi) ac)) ρ s=.ok (.tup ys) s/\YV ys=ag/\ys.length<=1000:=by
 have l1:=XY (xs:=xs) (lo:=ac) (hi:=aa j);have l2:=XY (xs:=xs) (lo:=aa k) (hi:=ac);refine⟨(YH xs ac (aa j)++[x])++YH xs (aa k) ac,XT (XT (qQ ha hlo) (XZ hb) (by simp;omega)) (Uu ha hhi) (by simp;omega),UR (UR (Xw ho) ?_) (Xw ho),by simp;omega⟩
 show(okV x&&ag)=ag;rw[hx];rfl
def xu{lo hi:E}{j k:Int}(ha:pv C a ρ s=.ok (.tup xs) s)(hlo:pv C lo ρ s=.ok (.int j) s)(hhi:pv C hi ρ s=.ok (.int k) s)(hl:xs.length<=400)(ho:YV xs=ag):∃ys,pv C (.bin .add (.sl a ac (aa lo)) (.sl a (aa hi) ac)) ρ s=.ok (.tup ys) s/\YV ys=ag/\ys.length<=1000:=by
 have l1:=XY (xs:=xs) (lo:=ac) (hi:=aa j);have l2:=XY (xs:=xs) (lo:=aa k) (hi:=ac);exact⟨_,XT (qQ ha hlo) (Uu ha hhi) (by omega),UR (Xw ho) (Xw ho),by simp;omega⟩
end
section
variable{p n:Nat}[Base p]
def wP(d:Nat)(s:DS)(hn:n<=6):∃x s',CV (d+3) 29 [.drw,spV p n,Ze []] s=.ok x s'/\Th 1000 x:=by
 let ρ:Env:=[aa .drw,aa (spV p n),aa (Ze []),ac,ac,ac,ac,ac,ac,ac,ac]
 have e1:∀s,pv (CV (d+2)) (.ix (.v 1) (.c (.int 1))) ρ s=.ok (.int n) s:=λs=>ix1 rfl
 obtain⟨vs,e2,l2,q2⟩:=Uk (C:=CV (d+2)) (ρ:=ρ) (s:=s) (Q:=Th 1000) (es:=[(.lst []),(.c .non),(.tup [(.tup [])]),(.tup [(.bin .mul (.tup [(.c (.int 0))]) (.ix (.v 1) (.c (.int 1))))]),(.tup [(.bin .mul (.tup [(.c (.int 1))]) (.bin .add (.ix (.v 1) (.c (.int 1))) (.c (.int 1))))]),.dnew,(.c (.str (bh "none")))]) (by decide) (λe he=>by
  simp only[az,bt,or_false]at he;have nt:∀x:V,okV x=ag->(∀xs,x≠.tup xs)->Th 1000 x:=λx h1 h2=>⟨h1,λxs e=>T7 e (h2 xs)⟩
  rcases he with rfl | rfl | rfl | rfl | rfl | rfl | rfl
  ·exact⟨.lst [],by simp[pvE],nt _ rfl λxs z=>by cases z⟩
  ·exact⟨.non,by rw[pv];rfl,nt _ rfl λxs z=>by cases z⟩
  ·exact⟨.tup [.tup []],by simp[pvE],XD rfl (by decide)⟩
  ·obtain⟨ys,g,ho,_⟩:=J1 (i:=0) (e1 s) (by omega)
   exact⟨_,XZ g,XD (by show(YV ys&&ag)=ag;rw[ho];rfl) (by show 1<=1000;omega)⟩
  ·obtain⟨ys,g,ho,_⟩:=J1 (C:=CV (d+2)) (ρ:=ρ) (s:=s) (i:=1) (k:=n+1) (by have:=Vq (e1 s);rw[this];rfl) (by omega)
   exact⟨_,XZ g,XD (by show(YV ys&&ag)=ag;rw[ho];rfl) (by show 1<=1000;omega)⟩
  ·exact⟨.dct (aa []),by rw[pv],nt _ rfl λxs z=>by cases z⟩
  ·exact⟨.str (bh "none"),by rw[pv];rfl,nt _ rfl λxs z=>by cases z⟩)
 obtain⟨v,s1,t1,t2,t3⟩:=YK (d+1) s (m:=7) (i:=0) (e:=.c (.int 7)) (ρ:=ρ) rfl Yw (by decide) (by decide)
 obtain⟨x,hx,e3⟩:=pick e2 t1 t2 (by rw[l2];exact t3)
 refine⟨x,s1,Zv (fn:=ZR) rfl (by decide) rfl ?_,q2 x hx⟩
 show rvs (CV (d+2)) [] ZR.body ρ [] s=_
 dsimp only[ZR]
 have g:pv (CV (d+2)) (.cmp .eq (.v 2) (.tup [])) ρ s=.ok (.bl ag) s:=by
  have:=J5 (C:=CV (d+2)) (ρ:=ρ) (s:=s) (P:=[]) (Q:=[]) (a:=.v 2) (b:=.tup []) (Zk rfl) (by rw[pv,pvs];rfl)
  rw[T5 rfl]at this;exact this
 refine Zl ?_;rw[X9 (XF g rfl),T9 rfl];exact Zl (ZP e3)
def vD(d:Nat){P:List Row}(s:DS)(hn:n<=6)(h1:1<=n)(hP:pZ p n P)(h0:P≠[]):∃x s',CV (d+3) 29 [.drw,spV p n,Ze P] s=.ok x s'/\Th 1000 x:=by
 have hz:=dsum hP;have hpos:0<P.length:=List.length_pos_iff.mpr h0
 let ρ (a3 a4 a5 a6 a7 a8 a9 a10:Option V):Env:=[aa .drw,aa (spV p n),aa (Ze P),a3,a4,a5,a6,a7,a8,a9,a10]
 have ep:∀a3 a4 a5 a6 a7 a8 a9 a10 s,pv (CV (d+2)) (.v 2) (ρ a3 a4 a5 a6 a7 a8 a9 a10) s=.ok (.tup (P.map Zc)) s:=λ_ _ _ _ _ _ _ _ s=>Zk rfl
 have e0:∀a3 a4 a5 a6 a7 a8 a9 a10 s,pv (CV (d+2)) (.ix (.v 1) (.c (.int 0))) (ρ a3 a4 a5 a6 a7 a8 a9 a10) s=.ok (.int p) s:=λ_ _ _ _ _ _ _ _ s=>ix0 rfl
 have e1:∀a3 a4 a5 a6 a7 a8 a9 a10 s,pv (CV (d+2)) (.ix (.v 1) (.c (.int 1))) (ρ a3 a4 a5 a6 a7 a8 a9 a10) s=.ok (.int n) s:=λ_ _ _ _ _ _ _ _ s=>ix1 rfl
 have op:=JY P;have lp:(P.map Zc).length<=400:=by rw[aH];omega
 obtain⟨v1,s1,t1,t2,t3⟩:=YK (d+1) s (m:=P.length) (i:=0) (e:=.blt .len [(.v 2)]) (ρ:=ρ ac ac ac ac ac ac ac ac) rfl (qz (Zk rfl)) (by omega) (by omega)
 obtain⟨j,rfl⟩:∃j:Nat,v1=j:=⟨v1.toNat,by omega⟩
 have hj:j<P.length:=by omega
 have hr:=hP.row _ (ba hj);have er:pv (CV (d+2)) (.ix (.v 2) (.v 3)) (ρ (aa (.int j)) ac ac ac ac ac ac ac) s1=.ok (Zc P[j]) s1:=by
  rw[pv,Zk rfl,Za,Zk rfl,Za];show po (at' (P.map Zc) (j:Int)) s1=_;rw[U5 (x:=Zc P[j]) (by rw[bg,ah hj];rfl)];rfl
 obtain⟨v2,s2,u1,u2,u3⟩:=YK (d+1) s1 (m:=n) (i:=0) (e:=.ix (.v 1) (.c (.int 1))) (ρ:=ρ (aa (.int j)) (aa (Zc P[j])) ac ac ac ac ac ac) rfl (e1 ..) (by omega) (by omega)
 let ρ5:Env:=ρ (aa (.int j)) (aa (Zc P[j])) (aa (.int v2)) ac ac ac ac ac
 obtain⟨os,m1,m2,m3⟩:=Uk (C:=CV (d+2)) (ρ:=ρ5) (s:=s2) (Q:=λv=>okV v=ag) (es:=[(.c (.int 0)),(.c (.int 1)),(.ix (.v 1) (.c (.int 0))),(.bin .sub (.ix (.v 1) (.c (.int 0))) (.c (.int 1))),(.neg (.c (.int 1))),(.c (.bl ag)),(.c .non),(.c (.str (bh "1"))),(.tup [(.c (.int 1))]),(.bin .pow (.c (.int 10)) (.c (.int 29)))]) (by decide) (λe he=>by
  simp only[az,bt,or_false]at he;rcases he with rfl | rfl | rfl | rfl | rfl | rfl | rfl | rfl | rfl | rfl
  ·exact⟨_,Yw,rfl⟩
  ·exact⟨_,Yw,rfl⟩
  ·exact⟨_,e0 ..,rfl⟩
  ·exact⟨.int ((p:Int)-1),by rw[pv,e0,Za,Yw,Za];rfl,rfl⟩
  ·exact⟨.int (-1),by rw[pv,Yw];rfl,rfl⟩
  ·exact⟨.bl ag,by rw[pv];rfl,rfl⟩
  ·exact⟨.non,by rw[pv];rfl,rfl⟩
  ·exact⟨.str (bh "1"),by rw[pv];rfl,rfl⟩
  ·exact⟨_,XZ Yw,rfl⟩
  ·exact⟨.int (10^29),by simp[pvE,ofD,W6],rfl⟩)
 obtain⟨v3,s3,w1,w2,w3⟩:=YK (d+1) s2 (m:=10) (i:=0) (e:=.c (.int 10)) (ρ:=ρ5) rfl Yw (by decide) (by decide)
 obtain⟨od,hod,e6⟩:=pick m1 w1 w2 (by rw[m2];exact w3)
 have ho:=m3 od hod
 let ρ6 (a7:Option V):Env:=ρ (aa (.int j)) (aa (Zc P[j])) (aa (.int v2)) (aa od) a7 ac ac ac
 have e4:∀a s,pv (CV (d+2)) (.v 4) (ρ6 a) s=.ok (.tup (P[j].map .int)) s:=λa s=>Zk rfl
 have e5:∀a s,pv (CV (d+2)) (.v 5) (ρ6 a) s=.ok (.int v2) s:=λa s=>Zk rfl
 have or':=JS P[j];have lr:(P[j].map V.int).length<=400:=by rw[aH,hr.1];omega
 have tok:∀ys,YV ys=ag->okV (.tup ys)=ag:=λys h=>h
 obtain⟨ra,a1,a2,a3⟩:=Uk (C:=CV (d+2)) (ρ:=ρ6 ac) (s:=s3) (Q:=λv=>okV v=ag) (es:=[(.bin .add (.bin .add (.sl (.v 4) ac (aa (.v 5))) (.tup [(.v 6)])) (.sl (.v 4) (aa (.bin .add (.v 5) (.c (.int 1)))) ac)),(.bin .add (.bin .add (.sl (.v 4) ac (aa (.v 5))) (.tup [(.v 6)])) (.sl (.v 4) (aa (.v 5)) ac)),(.bin .add (.sl (.v 4) ac (aa (.v 5))) (.sl (.v 4) (aa (.bin .add (.v 5) (.c (.int 1)))) ac)),(.blt .list [(.v 4)]),(.c .non)]) (by decide) (λe he=>by
  simp only[az,bt,or_false]at he;rcases he with rfl | rfl | rfl | rfl | rfl
  ·obtain⟨ys,g,h,_⟩:=Gf (e4 ac s3) (e5 ac s3) (Vq (e5 ac s3)) (Zk (i:=6) (v:=od) rfl) lr or' ho
   exact⟨_,g,h⟩
  ·obtain⟨ys,g,h,_⟩:=Gf (e4 ac s3) (e5 ac s3) (e5 ac s3) (Zk (i:=6) (v:=od) rfl) lr or' ho
   exact⟨_,g,h⟩
  ·obtain⟨ys,g,h,_⟩:=xu (e4 ac s3) (e5 ac s3) (Vq (e5 ac s3)) lr or'
   exact⟨_,g,h⟩
  ·exact⟨.lst (P[j].map .int),by rw[pv,Zd (e4 ac s3) Zh];rfl,or'⟩
  ·exact⟨.non,by rw[pv];rfl,rfl⟩)
 have hp:=Ve (p:=p);have b1:=ZD (C:=CV (d+2)) (cap:=[1]) (nl:=1) (t:=[0]) (it:=.of (.v 4)) (elt:=.bin .mod (.bin .mul (.c (.int 2)) (.v 0)) (.ix (.v 1) (.c (.int 0)))) (ρ:=ρ6 (aa (.lst ra))) (s:=s3) (l:=P[j]) (e:=V.int) (g:=λa=>V.int (2*a%p))
  (by rw[pvw,e4];rfl) (by rw[hr.1];unfold lim;omega) (λa ha=>⟨[aa (.int a),aa (spV p n)],rfl,by
   have h2:=hr.2 a ha;have f1:=ZG (a:=2) (by omega) (by omega)
   have f2:=ZG (a:=a) (by omega) (by omega)
   have g2:=ix0 (p:=p) (n:=n) (C:=CV (d+2)) (i:=1) (ρ:=[aa (.int a),aa (spV p n)]) (s:=s3) rfl;have g:pv (CV (d+2)) (.bin .mul (.c (.int 2)) (.v 0)) [aa (.int a),aa (spV p n)] s3=.ok (.int (2*a)) s3:=by simp[pvE,ofD,W6,f1,f2]
   have hp0:(0:Int)<p:=by omega
   rw[pv,g,Za,g2,Za];show(if(0:Int)<p then _ else _)=_
   rw[T9 hp0]⟩)
 have b2:pv (CV (d+2)) (.blt .tuple [(.comp1 [1] 1 [0] (.of (.v 4)) [] (.bin .mod (.bin .mul (.c (.int 2)) (.v 0)) (.ix (.v 1) (.c (.int 0)))))]) (ρ6 (aa (.lst ra))) s3=.ok (.tup (P[j].map λa=>V.int (2*a%p))) s3:=by
  rw[pv,Zd b1 Zh];rfl
 obtain⟨zs,b3,b4,_⟩:=J1 (C:=CV (d+2)) (ρ:=ρ6 (aa (.lst ra))) (s:=s3) (i:=0) (k:=n) (e1 ..) (by omega)
 obtain⟨r2,s4,b5,b6⟩:=Qt (p:=p) (n:=n) d s3 hn;have b7:pv (CV (d+2)) (.lst [(.blt .tuple [(.comp1 [1] 1 [0] (.of (.v 4)) [] (.bin .mod (.bin .mul (.c (.int 2)) (.v 0)) (.ix (.v 1) (.c (.int 0)))))]),(.bin .mul (.tup [(.c (.int 0))]) (.ix (.v 1) (.c (.int 1)))),(.call 6 [(.v 0),(.v 1)])]) (ρ6 (aa (.lst ra))) s3=.ok (.lst [.tup (P[j].map λa=>V.int (2*a%p)),.tup zs,Zc r2]) s4:=by
  rw[pv,Zd b2 (Zd b3 (Zd (Zs (Zd (Zk rfl) (Zd (Zk rfl) Zh)) b5) Zh))];rfl
 let rb:List V:=ra++[.tup (P[j].map λa=>V.int (2*a%p)),.tup zs,Zc r2]
 have hrb:∀v∈rb,okV v=ag:=λv hv=>by
  rcases bQ.mp hv with z | z
  ·exact a3 v z
  ·simp only[az,bt,or_false]at z
   rcases z with rfl | rfl | rfl
   ·exact tok _ (zw λx hx=>by obtain⟨a,_,rfl⟩:=aO.mp hx;rfl)
   ·exact tok _ b4
   ·exact yF r2
 have lrb:rb.length=8:=by show(ra++_).length=8;rw[aW,a2];rfl
 have b8:pv (CV (d+2)) (.bin .add (.v 7) (.lst [(.blt .tuple [(.comp1 [1] 1 [0] (.of (.v 4)) [] (.bin .mod (.bin .mul (.c (.int 2)) (.v 0)) (.ix (.v 1) (.c (.int 0)))))]),(.bin .mul (.tup [(.c (.int 0))]) (.ix (.v 1) (.c (.int 1)))),(.call 6 [(.v 0),(.v 1)])])) (ρ6 (aa (.lst ra))) s3=.ok (.lst rb) s4:=by
  rw[pv,Zk (v:=.lst ra) rfl,Za,b7,Za];show(if ra.length+3<=lim then _ else _)=_
  rw[T9 (by rw[a2];decide)]
 obtain⟨v5,s5,c1,c2,c3⟩:=YK (d+1) s4 (m:=11) (i:=0) (e:=.c (.int 11)) (ρ:=ρ6 (aa (.lst rb))) rfl Yw (by decide) (by decide)
 obtain⟨ix,hix,c4⟩:=pick (a:=.lst [(.c (.int 0)),(.c (.int 0)),(.c (.int 0)),(.c (.int 0)),(.c (.int 1)),(.c (.int 2)),(.c (.int 3)),(.c (.int 4)),(.c (.int 5)),(.c (.int 6)),(.c (.int 7))]) (xs:=[.int 0,.int 0,.int 0,.int 0,.int 1,.int 2,.int 3,.int 4,.int 5,.int 6,.int 7]) (s:=s4) (s1:=s4) (by simp[pvE,ofD]) c1 c2 c3
 obtain⟨q,rfl,hq0,hq⟩:∃q:Int,ix=.int q/\0<=q/\q<8:=by
  simp at hix;rcases hix with rfl | rfl | rfl | rfl | rfl | rfl | rfl | rfl <;> exact⟨_,rfl,by omega,by omega⟩
 obtain⟨one,hone,c5⟩:=pick (a:=.v 7) (Zk (v:=.lst rb) rfl) c4 hq0 (by rw[lrb];exact hq)
 have oone:=hrb one hone
 let ρ8 (a9 a10:Option V):Env:=ρ (aa (.int j)) (aa (Zc P[j])) (aa (.int v2)) (aa od) (aa (.lst rb)) (aa one) a9 a10
 obtain⟨v6,s6,g1,g2,g3⟩:=YK (d+1) s5 (m:=8) (i:=0) (e:=.c (.int 8)) (ρ:=ρ8 ac ac) rfl Yw (by decide) (by decide)
 have e3:∀a b s,pv (CV (d+2)) (.v 3) (ρ8 a b) s=.ok (.int j) s:=λ_ _ s=>Zk rfl
 have lt9:∀k:Int,pv (CV (d+2)) (.cmp .lt (.v 9) (.c (.int k))) (ρ8 (aa (.int v6)) ac) s6=.ok (.bl (ae (v6<k))) s6:=λk=>by
  rw[pv,Zk (v:=.int v6) rfl,Za,Yw,Za];rfl
 have start:∀x s',rvs (CV (d+2)) [] (ZR.body.drop 9) (ρ8 (aa (.int v6)) ac) [] s6=.ok (.ret x) s'->CV (d+3) 29 [.drw,spV p n,Ze P] s=.ok x s':=λx s' h=>by
  refine Zv (fn:=ZR) rfl (by decide) rfl ?_
  show rvs (CV (d+2)) [] ZR.body (ρ ac ac ac ac ac ac ac ac) [] s=_;have g:pv (CV (d+2)) (.cmp .eq (.v 2) (.tup [])) (ρ ac ac ac ac ac ac ac ac) s=.ok (.bl ai) s:=by
   have:=J5 (C:=CV (d+2)) (ρ:=ρ ac ac ac ac ac ac ac ac) (s:=s) (P:=P) (Q:=[]) (a:=.v 2) (b:=.tup []) (Zk rfl) (by rw[pv,pvs];rfl)
   rw[T4 h0]at this;exact this
  dsimp only[ZR]
  rw[guard g,Zg (Z0 t1 rfl)];show rvs _ _ _ (ρ (aa (.int j)) ac ac ac ac ac ac ac) _ _=_;rw[Zg (Z0 er rfl)];show rvs _ _ _ (ρ (aa (.int j)) (aa (Zc P[j])) ac ac ac ac ac ac) _ _=_;rw[Zg (Z0 u1 rfl)];show rvs _ _ _ ρ5 _ _=_;rw[Zg (Z0 e6 rfl)];show rvs _ _ _ (ρ6 ac) _ _=_;rw[Zg (Z0 a1 rfl)];show rvs _ _ _ (ρ6 (aa (.lst ra))) _ _=_;rw[Zg (Z0 b8 rfl)];show rvs _ _ _ (ρ6 (aa (.lst rb))) _ _=_;rw[Zg (Z0 c5 rfl)];show rvs _ _ _ (ρ8 ac ac) _ _=_;rw[Zg (Z0 g1 rfl)];exact h
 by_cases k4:v6<4
 ·obtain⟨ys,h1,h2,h3⟩:=Gf (x:=one) (b:=.v 8) (ep ..) (e3 (aa (.int v6)) ac s6) (Vq (e3 (aa (.int v6)) ac s6)) (Zk rfl) lp op oone
  refine⟨.tup ys,s6,start _ _ ?_,XD h2 h3⟩
  dsimp only[ZR,lI]
  refine Zl ?_;rw[X9 (XF (lt9 4) rfl),T9 (T5 k4)];exact Zl (ZP h1)
 by_cases k6:v6<6
 ·obtain⟨ys,h1,h2,h3⟩:=Gf (x:=one) (b:=.v 8) (ep ..) (e3 (aa (.int v6)) ac s6) (e3 (aa (.int v6)) ac s6) (Zk rfl) lp op oone
  refine⟨.tup ys,s6,start _ _ ?_,XD h2 h3⟩
  dsimp only[ZR,lI]
  have z:=lt9 4;rw[T4 k4]at z;rw[yN z];refine Zl ?_;rw[X9 (XF (lt9 6) rfl),T9 (T5 k6)];exact Zl (ZP h1)
 let ρ9 (a10:Option V):Env:=ρ8 (aa (.int v6)) a10
 obtain⟨ws,y1,y2,y3⟩:=Uk (C:=CV (d+2)) (ρ:=ρ9 ac) (s:=s6) (Q:=Th 1000) (es:=[(.bin .add (.sl (.v 2) ac (aa (.v 3))) (.sl (.v 2) (aa (.bin .add (.v 3) (.c (.int 1)))) ac)),(.rev (.v 2)),(.blt .list [(.v 2)]),(.tup [(.v 2)]),(.bin .add (.v 2) (.sl (.v 2) (aa (.neg (.c (.int 1)))) ac)),(.bin .add (.sl (.v 2) (aa (.v 3)) ac) (.sl (.v 2) ac (aa (.v 3))))]) (by decide) (λe he=>by
  simp only[az,bt,or_false]at he;have ep':pv (CV (d+2)) (.v 2) (ρ9 ac) s6=.ok (.tup (P.map Zc)) s6:=ep ..;have e3':=e3 (aa (.int v6)) ac s6;rcases he with rfl | rfl | rfl | rfl | rfl | rfl
  ·obtain⟨ys,h1,h2,h3⟩:=xu ep' e3' (Vq e3') lp op
   exact⟨_,h1,XD h2 h3⟩
  ·refine⟨.tup (P.map Zc).reverse,by rw[pv,ep'];rfl,XD (zw λx hx=>XC op x (List.mem_reverse.mp hx)) (by rw[f9];omega)⟩
  ·exact⟨.lst (P.map Zc),by rw[pv,Zd ep' Zh];rfl,op,λxs z=>by cases z⟩
  ·exact⟨_,XZ ep',XD (by show(YV _&&ag)=ag;rw[op];rfl) (by show 1<=1000;omega)⟩
  ·have l1:=XY (xs:=P.map Zc) (lo:=aa (-1)) (hi:=ac)
   exact⟨_,XT ep' (Uu ep' (k:=-1) (by rw[pv,Yw];rfl)) (by omega),XD (UR op (Xw op)) (by rw[aW];omega)⟩
  ·have l1:=XY (xs:=P.map Zc) (lo:=aa (j:Int)) (hi:=ac)
   have l2:=XY (xs:=P.map Zc) (lo:=ac) (hi:=aa (j:Int));exact⟨_,XT (Uu ep' e3') (qQ ep' e3') (by omega),XD (UR (Xw op) (Xw op)) (by rw[aW];omega)⟩)
 obtain⟨v7,s7,z1,z2,z3⟩:=YK (d+1) s6 (m:=6) (i:=0) (e:=.c (.int 6)) (ρ:=ρ9 (aa (.lst ws))) rfl Yw (by decide) (by decide)
 obtain⟨x,hx,z4⟩:=pick (a:=.v 10) (Zk (v:=.lst ws) rfl) z1 z2 (by rw[y2];exact z3)
 refine⟨x,s7,start _ _ ?_,y3 x hx⟩
 dsimp only[ZR,lI]
 have z:=lt9 4;rw[T4 k4]at z;have zz:=lt9 6;rw[T4 k6]at zz;rw[yN z,yN zz,Zg (Z0 y1 rfl)];exact Zl (ZP z4)
def Gw(d:Nat){P:List Row}(s:DS)(hn:n<=6)(h1:1<=n)(hP:pZ p n P):∃x s',CV (d+3) 29 [.drw,spV p n,Ze P] s=.ok x s'/\Th 1000 x:=by
 cases P with|nil=>exact wP d s hn|cons r P=>exact vD d s hn h1 hP (by simp)
end
end K41
namespace Rw
open La
noncomputable def YQ(p:Nat):Nat->List Row
 |0=>[[]]
 |k+1=>(YQ p k).flatMap λr=>(aI p).map λ(a:Nat)=>r++[(a:Int)]
theorem Ws(p:Nat):∀k,(YQ p k).length=p^k
 |0=>rfl
 |k+1=>by
  show((YQ p k).flatMap _).length=_;rw[List.length_flatMap];have:(List.map (λr:Row=>((aI p).map λ(a:Nat)=>r++[(a:Int)]).length) (YQ p k))=aq (p^k) p:=by
   rw[<-Ws p k];refine iq (by simp) λi h1 h2=>?_
   simp
  rw[this,List.sum_replicate_nat,Nat.pow_succ]
theorem Xe :∀{k:Nat}{r:Row},r∈YQ p k↔Zj p k r
 |0,r=>by
  constructor
  ·intro h
   rw[bp.mp h];exact⟨rfl,λa ha=>by cases ha⟩
  ·intro h
   rw[dU.mp h.1];exact bp.mpr rfl
 |k+1,r=>by
  constructor
  ·intro h
   obtain⟨q,hq,hr⟩:=lP.mp h;obtain⟨a,ha,rfl⟩:=aO.mp hr;obtain⟨h1,h2⟩:=Xe.mp hq;refine⟨by rw[aW,h1];rfl,λb hb=>?_⟩
   rcases bQ.mp hb with hb | hb
   ·exact h2 b hb
   ·rw[bp.mp hb]
    have:=bF.mp ha;omega
  ·intro h
   have hne:r≠[]:=λz=>by have:=h.1;rw[z]at this;cases this
   have e:=List.dropLast_concat_getLast hne;have hb:=h.2 _ (List.getLast_mem hne);refine lP.mpr ⟨r.dropLast,Xe.mpr ⟨by rw[List.length_dropLast,h.1];omega,λa ha=>h.2 a ((List.dropLast_sublist r).subset ha)⟩,aO.mpr ⟨(r.getLast hne).toNat,bF.mpr (by omega),?_⟩⟩
   rw[show(((r.getLast hne).toNat:Nat):Int)=r.getLast hne by omega]
   exact e
noncomputable def XM(p n:Nat)(P:List Row):List Row:=(YQ p n).filter λr=>P.all λq=>ae (Y3 r q%p=0)
section
variable{p n:Nat}[Base p]
def zh(hP:pZ p n P)(hr:Zj p n r):Xf p (Yu p n P) r=ag↔∀q∈P,Y3 r q%p=0:=by
 obtain⟨h1,h2⟩:=UB hP;rw[Z4 h1 hr];show Mem _ _↔_;rw[h2,Zac fld hP.pn]
 constructor
 ·intro⟨_,h⟩ q hq
  have:=h _ (Yg (p:=p) hq);rw[zi]at this;exact(GD hr (hP.row q hq)).mp this
 ·intro h
  refine⟨Vy hr,λa ha=>?_⟩
  obtain⟨q,hq,rfl⟩:=aO.mp ha;rw[zi];exact(GD hr (hP.row q hq)).mpr (h q hq)
def QD(hP:pZ p n P):Spans p n (XM p n P) (Yu p n P):=by
 have hp:=(UB hP).1;refine⟨hp,λr hr=>?_,λW hW h r hr=>h r ?_⟩
 ·obtain⟨h1,h2⟩:=bK.mp hr
  exact(zh hP (Xe.mp h1)).mpr λq hq=>T6 (aU.mp h2 q hq)
 ·have hr':=hp.row r hr
  refine bK.mpr ⟨Xe.mpr hr',aU.mpr λq hq=>T5 ?_⟩
  exact(zh hP hr').mp (J8 hp hr) q hq
end
end Rw
namespace Lw
def evE:=aK (aK (aK (aK @Ev.ev.eq_1 @Ev.ev.eq_2) (aK @Ev.ev.eq_3 (aK @Ev.ev.eq_4 @Ev.ev.eq_5))) (aK (aK @Ev.ev.eq_6 @Ev.ev.eq_7) (aK @Ev.ev.eq_8 (aK @Ev.ev.eq_9 @Ev.ev.eq_10)))) (aK (aK (aK @Ev.ev.eq_11 @Ev.ev.eq_12) (aK @Ev.ev.eq_13 (aK @Ev.ev.eq_14 @Ev.ev.eq_15))) (aK (aK @Ev.ev.eq_16 (aK @Ev.ev.eq_17 @Ev.ev.eq_18)) (aK @Ev.ev.eq_19 (aK @Ev.ev.eq_20 @Ev.ev.eq_21))))
open Ev Pv
section
def evF:(∀x S,YJ .len [x] S=(ob (Y0 S x) S).bind λxs S=>.ok (.int xs.length) S)/\(∀a b S,YJ .max2 [.int a,.int b] S=.ok (.int (if b>a then b else a)) S)/\(∀a b S,YJ .min2 [.int a,.int b] S=.ok (.int (if b<a then b else a)) S)/\(∀a b S,Xq .lt (.int a) (.int b) S=.ok (.bl (ae (a<b))) S)/\(∀a b S,Xq .ge (.int a) (.int b) S=.ok (.bl (ae (b<=a))) S)/\(∀a b S,Yl .sub (.int a) (.int b) S=.ok (.int (a-b)) S)/\(∀a b S,Yl .mod (.int a) (.int b) S=if 0<b then .ok (.int (a%b)) S else .no)/\(∀a b S,Yl .pow (.int a) (.int b) S=if 0<=b/\b<=1000/\a.natAbs<2^64 then .ok (.int (a^b.toNat)) S else .no)/\(∀S b,Z5 S (.bl b)=aa b)/\(∀n S,Y0 S (.loc n)=Z9 S n)/\(∀i x S σ,assign [i] x S σ=aa (σ.set i (aa x))):=
 ⟨λ_ _=>rfl,λ_ _ _=>rfl,λ_ _ _=>rfl,λ_ _ _=>rfl,λ_ _ _=>rfl,λ_ _ _=>rfl,λ_ _ _=>rfl,λ_ _ _=>rfl,λ_ _=>rfl,λ_ _=>rfl,λ_ _ _ _=>rfl⟩
def ZbA(h:Z9 S n=aa xs):wE (.loc n) (.int i) S=ob (at' xs i) S:=by
 show(match Z9 S n with | some xs=>ob (at' xs i) S | none=>.no)=_
 rw[h]
def ZbF(h1:evs C es σ S=.ok xs S1):ev C (.call f es) σ S=C f xs S1:=by
 rw[ev,h1];rfl
def vh(h:ev C e σ S=.ok x S'):runs C (.asg [k] e::ss) σ S=runs C ss (σ.set k (aa x)) S':=by
 rw[runs,run,h];rfl
def xU(h:run C s σ S=.ok (.nx σ') S'):runs C (s::ss) σ S=runs C ss σ' S':=by rw[runs,h];rfl
def xQ :(S++[o])[S.length]? = aa o:=by rw[bf (aD _),ln];rfl
noncomputable def W4:Fn:=⟨2,2,[.ite (.cmp .lt (.v 1) (.blt .len [(.v 0)])) [.ret (.ix (.v 0) (.v 1))] [],.ret (.c (.int 0))]⟩
noncomputable def WF(c:Nat):Fn:=⟨2,3,[.asg [2] (.call c [(.v 0),(.v 1)]),.ite (.cmp .ge (.v 2) (.bin .pow (.c (.int 10)) (.c (.int 18)))) [.ret (.lst [(.bin .sub (.v 2) (.bin .pow (.c (.int 10)) (.c (.int 18)))),(.c (.bl ag))])] [],.ret (.lst [(.bin .mod (.v 2) (.c (.int 2147483647))),(.c (.bl ai))])]⟩
variable{F:List Fn}{tk ca st L nn:Nat}{M:Int}{B:List Sm}
def ZaV(hC:F[ca]? = aa W4)(d:Nat)(hs:S[0]? = aa (.scr ns))(k0:0<=k):∃c,Zt F (d+1) ca [.loc 0,.int k] S=.ok (.int c) S:=by
 have h1:Z9 S 0=aa (ns.map .int):=by unfold Z9;rw[hs]
 by_cases c:k<ns.length
 ·have hk:k.toNat<ns.length:=by omega
  refine⟨ns[k.toNat],?_⟩;simp[Ev.Zt,Ev.runs,Ev.run,evE,Ev.evs,Ev.evo,Ev.evt,Ev.tst,Ev.R.bind,Ev.ob,Ev.start,Ev.lim,hC,W4,evF,h1,c,ZbA h1,at',ixN,k0,hk]
 ·refine⟨0,?_⟩
  simp[Ev.Zt,Ev.runs,Ev.run,evE,Ev.evs,Ev.evo,Ev.evt,Ev.tst,Ev.R.bind,Ev.ob,Ev.start,Ev.lim,hC,W4,evF,h1,c]
def ut(hC:F[ca]? = aa W4)(hS:F[st]? = aa (WF ca))(d:Nat)(hs:S[0]? = aa (.scr ns))(k0:0<=k):∃o s,Dw S.length (S++[o]) s/\Zt F (d+2) st [.loc 0,.int k] S=.ok (.loc S.length) (S++[o]):=by
 obtain⟨c,e⟩:=ZaV hC d hs k0;rw[show d+2=(d+1)+1 from rfl,Zt]
 generalize Zt F (d+1)=C at e ⊢;by_cases h:10^18<=c
 ·refine⟨.lst [.int (c-10^18),.bl ag],(c-10^18,ag),⟨xQ,by show 0<=c-10^18;omega,by simp⟩,?_⟩
  have h':(1000000000000000000:Int)<=c:=by simpa using h
  simp[Ev.Zt,Ev.runs,Ev.run,evE,Ev.evs,Ev.evo,Ev.evt,Ev.tst,Ev.R.bind,Ev.ob,Ev.start,Ev.lim,hS,WF,e,evF,h']
 ·refine⟨.lst [.int (c%2147483647),.bl ai],(c%2147483647,ai),⟨xQ,by show 0<=c%2147483647;omega,λ_=>by show c%2147483647<_;omega⟩,?_⟩
  have h':¬(1000000000000000000:Int)<=c:=by simpa using h
  simp[Ev.Zt,Ev.runs,Ev.run,evE,Ev.evs,Ev.evo,Ev.evt,Ev.tst,Ev.R.bind,Ev.ob,Ev.start,Ev.lim,hS,WF,e,evF,h']
theorem zB(P:Lc->Zb->Prop)(hst:∀σ S,P σ S->w.still S=ag):∀(xs:List D),(∀x∈xs,∀σ S,P σ S->∃σ' S',P σ' S'/\body x σ S=.ok (.nx σ') S')->∀σ S,P σ S->∃σ' S',P σ' S'/\Xk w body xs σ S=.ok (.nx σ') S'
 |[],_,σ,S,h=>⟨σ,S,h,by rw[Xk,T9 (hst σ S h)]⟩
 |x::xs,hb,σ,S,h=>by
  obtain⟨σ1,S1,h1,e1⟩:=hb x (am ..) σ S h;obtain⟨σ2,S2,h2,e2⟩:=zB P hst xs (λy hy=>hb y (al _ hy)) σ1 S1 h1
  refine⟨σ2,S2,h2,?_⟩;rw[Xk,T9 (hst σ S h),e1];exact e2
def vZ(h:x∈ZB lo k):∃i,x=.int i/\lo<=i:=by
 unfold ZB at h;obtain⟨j,_,e⟩:=aO.mp h;exact⟨_,e.symm,by omega⟩
def Kept(σ σ':Lc):Prop:=σ'[0]? = σ[0]?/\σ'.length=σ.length
theorem Kept.trans(h:Kept σ σ1)(h2:Kept σ1 σ2):Kept σ σ2:=⟨h2.1.trans h.1,h2.2.trans h.2⟩
theorem Kept.set(h:i≠0):Kept σ (σ.set i x):=⟨aE h,aV ..⟩
theorem YD:∀{t:List Nat}{xs:List D}{σ σ':Lc},fill t xs σ=aa σ'->¬0∈t->Kept σ σ'
 |[],[],σ,σ',h,_=>by cases h;exact⟨rfl,rfl⟩
 |i::t,x::xs,σ,σ',h,h0=>(Kept.set (λz=>h0 (by rw[z];exact am ..))).trans (YD (t:=t) (xs:=xs) h λz=>h0 (al _ z))
 |[],_::_,_,_,h,_=>by cases h
 |_::_,[],_,_,h,_=>by cases h
mutual
noncomputable def kp:Sm->Bool
 |.asg t _=>!t.contains 0
 |.aug i _ _=>!(i == 0)
 |.ite _ a b=>kps a&&kps b
 |.forr t _ b=>!t.contains 0&&kps b
 |.ret _=>ag
 |.ex _=>ag
 |.brk=>ag
 |.cnt=>ag
 |_=>ai
noncomputable def kps:List Sm->Bool
 |[]=>ag
 |m::l=>kp m&&kps l
end
def Kept.refl(σ:Lc):Kept σ σ:=⟨rfl,rfl⟩
def Wc(σ:Lc):Fl->Prop
 |.nx σ' | .brk σ' | .cnt σ'=>Kept σ σ'
 |.ret _=>True
def Wc.from(h:Kept σ σ1)(k:Wc σ1 f):Wc σ f:=by
 cases f with|ret d=>trivial|nx l=>exact h.trans k|brk l=>exact h.trans k|cnt l=>exact h.trans k
def Xu(h:assign t x S σ=aa σ')(h0:¬0∈t):Kept σ σ':=by
 unfold assign at h;split at h
 ·cases h
  exact Kept.set λz=>h0 (by simp[z])
 ·split at h
  ·exact YD h h0
  ·split at h
   ·exact YD h h0
   ·cases h
  ·cases h
theorem Uz(hb:∀x σ S f S',body x σ S=.ok f S'->Wc σ f):∀(xs:List D){σ:Lc}{S S':Zb}{f:Fl},Xk w body xs σ S=.ok f S'->Wc σ f
 |[],σ,S,S',f,h=>by
  rw[Xk]at h;split at h <;> cases h;exact Kept.refl _
 |x::xs,σ,S,S',f,h=>by
  rw[Xk]at h;split at h
  ·cases q:body x σ S with
   |no=>rw[q]at h;cases h
   |ex c S1=>rw[q]at h;cases h
   |ok g S1=>
    have k:=hb x σ S g S1 q;rw[q]at h;cases g with|nx l=>exact Wc.from k (Uz hb xs h)|cnt l=>exact Wc.from k (Uz hb xs h)|brk l=>cases h;exact k|ret d=>cases h;trivial
  ·cases h
mutual
theorem ZcJ :∀(m:Sm){σ:Lc}{S S':Zb}{f:Fl},kp m=ag->run C m σ S=.ok f S'->Wc σ f
 |.asg t e,σ,S,S',f,h,r=>by
  unfold kp at h;rw[run]at r;cases q:ev C e σ S with
  |no=>rw[q]at r;cases r
  |ex c S1=>rw[q]at r;cases r
  |ok x S1=>
   rw[q]at r;replace r:((ob (assign t x S1 σ) S1).bind λσ S=>R.ok (Fl.nx σ) S)=.ok f S':=r
   cases q2:assign t x S1 σ with|none=>rw[q2]at r;cases r|some σ1=>rw[q2]at r;cases r;exact Xu q2 (by simpa using h)
 |.aug i op e,σ,S,S',f,h,r=>by
  unfold kp at h;rw[run]at r;cases q0:(σ[i]?).join with
  |none=>rw[q0]at r;cases r
  |some x0=>
  rw[q0]at r;replace r:((ev C e σ S).bind λy S=>(Qo op x0 y S).bind λz S=>R.ok (Fl.nx (σ.set i (aa z))) S)=.ok f S':=r
  cases q:ev C e σ S with
  |no=>rw[q]at r;cases r
  |ex c S1=>rw[q]at r;cases r
  |ok x S1=>
   rw[q]at r;replace r:((Qo op x0 x S1).bind λz S=>R.ok (Fl.nx (σ.set i (aa z))) S)=.ok f S':=r
   cases q2:Qo op x0 x S1 with|no=>rw[q2]at r;cases r|ex c S2=>rw[q2]at r;cases r|ok y S2=>rw[q2]at r;cases r;exact Kept.set (by simpa using h)
 |.ite t a b,σ,S,S',f,h,r=>by
  unfold kp at h;obtain⟨h1,h2⟩:=(aB _ _).mp h;rw[run]at r;cases q:tst C t σ S with
  |no=>rw[q]at r;cases r
  |ex c S1=>rw[q]at r;cases r
  |ok c S1=>
   rw[q]at r;cases c with|false=>exact VG b h2 (show runs C b σ S1=_ from r)|true=>exact VG a h1 (show runs C a σ S1=_ from r)
 |.forr t it b,σ,S,S',f,h,r=>by
  unfold kp at h;obtain⟨h1,h2⟩:=(aB _ _).mp h;rw[run]at r;cases q:evw C it σ S with
  |no=>rw[q]at r;cases r
  |ex c S1=>rw[q]at r;cases r
  |ok w S1=>
   rw[q]at r;refine Uz (λx σ S g S2 hr=>?_) w.items (show Xk w _ w.items σ S1=_ from r)
   cases q2:assign t x S σ with
   |none=>rw[q2]at hr;cases hr
   |some σ1=>
    rw[q2]at hr;exact Wc.from (Xu q2 (by simpa using h1)) (VG b h2 (show runs C b σ1 S=_ from hr))
 |.ret e,σ,S,S',f,h,r=>by
  rw[run]at r;cases q:ev C e σ S with|no=>rw[q]at r;cases r|ex c S1=>rw[q]at r;cases r|ok x S1=>rw[q]at r;cases r;trivial
 |.ex e,σ,S,S',f,h,r=>by
  rw[run]at r;cases q:ev C e σ S with|no=>rw[q]at r;cases r|ex c S1=>rw[q]at r;cases r|ok x S1=>rw[q]at r;cases r;exact Kept.refl _
 |.brk,σ,S,S',f,h,r=>by rw[run]at r;cases r;exact Kept.refl _
 |.cnt,σ,S,S',f,h,r=>by rw[run]at r;cases r;exact Kept.refl _
 |.put ..,_,_,_,_,h,_ | .whl ..,_,_,_,_,h,_ | .raise ..,_,_,_,_,h,_ | .mov ..,_,_,_,_,h,_=>by unfold kp at h;cases h
theorem VG :∀(l:List Sm){σ:Lc}{S S':Zb}{f:Fl},kps l=ag->runs C l σ S=.ok f S'->Wc σ f
 |[],σ,S,S',f,h,r=>by rw[runs]at r;cases r;exact Kept.refl _
 |m::l,σ,S,S',f,h,r=>by
  unfold kps at h;obtain⟨h1,h2⟩:=(aB _ _).mp h;rw[runs]at r;cases q:run C m σ S with
  |no=>rw[q]at r;cases r
  |ex c S1=>rw[q]at r;cases r
  |ok g S1=>
   have k:=ZcJ m h1 q;rw[q]at r;cases g with|nx l1=>exact Wc.from k (VG l h2 (show runs C l l1 S1=_ from r))|ret d=>cases r;trivial|brk l1=>cases r;exact k|cnt l1=>cases r;exact k
end
def ZcF(l:List Sm)(h:kps l=ag)(r:runs C l σ S=.ok (.nx σ') S'):Kept σ σ':=VG l h r
def Q0(m:Nat)(ns:List Int)(σ:Lc)(S:Zb):Prop:=∃a1 a2 as,σ=aa (.loc 0)::a1::a2::as/\as.length=m/\S[0]? = aa (.scr ns)
end
end Lw
namespace Lw
open Ev Pv
section
variable{F:List Fn}{tk ca st L nn:Nat}{M:Int}{B:List Sm}
def zG(hT:F[tk]? = aa WS)(hC:F[ca]? = aa W4)(hS:F[st]? = aa (WF ca))(hk:kps B=ag)
  (hv:∀(k:Nat)(s:DS),∃ρ' os' s',rvs (ZL F tk (d+2)) [] B (ac::aa (.int k)::aa .drw::aq m ac) [] s=.ok (.nx ρ' os') s')
      (hx:∃i,x=.int i/\0<=i)(hq:Q0 m ns σ S):∃σ' S',(Q0 m ns σ' S'/\∃n s,n≠0/\Dw n S' s)/\(ob (assign [1] x S σ) S).bind (λσ S=>runs (Zt F (d+2)) (.asg [2] (.call st [(.v 0),(.v 1)])::B) σ S)=.ok (.nx σ') S':=by
 obtain⟨i,rfl,i0⟩:=hx;obtain⟨k,rfl⟩:∃k:Nat,i=k:=⟨i.toNat,by omega⟩
 obtain⟨a1,a2,as,rfl,hm,hs⟩:=hq;show ∃σ' S',(Q0 m ns σ' S'/\∃n s,n≠0/\Dw n S' s)/\runs (Zt F (d+2)) _ (aa (.loc 0)::aa (.int k)::a2::as) S=.ok (.nx σ') S';obtain⟨o,s,h1,e1⟩:=ut hC hS d hs i0;have n0:S.length≠0:=by have:=YX hs;omega
 have s1:(S++[o])[0]? = aa (.scr ns):=by rw[aP (YX hs)];exact hs
 rw[vh (x:=.loc S.length) (S':=S++[o]) (by rw[ZbF (xs:=[.loc 0,.int k]) (S1:=S) rfl];exact e1)]
 show ∃σ' S',(Q0 m ns σ' S'/\∃n s,n≠0/\Dw n S' s)/\runs (Zt F (d+2)) _ (aa (.loc 0)::aa (.int k)::aa (.loc S.length)::as) (S++[o])=.ok (.nx σ') S';obtain⟨ρ',os',s',e2⟩:=hv k s;have hE:Eu (S++[o]) (· = S.length) S.length (S.length+1) (λ_=>ac) (ac::aa (.int k)::aa .drw::aq m ac) [] (aa (.loc 0)::aa (.int k)::aa (.loc S.length)::as):={
  xz:=rfl
  xb:=λn h=>by omega
  bs:=by simp
  len:=by simp[hm]
  osW:=λi=>rfl
  inj:=λi j n h=>by cases h
  pl:=λi n h=>by cases h
  own:=λi n h=>by cases h
  val:=λi v h _=>by
   match i,h with
   |0,h=>cases h
   |1,h=>cases h;exact⟨_,rfl,by unfold Rep;rfl⟩
   |2,h=>cases h;exact⟨_,rfl,by unfold Rep;rfl⟩
   |i+3,h=>
    have h:(aq m (ac:Option V))[i]? = aa (aa v):=h;rw[bN]at h;split at h <;> cases h }
 have hS:=V3 (UV (F:=F) (tk:=tk) (n0:=S.length) hT (d+2)) [] B hE h1;rw[e2]at hS;obtain⟨g,S',e3,x3,w3,f3⟩:=hS;cases g with
 |nx σ'=>
  refine⟨σ',S',?_,e3⟩;have hl:=ZcF B hk e3;have hlen:σ'.length=m+3:=by rw[hl.2];simp[hm]
  replace hl:σ'[0]? = aa (aa (.loc 0)):=hl.1
  match σ',hlen,hl with
  |b0::b1::b2::bs,hlen,hl=>
   cases hl;exact⟨⟨b1,b2,bs,rfl,by simpa using hlen,x3.keep 0 _ (Ne.symm n0) (λi h=>by cases h) s1⟩,S.length,s',n0,w3⟩
 |ret v=>exact f3.elim
 |brk v=>exact f3.elim
 |cnt v=>exact f3.elim
def u8(hT:F[tk]? = aa WS)(hC:F[ca]? = aa W4)(hS:F[st]? = aa (WF ca))(hk:kps B=ag)(hM:1<=M/\M<1000)
  (hv:∀(k:Nat)(s:DS),∃ρ' os' s',rvs (ZL F tk (d+2)) [] B (ac::aa (.int k)::aa .drw::aq m ac) [] s=.ok (.nx ρ' os') s')
  (he:∀s:DS,∃s',rvs (ZL F tk (d+2)) [] [.ret e] (aq (m+3) ac) [] s=.ok (.ret (.bl ag)) s')
    (hs:S[0]? = aa (.scr ns)):∃S',runs (Zt F (d+2)) [.forr [1] (.rng1 (.blt .max2 [(.c (.int 1)),(.blt .min2 [(.blt .len [(.v 0)]),(.c (.int M))])])) (.asg [2] (.call st [(.v 0),(.v 1)])::B),.ret e] (aa (.loc 0)::ac::ac::aq m ac) S=.ok (.ret (.bl ag)) S':=by
 have h1:Z9 S 0=aa (ns.map .int):=by unfold Z9;rw[hs]
 let k:Int:=if(if M<(ns.length:Int)then M else ns.length)>1 then(if M<(ns.length:Int)then M else ns.length)else 1
 have hk2:W8 k=ag:=GH (by simp only[k];split <;> split <;> omega) (by simp only[k];split <;> split <;> omega)
 have hk3:1<=k:=by simp only[k];split <;> omega
 obtain⟨j,hj⟩:∃j,k.toNat=j+1:=⟨k.toNat-1,by omega⟩
 have hr:ZB 0 k.toNat=.int 0::(aI j).map λ(i:Nat)=>D.int (0+((i+1:Nat):Int)):=by
  unfold ZB;rw[hj,dY,aS,bH];rfl
 have hmem:∀x∈ZB 0 k.toNat,∃i,x=.int i/\0<=i:=λx hx=>vZ hx
 obtain⟨σa,Sa,⟨hqa,hda⟩,ea⟩:=zG hT hC hS hk hv (hmem (.int 0) (by rw[hr];simp)) (show Q0 m ns (aa (.loc 0)::ac::ac::aq m ac) S from⟨_,_,_,rfl,by simp,hs⟩)
 obtain⟨σ1,S1,⟨hq1,n1,s1,hn1,hd1⟩,e1⟩:=zB (w:=⟨ZB 0 k.toNat,[]⟩) (λσ S=>Q0 m ns σ S/\∃n s,n≠0/\Dw n S s) (λ_ _ _=>rfl) ((aI j).map λ(i:Nat)=>D.int (0+((i+1:Nat):Int))) (λx hx σ S hq=>zG hT hC hS hk hv (hmem x (by rw[hr];exact al _ hx)) hq.1) σa Sa ⟨hqa,hda⟩
 have e1:Xk ⟨ZB 0 k.toNat,[]⟩ (λx σ S=>(ob (assign [1] x S σ) S).bind λσ S=>runs (Zt F (d+2)) (.asg [2] (.call st [(.v 0),(.v 1)])::B) σ S) (ZB 0 k.toNat) (aa (.loc 0)::ac::ac::aq m ac) S=.ok (.nx σ1) S1:=by
  rw[show Xk ⟨ZB 0 k.toNat,[]⟩ (λx σ S=>(ob (assign [1] x S σ) S).bind λσ S=>runs (Zt F (d+2)) (.asg [2] (.call st [(.v 0),(.v 1)])::B) σ S) (ZB 0 k.toNat)=Xk ⟨ZB 0 k.toNat,[]⟩ (λx σ S=>(ob (assign [1] x S σ) S).bind λσ S=>runs (Zt F (d+2)) (.asg [2] (.call st [(.v 0),(.v 1)])::B) σ S) (.int 0::(aI j).map λ(i:Nat)=>D.int (0+((i+1:Nat):Int)))from congrArg _ hr]
  rw[Xk,T9 (by rfl),ea]
  exact e1
 obtain⟨a1,a2,as,rfl,hm,hs1⟩:=hq1;obtain⟨s2,e2⟩:=he s1;have hE:Eu S1 (· = n1) n1 S1.length (λ_=>ac) (aq (m+3) ac) [] (aa (.loc 0)::a1::a2::as):={
  xz:=rfl
  xb:=λn h=>by rw[h];exact YX hd1.1
  bs:=aD _
  len:=by simp[hm]
  osW:=λi=>rfl
  inj:=λi j n h=>by cases h
  pl:=λi n h=>by cases h
  own:=λi n h=>by cases h
  val:=λi v h _=>by
   rw[bN]at h;split at h <;> cases h }
 have hSi:=V3 (UV (F:=F) (tk:=tk) (n0:=n1) hT (d+2)) [] [.ret e] hE hd1;rw[e2]at hSi;obtain⟨g,S',e3,x3,w3,f3⟩:=hSi;cases g with
 |nx v=>exact f3.elim
 |brk v=>exact f3.elim
 |cnt v=>exact f3.elim
 |ret v=>
 have hvv:v=.bl ag:=by
  have f3:=f3;unfold Rep at f3;exact f3
 subst hvv;refine⟨S',?_⟩;have er:ev (Zt F (d+2)) (.blt .max2 [(.c (.int 1)),(.blt .min2 [(.blt .len [(.v 0)]),(.c (.int M))])]) (aa (.loc 0)::ac::ac::aq m ac) S=.ok (.int k) S:=by
  simp[Ev.Zt,Ev.runs,Ev.run,evE,Ev.evs,Ev.evo,Ev.evt,Ev.tst,Ev.R.bind,Ev.ob,Ev.start,Ev.lim,evF,h1,k]
 have ew:evw (Zt F (d+2)) (.rng1 (.blt .max2 [(.c (.int 1)),(.blt .min2 [(.blt .len [(.v 0)]),(.c (.int M))])])) (aa (.loc 0)::ac::ac::aq m ac) S=.ok ⟨ZB 0 k.toNat,[]⟩ S:=by
  rw[evw,er];show(if W8 k=ag then _ else _)=_
  rw[T9 hk2]
 rw[xU (σ':=aa (.loc 0)::a1::a2::as) (S':=S1) (by rw[run,ew];exact e1),e3]
def ZaH(hT:F[tk]? = aa WS)(hC:F[ca]? = aa W4)(hS:F[st]? = aa (WF ca))(hL:F[L]? = aa ⟨1,m+3,[pre,.forr [1] (.rng1 (.blt .max2 [(.c (.int 1)),(.blt .min2 [(.blt .len [(.v 0)]),(.c (.int M))])])) (.asg [2] (.call st [(.v 0),(.v 1)])::B),.ret e]⟩)(hk:kps B=ag)(hM:1<=M/\M<1000)
  (hv:∀(k:Nat)(s:DS),∃ρ' os' s',rvs (ZL F tk (d+2)) [] B (ac::aa (.int k)::aa .drw::aq m ac) [] s=.ok (.nx ρ' os') s')
  (he:∀s:DS,∃s',rvs (ZL F tk (d+2)) [] [.ret e] (aq (m+3) ac) [] s=.ok (.ret (.bl ag)) s')
   (hp:∃S1,run (Zt F (d+2)) pre (aa (.loc 0)::ac::ac::aq m ac) [.scr ns]=.ok (.nx (aa (.loc 0)::ac::ac::aq m ac)) (.scr ns::S1)):∃S',Zt F (d+3) L [.loc 0] [.scr ns]=.ok (.bl ag) S':=by
 obtain⟨S1,h1⟩:=hp;obtain⟨S',h⟩:=u8 hT hC hS hk hM hv he (S:=.scr ns::S1) rfl;refine⟨S',?_⟩;rw[show d+3=(d+2)+1 from rfl,Zt,hL]
 show(runs (Zt F (d+2)) _ (aa (.loc 0)::ac::ac::aq m ac) [.scr ns]).bind _=_;rw[xU h1,h];rfl
end
end Lw
namespace K41
open Ev Pv Rw La
def Wh(r:Row):V.flat (Zc r)=ag:=X4 r
theorem Q4:∀L:List Row,ZN (L.map Zc)=ag
 |[]=>rfl
 |r::L=>by
  show(V.flat (Zc r)&&ZN (L.map Zc))=ag;rw[Wh,Q4 L];rfl
section
variable{p n:Nat}[Base p]
def Qu{k:Nat}(hk:k<=6):(YQ p k).length<=15625:=by
 rw[Ws];have hp:=Ve (p:=p);exact bx (Nat.pow_le_pow_left (show p<=5 by omega) k) (bx (fP (by decide) hk) (by decide))
def qF(d:Nat)(s:DS)(hn:n<=6):CV (d+1) 27 [spV p n] s=.ok (.lst ((YQ p n).map Zc)) s:=by
 have hp:=Ve (p:=p);refine Zv (fn:=Xm) rfl (by decide) rfl ?_
 show rvs (CV d) [3] Xm.body [aa (spV p n),ac,ac,ac,ac] [] s=_
 dsimp only[Xm]
 rw[Zg (ρ':=[aa (spV p n),aa (.lst ((YQ p 0).map Zc)),ac,ac,ac]) (os':=[]) (s':=s) (by simp[pvE,YQ,Zc])]
 obtain⟨ρ',⟨k,a2,a4,rfl,hk⟩,e⟩:=JP (C:=CV d) (ms:=[3]) (t:=[2]) (it:=.rng1 (.ix (.v 0) (.c (.int 1)))) (b:=[.asg [3] (.lst []),.forr [4] (.of (.v 1)) [.ex (.mt .extend (.v 3) [(.comp1 [4] 1 [0] (.rng1 (.ix (.v 0) (.c (.int 0)))) [] (.bin .add (.v 1) (.tup [(.v 0)])))])],.mov 1 3]) (L:=aI n) (e:=Zr) (os:=[]) (s:=s) (ρ:=[aa (spV p n),aa (.lst ((YQ p 0).map Zc)),ac,ac,ac])
  (λl ρ=>∃k a2 a4,ρ=[aa (spV p n),aa (.lst ((YQ p k).map Zc)),a2,ac,a4]/\k+l.length=n) (Xs (ix1 rfl) (by omega)) ⟨0,ac,ac,rfl,by simp⟩ rfl (λx l ρ hI=>by
   obtain⟨k,a2,a4,rfl,hk⟩:=hI;rw[aR]at hk;have hlen:=Qu (p:=p) (k:=k+1) (by omega)
   have h0:=Qu (p:=p) (k:=k) (by omega)
   obtain⟨o4,_,e4⟩:=Zal (C:=CV d) (ms:=[3]) (t:=[4]) (it:=.of (.v 1)) (b:=[.ex (.mt .extend (.v 3) [(.comp1 [4] 1 [0] (.rng1 (.ix (.v 0) (.c (.int 0)))) [] (.bin .add (.v 1) (.tup [(.v 0)])))])]) (L:=YQ p k) (e:=Zc) (step:=λ(acc:List Row) r=>acc++(aI p).map λ(a:Nat)=>r++[(a:Int)]) (ρ:=λacc o=>[aa (spV p n),aa (.lst ((YQ p k).map Zc)),aa (Zr x),aa (.lst (acc.map Zc)),o]) (st:=[]) (o:=a4) (os:=[3]) (s:=s)
    (λl acc=>(∀r∈l,r.length<=6)/\acc.length+l.length*p<=15625) (by simp[pvE]) ⟨λr hr=>by rw[(Xe.mp hr).1];omega,by
     have:(YQ p (k+1)).length=(YQ p k).length*p:=by rw[Ws,Ws,Nat.pow_succ]
     simp only[d4,lq];omega⟩ rfl (λr l acc o hI=>by
     obtain⟨h1,h2⟩:=hI;rw[aR,Nat.succ_mul]at h2;have hr:=h1 r (am ..);refine⟨⟨λq hq=>h1 q (al _ hq),by rw[aW,aH,bL];omega⟩,by rw[Wh];rfl,[aa (spV p n),aa (.lst ((YQ p k).map Zc)),aa (Zr x),aa (.lst (acc.map Zc)),aa (Zc r)],aa (Zc r),rfl,?_⟩
     have hc:=ZD (C:=CV d) (cap:=[4]) (nl:=1) (t:=[0]) (it:=.rng1 (.ix (.v 0) (.c (.int 0)))) (elt:=.bin .add (.v 1) (.tup [(.v 0)])) (ρ:=[aa (spV p n),aa (.lst ((YQ p k).map Zc)),aa (Zr x),ac,aa (Zc r)]) (s:=s) (l:=aI p) (e:=Zr) (g:=λ(a:Nat)=>Zc (r++[(a:Int)]))
      (Xs (ix0 rfl) (by omega)) (by rw[bL];unfold lim;omega) (λa ha=>⟨[aa (Zr a),aa (Zc r)],rfl,by
       rw[XT (xs:=r.map .int) (ys:=[Zr a]) (Zk rfl) (XZ (Zk rfl)) (by rw[aH];simp;omega)]
       unfold Zc;rw[d6];rfl⟩)
     have hm:((aI p).map λ(a:Nat)=>Zc (r++[(a:Int)]))=((aI p).map λ(a:Nat)=>r++[(a:Int)]).map Zc:=by rw[bH];rfl
     rw[hm]at hc;rw[Zg (ρ':=[aa (spV p n),aa (.lst ((YQ p k).map Zc)),aa (Zr x),aa (.lst ((acc++(aI p).map λ(a:Nat)=>r++[(a:Int)]).map Zc)),aa (Zc r)]) (os':=[3]) (s':=s) (by
      rw[rv];show(if ag=ag then((PR.ok (acc.map Zc) s).bind λxs s=>(pv (CV d) _ [aa (spV p n),aa (.lst ((YQ p k).map Zc)),aa (Zr x),ac,aa (Zc r)] s).bind _)else _)=_
      rw[T9 rfl,Za,hc,Za];show(if ZN (((aI p).map λ(a:Nat)=>r++[(a:Int)]).map Zc)=ag/\_<=lim then _ else _)=_
      rw[T9 ⟨Q4 _,by rw[aH,aH,aH,bL];unfold lim;omega⟩,d6]
      rfl),rvs])
   have hfold:∀(l acc:List Row),l.foldl (λ(acc:List Row) r=>acc++(aI p).map λ(a:Nat)=>r++[(a:Int)]) acc=acc++l.flatMap λr=>(aI p).map λ(a:Nat)=>r++[(a:Int)]:=λl=>by
    induction l with|nil=>intro acc;simp|cons r l ih=>intro acc;rw[eU,ih,List.flatMap_cons,cV]
   rw[hfold,eV]at e4;refine⟨rfl,_,[aa (spV p n),aa (.lst ((YQ p (k+1)).map Zc)),aa (Zr x),ac,o4],rfl,?_,k+1,aa (Zr x),o4,rfl,by omega⟩
   show rvs _ _ _ [aa (spV p n),aa (.lst ((YQ p k).map Zc)),aa (Zr x),ac,a4] _ _=_;rw[Zg (ρ':=[aa (spV p n),aa (.lst ((YQ p k).map Zc)),aa (Zr x),aa (.lst (([]:List Row).map Zc)),a4]) (os':=[3]) (s':=s) (by simp[pvE,ZN]),Zg e4]
   rw[Zg (ρ':=[aa (spV p n),aa (.lst ((YQ p (k+1)).map Zc)),aa (Zr x),ac,o4]) (os':=[]) (s':=s) (by rw[rv];rfl),rvs])
 rw[Zg e];rw[d4,Nat.add_zero]at hk;subst hk;exact Zl (ZP (Zk rfl))
theorem qD:∀r q:Row,(r.zip q).map (λx=>x.1*x.2)=eG (· * ·) r q
 |[],_=>by simp
 |_::_,[]=>by simp
 |a::r,b::q=>by
  show a*b::(r.zip q).map (λx=>x.1*x.2)=a*b::eG (· * ·) r q
  rw[qD r q]
def ZbJ{C:Zy}{a b:E}{r q:Row}{ρ:Env}(s:DS)(hn:n<=6)(hr:Zj p n r)(hq:Zj p n q)(ha:pv C a ρ s=.ok (Zc r) s)(hb:pv C b ρ s=.ok (Zc q) s):pv C (.blt .sum [(.comp1 [] 2 [0,1] (.zip a b) [] (.bin .mul (.v 0) (.v 1)))]) ρ s=.ok (.int (Y3 r q)) s:=by
 have hp:=Ve (p:=p);have hc:=ZD (C:=C) (cap:=[]) (nl:=2) (t:=[0,1]) (it:=.zip a b) (elt:=.bin .mul (.v 0) (.v 1)) (ρ:=ρ) (s:=s) (l:=r.zip q) (e:=λx=>V.tup [.int x.1,.int x.2]) (g:=λx=>V.int (x.1*x.2))
  (by
   rw[pvw,ha,Za,hb,Za];show PR.ok (((r.map V.int).zip (q.map V.int)).map λz=>V.tup [z.1,z.2]) s=_
   rw[VC]) (by rw[dH,hr.1,hq.1];unfold lim;omega) (λx hx=>by
   have h1:=hr.2 x.1 (cB hx).1;have h2:=hq.2 x.2 (cB hx).2;have f1:=ZG (a:=x.1) (by omega) (by omega)
   have f2:=ZG (a:=x.2) (by omega) (by omega)
   exact⟨_,rfl,by simp[pvE,f1,f2]⟩)
 rw[pv,Zd hc Zh,Za];show po ((intsV ((r.zip q).map λx=>V.int (x.1*x.2))).bind λis=>if XR is=ag then aa (V.int is.sum)else ac) s=_
 have e2:((r.zip q).map λx=>V.int (x.1*x.2))=((r.zip q).map λx=>x.1*x.2).map V.int:=by rw[bH];rfl
 rw[e2,XV,qD];show po (if XR (eG (· * ·) r q)=ag then aa (V.int (Y3 r q))else ac) s=_
 have e3:XR (eG (· * ·) r q)=ag:=by
  unfold XR;rw[aB,T2,aU];refine⟨by rw[kj,hr.1];omega,λi hi=>?_⟩
  rw[<-qD]at hi;obtain⟨x,hx,rfl⟩:=aO.mp hi;have h1:=hr.2 x.1 (cB hx).1;have h2:=hq.2 x.2 (cB hx).2;have h3:0<=x.1*x.2:=Int.mul_nonneg h1.1 h2.1;have h4:x.1*x.2<=5*5:=mr (by omega) (by omega) h2.1 (by omega)
  simp only[T2];omega
 rw[T9 e3];rfl
def GX(d:Nat){P:List Row}(s:DS)(hn:n<=6)(hP:pZ p n P):CV (d+2) 28 [spV p n,Ze P] s=.ok (.lst ((XM p n P).map Zc)) s:=by
 have hz:=dsum hP;have hp:=Ve (p:=p);refine Zv (fn:=Ys) rfl (by decide) rfl ?_
 show rvs (CV (d+1)) [2] Ys.body [aa (spV p n),aa (Ze P),ac,ac,ac] [] s=_
 dsimp only[Ys]
 have hlim:=Qu (p:=p) hn;rw[Zg (ρ':=[aa (spV p n),aa (Ze P),aa (.lst (([]:List Row).map Zc)),ac,ac]) (os':=[2]) (s':=s) (by simp[pvE,ZN])]
 obtain⟨ρ',⟨L,a3,a4,rfl,hL,_⟩,e⟩:=JP (C:=CV (d+1)) (ms:=[2]) (t:=[3]) (it:=.of (.call 27 [(.v 0)])) (b:=[.asg [4] (.comp1 [3,0] 1 [0] (.of (.v 1)) [] (.bin .mod (.blt .sum [(.comp1 [] 2 [0,1] (.zip (.v 1) (.v 0)) [] (.bin .mul (.v 0) (.v 1)))]) (.ix (.v 2) (.c (.int 0))))),.ite (.not (.blt .any [(.v 4)])) [.ex (.mt .append (.v 2) [(.v 3)])] []]) (L:=YQ p n) (e:=Zc) (os:=[2]) (s:=s) (ρ:=[aa (spV p n),aa (Ze P),aa (.lst (([]:List Row).map Zc)),ac,ac])
  (λl ρ=>∃(L:List Row)(a3 a4:Option V),ρ=[aa (spV p n),aa (Ze P),aa (.lst (L.map Zc)),a3,a4]/\L++(l.filter λr=>P.all λq=>ae (Y3 r q%p=0))=XM p n P/\L.length+l.length<=15625/\∀r∈l,Zj p n r)
  (by
   show pvw _ _ [aa (spV p n),aa (Ze P),ac,ac,ac] s=_;rw[pvw,Zs (Zd (Zk rfl) Zh) (qF d s hn)];rfl)
  ⟨[],ac,ac,rfl,rfl,by simpa using hlim,λr hr=>Xe.mp hr⟩ rfl (λr l ρ hI=>by
   obtain⟨L,a3,a4,rfl,h1,h2,h3⟩:=hI;rw[aR]at h2;have hr:=h3 r (am ..);have hc:=ZD (C:=CV (d+1)) (cap:=[3,0]) (nl:=1) (t:=[0]) (it:=.of (.v 1)) (elt:=.bin .mod (.blt .sum [(.comp1 [] 2 [0,1] (.zip (.v 1) (.v 0)) [] (.bin .mul (.v 0) (.v 1)))]) (.ix (.v 2) (.c (.int 0)))) (ρ:=[aa (spV p n),aa (Ze P),ac,aa (Zc r),a4]) (s:=s) (l:=P) (e:=Zc) (g:=λq=>V.int (Y3 r q%p))
    (by rw[pvw,Zk (v:=Ze P) rfl];rfl) (by unfold lim;omega) (λq hq=>⟨[aa (Zc q),aa (Zc r),aa (spV p n)],rfl,by
     have hp0:(0:Int)<p:=by omega
     rw[pv,ZbJ (p:=p) (n:=n) s hn hr (hP.row q hq) (Zk rfl) (Zk rfl),Za,ix0 (p:=p) (n:=n) rfl,Za];show(if(0:Int)<p then _ else _)=_
     rw[T9 hp0]⟩)
   have hany:∀a2,pv (CV (d+1)) (.not (.blt .any [(.v 4)])) [aa (spV p n),aa (Ze P),a2,aa (Zc r),aa (.lst (P.map λq=>V.int (Y3 r q%p)))] s=.ok (.bl (P.all λq=>ae (Y3 r q%p=0))) s:=λa2=>by
    have e1:pv (CV (d+1)) (.blt .any [(.v 4)]) [aa (spV p n),aa (Ze P),a2,aa (Zc r),aa (.lst (P.map λq=>V.int (Y3 r q%p)))] s=.ok (.bl !(P.all λq=>ae (Y3 r q%p=0))) s:=by
     rw[pv,Zd (Zk rfl) Zh,Za];show po ((ZS (P.map λq=>V.int (Y3 r q%p))).map λbs=>V.bl (bs.any id)) s=_
     have:(P.map λq=>V.int (Y3 r q%p))=(P.map λq=>Y3 r q%p).map V.int:=by rw[bH];rfl
     rw[this,Wd];show PR.ok (V.bl _) s=_
     congr 2
     rw[bH,List.any_map,bz];simp
    have:=VY e1;rw[Bool.not_not]at this;exact this
   have e4:rv (CV (d+1)) [2] (.asg [4] (.comp1 [3,0] 1 [0] (.of (.v 1)) [] (.bin .mod (.blt .sum [(.comp1 [] 2 [0,1] (.zip (.v 1) (.v 0)) [] (.bin .mul (.v 0) (.v 1)))]) (.ix (.v 2) (.c (.int 0)))))) [aa (spV p n),aa (Ze P),aa (.lst (L.map Zc)),aa (Zc r),a4] [2] s=.ok (.nx [aa (spV p n),aa (Ze P),aa (.lst (L.map Zc)),aa (Zc r),aa (.lst (P.map λq=>V.int (Y3 r q%p)))] [2]) s:=by
    rw[rv];show(match pv (CV (d+1)) _ [aa (spV p n),aa (Ze P),ac,aa (Zc r),a4] s with
     |.ok v s=>PR.ok v s
     |.ex c s=>.ex c s
     |.no=>_).bind _=_
    rw[hc];rfl
   have h3':∀q∈l,Zj p n q:=λq hq=>h3 q (al _ hq)
   have ht:=XF (hany (aa (.lst (L.map Zc)))) rfl;cases hq:P.all λq=>ae (Y3 r q%p=0)with
   |true=>
    rw[hq]at ht;refine⟨by rw[Wh];rfl,_,[aa (spV p n),aa (Ze P),aa (.lst ((L++[r]).map Zc)),aa (Zc r),aa (.lst (P.map λq=>V.int (Y3 r q%p)))],rfl,?_,L++[r],_,_,rfl,?_,by rw[aW,cw];omega,h3'⟩
    ·show rvs _ _ _ [aa (spV p n),aa (Ze P),aa (.lst (L.map Zc)),aa (Zc r),a4] [2] s=_
     rw[Zg e4,Zg ((X9 ht).trans (?_:_=PR.ok (FlV.nx _ [2]) s)),rvs];rw[T9 rfl,Zg (ρ':=[aa (spV p n),aa (Ze P),aa (.lst ((L++[r]).map Zc)),aa (Zc r),aa (.lst (P.map λq=>V.int (Y3 r q%p)))]) (os':=[2]) (s':=s) (by
      rw[rv];show(if ag=ag then((PR.ok (L.map Zc) s).bind λxs s=>(pv (CV (d+1)) (.v 3) _ s).bind _)else _)=_
      rw[T9 rfl,Za,Zk (v:=Zc r) rfl,Za];show(if V.flat (Zc r)=ag/\(L.map Zc).length<lim then _ else _)=_
      rw[T9 ⟨Wh r,by rw[aH];unfold lim;omega⟩,d6];rfl),rvs]
    ·rw[<-h1,dg,T9 hq,cV];rfl
   |false=>
    rw[hq]at ht;refine⟨by rw[Wh];rfl,_,[aa (spV p n),aa (Ze P),aa (.lst (L.map Zc)),aa (Zc r),aa (.lst (P.map λq=>V.int (Y3 r q%p)))],rfl,?_,L,_,_,rfl,?_,by omega,h3'⟩
    ·show rvs _ _ _ [aa (spV p n),aa (Ze P),aa (.lst (L.map Zc)),aa (Zc r),a4] [2] s=_
     rw[Zg e4,Zg ((X9 ht).trans (by rw[T8 (by simp),rvs])),rvs]
    ·rw[<-h1,dg,T8 (by rw[hq];simp)])
 rw[Zg e];rw[List.filter_nil,dF]at hL;rw[hL];exact Zl (ZP (Zk rfl))
def jN(d:Nat)(a:Int)(s:DS):CV (d+1) 31 [.int a,.int a] s=.ok (.bl ag) s:=by
 refine Zv (fn:=Yb) rfl (by decide) rfl ?_
 show rvs (CV d) [] Yb.body [aa (.int a),aa (.int a)] [] s=_;simp[Yb,pvE,Z2,YG,Wn,eqV,Zn]
def GJ(d:Nat){α:Type}{f:α->V}{l:List α}(s:DS)(hl:l.length<=1000)(h:∀x∈l,CV d 31 [f x,f x] s=.ok (.bl ag) s):CV (d+1) 31 [.tup (l.map f),.tup (l.map f)] s=.ok (.bl ag) s:=by
 refine Zv (fn:=Yb) rfl (by decide) rfl ?_
 show rvs (CV d) [] Yb.body [aa (.tup (l.map f)),aa (.tup (l.map f))] [] s=_
 dsimp only[Yb]
 refine Zl ?_;have hz:((l.map f).zip (l.map f)).map (λq=>V.tup [q.1,q.2])=l.map λx=>V.tup [f x,f x]:=by
  clear h hl
  induction l with|nil=>rfl|cons x l ih=>rw[aS,cP,aS,ih];rfl
 have hc:=ZD (C:=CV d) (cap:=[]) (nl:=2) (t:=[0,1]) (it:=.zip (.v 0) (.v 1)) (elt:=.call 31 [(.v 0),(.v 1)]) (ρ:=[aa (.tup (l.map f)),aa (.tup (l.map f))]) (s:=s) (l:=l) (e:=λx=>V.tup [f x,f x]) (g:=λ_=>V.bl ag)
  (by
   rw[pvw,Zk rfl,Za,Zk rfl,Za];show PR.ok (((l.map f).zip (l.map f)).map λq=>V.tup [q.1,q.2]) s=_
   rw[hz]) (by unfold lim;omega) (λx hx=>⟨_,rfl,Zs (Zd (Zk rfl) (Zd (Zk rfl) Zh)) (h x hx)⟩)
 have ht:=Yk (g:=λ_:α=>ag) l
 have ha:(l.map λ_=>ag).all id=ag:=by induction l <;> simp
 simp[pvE,Z2,YG,Wn,eqV,Zn,hc,ht,ha]
def wW(d:Nat){P:List Row}(s:DS)(hn:n<=6)(hP:pZ p n P):CV (d+3) 31 [Ze P,Ze P] s=.ok (.bl ag) s:=
 GJ (d+2) s (by have:=dsum hP;omega) λr hr=>GJ (d+1) s (by rw[(hP.row r hr).1];omega) λa _=>jN d a s
end
section
variable{p n:Nat}[Base p]
def jT(d:Nat){x:V}(s:DS)(hn:n<=6)(hx:Th 1000 x)(h:isP p n x=ai):CV (d+5) 26 [spV p n,x] s=.ex 2 s:=by
 have e:=Qw (p:=p) (n:=n) d s hn hx.1 hx.2;rw[h,T8 (by simp)]at e
 refine xO (fn:=XI) rfl (by decide) rfl ?_
 show rvs (CV (d+4)) [] XI.body [aa (spV p n),aa x,ac,ac,ac,ac] [] s=_
 dsimp only[XI]
 exact ZcX (ZcL (zn (Zd (Zk rfl) (Zd (Zk rfl) Zh)) e))
end
def Zau{C:Zy}{ρ:Env}{s s':DS}{e:E}{w:Bool}{v:V}(h:pv C e ρ s=.ok v s'):pv C (.refu w e) ρ s=.ok .non s':=by rw[pv,h]
def Za4{C:Zy}{ρ:Env}{s s':DS}{e:E}{w:Bool}{c:Nat}(h:pv C e ρ s=.ex c s')(hc:1<=c/\c<=10):pv C (.refu w e) ρ s=.ok (Zem w (c-1)) s':=by
 rw[pv,h];show(if 1<=c/\c<=10 then _ else _)=_
 rw[T9 hc]
def ne_str{C:Zy}{ρ:Env}{s:DS}{a b:E}{x:PySem.Str}(h1:pv C a ρ s=.ok (.str x) s)(h2:pv C b ρ s=.ok (.str x) s):pv C (.cmp .ne a b) ρ s=.ok (.bl ai) s:=by
 rw[pv,h1,Za,h2,Za];show po (aa (V.bl !(ae (x=x)))) s=_;rw[T5 rfl];rfl
noncomputable def thB:List Sm:=[.asg [8] (.ix (.lst [(.c .non),(.c (.str (bh "part")))]) (.blt .toInt [(.not (.call 34 [(.v 3),(.v 7)]))])),
  .ite (.cmp .ne (.refu ag (.call 26 [(.v 3),(.v 7)])) (.v 8)) [.ret (.c (.bl ai))] []]
noncomputable def jQ:List Sm:=[.asg [3] (.call 3 [(.v 2),(.ix (.lst [(.c (.int 27)),(.c (.int 125))]) (.blt .toInt [(.cmp .eq (.v 1) (.c (.int 0)))]))]),
  .asg [4] (.call 7 [(.v 2),(.v 3)]),
  .asg [5] (.call 5 [(.v 3),(.call 28 [(.v 3),(.v 4)])]),
  .forr [6] (.rng1 (.c (.int 2))) [.ite (.not (.call 31 [(.call 26 [(.v 3),(.v 4)]),(.v 5)])) [.ret (.c (.bl ai))] []],
  .forr [7] (.of (.lst [(.call 29 [(.v 2),(.v 3),(.v 4)]),(.call 29 [(.v 2),(.v 3),(.v 4)]),(.call 30 [(.v 2)])])) thB]
section
variable{p n:Nat}[Base p]
def ZcH(d:Nat){x:V}(s:DS)(hn:n<=6)(hx:Th 1000 x){a0 a1 a2 a4 a5 a6 a8:Option V}:∃b,rvs (CV (d+8)) [] thB [a0,a1,a2,aa (spV p n),a4,a5,a6,aa x,a8] [] s=.ok (.nx [a0,a1,a2,aa (spV p n),a4,a5,a6,aa x,b] []) s:=by
 have e1:=zy (p:=p) (n:=n) (d+5) s hn hx.1 hx.2;have w:∀(b:Bool)(ρ:Env),pv (CV (d+8)) (.not (.call 34 [(.v 3),(.v 7)])) ρ s=.ok (.bl b) s->pv (CV (d+8)) (.ix (.lst [(.c .non),(.c (.str (bh "part")))]) (.blt .toInt [(.not (.call 34 [(.v 3),(.v 7)]))])) ρ s=.ok (if b=ag then .str (bh "part")else .non) s:=λb ρ h=>by
  have g1:pv (CV (d+8)) (.lst [(.c .non),(.c (.str (bh "part")))]) ρ s=.ok (.lst [.non,.str (bh "part")]) s:=by simp[pvE,ofD]
  rw[pv,g1,Za,pv,Zd h Zh,Za];cases b <;> rfl
 let ρ (a8:Option V):Env:=[a0,a1,a2,aa (spV p n),a4,a5,a6,aa x,a8]
 have e2:=w _ (ρ a8) (VY (Zs (Zd (Zk (v:=spV p n) rfl) (Zd (Zk (v:=x) rfl) Zh)) e1));unfold thB;show ∃b,rvs _ _ _ (ρ a8) [] s=.ok (.nx (ρ b) []) s;rw[Zg (Z0 e2 rfl)];show ∃b,rvs _ _ _ (ρ (aa _)) [] s=_;cases hp:isP p n x with
 |true=>
  obtain⟨P,rfl,hP⟩:=Ui.mp hp;have e3:=Zs (C:=CV (d+8)) (ρ:=ρ (aa .non)) (Zd (Zk (i:=3) (v:=spV p n) rfl) (Zd (Zk (i:=7) (v:=Ze P) rfl) Zh)) (x8 (d+1) s hn hP);refine⟨aa .non,?_⟩;show rvs _ _ _ (ρ (aa .non)) [] s=_;rw[guard (by rw[pv,Zau e3,Za,Zk (v:=.non) rfl];rfl),rvs]
 |false=>
  have e3:=zn (C:=CV (d+8)) (ρ:=ρ (aa (.str (bh "part")))) (Zd (Zk (i:=3) (v:=spV p n) rfl) (Zd (Zk (i:=7) (v:=x) rfl) Zh)) (jT (p:=p) (n:=n) (d+3) s hn hx hp);refine⟨aa (.str (bh "part")),?_⟩;show rvs _ _ _ (ρ (aa (.str (bh "part")))) [] s=_;rw[guard (ne_str (Za4 (w:=ag) e3 ⟨by decide,by decide⟩) (Zk (v:=.str (bh "part")) rfl)),rvs]
end
def jW:∀q∈Zcl++Zc6,q.1^q.2<=125:=by decide
def qh(d:Nat)(k:Nat)(s:DS):∃ρ' os' s',rvs (CV (d+8)) [] jQ (ac::aa (.int k)::aa .drw::aq 6 ac) [] s=.ok (.nx ρ' os') s':=by
 unfold jQ
 let ρ (a3 a4 a5 a6 a7 a8:Option V):Env:=[ac,aa (.int k),aa .drw,a3,a4,a5,a6,a7,a8]
 show ∃ρ' os' s',rvs (CV (d+8)) [] _ (ρ ac ac ac ac ac ac) [] s=.ok (.nx ρ' os') s';obtain⟨m,e0,hm⟩:∃m:Int,pv (CV (d+8)) (.ix (.lst [(.c (.int 27)),(.c (.int 125))]) (.blt .toInt [(.cmp .eq (.v 1) (.c (.int 0)))])) (ρ ac ac ac ac ac ac) s=.ok (.int m) s/\2<=m:=by
  have g1:pv (CV (d+8)) (.lst [(.c (.int 27)),(.c (.int 125))]) (ρ ac ac ac ac ac ac) s=.ok (.lst [.int 27,.int 125]) s:=by simp[pvE,ofD]
  have g2:pv (CV (d+8)) (.blt .toInt [(.cmp .eq (.v 1) (.c (.int 0)))]) (ρ ac ac ac ac ac ac) s=.ok (.int (b2i (ae ((k:Int)=0)))) s:=by
   rw[pv,Zd (v:=.bl (ae ((k:Int)=0))) (by rw[pv,Zk (v:=.int k) rfl,Za,Yw];rfl) Zh];rfl
  by_cases c:(k:Int)=0
  ·refine⟨125,?_,by omega⟩
   rw[pv,g1,Za,g2,Za,T5 c];rfl
  ·refine⟨27,?_,by omega⟩
   rw[pv,g1,Za,g2,Za,T4 c];rfl
 obtain⟨p,n,s1,f1,f2,f3,f4,f5⟩:=vp (d+6) (m:=m) s hm;have hB:Base p:=⟨f2⟩;rw[Zg (Z0 (Zs (Zd (Zk rfl) (Zd e0 Zh)) f1) rfl)];show ∃ρ' os' s',rvs _ _ _ (ρ (aa (spV p n)) ac ac ac ac ac) [] s1=.ok (.nx ρ' os') s';obtain⟨P,s2,p1,hP⟩:=jr (p:=p) (n:=n) (d+5) s1 f4;rw[Zg (Z0 (Zs (Zd (Zk rfl) (Zd (Zk rfl) Zh)) p1) rfl)];show ∃ρ' os' s',rvs _ _ _ (ρ (aa (spV p n)) (aa (Ze P)) ac ac ac ac) [] s2=.ok (.nx ρ' os') s';have hlen:(XM p n P).length<=1000:=by
  refine bx (d7 ..) ?_;rw[Ws];exact bx (jW (p,n) f5) (by decide)
 obtain⟨Q,q1,hQ⟩:=Wt (p:=p) (n:=n) (d+6) (R:=XM p n P) (v:=.lst ((XM p n P).map Zc)) s2 f4 (λr hr=>Xe.mp (bK.mp hr).1) hlen rfl
 obtain rfl:=hQ.uniq (QD hP);have hpp:=(UB hP).1;rw[Zg (Z0 (Zs (Zd (Zk rfl) (Zd (Zs (Zd (Zk rfl) (Zd (Zk rfl) Zh)) (GX (d+6) s2 f4 hP)) Zh)) q1) rfl)];show ∃ρ' os' s',rvs _ _ _ (ρ (aa (spV p n)) (aa (Ze P)) (aa (Ze (Yu p n P))) ac ac ac) [] s2=.ok (.nx ρ' os') s';obtain⟨_,g1⟩:=y8 (C:=CV (d+8)) (ms:=[]) (s:=s2) (i:=6) (it:=.rng1 (.c (.int 2))) (b:=[.ite (.not (.call 31 [(.call 26 [(.v 3),(.v 4)]),(.v 5)])) [.ret (.c (.bl ai))] []]) (L:=aI 2) (e:=Zr) (q:=λ_=>ai) (v:=.bl ai) (ρ:=λo=>ρ (aa (spV p n)) (aa (Ze P)) (aa (Ze (Yu p n P))) o ac ac) ac
  (Xs Yw (by decide)) (λ_ _=>rfl) (λx _=>by
   rw[T8 (by simp),guard (VY (Zs (Zd (Zs (Zd (Zk rfl) (Zd (Zk rfl) Zh)) (x8 (d+1) s2 f4 hP)) (Zd (Zk rfl) Zh)) (wW (p:=p) (n:=n) (d+5) s2 f4 hpp))),rvs])
 obtain⟨o6,g1⟩:=g1 rfl;rw[Zg g1];obtain⟨x1,s3,b1,t1⟩:=Gw (p:=p) (n:=n) (d+5) s2 f4 f3 hP;obtain⟨x2,s4,b2,t2⟩:=Gw (p:=p) (n:=n) (d+5) s3 f4 f3 hP;obtain⟨x3,s5,b3,t3⟩:=ZbO (d+6) s4;have hl:pvw (CV (d+8)) (.of (.lst [(.call 29 [(.v 2),(.v 3),(.v 4)]),(.call 29 [(.v 2),(.v 3),(.v 4)]),(.call 30 [(.v 2)])])) (ρ (aa (spV p n)) (aa (Ze P)) (aa (Ze (Yu p n P))) o6 ac ac) s2=.ok [x1,x2,x3] s5:=by
  rw[pvw,pv,Zd (Zs (Zd (Zk rfl) (Zd (Zk rfl) (Zd (Zk rfl) Zh))) b1) (Zd (Zs (Zd (Zk rfl) (Zd (Zk rfl) (Zd (Zk rfl) Zh))) b2) (Zd (Zs (Zd (Zk rfl) Zh) b3) Zh))];rfl
 have r1:∀x,Th 1000 x->∀a8,∃b,rvs (CV (d+8)) [] thB (ρ (aa (spV p n)) (aa (Ze P)) (aa (Ze (Yu p n P))) o6 (aa x) a8) [] s5=.ok (.nx (ρ (aa (spV p n)) (aa (Ze P)) (aa (Ze (Yu p n P))) o6 (aa x) b) []) s5:=λx hx a8=>ZcH (p:=p) (n:=n) d s5 f4 hx
 obtain⟨c1,k1⟩:=r1 x1 t1 ac;obtain⟨c2,k2⟩:=r1 x2 t2 c1;obtain⟨c3,k3⟩:=r1 x3 t3 c2;refine⟨ρ (aa (spV p n)) (aa (Ze P)) (aa (Ze (Yu p n P))) o6 (aa x3) c3,[],s5,?_⟩;rw[Zg (ρ':=ρ (aa (spV p n)) (aa (Ze P)) (aa (Ze (Yu p n P))) o6 (aa x3) c3) (os':=[]) (s':=s5) ?_,rvs];rw[rv];show(pvw _ _ (ρ (aa (spV p n)) (aa (Ze P)) (aa (Ze (Yu p n P))) o6 ac ac) s2).bind _=_;rw[hl,Za];have step:∀x xs a7 a8 b,rvs (CV (d+8)) [] thB (ρ (aa (spV p n)) (aa (Ze P)) (aa (Ze (Yu p n P))) o6 (aa x) a8) [] s5=.ok (.nx (ρ (aa (spV p n)) (aa (Ze P)) (aa (Ze (Yu p n P))) o6 (aa x) b) []) s5->XN (λx ρ os s=>if(([7]:List Nat).any os.contains)=ag then .no else if(os.isEmpty||x.flat)=ag then(po (Zx [7] x ρ) s).bind λρ s=>rvs (CV (d+8)) [] thB ρ os s else .no) (x::xs) (ρ (aa (spV p n)) (aa (Ze P)) (aa (Ze (Yu p n P))) o6 a7 a8) [] s5=XN (λx ρ os s=>if(([7]:List Nat).any os.contains)=ag then .no else if(os.isEmpty||x.flat)=ag then(po (Zx [7] x ρ) s).bind λρ s=>rvs (CV (d+8)) [] thB ρ os s else .no) xs (ρ (aa (spV p n)) (aa (Ze P)) (aa (Ze (Yu p n P))) o6 (aa x) b) [] s5:=λx xs a7 a8 b h=>by
  rw[XN,T8 (by simp),T9 (by rfl)]
  show(((PR.ok (ρ (aa (spV p n)) (aa (Ze P)) (aa (Ze (Yu p n P))) o6 (aa x) a8) s5).bind λρ s=>rvs (CV (d+8)) [] thB ρ [] s).bind _)=_
  rw[Za,h];rfl
 rw[step x1 _ _ _ _ k1,step x2 _ _ _ _ k2,step x3 _ _ _ _ k3,XN]
def ZaK(d:Nat)(s:DS):∃s',rvs (CV (d+8)) [] [.ret (.c (.bl ag))] (aq (6+3) ac) [] s=.ok (.ret (.bl ag)) s':=⟨s,Zl (ZP (by rw[pv];rfl))⟩
noncomputable def Zd1:Sm:=.ite (.or (.cmp .ne (.call 26 [(.tup [(.c (.int 2)),(.c (.int 2))]),(.tup [(.tup [(.c (.int 1)),(.c (.int 1))])])]) (.tup [(.tup [(.c (.int 1)),(.c (.int 1))])])) (.cmp .ne (.call 26 [(.tup [(.c (.int 3)),(.c (.int 2))]),(.tup [(.tup [(.c (.int 1)),(.c (.int 1))])])]) (.tup [(.tup [(.c (.int 1)),(.c (.int 2))])]))) [.ret (.c (.bl ai))] []
noncomputable def aft:R Fl->Zb
 |.ok _ S=>S.tail
 |_=>[]
def Zbl(ns:List Int):∃S1,run (Zt fns 62) Zd1 (aa (.loc 0)::ac::ac::aq 6 ac) [.scr ns]=.ok (.nx (aa (.loc 0)::ac::ac::aq 6 ac)) (.scr ns::S1):=
 ⟨aft (run (Zt fns 62) Zd1 (aa (.loc 0)::ac::ac::aq 6 ac) [.scr ns]),by kernel_rfl!⟩
def law_ok{ns:List Int}{S:Zb}(d:Nat)(hs:S=[.scr ns]):∃S',Zt fns 63 36 [.loc 0] S=.ok (.bl ag) S':=by
 rw[hs];exact Lw.ZaH (F:=fns) (tk:=2) (ca:=0) (st:=1) (L:=36) (M:=6) (B:=jQ) (m:=6) (d:=60) rfl rfl rfl rfl rfl (by omega) (qh 54) (ZaK 54) (Zbl ns)
end K41
namespace PySem.W.Fast
def tw1035259105374285408:=0
def tw10366924139040193196:=0
def tw10392769149160421173:=0
def tw10450502119569364509:=0
def tw10511250747087364010:=0
def tw10575012787531619893:=0
def tw10666034679327655427:=0
def tw10695384626927215240:=0
def tw10724576449002142308:=0
def tw10727774272679406832:=0
def tw10869285182555102059:=0
def tw10973180558555982898:=0
def tw10975691488500889943:=0
def tw11018795960060281095:=0
def tw11055185329022334062:=0
def tw11102086432984366196:=0
def tw11140720521210508374:=0
def tw11247831723856410202:=0
def tw11249458604799076805:=0
def tw11353083992963705555:=0
def tw11421880713745633811:=0
def tw11422135396644041021:=0
def tw11524341978751687004:=0
def tw11798212328312633683:=0
def tw11850592211402997013:=0
def tw12129477863749209562:=0
def tw12221139055182262183:=0
def tw1239249433422268197:=0
def tw12439328035801963881:=0
def tw12517926404441352871:=0
def tw12650489706011169440:=0
def tw12676183706620188950:=0
def tw12679211034062754604:=0
def tw12700937194185093923:=0
def tw12710017605098033596:=0
def tw12797572693397933758:=0
def tw13079889948417580499:=0
def tw13087980050188073532:=0
def tw13143690744927146483:=0
def tw13255158869207260672:=0
def tw13557863669585349178:=0
def tw13598414430664627430:=0
def tw13603778979142132265:=0
def tw13618529664715992435:=0
def tw136991483812201444:=0
def tw13725890388795453807:=0
def tw13742342572186901781:=0
def tw13831901344712347185:=0
def tw1385307269616143740:=0
def tw13923653145037791895:=0
def tw14007774882602694406:=0
def tw14335315702557030026:=0
def tw1436346226471063070:=0
def tw14583784053701543011:=0
def tw14616380066628661083:=0
def tw14790665277403861584:=0
def tw14811691027641815618:=0
def tw14881836256823031779:=0
def tw14940355261453526116:=0
def tw14965638651465331934:=0
def tw15158284377171934083:=0
def tw15229452937218709904:=0
def tw15264629074447590442:=0
def tw15331814002405977803:=0
def tw15363910399923227605:=0
def tw15420408883338233257:=0
def tw15513760823518893580:=0
def tw15525664893360285516:=0
def tw15589149556088228269:=0
def tw15602521954469203338:=0
def tw15605893221057130147:=0
def tw15706680882317916128:=0
def tw15814253996423812573:=0
def tw15877579908146353020:=0
def tw16019892080125631767:=0
def tw16029472050432721082:=0
def tw16114744735757243564:=0
def tw16165263127735911505:=0
def tw16180707858060029456:=0
def tw16197337631387230526:=0
def tw16198571233300719112:=0
def tw16343094378783561443:=0
def tw16356351254200037487:=0
def tw1637036271812647767:=0
def tw16373075834427907744:=0
def tw16439410781125827621:=0
def tw16521569046012375787:=0
def tw16568179731830874110:=0
def tw16625445856234037184:=0
def tw16701036340114337221:=0
def tw16726682990348989293:=0
def tw16828386861116520230:=0
def tw16835030833736728728:=0
def tw17125709731417413718:=0
def tw17181425243342182960:=0
def tw17188511628953626551:=0
def tw17215567185233644787:=0
def tw17236928263178141173:=0
def tw17251008487268854080:=0
def tw17312046309855300296:=0
def tw17385903137450612471:=0
def tw17405362347771351651:=0
def tw17409201507359230870:=0
def tw17435617828665831779:=0
def tw17455438020109139181:=0
def tw1749921740160051413:=0
def tw17726453215072204733:=0
def tw17838650072147420939:=0
def tw17851950936950062029:=0
def tw17877478574480294366:=0
def tw18200920356181393897:=0
def tw18255541196699311292:=0
def tw18316810767074987127:=0
def tw18369234398700722078:=0
def tw18375756243994617045:=0
def tw18385590286219908306:=0
def tw1880870590849122818:=0
def tw1905556855820450587:=0
def tw2078503152536553751:=0
def tw2108084340460960068:=0
def tw2262448367658874807:=0
def tw2287935195576585419:=0
def tw2412374154023096948:=0
def tw2677479124454795692:=0
def tw2798966089149747965:=0
def tw2858839661479876597:=0
def tw2937987001597372856:=0
def tw2999208868012072658:=0
def tw3083075561504200223:=0
def tw3122195326633246947:=0
def tw312272476931531427:=0
def tw3137290721064703004:=0
def tw3288870123809206593:=0
def tw3348715868327170989:=0
def tw3404837357851064867:=0
def tw34192838343972919:=0
def tw3488671405166958100:=0
def tw3524635091615384646:=0
def tw3532822301632095730:=0
def tw3560885790781656463:=0
def tw3587320887111630085:=0
def tw3611400796374086294:=0
def tw3765818503992762197:=0
def tw3788082587399465895:=0
def tw3826332494627848492:=0
def tw3866095130158083433:=0
def tw3872386913966822405:=0
def tw3990745701568305335:=0
def tw4102885718685957031:=0
def tw4222187484001393231:=0
def tw4359107566152736902:=0
def tw44098858326013992:=0
def tw4461857114144541060:=0
def tw4588543345952696415:=0
def tw4605317992543134814:=0
def tw4673852538794331395:=0
def tw4729180140190340722:=0
def tw4798648396249794837:=0
def tw4834583099131946270:=0
def tw4839948052159006296:=0
def tw4966761962060626633:=0
def tw5063289164530586814:=0
def tw5284131082942945594:=0
def tw5331999440345131725:=0
def tw5478182126221051686:=0
def tw5656949194834089908:=0
def tw569327333788538563:=0
def tw5824387147088738887:=0
def tw5923842211724524560:=0
def tw6152374086620123568:=0
def tw6196458846751634948:=0
def tw6207961576306097082:=0
def tw6254000976030465229:=0
def tw6396539790066355511:=0
def tw6558245133146243247:=0
def tw6608090523559503131:=0
def tw6626178055871048052:=0
def tw6628937511738219049:=0
def tw6642078886690830561:=0
def tw6751375426235576455:=0
def tw680898787825711012:=0
def tw6826728658159623439:=0
def tw6849424261949439016:=0
def tw6858701739323477369:=0
def tw6877039700014479280:=0
def tw6885177531392783944:=0
def tw7077378064219100842:=0
def tw7370733948588616901:=0
def tw7446140638356002693:=0
def tw7580264588444892436:=0
def tw7632620774935801717:=0
def tw7691999645591959102:=0
def tw7718814491663097745:=0
def tw7862230809322223102:=0
def tw7862420190775800950:=0
def tw7961643780796815802:=0
def tw7978549479347349570:=0
def tw8032223093819604130:=0
def tw8123063528560717466:=0
def tw8415836870603612381:=0
def tw8420093223808293453:=0
def tw8505466099661763512:=0
def tw868671354128923653:=0
def tw8828237849060847620:=0
def tw8870024133841507669:=0
def tw8893564229399004271:=0
def tw9042183541252098879:=0
def tw9100720295815028202:=0
def tw9216977428782161306:=0
def tw9623622817634243190:=0
def tw9685788234951352440:=0
def tw9734159568736745007:=0
def tw9868721812840003705:=0
def tw987251767395204221:=0
def tw9993947249412032053:=0
end PySem.W.Fast
open PySem PySem.W PyProof.Rows Gn
set_option maxRecDepth 100000 in
set_option maxHeartbeats 0 in
theorem PySem.Challenge.cw_fewspaces_k41_parts_against_parts_holds : PySem.Challenge.rw_fewspaces_k41_parts_against_parts.Holds := by
  w_on; o_law; k_head; (case hw => w_witness2)
  k_fill
  refine Gn.j6 (l := PySem.Challenge.rw_fewspaces_k41_parts_against_parts) (F := K41.fns) (L := 36) (c := 367) (Pt := 363) (cl := fun _ => [24, 37, 49, 61, 73, 85, 97, 109, 121, 133, 145]) (fun ns => K41.law_ok (ns := ns) (S := [.scr ns]) 0 rfl) rfl rfl (fun w h Y => PySem.W.km_in_of Y) rfl (fun w => by kernel_rfl!) (fun w => by kernel_rfl!) ?F
  case F =>
    intro w mg fa h KX G hmg;refine' Gn.ZaN (fs := K41.fs) (zs := K41.zs) (gs := K41.gs) KX G hmg K41.okl.1 (fun i fn e => by rw [List.getElem?_take] at e; split at e; exact e; cases e) ?A ?Z ?Y ?E ?L rfl rfl rfl (by decide +kernel) (Gn.Zcw (Pp := K41.pp) K41.okl.2.1 K41.okl.2.2 (by kernel_rfl!) (by kernel_rfl!) (by kernel_rfl!) (by kernel_rfl!) (by kernel_rfl!)) ?R
    case A => repeat' (first | exact FnsAt.nil | refine' FnsAt.cons ?h1 ?h2 ?h3 ?h4 ?h5 ?_; (case h1 => k_is); (case h2 => k_is); (case h3 => k_is); (case h4 => k_is); (case h5 => first | exact bd1 fun _ _ _ _ _ _ _ => rfl | exact bd2 fun _ _ _ _ _ _ _ _ => rfl | exact bd3 fun _ _ _ _ _ _ _ _ _ => rfl | exact bd4 fun _ _ _ _ _ _ _ _ _ _ => rfl | exact bd5 fun _ _ _ _ _ _ _ _ _ _ _ => rfl | exact bd6 fun _ _ _ _ _ _ _ _ _ _ _ _ => rfl))
    case L => repeat' (first | exact FnsAt.nil | refine' FnsAt.cons ?h1 ?h2 ?h3 ?h4 ?h5 ?_; (case h1 => k_is); (case h2 => k_is); (case h3 => k_is); (case h4 => k_is); (case h5 => first | exact bd1 fun _ _ _ _ _ _ _ => rfl | exact bd2 fun _ _ _ _ _ _ _ _ => rfl | exact bd3 fun _ _ _ _ _ _ _ _ _ => rfl | exact bd4 fun _ _ _ _ _ _ _ _ _ _ => rfl | exact bd5 fun _ _ _ _ _ _ _ _ _ _ _ => rfl | exact bd6 fun _ _ _ _ _ _ _ _ _ _ _ _ => rfl))
    case Z => repeat' (first | exact ZsAt.nil | refine' ZsAt.cons ?h1 ?_; (case h1 => k_is))
    case Y => repeat' (first | exact GsAt.nil | refine' GsAt.cons ?h1 ?_; (case h1 => k_is))
    case E => kernel_rfl!
    case R => rfl
