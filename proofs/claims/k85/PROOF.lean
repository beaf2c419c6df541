import PyProof.Rows.All
import Wide.All
import OpenK.AllK
import Wide.FinOn
import Lean
import PyProof.EqAt
import PyProof.EqKinds
import PyProof.TupleCall
import PySem.Str
import PyProof.ListMulAny
import PyProof.NeKinds
import PyProof.ConsumeWalk
import PyProof.CompFree
import PyProof.ZipIter
import PyProof.Draws
import PyProof.EnumMake
import PyProof.SumWalk
import KE.KSortTup
import PyProof.Rows.SortRev
import PyProof.FactsAll.tuple
import KE.KRevIter
import PyProof.FactsAll.range_2
import PySem.Challenge.RW_fewspaces_k85_whole_lots_apart
set_option Elab.async false
set_option linter.all false
set_option compiler.extract_closed false
set_option maxRecDepth 100000
set_option maxHeartbeats 0
abbrev Pa:=@PySem.wpAny_bind
abbrev Pb:=@Option.some.inj
abbrev Pc:=@List.getElem?_eq_getElem
abbrev Pd:=@List.mem_cons_of_mem
abbrev Pe:=@List.mem_cons_self
abbrev Pf:=@List.size_toArray
abbrev Pg:=@if_pos
abbrev Ph:=@PySem.Heap.get?_push_of_some
abbrev Pi:=@if_neg
abbrev Pj:=@List.length_map
abbrev Pk:=@List.mem_cons
abbrev Pl:=@PySem.wpAny_pure
abbrev Po:=@List.getD_eq_getElem?_getD
abbrev Pp:=@Nat.le_refl
abbrev Pq:=@of_decide_eq_true
abbrev Pr:=@List.getElem?_eq_some_iff
abbrev Pu:=@Bool.false_ne_true
abbrev Pw:=@PySem.Heap.lt_size
abbrev Px:=@List.length_cons
abbrev Py:=@Bool.and_eq_true
abbrev Pz:=@PySem.Heap.get?_push_size
abbrev PB:=@List.getElem?_append_left
abbrev PC:=@decide_eq_true
abbrev PD:=@List.mem_map
abbrev PF:=@List.mem_singleton
abbrev PH:=@List.getElem?_map
abbrev PJ:=@List.getElem?_set_ne
abbrev PK:=@List.pairwise_cons
abbrev PL:=@Nat.lt_of_lt_of_le
abbrev PM:=@List.length_append
abbrev PN:=@List.all_eq_true
abbrev PP:=@List.map_cons
abbrev PQ:=@List.mem_range
abbrev PU:=@List.getElem?_append_right
abbrev PV:=@decide_eq_false
abbrev PX:=@Nat.ne_of_lt
abbrev PY:=@Nat.le_trans
abbrev PZ:=@List.replicate_succ
abbrev P0:=@List.length_range
abbrev P1:=@List.length_set
abbrev P2:=@Nat.lt_irrefl
abbrev P3:=@Bool.eq_iff_iff
abbrev P4:=@List.not_mem_nil
abbrev P5:=@List.flatten_cons
abbrev P6:=@List.length_singleton
abbrev P7:=@List.mem_append
abbrev P8:=@List.getElem_of_mem
abbrev P9:=@List.getElem_mem
abbrev Na:=@List.lookup_cons
abbrev Nb:=@Bool.false_eq_true
abbrev Nc:=@List.mem_append_right
abbrev Nd:=@List.mem_filter
abbrev Nf:=@List.zip_cons_cons
abbrev Ng:=@PyProof.Rows.callWith_type1
abbrev Nh:=@List.map_map
abbrev Ni:=@List.length_take
abbrev Nj:=@List.getElem?_replicate
abbrev Nk:=@List.pairwise_singleton
abbrev Nl:=@PySem.wpAny_holding
abbrev Nm:=@PySem.wpAny_field
abbrev Nn:=@Nat.pow_le_pow_right
abbrev No:=@List.pairwise_iff_getElem
abbrev Np:=@List.getElem?_set_self
abbrev Nq:=@PySem.wpAny_mono
abbrev Nr:=@Array.perm_iff_toList_perm
abbrev Nt:=@PySem.W.kia_one
abbrev Nu:=@PySem.W.kia_tup
abbrev Nv:=@Bool.or_eq_true
abbrev Nw:=@PySem.wpAny_newObj_type
abbrev Nx:=@List.length_replicate
abbrev Ny:=@Array.getElem?_toList
abbrev Nz:=@if_false
abbrev NA:=@List.Perm.refl
abbrev NB:=@List.nodup_cons
abbrev NC:=@PySem.sizeLine_eq
abbrev ND:=@List.length_drop
abbrev NE:=@PySem.wpAny_callSpecial?_slot
abbrev NF:=@List.length_eq_zero_iff
abbrev NG:=@List.getElem?_set
abbrev NH:=@PySem.Heap.get?_push_ne
abbrev NI:=@List.pairwise_map
abbrev NJ:=@beq_eq_false_iff_ne
abbrev NK:=@Array.length_toList
abbrev NL:=@List.map_congr_left
abbrev NM:=@PyProof.Rows.slot_tuple_getitem
abbrev NN:=@List.contains_iff_mem
abbrev NO:=@PySem.wpAny_call_entry
abbrev NP:=@PySem.AutoSeq1.wpAny_loadPart'
abbrev NQ:=@Option.isSome_iff_exists
abbrev NR:=@PySem.AutoSeq1.sub_tuple_tuple
abbrev NS:=@if_true
abbrev NT:=@Nat.lt_succ_of_lt
abbrev NU:=@decide_eq_true_eq
abbrev NV:=@List.length_zip
abbrev NW:=@List.getElem?_range
abbrev NX:=@List.sum_replicate_nat
abbrev NY:=@PySem.wpAny_standAt
abbrev NZ:=@PySem.wpAny_of_eq
abbrev N1:=@PySem.F.slot_tuple_iterator_next
abbrev N2:=@PySem.wpAny_seqItems
abbrev N3:=@PySem.wpAny_setField_rec
abbrev N4:=@Int.emod_lt_of_pos
abbrev N5:=@List.drop_eq_getElem_cons
abbrev N6:=@PySem.wpAny_passesOwn
abbrev N7:=@List.append_nil
abbrev N8:=@List.find?_cons
abbrev N9:=@PySem.W.kat_len
abbrev Ka:=@List.reverse_cons
abbrev Kb:=@PySem.wpAny_rule
abbrev Kc:=@PySem.mem_of_lookup
abbrev Kd:=@List.length_flatMap
abbrev Ke:=@Nat.pow_le_pow_left
abbrev Kf:=@beq_self_eq_true
abbrev Kg:=@Nat.le_add_right
abbrev Kh:=@PySem.Heap.size_update
abbrev Ki:=@Nat.zero_le
abbrev Kj:=@List.zip_nil_right
abbrev Kk:=@List.map_replicate
abbrev Kl:=@Int.emod_nonneg
abbrev Km:=@List.map_append
abbrev Kn:=@PySem.wpAny_truthy_bool
abbrev Ko:=@List.zip_nil_left
abbrev Kp:=@List.mem_of_getElem?
abbrev Kq:=@or_false
abbrev Kr:=@PySem.Heap.size_push
abbrev Ks:=@List.Pairwise.filter
abbrev Kt:=@Nat.le_of_not_lt
abbrev Ku:=@List.any_eq_true
abbrev Kv:=@List.filter_cons
abbrev Kw:=@decide_eq_decide
abbrev Kx:=@List.getLast?_eq_some_iff
abbrev Ky:=@PySem.Heap.get?_update_ne
abbrev Kz:=@PySem.F.args_tuple_add_2
abbrev KA:=@PySem.AutoSeq1.wpAny_loadPart'
abbrev KB:=@PyProof.Rows.listUpdate_at
abbrev KC:=@List.Pairwise.imp_of_mem
abbrev KD:=@Array.Perm.refl
abbrev KE:=@List.map_const'
abbrev KF:=@PySem.wpAny_Call_Name_kw
abbrev KG:=@PySem.call_meets
abbrev KH:=@List.contains_cons
abbrev KI:=@PySem.wpAny_pyIter_tuple
abbrev KJ:=@PySem.F.entry_tuple_add
abbrev KK:=@PySem.wpAny_pyIter_rangeiter
abbrev KL:=@PySem.W.kitx_list
abbrev KM:=@PySem.W.kitx_dict
abbrev KN:=@PySem.F.slot_tuple_add
abbrev KO:=@List.all_map
abbrev KP:=@PySem.wpAny_pyIter_list
abbrev KQ:=@List.take_of_length_le
abbrev KR:=@bne_self_eq_false
abbrev KS:=@Int.emod_eq_of_lt
abbrev KU:=@List.getElem?_reverse
abbrev KW:=@List.getElem?_eq_none
abbrev KY:=@List.length_filter_le
abbrev KZ:=@List.nodup_range
abbrev K0:=@List.map_reverse
abbrev K1:=@List.ext_getElem
abbrev K2:=@List.mem_flatMap
abbrev K3:=@List.mem_append_left
abbrev K4:=@List.isEmpty_toArray
abbrev K5:=@PySem.wpAny_updateSeq_pair
abbrev K6:=@PyProof.Rows.seqEpoch_at
abbrev K7:=@List.of_mem_zip
abbrev K8:=@PySem.SeqAt.EqAt.same
abbrev K9:=@PySem.F.slot_int_rmul
abbrev Ta:=@PySem.F.slot_zip_next
abbrev Tb:=@PySem.W.kat_nil
abbrev Tc:=@Int.natCast_mul
abbrev Td:=@List.filterMap_cons
abbrev Te:=@List.map_nil
abbrev Tf:=@Nat.mul_comm
abbrev Tg:=@PyProof.Rows.IsTup.new
abbrev Th:=@List.drop_zero
abbrev Ti:=@Nat.le_succ
namespace L2
open PySem PySem.Spec PyProof.Rows
noncomputable abbrev Key:=Sum Int Str
noncomputable def Q8:Key->Value->Bool
 |.inl k,v=>Value.isInt k v
 |.inr x,v=>Value.isStrOf x v
noncomputable def Zdy (w:World):Key->Int
 |.inl k=>hashInt k
 |.inr x=>hashStr w x
theorem Z1:∀{k:Key}{v:Value},Q8 k v=true->(∃i t,k=Sum.inl i/\v=Value.int i t)\/(∃x t,k=Sum.inr x/\v=Value.str x t)
 |.inl i,v,h=>by
  obtain⟨t,e⟩:=Value.isInt_shape (k:=i) (v:=v) h;exact .inl ⟨i,t,rfl,e⟩
 |.inr x,v,h=>by
  obtain⟨t,e⟩:=Value.isStrOf_shape (x:=x) (v:=v) h;exact .inr ⟨x,t,rfl,e⟩
theorem vm (i:Int) (t:Tok):Q8 (.inl i) (.int i t)=true:=by simp[Q8,Value.isInt]
theorem vG (x:Str) (t:Tok):Q8 (.inr x) (.str x t)=true:=by simp[Q8,Value.isStrOf]
theorem Zcd (a b:Int):decide ((Sum.inl a:Key)=Sum.inl b)=(a == b):=by
 by_cases e:a=b
 ·subst e;simp
 ·have h:¬(Sum.inl a:Key)=Sum.inl b:=λq=>e (Sum.inl.inj q)
  rw[PV h];exact (NJ.mpr e).symm
theorem Zbw (a b:Str):decide ((Sum.inr a:Key)=Sum.inr b)=decide (a=b):=by
 by_cases e:a=b
 ·subst e;simp
 ·have h:¬(Sum.inr a:Key)=Sum.inr b:=λq=>e (Sum.inr.inj q)
  rw[PV h,PV e]
theorem Zck (a:Int) (b:Str):decide ((Sum.inl a:Key)=Sum.inr b)=false:=PV (λq=>nomatch q)
theorem Zb4 (a:Str) (b:Int):decide ((Sum.inr a:Key)=Sum.inl b)=false:=PV (λq=>nomatch q)
noncomputable def Yv (prog:Program) (w:World):PySem.KeyKind prog w Key where
 is:=Q8
 hash:=Zdy w
 inj:=λv a b ha hb=>by
  rcases Z1 ha with ⟨i,t,rfl,rfl⟩ | ⟨x,t,rfl,rfl⟩
  ·rcases Z1 hb with ⟨j,u,rfl,e⟩ | ⟨y,u,rfl,e⟩
   ·injection e with e1 _;rw[e1]
   ·exact nomatch e
  ·rcases Z1 hb with ⟨j,u,rfl,e⟩ | ⟨y,u,rfl,e⟩
   ·exact nomatch e
   ·injection e with e1 _;rw[e1]
 byValue:=λk v h=>by
  rcases Z1 h with ⟨i,t,rfl,rfl⟩ | ⟨x,t,rfl,rfl⟩ <;> rfl
 pyHash:=λhv h=>by
  rcases Z1 hv with ⟨i,t,rfl,rfl⟩ | ⟨x,t,rfl,rfl⟩
  ·exact wpAny_pyHash_int h
  ·exact wpAny_pyHash_str h
 eqBool:=λhu hv h=>by
  rcases Z1 hu with ⟨i,t,rfl,rfl⟩ | ⟨x,t,rfl,rfl⟩
  ·rcases Z1 hv with ⟨j,u,rfl,rfl⟩ | ⟨y,u,rfl,rfl⟩
   ·rw[Zcd] at h;exact wpAny_eqBool_int h
   ·rw[Zck] at h;exact SeqAt.EqAt.int_str i t y u _ _ _ _ h
  ·rcases Z1 hv with ⟨j,u,rfl,rfl⟩ | ⟨y,u,rfl,rfl⟩
   ·rw[Zb4] at h;exact SeqAt.EqAt.str_int x t j u _ _ _ _ h
   ·rw[Zbw] at h;exact wpAny_eqBool_str h
 «strs»:=λk x t v h=>by
  rcases Z1 h with ⟨i,u,rfl,e⟩ | ⟨y,u,rfl,e⟩
  ·exact nomatch e
  ·injection e with e1 _
   subst e1;cases v <;> rfl
theorem G0 (prog:Program) (w:World) (i:Int) (t:Tok):(Yv prog w).is (.inl i) (.int i t)=true:=vm i t
theorem zL (prog:Program) (w:World) (x:Str) (t:Tok):(Yv prog w).is (.inr x) (.str x t)=true:=vG x t
inductive V where
 |non | bl (b:Bool) | int (i:Int) | str (x:Str) | byt (b:Array UInt8) | flt (b:UInt64) | ref (a:Addr) | ty (n:String)
 deriving DecidableEq
def ZF:V->Value->Prop
 |.non,u=>u=Value.none
 |.bl b,u=>u=Value.bool b
 |.int i,u=>∃t,u=Value.int i t
 |.str x,u=>∃t,u=Value.str x t
 |.byt b,u=>∃t,u=Value.bytes b t
 |.flt b,u=>∃t,u=Value.float b t
 |.ref a,u=>u=Value.ref a
 |.ty n,u=>u=Value.type n
noncomputable abbrev Vals:List V->List Value->Prop:=Paired ZF
theorem Vals.length {xs:List V}{us:List Value}(r:Vals xs us):xs.length=us.length:=Paired.length r
theorem Vals.get:∀{xs:List V}{us:List Value}{i:Nat}{x:V},Vals xs us->xs[i]? = some x->∃u,us[i]? = some u/\ZF x u
 |_,_,_,_,.nil,e=>by simp at e
 |_,_,0,_,.cons r _,e=>by simp at e;subst e;exact⟨_,rfl,r⟩
 |_,_,i+1,x,.cons _ t,e=>by
  obtain⟨u,h1,h2⟩:=Vals.get (i:=i) (x:=x) t (by simpa using e)
  exact⟨u,by simpa using h1,h2⟩
theorem Vals.set {x:V}{u:Value}(r:ZF x u):∀{xs:List V}{us:List Value}(i:Nat),Vals xs us->Vals (xs.set i x) (us.set i u)
 |_,_,_,.nil=>.nil
 |_,_,0,.cons _ t=>.cons r t
 |_,_,i+1,.cons q t=>.cons q (Vals.set r i t)
theorem Vals.append:∀{xs ys:List V}{us ws:List Value},Vals xs us->Vals ys ws->Vals (xs++ys) (us++ws)
 |_,_,_,_,.nil,s=>s
 |_,_,_,_,.cons r t,s=>.cons r (Vals.append t s)
theorem Vals.take:∀{xs:List V}{us:List Value}(n:Nat),Vals xs us->Vals (xs.take n) (us.take n)
 |_,_,0,_=>.nil
 |_,_,_+1,.nil=>.nil
 |_,_,n+1,.cons r t=>.cons r (Vals.take n t)
theorem Vals.drop:∀{xs:List V}{us:List Value}(n:Nat),Vals xs us->Vals (xs.drop n) (us.drop n)
 |_,_,0,r=>r
 |_,_,_+1,.nil=>.nil
 |_,_,n+1,.cons _ t=>Vals.drop n t
def xt:Option V->Option Value->Prop
 |some v,some u=>ZF v u
 |none,none=>True
 |_,_=>False
noncomputable def KV {κ:Type}:List (κ×V)->List (κ×Value)->Prop:=Paired λ(p:κ×V) (q:κ×Value)=>p.1=q.1/\ZF p.2 q.2
noncomputable def kV:Key->V
 |.inl i=>.int i
 |.inr x=>.str x
inductive HO where
 |lst (xs:List V)
 |tup (xs:List V)
 |dK (kvs:List (Key×V)) | dT (kvs:List (List Key×V))
 |set (S:Int->Bool) (n:Nat)
 |ins (C dx:Addr) (fs:List (Str×V))
 |own (x:Addr)
 |xd (fs:List (Str×V))
 |met (f x:Addr)
 |rng (lo hi:Int)
 |frz (o:Obj) (u:HO)
 |tbl (ps:Array Value)
 |ext (φ:Heap->Prop)
abbrev Hp:=Addr->Option HO
noncomputable def upd (H:Hp) (a:Addr) (o:HO):Hp:=λb=>if b=a then some o else H b
theorem Yj {H:Hp}{a:Addr}{o:HO}:upd H a o a=some o:=by unfold upd;rw[Pg rfl]
theorem ZI {H:Hp}{a b:Addr}{o:HO}(h:b≠a):upd H a o b=H b:=by unfold upd;rw[Pi h]
theorem ZE {H:Hp}{a b:Addr}{o:HO}(h:H a=some o) (h':H b=none):a≠b:=by
 intro e;subst e;rw[h] at h';cases h'
section
variable (P:Program) (w:World)
def ZZ (H:Hp) (h:Heap) (a:Addr):HO->Prop
 |.lst xs=>xs.length<=sizeLine/\∃(its:List Value) (n:Nat),Vals xs its/\h.get? a=some { cls:=.type "list",data:=.seq its.toArray n }
 |.tup xs=>xs.length<=sizeLine/\∃its:List Value,Vals xs its/\IsTup h a its.toArray
 |.dK kvs=>kvs.length<=sizeLine/\(a == sysModules)=false/\∃vs,KV kvs vs/\h.DictOf (Yv P w) a vs
 |.dT kvs=>kvs.length<=sizeLine/\(a == sysModules)=false/\∃xs:List (List Key×Addr×Value),
   Paired (λ(p:List Key×V) (q:List Key×Addr×Value)=>p.1=q.1/\H q.2.1=some (.tup (p.1.map kV))/\ZF p.2 q.2.2) kvs xs/\
   ∃o es ep,h.get? a=some o/\o.ExactDict/\o.data=.dict es ep/\es.toList=xs.map (entryOfKey (tupleKind (Yv P w)))/\(xs.map (·.1)).Nodup
 |.set S n=>h.SetOf (intKind P w) a S n
 |.ins C dx fs=>H dx=some (.own a)/\fs.length<=1000/\dx≠a/\h.get? a=some (PySem.W.instObj C dx)/\
   ∃mA,h.Ns1 dx mA/\(∀f,xt (fs.lookup f) (mA f))/\PySem.Within mA (fs.map (·.1))
 |.own _=>∃o,h.get? a=some o
 |.xd fs=>∃mA,h.Ns1 a mA/\∀f,xt (fs.lookup f) (mA f)
 |.rng lo hi=>∃t u v,h.get? a=some { cls:=.type "range",data:=.fields #[.int lo t,.int hi u,.int 1 v] }
 |.frz o u=>h.get? a=some o/\ZZ H h a u
 |.tbl ps=>h.get? a=some { cls:=.none,data:=.fields ps }
 |.met f x=>h.get? a=some (PySem.W.methodObj (.ref f) (.ref x))
 |.ext φ=>φ h/\(∃o,h.get? a=some o)/\∀h1 h2:Heap,φ h1->(∀o,h1.get? a=some o->h2.get? a=some o)->φ h2
def HOk (H:Hp) (h:Heap):Prop:=∀a o,H a=some o->ZZ P w H h a o
end
section
variable {P:Program}{w:World}{H H':Hp}{h h':Heap}{a:Addr}{o:HO}
theorem ZZ.lt (x:ZZ P w H h a o):a<h.objs.size:=by
 cases o with
 |lst xs=>obtain⟨_,_,_,_,e⟩:=x;exact Pw e
 |tup xs=>obtain⟨_,_,_,p⟩:=x;exact p.lt
 |dK kvs=>obtain⟨_,_,_,_,o,_,_,e,_⟩:=x;exact Pw e
 |dT kvs=>obtain⟨_,_,_,_,o,_,_,e,_⟩:=x;exact Pw e
 |set S n=>obtain⟨o,_,_,_,e,_⟩:=x;exact Pw e
 |ins C dx fs=>obtain⟨_,_,_,e,_⟩:=x;exact Pw e
 |own y=>obtain⟨_,e⟩:=x;exact Pw e
 |xd fs=>obtain⟨_,⟨_,_,_,e,_⟩,_⟩:=x;exact Pw e
 |rng lo hi=>obtain⟨_,_,_,e⟩:=x;exact Pw e
 |frz ob u=>obtain⟨e,_⟩:=x;exact Pw e
 |tbl ps=>exact Pw (show h.get? a=some _ from x)
 |met f y=>exact Pw (show h.get? a=some _ from x)
 |ext φ=>obtain⟨_,⟨_,e⟩,_⟩:=x;exact Pw e
theorem Paired.mapP {α β:Type}{F G:α->β->Prop}:∀{l₁:List α}{l₂:List β},Paired F l₁ l₂->(∀a b,F a b->G a b)->Paired G l₁ l₂
 |_,_,.nil,_=>.nil
 |_,_,.cons r t,f=>.cons (f _ _ r) (Paired.mapP t f)
theorem ZZ.stay (x:ZZ P w H h a o) (k:∀b u,(b=a\/H b=some (.own a))->h.get? b=some u->h'.get? b=some u)
  (ho:∀b,H b=some (.own a)->H' b=some (.own a)) (ht:∀b xs,H b=some (.tup xs)->H' b=some (.tup xs)):ZZ P w H' h' a o:=by
 induction o with
 |lst xs=>obtain⟨z,its,n,r,e⟩:=x;exact⟨z,its,n,r,k _ _ (.inl rfl) e⟩
 |tup xs=>obtain⟨z,its,r,ob,e,c⟩:=x;exact⟨z,its,r,ob,k _ _ (.inl rfl) e,c⟩
 |dK kvs=>obtain⟨z,y,vs,r,ob,es,ep,e,c⟩:=x;exact⟨z,y,vs,r,ob,es,ep,k _ _ (.inl rfl) e,c⟩
 |dT kvs=>
  obtain⟨z,y,xs,r,ob,es,ep,e,c⟩:=x;exact⟨z,y,xs,Paired.mapP r λp q z=>⟨z.1,ht _ _ z.2.1,z.2.2⟩,ob,es,ep,k _ _ (.inl rfl) e,c⟩
 |set S n=>obtain⟨ob,es,ep,t,e,c⟩:=x;exact⟨ob,es,ep,t,k _ _ (.inl rfl) e,c⟩
 |ins C dx fs=>
  obtain⟨d,z,ne,e,mA,⟨od,es,ep,e2,c⟩,r⟩:=x;exact⟨ho _ d,z,ne,k _ _ (.inl rfl) e,mA,⟨od,es,ep,k _ _ (.inr d) e2,c⟩,r⟩
 |own y=>obtain⟨ob,e⟩:=x;exact⟨ob,k _ _ (.inl rfl) e⟩
 |xd fs=>obtain⟨mA,⟨od,es,ep,e,c⟩,r⟩:=x;exact⟨mA,⟨od,es,ep,k _ _ (.inl rfl) e,c⟩,r⟩
 |rng lo hi=>obtain⟨t,u,v,e⟩:=x;exact⟨t,u,v,k _ _ (.inl rfl) e⟩
 |frz ob u ih=>obtain⟨e,q⟩:=x;exact⟨k _ _ (.inl rfl) e,ih q⟩
 |tbl ps=>
  have e:h.get? a=some { cls:=.none,data:=.fields ps }:=x;show h'.get? a=some { cls:=.none,data:=.fields ps };exact k a _ (.inl rfl) e
 |met f y=>
  have e:h.get? a=some (PySem.W.methodObj (.ref f) (.ref y)):=x;show h'.get? a=some (PySem.W.methodObj (.ref f) (.ref y));exact k a _ (.inl rfl) e
 |ext φ=>obtain⟨p,⟨o,e⟩,st⟩:=x;exact⟨st _ _ p λo q=>k _ _ (.inl rfl) q,⟨o,k _ _ (.inl rfl) e⟩,st⟩
theorem HOk.lt (x:HOk P w H h) (e:H a=some o):a<h.objs.size:=(x a o e).lt
theorem HOk.fresh (x:HOk P w H h) (e:h.objs.size<=a):H a=none:=by
 cases q:H a with
 |none=>rfl
 |some u=>exact absurd (PL (x.lt q) e) (P2 _)
theorem HOk.kept (x:HOk P w H h) (k:∀b u,h.get? b=some u->h'.get? b=some u):HOk P w H h':=λa o e=>
 (x a o e).stay (λb u _ q=>k b u q) (λ_ q=>q) λ_ _ q=>q
theorem HOk.laid (x:HOk P w H h) (k:∀b u,h.get? b=some u->h'.get? b=some u) (hp:h.objs.size<=a) (new:ZZ P w (upd H a o) h' a o):HOk P w (upd H a o) h':=λb u e=>by
 have hn:=x.fresh hp;by_cases hb:b=a
 ·subst hb;rw[Yj] at e;cases e;exact new
 ·rw[ZI hb] at e
  exact (x b u e).stay (λc v _ q=>k c v q) (λc q=>by rw[ZI (ZE q hn)];exact q) λc xs q=>by rw[ZI (ZE q hn)];exact q
end
def Rd (H:Hp) (a:Addr) (u:HO):Prop:=H a=some u\/∃o,H a=some (.frz o u)
theorem Rd.ok {P:Program}{w:World}{H:Hp}{h:Heap}{a:Addr}{u:HO}(r:Rd H a u) (x:HOk P w H h):ZZ P w H h a u:=by
 rcases r with r | ⟨o,r⟩
 ·exact x a u r
 ·obtain⟨_,q⟩:=x a _ r
  exact q
def Mut:Option HO->Prop
 |some (.lst _)=>True
 |some (.dK _)=>True
 |some (.dT _)=>True
 |some (.set _ _)=>True
 |some (.ins _ _ _)=>True
 |some (.ext _)=>True
 |_=>False
section
variable {P:Program}{w:World}{H:Hp}{h h':Heap}{x e:Addr}{o':HO}
theorem HOk.write (ok:HOk P w H h) (mu:Mut (H x)) (he:e=x\/H e=some (.own x)) (k:∀b u,b≠e->h.get? b=some u->h'.get? b=some u) (heo:∃u,h'.get? e=some u)
  (new:ZZ P w (upd H x o') h' x o'):HOk P w (upd H x o') h':=λb u q=>by
 have nown:∀c y,H c=some (.own y)->c≠x:=λc y r z=>by subst z;rw[r] at mu;exact mu
 have ntup:∀c xs,H c=some (.tup xs)->c≠x:=λc xs r z=>by subst z;rw[r] at mu;exact mu
 by_cases hb:b=x
 ·subst hb;rw[Yj] at q;cases q;exact new
 ·rw[ZI hb] at q
  by_cases hbe:b=e
  ·have q':H b=some (.own x):=by
    rcases he with z | z
    ·exact absurd (hbe.trans z) hb
    ·rw[hbe];exact z
   rw[q] at q';cases q';obtain⟨v,hv⟩:=heo;exact⟨v,by rw[hbe];exact hv⟩
  ·refine (ok b u q).stay (λc v hc r=>k c v ?_ r) (λc r=>by rw[ZI (nown c b r)];exact r) λc xs r=>by rw[ZI (ntup c xs r)];exact r
   rcases hc with rfl | hc
   ·exact hbe
   ·rintro rfl
    rcases he with z | z
    ·exact nown c b hc z
    ·rw[hc] at z;cases z;exact hb rfl
end
structure Un (fs ex:List Addr) (H H':Hp) (h h':Heap):Prop where
 keep:∀b o,h.get? b=some o->H b=none->b∉fs->b∉ex->h'.get? b=some o
 slot:∀b o,h.get? b=some o->H b=none->b∈fs->b∉ex->∃sl,h'.get? b=some { o with slots:=sl }
 free:∀b o,h.get? b=some o->H b=none->b∉ex->H' b=none
 there:∀b o,h.get? b=some o->b∉ex->∃o',h'.get? b=some o'
 tups:∀b xs,H b=some (.tup xs)->H' b=some (.tup xs)
 frzs:∀b o u,H b=some (.frz o u)->H' b=some (.frz o u)
 tbls:∀b ps,H b=some (.tbl ps)->∃more,H' b=some (.tbl (ps++more))
section
variable {fs fs' ex ex':List Addr}{H H1 H2:Hp}{h h1 h2 h':Heap}{a x e:Addr}{o:HO}
theorem Un.any (u:Un fs ex H H1 h h1) {b:Addr}{ob:Obj}(q:h.get? b=some ob) (n:H b=none) (hx:b∉ex):∃sl,h1.get? b=some { ob with slots:=sl }:=by
 by_cases hb:b∈fs
 ·exact u.slot b ob q n hb hx
 ·exact⟨ob.slots,u.keep b ob q n hb hx⟩
theorem Un.kept (k:∀b u,h.get? b=some u->h'.get? b=some u):Un fs ex H H h h':=
 ⟨λb ob q _ _ _=>k b ob q,λb ob q _ _ _=>⟨ob.slots,k b ob q⟩,λ_ _ _ n _=>n,λb ob q _=>⟨ob,k b ob q⟩,λ_ _ q=>q,λ_ _ _ q=>q,λ_ ps q=>⟨#[],by rw[q];simp⟩⟩
theorem Un.refl:Un fs ex H H h h:=Un.kept λ_ _ q=>q
theorem Un.laid (k:∀b u,h.get? b=some u->h'.get? b=some u) (hp:h.objs.size<=a) (hn:H a=none):Un fs ex H (upd H a o) h h' where
 keep:=λb u q _ _ _=>k b u q
 slot:=λb u q _ _ _=>⟨u.slots,k b u q⟩
 free:=λb u q n _=>by rw[ZI (PX (PL (Pw q) hp))];exact n
 there:=λb u q _=>⟨u,k b u q⟩
 tups:=λb xs q=>by rw[ZI (ZE q hn)];exact q
 frzs:=λb u xs q=>by rw[ZI (ZE q hn)];exact q
 tbls:=λb ps q=>⟨#[],by rw[ZI (ZE q hn),q];simp⟩
theorem Un.write (mu:Mut (H x)) (he:e=x\/H e=some (.own x)) (k:∀b u,b≠e->h.get? b=some u->h'.get? b=some u) (heo:∃u,h'.get? e=some u):Un fs ex H (upd H x o) h h':=by
 have hx:∀b,H b=none->b≠x:=λb n z=>by subst z;rw[n] at mu;exact mu
 have hb:∀b,H b=none->b≠e:=λb n z=>by
  subst z;rcases he with r | r
  ·exact hx b n r
  ·rw[n] at r;cases r
 have hm:∀b u,H b=some u->¬Mut (some u)->b≠x:=λb u q nm z=>by subst z;rw[q] at mu;exact nm mu
 refine⟨λb u q n _ _=>k b u (hb b n) q,λb u q n _ _=>⟨u.slots,k b u (hb b n) q⟩,λb u q n _=>by rw[ZI (hx b n)];exact n,λb u q _=>?_,
  λb xs q=>by rw[ZI (hm b _ q λz=>z)];exact q,λb u xs q=>by rw[ZI (hm b _ q λz=>z)];exact q,λb ps q=>⟨#[],by rw[ZI (hm b _ q λz=>z),q];simp⟩⟩
 by_cases hbe:b=e
 ·subst hbe;exact heo
 ·exact⟨u,k b u hbe q⟩
end
noncomputable def trk (h:Heap) (H:Hp):List Addr:=(List.range h.objs.size).filter λa=>(H a).isSome
noncomputable def JK (h:Heap) (H:Hp):Heap:=PySem.W.hideAll h (trk h H)
theorem vq (h:Heap) (H:Hp):(JK h H).objs.size=h.objs.size:=PySem.W.hideAll_size _ _
theorem qL {h:Heap}{H:Hp}{b:Addr}{o:Obj}(e:h.get? b=some o) (n:H b=none):(JK h H).get? b=some o:=
 PySem.W.hideAll_get _ e λhm=>by
  have q:(H b).isSome=true:=(Nd.mp hm).2;rw[n] at q;simp at q
theorem ZaY {h:Heap}{H:Hp}{b:Addr}{o:Obj}(e:(JK h H).get? b=some o):h.get? b=some o/\H b=none:=by
 have e':h.get? b=some o:=PySem.W.of_hideAll (trk h H) e;refine⟨e',?_⟩;cases q:H b with
 |none=>rfl
 |some x=>
  have hm:b∈trk h H:=Nd.mpr ⟨PQ.mpr (Pw e'),by simp[q]⟩
  have z:(JK h H).get? b=none:=PySem.W.hideAll_none (trk h H) hm;rw[z] at e;cases e
structure Mod (K:PySem.W.Frag) (mg:Str->Option Value) (base:Heap):Prop where
 kin:K.In base
 glob:base.Ns mainGlobals mg
 blt:∃mb,base.Ns builtinsNs mb/\∀x:Str,x≠"__name__"->mb x=bootBuiltins x
 nolimit:base.NoLimit
structure Cx where
 prog:Program
 w:World
 K:PySem.W.Frag
 mg:Str->Option Value
 base:Heap
 A:Around
 N:List Str
 s₀:Shared
 H₀:Hp
 env:Env
 outer:List Env
 stack:List Env
 ex:List Addr
 fn:Str->Bool
 calm:Bool
 pn:List (Addr×Obj)
 xe:Value->Shared->Prop
noncomputable def frs (l:List Env):List Addr:=l.filterMap (·.frame)
noncomputable abbrev Cx.fs (X:Cx):List Addr:=frs X.outer
def Vis (sc:Scope) (x:Str):Prop:=sc.names.lookup x=some .local\/sc.names.lookup x=some .cell\/sc.names.lookup x=some .free
def Loc (sc:Scope) (x:Str):Prop:=sc.names.lookup x=some .local\/sc.names.lookup x=some .cell
def Look (env:Env) (h:Heap) (m:Str->Option Value) (x:Str) (u:Value):Prop:=
 (env.kindOf x=some .local/\m x=some u)\/((env.kindOf x=some .cell\/env.kindOf x=some .free)/\∃c,env.cells.lookup x=some c/\h.IsCell c (some u))
structure Cx.Ok (X:Cx):Prop where
 mod:Mod X.K X.mg X.base
 kind:X.env.scope.kind=.function
 glob:X.env.globals=mainGlobals
 blt:X.env.builtins=builtinsNs
 above:X.s₀.heap.objs.size<=X.env.locals
 inj:∀x y c,X.env.cells.lookup x=some c->X.env.cells.lookup y=some c->x=y
 has:∀x,(X.env.kindOf x=some .cell\/X.env.kindOf x=some .free)->∃c,X.env.cells.lookup x=some c
 cab:∀x c,X.fn x=true->X.env.cells.lookup x=some c->X.s₀.heap.objs.size<=c
 hd:X.calm=true->X.A.handled=none
 frames:X.A.frames=some X.stack
 stk:X.stack=X.outer\/(X.stack=X.env::X.outer/\X.env.frame=some X.env.locals)
 exf:∀b∈X.ex,b≠X.env.locals/\∀x c,X.env.cells.lookup x=some c->c≠b
 bs:∀b o,X.base.get? b=some o->X.s₀.heap.get? b=some o/\X.H₀ b=none
 bsz:X.base.objs.size<=X.s₀.heap.objs.size
 noex:∀b o,X.base.get? b=some o->b∉X.ex
 exfs:∀b∈X.ex,b∉X.fs
 funs:X.s₀.heap.FunFrames X.base X.outer
 frf:∀b∈X.fs,X.H₀ b=none
structure Inv (X:Cx) (pq:List (Addr×Obj)) (σ:List (Option V)) (H:Hp) (s:Shared):Prop where
 ok:X.Ok
 os:s.os=X.s₀.os
 bare:AllBare s.gens
 base:Un X.fs X.ex X.H₀ H X.s₀.heap s.heap
 loc:∃m,s.heap.Ns X.env.locals m/\∀(i:Nat) (x:Str) (v:V),X.N[i]? = some x->σ[i]? = some (some v)->Vis X.env.scope x->∃u,ZF v u/\Look X.env s.heap m x u
 cell:∀x c,X.env.cells.lookup x=some c->∃v,s.heap.IsCell c v
 free:H X.env.locals=none
 freeC:∀x c,X.env.cells.lookup x=some c->H c=none
 pin:∀p∈X.pn++pq,s.heap.get? p.1=some p.2/\H p.1=none/\p.1≠X.env.locals/\p.1∉X.fs/\∀v,p.2.data≠.cell v
 hok:HOk X.prog X.w H s.heap
 len:σ.length=X.N.length
section
variable {X:Cx}{pq:List (Addr×Obj)}{σ:List (Option V)}{H H':Hp}{s:Shared}{h':Heap}
theorem Cx.Ok.nofr (ok:X.Ok) {b:Addr}{o:Obj}(e:X.base.get? b=some o):b∉X.fs:=λhb=>by
 have:=(ok.funs.mem hb).1;rw[e] at this;cases this
theorem Inv.bs (I:Inv X pq σ H s):∀b o,X.base.get? b=some o->s.heap.get? b=some o/\H b=none:=λb o e=>
 ⟨I.base.keep b o (I.ok.bs b o e).1 (I.ok.bs b o e).2 (I.ok.nofr e) (I.ok.noex b o e),I.base.free b o (I.ok.bs b o e).1 (I.ok.bs b o e).2 (I.ok.noex b o e)⟩
theorem Inv.bk (I:Inv X pq σ H s):∀b o,X.base.get? b=some o->s.heap.get? b=some o:=λb o e=>(I.bs b o e).1
theorem Inv.mod (I:Inv X pq σ H s):Mod X.K X.mg X.base:=I.ok.mod
theorem Inv.kIn (I:Inv X pq σ H s):X.K.In s.heap:=I.ok.mod.kin.keeps I.bk
theorem Inv.lt (I:Inv X pq σ H s):X.env.locals<s.heap.objs.size:=let ⟨_,hn,_⟩:=I.loc;hn.lt
theorem Inv.sz (I:Inv X pq σ H s):X.s₀.heap.objs.size<=s.heap.objs.size:=PY I.ok.above (Nat.le_of_lt I.lt)
theorem Inv.nofs (I:Inv X pq σ H s) {a:Addr}(h:s.heap.objs.size<=a):a∉X.fs:=λhb=>by
 obtain⟨_,o,ho,_⟩:=I.ok.funs.mem hb;exact absurd (PL (Pw ho) (PY I.sz h)) (P2 _)
theorem Inv.cne (I:Inv X pq σ H s):∀x c,X.env.cells.lookup x=some c->c≠X.env.locals:=λx c e z=>by
 obtain⟨v,o,ho,hd⟩:=I.cell x c e;obtain⟨m,⟨o',es,ep,ho',hd',_⟩,_⟩:=I.loc;rw[z,ho'] at ho;cases ho;rw[hd'] at hd;cases hd
theorem Inv.funs (I:Inv X pq σ H s):s.heap.FunFrames X.base X.outer:=by
 have all:∀(l:List Env),(∀b∈frs l,b∈X.fs)->X.s₀.heap.FunFrames X.base l->s.heap.FunFrames X.base l:=by
  intro l
  induction l with
  |nil=>intro _ _;trivial
  |cons env r ih=>
   intro hs hl;obtain⟨hk,⟨L,o,hf,hn,ho,hd⟩,hr⟩:=hl;have hL:L∈X.fs:=hs L (by unfold frs;rw[Td,hf];exact Pe)
   obtain⟨sl,e⟩:=I.base.slot L o ho (I.ok.frf L hL) hL λz=>I.ok.exfs L z hL
   exact⟨hk,⟨L,_,hf,hn,e,hd⟩,ih (λb hb=>hs b (by unfold frs;rw[Td,hf];exact Pd _ hb)) hr⟩
 exact all X.outer (λ_ hb=>hb) I.ok.funs
theorem Inv.stack (I:Inv X pq σ H s):s.heap.FunFrames X.base X.stack:=by
 rcases I.ok.stk with e | ⟨e,hf⟩
 ·rw[e];exact I.funs
 ·rw[e]
  obtain⟨m,hn,_⟩:=I.loc;refine .cons (by rw[I.ok.kind];decide) hf hn ?_ I.funs
  exact Heap.get?_none_of_le (PY I.ok.bsz I.ok.above)
theorem Inv.stkSub (I:Inv X pq σ H s):∀b∈frs X.stack,b∈X.env.locals::X.fs:=λb hb=>by
 rcases I.ok.stk with e | ⟨e,hf⟩
 ·rw[e] at hb;exact Pd _ hb
 ·rw[e] at hb
  unfold frs at hb;rw[Td,hf] at hb;exact hb
theorem Inv.stkFree (I:Inv X pq σ H s):∀b∈frs X.stack,H b=none:=λb hb=>by
 rcases Pk.mp (I.stkSub b hb) with e | hb
 ·rw[e];exact I.free
 ·obtain⟨_,o,ho,_⟩:=I.ok.funs.mem hb
  exact I.base.free b o ho (I.ok.frf b hb) λz=>I.ok.exfs b z hb
theorem Inv.step {g':Array GenState}{t':Nat}{d':Drawn}{ch:List Addr}(I:Inv X pq σ H s)
  (hch:∀b∈ch,(b∈X.ex\/X.s₀.heap.objs.size<=b)/\b≠X.env.locals/\(∀x c,X.env.cells.lookup x=some c->c≠b)/\∀p∈X.pn++pq,p.1≠b)
  (keep:∀b o,b≠X.env.locals->b∉X.fs->b∉ch->s.heap.get? b=some o->H b=none->h'.get? b=some o)
  (slot:∀b o,b≠X.env.locals->b∈X.fs->b∉ch->s.heap.get? b=some o->H b=none->∃sl,h'.get? b=some { o with slots:=sl }) (free:∀b o,b∉ch->s.heap.get? b=some o->H b=none->H' b=none)
  (there:∀b o,b∉ch->s.heap.get? b=some o->∃o',h'.get? b=some o')
  (tups:∀b xs,H b=some (.tup xs)->H' b=some (.tup xs)) (frzs:∀b o u,H b=some (.frz o u)->H' b=some (.frz o u)) (tbls:∀b ps,H b=some (.tbl ps)->∃more,H' b=some (.tbl (ps++more)))
  (ns:∀m,s.heap.Ns X.env.locals m->h'.Ns X.env.locals m) (hok:HOk X.prog X.w H' h') (hg:AllBare g') :
  Inv X pq σ H' { s with heap:=h',gens:=g',drawn:=d',toks:=t' }:=by
 have neL:∀b o,X.s₀.heap.get? b=some o->b≠X.env.locals:=λb o e=>PX (PL (Pw e) I.ok.above)
 have neC:∀b o,X.s₀.heap.get? b=some o->b∉X.ex->b∉ch:=λb o e hx hb=>by
  rcases (hch b hb).1 with z | z
  ·exact hx z
  ·exact absurd (PL (Pw e) z) (P2 _)
 have cellK:∀x c,X.env.cells.lookup x=some c->∀v,s.heap.IsCell c v->h'.IsCell c v:=λx c e v ⟨o,ho,hd⟩=>by
  have nch:c∉ch:=λz=>(hch c z).2.2.1 x c e rfl
  by_cases hc:c∈X.fs
  ·obtain⟨sl,q⟩:=slot c o (I.cne x c e) hc nch ho (I.freeC x c e)
   exact⟨_,q,hd⟩
  ·exact⟨o,keep c o (I.cne x c e) hc nch ho (I.freeC x c e),hd⟩
 refine⟨I.ok,I.os,hg,⟨λb o e n hb hx=>?_,λb o e n hb hx=>?_,λb o e n hx=>?_,λb o e hx=>?_,λb xs e=>tups b xs (I.base.tups b xs e),λb o xs e=>frzs b o xs (I.base.frzs b o xs e),λb ps e=>?_⟩,?_,λx c e=>?_,?_,λx c e=>?_,λp hp=>?_,hok,I.len⟩
 ·exact keep b o (neL b o e) hb (neC b o e hx) (I.base.keep b o e n hb hx) (I.base.free b o e n hx)
 ·obtain⟨sl,e1⟩:=I.base.slot b o e n hb hx
  obtain⟨sl',e2⟩:=slot b _ (neL b o e) hb (neC b o e hx) e1 (I.base.free b o e n hx);exact⟨sl',e2⟩
 ·obtain⟨o',e1⟩:=I.base.there b o e hx
  exact free b o' (neC b o e hx) e1 (I.base.free b o e n hx)
 ·obtain⟨o',e1⟩:=I.base.there b o e hx
  exact there b o' (neC b o e hx) e1
 ·obtain⟨m1,e1⟩:=I.base.tbls b ps e
  obtain⟨m2,e2⟩:=tbls b _ e1;exact⟨m1++m2,by rw[e2,Array.append_assoc]⟩
 ·obtain⟨m,hn,hl⟩:=I.loc
  refine⟨m,ns m hn,λi x v e1 e2 e3=>?_⟩
  obtain⟨u,r,l⟩:=hl i x v e1 e2 e3;refine⟨u,r,?_⟩;rcases l with l | ⟨k,c,e,z⟩
  ·exact .inl l
  ·exact .inr ⟨k,c,e,cellK x c e _ z⟩
 ·obtain⟨v,z⟩:=I.cell x c e
  exact⟨v,cellK x c e v z⟩
 ·obtain⟨m,⟨o,_,_,ho,_⟩,_⟩:=I.loc
  exact free _ o (λz=>(hch _ z).2.1 rfl) ho I.free
 ·obtain⟨v,o,ho,hd⟩:=I.cell x c e
  exact free c o (λz=>(hch c z).2.2.1 x c e rfl) ho (I.freeC x c e)
 ·obtain⟨e,n,ne,nf,d⟩:=I.pin p hp
  have nch:p.1∉ch:=λz=>(hch p.1 z).2.2.2 p hp rfl
  exact⟨keep p.1 p.2 ne nf nch e n,free p.1 p.2 nch e n,ne,nf,d⟩
theorem Inv.un {t':Nat}(I:Inv X pq σ H s) (u:Un X.fs [] H H' s.heap h') (hok:HOk X.prog X.w H' h'):Inv X pq σ H' { s with heap:=h',toks:=t' }:=by
 obtain⟨m,⟨o,es,ep,ho,r⟩,_⟩:=id I.loc;obtain⟨sl,hL⟩:=u.any ho I.free (by simp)
 exact I.step (g':=s.gens) (d':=s.drawn) (ch:=[]) (λ_ z=>nomatch z) (λb o _ hb _ e n=>u.keep b o e n hb (by simp)) (λb o _ hb _ e n=>u.slot b o e n hb (by simp)) (λb o _ e n=>u.free b o e n (by simp)) (λb o _ e=>u.there b o e (by simp)) u.tups u.frzs u.tbls (λm' hm=>by
  obtain⟨o',es',ep',ho',r'⟩:=hm;rw[ho] at ho';cases ho';exact⟨_,es',ep',hL,r'⟩) hok I.bare
theorem Inv.call {g':Array GenState}{t':Nat}{d':Drawn}{ch:List Addr}(I:Inv X pq σ H s) (u:Un (frs X.stack) ch H H' s.heap h') (hok:HOk X.prog X.w H' h') (hg:AllBare g')
  (hch:∀b∈ch,(b∈X.ex\/X.s₀.heap.objs.size<=b)/\b≠X.env.locals/\(∀x c,X.env.cells.lookup x=some c->c≠b)/\∀p∈X.pn++pq,p.1≠b) :
  Inv X pq σ H' { s with heap:=h',gens:=g',drawn:=d',toks:=t' }:=by
 obtain⟨m,⟨o,es,ep,ho,r⟩,_⟩:=id I.loc;obtain⟨sl,hL⟩:=u.any ho I.free λz=>(hch _ z).2.1 rfl
 exact I.step (ch:=ch) hch (λb o hL hb hc e n=>u.keep b o e n (λz=>(Pk.mp (I.stkSub b z)).elim hL hb) hc) (λb o _ _ hc e n=>u.any e n hc) (λb o hc e n=>u.free b o e n hc) (λb o hc e=>u.there b o e hc) u.tups u.frzs u.tbls (λm' hm=>by
  obtain⟨o',es',ep',ho',r'⟩:=hm;rw[ho] at ho';cases ho';exact⟨_,es',ep',hL,r'⟩) hok hg
theorem Inv.turned {t':Nat}{it:Addr}(I:Inv X pq σ H s) (k:∀b o,b≠it->s.heap.get? b=some o->h'.get? b=some o) (hn:H it=none) (hL:it≠X.env.locals)
  (h1:it∈X.ex\/X.s₀.heap.objs.size<=it) (h2:∀x c,X.env.cells.lookup x=some c->c≠it) (h3:∀p∈X.pn++pq,p.1≠it):Inv X pq σ H { s with heap:=h',toks:=t' }:=by
 have nit:∀b u,H b=some u->b≠it:=λb u e z=>by rw[z,hn] at e;cases e
 refine I.step (g':=s.gens) (d':=s.drawn) (ch:=[it]) (λb hb=>?_) (λb o _ _ hc e _=>k b o (λz=>hc (by simp[z])) e) (λb o _ _ hc e _=>⟨o.slots,k b o (λz=>hc (by simp[z])) e⟩) (λ_ _ _ _ n=>n)
  (λb o hc e=>⟨o,k b o (λz=>hc (by simp[z])) e⟩) (λ_ _ e=>e) (λ_ _ _ e=>e) (λb ps e=>⟨#[],by rw[e];simp⟩) (λm hm=>?_) (λb u e=>?_) I.bare
 ·have e:b=it:=by simpa using hb
  subst e;exact⟨h1,hL,h2,h3⟩
 ·obtain⟨o,es,ep,ho,r⟩:=hm
  exact⟨o,es,ep,k _ o (Ne.symm hL) ho,r⟩
 ·refine (I.hok b u e).stay (λc v hc q=>k c v ?_ q) (λ_ q=>q) λ_ _ q=>q
  rcases hc with z | z
  ·rw[z];exact nit b u e
  ·exact nit c _ z
theorem Inv.tok (I:Inv X pq σ H s) (t:Nat):Inv X pq σ H { s with toks:=t }:=I.un (h':=s.heap) (t':=t) Un.refl I.hok
theorem Inv.kept {t':Nat}(I:Inv X pq σ H s) (k:∀b u,s.heap.get? b=some u->h'.get? b=some u):Inv X pq σ H { s with heap:=h',toks:=t' }:=I.un (Un.kept k) (I.hok.kept k)
theorem Inv.laid {a:Addr}{o:HO}{t':Nat}(I:Inv X pq σ H s) (k:∀b u,s.heap.get? b=some u->h'.get? b=some u) (hp:s.heap.objs.size<=a) (new:ZZ X.prog X.w (upd H a o) h' a o) :
  Inv X pq σ (upd H a o) { s with heap:=h',toks:=t' }:=I.un (Un.laid k hp (I.hok.fresh hp)) (I.hok.laid k hp new)
theorem Inv.write {x e:Addr}{o:HO}{t':Nat}(I:Inv X pq σ H s) (mu:Mut (H x)) (he:e=x\/H e=some (.own x)) (k:∀b u,b≠e->s.heap.get? b=some u->h'.get? b=some u) (heo:∃u,h'.get? e=some u)
  (new:ZZ X.prog X.w (upd H x o) h' x o):Inv X pq σ (upd H x o) { s with heap:=h',toks:=t' }:=I.un (Un.write mu he k heo) (I.hok.write mu he k heo new)
theorem Inv.pins_of {pins':List (Addr×Obj)}(I:Inv X pq σ H s) (h:∀p∈pins',s.heap.get? p.1=some p.2/\H p.1=none/\p.1≠X.env.locals/\p.1∉X.fs/\∀v,p.2.data≠.cell v):Inv X pins' σ H s:=
 ⟨I.ok,I.os,I.bare,I.base,I.loc,I.cell,I.free,I.freeC,λp hp=>(P7.mp hp).elim (λz=>I.pin p (K3 _ z)) (h p),I.hok,I.len⟩
theorem zf {N:List Str}(hN:N.Nodup) {i j:Nat}{x:Str}(a:N[i]? = some x) (b:N[j]? = some x):i=j:=by
 obtain⟨h1,e1⟩:=Pr.mp a;obtain⟨h2,e2⟩:=Pr.mp b;exact (List.getElem_inj hN).mp (e1.trans e2.symm)
theorem VM {M:Model}{A:Around}{E:Value->Shared->Prop}{i:Nat}{x:Str}{v:V}{u:Value}{Q:Unit->Shared->Prop}(I:Inv X pq σ H s) (hN:X.N.Nodup) (hi:X.N[i]? = some x) (hx:Loc X.env.scope x) (r:ZF v u)
  (h:∀s',Inv X pq (σ.set i (some v)) H s'->(∃a,Heap.SameBut a s.heap s'.heap/\(a=X.env.locals\/X.env.cells.lookup x=some a))->Q () s') (hf:X.fn x=true\/X.env.scope.names.lookup x=some .local:=by first | exact .inl rfl | exact .inr rfl | assumption):wpAny M A (storeName X.env x u) Q E s:=by
 obtain⟨m,hn,hl⟩:=id I.loc;have hcls:(X.env.scope.kind == .class||(X.env.scope.kind == .module&&X.env.locals != X.env.globals))=false:=by rw[I.ok.kind];rfl
 have hiσ:i<σ.length:=by rw[I.len];exact (Pr.mp hi).1
 have cne:=I.cne;have tracked:∀{a:Addr} {h':Heap},(∃o,s.heap.get? a=some o/\H a=none)->Heap.SameBut a s.heap h'->HOk X.prog X.w H h':=λ{a h'} ha hs b ob e=>by
  obtain⟨_,_,hfree⟩:=ha;refine (I.hok b ob e).stay (λc w' hc q=>(hs.2 c ?_).trans q) (λ_ q=>q) λ_ _ q=>q
  rintro rfl
  rcases hc with rfl | hc
  ·rw[hfree] at e;cases e
  ·rw[hfree] at hc;cases hc
 rcases hx with hk | hk
 ·refine wpAny_storeName_local hk hn (λh' hn' hs=>?_) hcls
  obtain⟨oL,_,_,hoL,_⟩:=id hn;refine h _ ⟨I.ok,I.os,I.bare,⟨λb o e n hb hx=>?_,λb o e n hb hx=>?_,I.base.free,λb o e hx=>?_,I.base.tups,I.base.frzs,I.base.tbls⟩,⟨_,hn',λj y v' e1 e2 e3=>?_⟩,λy c e=>?_,I.free,I.freeC,λp hp=>?_,tracked ⟨oL,hoL,I.free⟩ hs,by simpa using I.len⟩ ⟨_,hs,.inl rfl⟩
  ·exact (hs.2 b (PX (PL (Pw e) I.ok.above))).trans (I.base.keep b o e n hb hx)
  ·obtain⟨sl,e1⟩:=I.base.slot b o e n hb hx
   exact⟨sl,(hs.2 b (PX (PL (Pw e) I.ok.above))).trans e1⟩
  ·obtain⟨o',e1⟩:=I.base.there b o e hx
   exact⟨o',(hs.2 b (PX (PL (Pw e) I.ok.above))).trans e1⟩
  ·by_cases hj:j=i
   ·subst hj
    rw[hi] at e1;cases e1;rw[Np hiσ] at e2;cases e2;exact⟨u,r,.inl ⟨hk,by simp⟩⟩
   ·rw[PJ (Ne.symm hj)] at e2
    obtain⟨u',r',q⟩:=hl j y v' e1 e2 e3;refine⟨u',r',?_⟩;rcases q with ⟨k,e⟩ | ⟨k,c,e,z⟩
    ·refine .inl ⟨k,?_⟩
     have:y≠x:=λe=>hj (zf hN e1 (e▸hi))
     simp[this,e]
    ·exact .inr ⟨k,c,e,z.sameBut hs (cne y c e)⟩
  ·obtain⟨w',z⟩:=I.cell y c e
   exact⟨w',z.sameBut hs (cne y c e)⟩
  ·obtain⟨e,n,ne,nf,d⟩:=I.pin p hp
   exact⟨(hs.2 p.1 ne).trans e,n,ne,nf,d⟩
 ·have hfn:X.fn x=true:=by
   rcases hf with z | z
   ·exact z
   ·rw[z] at hk;cases hk
  obtain⟨c,hc⟩:=I.ok.has x (.inl hk);obtain⟨w',z⟩:=I.cell x c hc;refine wpAny_storeName_cell I.ok.kind hk hc z (λh' hc' hs=>?_)
  obtain⟨oc,hoc,hocd⟩:=id z;refine h { s with heap:=h' } ⟨I.ok,I.os,I.bare,⟨λb o e n hb hx=>?_,λb o e n hb hx=>?_,I.base.free,λb o e hx=>?_,I.base.tups,I.base.frzs,I.base.tbls⟩,⟨m,hn.sameBut hs (Ne.symm (cne x c hc)),λj y v' e1 e2 e3=>?_⟩,λy c' e=>?_,I.free,I.freeC,λp hp=>?_,tracked ⟨oc,hoc,I.freeC x c hc⟩ hs,by simpa using I.len⟩ ⟨c,hs,.inr hc⟩
  ·exact (hs.2 b (PX (PL (Pw e) (I.ok.cab x c hfn hc)))).trans (I.base.keep b o e n hb hx)
  ·obtain⟨sl,e1⟩:=I.base.slot b o e n hb hx
   exact⟨sl,(hs.2 b (PX (PL (Pw e) (I.ok.cab x c hfn hc)))).trans e1⟩
  ·obtain⟨o',e1⟩:=I.base.there b o e hx
   exact⟨o',(hs.2 b (PX (PL (Pw e) (I.ok.cab x c hfn hc)))).trans e1⟩
  ·by_cases hj:j=i
   ·subst hj
    rw[hi] at e1;cases e1;rw[Np hiσ] at e2;cases e2;exact⟨u,r,.inr ⟨.inl hk,c,hc,hc'⟩⟩
   ·rw[PJ (Ne.symm hj)] at e2
    obtain⟨u',r',q⟩:=hl j y v' e1 e2 e3;refine⟨u',r',?_⟩;rcases q with q | ⟨k,c',e,z'⟩
    ·exact .inl q
    ·refine .inr ⟨k,c',e,z'.sameBut hs ?_⟩
     rintro rfl
     exact hj (zf hN e1 (I.ok.inj _ _ _ e hc▸hi))
  ·by_cases hcc:c'=c
   ·subst hcc;exact⟨_,hc'⟩
   ·obtain⟨w2,z2⟩:=I.cell y c' e
    exact⟨w2,z2.sameBut hs hcc⟩
  ·obtain⟨e,n,ne,nf,d⟩:=I.pin p hp
   refine⟨(hs.2 p.1 ?_).trans e,n,ne,nf,d⟩;intro q;rw[q,hoc] at e;have q':oc=p.2:=Pb e;exact d w' (by rw[<-q'];exact hocd)
theorem W8 {M:Model}{A:Around}{E:Value->Shared->Prop}{i:Nat}{x:Str}{v:V}{u:Value}{Q:Unit->Shared->Prop}(I:Inv X pq σ H s) (hN:X.N.Nodup) (hi:X.N[i]? = some x) (hx:Loc X.env.scope x) (r:ZF v u)
  (h:∀s',Inv X pq (σ.set i (some v)) H s'->Q () s') (hf:X.fn x=true\/X.env.scope.names.lookup x=some .local:=by first | exact .inl rfl | exact .inr rfl | assumption):wpAny M A (storeName X.env x u) Q E s:=
 VM I hN hi hx r (λs' I' _=>h s' I') hf
theorem Inv.call' {s':Shared}{ch:List Addr}(I:Inv X pq σ H s) (ho:s'.os=s.os) (u:Un (frs X.stack) ch H H' s.heap s'.heap) (hok:HOk X.prog X.w H' s'.heap) (hg:AllBare s'.gens)
  (hch:∀b∈ch,(b∈X.ex\/X.s₀.heap.objs.size<=b)/\b≠X.env.locals/\(∀x c,X.env.cells.lookup x=some c->c≠b)/\∀p∈X.pn++pq,p.1≠b):Inv X pq σ H' s':=by
 obtain⟨h',g',d',t',o'⟩:=s';have e:o'=s.os:=ho;subst e;exact I.call (g':=g') (t':=t') (d':=d') u hok hg hch
end
abbrev XK:=Value->Option Addr->Hp->Prop
noncomputable abbrev St:=List (Option V)
abbrev VK:=V->Hp->Prop
abbrev TE:=St->Hp->VK->Prop
abbrev TT:=St->Hp->(Bool->Hp->Prop)->Prop
abbrev TA:=St->Hp->(List V->Hp->Prop)->Prop
structure Ends where
 nx:St->Hp->Prop
 rt:VK
 bk:St->Hp->Prop:=λ_ _=>False
 ct:St->Hp->Prop:=λ_ _=>False
abbrev TS:=Ends->St->Hp->Prop
def EP (X:Cx) (pq:List (Addr×Obj)) (σ:St) (Q:VK) (u:Value) (s':Shared):Prop:=∃v H',Inv X pq σ H' s'/\ZF v u/\Q v H'
def TP (X:Cx) (pq:List (Addr×Obj)) (σ:St) (Q:Bool->Hp->Prop) (b:Bool) (s':Shared):Prop:=∃H',Inv X pq σ H' s'/\Q b H'
def AP (X:Cx) (pq:List (Addr×Obj)) (σ:St) (Q:List V->Hp->Prop) (us:List Value) (s':Shared):Prop:=∃vs H',Inv X pq σ H' s'/\Vals vs us/\Q vs H'
def SP (X:Cx) (pq:List (Addr×Obj)) (D:Ends) (f:Flow) (s':Shared):Prop:=
 match f with
 |.next=>∃σ' H',Inv X pq σ' H' s'/\D.nx σ' H'
 |.brk=>∃σ' H',Inv X pq σ' H' s'/\D.bk σ' H'
 |.cont=>∃σ' H',Inv X pq σ' H' s'/\D.ct σ' H'
 |.ret u=>∃v σ' H',Inv X pq σ' H' s'/\ZF v u/\D.rt v H'
def PE (X:Cx) (e:Expr) (t:TE):Prop:=
 ∀(pq:List (Addr×Obj)) (s:Shared) (σ:St) (H:Hp) (Q:VK),Inv X pq σ H s->t σ H Q->wpAny (model X.prog X.w) X.A (eval e X.env) (EP X pq σ Q) X.xe s
def PT (X:Cx) (e:Expr) (t:TT):Prop:=
 ∀(pq:List (Addr×Obj)) (s:Shared) (σ:St) (H:Hp) (Q:Bool->Hp->Prop),Inv X pq σ H s->t σ H Q->wpAny (model X.prog X.w) X.A (isTrue e X.env (eval e X.env)) (TP X pq σ Q) X.xe s
def PW (X:Cx) (e:Expr) (t:TT):Prop:=
 ∀(whole:Sem Value) (pq:List (Addr×Obj)) (s:Shared) (σ:St) (H:Hp) (Q:Bool->Hp->Prop),Inv X pq σ H s->t σ H Q->wpAny (model X.prog X.w) X.A (isTrue e X.env whole) (TP X pq σ Q) X.xe s
theorem PW.pt {X:Cx}{e:Expr}{t:TT}(h:PW X e t):PT X e t:=h _
def PA (X:Cx) (es:List Expr) (t:TA):Prop:=
 ∀(pos:Pos) (pq:List (Addr×Obj)) (s:Shared) (σ:St) (H:Hp) (Q:List V->Hp->Prop),Inv X pq σ H s->t σ H Q->wpAny (model X.prog X.w) X.A (spliced (backTo pos (starEach es X.env))) (AP X pq σ Q) X.xe s
def PS (X:Cx) (st:Stmt) (t:TS):Prop:=
 ∀(pq:List (Addr×Obj)) (s:Shared) (σ:St) (H:Hp) (D:Ends),Inv X pq σ H s->t D σ H->wpAny (model X.prog X.w) X.A (exec st X.env) (SP X pq D) X.xe s
def PSs (X:Cx) (st:List Stmt) (t:TS):Prop:=
 ∀(pq:List (Addr×Obj)) (s:Shared) (σ:St) (H:Hp) (D:Ends),Inv X pq σ H s->t D σ H->wpAny (model X.prog X.w) X.A (execs st X.env) (SP X pq D) X.xe s
theorem thn {α:Type}{t:Sem α}{Q Q':α->Shared->Prop}{M:Model}{A:Around}{E:Value->Shared->Prop}{s:Shared}(h:wpAny M A t Q E s) (hQ:∀a s,Q a s->Q' a s):wpAny M A t Q' E s:=Nq h hQ λ_ _ x=>x
section
variable {X:Cx}
def ZdH (i:Nat):TE:=λσ H Q=>∃v,σ[i]? = some (some v)/\Q v H
def tC (v:V):TE:=λ_ H Q=>Q v H
theorem Zbn {i:Nat}{x:Str}{pos:Pos}(hN:X.N[i]? = some x) (hv:Vis X.env.scope x) (hd:(x == ("__debug__" : Str))=false:=by decide) (hcd:(x == ("__classdict__" : Str))=false:=by decide):PE X (.Name x pos) (ZdH i):=by
 intro pq s σ H Q I h;obtain⟨v,e,h⟩:=h;obtain⟨m,hn,hl⟩:=I.loc;obtain⟨u,r,l⟩:=hl i x v hN e hv;have fin:EP X pq σ Q u s:=⟨v,H,I,r,h⟩;rcases l with ⟨hk,hm⟩ | ⟨hk,c,hc,hcell⟩
 ·exact wpAny_Name (wpAny_loadName_local I.ok.kind hk hn hm fin) hd
 ·rcases hk with hk | hk
  ·exact wpAny_Name (wpAny_loadName_cell I.ok.kind hk hc hcell fin) hd
  ·exact wpAny_Name (wpAny_loadName_free I.ok.kind hk hc hcell fin hcd) hd
theorem Zcq {i j pos}:PE X (.Constant (.int i) j pos) (tC (.int i)):=λ_ _ _ H _ I h=>wpAny_Constant_int ⟨.int i,H,I.tok _,⟨_,rfl⟩,h⟩
theorem Za0 {b j pos}:PE X (.Constant (.bool b) j pos) (tC (.bl b)):=λ_ _ _ H _ I h=>Constant_bool ⟨.bl b,H,I,rfl,h⟩
theorem Zb8 {j pos}:PE X (.Constant .none j pos) (tC .non):=λ_ _ _ H _ I h=>Constant_none ⟨.non,H,I,rfl,h⟩
def Gl (X:Cx) (x:Str):Prop:=X.env.kindOf x=some .globalImplicit
theorem xN {E:Value->Shared->Prop}{pq:List (Addr×Obj)}{s:Shared}{σ:St}{H:Hp}{x:Str}{u:Value}{pos:Pos}{Q:Value->Shared->Prop}(I:Inv X pq σ H s) (hg:Gl X x) (hm:X.mg x=some u) (h:Q u s)
  (hd:(x == ("__debug__" : Str))=false:=by decide):wpAny (model X.prog X.w) X.A (eval (.Name x pos) X.env) Q E s:=
 Calls.Name_function_global I.ok.kind hg (Calls.loadGlobal_global (by rw[I.ok.glob];exact I.mod.glob.keeps I.bk) hm h) hd
theorem Xl {E:Value->Shared->Prop}{pq:List (Addr×Obj)}{s:Shared}{σ:St}{H:Hp}{x:Str}{u:Value}{pos:Pos}{Q:Value->Shared->Prop}(I:Inv X pq σ H s) (hg:Gl X x) (hm:X.mg x=none) (hv:bootBuiltins x=some u) (h:Q u s)
  (hn:x≠"__name__":=by decide) (hd:(x == ("__debug__" : Str))=false:=by decide):wpAny (model X.prog X.w) X.A (eval (.Name x pos) X.env) Q E s:=by
 obtain⟨mb,h1,h2⟩:=I.mod.blt;exact Calls.Name_function_global I.ok.kind hg (Calls.loadGlobal_builtin (by rw[I.ok.glob];exact I.mod.glob.keeps I.bk) hm (by rw[I.ok.blt];exact h1.keeps I.bk) ((h2 x hn).trans hv) h) hd
theorem Zad {x:Str}{v:V}{u:Value}{pos:Pos}(hg:Gl X x) (hm:X.mg x=some u) (r:ZF v u) (hd:(x == ("__debug__" : Str))=false:=by decide):PE X (.Name x pos) (tC v):=
 λ_ _ _ H _ I h=>xN I hg hm ⟨v,H,I,r,h⟩ hd
theorem Gg {x:Str}{v:V}{u:Value}{pos:Pos}(hg:Gl X x) (hm:X.mg x=none) (hv:bootBuiltins x=some u) (r:ZF v u) (hn:x≠"__name__":=by decide) (hd:(x == ("__debug__" : Str))=false:=by decide):PE X (.Name x pos) (tC v):=
 λ_ _ _ H _ I h=>Xl I hg hm hv ⟨v,H,I,r,h⟩ hn hd
variable {a b:Expr}{ta tb:TE}{pos:Pos}
variable {tA tB':TT}{rest:List Expr}
def Zds (t u:TT):TT:=λσ H Q=>t σ H λc H1=>if c=true then u σ H1 Q else Q false H1
def tOr (t u:TT):TT:=λσ H Q=>t σ H λc H1=>if c=true then Q true H1 else u σ H1 Q
def ZdD (t:TT):TT:=λσ H Q=>t σ H λc H1=>Q (!c) H1
theorem Zaw (ha:PT X a tA):PW X (.BoolOp .And [a] pos) tA:=by
 intro wh pq s σ H Q I h;refine isTrue_and (thn (ha pq s σ H Q I h) λc s1 e=>?_)
 cases c with
 |true=>exact isTrue_and_nil e
 |false=>exact e
theorem Zbq (ha:PT X a tA):PW X (.BoolOp .Or [a] pos) tA:=by
 intro wh pq s σ H Q I h;refine isTrue_or (thn (ha pq s σ H Q I h) λc s1 e=>?_)
 cases c with
 |false=>exact isTrue_or_nil e
 |true=>exact e
theorem Zbu (ha:PT X a tA) (hb:PW X (.BoolOp .And (b::rest) pos) tB'):PW X (.BoolOp .And (a::b::rest) pos) (Zds tA tB'):=by
 intro wh pq s σ H Q I h;refine isTrue_and (thn (ha pq s σ H _ I h) λc s1 ⟨H1,I1,q1⟩=>?_)
 cases c with
 |true=>exact hb wh pq s1 σ H1 Q I1 q1
 |false=>exact⟨H1,I1,q1⟩
theorem ZcE (ha:PT X a tA) (hb:PW X (.BoolOp .Or (b::rest) pos) tB'):PW X (.BoolOp .Or (a::b::rest) pos) (tOr tA tB'):=by
 intro wh pq s σ H Q I h;refine isTrue_or (thn (ha pq s σ H _ I h) λc s1 ⟨H1,I1,q1⟩=>?_)
 cases c with
 |true=>exact⟨H1,I1,q1⟩
 |false=>exact hb wh pq s1 σ H1 Q I1 q1
theorem Zb3 (ha:PT X a tA):PT X (.UnaryOp .Not a pos) (ZdD tA):=by
 intro pq s σ H Q I h;exact isTrue_not (ha pq s σ H (λc H1=>Q (!c) H1) I h)
def ZcZ (ta tb:TE):TE:=λσ H Q=>ta σ H λx H1=>∃c,x=.bl c/\if c=true then tb σ H1 Q else Q (.bl false) H1
theorem ZbL (ha:PE X a ta) (hb:PE X (.BoolOp .And (b::rest) pos) tb):PE X (.BoolOp .And (a::b::rest) pos) (ZcZ ta tb):=by
 intro pq s σ H Q I h;refine BoolOp_and (thn (ha pq s σ H _ I h) λv s1 ⟨x,H1,I1,r1,q1⟩=>?_)
 obtain⟨c,rfl,q1⟩:=q1;cases r1;refine Kn ?_;cases c with
 |true=>exact hb pq s1 σ H1 Q I1 q1
 |false=>exact⟨.bl false,H1,I1,rfl,q1⟩
def tIf (t:TT) (ta tb:TE):TE:=λσ H Q=>t σ H λc H1=>if c=true then ta σ H1 Q else tb σ H1 Q
theorem v5 {c:Expr}(hc:PT X c tA) (ha:PE X a ta) (hb:PE X b tb):PE X (.IfExp c a b pos) (tIf tA ta tb):=by
 intro pq s σ H Q I h;refine wpAny_IfExp (thn (hc pq s σ H _ I h) λd s1 ⟨H1,I1,q1⟩=>?_)
 cases d with
 |true=>exact ha pq s1 σ H1 Q I1 q1
 |false=>exact hb pq s1 σ H1 Q I1 q1
end
def SqL (K:PySem.W.Frag) (H:Hp) (a:Addr) (xs:List V):Prop:=
 Rd H a (.lst xs)\/
  ∃(o:Obj) (its:Array Value) (n:Nat),K.lookup a=some o/\o.cls=.type "list"/\o.dict=none/\o.data=.seq its n/\its.size<=sizeLine/\Vals xs its.toList
def SqT (K:PySem.W.Frag) (H:Hp) (a:Addr) (xs:List V):Prop:=
 Rd H a (.tup xs)\/
  ∃(o:Obj) (its:Array Value) (n:Nat),K.lookup a=some o/\o.cls=.type "tuple"/\o.data=.seq its n/\its.size<=sizeLine/\Vals xs its.toList
noncomputable def Zdo:Value->Option V
 |.none=>some .non
 |.bool b=>some (.bl b)
 |.int i _=>some (.int i)
 |.str x _=>some (.str x)
 |.bytes b _=>some (.byt b)
 |.float b _=>some (.flt b)
 |.ref a=>some (.ref a)
 |.type n=>some (.ty n)
 |_=>none
theorem ZF.abs {x:V}{u:Value}(r:ZF x u):Zdo u=some x:=by
 cases x with
 |non=>cases r;rfl
 |bl _=>cases r;rfl
 |int _=>obtain⟨t,rfl⟩:=r;rfl
 |str _=>obtain⟨t,rfl⟩:=r;rfl
 |byt _=>obtain⟨t,rfl⟩:=r;rfl
 |flt _=>obtain⟨t,rfl⟩:=r;rfl
 |ref _=>cases r;rfl
 |ty _=>cases r;rfl
theorem ZF.inj {x y:V}{u:Value}(r:ZF x u) (q:ZF y u):x=y:=Pb (r.abs.symm.trans q.abs)
theorem Vals.inj:∀{xs ys:List V}{us:List Value},Vals xs us->Vals ys us->xs=ys
 |_,_,_,.nil,.nil=>rfl
 |_,_,_,.cons r t,.cons r' t'=>by rw[r.inj r',Vals.inj t t']
section
variable {X:Cx}{pq:List (Addr×Obj)}{σ:St}{H:Hp}{s:Shared}{a:Addr}{xs ys:List V}
theorem SqL.of {K:PySem.W.Frag}(h:H a=some (.lst xs)):SqL K H a xs:=.inl (.inl h)
theorem SqT.of {K:PySem.W.Frag}(h:H a=some (.tup xs)):SqT K H a xs:=.inl (.inl h)
theorem Inv.list (I:Inv X pq σ H s) (h:SqL X.K H a xs):∃its:List Value,Vals xs its/\PlainL s.heap a its.toArray/\xs.length<=sizeLine:=by
 rcases h with h | ⟨o,its,n,hk,hc,hd,hs,hz,r⟩
 ·obtain⟨z,its,n,r,e⟩:=h.ok I.hok
  exact⟨its,r,⟨_,n,e,rfl,rfl,rfl⟩,z⟩
 ·refine⟨its.toList,r,⟨o,n,I.kIn a o hk,hc,hd,by simpa using hs⟩,?_⟩
  have e:=r.length;simp only[NK] at e;omega
theorem Inv.tuple (I:Inv X pq σ H s) (h:SqT X.K H a xs):∃its:List Value,Vals xs its/\IsTup s.heap a its.toArray/\xs.length<=sizeLine:=by
 rcases h with h | ⟨o,its,n,hk,hc,hs,hz,r⟩
 ·obtain⟨z,its,r,p⟩:=h.ok I.hok
  exact⟨its,r,p,z⟩
 ·refine⟨its.toList,r,⟨o,I.kIn a o hk,hc,n,by simpa using hs⟩,?_⟩
  have e:=r.length;simp only[NK] at e;omega
theorem Inv.list_inj (I:Inv X pq σ H s) (h:SqL X.K H a xs) (h':SqL X.K H a ys):xs=ys:=by
 obtain⟨its,r,⟨o,n,e,_,_,d⟩,_⟩:=I.list h;obtain⟨its',r',⟨o',n',e',_,_,d'⟩,_⟩:=I.list h';rw[e] at e';cases e';rw[d] at d';injection d' with d1 _
 have:its=its':=by simpa using congrArg Array.toList d1
 subst this;exact r.inj r'
theorem Inv.tuple_inj (I:Inv X pq σ H s) (h:SqT X.K H a xs) (h':SqT X.K H a ys):xs=ys:=by
 obtain⟨its,r,⟨o,e,_,n,d⟩,_⟩:=I.tuple h;obtain⟨its',r',⟨o',e',_,n',d'⟩,_⟩:=I.tuple h';rw[e] at e';cases e';rw[d] at d';injection d' with d1 _
 have:its=its':=by simpa using congrArg Array.toList d1
 subst this;exact r.inj r'
end
noncomputable abbrev Cx.wish (X:Cx) (E:Value->Shared->Prop):Cx:={ X with xe:=E }
noncomputable abbrev Cx.nox (X:Cx):Cx:=X.wish λ_ _=>False
theorem Cx.Ok.wish {X:Cx}(ok:X.Ok) (E:Value->Shared->Prop):(X.wish E).Ok:=
 ⟨ok.mod,ok.kind,ok.glob,ok.blt,ok.above,ok.inj,ok.has,ok.cab,ok.hd,ok.frames,ok.stk,ok.exf,ok.bs,ok.bsz,ok.noex,ok.exfs,ok.funs,ok.frf⟩
theorem Cx.Ok.unwish {X:Cx}{E:Value->Shared->Prop}(ok:(X.wish E).Ok):X.Ok:=
 ⟨ok.mod,ok.kind,ok.glob,ok.blt,ok.above,ok.inj,ok.has,ok.cab,ok.hd,ok.frames,ok.stk,ok.exf,ok.bs,ok.bsz,ok.noex,ok.exfs,ok.funs,ok.frf⟩
section
variable {X:Cx}{pq:List (Addr×Obj)}{σ:St}{H:Hp}{s:Shared}{E:Value->Shared->Prop}
theorem Inv.wish (I:Inv X pq σ H s) (E:Value->Shared->Prop):Inv (X.wish E) pq σ H s:=⟨I.ok.wish E,I.os,I.bare,I.base,I.loc,I.cell,I.free,I.freeC,I.pin,I.hok,I.len⟩
theorem Inv.unwish (I:Inv (X.wish E) pq σ H s):Inv X pq σ H s:=⟨I.ok.unwish,I.os,I.bare,I.base,I.loc,I.cell,I.free,I.freeC,I.pin,I.hok,I.len⟩
theorem SP.unwish {D:Ends}{f:Flow}{s':Shared}(h:SP (X.wish E) pq D f s'):SP X pq D f s':=by
 cases f with
 |next=>obtain⟨σ',H',I,q⟩:=h;exact⟨σ',H',I.unwish,q⟩
 |brk=>obtain⟨σ',H',I,q⟩:=h;exact⟨σ',H',I.unwish,q⟩
 |cont=>obtain⟨σ',H',I,q⟩:=h;exact⟨σ',H',I.unwish,q⟩
 |ret u=>obtain⟨v,σ',H',I,r,q⟩:=h;exact⟨v,σ',H',I.unwish,r,q⟩
theorem PSs.nox {st:List Stmt}{t:TS}(h:PSs X.nox st t):PSs X st t:=λpq s σ H D I hw=>
 Nq (h pq s σ H D (I.wish _) hw) (λ_ _ q=>q.unwish) λ_ _ z=>False.elim z
end
section
variable {X:Cx}{st:Stmt}{rest:List Stmt}{t u:TS}{e:Expr}{te:TE}{pos:Pos}
def Zcx:TS:=λD σ H=>D.nx σ H
def Zdr (t u:TS):TS:=λD σ H=>t { D with nx:=u D } σ H
theorem jJ:PSs X [] Zcx:=λ_ _ σ H _ I h=>wpAny_execs_nil ⟨σ,H,I,h⟩
theorem qE (h1:PS X st t) (h2:PSs X rest u):PSs X (st::rest) (Zdr t u):=by
 intro pq s σ H D I h;refine wpAny_execs_cons (thn (h1 pq s σ H { D with nx:=u D } I h) λf s1 q=>?_)
 cases f with
 |next=>
  obtain⟨σ',H',I',q⟩:=q;exact h2 pq s1 σ' H' D I' q
 |ret v=>exact q
 |brk=>exact q
 |cont=>exact q
theorem Inv.quiet {pq:List (Addr×Obj)}{σ:St}{H:Hp}{s:Shared}(I:Inv X pq σ H s):interactive X.env=false:=by simp[interactive,I.ok.kind]
def Zc3 (te:TE):TS:=λD σ H=>te σ H λ_ H1=>D.nx σ H1
theorem ZaP (he:PE X e te) (hs:swapsWith e none pos.line X.env=pure false:=by rfl):PS X (.Expr e pos) (Zc3 te):=by
 intro pq s σ H D I h;exact wpAny_Expr_any (thn (he pq s σ H _ I h) λv s1 ⟨x,H1,I1,r1,q1⟩=>⟨σ,H1,I1,q1⟩) I.quiet hs
def ZdG (te:TE):TS:=λD σ H=>te σ H D.rt
theorem Zcp (he:PE X e te):PS X (.Return (some e) pos) (ZdG te):=by
 intro pq s σ H D I h;exact wpAny_Return_some (thn (he pq s σ H _ I h) λv s1 ⟨x,H1,I1,r1,q1⟩=>⟨x,σ,H1,I1,r1,q1⟩)
def Zdn (c:TT) (t u:TS):TS:=λD σ H=>c σ H λb H1=>if b=true then t D σ H1 else u D σ H1
theorem ZcN {c:Expr}{a b:List Stmt}{tc:TT}(hc:PT X c tc) (ha:PSs X a t) (hb:PSs X b u):PS X (.If c a b pos) (Zdn tc t u):=by
 intro pq s σ H D I h;refine wpAny_If (thn (hc pq s σ H _ I h) λd s1 ⟨H1,I1,q1⟩=>?_)
 cases d with
 |true=>exact ha pq s1 σ H1 D I1 q1
 |false=>exact hb pq s1 σ H1 D I1 q1
end
abbrev TG:=V->St->Hp->(St->Hp->Prop)->Prop
abbrev TGs:=List V->St->Hp->(St->Hp->Prop)->Prop
def PG (X:Cx) (target:Expr) (t:TG):Prop:=
 ∀(pq:List (Addr×Obj)) (s:Shared) (σ:St) (H:Hp) (v:V) (u:Value) (Q:St->Hp->Prop),Inv X pq σ H s->ZF v u->t v σ H Q->
  wpAny (model X.prog X.w) X.A (assign target X.env u) (λ_ s'=>∃σ' H',Inv X pq σ' H' s'/\Q σ' H') X.xe s
def PGs (X:Cx) (ts:List Expr) (t:TGs):Prop:=
 ∀(pq:List (Addr×Obj)) (s:Shared) (σ:St) (H:Hp) (vs:List V) (us:List Value) (Q:St->Hp->Prop),Inv X pq σ H s->Vals vs us->t vs σ H Q->
  wpAny (model X.prog X.w) X.A (assignInOrder ((assignEach ts X.env).map (·.2)) us) (λ_ s'=>∃σ' H',Inv X pq σ' H' s'/\Q σ' H') X.xe s
abbrev TSet:=V->V->V->Hp->(Hp->Prop)->Prop
def PSet (X:Cx) (t:TSet):Prop:=
 ∀(pq:List (Addr×Obj)) (s:Shared) (σ:St) (H:Hp) (o i v:V) (ov iv u:Value) (Q:Hp->Prop),Inv X pq σ H s->ZF o ov->ZF i iv->ZF v u->t o i v H Q->
  wpAny (model X.prog X.w) X.A (setItem ov iv u) (λ_ s'=>∃H',Inv X pq σ H' s'/\Q H') X.xe s
abbrev TIp:=V->V->Hp->VK->Prop
def PIp (X:Cx) (op:Operator) (t:TIp):Prop:=
 ∀(pq:List (Addr×Obj)) (s:Shared) (σ:St) (H:Hp) (x y:V) (v u:Value) (Q:VK),Inv X pq σ H s->ZF x v->ZF y u->t x y H Q->
  wpAny (model X.prog X.w) X.A (inplaceOp op v u) (EP X pq σ Q) X.xe s
section
variable {X:Cx}{pos:Pos}
def Zct (i:Nat):TG:=λv σ H Q=>Q (σ.set i (some v)) H
theorem xX {i:Nat}{x:Str}(hN:X.N.Nodup) (hi:X.N[i]? = some x) (hx:Loc X.env.scope x) (hf:X.fn x=true\/X.env.scope.names.lookup x=some .local:=by first | exact .inl rfl | exact .inr rfl | assumption):PG X (.Name x pos) (Zct i):=by
 intro pq s σ H v u Q I r h;exact wpAny_assign_Name (W8 I hN hi hx r (λs' I'=>⟨_,H,I',h⟩) hf)
def Zdx:TGs:=λvs σ H Q=>vs=[]/\Q σ H
def ZcH (t:TG) (u:TGs):TGs:=λvs σ H Q=>∃v r,vs=v::r/\t v σ H λσ' H'=>u r σ' H' Q
theorem Zac:PGs X [] Zdx:=by
 intro pq s σ H vs us Q I r h;obtain⟨e,h⟩:=h;subst e;cases r;exact assignInOrder_nil ⟨σ,H,I,h⟩
theorem v9 {e:Expr}{es:List Expr}{t:TG}{u:TGs}(h1:PG X e t) (h2:PGs X es u)
  (hs:(assignEach (e::es) X.env).map (·.2)=assign e X.env::(assignEach es X.env).map (·.2):=by rfl):PGs X (e::es) (ZcH t u):=by
 intro pq s σ H vs us Q I r h;obtain⟨v,vr,e1,h⟩:=h;subst e1;cases r with
 |cons r rr=>
  rw[hs];refine assignInOrder_cons (thn (h1 pq s σ H _ _ _ I r h) λ_ s1 ⟨σ1,H1,I1,q1⟩=>?_)
  exact h2 pq s1 σ1 H1 _ _ Q I1 rr q1
def Zdb (K:PySem.W.Frag) (n:Nat) (t:TGs):TG:=λv σ H Q=>∃a xs,v=.ref a/\SqT K H a xs/\xs.length=n/\t xs σ H Q
theorem Zch {es:List Expr}{k:Nat}{t:TGs}{n:Nat}(hc:X.calm=true) (h:PGs X es t)
  (hn:(assignEach es X.env).length=n:=by rfl) (hst:(assignEach es X.env).findIdx? (·.1)=none:=by rfl):PG X (.Tuple es k pos) (Zdb X.K n t):=by
 intro pq s σ H v u Q I r hw;obtain⟨a,xs,e1,hq,hl,hw⟩:=hw;subst e1;cases r;obtain⟨its,rv,ht,hz⟩:=I.tuple hq;refine assign_Tuple_tuple (I.ok.hd hc) ht (by simp[hn,<-hl,rv.length]) hst λh' hx=>?_
 have I1:Inv X pq σ H { s with heap:=h' }:=I.kept (t':=s.toks) λb o e=>hx b o (PX (Pw e)) e
 exact h pq _ σ H xs _ Q I1 (by simpa using rv) hw
def ZdF (to ti:TE) (t:TSet):TG:=λv σ H Q=>to σ H λo H1=>ti σ H1 λi H2=>t o i v H2 λH3=>Q σ H3
theorem Zby {o i:Expr}{to ti:TE}{t:TSet}(ho:PE X o to) (hi:PE X i ti) (hs:PSet X t)
  (ha:∀v,assign (.Subscript o i pos) X.env v=(do
   let ov <-holding [v] (eval o X.env)
   let iv <-holding [v,ov] (eval i X.env)
   standAt pos
   holding [v,ov,iv] (setItem ov iv v)
   release [v,ov,iv] []):=by intro _;rfl):PG X (.Subscript o i pos) (ZdF to ti t):=by
 intro pq s σ H v u Q I r h;rw[ha];refine Pa (Nl (thn (ho pq s σ H _ I h) λov s1 ⟨x,H1,I1,r1,q1⟩=>?_))
 refine Pa (Nl (thn (hi pq s1 σ H1 _ I1 q1) λiv s2 ⟨y,H2,I2,r2,q2⟩=>?_))
 refine Pa (NY (Pa (Nl (thn (hs pq s2 σ H2 x y v ov iv u _ I2 r1 r2 r q2) λ_ s3 ⟨H3,I3,q3⟩=>?_))))
 exact wpAny_release ⟨σ,H3,I3,q3⟩
def Zdf (te:TE) (g:TG):TS:=λD σ H=>te σ H λx H1=>g x σ H1 D.nx
theorem qN {tg e:Expr}{te:TE}{g:TG}(he:PE X e te) (hg:PG X tg g) (hs:swapsWithSole [tg] e pos.line X.env=pure false:=by rfl) (hw:swappedStores [tg] e X.env=pure none:=by rfl)
  (h1:(assignEach [tg] X.env).map (·.2)=[assign tg X.env]:=by rfl):PS X (.Assign [tg] e pos) (Zdf te g):=by
 intro pq s σ H D I h;refine wpAny_Assign_stores (thn (he pq s σ H _ I h) λv s1 ⟨x,H1,I1,r1,q1⟩=>?_) hs hw
 rw[h1];exact thn (hg pq s1 σ H1 x v _ I1 r1 q1) λ_ s2 q=>q
def Zdp (i j:Nat) (ta:TA):TS:=λD σ H=>ta σ H λvs H1=>∃v w,vs=[v,w]/\D.nx ((σ.set i (some v)).set j (some w)) H1
theorem ZbX {i j:Nat}{x y:Str}{a b:Expr}{ta:TA}{px py pt:Pos}{kt k2 pt2}(hc:X.calm=true) (hN:X.N.Nodup) (hi:X.N[i]? = some x) (hj:X.N[j]? = some y) (hij:i≠j)
  (hx:X.env.scope.names.lookup x=some .local) (hy:X.env.scope.names.lookup y=some .local) (ha:PA X [a,b] ta)
  (hw:swappedStores [.Tuple [.Name x px,.Name y py] kt pt] (.Tuple [a,b] k2 pt2) X.env=pure (some [x,y]))
  (hs:swapsWithSole [.Tuple [.Name x px,.Name y py] kt pt] (.Tuple [a,b] k2 pt2) pos.line X.env=pure false:=by rfl) :
  PS X (.Assign [.Tuple [.Name x px,.Name y py] kt pt] (.Tuple [a,b] k2 pt2) pos) (Zdp i j ta):=by
 intro pq s σ H D I h;rw[exec_Assign_arm];refine Pa (NY ?_);rw[hs];refine Pa (Pl ?_);rw[Pi (by decide)]
 refine Pa (Tuple_ (thn (ha _ pq s σ H _ I h) λus s1 ⟨vs,H1,I1,r1,q1⟩=>?_))
 obtain⟨v,w,e1,q1⟩:=q1;subst e1;obtain⟨u1,u2,rfl,rv,rw'⟩:∃u1 u2,us=[u1,u2]/\ZF v u1/\ZF w u2:=by
  cases r1 with
  |cons p q=>
   cases q with
   |cons p' q'=>
    cases q';exact⟨_,_,rfl,p,p'⟩
 refine Nw ?_ (by show 2<=sizeLine;decide)
 have I2:Inv X pq σ H1 { s1 with heap:=s1.heap.push { cls:=.type "tuple",data:=.seq [u1,u2].toArray } }:=I1.kept (t':=s1.toks) λb o e=>Ph _ e
 rw[hw];refine Pa (Pl ?_);show wpAny (model X.prog X.w) X.A (do rule "assign.swapped-stores";let items <-unpackItems (.ref s1.heap.objs.size) 2 none;assignInOrder [λv=>bindName X.env y v,λv=>bindName X.env x v] items.reverse;pure Flow.next) _ _ _
 refine Pa (Kb (Pa (unpackItems_tuple (items:=#[u1,u2]) (I.ok.hd hc) (Tg s1.heap _) λh' hx'=>?_)))
 have I3:=I2.kept (h':=h') (t':=s1.toks) λb o e=>hx' b o (PX (Pw e)) e
 show wpAny _ _ (assignInOrder [λv=>bindName X.env y v,λv=>bindName X.env x v] [u2,u1] >>= λ_=>pure Flow.next) _ _ _
 refine Pa (assignInOrder_cons (wpAny_bindName (W8 I3 hN hj (.inl hy) rw' (λs2 I4=>?_) (.inr hy))))
 refine assignInOrder_cons (wpAny_bindName (W8 I4 hN hi (.inl hx) rv (λs3 I5=>assignInOrder_nil (Pl ?_)) (.inr hx)))
 rw[List.set_comm _ _ (Ne.symm hij)] at I5;exact⟨_,H1,I5,q1⟩
def Zdt (i:Nat) (te:TE) (ti:TIp):TS:=λD σ H=>∃x,σ[i]? = some (some x)/\te σ H λy H1=>ti x y H1 λz H2=>D.nx (σ.set i (some z)) H2
theorem Zcj {i:Nat}{x:Str}{e:Expr}{te:TE}{op:Operator}{ti:TIp}{pos':Pos}(hN:X.N.Nodup) (hi:X.N[i]? = some x) (hx:Loc X.env.scope x) (he:PE X e te) (ho:PIp X op ti) (hf:X.fn x=true\/X.env.scope.names.lookup x=some .local:=by first | exact .inl rfl | exact .inr rfl | assumption) :
  PS X (.AugAssign (.Name x pos') op e pos) (Zdt i te ti):=by
 intro pq s σ H D I h;obtain⟨v,e1,h⟩:=h;obtain⟨m,hn,hl⟩:=I.loc;have vis:Vis X.env.scope x:=by rcases hx with k | k;exact .inl k;exact .inr (.inl k)
 obtain⟨u,r,l⟩:=hl i x v hi e1 vis;refine wpAny_AugAssign_Name ?_;have go:wpAny (model X.prog X.w) X.A (eval e X.env) (λw s₂=>wpAny (model X.prog X.w) X.A (inplaceOp op u w) (λr s₃=>wpAny (model X.prog X.w) X.A (storeName X.env x r) (λ_=>SP X pq D .next) X.xe s₃) X.xe s₂) X.xe s:=by
  refine thn (he pq s σ H _ I h) λw s1 ⟨y,H1,I1,r1,q1⟩=>?_
  refine thn (ho pq s1 σ H1 v y u w _ I1 r r1 q1) λz s2 ⟨zv,H2,I2,r2,q2⟩=>?_
  exact W8 I2 hN hi hx r2 (λs3 I3=>⟨_,H2,I3,q2⟩) hf
 rcases l with ⟨hk,hm⟩ | ⟨hk,c,hc,hcell⟩
 ·exact wpAny_loadName_local I.ok.kind hk hn hm go
 ·rcases hk with hk | hk
  ·exact wpAny_loadName_cell I.ok.kind hk hc hcell go
  ·rcases hx with k | k
   ·have:X.env.scope.names.lookup x=some .free:=hk
    rw[k] at this;cases this
   ·have:X.env.scope.names.lookup x=some .free:=hk
    rw[k] at this;cases this
end
section
variable {X:Cx}{pos:Pos}
def ZbG (c:TT) (tb:TS):TS:=λD σ H=>∃W:Nat->St->Hp->Prop,(∃m,W m σ H)/\∀m σ H,W m σ H->
 c σ H λb H1=>if b=true then ∃N:St->Hp->Prop,(∀σ' H',N σ' H'->∃m',m'<m/\W m' σ' H')/\tb { D with nx:=N,ct:=N,bk:=D.nx } σ H1 else D.nx σ H1
theorem uY {c:Expr}{body:List Stmt}{tc:TT}{tb:TS}(hp:PassesOwn (model X.prog X.w) X.A X.env X.xe) (hc:PT X c tc) (hb:PSs X body tb):PS X (.While c body [] pos) (ZbG tc tb):=by
 intro pq s σ H D I h;obtain⟨W,⟨m0,w0⟩,turn⟩:=h;refine wpAny_While (codeAny_whileLoop (λn s'=>∃σ' H',Inv X pq σ' H' s'/\W n σ' H') ?_ m0 ⟨σ,H,I,w0⟩)
 rintro n s1 ⟨σ1,H1,I1,w1⟩
 refine N6 hp (thn (hc pq s1 σ1 H1 _ I1 (turn n σ1 H1 w1)) λb s2 ⟨H2,I2,q2⟩=>?_)
 cases b with
 |true=>
  obtain⟨N,hN,q2⟩:=q2;rw[Pg rfl];refine N6 hp (thn (hb pq s2 σ1 H2 _ I2 q2) λf s3 q3=>?_)
  cases f with
  |next=>
   obtain⟨σ3,H3,I3,n3⟩:=q3;obtain⟨m',hm,w3⟩:=hN σ3 H3 n3;exact⟨m',hm,σ3,H3,I3,w3⟩
  |cont=>
   obtain⟨σ3,H3,I3,n3⟩:=q3;obtain⟨m',hm,w3⟩:=hN σ3 H3 n3;exact⟨m',hm,σ3,H3,I3,w3⟩
  |brk=>exact q3
  |ret v=>exact q3
 |false=>
  rw[Pi Pu];exact wpAny_execs_nil ⟨σ1,H2,I2,q2⟩
end
structure It where
 go:Nat->Hp->Prop
 yld:Nat->Hp->V->Hp->Prop
 stop:Nat->Hp->Prop
def Vo (X:Cx) (pq:List (Addr×Obj)) (H:Hp) (b:Addr):Prop:=
 H b=none/\b≠X.env.locals/\b∉X.fs/\(b∈X.ex\/X.s₀.heap.objs.size<=b)/\(∀x c,X.env.cells.lookup x=some c->c≠b)/\∀p∈X.pn++pq,p.1≠b
theorem Inv.fpOk {X:Cx}{pq:List (Addr×Obj)}{σ:St}{H H':Hp}{s:Shared}{b:Addr}(I:Inv X pq σ H s) (hb:s.heap.objs.size<=b) (hn:H' b=none):Vo X pq H' b:=by
 refine⟨hn,Nat.ne_of_gt (PL I.lt hb),I.nofs hb,.inr (PY I.sz hb),λx c e z=>?_,λp hp z=>?_⟩
 ·obtain⟨v,q⟩:=I.cell x c e
  exact absurd (PL q.lt (by rw[z];exact hb)) (P2 _)
 ·exact absurd (PL (Pw (I.pin p hp).1) (by rw[z];exact hb)) (P2 _)
structure Turn (P:Program) (w:World) (K:PySem.W.Frag) (tg:Expr) (J:It) (fp:List Addr) (it:Addr) (tn:Nat->Heap->Prop):Prop where
 mem:it∈fp
 obj:∀i h,tn i h->∀b∈fp,∃o,h.get? b=some o/\∀v,o.data≠.cell v
 keep:∀i h h',tn i h->(∀b∈fp,∀o,h.get? b=some o->h'.get? b=some o)->tn i h'
 item:∀(X:Cx),X.prog=P->X.w=w->X.K=K->X.calm=true->∀(i:Nat) (pq:List (Addr×Obj)) (s:Shared) (σ:St) (H:Hp) (E:Value->Shared->Prop),Inv X pq σ H s->(∀b∈fp,Vo X pq H b)->tn i s.heap->J.go i H->
  wpAny (model P w) X.A (pyNext (.ref it)) (λr s1=>∃u,r=some u/\
   wpAny (model P w) X.A (letOwnedTupleGo tg (.ref it) u) (λ_ s2=>∃x H',Inv X pq σ H' s2/\ZF x u/\J.yld i H x H'/\tn (i+1) s2.heap/\∀b∈fp,H' b=none) E s1) E s
 done:∀(X:Cx),X.prog=P->X.w=w->X.K=K->X.calm=true->∀(i:Nat) (pq:List (Addr×Obj)) (s:Shared) (σ:St) (H:Hp) (E:Value->Shared->Prop),Inv X pq σ H s->(∀b∈fp,Vo X pq H b)->tn i s.heap->J.stop i H->
  wpAny (model P w) X.A (pyNext (.ref it)) (λr s1=>r=none/\Inv X pq σ H s1) E s
 self:∀(A:Around) (i:Nat) (s:Shared) (Q:Value->Shared->Prop) (E:Value->Shared->Prop),tn i s.heap->Q (.ref it) s->wpAny (model P w) A (pyIter (.ref it)) Q E s
abbrev TI:=St->Hp->(It->Hp->Prop)->Prop
def PIE (X:Cx) (pq:List (Addr×Obj)) (σ:St) (tg:Expr) (R:It->Hp->Prop) (itv:Value) (s2:Shared):Prop:=
 ∃(it:Addr) (fp:List Addr) (tn:Nat->Heap->Prop) (J:It) (H':Hp),itv=.ref it/\Inv X pq σ H' s2/\Turn X.prog X.w X.K tg J fp it tn/\tn 0 s2.heap/\(∀b∈fp,Vo X pq H' b)/\R J H'
def PI (X:Cx) (tg iter:Expr) (wi:TI):Prop:=
 ∀(pq:List (Addr×Obj)) (s:Shared) (σ:St) (H:Hp) (R:It->Hp->Prop),Inv X pq σ H s->wi σ H R->
  wpAny (model X.prog X.w) X.A (eval iter X.env) (λv s1=>wpAny (model X.prog X.w) X.A (pyIter v) (PIE X pq σ tg R) X.xe s1) X.xe s
theorem wo {M:Model}{A:Around}{E:Value->Shared->Prop}{s:Shared}{tg:Expr}{it:Addr}{u:Value}{o:Obj}{n:String}{vs:Array Value}{Q:Unit->Shared->Prop}(ho:s.heap.get? it=some o) (hc:o.cls=.type n) (hd:o.data=.fields vs)
  (hn:["enumerate","zip","dict_itemiterator","dict_reverseitemiterator","odict_iterator","itertools.zip_longest","itertools.pairwise"].contains n=false) (hQ:Q () s):wpAny M A (letOwnedTupleGo tg (.ref it) u) Q E s:=by
 unfold letOwnedTupleGo;cases tg <;> first
  |exact Pl hQ
  |(cases u <;> first
    |exact Pl hQ
    |(refine Pa (wpAny_load ho ?_)
      rw[hc,hd];show wpAny M A (if (["enumerate","zip","dict_itemiterator","dict_reverseitemiterator","odict_iterator","itertools.zip_longest","itertools.pairwise"].contains n&&vs[0]? == some (rawInt _))=true then _ else _) Q E s
      rw[Pi (by intro h;rw[hn,Bool.false_and] at h;cases h)]
      exact Pl hQ))
noncomputable def Itl (K:PySem.W.Frag) (a:Addr):It:=
 ⟨λi H=>∃xs x,SqL K H a xs/\xs[i]? = some x,λi H x H'=>H'=H/\∀xs,SqL K H a xs->xs[i]? = some x,λi H=>∃xs,SqL K H a xs/\xs.length<=i⟩
noncomputable def Itt (K:PySem.W.Frag) (a:Addr):It:=
 ⟨λi H=>∃xs x,SqT K H a xs/\xs[i]? = some x,λi H x H'=>H'=H/\∀xs,SqT K H a xs->xs[i]? = some x,λi H=>∃xs,SqT K H a xs/\xs.length<=i⟩
noncomputable def Itr (lo:Int) (n:Nat):It:=⟨λi _=>i<n,λi H x H'=>H'=H/\x=.int (lo+i),λi _=>n<=i⟩
theorem vU {P:Program}{w:World}{K:PySem.W.Frag}{tg:Expr}(a it:Addr):Turn P w K tg (Itl K a) [it] it (λi h=>h.IsListIter it a i) where
 mem:=by simp
 obj:=λi h st b hb=>by
  have e:b=it:=by simpa using hb
  subst e;obtain⟨o,e,c,d⟩:=st;exact⟨o,e,λv z=>by rw[d] at z;cases z⟩
 keep:=λi h h' st k=>st.at λo e=>k it (by simp) o e
 item:=by
  intro X hP hw hK hc i pq s σ H E I hf st hg;subst hP hw hK;obtain⟨xs,x,hq,hx⟩:=hg;obtain⟨its,rv,p,hz⟩:=I.list hq;obtain⟨u,hu,ru⟩:=rv.get hx;obtain⟨f0,f1,f2,f3,f4,f5⟩:=hf it (by simp)
  refine wpAny_pyNext_list_item st p.isList (x:=u) (by simpa using hu) λh' st' sb=>?_
  have I1:Inv X pq σ H { s with heap:=h' }:=I.turned (t':=s.toks) (λb o hb e=>(sb.2 b hb).trans e) f0 f1 f3 f4 f5
  obtain⟨o,e,c,d⟩:=id st';exact⟨u,rfl,wo (s:={ s with heap:=h' }) e c d (by decide) ⟨x,H,I1,ru,⟨rfl,λys hy=>by rw[I.list_inj hy hq];exact hx⟩,st',λb hb=>(hf b hb).1⟩⟩
 done:=by
  intro X hP hw hK hc i pq s σ H E I hf st hg;subst hP hw hK;obtain⟨xs,hq,hx⟩:=hg;obtain⟨its,rv,p,hz⟩:=I.list hq;obtain⟨f0,f1,f2,f3,f4,f5⟩:=hf it (by simp)
  have hl:=rv.length;exact wpAny_pyNext_list_end (I.ok.hd hc) st p.isList (by simp;omega) λh' eb=>⟨rfl,I.turned (t':=s.toks) (λb o hb e=>eb b o hb e) f0 f1 f3 f4 f5⟩
 self:=λ_ _ _ _ _ st h=>wpAny_pyIter_listiter st h
theorem xj {P:Program}{w:World}{K:PySem.W.Frag}{tg:Expr}(a it:Addr):Turn P w K tg (Itt K a) [it] it (λi h=>h.IsTupleIter it a i) where
 mem:=by simp
 obj:=λi h st b hb=>by
  have e:b=it:=by simpa using hb
  subst e;obtain⟨o,e,c,d⟩:=st;exact⟨o,e,λv z=>by rw[d] at z;cases z⟩
 keep:=λi h h' st k=>st.at λo e=>k it (by simp) o e
 item:=by
  intro X hP hw hK hc i pq s σ H E I hf st hg;subst hP hw hK;obtain⟨xs,x,hq,hx⟩:=hg;obtain⟨its,rv,p,hz⟩:=I.tuple hq;obtain⟨u,hu,ru⟩:=rv.get hx;obtain⟨f0,f1,f2,f3,f4,f5⟩:=hf it (by simp)
  refine wpAny_pyNext_tuple_item st (show s.heap.IsTuple a its.toArray from p) (x:=u) (by simpa using hu) λh' st' sb=>?_
  have I1:Inv X pq σ H { s with heap:=h' }:=I.turned (t':=s.toks) (λb o hb e=>(sb.2 b hb).trans e) f0 f1 f3 f4 f5
  obtain⟨o,e,c,d⟩:=id st';exact⟨u,rfl,wo (s:={ s with heap:=h' }) e c d (by decide) ⟨x,H,I1,ru,⟨rfl,λys hy=>by rw[I.tuple_inj hy hq];exact hx⟩,st',λb hb=>(hf b hb).1⟩⟩
 done:=by
  intro X hP hw hK hc i pq s σ H E I hf st hg;subst hP hw hK;obtain⟨xs,hq,hx⟩:=hg;obtain⟨its,rv,p,hz⟩:=I.tuple hq;obtain⟨f0,f1,f2,f3,f4,f5⟩:=hf it (by simp)
  have hl:=rv.length;exact wpAny_pyNext_tuple_end (I.ok.hd hc) st (show s.heap.IsTuple a its.toArray from p) (by simp;omega) λh' eb=>⟨rfl,I.turned (t':=s.toks) (λb o hb e=>eb b o hb e) f0 f1 f3 f4 f5⟩
 self:=λ_ _ _ _ _ st h=>wpAny_pyIter_tupleiter st h
theorem yi {P:Program}{w:World}{K:PySem.W.Frag}{tg:Expr}(it:Addr) (lo:Int) (n:Nat):Turn P w K tg (Itr lo n) [it] it (λi h=>IsRangeIter h it (lo+(i:Nat)*1) ((n:Int)-(i:Nat)) 1) where
 mem:=by simp
 obj:=λi h st b hb=>by
  have e:b=it:=by simpa using hb
  subst e;exact⟨_,st,λv z=>by
   have z':Data.fields _=Data.cell v:=z;cases z'⟩
 keep:=λi h h' st k=>k it (by simp) _ st
 item:=by
  intro X hP hw hK hc i pq s σ H E I hf st hg;subst hP hw hK;obtain⟨f0,f1,f2,f3,f4,f5⟩:=hf it (by simp)
  have W:=Walks.range (prog:=X.prog) (w:=X.w) (I.ok.hd hc) it lo 1 n;refine W.item i s _ _ hg st λv h' tk hv st' kk=>?_
  obtain⟨t,rfl⟩:=hv;have I1:Inv X pq σ H { s with heap:=h',toks:=tk }:=I.turned (λb o hb e=>kk b o (by simpa using hb) e) f0 f1 f3 f4 f5
  refine⟨_,rfl,wo (s:={ s with heap:=h',toks:=tk }) (n:="range_iterator") st' rfl rfl (by decide) ⟨.int (lo+i),H,I1,⟨t,?_⟩,⟨rfl,rfl⟩,st',λb hb=>(hf b hb).1⟩⟩
  rw[Int.mul_one]
 done:=by
  intro X hP hw hK hc i pq s σ H E I hf st hg;subst hP hw hK;obtain⟨f0,f1,f2,f3,f4,f5⟩:=hf it (by simp)
  exact wpAny_pyNext_range_end (I.ok.hd hc) st (by have:n<=i:=hg;omega) λh' eb=>⟨rfl,I.turned (t':=s.toks) (λb o hb e=>eb b o hb e) f0 f1 f3 f4 f5⟩
 self:=λ_ _ _ _ _ st h=>KK st h
section
variable {X:Cx}{tg:Expr}
theorem zq {pq:List (Addr×Obj)}{σ:St}{H:Hp}{s:Shared}{R:It->Hp->Prop}{E:Value->Shared->Prop}{lo hi:Int}{t u v:Tok}{tk:Nat}(I:Inv X pq σ H s) (h1:-(2^62)<=lo) (h2:lo<2^62) (h3:-(2^62)<=hi) (h4:hi<2^62)
  (q:R (Itr lo (hi-lo).toNat) H):wpAny (model X.prog X.w) X.A (pyIter (.ref s.heap.objs.size)) (PIE X pq σ tg R) E { s with heap:=s.heap.push { cls:=.type "range",data:=.fields #[.int lo t,.int hi u,.int 1 v] },toks:=tk }:=by
 refine wpAny_pyIter_range (IsRange.new ..) (small_one h1 h2 h3 h4) ?_;have I1:Inv X pq σ H { s with heap:=s.heap.push { cls:=.type "range",data:=.fields #[.int lo t,.int hi u,.int 1 v] },toks:=tk }:=I.kept λb o e=>Ph _ e
 refine⟨(s.heap.push { cls:=.type "range",data:=.fields #[.int lo t,.int hi u,.int 1 v] }).objs.size,[(s.heap.push { cls:=.type "range",data:=.fields #[.int lo t,.int hi u,.int 1 v] }).objs.size],_,_,H,rfl,
  I1.kept (t':=tk) λb o e=>Ph _ e,yi _ lo (hi-lo).toNat,?_,λb hb=>?_,q⟩
 ·have e1:lo+((0:Nat):Int)*1=lo:=by simp
  have e2:(((hi-lo).toNat:Nat):Int)-((0:Nat):Int)=Builtin.Range.rangeSize lo hi 1:=by rw[rangeSize_one];split <;> omega
  show IsRangeIter _ _ (lo+((0:Nat):Int)*1) ((((hi-lo).toNat:Nat):Int)-((0:Nat):Int)) 1;rw[e1,e2];exact Pz _ rfl
 ·have e:b=(s.heap.push { cls:=.type "range",data:=.fields #[.int lo t,.int hi u,.int 1 v] }).objs.size:=by simpa using hb
  subst e;exact I1.fpOk (Pp _) (I1.hok.fresh (Pp _))
def ZcL (ta:TA):TI:=λσ H R=>ta σ H λvs H1=>∃j:Int,vs=[.int j]/\-(2^62)<=j/\j<2^62/\R (Itr 0 j.toNat) H1
def ZcW (ta:TA):TI:=λσ H R=>ta σ H λvs H1=>∃i j:Int,vs=[.int i,.int j]/\(-(2^62)<=i/\i<2^62/\-(2^62)<=j/\j<2^62)/\R (Itr i (j-i).toNat) H1
theorem vP {a:Expr}{ta:TA}{p pos:Pos}(hg:Gl X "range") (hm:X.mg "range" = none) (ha:PA X [a] ta) (hs:starEach [a] X.env=[(false,eval a X.env)]:=by rfl):PI X tg (.Call (.Name "range" p) [a] [] pos) (ZcL ta):=by
 intro pq s σ H R I h;refine Call_ (Xl I hg hm boot_range (Ng (thn (ha pos pq s σ H _ I h) λus s1 ⟨vs,H1,I1,r1,q1⟩=>?_) hs rfl))
 obtain⟨j,e,q1,q2,q⟩:=q1;subst e;cases r1 with
 |cons r rr=>
  cases rr;obtain⟨t,rfl⟩:=r;exact call_range_1 (zq I1 (by omega) (by omega) q1 q2 (by simpa using q))
theorem vA {a b:Expr}{ta:TA}{p pos:Pos}(hg:Gl X "range") (hm:X.mg "range" = none) (ha:PA X [a,b] ta) (hs:starEach [a,b] X.env=[(false,eval a X.env),(false,eval b X.env)]:=by rfl) (hs2:starEach [b] X.env=[(false,eval b X.env)]:=by rfl) :
  PI X tg (.Call (.Name "range" p) [a,b] [] pos) (ZcW ta):=by
 intro pq s σ H R I h;refine Call_ (Xl I hg hm boot_range (Ng (thn (ha pos pq s σ H _ I h) λus s1 ⟨vs,H1,I1,r1,q1⟩=>?_) (by rw[hs,hs2]) (by rw[hs2];rfl)))
 obtain⟨i,j,e,⟨q1,q2,q3,q4⟩,q⟩:=q1;subst e;cases r1 with
 |cons r rr=>
  cases rr with
  |cons r' rr=>
   cases rr;obtain⟨t,rfl⟩:=r;obtain⟨t',rfl⟩:=r';exact call_range_2 (zq I1 q1 q2 q3 q4 q)
def Zdu (wi:TI) (g:TG) (tb:TS):TS:=λD σ H=>wi σ H λJ H1=>∃W:Nat->Nat->St->Hp->Prop,(∃m,W 0 m σ H1)/\∀i m σ H,W i m σ H->
 (J.stop i H/\D.nx σ H)\/(J.go i H/\∃N:St->Hp->Prop,(∀σ' H',N σ' H'->∃m',m'<m/\W (i+1) m' σ' H')/\∀x H',J.yld i H x H'->g x σ H' λσ2 H2=>tb { D with nx:=N,ct:=N,bk:=D.nx } σ2 H2)
noncomputable def Qc (fp:List Addr) (h:Heap):List (Addr×Obj):=fp.filterMap λb=>(h.get? b).map λo=>(b,o)
theorem XR {fp:List Addr}{h:Heap}{b:Addr}{o:Obj}(hb:b∈fp) (e:h.get? b=some o):(b,o)∈Qc fp h:=List.mem_filterMap.mpr ⟨b,hb,by rw[e];rfl⟩
theorem vi {fp:List Addr}{h:Heap}{p:Addr×Obj}(hp:p∈Qc fp h):p.1∈fp/\h.get? p.1=some p.2:=by
 obtain⟨b,hb,e⟩:=List.mem_filterMap.mp hp;cases q:h.get? b with
 |none=>rw[q] at e;cases e
 |some o=>
  rw[q] at e;have e':(b,o)=p:=Pb e;subst e';exact⟨hb,q⟩
theorem Inv.pinned {pq:List (Addr×Obj)}{σ:St}{H:Hp}{s:Shared}{fp:List Addr}(I:Inv X pq σ H s) (hf:∀b∈fp,Vo X pq H b) (ho:∀b∈fp,∃o,s.heap.get? b=some o/\∀v,o.data≠.cell v):Inv X (pq++Qc fp s.heap) σ H s:=
 I.pins_of λp hp=>(P7.mp hp).elim (λz=>I.pin p (Nc _ z)) λz=>by
  obtain⟨hb,e⟩:=vi z;obtain⟨f0,f1,f2,_⟩:=hf p.1 hb;obtain⟨o,e',d⟩:=ho p.1 hb;rw[e] at e';cases e';exact⟨e,f0,f1,f2,d⟩
theorem Inv.unpinned {pq pl:List (Addr×Obj)}{σ:St}{H:Hp}{s:Shared}(I:Inv X (pq++pl) σ H s):Inv X pq σ H s:=I.pins_of λp hp=>I.pin p (Nc _ (K3 _ hp))
theorem Zbo {iter:Expr}{body:List Stmt}{wi:TI}{g:TG}{tb:TS}{pos:Pos}(hp:PassesOwn (model X.prog X.w) X.A X.env X.xe) (hc:X.calm=true) (hi:PI X tg iter wi) (hg:PG X tg g) (hb:PSs X body tb)
  (hs:∀x,foldedSetIterable iter X.env x=pure x:=by intro _;rfl):PS X (.For tg iter body [] pos) (Zdu wi g tb):=by
 intro pq s σ H D I h;refine wpAny_For (thn (hi pq s σ H _ I h) λv s1 h1=>thn h1 λitv s2 h2=>?_) hs
 obtain⟨it,fp,tn,J,H2,e,I2,T,st2,f2,W,⟨m0,w0⟩,turn⟩:=h2;subst e;have stat:∀{H':Hp},(∀b∈fp,H' b=none)->∀b∈fp,Vo X pq H' b:=λhn b hb=>⟨hn b hb,(f2 b hb).2⟩
 refine codeAny_forLoop_any (λn s'=>∃i σ' H',Inv X pq σ' H' s'/\tn i s'.heap/\(∀b∈fp,H' b=none)/\W i n σ' H') ?_ m0 ⟨0,σ,H2,I2,st2,λb hb=>(f2 b hb).1,w0⟩
 rintro n s3 ⟨i,σ3,H3,I3,st3,fr3,w3⟩
 rcases turn i n σ3 H3 w3 with ⟨stop,qn⟩ | ⟨go,N,hN,step⟩
 ·refine N6 hp (thn (T.done X rfl rfl rfl hc i pq s3 σ3 H3 X.xe I3 (stat fr3) st3 stop) λr s4 ⟨hr,I4⟩=>?_)
  subst hr;exact wpAny_execs_nil ⟨σ3,H3,I4,qn⟩
 ·refine N6 hp (thn (T.item X rfl rfl rfl hc i pq s3 σ3 H3 X.xe I3 (stat fr3) st3 go) λr s4 ⟨u,hr,h4⟩=>?_)
  subst hr;refine N6 hp (thn h4 λ_ s5 ⟨x,H5,I5,r5,y5,st5,fr5⟩=>?_)
  have I5':=I5.pinned (stat fr5) (T.obj _ _ st5);refine N6 hp (thn (hg _ s5 σ3 H5 x u _ I5' r5 (step x H5 y5)) λ_ s6 ⟨σ6,H6,I6,q6⟩=>?_)
  refine N6 hp (thn (hb _ s6 σ6 H6 _ I6 q6) λf s7 q7=>?_)
  have again:∀{σ7:St} {H7:Hp},Inv X (pq++Qc fp s5.heap) σ7 H7 s7->N σ7 H7->∃m,m<n/\∃i σ' H',Inv X pq σ' H' s7/\tn i s7.heap/\(∀b∈fp,H' b=none)/\W i m σ' H':=λ{σ7 H7} I7 n7=>by
   obtain⟨m',hm,w7⟩:=hN σ7 H7 n7;refine⟨m',hm,i+1,σ7,H7,I7.unpinned,T.keep _ _ _ st5 λb hb o e=>(I7.pin (b,o) (Nc _ (Nc _ (XR hb e)))).1,λb hb=>?_,w7⟩
   obtain⟨o,e,d⟩:=T.obj _ _ st5 b hb;exact (I7.pin (b,o) (Nc _ (Nc _ (XR hb e)))).2.1
  cases f with
  |next=>obtain⟨σ7,H7,I7,n7⟩:=q7;exact again I7 n7
  |cont=>obtain⟨σ7,H7,I7,n7⟩:=q7;exact again I7 n7
  |brk=>obtain⟨σ7,H7,I7,q7⟩:=q7;exact⟨σ7,H7,I7.unpinned,q7⟩
  |ret v=>obtain⟨x7,σ7,H7,I7,r7,q7⟩:=q7;exact⟨x7,σ7,H7,I7.unpinned,r7,q7⟩
end
abbrev R2:=V->V->Hp->VK->Prop
def OpR (X:Cx) (f:Value->Value->Sem Value) (r:R2):Prop:=
 ∀(pq:List (Addr×Obj)) (s:Shared) (σ:St) (H:Hp) (x y:V) (v u:Value) (Q:VK),Inv X pq σ H s->ZF x v->ZF y u->r x y H Q->
  wpAny (model X.prog X.w) X.A (f v u) (EP X pq σ Q) X.xe s
def UnR (X:Cx) (f:Value->Sem Value) (r:V->Hp->VK->Prop):Prop:=
 ∀(pq:List (Addr×Obj)) (s:Shared) (σ:St) (H:Hp) (x:V) (v:Value) (Q:VK),Inv X pq σ H s->ZF x v->r x H Q->
  wpAny (model X.prog X.w) X.A (f v) (EP X pq σ Q) X.xe s
def ZT (X:Cx) (f:Value) (r:List V->Hp->VK->Prop):Prop:=
 ∀(pq:List (Addr×Obj)) (s:Shared) (σ:St) (H:Hp) (xs:List V) (us:List Value) (Q:VK),Inv X pq σ H s->Vals xs us->r xs H Q->
  wpAny (model X.prog X.w) X.A (call f us) (EP X pq σ Q) X.xe s
def Zdk (X:Cx) (r:V->Hp->(Bool->Hp->Prop)->Prop):Prop:=
 ∀(pq:List (Addr×Obj)) (s:Shared) (σ:St) (H:Hp) (x:V) (v:Value) (Q:Bool->Hp->Prop),Inv X pq σ H s->ZF x v->r x H Q->
  wpAny (model X.prog X.w) X.A (truthy v) (TP X pq σ Q) X.xe s
def tOp (r:R2) (ta tb:TE):TE:=λσ H Q=>ta σ H λx H1=>tb σ H1 λy H2=>r x y H2 Q
def tUn (r:V->Hp->VK->Prop) (ta:TE):TE:=λσ H Q=>ta σ H λx H1=>r x H1 Q
def rI (C:Int->Int->Prop) (g:Int->Int->V):R2:=λx y H Q=>∃i j,x=.int i/\y=.int j/\C i j/\Q (g i j) H
def rI0 (g:Int->Int->V):R2:=λx y H Q=>∃i j,x=.int i/\y=.int j/\Q (g i j) H
noncomputable def rU (g:Int->V):V->Hp->VK->Prop:=λx H Q=>∃i,x=.int i/\Q (g i) H
section
variable {X:Cx}{a b c:Expr}{ta tb tc:TE}{pos:Pos}
theorem Zbp (ha:PE X a ta) (hb:PE X b tb) {pq:List (Addr×Obj)}{s:Shared}{σ:St}{H:Hp}{R:V->V->Hp->Prop}(I:Inv X pq σ H s)
  (h:ta σ H λx H1=>tb σ H1 λy H2=>R x y H2) {Q:Value->Shared->Prop} {f:Value->Value->Sem Value}
  (hf:∀v u s2 x y H2,Inv X pq σ H2 s2->ZF x v->ZF y u->R x y H2->wpAny (model X.prog X.w) X.A (f v u) Q X.xe s2) :
  wpAny (model X.prog X.w) X.A (eval a X.env) (λv s₁=>wpAny (model X.prog X.w) X.A (eval b X.env) (λu s₂=>wpAny (model X.prog X.w) X.A (f v u) Q X.xe s₂) X.xe s₁) X.xe s:=by
 refine thn (ha pq s σ H _ I h) λv s1 ⟨x,H1,I1,r1,q1⟩=>?_
 refine thn (hb pq s1 σ H1 _ I1 q1) λu s2 ⟨y,H2,I2,r2,q2⟩=>?_
 exact hf v u s2 x y H2 I2 r1 r2 q2
theorem Jr {op:Operator}{r:R2}(ho:OpR X (binaryOp op) r) (ha:PE X a ta) (hb:PE X b tb):PE X (.BinOp a op b pos) (tOp r ta tb):=by
 intro pq s σ H Q I h;exact wpAny_BinOp (Zbp ha hb I h λv u s2 x y H2 I2 rx ry q=>ho pq s2 σ H2 x y v u Q I2 rx ry q)
theorem ZcP {op:UnaryOp}{r:V->Hp->VK->Prop}(ho:UnR X (unaryOp op) r) (ha:PE X a ta):PE X (.UnaryOp op a pos) (tUn r ta):=by
 intro pq s σ H Q I h;exact UnaryOp_ (thn (ha pq s σ H _ I h) λv s1 ⟨x,H1,I1,r1,q1⟩=>ho pq s1 σ H1 x v Q I1 r1 q1)
theorem opI {f:Value->Value->Sem Value}{C:Int->Int->Prop}{g:Int->Int->Int}
  (rule:∀(i j:Int) (t u:Tok) (s:Shared) (Q:Value->Shared->Prop) (E:Value->Shared->Prop),C i j->Q (.int (g i j) s.toks) { s with toks:=s.toks+1 }->wpAny (model X.prog X.w) X.A (f (.int i t) (.int j u)) Q E s) :
  OpR X f (rI C λi j=>.int (g i j)):=by
 intro pq s σ H x y v u Q I rx ry h;obtain⟨i,j,rfl,rfl,hc,q⟩:=h;obtain⟨t,rfl⟩:=rx;obtain⟨t',rfl⟩:=ry;exact rule i j t t' s _ _ hc ⟨.int (g i j),H,I.tok _,⟨_,rfl⟩,q⟩
theorem Zb5 {f:Value->Value->Sem Value}{g:Int->Int->Int}
  (rule:∀(i j:Int) (t u:Tok) (s:Shared) (Q:Value->Shared->Prop) (E:Value->Shared->Prop),Q (.int (g i j) s.toks) { s with toks:=s.toks+1 }->wpAny (model X.prog X.w) X.A (f (.int i t) (.int j u)) Q E s) :
  OpR X f (rI0 λi j=>.int (g i j)):=by
 intro pq s σ H x y v u Q I rx ry h;obtain⟨i,j,rfl,rfl,q⟩:=h;obtain⟨t,rfl⟩:=rx;obtain⟨t',rfl⟩:=ry;exact rule i j t t' s _ _ ⟨.int (g i j),H,I.tok _,⟨_,rfl⟩,q⟩
theorem jA {f:Value->Value->Sem Value}{g:Int->Int->Bool}
  (rule:∀(i j:Int) (t u:Tok) (s:Shared) (Q:Value->Shared->Prop) (E:Value->Shared->Prop),Q (.bool (g i j)) s->wpAny (model X.prog X.w) X.A (f (.int i t) (.int j u)) Q E s) :
  OpR X f (rI0 λi j=>.bl (g i j)):=by
 intro pq s σ H x y v u Q I rx ry h;obtain⟨i,j,rfl,rfl,q⟩:=h;obtain⟨t,rfl⟩:=rx;obtain⟨t',rfl⟩:=ry;exact rule i j t t' s _ _ ⟨.bl (g i j),H,I,rfl,q⟩
def CDiv (i j:Int):Prop:=0<j/\j<1073741824
def CPow (i j:Int):Prop:=0<=j/\j<=1000000/\i.natAbs<2^64
theorem Zbz:OpR X (binaryOp .Add) (rI0 λi j=>.int (i+j)):=Zb5 λ_ _ _ _ _ _ _ q=>add_int q
theorem ZbH:OpR X (binaryOp .Sub) (rI0 λi j=>.int (i-j)):=Zb5 λ_ _ _ _ _ _ _ q=>sub_int q
theorem jT:OpR X (binaryOp .FloorDiv) (rI CDiv λi j=>.int (i / j)):=opI λi j _ _ _ _ _ hc q=>by
 have h1:(0:Int)<j:=hc.1;have h2:j<1073741824:=hc.2;exact floordiv_int (by omega) (by rw[Int.fdiv_eq_ediv_of_nonneg i (by omega)];exact q) (.inl (PyProof.noPylong_small (by omega)))
theorem Zbj:OpR X (binaryOp .Mod) (rI (λ_ j=>0<j) λi j=>.int (i%j)):=opI λi j _ _ _ _ _ hc q=>by
 have h1:(0:Int)<j:=hc;exact mod_int' (by omega) (by rw[Int.fmod_eq_emod_of_nonneg i (by omega)];exact q)
theorem Zbr:OpR X (binaryOp .Pow) (rI CPow λi j=>.int (i^j.toNat)):=opI λ_ _ _ _ _ _ _ hc q=>pow_int_small hc.1 hc.2.1 hc.2.2 q
theorem jD:OpR X (inplaceOp .Add) (rI0 λi j=>.int (i+j)):=Zb5 λ_ _ _ _ _ _ _ q=>iadd_int q
theorem unI {f:Value->Sem Value}{g:Int->Int}
  (rule:∀(i:Int) (t:Tok) (s:Shared) (Q:Value->Shared->Prop) (E:Value->Shared->Prop),Q (.int (g i) s.toks) { s with toks:=s.toks+1 }->wpAny (model X.prog X.w) X.A (f (.int i t)) Q E s) :
  UnR X f (rU λi=>.int (g i)):=by
 intro pq s σ H x v Q I rx h;obtain⟨i,rfl,q⟩:=h;obtain⟨t,rfl⟩:=rx;exact rule i t s _ _ ⟨.int (g i),H,I.tok _,⟨_,rfl⟩,q⟩
theorem Zci:UnR X (unaryOp .USub) (rU λi=>.int (-i)):=unI λ_ _ _ _ _ q=>neg_int q
end
noncomputable def scal:V->V->Bool
 |.non,.non=>true | .non,.int _=>true | .int _,.non=>true | .non,.bl _=>true | .bl _,.non=>true | .non,.str _=>true | .str _,.non=>true
 |.int _,.int _=>true | .bl _,.bl _=>true | .str _,.str _=>true | .byt _,.byt _=>true
 |.int _,.str _=>true | .str _,.int _=>true | .bl _,.str _=>true | .str _,.bl _=>true
 |_,_=>false
def rEq:R2:=λx y H Q=>scal x y=true/\Q (.bl (decide (x=y))) H
def rNe:R2:=λx y H Q=>scal x y=true/\Q (.bl (!decide (x=y))) H
theorem xM {i j:Int}:decide (V.int i=V.int j)=(i == j):=by
 rw[P3];simp
theorem uA {i j:Bool}:decide (V.bl i=V.bl j)=(i == j):=by
 rw[P3];simp
theorem wD {i j:Str}:decide (V.str i=V.str j)=(i == j):=by
 rw[P3];simp
theorem xE {i j:Array UInt8}:decide (V.byt i=V.byt j)=(i.toList == j.toList):=by
 rw[P3];cases i;cases j;simp
section
variable {X:Cx}{a b c:Expr}{ta tb tc:TE}{pos:Pos}
theorem Zz {pq:List (Addr×Obj)}{σ:St}{H:Hp}{s:Shared}{Q:VK}{k k':Bool}(I:Inv X pq σ H s) (q:Q (.bl k) H) (e:k=k'):EP X pq σ Q (.bool k') s:=by
 subst e;exact⟨.bl k,H,I,rfl,q⟩
theorem ZcM:OpR X (compareOp .Eq) rEq:=by
 intro pq s σ H x y v u Q I rx ry h;obtain⟨hs,q⟩:=h;cases x with
 |non=>
  cases rx;cases y with
  |non=>cases ry;exact PySem.EqNone.eq_none_none (Zz I q (by simp))
  |bl j=>cases ry;exact PySem.EqNone.eq_none_bool (Zz I q (by simp))
  |int j=>obtain⟨t',rfl⟩:=ry;exact PySem.EqNone.eq_none_int (Zz I q (by simp))
  |str j=>obtain⟨t',rfl⟩:=ry;exact PySem.EqNone.eq_none_str (Zz I q (by simp))
  |_=>exact absurd (show false=true from hs) Pu
 |bl i=>
  cases rx;cases y with
  |non=>cases ry;exact PySem.EqNone.eq_bool_none (Zz I q (by simp))
  |bl j=>cases ry;exact eq_bool (Zz I q uA)
  |str j=>obtain⟨t',rfl⟩:=ry;exact PySem.EqMixed.eq_bool_str (Zz I q (by simp))
  |_=>exact absurd (show false=true from hs) Pu
 |int i=>
  obtain⟨t,rfl⟩:=rx;cases y with
  |non=>cases ry;exact PySem.EqNone.eq_int_none (Zz I q (by simp))
  |int j=>obtain⟨t',rfl⟩:=ry;exact eq_int (Zz I q xM)
  |str j=>obtain⟨t',rfl⟩:=ry;exact PySem.EqMixed.eq_int_str (Zz I q (by simp))
  |_=>exact absurd (show false=true from hs) Pu
 |str i=>
  obtain⟨t,rfl⟩:=rx;cases y with
  |non=>cases ry;exact PySem.EqNone.eq_str_none (Zz I q (by simp))
  |bl j=>cases ry;exact PySem.EqMixed.eq_str_bool (Zz I q (by simp))
  |int j=>obtain⟨t',rfl⟩:=ry;exact PySem.EqMixed.eq_str_int (Zz I q (by simp))
  |str j=>obtain⟨t',rfl⟩:=ry;exact eq_str (Zz I q wD)
  |_=>exact absurd (show false=true from hs) Pu
 |byt i=>
  obtain⟨t,rfl⟩:=rx;cases y with
  |byt j=>obtain⟨t',rfl⟩:=ry;exact PySem.W.eq_bytes (Zz I q xE)
  |_=>exact absurd (show false=true from hs) Pu
 |_=>cases y <;> exact absurd (show false=true from hs) Pu
theorem ZcS:OpR X (compareOp .NotEq) rNe:=by
 intro pq s σ H x y v u Q I rx ry h;obtain⟨hs,q⟩:=h;cases x with
 |non=>
  cases rx;cases y with
  |non=>cases ry;exact PySem.EqNone.ne_none_none (Zz I q (by simp))
  |bl j=>cases ry;exact PySem.EqNone.ne_none_bool (Zz I q (by simp))
  |int j=>obtain⟨t',rfl⟩:=ry;exact PySem.EqNone.ne_none_int (Zz I q (by simp))
  |str j=>obtain⟨t',rfl⟩:=ry;exact PySem.EqNone.ne_none_str (Zz I q (by simp))
  |_=>exact absurd (show false=true from hs) Pu
 |bl i=>
  cases rx;cases y with
  |non=>cases ry;exact PySem.EqNone.ne_bool_none (Zz I q (by simp))
  |bl j=>cases ry;exact ne_bool (Zz I q (congrArg not uA))
  |str j=>obtain⟨t',rfl⟩:=ry;exact PySem.EqMixed.ne_bool_str (Zz I q (by simp))
  |_=>exact absurd (show false=true from hs) Pu
 |int i=>
  obtain⟨t,rfl⟩:=rx;cases y with
  |non=>cases ry;exact PySem.EqNone.ne_int_none (Zz I q (by simp))
  |int j=>obtain⟨t',rfl⟩:=ry;exact ne_int (Zz I q (congrArg not xM))
  |str j=>obtain⟨t',rfl⟩:=ry;exact PySem.EqMixed.ne_int_str (Zz I q (by simp))
  |_=>exact absurd (show false=true from hs) Pu
 |str i=>
  obtain⟨t,rfl⟩:=rx;cases y with
  |non=>cases ry;exact PySem.EqNone.ne_str_none (Zz I q (by simp))
  |bl j=>cases ry;exact PySem.EqMixed.ne_str_bool (Zz I q (by simp))
  |int j=>obtain⟨t',rfl⟩:=ry;exact PySem.EqMixed.ne_str_int (Zz I q (by simp))
  |str j=>obtain⟨t',rfl⟩:=ry;exact ne_str (Zz I q (congrArg not wD))
  |_=>exact absurd (show false=true from hs) Pu
 |byt i=>
  obtain⟨t,rfl⟩:=rx;cases y with
  |byt j=>obtain⟨t',rfl⟩:=ry;exact PySem.W.ne_bytes (Zz I q (congrArg not xE))
  |_=>exact absurd (show false=true from hs) Pu
 |_=>cases y <;> exact absurd (show false=true from hs) Pu
theorem Zc0:OpR X (compareOp .Lt) (rI0 λi j=>.bl (decide (i<j))):=jA λ_ _ _ _ _ _ _ q=>lt_int q
theorem ZcX:OpR X (compareOp .LtE) (rI0 λi j=>.bl (decide (i<=j))):=jA λ_ _ _ _ _ _ _ q=>le_int q
theorem Zc4:OpR X (compareOp .Gt) (rI0 λi j=>.bl (decide (j<i))):=jA λ_ _ _ _ _ _ _ q=>gt_int q
theorem Zcv:OpR X (compareOp .GtE) (rI0 λi j=>.bl (decide (j<=i))):=jA λ_ _ _ _ _ _ _ q=>ge_int q
theorem Zb1:OpR X (compareOp .Is) (λx y H Q=>y=.non/\Q (.bl (decide (x=.non))) H):=by
 intro pq s σ H x y v u Q I rx ry h;obtain⟨rfl,q⟩:=h;cases ry;refine is_none_gen (Zz I q ?_);cases x <;> first
  |(cases rx;rfl)
  |(obtain⟨t,rfl⟩:=rx;rfl)
theorem ZaA:OpR X (compareOp .IsNot) (λx y H Q=>y=.non/\Q (.bl (!decide (x=.non))) H):=by
 intro pq s σ H x y v u Q I rx ry h;obtain⟨rfl,q⟩:=h;cases ry;refine isnot_none_gen (Zz I q ?_);cases x <;> first
  |(cases rx;rfl)
  |(obtain⟨t,rfl⟩:=rx;rfl)
theorem OpR.or {f:Value->Value->Sem Value}{r r':R2}(h:OpR X f r) (h':OpR X f r'):OpR X f (λx y H Q=>r x y H Q\/r' x y H Q):=by
 intro pq s σ H x y v u Q I rx ry q;rcases q with q | q
 ·exact h pq s σ H x y v u Q I rx ry q
 ·exact h' pq s σ H x y v u Q I rx ry q
theorem nomark (b:Expr) {op:CmpOp}(h:op≠.In:=by decide) (h2:op≠.NotIn:=by decide):behindInMarks op b=false:=by
 have e1:(op == CmpOp.In)=false:=by cases op <;> first | rfl | exact absurd rfl h
 have e2:(op == CmpOp.NotIn)=false:=by cases op <;> first | rfl | exact absurd rfl h2
 cases b <;> simp[behindInMarks,e1,e2]
theorem Zay {op:CmpOp}{r:R2}(ho:OpR X (compareOp op) r) (ha:PE X a ta) (hb:PE X b tb) (hm:behindInMarks op b=false):PE X (.Compare a [op] [b] pos) (tOp r ta tb):=by
 intro pq s σ H Q I h;exact wpAny_Compare1 (Zbp ha hb I h λv u s2 x y H2 I2 rx ry q=>ho pq s2 σ H2 x y v u Q I2 rx ry q) hm
def ZcY (t:TE):TT:=λσ H Q=>t σ H λx H'=>∃k,x=.bl k/\Q k H'
theorem jx {op:CmpOp}{r:R2}(ho:OpR X (compareOp op) r) (ha:PE X a ta) (hb:PE X b tb) (hm:behindInMarks op b=false):PT X (.Compare a [op] [b] pos) (ZcY (tOp r ta tb)):=by
 intro pq s σ H Q I h;refine wpAny_isTrue_Compare1 (thn (ha pq s σ H _ I h) λv s1 ⟨x,H1,I1,r1,q1⟩=>thn (hb pq s1 σ H1 _ I1 q1) λu s2 ⟨y,H2,I2,r2,q2⟩=>
  thn (ho pq s2 σ H2 x y v u _ I2 r1 r2 q2) λc s3 ⟨z,H3,I3,r3,k,e,q3⟩=>?_) hm
 subst e;cases r3;exact Kn ⟨H3,I3,q3⟩
def ZbU (r r':R2) (ta tb tc:TE):TE:=λσ H Q=>ta σ H λx H1=>tb σ H1 λy H2=>r x y H2 λz H3=>∃k,z=.bl k/\
 (if k=true then tc σ H3 λw' H4=>r' y w' H4 Q else Q (.bl false) H3)
theorem jp {op op':CmpOp}{r r':R2}(ho:OpR X (compareOp op) r) (ho':OpR X (compareOp op') r') (ha:PE X a ta) (hb:PE X b tb) (hc:PE X c tc)
  (hm:lastMarks [op,op'] [b,c]=false:=by with_unfolding_all rfl):PE X (.Compare a [op,op'] [b,c] pos) (ZbU r r' ta tb tc):=by
 intro pq s σ H Q I h;refine Compare_chain (thn (ha pq s σ H _ I h) λv s1 ⟨x,H1,I1,r1,q1⟩=>chain_link (thn (hb pq s1 σ H1 _ I1 q1) λu s2 ⟨y,H2,I2,r2,q2⟩=>
  thn (ho pq s2 σ H2 x y v u _ I2 r1 r2 q2) λd s3 ⟨z,H3,I3,r3,k,e,q3⟩=>?_)) hm
 subst e;cases r3;refine Kn ?_;cases k with
 |false=>exact ite_ff ⟨.bl false,H3,I3,rfl,q3⟩
 |true=>exact ite_tt (chain_last (thn (hc pq s3 σ H3 _ I3 q3) λw' s4 ⟨z',H4,I4,r4,q4⟩=>ho' pq s4 σ H4 y z' u w' Q I4 r2 r4 q4))
def jV (K:PySem.W.Frag) (x:V) (H:Hp) (k:Bool):Prop:=
 match x with
 |.non=>k=false
 |.bl b=>k=b
 |.int i=>k=(i != 0)
 |.str y=>y.length<=sizeLine/\k=((y.length:Int) != 0)
 |.byt y=>y.size<=sizeLine/\k=((y.size:Int) != 0)
 |.ref p=>(∃xs,SqL K H p xs/\k = !xs.isEmpty)\/(∃xs,SqT K H p xs/\k = !xs.isEmpty)\/∃kvs,H p=some (.dK kvs)/\k = !kvs.isEmpty
 |_=>False
theorem yj {κ:Type}{kvs:List (κ×V)}{vs:List (κ×Value)}(r:KV kvs vs):(!vs.isEmpty) = !kvs.isEmpty:=by
 cases r <;> rfl
theorem Qq {xs:List V}{its:List Value}(r:Vals xs its):(!its.toArray.isEmpty) = !xs.isEmpty:=by
 cases r <;> simp
theorem line63:(sizeLine:Nat)<2^63:=by rw[NC];decide
theorem ud:Zdk X (λx H Q=>∃k,jV X.K x H k/\Q k H):=by
 intro pq s σ H x v Q I rx h;obtain⟨k,e,q⟩:=h;have hl:=line63;have hs:sizeLine=16777216:=NC;cases x with
 |non=>
  cases rx;have e':k=false:=e;subst e';exact truthy_none ⟨H,I,q⟩
 |bl b=>
  cases rx;have e':k=b:=e;subst e';exact Kn ⟨H,I,q⟩
 |int i=>
  obtain⟨t,rfl⟩:=rx;have e':k=(i != 0):=e;subst e';exact PySem.P.truthy_int ⟨H,I,q⟩
 |str y=>
  obtain⟨t,rfl⟩:=rx;obtain⟨hy,e'⟩:y.length<=sizeLine/\k=((y.length:Int) != 0):=e;subst e';exact PySem.P.truthy_str (by omega) ⟨H,I.tok _,q⟩
 |byt y=>
  obtain⟨t,rfl⟩:=rx;obtain⟨hy,e'⟩:y.size<=sizeLine/\k=((y.size:Int) != 0):=e;subst e';exact PySem.W.truthy_bytes (by omega) ⟨H,I.tok _,q⟩
 |ref p=>
  cases rx;have e':(∃xs,SqL X.K H p xs/\k = !xs.isEmpty)\/(∃xs,SqT X.K H p xs/\k = !xs.isEmpty)\/∃kvs,H p=some (.dK kvs)/\k = !kvs.isEmpty:=e;rcases e' with ⟨xs,hx,e'⟩ | ⟨xs,hx,e'⟩ | ⟨kvs,hx,e'⟩
  ·subst e'
   obtain⟨its,r,pl,hz⟩:=I.list hx;have hlen:=r.length;exact wpAny_truthy_list pl.isList (by simp only[Pf];omega) ⟨H,I.tok _,by rw[Qq r];exact q⟩
  ·subst e'
   obtain⟨its,r,pl,hz⟩:=I.tuple hx;have hlen:=r.length;exact truthy_tuple pl (by simp only[Pf];omega) ⟨H,I.tok _,by rw[Qq r];exact q⟩
  ·subst e'
   obtain⟨hz,hS,vs,r,m⟩:kvs.length<=sizeLine/\(p == sysModules)=false/\∃vs,KV kvs vs/\s.heap.DictOf (Yv X.prog X.w) p vs:=I.hok p _ hx;have hlen:kvs.length=vs.length:=Paired.length r;exact wpAny_truthy_dict hS m (by omega) ⟨H,I.tok _,by rw[yj r];exact q⟩
 |_=>exact (show False from e).elim
theorem jc (ha:PE X a ta) (he:∀whole,isTrue a X.env whole=(do let v <-whole;standAt a.pos;holding [v] (truthy v))) :
  PT X a (λσ H Q=>ta σ H λx H'=>∃k,jV X.K x H' k/\Q k H'):=by
 intro pq s σ H Q I h;exact isTrue_plain (thn (ha pq s σ H _ I h) λv s1 ⟨x,H1,I1,r1,q1⟩=>ud pq s1 σ H1 x v Q I1 r1 q1) (he _)
theorem vals1 {x:V}{us:List Value}(r:Vals [x] us):∃u,us=[u]/\ZF x u:=by
 cases r with
 |cons r1 r2=>cases r2;exact⟨_,rfl,r1⟩
theorem vals2 {x y:V}{us:List Value}(r:Vals [x,y] us):∃u w',us=[u,w']/\ZF x u/\ZF y w':=by
 cases r with
 |cons r1 r2=>
  cases r2 with
  |cons r3 r4=>cases r4;exact⟨_,_,rfl,r1,r3⟩
theorem vg (hc:X.calm=true):ZT X (.builtin "max") (λxs H Q=>∃i j,xs=[.int i,.int j]/\Q (.int (if j>i then j else i)) H):=by
 intro pq s σ H xs us Q I r h;obtain⟨i,j,rfl,q⟩:=h;obtain⟨u,w',rfl,⟨t,rfl⟩,⟨t',rfl⟩⟩:=vals2 r;refine max_two_ints (I.ok.hd hc) λh' tk k=>⟨_,H,I.kept k,?_,q⟩
 by_cases hj:j>i
 ·rw[Pg hj,Pg hj];exact⟨_,rfl⟩
 ·rw[Pi hj,Pi hj];exact⟨_,rfl⟩
theorem wS (hc:X.calm=true):ZT X (.builtin "min") (λxs H Q=>∃i j,xs=[.int i,.int j]/\Q (.int (if j<i then j else i)) H):=by
 intro pq s σ H xs us Q I r h;obtain⟨i,j,rfl,q⟩:=h;obtain⟨u,w',rfl,⟨t,rfl⟩,⟨t',rfl⟩⟩:=vals2 r;refine min_two_ints (I.ok.hd hc) λh' tk k=>⟨_,H,I.kept k,?_,q⟩
 by_cases hj:j<i
 ·rw[Pg hj,Pg hj];exact⟨_,rfl⟩
 ·rw[Pi hj,Pi hj];exact⟨_,rfl⟩
end
structure ObjM (h:Heap) (x dx C:Addr) (mA:Str->Option Value):Prop where
 obj:h.get? x=some (PySem.W.instObj C dx)
 ns:h.Ns1 dx mA
 ne:dx≠x
theorem vF {h:Heap}{dx:Addr}{mA:Str->Option Value}(n:h.Ns1 dx mA):∃od,h.get? dx=some od/\∀name,PySem.W.lookIn name od=some (mA name):=by
 obtain⟨o,es,ep,ho,hd,hk,_,hm⟩:=n;refine⟨o,ho,λname=>?_⟩
 have e:=hm name;unfold nsFind findBy at e;rw[<-Array.find?_toList] at e;unfold PySem.W.lookIn;rw[hd]
 dsimp only
 split
 ·rename_i y q
  rw[q] at e;exact congrArg some e
 ·rename_i q
  rw[q] at e;have a:es.toList.any (·.refKey)=false:=by
   rw[List.any_eq_false];intro y hy;obtain⟨z,t,hkey⟩:=hk y (Array.mem_toList_iff.mp hy);simp[DictEntry.refKey,hkey]
  have a':¬es.toList.any (·.refKey)=true:=by rw[a];exact Pu
  rw[Pi a'];exact congrArg some e
theorem ObjM.look {h:Heap}{x dx C:Addr}{mA:Str->Option Value}(I:ObjM h x dx C mA):∃od,PySem.W.InstAt h x (PySem.W.instObj C dx) C (some od)/\∀name,PySem.W.lookIn name od=some (mA name):=
 let ⟨od,ho,hl⟩:=vF I.ns
 ⟨od,⟨I.obj,rfl,rfl,ho⟩,hl⟩
section
variable {P:Program}{w:World}{H H':Hp}{h h':Heap}{a C dx:Addr}{fs fs':List (Str×V)}
theorem xP (hok:HOk P w H h) (e:H a=some (.ins C dx fs)):∃mA,ObjM h a dx C mA/\(∀f,xt (fs.lookup f) (mA f))/\PySem.Within mA (fs.map (·.1))/\fs.length<=1000/\H dx=some (.own a):=by
 obtain⟨d,z,ne,ob,mA,n,r,q⟩:=(show ZZ P w H h a (.ins C dx fs) from hok a _ e)
 exact⟨mA,⟨ob,n,ne⟩,r,q,z,d⟩
end
structure Cls (K:PySem.W.Frag) (C:Addr):Prop where
 pg:PySem.W.plainGet K C Str.empty=true
 hd:PySem.W.hasDictIn K C=true
 po:PySem.W.plainOver K C=true
 sa:PySem.W.findIn K (.ref C) "__setattr__" = some (some (.builtin "object.__setattr__"))
theorem Cls.get {K:PySem.W.Frag}{C:Addr}(c:Cls K C) (f:Str):PySem.W.plainGet K C f=true:=c.pg
section
variable {X:Cx}{pq:List (Addr×Obj)}{σ:St}{H:Hp}{s:Shared}{A:Around}{E:Value->Shared->Prop}{Q:Value->Shared->Prop}{c:Value}{b:Bool}
inductive TyOf (K:PySem.W.Frag) (H:Hp):V->Value->Prop where
 |non:TyOf K H .non (.type "NoneType")
 |bl (x:Bool):TyOf K H (.bl x) (.type "bool")
 |int (i:Int):TyOf K H (.int i) (.type "int")
 |str (x:Str):TyOf K H (.str x) (.type "str")
 |flt (x:UInt64):TyOf K H (.flt x) (.type "float")
 |lst {a:Addr} {xs:List V} (e:H a=some (.lst xs)):TyOf K H (.ref a) (.type "list")
 |frz {a:Addr} {o:Obj} {xs:List V} (e:H a=some (.frz o (.lst xs))):TyOf K H (.ref a) (.type "list")
 |tup {a:Addr} {xs:List V} (e:H a=some (.tup xs)):TyOf K H (.ref a) (.type "tuple")
 |dK {a:Addr} {kvs:List (Key×V)} (e:H a=some (.dK kvs)):TyOf K H (.ref a) (.type "dict")
 |dT {a:Addr} {kvs:List (List Key×V)} (e:H a=some (.dT kvs)):TyOf K H (.ref a) (.type "dict")
 |ins {a C dx:Addr} {fs:List (Str×V)} (e:H a=some (.ins C dx fs)) (cl:Cls K C) (ha:PySem.W.findIn K (.ref C) "__class__" = some (some (.builtin "object.__class__")))
   (hn:PySem.W.specialIn K (.builtin "object.__class__") "__get__" = some (some (.builtin "getset_descriptor.__get__"))) (htk:PySem.W.takesIn K (.builtin "object.__class__")=some true)
   (hm:PySem.W.mroIn K C (.type "object")=some true):TyOf K H (.ref a) (.ref C)
theorem vC {x:V}{u t:Value}(I:Inv X pq σ H s) (rx:ZF x u) (ty:TyOf X.K H x t) (e:PySem.W.kitOne X.K t c=some b) (h:∀tk,Q (.bool b) { s with toks:=tk }) :
  wpAny (model X.prog X.w) A (call (.builtin "isinstance") [u,c]) Q E s:=by
 cases ty with
 |non=>cases (show u=Value.none from rx);exact Nt PySem.W.kitx_none I.kIn True.intro e (λz=>nomatch z) h
 |bl y=>cases (show u=Value.bool y from rx);exact Nt PySem.W.kitx_bool I.kIn True.intro e (λz=>nomatch z) h
 |int i=>obtain⟨t,q⟩:=(show ∃t,u=Value.int i t from rx);cases q;exact Nt PySem.W.kitx_int I.kIn True.intro e (λz=>nomatch z) h
 |str y=>obtain⟨t,q⟩:=(show ∃t,u=Value.str y t from rx);cases q;exact Nt PySem.W.kitx_str I.kIn True.intro e (λz=>nomatch z) h
 |flt y=>obtain⟨t,q⟩:=(show ∃t,u=Value.float y t from rx);cases q;exact Nt PySem.W.kitx_float I.kIn True.intro e (λz=>nomatch z) h
 |@lst a xs ea=>
  cases (show u=Value.ref a from rx)
  obtain⟨_,_,n,_,h1⟩:=(show ZZ X.prog X.w H s.heap a (.lst xs) from I.hok a _ ea)
  exact Nt KL I.kIn ⟨_,h1,rfl⟩ e (λz=>nomatch z) h
 |@frz a ob xs ea=>
  cases (show u=Value.ref a from rx)
  obtain⟨_,_,_,n,_,h1⟩:=(show ZZ X.prog X.w H s.heap a (.frz ob (.lst xs)) from I.hok a _ ea)
  exact Nt KL I.kIn ⟨_,h1,rfl⟩ e (λz=>nomatch z) h
 |@tup a xs ea=>
  cases (show u=Value.ref a from rx)
  obtain⟨_,_,_,p⟩:=(show ZZ X.prog X.w H s.heap a (.tup xs) from I.hok a _ ea)
  obtain⟨o,h1,h2,_⟩:=p;exact Nt PySem.W.kitx_tuple I.kIn ⟨o,h1,h2⟩ e (λz=>nomatch z) h
 |@dK a kvs ea=>
  cases (show u=Value.ref a from rx)
  obtain⟨_,_,vs,_,p⟩:=(show ZZ X.prog X.w H s.heap a (.dK kvs) from I.hok a _ ea)
  obtain⟨o,es,ep,h1,h2,_⟩:=p;exact Nt KM I.kIn ⟨o,h1,h2.1⟩ e (λz=>nomatch z) h
 |@dT a kvs ea=>
  cases (show u=Value.ref a from rx)
  obtain⟨_,_,xs,_,o,es,ep,h1,h2,_⟩:=(show ZZ X.prog X.w H s.heap a (.dT kvs) from I.hok a _ ea)
  exact Nt KM I.kIn ⟨o,h1,h2.1⟩ e (λz=>nomatch z) h
 |@ins a C dx fs ea cl ha hn htk hm=>
  cases (show u=Value.ref a from rx)
  obtain⟨mA,O,_⟩:=xP I.hok ea;obtain⟨od,J,_⟩:=O.look;exact Nt (PySem.W.kitx_own (cl.get _) cl.hd ha hn htk hm) I.kIn J e (λz=>nomatch z) h
end
structure Room (k:Nat) (A:Around):Prop where
 hd:A.handled=none
 dp:A.depth+3*k+5<recursionLimit
 un:A.units+16*k+200<cLine
theorem Room.deeper {k:Nat}{A:Around}(r:Room (k+1) A) (env:Env):Room k (A.deeper env):=
 ⟨r.hd,by have:=r.dp;show A.depth+1+3*k+5<_;omega,by have:=r.un;show A.units+3+16*k+200<_;omega⟩
theorem Room.depth {k:Nat}{A:Around}(r:Room k A):A.depth<recursionLimit:=by have:=r.dp;omega
def Zdi:TA:=λ_ H Q=>Q [] H
def Zc9 (ta:TE) (tr:TA):TA:=λσ H Q=>ta σ H λx H1=>tr σ H1 λxs H2=>Q (x::xs) H2
section
variable {X:Cx}{e:Expr}{es:List Expr}{te:TE}{t:TA}{pos:Pos}
theorem Gz:PA X [] Zdi:=λ_ _ _ _ H Q I h=>Calls.spliced_nil ⟨[],H,I,.nil,h⟩
theorem XS (ha:PE X e te) (hr:PA X es t) (hs:starEach (e::es) X.env=(false,eval e X.env)::starEach es X.env:=by rfl):PA X (e::es) (Zc9 te t):=by
 intro pos pq s σ H Q I h;rw[hs];show wpAny _ _ (spliced ((false,eval e X.env)::backTo pos (starEach es X.env))) _ _ s;refine Calls.spliced_cons (thn (ha pq s σ H _ I h) λu s1 ⟨x,H1,I1,r1,q1⟩=>?_)
 exact thn (hr pos pq s1 σ H1 _ I1 q1) λus s2 ⟨xs,H2,I2,r2,q2⟩=>⟨x::xs,H2,I2,.cons r1 r2,q2⟩
def Zdl (t:TA):TE:=λσ H Q=>t σ H λxs H1=>xs.length<=sizeLine/\∀p,H1 p=none->Q (.ref p) (upd H1 p (.tup xs))
def ZdA (t:TA):TE:=λσ H Q=>t σ H λxs H1=>xs.length<=sizeLine/\∀p,H1 p=none->Q (.ref p) (upd H1 p (.lst xs))
theorem uD {x1}(h:PA X es t):PE X (.Tuple es x1 pos) (Zdl t):=by
 intro pq s σ H Q I hq;refine wpAny_Tuple_spliced (thn (h pos pq s σ H _ I hq) λus s1 ⟨xs,H1,I1,r,z,q⟩=>⟨by rw[<-r.length];exact z,?_⟩)
 have hf:H1 s1.heap.objs.size=none:=I1.hok.fresh (Pp _);refine⟨.ref s1.heap.objs.size,upd H1 s1.heap.objs.size (.tup xs),I1.laid (t':=s1.toks) (λb u e=>Ph _ e) (Pp _) ?_,rfl,q _ hf⟩
 exact⟨z,us,r,⟨_,Pz _ rfl,rfl,_,rfl⟩⟩
theorem Zcb (h:PA X es t):PE X (.List es pos) (ZdA t):=by
 intro pq s σ H Q I hq;refine wpAny_List_spliced (thn (h pos pq s σ H _ I hq) λus s1 ⟨xs,H1,I1,r,z,q⟩=>⟨by rw[<-r.length];exact z,?_⟩)
 have hf:H1 s1.heap.objs.size=none:=I1.hok.fresh (Pp _);refine⟨.ref s1.heap.objs.size,upd H1 s1.heap.objs.size (.lst xs),I1.laid (t':=s1.toks) (λb u e=>Ph _ e) (Pp _) ?_,rfl,q _ hf⟩
 exact⟨z,us,0,r,Pz _ rfl⟩
end
abbrev Sp:=List V->Hp->VK->XK->Prop
abbrev CXT:=List Env->Hp->Shared->XK->Value->Shared->Prop
structure Env0 (P:Program) (w:World) (K:PySem.W.Frag) (mg:Str->Option Value) (base:Heap) (A:Around) (outer:List Env) (s:Shared) (H:Hp):Prop where
 frames:A.frames=some outer
 mod:Mod K mg base
 bs:∀b o,base.get? b=some o->s.heap.get? b=some o/\H b=none
 bsz:base.objs.size<=s.heap.objs.size
 funs:s.heap.FunFrames base outer
 frf:∀b∈frs outer,H b=none
 hok:HOk P w H s.heap
 bare:AllBare s.gens
def CE (outer:List Env) (P:Program) (w:World) (H:Hp) (s:Shared) (Q:VK) (u:Value) (s':Shared):Prop:=
 ∃v H',s'.os=s.os/\AllBare s'.gens/\Un (frs outer) [] H H' s.heap s'.heap/\HOk P w H' s'.heap/\ZF v u/\Q v H'
def CR (CX:CXT) (outer:List Env) (P:Program) (w:World) (H:Hp) (s:Shared) (Q:VK) (E:XK) (r:Result) (s':Shared):Prop:=
 match r with
 |.ok (.ret u)=>CE outer P w H s Q u s'
 |.ok _=>False
 |.error e=>CX outer H s E e s'
structure FnOk (P:Program) (w:World) (K:PySem.W.Frag) (mg:Str->Option Value) (base:Heap) (CX:CXT) (k:Nat) (f:Addr) (fd:FuncData) (ps:List Str) (sp:Sp):Prop where
 len:∀vs H Q E,sp vs H Q E->vs.length=ps.length
 run:∀(A:Around) (outer:List Env) (s:Shared) (H:Hp) (args:Args) (us:List Value) (vs:List V) (Q:VK) (E:XK),Room k A->Env0 P w K mg base A outer s H->BindsTo s fd args (ps.zip us)->Vals vs us->sp vs H Q E->
  codeAny (model P w) A (.call (.ref f) args) (CR CX outer P w H s Q E) s
section
variable {X:Cx}{pq:List (Addr×Obj)}{σ:St}{H:Hp}{s s':Shared}
theorem Inv.env0 (I:Inv X pq σ H s):Env0 X.prog X.w X.K X.mg X.base X.A X.stack s H:=
 ⟨I.ok.frames,I.ok.mod,I.bs,PY I.ok.bsz I.sz,I.stack,I.stkFree,I.hok,I.bare⟩
theorem Inv.after {Q:VK}{u:Value}(I:Inv X pq σ H s) (h:CE X.stack X.prog X.w H s Q u s'):EP X pq σ Q u s':=by
 obtain⟨v,H',os,bare,un,hok,r,q⟩:=h;obtain⟨hh,g,d,t,os'⟩:=s';obtain rfl:os'=s.os:=os;exact⟨v,H',I.call (h':=hh) (g':=g) (d':=d) (t':=t) (ch:=[]) un hok bare (λb z=>absurd z (by simp)),r,q⟩
end
def Zc5 (sp:Sp) (dvs:List V) (E:XK) (t:TA):TE:=λσ H Q=>t σ H λvs H1=>sp (vs++dvs) H1 Q E
def Binds (K:PySem.W.Frag) (fd:FuncData) (ps:List Str) (ds:List Value):Prop:=
 ∀(s:Shared) (us:List Value),K.In s.heap->(us++ds).length=ps.length->BindsTo s fd ⟨us,[]⟩ (ps.zip (us++ds))
theorem Binds.all {K:PySem.W.Frag}{fd:FuncData}{ps:List Str}(h:∀us:List Value,us.length=ps.length->bindArgs fd ⟨us,[]⟩=pure (ps.zip us)):Binds K fd ps []:=λs us _ hl=>by
 rw[N7] at hl ⊢;exact .of_eq (h us hl)
def Passes (CX:CXT) (X:Cx) (E:XK):Prop:=∀(pq:List (Addr×Obj)) (σ:St) (H:Hp) (s:Shared) (e:Value) (s':Shared),Inv X pq σ H s->CX X.stack H s E e s'->X.xe e s'
section
variable {X:Cx}{CX:CXT}{k:Nat}{f C:Addr}{fd:FuncData}{ps:List Str}{sp:Sp}{dvs:List V}{ds:List Value}{E:XK}{x m:Str}{p pos apos:Pos}{e o:Expr}{es:List Expr}{ta:TE}{t:TA}
theorem Zb7 {pq:List (Addr×Obj)}{σ:St}{H:Hp}{s:Shared}{Q:VK}{us:List Value}{vs:List V}(F:FnOk X.prog X.w X.K X.mg X.base CX k f fd ps sp) (hr:Room k X.A) (hb:Binds X.K fd ps ds) (hd:Vals dvs ds) (hx:Passes CX X E)
  (I:Inv X pq σ H s) (r:Vals vs us) (h:sp (vs++dvs) H Q E):wpAny (model X.prog X.w) X.A (call (.ref f) us) (EP X pq σ Q) X.xe s:=by
 have r2:Vals (vs++dvs) (us++ds):=r.append hd;have hl:(us++ds).length=ps.length:=by rw[<-r2.length];exact F.len _ _ _ _ h
 refine wpAny_call (codeAny_mono (F.run X.A X.stack s H ⟨us,[]⟩ (us++ds) (vs++dvs) Q E hr I.env0 (hb s us I.kIn hl) r2 h) λr s' hq=>?_)
 cases r with
 |error e=>exact hx pq σ H s e s' I hq
 |ok fl=>
  cases fl with
  |ret u=>exact I.after hq
  |next=>exact False.elim hq
  |brk=>exact False.elim hq
  |cont=>exact False.elim hq
theorem ZaG (F:FnOk X.prog X.w X.K X.mg X.base CX k f fd ps sp) (hr:Room k X.A) (hg:Gl X x) (hm:X.mg x=some (.ref f)) (hk:PySem.W.keepIn X.K (.ref f)=true) (hb:Binds X.K fd ps ds) (hd:Vals dvs ds) (hx:Passes CX X E)
  (ha:PA X (e::es) t) (hdb:(x == ("__debug__" : Str))=false:=by decide) (he:starEach (e::es) X.env=(false,eval e X.env)::starEach es X.env:=by rfl) (hpl:(backTo pos (starEach es X.env)).any (·.1)=false:=by rfl) :
  PE X (.Call (.Name x p) (e::es) [] pos) (Zc5 sp dvs E t):=by
 intro pq s σ H Q I h;refine KF (xN I hg hm ?_ hdb);refine PySem.W.callWith_K (h₀:=X.base) I.ok.mod.kin hk (thn (ha pos pq s σ H _ I h) λus s1 ⟨vs,H1,I1,r,q⟩=>⟨I1.kIn,?_⟩) he hpl
 exact Zb7 F hr hb hd hx I1 r q
end
structure FnScope (N P:List Str) (sc:Scope):Prop where
 kind:sc.kind=.function
 co:sc.isCoroutine=false
 gen:sc.isGenerator=false
 nd:N.Nodup
 pre:N.take P.length=P
 par:∀x∈P,sc.names.lookup x=some .local\/sc.names.lookup x=some .cell
 nofree:∀y∈sc.names,y.2≠.free
theorem QU {kindOf:Str->Option NameKind}{x:Str}:∀{binds:List (Str×Value)}{m:Str->Option Value},(∀v,(x,v)∉binds)->bindL kindOf binds m x=m x
 |[],_,_=>rfl
 |(n,v)::r,m,h=>by
  unfold bindL;rw[QU λw hw=>h w (Pd _ hw)]
  split
  ·have:x≠n:=by rintro rfl;exact h v Pe
   simp[this]
  ·rfl
theorem Jj {kindOf:Str->Option NameKind}{x:Str}:∀{binds:List (Str×Value)}{m:Str->Option Value},(∀v,(x,v)∉binds)->bindC kindOf binds m x=m x
 |[],_,_=>rfl
 |(n,v)::r,m,h=>by
  unfold bindC;rw[Jj λw hw=>h w (Pd _ hw)]
  split
  ·rfl
  ·have:x≠n:=by rintro rfl;exact h v Pe
   simp[this]
theorem Jy {kindOf:Str->Option NameKind}{x:Str}{v:Value}:∀{P:List Str}{vs:List Value}{i:Nat}{m:Str->Option Value},P.Nodup->P[i]? = some x->vs[i]? = some v->kindOf x=some .local->
  bindL kindOf (P.zip vs) m x=some v
 |[],_,_,_,_,h,_,_=>by simp at h
 |_::_,[],_,_,_,_,h,_=>by simp at h
 |p::P,w::vs,0,m,nd,h1,h2,hk=>by
  simp at h1 h2;subst h1;subst h2;show bindL kindOf ((p,w)::P.zip vs) m p=_;unfold bindL;rw[QU λv hv=>(NB.mp nd).1 (K7 hv).1,Pg hk]
  simp
 |p::P,w::vs,i+1,m,nd,h1,h2,hk=>by
  show bindL kindOf ((p,w)::P.zip vs) m x=_;unfold bindL;exact Jy (i:=i) (NB.mp nd).2 (by simpa using h1) (by simpa using h2) hk
theorem QJ {kindOf:Str->Option NameKind}{x:Str}{v:Value}:∀{P:List Str}{vs:List Value}{i:Nat}{m:Str->Option Value},P.Nodup->P[i]? = some x->vs[i]? = some v->kindOf x≠some .local->
  bindC kindOf (P.zip vs) m x=some v
 |[],_,_,_,_,h,_,_=>by simp at h
 |_::_,[],_,_,_,_,h,_=>by simp at h
 |p::P,w::vs,0,m,nd,h1,h2,hk=>by
  simp at h1 h2;subst h1;subst h2;show bindC kindOf ((p,w)::P.zip vs) m p=_;unfold bindC;rw[Jj λv hv=>(NB.mp nd).1 (K7 hv).1,Pi hk]
  simp
 |p::P,w::vs,i+1,m,nd,h1,h2,hk=>by
  show bindC kindOf ((p,w)::P.zip vs) m x=_;unfold bindC;exact QJ (i:=i) (NB.mp nd).2 (by simpa using h1) (by simpa using h2) hk
noncomputable def start (N:List Str) (vs:List V):St:=vs.map some++List.replicate (N.length-vs.length) none
noncomputable def GT (CX:CXT) (P:Program) (w:World) (K:PySem.W.Frag) (mg:Str->Option Value) (base:Heap) (N:List Str) (qual:Str) (scope:Scope) (f:Addr) (cd:Value) (A:Around) (outer:List Env) (s:Shared) (H:Hp) (E:XK):Cx where
 prog:=P
 w:=w
 K:=K
 mg:=mg
 base:=base
 A:=A.deeper (envOfC qual scope s.heap.objs.size f cd)
 N:=N
 s₀:=s
 H₀:=H
 env:=envOfC qual scope s.heap.objs.size f cd
 outer:=outer
 stack:=envOfC qual scope s.heap.objs.size f cd::outer
 ex:=[]
 calm:=true
 fn:=λ_=>true
 pn:=[]
 xe:=λe s'=>wpAny (model P w) (A.deeper (envOfC qual scope s.heap.objs.size f cd)) (leaving (envOfC qual scope s.heap.objs.size f cd) e) (λ_ s''=>CX outer H s E e s'') (λe' s''=>CX outer H s E e' s'') s'
theorem zQ {sc:Scope}{n:Nat}{x:Str}(h:sc.names.lookup x=some .cell):∃c,(cellsFrom n sc.names []).lookup x=some c:=by
 have q:=PySem.W.cellsFrom_some sc.names n [] (.inl h);exact NQ.mp q
theorem w6 {CX:CXT}{P:Program}{w:World}{K:PySem.W.Frag}{mg:Str->Option Value}{base:Heap}{N ps:List Str}{qual:Str}{scope:Scope}{f:Addr}{cd:Value}{A:Around}{outer:List Env}{s s1:Shared}{H:Hp}{E:XK}{us:List Value}{vs:List V}
  (S:FnScope N ps scope) (hd:A.handled=none) (e0:Env0 P w K mg base A outer s H) (hl:vs.length=ps.length) (r:Vals vs us)
  (x:InCallC s s.heap.objs.size (bindL (envOfC qual scope s.heap.objs.size f cd).kindOf (ps.zip us) λ_=>none) (cellsFrom (s.heap.objs.size+1) scope.names []) (bindC (envOfC qual scope s.heap.objs.size f cd).kindOf (ps.zip us) λ_=>none) s1) :
  Inv (GT CX P w K mg base N qual scope f cd A outer s H E) [] (start N vs) H s1:=by
 have hpl:ps.length<=N.length:=by have:=congrArg List.length S.pre;rw[Ni] at this;omega
 obtain⟨h1,tk,rfl,hk⟩:=x.done;have noA:∀b:Addr,b∉(GT CX P w K mg base N qual scope f cd A outer s H E).ex:=λb z=>absurd (show b∈([]:List Addr) from z) (by simp)
 refine⟨⟨e0.mod,S.kind,rfl,rfl,Pp _,λy z c h1 h2=>?_,λy hy=>?_,λy c _ h=>?_,λ_=>hd,Around.frames_deeper e0.frames,.inr ⟨rfl,rfl⟩,λb z=>absurd z (noA b),e0.bs,e0.bsz,λb _ _=>noA b,λb z=>absurd z (noA b),e0.funs,e0.frf⟩,
  rfl,e0.bare,Un.kept hk,⟨_,x.toInCall.ns,λi y v h1 h2 h3=>?_⟩,λy c h=>⟨_,x.cell y c h⟩,e0.hok.fresh (Pp _),λy c h=>?_,λp hp=>absurd (show p∈([]:List (Addr×Obj)) from hp) (by simp),e0.hok.kept hk,?_⟩
 ·exact name_of_addr x.apart (Kc h1) (Kc h2)
 ·have hy:scope.names.lookup y=some .cell\/scope.names.lookup y=some .free:=hy
  rcases hy with hy | hy
  ·exact zQ hy
  ·exact absurd rfl (S.nofree _ (Kc hy))
 ·exact Nat.le_of_lt (x.above y c (Kc h))
 ·have hi:i<vs.length:=by
   unfold start at h2;by_cases hi:i<vs.length
   ·exact hi
   ·rw[PU (by simpa using hi)] at h2
    rw[Nj] at h2;split at h2 <;> cases h2
  have ha:vs[i]? = some v:=by
   unfold start at h2;rw[PB (by simpa using hi),PH] at h2
   cases e:vs[i]? with
   |none=>rw[e] at h2;cases h2
   |some a=>rw[e] at h2;cases h2;rfl
  obtain⟨u,hu,rv⟩:=r.get ha;have hp:ps[i]? = some y:=by
   rw[<-S.pre,List.getElem?_take_of_lt (by omega)];exact h1
  have ndP:ps.Nodup:=by rw[<-S.pre];exact S.nd.sublist (List.take_sublist _ _)
  refine⟨u,rv,?_⟩;rcases S.par y (Kp hp) with k | k
  ·exact .inl ⟨k,Jy ndP hp hu k⟩
  ·obtain⟨c,e⟩:=zQ (n:=s.heap.objs.size+1) k
   refine .inr ⟨.inl k,c,e,?_⟩;have q:=x.cell y c e;rw[QJ ndP hp hu (by show scope.names.lookup y≠_;rw[k];decide)] at q
   exact q
 ·exact e0.hok.fresh (Nat.le_of_lt (x.above y c (Kc h)))
 ·unfold start
  show _=N.length;rw[PM,Pj,Nx];omega
theorem ZcO {CX:CXT}{P:Program}{w:World}{K:PySem.W.Frag}{mg:Str->Option Value}{base:Heap}{k:Nat}{f:Addr}{name qual:Str}{params:Arguments}{body:List Stmt}{scope:Scope}{dV kV doc pm cdv ct oc:Value}{an od:Option Addr}
  {osl:Array (Option Value)} {N ps:List Str} {sp:Sp} (lk:K.lookup f=some ⟨oc,od,.func (PySem.W.fnOf name qual params body scope dV kV doc pm an cdv ct),osl⟩) (hcd:PySem.W.codeIn K cdv qual=true) (S:FnScope N ps scope)
  (len:∀vs H Q E,sp vs H Q E->vs.length=ps.length)
  (hbody:∀(A:Around) (outer:List Env) (s:Shared) (H:Hp) (vs:List V) (Q:VK) (E:XK),Room k (A.deeper (envOfC qual scope s.heap.objs.size f cdv))->sp vs H Q E->
   ∃t,PSs (GT CX P w K mg base N qual scope f cdv A outer s H E) body t/\t { nx:=λ_ H'=>Q .non H',rt:=Q } (start N vs) H) :
  FnOk P w K mg base CX (k+1) f (PySem.W.fnOf name qual params body scope dV kV doc pm an cdv ct) ps sp:=by
 refine⟨len,λA outer s H args us vs Q E hr e0 hb r hsp=>?_⟩
 have hl:=len _ _ _ _ hsp;have KX:K.In s.heap:=e0.mod.kin.keeps λb o e=>(e0.bs b o e).1
 have lim:s.heap.NoLimit:=e0.mod.nolimit.keeps λb o e=>(e0.bs b o e).1
 have hkind:∀y∈ps.zip us,scope.names.lookup y.1=some .local\/(scope.names.lookup y.1=some .cell/\((cellsFrom (s.heap.objs.size+1) scope.names []).lookup y.1).isSome=true):=λ⟨n,v⟩ hy=>by
  rcases S.par n (K7 hy).1 with q | q
  ·exact .inl q
  ·exact .inr ⟨q,PySem.W.cellsFrom_some _ _ _ (.inl q)⟩
 refine codeAny_call_function hr.depth (KX _ _ lk) rfl S.co S.gen rfl (PySem.W.codeRec_of KX hcd) (hb _ _ _ _ ?_);refine wpAny_newFunctionEnv_cells S.kind hkind λenv he s1 x=>?_
 subst he;refine⟨lim.keeps x.toInCall.keep,codeAny_func ?_⟩;obtain⟨t,ht,hq⟩:=hbody A outer s H vs Q E (hr.deeper _) hsp;have I:Inv (GT CX P w K mg base N qual scope f cdv A outer s H E) [] (start N vs) H s1:=w6 S hr.hd e0 hl r x;refine Nq (ht [] s1 (start N vs) H _ I hq) (λfl s' hs=>?_) λe s' hs=>hs
 have fin:∀{σ':St} {H':Hp} {v:V} {u:Value},Inv (GT CX P w K mg base N qual scope f cdv A outer s H E) [] σ' H' s'->ZF v u->Q v H'->CE outer P w H s Q u s':=
  λ{σ' H' v u} J rv q=>⟨v,H',J.os,J.bare,J.base,J.hok,rv,q⟩
 cases fl with
 |ret u=>
  obtain⟨v,σ',H',J,rv,q⟩:=hs;exact fin J rv q
 |next=>
  obtain⟨σ',H',J,q⟩:=hs;exact fin (v:=V.non) (u:=Value.none) J rfl q
 |brk=>
  obtain⟨_,_,_,q⟩:=hs;exact False.elim q
 |cont=>
  obtain⟨_,_,_,q⟩:=hs;exact False.elim q
section
variable {X:Cx}{x:Str}{p pos:Pos}{e:Expr}{es:List Expr}{t:TA}{id T:String}{r:List V->Hp->VK->Prop}
def tCB (r:List V->Hp->VK->Prop) (t:TA):TE:=λσ H Q=>t σ H λvs H1=>r vs H1 Q
theorem U0 (hc:ZT X (.builtin id) r) (hg:Gl X x) (hm:X.mg x=none) (hv:bootBuiltins x=some (.builtin id)) (ha:PA X (e::es) t) (hn:x≠"__name__":=by decide) (hdb:(x == ("__debug__" : Str))=false:=by decide)
  (he:starEach (e::es) X.env=(false,eval e X.env)::starEach es X.env:=by rfl) (hpl:(backTo pos (starEach es X.env)).any (·.1)=false:=by rfl):PE X (.Call (.Name x p) (e::es) [] pos) (tCB r t):=by
 intro pq s σ H Q I h;refine KF (Xl I hg hm hv ?_ hn hdb);exact PyProof.Rows.callWith_builtin1 (thn (ha pos pq s σ H _ I h) λus s1 ⟨vs,H1,I1,r1,q1⟩=>hc pq s1 σ H1 vs us Q I1 r1 q1) he hpl
theorem vx (hc:ZT X (.type T) r) (hg:Gl X x) (hm:X.mg x=none) (hv:bootBuiltins x=some (.type T)) (ha:PA X (e::es) t) (hn:x≠"__name__":=by decide) (hdb:(x == ("__debug__" : Str))=false:=by decide)
  (he:starEach (e::es) X.env=(false,eval e X.env)::starEach es X.env:=by rfl) (hpl:(backTo pos (starEach es X.env)).any (·.1)=false:=by rfl):PE X (.Call (.Name x p) (e::es) [] pos) (tCB r t):=by
 intro pq s σ H Q I h;refine KF (Xl I hg hm hv ?_ hn hdb);exact Ng (thn (ha pos pq s σ H _ I h) λus s1 ⟨vs,H1,I1,r1,q1⟩=>hc pq s1 σ H1 vs us Q I1 r1 q1) he hpl
end
end L2
namespace HT
open PySem PyProof.Rows
section
variable {prog:Program}{w:World}{A:Around}{E:Value->Shared->Prop}{s:Shared}
theorem Zax {t b:Addr}{vs ws:List Value}{Q:Value->Shared->Prop}(ht:IsTup s.heap t vs.toArray) (hb:IsTup s.heap b ws.toArray) (hv:vs≠[])
  (h1:ws=[]->Q (.ref t) s) (h2:ws≠[]->Q (.ref s.heap.objs.size) { s with heap:=s.heap.push { cls:=.type "tuple",data:=.seq (vs++ws).toArray } })
  (hsz:vs.length+ws.length<=sizeLine):wpAny (model prog w) A (binaryOp .Add (.ref t) (.ref b)) Q E s:=by
 obtain⟨⟨cls,dd,data,sl⟩,ho,hc,n,hd⟩:=id ht;obtain⟨⟨cls2,dd2,data2,sl2⟩,ho2,hc2,n2,hd2⟩:=id hb;simp only at hc hd hc2 hd2;subst hc hd hc2 hd2;have e:vs.toArray++ws.toArray=(vs++ws).toArray:=by simp
 by_cases hw:ws=[]
 ·exact concat_meets ⟨_,ho,rfl⟩ ⟨_,ho2,rfl⟩ noFill_tuple_add seq_tuple_add KN KJ (Kz _ _)
   (tuple_addW1 t b vs.toArray ws.toArray n n2 dd dd2 sl sl2 (by simpa using hv) (by simp[hw])) ⟨ho,ho2,h1 hw⟩
 ·refine concat_meets ⟨_,ho,rfl⟩ ⟨_,ho2,rfl⟩ noFill_tuple_add seq_tuple_add KN KJ (Kz _ _)
   (tuple_addW2 t b vs.toArray ws.toArray n n2 dd dd2 sl sl2 (by simpa using hv) (by simpa using hw) (by rw[Pf,Pf];exact hsz)) ⟨ho,ho2,?_⟩
  rw[e];exact h2 hw
noncomputable def sIx (n d:Nat):Option Int->Nat
 |none=>d
 |some v=>if v<0 then (v+(n:Int)).toNat else min v.toNat n
theorem ZbF (n d:Nat) (hd:d<=n) (o:Option Int):sIx n d o<=n:=by
 cases o with
 |none=>exact hd
 |some v=>
  show (if v<0 then (v+(n:Int)).toNat else min v.toNat n)<=n
  by_cases hv:v<0
  ·rw[Pg hv];omega
  ·rw[Pi hv];exact Nat.min_le_right _ _
theorem xK (v:Int) (n d:Nat):(if v<0 then max (v+(n:Int)) 0 else min v (n:Int))=((sIx n d (some v):Nat):Int):=by
 show (if v<0 then max (v+(n:Int)) 0 else min v (n:Int))=(((if v<0 then (v+(n:Int)).toNat else min v.toNat n):Nat):Int)
 by_cases hv:v<0
 ·simp only[Pg hv];omega
 ·simp only[Pi hv];omega
theorem yL (lo hi:Option Int) (n:Nat):Builtin.Slice.sliceAdjust lo hi 1 (n:Int)=(((sIx n 0 lo:Nat):Int),((sIx n n hi:Nat):Int)):=by
 have h1:¬((1:Int)<0):=by omega
 unfold Builtin.Slice.sliceAdjust;simp only[h1,Nz];refine Prod.ext ?_ ?_
 ·cases lo with
  |none=>rfl
  |some v=>exact xK v n 0
 ·cases hi with
  |none=>rfl
  |some v=>exact xK v n n
theorem yI (i j:Nat):Builtin.Slice.slicePlaces (i:Int) (j:Int) 1=j-i:=by
 unfold Builtin.Slice.slicePlaces;have h1:(1:Int)>0:=by omega
 simp only[h1,NS,Int.ediv_one];split <;> omega
theorem Qe {v:Value}{o:Option Int}{Q:Option Int->Shared->Prop}(p:IsPart v o) (h:Q o s):wpAny (model prog w) A (Builtin.Slice.slicePartIndex v) Q E s:=by
 cases p with
 |none=>exact slicePart_none h
 |int i t=>exact slicePart_int h
theorem Xy {sl:Addr}{vl vu:Value}{lo hi:Option Int}{n:Nat}{Q:Int×Int×Nat->Shared->Prop}(hs:s.heap.IsSliceOf sl vl vu .none) (pl:IsPart vl lo) (pu:IsPart vu hi)
  (h:Q (((sIx n 0 lo:Nat):Int),1,sIx n n hi-sIx n 0 lo) s):wpAny (model prog w) A (Builtin.Slice.sliceApplied (.ref sl) (pure (n:Int))) Q E s:=by
 obtain⟨os,hos,hcs,hds⟩:=id hs;unfold Builtin.Slice.sliceApplied Builtin.Slice.sliceFields;refine Pa (Pa (Nm hos hds (x:=vl) rfl (Pa (Nm hos hds (x:=vu) rfl (Pa (Nm hos hds (x:=.none) rfl (Pl ?_)))))));refine Pa (slicePart_none ?_);show wpAny _ _ (if ((1:Int) == 0)=true then _ else _) _ _ s
 rw[Pi (by decide)]
 refine Pa (Qe pl (Pa (Qe pu (Pa (Pl ?_)))));show wpAny _ _ (match Builtin.Slice.sliceAdjust lo hi 1 (n:Int) with | (lo,hi)=>pure (lo,(1:Int),Builtin.Slice.slicePlaces lo hi 1)) _ _ s
 rw[yL lo hi n];show wpAny _ _ (pure (((sIx n 0 lo:Nat):Int),(1:Int),Builtin.Slice.slicePlaces ((sIx n 0 lo:Nat):Int) ((sIx n n hi:Nat):Int) 1)) _ _ s;rw[yI];exact Pl h
theorem qf (xs:Array Value) (i k:Nat):((List.range k).filterMap λ(m:Nat)=>xs[((i:Int)+(m:Int)*1).toNat]?).toArray=((xs.toList.drop i).take k).toArray:=by
 have e:(λ(m:Nat)=>xs[((i:Int)+(m:Int)*1).toNat]?)=λm=>xs[i+m]?:=by
  funext m
  have:((i:Int)+(m:Int)*1).toNat=i+m:=by omega
  rw[this]
 rw[e];have:=pick_run xs i k;rw[List.filterMap_map] at this;have e2:((λx=>xs[x]?)∘λx=>i+x)=λm=>xs[i+m]?:=rfl
 rw[e2] at this;rw[this]
theorem Vm {t sl:Addr}{items:Array Value}{vl vu:Value}{lo hi:Option Int}{Q:Value->Shared->Prop}(ht:IsTup s.heap t items) (hs:s.heap.IsSliceOf sl vl vu .none) (pl:IsPart vl lo) (pu:IsPart vu hi)
  (hw:¬(sIx items.size 0 lo=0/\sIx items.size items.size hi=items.size))
  (h:Q (.ref s.heap.objs.size) { s with heap:=s.heap.push { cls:=.type "tuple",data:=.seq ((items.toList.drop (sIx items.size 0 lo)).take (sIx items.size items.size hi-sIx items.size 0 lo)).toArray } })
  (hsz:items.size<=sizeLine):wpAny (model prog w) A (getItem (.ref t) (.ref sl)) Q E s:=by
 have htake:sizeOk (.seq ((items.toList.drop (sIx items.size 0 lo)).take (sIx items.size items.size hi-sIx items.size 0 lo)).toArray):=by
  show ((items.toList.drop (sIx items.size 0 lo)).take (sIx items.size items.size hi-sIx items.size 0 lo)).toArray.size<=sizeLine;rw[Pf,Ni,ND,NK];omega
 have hj:sIx items.size items.size hi<=items.size:=ZbF _ _ (Pp _) hi;obtain⟨os,hos,hcs,hds⟩:=id hs;have hTs:s.TypeIs (.ref sl) "slice":=⟨os,hos,hcs⟩;unfold getItem
 try with_reducible refine Nl ?_
 first | refine Pa (Pl ?_) | skip
 refine Pa (wpAny_sequenceKey ht.typeIs (by decide) ?_)
 refine Pa (NE (name:=Str.ofString "__getitem__") ht.typeIs NM
  (NO NM ht.typeIs entry_tuple_getitem ?_ (args_tuple_getitem _ _)))
 show wpAny _ _ (Builtin.Tuple.tupleItemsOf (.ref t) >>= _) _ _ s;refine Pa (tupleItemsOf_ ht ?_);refine Pa (wpAny_typeOf hTs ?_);rw[Pg (by decide)]
 refine Pa (Xy hs pl pu ?_);have hno:¬((((sIx items.size 0 lo:Nat):Int) == 0&&(1:Int) == 1&&(sIx items.size items.size hi-sIx items.size 0 lo) == items.size)=true):=by
  intro q;rw[Py,Py] at q;have q1:((sIx items.size 0 lo:Nat):Int)=0:=eq_of_beq q.1.1;have q2:sIx items.size items.size hi-sIx items.size 0 lo=items.size:=eq_of_beq q.2;exact hw ⟨by omega,by omega⟩
 show wpAny _ _ (if (((sIx items.size 0 lo:Nat):Int) == 0&&(1:Int) == 1&&(sIx items.size items.size hi-sIx items.size 0 lo) == items.size)=true then _ else _) _ _ s
 rw[Pi hno,qf]
 first
  |exact Pa (m:=Builtin.Tuple.tupleExact _) (Nw (Pl ⟨_,rfl,Pl h⟩) htake)
  |exact Pa (m:=Builtin.Tuple.tupleExact _) (Nw (Pa (Pl (Pl ⟨_,rfl,Pl h⟩))) htake)
  |exact Pa (Pa (m:=Builtin.Tuple.tupleExact _) (Nw (Pl (Pl ⟨_,rfl,Pl h⟩)) htake))
  |exact Pa (Pa (m:=Builtin.Tuple.tupleExact _) (Nw (Pl ⟨_,rfl,Pl h⟩) htake))
end
end HT
namespace L2
open PySem PySem.Spec PyProof.Rows
abbrev TO:=St->Hp->(Option Int->Hp->Prop)->Prop
def PO (X:Cx) (e:Option Expr) (t:TO):Prop:=
 ∀(pq:List (Addr×Obj)) (s:Shared) (σ:St) (H:Hp) (Q:Option Int->Hp->Prop),Inv X pq σ H s->t σ H Q->
  wpAny (model X.prog X.w) X.A (evalPart e X.env) (λu s'=>∃o H',Inv X pq σ H' s'/\IsPart u o/\Q o H') X.xe s
def jL:TO:=λ_ H Q=>Q none H
def Zcz (t:TE):TO:=λσ H Q=>t σ H λx H1=>∃i,x=.int i/\Q (some i) H1
section
variable {X:Cx}{e:Expr}{te:TE}{lo hi:Option Expr}{tl th:TO}{pos p2:Pos}
theorem ZaK:PO X none jL:=by
 intro pq s σ H Q I h;rw[evalPart_none];exact Pl ⟨none,H,I,.none,h⟩
theorem Z4 (h:PE X e te):PO X (some e) (Zcz te):=by
 intro pq s σ H Q I hw;rw[evalPart_some];refine thn (h pq s σ H _ I hw) λu s1 ⟨x,H1,I1,r1,q1⟩=>?_
 obtain⟨i,rfl,q⟩:=q1;obtain⟨t,rfl⟩:=r1;exact⟨some i,H1,I1,.int i t,q⟩
def SlR (X:Cx) (r:V->Option Int->Option Int->Hp->VK->Prop):Prop:=
 ∀(pq:List (Addr×Obj)) (s:Shared) (σ:St) (H:Hp) (x:V) (v vl vu:Value) (lo hi:Option Int) (sl:Addr) (Q:VK),Inv X pq σ H s->ZF x v->s.heap.IsSliceOf sl vl vu .none->IsPart vl lo->IsPart vu hi->r x lo hi H Q->
  ∃T id,typeLookup (.type T) "__getitem__" = pure (some (.builtin id))/\s.TypeIs v T/\wpAny (model X.prog X.w) X.A (getItem v (.ref sl)) (EP X pq σ Q) X.xe s
theorem SlR.or {r r':V->Option Int->Option Int->Hp->VK->Prop}(h:SlR X r) (h':SlR X r'):SlR X (λx lo hi H Q=>r x lo hi H Q\/r' x lo hi H Q):=by
 intro pq s σ H x v vl vu lo hi sl Q I rx hs pl pu q;rcases q with q | q
 ·exact h pq s σ H x v vl vu lo hi sl Q I rx hs pl pu q
 ·exact h' pq s σ H x v vl vu lo hi sl Q I rx hs pl pu q
def tSl (r:V->Option Int->Option Int->Hp->VK->Prop) (te:TE) (tl th:TO):TE:=λσ H Q=>te σ H λx H1=>tl σ H1 λl H2=>th σ H2 λu H3=>r x l u H3 Q
theorem jg {r:V->Option Int->Option Int->Hp->VK->Prop}(hr:SlR X r) (he:PE X e te) (hl:PO X lo tl) (hu:PO X hi th):PE X (.Subscript e (.Slice lo hi none p2) pos) (tSl r te tl th):=by
 intro pq s σ H Q I h;refine Subscript_ (thn (he pq s σ H _ I h) λv s1 ⟨x,H1,I1,r1,q1⟩=>?_)
 refine wpAny_Slice (thn (hl pq s1 σ H1 _ I1 q1) λvl s2 ⟨l,H2,I2,pl,q2⟩=>thn (hu pq s2 σ H2 _ I2 q2) λvu s3 ⟨u,H3,I3,pu,q3⟩=>?_)
 rw[evalPart_none];refine Pl ?_;have I4:Inv X pq σ H3 { s3 with heap:=s3.heap.push { cls:=.type "slice",data:=.fields #[vl,vu,.none] } }:=I3.kept (t':=s3.toks) λb ob q=>Ph _ q
 obtain⟨T,id,hT,ht,hg⟩:=hr pq { s3 with heap:=s3.heap.push { cls:=.type "slice",data:=.fields #[vl,vu,.none] } } σ H3 x v vl vu l u s3.heap.objs.size Q I4 r1 (Heap.IsSliceOf.new ..) pl pu q3
 show wpAny (model X.prog X.w) X.A (subscriptTail e (.Slice lo hi none p2) v (.ref s3.heap.objs.size)) (EP X pq σ Q) X.xe { s3 with heap:=s3.heap.push { cls:=.type "slice",data:=.fields #[vl,vu,.none] } }
 exact tail_any (ops:=[.ref s3.heap.objs.size,v]) ht hT hg (by with_unfolding_all rfl)
noncomputable def Xo (xs:List V) (lo hi:Option Int):List V:=(xs.drop (HT.sIx xs.length 0 lo)).take (HT.sIx xs.length xs.length hi-HT.sIx xs.length 0 lo)
theorem V6 (xs:List V) (lo hi:Option Int):(Xo xs lo hi).length<=xs.length:=by
 unfold Xo;rw[Ni,ND];omega
noncomputable def Zde (K:PySem.W.Frag):V->Option Int->Option Int->Hp->VK->Prop:=λx lo hi H Q=>∃a xs,x=.ref a/\SqT K H a xs/\
 ¬(HT.sIx xs.length 0 lo=0/\HT.sIx xs.length xs.length hi=xs.length)/\∀p,H p=none->Q (.ref p) (upd H p (.tup (Xo xs lo hi)))
theorem Zb2:SlR X (Zde X.K):=by
 intro pq s σ H x v vl vu lo hi sl Q I rx hs pl pu h;obtain⟨a,xs,rfl,hx,hw,q⟩:=h;cases rx;obtain⟨its,r,ht,hz⟩:=I.tuple hx;have hlen:its.toArray.size=xs.length:=by rw[Pf];exact r.length.symm
 refine⟨"tuple",_,PyProof.Rows.slot_tuple_getitem.lookup,ht.typeIs,?_⟩;refine HT.Vm ht hs pl pu (by rw[hlen];exact hw) ?_ (by rw[hlen];exact hz)
 rw[hlen];refine⟨.ref s.heap.objs.size,_,I.laid (t':=s.toks) (o:=.tup (Xo xs lo hi)) (λb ob q=>Ph _ q) (Pp _) ?_,rfl,q _ (I.hok.fresh (Pp _))⟩
 exact⟨PY (V6 xs lo hi) hz,_,(r.drop (HT.sIx xs.length 0 lo)).take (HT.sIx xs.length xs.length hi-HT.sIx xs.length 0 lo),Tg _ _⟩
def Za5 (K:PySem.W.Frag):R2:=λx y H Q=>∃a b xs ys,x=.ref a/\y=.ref b/\SqT K H a xs/\SqT K H b ys/\xs≠[]/\xs.length+ys.length<=sizeLine/\
 (ys=[]->Q (.ref a) H)/\(ys≠[]->∀p,H p=none->Q (.ref p) (upd H p (.tup (xs++ys))))
theorem Vals.nil_iff {xs:List V}{us:List Value}(r:Vals xs us):us=[]↔xs=[]:=by
 cases r with
 |nil=>simp
 |cons _ _=>simp
theorem jI:OpR X (binaryOp .Add) (Za5 X.K):=by
 intro pq s σ H x y v u Q I rx ry h;obtain⟨a,b,xs,ys,rfl,rfl,ha,hb,hx,hz,q1,q2⟩:=h;cases rx;cases ry;obtain⟨its,r1,p1,_⟩:=I.tuple ha;obtain⟨its2,r2,p2,_⟩:=I.tuple hb;refine HT.Zax p1 p2 (λz=>hx (r1.nil_iff.mp z)) (λz=>⟨.ref a,H,I,rfl,q1 (r2.nil_iff.mp z)⟩) (λz=>?_) (by rw[<-r1.length,<-r2.length];exact hz)
 refine⟨.ref s.heap.objs.size,_,I.laid (t':=s.toks) (o:=.tup (xs++ys)) (λb ob q=>Ph _ q) (Pp _) ?_,rfl,q2 (λw=>z (r2.nil_iff.mpr w)) _ (I.hok.fresh (Pp _))⟩
 exact⟨by rw[PM];exact hz,_,r1.append r2,Tg _ _⟩
end
noncomputable def ixN (n:Nat) (i:Int):Option Nat:=if 0<=i then (if i<n then some i.toNat else none) else if -(n:Int)<=i then some (i+n).toNat else none
noncomputable def atI {α:Type} (xs:List α) (i:Int):Option α:=(ixN xs.length i).bind λj=>xs[j]?
theorem wG {n:Nat}{i:Int}{j:Nat}(h:ixN n i=some j):seqIndex? i n=some j/\j<n/\-(n:Int)<=i/\i<n:=by
 unfold ixN at h;by_cases h0:0<=i
 ·rw[Pg h0] at h
  by_cases h1:i<n
  ·rw[Pg h1] at h
   have e:i.toNat=j:=Pb h;exact⟨by rw[seqIndex_of h0 h1,e],by omega,by omega,h1⟩
  ·rw[Pi h1] at h;cases h
 ·rw[Pi h0] at h
  by_cases h1:-(n:Int)<=i
  ·rw[Pg h1] at h
   have e:(i+n).toNat=j:=Pb h;exact⟨by rw[seqIndex_neg (by omega) h1,e],by omega,h1,by omega⟩
  ·rw[Pi h1] at h;cases h
theorem xZ {α:Type}{xs:List α}{i:Int}{v:α}(h:atI xs i=some v):∃j,seqIndex? i xs.length=some j/\xs[j]? = some v/\j<xs.length/\-(xs.length:Int)<=i/\i<xs.length:=by
 unfold atI at h;cases e:ixN xs.length i with
 |none=>rw[e] at h;cases h
 |some j=>
  rw[e] at h;obtain⟨h1,h2,h3,h4⟩:=wG e;exact⟨j,h1,h,h2,h3,h4⟩
def xH (b:Expr):Prop:=∀o i,subscripted b false o i=operate [o,i] (getItem o i)
def IxR (X:Cx) (r:R2):Prop:=
 ∀(value slice:Expr) (pq:List (Addr×Obj)) (s:Shared) (σ:St) (H:Hp) (x y:V) (v u:Value) (Q:VK),Inv X pq σ H s->ZF x v->ZF y u->r x y H Q->
  subscripted slice false v u=operate [v,u] (getItem v u)->wpAny (model X.prog X.w) X.A (subscriptTail value slice v u) (EP X pq σ Q) X.xe s
def MtR (X:Cx) (id:String) (r:V->List V->Hp->VK->Prop):Prop:=
 ∀(pq:List (Addr×Obj)) (s:Shared) (σ:St) (H:Hp) (x:V) (xs:List V) (v:Value) (us:List Value) (Q:VK),Inv X pq σ H s->ZF x v->Vals xs us->r x xs H Q->
  wpAny (model X.prog X.w) X.A (call (.builtin id) (v::us)) (EP X pq σ Q) X.xe s
section
variable {X:Cx}{a b:Expr}{ta tb:TE}{pos:Pos}
theorem IxR.or {r r':R2}(h:IxR X r) (h':IxR X r'):IxR X (λx y H Q=>r x y H Q\/r' x y H Q):=by
 intro value slice pq s σ H x y v u Q I rx ry q hs;rcases q with q | q
 ·exact h value slice pq s σ H x y v u Q I rx ry q hs
 ·exact h' value slice pq s σ H x y v u Q I rx ry q hs
theorem Zc2 {r:R2}(hr:IxR X r) (ha:PE X a ta) (hb:PE X b tb) (hs:xH b):PE X (.Subscript a b pos) (tOp r ta tb):=by
 intro pq s σ H Q I h;exact Subscript_ (Zbp ha hb I h λv u s2 x y H2 I2 rx ry q=>hr a b pq s2 σ H2 x y v u Q I2 rx ry q (hs _ _))
def Zdw (K:PySem.W.Frag):R2:=λx y H Q=>∃p xs i v,x=.ref p/\y=.int i/\SqL K H p xs/\atI xs i=some v/\Q v H
def Zdm (K:PySem.W.Frag):R2:=λx y H Q=>∃p xs i v,x=.ref p/\y=.int i/\SqT K H p xs/\atI xs i=some v/\Q v H
theorem Zai:IxR X (Zdw X.K):=by
 intro value slice pq s σ H x y v u Q I rx ry h hs;obtain⟨p,xs,i,z,rfl,rfl,hq,he,q⟩:=h;cases rx;obtain⟨t,rfl⟩:=ry;obtain⟨its,r,pl,hz⟩:=I.list hq;obtain⟨j,h1,h2,h3,h4,h5⟩:=xZ he;obtain⟨w,ew,rw'⟩:=r.get h2;have hl:=r.length;have hn:=line63;have fin:EP X pq σ Q w s:=⟨z,H,I,rw',q⟩;by_cases h0:0<=i
 ·have hj:i.toNat=j:=by
   rw[seqIndex_of h0 h5] at h1;exact Pb h1
  exact item_listR pl.isList h0 (by omega) (by rw[hj];simpa using ew) fin hs
 ·have hj:(i+(its.toArray.size:Int)).toNat=j:=by
   rw[seqIndex_neg (by omega) h4] at h1
   rw[Pf,<-hl];exact Pb h1
  exact subscriptTail_builtinR (x:=w) pl.isList.typeIs slot_list_getitem.lookup
   (wpAny_getItem_list_neg (Q:=λr s'=>r=w/\EP X pq σ Q r s') pl.isList (by omega) (by rw[Pf] <;> omega) (by omega) (by rw[hj];simpa using ew) ⟨rfl,fin⟩) hs
theorem ZbY:IxR X (Zdm X.K):=by
 intro value slice pq s σ H x y v u Q I rx ry h hs;obtain⟨p,xs,i,z,rfl,rfl,hq,he,q⟩:=h;cases rx;obtain⟨t,rfl⟩:=ry;obtain⟨its,r,pl,hz⟩:=I.tuple hq;obtain⟨j,h1,h2,h3,h4,h5⟩:=xZ he;obtain⟨w,ew,rw'⟩:=r.get h2;have hl:=r.length;have hn:=line63;have fin:EP X pq σ Q w s:=⟨z,H,I,rw',q⟩;exact subscriptTail_builtinR (x:=w) pl.typeIs slot_tuple_getitem.lookup
  (getItem_tuple (j:=j) (Q:=λr s'=>r=w/\EP X pq σ Q r s') pl (by omega) (by omega) (by rw[Pf,<-hl];exact h1) (by simpa using ew) ⟨rfl,fin⟩) hs
theorem yz (its:List Value) (n j:Nat) (u:Value):Obj.mapSeq (·.setIfInBounds j u) { cls:=.type "list",data:=.seq its.toArray n }={ cls:=.type "list",data:=.seq (its.set j u).toArray n }:=by
 simp[Obj.mapSeq]
theorem Inv.lst {pq:List (Addr×Obj)}{σ:St}{H:Hp}{s:Shared}{p:Addr}{xs:List V}(I:Inv X pq σ H s) (h:H p=some (.lst xs)) :
  ∃(its:List Value) (n:Nat),Vals xs its/\s.heap.get? p=some { cls:=.type "list",data:=.seq its.toArray n }/\xs.length<=sizeLine:=by
 obtain⟨z,its,n,r,e⟩:=I.hok p _ h;exact⟨its,n,r,e,z⟩
theorem Inv.lstUpd {pq:List (Addr×Obj)}{σ:St}{H:Hp}{s:Shared}{p:Addr}{xs ys:List V}{its its':List Value}{n n':Nat}{f:Obj->Obj}(I:Inv X pq σ H s) (h:H p=some (.lst xs))
  (ho:s.heap.get? p=some { cls:=.type "list",data:=.seq its.toArray n }) (hf:f { cls:=.type "list",data:=.seq its.toArray n }={ cls:=.type "list",data:=.seq its'.toArray n' }) (r:Vals ys its') (hz:ys.length<=sizeLine) (t:Nat) :
  Inv X pq σ (upd H p (.lst ys)) { s with heap:=s.heap.update p f,toks:=t }:=by
 have e:(s.heap.update p f).get? p=some { cls:=.type "list",data:=.seq its'.toArray n' }:=by
  rw[Heap.get?_update_self f ho (by rw[hf] <;> rfl),hf]
 refine I.write (x:=p) (e:=p) (by rw[h];trivial) (.inl rfl) (λb u hb q=>(Heap.get?_update_other _ _ (Ne.symm hb)).trans q) ⟨_,e⟩ ?_
 exact⟨hz,its',n',r,e⟩
noncomputable def ZcG:V->V->V->Hp->(Hp->Prop)->Prop:=λo i v H Q=>∃p xs k j,o=.ref p/\i=.int k/\H p=some (.lst xs)/\ixN xs.length k=some j/\Q (upd H p (.lst (xs.set j v)))
theorem qP:PSet X ZcG:=by
 intro pq s σ H o i v ov iv u Q I ro ri rv h;obtain⟨p,xs,k,j,rfl,rfl,hp,hj,q⟩:=h;cases ro;obtain⟨t,rfl⟩:=ri;obtain⟨its,n,r,ho,hz⟩:=I.lst hp;obtain⟨h1,h2,h3,h4⟩:=wG hj;have hl:=r.length;have hn:=line63;have I':Inv X pq σ (upd H p (.lst (xs.set j v))) { s with heap:=s.heap.update p (Obj.mapSeq (·.setIfInBounds j u)) }:=
  I.lstUpd hp ho (yz its n j u) (r.set rv j) (by rw[P1];exact hz) s.toks
 by_cases h0:0<=k
 ·have hk:k.toNat=j:=by
   rw[seqIndex_of h0 h4] at h1;exact Pb h1
  exact PySem.W.ki_setAt ho h0 (by omega) (by rw[Pf,<-hl];exact h4) (by rw[hk];exact⟨_,I',q⟩)
 ·have hk:(k+(its.toArray.size:Int)).toNat=j:=by
   rw[seqIndex_neg (by omega) h3] at h1
   rw[Pf,<-hl];exact Pb h1
  exact PySem.W.ki_setBack ho (by omega) (by rw[Pf,<-hl];exact h3) (by omega) (by rw[hk];exact⟨_,I',q⟩)
theorem GE (lo hi:Option Int) (n:Nat):(sliceBounds lo hi none n).1=((HT.sIx n 0 lo:Nat):Int)/\(sliceBounds lo hi none n).2.1=((HT.sIx n n hi:Nat):Int)/\(sliceBounds lo hi none n).2.2=1:=by
 refine⟨?_,?_,rfl⟩
 ·cases lo with
  |none=>simp[sliceBounds,HT.sIx]
  |some i=>
   simp only[sliceBounds,HT.sIx,Option.getD_none,show (1:Int)>0 by decide,NS]
   by_cases h:i<0
   ·simp only[h,NS] <;> omega
   ·simp only[h,Nz] <;> omega
 ·cases hi with
  |none=>simp[sliceBounds,HT.sIx]
  |some i=>
   simp only[sliceBounds,HT.sIx,Option.getD_none,show (1:Int)>0 by decide,NS]
   by_cases h:i<0
   ·simp only[h,NS] <;> omega
   ·simp only[h,Nz] <;> omega
theorem QE (its:List Value) (lo hi:Option Int):slicePick its.toArray lo hi none=((its.drop (HT.sIx its.length 0 lo)).take (HT.sIx its.length its.length hi-HT.sIx its.length 0 lo)).toArray:=by
 obtain⟨h1,h2,h3⟩:=GE lo hi its.toArray.size;unfold slicePick;rw[h1,h2,h3];simp only[sliceRange_one,pick_run,Pf] <;> rfl
noncomputable def Zdv (K:PySem.W.Frag):V->Option Int->Option Int->Hp->VK->Prop:=λx lo hi H Q=>∃a xs,x=.ref a/\SqL K H a xs/\∀p,H p=none->Q (.ref p) (upd H p (.lst (Xo xs lo hi)))
theorem jB:SlR X (Zdv X.K):=by
 intro pq s σ H x v vl vu lo hi sl Q I rx hs pl pu h;obtain⟨a,xs,rfl,hx,q⟩:=h;cases rx;obtain⟨its,r,ht,hz⟩:=I.list hx;have hlen:=r.length;refine⟨"list",_,slot_list_getitem.lookup,ht.isList.typeIs,?_⟩;refine wpAny_getItem_list_slice ht.isList hs pl pu .none (by simp) ?_ (by rw[Pf] <;> omega)
 rw[QE,<-hlen];refine⟨.ref s.heap.objs.size,_,I.laid (t':=s.toks) (o:=.lst (Xo xs lo hi)) (λb ob q=>Ph _ q) (Pp _) ?_,rfl,q _ (I.hok.fresh (Pp _))⟩
 exact⟨PY (V6 xs lo hi) hz,_,0,(r.drop (HT.sIx xs.length 0 lo)).take (HT.sIx xs.length xs.length hi-HT.sIx xs.length 0 lo),Pz _ rfl⟩
noncomputable def xU:V->Bool
 |.non=>true
 |.bl _=>true
 |.int _=>true
 |.str _=>true
 |_=>false
noncomputable def eqV:V->V->Bool
 |.non,.non=>true
 |.bl a,.bl b=>a == b
 |.bl a,.int b=>(if a then 1 else 0) == b
 |.int a,.bl b=>a == (if b then 1 else 0)
 |.int a,.int b=>a == b
 |.str a,.str b=>a == b
 |_,_=>false
theorem ZbN {A:Around}{s:Shared}{y x:V}{u v:Value}(ry:ZF y u) (rx:ZF x v) (fy:xU y=true) (fx:xU x=true):SeqAt.EqAt A s u v (eqV y x):=by
 cases y with
 |non=>
  cases ry;cases x with
  |non=>cases rx;exact K8 _
  |bl b=>cases rx;exact SeqAt.EqAt.none_bool b
  |int b=>obtain⟨t,rfl⟩:=rx;exact SeqAt.EqAt.none_int b t
  |str b=>obtain⟨t,rfl⟩:=rx;exact SeqAt.EqAt.none_str b t
  |_=>exact absurd (show false=true from fx) Pu
 |bl a=>
  cases ry;cases x with
  |non=>cases rx;exact SeqAt.EqAt.bool_none a
  |bl b=>cases rx;exact SeqAt.EqAt.bool_bool a b
  |int b=>obtain⟨t,rfl⟩:=rx;exact SeqAt.EqAt.bool_int a b t
  |str b=>obtain⟨t,rfl⟩:=rx;exact SeqAt.EqAt.bool_str a b t
  |_=>exact absurd (show false=true from fx) Pu
 |int a=>
  obtain⟨t',rfl⟩:=ry;cases x with
  |non=>cases rx;exact SeqAt.EqAt.int_none a t'
  |bl b=>cases rx;exact SeqAt.EqAt.int_bool a t' b
  |int b=>obtain⟨t,rfl⟩:=rx;exact SeqAt.EqAt.int_int a t' b t
  |str b=>obtain⟨t,rfl⟩:=rx;exact SeqAt.EqAt.int_str a t' b t
  |_=>exact absurd (show false=true from fx) Pu
 |str a=>
  obtain⟨t',rfl⟩:=ry;cases x with
  |non=>cases rx;exact SeqAt.EqAt.str_none a t'
  |bl b=>cases rx;exact SeqAt.EqAt.str_bool a t' b
  |int b=>obtain⟨t,rfl⟩:=rx;exact SeqAt.EqAt.str_int a t' b t
  |str b=>obtain⟨t,rfl⟩:=rx;exact SeqAt.EqAt.str_str a t' b t
  |_=>exact absurd (show false=true from fx) Pu
 |_=>exact absurd (show false=true from fy) Pu
theorem GD:ZT X (.builtin "len") (λxs H Q=>∃p ys,xs=[.ref p]/\(SqL X.K H p ys\/SqT X.K H p ys)/\Q (.int ys.length) H):=by
 intro pq s σ H xs us Q I r h;obtain⟨p,ys,rfl,hq,q⟩:=h;obtain⟨u,rfl,rx⟩:=vals1 r;cases rx;have hn:=line63;rcases hq with hq | hq
 ·obtain⟨its,r',pl,hz⟩:=I.list hq
  have hlen:=r'.length;exact Calls.call_len_list pl.isList (by simp only[Pf] <;> omega) ⟨.int ys.length,H,I.tok _,⟨s.toks+1,by rw[Pf,hlen]⟩,q⟩
 ·obtain⟨its,r',pl,hz⟩:=I.tuple hq
  have hlen:=r'.length;exact len_tuple pl (by simp only[Pf] <;> omega) ⟨.int ys.length,H,I.tok _,⟨s.toks+1,by rw[Pf,hlen]⟩,q⟩
theorem Gk:ZT X (.type "list") (λxs H Q=>∃p ys,xs=[.ref p]/\(SqL X.K H p ys\/SqT X.K H p ys)/\∀l,H l=none->Q (.ref l) (upd H l (.lst ys))):=by
 intro pq s σ H xs us Q I r h;obtain⟨p,ys,rfl,hq,q⟩:=h;obtain⟨u,rfl,rx⟩:=vals1 r;cases rx;have fin:∀(its:List Value),Vals ys its->ys.length<=sizeLine->∀(h':Heap) (c':Nat),(∀b o',s.heap.get? b=some o'->h'.get? b=some o')->
   h'.get? s.heap.objs.size=some { cls:=.type "list",dict:=none,data:=.seq its.toArray c',slots:=#[] }->EP X pq σ Q (.ref s.heap.objs.size) { s with heap:=h' }:=λits r' hz h' c' kp e=>
  ⟨.ref s.heap.objs.size,_,I.laid (t':=s.toks) kp (Pp _) (show ZZ X.prog X.w _ h' _ (.lst ys) from ⟨hz,its,c',r',e⟩),rfl,q _ (I.hok.fresh (Pp _))⟩
 rcases hq with hq | hq
 ·obtain⟨its,r',pl,hz⟩:=I.list hq
  have hlen:=r'.length;obtain⟨o,ho,hc,n,hd⟩:=pl.isList;exact call_list_seq p (.inl rfl) ho hc hd (λh' c' kp e=>fin its r' hz h' c' kp e) (by simp only[Pf] <;> omega)
 ·obtain⟨its,r',pl,hz⟩:=I.tuple hq
  have hlen:=r'.length;obtain⟨o,ho,hc,n,hd⟩:=pl;exact call_list_seq p (.inr rfl) ho hc hd (λh' c' kp e=>fin its r' hz h' c' kp e) (by simp only[Pf] <;> omega)
theorem QD:ZT X (.type "tuple") (λxs H Q=>∃p ys,xs=[.ref p]/\((SqL X.K H p ys/\∀l,H l=none->Q (.ref l) (upd H l (.tup ys)))\/(SqT X.K H p ys/\Q (.ref p) H))):=by
 intro pq s σ H xs us Q I r h;obtain⟨p,ys,rfl,h⟩:=h;obtain⟨u,rfl,rx⟩:=vals1 r;cases rx;rcases h with ⟨hq,q⟩ | ⟨hq,q⟩
 ·obtain⟨its,r',pl,hz⟩:=I.list hq
  have hlen:=r'.length;refine call_tuple_list pl.isList (λh' kp=>?_) (by simp only[Pf] <;> omega)
  have I1:Inv X pq σ H { s with heap:=h' }:=I.kept (t':=s.toks) kp
  have I2:Inv X pq σ (upd H h'.objs.size (.tup ys)) { s with heap:=h'.push { cls:=.type "tuple",data:=.seq its.toArray } }:=
   I1.laid (t':=s.toks) (λb o e=>Ph _ e) (Pp _) (show ZZ X.prog X.w _ _ _ (.tup ys) from ⟨hz,its,r',Tg _ _⟩)
  exact⟨.ref h'.objs.size,_,I2,rfl,q _ (I1.hok.fresh (Pp _))⟩
 ·obtain⟨its,r',pl,hz⟩:=I.tuple hq
  exact call_tuple_same pl ⟨.ref p,H,I,rfl,q⟩
def tyV (K:PySem.W.Frag) (T:String) (x:V) (H:Hp):Prop:=match x with
 |.str _=>T = "str"
 |.int _=>T = "int"
 |.ref p=>(T = "list"/\∃xs,SqL K H p xs)\/(T = "tuple"/\∃o,K.lookup p=some o/\o.cls=.type "tuple"/\o.dict=none)\/
   (T = "dict"/\((∃kvs,H p=some (.dK kvs))\/∃kvs,H p=some (.dT kvs)))\/(T = "set"/\∃S n,H p=some (.set S n))
 |_=>False
theorem ZbP {pq:List (Addr×Obj)}{σ:St}{H:Hp}{s:Shared}{T:String}{x:V}{v:Value}(I:Inv X pq σ H s) (r:ZF x v) (ty:tyV X.K T x H) :
  s.TypeIs v T/\∀a,v=.ref a->∃ob,s.heap.get? a=some ob/\ob.dict=none:=by
 cases x with
 |str z=>
  obtain⟨t,rfl⟩:=r;cases (show T = "str" from ty)
  exact⟨typeIs_str s z t,λ_ e=>nomatch e⟩
 |int i=>
  obtain⟨t,rfl⟩:=r;cases (show T = "int" from ty)
  exact⟨typeIs_int s i t,λ_ e=>nomatch e⟩
 |ref p=>
  cases r;rcases ty with ⟨rfl,xs,hq⟩ | ⟨rfl,o,hk,hc,hd⟩ | ⟨rfl,hk⟩ | ⟨rfl,S,n,hk⟩
  ·obtain⟨its,_,pl,_⟩:=I.list hq
   refine⟨pl.isList.typeIs,λa e=>?_⟩
   cases e;obtain⟨o,n,e,c,hd,_⟩:=pl;exact⟨o,e,hd⟩
  ·refine⟨⟨o,I.kIn p o hk,hc⟩,λa e=>?_⟩
   cases e;exact⟨o,I.kIn _ o hk,hd⟩
  ·have z:∃o,s.heap.get? p=some o/\o.ExactDict:=by
    rcases hk with ⟨kvs,hk⟩ | ⟨kvs,hk⟩
    ·obtain⟨_,_,_,_,o,_,_,e,ex,_⟩:=I.hok p _ hk
     exact⟨o,e,ex⟩
    ·obtain⟨_,_,_,_,o,_,_,e,ex,_⟩:=I.hok p _ hk
     exact⟨o,e,ex⟩
   obtain⟨o,e,ex⟩:=z;refine⟨⟨o,e,ex.1⟩,λa e2=>?_⟩
   cases e2;exact⟨o,e,ex.2.1⟩
  ·obtain⟨o,_,_,_,e,ex,_⟩:=I.hok p _ hk
   refine⟨⟨o,e,ex.1⟩,λa e2=>?_⟩
   cases e2;exact⟨o,e,ex.2.1⟩
 |_=>exact False.elim ty
def tBM (K:PySem.W.Frag) (T:String) (r:V->List V->Hp->VK->Prop) (to:TE) (t:TA):TE:=λσ H Q=>to σ H λx H1=>tyV K T x H1/\t σ H1 λxs H2=>r x xs H2 Q
variable {o e:Expr}{es:List Expr}{to:TE}{t:TA}{name:Str}{apos cpos:Pos}{T id:String}{r:V->List V->Hp->VK->Prop}
theorem Za8 (pa:PlainAttrs T) (slot:Slot T name id) (hty:typeOf (.builtin id)=pure (.type "method_descriptor")) (hm:MtR X id r) (ho:PE X o to) (ha:PA X (e::es) t)
  (hbase:attributeBase o name X.env (eval o X.env)=eval o X.env:=by rfl)
  (hfew:((backTo cpos (starEach (e::es) X.env)).all (λx=>!x.1)&&(backToKw cpos (keywordEach [] X.env)).all (λx=>x.1.isSome)
   && decide ((e::es).length+([]:List Keyword).length+(if ([]:List Keyword).isEmpty then 0 else 1)<30))=true:=by rfl)
  (hline:(apos.endLine == cpos.line)=true:=by rfl) (hs:starEach (e::es) X.env=(false,eval e X.env)::starEach es X.env:=by rfl) (hplain:(backTo cpos (starEach es X.env)).any (·.1)=false:=by rfl) :
  PE X (.Call (.Attribute o name apos) (e::es) [] cpos) (tBM X.K T r to t):=by
 intro pq s σ H Q I h;refine wpAny_Call_method_late hbase hfew hline rfl (thn (ho pq s σ H _ I h) λv s1 ⟨x,H1,I1,r1,ty,q1⟩=>?_)
 obtain⟨h1,h2⟩:=ZbP I1 r1 ty;refine⟨T,id,pa,slot,hty,h1,h2,?_⟩;have hA:=ha cpos pq s1 σ H1 _ I1 q1;rw[hs] at hA ⊢;refine Calls.callWith_builtin (by show (false||(backTo cpos (starEach es X.env)).any (·.1))=false;rw[hplain] <;> rfl) (Calls.evalArgs_plain ?_)
 exact thn hA λus s2 ⟨vs,H2,I2,r2,q2⟩=>hm pq s2 σ H2 x vs v us Q I2 r1 r2 q2
end
def MtM (X:Cx) (id:String) (r:V->List V->Hp->VK->Prop):Prop:=
 ∀(pq:List (Addr×Obj)) (s:Shared) (σ:St) (H:Hp) (x:V) (xs:List V) (v:Value) (us:List Value) (Q:VK),Inv X pq σ H s->ZF x v->Vals xs us->r x xs H Q->
  wpAny (model X.prog X.w) X.A (call (.builtin id) (v::us)) (EP X pq σ Q) X.xe s
theorem Vals.one:∀{x:V}{us:List Value},Vals [x] us->∃u,us=[u]/\ZF x u
 |_,_,.cons r .nil=>⟨_,rfl,r⟩
theorem Vals.rep {xs:List V}{us:List Value}(h:Vals xs us):∀k:Nat,Vals (List.replicate k xs).flatten (List.replicate k us).flatten
 |0=>.nil
 |k+1=>by
  rw[PZ,PZ,P5,P5];exact Vals.append h (Vals.rep h k)
theorem VQ (its:List Value):∀(k:Nat) (acc:List Value),
  List.foldl (λx1 x2=>x1++x2) acc.toArray (List.replicate k its.toArray)=(acc++(List.replicate k its).flatten).toArray
 |0,acc=>by simp
 |k+1,acc=>by
  have e:acc.toArray++its.toArray=(acc++its).toArray:=by simp
  have e2:(acc++its)++(List.replicate k its).flatten=acc++(List.replicate (k+1) its).flatten:=by
   rw[PZ,P5,List.append_assoc]
  rw[<-e2,<-VQ its k (acc++its),<-e,PZ,List.foldl_cons]
section
variable {X:Cx}{pq:List (Addr×Obj)}{σ:St}{H:Hp}{s:Shared}{l b:Addr}{xs ys zs:List V}
theorem Inv.lset {its its':List Value}{n:Nat}{f:Array Value->Array Value}{t':Nat}(I:Inv X pq σ H s) (hH:H l=some (.lst xs))
  (e:s.heap.get? l=some { cls:=.type "list",data:=.seq its.toArray n }) (hf:f its.toArray=its'.toArray) (hv:Vals ys its') (hz:ys.length<=sizeLine) :
  Inv X pq σ (upd H l (.lst ys)) { s with heap:=s.heap.update l (Obj.mapSeq f),toks:=t' }:=by
 have q:=PySem.IsL.update e f;rw[hf] at q;refine I.write (x:=l) (e:=l) (by rw[hH];exact trivial) (.inl rfl) (λb' u hb hu=>(Heap.get?_update_other s.heap (Obj.mapSeq f) (Ne.symm hb)).trans hu) ⟨_,q⟩ ?_
 exact⟨hz,its',_,hv,q⟩
theorem Inv.lnew {its:List Value}{t':Nat}(I:Inv X pq σ H s) (hv:Vals ys its) (hz:ys.length<=sizeLine) :
  Inv X pq σ (upd H s.heap.objs.size (.lst ys)) { s with heap:=s.heap.push { cls:=.type "list",data:=.seq its.toArray },toks:=t' }:=
 I.laid (λ_ _ q=>Ph _ q) (Pp _) ⟨hz,its,0,hv,Pz _ rfl⟩
theorem Inv.fresh (I:Inv X pq σ H s):H s.heap.objs.size=none:=I.hok.fresh (Pp _)
theorem Inv.lstM (I:Inv X pq σ H s) (hH:H l=some (.lst xs)):xs.length<=sizeLine/\∃(its:List Value) (n:Nat),Vals xs its/\xs.length=its.length/\s.heap.get? l=some { cls:=.type "list",data:=.seq its.toArray n }:=by
 obtain⟨z,its,n,r,e⟩:=I.hok l _ hH;exact⟨z,its,n,r,r.length,e⟩
theorem ju {n:Nat}(h:n<=sizeLine):Builtin.List.listTooLong n=false:=by
 unfold Builtin.List.listTooLong;exact PV (by omega)
end
section
variable {X:Cx}
noncomputable def jy:V->List V->Hp->VK->Prop:=λx vs H Q=>∃l xs y,x=.ref l/\vs=[y]/\H l=some (.lst xs)/\xs.length<sizeLine/\Q .non (upd H l (.lst (xs++[y])))
theorem Jd:MtM X "list.append" jy:=by
 intro pq s σ H x vs v us Q I rx rv h;obtain⟨l,xs,y,rfl,rfl,hH,hz,q⟩:=h;cases rx;obtain⟨u,rfl,ru⟩:=rv.one;obtain⟨z,its,n,r,hl,e⟩:=I.lstM hH;refine KG F.slot_list_append ⟨_,e,rfl⟩ F.entry_list_append (F.args_list_append_2 _ _) (PySem.list_append l its.toArray n u (by rw[Pf];omega)) ⟨e,?_⟩
 refine⟨.non,_,I.lset (its':=its++[u]) hH e (by simp) (r.append (.cons ru .nil)) ?_,rfl,q⟩
 rw[PM,P6];omega
noncomputable def ZaL:V->List V->Hp->VK->Prop:=λx vs H Q=>∃l b xs zs,x=.ref l/\vs=[.ref b]/\H l=some (.lst xs)/\H b=some (.lst zs)/\xs.length+zs.length<=sizeLine/\Q .non (upd H l (.lst (xs++zs)))
theorem vE:MtM X "list.extend" ZaL:=by
 intro pq s σ H x vs v us Q I rx rv h;obtain⟨l,b,xs,zs,rfl,rfl,hH,hB,hz,q⟩:=h;cases rx;obtain⟨u,rfl,ru⟩:=rv.one;cases ru;obtain⟨z,its,n,r,hl,e⟩:=I.lstM hH;obtain⟨z2,its2,n2,r2,hl2,e2⟩:=I.lstM hB;have hsz:its.toArray.size+its2.toArray.size<=sizeLine:=by rw[Pf,Pf];omega
 have hlong:¬(!its.toArray.isEmpty&&Builtin.List.listTooLong (its.toArray.size+its2.toArray.size))=true:=by
  rw[ju hsz,Bool.and_false];exact Pu
 refine KG F.slot_list_extend ⟨_,e,rfl⟩ F.entry_list_extend (F.args_list_extend_2 _ _)
  (AutoSeq1.list_extend_list_list_0 l its.toArray n b its2.toArray n2 hlong (by rw[Pf];omega) (by omega)) ⟨e,e2,?_⟩
 refine⟨.non,_,I.lset (its':=its++its2) hH e (by simp) (r.append r2) ?_,rfl,q⟩
 rw[PM];omega
def Zda:R2:=λx y H Q=>∃l b xs zs,x=.ref l/\y=.ref b/\H l=some (.lst xs)/\H b=some (.lst zs)/\xs.length+zs.length<=sizeLine/\∀p,H p=none->Q (.ref p) (upd H p (.lst (xs++zs)))
theorem Zbt:OpR X (binaryOp .Add) Zda:=by
 intro pq s σ H x y v u Q I rx ry h;obtain⟨l,b,xs,zs,rfl,rfl,hH,hB,hz,q⟩:=h;cases rx;cases ry;obtain⟨z,its,n,r,hl,e⟩:=I.lstM hH;obtain⟨z2,its2,n2,r2,hl2,e2⟩:=I.lstM hB;refine PySem.P.add_list e e2 ?_ (by rw[Pf,Pf];omega)
 have ea:its.toArray++its2.toArray=(its++its2).toArray:=by simp
 rw[ea];exact⟨.ref _,_,I.lnew (t':=s.toks) (r.append r2) (by rw[PM];omega),rfl,q _ I.fresh⟩
theorem Gh {α:Type}(xs:List α) (k:Nat):(List.replicate k xs).flatten.length=k*xs.length:=by
 induction k with
 |zero=>simp
 |succ k ih=>rw[PZ,P5,PM,ih,Nat.succ_mul,Nat.add_comm]
end
end L2
namespace Att
open PySem PySem.W PySem.Calls PyProof.Rows
theorem Uf {P:Params}{h:Heap}:∀(ns:List Int) (vs:List Value),WellAll P h vs (ns.map WData.int)->IntsAre vs ns:=by
 intro ns
 induction ns with
 |nil=>
  intro vs w;rw[Te] at w;cases w;exact .nil
 |cons n ns ih=>
  intro vs w;rw[PP] at w;cases w with
  |cons a b=>
   cases a;exact .cons _ _ (ih _ b)
theorem vh {l:OpenLaw}{n:Nat}(hn:l.most=some n) {P:Params}{h:Heap}{args:List WData}{vals:List Value}
  (hpre:l.row.toRowW.claim.pre args=true) (hwl:WellAll P h vals args) :
  ∃a vs ns,vals=[Value.ref a]/\args=[WData.list (ns.map WData.int)]/\h.get? a=some { cls:=.type "list",data:=.seq vs.toArray }/\IntsAre vs ns/\ns.length<=n:=by
 have hsh:WShape.hasAll [] args [.list .int]=true:=(pre_splitW hpre).1;have hc:l.pre.holds [] { args:=args }=true:=(pre_splitW hpre).2;obtain⟨d,r,rfl,h1,h2⟩:=hasAllW_cons hsh;obtain rfl:=hasAllW_nil h2;obtain⟨xs,rfl,h3⟩:=hasW_list h1;obtain⟨ns,rfl⟩:=items_int h3;have hlen:ns.length<=n:=by
  unfold OpenLaw.pre at hc;have h4:(WTm.not (.lt (.lit (.int (n:Int))) (.len (.arg 0)))).holds [] { args:=[.list (ns.map .int)] }=true:=by
   have h4:=(holds_andW hc).1;rw[hn] at h4;exact h4
  have h5:=condW_of h4 (w_not (w_lt w_lit (w_len_list (w_arg rfl))));rw[Pj] at h5;refine Kt λq=>?_
  have q':(n:Int)<((ns.length:Nat):Int):=by omega
  first
   |(rw[PC q'] at h5;exact absurd h5 (by decide))
   |(simp at h5;omega)
 cases hwl with
 |cons w1 w2=>
  cases w2;cases w1 with
  |list ho hall=>exact⟨_,_,ns,rfl,rfl,ho,Uf ns _ hall,hlen⟩
theorem vW (l:OpenLaw) (args:List WData):l.row.toRowW.claim.post args (.bool true) args=true:=
 postW_of (r:=l.row.toRowW) (X:=(true == true))
  (show WShape.has [] (.bool true) .bool=true by first | rfl | decide | simp[WShape.has,WShape.arms,WShape.armsAll])
  (show (WTm.eq .res (.lit (.bool true))).value [] { args:=args,res:=some (.bool true),after:=args }=some (.bool (true == true)) from w_eq_bool (w_res rfl) w_lit) rfl
theorem zg {l:OpenLaw}{n:Nat}{q:Program}{loose:List Str}{XP:(Str->Option Value)->Heap->Prop}{YP:World->Heap->Prop}{d:DefRec}
  (hn:l.most=some n) (hdf:d.params.defaults=[])
  (call:∀(w:World) (s₀ s₁:Shared) (mg mb:Str->Option Value) (fa:Addr) (o:Obj) (pm cd doc:Value) (a:Addr) (vs:List Value) (ns:List Int),
   Ground q loose [] XP w s₀ mg mb s₁.heap->YP w s₁.heap->
   s₁.heap.get? fa=some o->o.data=.func (docDef d.name d.params d.body d.scope pm cd doc)->s₁.heap.CodeRec cd d.name->mg d.name=some (.ref fa)->
   s₁.heap.get? a=some { cls:=.type "list",data:=.seq vs.toArray }->IntsAre vs ns->ns.length<=n->s₁.gens = #[]->
   codeAny (model l.prog w) callerA (.call (.ref fa) ⟨[.ref a],[]⟩) (λr s'=>r=.ok (.ret (.bool true))/\OldK s₁.heap s'.heap/\s'.os=s₁.os/\AllBare s'.gens) s₁) :
  WalkO q loose XP YP l.row.toRowW d [] (λf vs=>PySem.call f vs):=by
 intro w s₀ s₁ mg mb G Y fa o pm cd doc dV kV ho hd hcd hD hmg hg args vals as hpre hlay hrd hwl hlo;obtain rfl:dV=.none:=Dflts.none hD hdf;obtain rfl:kV=.none:=Dflts.noKw hD;obtain⟨a,vs,ns,rfl,rfl,hobj,hints,hlen⟩:=vh hn hpre hwl;refine enter_call (codeAny_mono (call w s₀ s₁ mg mb fa o pm cd doc a vs ns G Y ho (fd_plain hd) hcd hmg hobj hints hlen hg) λr s' hq=>?_)
 obtain⟨rfl,h2,h3,h4⟩:=hq;exact⟨.inl ⟨.bool true,.bool true,[],rfl,λ_=>rfl,.bool true,vW l _,λ_=>⟨List.Pairwise.nil,λ_ hm=>(nomatch hm)⟩⟩,h2,h3,h4⟩
end Att
namespace L2
open PySem PySem.Spec PyProof.Rows
theorem Jq:∀{vs:List Value}{ns:List Int},IntsAre vs ns->Vals (ns.map V.int) vs
 |_,_,.nil=>.nil
 |_,_,.cons n t h=>.cons ⟨t,rfl⟩ (Jq h)
def Only (H:Hp):Prop:=∀b,H b=none\/∃o xs,H b=some (.frz o (.lst xs))
theorem law_call {P:Program}{w:World}{K:PySem.W.Frag}{mg mb:Str->Option Value}{CX:CXT}{k:Nat}{fa a:Addr}{fd:FuncData}{x:Str}{sp:Sp}{s₁:Shared}{vs:List Value}{ns:List Int}
  (KX:K.In s₁.heap) (hns:s₁.heap.Ns mainGlobals mg) (hb:s₁.heap.Ns builtinsNs mb) (hbb:∀x:Str,x≠"__name__"->mb x=bootBuiltins x) (hlim:s₁.heap.NoLimit) (hg:s₁.gens = #[])
  (ha:s₁.heap.get? a=some { cls:=.type "list",data:=.seq vs.toArray }) (hi:IntsAre vs ns) (hl:ns.length<=sizeLine) (hr:Room k callerA)
  (F:∀base:Heap,K.In base->base.Ns mainGlobals mg->FnOk P w K mg base CX k fa fd [x] sp) (hbind:∀(s:Shared) (u:Value),BindsTo s fd ⟨[u],[]⟩ [(x,u)])
  (hsp:∀H:Hp,Only H->SqL K H a (ns.map V.int)->sp [.ref a] H (λv _=>v=.bl true) λ_ _ _=>False)
  (hCX:∀H e s',CX [] H s₁ (λ_ _ _=>False) e s'->False) :
  codeAny (model P w) callerA (.call (.ref fa) ⟨[.ref a],[]⟩) (λr s'=>r=.ok (.ret (.bool true))/\OldK s₁.heap s'.heap/\s'.os=s₁.os/\AllBare s'.gens) s₁:=by
 have rv:=Jq hi;have lenV:=hi.length;have core:∀H:Hp,Only H->SqL K H a (ns.map V.int)->HOk P w H s₁.heap->(∀b,H b≠none->b=a)->(H a≠none->K.lookup a=none)->
   codeAny (model P w) callerA (.call (.ref fa) ⟨[.ref a],[]⟩) (λr s'=>r=.ok (.ret (.bool true))/\OldK s₁.heap s'.heap/\s'.os=s₁.os/\AllBare s'.gens) s₁:=by
  intro H hO hS hok hA hK;have base_of:∀{b:Addr} {o:Obj},s₁.heap.get? b=some o->H b=none->(JK s₁.heap H).get? b=some o:=λe n=>qL e n
  have noA:∀{b:Addr} {o:Obj} {es:Array DictEntry} {ep:Nat},s₁.heap.get? b=some o->o.data=.dict es ep->H b=none:=λ{b o es ep} e d=>by
   cases q:H b with
   |none=>rfl
   |some u=>
    have e':b=a:=hA b (by rw[q];simp)
    subst e';rw[ha] at e;cases e;have d':Data.seq vs.toArray _=Data.dict es ep:=d;cases d'
  have nsK:∀{b:Addr} {m:Str->Option Value},s₁.heap.Ns b m->(JK s₁.heap H).Ns b m:=λ{b m} ⟨o,es,ep,e,d,r⟩=>⟨o,es,ep,base_of e (noA e d),d,r⟩
  have hKb:K.In (JK s₁.heap H):=λb o e=>base_of (KX b o e) (by
   cases q:H b with
   |none=>rfl
   |some u=>
    have e':b=a:=hA b (by rw[q];simp)
    subst e';rw[hK (by rw[q];simp)] at e;cases e)
  have hM:Mod K mg (JK s₁.heap H):=⟨hKb,nsK hns,⟨mb,nsK hb,hbb⟩,let ⟨mc,h1,h2⟩:=hlim;⟨mc,nsK h1,h2⟩⟩;have e0:Env0 P w K mg (JK s₁.heap H) callerA [] s₁ H:=⟨rfl,hM,λb o e=>ZaY e,Nat.le_of_eq (vq _ _),trivial,λb hb=>absurd (show b∈([]:List Addr) from hb) (by simp),hok,.of_eq hg⟩
  refine codeAny_mono ((F _ hKb (nsK hns)).run callerA [] s₁ H ⟨[.ref a],[]⟩ [.ref a] [.ref a] _ _ hr e0 (hbind s₁ (.ref a)) (.cons rfl .nil) (hsp H hO hS)) λr s' h=>?_
  cases r with
  |error e=>exact (hCX H e s' h).elim
  |ok fl=>
   cases fl with
   |next=>exact False.elim h
   |brk=>exact False.elim h
   |cont=>exact False.elim h
   |ret u=>
    obtain⟨v,H',os,bare,un,hok',r',q⟩:=h;have q':v=.bl true:=q;subst q';obtain rfl:u=Value.bool true:=r';refine⟨rfl,OldK.of_keep λb o e=>?_,os,bare⟩
    cases q:H b with
    |none=>exact un.keep b o e q (by intro z;exact absurd (show b∈([]:List Addr) from z) (by simp)) (by simp)
    |some u=>
     rcases hO b with z | ⟨ob,xs,z⟩
     ·rw[q] at z;cases z
     ·have z2:=un.frzs b ob _ z
      obtain⟨e1,_⟩:=hok b _ z;obtain⟨e2,_⟩:=hok' b _ z2;rw[e] at e1;cases e1;exact e2
 cases hk:K.lookup a with
 |some o=>
  have e:=KX a o hk;rw[ha] at e;cases e;refine core (λ_=>none) (λ_=>.inl rfl) (.inr ⟨_,vs.toArray,_,hk,rfl,rfl,rfl,by rw[Pf,lenV];exact hl,by simpa using rv⟩) (λb u z=>by have z':(none:Option HO)=some u:=z;cases z') (λb z=>absurd rfl z) λz=>absurd rfl z
 |none=>
  refine core (λb=>if b=a then some (.frz { cls:=.type "list",data:=.seq vs.toArray } (.lst (ns.map V.int))) else none) (λb=>?_) (.inl (.inr ⟨{ cls:=.type "list",data:=.seq vs.toArray },Pg rfl⟩)) (λb u z=>?_) (λb z=>?_) λ_=>hk
  ·by_cases hb:b=a
   ·exact .inr ⟨_,_,Pg hb⟩
   ·exact .inl (Pi hb)
  ·by_cases hb:b=a
   ·have z':=(Pg hb).symm.trans z
    cases z';subst hb;exact⟨ha,by rw[Pj];exact hl,vs,_,rv,ha⟩
   ·have z':=(Pi hb).symm.trans z
    cases z'
  ·by_cases hb:b=a
   ·exact hb
   ·exact absurd (Pi hb) z
theorem jO {l:PySem.W.OpenLaw}{n k:Nat}{q:Program}{loose:List Str}{XP:(Str->Option Value)->Heap->Prop}{YP:World->Heap->Prop}{d:DefRec}{K:Params->PySem.W.Frag}{CX:World->CXT}{sp:World->Sp}{x:Str}
  (hn:l.most=some n) (hn2:n<=sizeLine) (hdf:d.params.defaults=[]) (hr:Room k callerA)
  (hY:∀(w:World) (h:Heap),YP w h->(K w.params).In h)
  (F:∀(w:World) (mg:Str->Option Value) (fa:Addr) (h:Heap),(K w.params).In h->h.Ns mainGlobals mg->mg d.name=some (.ref fa)->
   ∃fd:FuncData,(∀(s:Shared) (u:Value),BindsTo s fd ⟨[u],[]⟩ [(x,u)])/\
    ∀base:Heap,(K w.params).In base->base.Ns mainGlobals mg->FnOk l.prog w (K w.params) mg base (CX w) k fa fd [x] (sp w))
  (hsp:∀(w:World) (H:Hp) (a:Addr) (ns:List Int),ns.length<=n->Only H->SqL (K w.params) H a (ns.map V.int)->sp w [.ref a] H (λv _=>v=.bl true) λ_ _ _=>False)
  (hCX:∀(w:World) (H:Hp) (s:Shared) (e:Value) (s':Shared),CX w [] H s (λ_ _ _=>False) e s'->False) :
  PySem.W.WalkO q loose XP YP l.row.toRowW d [] (λf vs=>PySem.call f vs):=by
 refine Att.zg hn hdf λw s₀ s₁ mg mb fa o pm cd doc a vs ns G Y ho hd hcd hmg hobj hints hlen hg=>?_
 have KX:=hY w _ Y;obtain⟨fd,hb,hF⟩:=F w mg fa _ KX G.T.g hmg;exact law_call KX G.T.g G.T.b G.T.builtins G.T.nolimit hg hobj hints (PY hlen hn2) hr hF hb (λH hO hS=>hsp w H a ns hlen hO hS) λH e s'=>hCX w H s₁ e s'
noncomputable def Y8 (s:Stmt):Arguments:=match s with
 |.FunctionDef _ a _ _ _ _ _ _ _ _=>a
 |_=>{ posonlyargs:=[],args:=[],vararg:=none,kwonlyargs:=[],kw_defaults:=[],kwarg:=none,defaults:=[] }
noncomputable def Ys (s:Stmt):List Stmt:=match s with
 |.FunctionDef _ _ b _ _ _ _ _ _ _=>b
 |_=>[]
noncomputable def ZG (s:Stmt):Scope:=match s with
 |.FunctionDef _ _ _ _ _ _ sc _ _ _=>sc
 |_=>{ kind:=.function,names:=[],isGenerator:=false,isCoroutine:=false }
noncomputable abbrev CX0:CXT:=λ_ _ _ _ _ _=>False
noncomputable abbrev E0:XK:=λ_ _ _=>False
theorem pass0 {X:Cx}:Passes CX0 X E0:=λ_ _ _ _ _ _ _ h=>h.elim
structure Fun (K:PySem.W.Frag) (x qual:Str) (st:Stmt) (f:Addr) (fd:FuncData):Prop where
 ex:∃(oc:Value) (od:Option Addr) (kV doc pm:Value) (an:Option Addr) (cdv ct:Value) (osl:Array (Option Value)),
  fd=PySem.W.fnOf x qual (Y8 st) (Ys st) (ZG st) .none kV doc pm an cdv ct/\K.lookup f=some ⟨oc,od,.func fd,osl⟩/\PySem.W.codeIn K cdv qual=true
 kp:PySem.W.keepIn K (.ref f)=true
section
variable {P:Program}{w:World}{K:PySem.W.Frag}{mg:Str->Option Value}{base:Heap}
theorem Fun.ok {x qual:Str}{st:Stmt}{f:Addr}{fd:FuncData}{N ps:List Str}{k:Nat}{sp:Sp}(F:Fun K x qual st f fd) (S:FnScope N ps (ZG st)) (len:∀vs H Q E,sp vs H Q E->vs.length=ps.length)
  (hbody:∀(cdv:Value) (A:Around) (outer:List Env) (s:Shared) (H:Hp) (vs:List V) (Q:VK) (E:XK),Room k (A.deeper (envOfC qual (ZG st) s.heap.objs.size f cdv))->sp vs H Q E->
   ∃t,PSs (GT CX0 P w K mg base N qual (ZG st) f cdv A outer s H E).nox (Ys st) t/\t { nx:=λ_ H'=>Q .non H',rt:=Q } (start N vs) H):FnOk P w K mg base CX0 (k+1) f fd ps sp:=by
 obtain⟨oc,od,kV,doc,pm,an,cdv,ct,osl,rfl,lk,hcd⟩:=F.ex;refine ZcO lk hcd S len λA outer s H vs Q E hr hsp=>?_
 obtain⟨t,h,q⟩:=hbody cdv A outer s H vs Q E hr hsp;exact⟨t,h.nox,q⟩
theorem Fun.binds {x qual:Str}{st:Stmt}{f:Addr}{fd:FuncData}{ps:List Str}(F:Fun K x qual st f fd)
  (h:∀(kV doc pm:Value) (an:Option Addr) (cdv ct:Value) (us:List Value),us.length=ps.length->bindArgs (PySem.W.fnOf x qual (Y8 st) (Ys st) (ZG st) .none kV doc pm an cdv ct) ⟨us,[]⟩=pure (ps.zip us)):Binds K fd ps []:=by
 obtain⟨oc,od,kV,doc,pm,an,cdv,ct,osl,rfl,lk,hcd⟩:=F.ex;exact .all (h kV doc pm an cdv ct)
theorem Zcf {x qual:Str}{st:Stmt}{f:Addr}{oc:Value}{od an:Option Addr}{osl:Array (Option Value)}{kV doc pm cdv ct:Value}(l:K.lookup f=some ⟨oc,od,.func (PySem.W.fnOf x qual (Y8 st) (Ys st) (ZG st) .none kV doc pm an cdv ct),osl⟩)
  (c:PySem.W.codeIn K cdv qual=true) (k:PySem.W.keepIn K (.ref f)=true):Fun K x qual st f (PySem.W.fnOf x qual (Y8 st) (Ys st) (ZG st) .none kV doc pm an cdv ct):=⟨⟨oc,od,kV,doc,pm,an,cdv,ct,osl,rfl,l,c⟩,k⟩
end
section
variable {κ:Type}[DecidableEq κ]
noncomputable def WY (kvs:List (κ×V)) (k:κ):Option V:=(kvs.find? λkv=>decide (kv.1=k)).map (·.2)
theorem z9 {p:κ×V}{r:List (κ×V)}{k:κ}(e:p.1=k):WY (p::r) k=some p.2:=by simp[WY,N8,e]
theorem GK {p:κ×V}{r:List (κ×V)}{k:κ}(e:¬p.1=k):WY (p::r) k=WY r k:=by simp[WY,N8,e]
theorem xt.isSome_eq {o:Option V}{u:Option Value}(r:xt o u):o.isSome=u.isSome:=by
 cases o with
 |none=>cases u with
  |none=>rfl
  |some _=>exact (show False from r).elim
 |some _=>cases u with
  |none=>exact (show False from r).elim
  |some _=>rfl
theorem KV.val {kvs:List (κ×V)}{vs:List (κ×Value)}(r:KV kvs vs) (k:κ):xt (WY kvs k) (valueAt vs k):=by
 unfold KV at r
 induction r with
 |nil=>exact True.intro
 |@cons p q ps qs h t ih=>
  obtain⟨h1,h2⟩:=h;by_cases e:p.1=k
  ·have e':q.1=k:=h1.symm.trans e
   have b:valueAt (q::qs) k=some q.2:=by simp[valueAt,N8,e']
   rw[z9 e,b];exact h2
  ·have e':¬q.1=k:=λz=>e (h1.trans z)
   have b:valueAt (q::qs) k=valueAt qs k:=by simp[valueAt,N8,e']
   rw[GK e,b];exact ih
end
theorem qT {P:Program}{w:World}{k:Key}{u:Value}(r:ZF (kV k) u):(Yv P w).is k u=true:=by
 cases k with
 |inl i=>obtain⟨t,e⟩:=(show ∃t,u=Value.int i t from r);subst e;exact G0 P w i t
 |inr x=>obtain⟨t,e⟩:=(show ∃t,u=Value.str x t from r);subst e;exact zL P w x t
theorem QZ {P:Program}{w:World}:∀{ks:List Key}{us:List Value},Vals (ks.map kV) us->ItemsAre (Yv P w) ks us
 |[],_,r=>by rw[Te] at r;cases r;exact .nil
 |k::ks,_,r=>by
  rw[PP] at r;cases r with
  |cons h t=>exact .cons (qT h) (QZ t)
noncomputable abbrev KT (H:Hp):List (List Key×V)->List (List Key×Addr×Value)->Prop:=Paired λp q=>p.1=q.1/\H q.2.1=some (.tup (p.1.map kV))/\ZF p.2 q.2.2
theorem KT.val {H:Hp}{kvs:List (List Key×V)}{xs:List (List Key×Addr×Value)}(r:KT H kvs xs) (k:List Key):xt (WY kvs k) ((atKey xs k).map (·.2)):=by
 induction r with
 |nil=>exact True.intro
 |@cons p q ps qs h t ih=>
  obtain⟨h1,_,h2⟩:=h;by_cases e:p.1=k
  ·have e':q.1=k:=h1.symm.trans e
   have b:atKey (q::qs) k=some q.2:=by simp[atKey,N8,e']
   rw[z9 e,b];exact h2
  ·have e':¬q.1=k:=λz=>e (h1.trans z)
   have b:atKey (q::qs) k=atKey qs k:=by simp[atKey,N8,e']
   rw[GK e,b];exact ih
section
variable {P:Program}{w:World}{H:Hp}{h:Heap}{a:Addr}
theorem Za6 {u:HO}(ok:HOk P w H h) (e:Rd H a u):ZZ P w H h a u:=e.ok ok
theorem ZaZ {kvs:List (Key×V)}(ok:HOk P w H h) (e:Rd H a (.dK kvs)):kvs.length<=sizeLine/\(a == sysModules)=false/\∃vs,KV kvs vs/\h.DictOf (Yv P w) a vs:=
 show ZZ P w H h a (.dK kvs) from Za6 ok e
theorem y3 {ks:List Key}(ok:HOk P w H h) (e:H a=some (.tup (ks.map kV))):(tupleKind (Yv P w)).is h ks a:=by
 obtain⟨_,its,r,o,h1,h2,n,h3⟩:=(show ZZ P w H h a (.tup (ks.map kV)) from ok a _ e)
 exact⟨o,its.toArray,n,h1,h2,h3,by simpa using QZ r⟩
theorem Zba {kvs:List (List Key×V)}(ok:HOk P w H h) (e:Rd H a (.dT kvs)):kvs.length<=sizeLine/\(a == sysModules)=false/\
  ∃xs,KT H kvs xs/\h.DictOfH (tupleKind (Yv P w)) a xs:=by
 obtain⟨z,y,xs,r,o,es,ep,h1,h2,h3,h4,h5⟩:=(show ZZ P w H h a (.dT kvs) from Za6 ok e)
 refine⟨z,y,xs,r,o,es,ep,h1,h2,h3,h4,λx hx=>?_,h5⟩
 have all:∀{l:List (List Key×V)} {m:List (List Key×Addr×Value)},KT H l m->∀x∈m,(tupleKind (Yv P w)).is h x.1 x.2.1:=by
  intro l m q
  induction q with
  |nil=>intro x hx;exact nomatch hx
  |@cons p q ps qs hq t ih=>
   intro x hx;rcases Pk.mp hx with e | hx
   ·subst e
    exact y3 ok (by rw[<-hq.1];exact hq.2.1)
   ·exact ih x hx
 exact all r x hx
end
def DGet (H:Hp) (a:Addr) (y:V) (r:Option V):Prop:=
 (∃kvs k,Rd H a (.dK kvs)/\y=kV k/\r=WY kvs k)\/∃kvs k b,Rd H a (.dT kvs)/\y=.ref b/\H b=some (.tup (k.map kV))/\r=WY kvs k
theorem DGet.t {H:Hp}{a b:Addr}{kvs:List (List Key×V)}{k:List Key}(e:H a=some (.dT kvs)) (eb:H b=some (.tup (k.map kV))):DGet H a (.ref b) (WY kvs k):=.inr ⟨kvs,k,b,.inl e,rfl,eb,rfl⟩
section
variable {X:Cx}{pq:List (Addr×Obj)}{σ:St}{H:Hp}{s:Shared}{a:Addr}{y v:V}{u r:Value}{o:Option V}{A:Around}{E:Value->Shared->Prop}
theorem Zdh {Q:Value->Shared->Prop}(hu:A.units+1<cLine) (I:Inv X pq σ H s) (g:DGet H a y o) (ry:ZF y u) (h:∀s',Inv X pq σ H s'->Q (.bool o.isSome) s') :
  wpAny (model X.prog X.w) A (compareOp .In u (.ref a)) Q E s:=by
 rcases g with ⟨kvs,k,e,ey,l⟩ | ⟨kvs,k,b,e,ey,eb,l⟩
 ·subst ey
  obtain⟨z,hd,vs,rel,dd⟩:=ZaZ I.hok e;refine wpAny_in_of (qT ry) hd dd.mapOf ?_;rw[<-(rel.val k).isSome_eq,<-l];exact h _ (I.tok _)
 ·subst ey
  cases (show u=Value.ref b from ry)
  obtain⟨z,hd,xs,rel,dd⟩:=Zba I.hok e;refine wpAny_in_heap (tupleKind_room_in1 hu) (y3 I.hok eb) hd dd ?_;have q:=(rel.val k).isSome_eq;rw[Option.isSome_map] at q;rw[<-q,<-l];exact h _ (I.tok _)
theorem Zab {Q:Value->Shared->Prop}(hu:A.units+1<cLine) (I:Inv X pq σ H s) (g:DGet H a y o) (ry:ZF y u) (h:∀s',Inv X pq σ H s'->Q (.bool (!o.isSome)) s') :
  wpAny (model X.prog X.w) A (compareOp .NotIn u (.ref a)) Q E s:=by
 rcases g with ⟨kvs,k,e,ey,l⟩ | ⟨kvs,k,b,e,ey,eb,l⟩
 ·subst ey
  obtain⟨z,hd,vs,rel,dd⟩:=ZaZ I.hok e;refine wpAny_notIn_of (qT ry) hd dd.mapOf ?_;rw[<-(rel.val k).isSome_eq,<-l];exact h _ (I.tok _)
 ·subst ey
  cases (show u=Value.ref b from ry)
  obtain⟨z,hd,xs,rel,dd⟩:=Zba I.hok e;refine wpAny_notIn_heap (tupleKind_room_in1 hu) (y3 I.hok eb) hd dd ?_;have q:=(rel.val k).isSome_eq;rw[Option.isSome_map] at q;rw[<-q,<-l];exact h _ (I.tok _)
end
end L2
namespace Ev
open PySem (Str)
inductive D where
 |non | bl (b:Bool) | int (i:Int) | str (x:Str) | tup (xs:List D) | loc (n:Nat) | fn (f:Nat) | exc (c:Nat) (n:Nat)
 deriving Inhabited
mutual
def D.beq:D->D->Bool
 |.non,.non=>true
 |.bl a,.bl b=>decide (a=b)
 |.int a,.int b=>decide (a=b)
 |.str a,.str b=>decide (a=b)
 |.tup a,.tup b=>D.beqs a b
 |.loc a,.loc b=>decide (a=b)
 |.fn a,.fn b=>decide (a=b)
 |.exc a i,.exc b j=>decide (a=b)&&decide (i=j)
 |_,_=>false
def D.beqs:List D->List D->Bool
 |[],[]=>true
 |x::xs,y::ys=>D.beq x y&&D.beqs xs ys
 |_,_=>false
end
mutual
theorem D.eq_of_beq:∀{a b:D},D.beq a b=true->a=b
 |.non,.non,_=>rfl
 |.bl a,.bl b,h=>by unfold D.beq at h;rw[Pq h]
 |.int a,.int b,h=>by unfold D.beq at h;rw[Pq h]
 |.str a,.str b,h=>by unfold D.beq at h;rw[Pq h]
 |.tup a,.tup b,h=>by unfold D.beq at h;rw[D.eq_of_beqs h]
 |.loc a,.loc b,h=>by unfold D.beq at h;rw[Pq h]
 |.fn a,.fn b,h=>by unfold D.beq at h;rw[Pq h]
 |.exc a i,.exc b j,h=>by
  unfold D.beq at h;have h1:=(Py _ _).mp h;rw[Pq h1.1,Pq h1.2]
 |.non,.bl _,h | .non,.int _,h | .non,.str _,h | .non,.tup _,h | .non,.loc _,h | .non,.fn _,h | .non,.exc _ _,h=>by unfold D.beq at h;cases h
 |.bl _,.non,h | .bl _,.int _,h | .bl _,.str _,h | .bl _,.tup _,h | .bl _,.loc _,h | .bl _,.fn _,h | .bl _,.exc _ _,h=>by unfold D.beq at h;cases h
 |.int _,.non,h | .int _,.bl _,h | .int _,.str _,h | .int _,.tup _,h | .int _,.loc _,h | .int _,.fn _,h | .int _,.exc _ _,h=>by unfold D.beq at h;cases h
 |.str _,.non,h | .str _,.bl _,h | .str _,.int _,h | .str _,.tup _,h | .str _,.loc _,h | .str _,.fn _,h | .str _,.exc _ _,h=>by unfold D.beq at h;cases h
 |.tup _,.non,h | .tup _,.bl _,h | .tup _,.int _,h | .tup _,.str _,h | .tup _,.loc _,h | .tup _,.fn _,h | .tup _,.exc _ _,h=>by unfold D.beq at h;cases h
 |.loc _,.non,h | .loc _,.bl _,h | .loc _,.int _,h | .loc _,.str _,h | .loc _,.tup _,h | .loc _,.fn _,h | .loc _,.exc _ _,h=>by unfold D.beq at h;cases h
 |.fn _,.non,h | .fn _,.bl _,h | .fn _,.int _,h | .fn _,.str _,h | .fn _,.tup _,h | .fn _,.loc _,h | .fn _,.exc _ _,h=>by unfold D.beq at h;cases h
 |.exc _ _,.non,h | .exc _ _,.bl _,h | .exc _ _,.int _,h | .exc _ _,.str _,h | .exc _ _,.tup _,h | .exc _ _,.loc _,h | .exc _ _,.fn _,h=>by unfold D.beq at h;cases h
theorem D.eq_of_beqs:∀{a b:List D},D.beqs a b=true->a=b
 |[],[],_=>rfl
 |x::xs,y::ys,h=>by
  unfold D.beqs at h;have h1:=(Py _ _).mp h;rw[D.eq_of_beq h1.1,D.eq_of_beqs h1.2]
 |[],_::_,h=>by unfold D.beqs at h;cases h
 |_::_,[],h=>by unfold D.beqs at h;cases h
end
mutual
theorem D.beq_self:∀a:D,D.beq a a=true
 |.non=>rfl
 |.bl a=>by unfold D.beq;exact PC rfl
 |.int a=>by unfold D.beq;exact PC rfl
 |.str a=>by unfold D.beq;exact PC rfl
 |.tup a=>by unfold D.beq;exact D.beqs_self a
 |.loc a=>by unfold D.beq;exact PC rfl
 |.fn a=>by unfold D.beq;exact PC rfl
 |.exc a i=>by unfold D.beq;rw[PC rfl,PC rfl];rfl
theorem D.beqs_self:∀a:List D,D.beqs a a=true
 |[]=>rfl
 |x::xs=>by unfold D.beqs;rw[D.beq_self x,D.beqs_self xs];rfl
end
instance:DecidableEq D:=λa b=>if h:D.beq a b=true then isTrue (D.eq_of_beq h) else isFalse λe=>h (by rw[e];exact D.beq_self b)
inductive Ob where
 |lst (xs:List D) | scr (ns:List Int) | dt (kvs:List (List Int×D)) | dk (kvs:List (Int×D)) | st (xs:List D)
 deriving DecidableEq
noncomputable abbrev Store:=List Ob
noncomputable abbrev Lc:=List (Option D)
inductive R (α:Type) where
 |ok (a:α) (S:Store) | ex (c:Nat) (S:Store) | no
noncomputable def R.bind {α β:Type} (r:R α) (f:α->Store->R β):R β:=match r with
 |.ok a S=>f a S
 |.ex c S=>.ex c S
 |.no=>.no
noncomputable def lim:Nat:=16777216
inductive Bop where | add | sub | mul | fdiv | mod | pow
 deriving DecidableEq
inductive Cop where | eq | ne | lt | le | gt | ge | is | isn | inn | nin
 deriving DecidableEq
inductive Ty where | int | bool | str | tuple | list | dict | cls (c:Nat)
 deriving DecidableEq
inductive Bf where | len | max2 | min2 | toInt | tuple | list | all | any | sum | sorted | sortedR | set | listD | sortedD
 deriving DecidableEq
inductive Mf where | append | extend | index
 deriving DecidableEq
mutual
inductive E where
 |c (d:D) | v (i:Nat)
 |tup (es:List E) | lst (es:List E) | dnew
 |bin (op:Bop) (a b:E) | neg (a:E) | not (a:E) | and (a b:E) | or (a b:E) | ite (t a b:E)
 |cmp (op:Cop) (a b:E) | chain (o p:Cop) (a b d:E)
 |ix (a i:E) | sl (a:E) (lo hi:Option E) | rev (a:E)
 |call (f:Nat) (as:List E) | blt (f:Bf) (as:List E) | mt (m:Mf) (o:E) (as:List E)
 |isi (a:E) (ts:List Ty)
 |inT (a:E) (tab:List (Int×Int)) | getT (tab:List (Int×Int)) (a:E)
 |dput1 (k v:E)
 |comp1 (cap:List Nat) (nl:Nat) (t:List Nat) (it:W) (ifs:List E) (elt:E)
 |comp2 (cap:List Nat) (nl:Nat) (t:List Nat) (it:W) (ifs:List E) (u:List Nat) (jt:W) (jfs:List E) (elt:E)
 |fstr
inductive W where
 |of (e:E) | rng1 (a:E) | rng2 (a b:E) | zip (a b:E) | enum (a:E) | rrng (a b:E)
end
inductive Sm where
 |asg (t:List Nat) (e:E) | par (t:List Nat) (es:List E) | aug (i:Nat) (op:Bop) (e:E) | put (o i e:E) | dput (o i e:E)
 |ret (e:E) | ex (e:E) | ite (t:E) (a b:List Sm) | forr (t:List Nat) (it:W) (b:List Sm) | whl (t:E) (b:List Sm)
 |raise (c:Nat) (as:List E) | pas | brk | cnt
noncomputable def Z9 (S:Store) (n:Nat):Option (List D):=match S[n]? with
 |some (.lst xs)=>some xs
 |some (.scr ns)=>some (ns.map .int)
 |_=>none
noncomputable def Zh (S:Store) (n:Nat):Option (List D):=match S[n]? with
 |some (.lst xs)=>some xs
 |_=>none
noncomputable def truth (S:Store):D->Option Bool
 |.non=>some false
 |.bl b=>some b
 |.int i=>some (decide (i≠0))
 |.tup xs=>some (!xs.isEmpty)
 |.loc n=>(Z9 S n).map λxs=>!xs.isEmpty
 |_=>none
noncomputable def b2i (b:Bool):Int:=if b then 1 else 0
noncomputable def eqL (f:D->D->Option Bool):List D->List D->Option Bool
 |[],[]=>some true
 |x::xs,y::ys=>match f x y,eqL f xs ys with
  |some a,some b=>some (a&&b)
  |_,_=>none
 |_,_=>some false
noncomputable def eqD (S:Store):Nat->D->D->Option Bool
 |0,_,_=>none
 |k+1,x,y=>match x,y with
  |.non,.non=>some true
  |.bl a,.bl b=>some (decide (a=b))
  |.int a,.int b=>some (decide (a=b))
  |.bl a,.int b=>some (decide (b2i a=b))
  |.int a,.bl b=>some (decide (a=b2i b))
  |.str a,.str b=>some (decide (a=b))
  |.tup xs,.tup ys=>eqL (eqD S k) xs ys
  |.loc m,.loc n=>match Zh S m,Zh S n with
   |some xs,some ys=>if xs.length=ys.length then eqL (eqD S k) xs ys else some false
   |_,_=>none
  |.non,.bl _ | .non,.int _ | .non,.str _ | .bl _,.non | .int _,.non | .str _,.non=>some false
  |.bl _,.str _ | .int _,.str _ | .str _,.bl _ | .str _,.int _=>some false
  |_,_=>none
noncomputable def Zm:Nat:=6
noncomputable def inL (S:Store) (x:D):List D->Option Bool
 |[]=>some false
 |y::ys=>match eqD S Zm y x,inL S x ys with
  |some a,some b=>some (a||b)
  |_,_=>none
noncomputable def Zc7 (S:Store) (x:D):List D->Nat->Option Nat
 |[],_=>none
 |y::ys,k=>match eqD S Zm y x with
  |some true=>some k
  |some false=>Zc7 S x ys (k+1)
  |none=>none
noncomputable def YQ:List D->Option (List Int)
 |[]=>some []
 |.int i::r=>(YQ r).map (i :: ·)
 |_::_=>none
noncomputable def zJ (S:Store):D->Ty->Option Bool
 |.non,_=>some false
 |.bl _,t=>some (decide (t=.bool\/t=.int))
 |.int _,t=>some (decide (t=.int))
 |.str _,t=>some (decide (t=.str))
 |.tup _,t=>some (decide (t=.tuple))
 |.loc n,t=>match S[n]? with
  |some (.lst _)=>some (decide (t=.list))
  |some (.dt _)=>some (decide (t=.dict))
  |some (.dk _)=>some (decide (t=.dict))
  |_=>none
 |_,_=>none
noncomputable def UK (S:Store) (x:D):List Ty->Option Bool
 |[]=>some false
 |t::ts=>match zJ S x t with
  |some true=>some true
  |some false=>UK S x ts
  |none=>none
noncomputable def ixN (n:Nat) (i:Int):Option Nat:=if 0<=i then (if i<n then some i.toNat else none) else if -(n:Int)<=i then some (i+n).toNat else none
noncomputable def at' {α:Type} (xs:List α) (i:Int):Option α:=(ixN xs.length i).bind λj=>xs[j]?
noncomputable def sIx (n d:Nat):Option Int->Nat
 |none=>d
 |some i=>if i<0 then (i+n).toNat else min i.toNat n
noncomputable def cut (xs:List D) (lo hi:Option Int):List D:=(xs.drop (sIx xs.length 0 lo)).take (sIx xs.length xs.length hi-sIx xs.length 0 lo)
noncomputable def fits (i:Int):Bool:=decide (i.natAbs<2^1000)
noncomputable def binop (op:Bop) (x y:D) (S:Store):R D:=match op,x,y with
 |.add,.int a,.int b=>.ok (.int (a+b)) S
 |.sub,.int a,.int b=>.ok (.int (a-b)) S
 |.mul,.int a,.int b=>if (fits a&&fits b)=true then .ok (.int (a*b)) S else .no
 |.fdiv,.int a,.int b=>if 0<b/\b<1073741824 then .ok (.int (a / b)) S else .no
 |.mod,.int a,.int b=>if 0<b then .ok (.int (a%b)) S else .no
 |.pow,.int a,.int b=>if 0<=b/\b<=1000/\a.natAbs<2^64 then .ok (.int (a^b.toNat)) S else .no
 |.add,.tup a,.tup b=>if a.length+b.length<=lim then .ok (.tup (a++b)) S else .no
 |.mul,.tup a,.int b=>if 0<=b/\b<1000/\a.length<=1000 then .ok (.tup (List.replicate b.toNat a).flatten) S else .no
 |.mul,.loc m,.int b=>match Zh S m with
  |some a=>if 0<=b/\b<1000/\a.length<=1000 then .ok (.loc S.length) (S++[.lst (List.replicate b.toNat a).flatten]) else .no
  |none=>.no
 |.add,.loc m,.loc n=>match Zh S m,Zh S n with
  |some a,some b=>if a.length+b.length<=lim then .ok (.loc S.length) (S++[.lst (a++b)]) else .no
  |_,_=>.no
 |_,_,_=>.no
noncomputable def augop (op:Bop) (x y:D) (S:Store):R D:=match x,y with
 |.int _,.int _=>binop op x y S
 |_,_=>.no
noncomputable def ob {α:Type} (o:Option α) (S:Store):R α:=match o with
 |some a=>.ok a S
 |none=>.no
noncomputable def Zb9 (S:Store) (x:D):Option Ob->R Bool
 |some (.lst ys)=>ob (inL S x ys) S
 |some (.dt kvs)=>match x with
  |.tup k=>(ob (YQ k) S).bind λk S=>.ok ((kvs.map (·.1)).contains k) S
  |_=>.no
 |_=>.no
noncomputable def WG (S:Store) (x y:D):R Bool:=match y with
 |.tup ys=>ob (inL S x ys) S
 |.loc n=>Zb9 S x S[n]?
 |_=>.no
noncomputable def UZ:D->Option (List Int)
 |.tup ks=>YQ ks
 |_=>none
noncomputable def ZK:List D->Option (List (List Int))
 |[]=>some []
 |x::r=>match UZ x,ZK r with
  |some a,some b=>some (a::b)
  |_,_=>none
noncomputable def X4 (r:List Int):D:=.tup (r.map .int)
noncomputable def ltI:List Int->List Int->Bool
 |[],[]=>false
 |[],_::_=>true
 |_::_,[]=>false
 |a::x,b::y=>if a=b then ltI x y else decide (a<b)
noncomputable def WW (x:List Int):List (List Int)->List (List Int)
 |[]=>[x]
 |y::r=>if ltI x y then x::y::r else y::WW x r
noncomputable def ZM:List (List Int)->List (List Int)
 |[]=>[]
 |x::r=>WW x (ZM r)
noncomputable def Ug {α:Type} (lt:α->α->Bool) (x:α):List α->List α
 |[]=>[x]
 |y::r=>if lt x y then x::y::r else y::Ug lt x r
noncomputable def Zw {α:Type} (lt:α->α->Bool):List α->List α
 |[]=>[]
 |x::r=>Ug lt x (Zw lt r)
noncomputable def ltP:List (List Int)->List (List Int)->Bool
 |[],[]=>false
 |[],_::_=>true
 |_::_,[]=>false
 |a::x,b::y=>if a=b then ltP x y else ltI a b
noncomputable def Vl (P:List (List Int)):D:=.tup (P.map X4)
noncomputable def JR:D->Option (List (List Int))
 |.tup ks=>ZK ks
 |_=>none
noncomputable def Yf:List D->Option (List (List (List Int)))
 |[]=>some []
 |x::r=>match JR x,Yf r with
  |some a,some b=>some (a::b)
  |_,_=>none
noncomputable def cmpop (op:Cop) (x y:D) (S:Store):R D:=match op with
 |.eq=>(ob (eqD S Zm x y) S).bind λb S=>.ok (.bl b) S
 |.ne=>(ob (eqD S Zm x y) S).bind λb S=>.ok (.bl !b) S
 |.lt=>match x,y with
  |.int a,.int b=>.ok (.bl (decide (a<b))) S
  |.tup a,.tup b=>(ob (ZK a) S).bind λP S=>(ob (ZK b) S).bind λQ S=>.ok (.bl (ltP P Q)) S
  |_,_=>.no
 |.gt=>match x,y with
  |.int a,.int b=>.ok (.bl (decide (b<a))) S
  |_,_=>.no
 |.le=>match x,y with
  |.int a,.int b=>.ok (.bl (decide (a<=b))) S
  |_,_=>.no
 |.ge=>match x,y with
  |.int a,.int b=>.ok (.bl (decide (b<=a))) S
  |_,_=>.no
 |.is=>match x,y with
  |_,.non=>.ok (.bl (decide (x=.non))) S
  |.bl a,.bl b=>.ok (.bl (decide (a=b))) S
  |_,_=>.no
 |.isn=>match x,y with
  |_,.non=>.ok (.bl (decide (x≠.non))) S
  |.bl a,.bl b=>.ok (.bl (decide (a≠b))) S
  |_,_=>.no
 |.inn=>(WG S x y).bind λb S=>.ok (.bl b) S
 |.nin=>(WG S x y).bind λb S=>.ok (.bl !b) S
noncomputable def getix (x y:D) (S:Store):R D:=match x,y with
 |.tup xs,.int i=>ob (at' xs i) S
 |.loc n,.int i=>match Z9 S n with
  |some xs=>ob (at' xs i) S
  |none=>.no
 |_,_=>.no
noncomputable def slice (x:D) (lo hi:Option Int) (S:Store):R D:=match x with
 |.tup xs=>.ok (.tup (cut xs lo hi)) S
 |.loc n=>match Zh S n with
  |some xs=>.ok (.loc S.length) (S++[.lst (cut xs lo hi)])
  |none=>.no
 |_=>.no
noncomputable def reversed (x:D) (S:Store):R D:=match x with
 |.tup xs=>.ok (.tup xs.reverse) S
 |_=>.no
noncomputable def ZbR {κ:Type} [DecidableEq κ] (k:κ) (v:D) (kvs:List (κ×D)):List (κ×D):=
 if (kvs.any λp=>decide (p.1=k))=true then kvs.map (λp=>if p.1=k then (p.1,v) else p) else kvs++[(k,v)]
noncomputable def setix (o i v:D) (S:Store):R Unit:=match o,i with
 |.loc n,.int k=>match S[n]? with
  |some (.lst xs)=>(ob (ixN xs.length k) S).bind λj S=>.ok () (S.set n (.lst (xs.set j v)))
  |_=>.no
 |_,_=>.no
noncomputable def Zcc (o i v:D) (S:Store):R Unit:=match o,i with
 |.loc n,.tup k=>match S[n]? with
  |some (.dt kvs)=>(ob (YQ k) S).bind λk S=>if kvs.length<lim then .ok () (S.set n (.dt (ZbR k v kvs))) else .no
  |_=>.no
 |_,_=>.no
noncomputable def ptruth:D->Option Bool
 |.non=>some false
 |.bl b=>some b
 |.int i=>some (decide (i≠0))
 |_=>none
noncomputable def truths:List D->Option (List Bool)
 |[]=>some []
 |x::xs=>match ptruth x,truths xs with
  |some b,some bs=>some (b::bs)
  |_,_=>none
noncomputable def Qh:List D->Option (List Int)
 |[]=>some []
 |.int i::r=>(Qh r).map (i :: ·)
 |_::_=>none
noncomputable def QI (is:List Int):Bool:=decide (is.length<=1000)&&is.all λi=>decide (-1099511627776<=i/\i<=1099511627776)
noncomputable def sortOk (rs:List (List Int)):Bool:=decide (rs.length<64)&&decide rs.Nodup&&rs.all λr=>!r.isEmpty
noncomputable def sorted (rev:Bool) (n:Nat) (S:Store):R D:=(ob (Zh S n) S).bind λxs S=>(ob (ZK xs) S).bind λrs S=>
 if sortOk rs=true then .ok (.loc S.length) (S++[.lst ((if rev then (ZM rs).reverse else ZM rs).map X4)]) else .no
noncomputable def twin:List (List (List Int))->Bool
 |[P,Q]=>decide (P=Q) && !P.isEmpty
 |_=>false
noncomputable def ZH (ps:List (List (List Int))):Bool:=(decide (ps.length<64)&&decide ps.Nodup&&(decide (ps.length<=1)||ps.all λP=>!P.isEmpty))||twin ps
noncomputable def wR:List D->Bool
 |.tup (.int _::_)::_=>true
 |_=>false
noncomputable def jE (n:Nat) (S:Store):R D:=(ob (Zh S n) S).bind λxs S=>if wR xs=true then sorted false n S else (ob (Yf xs) S).bind λps S=>if ZH ps=true then .ok (.loc S.length) (S++[.lst ((Zw ltP ps).map Vl)]) else .no
noncomputable def dedup:List D->List D->List D
 |acc,[]=>acc
 |acc,x::r=>if acc.contains x then dedup acc r else dedup (acc++[x]) r
noncomputable def YH (S:Store):D->Option (List D)
 |.tup xs=>some xs
 |.loc n=>Z9 S n
 |_=>none
noncomputable def ZbO (S:Store):D->Option (List D)
 |.loc n=>match S[n]? with
  |some (.dt kvs)=>some (kvs.map λp=>.tup (p.1.map .int))
  |_=>none
 |_=>none
noncomputable def bltin (f:Bf) (as:List D) (S:Store):R D:=match f,as with
 |.len,[x]=>(ob (YH S x) S).bind λxs S=>.ok (.int xs.length) S
 |.max2,[.int a,.int b]=>.ok (.int (if b>a then b else a)) S
 |.min2,[.int a,.int b]=>.ok (.int (if b<a then b else a)) S
 |.toInt,[.int a]=>.ok (.int a) S
 |.toInt,[.bl b]=>.ok (.int (b2i b)) S
 |.tuple,[.tup xs]=>.ok (.tup xs) S
 |.tuple,[.loc n]=>(ob (Zh S n) S).bind λxs S=>.ok (.tup xs) S
 |.list,[x]=>(ob (YH S x) S).bind λxs S=>.ok (.loc S.length) (S++[.lst xs])
 |.all,[.loc n]=>(ob (Zh S n) S).bind λxs S=>(ob (truths xs) S).bind λbs S=>.ok (.bl (bs.all id)) S
 |.any,[x]=>(ob (YH S x) S).bind λxs S=>(ob (truths xs) S).bind λbs S=>.ok (.bl (bs.any id)) S
 |.sum,[.loc n]=>(ob (Zh S n) S).bind λxs S=>(ob (Qh xs) S).bind λis S=>if QI is=true then .ok (.int is.sum) S else .no
 |.sorted,[.loc n]=>jE n S
 |.sortedR,[.loc n]=>sorted true n S
 |.set,[x]=>(ob (YH S x) S).bind λxs S=>.ok (.loc S.length) (S++[.st (dedup [] xs)])
 |.listD,[x]=>(ob (ZbO S x) S).bind λxs S=>.ok (.loc S.length) (S++[.lst xs])
 |_,_=>.no
noncomputable def method (m:Mf) (o:D) (as:List D) (S:Store):R D:=match m,o,as with
 |.append,.loc n,[x]=>(ob (Zh S n) S).bind λxs S=>if xs.length<lim then .ok .non (S.set n (.lst (xs++[x]))) else .no
 |.extend,.loc n,[.loc k]=>if n=k then .no else (ob (Zh S n) S).bind λxs S=>(ob (Zh S k) S).bind λys S=>if xs.length+ys.length<=lim then .ok .non (S.set n (.lst (xs++ys))) else .no
 |.index,.loc n,[x]=>(ob (Zh S n) S).bind λxs S=>(ob (Zc7 S x xs 0) S).bind λk S=>.ok (.int k) S
 |_,_,_=>.no
noncomputable def UY (S:Store):D->Bool
 |.loc n=>(Zh S n).isSome
 |_=>false
noncomputable def Zs (lo:Int) (n:Nat):List D:=(List.range n).map λ(k:Nat)=>.int (lo+(k:Int))
noncomputable def small (i:Int):Bool:=decide (-(2^62)<=i/\i<2^62)
noncomputable def fill:List Nat->List D->Lc->Option Lc
 |[],[],σ=>some σ
 |i::t,x::xs,σ=>fill t xs (σ.set i (some x))
 |_,_,_=>none
noncomputable def assign (t:List Nat) (x:D) (S:Store) (σ:Lc):Option Lc:=match t with
 |[i]=>some (σ.set i (some x))
 |t=>match x with
  |.tup xs=>fill t xs σ
  |.loc n=>match Zh S n with
   |some xs=>fill t xs σ
   |none=>none
  |_=>none
inductive Fl where | nx (σ:Lc) | ret (d:D) | brk (σ:Lc) | cnt (σ:Lc)
noncomputable abbrev Calls:=Nat->List D->Store->R D
structure Walk where
 items:List D
 kept:List (Nat×List D)
noncomputable def Walk.still (w:Walk) (S:Store):Bool:=w.kept.all λp=>decide (S[p.1]? = some (.lst p.2))
noncomputable def Yk (S:Store):D->Option Walk
 |.tup xs=>some ⟨xs,[]⟩
 |.loc n=>match S[n]? with
  |some (.lst xs)=>some ⟨xs,[(n,xs)]⟩
  |_=>none
 |_=>none
noncomputable def Vf (w:Walk) (body:D->Lc->Store->R Fl):List D->Lc->Store->R Fl
 |[],σ,S=>if w.still S then .ok (.nx σ) S else .no
 |x::xs,σ,S=>if w.still S then match body x σ S with
   |.ok (.nx σ') S'=>Vf w body xs σ' S'
   |.ok (.cnt σ') S'=>Vf w body xs σ' S'
   |.ok (.brk σ') S'=>.ok (.nx σ') S'
   |.ok (.ret d) S'=>.ok (.ret d) S'
   |.ex c S'=>.ex c S'
   |.no=>.no
  else .no
noncomputable def YW (test:Lc->Store->R Bool) (body:Lc->Store->R Fl):Nat->Lc->Store->R Fl
 |0,_,_=>.no
 |n+1,σ,S=>(test σ S).bind λb S=>if b then match body σ S with
   |.ok (.nx σ') S'=>YW test body n σ' S'
   |.ok (.cnt σ') S'=>YW test body n σ' S'
   |.ok (.brk σ') S'=>.ok (.nx σ') S'
   |.ok (.ret d) S'=>.ok (.ret d) S'
   |.ex c S'=>.ex c S'
   |.no=>.no
  else .ok (.nx σ) S
noncomputable def Yp (w:Walk) (turn:D->Lc->Store->R Lc):List D->Lc->Store->R Lc
 |[],σ,S=>if w.still S then .ok σ S else .no
 |x::xs,σ,S=>if w.still S then (turn x σ S).bind λσ S=>Yp w turn xs σ S else .no
noncomputable def push (n:Nat) (y:D) (S:Store):R Unit:=match Zh S n with
 |some ys=>if ys.length<lim then .ok () (S.set n (.lst (ys++[y]))) else .no
 |none=>.no
noncomputable def caught (cap:List Nat) (nl:Nat) (σ:Lc):Lc:=List.replicate nl none++cap.map λi=>(σ[i]?).join
noncomputable def Ve:Nat:=1000
mutual
noncomputable def ev (C:Calls):E->Lc->Store->R D
 |.c d,_,S=>.ok d S
 |.v i,σ,S=>ob (σ[i]?).join S
 |.tup es,σ,S=>(evs C es σ S).bind λxs S=>if xs.length<=lim then .ok (.tup xs) S else .no
 |.lst es,σ,S=>(evs C es σ S).bind λxs S=>if xs.length<=lim then .ok (.loc S.length) (S++[.lst xs]) else .no
 |.dnew,_,S=>.ok (.loc S.length) (S++[.dt []])
 |.dput1 k v,σ,S=>(ev C k σ S).bind λx S=>(ev C v σ S).bind λy S=>match x with
  |.tup k=>(ob (YQ k) S).bind λk S=>.ok (.loc S.length) (S++[.dt [(k,y)]])
  |_=>.no
 |.bin op a b,σ,S=>(ev C a σ S).bind λx S=>(ev C b σ S).bind λy S=>binop op x y S
 |.neg a,σ,S=>(ev C a σ S).bind λx S=>match x with
  |.int i=>.ok (.int (-i)) S
  |_=>.no
 |.not a,σ,S=>(ev C a σ S).bind λx S=>(ob (truth S x) S).bind λb S=>.ok (.bl !b) S
 |.and a b,σ,S=>(ev C a σ S).bind λx S=>match x with
  |.bl c=>if c then ev C b σ S else .ok (.bl false) S
  |_=>.no
 |.or a b,σ,S=>(ev C a σ S).bind λx S=>match x with
  |.bl c=>if c then .ok (.bl true) S else ev C b σ S
  |_=>.no
 |.ite t a b,σ,S=>(ev C t σ S).bind λx S=>(ob (truth S x) S).bind λc S=>if c then ev C a σ S else ev C b σ S
 |.cmp op a b,σ,S=>(ev C a σ S).bind λx S=>(ev C b σ S).bind λy S=>cmpop op x y S
 |.chain o p a b d,σ,S=>(ev C a σ S).bind λx S=>(ev C b σ S).bind λy S=>(cmpop o x y S).bind λz S=>match z with
  |.bl c=>if c then (ev C d σ S).bind λw S=>cmpop p y w S else .ok (.bl false) S
  |_=>.no
 |.ix a i,σ,S=>(ev C a σ S).bind λx S=>(ev C i σ S).bind λy S=>getix x y S
 |.sl a lo hi,σ,S=>(ev C a σ S).bind λx S=>(evo C lo σ S).bind λl S=>(evo C hi σ S).bind λh S=>slice x l h S
 |.rev a,σ,S=>(ev C a σ S).bind λx S=>reversed x S
 |.call f as,σ,S=>(evs C as σ S).bind λxs S=>C f xs S
 |.blt f as,σ,S=>(evs C as σ S).bind λxs S=>bltin f xs S
 |.mt m o as,σ,S=>(ev C o σ S).bind λx S=>if UY S x=true then (evs C as σ S).bind λxs S=>method m x xs S else .no
 |.isi a ts,σ,S=>(ev C a σ S).bind λx S=>(ob (UK S x ts) S).bind λb S=>.ok (.bl b) S
 |.inT a tab,σ,S=>(ev C a σ S).bind λx S=>match x with
  |.int i=>.ok (.bl ((tab.map (·.1)).contains i)) S
  |_=>.no
 |.getT tab a,σ,S=>(ev C a σ S).bind λx S=>match x with
  |.int i=>(ob (tab.lookup i) S).bind λj S=>.ok (.int j) S
  |_=>.no
 |.comp1 cap nl t it ifs elt,σ,S=>(evw C it σ S).bind λw S=>
   (Yp w (λx σ S1=>(ob (assign t x S1 σ) S1).bind λσ S1=>(evt C ifs σ S1).bind λb S1=>if b then (ev C elt σ S1).bind λy S1=>(push S.length y S1).bind λ_ S1=>.ok σ S1 else .ok σ S1) w.items (caught cap nl σ) (S++[.lst []])).bind
    λ_ S1=>.ok (.loc S.length) S1
 |.comp2 cap nl t it ifs u jt jfs elt,σ,S=>(evw C it σ S).bind λw S=>
   (Yp w (λx σ S1=>(ob (assign t x S1 σ) S1).bind λσ S1=>(evt C ifs σ S1).bind λb S1=>if b then
    (evw C jt σ S1).bind λw2 S1=>Yp w2 (λx σ S1=>(ob (assign u x S1 σ) S1).bind λσ S1=>(evt C jfs σ S1).bind λb S1=>if b then (ev C elt σ S1).bind λy S1=>(push S.length y S1).bind λ_ S1=>.ok σ S1 else .ok σ S1) w2.items σ S1
    else .ok σ S1) w.items (caught cap nl σ) (S++[.lst []])).bind
    λ_ S1=>.ok (.loc S.length) S1
 |.fstr,_,_=>.no
noncomputable def evs (C:Calls):List E->Lc->Store->R (List D)
 |[],_,S=>.ok [] S
 |e::es,σ,S=>(ev C e σ S).bind λx S=>(evs C es σ S).bind λxs S=>.ok (x::xs) S
noncomputable def evo (C:Calls):Option E->Lc->Store->R (Option Int)
 |none,_,S=>.ok none S
 |some e,σ,S=>(ev C e σ S).bind λx S=>match x with
  |.int i=>.ok (some i) S
  |_=>.no
noncomputable def evt (C:Calls):List E->Lc->Store->R Bool
 |[],_,S=>.ok true S
 |e::es,σ,S=>(ev C e σ S).bind λx S=>(ob (truth S x) S).bind λb S=>if b then evt C es σ S else .ok false S
noncomputable def evw (C:Calls):W->Lc->Store->R Walk
 |.rng1 a,σ,S=>(ev C a σ S).bind λx S=>match x with
  |.int i=>if small i then .ok ⟨Zs 0 i.toNat,[]⟩ S else .no
  |_=>.no
 |.rng2 a b,σ,S=>(ev C a σ S).bind λx S=>(ev C b σ S).bind λy S=>match x,y with
  |.int i,.int j=>if (small i&&small j)=true then .ok ⟨Zs i (j-i).toNat,[]⟩ S else .no
  |_,_=>.no
 |.rrng a b,σ,S=>(ev C a σ S).bind λx S=>(ev C b σ S).bind λy S=>match x,y with
  |.int i,.int j=>if (small i&&small j)=true then .ok ⟨(Zs i (j-i).toNat).reverse,[]⟩ S else .no
  |_,_=>.no
 |.zip a b,σ,S=>(ev C a σ S).bind λx S=>(ev C b σ S).bind λy S=>match Yk S x,Yk S y with
  |some v,some w=>.ok ⟨(v.items.zip w.items).map λp=>.tup [p.1,p.2],v.kept++w.kept⟩ S
  |_,_=>.no
 |.enum a,σ,S=>(ev C a σ S).bind λx S=>match Yk S x with
  |some w=>.ok ⟨(Zs 0 w.items.length).zip w.items |>.map λp=>.tup [p.1,p.2],w.kept⟩ S
  |none=>.no
 |.of e,σ,S=>(ev C e σ S).bind λx S=>ob (Yk S x) S
end
noncomputable def tst (C:Calls) (e:E) (σ:Lc) (S:Store):R Bool:=(ev C e σ S).bind λx S=>ob (truth S x) S
mutual
noncomputable def run (C:Calls):Sm->Lc->Store->R Fl
 |.asg t e,σ,S=>(ev C e σ S).bind λx S=>(ob (assign t x S σ) S).bind λσ S=>.ok (.nx σ) S
 |.par t es,σ,S=>(evs C es σ S).bind λxs S=>(ob (fill t xs σ) S).bind λσ S=>.ok (.nx σ) S
 |.aug i op e,σ,S=>(ob (σ[i]?).join S).bind λx S=>(ev C e σ S).bind λy S=>(augop op x y S).bind λz S=>.ok (.nx (σ.set i (some z))) S
 |.put o i e,σ,S=>(ev C e σ S).bind λv S=>(ev C o σ S).bind λx S=>(ev C i σ S).bind λy S=>(setix x y v S).bind λ_ S=>.ok (.nx σ) S
 |.dput o i e,σ,S=>(ev C e σ S).bind λv S=>(ev C o σ S).bind λx S=>(ev C i σ S).bind λy S=>(Zcc x y v S).bind λ_ S=>.ok (.nx σ) S
 |.ret e,σ,S=>(ev C e σ S).bind λx S=>.ok (.ret x) S
 |.ex e,σ,S=>(ev C e σ S).bind λ_ S=>.ok (.nx σ) S
 |.ite t a b,σ,S=>(tst C t σ S).bind λc S=>if c then runs C a σ S else runs C b σ S
 |.forr t it b,σ,S=>(evw C it σ S).bind λw S=>Vf w (λx σ S=>(ob (assign t x S σ) S).bind λσ S=>runs C b σ S) w.items σ S
 |.whl t b,σ,S=>YW (tst C t) (runs C b) Ve σ S
 |.raise c as,σ,S=>(evs C as σ S).bind λ_ S=>.ex c S
 |.pas,σ,S=>.ok (.nx σ) S
 |.brk,σ,S=>.ok (.brk σ) S
 |.cnt,σ,S=>.ok (.cnt σ) S
noncomputable def runs (C:Calls):List Sm->Lc->Store->R Fl
 |[],σ,S=>.ok (.nx σ) S
 |s::ss,σ,S=>(run C s σ S).bind λf S=>match f with
  |.nx σ=>runs C ss σ S
  |f=>.ok f S
end
structure Fn where
 ps:Nat
 ns:Nat
 body:List Sm
noncomputable def start (n:Nat) (xs:List D):Lc:=xs.map some++List.replicate (n-xs.length) none
noncomputable def calls (F:List Fn):Nat->Calls
 |0,_,_,_=>.no
 |d+1,f,xs,S=>match F[f]? with
  |some fn=>if xs.length=fn.ps then (runs (calls F d) fn.body (start fn.ns xs) S).bind λf S=>match f with
    |.ret x=>.ok x S
    |.nx _=>.ok .non S
    |_=>.no
   else .no
  |none=>.no
end Ev
namespace Sd
open PySem PySem.Spec PyProof.Rows L2
open Ev (D Ob Store Lc R E Sm Calls Walk Fl Fn Bop Cop Ty Bf Mf ev evs evo evt evw tst run runs)
mutual
def Rep (ρ:List Addr) (H:Hp):D->V->Prop
 |.non,v=>v=.non
 |.bl b,v=>v=.bl b
 |.int i,v=>v=.int i
 |.str x,v=>v=.str x
 |.tup ds,v=>∃a xs,v=.ref a/\H a=some (.tup xs)/\Rq ρ H ds xs
 |.loc n,v=>∃a,v=.ref a/\ρ[n]? = some a
 |.fn _,_=>False
 |.exc _ _,_=>False
def Rq (ρ:List Addr) (H:Hp):List D->List V->Prop
 |[],xs=>xs=[]
 |d::ds,xs=>∃v vs,xs=v::vs/\Rep ρ H d v/\Rq ρ H ds vs
end
structure Fut (ρ:List Addr) (H:Hp) (ρ':List Addr) (H':Hp):Prop where
 pre:∃t,ρ'=ρ++t
 tup:∀a xs,H a=some (.tup xs)->H' a=some (.tup xs)
theorem Fut.refl (ρ:List Addr) (H:Hp):Fut ρ H ρ H:=⟨⟨[],by simp⟩,λ_ _ h=>h⟩
theorem Fut.trans {ρ ρ1 ρ2:List Addr}{H H1 H2:Hp}(a:Fut ρ H ρ1 H1) (b:Fut ρ1 H1 ρ2 H2):Fut ρ H ρ2 H2:=
 ⟨by obtain⟨t,e⟩:=a.pre;obtain⟨u,f⟩:=b.pre;exact⟨t++u,by rw[f,e,List.append_assoc]⟩,λc xs h=>b.tup c xs (a.tup c xs h)⟩
theorem Fut.at {ρ ρ':List Addr}{H H':Hp}(f:Fut ρ H ρ' H') {n:Nat}{a:Addr}(h:ρ[n]? = some a):ρ'[n]? = some a:=by
 obtain⟨t,rfl⟩:=f.pre;have hn:n<ρ.length:=(Pr.mp h).1;rw[PB hn];exact h
mutual
theorem Rep.mono {ρ ρ':List Addr}{H H':Hp}(f:Fut ρ H ρ' H'):∀{d:D}{v:V},Rep ρ H d v->Rep ρ' H' d v
 |.non,_,h | .bl _,_,h | .int _,_,h | .str _,_,h=>by unfold Rep at h ⊢;exact h
 |.tup ds,v,h=>by
  unfold Rep at h ⊢;obtain⟨a,xs,e,t,r⟩:=h;exact⟨a,xs,e,f.tup a xs t,Rq.mono f r⟩
 |.loc n,v,h=>by
  unfold Rep at h ⊢;obtain⟨a,e,t⟩:=h;exact⟨a,e,f.at t⟩
 |.fn _,_,h | .exc _ _,_,h=>by unfold Rep at h;exact h.elim
theorem Rq.mono {ρ ρ':List Addr}{H H':Hp}(f:Fut ρ H ρ' H'):∀{ds:List D}{xs:List V},Rq ρ H ds xs->Rq ρ' H' ds xs
 |[],_,h=>by unfold Rq at h ⊢;exact h
 |d::ds,xs,h=>by
  unfold Rq at h ⊢;obtain⟨v,vs,e,r,rs⟩:=h;exact⟨v,vs,e,Rep.mono f r,Rq.mono f rs⟩
end
theorem Rq.nil {ρ:List Addr}{H:Hp}:Rq ρ H [] []:=by unfold Rq;rfl
theorem Rq.cons {ρ:List Addr}{H:Hp}{d:D}{v:V}{ds:List D}{vs:List V}(r:Rep ρ H d v) (rs:Rq ρ H ds vs):Rq ρ H (d::ds) (v::vs):=by
 unfold Rq;exact⟨v,vs,rfl,r,rs⟩
theorem Rq.length {ρ:List Addr}{H:Hp}:∀{ds:List D}{xs:List V},Rq ρ H ds xs->xs.length=ds.length
 |[],_,h=>by unfold Rq at h;rw[h];rfl
 |d::ds,xs,h=>by
  unfold Rq at h;obtain⟨v,vs,rfl,_,rs⟩:=h;rw[Px,Px,Rq.length rs]
theorem Rq.append {ρ:List Addr}{H:Hp}:∀{ds es:List D}{xs ys:List V},Rq ρ H ds xs->Rq ρ H es ys->Rq ρ H (ds++es) (xs++ys)
 |[],_,_,_,h,r=>by unfold Rq at h;rw[h];exact r
 |d::ds,_,_,_,h,r=>by
  unfold Rq at h;obtain⟨v,vs,rfl,a,rs⟩:=h;exact Rq.cons a (Rq.append rs r)
theorem Rq.take {ρ:List Addr}{H:Hp}:∀{ds:List D}{xs:List V}(k:Nat),Rq ρ H ds xs->Rq ρ H (ds.take k) (xs.take k)
 |_,_,0,_=>Rq.nil
 |[],_,k+1,h=>by unfold Rq at h;rw[h];exact Rq.nil
 |d::ds,_,k+1,h=>by
  unfold Rq at h;obtain⟨v,vs,rfl,a,rs⟩:=h;exact Rq.cons a (Rq.take k rs)
theorem Rq.drop {ρ:List Addr}{H:Hp}:∀{ds:List D}{xs:List V}(k:Nat),Rq ρ H ds xs->Rq ρ H (ds.drop k) (xs.drop k)
 |_,_,0,h=>h
 |[],_,k+1,h=>by unfold Rq at h;rw[h];exact Rq.nil
 |d::ds,_,k+1,h=>by
  unfold Rq at h;obtain⟨v,vs,rfl,a,rs⟩:=h;exact Rq.drop k rs
theorem Rq.get {ρ:List Addr}{H:Hp}:∀{ds:List D}{xs:List V}{i:Nat}{d:D},Rq ρ H ds xs->ds[i]? = some d->∃v,xs[i]? = some v/\Rep ρ H d v
 |[],_,_,_,_,e=>by simp at e
 |d::ds,_,0,_,h,e=>by
  unfold Rq at h;obtain⟨v,vs,rfl,a,rs⟩:=h;simp at e;subst e;exact⟨v,rfl,a⟩
 |d::ds,_,i+1,_,h,e=>by
  unfold Rq at h;obtain⟨v,vs,rfl,a,rs⟩:=h;obtain⟨u,q,r⟩:=Rq.get (i:=i) rs (by simpa using e)
  exact⟨u,by simpa using q,r⟩
theorem Rq.set {ρ:List Addr}{H:Hp}{d:D}{v:V}(r:Rep ρ H d v):∀{ds:List D}{xs:List V}(i:Nat),Rq ρ H ds xs->Rq ρ H (ds.set i d) (xs.set i v)
 |[],_,i,h=>by unfold Rq at h;rw[h];exact Rq.nil
 |_::_,_,0,h=>by
  unfold Rq at h;obtain⟨_,_,rfl,_,rs⟩:=h;exact Rq.cons r rs
 |_::_,_,i+1,h=>by
  unfold Rq at h;obtain⟨_,_,rfl,a,rs⟩:=h;exact Rq.cons a (Rq.set r i rs)
theorem Rq.reverse {ρ:List Addr}{H:Hp}:∀{ds:List D}{xs:List V},Rq ρ H ds xs->Rq ρ H ds.reverse xs.reverse
 |[],_,h=>by unfold Rq at h;rw[h];exact Rq.nil
 |d::ds,_,h=>by
  unfold Rq at h;obtain⟨v,vs,rfl,a,rs⟩:=h;rw[Ka,Ka];exact Rq.append (Rq.reverse rs) (Rq.cons a Rq.nil)
theorem Rq.rep {ρ:List Addr}{H:Hp}{ds:List D}{xs:List V}(h:Rq ρ H ds xs):∀k:Nat,Rq ρ H (List.replicate k ds).flatten (List.replicate k xs).flatten
 |0=>Rq.nil
 |k+1=>by
  rw[PZ,PZ,P5,P5];exact Rq.append h (Rq.rep h k)
theorem Rq.ints {ρ:List Addr}{H:Hp}:∀ns:List Int,Rq ρ H (ns.map D.int) (ns.map V.int)
 |[]=>Rq.nil
 |n::ns=>Rq.cons (by unfold Rep;rfl) (Rq.ints ns)
def Scr (K:PySem.W.Frag) (H:Hp) (a:Addr) (ns:List Int):Prop:=
 (∃o,H a=some (.frz o (.lst (ns.map V.int))))\/
  ∃(o:Obj) (its:Array Value) (n:Nat),K.lookup a=some o/\o.cls=.type "list"/\o.dict=none/\o.data=.seq its n/\its.size<=sizeLine/\Vals (ns.map V.int) its.toList
theorem Scr.sq {K:PySem.W.Frag}{H:Hp}{a:Addr}{ns:List Int}(h:Scr K H a ns):SqL K H a (ns.map V.int):=by
 rcases h with ⟨o,h⟩ | h
 ·exact .inl (.inr ⟨o,h⟩)
 ·exact .inr h
def Za9 (ρ:List Addr) (H:Hp) (kvs:List (List Int×D)) (vs:List (List Key×V)):Prop:=
 Paired (λ(p:List Int×D) (q:List Key×V)=>q.1=p.1.map Sum.inl/\Rep ρ H p.2 q.2) kvs vs
def ZcQ (ρ:List Addr) (H:Hp) (kvs:List (Int×D)) (vs:List (Key×V)):Prop:=
 Paired (λ(p:Int×D) (q:Key×V)=>q.1=Sum.inl p.1/\Rep ρ H p.2 q.2) kvs vs
def Jo (K:PySem.W.Frag) (ρ:List Addr) (H:Hp) (a:Addr):Ob->Prop
 |.lst ds=>∃xs,H a=some (.lst xs)/\Rq ρ H ds xs
 |.scr ns=>Scr K H a ns
 |.dt kvs=>∃vs,H a=some (.dT vs)/\Za9 ρ H kvs vs
 |.dk kvs=>∃vs,H a=some (.dK vs)/\ZcQ ρ H kvs vs
 |.st _=>False
structure St3 (K:PySem.W.Frag) (ρ:List Addr) (S:Store) (H:Hp):Prop where
 len:ρ.length=S.length
 nd:∀(m n:Nat) (a:Addr),ρ[m]? = some a->ρ[n]? = some a->m≠n->(∃ns,S[m]? = some (.scr ns))\/(∃ns,S[n]? = some (.scr ns))
 ob:∀(n:Nat) (o:Ob) (a:Addr),S[n]? = some o->ρ[n]? = some a->Jo K ρ H a o
structure LocR (ρ:List Addr) (H:Hp) (l:Lc) (σ:L2.St):Prop where
 len:l.length=σ.length
 val:∀(i:Nat) (d:D),l[i]? = some (some d)->∃v,σ[i]? = some (some v)/\Rep ρ H d v
theorem LocR.mono {ρ ρ':List Addr}{H H':Hp}{l:Lc}{σ:L2.St}(f:Fut ρ H ρ' H') (r:LocR ρ H l σ):LocR ρ' H' l σ:=
 ⟨r.len,λi d e=>let ⟨v,q,h⟩:=r.val i d e;⟨v,q,h.mono f⟩⟩
theorem LocR.set {ρ:List Addr}{H:Hp}{l:Lc}{σ:L2.St}{d:D}{v:V}(r:LocR ρ H l σ) (i:Nat) (h:Rep ρ H d v):LocR ρ H (l.set i (some d)) (σ.set i (some v)):=
 ⟨by rw[P1,P1];exact r.len,λj e q=>by
  rw[NG] at q ⊢;split at q
  ·rename_i hij
   subst hij;split at q
   ·rename_i hl
    cases q;rw[Pg rfl,Pg (by rw[<-r.len];exact hl)]
    exact⟨v,rfl,h⟩
   ·cases q
  ·rename_i hij
   rw[Pi hij];exact r.val j e q⟩
def End {α β:Type} (K:PySem.W.Frag) (xw:Nat->Hp->Prop) (rep:List Addr->Hp->α->β->Prop) (ρ:List Addr) (H:Hp) (Q:β->Hp->Prop):R α->Prop
 |.ok d S=>∀ρ' H' v,Fut ρ H ρ' H'->St3 K ρ' S H'->rep ρ' H' d v->Q v H'
 |.ex c S=>∀ρ' H',Fut ρ H ρ' H'->St3 K ρ' S H'->xw c H'
 |.no=>False
section
variable {K:PySem.W.Frag}{xw:Nat->Hp->Prop}{ρ ρ':List Addr}{H H':Hp}{α β α' β':Type}{rep:List Addr->Hp->α->β->Prop}{rep':List Addr->Hp->α'->β'->Prop}
theorem End.mono {r:R α}{Q:β->Hp->Prop}(f:Fut ρ H ρ' H') (h:End K xw rep ρ H Q r):End K xw rep ρ' H' Q r:=by
 cases r with
 |ok d S=>exact λρ2 H2 v g st r=>h ρ2 H2 v (f.trans g) st r
 |ex c S=>exact λρ2 H2 g st=>h ρ2 H2 (f.trans g) st
 |no=>exact h
theorem End.bind {r:R α}{f:α->Store->R α'}{Q:β'->Hp->Prop}{Q1:β->Hp->Prop}(h:End K xw rep' ρ H Q (r.bind f))
  (k:∀d S ρ1 H1 v,Fut ρ H ρ1 H1->St3 K ρ1 S H1->rep ρ1 H1 d v->End K xw rep' ρ1 H1 Q (f d S)->Q1 v H1):End K xw rep ρ H Q1 r:=by
 cases r with
 |ok d S=>exact λρ1 H1 v g st r=>k d S ρ1 H1 v g st r (End.mono g h)
 |ex c S=>exact h
 |no=>exact h
theorem End.ok {a:α}{S:Store}{Q:β->Hp->Prop}{v:β}(h:End K xw rep ρ H Q (.ok a S)) (st:St3 K ρ S H) (r:rep ρ H a v):Q v H:=h ρ H v (Fut.refl ρ H) st r
theorem End.ob {o:Option α}{S:Store}{f:α->Store->R α'}{Q:β'->Hp->Prop}(h:End K xw rep' ρ H Q ((Ev.ob o S).bind f)):∃a,o=some a/\End K xw rep' ρ H Q (f a S):=by
 cases o with
 |none=>exact h.elim
 |some a=>exact⟨a,rfl,h⟩
theorem End.ite {c:Prop}[Decidable c]{a b:R α}{Q:β->Hp->Prop}(h:End K xw rep ρ H Q (if c then a else b)):(c/\End K xw rep ρ H Q a)\/(¬c/\End K xw rep ρ H Q b):=by
 split at h
 ·exact .inl ⟨‹_›,h⟩
 ·exact .inr ⟨‹_›,h⟩
theorem End.guard {c:Prop}[Decidable c]{a:R α}{Q:β->Hp->Prop}(h:End K xw rep ρ H Q (if c then a else .no)):c/\End K xw rep ρ H Q a:=by
 rcases h.ite with h | ⟨_,h⟩
 ·exact h
 ·exact h.elim
end
def Xu (_:List Addr) (_:Hp) (a b:Bool):Prop:=a=b
def ZaV (_:List Addr) (_:Hp) (a b:Option Int):Prop:=a=b
section
variable (X:Cx) (xw:Nat->Hp->Prop)
def tE (f:Lc->Store->R D):TE:=λσ H Q=>∃ρ l S,St3 X.K ρ S H/\LocR ρ H l σ/\End X.K xw Rep ρ H Q (f l S)
def tA (f:Lc->Store->R (List D)):TA:=λσ H Q=>∃ρ l S,St3 X.K ρ S H/\LocR ρ H l σ/\End X.K xw Rq ρ H Q (f l S)
def tB3 (f:Lc->Store->R Bool):TT:=λσ H Q=>∃ρ l S,St3 X.K ρ S H/\LocR ρ H l σ/\End X.K xw Xu ρ H Q (f l S)
def tO (f:Lc->Store->R (Option Int)):TO:=λσ H Q=>∃ρ l S,St3 X.K ρ S H/\LocR ρ H l σ/\End X.K xw ZaV ρ H Q (f l S)
variable (C:Calls)
def CE (e:Expr) (i:E):Prop:=PE X e (tE X xw (ev C i))
def CT (e:Expr) (i:E):Prop:=PT X e (tB3 X xw (tst C i))
def CA (es:List Expr) (is:List E):Prop:=PA X es (tA X xw (evs C is))
def CO (e:Option Expr) (i:Option E):Prop:=PO X e (tO X xw (evo C i))
end
theorem PE.imp {X:Cx}{e:Expr}{t t':TE}(h:PE X e t) (k:∀σ H Q,t' σ H Q->t σ H Q):PE X e t':=λpq s σ H Q I q=>h pq s σ H Q I (k σ H Q q)
theorem PT.imp {X:Cx}{e:Expr}{t t':TT}(h:PT X e t) (k:∀σ H Q,t' σ H Q->t σ H Q):PT X e t':=λpq s σ H Q I q=>h pq s σ H Q I (k σ H Q q)
theorem PA.imp {X:Cx}{e:List Expr}{t t':TA}(h:PA X e t) (k:∀σ H Q,t' σ H Q->t σ H Q):PA X e t':=λpos pq s σ H Q I q=>h pos pq s σ H Q I (k σ H Q q)
theorem PO.imp {X:Cx}{e:Option Expr}{t t':TO}(h:PO X e t) (k:∀σ H Q,t' σ H Q->t σ H Q):PO X e t':=λpq s σ H Q I q=>h pq s σ H Q I (k σ H Q q)
section
variable {K:PySem.W.Frag}{ρ ρ':List Addr}{S:Store}{H H':Hp}{a p:Addr}{n:Nat}
theorem St3.at (st:St3 K ρ S H) {o:Ob}(h:S[n]? = some o):∃a,ρ[n]? = some a/\Jo K ρ H a o:=by
 have hn:n<S.length:=(Pr.mp h).1;have hr:n<ρ.length:=by rw[st.len];exact hn
 exact⟨ρ[n],Pc hr,st.ob n o _ h (Pc hr)⟩
theorem Paired.map2 {α β:Type}{F G:α->β->Prop}:∀{l₁:List α}{l₂:List β},Paired F l₁ l₂->(∀a b,F a b->G a b)->Paired G l₁ l₂
 |_,_,.nil,_=>.nil
 |_,_,.cons r t,f=>.cons (f _ _ r) (Paired.map2 t f)
theorem Jo.keep {o:Ob}(f:Fut ρ H ρ' H') (k:∀u,H a=some u->H' a=some u) (h:Jo K ρ H a o):Jo K ρ' H' a o:=by
 cases o with
 |lst ds=>obtain⟨xs,e,r⟩:=h;exact⟨xs,k _ e,r.mono f⟩
 |scr ns=>
  rcases h with ⟨o,e⟩ | h
  ·exact .inl ⟨o,k _ e⟩
  ·exact .inr h
 |dt kvs=>obtain⟨vs,e,r⟩:=h;exact⟨vs,k _ e,Paired.map2 r λp q z=>⟨z.1,z.2.mono f⟩⟩
 |dk kvs=>obtain⟨vs,e,r⟩:=h;exact⟨vs,k _ e,Paired.map2 r λp q z=>⟨z.1,z.2.mono f⟩⟩
 |st _=>exact h
theorem Yg {o:HO}(hp:H p=none):Fut ρ H ρ (upd H p o):=⟨⟨[],by simp⟩,λb xs h=>by rw[ZI (ZE h hp)];exact h⟩
theorem Vs {o:HO}(hp:H p=none):Fut ρ H (ρ++[p]) (upd H p o):=⟨⟨[p],rfl⟩,λb xs h=>by rw[ZI (ZE h hp)];exact h⟩
theorem St3.fresh {o:HO}(st:St3 K ρ S H) (hp:H p=none):St3 K ρ S (upd H p o):=
 ⟨st.len,st.nd,λn ob a h1 h2=>(st.ob n ob a h1 h2).keep (Yg hp) λu e=>by rw[ZI (ZE e hp)];exact e⟩
theorem St3.new {o:Ob}{ho:HO}(st:St3 K ρ S H) (hp:H p=none) (r:Jo K (ρ++[p]) (upd H p ho) p o):St3 K (ρ++[p]) (S++[o]) (upd H p ho):=by
 have old:∀(m:Nat),(ρ++[p])[m]? = some p->m≠S.length->∃ns,S[m]? = some (.scr ns):=λm e hm=>by
  have hml:m<S.length:=by
   have:=(Pr.mp e).1;rw[PM,st.len,P6] at this;omega
  rw[PB (by rw[st.len];exact hml)] at e
  have q:=st.ob m S[m] p (Pc hml) e;rw[Pc hml];generalize S[m]=ob at q;cases ob with
  |lst ds=>obtain⟨xs,z,_⟩:=q;rw[hp] at z;cases z
  |scr ns=>exact⟨ns,rfl⟩
  |dt kvs=>obtain⟨xs,z,_⟩:=q;rw[hp] at z;cases z
  |dk kvs=>obtain⟨xs,z,_⟩:=q;rw[hp] at z;cases z
  |st _=>exact q.elim
 have lenE:(S++[o])[S.length]? = some o:=by simp
 have up:∀{m:Nat} {ns:List Int},S[m]? = some (.scr ns)->(S++[o])[m]? = some (.scr ns):=λ{m ns} e=>by
  rw[PB (Pr.mp e).1];exact e
 refine⟨by rw[PM,PM,st.len];rfl,λm n a h1 h2 ne=>?_,λn ob a h1 h2=>?_⟩
 ·by_cases hm:m=S.length
  ·have ha:a=p:=by
    rw[hm,<-st.len,PU (Pp _)] at h1
    simpa using h1.symm
   rw[ha] at h2;obtain⟨ns,e⟩:=old n h2 (by omega)
   exact .inr ⟨ns,up e⟩
  ·by_cases hn:n=S.length
   ·have ha:a=p:=by
     rw[hn,<-st.len,PU (Pp _)] at h2
     simpa using h2.symm
    rw[ha] at h1;obtain⟨ns,e⟩:=old m h1 hm;exact .inl ⟨ns,up e⟩
   ·have lt:∀{k:Nat},(ρ++[p])[k]? = some a->k≠S.length->ρ[k]? = some a:=λ{k} e hk=>by
     have:=(Pr.mp e).1;rw[PM,st.len,P6] at this;rw[PB (by rw[st.len];omega)] at e
     exact e
    rcases st.nd m n a (lt h1 hm) (lt h2 hn) ne with ⟨ns,e⟩ | ⟨ns,e⟩
    ·exact .inl ⟨ns,up e⟩
    ·exact .inr ⟨ns,up e⟩
 ·by_cases hn:n=S.length
  ·subst hn
   rw[lenE] at h1;cases h1;have ha:a=p:=by
    rw[<-st.len,PU (Pp _)] at h2
    simpa using h2.symm
   subst ha;exact r
  ·have hl:n<S.length:=by
    have:=(Pr.mp h1).1;rw[PM,P6] at this;omega
   rw[PB hl] at h1;rw[PB (by rw[st.len];exact hl)] at h2
   exact (st.ob n ob a h1 h2).keep (Vs hp) λu e=>by rw[ZI (ZE e hp)];exact e
theorem YB {xs ys:List V}(h:H a=some (.lst xs)):Fut ρ H ρ (upd H a (.lst ys)):=⟨⟨[],by simp⟩,λb zs e=>by
 rw[ZI (by intro z;rw[z,h] at e;cases e)];exact e⟩
theorem St3.wr {xs ys:List V}{ds es:List D}(st:St3 K ρ S H) (hr:ρ[n]? = some a) (hS:S[n]? = some (.lst ds)) (h:H a=some (.lst xs)) (r:Rq ρ H es ys):St3 K ρ (S.set n (.lst es)) (upd H a (.lst ys)):=by
 have f:=YB (ρ:=ρ) (ys:=ys) h;refine⟨by rw[P1];exact st.len,λm k b h1 h2 ne=>?_,λm ob b h1 h2=>?_⟩
 ·have keep:∀{j:Nat} {ns:List Int},S[j]? = some (.scr ns)->(S.set n (.lst es))[j]? = some (.scr ns):=λ{j ns} e=>by
   rw[NG];split
   ·rename_i z;rw[<-z,hS] at e;cases e
   ·exact e
  rcases st.nd m k b h1 h2 ne with ⟨ns,e⟩ | ⟨ns,e⟩
  ·exact .inl ⟨ns,keep e⟩
  ·exact .inr ⟨ns,keep e⟩
 ·by_cases hm:n=m
  ·subst hm
   rw[hr] at h2;cases h2;rw[NG,Pg rfl] at h1;split at h1
   ·cases h1
    exact⟨ys,Yj,r.mono f⟩
   ·cases h1
  ·rw[NG,Pi hm] at h1
   have q:=st.ob m ob b h1 h2;by_cases hb:b=a
   ·subst hb
    rcases st.nd n m b hr h2 hm with ⟨ns,e⟩ | ⟨ns,e⟩
    ·rw[hS] at e;cases e
    ·rw[h1] at e
     cases e;rcases q with ⟨o,e⟩ | q
     ·rw[h] at e;cases e
     ·exact .inr q
   ·exact q.keep f λu e=>by rw[ZI hb];exact e
theorem St3.lst (st:St3 K ρ S H) {ds:List D}(h:Ev.Zh S n=some ds):S[n]? = some (.lst ds)/\∃a xs,ρ[n]? = some a/\H a=some (.lst xs)/\Rq ρ H ds xs:=by
 unfold Ev.Zh at h;split at h
 ·rename_i zs e
  cases h;obtain⟨a,hr,xs,e2,r⟩:=st.at e;exact⟨e,a,xs,hr,e2,r⟩
 ·cases h
theorem St3.seq (st:St3 K ρ S H) {ds:List D}(h:Ev.Z9 S n=some ds):∃a xs,ρ[n]? = some a/\SqL K H a xs/\Rq ρ H ds xs:=by
 unfold Ev.Z9 at h;split at h
 ·rename_i zs e
  cases h;obtain⟨a,hr,xs,e2,r⟩:=st.at e;exact⟨a,xs,hr,SqL.of e2,r⟩
 ·rename_i ns e
  cases h;obtain⟨a,hr,q⟩:=st.at e;exact⟨a,_,hr,Scr.sq q,Rq.ints ns⟩
 ·cases h
end
section
variable {ρ:List Addr}{H:Hp}{v:V}
theorem Rep.int' {i:Int}(h:Rep ρ H (.int i) v):v=.int i:=by unfold Rep at h;exact h
theorem Rep.bl' {b:Bool}(h:Rep ρ H (.bl b) v):v=.bl b:=by unfold Rep at h;exact h
theorem Rep.non' (h:Rep ρ H .non v):v=.non:=by unfold Rep at h;exact h
theorem Rep.str' {x:Str}(h:Rep ρ H (.str x) v):v=.str x:=by unfold Rep at h;exact h
theorem Rep.tup' {ds:List D}(h:Rep ρ H (.tup ds) v):∃a xs,v=.ref a/\H a=some (.tup xs)/\Rq ρ H ds xs:=by unfold Rep at h;exact h
theorem Rep.loc' {n:Nat}(h:Rep ρ H (.loc n) v):∃a,v=.ref a/\ρ[n]? = some a:=by unfold Rep at h;exact h
theorem Zp (i:Int):Rep ρ H (.int i) (.int i):=by unfold Rep;rfl
theorem Zq (b:Bool):Rep ρ H (.bl b) (.bl b):=by unfold Rep;rfl
theorem Ww:Rep ρ H .non .non:=by unfold Rep;rfl
theorem ZS {ds:List D}{a:Addr}{xs:List V}(h:H a=some (.tup xs)) (r:Rq ρ H ds xs):Rep ρ H (.tup ds) (.ref a):=by unfold Rep;exact⟨a,xs,rfl,h,r⟩
theorem Us {n:Nat}{a:Addr}(h:ρ[n]? = some a):Rep ρ H (.loc n) (.ref a):=by unfold Rep;exact⟨a,rfl,h⟩
end
theorem Wf:Ev.lim=sizeLine:=by rw[NC];rfl
section
variable {K:PySem.W.Frag}{xw:Nat->Hp->Prop}{ρ:List Addr}{H:Hp}{S:Store}{Q:VK}
theorem End.newT {ds:List D}{xs:List V}(h:End K xw Rep ρ H Q (.ok (.tup ds) S)) (st:St3 K ρ S H) (r:Rq ρ H ds xs):∀p,H p=none->Q (.ref p) (upd H p (.tup xs)):=λp hp=>
 h ρ _ _ (Yg hp) (st.fresh hp) (ZS Yj (r.mono (Yg hp)))
theorem End.newL {ds:List D}{xs:List V}(h:End K xw Rep ρ H Q (.ok (.loc S.length) (S++[.lst ds]))) (st:St3 K ρ S H) (r:Rq ρ H ds xs):∀p,H p=none->Q (.ref p) (upd H p (.lst xs)):=λp hp=>
 h (ρ++[p]) _ _ (Vs hp) (st.new hp ⟨xs,Yj,r.mono (Vs hp)⟩) (Us (by rw[<-st.len];simp))
end
section
variable {X:Cx}{xw:Nat->Hp->Prop}{C:Calls}{e a b c:Expr}{i j k:E}{pos:Pos}
theorem yG {n:Int}{q}:CE X xw C (.Constant (.int n) q pos) (.c (.int n)):=PE.imp Zcq λσ H Q ⟨ρ,l,S,st,lr,h⟩=>End.ok h st (Zp n)
theorem qh {n:Bool}{q}:CE X xw C (.Constant (.bool n) q pos) (.c (.bl n)):=PE.imp Za0 λσ H Q ⟨ρ,l,S,st,lr,h⟩=>End.ok h st (Zq n)
theorem xa {q}:CE X xw C (.Constant .none q pos) (.c .non):=PE.imp Zb8 λσ H Q ⟨ρ,l,S,st,lr,h⟩=>End.ok h st Ww
theorem ZbB (n:Nat) {x:Str}(hN:X.N[n]? = some x:=by rfl) (hv:Vis X.env.scope x:=by first | exact Or.inl rfl | exact Or.inr (Or.inl rfl) | exact Or.inr (Or.inr rfl)) (hd:(x == ("__debug__" : Str))=false:=by decide)
  (hcd:(x == ("__classdict__" : Str))=false:=by decide):CE X xw C (.Name x pos) (.v n):=PE.imp (Zbn hN hv hd hcd) λσ H Q ⟨ρ,l,S,st,lr,h⟩=>by
 rw[ev] at h;cases q:l[n]? with
 |none=>rw[q] at h;exact h.elim
 |some o=>
  cases o with
  |none=>rw[q] at h;exact h.elim
  |some d=>
   rw[q] at h;obtain⟨v,q2,r⟩:=lr.val n d q;exact⟨v,q2,End.ok h st r⟩
theorem yy:CA X xw C [] []:=PA.imp Gz λσ H Q ⟨ρ,l,S,st,lr,h⟩=>by
 rw[evs] at h;exact End.ok h st Rq.nil
theorem J2 {es:List Expr}{is:List E}(ha:CE X xw C e i) (hr:CA X xw C es is) (hs:starEach (e::es) X.env=(false,eval e X.env)::starEach es X.env:=by rfl):CA X xw C (e::es) (i::is):=
 PA.imp (XS ha hr hs) λσ H Q ⟨ρ,l,S,st,lr,h⟩=>by
  rw[evs] at h;exact⟨ρ,l,S,st,lr,h.bind λx S1 ρ1 H1 v f1 st1 r1 h1=>⟨ρ1,l,S1,st1,lr.mono f1,h1.bind λxs S2 ρ2 H2 vs f2 st2 r2 h2=>h2.ok st2 (Rq.cons (r1.mono f2) r2)⟩⟩
theorem yu {es:List Expr}{is:List E}{q}(h:CA X xw C es is):CE X xw C (.Tuple es q pos) (.tup is):=PE.imp (uD h) λσ H Q ⟨ρ,l,S,st,lr,h⟩=>by
 rw[ev] at h;refine⟨ρ,l,S,st,lr,h.bind λxs S1 ρ1 H1 vs f1 st1 r1 h1=>?_⟩
 obtain⟨hl,h1⟩:=h1.guard;exact⟨by rw[r1.length,<-Wf];exact hl,h1.newT st1 r1⟩
theorem xf {es:List Expr}{is:List E}(h:CA X xw C es is):CE X xw C (.List es pos) (.lst is):=PE.imp (Zcb h) λσ H Q ⟨ρ,l,S,st,lr,h⟩=>by
 rw[ev] at h;refine⟨ρ,l,S,st,lr,h.bind λxs S1 ρ1 H1 vs f1 st1 r1 h1=>?_⟩
 obtain⟨hl,h1⟩:=h1.guard;exact⟨by rw[r1.length,<-Wf];exact hl,h1.newL st1 r1⟩
theorem X8 {r:R2}{g:D->D->Store->R D}(hg:∀{ρ H S x y v u Q},St3 X.K ρ S H->Rep ρ H x v->Rep ρ H y u->End X.K xw Rep ρ H Q (g x y S)->r v u H Q) :
  ∀σ H Q,tE X xw (λl S=>(ev C i l S).bind λx S=>(ev C j l S).bind λy S=>g x y S) σ H Q->tOp r (tE X xw (ev C i)) (tE X xw (ev C j)) σ H Q:=λσ H Q ⟨ρ,l,S,st,lr,h⟩=>
 ⟨ρ,l,S,st,lr,h.bind λx S1 ρ1 H1 v f1 st1 r1 h1=>⟨ρ1,l,S1,st1,lr.mono f1,h1.bind λy S2 ρ2 H2 u f2 st2 r2 h2=>hg st2 (r1.mono f2) r2 h2⟩⟩
end
section
variable {X:Cx}
def uh (K:PySem.W.Frag):R2:=λx y H Q=>∃a b ys,x=.ref a/\y=.ref b/\SqT K H a []/\SqT K H b ys/\Q (.ref b) H
theorem ji:OpR X (binaryOp .Add) (uh X.K):=by
 intro pq s σ H x y v u Q I rx ry h;obtain⟨a,b,ys,rfl,rfl,ha,hb,q⟩:=h;cases rx;cases ry;obtain⟨its,r1,p1,_⟩:=I.tuple ha;obtain⟨its2,r2,p2,_⟩:=I.tuple hb;have e0:its=[]:=r1.nil_iff.mpr rfl;obtain⟨⟨cls,dd,data,sl⟩,ho,hc,n,hd⟩:=id p1;obtain⟨⟨cls2,dd2,data2,sl2⟩,ho2,hc2,n2,hd2⟩:=id p2;simp only at hc hd hc2 hd2;subst hc hd hc2 hd2;exact concat_meets ⟨_,ho,rfl⟩ ⟨_,ho2,rfl⟩ noFill_tuple_add seq_tuple_add KN KJ (Kz _ _)
   (tuple_addW0 a b its.toArray its2.toArray n n2 dd dd2 sl sl2 (by rw[e0];rfl)) ⟨ho,ho2,⟨.ref b,H,I,rfl,q⟩⟩
noncomputable def ZdE (K:PySem.W.Frag):V->Option Int->Option Int->Hp->VK->Prop:=λx lo hi H Q=>∃a xs,x=.ref a/\SqT K H a xs/\
 (HT.sIx xs.length 0 lo=0/\HT.sIx xs.length xs.length hi=xs.length)/\Q (.ref a) H
theorem WH {prog:Program}{w:World}{A:Around}{E:Value->Shared->Prop}{s:Shared}{t sl:Addr}{items:Array Value}{vl vu:Value}{lo hi:Option Int}{Q:Value->Shared->Prop}(ht:IsTup s.heap t items) (hs:s.heap.IsSliceOf sl vl vu .none) (pl:IsPart vl lo) (pu:IsPart vu hi)
  (hw:HT.sIx items.size 0 lo=0/\HT.sIx items.size items.size hi=items.size) (h:Q (.ref t) s):wpAny (model prog w) A (getItem (.ref t) (.ref sl)) Q E s:=by
 obtain⟨os,hos,hcs,hds⟩:=id hs;have hTs:s.TypeIs (.ref sl) "slice":=⟨os,hos,hcs⟩;unfold getItem
 try with_reducible refine Nl ?_
 first | refine Pa (Pl ?_) | skip
 refine Pa (wpAny_sequenceKey ht.typeIs (by decide) ?_)
 refine Pa (NE (name:=Str.ofString "__getitem__") ht.typeIs NM
  (NO NM ht.typeIs entry_tuple_getitem ?_ (args_tuple_getitem _ _)))
 show wpAny _ _ (Builtin.Tuple.tupleItemsOf (.ref t) >>= _) _ _ s;refine Pa (tupleItemsOf_ ht ?_);refine Pa (wpAny_typeOf hTs ?_);rw[Pg (by decide)]
 refine Pa (HT.Xy hs pl pu ?_);have hyes:((((HT.sIx items.size 0 lo:Nat):Int) == 0&&(1:Int) == 1&&(HT.sIx items.size items.size hi-HT.sIx items.size 0 lo) == items.size)=true):=by
  rw[hw.1,hw.2];simp
 show wpAny _ _ (if (((HT.sIx items.size 0 lo:Nat):Int) == 0&&(1:Int) == 1&&(HT.sIx items.size items.size hi-HT.sIx items.size 0 lo) == items.size)=true then _ else _) _ _ s
 rw[Pg hyes];refine Pa (Pa (wpAny_typeOf ht.typeIs (Pl ?_)));rw[Pg (by decide)]
 exact Pa (Kb (Pl ⟨_,rfl,Pl h⟩))
theorem qV:SlR X (ZdE X.K):=by
 intro pq s σ H x v vl vu lo hi sl Q I rx hs pl pu h;obtain⟨a,xs,rfl,hx,hw,q⟩:=h;cases rx;obtain⟨its,r,ht,hz⟩:=I.tuple hx;have hlen:its.toArray.size=xs.length:=by rw[Pf];exact r.length.symm
 refine⟨"tuple",_,PyProof.Rows.slot_tuple_getitem.lookup,ht.typeIs,?_⟩;exact WH ht hs pl pu (by rw[hlen];exact hw) ⟨.ref a,H,I,rfl,q⟩
theorem Uj {i:Int}(h:Ev.fits i=true):Builtin.Int.intBits i<=2^20:=by
 have h1:i.natAbs<2^1000:=Pq h;unfold Builtin.Int.intBits;split
 ·exact Ki _
 ·rename_i hz
  have hne:i.natAbs≠0:=by intro z;exact hz (by simp[Int.natAbs_eq_zero.mp z])
  have:=(Nat.log2_lt hne).mpr h1;have e:(2:Nat)^20=1048576:=by decide
  omega
theorem jX:OpR X (binaryOp .Mult) (rI (λi j=>Ev.fits i=true/\Ev.fits j=true) λi j=>.int (i*j)):=opI λ_ _ _ _ _ _ _ hc q=>mul_int q (IntMulOk.of_bits (Uj hc.1) (Uj hc.2))
theorem qS:OpR X (inplaceOp .Mult) (rI (λi j=>Ev.fits i=true/\Ev.fits j=true) λi j=>.int (i*j)):=opI λ_ _ _ _ _ _ _ hc q=>imul_int q (IntMulOk.of_bits (Uj hc.1) (Uj hc.2))
theorem ZbC:OpR X (compareOp .Is) (λx y H Q=>∃a b,x=.bl a/\y=.bl b/\Q (.bl (decide (a=b))) H):=by
 intro pq s σ H x y v u Q I rx ry h;obtain⟨a,b,rfl,rfl,q⟩:=h;cases rx;cases ry;cases a <;> cases b <;> exact Pl ⟨.bl _,H,I,rfl,q⟩
theorem Zas:OpR X (compareOp .IsNot) (λx y H Q=>∃a b,x=.bl a/\y=.bl b/\Q (.bl (decide (a≠b))) H):=by
 intro pq s σ H x y v u Q I rx ry h;obtain⟨a,b,rfl,rfl,q⟩:=h;cases rx;cases ry;cases a <;> cases b <;> exact Pl ⟨.bl _,H,I,rfl,q⟩
end
end Sd
namespace Sd
open PySem PySem.Spec PyProof.Rows L2
theorem QH:fillsNumberSlot (.type "tuple") "mul" = pure false:=
 PySem.fillsNumberSlot_seq (id:="tuple.__mul__") (r:=some (.builtin "tuple.__rmul__")) F.slot_tuple_mul.lookup (by decide +kernel) F.slot_tuple_rmul.lookup (by decide +kernel)
theorem Gx:seqRepeat? (.type "tuple")=pure (some (.builtin "tuple.__mul__")):=by
 unfold seqRepeat?
 rw[PySem.seqSlot_of (T:="tuple") (name:="__mul__") (id:="tuple.__mul__") F.slot_tuple_mul.lookup (by decide +kernel),PySem.seqSlot_of (T:="tuple") (name:="__rmul__") (id:="tuple.__rmul__") F.slot_tuple_rmul.lookup (by decide +kernel)]
 rfl
theorem UM (a:Int) (t:Tok) (l:Addr) (items:Array Value) (n:Nat) (dd:Option Addr) (sl:Array (Option Value)) :
  Meets (Builtin.«int.__rmul__» ⟨[.int a t,.ref l],[]⟩) (λ_ R s=>s.heap.get? l=some { cls:=.type "tuple",dict:=dd,data:=.seq items n,slots:=sl }/\R (.ok (.ret Value.notImplemented)) s):=
 .of_wp λprog w A R s h=>by obtain⟨hp,g,d,tk,os⟩:=s;obtain⟨hl,h⟩:=h;wp_walk;exact⟨_,rfl,h⟩
theorem Gm (l:Addr) (items:Array Value) (n:Nat) (dd:Option Addr) (sl:Array (Option Value)) (x:Int) (u:Tok) (h0:¬(x < -(2^63)||x>=2^63)=true) (hc:(items.isEmpty||x == 1)=true) :
  Meets (Builtin.«tuple.__mul__» ⟨[.ref l,.int x u],[]⟩) (λ_ R s=>s.heap.get? l=some { cls:=.type "tuple",dict:=dd,data:=.seq items n,slots:=sl }/\R (.ok (.ret (Value.ref l))) { s with heap:=s.heap,toks:=s.toks }):=
 .of_wp λprog w A R s h=>by obtain⟨hp,g,d,tk,os⟩:=s;obtain⟨hl,h⟩:=h;have f1:=AutoSeq1.idx_int;have f2:=NR;wp_walk;rw[Pi h0];wp_walk using NP hl;exact⟨_,rfl,h⟩
theorem J1 (l:Addr) (items:Array Value) (n:Nat) (dd:Option Addr) (sl:Array (Option Value)) (x:Int) (u:Tok) (h0:¬(x < -(2^63)||x>=2^63)=true) (hc:¬(items.isEmpty||x == 1)=true) (h1:(x<=0||items.isEmpty)=true) :
  Meets (Builtin.«tuple.__mul__» ⟨[.ref l,.int x u],[]⟩) (λ_ R s=>s.heap.get? l=some { cls:=.type "tuple",dict:=dd,data:=.seq items n,slots:=sl }/\R (.ok (.ret (Value.ref s.heap.objs.size))) { s with heap:=s.heap.push { cls:=.type "tuple",data:=.seq #[] },toks:=s.toks }):=
 .of_wp λprog w A R s h=>by obtain⟨hp,g,d,tk,os⟩:=s;obtain⟨hl,h⟩:=h;have f1:=AutoSeq1.idx_int;have f2:=NR;wp_walk;rw[Pi h0];wp_walk using NP hl;exact⟨_,rfl,h⟩
theorem zM (l:Addr) (items:Array Value) (n:Nat) (dd:Option Addr) (sl:Array (Option Value)) (x:Int) (u:Tok) (h0:¬(x < -(2^63)||x>=2^63)=true) (hc:¬(items.isEmpty||x == 1)=true) (h1:¬(x<=0||items.isEmpty)=true)
  (h2:¬(items.size*x>(2^63-1) / 8)) (h3:¬Builtin.Tuple.tupleTooMany (items.size*x)=true) (hsz:((List.replicate x.toNat items).foldl (·++·) #[]).size<=sizeLine) :
  Meets (Builtin.«tuple.__mul__» ⟨[.ref l,.int x u],[]⟩) (λ_ R s=>s.heap.get? l=some { cls:=.type "tuple",dict:=dd,data:=.seq items n,slots:=sl }/\R (.ok (.ret (Value.ref s.heap.objs.size))) { s with heap:=s.heap.push { cls:=.type "tuple",data:=.seq ((List.replicate x.toNat items).foldl (·++·) #[]) },toks:=s.toks }):=
 .of_wp λprog w A R s h=>by obtain⟨hp,g,d,tk,os⟩:=s;obtain⟨hl,h⟩:=h;have f1:=AutoSeq1.idx_int;have f2:=NR;wp_walk;rw[Pi h0];wp_walk using NP hl;rw[Pi h2];wp_walk using NP hl;exact⟨_,rfl,h⟩
def Zbe (K:PySem.W.Frag):R2:=λx y H Q=>∃a k xs,x=.ref a/\y=.int k/\SqT K H a xs/\(0<=k/\k<1000/\xs.length<=1000)/\
 ((xs=[]\/k=1)->Q (.ref a) H)/\(¬(xs=[]\/k=1)->∀p,H p=none->Q (.ref p) (upd H p (.tup (List.replicate k.toNat xs).flatten)))
theorem ZaT {X:Cx}:OpR X (binaryOp .Mult) (Zbe X.K):=by
 intro pq s σ H x y v u Q I rx ry h;obtain⟨a,k,xs,rfl,rfl,hx,⟨k0,k1,hz⟩,q1,q2⟩:=h;cases rx;obtain⟨t,rfl⟩:=ry;obtain⟨its,r,pt,_⟩:=I.tuple hx;have hl:=r.length;obtain⟨⟨cls,dd,data,sl⟩,ho,hc,n,hd⟩:=id pt;simp only at hc hd;subst hc hd;have h0:¬(decide (k < -(2^63))||decide (k>=2^63))=true:=by
  rw[PV (by omega),PV (by omega)];exact Pu
 refine wpAny_binaryOp_repeat_ref (T:="tuple") (U:="int") (by decide) ⟨_,ho,rfl⟩ (λs'=>typeIs_int s' k t) QH F.fills_int_mul K9 Gx F.slot_int_index.lookup
  (KG K9 (typeIs_int s k t) F.entry_int_rmul (F.args_int_rmul_2 _ _) (UM k t a its.toArray n dd sl) ⟨ho,rfl,⟨_,ho,rfl⟩,?_⟩)
 have hnil:its=[]↔xs=[]:=r.nil_iff;by_cases c:xs=[]\/k=1
 ·have c':(its.toArray.isEmpty||k == 1)=true:=by
   rcases c with c | c
   ·rw[hnil.mpr c];rfl
   ·rw[c];simp
  exact KG F.slot_tuple_mul ⟨_,ho,rfl⟩ F.entry_tuple_mul (F.args_tuple_mul_2 _ _) (Gm a its.toArray n dd sl k t h0 c') ⟨ho,⟨.ref a,H,I,rfl,q1 c⟩⟩
 ·have ne:its≠[]:=λz=>c (.inl (hnil.mp z))
  have k1:k≠1:=λz=>c (.inr z)
  have c':¬(its.toArray.isEmpty||k == 1)=true:=by
   rw[NJ.mpr k1,Bool.or_false,K4];cases its with
   |nil=>exact absurd rfl ne
   |cons _ _=>exact Pu
  have fin:∀arr:List Value,arr=(List.replicate k.toNat its).flatten->EP X pq σ Q (Value.ref s.heap.objs.size) { s with heap:=s.heap.push { cls:=.type "tuple",data:=.seq arr.toArray } }:=λarr e=>by
   subst e;refine⟨.ref s.heap.objs.size,_,I.laid (t':=s.toks) (o:=.tup (List.replicate k.toNat xs).flatten) (λb ob q=>Ph _ q) (Pp _) ?_,rfl,q2 c _ (I.hok.fresh (Pp _))⟩
   refine⟨?_,_,r.rep k.toNat,Tg _ _⟩;rw[Gh,NC];have:k.toNat*xs.length<=1000*1000:=Nat.mul_le_mul (by omega) hz
   omega
  by_cases z:k=0
  ·have h1:(decide (k<=0)||its.toArray.isEmpty)=true:=by rw[z];rfl
   refine KG F.slot_tuple_mul ⟨_,ho,rfl⟩ F.entry_tuple_mul (F.args_tuple_mul_2 _ _) (J1 a its.toArray n dd sl k t h0 c' h1) ⟨ho,?_⟩;exact fin [] (by rw[z];rfl)
  ·have h1:¬(decide (k<=0)||its.toArray.isEmpty)=true:=by
    rw[PV (by omega),Bool.false_or,K4]
    cases its with
    |nil=>exact absurd rfl ne
    |cons _ _=>exact Pu
   have hm:(its.toArray.size:Int)*k<=1000*1000:=by
    rw[Pf,<-hl];exact Int.mul_le_mul (by omega) (by omega) k0 (by omega)
   have joined:(List.replicate k.toNat its.toArray).foldl (·++·) #[]=(List.replicate k.toNat its).flatten.toArray:=by
    have:=VQ its k.toNat [];rw[List.nil_append] at this;exact this
   have hsz:((List.replicate k.toNat its.toArray).foldl (·++·) #[]).size<=sizeLine:=by
    rw[joined,Pf,Gh,NC,<-hl];have:k.toNat*xs.length<=1000*1000:=Nat.mul_le_mul (by omega) hz
    omega
   refine KG F.slot_tuple_mul ⟨_,ho,rfl⟩ F.entry_tuple_mul (F.args_tuple_mul_2 _ _) (zM a its.toArray n dd sl k t h0 c' h1 (by omega) (by
    unfold Builtin.Tuple.tupleTooMany;rw[PV (by rw[NC];omega)]
    exact Pu) hsz) ⟨ho,?_⟩
   rw[joined];exact fin _ rfl
def Za2:R2:=λx y H Q=>∃a k xs,x=.ref a/\y=.int k/\H a=some (.lst xs)/\(0<=k/\k<1000/\xs.length<=1000)/\∀p,H p=none->Q (.ref p) (upd H p (.lst (List.replicate k.toNat xs).flatten))
theorem jN {X:Cx}:OpR X (binaryOp .Mult) Za2:=by
 intro pq s σ H x y v u Q I rx ry h;obtain⟨a,k,xs,rfl,rfl,hx,⟨k0,k1,hz⟩,q2⟩:=h;cases rx;obtain⟨t,rfl⟩:=ry;obtain⟨its,r,pl,_⟩:=I.list (SqL.of hx);have hl:=r.length;obtain⟨⟨cls,dd,data,sl⟩,n,ho,hc,hd2,hd⟩:=id pl;simp only at hc hd hd2;subst hc hd;have hm:k.toNat*its.length<=1000*1000:=Nat.mul_le_mul (by omega) (by omega)
 have hm2:its.length*k.toNat<=1000*1000:=by rw[Tf];exact hm
 refine wpAny_binaryOp_repeat_ref (T:="list") (U:="int") (by decide) ⟨_,ho,rfl⟩ (λs'=>typeIs_int s' k t) noFill_list_mul F.fills_int_mul K9 repeat_list F.slot_int_index.lookup
  (KG K9 (typeIs_int s k t) F.entry_int_rmul (F.args_int_rmul_2 _ _) (lm_int_rmul_list_any k t a its.toArray n dd sl) ⟨ho,rfl,⟨_,ho,rfl⟩,
   KG F.slot_list_mul ⟨_,ho,rfl⟩ F.entry_list_mul (F.args_list_mul_2 _ _) (lm_list_mul_any a its.toArray n dd sl k t (by simp[Builtin.List.listFitsIndex];omega) (by rw[Pf];omega) (by rw[Pf];simp[Builtin.List.listTooLong,sizeLine];omega)) ⟨ho,?_⟩⟩)
 have joined:(List.replicate (if its.toArray.isEmpty=true then 0 else k.toNat) its.toArray).foldl (λx1 x2=>x1++x2) #[]=(List.replicate k.toNat its).flatten.toArray:=by
  have h0:=VQ its k.toNat [];rw[List.nil_append] at h0;by_cases z:its=[]
  ·subst z
   have e:∀m:Nat,(List.replicate m ([]:List Value)).flatten=[]:=λm=>by induction m with | zero=>rfl | succ m ih=>rw[PZ,P5,ih];rfl
   rw[e];rfl
  ·rw[Pi (by rw[K4];cases its with | nil=>exact absurd rfl z | cons _ _=>exact Pu)]
   exact h0
 rw[joined];refine⟨.ref s.heap.objs.size,_,I.laid (t':=s.toks) (o:=.lst (List.replicate k.toNat xs).flatten) (λb ob q=>Ph _ q) (Pp _) ?_,rfl,q2 _ (I.hok.fresh (Pp _))⟩
 refine⟨?_,_,0,r.rep k.toNat,Pz _ rfl⟩;rw[Gh,NC];rw[hl];omega
end Sd
namespace Sd
open PySem PySem.Spec PyProof.Rows L2
open Ev (D Ob Store Lc R E Sm Calls Walk Fl Fn Bop Cop Ty Bf Mf ev evs evo evt evw tst run runs)
section
variable {X:Cx}{xw:Nat->Hp->Prop}{C:Calls}{e a b c:Expr}{i j k:E}{pos:Pos}
variable {ρ:List Addr}{H:Hp}{S:Store}{x y:D}{v u:V}{Q:VK}{K:PySem.W.Frag}
def Za1 (K:PySem.W.Frag):R2:=λx y H Q=>rI0 (λi j=>.int (i+j)) x y H Q\/(Za5 K x y H Q\/(uh K x y H Q\/Zda x y H Q))
theorem ZaX:OpR X (binaryOp .Add) (Za1 X.K):=Zbz.or (jI.or (ji.or Zbt))
theorem ZbK (st:St3 K ρ S H) (rx:Rep ρ H x v) (ry:Rep ρ H y u) (h:End K xw Rep ρ H Q (Ev.binop .add x y S)):Za1 K v u H Q:=by
 cases x with
 |int i=>cases y with
  |int j=>exact .inl ⟨i,j,rx.int',ry.int',End.ok h st (Zp _)⟩
  |_=>exact False.elim h
 |tup ds=>cases y with
  |tup es=>
   obtain⟨hl,h⟩:=End.guard h;obtain⟨p,xs,rfl,hp,r1⟩:=rx.tup';obtain⟨q,ys,rfl,hq,r2⟩:=ry.tup';have l1:=r1.length;have l2:=r2.length;by_cases z:xs=[]
   ·subst z
    have e1:ds=[]:=NF.mp l1.symm;subst e1;exact .inr (.inr (.inl ⟨p,q,ys,rfl,rfl,SqT.of hp,SqT.of hq,End.ok h st (ZS hq r2)⟩))
   ·refine .inr (.inl ⟨p,q,xs,ys,rfl,rfl,SqT.of hp,SqT.of hq,z,by rw[l1,l2,<-Wf];exact hl,λz2=>?_,λ_=>h.newT st (r1.append r2)⟩)
    subst z2;have e2:es=[]:=NF.mp l2.symm;subst e2;refine End.ok h st ?_;rw[N7];exact ZS hp r1
  |_=>exact False.elim h
 |loc m=>cases y with
  |loc n=>
   have h':End K xw Rep ρ H Q (match Ev.Zh S m,Ev.Zh S n with
    |some a,some b=>if a.length+b.length<=Ev.lim then .ok (.loc S.length) (S++[.lst (a++b)]) else .no
    |_,_=>.no):=h
   cases e1:Ev.Zh S m with
   |none=>rw[e1] at h';exact False.elim h'
   |some ds=>
    cases e2:Ev.Zh S n with
    |none=>rw[e1,e2] at h';exact False.elim h'
    |some es=>
     rw[e1,e2] at h';obtain⟨hl,h⟩:=End.guard h';obtain⟨_,p,xs,q1,hp,r1⟩:=st.lst e1;obtain⟨_,q,ys,q2,hq,r2⟩:=st.lst e2;obtain⟨p',rfl,t1⟩:=rx.loc';obtain⟨q',rfl,t2⟩:=ry.loc';rw[q1] at t1;cases t1;rw[q2] at t2;cases t2;exact .inr (.inr (.inr ⟨p,q,xs,ys,rfl,rfl,hp,hq,by rw[r1.length,r2.length,<-Wf];exact hl,h.newL st (r1.append r2)⟩))
  |_=>exact False.elim h
 |_=>cases y <;> exact False.elim h
theorem ZbQ (st:St3 K ρ S H) (rx:Rep ρ H x v) (ry:Rep ρ H y u) (h:End K xw Rep ρ H Q (Ev.binop .sub x y S)):rI0 (λi j=>.int (i-j)) v u H Q:=by
 cases x with
 |int i=>cases y with
  |int j=>exact⟨i,j,rx.int',ry.int',End.ok h st (Zp _)⟩
  |_=>exact False.elim h
 |_=>cases y <;> exact False.elim h
def Zbd (K:PySem.W.Frag):R2:=λx y H Q=>rI (λi j=>Ev.fits i=true/\Ev.fits j=true) (λi j=>.int (i*j)) x y H Q\/(Zbe K x y H Q\/Za2 x y H Q)
theorem ZaE:OpR X (binaryOp .Mult) (Zbd X.K):=jX.or (ZaT.or jN)
theorem ZbM (st:St3 K ρ S H) (rx:Rep ρ H x v) (ry:Rep ρ H y u) (h:End K xw Rep ρ H Q (Ev.binop .mul x y S)):Zbd K v u H Q:=by
 cases x with
 |int i=>cases y with
  |int j=>
   obtain⟨hc,h⟩:=End.guard h;exact .inl ⟨i,j,rx.int',ry.int',(Py _ _).mp hc,End.ok h st (Zp _)⟩
  |_=>exact False.elim h
 |tup ds=>cases y with
  |int k=>
   obtain⟨⟨h0,h1,h2⟩,h⟩:=End.guard h;obtain⟨p,xs,rfl,hp,r1⟩:=rx.tup';have l1:=r1.length;refine .inr <| .inl ⟨p,k,xs,rfl,ry.int',SqT.of hp,⟨h0,h1,by rw[l1];exact h2⟩,λz=>?_,λ_=>h.newT st (r1.rep k.toNat)⟩
   refine End.ok h st (ZS hp ?_);rcases z with z | z
   ·subst z
    have e1:ds=[]:=NF.mp l1.symm;subst e1;have:∀m:Nat,(List.replicate m ([]:List D)).flatten=[]:=λm=>by induction m with | zero=>rfl | succ m ih=>rw[PZ,P5,ih];rfl
    rw[this];exact Rq.nil
   ·subst z
    show Rq ρ H (List.replicate 1 ds).flatten xs;rw[PZ,List.replicate_zero,P5,List.flatten_nil,N7];exact r1
  |_=>exact False.elim h
 |loc m=>cases y with
  |int k=>
   have h':End K xw Rep ρ H Q (match Ev.Zh S m with
    |some a=>if 0<=k/\k<1000/\a.length<=1000 then .ok (.loc S.length) (S++[.lst (List.replicate k.toNat a).flatten]) else .no
    |none=>.no):=h
   cases e1:Ev.Zh S m with
   |none=>rw[e1] at h';exact False.elim h'
   |some ds=>
    rw[e1] at h';obtain⟨⟨h0,h1,h2⟩,h⟩:=End.guard h';obtain⟨_,p,xs,q1,hp,r1⟩:=st.lst e1;obtain⟨p',rfl,t1⟩:=rx.loc';rw[q1] at t1;cases t1;exact .inr (.inr ⟨p,k,xs,rfl,ry.int',hp,⟨h0,h1,by rw[r1.length];exact h2⟩,h.newL st (r1.rep k.toNat)⟩)
  |_=>exact False.elim h
 |_=>cases y <;> exact False.elim h
theorem ZaN (st:St3 K ρ S H) (rx:Rep ρ H x v) (ry:Rep ρ H y u) (h:End K xw Rep ρ H Q (Ev.binop .fdiv x y S)):rI CDiv (λi j=>.int (i / j)) v u H Q:=by
 cases x with
 |int i=>cases y with
  |int j=>
   obtain⟨hc,h⟩:=End.guard h;exact⟨i,j,rx.int',ry.int',hc,End.ok h st (Zp _)⟩
  |_=>exact False.elim h
 |_=>cases y <;> exact False.elim h
theorem ZbT (st:St3 K ρ S H) (rx:Rep ρ H x v) (ry:Rep ρ H y u) (h:End K xw Rep ρ H Q (Ev.binop .mod x y S)):rI (λ_ j=>0<j) (λi j=>.int (i%j)) v u H Q:=by
 cases x with
 |int i=>cases y with
  |int j=>
   obtain⟨hc,h⟩:=End.guard h;exact⟨i,j,rx.int',ry.int',hc,End.ok h st (Zp _)⟩
  |_=>exact False.elim h
 |_=>cases y <;> exact False.elim h
theorem Zcr (st:St3 K ρ S H) (rx:Rep ρ H x v) (ry:Rep ρ H y u) (h:End K xw Rep ρ H Q (Ev.binop .pow x y S)):rI CPow (λi j=>.int (i^j.toNat)) v u H Q:=by
 cases x with
 |int i=>cases y with
  |int j=>
   obtain⟨hc,h⟩:=End.guard h;exact⟨i,j,rx.int',ry.int',⟨hc.1,by omega,hc.2.2⟩,End.ok h st (Zp _)⟩
  |_=>exact False.elim h
 |_=>cases y <;> exact False.elim h
theorem yC (ha:CE X xw C a i) (hb:CE X xw C b j):CE X xw C (.BinOp a .Add b pos) (.bin .add i j):=PE.imp (Jr ZaX ha hb) (X8 λst rx ry h=>ZbK st rx ry h)
theorem xr (ha:CE X xw C a i) (hb:CE X xw C b j):CE X xw C (.BinOp a .Sub b pos) (.bin .sub i j):=PE.imp (Jr ZbH ha hb) (X8 λst rx ry h=>ZbQ st rx ry h)
theorem yk (ha:CE X xw C a i) (hb:CE X xw C b j):CE X xw C (.BinOp a .Mult b pos) (.bin .mul i j):=PE.imp (Jr ZaE ha hb) (X8 λst rx ry h=>ZbM st rx ry h)
theorem GF (ha:CE X xw C a i) (hb:CE X xw C b j):CE X xw C (.BinOp a .FloorDiv b pos) (.bin .fdiv i j):=PE.imp (Jr jT ha hb) (X8 λst rx ry h=>ZaN st rx ry h)
theorem xA (ha:CE X xw C a i) (hb:CE X xw C b j):CE X xw C (.BinOp a .Mod b pos) (.bin .mod i j):=PE.imp (Jr Zbj ha hb) (X8 λst rx ry h=>ZbT st rx ry h)
theorem yJ (ha:CE X xw C a i) (hb:CE X xw C b j):CE X xw C (.BinOp a .Pow b pos) (.bin .pow i j):=PE.imp (Jr Zbr ha hb) (X8 λst rx ry h=>Zcr st rx ry h)
theorem yX (ha:CE X xw C a i):CE X xw C (.UnaryOp .USub a pos) (.neg i):=PE.imp (ZcP Zci ha) λσ H Q ⟨ρ,l,S,st,lr,h⟩=>by
 refine⟨ρ,l,S,st,lr,End.bind (show End X.K xw Rep ρ H Q ((ev C i l S).bind _) from h) λx S1 ρ1 H1 v f1 st1 r1 h1=>?_⟩
 cases x with
 |int n=>exact⟨n,r1.int',End.ok h1 st1 (Zp _)⟩
 |_=>exact False.elim h1
theorem Y2 {n:Bool}(st:St3 K ρ S H) (rx:Rep ρ H x v) (h:Ev.truth S x=some n):jV K v H n:=by
 cases x with
 |non=>rw[rx.non'];exact (Pb h).symm
 |bl b=>rw[rx.bl'];exact (Pb h).symm
 |int i=>
  rw[rx.int'];have h':=Pb h;show n=(i != 0);rw[<-h'];by_cases z:i=0
  ·subst z;rfl
  ·rw[PC z];exact (bne_iff_ne.mpr z).symm
 |tup ds=>
  obtain⟨p,xs,rfl,hp,r⟩:=rx.tup';have h':=Pb h;refine .inr (.inl ⟨xs,SqT.of hp,?_⟩);rw[<-h'];have:=r.length;cases ds <;> cases xs <;> first | rfl | (simp at this)
 |loc m=>
  have h2:(Ev.Z9 S m).map (λxs=>!xs.isEmpty)=some n:=h
  cases e:Ev.Z9 S m with
  |none=>rw[e] at h2;cases h2
  |some ds=>
   rw[e] at h2;obtain⟨p,xs,q,hp,r⟩:=st.seq e;obtain⟨p',rfl,t⟩:=rx.loc';rw[q] at t;cases t;refine .inl ⟨xs,hp,?_⟩;have h':=Pb h2;rw[<-h'];have:=r.length;cases ds <;> cases xs <;> first | rfl | (simp at this)
 |_=>cases h
theorem ya (ha:CE X xw C a i) (he:∀whole,isTrue a X.env whole=(do let v <-whole;standAt a.pos;holding [v] (truthy v)):=by intro _;rfl):CT X xw C a i:=
 PT.imp (jc ha he) λσ H Q ⟨ρ,l,S,st,lr,h⟩=>by
  refine⟨ρ,l,S,st,lr,End.bind (show End X.K xw Xu ρ H Q ((ev C i l S).bind λx S=>Ev.ob (Ev.truth S x) S) from h) λx S1 ρ1 H1 v f1 st1 r1 h1=>?_⟩
  cases q:Ev.truth S1 x with
  |none=>rw[q] at h1;exact False.elim h1
  |some n=>rw[q] at h1;exact⟨n,Y2 st1 r1 q,End.ok h1 st1 rfl⟩
theorem y9 (ha:CT X xw C a i):CT X xw C (.UnaryOp .Not a pos) (.not i):=PT.imp (Zb3 ha) λσ H Q ⟨ρ,l,S,st,lr,h⟩=>by
 refine⟨ρ,l,S,st,lr,?_⟩;have h':End X.K xw Xu ρ H Q (((ev C i l S).bind λx S=>(Ev.ob (Ev.truth S x) S).bind λb S=>.ok (.bl !b) S).bind λx S=>Ev.ob (Ev.truth S x) S):=h
 show End X.K xw Xu ρ H (λc H1=>Q (!c) H1) ((ev C i l S).bind λx S=>Ev.ob (Ev.truth S x) S)
 cases q:ev C i l S with
 |no=>rw[q] at h';exact h'
 |ex c S1=>rw[q] at h';exact h'
 |ok x S1=>
  rw[q] at h';show End X.K xw Xu ρ H _ (Ev.ob (Ev.truth S1 x) S1);have h2:End X.K xw Xu ρ H Q (((Ev.ob (Ev.truth S1 x) S1).bind λb S=>.ok (.bl !b) S).bind λx S=>Ev.ob (Ev.truth S x) S):=h'
  cases t:Ev.truth S1 x with
  |none=>rw[t] at h2;exact h2
  |some n=>
   rw[t] at h2;intro ρ1 H1 w f1 st1 e;exact h2 ρ1 H1 (!w) f1 st1 (by rw[<-(show n=w from e)];rfl)
theorem yA (ha:CE X xw C a i):CE X xw C (.UnaryOp .Not a pos) (.not i):=by
 intro pq s σ H Q I hq;obtain⟨ρ,l,S,st,lr,h⟩:=hq;have h':End X.K xw Rep ρ H Q ((ev C i l S).bind λx S=>(Ev.ob (Ev.truth S x) S).bind λb S=>.ok (.bl !b) S):=h
 refine UnaryOp_ (thn (ha pq s σ H (λv H1=>∃k,jV X.K v H1 k/\Q (.bl !k) H1) I ⟨ρ,l,S,st,lr,End.bind h' λx S1 ρ1 H1 v f1 st1 r1 h1=>?_⟩) λv s1 ⟨x,H1,I1,r1,q1⟩=>?_)
 ·cases q:Ev.truth S1 x with
  |none=>rw[q] at h1;exact False.elim h1
  |some n=>rw[q] at h1;exact⟨n,Y2 st1 r1 q,End.ok h1 st1 (Zq _)⟩
 ·obtain⟨k,tk,q2⟩:=q1
  refine not_of (thn (ud pq s1 σ H1 x v (λk' H'=>Q (.bl !k') H') I1 r1 ⟨k,tk,q2⟩) λk' s2 ⟨H2,I2,q3⟩=>?_)
  exact⟨.bl (!k'),H2,I2,rfl,q3⟩
theorem yt {rest:List Expr}(ha:CE X xw C a i) (hb:CE X xw C (.BoolOp .And (b::rest) pos) j):CE X xw C (.BoolOp .And (a::b::rest) pos) (.and i j):=PE.imp (ZbL ha hb) λσ H Q ⟨ρ,l,S,st,lr,h⟩=>by
 refine⟨ρ,l,S,st,lr,End.bind (show End X.K xw Rep ρ H Q ((ev C i l S).bind _) from h) λx S1 ρ1 H1 v f1 st1 r1 h1=>?_⟩
 cases x with
 |bl c=>
  refine⟨c,r1.bl',?_⟩;cases c with
  |true=>exact⟨ρ1,l,S1,st1,lr.mono f1,h1⟩
  |false=>exact End.ok h1 st1 (Zq _)
 |_=>exact False.elim h1
theorem yh (hc:CT X xw C c k) (ha:CE X xw C a i) (hb:CE X xw C b j):CE X xw C (.IfExp c a b pos) (.ite k i j):=PE.imp (v5 hc ha hb) λσ H Q ⟨ρ,l,S,st,lr,h⟩=>by
 have h':End X.K xw Rep ρ H Q ((ev C k l S).bind λx S=>(Ev.ob (Ev.truth S x) S).bind λc S=>if c then ev C i l S else ev C j l S):=h
 refine⟨ρ,l,S,st,lr,?_⟩;show End X.K xw Xu ρ H _ ((ev C k l S).bind λx S=>Ev.ob (Ev.truth S x) S)
 cases q:ev C k l S with
 |no=>rw[q] at h';exact h'
 |ex c S1=>rw[q] at h';exact h'
 |ok x S1=>
  rw[q] at h';have h2:End X.K xw Rep ρ H Q ((Ev.ob (Ev.truth S1 x) S1).bind λc S=>if c then ev C i l S else ev C j l S):=h'
  show End X.K xw Xu ρ H _ (Ev.ob (Ev.truth S1 x) S1);cases t:Ev.truth S1 x with
  |none=>rw[t] at h2;exact h2
  |some n=>
   rw[t] at h2;have h3:End X.K xw Rep ρ H Q (if n then ev C i l S1 else ev C j l S1):=h2
   intro ρ1 H1 w f1 st1 e;have e':n=w:=e;subst e';cases n with
   |true=>exact⟨ρ1,l,S1,st1,lr.mono f1,h3.mono f1⟩
   |false=>exact⟨ρ1,l,S1,st1,lr.mono f1,h3.mono f1⟩
def CWh (X:Cx) (xw:Nat->Hp->Prop) (C:Calls) (e:Expr) (i:E):Prop:=PW X e (tB3 X xw (tst C i))
theorem CWh.ct (h:CWh X xw C e i):CT X xw C e i:=PW.pt h
theorem PW.imp {X:Cx}{e:Expr}{t t':TT}(h:PW X e t) (k:∀σ H Q,t' σ H Q->t σ H Q):PW X e t':=λwh pq s σ H Q I q=>h wh pq s σ H Q I (k σ H Q q)
theorem JL (ha:CT X xw C a i):CWh X xw C (.BoolOp .And [a] pos) i:=Zaw ha
theorem yc (ha:CT X xw C a i):CWh X xw C (.BoolOp .Or [a] pos) i:=Zbq ha
theorem JX {rest:List Expr}(ha:CT X xw C a i) (hb:CWh X xw C (.BoolOp .And (b::rest) pos) j):CWh X xw C (.BoolOp .And (a::b::rest) pos) (.and i j):=PW.imp (Zbu ha hb) λσ H Q ⟨ρ,l,S,st,lr,h⟩=>by
 have h':End X.K xw Xu ρ H Q (((ev C i l S).bind λx S=>match x with | .bl c=>if c then ev C j l S else .ok (.bl false) S | _=>.no).bind λx S=>Ev.ob (Ev.truth S x) S):=h
 refine⟨ρ,l,S,st,lr,?_⟩;show End X.K xw Xu ρ H _ ((ev C i l S).bind λx S=>Ev.ob (Ev.truth S x) S)
 cases q:ev C i l S with
 |no=>rw[q] at h';exact h'
 |ex c S1=>rw[q] at h';exact h'
 |ok x S1=>
  rw[q] at h';cases x with
  |bl n=>
   intro ρ1 H1 w f1 st1 e;have e':n=w:=e;subst e';cases n with
   |true=>exact⟨ρ1,l,S1,st1,lr.mono f1,End.mono f1 (show End X.K xw Xu ρ H Q ((ev C j l S1).bind λx S=>Ev.ob (Ev.truth S x) S) from h')⟩
   |false=>exact (show End X.K xw Xu ρ H Q (.ok false S1) from h') ρ1 H1 false f1 st1 rfl
  |_=>exact False.elim h'
theorem xF {rest:List Expr}(ha:CT X xw C a i) (hb:CWh X xw C (.BoolOp .Or (b::rest) pos) j):CWh X xw C (.BoolOp .Or (a::b::rest) pos) (.or i j):=PW.imp (ZcE ha hb) λσ H Q ⟨ρ,l,S,st,lr,h⟩=>by
 have h':End X.K xw Xu ρ H Q (((ev C i l S).bind λx S=>match x with | .bl c=>if c then .ok (.bl true) S else ev C j l S | _=>.no).bind λx S=>Ev.ob (Ev.truth S x) S):=h
 refine⟨ρ,l,S,st,lr,?_⟩;show End X.K xw Xu ρ H _ ((ev C i l S).bind λx S=>Ev.ob (Ev.truth S x) S)
 cases q:ev C i l S with
 |no=>rw[q] at h';exact h'
 |ex c S1=>rw[q] at h';exact h'
 |ok x S1=>
  rw[q] at h';cases x with
  |bl n=>
   intro ρ1 H1 w f1 st1 e;have e':n=w:=e;subst e';cases n with
   |false=>exact⟨ρ1,l,S1,st1,lr.mono f1,End.mono f1 (show End X.K xw Xu ρ H Q ((ev C j l S1).bind λx S=>Ev.ob (Ev.truth S x) S) from h')⟩
   |true=>exact (show End X.K xw Xu ρ H Q (.ok true S1) from h') ρ1 H1 true f1 st1 rfl
  |_=>exact False.elim h'
end
section
variable {K:PySem.W.Frag}{ρ:List Addr}{H:Hp}{S:Store}
theorem Qy {f:D->D->Option Bool}(hf:∀x y v b,Rep ρ H x v->Rep ρ H y v->f x y=some b->b=true):∀{ds es:List D}{xs:List V}{b:Bool},Rq ρ H ds xs->Rq ρ H es xs->Ev.eqL f ds es=some b->b=true
 |[],[],_,b,_,_,h=>(Pb h).symm
 |d::ds,e::es,_,b,r1,r2,h=>by
  unfold Rq at r1 r2;obtain⟨v,vs,rfl,a1,b1⟩:=r1;obtain⟨v',vs',e',a2,b2⟩:=r2;cases e';unfold Ev.eqL at h;cases q1:f d e with
  |none=>rw[q1] at h;cases h
  |some p=>
   cases q2:Ev.eqL f ds es with
   |none=>rw[q1,q2] at h;cases h
   |some q=>
    rw[q1,q2] at h;have h':(p&&q)=b:=Pb h;rw[<-h',hf d e v p a1 a2 q1,Qy hf b1 b2 q2];rfl
 |[],_::_,_,b,r1,r2,h=>by
  have l1:=r1.length;have l2:=r2.length;rw[l1] at l2;simp at l2
 |_::_,[],_,b,r1,r2,h=>by
  have l1:=r1.length;have l2:=r2.length;rw[l1] at l2;simp at l2
theorem Vg (st:St3 K ρ S H):∀(k:Nat) (x y:D) (v:V) (b:Bool),Rep ρ H x v->Rep ρ H y v->Ev.eqD S k x y=some b->b=true
 |0,_,_,_,_,_,_,h=>by cases h
 |k+1,x,y,v,b,r1,r2,h=>by
  cases x with
  |non=>
   cases r1.non';cases y with
   |non=>exact (Pb h).symm
   |bl _=>cases r2.bl'
   |int _=>cases r2.int'
   |str _=>cases r2.str'
   |tup _=>obtain⟨_,_,z,_⟩:=r2.tup';cases z
   |loc _=>obtain⟨_,z,_⟩:=r2.loc';cases z
   |fn _=>unfold Rep at r2;exact r2.elim
   |exc _ _=>unfold Rep at r2;exact r2.elim
  |bl i=>
   cases r1.bl';cases y with
   |bl j=>cases r2.bl';have:=Pb h;rw[<-this];exact PC rfl
   |non=>cases r2.non'
   |int _=>cases r2.int'
   |str _=>cases r2.str'
   |tup _=>obtain⟨_,_,z,_⟩:=r2.tup';cases z
   |loc _=>obtain⟨_,z,_⟩:=r2.loc';cases z
   |fn _=>unfold Rep at r2;exact r2.elim
   |exc _ _=>unfold Rep at r2;exact r2.elim
  |int i=>
   cases r1.int';cases y with
   |int j=>cases r2.int';have:=Pb h;rw[<-this];exact PC rfl
   |non=>cases r2.non'
   |bl _=>cases r2.bl'
   |str _=>cases r2.str'
   |tup _=>obtain⟨_,_,z,_⟩:=r2.tup';cases z
   |loc _=>obtain⟨_,z,_⟩:=r2.loc';cases z
   |fn _=>unfold Rep at r2;exact r2.elim
   |exc _ _=>unfold Rep at r2;exact r2.elim
  |str i=>
   cases r1.str';cases y with
   |str j=>cases r2.str';have:=Pb h;rw[<-this];exact PC rfl
   |non=>cases r2.non'
   |bl _=>cases r2.bl'
   |int _=>cases r2.int'
   |tup _=>obtain⟨_,_,z,_⟩:=r2.tup';cases z
   |loc _=>obtain⟨_,z,_⟩:=r2.loc';cases z
   |fn _=>unfold Rep at r2;exact r2.elim
   |exc _ _=>unfold Rep at r2;exact r2.elim
  |tup ds=>
   obtain⟨p,xs,rfl,hp,q1⟩:=r1.tup';cases y with
   |tup es=>
    obtain⟨p',xs',z,hp',q2⟩:=r2.tup';cases z;rw[hp] at hp';cases hp';exact Qy (λx y v b=>Vg st k x y v b) q1 q2 h
   |non=>cases r2.non'
   |bl _=>cases r2.bl'
   |int _=>cases r2.int'
   |str _=>cases r2.str'
   |loc _=>cases h
   |fn _=>unfold Rep at r2;exact r2.elim
   |exc _ _=>unfold Rep at r2;exact r2.elim
  |loc m=>
   obtain⟨p,rfl,hp⟩:=r1.loc';cases y with
   |loc n=>
    obtain⟨p',z,hp'⟩:=r2.loc';cases z;have h':(match Ev.Zh S m,Ev.Zh S n with
     |some xs,some ys=>if xs.length=ys.length then Ev.eqL (Ev.eqD S k) xs ys else some false
     |_,_=>none)=some b:=h
    cases e1:Ev.Zh S m with
    |none=>rw[e1] at h';cases h'
    |some ds=>
     cases e2:Ev.Zh S n with
     |none=>rw[e1,e2] at h';cases h'
     |some es=>
      rw[e1,e2] at h';obtain⟨s1,a1,xs,t1,u1,q1⟩:=st.lst e1;obtain⟨s2,a2,ys,t2,u2,q2⟩:=st.lst e2;by_cases hmn:m=n
      ·subst hmn
       rw[e1] at e2;cases e2;have h2:(if ds.length=ds.length then Ev.eqL (Ev.eqD S k) ds ds else some false)=some b:=h'
       rw[Pg rfl] at h2;exact Qy (λx y v b=>Vg st k x y v b) q1 q1 h2
      ·rcases st.nd m n p hp hp' hmn with ⟨ns,z⟩ | ⟨ns,z⟩
       ·rw[s1] at z;cases z
       ·rw[s2] at z;cases z
   |non=>cases r2.non'
   |bl _=>cases r2.bl'
   |int _=>cases r2.int'
   |str _=>cases r2.str'
   |tup _=>cases h
   |fn _=>unfold Rep at r2;exact r2.elim
   |exc _ _=>unfold Rep at r2;exact r2.elim
  |fn _=>unfold Rep at r1;exact r1.elim
  |exc _ _=>unfold Rep at r1;exact r1.elim
noncomputable def eAt (f:D->D->Option Bool) (ds es:List D) (j:Nat):Bool:=match ds[j]?,es[j]? with
 |some x,some y=>(f x y).getD false
 |_,_=>false
theorem Xa {f:D->D->Option Bool}:∀{ds es:List D}{b:Bool},Ev.eqL f ds es=some b->
  ((List.range (min ds.length es.length)).all (eAt f ds es)&&ds.length == es.length)=b/\∀j x y,ds[j]? = some x->es[j]? = some y->f x y=some (eAt f ds es j)
 |[],[],b,h=>⟨Pb h,λj x y e=>by simp at e⟩
 |[],_::es,b,h=>⟨by rw[<-Pb h];simp,λj x y e=>by simp at e⟩
 |_::ds,[],b,h=>⟨by rw[<-Pb h];simp,λj x y _ e=>by simp at e⟩
 |d::ds,e::es,b,h=>by
  unfold Ev.eqL at h;cases q1:f d e with
  |none=>rw[q1] at h;cases h
  |some p=>
   cases q2:Ev.eqL f ds es with
   |none=>rw[q1,q2] at h;cases h
   |some q=>
    rw[q1,q2] at h;obtain⟨ih,ih2⟩:=Xa q2;have h':(p&&q)=b:=Pb h;have e0:eAt f (d::ds) (e::es) 0=p:=by simp[eAt,q1]
    have es':∀j,eAt f (d::ds) (e::es) (j+1)=eAt f ds es j:=λj=>by simp[eAt]
    refine⟨?_,λj x y hx hy=>?_⟩
    ·rw[<-h',<-ih,Px,Px,Nat.succ_min_succ,List.range_succ_eq_map,List.all_cons,e0,KO]
     have:((List.range (min ds.length es.length)).all (eAt f (d::ds) (e::es)∘Nat.succ))=(List.range (min ds.length es.length)).all (eAt f ds es):=by
      exact congrArg (λg=>(List.range (min ds.length es.length)).all g) (funext λj=>es' j)
     rw[this,Bool.and_assoc]
     congr 2
     simp
    ·cases j with
     |zero=>
      simp at hx hy;subst hx hy;rw[e0];exact q1
     |succ j=>
      rw[es' j];exact ih2 j x y (by simpa using hx) (by simpa using hy)
end
section
variable {X:Cx}{pq:List (Addr×Obj)}{σ:L2.St}{H:Hp}{s:Shared}{ρ:List Addr}{S:Store}
theorem Yy {A:Around}{k:Nat}(h:A.units+(k+1)<cLine):A.in1.units+k<cLine:=by
 have e:A.in1.units<=A.units+1:=by
  first | exact Pp _ | (simp[Around.in1,Around.units] <;> omega)
 omega
theorem Gy (I:Inv X pq σ H s) (st:St3 X.K ρ S H):∀(k:Nat) (A:Around) (x y:D) (v u:V) (vv uu:Value) (b:Bool),A.units+k<cLine->Rep ρ H x v->Rep ρ H y u->ZF v vv->ZF u uu->Ev.eqD S k x y=some b->SeqAt.EqAt A s vv uu b
 |0,_,_,_,_,_,_,_,_,_,_,_,_,_,h=>by cases h
 |k+1,A,x,y,v,u,vv,uu,b,hu,r1,r2,e1,e2,h=>by
  have flat:xU v=true->xU u=true->eqV v u=b->SeqAt.EqAt A s vv uu b:=λf1 f2 e=>by rw[<-e];exact ZbN e1 e2 f1 f2
  have bb:∀{a c:Bool},(a == c)=decide (a=c):=λ{a c}=>by cases a <;> cases c <;> rfl
  have ii:∀{a c:Int},(a == c)=decide (a=c):=λ{a c}=>by rw[P3];simp
  have ss:∀{a c:Str},(a == c)=decide (a=c):=λ{a c}=>by rw[P3];simp
  cases x with
  |non=>
   cases r1.non';cases y with
   |non=>cases r2.non';exact flat rfl rfl (Pb h)
   |bl _=>cases r2.bl';exact flat rfl rfl (Pb h)
   |int _=>cases r2.int';exact flat rfl rfl (Pb h)
   |str _=>cases r2.str';exact flat rfl rfl (Pb h)
   |_=>cases h
  |bl i=>
   cases r1.bl';cases y with
   |non=>cases r2.non';exact flat rfl rfl (Pb h)
   |bl _=>cases r2.bl';exact flat rfl rfl (bb.trans (Pb h))
   |int _=>cases r2.int';exact flat rfl rfl (ii.trans (Pb h))
   |str _=>cases r2.str';exact flat rfl rfl (Pb h)
   |_=>cases h
  |int i=>
   cases r1.int';cases y with
   |non=>cases r2.non';exact flat rfl rfl (Pb h)
   |bl _=>cases r2.bl';exact flat rfl rfl (ii.trans (Pb h))
   |int _=>cases r2.int';exact flat rfl rfl (ii.trans (Pb h))
   |str _=>cases r2.str';exact flat rfl rfl (Pb h)
   |_=>cases h
  |str i=>
   cases r1.str';cases y with
   |non=>cases r2.non';exact flat rfl rfl (Pb h)
   |bl _=>cases r2.bl';exact flat rfl rfl (Pb h)
   |int _=>cases r2.int';exact flat rfl rfl (Pb h)
   |str _=>cases r2.str';exact flat rfl rfl (ss.trans (Pb h))
   |_=>cases h
  |tup ds=>
   obtain⟨p,xs,rfl,hp,q1⟩:=r1.tup';cases e1;cases y with
   |tup es=>
    obtain⟨p',ys,rfl,hp',q2⟩:=r2.tup';cases e2;by_cases hpp:p=p'
    ·subst hpp
     rw[Vg st (k+1) (.tup ds) (.tup es) (.ref p) b r1 r2 h];exact K8 _
    ·obtain⟨its,v1,t1,_⟩:=I.tuple (SqT.of hp)
     obtain⟨its2,v2,t2,_⟩:=I.tuple (SqT.of hp');have h':Ev.eqL (Ev.eqD S k) ds es=some b:=h;obtain⟨ev,ea⟩:=Xa h';have n1:its.toArray.size=ds.length:=by rw[Pf,<-v1.length,q1.length]
     have n2:its2.toArray.size=es.length:=by rw[Pf,<-v2.length,q2.length]
     refine SeqAt.EqAt.of_refs hpp ?_;rw[<-ev,<-n1,<-n2];refine SeqAt.RcAt.tuples t1 t2 (by omega) λj j1 j2=>?_
     have d1:ds[j]? = some ds[j]:=Pc (by omega)
     have d2:es[j]? = some es[j]:=Pc (by omega)
     obtain⟨w1,g1,z1⟩:=q1.get d1;obtain⟨w2,g2,z2⟩:=q2.get d2;obtain⟨m1,k1,y1⟩:=v1.get g1;obtain⟨m2,k2,y2⟩:=v2.get g2;have o1:its.toArray[j]=m1:=by
      have:=Pr.mp k1
      simpa using this.2
     have o2:its2.toArray[j]=m2:=by
      have:=Pr.mp k2
      simpa using this.2
     rw[o1,o2];exact Gy I st k A.in1 ds[j] es[j] w1 w2 m1 m2 _ (Yy hu) z1 z2 y1 y2 (ea j _ _ d1 d2)
   |_=>cases h
  |loc m=>
   obtain⟨p,rfl,hp⟩:=r1.loc';cases e1;cases y with
   |loc n=>
    obtain⟨p',rfl,hp'⟩:=r2.loc';cases e2;by_cases hpp:p=p'
    ·subst hpp
     rw[Vg st (k+1) (.loc m) (.loc n) (.ref p) b r1 r2 h];exact K8 _
    ·have h':(match Ev.Zh S m,Ev.Zh S n with
      |some xs,some ys=>if xs.length=ys.length then Ev.eqL (Ev.eqD S k) xs ys else some false
      |_,_=>none)=some b:=h
     cases a1:Ev.Zh S m with
     |none=>rw[a1] at h';cases h'
     |some ds=>
      cases a2:Ev.Zh S n with
      |none=>rw[a1,a2] at h';cases h'
      |some es=>
       rw[a1,a2] at h';obtain⟨s1,c1,xs,t1,u1,q1⟩:=st.lst a1;obtain⟨s2,c2,ys,t2,u2,q2⟩:=st.lst a2;rw[hp] at t1;cases t1;rw[hp'] at t2;cases t2;obtain⟨its,v1,p1,_⟩:=I.list (SqL.of u1);obtain⟨its2,v2,p2,_⟩:=I.list (SqL.of u2);have n1:its.toArray.size=ds.length:=by rw[Pf,<-v1.length,q1.length]
       have n2:its2.toArray.size=es.length:=by rw[Pf,<-v2.length,q2.length]
       refine SeqAt.EqAt.of_refs hpp ?_;have h2:(if ds.length=es.length then Ev.eqL (Ev.eqD S k) ds es else some false)=some b:=h'
       by_cases hl:ds.length=es.length
       ·rw[Pg hl] at h2
        obtain⟨ev,ea⟩:=Xa h2;have ev':(List.range ds.length).all (eAt (Ev.eqD S k) ds es)=b:=by
         rw[<-ev,<-hl,Nat.min_self];simp
        rw[<-ev',<-n1];refine SeqAt.RcAt.lists p1.isList p2.isList (by omega) (by omega) λj j1 j2=>?_
        have d1:ds[j]? = some ds[j]:=Pc (by omega)
        have d2:es[j]? = some es[j]:=Pc (by omega)
        obtain⟨w1,g1,z1⟩:=q1.get d1;obtain⟨w2,g2,z2⟩:=q2.get d2;obtain⟨m1,k1,y1⟩:=v1.get g1;obtain⟨m2,k2,y2⟩:=v2.get g2;have o1:its.toArray[j]=m1:=by
         have:=Pr.mp k1
         simpa using this.2
        have o2:its2.toArray[j]=m2:=by
         have:=Pr.mp k2
         simpa using this.2
        rw[o1,o2];exact Gy I st k A.in1 ds[j] es[j] w1 w2 m1 m2 _ (Yy hu) z1 z2 y1 y2 (ea j _ _ d1 d2)
       ·rw[Pi hl] at h2
        rw[<-Pb h2];exact SeqAt.RcAt.lists_lengths p1.isList p2.isList (bne_iff_ne.mpr (by omega)) (by omega)
   |_=>cases h
  |_=>cases h
end
section
variable {X:Cx}{pq:List (Addr×Obj)}{σ:L2.St}{H:Hp}{s:Shared}{ρ:List Addr}{S:Store}
theorem Vz (I:Inv X pq σ H s) (st:St3 X.K ρ S H) {k:Nat}{A:Around}{ds es:List D}{xs ys:List V}{its its2:List Value}{b:Bool}(hu:A.units+(k+1)<cLine)
  (q1:Rq ρ H ds xs) (q2:Rq ρ H es ys) (v1:Vals xs its) (v2:Vals ys its2) (h:Ev.eqL (Ev.eqD S k) ds es=some b) :
  ∀j (h1:j<its.toArray.size) (h2:j<its2.toArray.size),SeqAt.EqAt A.in1 s its.toArray[j] its2.toArray[j] (eAt (Ev.eqD S k) ds es j):=λj j1 j2=>by
 obtain⟨_,ea⟩:=Xa h;have n1:its.toArray.size=ds.length:=by rw[Pf,<-v1.length,q1.length]
 have n2:its2.toArray.size=es.length:=by rw[Pf,<-v2.length,q2.length]
 have d1:ds[j]? = some ds[j]:=Pc (by omega)
 have d2:es[j]? = some es[j]:=Pc (by omega)
 obtain⟨w1,g1,z1⟩:=q1.get d1;obtain⟨w2,g2,z2⟩:=q2.get d2;obtain⟨m1,k1,y1⟩:=v1.get g1;obtain⟨m2,k2,y2⟩:=v2.get g2;have o1:its.toArray[j]=m1:=by
  have:=Pr.mp k1
  simpa using this.2
 have o2:its2.toArray[j]=m2:=by
  have:=Pr.mp k2
  simpa using this.2
 rw[o1,o2];exact Gy I st k A.in1 ds[j] es[j] w1 w2 m1 m2 _ (Yy hu) z1 z2 y1 y2 (ea j _ _ d1 d2)
end
section
variable {X:Cx}{xw:Nat->Hp->Prop}{C:Calls}{e a b c:Expr}{i j k:E}{pos p p':Pos}
def jn (K:PySem.W.Frag) (xw:Nat->Hp->Prop) (op:Cop):R2:=λv u H Q=>∃ρ S x y,St3 K ρ S H/\Rep ρ H x v/\Rep ρ H y u/\End K xw Rep ρ H Q (Ev.cmpop op x y S)
theorem Zbl {op:Cop}:∀σ H Q,tE X xw (ev C (.cmp op i j)) σ H Q->tOp (jn X.K xw op) (tE X xw (ev C i)) (tE X xw (ev C j)) σ H Q:=λσ H Q h=>
 X8 (r:=jn X.K xw op) (g:=Ev.cmpop op) (λ{ρ H S x y v u Q} st rx ry h=>⟨ρ,S,x,y,st,rx,ry,h⟩) σ H Q h
theorem dI {a c:Int}:(a == c)=decide (a=c):=by rw[P3];simp
theorem ZbD (hu:X.A.units+6<cLine):OpR X (compareOp .Eq) (jn X.K xw .eq):=by
 intro pq s σ H v u vv uu Q I e1 e2 h;obtain⟨ρ,S,x,y,st,rx,ry,h⟩:=h;have h0:End X.K xw Rep ρ H Q ((Ev.ob (Ev.eqD S Ev.Zm x y) S).bind λb S=>.ok (.bl b) S):=h
 obtain⟨b,hb,h1⟩:=End.ob h0;have q:Q (.bl b) H:=End.ok h1 st (Zq b);have flat:scal v u=true->decide (v=u)=b->wpAny (model X.prog X.w) X.A (compareOp .Eq vv uu) (EP X pq σ Q) X.xe s:=λhs e=>ZcM pq s σ H v u vv uu Q I e1 e2 ⟨hs,by rw[e];exact q⟩
 cases x with
 |non=>
  cases rx.non';cases y with
  |non=>cases ry.non';exact flat rfl (Pb hb▸by simp)
  |bl _=>cases ry.bl';exact flat rfl (Pb hb▸by simp)
  |int _=>cases ry.int';exact flat rfl (Pb hb▸by simp)
  |str _=>cases ry.str';exact flat rfl (Pb hb▸by simp)
  |_=>cases hb
 |bl i=>
  cases rx.bl';cases y with
  |non=>cases ry.non';exact flat rfl (Pb hb▸by simp)
  |bl j=>cases ry.bl';exact flat rfl (Pb hb▸by simp)
  |int j=>
   cases ry.int';cases e1;obtain⟨t,rfl⟩:=e2;refine EqBoolInt.eq_bool_int ⟨.bl b,H,I,?_,q⟩;show Value.bool ((if i then 1 else 0) == j)=Value.bool b
   rw[dI];exact congrArg Value.bool (Pb hb)
  |str _=>cases ry.str';exact flat rfl (Pb hb▸by simp)
  |_=>cases hb
 |int i=>
  cases rx.int';cases y with
  |non=>cases ry.non';exact flat rfl (Pb hb▸by simp)
  |bl j=>
   cases ry.bl';cases e2;obtain⟨t,rfl⟩:=e1;refine EqBoolInt.eq_int_bool ⟨.bl b,H,I,?_,q⟩;show Value.bool (i == (if j then 1 else 0))=Value.bool b
   rw[dI];exact congrArg Value.bool (Pb hb)
  |int _=>cases ry.int';exact flat rfl (Pb hb▸by simp)
  |str _=>cases ry.str';exact flat rfl (Pb hb▸by simp)
  |_=>cases hb
 |str i=>
  cases rx.str';cases y with
  |non=>cases ry.non';exact flat rfl (Pb hb▸by simp)
  |bl _=>cases ry.bl';exact flat rfl (Pb hb▸by simp)
  |int _=>cases ry.int';exact flat rfl (Pb hb▸by simp)
  |str _=>cases ry.str';exact flat rfl (Pb hb▸by simp)
  |_=>cases hb
 |tup ds=>
  obtain⟨p,xs,rfl,hp,q1⟩:=rx.tup';cases e1;cases y with
  |tup es=>
   obtain⟨p',ys,rfl,hp',q2⟩:=ry.tup';cases e2;obtain⟨its,v1,t1,_⟩:=I.tuple (SqT.of hp);obtain⟨its2,v2,t2,_⟩:=I.tuple (SqT.of hp');have hb':Ev.eqL (Ev.eqD S 5) ds es=some b:=hb;obtain⟨ev,_⟩:=Xa hb';have n1:its.toArray.size=ds.length:=by rw[Pf,<-v1.length,q1.length]
   have n2:its2.toArray.size=es.length:=by rw[Pf,<-v2.length,q2.length]
   refine SeqAt.RcAt.tuples t1 t2 (by omega) (Vz I st hu q1 q2 v1 v2 hb') X.prog X.w X.xe _ ?_
   rw[n1,n2,ev];exact⟨.bl b,H,I,rfl,q⟩
  |_=>cases hb
 |loc m=>
  obtain⟨p,rfl,hp⟩:=rx.loc';cases e1;cases y with
  |loc n=>
   obtain⟨p',rfl,hp'⟩:=ry.loc';cases e2;have h':(match Ev.Zh S m,Ev.Zh S n with
    |some xs,some ys=>if xs.length=ys.length then Ev.eqL (Ev.eqD S 5) xs ys else some false
    |_,_=>none)=some b:=hb
   cases a1:Ev.Zh S m with
   |none=>rw[a1] at h';cases h'
   |some ds=>
    cases a2:Ev.Zh S n with
    |none=>rw[a1,a2] at h';cases h'
    |some es=>
     rw[a1,a2] at h';obtain⟨s1,c1,xs,t1,u1,q1⟩:=st.lst a1;obtain⟨s2,c2,ys,t2,u2,q2⟩:=st.lst a2;rw[hp] at t1;cases t1;rw[hp'] at t2;cases t2;obtain⟨its,v1,p1,_⟩:=I.list (SqL.of u1);obtain⟨its2,v2,p2,_⟩:=I.list (SqL.of u2);have n1:its.toArray.size=ds.length:=by rw[Pf,<-v1.length,q1.length]
     have n2:its2.toArray.size=es.length:=by rw[Pf,<-v2.length,q2.length]
     have h2:(if ds.length=es.length then Ev.eqL (Ev.eqD S 5) ds es else some false)=some b:=h'
     by_cases hl:ds.length=es.length
     ·rw[Pg hl] at h2
      obtain⟨ev,_⟩:=Xa h2;have ev':(List.range ds.length).all (eAt (Ev.eqD S 5) ds es)=b:=by
       rw[<-ev,<-hl,Nat.min_self];simp
      refine SeqAt.RcAt.lists p1.isList p2.isList (by omega) (by omega) (Vz I st hu q1 q2 v1 v2 h2) X.prog X.w X.xe _ ?_
      rw[n1,ev'];exact⟨.bl b,H,I,rfl,q⟩
     ·rw[Pi hl] at h2
      refine SeqAt.RcAt.lists_lengths p1.isList p2.isList (bne_iff_ne.mpr (by omega)) (by omega) X.prog X.w X.xe _ ?_
      exact⟨.bl b,H,I,congrArg Value.bool (Pb h2),q⟩
  |_=>cases hb
 |_=>cases hb
theorem Zbi (hu:X.A.units+6<cLine):OpR X (compareOp .NotEq) (jn X.K xw .ne):=by
 intro pq s σ H v u vv uu Q I e1 e2 h;obtain⟨ρ,S,x,y,st,rx,ry,h⟩:=h;have h0:End X.K xw Rep ρ H Q ((Ev.ob (Ev.eqD S Ev.Zm x y) S).bind λb S=>.ok (.bl !b) S):=h
 obtain⟨b,hb,h1⟩:=End.ob h0;have q:Q (.bl !b) H:=End.ok h1 st (Zq _);have flat:scal v u=true->decide (v=u)=b->wpAny (model X.prog X.w) X.A (compareOp .NotEq vv uu) (EP X pq σ Q) X.xe s:=λhs e=>ZcS pq s σ H v u vv uu Q I e1 e2 ⟨hs,by rw[e];exact q⟩
 cases x with
 |non=>
  cases rx.non';cases y with
  |non=>cases ry.non';exact flat rfl (Pb hb▸by simp)
  |bl _=>cases ry.bl';exact flat rfl (Pb hb▸by simp)
  |int _=>cases ry.int';exact flat rfl (Pb hb▸by simp)
  |str _=>cases ry.str';exact flat rfl (Pb hb▸by simp)
  |_=>cases hb
 |bl i=>
  cases rx.bl';cases y with
  |non=>cases ry.non';exact flat rfl (Pb hb▸by simp)
  |bl j=>cases ry.bl';exact flat rfl (Pb hb▸by simp)
  |int j=>
   cases ry.int';cases e1;obtain⟨t,rfl⟩:=e2;refine EqBoolInt.ne_bool_int ⟨.bl !b,H,I,?_,q⟩;show Value.bool (!((if i then 1 else 0) == j))=Value.bool !b
   rw[dI];exact congrArg (λz=>Value.bool !z) (Pb hb)
  |str _=>cases ry.str';exact flat rfl (Pb hb▸by simp)
  |_=>cases hb
 |int i=>
  cases rx.int';cases y with
  |non=>cases ry.non';exact flat rfl (Pb hb▸by simp)
  |bl j=>
   cases ry.bl';cases e2;obtain⟨t,rfl⟩:=e1;refine EqBoolInt.ne_int_bool ⟨.bl !b,H,I,?_,q⟩;show Value.bool (!(i == (if j then 1 else 0)))=Value.bool !b
   rw[dI];exact congrArg (λz=>Value.bool !z) (Pb hb)
  |int _=>cases ry.int';exact flat rfl (Pb hb▸by simp)
  |str _=>cases ry.str';exact flat rfl (Pb hb▸by simp)
  |_=>cases hb
 |str i=>
  cases rx.str';cases y with
  |non=>cases ry.non';exact flat rfl (Pb hb▸by simp)
  |bl _=>cases ry.bl';exact flat rfl (Pb hb▸by simp)
  |int _=>cases ry.int';exact flat rfl (Pb hb▸by simp)
  |str _=>cases ry.str';exact flat rfl (Pb hb▸by simp)
  |_=>cases hb
 |tup ds=>
  obtain⟨p,xs,rfl,hp,q1⟩:=rx.tup';cases e1;cases y with
  |tup es=>
   obtain⟨p',ys,rfl,hp',q2⟩:=ry.tup';cases e2;obtain⟨its,v1,t1,_⟩:=I.tuple (SqT.of hp);obtain⟨its2,v2,t2,_⟩:=I.tuple (SqT.of hp');have hb':Ev.eqL (Ev.eqD S 5) ds es=some b:=hb;obtain⟨ev,_⟩:=Xa hb';have n1:its.toArray.size=ds.length:=by rw[Pf,<-v1.length,q1.length]
   have n2:its2.toArray.size=es.length:=by rw[Pf,<-v2.length,q2.length]
   refine SeqAt.RcNeAt.tuples t1 t2 (by omega) (Vz I st hu q1 q2 v1 v2 hb') X.prog X.w X.xe _ ?_
   rw[n1,n2,ev];exact⟨.bl !b,H,I,rfl,q⟩
  |_=>cases hb
 |loc m=>
  obtain⟨p,rfl,hp⟩:=rx.loc';cases e1;cases y with
  |loc n=>
   obtain⟨p',rfl,hp'⟩:=ry.loc';cases e2;have h':(match Ev.Zh S m,Ev.Zh S n with
    |some xs,some ys=>if xs.length=ys.length then Ev.eqL (Ev.eqD S 5) xs ys else some false
    |_,_=>none)=some b:=hb
   cases a1:Ev.Zh S m with
   |none=>rw[a1] at h';cases h'
   |some ds=>
    cases a2:Ev.Zh S n with
    |none=>rw[a1,a2] at h';cases h'
    |some es=>
     rw[a1,a2] at h';obtain⟨s1,c1,xs,t1,u1,q1⟩:=st.lst a1;obtain⟨s2,c2,ys,t2,u2,q2⟩:=st.lst a2;rw[hp] at t1;cases t1;rw[hp'] at t2;cases t2;obtain⟨its,v1,p1,_⟩:=I.list (SqL.of u1);obtain⟨its2,v2,p2,_⟩:=I.list (SqL.of u2);have n1:its.toArray.size=ds.length:=by rw[Pf,<-v1.length,q1.length]
     have n2:its2.toArray.size=es.length:=by rw[Pf,<-v2.length,q2.length]
     have h2:(if ds.length=es.length then Ev.eqL (Ev.eqD S 5) ds es else some false)=some b:=h'
     by_cases hl:ds.length=es.length
     ·rw[Pg hl] at h2
      obtain⟨ev,_⟩:=Xa h2;have ev':(List.range ds.length).all (eAt (Ev.eqD S 5) ds es)=b:=by
       rw[<-ev,<-hl,Nat.min_self];simp
      refine SeqAt.RcNeAt.lists p1.isList p2.isList (by omega) (by omega) (Vz I st hu q1 q2 v1 v2 h2) X.prog X.w X.xe _ ?_
      rw[n1,ev'];exact⟨.bl !b,H,I,rfl,q⟩
     ·rw[Pi hl] at h2
      refine SeqAt.RcNeAt.lists_lengths p1.isList p2.isList (bne_iff_ne.mpr (by omega)) (by omega) X.prog X.w X.xe _ ?_
      exact⟨.bl !b,H,I,congrArg (λz=>Value.bool !z) (Pb h2),q⟩
  |_=>cases hb
 |_=>cases hb
end
section
variable {K:PySem.W.Frag}{ρ:List Addr}{H:Hp}{S:Store}
theorem x5 {f:D->D->Option Bool}(hf:∀x x' y v b b',Rep ρ H x v->Rep ρ H x' v->f x y=some b->f x' y=some b'->b=b') :
  ∀{ds ds' es:List D} {xs:List V} {b b':Bool},Rq ρ H ds xs->Rq ρ H ds' xs->Ev.eqL f ds es=some b->Ev.eqL f ds' es=some b'->b=b'
 |[],[],[],_,b,b',_,_,h,h'=>(Pb h).symm.trans (Pb h')
 |[],[],_::_,_,b,b',_,_,h,h'=>(Pb h).symm.trans (Pb h')
 |_::_,_::_,[],_,b,b',_,_,h,h'=>(Pb h).symm.trans (Pb h')
 |d::ds,d'::ds',e::es,_,b,b',r1,r2,h,h'=>by
  unfold Rq at r1 r2;obtain⟨v,vs,rfl,a1,b1⟩:=r1;obtain⟨v',vs',e',a2,b2⟩:=r2;cases e';unfold Ev.eqL at h h';cases q1:f d e with
  |none=>rw[q1] at h;cases h
  |some p=>
   cases q2:Ev.eqL f ds es with
   |none=>rw[q1,q2] at h;cases h
   |some q=>
    cases q3:f d' e with
    |none=>rw[q3] at h';cases h'
    |some p'=>
     cases q4:Ev.eqL f ds' es with
     |none=>rw[q3,q4] at h';cases h'
     |some q'=>
      rw[q1,q2] at h;rw[q3,q4] at h';have z1:(p&&q)=b:=Pb h;have z2:(p'&&q')=b':=Pb h';rw[<-z1,<-z2,hf d d' e v p p' a1 a2 q1 q3,x5 hf b1 b2 q2 q4]
 |[],_::_,_,_,b,b',r1,r2,_,_=>by
  have l1:=r1.length;have l2:=r2.length;rw[l1] at l2;simp at l2
 |_::_,[],_,_,b,b',r1,r2,_,_=>by
  have l1:=r1.length;have l2:=r2.length;rw[l1] at l2;simp at l2
theorem xT (st:St3 K ρ S H):∀(k:Nat) (x x' y:D) (v:V) (b b':Bool),Rep ρ H x v->Rep ρ H x' v->Ev.eqD S k x y=some b->Ev.eqD S k x' y=some b'->b=b'
 |0,_,_,_,_,_,_,_,_,h,_=>by cases h
 |k+1,x,x',y,v,b,b',r1,r2,h,h'=>by
  cases x with
  |non=>
   cases r1.non';cases x' with
   |non=>exact Pb (h.symm.trans h')
   |bl _=>cases r2.bl'
   |int _=>cases r2.int'
   |str _=>cases r2.str'
   |tup _=>obtain⟨_,_,z,_⟩:=r2.tup';cases z
   |loc _=>obtain⟨_,z,_⟩:=r2.loc';cases z
   |fn _=>unfold Rep at r2;exact r2.elim
   |exc _ _=>unfold Rep at r2;exact r2.elim
  |bl i=>
   cases r1.bl';cases x' with
   |bl j=>cases r2.bl';exact Pb (h.symm.trans h')
   |non=>cases r2.non'
   |int _=>cases r2.int'
   |str _=>cases r2.str'
   |tup _=>obtain⟨_,_,z,_⟩:=r2.tup';cases z
   |loc _=>obtain⟨_,z,_⟩:=r2.loc';cases z
   |fn _=>unfold Rep at r2;exact r2.elim
   |exc _ _=>unfold Rep at r2;exact r2.elim
  |int i=>
   cases r1.int';cases x' with
   |int j=>cases r2.int';exact Pb (h.symm.trans h')
   |non=>cases r2.non'
   |bl _=>cases r2.bl'
   |str _=>cases r2.str'
   |tup _=>obtain⟨_,_,z,_⟩:=r2.tup';cases z
   |loc _=>obtain⟨_,z,_⟩:=r2.loc';cases z
   |fn _=>unfold Rep at r2;exact r2.elim
   |exc _ _=>unfold Rep at r2;exact r2.elim
  |str i=>
   cases r1.str';cases x' with
   |str j=>cases r2.str';exact Pb (h.symm.trans h')
   |non=>cases r2.non'
   |bl _=>cases r2.bl'
   |int _=>cases r2.int'
   |tup _=>obtain⟨_,_,z,_⟩:=r2.tup';cases z
   |loc _=>obtain⟨_,z,_⟩:=r2.loc';cases z
   |fn _=>unfold Rep at r2;exact r2.elim
   |exc _ _=>unfold Rep at r2;exact r2.elim
  |tup ds=>
   obtain⟨p,xs,rfl,hp,q1⟩:=r1.tup';cases y with
   |tup es=>
    cases x' with
    |tup ds'=>
     obtain⟨p',xs',z,hp',q2⟩:=r2.tup';cases z;rw[hp] at hp';cases hp';exact x5 (λx x' y v b b'=>xT st k x x' y v b b') q1 q2 h h'
    |non=>cases r2.non'
    |bl _=>cases r2.bl'
    |int _=>cases r2.int'
    |str _=>cases r2.str'
    |loc _=>cases h'
    |fn _=>unfold Rep at r2;exact r2.elim
    |exc _ _=>unfold Rep at r2;exact r2.elim
   |_=>cases h
  |loc m=>
   obtain⟨p,rfl,hp⟩:=r1.loc';cases y with
   |loc n=>
    cases x' with
    |loc m'=>
     obtain⟨p',z,hp'⟩:=r2.loc';cases z;by_cases hm:m=m'
     ·subst hm
      exact Pb (h.symm.trans h')
     ·have one:∀{q:Nat} {b:Bool},Ev.eqD S (k+1) (.loc q) (.loc n)=some b->∃ds,Ev.Zh S q=some ds:=λ{q b} h=>by
       have h2:(match Ev.Zh S q,Ev.Zh S n with
        |some xs,some ys=>if xs.length=ys.length then Ev.eqL (Ev.eqD S k) xs ys else some false
        |_,_=>none)=some b:=h
       cases e1:Ev.Zh S q with
       |none=>rw[e1] at h2;cases h2
       |some ds=>exact⟨ds,rfl⟩
      obtain⟨ds,e1⟩:=one h;obtain⟨ds',e2⟩:=one h';rcases st.nd m m' p hp hp' hm with ⟨ns,z⟩ | ⟨ns,z⟩
      ·rw[(st.lst e1).1] at z;cases z
      ·rw[(st.lst e2).1] at z;cases z
    |non=>cases r2.non'
    |bl _=>cases r2.bl'
    |int _=>cases r2.int'
    |str _=>cases r2.str'
    |tup _=>cases h'
    |fn _=>unfold Rep at r2;exact r2.elim
    |exc _ _=>unfold Rep at r2;exact r2.elim
   |_=>cases h
  |fn _=>unfold Rep at r1;exact r1.elim
  |exc _ _=>unfold Rep at r1;exact r1.elim
theorem JO {x:D}:∀{ds:List D}{b:Bool},Ev.inL S x ds=some b->∀d∈ds,∃c,Ev.eqD S Ev.Zm d x=some c
 |[],_,_,d,hd=>by cases hd
 |y::ys,b,h,d,hd=>by
  unfold Ev.inL at h;cases q1:Ev.eqD S Ev.Zm y x with
  |none=>rw[q1] at h;cases h
  |some p=>
   cases q2:Ev.inL S x ys with
   |none=>rw[q1,q2] at h;cases h
   |some q=>
    rcases Pk.mp hd with rfl | hd
    ·exact⟨p,q1⟩
    ·exact JO q2 d hd
theorem wy {x:D}:∀{ds:List D}{b:Bool},Ev.inL S x ds=some b->(ds.any λd=>(Ev.eqD S Ev.Zm d x).getD false)=b
 |[],_,h=>Pb h
 |y::ys,b,h=>by
  unfold Ev.inL at h;cases q1:Ev.eqD S Ev.Zm y x with
  |none=>rw[q1] at h;cases h
  |some p=>
   cases q2:Ev.inL S x ys with
   |none=>rw[q1,q2] at h;cases h
   |some q=>
    rw[q1,q2] at h;rw[List.any_cons,wy q2,q1,<-Pb h];rfl
end
section
variable {X:Cx}{pq:List (Addr×Obj)}{σ:L2.St}{H:Hp}{s:Shared}{ρ:List Addr}{S:Store}
open Classical in
theorem Vh (I:Inv X pq σ H s) (st:St3 X.K ρ S H) {A:Around}{x:D}{ds:List D}{xs:List V}{its:List Value}{b:Bool}{v:V}{vv:Value}(hu:A.units+6<cLine) (rx:Rep ρ H x v) (ex:ZF v vv)
  (q:Rq ρ H ds xs) (vs:Vals xs its) (h:Ev.inL S x ds=some b):∃e:Value->Bool,(∀u,u∈its.toArray->SeqAt.EqAt A s u vv (e u))/\its.toArray.any e=b:=by
 refine⟨λu=>decide (∃d∈ds,∃w,Rep ρ H d w/\ZF w u/\Ev.eqD S Ev.Zm d x=some true),λu hu'=>?_,?_⟩
 ·have hu2:u∈its:=by simpa using hu'
  obtain⟨j,hj,e⟩:=P8 hu2;have hl:j<ds.length:=by rw[<-q.length,vs.length];exact hj
  obtain⟨w,g,r⟩:=q.get (Pc hl);obtain⟨u',g',r'⟩:=vs.get g;have eu:u'=u:=by
   rw[Pc hj] at g';exact (Pb g').symm.trans e
  subst eu;obtain⟨c,hc⟩:=JO h ds[j] (P9 hl);have ec:decide (∃d∈ds,∃w,Rep ρ H d w/\ZF w u'/\Ev.eqD S Ev.Zm d x=some true)=c:=by
   cases c with
   |true=>exact PC ⟨ds[j],P9 hl,w,r,r',hc⟩
   |false=>
    refine PV ?_
    rintro ⟨d,hd,w',a1,a2,a3⟩
    cases a2.inj r';exact absurd (xT st 6 d ds[j] x w true false a1 r a3 hc) (by decide)
  dsimp only
  rw[ec];exact Gy I st 6 A ds[j] x w v u' vv c hu r rx r' ex hc
 ·rw[<-wy h,List.any_toArray,P3,Ku,Ku]
  constructor
  ·rintro ⟨u,hu1,h1⟩
   obtain⟨d,hd,w,a1,a2,a3⟩:=Pq h1;exact⟨d,hd,by rw[a3];rfl⟩
  ·rintro ⟨d,hd,h1⟩
   obtain⟨j,hj,e⟩:=P8 hd;subst e;obtain⟨w,g,r⟩:=q.get (Pc hj);obtain⟨u,g',r'⟩:=vs.get g;refine⟨u,Kp g',PC ⟨ds[j],hd,w,r,r',?_⟩⟩;obtain⟨c,hc⟩:=JO h ds[j] hd;rw[hc] at h1 ⊢;exact congrArg some h1
end
section
variable {X:Cx}{xw:Nat->Hp->Prop}{C:Calls}{e a b c:Expr}{i j k:E}{pos p p':Pos}
theorem Zco (hu:X.A.units+7<cLine):OpR X (compareOp .In) (λv u H Q=>∃ρ S x ds b,St3 X.K ρ S H/\Rep ρ H x v/\(Rep ρ H (.tup ds) u\/∃n,Rep ρ H (.loc n) u/\S[n]? = some (.lst ds))/\Ev.inL S x ds=some b/\Q (.bl b) H):=by
 intro pq s σ H v u vv uu Q I e1 e2 h;obtain⟨ρ,S,x,ds,b,st,rx,ry,hb,q⟩:=h;rcases ry with ry | ⟨n,ry,hn⟩
 ·obtain⟨p,xs,rfl,hp,q1⟩:=ry.tup'
  cases e2;obtain⟨its,v1,t1,_⟩:=I.tuple (SqT.of hp);obtain⟨f,h1,h2⟩:=Vh I st (A:=X.A.in1) (Yy hu) rx e1 q1 v1 hb;exact SeqAt.in_tupleAt f t1 h1 (by rw[h2];exact⟨.bl b,H,I,rfl,q⟩)
 ·obtain⟨p,rfl,hp⟩:=ry.loc'
  cases e2;obtain⟨p',hp',xs,hx,q1⟩:=st.at hn;rw[hp] at hp';cases hp';obtain⟨its,v1,t1,_⟩:=I.list (SqL.of hx);obtain⟨f,h1,h2⟩:=Vh I st (A:=X.A.in1) (Yy hu) rx e1 q1 v1 hb;exact SeqAt.in_listAt f t1.isList h1 (by rw[h2];exact⟨.bl b,H,I,rfl,q⟩)
theorem ZaU (hu:X.A.units+7<cLine):OpR X (compareOp .NotIn) (λv u H Q=>∃ρ S x ds b,St3 X.K ρ S H/\Rep ρ H x v/\(Rep ρ H (.tup ds) u\/∃n,Rep ρ H (.loc n) u/\S[n]? = some (.lst ds))/\Ev.inL S x ds=some b/\Q (.bl !b) H):=by
 intro pq s σ H v u vv uu Q I e1 e2 h;obtain⟨ρ,S,x,ds,b,st,rx,ry,hb,q⟩:=h;rcases ry with ry | ⟨n,ry,hn⟩
 ·obtain⟨p,xs,rfl,hp,q1⟩:=ry.tup'
  cases e2;obtain⟨its,v1,t1,_⟩:=I.tuple (SqT.of hp);obtain⟨f,h1,h2⟩:=Vh I st (A:=X.A.in1) (Yy hu) rx e1 q1 v1 hb;exact SeqAt.notIn_tupleAt f t1 h1 (by rw[h2];exact⟨.bl !b,H,I,rfl,q⟩)
 ·obtain⟨p,rfl,hp⟩:=ry.loc'
  cases e2;obtain⟨p',hp',xs,hx,q1⟩:=st.at hn;rw[hp] at hp';cases hp';obtain⟨its,v1,t1,_⟩:=I.list (SqL.of hx);obtain⟨f,h1,h2⟩:=Vh I st (A:=X.A.in1) (Yy hu) rx e1 q1 v1 hb;exact SeqAt.notIn_listAt f t1.isList h1 (by rw[h2];exact⟨.bl !b,H,I,rfl,q⟩)
variable {ρ:List Addr}{H:Hp}{S:Store}{x y:D}{v u:V}{Q:VK}{K:PySem.W.Frag}
theorem ZcC (st:St3 K ρ S H) (rx:Rep ρ H x v) (ry:Rep ρ H y u) (h:End K xw Rep ρ H Q (Ev.cmpop .lt x y S)):rI0 (λi j=>.bl (decide (i<j))) v u H Q\/∃a b A B,x=.tup a/\y=.tup b/\Ev.ZK a=some A/\Ev.ZK b=some B/\Q (.bl (Ev.ltP A B)) H:=by
 cases x with
 |int i=>cases y with
  |int j=>exact .inl ⟨i,j,rx.int',ry.int',End.ok h st (Zq _)⟩
  |_=>exact False.elim h
 |tup a=>cases y with
  |tup b=>
   obtain⟨A,hA,h⟩:=End.ob (show End K xw Rep ρ H Q ((Ev.ob (Ev.ZK a) S).bind λP S=>(Ev.ob (Ev.ZK b) S).bind λQ S=>.ok (.bl (Ev.ltP P Q)) S) from h)
   obtain⟨B,hB,h⟩:=End.ob h;exact .inr ⟨a,b,A,B,rfl,rfl,hA,hB,End.ok h st (Zq _)⟩
  |_=>exact False.elim h
 |_=>cases y <;> exact False.elim h
theorem ZcF (st:St3 K ρ S H) (rx:Rep ρ H x v) (ry:Rep ρ H y u) (h:End K xw Rep ρ H Q (Ev.cmpop .le x y S)):rI0 (λi j=>.bl (decide (i<=j))) v u H Q:=by
 cases x with
 |int i=>cases y with
  |int j=>exact⟨i,j,rx.int',ry.int',End.ok h st (Zq _)⟩
  |_=>exact False.elim h
 |_=>cases y <;> exact False.elim h
theorem X0 (st:St3 K ρ S H) (rx:Rep ρ H x v) (ry:Rep ρ H y u) (h:End K xw Rep ρ H Q (Ev.cmpop .gt x y S)):rI0 (λi j=>.bl (decide (j<i))) v u H Q:=by
 cases x with
 |int i=>cases y with
  |int j=>exact⟨i,j,rx.int',ry.int',End.ok h st (Zq _)⟩
  |_=>exact False.elim h
 |_=>cases y <;> exact False.elim h
theorem ZcJ (st:St3 K ρ S H) (rx:Rep ρ H x v) (ry:Rep ρ H y u) (h:End K xw Rep ρ H Q (Ev.cmpop .ge x y S)):rI0 (λi j=>.bl (decide (j<=i))) v u H Q:=by
 cases x with
 |int i=>cases y with
  |int j=>exact⟨i,j,rx.int',ry.int',End.ok h st (Zq _)⟩
  |_=>exact False.elim h
 |_=>cases y <;> exact False.elim h
end
section
variable {X:Cx}{xw:Nat->Hp->Prop}{C:Calls}{e a b c:Expr}{i j k:E}{pos p p':Pos}
theorem Y9 {α β γ:Type}(r:R α) (f:α->Store->R β) (g:β->Store->R γ):(r.bind f).bind g=r.bind λa S=>(f a S).bind g:=by cases r <;> rfl
theorem Uk {α β:Type}{o:Option α}{S S':Store}{f:α->Store->R β}{z:β}(h:(Ev.ob o S).bind f=.ok z S'):∃a,o=some a/\f a S=.ok z S':=by
 cases o with
 |none=>cases h
 |some a=>exact⟨a,rfl,h⟩
theorem qH {o:Cop}{x y:D}{S S':Store}{z:D}(h:Ev.cmpop o x y S=.ok z S'):∃b,z=.bl b:=by
 have fin:∀{n:Bool},R.ok (D.bl n) S=.ok z S'->∃b,z=.bl b:=λ{n} e=>by cases e;exact⟨n,rfl⟩
 cases o with
 |eq=>obtain⟨_,_,e⟩:=Uk h;exact fin e
 |ne=>obtain⟨_,_,e⟩:=Uk h;exact fin e
 |lt=>cases x <;> cases y <;> first | exact fin h | (obtain⟨_,_,e⟩:=Uk h;obtain⟨_,_,e⟩:=Uk e;exact fin e) | cases h
 |gt=>cases x <;> cases y <;> first | exact fin h | cases h
 |le=>cases x <;> cases y <;> first | exact fin h | cases h
 |ge=>cases x <;> cases y <;> first | exact fin h | cases h
 |is=>cases x <;> cases y <;> first | exact fin h | cases h
 |isn=>cases x <;> cases y <;> first | exact fin h | cases h
 |inn=>cases q:Ev.WG S x y with
  |ok b S1=>have h':((Ev.WG S x y).bind λb S=>R.ok (D.bl b) S)=.ok z S':=h;rw[q] at h';cases h';exact⟨b,rfl⟩
  |ex _ _=>have h':((Ev.WG S x y).bind λb S=>R.ok (D.bl b) S)=.ok z S':=h;rw[q] at h';cases h'
  |no=>have h':((Ev.WG S x y).bind λb S=>R.ok (D.bl b) S)=.ok z S':=h;rw[q] at h';cases h'
 |nin=>cases q:Ev.WG S x y with
  |ok b S1=>have h':((Ev.WG S x y).bind λb S=>R.ok (D.bl !b) S)=.ok z S':=h;rw[q] at h';cases h';exact⟨!b,rfl⟩
  |ex _ _=>have h':((Ev.WG S x y).bind λb S=>R.ok (D.bl !b) S)=.ok z S':=h;rw[q] at h';cases h'
  |no=>have h':((Ev.WG S x y).bind λb S=>R.ok (D.bl !b) S)=.ok z S':=h;rw[q] at h';cases h'
def Xg (X:Cx) (xw:Nat->Hp->Prop) (op:CmpOp) (o:Cop):Prop:=OpR X (compareOp op) (jn X.K xw o)
theorem OpR.imp {X:Cx}{f:Value->Value->Sem Value}{r r':R2}(h:OpR X f r) (k:∀v u H Q,r' v u H Q->r v u H Q):OpR X f r':=λpq s σ H x y v u Q I e1 e2 q=>h pq s σ H x y v u Q I e1 e2 (k x y H Q q)
theorem qv (hu:X.A.units+7<cLine):Xg X xw .Eq .eq:=ZbD (by omega)
theorem qi (hu:X.A.units+7<cLine):Xg X xw .NotEq .ne:=Zbi (by omega)
theorem QK (hu:X.A.units+7<cLine):Xg X xw .LtE .le:=OpR.imp ZcX λv u H Q ⟨ρ,S,x,y,st,rx,ry,h⟩=>ZcF st rx ry h
theorem uX (hu:X.A.units+7<cLine):Xg X xw .Gt .gt:=OpR.imp Zc4 λv u H Q ⟨ρ,S,x,y,st,rx,ry,h⟩=>X0 st rx ry h
theorem qG (hu:X.A.units+7<cLine):Xg X xw .GtE .ge:=OpR.imp Zcv λv u H Q ⟨ρ,S,x,y,st,rx,ry,h⟩=>ZcJ st rx ry h
theorem ui (hu:X.A.units+7<cLine):Xg X xw .Is .is:=OpR.imp (Zb1.or ZbC) λv u H Q ⟨ρ,S,x,y,st,rx,ry,h⟩=>by
 cases y with
 |non=>
  refine .inl ⟨ry.non',?_⟩;have e:decide (x=D.non)=decide (v=V.non):=by
   cases x with
   |non=>rw[rx.non'];simp
   |bl _=>rw[rx.bl'];simp
   |int _=>rw[rx.int'];simp
   |str _=>rw[rx.str'];simp
   |tup _=>obtain⟨_,_,z,_⟩:=rx.tup';rw[z];simp
   |loc _=>obtain⟨_,z,_⟩:=rx.loc';rw[z];simp
   |fn _=>unfold Rep at rx;exact rx.elim
   |exc _ _=>unfold Rep at rx;exact rx.elim
  rw[<-e];have h':End X.K xw Rep ρ H Q (.ok (.bl (decide (x=.non))) S):=by cases x <;> exact h
  exact End.ok h' st (Zq _)
 |bl j=>cases x with
  |bl i=>exact .inr ⟨i,j,rx.bl',ry.bl',End.ok h st (Zq _)⟩
  |_=>exact False.elim h
 |_=>cases x <;> exact False.elim h
theorem yr (hu:X.A.units+7<cLine):Xg X xw .IsNot .isn:=OpR.imp (ZaA.or Zas) λv u H Q ⟨ρ,S,x,y,st,rx,ry,h⟩=>by
 cases y with
 |non=>
  refine .inl ⟨ry.non',?_⟩;have e:decide (x≠D.non) = !decide (v=V.non):=by
   cases x with
   |non=>rw[rx.non'];simp
   |bl _=>rw[rx.bl'];simp
   |int _=>rw[rx.int'];simp
   |str _=>rw[rx.str'];simp
   |tup _=>obtain⟨_,_,z,_⟩:=rx.tup';rw[z];simp
   |loc _=>obtain⟨_,z,_⟩:=rx.loc';rw[z];simp
   |fn _=>unfold Rep at rx;exact rx.elim
   |exc _ _=>unfold Rep at rx;exact rx.elim
  rw[<-e];have h':End X.K xw Rep ρ H Q (.ok (.bl (decide (x≠.non))) S):=by cases x <;> exact h
  exact End.ok h' st (Zq _)
 |bl j=>cases x with
  |bl i=>exact .inr ⟨i,j,rx.bl',ry.bl',End.ok h st (Zq _)⟩
  |_=>exact False.elim h
 |_=>cases x <;> exact False.elim h
theorem GI {ρ:List Addr}{S:Store}{H:Hp}{x y:D}{u:V}(st:St3 X.K ρ S H) (ry:Rep ρ H y u) {f:Bool->Store->R D}{Q:VK}(h:End X.K xw Rep ρ H Q ((Ev.WG S x y).bind f)) :
  (∃ds b,(Rep ρ H (.tup ds) u\/∃n,Rep ρ H (.loc n) u/\S[n]? = some (.lst ds))/\Ev.inL S x ds=some b/\End X.K xw Rep ρ H Q (f b S))\/
  (∃n kvs k ks,Rep ρ H (.loc n) u/\S[n]? = some (.dt kvs)/\x=.tup k/\Ev.YQ k=some ks/\End X.K xw Rep ρ H Q (f ((kvs.map (·.1)).contains ks) S)):=by
 cases y with
 |tup ys=>
  obtain⟨b,hb,h1⟩:=End.ob (show End X.K xw Rep ρ H Q ((Ev.ob (Ev.inL S x ys) S).bind f) from h)
  exact .inl ⟨ys,b,.inl ry,hb,h1⟩
 |loc n=>
  have h':End X.K xw Rep ρ H Q ((Ev.Zb9 S x S[n]?).bind f):=h;cases q:S[n]? with
  |none=>rw[q] at h';exact False.elim h'
  |some o=>
   rw[q] at h';cases o with
   |lst ys=>
    obtain⟨b,hb,h1⟩:=End.ob (show End X.K xw Rep ρ H Q ((Ev.ob (Ev.inL S x ys) S).bind f) from h')
    exact .inl ⟨ys,b,.inr ⟨n,ry,q⟩,hb,h1⟩
   |dt kvs=>
    cases x with
    |tup k=>
     have h2:End X.K xw Rep ρ H Q (((Ev.ob (Ev.YQ k) S).bind λk S=>R.ok ((kvs.map (·.1)).contains k) S).bind f):=h'
     cases e:Ev.YQ k with
     |none=>rw[e] at h2;exact False.elim h2
     |some ks=>rw[e] at h2;exact .inr ⟨n,kvs,k,ks,ry,q,rfl,e,h2⟩
    |_=>exact False.elim h'
   |_=>exact False.elim h'
 |_=>exact False.elim h
theorem YM {op:CmpOp}{o:Cop}(hc:Xg X xw op o) (ha:CE X xw C a i) (hb:CE X xw C b j) (hm:behindInMarks op b=false:=by first | exact nomark _ | rfl | (with_unfolding_all rfl)):CE X xw C (.Compare a [op] [b] pos) (.cmp o i j):=
 PE.imp (Zay hc ha hb hm) (Zbl)
theorem YN {op:CmpOp}{o:Cop}(hc:Xg X xw op o) (ha:CE X xw C a i) (hb:CE X xw C b j) (hm:behindInMarks op b=false:=by first | exact nomark _ | rfl | (with_unfolding_all rfl)):CT X xw C (.Compare a [op] [b] pos) (.cmp o i j):=
 PT.imp (jx hc ha hb hm) λσ H Q ⟨ρ,l,S,st,lr,h⟩=>by
  have h':End X.K xw Xu ρ H Q (((ev C i l S).bind λx S=>(ev C j l S).bind λy S=>Ev.cmpop o x y S).bind λx S=>Ev.ob (Ev.truth S x) S):=h
  simp only[Y9] at h';refine⟨ρ,l,S,st,lr,h'.bind λx S1 ρ1 H1 v f1 st1 r1 h1=>⟨ρ1,l,S1,st1,lr.mono f1,h1.bind λy S2 ρ2 H2 u f2 st2 r2 h2=>⟨ρ2,S2,x,y,st2,r1.mono f2,r2,?_⟩⟩⟩
  have h3:∀{r:R D},(∀z S',r=.ok z S'->∃b,z=.bl b)->End X.K xw Xu ρ2 H2 Q (r.bind λx S=>Ev.ob (Ev.truth S x) S)->End X.K xw Rep ρ2 H2 (λx H'=>∃k,x=V.bl k/\Q k H') r:=λ{r} hr h=>by
   cases r with
   |no=>exact h
   |ex _ _=>exact h
   |ok z S3=>
    obtain⟨b,rfl⟩:=hr z S3 rfl;exact λρ3 H3 w f3 st3 r3=>⟨b,r3.bl',h ρ3 H3 b f3 st3 rfl⟩
  exact h3 (λz S' e=>qH e) h2
theorem Vi {op op':CmpOp}{o o':Cop}{d:Expr}{k:E}(hc:Xg X xw op o) (hc':Xg X xw op' o') (ha:CE X xw C a i) (hb:CE X xw C b j) (hd:CE X xw C d k)
  (hm:lastMarks [op,op'] [b,d]=false:=by with_unfolding_all rfl):CE X xw C (.Compare a [op,op'] [b,d] pos) (.chain o o' i j k):=
 PE.imp (jp hc hc' ha hb hd hm) λσ H Q ⟨ρ,l,S,st,lr,h⟩=>by
  refine⟨ρ,l,S,st,lr,End.bind (show End X.K xw Rep ρ H Q ((ev C i l S).bind _) from h) λx S1 ρ1 H1 v f1 st1 r1 h1=>⟨ρ1,l,S1,st1,lr.mono f1,h1.bind λy S2 ρ2 H2 u f2 st2 r2 h2=>⟨ρ2,S2,x,y,st2,r1.mono f2,r2,h2.bind λz S3 ρ3 H3 w f3 st3 r3 h3=>?_⟩⟩⟩
  cases z with
  |bl n=>
   refine⟨n,r3.bl',?_⟩;cases n with
   |true=>exact⟨ρ3,l,S3,st3,((lr.mono f1).mono f2).mono f3,End.bind (show End X.K xw Rep ρ3 H3 Q ((ev C k l S3).bind _) from h3) λt S4 ρ4 H4 t' f4 st4 r4 h4=>⟨ρ4,S4,y,t,st4,(r2.mono f3).mono f4,r4,h4⟩⟩
   |false=>exact End.ok h3 st3 (Zq _)
  |_=>exact False.elim h3
end
section
variable {X:Cx}{xw:Nat->Hp->Prop}{C:Calls}{e a b c:Expr}{i j k:E}{pos p p' p2:Pos}
variable {ρ:List Addr}{H:Hp}{S:Store}{x y:D}{v u:V}{Q:VK}{K:PySem.W.Frag}
theorem VG:∀{ks:List D}{k:List Int}{xs:List V},Ev.YQ ks=some k->Rq ρ H ks xs->xs=(k.map (Sum.inl:Int->Key)).map kV
 |[],k,xs,h,r=>by unfold Rq at r;cases h;rw[r];rfl
 |.int n::ks,k,xs,h,r=>by
  unfold Rq at r;obtain⟨v,vs,rfl,a1,b1⟩:=r;have h':(Ev.YQ ks).map (n :: ·)=some k:=h
  cases q:Ev.YQ ks with
  |none=>rw[q] at h';cases h'
  |some k'=>
   rw[q] at h';have e:n::k'=k:=Pb h';rw[<-e,a1.int',VG q b1];rfl
 |.non::ks,k,xs,h,r=>by cases h
 |.bl _::ks,k,xs,h,r=>by cases h
 |.str _::ks,k,xs,h,r=>by cases h
 |.tup _::ks,k,xs,h,r=>by cases h
 |.loc _::ks,k,xs,h,r=>by cases h
 |.fn _::ks,k,xs,h,r=>by cases h
 |.exc _ _::ks,k,xs,h,r=>by cases h
theorem xY:∀{k k':List Int},k.map (Sum.inl:Int->Key)=k'.map Sum.inl->k=k'
 |[],[],_=>rfl
 |[],_::_,h=>by simp at h
 |_::_,[],h=>by simp at h
 |a::k,b::k',h=>by
  rw[PP,PP] at h;injection h with h1 h2
  rw[Sum.inl.inj h1,xY h2]
theorem Xm {k:List Int}:∀{kvs:List (List Int×D)}{vs:List (List Key×V)},Za9 ρ H kvs vs->(WY vs (k.map (Sum.inl:Int->Key))).isSome=(kvs.map (·.1)).contains k
 |_,_,.nil=>rfl
 |_,_,.cons (a:=p) (b:=q) r t=>by
  have ih:=Xm (k:=k) t;rw[PP,KH,<-ih];unfold WY;rw[N8];by_cases z:p.1=k
  ·have z':q.1=k.map Sum.inl:=by rw[r.1,z]
   rw[PC z',z];simp
  ·have z':¬q.1=k.map Sum.inl:=λw=>z (xY (r.1.symm.trans w))
   rw[PV z'];have:(k == p.1)=false:=NJ.mpr (Ne.symm z);rw[this,Bool.false_or]
theorem Zb6 (hu:X.A.units+7<cLine):OpR X (compareOp .In) (λv u H Q=>∃a y o,u=.ref a/\v=y/\DGet H a y o/\Q (.bl o.isSome) H):=by
 intro pq s σ H v u vv uu Q I e1 e2 h;obtain⟨a,y,o,rfl,rfl,g,q⟩:=h;cases e2;exact Zdh (by omega) I g e1 λs' I'=>⟨.bl o.isSome,H,I',rfl,q⟩
theorem Zaa (hu:X.A.units+7<cLine):OpR X (compareOp .NotIn) (λv u H Q=>∃a y o,u=.ref a/\v=y/\DGet H a y o/\Q (.bl !o.isSome) H):=by
 intro pq s σ H v u vv uu Q I e1 e2 h;obtain⟨a,y,o,rfl,rfl,g,q⟩:=h;cases e2;exact Zab (by omega) I g e1 λs' I'=>⟨.bl !o.isSome,H,I',rfl,q⟩
theorem uQ (hu:X.A.units+7<cLine):Xg X xw .In .inn:=OpR.imp ((Zco hu).or (Zb6 hu)) λv u H Q ⟨ρ,S,x,y,st,rx,ry,h⟩=>by
 rcases GI st ry (show End X.K xw Rep ρ H Q ((Ev.WG S x y).bind λb S=>.ok (.bl b) S) from h) with ⟨ds,b,hy,hb,h1⟩ | ⟨n,kvs,k,ks,hy,hn,rfl,hk,h1⟩
 ·exact .inl ⟨ρ,S,x,ds,b,st,rx,hy,hb,End.ok h1 st (Zq _)⟩
 ·obtain⟨p,rfl,hp⟩:=hy.loc'
  obtain⟨p',hp',vs,hx,r⟩:=st.at hn;rw[hp] at hp';cases hp';obtain⟨q,xs,rfl,hq,r2⟩:=rx.tup';refine .inr ⟨p,.ref q,WY vs (ks.map Sum.inl),rfl,rfl,DGet.t hx (by rw[hq,VG hk r2]),?_⟩
  rw[Xm r];exact End.ok h1 st (Zq _)
theorem yp (hu:X.A.units+7<cLine):Xg X xw .NotIn .nin:=OpR.imp ((ZaU hu).or (Zaa hu)) λv u H Q ⟨ρ,S,x,y,st,rx,ry,h⟩=>by
 rcases GI st ry (show End X.K xw Rep ρ H Q ((Ev.WG S x y).bind λb S=>.ok (.bl !b) S) from h) with ⟨ds,b,hy,hb,h1⟩ | ⟨n,kvs,k,ks,hy,hn,rfl,hk,h1⟩
 ·exact .inl ⟨ρ,S,x,ds,b,st,rx,hy,hb,End.ok h1 st (Zq _)⟩
 ·obtain⟨p,rfl,hp⟩:=hy.loc'
  obtain⟨p',hp',vs,hx,r⟩:=st.at hn;rw[hp] at hp';cases hp';obtain⟨q,xs,rfl,hq,r2⟩:=rx.tup';refine .inr ⟨p,.ref q,WY vs (ks.map Sum.inl),rfl,rfl,DGet.t hx (by rw[hq,VG hk r2]),?_⟩
  rw[Xm r];exact End.ok h1 st (Zq _)
theorem v8 (ha:CE X xw C a i) (hb:CE X xw C b j) (hs:xH b:=by intro _ _;with_unfolding_all rfl):CE X xw C (.Subscript a b pos) (.ix i j):=PE.imp (Zc2 (Zai.or ZbY) ha hb hs) (X8 λ{ρ H S x y v u Q} st rx ry h=>by
 cases x with
 |tup ds=>cases y with
  |int n=>
   obtain⟨p,xs,rfl,hp,r⟩:=rx.tup';have h':End X.K xw Rep ρ H Q (Ev.ob (Ev.at' ds n) S):=h;cases q:Ev.at' ds n with
   |none=>rw[q] at h';exact False.elim h'
   |some d=>
    rw[q] at h';unfold Ev.at' at q;cases q2:Ev.ixN ds.length n with
    |none=>rw[q2] at q;cases q
    |some m=>
     rw[q2] at q;obtain⟨w,g,rw'⟩:=r.get (show ds[m]? = some d from q)
     refine .inr ⟨p,xs,n,w,rfl,ry.int',SqT.of hp,?_,End.ok h' st rw'⟩;unfold atI;rw[r.length,show ixN ds.length n=some m from q2]
     exact g
  |_=>exact False.elim h
 |loc m=>cases y with
  |int n=>
   have h':End X.K xw Rep ρ H Q (match Ev.Z9 S m with
    |some xs=>Ev.ob (Ev.at' xs n) S
    |none=>.no):=h
   cases e1:Ev.Z9 S m with
   |none=>rw[e1] at h';exact False.elim h'
   |some ds=>
    rw[e1] at h';obtain⟨p,xs,q1,hp,r⟩:=st.seq e1;obtain⟨p',rfl,t⟩:=rx.loc';rw[q1] at t;cases t;have h2:End X.K xw Rep ρ H Q (Ev.ob (Ev.at' ds n) S):=h';cases q:Ev.at' ds n with
    |none=>rw[q] at h2;exact False.elim h2
    |some d=>
     rw[q] at h2;unfold Ev.at' at q;cases q2:Ev.ixN ds.length n with
     |none=>rw[q2] at q;cases q
     |some k=>
      rw[q2] at q;obtain⟨w,g,rw'⟩:=r.get (show ds[k]? = some d from q)
      refine .inl ⟨p,xs,n,w,rfl,ry.int',hp,?_,End.ok h2 st rw'⟩;unfold atI;rw[r.length,show ixN ds.length n=some k from q2]
      exact g
  |_=>exact False.elim h
 |_=>cases y <;> exact False.elim h)
theorem JT:CO X xw C none none:=PO.imp ZaK λσ H Q ⟨ρ,l,S,st,lr,h⟩=>End.ok (rep:=ZaV) h st rfl
theorem JP (h:CE X xw C e i):CO X xw C (some e) (some i):=PO.imp (Z4 h) λσ H Q ⟨ρ,l,S,st,lr,h⟩=>by
 refine⟨ρ,l,S,st,lr,End.bind (show End X.K xw ZaV ρ H Q ((ev C i l S).bind _) from h) λx S1 ρ1 H1 v f1 st1 r1 h1=>?_⟩
 cases x with
 |int n=>exact⟨n,r1.int',End.ok (rep:=ZaV) h1 st1 rfl⟩
 |_=>exact False.elim h1
theorem J9 (n d:Nat) (o:Option Int):Ev.sIx n d o=HT.sIx n d o:=by
 cases o with
 |none=>rfl
 |some i=>first | rfl | (unfold Ev.sIx HT.sIx;rfl)
theorem wM {ds:List D}{xs:List V}(r:Rq ρ H ds xs) (lo hi:Option Int):Rq ρ H (Ev.cut ds lo hi) (Xo xs lo hi):=by
 unfold Ev.cut Xo;rw[J9,J9,r.length];exact (r.drop _).take _
theorem ur {lo hi:Option Expr}{il ih:Option E}(ha:CE X xw C a i) (hl:CO X xw C lo il) (hh:CO X xw C hi ih):CE X xw C (.Subscript a (.Slice lo hi none p2) pos) (.sl i il ih):=
 PE.imp (jg (Zb2.or (qV.or jB)) ha hl hh) λσ H Q ⟨ρ,l,S,st,lr,h⟩=>by
  refine⟨ρ,l,S,st,lr,End.bind (show End X.K xw Rep ρ H Q ((ev C i l S).bind _) from h) λx S1 ρ1 H1 v f1 st1 r1 h1=>⟨ρ1,l,S1,st1,lr.mono f1,h1.bind λy S2 ρ2 H2 u f2 st2 r2 h2=>⟨ρ2,l,S2,st2,(lr.mono f1).mono f2,h2.bind λz S3 ρ3 H3 w f3 st3 r3 h3=>?_⟩⟩⟩
  have e1:y=u:=r2;have e2:z=w:=r3;subst e1 e2;have r0:=(r1.mono f2).mono f3;cases x with
  |tup ds=>
   obtain⟨p,xs,rfl,hp,r⟩:=r0.tup';have h':End X.K xw Rep ρ3 H3 Q (.ok (.tup (Ev.cut ds y z)) S3):=h3;by_cases hw:HT.sIx xs.length 0 y=0/\HT.sIx xs.length xs.length z=xs.length
   ·refine .inr (.inl ⟨p,xs,rfl,SqT.of hp,hw,End.ok h' st3 ?_⟩)
    have ew:Ev.cut ds y z=ds:=by
     unfold Ev.cut;rw[J9,J9,<-r.length,hw.1,hw.2,Th,Nat.sub_zero,r.length,List.take_length]
    rw[ew];exact ZS hp r
   ·exact .inl ⟨p,xs,rfl,SqT.of hp,hw,h'.newT st3 (wM r y z)⟩
  |loc n=>
   have h':End X.K xw Rep ρ3 H3 Q (match Ev.Zh S3 n with
    |some xs=>.ok (.loc S3.length) (S3++[.lst (Ev.cut xs y z)])
    |none=>.no):=h3
   cases e1:Ev.Zh S3 n with
   |none=>rw[e1] at h';exact False.elim h'
   |some ds=>
    rw[e1] at h';obtain⟨_,p,xs,q1,hp,r⟩:=st3.lst e1;obtain⟨p',rfl,t⟩:=r0.loc';rw[q1] at t;cases t;exact .inr (.inr ⟨p,xs,rfl,SqL.of hp,End.newL h' st3 (wM r y z)⟩)
  |_=>exact False.elim h3
noncomputable def U2 (K:PySem.W.Frag) (xw:Nat->Hp->Prop) (f:Bf):List V->Hp->VK->Prop:=λvs H Q=>∃ρ S ds,St3 K ρ S H/\Rq ρ H ds vs/\End K xw Rep ρ H Q (Ev.bltin f ds S)
theorem ZT.imp {X:Cx}{f:Value}{r r':List V->Hp->VK->Prop}(h:ZT X f r) (k:∀vs H Q,r' vs H Q->r vs H Q):ZT X f r':=λpq s σ H xs us Q I e q=>h pq s σ H xs us Q I e (k xs H Q q)
theorem qc {f:Bf}{is:List E}:∀σ H Q,tE X xw (ev C (.blt f is)) σ H Q->tCB (U2 X.K xw f) (tA X xw (evs C is)) σ H Q:=λσ H Q ⟨ρ,l,S,st,lr,h⟩=>
 ⟨ρ,l,S,st,lr,End.bind (show End X.K xw Rep ρ H Q ((evs C is l S).bind _) from h) λxs S1 ρ1 H1 vs f1 st1 r1 h1=>⟨ρ1,S1,xs,st1,r1,h1⟩⟩
theorem reps1 {d:D}{vs:List V}(r:Rq ρ H [d] vs):∃v,vs=[v]/\Rep ρ H d v:=by
 unfold Rq at r;obtain⟨v,ws,rfl,a1,b1⟩:=r;unfold Rq at b1;exact⟨v,by rw[b1],a1⟩
theorem reps2 {d e:D}{vs:List V}(r:Rq ρ H [d,e] vs):∃v w,vs=[v,w]/\Rep ρ H d v/\Rep ρ H e w:=by
 unfold Rq at r;obtain⟨v,ws,rfl,a1,b1⟩:=r;obtain⟨w,rfl,b2⟩:=reps1 b1;exact⟨v,w,rfl,a1,b2⟩
theorem VW (st:St3 K ρ S H) (rx:Rep ρ H x v) {ds:List D}(h:Ev.YH S x=some ds):∃p xs,v=.ref p/\(SqL K H p xs\/SqT K H p xs)/\Rq ρ H ds xs:=by
 cases x with
 |tup es=>
  cases h;obtain⟨p,xs,rfl,hp,r⟩:=rx.tup';exact⟨p,xs,rfl,.inr (SqT.of hp),r⟩
 |loc n=>
  obtain⟨p,rfl,hp⟩:=rx.loc';obtain⟨p',xs,q1,hx,r⟩:=st.seq (show Ev.Z9 S n=some ds from h)
  rw[hp] at q1;cases q1;exact⟨p,xs,rfl,.inl hx,r⟩
 |_=>cases h
theorem wL:ZT X (.builtin "len") (U2 X.K xw .len):=ZT.imp GD λvs H Q ⟨ρ,S,ds,st,r,h⟩=>by
 cases ds with
 |nil=>exact False.elim h
 |cons d ds=>cases ds with
  |cons _ _=>exact False.elim h
  |nil=>
   obtain⟨v,rfl,rv⟩:=reps1 r;obtain⟨xs,hx,h1⟩:=End.ob (show End X.K xw Rep ρ H Q ((Ev.ob (Ev.YH S d) S).bind λxs S=>.ok (.int xs.length) S) from h)
   obtain⟨p,ys,rfl,hq,r2⟩:=VW st rv hx;refine⟨p,ys,rfl,hq,?_⟩;rw[r2.length];exact End.ok h1 st (Zp _)
theorem ZbS:∀(as:List D) (S:Store),(∃a b,as=[.int a,.int b])\/Ev.bltin .max2 as S=.no
 |[.int a,.int b],_=>.inl ⟨a,b,rfl⟩
 |[],_=>.inr rfl
 |[x],_=>.inr (by cases x <;> rfl)
 |x::y::_::_,_=>.inr (by cases x <;> first | rfl | (cases y <;> rfl))
 |[.non,_],_ | [.bl _,_],_ | [.str _,_],_ | [.tup _,_],_ | [.loc _,_],_ | [.fn _,_],_ | [.exc _ _,_],_=>.inr rfl
 |[.int _,.non],_ | [.int _,.bl _],_ | [.int _,.str _],_ | [.int _,.tup _],_ | [.int _,.loc _],_ | [.int _,.fn _],_ | [.int _,.exc _ _],_=>.inr rfl
theorem Zcg:∀(as:List D) (S:Store),(∃a b,as=[.int a,.int b])\/Ev.bltin .min2 as S=.no
 |[.int a,.int b],_=>.inl ⟨a,b,rfl⟩
 |[],_=>.inr rfl
 |[x],_=>.inr (by cases x <;> rfl)
 |x::y::_::_,_=>.inr (by cases x <;> first | rfl | (cases y <;> rfl))
 |[.non,_],_ | [.bl _,_],_ | [.str _,_],_ | [.tup _,_],_ | [.loc _,_],_ | [.fn _,_],_ | [.exc _ _,_],_=>.inr rfl
 |[.int _,.non],_ | [.int _,.bl _],_ | [.int _,.str _],_ | [.int _,.tup _],_ | [.int _,.loc _],_ | [.int _,.fn _],_ | [.int _,.exc _ _],_=>.inr rfl
theorem ZdJ:∀(as:List D) (S:Store),(∃a,as=[.int a])\/(∃b,as=[.bl b])\/Ev.bltin .toInt as S=.no
 |[.int a],_=>.inl ⟨a,rfl⟩
 |[.bl b],_=>.inr (.inl ⟨b,rfl⟩)
 |x::_::_,_=>.inr (.inr (by cases x <;> rfl))
 |[],_ | [.non],_ | [.str _],_ | [.tup _],_ | [.loc _],_ | [.fn _],_ | [.exc _ _],_=>.inr (.inr rfl)
theorem jm:∀(as:List D) (S:Store),(∃a,as=[.tup a])\/(∃b,as=[.loc b])\/Ev.bltin .tuple as S=.no
 |[.tup a],_=>.inl ⟨a,rfl⟩
 |[.loc b],_=>.inr (.inl ⟨b,rfl⟩)
 |x::_::_,_=>.inr (.inr (by cases x <;> rfl))
 |[],_ | [.non],_ | [.str _],_ | [.bl _],_ | [.int _],_ | [.fn _],_ | [.exc _ _],_=>.inr (.inr rfl)
theorem Zar:∀(as:List D) (S:Store),(∃a,as=[a])\/Ev.bltin .list as S=.no
 |[a],_=>.inl ⟨a,rfl⟩
 |[],_=>.inr rfl
 |x::_::_,_=>.inr (by cases x <;> rfl)
theorem ZbZ:∀(as:List D) (S:Store),(∃b,as=[.loc b])\/Ev.bltin .all as S=.no
 |[.loc b],_=>.inl ⟨b,rfl⟩
 |x::_::_,_=>.inr (by cases x <;> rfl)
 |[],_ | [.non],_ | [.str _],_ | [.bl _],_ | [.int _],_ | [.tup _],_ | [.fn _],_ | [.exc _ _],_=>.inr rfl
theorem xQ (hc:X.calm=true):ZT X (.builtin "max") (U2 X.K xw .max2):=ZT.imp (vg hc) λvs H Q ⟨ρ,S,ds,st,r,h⟩=>by
 rcases ZbS ds S with ⟨m,n,rfl⟩ | e
 ·obtain⟨v,w,rfl,r1,r2⟩:=reps2 r
  exact⟨m,n,by rw[r1.int',r2.int'],End.ok h st (Zp _)⟩
 ·rw[e] at h;exact h.elim
theorem wt (hc:X.calm=true):ZT X (.builtin "min") (U2 X.K xw .min2):=ZT.imp (wS hc) λvs H Q ⟨ρ,S,ds,st,r,h⟩=>by
 rcases Zcg ds S with ⟨m,n,rfl⟩ | e
 ·obtain⟨v,w,rfl,r1,r2⟩:=reps2 r
  exact⟨m,n,by rw[r1.int',r2.int'],End.ok h st (Zp _)⟩
 ·rw[e] at h;exact h.elim
theorem Jg:ZT X (.type "tuple") (U2 X.K xw .tuple):=ZT.imp QD λvs H Q ⟨ρ,S,ds,st,r,h⟩=>by
 rcases jm ds S with ⟨es,rfl⟩ | ⟨n,rfl⟩ | e
 ·obtain⟨v,rfl,r1⟩:=reps1 r
  obtain⟨p,xs,rfl,hp,r2⟩:=r1.tup';exact⟨p,xs,rfl,.inr ⟨SqT.of hp,End.ok h st r1⟩⟩
 ·obtain⟨v,rfl,r1⟩:=reps1 r
  obtain⟨xs,hx,h1⟩:=End.ob (show End X.K xw Rep ρ H Q ((Ev.ob (Ev.Zh S n) S).bind λxs S=>.ok (.tup xs) S) from h)
  obtain⟨_,p,ys,q1,hp,r2⟩:=st.lst hx;obtain⟨p',rfl,t⟩:=r1.loc';rw[q1] at t;cases t;exact⟨p,ys,rfl,.inl ⟨SqL.of hp,h1.newT st r2⟩⟩
 ·rw[e] at h;exact h.elim
theorem GX:ZT X (.type "list") (U2 X.K xw .list):=ZT.imp Gk λvs H Q ⟨ρ,S,ds,st,r,h⟩=>by
 rcases Zar ds S with ⟨d,rfl⟩ | e
 case inr=>rw[e] at h;exact h.elim
 case inl=>
  obtain⟨v,rfl,r1⟩:=reps1 r;obtain⟨xs,hx,h1⟩:=End.ob (show End X.K xw Rep ρ H Q ((Ev.ob (Ev.YH S d) S).bind λxs S=>.ok (.loc S.length) (S++[.lst xs])) from h)
  obtain⟨p,ys,rfl,hq,r2⟩:=VW st r1 hx;exact⟨p,ys,rfl,hq,h1.newL st r2⟩
theorem Xd {f:Bf}{id:String}{x:Str}{es:List Expr}{is:List E}(hc:ZT X (.builtin id) (U2 X.K xw f)) (hm:X.mg x=none) (ha:CA X xw C (e::es) is) (hg:Gl X x:=by rfl) (hv:bootBuiltins x=some (.builtin id):=by rfl) (hn:x≠"__name__":=by decide) (hdb:(x == ("__debug__" : Str))=false:=by decide)
  (he:starEach (e::es) X.env=(false,eval e X.env)::starEach es X.env:=by rfl) (hpl:(backTo pos (starEach es X.env)).any (·.1)=false:=by rfl):CE X xw C (.Call (.Name x p) (e::es) [] pos) (.blt f is):=
 PE.imp (U0 hc hg hm hv ha hn hdb he hpl) qc
theorem Ut {f:Bf}{id:String}{x:Str}{es:List Expr}{is:List E}(hc:ZT X (.type id) (U2 X.K xw f)) (hm:X.mg x=none) (ha:CA X xw C (e::es) is) (hg:Gl X x:=by rfl) (hv:bootBuiltins x=some (.type id):=by rfl) (hn:x≠"__name__":=by decide) (hdb:(x == ("__debug__" : Str))=false:=by decide)
  (he:starEach (e::es) X.env=(false,eval e X.env)::starEach es X.env:=by rfl) (hpl:(backTo pos (starEach es X.env)).any (·.1)=false:=by rfl):CE X xw C (.Call (.Name x p) (e::es) [] pos) (.blt f is):=
 PE.imp (vx hc hg hm hv ha hn hdb he hpl) qc
end
section
variable {X:Cx}{xw:Nat->Hp->Prop}{C:Calls}{e a b c:Expr}{i j k:E}{pos p p' p2:Pos}
theorem WQ:∀{ds:List D}{bs:List Bool},Ev.truths ds=some bs->bs.length=ds.length/\∀j d,ds[j]? = some d->Ev.ptruth d=some (bs.getD j false)
 |[],bs,h=>by cases h;exact⟨rfl,λj d e=>by simp at e⟩
 |d::ds,bs,h=>by
  unfold Ev.truths at h;cases q1:Ev.ptruth d with
  |none=>rw[q1] at h;cases h
  |some b=>
   cases q2:Ev.truths ds with
   |none=>rw[q1,q2] at h;cases h
   |some cs=>
    rw[q1,q2] at h;cases h;obtain⟨l,ih⟩:=WQ q2;refine⟨by rw[Px,Px,l],λj d' e=>?_⟩
    cases j with
    |zero=>simp at e;subst e;simpa using q1
    |succ j=>simpa using ih j d' (by simpa using e)
theorem vc (bs:List Bool):(List.range bs.length).all (λj=>bs.getD j false)=bs.all id:=by
 rw[P3,PN,PN]
 constructor
 ·intro h b hb
  obtain⟨j,hj,e⟩:=P8 hb;have:=h j (PQ.mpr hj)
  simpa [Pc hj,e] using this
 ·intro h j hj
  have hj':=PQ.mp hj
  simpa [Pc hj'] using h bs[j] (P9 hj')
theorem vo (bs:List Bool):(List.range bs.length).any (λj=>bs.getD j false)=bs.any id:=by
 rw[P3,Ku,Ku]
 constructor
 ·rintro ⟨j,hj,h⟩
  have hj':=PQ.mp hj;exact⟨bs[j],P9 hj',by simpa [Pc hj'] using h⟩
 ·rintro ⟨b,hb,h⟩
  obtain⟨j,hj,e⟩:=P8 hb;exact⟨j,PQ.mpr hj,by simpa [Pc hj,e] using h⟩
theorem Vn {prog:Program}{w:World}{A:Around}{ρ:List Addr}{H:Hp}{d:D}{v:V}{u:Value}{n:Bool}(r:Rep ρ H d v) (e:ZF v u) (h:Ev.ptruth d=some n) (s:Shared) (Q:Bool->Shared->Prop) (E:Value->Shared->Prop) (q:Q n s) :
  wpAny (model prog w) A (truthy u) Q E s:=by
 cases d with
 |non=>cases r.non';cases e;cases h;exact truthy_none q
 |bl b=>cases r.bl';cases e;cases h;exact Kn q
 |int m=>
  cases r.int';obtain⟨t,rfl⟩:=e;have h':decide (m≠0)=n:=Pb h;refine PySem.P.truthy_int ?_;have:(m != 0)=n:=by
   rw[<-h'];by_cases z:m=0
   ·subst z;rfl
   ·rw[PC z];exact bne_iff_ne.mpr z
  rw[this];exact q
 |_=>cases h
theorem vI (hc:X.calm=true):ZT X (.builtin "all") (λvs H Q=>∃ρ S ds n bs,St3 X.K ρ S H/\Rq ρ H [.loc n] vs/\Ev.Zh S n=some ds/\Ev.truths ds=some bs/\Q (.bl (bs.all id)) H):=by
 intro pq s σ H vs us Q I r h;obtain⟨ρ,S,ds,n,bs,st,rs,hl,hb,q⟩:=h;obtain⟨v,rfl,r1⟩:=reps1 rs;obtain⟨_,p,xs,q1,hx,rx⟩:=st.lst hl;obtain⟨p',rfl,t⟩:=r1.loc';rw[q1] at t;cases t;obtain⟨u,rfl,ru⟩:=vals1 r;cases ru;obtain⟨its,rv,pl,hz⟩:=I.list (SqL.of hx);obtain⟨lb,tb⟩:=WQ hb;have hlt:p<s.heap.objs.size:=by obtain⟨_,e,_⟩:=pl.isList;exact Pw e
 have hlen:its.toArray.size=bs.length:=by rw[Pf,<-rv.length,rx.length,lb]
 refine call_all_walk (KP pl.isList ⟨s.heap.objs.size,[s.heap.objs.size,p],[s.heap.objs.size],its.toArray.size,(λi v=>its.toArray[i]? = some v),(λi h=>h.IsListIter s.heap.objs.size p i/\h.IsList p its.toArray),λj=>bs.getD j false,rfl,Walks.list (A:=X.A.in1) (show X.A.in1.handled=none from I.ok.hd hc) s.heap.objs.size p (PX hlt) its.toArray,⟨⟨_,Pz _ rfl,rfl,rfl⟩,pl.isList.push _⟩,?_,?_⟩)
 ·intro j v s' Q' E' hv hQ'
  have hj:its[j]? = some v:=by simpa using hv
  have jl:j<ds.length:=by
   have:=(Pr.mp hj).1;rw[<-rv.length,rx.length] at this;exact this
  obtain⟨w',g,r'⟩:=rx.get (Pc jl);obtain⟨u',g',ru'⟩:=rv.get g;rw[hj] at g';cases g';exact Vn r' ru' (tb j _ (Pc jl)) s' Q' E' hQ'
 ·intro h' tk hk
  rw[hlen,vc];have kp:∀b o,s.heap.get? b=some o->h'.get? b=some o:=λb o e=>hk b o (λhm=>by
   have:b=s.heap.objs.size:=by simpa using hm
   exact absurd (this▸Pw e) (P2 _)) (Ph _ e)
  exact⟨.bl (bs.all id),H,I.kept (t':=tk) kp,rfl,q⟩
theorem wH (hc:X.calm=true):ZT X (.builtin "all") (U2 X.K xw .all):=ZT.imp (vI hc) λvs H Q ⟨ρ,S,ds,st,r,h⟩=>by
 rcases ZbZ ds S with ⟨n,rfl⟩ | e
 case inr=>rw[e] at h;exact h.elim
 case inl=>
  obtain⟨xs,hx,h1⟩:=End.ob (show End X.K xw Rep ρ H Q ((Ev.ob (Ev.Zh S n) S).bind λxs S=>(Ev.ob (Ev.truths xs) S).bind λbs S=>.ok (.bl (bs.all id)) S) from h)
  obtain⟨bs,hb,h2⟩:=End.ob h1;exact⟨ρ,S,xs,n,bs,st,r,hx,hb,End.ok h2 st (Zq _)⟩
noncomputable def ZL:Ty->String
 |.int=>"int" | .bool=>"bool" | .str=>"str" | .tuple=>"tuple" | .list=>"list" | .dict=>"dict" | .cls _=>""
theorem yZ {K:PySem.W.Frag}{ρ:List Addr}{S:Store}{H:Hp}{x:D}{v:V}{t:Ty}{n:Bool}(st:St3 K ρ S H) (rx:Rep ρ H x v) (ht:∀m,t≠.cls m) (h:Ev.zJ S x t=some n) :
  ∃tv,TyOf K H v tv/\PySem.W.kitOne K tv (.type (ZL t))=some n:=by
 cases x with
 |non=>rw[rx.non'];refine⟨_,.non,?_⟩;cases h;cases t <;> first | rfl | exact absurd rfl (ht _)
 |bl b=>rw[rx.bl'];refine⟨_,.bl b,?_⟩;cases h;cases t <;> first | rfl | exact absurd rfl (ht _)
 |int b=>rw[rx.int'];refine⟨_,.int b,?_⟩;cases h;cases t <;> first | rfl | exact absurd rfl (ht _)
 |str b=>rw[rx.str'];refine⟨_,.str b,?_⟩;cases h;cases t <;> first | rfl | exact absurd rfl (ht _)
 |tup ds=>
  obtain⟨p,xs,rfl,hp,_⟩:=rx.tup';refine⟨_,.tup hp,?_⟩;cases h;cases t <;> first | rfl | exact absurd rfl (ht _)
 |loc m=>
  obtain⟨p,rfl,hp⟩:=rx.loc';have h':(match S[m]? with
   |some (.lst _)=>some (decide (t=.list))
   |some (.dt _)=>some (decide (t=.dict))
   |some (.dk _)=>some (decide (t=.dict))
   |_=>none)=some n:=h
  cases q:S[m]? with
  |none=>rw[q] at h';cases h'
  |some o=>
   rw[q] at h';obtain⟨p',hp',ro⟩:=st.at q;rw[hp] at hp';cases hp';cases o with
   |lst xs=>obtain⟨ys,e,_⟩:=ro;refine⟨_,.lst e,?_⟩;cases h';cases t <;> first | rfl | exact absurd rfl (ht _)
   |dt kvs=>obtain⟨ys,e,_⟩:=ro;refine⟨_,.dT e,?_⟩;cases h';cases t <;> first | rfl | exact absurd rfl (ht _)
   |dk kvs=>obtain⟨ys,e,_⟩:=ro;refine⟨_,.dK e,?_⟩;cases h';cases t <;> first | rfl | exact absurd rfl (ht _)
   |_=>cases h'
 |_=>cases h
theorem qC (T:String):ZT X (.builtin "isinstance") (λvs H Q=>∃v tv n,vs=[v,.ty T]/\TyOf X.K H v tv/\PySem.W.kitOne X.K tv (.type T)=some n/\Q (.bl n) H):=by
 intro pq s σ H vs us Q I r h;obtain⟨v,tv,n,rfl,ty,e,q⟩:=h;obtain⟨u,w',rfl,r1,r2⟩:=vals2 r;cases r2;exact vC I r1 ty e λtk=>⟨.bl n,H,I.tok tk,rfl,q⟩
theorem VT {T:Str}{t:Ty}(ht:∀m,t≠.cls m) (hm:X.mg "isinstance" = none) (hmT:X.mg T=none) (ha:CE X xw C a i) (hg:Gl X "isinstance":=by rfl) (hgT:Gl X T:=by rfl) (hvT:bootBuiltins T=some (.type (ZL t)):=by rfl) (hnT:T≠"__name__":=by decide) (hdT:(T == ("__debug__" : Str))=false:=by decide)
  (hs1:starEach [a,.Name T p2] X.env=(false,eval a X.env)::starEach [.Name T p2] X.env:=by rfl) (hs2:starEach [.Name T p2] X.env=(false,eval (.Name T p2) X.env)::starEach [] X.env:=by rfl) (hpl:(backTo pos (starEach [.Name T p2] X.env)).any (·.1)=false:=by rfl) :
  CE X xw C (.Call (.Name "isinstance" p) [a,.Name T p2] [] pos) (.isi i [t]):=
 PE.imp (U0 (qC (ZL t)) hg hm (by rfl) (XS ha (XS (Gg (v:=.ty (ZL t)) hgT hmT hvT rfl hnT hdT) Gz hs2) hs1) (by decide) (by decide) hs1 hpl) λσ H Q ⟨ρ,l,S,st,lr,h⟩=>by
  refine⟨ρ,l,S,st,lr,End.bind (show End X.K xw Rep ρ H Q ((ev C i l S).bind _) from h) λx S1 ρ1 H1 v f1 st1 r1 h1=>?_⟩
  obtain⟨n,hn,h2⟩:=End.ob h1;have hn':Ev.zJ S1 x t=some n:=by
   unfold Ev.UK at hn;cases q:Ev.zJ S1 x t with
   |none=>rw[q] at hn;cases hn
   |some m=>rw[q] at hn;cases m <;> exact hn
  obtain⟨tv,ty,e⟩:=yZ st1 r1 ht hn';exact⟨v,tv,n,rfl,ty,e,End.ok h2 st1 (Zq _)⟩
theorem VC {o:Expr}{io:E}{apos cpos:Pos}(ho:CE X xw C o io) (ha:CA X xw C [e] [i])
  (hbase:attributeBase o "append" X.env (eval o X.env)=eval o X.env:=by rfl)
  (hfew:((backTo cpos (starEach [e] X.env)).all (λx=>!x.1)&&(backToKw cpos (keywordEach [] X.env)).all (λx=>x.1.isSome)
   && decide (([e]:List Expr).length+([]:List Keyword).length+(if ([]:List Keyword).isEmpty then 0 else 1)<30))=true:=by rfl)
  (hline:(apos.endLine == cpos.line)=true:=by rfl) (hs:starEach [e] X.env=(false,eval e X.env)::starEach [] X.env:=by rfl) (hplain:(backTo cpos (starEach [] X.env)).any (·.1)=false:=by rfl) :
  CE X xw C (.Call (.Attribute o "append" apos) [e] [] cpos) (.mt .append io [i]):=
 PE.imp (Za8 PySem.F.plainAttrs_list PySem.F.slot_list_append PySem.F.type_list_append Jd ho ha hbase hfew hline hs hplain) λσ H Q ⟨ρ,l,S,st,lr,h⟩=>by
  have h':End X.K xw Rep ρ H Q ((ev C io l S).bind λx S=>if Ev.UY S x=true then (evs C [i] l S).bind λxs S=>Ev.method .append x xs S else .no):=h
  refine⟨ρ,l,S,st,lr,h'.bind λx S1 ρ1 H1 v f1 st1 r1 h1=>?_⟩
  obtain⟨hl,h1⟩:=h1.guard;cases x with
  |loc n=>
   obtain⟨p,rfl,hp⟩:=r1.loc';obtain⟨ds,hds⟩:=NQ.mp (show (Ev.Zh S1 n).isSome=true from hl)
   obtain⟨_,p',xs,q1,hx,_⟩:=st1.lst hds;rw[hp] at q1;cases q1;refine⟨.inl ⟨rfl,xs,SqL.of hx⟩,ρ1,l,S1,st1,lr.mono f1,h1.bind λys S2 ρ2 H2 vs f2 st2 r2 h2=>?_⟩
   match ys,r2,h2 with
   |[y],r2,h2=>
    obtain⟨w,rfl,rw'⟩:=reps1 r2;obtain⟨zs,hz,h3⟩:=End.ob (show End X.K xw Rep ρ2 H2 Q ((Ev.ob (Ev.Zh S2 n) S2).bind λxs S=>if xs.length<Ev.lim then .ok .non (S.set n (.lst (xs++[y]))) else .no) from h2)
    obtain⟨hlen,h4⟩:=h3.guard;obtain⟨sn,p2,zs',q2,hz2,rz⟩:=st2.lst hz;rw[f2.at hp] at q2;cases q2;refine⟨p,zs',w,rfl,rfl,hz2,by rw[rz.length,<-Wf];exact hlen,?_⟩
    exact h4 ρ2 _ .non (YB hz2) (st2.wr (f2.at hp) sn hz2 (rz.append (Rq.cons rw' Rq.nil))) Ww
   |[],r2,h2=>exact False.elim h2
   |_::_::_,r2,h2=>exact False.elim h2
  |_=>exact absurd hl (by simp[Ev.UY])
def spF (K:PySem.W.Frag) (C:Calls) (n:Nat):Sp:=λvs H Q _=>∃ρ ds S,St3 K ρ S H/\Rq ρ H ds vs/\End K (λ_ _=>False) Rep ρ H Q (C n ds S)
theorem ZaB {n kk:Nat}{f:Addr}{fd:FuncData}{ps:List Str}{x:Str}{es:List Expr}{is:List E}(F:FnOk X.prog X.w X.K X.mg X.base CX0 kk f fd ps (spF X.K C n)) (hr:Room kk X.A) (hm:X.mg x=some (.ref f)) (hk:PySem.W.keepIn X.K (.ref f)=true) (hb:Binds X.K fd ps [])
  (ha:CA X (λ_ _=>False) C (e::es) is) (hg:Gl X x:=by rfl) (hdb:(x == ("__debug__" : Str))=false:=by decide) (he:starEach (e::es) X.env=(false,eval e X.env)::starEach es X.env:=by rfl) (hpl:(backTo pos (starEach es X.env)).any (·.1)=false:=by rfl) :
  CE X (λ_ _=>False) C (.Call (.Name x p) (e::es) [] pos) (.call n is):=
 PE.imp (ZaG F hr hg hm hk hb .nil pass0 ha hdb he hpl) λσ H Q ⟨ρ,l,S,st,lr,h⟩=>
  ⟨ρ,l,S,st,lr,End.bind (show End X.K (λ_ _=>False) Rep ρ H Q ((evs C is l S).bind _) from h) λxs S1 ρ1 H1 vs f1 st1 r1 h1=>by
   rw[N7];exact⟨ρ1,xs,S1,st1,r1,h1⟩⟩
end
def Zx (K:PySem.W.Frag) (xw:Nat->Hp->Prop) (ρ:List Addr) (H:Hp) (D:Ends):R Fl->Prop
 |.ok (.nx l) S=>∀ρ' H' σ',Fut ρ H ρ' H'->St3 K ρ' S H'->LocR ρ' H' l σ'->D.nx σ' H'
 |.ok (.brk l) S=>∀ρ' H' σ',Fut ρ H ρ' H'->St3 K ρ' S H'->LocR ρ' H' l σ'->D.bk σ' H'
 |.ok (.cnt l) S=>∀ρ' H' σ',Fut ρ H ρ' H'->St3 K ρ' S H'->LocR ρ' H' l σ'->D.ct σ' H'
 |.ok (.ret d) S=>∀ρ' H' v,Fut ρ H ρ' H'->St3 K ρ' S H'->Rep ρ' H' d v->D.rt v H'
 |.ex c S=>∀ρ' H',Fut ρ H ρ' H'->St3 K ρ' S H'->xw c H'
 |.no=>False
section
variable {K:PySem.W.Frag}{xw:Nat->Hp->Prop}{ρ ρ':List Addr}{H H':Hp}{α β:Type}{rep:List Addr->Hp->α->β->Prop}{D:Ends}
theorem Zx.mono {r:R Fl}(f:Fut ρ H ρ' H') (h:Zx K xw ρ H D r):Zx K xw ρ' H' D r:=by
 cases r with
 |ok fl S=>
  cases fl with
  |nx l=>exact λρ2 H2 σ g=>h ρ2 H2 σ (f.trans g)
  |brk l=>exact λρ2 H2 σ g=>h ρ2 H2 σ (f.trans g)
  |cnt l=>exact λρ2 H2 σ g=>h ρ2 H2 σ (f.trans g)
  |ret d=>exact λρ2 H2 v g=>h ρ2 H2 v (f.trans g)
 |ex c S=>exact λρ2 H2 g=>h ρ2 H2 (f.trans g)
 |no=>exact h
theorem Zx.bind {r:R α}{f:α->Store->R Fl}{Q1:β->Hp->Prop}(h:Zx K xw ρ H D (r.bind f))
  (k:∀d S ρ1 H1 v,Fut ρ H ρ1 H1->St3 K ρ1 S H1->rep ρ1 H1 d v->Zx K xw ρ1 H1 D (f d S)->Q1 v H1):End K xw rep ρ H Q1 r:=by
 cases r with
 |ok d S=>exact λρ1 H1 v g st r=>k d S ρ1 H1 v g st r (Zx.mono g h)
 |ex c S=>exact h
 |no=>exact h
theorem Zx.ob {o:Option α}{S:Store}{f:α->Store->R Fl}(h:Zx K xw ρ H D ((Ev.ob o S).bind f)):∃a,o=some a/\Zx K xw ρ H D (f a S):=by
 cases o with
 |none=>exact h.elim
 |some a=>exact⟨a,rfl,h⟩
theorem Zx.nx {l:Lc}{S:Store}{σ:L2.St}(h:Zx K xw ρ H D (.ok (.nx l) S)) (st:St3 K ρ S H) (lr:LocR ρ H l σ):D.nx σ H:=h ρ H σ (Fut.refl ρ H) st lr
end
section
variable (X:Cx) (xw:Nat->Hp->Prop)
def tS3 (f:Lc->Store->R Fl):TS:=λD σ H=>∃ρ l S,St3 X.K ρ S H/\LocR ρ H l σ/\Zx X.K xw ρ H D (f l S)
variable (C:Calls)
def CS (st:Stmt) (s:Sm):Prop:=PS X st (tS3 X xw (run C s))
def CSs (st:List Stmt) (s:List Sm):Prop:=PSs X st (tS3 X xw (runs C s))
def tG3 (t:List Nat):TG:=λv σ H Q=>∃ρ l S d l',St3 X.K ρ S H/\LocR ρ H l σ/\Rep ρ H d v/\Ev.assign t d S l=some l'/\∀σ',LocR ρ H l' σ'->Q σ' H
def CG (tg:Expr) (t:List Nat):Prop:=PG X tg (tG3 X t)
def Zdz (t:List Nat):TGs:=λvs σ H Q=>∃ρ l ds l',LocR ρ H l σ/\Rq ρ H ds vs/\Ev.fill t ds l=some l'/\∀σ',LocR ρ H l' σ'->Q σ' H
def CGs (tgs:List Expr) (t:List Nat):Prop:=PGs X tgs (Zdz t)
end
theorem PS.imp {X:Cx}{e:Stmt}{t t':TS}(h:PS X e t) (k:∀D σ H,t' D σ H->t D σ H):PS X e t':=λpq s σ H D I q=>h pq s σ H D I (k D σ H q)
theorem PSs.imp {X:Cx}{e:List Stmt}{t t':TS}(h:PSs X e t) (k:∀D σ H,t' D σ H->t D σ H):PSs X e t':=λpq s σ H D I q=>h pq s σ H D I (k D σ H q)
theorem PG.imp {X:Cx}{e:Expr}{t t':TG}(h:PG X e t) (k:∀v σ H Q,t' v σ H Q->t v σ H Q):PG X e t':=λpq s σ H v u Q I r q=>h pq s σ H v u Q I r (k v σ H Q q)
theorem PGs.imp {X:Cx}{e:List Expr}{t t':TGs}(h:PGs X e t) (k:∀v σ H Q,t' v σ H Q->t v σ H Q):PGs X e t':=λpq s σ H v u Q I r q=>h pq s σ H v u Q I r (k v σ H Q q)
section
variable {X:Cx}{xw:Nat->Hp->Prop}{C:Calls}{e a b c:Expr}{i j k:E}{pos p p' p2:Pos}{s0:Stmt}{ss:List Stmt}{m0:Sm}{ms ms':List Sm}
theorem yV:CSs X xw C [] []:=PSs.imp jJ λD σ H ⟨ρ,l,S,st,lr,h⟩=>Zx.nx h st lr
theorem Gq (h1:CS X xw C s0 m0) (h2:CSs X xw C ss ms):CSs X xw C (s0::ss) (m0::ms):=PSs.imp (qE h1 h2) λD σ H ⟨ρ,l,S,st,lr,h⟩=>by
 refine⟨ρ,l,S,st,lr,?_⟩;have h':Zx X.K xw ρ H D ((run C m0 l S).bind λf S=>match f with | .nx σ=>runs C ms σ S | f=>.ok f S):=h
 cases q:run C m0 l S with
 |no=>rw[q] at h';exact h'
 |ex c S1=>rw[q] at h';exact h'
 |ok fl S1=>
  rw[q] at h';cases fl with
  |nx l1=>exact λρ1 H1 σ1 f1 st1 lr1=>⟨ρ1,l1,S1,st1,lr1,Zx.mono f1 h'⟩
  |brk l1=>exact h'
  |cnt l1=>exact h'
  |ret d=>exact h'
theorem xg (he:CE X xw C e i):CS X xw C (.Return (some e) pos) (.ret i):=PS.imp (Zcp he) λD σ H ⟨ρ,l,S,st,lr,h⟩=>
 ⟨ρ,l,S,st,lr,Zx.bind (show Zx X.K xw ρ H D ((ev C i l S).bind λx S=>.ok (.ret x) S) from h) λx S1 ρ1 H1 v f1 st1 r1 h1=>h1 ρ1 H1 v (Fut.refl _ _) st1 r1⟩
theorem JZ (he:CE X xw C e i) (hs:swapsWith e none pos.line X.env=pure false:=by rfl):CS X xw C (.Expr e pos) (.ex i):=PS.imp (ZaP he hs) λD σ H ⟨ρ,l,S,st,lr,h⟩=>
 ⟨ρ,l,S,st,lr,Zx.bind (show Zx X.K xw ρ H D ((ev C i l S).bind λ_ S=>.ok (.nx l) S) from h) λx S1 ρ1 H1 v f1 st1 r1 h1=>Zx.nx h1 st1 (lr.mono f1)⟩
theorem uF {sa sb:List Stmt}(hc:CT X xw C c k) (ha:CSs X xw C sa ms) (hb:CSs X xw C sb ms'):CS X xw C (.If c sa sb pos) (.ite k ms ms'):=PS.imp (ZcN hc ha hb) λD σ H ⟨ρ,l,S,st,lr,h⟩=>
 ⟨ρ,l,S,st,lr,Zx.bind (show Zx X.K xw ρ H D ((tst C k l S).bind λc S=>if c then runs C ms l S else runs C ms' l S) from h) λx S1 ρ1 H1 v f1 st1 r1 h1=>by
  have e1:x=v:=r1;subst e1;cases x with
  |true=>exact⟨ρ1,l,S1,st1,lr.mono f1,h1⟩
  |false=>exact⟨ρ1,l,S1,st1,lr.mono f1,h1⟩⟩
theorem JS {n:Nat}{x:Str}(hN:X.N.Nodup) (hi:X.N[n]? = some x:=by rfl) (hx:L2.Loc X.env.scope x:=by first | exact Or.inl rfl | exact Or.inr rfl) (hf:X.fn x=true\/X.env.scope.names.lookup x=some .local:=by first | exact .inl rfl | exact .inr rfl):CG X (.Name x pos) [n]:=
 PG.imp (xX hN hi hx hf) λv σ H Q ⟨ρ,l,S,d,l',st,lr,r,ha,q⟩=>by
  have e:l.set n (some d)=l':=Pb ha;exact q _ (by rw[<-e];exact lr.set n r)
theorem Gv:CGs X [] []:=PGs.imp Zac λvs σ H Q ⟨ρ,l,ds,l',lr,r,hf,q⟩=>by
 cases ds with
 |nil=>
  unfold Rq at r;cases hf;exact⟨r,q σ lr⟩
 |cons _ _=>cases hf
theorem Qi {tgs:List Expr}{n:Nat}{t:List Nat}{x:Str}(hN:X.N.Nodup) (h2:CGs X tgs t) (hi:X.N[n]? = some x:=by rfl) (hx:L2.Loc X.env.scope x:=by first | exact Or.inl rfl | exact Or.inr rfl) (hf:X.fn x=true\/X.env.scope.names.lookup x=some .local:=by first | exact .inl rfl | exact .inr rfl)
  (hs:(assignEach (.Name x pos::tgs) X.env).map (·.2)=PySem.assign (.Name x pos) X.env::(assignEach tgs X.env).map (·.2):=by rfl):CGs X (.Name x pos::tgs) (n::t):=
 PGs.imp (v9 (xX hN hi hx hf) h2 hs) λvs σ H Q ⟨ρ,l,ds,l',lr,r,hf,q⟩=>by
  cases ds with
  |nil=>cases hf
  |cons d ds=>
   unfold Rq at r;obtain⟨v,ws,rfl,r1,r2⟩:=r;exact⟨v,ws,rfl,ρ,l.set n (some d),ds,l',lr.set n r1,r2,hf,q⟩
theorem UR:∀{t:List Nat}{ds:List D}{l l':Lc},Ev.fill t ds l=some l'->ds.length=t.length
 |[],[],_,_,_=>rfl
 |[],_::_,_,_,h=>by cases h
 |_::_,[],_,_,h=>by cases h
 |n::t,d::ds,l,l',h=>by rw[Px,Px,UR (t:=t) (ds:=ds) h]
theorem Jn {prog:Program}{w:World}{A:Around}{E:Value->Shared->Prop}{it t:Addr}{items:Array Value}(hne:t≠it):∀(n i:Nat) (s:Shared) (Q:List Value->Shared->Prop),s.heap.IsListIter it t i->s.heap.IsList t items->i+n<=items.size->
  (∀h',Heap.IsListIter h' it t (i+n)->Heap.SameBut it s.heap h'->Q ((items.toList.drop i).take n) { s with heap:=h' })->wpAny (model prog w) A (draw (.ref it) n) Q E s
 |0,i,s,Q,hit,_,_,hQ=>by
  show wpAny _ _ (pure []) Q E s;exact Pl (by simpa using hQ s.heap hit (Heap.SameBut.refl ..))
 |n+1,i,s,Q,hit,ht,hle,hQ=>by
  have hlt:i<items.size:=by omega
  show wpAny _ _ (pyNext (.ref it) >>= _) Q E s;refine Pa (wpAny_pyNext_list_item hit ht (x:=items[i]) (by simp[hlt]) λh₁ hit₁ hs₁=>?_)
  refine Pa (Nl (Jn hne n (i+1) _ _ hit₁ (ht.extBut hs₁.extBut hne) (by omega) λh₂ hit₂ hs₂=>Pl ?_))
  have hd:items.toList.drop i=items[i]::items.toList.drop (i+1):=by simp[N5,hlt]
  have:=hQ h₂ (by rw[show i+(n+1)=i+1+n by omega];exact hit₂) (hs₁.trans hs₂)
  rw[hd,List.take_succ_cons] at this;exact this
theorem zx {prog:Program}{w:World}{A:Around}{E:Value->Shared->Prop}{s:Shared}{env:Env}{elts:List Expr}{x1}{pos:Pos}{t:Addr}{items:Array Value}{Q:Unit->Shared->Prop}(hh:A.handled=none) (ht:s.heap.IsList t items)
  (hn:(assignEach elts env).length=items.size) (hstar:(assignEach elts env).findIdx? (·.1)=none)
  (h:∀h',Heap.ExtBut s.heap.objs.size s.heap h'->wpAny (model prog w) A (assignInOrder ((assignEach elts env).map (·.2)) items.toList) Q E { s with heap:=h' }) :
  wpAny (model prog w) A (PySem.assign (.Tuple elts x1 pos) env (.ref t)) Q E s:=by
 rw[assign_Tuple];refine Pa (NY ?_);have hlt:t≠s.heap.objs.size:=by obtain⟨o,ho,_⟩:=ht;exact PX (Pw ho)
 unfold unpack;rw[hn,hstar];refine Pa (Nl ?_);unfold unpackItems;refine Pa ?_;unfold notIterableAtAll;refine Pa (wpAny_specialOf ht.typeIs slot_list_iter.lookup ?_);refine Pl ?_;simp only[Nb,Nz];refine Pa (Nl (KP ht ?_));refine Pa (Nl (Jn hlt items.size 0 _ _ ⟨_,Pz _ rfl,rfl,rfl⟩ (ht.push _) (by omega) λh₁ hit₁ hs₁=>?_))
 have hall:List.take items.size (List.drop 0 items.toList)=items.toList:=by
  rw[Th];exact KQ (by simp)
 rw[hall];rw[Pi (by simp)]
 have ht₁:h₁.IsList t items:=(ht.push _).extBut hs₁.extBut hlt;refine Pa (Nl (wpAny_pyNext_list_end hh hit₁ ht₁ (by simp) λh₂ he₂=>?_))
 simp only[Option.isSome_none,Nb,Nz];exact Pl (h h₂ λb o hb e=>he₂ b o hb (hs₁.extBut b o hb (Ph _ e)))
def gTL (K:PySem.W.Frag) (n:Nat) (t:TGs):TG:=λv σ H Q=>∃a xs,v=.ref a/\(SqT K H a xs\/H a=some (.lst xs))/\xs.length=n/\t xs σ H Q
theorem Zc1 {X:Cx}{pos:Pos}{es:List Expr}{k:Nat}{t:TGs}{n:Nat}(hc:X.calm=true) (h:PGs X es t)
  (hn:(assignEach es X.env).length=n:=by rfl) (hst:(assignEach es X.env).findIdx? (·.1)=none:=by rfl):PG X (.Tuple es k pos) (gTL X.K n t):=by
 intro pq s σ H v u Q I r hw;obtain⟨a,xs,e1,hq | hq,hl,hw⟩:=hw
 ·exact Zch hc h hn hst pq s σ H v u Q I r ⟨a,xs,e1,hq,hl,hw⟩
 ·subst e1
  cases r;obtain⟨its,rv,pl,hz⟩:=I.list (SqL.of hq);refine zx (I.ok.hd hc) pl.isList (by simp[hn,<-hl,rv.length]) hst λh' hx=>?_
  have I1:Inv X pq σ H { s with heap:=h' }:=I.kept (t':=s.toks) λb o e=>hx b o (PX (Pw e)) e
  exact h pq _ σ H xs _ Q I1 (by simpa using rv) hw
theorem xm {tgs:List Expr}{q2:Nat}{n m:Nat}{r:List Nat}(hc:X.calm=true) (h:CGs X tgs (n::m::r)) (hn:(assignEach tgs X.env).length=(n::m::r).length:=by rfl) (hst:(assignEach tgs X.env).findIdx? (·.1)=none:=by rfl):CG X (.Tuple tgs q2 pos) (n::m::r):=
 PG.imp (Zc1 hc h hn hst) λv σ H Q ⟨ρ,l,S,d,l',st,lr,rd,ha,q⟩=>by
  cases d with
  |tup ds=>
   have hf:Ev.fill (n::m::r) ds l=some l':=ha;obtain⟨p,xs,rfl,hp,rs⟩:=rd.tup';exact⟨p,xs,rfl,.inl (SqT.of hp),by rw[rs.length];exact UR hf,ρ,l,ds,l',lr,rs,hf,q⟩
  |loc k=>
   have ha':(match Ev.Zh S k with
    |some xs=>Ev.fill (n::m::r) xs l
    |none=>none)=some l':=ha
   cases e1:Ev.Zh S k with
   |none=>rw[e1] at ha';cases ha'
   |some ds=>
    rw[e1] at ha';have hf:Ev.fill (n::m::r) ds l=some l':=ha';obtain⟨_,p,xs,q1,hp,r1⟩:=st.lst e1;obtain⟨p',rfl,t1⟩:=rd.loc';rw[q1] at t1;cases t1;exact⟨p,xs,rfl,.inr hp,by rw[r1.length];exact UR hf,ρ,l,ds,l',lr,r1,hf,q⟩
  |_=>cases ha
theorem yU {tg:Expr}{t:List Nat}(he:CE X xw C e i) (hg:CG X tg t) (hs:swapsWithSole [tg] e pos.line X.env=pure false:=by rfl) (hw:swappedStores [tg] e X.env=pure none:=by rfl)
  (h1:(assignEach [tg] X.env).map (·.2)=[PySem.assign tg X.env]:=by rfl):CS X xw C (.Assign [tg] e pos) (.asg t i):=PS.imp (qN he hg hs hw h1) λD σ H ⟨ρ,l,S,st,lr,h⟩=>
 ⟨ρ,l,S,st,lr,Zx.bind (show Zx X.K xw ρ H D ((ev C i l S).bind λx S=>(Ev.ob (Ev.assign t x S l) S).bind λσ S=>.ok (.nx σ) S) from h) λx S1 ρ1 H1 v f1 st1 r1 h1=>by
  obtain⟨l',hl',h2⟩:=Zx.ob h1;exact⟨ρ1,l,S1,x,l',st1,lr.mono f1,r1,hl',λσ' lr'=>Zx.nx h2 st1 lr'⟩⟩
theorem y6 {o ix:Expr}{io ii:E}(ho:CE X xw C o io) (hi:CE X xw C ix ii) (he:CE X xw C e i)
  (ha:∀v,PySem.assign (.Subscript o ix p) X.env v=(do
   let ov <-holding [v] (eval o X.env)
   let iv <-holding [v,ov] (eval ix X.env)
   standAt p
   holding [v,ov,iv] (setItem ov iv v)
   release [v,ov,iv] []):=by intro _;rfl) (hs:swapsWithSole [.Subscript o ix p] e pos.line X.env=pure false:=by rfl) (hw:swappedStores [.Subscript o ix p] e X.env=pure none:=by rfl)
  (h1:(assignEach [.Subscript o ix p] X.env).map (·.2)=[PySem.assign (.Subscript o ix p) X.env]:=by rfl):CS X xw C (.Assign [.Subscript o ix p] e pos) (.put io ii i):=
 PS.imp (qN he (Zby ho hi (qP (X:=X)) ha) hs hw h1) λD σ H ⟨ρ,l,S,st,lr,h⟩=>
 ⟨ρ,l,S,st,lr,Zx.bind (show Zx X.K xw ρ H D ((ev C i l S).bind λv S=>(ev C io l S).bind λx S=>(ev C ii l S).bind λy S=>(Ev.setix x y v S).bind λ_ S=>.ok (.nx l) S) from h) λx S1 ρ1 H1 v f1 st1 r1 h1=>
  ⟨ρ1,l,S1,st1,lr.mono f1,h1.bind λy S2 ρ2 H2 u f2 st2 r2 h2=>⟨ρ2,l,S2,st2,(lr.mono f1).mono f2,h2.bind λz S3 ρ3 H3 w f3 st3 r3 h3=>by
   cases y with
   |loc n=>cases z with
    |int m=>
     obtain⟨pa,rfl,hp⟩:=(r2.mono f3).loc';have h4:Zx X.K xw ρ3 H3 D ((match S3[n]? with
      |some (.lst xs)=>(Ev.ob (Ev.ixN xs.length m) S3).bind λj S=>.ok () (S.set n (.lst (xs.set j x)))
      |_=>.no).bind λ_ S=>.ok (.nx l) S):=h3
     cases q:S3[n]? with
     |none=>rw[q] at h4;exact False.elim h4
     |some ob=>
      rw[q] at h4;cases ob with
      |lst xs=>
       have h5:Zx X.K xw ρ3 H3 D (((Ev.ob (Ev.ixN xs.length m) S3).bind λj S=>R.ok () (S.set n (.lst (xs.set j x)))).bind λ_ S=>.ok (.nx l) S):=h4
       cases hj:Ev.ixN xs.length m with
       |none=>rw[hj] at h5;exact False.elim h5
       |some jj=>
        rw[hj] at h5;obtain⟨pb,hp',ys,hy,ry⟩:=st3.at q;rw[hp] at hp';cases hp';refine⟨pa,ys,m,jj,rfl,r3.int',hy,by rw[ry.length];exact hj,?_⟩
        have rx:=(r1.mono f2).mono f3;exact h5 ρ3 _ σ (YB hy) (st3.wr hp q hy (Rq.set rx jj ry)) ((((lr.mono f1).mono f2).mono f3).mono (YB hy))
      |_=>exact False.elim h4
    |_=>exact False.elim h3
   |_=>exact False.elim h3⟩⟩⟩
end
structure WRel (K:PySem.W.Frag) (ρ:List Addr) (H:Hp) (w:Walk) (J:It):Prop where
 go:∀(i:Nat) ρ' S' H',Fut ρ H ρ' H'->St3 K ρ' S' H'->w.still S'=true->i<w.items.length->J.go i H'/\∀x H'',J.yld i H' x H''->Fut ρ' H' ρ' H''/\St3 K ρ' S' H''/\∀d,w.items[i]? = some d->Rep ρ' H'' d x
 stop:∀ρ' S' H',Fut ρ H ρ' H'->St3 K ρ' S' H'->w.still S'=true->J.stop w.items.length H'
section
variable (X:Cx) (xw:Nat->Hp->Prop)
def tW3 (f:Lc->Store->R Walk):TI:=λσ H Q=>∃ρ l S,St3 X.K ρ S H/\LocR ρ H l σ/\End X.K xw (WRel X.K) ρ H Q (f l S)
def CW (C:Calls) (tg it:Expr) (w:Ev.W):Prop:=PI X tg it (tW3 X xw (evw C w))
end
theorem PI.imp {X:Cx}{tg it:Expr}{t t':TI}(h:PI X tg it t) (k:∀σ H Q,t' σ H Q->t σ H Q):PI X tg it t':=λpq s σ H R I q=>h pq s σ H R I (k σ H R q)
section
variable {X:Cx}{xw:Nat->Hp->Prop}{C:Calls}{e a b c tg it:Expr}{i j k:E}{pos p p' p2:Pos}
def ZdB (K:PySem.W.Frag) (tl:TE):TI:=λσ H R=>tl σ H λx H1=>∃a,x=.ref a/\(((∃xs,SqL K H1 a xs)/\R (Itl K a) H1)\/((∃xs,SqT K H1 a xs)/\R (Itt K a) H1))
theorem ZbA {l:Expr}{tl:TE}(hl:PE X l tl):PI X tg l (ZdB X.K tl):=by
 intro pq s σ H R I h;refine thn (hl pq s σ H _ I h) λv s1 ⟨x,H1,I1,r1,a,e,q⟩=>?_
 subst e;cases r1;rcases q with ⟨⟨xs,hq⟩,q⟩ | ⟨⟨xs,hq⟩,q⟩
 ·obtain⟨its,rv,p,hz⟩:=I1.list hq
  refine KP p.isList ?_;refine⟨s1.heap.objs.size,[s1.heap.objs.size],_,_,H1,rfl,I1.kept (t':=s1.toks) λb o e=>Ph _ e,vU a _,⟨_,Pz _ rfl,rfl,rfl⟩,λb hb=>?_,q⟩
  have e:b=s1.heap.objs.size:=by simpa using hb
  subst e;exact I1.fpOk (Pp _) (I1.hok.fresh (Pp _))
 ·obtain⟨its,rv,p,hz⟩:=I1.tuple hq
  refine KI (show s1.heap.IsTuple a its.toArray from p) ?_
  refine⟨s1.heap.objs.size,[s1.heap.objs.size],_,_,H1,rfl,I1.kept (t':=s1.toks) λb o e=>Ph _ e,xj a _,⟨_,Pz _ rfl,rfl,rfl⟩,λb hb=>?_,q⟩
  have e:b=s1.heap.objs.size:=by simpa using hb
  subst e;exact I1.fpOk (Pp _) (I1.hok.fresh (Pp _))
theorem qU {K:PySem.W.Frag}{ρ:List Addr}{H:Hp}{ds:List D}{a:Addr}{xs:List V}(hp:H a=some (.tup xs)) (r:Rq ρ H ds xs):WRel K ρ H ⟨ds,[]⟩ (Itt K a) where
 go:=λi ρ' S' H' f st _ hi=>by
  have hi':i<ds.length:=hi;obtain⟨v,g,_⟩:=(r.mono f).get (Pc hi');refine⟨⟨xs,v,SqT.of (f.tup a xs hp),g⟩,λx H'' y=>?_⟩
  obtain⟨rfl,y⟩:=y;refine⟨Fut.refl _ _,st,λd hd=>?_⟩
  obtain⟨v',g',r'⟩:=(r.mono f).get hd;have:=y xs (SqT.of (f.tup a xs hp));rw[g'] at this;cases this;exact r'
 stop:=λρ' S' H' f st _=>⟨xs,SqT.of (f.tup a xs hp),by show xs.length<=ds.length;rw[r.length];exact Pp _⟩
theorem uj {K:PySem.W.Frag}{ρ:List Addr}{H:Hp}{ds:List D}{a:Addr}{n:Nat}(hp:ρ[n]? = some a):WRel K ρ H ⟨ds,[(n,ds)]⟩ (Itl K a) where
 go:=λi ρ' S' H' f st hs hi=>by
  have hn:S'[n]? = some (.lst ds):=by simpa [Walk.still] using hs
  obtain⟨a',ha,xs,hx,r⟩:=st.at hn;rw[f.at hp] at ha;cases ha;have hi':i<ds.length:=hi;obtain⟨v,g,_⟩:=r.get (Pc hi');refine⟨⟨xs,v,SqL.of hx,g⟩,λx H'' y=>?_⟩
  obtain⟨rfl,y⟩:=y;refine⟨Fut.refl _ _,st,λd hd=>?_⟩
  obtain⟨v',g',r'⟩:=r.get hd;have:=y xs (SqL.of hx);rw[g'] at this;cases this;exact r'
 stop:=λρ' S' H' f st hs=>by
  have hn:S'[n]? = some (.lst ds):=by simpa [Walk.still] using hs
  obtain⟨a',ha,xs,hx,r⟩:=st.at hn;rw[f.at hp] at ha;cases ha;exact⟨xs,SqL.of hx,by show xs.length<=ds.length;rw[r.length];exact Pp _⟩
theorem zB {lo:Int}{n i:Nat}(h:i<n):(Ev.Zs lo n)[i]? = some (.int (lo+i)):=by
 unfold Ev.Zs;rw[PH,NW h];rfl
theorem WE (lo:Int) (n:Nat):(Ev.Zs lo n).length=n:=by unfold Ev.Zs;rw[Pj,P0]
theorem GN {K:PySem.W.Frag}{ρ:List Addr}{H:Hp}{lo:Int}{n:Nat}:WRel K ρ H ⟨Ev.Zs lo n,[]⟩ (Itr lo n) where
 go:=λi ρ' S' H' f st _ hi=>by
  have hi':i<n:=by simpa [WE] using hi
  refine⟨hi',λx H'' y=>?_⟩
  obtain⟨rfl,rfl⟩:=y;refine⟨Fut.refl _ _,st,λd hd=>?_⟩
  have hd':(Ev.Zs lo n)[i]? = some d:=hd;rw[zB hi'] at hd';cases hd';exact Zp _
 stop:=λρ' S' H' f st _=>by
  show n<=(Ev.Zs lo n).length;rw[WE];exact Pp _
theorem uf (he:CE X xw C e i):CW X xw C tg e (.of i):=PI.imp (ZbA he) λσ H Q ⟨ρ,l,S,st,lr,h⟩=>by
 refine⟨ρ,l,S,st,lr,End.bind (show End X.K xw (WRel X.K) ρ H Q ((ev C i l S).bind λx S=>Ev.ob (Ev.Yk S x) S) from h) λx S1 ρ1 H1 v f1 st1 r1 h1=>?_⟩
 cases x with
 |tup ds=>
  obtain⟨a,xs,rfl,hp,r⟩:=r1.tup';exact⟨a,rfl,.inr ⟨⟨xs,SqT.of hp⟩,End.ok (rep:=WRel X.K) h1 st1 (qU hp r)⟩⟩
 |loc n=>
  obtain⟨a,rfl,hp⟩:=r1.loc';have h':End X.K xw (WRel X.K) ρ1 H1 Q (Ev.ob (match S1[n]? with
   |some (.lst xs)=>some ⟨xs,[(n,xs)]⟩
   |_=>none) S1):=h1
  cases q:S1[n]? with
  |none=>rw[q] at h';exact False.elim h'
  |some o=>
   rw[q] at h';cases o with
   |lst ds=>
    obtain⟨a',ha,xs,hx,r⟩:=st1.at q;rw[hp] at ha;cases ha;exact⟨a,rfl,.inl ⟨⟨xs,SqL.of hx⟩,End.ok (rep:=WRel X.K) h' st1 (uj hp)⟩⟩
   |_=>exact False.elim h'
 |_=>exact False.elim h1
theorem JQ (hm:X.mg "range" = none) (ha:CA X xw C [a] [i]) (hg:Gl X "range":=by rfl) (hs:starEach [a] X.env=[(false,eval a X.env)]:=by rfl):CW X xw C tg (.Call (.Name "range" p) [a] [] pos) (.rng1 i):=
 PI.imp (vP hg hm ha hs) λσ H Q ⟨ρ,l,S,st,lr,h⟩=>by
  refine⟨ρ,l,S,st,lr,?_⟩;show End X.K xw Rq ρ H _ ((ev C i l S).bind λx S=>(Ev.R.ok [] S).bind λxs S=>.ok (x::xs) S)
  have h':End X.K xw (WRel X.K) ρ H Q ((ev C i l S).bind λx S=>match x with
   |.int i=>if Ev.small i then .ok ⟨Ev.Zs 0 i.toNat,[]⟩ S else .no
   |_=>.no):=h
  cases q:ev C i l S with
  |no=>rw[q] at h';exact h'
  |ex c S1=>rw[q] at h';exact h'
  |ok x S1=>
   rw[q] at h';intro ρ1 H1 vs f1 st1 r1;obtain⟨v,rfl,r⟩:=reps1 r1;cases x with
   |int n=>
    obtain⟨hs,h2⟩:=End.guard (End.mono f1 (show End X.K xw (WRel X.K) ρ H Q (if Ev.small n=true then .ok ⟨Ev.Zs 0 n.toNat,[]⟩ S1 else .no) from h'))
    have hs':=Pq (show decide (-(2^62)<=n/\n<2^62)=true from hs)
    exact⟨n,by rw[r.int'],hs'.1,hs'.2,End.ok (rep:=WRel X.K) h2 st1 GN⟩
   |_=>exact False.elim h'
noncomputable def Zbh (x y:D) (S:Store):R Walk:=match x,y with
 |.int i,.int j=>if (Ev.small i&&Ev.small j)=true then .ok ⟨Ev.Zs i (j-i).toNat,[]⟩ S else .no
 |_,_=>.no
theorem Ga (hm:X.mg "range" = none) (ha:CA X xw C [a,b] [i,j]) (hg:Gl X "range":=by rfl) (hs:starEach [a,b] X.env=[(false,eval a X.env),(false,eval b X.env)]:=by rfl) (hs2:starEach [b] X.env=[(false,eval b X.env)]:=by rfl) :
  CW X xw C tg (.Call (.Name "range" p) [a,b] [] pos) (.rng2 i j):=
 PI.imp (vA hg hm ha hs hs2) λσ H Q ⟨ρ,l,S,st,lr,h⟩=>by
  refine⟨ρ,l,S,st,lr,?_⟩;show End X.K xw Rq ρ H _ ((ev C i l S).bind λx S=>((ev C j l S).bind λy S=>(Ev.R.ok [] S).bind λxs S=>.ok (y::xs) S).bind λxs S=>.ok (x::xs) S)
  have h':End X.K xw (WRel X.K) ρ H Q ((ev C i l S).bind λx S=>(ev C j l S).bind λy S=>Zbh x y S):=h
  cases q:ev C i l S with
  |no=>rw[q] at h';exact h'
  |ex c S1=>rw[q] at h';exact h'
  |ok x S1=>
   rw[q] at h';have h2:End X.K xw (WRel X.K) ρ H Q ((ev C j l S1).bind λy S=>Zbh x y S):=h'
   show End X.K xw Rq ρ H _ (((ev C j l S1).bind λy S=>(Ev.R.ok [] S).bind λxs S=>.ok (y::xs) S).bind λxs S=>.ok (x::xs) S)
   cases q2:ev C j l S1 with
   |no=>rw[q2] at h2;exact h2
   |ex c S2=>rw[q2] at h2;exact h2
   |ok y S2=>
    rw[q2] at h2;intro ρ1 H1 vs f1 st1 r1;obtain⟨v,u,rfl,rv,ru⟩:=reps2 r1;cases x with
    |int n=>cases y with
     |int m=>
      obtain⟨hs,h3⟩:=End.guard (End.mono f1 (show End X.K xw (WRel X.K) ρ H Q (if (Ev.small n&&Ev.small m)=true then .ok ⟨Ev.Zs n (m-n).toNat,[]⟩ S2 else .no) from h2))
      obtain⟨s1,s2⟩:=(Py _ _).mp hs;have s1':=Pq (show decide (-(2^62)<=n/\n<2^62)=true from s1)
      have s2':=Pq (show decide (-(2^62)<=m/\m<2^62)=true from s2)
      exact⟨n,m,by rw[rv.int',ru.int'],⟨s1'.1,s1'.2,s2'.1,s2'.2⟩,End.ok (rep:=WRel X.K) h3 st1 GN⟩
     |_=>exact False.elim h2
    |_=>exact False.elim h2
theorem yo {body:List Stmt}{ms:List Sm}{w:Ev.W}{t:List Nat}(hp:PassesOwn (model X.prog X.w) X.A X.env X.xe) (hc:X.calm=true) (hw:CW X xw C tg it w) (hg:CG X tg t) (hb:CSs X xw C body ms)
  (hs:∀x,foldedSetIterable it X.env x=pure x:=by intro _;rfl):CS X xw C (.For tg it body [] pos) (.forr t w ms):=PS.imp (Zbo hp hc hw hg hb hs) λD σ H ⟨ρ,l,S,st,lr,h⟩=>by
 have h':Zx X.K xw ρ H D ((evw C w l S).bind λw S=>Ev.Vf w (λx σ S=>(Ev.ob (Ev.assign t x S σ) S).bind λσ S=>runs C ms σ S) w.items l S):=h
 refine⟨ρ,l,S,st,lr,h'.bind λwk S1 ρ1 H1 J f1 st1 r1 h1=>?_⟩
 let B:Ev.D->Lc->Store->R Fl:=λx σ S=>(Ev.ob (Ev.assign t x S σ) S).bind λσ S=>runs C ms σ S
 refine⟨λn m σ' H'=>m=wk.items.length-n/\n<=wk.items.length/\∃ρ' l' S',Fut ρ1 H1 ρ' H'/\St3 X.K ρ' S' H'/\LocR ρ' H' l' σ'/\Zx X.K xw ρ' H' D (Ev.Vf wk B (wk.items.drop n) l' S'),
  ⟨wk.items.length,rfl,Ki _,ρ1,l,S1,Fut.refl _ _,st1,lr.mono f1,h1⟩,?_⟩
 rintro n m σ' H' ⟨rfl,hn,ρ',l',S',f',st',lr',e'⟩
 by_cases hlt:n<wk.items.length
 ·right
  have hd:wk.items.drop n=wk.items[n]::wk.items.drop (n+1):=N5 hlt;rw[hd] at e';have e2:Zx X.K xw ρ' H' D (if wk.still S'=true then (match B wk.items[n] l' S' with
   |.ok (.nx σ') S'=>Ev.Vf wk B (wk.items.drop (n+1)) σ' S'
   |.ok (.cnt σ') S'=>Ev.Vf wk B (wk.items.drop (n+1)) σ' S'
   |.ok (.brk σ') S'=>.ok (.nx σ') S'
   |.ok (.ret d) S'=>.ok (.ret d) S'
   |.ex c S'=>.ex c S'
   |.no=>.no) else .no):=e'
  by_cases hst:wk.still S'=true
  ·rw[Pg hst] at e2
   obtain⟨go,yl⟩:=r1.go n ρ' S' H' f' st' hst hlt;refine⟨go,λσ2 H2=>∃ρ2 l2 S2,Fut ρ1 H1 ρ2 H2/\St3 X.K ρ2 S2 H2/\LocR ρ2 H2 l2 σ2/\Zx X.K xw ρ2 H2 D (Ev.Vf wk B (wk.items.drop (n+1)) l2 S2),λσ2 H2 ⟨ρ2,l2,S2,a1,a2,a3,a4⟩=>⟨wk.items.length-(n+1),by omega,rfl,hlt,ρ2,l2,S2,a1,a2,a3,a4⟩,λx H3 y=>?_⟩
   obtain⟨f3,st3,rp⟩:=yl x H3 y;have rx:=rp _ (Pc hlt);cases ha:Ev.assign t wk.items[n] S' l' with
   |none=>
    have e3:B wk.items[n] l' S'=.no:=by show (Ev.ob (Ev.assign t wk.items[n] S' l') S').bind _=_;rw[ha];rfl
    rw[e3] at e2;exact False.elim e2
   |some l2=>
    have e3:B wk.items[n] l' S'=runs C ms l2 S':=by show (Ev.ob (Ev.assign t wk.items[n] S' l') S').bind _=_;rw[ha];rfl
    rw[e3] at e2;refine⟨ρ',l',S',wk.items[n],l2,st3,lr'.mono f3,rx,ha,λσ2 lr2=>⟨ρ',l2,S',st3,lr2,?_⟩⟩
    have e4:=Zx.mono f3 e2;have ff:=f'.trans f3;cases q:runs C ms l2 S' with
    |no=>rw[q] at e4;exact e4
    |ex c S2=>rw[q] at e4;exact e4
    |ok fl S2=>
     rw[q] at e4;cases fl with
     |nx l3=>exact λρ4 H4 σ4 f4 st4 lr4=>⟨ρ4,l3,S2,ff.trans f4,st4,lr4,Zx.mono f4 e4⟩
     |cnt l3=>exact λρ4 H4 σ4 f4 st4 lr4=>⟨ρ4,l3,S2,ff.trans f4,st4,lr4,Zx.mono f4 e4⟩
     |brk l3=>exact e4
     |ret d=>exact e4
  ·rw[Pi hst] at e2
   exact False.elim e2
 ·left
  have en:n=wk.items.length:=by omega
  subst en;rw[List.drop_length] at e';have e2:Zx X.K xw ρ' H' D (if wk.still S'=true then .ok (.nx l') S' else .no):=e'
  by_cases hst:wk.still S'=true
  ·rw[Pg hst] at e2
   exact⟨r1.stop ρ' S' H' f' st' hst,Zx.nx e2 st' lr'⟩
  ·rw[Pi hst] at e2
   exact False.elim e2
end
end Sd
namespace Sd
open PySem PySem.Spec PyProof.Rows L2
noncomputable def vf (env:Env):List (Str×NameKind)->List (Str×Addr)->List (Str×Addr)
 |[],acc=>acc
 |x::r,acc=>vf env r (if (x.2 == NameKind.free)=true then (x.1,(env.cells.lookup x.1).getD 0)::acc else acc)
theorem UQ {env:Env}{f:Str×NameKind->List (Str×Addr)->Sem (ForInStep (List (Str×Addr)))}:∀(names:List (Str×NameKind)) (acc:List (Str×Addr)),
  (∀x∈names,∀c,f x c=pure (.yield (if (x.2 == NameKind.free)=true then (x.1,(env.cells.lookup x.1).getD 0)::c else c)))->forIn names acc f=pure (vf env names acc)
 |[],acc,_=>rfl
 |x::r,acc,h=>by
  rw[List.forIn_cons,h x Pe,pure_bind];exact UQ r _ λy hy=>h y (Pd _ hy)
theorem GJ {env:Env}{x:Str}{c:Addr}:∀(names:List (Str×NameKind)) (acc:List (Str×Addr)),(vf env names acc).lookup x=some c->acc.lookup x=some c\/(∃y∈names,y.1=x/\y.2=.free/\c=(env.cells.lookup x).getD 0)
 |[],acc,h=>.inl h
 |y::r,acc,h=>by
  rcases GJ r _ h with h | ⟨z,hz,e⟩
  ·by_cases hf:(y.2 == NameKind.free)=true
   ·rw[Pg hf,Na] at h
    cases q:(x == y.1) with
    |true=>
     rw[q] at h;have e:x=y.1:=eq_of_beq q;exact .inr ⟨y,Pe,e.symm,eq_of_beq hf,by rw[e];exact (Pb h).symm⟩
    |false=>rw[q] at h;exact .inl h
   ·rw[Pi hf] at h;exact .inl h
  ·exact .inr ⟨z,Pd _ hz,e⟩
theorem GP {env:Env}{x:Str}:∀(names:List (Str×NameKind)) (acc:List (Str×Addr)),(acc.lookup x).isSome=true->((vf env names acc).lookup x).isSome=true
 |[],acc,h=>h
 |y::r,acc,h=>by
  refine GP r _ ?_;split
  ·rw[Na]
   cases (x == y.1) with
   |true=>rfl
   |false=>exact h
  ·exact h
theorem zN {env:Env}{x:Str}:∀(names:List (Str×NameKind)) (acc:List (Str×Addr)),(x,NameKind.free)∈names->((vf env names acc).lookup x).isSome=true
 |[],acc,h=>by cases h
 |y::r,acc,h=>by
  rcases Pk.mp h with h | h
  ·subst h
   refine GP r _ ?_;rw[Pg (by rfl),Na,Kf]
   rfl
  ·exact zN r _ h
theorem yK {scope:Scope}{env:Env}(h:∀y∈scope.names,y.2=.free->∃c,env.cells.lookup y.1=some c) :
  ∃cl,closureFor scope env=pure cl/\(∀x c,cl.lookup x=some c->env.cells.lookup x=some c)/\∀x,(x,NameKind.free)∈scope.names->∃c,cl.lookup x=some c:=by
 refine⟨vf env scope.names [],?_,λx c e=>?_,λx hx=>NQ.mp (zN _ _ hx)⟩
 ·simp only[closureFor]
  rw[UQ (env:=env) scope.names [] (λx hx c=>by
   obtain⟨n,kind⟩:=x;by_cases hk:(kind == NameKind.free)=true
   ·obtain⟨a,ha⟩:=h (n,kind) hx (eq_of_beq hk)
    have ha':env.cells.lookup n=some a:=ha;simp only[hk,NS,cellOf,ha',pure_bind,Option.getD_some]
   ·simp only[hk,Nz]
    rfl),pure_bind]
 ·rcases GJ _ _ e with e | ⟨y,hy,e1,e2,e3⟩
  ·cases e
  ·obtain⟨a,ha⟩:=h y hy e2
   rw[e1] at ha;rw[e3,ha];rfl
noncomputable def cxC (X:Cx) (N:List Str) (scope:Scope) (cl:List (Str×Addr)) (s:Shared) (H:Hp) (fp:List Addr):Cx:=
 { X with N:=N,s₀:=s,H₀:=H,env:=compEnvC scope cl s.heap.objs.size X.env,outer:=X.stack,ex:=fp,fn:=λ_=>false,pn:=[],xe:=λ_ _=>False }
def PTs (X:Cx) (ifs:List Expr) (t:TT):Prop:=
 ∀(pq:List (Addr×Obj)) (s:Shared) (σ:L2.St) (H:Hp) (Q:Bool->Hp->Prop),Inv X pq σ H s->t σ H Q->
  wpAny (model X.prog X.w) X.A (forIn ifs true λc r=>if r=true then do let ok <-isTrue c X.env (eval c X.env);pure (ForInStep.yield ok) else pure (ForInStep.yield r)) (TP X pq σ Q) X.xe s
theorem jQ {X:Cx}:PTs X [] (λσ H Q=>Q true H):=λpq s σ H Q I h=>wpAny_tests_nil ⟨H,I,h⟩
theorem j6 {X:Cx}{c:Expr}{t:TT}(h:PT X c t):PTs X [c] t:=λpq s σ H Q I hq=>wpAny_tests_one (h pq s σ H Q I hq)
structure CompScope (sc:Scope) (N0:List Str) (scope:Scope) (N:List Str) (cap:List Nat) (nl:Nat):Prop where
 kind:scope.kind=.function
 nocell:∀y∈scope.names,y.2≠.cell
 names:∀y∈scope.names,y.2=.local->scope.names.lookup y.1=some .local
 free:∀y∈scope.names,y.2=.free->sc.names.lookup y.1=some .cell\/sc.names.lookup y.1=some .free
 apart:∀y∈scope.names,y.2=.free->scope.names.lookup y.1≠some .local
 len:N.length=nl+cap.length
 cap:∀p∈cap.zipIdx,N[nl+p.2]? = N0[p.1]?/\(N0[p.1]?).map (λx=>decide ((x,NameKind.free)∈scope.names))=some true
theorem CompScope.capt {sc:Scope}{N0:List Str}{scope:Scope}{N:List Str}{cap:List Nat}{nl:Nat}(h:CompScope sc N0 scope N cap nl) (i j:Nat) (e:cap[i]? = some j):∃x,N[nl+i]? = some x/\N0[j]? = some x/\(x,NameKind.free)∈scope.names:=by
 have hm:(j,i)∈cap.zipIdx:=by
  rw[List.mem_zipIdx_iff_getElem?];exact e
 obtain⟨h1,h2⟩:=h.cap (j,i) hm;cases q:N0[j]? with
 |none=>rw[show N0[(j,i).1]? = none from q] at h2;cases h2
 |some x=>
  rw[show N0[(j,i).1]? = some x from q] at h1 h2
  exact⟨x,h1,rfl,Pq (Pb h2)⟩
noncomputable def YV (cap:List Nat) (nl:Nat) (σ:L2.St):L2.St:=List.replicate nl none++cap.map λi=>(σ[i]?).join
section
variable {X:Cx}{pq:List (Addr×Obj)}{σ:L2.St}{H:Hp}{s:Shared}
theorem Vd {scope:Scope}{env:Env}:∀{names:List (Str×NameKind)}{x:Str},(names.map λ(n,k)=>if (k == NameKind.free&&env.scope.kind == .function&&env.kindOf n == some .cell) then (n,NameKind.cell) else (n,k)).lookup x=some .cell\/
  (names.map λ(n,k)=>if (k == NameKind.free&&env.scope.kind == .function&&env.kindOf n == some .cell) then (n,NameKind.cell) else (n,k)).lookup x=some .free->(∀y∈names,y.2≠.cell)->(x,NameKind.free)∈names
 |[],x,h,_=>by rcases h with h | h <;> cases h
 |(n,k)::r,x,h,hc=>by
  have ih:=@Vd scope env r x;have hk:k≠.cell:=hc (n,k) Pe;by_cases e:x=n
  ·subst e
   have hk2:k=.free:=by
    rcases h with h | h
    ·rw[PP] at h
     by_cases c:(k == NameKind.free&&env.scope.kind == .function&&env.kindOf x == some .cell)=true
     ·have:=(Py _ _).mp c
      exact eq_of_beq ((Py _ _).mp this.1).1
     ·simp only[Pi c,Na,Kf] at h
      exact absurd (Pb h) hk
    ·rw[PP] at h
     by_cases c:(k == NameKind.free&&env.scope.kind == .function&&env.kindOf x == some .cell)=true
     ·simp only[Pg c,Na,Kf] at h
      cases h
     ·simp only[Pi c,Na,Kf] at h
      exact Pb h
   rw[hk2];exact Pe
  ·have hb:(x == n)=false:=NJ.mpr e
   refine Pd _ (ih ?_ λy hy=>hc y (Pd _ hy))
   rcases h with h | h
   ·left
    rw[PP] at h;by_cases c:(k == NameKind.free&&env.scope.kind == .function&&env.kindOf n == some .cell)=true
    ·simp only[Pg c,Na,hb] at h;exact h
    ·simp only[Pi c,Na,hb] at h;exact h
   ·right
    rw[PP] at h;by_cases c:(k == NameKind.free&&env.scope.kind == .function&&env.kindOf n == some .cell)=true
    ·simp only[Pg c,Na,hb] at h;exact h
    ·simp only[Pi c,Na,hb] at h;exact h
theorem uH {N:List Str}{scope:Scope}{cl:List (Str×Addr)}{fp:List Addr}{cap:List Nat}{nl:Nat}{h1:Heap}{tk:Nat}(I:Inv X pq σ H s) (CS:CompScope X.env.scope X.N scope N cap nl) (hN:X.N.Nodup)
  (c1:∀x c,cl.lookup x=some c->X.env.cells.lookup x=some c) (c2:∀x,(x,NameKind.free)∈scope.names->∃c,cl.lookup x=some c)
  (hf:∀b∈fp,Vo X pq H b) (hb:∀b∈fp,∃o,s.heap.get? b=some o) (hns:∃m,h1.Ns s.heap.objs.size m) (hk:∀b o,s.heap.get? b=some o->h1.get? b=some o) :
  Inv (cxC X N scope cl s H fp) [] (YV cap nl σ) H { s with heap:=h1,toks:=tk }:=by
 have bne:∀b∈fp,b≠s.heap.objs.size:=λb hb' e=>by
  obtain⟨o,ho⟩:=hb b hb';exact absurd (Pw ho) (by rw[e];exact P2 _)
 refine⟨⟨I.ok.mod,CS.kind,I.ok.glob,I.ok.blt,Pp _,λx y c h1 h2=>I.ok.inj x y c (c1 x c h1) (c1 y c h2),λx hx=>c2 x (Vd (scope:=scope) (env:=X.env) hx CS.nocell),λx c h=>(by cases h),I.ok.hd,I.ok.frames,.inl rfl,
  λb hb'=>⟨bne b hb',λx c e=>(hf b hb').2.2.2.2.1 x c (c1 x c e)⟩,I.bs,PY I.ok.bsz I.sz,λb o e hb'=>?_,λb hb' hm=>?_,I.stack,I.stkFree⟩,
  rfl,I.bare,Un.kept hk,?_,λx c e=>?_,I.hok.fresh (Pp _),λx c e=>I.freeC x c (c1 x c e),λp hp=>absurd hp (by simp[cxC]),I.hok.kept hk,?_⟩
 ·rcases (hf b hb').2.2.2.1 with z | z
  ·exact I.ok.noex b o e z
  ·exact absurd (Pw e) (Nat.not_lt.mpr (PY I.ok.bsz z))
 ·rcases Pk.mp (I.stkSub b hm) with e | e
  ·exact (hf b hb').2.1 e
  ·exact (hf b hb').2.2.1 e
 ·obtain⟨m1,hm1⟩:=hns
  refine⟨m1,hm1,λi x v e1 e2 e3=>?_⟩
  obtain⟨m,hm,hl⟩:=I.loc;have hi:nl<=i:=by
   by_cases hi:nl<=i
   ·exact hi
   ·have z:(YV cap nl σ)[i]? = some none:=by
     unfold YV;rw[PB (by simp;omega),Nj,Pg (by omega)]
    rw[z] at e2;cases e2
  have e2':(cap.map λi=>(σ[i]?).join)[i-nl]? = some (some v):=by
   have:(YV cap nl σ)[i]? = some (some v):=e2;unfold YV at this
   rwa [PU (by simp;exact hi),Nx] at this
  rw[PH] at e2';cases hj:cap[i-nl]? with
  |none=>rw[hj] at e2';cases e2'
  |some j=>
   rw[hj] at e2';have hv:σ[j]? = some (some v):=by
    have:(σ[j]?).join=some v:=Pb e2';cases q:σ[j]? with
    |none=>rw[q] at this;cases this
    |some o=>rw[q] at this;cases o with
     |none=>cases this
     |some w=>cases this;rfl
   obtain⟨x',n1,n2,fr⟩:=CS.capt _ _ hj;have ex:x'=x:=by
    have:N[nl+(i-nl)]? = some x:=by rw[show nl+(i-nl)=i by omega];exact e1
    rw[n1] at this;exact Pb this
   subst ex;have kd:=CS.free _ fr rfl;have vis:Vis X.env.scope x':=by
    rcases kd with z | z
    ·exact .inr (.inl z)
    ·exact .inr (.inr z)
   obtain⟨u,r,lk⟩:=hl j x' v n2 hv vis;refine⟨u,r,?_⟩;rcases lk with ⟨k,_⟩ | ⟨k,c,ec,hc⟩
   ·have k':X.env.scope.names.lookup x'=some .local:=k
    rcases kd with z | z <;> (rw[z] at k';cases k')
   ·obtain⟨c',ec'⟩:=c2 x' fr
    have ecc:c'=c:=by
     have:=c1 x' c' ec';rw[ec] at this;exact (Pb this).symm
    subst ecc;have vis2:Vis (relabel scope X.env) x':=e3;refine .inr ⟨?_,c',ec',?_⟩
    ·rcases vis2 with z | z | z
     ·have z':(scope.names.map λ(n,k)=>if (k == NameKind.free&&X.env.scope.kind == .function&&X.env.kindOf n == some .cell) then (n,NameKind.cell) else (n,k)).lookup x'=some .local:=z
      exfalso
      have:∀(names:List (Str×NameKind)),(∀y∈names,y.2=NameKind.local->y.1≠x')->(names.map λ(n,k)=>if (k == NameKind.free&&X.env.scope.kind == .function&&X.env.kindOf n == some .cell) then (n,NameKind.cell) else (n,k)).lookup x'≠some .local:=by
       intro names
       induction names with
       |nil=>intro _ h;cases h
       |cons y r ih=>
        obtain⟨n,k⟩:=y;intro hy h;rw[PP] at h;by_cases e:x'=n
        ·subst e
         by_cases c:(k == NameKind.free&&X.env.scope.kind == .function&&X.env.kindOf x' == some .cell)=true
         ·simp only[Pg c,Na,Kf] at h;cases h
         ·simp only[Pi c,Na,Kf] at h
          exact hy (x',k) Pe (Pb h) rfl
        ·have hb:(x' == n)=false:=NJ.mpr e
         refine ih (λy hy'=>hy y (Pd _ hy')) ?_
         by_cases c:(k == NameKind.free&&X.env.scope.kind == .function&&X.env.kindOf n == some .cell)=true
         ·simp only[Pg c,Na,hb] at h;exact h
         ·simp only[Pi c,Na,hb] at h;exact h
      refine this scope.names (λy hy hl e=>?_) z'
      have l1:=CS.names y hy hl;rw[e] at l1;exact CS.apart (x',.free) fr rfl l1
     ·exact .inl z
     ·exact .inr z
    ·obtain⟨o,ho,hd⟩:=hc
     exact⟨o,hk c' o ho,hd⟩
 ·obtain⟨v,o,ho,hd⟩:=I.cell x c (c1 x c e)
  exact⟨v,o,hk c o ho,hd⟩
 ·unfold YV
  show _=N.length;rw[PM,Nx,Pj,CS.len]
end
abbrev TEm:=L2.St->Hp->(L2.St->Hp->Prop)->Prop
def zW (X:Cx) (act:Sem Fin->Sem Fin) (te:TEm):Prop:=
 ∀(pq:List (Addr×Obj)) (s:Shared) (σ:L2.St) (H:Hp) (Q:L2.St->Hp->Prop) (k:Sem Fin) (QF:Fin->Shared->Prop) (EE:Value->Shared->Prop),Inv X pq σ H s->te σ H Q->(∀s' σ' H',Inv X pq σ' H' s'->Q σ' H'->wpAny (model X.prog X.w) X.A k QF EE s')->
  wpAny (model X.prog X.w) X.A (act k) QF EE s
noncomputable def Vb (ipos:Pos) (tg:Expr) (ifs:List Expr) (act:Sem Fin->Sem Fin) (it:Value) (env:Env) (c:Code):Sem Fin:=do
 standAt ipos
 match <-pyNext it with
 |none=>pure (.done .next)
 |some v=>
  letOwnedTupleGo tg it v
  assign tg env v
  let mut ok:=true
  for c in ifs do
   if ok then ok <-isTrue c env (eval c env)
  if ok then act (again c) else again c
def wu (J:It) (g:TG) (tt:TT) (te:TEm) (W:Nat->Nat->L2.St->Hp->Prop) (Q:L2.St->Hp->Prop):Prop:=∀i m σ' H',W i m σ' H'->
  (J.stop i H'/\Q σ' H')\/(J.go i H'/\∀x H'',J.yld i H' x H''->g x σ' H'' λσ2 H2=>tt σ2 H2 λok H3=>if ok=true then te σ2 H3 λσ3 H4=>∃m',m'<m/\W (i+1) m' σ3 H4 else ∃m',m'<m/\W (i+1) m' σ2 H3)
theorem JC {Y:Cx}{e:Expr}{depth:Nat}{ipos:Pos}{tg:Expr}{ifs:List Expr}{act:Sem Fin->Sem Fin}{acc:Value}{J:It}{fp:List Addr}{it:Addr}{tn:Nat->Heap->Prop}{g:TG}{tt:TT}{te:TEm}{pq:List (Addr×Obj)}{Rr:Result->Shared->Prop}{Q:L2.St->Hp->Prop}{W:Nat->Nat->L2.St->Hp->Prop}{s:Shared}{σ:L2.St}{H:Hp}{m:Nat}
  (hc:Y.calm=true) (hx:∀a b,Y.xe a b->False) (hT:compTurn e depth (.ref it) acc Y.env=Vb ipos tg ifs act (.ref it) Y.env (.compLoop e depth (.ref it) acc Y.env)) (hquiet:(Code.compLoop e depth (.ref it) acc Y.env).isFrame=false)
  (hq:(Code.compLoop e depth (.ref it) acc Y.env).quiet=true) (T:Turn Y.prog Y.w Y.K tg J fp it tn) (hg:PG Y tg g) (ht:PTs Y ifs tt) (he:zW Y act te) (stat:∀{H':Hp},(∀b∈fp,H' b=none)->∀b∈fp,Vo Y pq H' b)
  (turn:wu J g tt te W Q) (fin:∀σ H s,Inv Y pq σ H s->Q σ H->Rr (.ok .next) s)
  (I0:Inv Y pq σ H s) (st0:tn 0 s.heap) (fr0:∀b∈fp,H b=none) (w0:W 0 m σ H) (hden:(model Y.prog Y.w).den (.compLoop e depth (.ref it) acc Y.env)=(compTurn e depth (.ref it) acc Y.env).onRaise (λx=>do noteFrame x Y.env;theTreesLotGoes x))
  (hund:Y.A.under (.compLoop e depth (.ref it) acc Y.env)=Y.A):codeAny (model Y.prog Y.w) Y.A (.compLoop e depth (.ref it) acc Y.env) Rr s:=by
 refine codeAny_loop hq (λn s'=>∃i σ' H',Inv Y pq σ' H' s'/\tn i s'.heap/\(∀b∈fp,H' b=none)/\W i n σ' H') (λn s5 hI=>?_) m ⟨0,σ,H,I0,st0,fr0,w0⟩
 rw[hund,hden,hT];refine wpAny_noted ?_;obtain⟨i,σ5,H5,I5,st5,fr5,w5⟩:=hI;unfold Vb;refine Pa (NY (Pa ?_));rcases turn i n σ5 H5 w5 with ⟨stop,qn⟩ | ⟨go,step⟩
 ·refine Nq (T.done Y rfl rfl rfl hc i pq s5 σ5 H5 (λ_ _=>False) I5 (stat fr5) st5 stop) (λr s6 ⟨hr,I6⟩=>?_) λ_ _ h'=>h'.elim
  subst hr;exact Pl (fin σ5 H5 s6 I6 qn)
 ·refine Nq (T.item Y rfl rfl rfl hc i pq s5 σ5 H5 (λ_ _=>False) I5 (stat fr5) st5 go) (λr s6 ⟨u,hr,h6⟩=>?_) λ_ _ h'=>h'.elim
  subst hr;refine Pa (Nq h6 (λ_ s7 ⟨x,H7,I7,r7,y7,st7,fr7⟩=>?_) λ_ _ h'=>h'.elim)
  have I7':=I7.pinned (stat fr7) (T.obj _ _ st7);have back:∀{σ8:L2.St} {H8:Hp} {s8:Shared} {m':Nat},Inv Y (pq++Qc fp s7.heap) σ8 H8 s8->m'<n->W (i+1) m' σ8 H8->∃m,m<n/\∃i σ' H',Inv Y pq σ' H' s8/\tn i s8.heap/\(∀b∈fp,H' b=none)/\W i m σ' H':=λ{σ8 H8 s8 m'} I8 hm w8=>by
   refine⟨m',hm,i+1,σ8,H8,I8.unpinned,T.keep _ _ _ st7 λb hb' o e=>(I8.pin (b,o) (Nc _ (Nc _ (XR hb' e)))).1,λb hb'=>?_,w8⟩
   obtain⟨o,e,d⟩:=T.obj _ _ st7 b hb';exact (I8.pin (b,o) (Nc _ (Nc _ (XR hb' e)))).2.1
  refine Pa (Nq (hg _ s7 σ5 H7 x u _ I7' r7 (step x H7 y7)) (λ_ s8 ⟨σ8,H8,I8,q8⟩=>?_) λ_ _ h'=>(hx _ _ h').elim)
  refine Pa (Nq (ht _ s8 σ8 H8 _ I8 q8) (λok s9 ⟨H9,I9,q9⟩=>?_) λ_ _ h'=>(hx _ _ h').elim)
  cases ok with
  |false=>
   rw[Pi Pu] at q9;obtain⟨m',hm,w9⟩:=q9;exact Pl ⟨rfl,back I9 hm w9⟩
  |true=>
   rw[Pg rfl] at q9;exact he _ s9 σ8 H9 _ _ _ _ I9 q9 λs10 σ10 H10 I10 ⟨m',hm,w10⟩=>Pl ⟨rfl,back I10 hm w10⟩
theorem Qx {Y:Cx}{elt:Expr}{te:TE}{D:Addr}(hx:∀a b,Y.xe a b->False) (he:PE Y elt te):zW Y (λk=>(do let _ <-call (.builtin "list.append") [.ref D,<-eval elt Y.env]:Sem Unit) >>= λ_=>k) (λσ H Q=>te σ H λy H4=>∃ys,H4 D=some (.lst ys)/\ys.length<sizeLine/\Q σ (upd H4 D (.lst (ys++[y])))):=by
 intro pq s σ H Q k QF EE I h hk;refine Pa ?_;refine Pa (Nq (he pq s σ H _ I h) (λxv s10 ⟨y,H10,I10,r10,ys,hDy,hz,q⟩=>?_) λ_ _ h'=>(hx _ _ h').elim)
 refine Pa (Nq (Jd (X:=Y) pq s10 σ H10 (.ref D) [y] (.ref D) [xv] (λv H'=>v=.non/\H'=upd H10 D (.lst (ys++[y]))) I10 rfl (.cons r10 .nil) ⟨D,ys,y,rfl,rfl,hDy,hz,rfl,rfl⟩) (λ_ s11 ⟨v11,H11,I11,_,_,eH⟩=>?_) λ_ _ h'=>(hx _ _ h').elim)
 subst eH;exact Pl (hk _ _ _ I11 q)
def xq (wi:TI) (g:TG) (tt:TT) (te:Addr->TEm) (cap:List Nat) (nl:Nat):TE:=λσ H Q=>wi σ H λJ H1=>∀D,H1 D=none->∃W:Nat->Nat->L2.St->Hp->Prop,(∃m,W 0 m (YV cap nl σ) (upd H1 D (.lst [])))/\wu J g tt (te D) W λ_ H'=>Q (.ref D) H'
def u5 (wi:TI) (g:TG) (tt:TT) (te:TE) (cap:List Nat) (nl:Nat):TE:=λσ H Q=>wi σ H λJ H1=>∀D,H1 D=none->∃W:Nat->Nat->L2.St->Hp->Prop,(∃m,W 0 m (YV cap nl σ) (upd H1 D (.lst [])))/\∀i m σ' H',W i m σ' H'->
  (J.stop i H'/\Q (.ref D) H')\/(J.go i H'/\∀x H'',J.yld i H' x H''->g x σ' H'' λσ2 H2=>tt σ2 H2 λok H3=>if ok=true then te σ2 H3 λy H4=>∃ys,H4 D=some (.lst ys)/\ys.length<sizeLine/\∃m',m'<m/\W (i+1) m' σ2 (upd H4 D (.lst (ys++[y]))) else ∃m',m'<m/\W (i+1) m' σ2 H3)
section
variable {X:Cx}
structure Gone (X:Cx) (pq:List (Addr×Obj)) (H:Hp) (s:Shared) (C:Addr):Prop where
 free:H C=none
 ns:∃m,s.heap.Ns C m
 loc:C≠X.env.locals
 big:X.s₀.heap.objs.size<=C
 cel:∀x c,X.env.cells.lookup x=some c->c≠C
 pin:∀p∈X.pn++pq,p.1≠C
theorem V0 {tg iter elt:Expr}{ifs:List Expr}{scope:Scope}{pos fpos:Pos}{N:List Str}{cap:List Nat}{nl:Nat}{wi:TI}{g:TG}{tt:TT}{te:Addr->TEm}{act:Value->Env->Sem Fin->Sem Fin}{rest:List Comprehension}{pq:List (Addr×Obj)}{s:Shared}{σ:L2.St}{H:Hp}{Q:VK}{use:Option (Value->Sem Unit)}{QQ:Value->Shared->Prop}(hc:X.calm=true) (hN:X.N.Nodup) (CS:CompScope X.env.scope X.N scope N cap nl) (hi:PI X tg iter wi)
  (hT:∀it acc env,compTurn (.ListComp elt (⟨tg,iter,ifs,0⟩::rest) scope pos) 0 it acc env=Vb iter.pos tg ifs (act acc env) it env (.compLoop (.ListComp elt (⟨tg,iter,ifs,0⟩::rest) scope pos) 0 it acc env))
  (hb:∀cl s H fp,PG (cxC X N scope cl s H fp) tg g/\PTs (cxC X N scope cl s H fp) ifs tt/\∀D,zW (cxC X N scope cl s H fp) (act (.ref D) (cxC X N scope cl s H fp).env) (te D))
  (hs:∀x,foldedSetIterable iter X.env x=pure x) (I:Inv X pq σ H s) (h:xq wi g tt te cap nl σ H Q)
  (fin:∀D C H5 s6,Inv X pq σ H5 s6->Gone X pq H5 s6 C->Q (.ref D) H5->compPost (model X.prog X.w) X.A X.xe use QQ (.ref D) C (.ok .next) s6) :
  wpAny (model X.prog X.w) X.A (comprehension (.ListComp elt (⟨tg,iter,ifs,0⟩::rest) scope pos) scope X.env fpos (newList []) false (eval iter X.env) use) QQ X.xe s:=by
 obtain⟨cl,hcl,c1,c2⟩:=yK (scope:=scope) (env:=X.env) λy hy hf=>I.ok.has y.1 (CS.free y hy hf)
 refine wpAny_comprehension_free (use:=use) rfl hs hcl CS.kind CS.names ?_;refine thn (hi pq s σ H _ I h) λv s1 h1=>thn h1 λitv s2 h2=>?_
 obtain⟨it,fp,tn,J,H2,rfl,I2,T,st2,f2,q2⟩:=h2;obtain⟨W,⟨m0,w0⟩,turn⟩:=q2 s2.heap.objs.size (I2.hok.fresh (Pp _));refine Nw (wpAny_newFunctionEnv CS.nocell (by intro y hy;simp at hy) (λh₁ hns₁ hsb₁=>?_) CS.kind)
 dsimp only at hns₁ hsb₁ ⊢
 have I3:Inv X pq σ (upd H2 s2.heap.objs.size (.lst [])) { s2 with heap:=s2.heap.push { cls:=.type "list",dict:=none,data:=.seq ([]:List Value).toArray },toks:=s2.toks }:=
  I2.laid (λb u e=>Ph _ e) (Pp _) ⟨Ki _,[],0,.nil,Pz _ rfl⟩
 generalize hD:s2.heap.objs.size=D at I3 w0 turn hns₁ hsb₁ ⊢;generalize hs3:({ s2 with heap:=s2.heap.push { cls:=.type "list",dict:=none,data:=.seq ([]:List Value).toArray },toks:=s2.toks }:Shared)=s3 at I3
 have hh3:s2.heap.push { cls:=.type "list",dict:=none,data:=.seq ([]:List Value).toArray }=s3.heap:=by rw[<-hs3]
 rw[hh3] at hns₁ hsb₁;have old:∀b o,s2.heap.get? b=some o->s3.heap.get? b=some o:=λb o e=>by rw[<-hh3];exact Ph _ e
 have neD:∀b∈fp,b≠D:=λb hb' e=>by
  obtain⟨o,ho,_⟩:=T.obj _ _ st2 b hb';exact absurd (Pw ho) (by rw[e,<-hD];exact P2 _)
 have f3:∀b∈fp,Vo X pq (upd H2 D (.lst [])) b:=λb hb'=>⟨by rw[ZI (neD b hb')];exact (f2 b hb').1,(f2 b hb').2⟩
 have keep4:∀b o,s3.heap.get? b=some o->h₁.get? b=some o:=λb o e=>hsb₁.extBut b o (PX (Pw e)) (Ph _ e)
 have I4:=uH (tk:=s2.toks+([]:List (Str×Value)).length) I3 CS hN c1 c2 f3 (λb hb'=>let ⟨o,ho,_⟩:=T.obj _ _ st2 b hb';⟨o,old b o ho⟩) ⟨_,hns₁⟩ keep4
 have e4:({ s3 with heap:=h₁,toks:=s2.toks+([]:List (Str×Value)).length }:Shared)={ s2 with heap:=h₁,toks:=s2.toks+([]:List (Str×Value)).length }:=by rw[<-hs3]
 rw[e4] at I4;obtain⟨hg,ht,he⟩:=hb cl s3 (upd H2 D (.lst [])) fp;generalize hY:cxC X N scope cl s3 (upd H2 D (.lst [])) fp=Y at I4 hg ht he;have yP:Y.prog=X.prog:=by rw[<-hY];rfl
 have stat:∀{H':Hp},(∀b∈fp,H' b=none)->∀b∈fp,Vo Y [] H' b:=λhn b hb'=>by
  subst hY;refine⟨hn b hb',λe=>?_,λhm=>?_,.inl hb',λx c e=>(f3 b hb').2.2.2.2.1 x c (c1 x c e),λp hp=>absurd hp (by simp[cxC])⟩
  ·obtain⟨o,ho,_⟩:=T.obj _ _ st2 b hb'
   have:=Pw (old b o ho);rw[e] at this;exact absurd this (P2 _)
  ·rcases Pk.mp (I3.stkSub b hm) with e | e
   ·exact (f3 b hb').2.1 e
   ·exact (f3 b hb').2.2.1 e
 subst hY
 let Y:=cxC X N scope cl s3 (upd H2 D (.lst [])) fp
 have st4:tn 0 h₁:=T.keep _ _ _ st2 λb hb' o e=>keep4 b o (old b o e)
 have fr4:∀b∈fp,upd H2 D (HO.lst []) b=none:=λb hb'=>(f3 b hb').1
 have loop:codeAny (model X.prog X.w) X.A (.compLoop (.ListComp elt (⟨tg,iter,ifs,0⟩::rest) scope pos) 0 (.ref it) (.ref D) (compEnvC scope cl s3.heap.objs.size X.env))
   (compPost (model X.prog X.w) X.A X.xe use QQ (.ref D) s3.heap.objs.size) { s2 with heap:=h₁,toks:=s2.toks+([]:List (Str×Value)).length }:=by
  refine JC (Y:=cxC X N scope cl s3 (upd H2 D (.lst [])) fp) (pq:=[]) (W:=W) (Q:=λ_ H'=>Q (.ref D) H') hc (λ_ _ z=>z) (hT _ _ _) rfl rfl T hg ht (he D) stat turn (λσ5 H5 s6 I6 qn=>?_) I4 st4 fr4 w0 rfl rfl
  obtain⟨m6,hn6,_⟩:=I6.loc;have u:=I6.base;have IX:Inv X pq σ H5 s6:=Inv.call' (s':=s6) (ch:=fp) I3 I6.os ⟨u.keep,u.slot,u.free,u.there,u.tups,u.frzs,u.tbls⟩ I6.hok I6.bare λb hb'=>⟨(f3 b hb').2.2.2.1,(f3 b hb').2.1,(f3 b hb').2.2.2.2.1,λp hp e=>(f3 b hb').2.2.2.2.2 p hp e⟩
  refine fin D s3.heap.objs.size H5 s6 IX ⟨I6.free,⟨m6,hn6⟩,Ne.symm (PX I3.lt),I3.sz,λx c e z=>?_,λp hp z=>?_⟩ qn
  ·obtain⟨v,q⟩:=I3.cell x c e
   exact absurd q.lt (by rw[z];exact P2 _)
  ·exact absurd (Pw (I3.pin p hp).1) (by rw[z];exact P2 _)
 subst hs3;exact codeAny_compStart_list loop (T.self _ 0 _ _ _ st4 loop)
theorem Gone.inv {pq:List (Addr×Obj)}{H:Hp}{s:Shared}{C:Addr}{σ:L2.St}{h':Heap}(G:Gone X pq H s C) (I:Inv X pq σ H s) (hsb:Heap.SameBut C s.heap h'):Inv X pq σ H { s with heap:=h' }:=
 I.turned (t':=s.toks) (λb o hb e=>(hsb.2 b hb).trans e) G.free G.loc (.inr G.big) G.cel G.pin
def vj (te:TE) (D:Addr):TEm:=λσ H Q=>te σ H λy H4=>∃ys,H4 D=some (.lst ys)/\ys.length<sizeLine/\Q σ (upd H4 D (.lst (ys++[y])))
theorem Zao {tg iter elt:Expr}{ifs:List Expr}{scope:Scope}{pos:Pos}{N:List Str}{cap:List Nat}{nl:Nat}{wi:TI}{g:TG}{tt:TT}{te:TE}(hc:X.calm=true) (hN:X.N.Nodup) (CS:CompScope X.env.scope X.N scope N cap nl) (hi:PI X tg iter wi)
  (hb:∀cl s H fp,PG (cxC X N scope cl s H fp) tg g/\PTs (cxC X N scope cl s H fp) ifs tt/\PE (cxC X N scope cl s H fp) elt te)
  (hs:∀x,foldedSetIterable iter X.env x=pure x:=by intro _;rfl):PE X (.ListComp elt [⟨tg,iter,ifs,0⟩] scope pos) (u5 wi g tt te cap nl):=by
 intro pq s σ H Q I h;rw[eval_ListComp];refine V0 (te:=vj te) (act:=λacc env k=>(do let _ <-call (.builtin "list.append") [acc,<-eval elt env]:Sem Unit) >>= λ_=>k) hc hN CS hi (λ_ _ _=>rfl) (λcl s H fp=>⟨(hb cl s H fp).1,(hb cl s H fp).2.1,λD=>Qx (λ_ _ z=>z) (hb cl s H fp).2.2⟩) hs I h λD C H5 s6 I6 G q=>?_
 obtain⟨m6,hn6⟩:=G.ns;exact⟨m6,hn6,λh' hsb=>⟨.ref D,H5,G.inv I6 hsb,rfl,q⟩⟩
theorem qp {tg iter elt:Expr}{ifs:List Expr}{scope:Scope}{pos spos py:Pos}{N:List Str}{cap:List Nat}{nl:Nat}{wi:TI}{g:TG}{tt:TT}{te:TE}{i:Nat}{y:Str}(hc:X.calm=true) (hN:X.N.Nodup) (CS:CompScope X.env.scope X.N scope N cap nl) (hi:PI X tg iter wi)
  (hb:∀cl s H fp,PG (cxC X N scope cl s H fp) tg g/\PTs (cxC X N scope cl s H fp) ifs tt/\PE (cxC X N scope cl s H fp) elt te)
  (hsw:swapsWith (.ListComp elt [⟨tg,iter,ifs,0⟩] scope pos) (some (.Name y py)) spos.line X.env=pure true)
  (hy:X.N[i]? = some y) (hx:L2.Loc X.env.scope y) (hf:X.fn y=true\/X.env.scope.names.lookup y=some .local)
  (hs:∀x,foldedSetIterable iter X.env x=pure x:=by intro _;rfl):PS X (.Assign [.Name y py] (.ListComp elt [⟨tg,iter,ifs,0⟩] scope pos) spos) (λD σ H=>u5 wi g tt te cap nl σ H λv H1=>D.nx (σ.set i (some v)) H1):=by
 intro pq s σ H D I h;rw[exec_Assign_Name_used _ _ _ _ hsw];refine Pa (NY (Pa ?_));show wpAny _ X.A (do let _ <-comprehension (.ListComp elt [⟨tg,iter,ifs,0⟩] scope pos) scope X.env _ (newList []) false (eval iter X.env) (some (assign (.Name y py) X.env))) _ _ s;refine Pa (Nq (V0 (use:=some (assign (.Name y py) X.env)) (QQ:=λ_ s'=>SP X pq D .next s') (Q:=λv H1=>D.nx (σ.set i (some v)) H1) (te:=vj te) (act:=λacc env k=>(do let _ <-call (.builtin "list.append") [acc,<-eval elt env]:Sem Unit) >>= λ_=>k) hc hN CS hi (λ_ _ _=>rfl) (λcl s H fp=>⟨(hb cl s H fp).1,(hb cl s H fp).2.1,λD=>Qx (λ_ _ z=>z) (hb cl s H fp).2.2⟩) hs I h λA C H5 s6 I6 G q=>?_) (λ_ s' hq=>Pl (Pl hq)) λ_ _ e=>e)
 show wpAny _ X.A (assign (.Name y py) X.env (.ref A)) _ _ s6;refine wpAny_assign_Name (VM (v:=V.ref A) I6 hN hy hx rfl (λs7 I7 ⟨a,hsb,ha⟩=>?_) hf)
 have hCa:C≠a:=by
  rcases ha with e | e
  ·rw[e];exact G.loc
  ·exact Ne.symm (G.cel y a e)
 obtain⟨m6,hn6⟩:=G.ns;have G7:Gone X pq H5 s7 C:=⟨G.free,⟨m6,hn6.sameBut hsb hCa⟩,G.loc,G.big,G.cel,G.pin⟩;exact⟨m6,hn6.sameBut hsb hCa,λh' hs'=>⟨σ.set i (some (.ref A)),H5,G7.inv I7 hs',q⟩⟩
def Go (wi:TI) (g:TG) (tt:TT) (te:TEm):TEm:=λσ H Q=>wi σ H λJ H1=>∃W:Nat->Nat->L2.St->Hp->Prop,(∃m,W 0 m σ H1)/\wu J g tt te W Q
theorem yQ {Y:Cx}{elt t2 i2:Expr}{gens:List Comprehension}{scope:Scope}{pos:Pos}{f2:List Expr}{act:Sem Fin->Sem Fin}{acc:Value}{wi:TI}{g:TG}{tt:TT}{te:TEm}(hc:Y.calm=true) (hx:∀a b,Y.xe a b->False) (hi:PI Y t2 i2 wi) (hg:PG Y t2 g) (ht:PTs Y f2 tt) (he:zW Y act te)
  (hs:∀x,foldedSetIterable i2 Y.env x=pure x)
  (hstart:∀(it:Value) (R:Result->Shared->Prop) (s:Shared),codeAny (model Y.prog Y.w) Y.A (.compLoop (.ListComp elt gens scope pos) 1 it acc Y.env) R s->wpAny (model Y.prog Y.w) Y.A (pyIter it) (λit' s'=>codeAny (model Y.prog Y.w) Y.A (.compLoop (.ListComp elt gens scope pos) 1 it' acc Y.env) R s') (notedBy (model Y.prog Y.w) Y.A Y.env λx s'=>R (.error x) s') s->codeAny (model Y.prog Y.w) Y.A (.compStart (.ListComp elt gens scope pos) 1 it acc Y.env) R s)
  (hT:∀it,compTurn (.ListComp elt gens scope pos) 1 it acc Y.env=Vb i2.pos t2 f2 act it Y.env (.compLoop (.ListComp elt gens scope pos) 1 it acc Y.env)) :
  zW Y (λk=>do let x <-eval i2 Y.env;standAt i2.pos;let x <-foldedSetIterable i2 Y.env x;let _ <-runOwn (.compStart (.ListComp elt gens scope pos) 1 (<-holding [x] (pyIter x)) acc Y.env) Y.env;k) (Go wi g tt te):=by
 intro pq s σ H Q k QF EE I h hk;refine Pa (Nq (hi pq s σ H _ I h) (λv s1 h1=>Pa (NY (Pa (NZ (hs v) (Pa (Nl (Nq h1 (λitv s2 h2=>?_) λ_ _ z=>(hx _ _ z).elim))))))) λ_ _ z=>(hx _ _ z).elim)
 obtain⟨it,fp,tn,J,H2,rfl,I2,T,st2,f2',W,⟨m0,w0⟩,turn⟩:=h2;have stat:∀{H':Hp},(∀b∈fp,H' b=none)->∀b∈fp,Vo Y pq H' b:=λhn b hb=>⟨hn b hb,(f2' b hb).2⟩
 have loop:codeAny (model Y.prog Y.w) Y.A (.compLoop (.ListComp elt gens scope pos) 1 (.ref it) acc Y.env) (λr s'=>match r with | .ok f=>wpAny (model Y.prog Y.w) Y.A k QF EE s' | .error x=>cameBackBy (model Y.prog Y.w) Y.A Y.env EE x s') s2:=
  JC (W:=W) (Q:=Q) hc hx (hT _) rfl rfl T hg ht he stat turn (λσ5 H5 s6 I6 qn=>hk s6 σ5 H5 I6 qn) I2 st2 (λb hb=>(f2' b hb).1) w0 rfl rfl
 exact Pa (wpAny_runOwn (hstart _ _ _ loop (T.self _ 0 _ _ _ st2 loop)))
theorem start1 {prog:Program}{w:World}{A:Around}{R:Result->Shared->Prop}{s:Shared}{elt t1 i1 t2 i2:Expr}{f1 f2:List Expr}{scope:Scope}{pos:Pos}{it acc:Value}{env:Env}
  (h0:codeAny (model prog w) A (.compLoop (.ListComp elt [⟨t1,i1,f1,0⟩,⟨t2,i2,f2,0⟩] scope pos) 1 it acc env) R s)
  (h:wpAny (model prog w) A (pyIter it) (λit' s'=>codeAny (model prog w) A (.compLoop (.ListComp elt [⟨t1,i1,f1,0⟩,⟨t2,i2,f2,0⟩] scope pos) 1 it' acc env) R s') (notedBy (model prog w) A env λx s'=>R (.error x) s') s) :
  codeAny (model prog w) A (.compStart (.ListComp elt [⟨t1,i1,f1,0⟩,⟨t2,i2,f2,0⟩] scope pos) 1 it acc env) R s:=by
 refine codeAny_of_tree ?_;show wpAny _ _ ((compStart (.ListComp elt [⟨t1,i1,f1,0⟩,⟨t2,i2,f2,0⟩] scope pos) 1 it acc env).onRaise (λx=>do noteFrame x env;standAt theWindowsPlace)) _ _ s
 refine wpAny_notedAt ?_;unfold compStart;show wpAny _ _ (ask >>= _) _ _ s;refine Pa (wpAny_askSetting (wpAny_ite ?_));split
 ·first | exact Pa (Pl (Pl (And.intro rfl h0))) | exact Pl (And.intro rfl h0)
 ·first | exact Pa (Kb (Pa (NY (Pa (Nq h (λit' s' h'=>Pl (And.intro rfl h')) λ_ _ x=>x))))) | (refine Pa (Kb ?_);show wpAny _ _ (standAt i2.pos >>= _) _ _ s;exact Pa (NY (Pa (Nq h (λit' s' h'=>Pl (And.intro rfl h')) λ_ _ x=>x))))
theorem wY {t1 i1 t2 i2 elt:Expr}{f1 f2:List Expr}{scope:Scope}{pos spos py:Pos}{N:List Str}{cap:List Nat}{nl:Nat}{wi wj:TI}{g1 g2:TG}{tt1 tt2:TT}{te:TE}{i:Nat}{y:Str}(hc:X.calm=true) (hN:X.N.Nodup) (CS:CompScope X.env.scope X.N scope N cap nl) (hi:PI X t1 i1 wi)
  (hb:∀cl s H fp,PG (cxC X N scope cl s H fp) t1 g1/\PTs (cxC X N scope cl s H fp) f1 tt1/\PI (cxC X N scope cl s H fp) t2 i2 wj/\PG (cxC X N scope cl s H fp) t2 g2/\PTs (cxC X N scope cl s H fp) f2 tt2/\PE (cxC X N scope cl s H fp) elt te)
  (hsw:swapsWith (.ListComp elt [⟨t1,i1,f1,0⟩,⟨t2,i2,f2,0⟩] scope pos) (some (.Name y py)) spos.line X.env=pure true)
  (hy:X.N[i]? = some y) (hx:L2.Loc X.env.scope y) (hf:X.fn y=true\/X.env.scope.names.lookup y=some .local)
  (hs:∀x,foldedSetIterable i1 X.env x=pure x:=by intro _;rfl) (hs2:∀env x,foldedSetIterable i2 env x=pure x:=by intro _ _;rfl) :
  PS X (.Assign [.Name y py] (.ListComp elt [⟨t1,i1,f1,0⟩,⟨t2,i2,f2,0⟩] scope pos) spos) (λD σ H=>xq wi g1 tt1 (λD=>Go wj g2 tt2 (vj te D)) cap nl σ H λv H1=>D.nx (σ.set i (some v)) H1):=by
 intro pq s σ H D I h;rw[exec_Assign_Name_used _ _ _ _ hsw];refine Pa (NY (Pa ?_));show wpAny _ X.A (do let _ <-comprehension (.ListComp elt [⟨t1,i1,f1,0⟩,⟨t2,i2,f2,0⟩] scope pos) scope X.env _ (newList []) false (eval i1 X.env) (some (assign (.Name y py) X.env))) _ _ s;refine Pa (Nq (V0 (use:=some (assign (.Name y py) X.env)) (QQ:=λ_ s'=>SP X pq D .next s') (Q:=λv H1=>D.nx (σ.set i (some v)) H1) (te:=λD=>Go wj g2 tt2 (vj te D)) (act:=λacc env k=>do let x <-eval i2 env;standAt i2.pos;let x <-foldedSetIterable i2 env x;let _ <-runOwn (.compStart (.ListComp elt [⟨t1,i1,f1,0⟩,⟨t2,i2,f2,0⟩] scope pos) 1 (<-holding [x] (pyIter x)) acc env) env;k) hc hN CS hi (λ_ _ _=>rfl) (λcl s H fp=>?_) hs I h λA C H5 s6 I6 G q=>?_) (λ_ s' hq=>Pl (Pl hq)) λ_ _ e=>e)
 ·obtain⟨a1,a2,a3,a4,a5,a6⟩:=hb cl s H fp
  exact⟨a1,a2,λD=>yQ hc (λ_ _ z=>z) a3 a4 a5 (Qx (λ_ _ z=>z) a6) (λx=>hs2 _ x) (λit R s k1 k2=>start1 k1 k2) λit=>rfl⟩
 show wpAny _ X.A (assign (.Name y py) X.env (.ref A)) _ _ s6;refine wpAny_assign_Name (VM (v:=V.ref A) I6 hN hy hx rfl (λs7 I7 ⟨a,hsb,ha⟩=>?_) hf)
 have hCa:C≠a:=by
  rcases ha with e | e
  ·rw[e];exact G.loc
  ·exact Ne.symm (G.cel y a e)
 obtain⟨m6,hn6⟩:=G.ns;have G7:Gone X pq H5 s7 C:=⟨G.free,⟨m6,hn6.sameBut hsb hCa⟩,G.loc,G.big,G.cel,G.pin⟩;exact⟨m6,hn6.sameBut hsb hCa,λh' hs'=>⟨σ.set i (some (.ref A)),H5,G7.inv I7 hs',q⟩⟩
end
end Sd
namespace Sd
open PySem PySem.Spec PyProof.Rows L2
open Ev (D Ob Store Lc R E Sm Calls Walk Fl Fn Bop Cop Ty Bf Mf ev evs evo evt evw tst run runs)
section
variable {X:Cx}{xw:Nat->Hp->Prop}{C:Calls}{e a b c tg it:Expr}{i j k:E}{pos p p' p2:Pos}
def CTs (X:Cx) (xw:Nat->Hp->Prop) (C:Calls) (ifs:List Expr) (is:List E):Prop:=PTs X ifs (tB3 X xw (evt C is))
theorem PTs.imp {X:Cx}{e:List Expr}{t t':TT}(h:PTs X e t) (k:∀σ H Q,t' σ H Q->t σ H Q):PTs X e t':=λpq s σ H Q I q=>h pq s σ H Q I (k σ H Q q)
theorem J3:CTs X xw C [] []:=PTs.imp jQ λσ H Q ⟨ρ,l,S,st,lr,h⟩=>End.ok (rep:=Xu) (show End X.K xw Xu ρ H Q (.ok true S) from h) st rfl
theorem ZaI (σ:Lc) (S:Store):evt C [i] σ S=tst C i σ S:=by
 show ((ev C i σ S).bind λx S=>(Ev.ob (Ev.truth S x) S).bind λb S=>if b then evt C [] σ S else .ok false S)=(ev C i σ S).bind λx S=>Ev.ob (Ev.truth S x) S
 congr 1
 funext x S
 cases Ev.truth S x with
 |none=>rfl
 |some b=>cases b <;> rfl
theorem Gf (h:CT X xw C c i):CTs X xw C [c] [i]:=PTs.imp (j6 h) λσ H Q ⟨ρ,l,S,st,lr,h⟩=>⟨ρ,l,S,st,lr,by rw[<-ZaI];exact h⟩
theorem LocR.caught {ρ:List Addr}{H:Hp}{l:Lc}{σ:L2.St}(lr:LocR ρ H l σ) (cap:List Nat) (nl:Nat):LocR ρ H (Ev.caught cap nl l) (YV cap nl σ):=by
 refine⟨by unfold Ev.caught YV;simp,λn d e=>?_⟩
 unfold Ev.caught at e;by_cases hn:n<nl
 ·rw[PB (by simp;exact hn),Nj,Pg hn] at e
  cases e
 ·rw[PU (by simp;omega),Nx,PH] at e
  unfold YV;rw[PU (by simp;omega),Nx,PH]
  cases q:cap[n-nl]? with
  |none=>rw[q] at e;cases e
  |some m=>
   rw[q] at e;have e':(l[m]?).join=some d:=Pb e;have:l[m]? = some (some d):=by
    cases z:l[m]? with
    |none=>rw[z] at e';cases e'
    |some o=>rw[z] at e';cases o with
     |none=>cases e'
     |some w=>cases e';rfl
   obtain⟨v,hv,r⟩:=lr.val m d this;exact⟨v,by show some ((σ[m]?).join)=_;rw[hv];rfl,r⟩
theorem z6 {is:List E}{ie:E}{cap:List Nat}{nl:Nat}{w:Ev.W}{t:List Nat}{σ:L2.St}{H:Hp}{Q:VK}(hyp:tE X xw (ev C (.comp1 cap nl t w is ie)) σ H Q):u5 (tW3 X xw (evw C w)) (tG3 X t) (tB3 X xw (evt C is)) (tE X xw (ev C ie)) cap nl σ H Q:=by
  obtain⟨ρ,l,S,st,lr,h⟩:=hyp;rw[ev] at h;refine⟨ρ,l,S,st,lr,h.bind λwk S1 ρ1 H1 J f1 st1 r1 h1=>λD hD=>?_⟩
  have st2:St3 X.K (ρ1++[D]) (S1++[.lst []]) (upd H1 D (.lst [])):=st1.new hD ⟨[],Yj,Rq.nil⟩;have f2:Fut ρ1 H1 (ρ1++[D]) (upd H1 D (.lst [])):=Vs hD;have pD:(ρ1++[D])[S1.length]? = some D:=by rw[<-st1.len];simp
  let B:Ev.D->Lc->Store->R Lc:=λx σ S2=>(Ev.ob (Ev.assign t x S2 σ) S2).bind λσ S2=>(evt C is σ S2).bind λb S2=>if b then (ev C ie σ S2).bind λy S2=>(Ev.push S1.length y S2).bind λ_ S2=>.ok σ S2 else .ok σ S2
  have h2:End X.K xw Rep ρ1 H1 Q ((Ev.Yp wk B wk.items (Ev.caught cap nl l) (S1++[.lst []])).bind λ_ S2=>.ok (.loc S1.length) S2):=h1
  refine⟨λn m σ' H'=>m=wk.items.length-n/\n<=wk.items.length/\∃ρ' l' S',Fut (ρ1++[D]) (upd H1 D (.lst [])) ρ' H'/\St3 X.K ρ' S' H'/\LocR ρ' H' l' σ'/\End X.K xw Rep ρ' H' Q ((Ev.Yp wk B (wk.items.drop n) l' S').bind λ_ S2=>.ok (.loc S1.length) S2),
   ⟨wk.items.length,rfl,Ki _,ρ1++[D],Ev.caught cap nl l,S1++[Ob.lst []],Fut.refl _ _,st2,(((lr.mono f1).mono f2).caught cap nl),by rw[Th];exact End.mono f2 h2⟩,?_⟩
  rintro n m σ' H' ⟨rfl,hn,ρ',l',S',f',st',lr',e'⟩
  by_cases hlt:n<wk.items.length
  ·right
   have hd:wk.items.drop n=wk.items[n]::wk.items.drop (n+1):=N5 hlt;rw[hd] at e';have e2:End X.K xw Rep ρ' H' Q ((if wk.still S'=true then (B wk.items[n] l' S').bind λσ S=>Ev.Yp wk B (wk.items.drop (n+1)) σ S else .no).bind λ_ S2=>.ok (.loc S1.length) S2):=e'
   by_cases hst:wk.still S'=true
   ·rw[Pg hst] at e2
    obtain⟨go,yl⟩:=r1.go n ρ' S' H' (f2.trans f') st' hst hlt;refine⟨go,λx H3 y=>?_⟩
    obtain⟨f3,st3,rp⟩:=yl x H3 y;have rx:=rp _ (Pc hlt);have e3:=End.mono f3 e2;have ff:=f'.trans f3;cases ha:Ev.assign t wk.items[n] S' l' with
    |none=>
     have z:B wk.items[n] l' S'=.no:=by show (Ev.ob (Ev.assign t wk.items[n] S' l') S').bind _=_;rw[ha];rfl
     rw[z] at e3;exact False.elim e3
    |some l2=>
     have z:B wk.items[n] l' S'=(evt C is l2 S').bind λb S2=>if b then (ev C ie l2 S2).bind λy S2=>(Ev.push S1.length y S2).bind λ_ S2=>.ok l2 S2 else .ok l2 S2:=by
      show (Ev.ob (Ev.assign t wk.items[n] S' l') S').bind _=_;rw[ha];rfl
     rw[z] at e3;simp only[Y9] at e3;refine⟨ρ',l',S',wk.items[n],l2,st3,lr'.mono f3,rx,ha,λσ2 lr2=>⟨ρ',l2,S',st3,lr2,e3.bind λok S4 ρ4 H4 ok' f4 st4 ro h4=>?_⟩⟩
     have eo:ok=ok':=ro;subst eo;cases ok with
     |false=>
      rw[Pi Pu];exact⟨wk.items.length-(n+1),by omega,rfl,hlt,ρ4,l2,S4,ff.trans f4,st4,lr2.mono f4,h4⟩
     |true=>
      rw[Pg rfl];have h5:End X.K xw Rep ρ4 H4 Q (((ev C ie l2 S4).bind λy S2=>(Ev.push S1.length y S2).bind λ_ S2=>.ok l2 S2).bind λa S=>(Ev.Yp wk B (wk.items.drop (n+1)) a S).bind λ_ S2=>.ok (.loc S1.length) S2):=h4
      simp only[Y9] at h5;refine⟨ρ4,l2,S4,st4,lr2.mono f4,h5.bind λy S5 ρ5 H5 v f5 st5 r5 h6=>?_⟩
      have p5:ρ5[S1.length]? = some D:=f5.at (f4.at (ff.at pD));cases q:Ev.Zh S5 S1.length with
      |none=>
       have z:Ev.push S1.length y S5=.no:=by unfold Ev.push;rw[q]
       rw[z] at h6;exact False.elim h6
      |some zs=>
       have z:Ev.push S1.length y S5=if zs.length<Ev.lim then .ok () (S5.set S1.length (.lst (zs++[y]))) else .no:=by unfold Ev.push;rw[q]
       rw[z] at h6;by_cases hl:zs.length<Ev.lim
       ·rw[Pg hl] at h6
        obtain⟨sn,a,xs,pa,hx,rz⟩:=st5.lst q;rw[p5] at pa;cases pa;refine⟨xs,hx,by rw[rz.length,<-Wf];exact hl,wk.items.length-(n+1),by omega,rfl,hlt,ρ5,l2,S5.set S1.length (.lst (zs++[y])),((ff.trans f4).trans f5).trans (YB hx),st5.wr p5 sn hx (rz.append (Rq.cons r5 Rq.nil)),((lr2.mono f4).mono f5).mono (YB hx),End.mono (YB hx) h6⟩
       ·rw[Pi hl] at h6
        exact False.elim h6
   ·rw[Pi hst] at e2
    exact False.elim e2
  ·left
   have en:n=wk.items.length:=by omega
   subst en;rw[List.drop_length] at e';have e2:End X.K xw Rep ρ' H' Q ((if wk.still S'=true then Ev.R.ok l' S' else .no).bind λ_ S2=>.ok (.loc S1.length) S2):=e'
   by_cases hst:wk.still S'=true
   ·rw[Pg hst] at e2
    exact⟨r1.stop ρ' S' H' (f2.trans f') st' hst,End.ok (rep:=Rep) (show End X.K xw Rep ρ' H' Q (.ok (.loc S1.length) S') from e2) st' (Us (f'.at pD))⟩
   ·rw[Pi hst] at e2
    exact False.elim e2
theorem Qt {elt:Expr}{ifs:List Expr}{is:List E}{ie:E}{scope:Scope}{N:List Str}{cap:List Nat}{nl:Nat}{w:Ev.W}{t:List Nat}(hc:X.calm=true) (hN:X.N.Nodup) (CS:CompScope X.env.scope X.N scope N cap nl) (hi:CW X xw C tg it w)
  (hb:∀cl s H fp,CG (cxC X N scope cl s H fp) tg t/\CTs (cxC X N scope cl s H fp) xw C ifs is/\CE (cxC X N scope cl s H fp) xw C elt ie)
  (hs:∀x,foldedSetIterable it X.env x=pure x:=by intro _;rfl):CE X xw C (.ListComp elt [⟨tg,it,ifs,0⟩] scope pos) (.comp1 cap nl t w is ie):=
 PE.imp (Zao (g:=tG3 X t) (tt:=tB3 X xw (evt C is)) (te:=tE X xw (ev C ie)) hc hN CS hi (λcl s H fp=>hb cl s H fp) hs) λσ H Q hyp=>z6 hyp
theorem UD {elt:Expr}{ifs:List Expr}{is:List E}{ie:E}{scope:Scope}{N:List Str}{cap:List Nat}{nl:Nat}{w:Ev.W}{t:List Nat}{n:Nat}{y:Str}{spos py:Pos}(hc:X.calm=true) (hN:X.N.Nodup) (CSc:CompScope X.env.scope X.N scope N cap nl) (hi:CW X xw C tg it w)
  (hb:∀cl s H fp,CG (cxC X N scope cl s H fp) tg t/\CTs (cxC X N scope cl s H fp) xw C ifs is/\CE (cxC X N scope cl s H fp) xw C elt ie)
  (hsw:swapsWith (.ListComp elt [⟨tg,it,ifs,0⟩] scope pos) (some (.Name y py)) spos.line X.env=pure true:=by rfl)
  (hy:X.N[n]? = some y:=by rfl) (hx:L2.Loc X.env.scope y:=by first | exact Or.inl rfl | exact Or.inr rfl) (hf:X.fn y=true\/X.env.scope.names.lookup y=some .local:=by first | exact .inl rfl | exact .inr rfl)
  (hs:∀x,foldedSetIterable it X.env x=pure x:=by intro _;rfl):CS X xw C (.Assign [.Name y py] (.ListComp elt [⟨tg,it,ifs,0⟩] scope pos) spos) (.asg [n] (.comp1 cap nl t w is ie)):=
 PS.imp (qp (g:=tG3 X t) (tt:=tB3 X xw (evt C is)) (te:=tE X xw (ev C ie)) hc hN CSc hi (λcl s H fp=>hb cl s H fp) hsw hy hx hf hs) λD σ H ⟨ρ,l,S,st,lr,h⟩=>
  z6 ⟨ρ,l,S,st,lr,Zx.bind (show Zx X.K xw ρ H D ((ev C (.comp1 cap nl t w is ie) l S).bind λx S=>(Ev.ob (Ev.assign [n] x S l) S).bind λσ S=>.ok (.nx σ) S) from h) λx S1 ρ1 H1 v f1 st1 r1 h1=>by
   obtain⟨l',hl',h2⟩:=Zx.ob h1;have e:l.set n (some x)=l':=Pb hl';exact Zx.nx h2 st1 (by rw[<-e];exact (lr.mono f1).set n r1)⟩
def LcR (ρ:List Addr) (H:Hp) (l:Lc) (σ:L2.St):Prop:=LocR ρ H l σ
noncomputable def XX (C:Calls) (t:List Nat) (is:List E) (Em:Lc->Store->R Lc) (x:D) (l:Lc) (S:Store):R Lc:=(Ev.ob (Ev.assign t x S l) S).bind λl S=>(evt C is l S).bind λb S=>if b then Em l S else .ok l S
theorem zu {ρ1:List Addr}{H1:Hp}{wk:Walk}{J:It}(r1:WRel X.K ρ1 H1 wk J) {t:List Nat}{is:List E}{te:TEm}{Em:Lc->Store->R Lc}(P:List Addr->Prop) (hP:∀ρ ρ' H H',Fut ρ H ρ' H'->P ρ->P ρ')
  (hEm:∀ρ H l σ S Q,P ρ->St3 X.K ρ S H->LocR ρ H l σ->End X.K xw LcR ρ H Q (Em l S)->te σ H Q) {QQ:L2.St->Hp->Prop} {ρ:List Addr} {H:Hp} {l:Lc} {σ:L2.St} {S:Store} (f:Fut ρ1 H1 ρ H) (hp:P ρ) (st:St3 X.K ρ S H) (lr:LocR ρ H l σ)
  (h:End X.K xw LcR ρ H QQ (Ev.Yp wk (XX C t is Em) wk.items l S)):∃W:Nat->Nat->L2.St->Hp->Prop,(∃m,W 0 m σ H)/\wu J (tG3 X t) (tB3 X xw (evt C is)) te W QQ:=by
 refine⟨λn m σ' H'=>m=wk.items.length-n/\n<=wk.items.length/\∃ρ' l' S',Fut ρ1 H1 ρ' H'/\P ρ'/\St3 X.K ρ' S' H'/\LocR ρ' H' l' σ'/\End X.K xw LcR ρ' H' QQ (Ev.Yp wk (XX C t is Em) (wk.items.drop n) l' S'),
  ⟨wk.items.length,rfl,Ki _,ρ,l,S,f,hp,st,lr,by rw[Th];exact h⟩,?_⟩
 rintro n m σ' H' ⟨rfl,hn,ρ',l',S',f',hp',st',lr',e'⟩
 by_cases hlt:n<wk.items.length
 ·right
  have hd:wk.items.drop n=wk.items[n]::wk.items.drop (n+1):=N5 hlt;rw[hd] at e';have e2:End X.K xw LcR ρ' H' QQ (if wk.still S'=true then (XX C t is Em wk.items[n] l' S').bind λσ S=>Ev.Yp wk (XX C t is Em) (wk.items.drop (n+1)) σ S else .no):=e'
  obtain⟨hst,e2⟩:=End.guard e2;obtain⟨go,yl⟩:=r1.go n ρ' S' H' f' st' hst hlt;refine⟨go,λx H3 y=>?_⟩
  obtain⟨f3,st3,rp⟩:=yl x H3 y;have rx:=rp _ (Pc hlt);have e3:=End.mono f3 e2;have ff:=f'.trans f3;have p3:=hP _ _ _ _ f3 hp';cases ha:Ev.assign t wk.items[n] S' l' with
  |none=>
   have z:XX C t is Em wk.items[n] l' S'=.no:=by unfold XX;rw[ha];rfl
   rw[z] at e3;exact False.elim e3
  |some l2=>
   have z:XX C t is Em wk.items[n] l' S'=(evt C is l2 S').bind λb S2=>if b then Em l2 S2 else .ok l2 S2:=by unfold XX;rw[ha];rfl
   rw[z] at e3;simp only[Y9] at e3;refine⟨ρ',l',S',wk.items[n],l2,st3,lr'.mono f3,rx,ha,λσ2 lr2=>⟨ρ',l2,S',st3,lr2,e3.bind λok S4 ρ4 H4 ok' f4 st4 ro h4=>?_⟩⟩
   have eo:ok=ok':=ro;subst eo;have p4:=hP _ _ _ _ f4 p3;cases ok with
   |false=>
    rw[Pi Pu];exact⟨wk.items.length-(n+1),by omega,rfl,hlt,ρ4,l2,S4,ff.trans f4,p4,st4,lr2.mono f4,h4⟩
   |true=>
    rw[Pg rfl];have h5:End X.K xw LcR ρ4 H4 QQ ((Em l2 S4).bind λa S=>Ev.Yp wk (XX C t is Em) (wk.items.drop (n+1)) a S):=h4
    refine hEm ρ4 H4 l2 σ2 S4 _ p4 st4 (lr2.mono f4) (h5.bind λl3 S5 ρ5 H5 σ3 f5 st5 r5 h6=>?_)
    exact⟨wk.items.length-(n+1),by omega,rfl,hlt,ρ5,l3,S5,(ff.trans f4).trans f5,hP _ _ _ _ f5 p4,st5,r5,h6⟩
 ·left
  have en:n=wk.items.length:=by omega
  subst en;rw[List.drop_length] at e';have e2:End X.K xw LcR ρ' H' QQ (if wk.still S'=true then .ok l' S' else .no):=e'
  obtain⟨hst,e2⟩:=End.guard e2;exact⟨r1.stop ρ' S' H' f' st' hst,End.ok (rep:=LcR) e2 st' lr'⟩
noncomputable def emE (C:Calls) (n:Nat) (ie:E) (l:Lc) (S:Store):R Lc:=(ev C ie l S).bind λy S=>(Ev.push n y S).bind λ_ S=>.ok l S
theorem Zb0 {ie:E}{n:Nat}{D:Addr}(ρ:List Addr) (H:Hp) (l:Lc) (σ:L2.St) (S:Store) (Q:L2.St->Hp->Prop) (hp:ρ[n]? = some D) (st:St3 X.K ρ S H) (lr:LocR ρ H l σ) (h:End X.K xw LcR ρ H Q (emE C n ie l S)):vj (tE X xw (ev C ie)) D σ H Q:=by
 refine⟨ρ,l,S,st,lr,End.bind (show End X.K xw LcR ρ H Q ((ev C ie l S).bind _) from h) λy S5 ρ5 H5 v f5 st5 r5 h6=>?_⟩
 have p5:ρ5[n]? = some D:=f5.at hp;cases q:Ev.Zh S5 n with
 |none=>
  have z:Ev.push n y S5=.no:=by unfold Ev.push;rw[q]
  rw[z] at h6;exact False.elim h6
 |some zs=>
  have z:Ev.push n y S5=if zs.length<Ev.lim then .ok () (S5.set n (.lst (zs++[y]))) else .no:=by unfold Ev.push;rw[q]
  rw[z] at h6;by_cases hl:zs.length<Ev.lim
  ·rw[Pg hl] at h6
   obtain⟨sn,a,xs,pa,hx,rz⟩:=st5.lst q;rw[p5] at pa;cases pa;exact⟨xs,hx,by rw[rz.length,<-Wf];exact hl,(show End X.K xw LcR ρ5 H5 Q (.ok l (S5.set n (.lst (zs++[y])))) from h6) ρ5 _ σ (YB hx) (st5.wr p5 sn hx (rz.append (Rq.cons r5 Rq.nil))) ((lr.mono f5).mono (YB hx))⟩
  ·rw[Pi hl] at h6
   exact False.elim h6
theorem vt {is js:List E}{ie:E}{cap:List Nat}{nl:Nat}{w w2:Ev.W}{t u:List Nat}{σ:L2.St}{H:Hp}{Q:VK}(hyp:tE X xw (ev C (.comp2 cap nl t w is u w2 js ie)) σ H Q) :
  xq (tW3 X xw (evw C w)) (tG3 X t) (tB3 X xw (evt C is)) (λD=>Go (tW3 X xw (evw C w2)) (tG3 X u) (tB3 X xw (evt C js)) (vj (tE X xw (ev C ie)) D)) cap nl σ H Q:=by
 obtain⟨ρ,l,S,st,lr,h⟩:=hyp;rw[ev] at h;refine⟨ρ,l,S,st,lr,h.bind λwk S1 ρ1 H1 J f1 st1 r1 h1=>λD hD=>?_⟩
 have st2:St3 X.K (ρ1++[D]) (S1++[.lst []]) (upd H1 D (.lst [])):=st1.new hD ⟨[],Yj,Rq.nil⟩;have f2:Fut ρ1 H1 (ρ1++[D]) (upd H1 D (.lst [])):=Vs hD;have pD:(ρ1++[D])[S1.length]? = some D:=by rw[<-st1.len];simp
 let Em:Lc->Store->R Lc:=λl S2=>(evw C w2 l S2).bind λwk2 S2=>Ev.Yp wk2 (XX C u js (emE C S1.length ie)) wk2.items l S2
 have h2:End X.K xw Rep ρ1 H1 Q ((Ev.Yp wk (XX C t is Em) wk.items (Ev.caught cap nl l) (S1++[.lst []])).bind λ_ S2=>.ok (.loc S1.length) S2):=h1
 refine zu r1 (λρ=>ρ[S1.length]? = some D) (λρ ρ' H H' f hp=>f.at hp) (λρ H l σ S Q hp st lr h=>?_) (Em:=Em) f2 pD st2 (((lr.mono f1).mono f2).caught cap nl) ((End.mono f2 h2).bind λl3 S3 ρ3 H3 σ3 f3 st3 r3 h3=>End.ok (rep:=Rep) h3 st3 (Us (f3.at pD)))
 exact⟨ρ,l,S,st,lr,End.bind (show End X.K xw LcR ρ H Q ((evw C w2 l S).bind λwk2 S2=>Ev.Yp wk2 (XX C u js (emE C S1.length ie)) wk2.items l S2) from h) λwk2 S5 ρ5 H5 J5 f5 st5 r5 h5=>
  zu r5 (λρ=>ρ[S1.length]? = some D) (λρ ρ' H H' f hp=>f.at hp) (λρ H l σ S Q hp st lr h=>Zb0 ρ H l σ S Q hp st lr h) (Fut.refl _ _) (f5.at hp) st5 (lr.mono f5) h5⟩
theorem VP {elt t1 i1 t2 i2:Expr}{f1' f2':List Expr}{is js:List E}{ie:E}{scope:Scope}{N:List Str}{cap:List Nat}{nl:Nat}{w w2:Ev.W}{t u:List Nat}{n:Nat}{y:Str}{spos py:Pos}(hc:X.calm=true) (hN:X.N.Nodup) (CSc:CompScope X.env.scope X.N scope N cap nl) (hi:CW X xw C t1 i1 w)
  (hb:∀cl s H fp,CG (cxC X N scope cl s H fp) t1 t/\CTs (cxC X N scope cl s H fp) xw C f1' is/\CW (cxC X N scope cl s H fp) xw C t2 i2 w2/\CG (cxC X N scope cl s H fp) t2 u/\CTs (cxC X N scope cl s H fp) xw C f2' js/\CE (cxC X N scope cl s H fp) xw C elt ie)
  (hsw:swapsWith (.ListComp elt [⟨t1,i1,f1',0⟩,⟨t2,i2,f2',0⟩] scope pos) (some (.Name y py)) spos.line X.env=pure true:=by rfl)
  (hy:X.N[n]? = some y:=by rfl) (hx:L2.Loc X.env.scope y:=by first | exact Or.inl rfl | exact Or.inr rfl) (hf:X.fn y=true\/X.env.scope.names.lookup y=some .local:=by first | exact .inl rfl | exact .inr rfl)
  (hs:∀x,foldedSetIterable i1 X.env x=pure x:=by intro _;rfl) (hs2:∀env x,foldedSetIterable i2 env x=pure x:=by intro _ _;rfl) :
  CS X xw C (.Assign [.Name y py] (.ListComp elt [⟨t1,i1,f1',0⟩,⟨t2,i2,f2',0⟩] scope pos) spos) (.asg [n] (.comp2 cap nl t w is u w2 js ie)):=
 PS.imp (wY (wj:=tW3 X xw (evw C w2)) (g1:=tG3 X t) (tt1:=tB3 X xw (evt C is)) (g2:=tG3 X u) (tt2:=tB3 X xw (evt C js)) (te:=tE X xw (ev C ie)) hc hN CSc hi (λcl s H fp=>hb cl s H fp) hsw hy hx hf hs hs2) λD σ H ⟨ρ,l,S,st,lr,h⟩=>
  vt ⟨ρ,l,S,st,lr,Zx.bind (show Zx X.K xw ρ H D ((ev C (.comp2 cap nl t w is u w2 js ie) l S).bind λx S=>(Ev.ob (Ev.assign [n] x S l) S).bind λσ S=>.ok (.nx σ) S) from h) λx S1 ρ1 H1 v f1 st1 r1 h1=>by
   obtain⟨l',hl',h2⟩:=Zx.ob h1;have e:l.set n (some x)=l':=Pb hl';exact Zx.nx h2 st1 (by rw[<-e];exact (lr.mono f1).set n r1)⟩
end
theorem LocR.start {ρ:List Addr}{H:Hp}{ds:List D}{vs:List V}(r:Rq ρ H ds vs) (N:List Str) (n:Nat) (hn:n=N.length):LocR ρ H (Ev.start n ds) (L2.start N vs):=by
 subst hn;have hl:=r.length;refine⟨by unfold Ev.start L2.start;simp[hl],λi d e=>?_⟩
 unfold Ev.start at e;by_cases hi:i<ds.length
 ·rw[PB (by simpa using hi),PH] at e
  cases q:ds[i]? with
  |none=>rw[q] at e;cases e
  |some d'=>
   rw[q] at e;cases e;obtain⟨v,hv,r'⟩:=r.get q;refine⟨v,?_,r'⟩;unfold L2.start;rw[PB (by simp;omega),PH,hv]
   rfl
 ·rw[PU (by simp;omega),Nj] at e
  split at e <;> cases e
section
variable {P:Program}{w:World}{K:PySem.W.Frag}{mg:Str->Option Value}{base:Heap}
theorem jF {F:List Fn}{n d:Nat}{fn:Fn}{x qual:Str}{st:Stmt}{f:Addr}{fd:FuncData}{N ps:List Str}{k:Nat}(hF:F[n]? = some fn) (hns:fn.ns=N.length) (hps:fn.ps=ps.length) (Fu:Fun K x qual st f fd) (S:FnScope N ps (ZG st))
  (hb:∀(cdv:Value) (A:Around) (outer:List Env) (s:Shared) (H:Hp) (E:XK),Room k (A.deeper (envOfC qual (ZG st) s.heap.objs.size f cdv))->
   CSs (GT CX0 P w K mg base N qual (ZG st) f cdv A outer s H E).nox (λ_ _=>False) (Ev.calls F d) (Ys st) fn.body) :
  FnOk P w K mg base CX0 (k+1) f fd ps (spF K (Ev.calls F (d+1)) n):=by
 have eq:∀ds S,Ev.calls F (d+1) n ds S=if ds.length=fn.ps then (runs (Ev.calls F d) fn.body (Ev.start fn.ns ds) S).bind λf S=>match f with
    |.ret x=>.ok x S
    |.nx _=>.ok .non S
    |_=>.no
   else .no:=λds S=>by
  rw[Ev.calls,hF]
  all_goals rfl
 refine Fu.ok S (λvs H Q E ⟨ρ,ds,S,st,r,h⟩=>?_) λcdv A outer s H vs Q E hr ⟨ρ,ds,S',st,r,h⟩=>⟨_,hb cdv A outer s H E hr,ρ,Ev.start fn.ns ds,S',st,LocR.start r N fn.ns hns,?_⟩
 ·rw[eq] at h
  obtain⟨hl,_⟩:=End.guard h;rw[r.length,hl,hps]
 ·rw[eq] at h
  obtain⟨hl,h⟩:=End.guard h;cases q:runs (Ev.calls F d) fn.body (Ev.start fn.ns ds) S' with
  |no=>rw[q] at h;exact h
  |ex c S2=>rw[q] at h;exact h
  |ok fl S2=>
   rw[q] at h;cases fl with
   |ret x=>exact λρ' H' v g st r=>h ρ' H' v g st r
   |nx l=>exact λρ' H' σ' g st lr=>h ρ' H' .non g st Ww
   |brk l=>exact False.elim h
   |cnt l=>exact False.elim h
theorem wI {F:List Fn}{n k:Nat}{f:Addr}{fd:FuncData}{ps:List Str}:FnOk P w K mg base CX0 k f fd ps (spF K (Ev.calls F 0) n):=
 ⟨λvs H Q E ⟨ρ,ds,S,st,r,h⟩=>False.elim h,λA outer s H args us vs Q E hr e0 hb r ⟨ρ,ds,S,st,r',h⟩=>False.elim h⟩
end
section
variable {es:List Expr}{env:Env}
theorem GR {a b c}:starEach (.Constant a b c::es) env=(false,eval (.Constant a b c) env)::starEach es env:=rfl
theorem wq {a b}:starEach (.Name a b::es) env=(false,eval (.Name a b) env)::starEach es env:=rfl
theorem qA {a b c}:starEach (.Tuple a b c::es) env=(false,eval (.Tuple a b c) env)::starEach es env:=rfl
theorem qk {a b}:starEach (.List a b::es) env=(false,eval (.List a b) env)::starEach es env:=rfl
theorem qj {a b c d}:starEach (.BinOp a b c d::es) env=(false,eval (.BinOp a b c d) env)::starEach es env:=rfl
theorem Za7 {a b c}:starEach (.UnaryOp a b c::es) env=(false,eval (.UnaryOp a b c) env)::starEach es env:=rfl
theorem uc {a b c}:starEach (.Subscript a b c::es) env=(false,eval (.Subscript a b c) env)::starEach es env:=rfl
theorem x8 {a b c d}:starEach (.Call a b c d::es) env=(false,eval (.Call a b c d) env)::starEach es env:=rfl
theorem wd {a b c d}:starEach (.ListComp a b c d::es) env=(false,eval (.ListComp a b c d) env)::starEach es env:=rfl
end
theorem hu7 {k:Nat}{A:Around}(hr:Room k A):A.units+7<cLine:=Nat.lt_of_le_of_lt (by omega) hr.un
theorem qB {K:PySem.W.Frag}{C:Calls}{n:Nat}{H:Hp}{a:Addr}{ns:List Int}(hO:Only H) (hS:SqL K H a (ns.map V.int)) (h:∃S',C n [.loc 0] [.scr ns]=.ok (.bl true) S'):spF K C n [.ref a] H (λv _=>v=.bl true) λ_ _ _=>False:=by
 obtain⟨S',e⟩:=h;refine⟨[a],[.loc 0],[.scr ns],⟨rfl,λm k b h1 h2 hm=>?_,λm o b h1 h2=>?_⟩,Rq.cons (Us rfl) Rq.nil,?_⟩
 ·have l1:=(Pr.mp h1).1
  have l2:=(Pr.mp h2).1;simp at l1 l2;omega
 ·have l1:=(Pr.mp h1).1
  have e0:m=0:=by simp at l1;exact l1
  subst e0;cases h1;cases h2;show Scr K H a ns;rcases hS with (hS | hS) | hS
  ·rcases hO a with z | ⟨o,xs,z⟩
   ·rw[z] at hS;cases hS
   ·rw[z] at hS;cases hS
  ·exact .inl hS
  ·exact .inr hS
 ·rw[e]
  exact λρ' H' v _ _ r=>r.bl'
section
variable {X:Cx}{xw:Nat->Hp->Prop}{C:Calls}{e a b c tg it:Expr}{i j k:E}{pos p p' p2 p3:Pos}{s0:Stmt}{ss:List Stmt}{m0:Sm}{ms ms':List Sm}
theorem UV {n:Nat}:CS X (λ_ _=>False) C s0 (.raise n []):=λpq s σ H D I ⟨ρ,l,S,st,lr,h⟩=>
 False.elim ((show Zx X.K (λ_ _=>False) ρ H D (.ex n S) from h) ρ H (Fut.refl ρ H) st)
structure AugOk (X:Cx) (op:Operator) (o:Bop):Prop where
 h:∃t:TIp,PIp X op t/\∀(xw:Nat->Hp->Prop) ρ S H n m Q,St3 X.K ρ S H->End X.K xw Rep ρ H Q (Ev.binop o (.int n) (.int m) S)->t (.int n) (.int m) H Q
theorem uT:AugOk X .Add .add:=⟨_,jD,λxw ρ S H n m Q st h=>⟨n,m,rfl,rfl,End.ok h st (Zp _)⟩⟩
theorem qM:AugOk X .Mult .mul:=⟨_,qS,λxw ρ S H n m Q st h=>by
 obtain⟨hc,h⟩:=End.guard h;exact⟨n,m,rfl,rfl,(Py _ _).mp hc,End.ok h st (Zp _)⟩⟩
theorem JU {op:Operator}{o:Bop}{n:Nat}{x:Str}(ho:AugOk X op o) (hN:X.N.Nodup) (he:CE X xw C e i) (hi:X.N[n]? = some x:=by rfl) (hx:L2.Loc X.env.scope x:=by first | exact Or.inl rfl | exact Or.inr rfl) (hf:X.fn x=true\/X.env.scope.names.lookup x=some .local:=by first | exact .inl rfl | exact .inr rfl) :
  CS X xw C (.AugAssign (.Name x p) op e pos) (.aug n o i):=by
 obtain⟨t,ht,hq⟩:=ho.h;refine PS.imp (Zcj hN hi hx he ht hf) λD σ H ⟨ρ,l,S,st,lr,h⟩=>?_
 obtain⟨d,hd,h1⟩:=Zx.ob (show Zx X.K xw ρ H D ((Ev.ob (l[n]?).join S).bind λx S=>(ev C i l S).bind λy S=>(Ev.augop o x y S).bind λz S=>.ok (.nx (l.set n (some z))) S) from h)
 have hd':l[n]? = some (some d):=by
  cases z:l[n]? with
  |none=>rw[z] at hd;cases hd
  |some oo=>rw[z] at hd;cases oo with
   |none=>cases hd
   |some w=>cases hd;rfl
 obtain⟨v,hv,rv⟩:=lr.val n d hd';refine⟨v,hv,ρ,l,S,st,lr,h1.bind λy S1 ρ1 H1 u f1 st1 r1 h2=>?_⟩
 cases d with
 |int m=>cases y with
  |int m'=>
   rw[rv.int',r1.int'];refine hq xw ρ1 S1 H1 m m' _ st1 ?_;exact Zx.bind (show Zx X.K xw ρ1 H1 D ((Ev.binop o (.int m) (.int m') S1).bind λz S=>.ok (.nx (l.set n (some z))) S) from h2) λz S2 ρ2 H2 w f2 st2 r2 h3=>Zx.nx h3 st2 (((lr.mono f1).mono f2).set n r2)
  |_=>exact False.elim h2
 |_=>exact False.elim h2
theorem Qm {body:List Stmt}(hp:PassesOwn (model X.prog X.w) X.A X.env X.xe) (hc:CT X xw C c k) (hb:CSs X xw C body ms):CS X xw C (.While c body [] pos) (.whl k ms):=PS.imp (uY hp hc hb) λD σ H ⟨ρ,l,S,st,lr,h⟩=>by
 refine⟨λm σ' H'=>∃ρ' l' S',St3 X.K ρ' S' H'/\LocR ρ' H' l' σ'/\Zx X.K xw ρ' H' D (Ev.YW (tst C k) (runs C ms) m l' S'),⟨Ev.Ve,ρ,l,S,st,lr,h⟩,?_⟩
 rintro m σ' H' ⟨ρ',l',S',st',lr',e'⟩
 cases m with
 |zero=>exact False.elim e'
 |succ m=>
  refine⟨ρ',l',S',st',lr',Zx.bind (show Zx X.K xw ρ' H' D ((tst C k l' S').bind λb S=>if b then (match runs C ms l' S with
   |.ok (.nx σ') S'=>Ev.YW (tst C k) (runs C ms) m σ' S'
   |.ok (.cnt σ') S'=>Ev.YW (tst C k) (runs C ms) m σ' S'
   |.ok (.brk σ') S'=>.ok (.nx σ') S'
   |.ok (.ret d) S'=>.ok (.ret d) S'
   |.ex c S'=>.ex c S'
   |.no=>.no) else .ok (.nx l') S) from e') λb S1 ρ1 H1 b' f1 st1 r1 h1=>?_⟩
  have eb:b=b':=r1;subst eb;cases b with
  |false=>
   rw[Pi Pu] at h1 ⊢;exact Zx.nx h1 st1 (lr'.mono f1)
  |true=>
   rw[Pg rfl] at h1 ⊢;refine⟨λσ2 H2=>∃ρ2 l2 S2,St3 X.K ρ2 S2 H2/\LocR ρ2 H2 l2 σ2/\Zx X.K xw ρ2 H2 D (Ev.YW (tst C k) (runs C ms) m l2 S2),λσ2 H2 w=>⟨m,Nat.lt_succ_self m,w⟩,ρ1,l',S1,st1,lr'.mono f1,?_⟩
   cases q:runs C ms l' S1 with
   |no=>rw[q] at h1;exact h1
   |ex c S2=>rw[q] at h1;exact h1
   |ok fl S2=>
    rw[q] at h1;cases fl with
    |nx l3=>exact λρ4 H4 σ4 f4 st4 lr4=>⟨ρ4,l3,S2,st4,lr4,Zx.mono f4 h1⟩
    |cnt l3=>exact λρ4 H4 σ4 f4 st4 lr4=>⟨ρ4,l3,S2,st4,lr4,Zx.mono f4 h1⟩
    |brk l3=>exact h1
    |ret d=>exact h1
end
end Sd
namespace Sd
open PySem PySem.Spec PyProof.Rows L2
def Src (b:Bool) (h:Heap) (it l:Addr) (k:Nat):Prop:=match b with
 |true=>h.IsListIter it l k
 |false=>h.IsTupleIter it l k
def YK (b:Bool) (h:Heap) (l:Addr) (xs:Array Value):Prop:=match b with
 |true=>h.IsList l xs
 |false=>h.IsTuple l xs
theorem Src.ext {b:Bool}{h h':Heap}{it l c:Addr}{k:Nat}(x:Src b h it l k) (e:Heap.ExtBut c h h') (n:it≠c):Src b h' it l k:=by
 cases b
 ·exact Heap.IsTupleIter.extBut x e n
 ·exact Heap.IsListIter.extBut x e n
theorem Src.keep {b:Bool}{h h':Heap}{it l:Addr}{k:Nat}(x:Src b h it l k) (e:∀o,h.get? it=some o->h'.get? it=some o):Src b h' it l k:=by
 cases b
 ·obtain⟨o,ho,r⟩:=x;exact⟨o,e o ho,r⟩
 ·obtain⟨o,ho,r⟩:=x;exact⟨o,e o ho,r⟩
theorem Src.obj {b:Bool}{h:Heap}{it l:Addr}{k:Nat}(x:Src b h it l k):∃o,h.get? it=some o/\∀v,o.data≠.cell v:=by
 cases b
 ·obtain⟨o,ho,_,d⟩:=x;exact⟨o,ho,λv z=>by rw[d] at z;cases z⟩
 ·obtain⟨o,ho,_,d⟩:=x;exact⟨o,ho,λv z=>by rw[d] at z;cases z⟩
theorem YK.keep {b:Bool}{h h':Heap}{l:Addr}{xs:Array Value}(x:YK b h l xs) (e:∀o,h.get? l=some o->h'.get? l=some o):YK b h' l xs:=by
 cases b
 ·obtain⟨o,ho,r⟩:=x;exact⟨o,e o ho,r⟩
 ·obtain⟨o,ho,r⟩:=x;exact⟨o,e o ho,r⟩
section
variable {prog:Program}{w:World}{A:Around}{E:Value->Shared->Prop}{s:Shared}
theorem jh {it t:Addr}{i:Nat}{items:Array Value}{x:Value}{Q:Value->Shared->Prop}(hit:s.heap.IsTupleIter it t i) (ht:s.heap.IsTuple t items) (hx:items[i]? = some x)
  (hQ:∀h',h'.IsTupleIter it t (i+1)->Heap.SameBut it s.heap h'->Q x { s with heap:=h' }):wpAny (model prog w) A (Builtin.SmallTypes.nextOf (.ref it)) Q E s:=by
 obtain⟨o,ho,hc,hd⟩:=id hit;obtain⟨ol,hol,_,nl,hdl⟩:=ht;unfold Builtin.SmallTypes.nextOf;refine Pa (NE (name:=Str.ofString "__next__") hit.typeIs N1 (NO N1 hit.typeIs F.entry_tuple_iterator_next ?_ (F.args_tuple_iterator_next_1 _)));show wpAny _ _ (field (.ref it) 0 >>= _) _ _ s;refine Pa (Nm ho hd (x:=.ref t) rfl ?_);show wpAny _ _ (if (Value.ref t == Value.none)=true then _ else _) _ _ s
 rw[Pi (show ¬((Value.ref t == Value.none)=true) by exact Pu)];show wpAny _ _ (field (.ref it) 1 >>= _) _ _ s;refine Pa (Nm ho hd (x:=.int i 0) rfl ?_)
 show wpAny _ _ (seqItems? (.ref t) >>= _) _ _ s;refine Pa (N2 hol hdl ?_);simp only[Int.toNat_natCast,hx];refine Pa (wpAny_setField ho hd (by simp) (Pl ⟨x,rfl,Pl (hQ _ ⟨_,Heap.get?_update_self _ ho (Obj.isFreed_of_fields (Obj.data_mapFields hd _)),(Obj.cls_mapFields ..).trans hc,?_⟩ (Heap.SameBut.update ..))⟩))
 rw[Obj.data_mapFields hd];simp[rawInt]
theorem Gr {it t:Addr}{i:Nat}{items:Array Value}{Q:Value->Shared->Prop}(hh:A.handled=none) (hit:s.heap.IsTupleIter it t i) (ht:s.heap.IsTuple t items) (hx:items[i]? = none)
  (hE:∀h' e,Heap.ExtBut it s.heap h'->(∃o,h'.get? e=some o/\o.cls=.type "StopIteration")->E (.ref e) { s with heap:=h' }):wpAny (model prog w) A (Builtin.SmallTypes.nextOf (.ref it)) Q E s:=by
 obtain⟨o,ho,hc,hd⟩:=id hit;obtain⟨ol,hol,_,nl,hdl⟩:=ht;unfold Builtin.SmallTypes.nextOf;refine Pa (NE (name:=Str.ofString "__next__") hit.typeIs N1 (NO N1 hit.typeIs F.entry_tuple_iterator_next ?_ (F.args_tuple_iterator_next_1 _)));show wpAny _ _ (field (.ref it) 0 >>= _) _ _ s;refine Pa (Nm ho hd (x:=.ref t) rfl ?_);show wpAny _ _ (if (Value.ref t == Value.none)=true then _ else _) _ _ s
 rw[Pi (show ¬((Value.ref t == Value.none)=true) by exact Pu)];show wpAny _ _ (field (.ref it) 1 >>= _) _ _ s;refine Pa (Nm ho hd (x:=.int i 0) rfl ?_)
 show wpAny _ _ (seqItems? (.ref t) >>= _) _ _ s;refine Pa (N2 hol hdl ?_);simp only[Int.toNat_natCast,hx];refine Pa (Kb (Pa (wpAny_setField ho hd (by simp) ?_)));show wpAny _ _ (newExc (.type "StopIteration") [] >>= _) _ _ _
 refine Pa ?_;simp only[newExc,newTuple];refine Pa (Nw ?_ (by size_fits))
 refine Pa (m:=firstArgMember _ _) (NZ (a:=Value.none) (by first | rfl | (simp only[firstArgMember];rfl)) (Nw ?_ (by size_fits)))
 simp only[raiseNew];refine Pa (wpAny_handled ?_);first | rw[show A.in1.handled=none from hh] | rw[hh]
 exact Pa (Pl (wpAny_throw (hE _ _ (((Heap.SameBut.update ..).extBut.push _).push _) ⟨_,Pz _ rfl,rfl⟩)))
theorem Vr {b:Bool}{it l:Addr}{k:Nat}{xs:Array Value}{x:Value}{Q:Value->Shared->Prop}(hit:Src b s.heap it l k) (hl:YK b s.heap l xs) (hx:xs[k]? = some x)
  (hQ:∀h',Src b h' it l (k+1)->Heap.SameBut it s.heap h'->Q x { s with heap:=h' }):wpAny (model prog w) A (Builtin.SmallTypes.nextOf (.ref it)) Q E s:=by
 cases b
 ·exact jh hit hl hx hQ
 ·exact wpAny_nextOf_list_item hit hl hx hQ
theorem Gb {b:Bool}{it l:Addr}{k:Nat}{xs:Array Value}{Q:Value->Shared->Prop}(hh:A.handled=none) (hit:Src b s.heap it l k) (hl:YK b s.heap l xs) (hx:xs[k]? = none)
  (hE:∀h' e,Heap.ExtBut it s.heap h'->(∃o,h'.get? e=some o/\o.cls=.type "StopIteration")->E (.ref e) { s with heap:=h' }):wpAny (model prog w) A (Builtin.SmallTypes.nextOf (.ref it)) Q E s:=by
 cases b
 ·exact Gr hh hit hl hx hE
 ·exact wpAny_nextOf_list_end hh hit hl hx hE
noncomputable def Yu (b:Bool) (l:Addr):Obj:={ cls:=.type (if b then "list_iterator" else "tuple_iterator"),data:=.fields #[.ref l,.int 0 0] }
theorem Qn {b:Bool}{l:Addr}{xs:Array Value}{Q:Value->Shared->Prop}(hl:YK b s.heap l xs) (h:Q (.ref s.heap.objs.size) { s with heap:=s.heap.push (Yu b l) }):wpAny (model prog w) A (pyIter (.ref l)) Q E s:=by
 cases b
 ·exact KI hl h
 ·exact KP hl h
structure ZipSt (b1 b2:Bool) (z TI TO i1 i2 l1 l2:Addr) (k:Nat) (f0:Value) (h:Heap):Prop where
 zp:IsZip h z TI TO f0
 ti:IsPair h TI (.ref i1) (.ref i2)
 to:∃a b,IsPair h TO a b
 s1:Src b1 h i1 l1 k
 s2:Src b2 h i2 l2 k
theorem uB {b1 b2:Bool}{z TI TO i1 i2 l1 l2:Addr}{k:Nat}{xs ys:Array Value}{x y:Value}{Q:Value->Shared->Prop}(D:ZipApart z TI TO i1 i2 l1 l2) (Z:ZipSt b1 b2 z TI TO i1 i2 l1 l2 k .none s.heap) (hl1:YK b1 s.heap l1 xs) (hl2:YK b2 s.heap l2 ys) (hx:xs[k]? = some x) (hy:ys[k]? = some y)
  (hQ:∀h',ZipSt b1 b2 z TI TO i1 i2 l1 l2 (k+1) (rawInt s.heap.objs.size) h'->IsPair h' s.heap.objs.size x y->(∀c o,c∉[z,TO,i1,i2]->s.heap.get? c=some o->h'.get? c=some o)->Q (.ref s.heap.objs.size) { s with heap:=h' }) :
  wpAny (model prog w) A (Builtin.«zip.__next__» ⟨[.ref z],[]⟩) (λfin s'=>∃v,fin=.done (.ret v)/\Q v s') E s:=by
 obtain⟨hz,hTI,⟨a,b,hTO⟩,h1,h2⟩:=Z;show wpAny _ _ (field (.ref z) 2 >>= _) _ _ _;refine Pa (Nm hz rfl (x:=.bool false) rfl ?_);show wpAny _ _ (field (.ref z) 3 >>= _) _ _ _;refine Pa (Nm hz rfl (x:=.ref TI) rfl (Pa (N2 hTI rfl ?_)));show wpAny _ _ (Builtin.SmallTypes.ownedTupleIsFree (.ref z) >>= _) _ _ _;refine Pa ?_;unfold Builtin.SmallTypes.ownedTupleIsFree;refine Pa (Nm hz rfl (x:=.none) rfl (Pl ?_));simp only[NS];refine Pa (Kb (Pa (Nm hz rfl (x:=.ref TO) rfl (Pa (N3 hz (by simp) λh₁ hz₁ hs₁=>?_)))))
 replace hz₁:IsZip h₁ z TI TO .ellipsis:=by exact hz₁
 refine Pa ?_;simp only[List.zipIdx_cons,List.zipIdx_nil,List.forIn_cons,List.forIn_nil];refine Pa (Pa (wpAny_onRaise ?_));show wpAny _ _ (Builtin.SmallTypes.nextOf (.ref i1) >>= _) _ _ _;refine Pa (Vr (h1.ext hs₁.extBut D.i1z) (hl1.keep λo e=>hs₁.extBut _ o D.l1z e) hx λh₂ h1₂ hs₂=>Pl ?_)
 have hTO₂:IsPair h₂ TO a b:=by exact hs₂.extBut _ _ D.TOi1 (hs₁.extBut _ _ D.TOz hTO)
 refine Pa (N2 hTO₂ rfl (Pa (K5 hTO₂ λh₃ hTO₃ hs₃=>?_)))
 replace hTO₃:IsPair h₃ TO x b:=by exact hTO₃
 refine Pa (wpAny_letGo (Pl (Pa (Pa (wpAny_onRaise ?_)))));show wpAny _ _ (Builtin.SmallTypes.nextOf (.ref i2) >>= _) _ _ _;have to3:∀c o,c≠z->c≠TO->c≠i1->s.heap.get? c=some o->h₃.get? c=some o:=λc o c1 c2 c3 e=>hs₃.extBut _ _ c2 (hs₂.extBut _ _ c3 (hs₁.extBut _ _ c1 e))
 refine Pa (Vr (h2.keep λo e=>to3 _ o D.i2z D.TOi2.symm D.i12.symm e) (hl2.keep λo e=>to3 _ o D.l2z D.l2TO D.l2i1 e) hy λh₄ h2₄ hs₄=>Pl ?_)
 have hTO₄:IsPair h₄ TO x b:=by exact hs₄.extBut _ _ D.TOi2 hTO₃
 refine Pa (N2 hTO₄ rfl (Pa (K5 hTO₄ λh₅ hTO₅ hs₅=>?_)))
 replace hTO₅:IsPair h₅ TO x y:=by exact hTO₅
 refine Pa (wpAny_letGo (Pl (Pl (Pa (N2 hTO₅ rfl (Pa (wpAny_newTuple ?_)))))));have hsz:h₅.objs.size=s.heap.objs.size:=by rw[hs₅.1,hs₄.1,hs₃.1,hs₂.1,hs₁.1]
 have to5:∀c o,c≠z->c≠TO->c≠i1->c≠i2->s.heap.get? c=some o->h₅.get? c=some o:=λc o c1 c2 c3 c4 e=>hs₅.extBut _ _ c2 (hs₄.extBut _ _ c4 (to3 c o c1 c2 c3 e))
 have hz₅:IsZip h₅ z TI TO .ellipsis:=by exact hs₅.extBut _ _ D.TOz.symm (hs₄.extBut _ _ D.i2z.symm (hs₃.extBut _ _ D.TOz.symm (hs₂.extBut _ _ D.i1z.symm hz₁)))
 have h1₅:Src b1 h₅ i1 l1 (k+1):=((h1₂.ext hs₃.extBut D.TOi1.symm).ext hs₄.extBut D.i12).ext hs₅.extBut D.TOi1.symm;have h2₅:Src b2 h₅ i2 l2 (k+1):=h2₄.ext hs₅.extBut D.TOi2.symm;have zl:z<h₅.objs.size:=Pw hz₅;show wpAny _ _ (Builtin.SmallTypes.ownedTupleHandOut (.ref z) (.ref h₅.objs.size) >>= _) _ _ _;refine Pa ?_;unfold Builtin.SmallTypes.ownedTupleHandOut;have hz₆:IsZip (h₅.push { cls:=.type "tuple",data:=.seq #[x,y] }) z TI TO .ellipsis:=by exact Ph _ hz₅
 refine Pa (N3 hz₆ (by simp) λh₇ hz₇ hs₇=>?_)
 replace hz₇:IsZip h₇ z TI TO (rawInt h₅.objs.size):=by exact hz₇
 refine N3 hz₇ (by simp) λh₈ hz₈ hs₈=>Pl ⟨_,rfl,?_⟩
 replace hz₈:IsZip h₈ z TI TO (rawInt h₅.objs.size):=by exact hz₈
 have up:∀c o,c≠z->h₅.get? c=some o->h₈.get? c=some o:=λc o c1 e=>by exact hs₈.extBut _ _ c1 (hs₇.extBut _ _ c1 (Ph _ e))
 have hT₈:IsPair h₈ h₅.objs.size x y:=by exact hs₈.extBut _ _ (Nat.ne_of_gt zl) (hs₇.extBut _ _ (Nat.ne_of_gt zl) (Pz _ rfl))
 show Q (.ref h₅.objs.size) _;rw[hsz] at hz₈ hT₈ ⊢;refine hQ h₈ ⟨hz₈,up _ _ D.TIz (to5 _ _ D.TIz D.TITO D.TIi1 D.TIi2 hTI),⟨x,y,up _ _ D.TOz hTO₅⟩,h1₅.keep λo e=>up _ o D.i1z e,h2₅.keep λo e=>up _ o D.i2z e⟩ hT₈ λc o hc e=>?_
 simp only[Pk,P4,Kq,not_or] at hc;exact up c o hc.1 (to5 c o hc.1 hc.2.1 hc.2.2.1 hc.2.2.2 e)
end
section
variable {prog:Program}{w:World}{A:Around}{E:Value->Shared->Prop}{s:Shared}
theorem QG {b1 b2:Bool}{z TI TO i1 i2 l1 l2:Addr}{k:Nat}{xs ys:Array Value}{Q:Fin->Shared->Prop}(hh:A.handled=none) (D:ZipApart z TI TO i1 i2 l1 l2) (Z:ZipSt b1 b2 z TI TO i1 i2 l1 l2 k .none s.heap) (hl1:YK b1 s.heap l1 xs) (hl2:YK b2 s.heap l2 ys) (hend:xs[k]? = none\/ys[k]? = none)
  (hE:∀h' e,(∀c o,c∉[z,TO,i1,i2]->s.heap.get? c=some o->h'.get? c=some o)->(∃o,h'.get? e=some o/\o.cls=.type "StopIteration")->E (.ref e) { s with heap:=h' }) :
  wpAny (model prog w) A (Builtin.«zip.__next__» ⟨[.ref z],[]⟩) Q E s:=by
 obtain⟨hz,hTI,⟨a,b,hTO⟩,h1,h2⟩:=Z;have hk:∀{c:Addr},c∉[z,TO,i1,i2]->c≠z/\c≠TO/\c≠i1/\c≠i2:=λhc=>by
  simp only[Pk,P4,Kq,not_or] at hc;exact hc
 show wpAny _ _ (field (.ref z) 2 >>= _) _ _ _;refine Pa (Nm hz rfl (x:=.bool false) rfl ?_);show wpAny _ _ (field (.ref z) 3 >>= _) _ _ _;refine Pa (Nm hz rfl (x:=.ref TI) rfl (Pa (N2 hTI rfl ?_)));show wpAny _ _ (Builtin.SmallTypes.ownedTupleIsFree (.ref z) >>= _) _ _ _;refine Pa ?_;unfold Builtin.SmallTypes.ownedTupleIsFree;refine Pa (Nm hz rfl (x:=.none) rfl (Pl ?_));simp only[NS];refine Pa (Kb (Pa (Nm hz rfl (x:=.ref TO) rfl (Pa (N3 hz (by simp) λh₁ hz₁ hs₁=>?_)))))
 replace hz₁:IsZip h₁ z TI TO .ellipsis:=by exact hz₁
 refine Pa ?_;simp only[List.zipIdx_cons,List.zipIdx_nil,List.forIn_cons,List.forIn_nil];refine Pa (Pa (wpAny_onRaise ?_));show wpAny _ _ (Builtin.SmallTypes.nextOf (.ref i1) >>= _) _ _ _;have l1₁:YK b1 h₁ l1 xs:=hl1.keep λo e=>hs₁.extBut _ o D.l1z e
 cases hx:xs[k]? with
 |none=>
  refine Pa (Gb hh (h1.ext hs₁.extBut D.i1z) l1₁ hx λh₂ e hs₂ he=>?_)
  obtain⟨oe,hoe,hce⟩:=he;have hz₂:IsZip h₂ z TI TO .ellipsis:=by exact hs₂ _ _ D.i1z.symm hz₁
  have hez:e≠z:=λx=>by subst x;rw[hz₂] at hoe;cases hoe;simp at hce
  exact N3 hz₂ (by simp) λh₃ _ hs₃=>hE h₃ e (λc o hc x=>hs₃.extBut _ _ (hk hc).1 (hs₂ _ _ (hk hc).2.2.1 (hs₁.extBut _ _ (hk hc).1 x))) ⟨oe,hs₃.extBut _ _ hez hoe,hce⟩
 |some x=>
  have hy:ys[k]? = none:=by rcases hend with q | q;rw[hx] at q;cases q;exact q
  refine Pa (Vr (h1.ext hs₁.extBut D.i1z) l1₁ hx λh₂ h1₂ hs₂=>Pl ?_)
  have hTO₂:IsPair h₂ TO a b:=by exact hs₂.extBut _ _ D.TOi1 (hs₁.extBut _ _ D.TOz hTO)
  refine Pa (N2 hTO₂ rfl (Pa (K5 hTO₂ λh₃ hTO₃ hs₃=>?_)))
  refine Pa (wpAny_letGo (Pl (Pa (Pa (wpAny_onRaise ?_)))));show wpAny _ _ (Builtin.SmallTypes.nextOf (.ref i2) >>= _) _ _ _;have to3:∀c o,c≠z->c≠TO->c≠i1->s.heap.get? c=some o->h₃.get? c=some o:=λc o c1 c2 c3 e=>hs₃.extBut _ _ c2 (hs₂.extBut _ _ c3 (hs₁.extBut _ _ c1 e))
  refine Pa (Gb hh (h2.keep λo e=>to3 _ o D.i2z D.TOi2.symm D.i12.symm e) (hl2.keep λo e=>to3 _ o D.l2z D.l2TO D.l2i1 e) hy λh₄ e hs₄ he=>?_)
  obtain⟨oe,hoe,hce⟩:=he;have hz₄:IsZip h₄ z TI TO .ellipsis:=by exact hs₄ _ _ D.i2z.symm (hs₃.extBut _ _ D.TOz.symm (hs₂.extBut _ _ D.i1z.symm hz₁))
  have hez:e≠z:=λx=>by subst x;rw[hz₄] at hoe;cases hoe;simp at hce
  exact N3 hz₄ (by simp) λh₅ _ hs₅=>hE h₅ e (λc o hc x=>hs₅.extBut _ _ (hk hc).1 (hs₄ _ _ (hk hc).2.2.2 (to3 c o (hk hc).1 (hk hc).2.1 (hk hc).2.2.1 x))) ⟨oe,hs₅.extBut _ _ hez hoe,hce⟩
theorem xh {b1 b2:Bool}{z TI TO i1 i2 l1 l2:Addr}{k:Nat}{xs ys:Array Value}{x y:Value}{Q:Option Value->Shared->Prop}(D:ZipApart z TI TO i1 i2 l1 l2) (Z:ZipSt b1 b2 z TI TO i1 i2 l1 l2 k .none s.heap) (hl1:YK b1 s.heap l1 xs) (hl2:YK b2 s.heap l2 ys) (hx:xs[k]? = some x) (hy:ys[k]? = some y)
  (hQ:∀h',ZipSt b1 b2 z TI TO i1 i2 l1 l2 (k+1) (rawInt s.heap.objs.size) h'->IsPair h' s.heap.objs.size x y->(∀c o,c∉[z,TO,i1,i2]->s.heap.get? c=some o->h'.get? c=some o)->Q (some (.ref s.heap.objs.size)) { s with heap:=h' }) :
  wpAny (model prog w) A (pyNext (.ref z)) Q E s:=by
 have hT:s.TypeIs (.ref z) "zip":=⟨_,Z.zp,rfl⟩;unfold pyNext;exact Pa (wpAny_attempt (NE (name:=Str.ofString "__next__") hT Ta (NO Ta hT F.entry_zip_next (uB D Z hl1 hl2 hx hy λh' a1 a2 a3=>Pl (hQ h' a1 a2 a3)) (F.args_zip_next_1 _))))
theorem Qo {b1 b2:Bool}{z TI TO i1 i2 l1 l2:Addr}{k:Nat}{xs ys:Array Value}{Q:Option Value->Shared->Prop}(hh:A.handled=none) (D:ZipApart z TI TO i1 i2 l1 l2) (Z:ZipSt b1 b2 z TI TO i1 i2 l1 l2 k .none s.heap) (hl1:YK b1 s.heap l1 xs) (hl2:YK b2 s.heap l2 ys) (hend:xs[k]? = none\/ys[k]? = none)
  (hQ:∀h',(∀c o,c∉[z,TO,i1,i2]->s.heap.get? c=some o->h'.get? c=some o)->Q none { s with heap:=h' }):wpAny (model prog w) A (pyNext (.ref z)) Q E s:=by
 have hT:s.TypeIs (.ref z) "zip":=⟨_,Z.zp,rfl⟩;unfold pyNext;refine Pa (wpAny_attempt (NE (name:=Str.ofString "__next__") hT Ta (NO Ta hT F.entry_zip_next (QG hh D Z hl1 hl2 hend λh' e hk he=>?_) (F.args_zip_next_1 _))))
 obtain⟨o,ho,hc⟩:=he;exact Pa (wpAny_isInstance (T:="StopIteration") (b:=true) ⟨o,ho,hc⟩ isSubtype_stop (Pl (hQ _ hk)))
noncomputable def zH1 (h:Heap) (b1:Bool) (l1:Addr):Heap:=h.push (Yu b1 l1)
noncomputable def zH2 (h:Heap) (b1 b2:Bool) (l1 l2:Addr):Heap:=(zH1 h b1 l1).push (Yu b2 l2)
noncomputable def zH3 (h:Heap) (b1 b2:Bool) (l1 l2:Addr):Heap:=(zH2 h b1 b2 l1 l2).push { cls:=.type "tuple",data:=.seq #[.ref h.objs.size,.ref (zH1 h b1 l1).objs.size] }
noncomputable def zH4 (h:Heap) (b1 b2:Bool) (l1 l2:Addr):Heap:=(zH3 h b1 b2 l1 l2).push { cls:=.type "tuple",data:=.seq #[.none,.none] }
noncomputable def zH5 (h:Heap) (b1 b2:Bool) (l1 l2:Addr):Heap:=(zH4 h b1 b2 l1 l2).push { cls:=.type "zip",data:=.fields #[.none,.bool false,.bool false,.ref (zH2 h b1 b2 l1 l2).objs.size,.ref (zH3 h b1 b2 l1 l2).objs.size] }
theorem jG (b1 b2:Bool) (l1 l2:Addr) (xs ys:Array Value) :
  Meets (Builtin.«zip.__new__» ⟨[.type "zip",.ref l1,.ref l2],[]⟩) (λ_ R s=>YK b1 s.heap l1 xs/\YK b2 s.heap l2 ys/\R (.ok (.ret (.ref (zH4 s.heap b1 b2 l1 l2).objs.size))) { s with heap:=zH5 s.heap b1 b2 l1 l2 }):=
 .of_wp λprog w A R s h=>by
  obtain⟨hp,g,d,tk,os⟩:=s;obtain⟨hl1,hl2,h⟩:=h;have hsub:=sub_zip;have hL1:YK b1 (Shared.heap ⟨hp,g,d,tk,os⟩) l1 xs:=hl1;have hL2:YK b2 (Shared.heap ⟨hp.push (Yu b1 l1),g,d,tk,os⟩) l2 ys:=hl2.keep λo e=>Ph _ e
  wp_walk using Qn hL1,Qn hL2
  exact⟨_,rfl,h⟩
theorem uC {b1 b2:Bool}{l1 l2:Addr}{xs ys:Array Value}{Q:Value->Shared->Prop}(hl1:YK b1 s.heap l1 xs) (hl2:YK b2 s.heap l2 ys)
  (h:∀h' n,n=s.heap.objs.size->ZipSt b1 b2 (n+4) (n+2) (n+3) n (n+1) l1 l2 0 .none h'->(∀c o,s.heap.get? c=some o->h'.get? c=some o)->Q (.ref (n+4)) { s with heap:=h' }) :
  wpAny (model prog w) A (call (.type "zip") [.ref l1,.ref l2]) Q E s:=by
 refine callType_new F.called_zip (by decide) (F.typeCall_zip_2 _ _) (F.newCall_zip_2 _ _) (λobj=>F.args_object_init_3 obj _ _) F.entry_zip_new (jG b1 b2 l1 l2 xs ys) ⟨hl1,hl2,?_⟩
 have z1:(zH1 s.heap b1 l1).objs.size=s.heap.objs.size+1:=Kr ..;have z2:(zH2 s.heap b1 b2 l1 l2).objs.size=s.heap.objs.size+2:=by unfold zH2;rw[Kr,z1]
 have z3:(zH3 s.heap b1 b2 l1 l2).objs.size=s.heap.objs.size+3:=by unfold zH3;rw[Kr,z2]
 have z4:(zH4 s.heap b1 b2 l1 l2).objs.size=s.heap.objs.size+4:=by unfold zH4;rw[Kr,z3]
 have g5:(zH5 s.heap b1 b2 l1 l2).get? (zH4 s.heap b1 b2 l1 l2).objs.size=some { cls:=.type "zip",data:=.fields #[.none,.bool false,.bool false,.ref (zH2 s.heap b1 b2 l1 l2).objs.size,.ref (zH3 s.heap b1 b2 l1 l2).objs.size] }:=Pz _ rfl;have k4:∀c o,(zH4 s.heap b1 b2 l1 l2).get? c=some o->(zH5 s.heap b1 b2 l1 l2).get? c=some o:=λc o e=>Ph _ e
 have k3:∀c o,(zH3 s.heap b1 b2 l1 l2).get? c=some o->(zH5 s.heap b1 b2 l1 l2).get? c=some o:=λc o e=>k4 c o (Ph _ e)
 have k2:∀c o,(zH2 s.heap b1 b2 l1 l2).get? c=some o->(zH5 s.heap b1 b2 l1 l2).get? c=some o:=λc o e=>k3 c o (Ph _ e)
 have k1:∀c o,(zH1 s.heap b1 l1).get? c=some o->(zH5 s.heap b1 b2 l1 l2).get? c=some o:=λc o e=>k2 c o (Ph _ e)
 have g4:=k4 _ _ (Pz (zH3 s.heap b1 b2 l1 l2) (o:={ cls:=.type "tuple",data:=.seq #[.none,.none] }) rfl);have g3:=k3 _ _ (Pz (zH2 s.heap b1 b2 l1 l2) (o:={ cls:=.type "tuple",data:=.seq #[.ref s.heap.objs.size,.ref (zH1 s.heap b1 l1).objs.size] }) rfl);have g2:=k2 _ _ (Pz (zH1 s.heap b1 l1) (o:=Yu b2 l2) rfl);have g1:=k1 _ _ (Pz s.heap (o:=Yu b1 l1) rfl);rw[z2,z3,z4] at g5;rw[z1,z2] at g3;rw[z3] at g4;rw[z1] at g2;rw[z4];have src:∀b l it,(zH5 s.heap b1 b2 l1 l2).get? it=some (Yu b l)->Src b (zH5 s.heap b1 b2 l1 l2) it l 0:=λb l it e=>by
  cases b
  ·exact⟨_,e,rfl,rfl⟩
  ·exact⟨_,e,rfl,rfl⟩
 exact⟨⟨_,g5,rfl⟩,h _ _ rfl ⟨g5,g3,⟨_,_,g4⟩,src b1 l1 _ g1,src b2 l2 _ g2⟩ λc o e=>k1 c o (Ph _ e)⟩
end
end Sd
namespace Sd
open PySem PySem.Spec PyProof.Rows L2
open Ev (D Ob Store Lc R E Sm Calls Walk Fl Fn Bop Cop Ty Bf Mf ev evs evo evt evw tst run runs)
theorem Wo {X:Cx}{pq:List (Addr×Obj)}{σ:L2.St}{H:Hp}{s:Shared}{h':Heap}{t':Nat}{ch:List Addr}(I:Inv X pq σ H s) (k:∀b o,b∉ch->s.heap.get? b=some o->h'.get? b=some o) (hf:∀b∈ch,Vo X pq H b):Inv X pq σ H { s with heap:=h',toks:=t' }:=by
 have nit:∀b u,H b=some u->b∉ch:=λb u e z=>by have:=(hf b z).1;rw[e] at this;cases this
 refine I.step (g':=s.gens) (d':=s.drawn) (ch:=ch) (λb hb=>?_) (λb o _ _ hc e _=>k b o hc e) (λb o _ _ hc e _=>⟨o.slots,k b o hc e⟩) (λ_ _ _ _ n=>n) (λb o hc e=>⟨o,k b o hc e⟩) (λ_ _ e=>e) (λ_ _ _ e=>e) (λb ps e=>⟨#[],by rw[e];simp⟩) (λm hm=>?_) (λb u e=>?_) I.bare
 ·exact⟨(hf b hb).2.2.2.1,(hf b hb).2.1,(hf b hb).2.2.2.2.1,(hf b hb).2.2.2.2.2⟩
 ·obtain⟨o,es,ep,ho,r⟩:=hm
  exact⟨o,es,ep,k _ o (λz=>(hf _ z).2.1 rfl) ho,r⟩
 ·refine (I.hok b u e).stay (λc v hc q=>k c v ?_ q) (λ_ q=>q) λ_ _ q=>q
  rcases hc with z | z
  ·rw[z];exact nit b u e
  ·exact nit c _ z
theorem Js {h:Heap}{o o':Obj}{b:Addr}(e:(h.push o').get? b=some o) (n:b≠h.objs.size):h.get? b=some o:=by
 unfold Heap.get? Heap.push at *;simp only[Array.getElem?_push] at e;rw[Pi n] at e;exact e
theorem X9 {a b:Nat}(h:a<b\/b<a):(a:Addr)≠b:=λe=>by
 have e':(a:Nat)=b:=e;omega
def Sq (b:Bool) (K:PySem.W.Frag) (H:Hp) (l:Addr) (xs:List V):Prop:=match b with
 |true=>SqL K H l xs
 |false=>SqT K H l xs
section
variable {X:Cx}{pq:List (Addr×Obj)}{σ:L2.St}{H:Hp}{s:Shared}
theorem Xi (I:Inv X pq σ H s) {b:Bool}{l:Addr}{xs:List V}(h:Sq b X.K H l xs):∃its:List Value,Vals xs its/\YK b s.heap l its.toArray:=by
 cases b
 ·obtain⟨its,r,p,_⟩:=I.tuple h;exact⟨its,r,p⟩
 ·obtain⟨its,r,p,_⟩:=I.list h;exact⟨its,r,p.isList⟩
theorem yx (I:Inv X pq σ H s) {b:Bool}{l:Addr}{xs ys:List V}(h:Sq b X.K H l xs) (h':Sq b X.K H l ys):xs=ys:=by
 cases b
 ·exact I.tuple_inj h h'
 ·exact I.list_inj h h'
theorem Uq {b:Bool}{h:Heap}{l:Addr}{xs:Array Value}(x:YK b h l xs):l<h.objs.size:=by
 cases b
 ·obtain⟨o,ho,_⟩:=x;exact Pw ho
 ·obtain⟨o,ho,_⟩:=x;exact Pw ho
end
noncomputable def Itz (K:PySem.W.Frag) (b1 b2:Bool) (l1 l2:Addr):It:=
 ⟨λi H=>∃xs ys x y,Sq b1 K H l1 xs/\Sq b2 K H l2 ys/\xs[i]? = some x/\ys[i]? = some y,
  λi H v H'=>∃T x y,(∀xs,Sq b1 K H l1 xs->xs[i]? = some x)/\(∀ys,Sq b2 K H l2 ys->ys[i]? = some y)/\H T=none/\H'=upd H T (.tup [x,y])/\v=.ref T,
  λi H=>∃xs ys,Sq b1 K H l1 xs/\Sq b2 K H l2 ys/\(xs.length<=i\/ys.length<=i)⟩
theorem jo {P:Program}{w:World}{K:PySem.W.Frag}{elts:List Expr}{kk:Nat}{tp:Pos}{b1 b2:Bool}{z TI TO i1 i2 l1 l2:Addr}(D:ZipApart z TI TO i1 i2 l1 l2) :
  Turn P w K (.Tuple elts kk tp) (Itz K b1 b2 l1 l2) [z,TI,TO,i1,i2] z (λi h=>ZipSt b1 b2 z TI TO i1 i2 l1 l2 i .none h) where
 mem:=by simp
 obj:=λi h st b hb=>by
  simp only[Pk,P4,Kq] at hb;obtain⟨a,c,hTO⟩:=st.to;rcases hb with e | e | e | e | e <;> subst e
  ·exact⟨_,st.zp,λv q=>by cases q⟩
  ·exact⟨_,st.ti,λv q=>by cases q⟩
  ·exact⟨_,hTO,λv q=>by cases q⟩
  ·exact st.s1.obj
  ·exact st.s2.obj
 keep:=λi h h' st k=>by
  obtain⟨a,c,hTO⟩:=st.to;exact⟨k z (by simp) _ st.zp,k TI (by simp) _ st.ti,⟨a,c,k TO (by simp) _ hTO⟩,st.s1.keep λo e=>k i1 (by simp) o e,st.s2.keep λo e=>k i2 (by simp) o e⟩
 item:=by
  intro X hP hw hK hc i pq s σ H E I hf st hg;subst hP hw hK;obtain⟨xs,ys,x,y,hq1,hq2,hx,hy⟩:=hg;obtain⟨its,rv,o1⟩:=Xi I hq1;obtain⟨its2,rv2,o2⟩:=Xi I hq2;obtain⟨u,hu,ru⟩:=rv.get hx;obtain⟨u2,hu2,ru2⟩:=rv2.get hy;refine xh D st o1 o2 (x:=u) (y:=u2) (by simpa using hu) (by simpa using hu2) λh' Z' hT hk=>?_
  have hfree:H s.heap.objs.size=none:=I.hok.fresh (Pp _);have ltz:∀b∈[z,TI,TO,i1,i2],b≠s.heap.objs.size:=λb hb e=>by
   simp only[Pk,P4,Kq] at hb;obtain⟨a,c,hTO⟩:=st.to;rcases hb with q | q | q | q | q <;> subst q
   ·exact absurd (Pw st.zp) (by rw[e];exact P2 _)
   ·exact absurd (Pw st.ti) (by rw[e];exact P2 _)
   ·exact absurd (Pw hTO) (by rw[e];exact P2 _)
   ·obtain⟨o,ho,_⟩:=st.s1.obj;exact absurd (Pw ho) (by rw[e];exact P2 _)
   ·obtain⟨o,ho,_⟩:=st.s2.obj;exact absurd (Pw ho) (by rw[e];exact P2 _)
  have IA:Inv X pq σ (upd H s.heap.objs.size (.tup [x,y])) { s with heap:=s.heap.push { cls:=.type "tuple",data:=.seq [u,u2].toArray },toks:=s.toks }:=
   I.laid (λb o e=>Ph _ e) (Pp _) ⟨by show 2<=sizeLine;decide,[u,u2],.cons ru (.cons ru2 .nil),Tg _ _⟩
  have hf2:∀b∈[z,TI,TO,i1,i2],Vo X pq (upd H s.heap.objs.size (.tup [x,y])) b:=λb hb=>⟨by rw[ZI (ltz b hb)];exact (hf b hb).1,(hf b hb).2⟩
  have IB:Inv X pq σ (upd H s.heap.objs.size (.tup [x,y])) { s with heap:=h',toks:=s.toks }:=by
   refine Wo (s:={ s with heap:=s.heap.push { cls:=.type "tuple",data:=.seq [u,u2].toArray },toks:=s.toks }) (ch:=[z,TO,i1,i2]) IA (λb o hb e=>?_) λb hb=>hf2 b (by simp only[Pk,P4,Kq] at hb ⊢;rcases hb with q | q | q | q <;> simp[q])
   by_cases hbs:b=s.heap.objs.size
   ·subst hbs
    have e':(s.heap.push { cls:=.type "tuple",data:=.seq [u,u2].toArray }).get? s.heap.objs.size=some o:=e;rw[Pz _ rfl] at e';cases e';exact hT
   ·refine hk b o hb ?_
    have e':(s.heap.push { cls:=.type "tuple",data:=.seq [u,u2].toArray }).get? b=some o:=e;have hlt:=Pw e';rw[Kr] at hlt;exact Js e' hbs
  refine⟨.ref s.heap.objs.size,rfl,wpAny_letOwnedTupleGo_zip (s:={ s with heap:=h' }) Z'.zp λh2 hz2 hs2=>?_⟩
  have IC:Inv X pq σ (upd H s.heap.objs.size (.tup [x,y])) { s with heap:=h2,toks:=s.toks }:=Wo (s:={ s with heap:=h',toks:=s.toks }) (ch:=[z]) IB (λb o hb e=>(hs2.2 b (by simpa using hb)).trans e) λb hb=>hf2 b (by simp only[PF] at hb;simp[hb])
  obtain⟨a,c,hTO⟩:=Z'.to;refine⟨.ref s.heap.objs.size,_,IC,rfl,⟨_,x,y,λzs hz=>by rw[yx I hz hq1];exact hx,λzs hz=>by rw[yx I hz hq2];exact hy,hfree,rfl,rfl⟩,?_,λb hb=>(hf2 b hb).1⟩
  exact⟨hz2,hs2.extBut _ _ D.TIz Z'.ti,⟨a,c,hs2.extBut _ _ D.TOz hTO⟩,Z'.s1.ext hs2.extBut D.i1z,Z'.s2.ext hs2.extBut D.i2z⟩
 done:=by
  intro X hP hw hK hc i pq s σ H E I hf st hg;subst hP hw hK;obtain⟨xs,ys,hq1,hq2,hend⟩:=hg;obtain⟨its,rv,o1⟩:=Xi I hq1;obtain⟨its2,rv2,o2⟩:=Xi I hq2;have e1:=rv.length;have e2:=rv2.length;refine Qo (I.ok.hd hc) D st o1 o2 (by rcases hend with q | q;exact .inl (by simp;omega);exact .inr (by simp;omega)) λh' hk=>⟨rfl,Wo (t':=s.toks) (ch:=[z,TO,i1,i2]) I (λb o hb e=>hk b o hb e) λb hb=>hf b (by simp only[Pk,P4,Kq] at hb ⊢;rcases hb with q | q | q | q <;> simp[q])⟩
 self:=λ_ _ _ _ _ st h=>wpAny_pyIter_zip st.zp h
section
variable {X:Cx}{elts:List Expr}{kk:Nat}{tp:Pos}
def Zdj (K:PySem.W.Frag) (ta:TA):TI:=λσ H R=>ta σ H λvs H1=>∃b1 b2 l1 l2,vs=[.ref l1,.ref l2]/\(∃xs,Sq b1 K H1 l1 xs)/\(∃ys,Sq b2 K H1 l2 ys)/\R (Itz K b1 b2 l1 l2) H1
theorem Zcl {a b:Expr}{ta:TA}{p pos:Pos}(hg:Gl X "zip") (hm:X.mg "zip" = none) (ha:PA X [a,b] ta) (hs:starEach [a,b] X.env=[(false,eval a X.env),(false,eval b X.env)]:=by rfl) (hs2:starEach [b] X.env=[(false,eval b X.env)]:=by rfl) :
  PI X (.Tuple elts kk tp) (.Call (.Name "zip" p) [a,b] [] pos) (Zdj X.K ta):=by
 intro pq s σ H R I h;refine Call_ (Xl I hg hm (by rfl) (Ng (thn (ha pos pq s σ H _ I h) λus s1 ⟨vs,H1,I1,r1,q1⟩=>?_) (by rw[hs,hs2]) (by rw[hs2];rfl)))
 obtain⟨b1,b2,l1,l2,e,⟨xs,hq1⟩,⟨ys,hq2⟩,q⟩:=q1;subst e;cases r1 with
 |cons r rr=>
  cases rr with
  |cons r' rr=>
   cases rr;cases r;cases r';obtain⟨its,rv,o1⟩:=Xi I1 hq1;obtain⟨its2,rv2,o2⟩:=Xi I1 hq2;have lt1:=Uq o1;have lt2:=Uq o2;refine uC o1 o2 λh' n hn Z hk=>?_
   have I2:Inv X pq σ H1 { s1 with heap:=h' }:=I1.kept (t':=s1.toks) hk
   have q1:(l1:Nat)<n:=by rw[hn];exact lt1
   have q2:(l2:Nat)<n:=by rw[hn];exact lt2
   have D:ZipApart (n+4) (n+2) (n+3) n (n+1) l1 l2:=by constructor <;> first | exact X9 (by omega) | exact X9 (.inl (PL q1 (Kg n _))) | exact X9 (.inl (PL q2 (Kg n _))) | exact X9 (.inl q1) | exact X9 (.inl q2)
   refine wpAny_pyIter_zip (s:={ s1 with heap:=h' }) Z.zp ⟨n+4,[n+4,n+2,n+3,n,n+1],_,_,H1,rfl,I2,jo D,Z,λb hb=>?_,q⟩
   have hbn:s1.heap.objs.size<=b:=by
    rw[<-hn];simp only[Pk,P4,Kq] at hb;rcases hb with e | e | e | e | e <;> rw[e]
    ·exact Kg n 4
    ·exact Kg n 2
    ·exact Kg n 3
    ·exact Pp n
    ·exact Kg n 1
   exact I1.fpOk hbn (I1.hok.fresh hbn)
end
def Side (K:PySem.W.Frag) (ρ:List Addr) (H:Hp) (wk:Walk) (b:Bool) (l:Addr):Prop:=∀ρ' S' H',Fut ρ H ρ' H'->St3 K ρ' S' H'->wk.still S'=true->∃vs,Sq b K H' l vs/\Rq ρ' H' wk.items vs
theorem JI {K:PySem.W.Frag}{ρ:List Addr}{S:Store}{H:Hp}{x:D}{v:V}{wk:Walk}(st:St3 K ρ S H) (r:Rep ρ H x v) (h:Ev.Yk S x=some wk):∃b l,v=.ref l/\(∃xs,Sq b K H l xs)/\Side K ρ H wk b l:=by
 cases x with
 |tup ds=>
  obtain⟨a,xs,rfl,hp,rs⟩:=r.tup';cases h;exact⟨false,a,rfl,⟨xs,SqT.of hp⟩,λρ' S' H' f _ _=>⟨xs,SqT.of (f.tup a xs hp),rs.mono f⟩⟩
 |loc n=>
  obtain⟨a,rfl,hp⟩:=r.loc';have h':(match S[n]? with
   |some (.lst xs)=>some (Walk.mk xs [(n,xs)])
   |_=>none)=some wk:=h
  cases q:S[n]? with
  |none=>rw[q] at h';cases h'
  |some o=>
   rw[q] at h';cases o with
   |lst ds=>
    cases h';obtain⟨a',ha,xs,hx,rs⟩:=st.at q;rw[hp] at ha;cases ha;refine⟨true,a,rfl,⟨xs,SqL.of hx⟩,λρ' S' H' f st' hs=>?_⟩
    have hn:S'[n]? = some (.lst ds):=by simpa [Walk.still] using hs
    obtain⟨a',ha,xs',hx',rs'⟩:=st'.at hn;rw[f.at hp] at ha;cases ha;exact⟨xs',SqL.of hx',rs'⟩
   |_=>cases h'
 |_=>cases h
theorem qW {K:PySem.W.Frag}{ρ:List Addr}{H:Hp}{v w:Walk}{b1 b2:Bool}{l1 l2:Addr}(h1:Side K ρ H v b1 l1) (h2:Side K ρ H w b2 l2):WRel K ρ H ⟨(v.items.zip w.items).map λp=>.tup [p.1,p.2],v.kept++w.kept⟩ (Itz K b1 b2 l1 l2) where
 go:=λi ρ' S' H' f st hs hi=>by
  have hs':v.still S'=true/\w.still S'=true:=by
   have:(v.kept++w.kept).all (λp=>decide (S'[p.1]? = some (.lst p.2)))=true:=hs
   rw[List.all_append,Py] at this;exact this
  obtain⟨xs,q1,r1⟩:=h1 ρ' S' H' f st hs'.1;obtain⟨ys,q2,r2⟩:=h2 ρ' S' H' f st hs'.2;have hi':i<min v.items.length w.items.length:=by simpa using hi
  obtain⟨x,g1,rx⟩:=r1.get (Pc (show i<v.items.length by omega))
  obtain⟨y,g2,ry⟩:=r2.get (Pc (show i<w.items.length by omega))
  refine⟨⟨xs,ys,x,y,q1,q2,g1,g2⟩,λu H'' ⟨T,x',y',e1,e2,hT,eH,eu⟩=>?_⟩
  subst eH eu;have ex:=(e1 xs q1).symm.trans g1;have ey:=(e2 ys q2).symm.trans g2;cases ex;cases ey;refine⟨Yg hT,st.fresh hT,λd hd=>?_⟩
  have hd':((v.items.zip w.items).map λp=>D.tup [p.1,p.2])[i]? = some d:=hd
  have hz:(v.items.zip w.items)[i]? = some (v.items[i],w.items[i]):=List.getElem?_zip_eq_some.mpr ⟨Pc (show i<v.items.length by omega),Pc (show i<w.items.length by omega)⟩
  rw[PH,hz] at hd';cases hd';exact ZS Yj (Rq.cons (rx.mono (Yg hT)) (Rq.cons (ry.mono (Yg hT)) Rq.nil))
 stop:=λρ' S' H' f st hs=>by
  have hs':v.still S'=true/\w.still S'=true:=by
   have:(v.kept++w.kept).all (λp=>decide (S'[p.1]? = some (.lst p.2)))=true:=hs
   rw[List.all_append,Py] at this;exact this
  obtain⟨xs,q1,r1⟩:=h1 ρ' S' H' f st hs'.1;obtain⟨ys,q2,r2⟩:=h2 ρ' S' H' f st hs'.2;refine⟨xs,ys,q1,q2,?_⟩;show xs.length<=((v.items.zip w.items).map λp=>D.tup [p.1,p.2]).length\/_
  rw[r1.length,r2.length,Pj,NV];omega
section
variable {X:Cx}{xw:Nat->Hp->Prop}{C:Calls}{a b:Expr}{i j:E}{pos p tp:Pos}{elts:List Expr}{kk:Nat}
noncomputable def ZaS (x y:D) (S:Store):R Walk:=match Ev.Yk S x,Ev.Yk S y with
 |some v,some w=>.ok ⟨(v.items.zip w.items).map λp=>.tup [p.1,p.2],v.kept++w.kept⟩ S
 |_,_=>.no
theorem ye (hm:X.mg "zip" = none) (ha:CA X xw C [a,b] [i,j]) (hg:Gl X "zip":=by rfl) (hs:starEach [a,b] X.env=[(false,eval a X.env),(false,eval b X.env)]:=by rfl) (hs2:starEach [b] X.env=[(false,eval b X.env)]:=by rfl) :
  CW X xw C (.Tuple elts kk tp) (.Call (.Name "zip" p) [a,b] [] pos) (.zip i j):=
 PI.imp (Zcl hg hm ha hs hs2) λσ H Q ⟨ρ,l,S,st,lr,h⟩=>by
  refine⟨ρ,l,S,st,lr,?_⟩;show End X.K xw Rq ρ H _ ((ev C i l S).bind λx S=>((ev C j l S).bind λy S=>(Ev.R.ok [] S).bind λxs S=>.ok (y::xs) S).bind λxs S=>.ok (x::xs) S)
  have h':End X.K xw (WRel X.K) ρ H Q ((ev C i l S).bind λx S=>(ev C j l S).bind λy S=>ZaS x y S):=h
  cases q:ev C i l S with
  |no=>rw[q] at h';exact h'
  |ex c S1=>rw[q] at h';exact h'
  |ok x S1=>
   rw[q] at h';have h2:End X.K xw (WRel X.K) ρ H Q ((ev C j l S1).bind λy S=>ZaS x y S):=h'
   show End X.K xw Rq ρ H _ (((ev C j l S1).bind λy S=>(Ev.R.ok [] S).bind λxs S=>.ok (y::xs) S).bind λxs S=>.ok (x::xs) S)
   cases q2:ev C j l S1 with
   |no=>rw[q2] at h2;exact h2
   |ex c S2=>rw[q2] at h2;exact h2
   |ok y S2=>
    rw[q2] at h2;intro ρ1 H1 vs f1 st1 r1;obtain⟨v,u,rfl,rv,ru⟩:=reps2 r1;have h3:End X.K xw (WRel X.K) ρ1 H1 Q (ZaS x y S2):=End.mono f1 h2;unfold ZaS at h3;cases e1:Ev.Yk S2 x with
    |none=>rw[e1] at h3;exact False.elim h3
    |some v1=>
     cases e2:Ev.Yk S2 y with
     |none=>rw[e1,e2] at h3;exact False.elim h3
     |some v2=>
      rw[e1,e2] at h3;obtain⟨b1,l1,rfl,s1,d1⟩:=JI st1 rv e1;obtain⟨b2,l2,rfl,s2,d2⟩:=JI st1 ru e2;exact⟨b1,b2,l1,l2,rfl,s1,s2,End.ok (rep:=WRel X.K) h3 st1 (qW d1 d2)⟩
end
theorem Q2 {prog:Program}{w:World}{A:Around}(hh:A.handled=none) (b:Bool) (it l:Addr) (hne:l≠it) (xs:Array Value) :
  Draws prog w A it [it,l] xs.size (λi v=>xs[i]? = some v) (λi h=>Src b h it l i/\YK b h l xs) where
 live:=λ_ _ st=>let ⟨o,ho,_⟩:=st.1.obj;⟨o,ho⟩
 frame:=λ_ _ _ st hk=>⟨st.1.keep λo e=>hk it (by simp) o e,st.2.keep λo e=>hk l (by simp) o e⟩
 item:=λi s Q E hi st hQ=>Vr st.1 st.2 (x:=xs[i]) (Array.getElem?_eq_getElem hi) λh' hit' hs'=>hQ _ h' s.toks (Array.getElem?_eq_getElem hi) ⟨hit',st.2.keep λo e=>hs'.extBut _ o hne e⟩ hs'
 done:=λs Q E st hE=>Gb hh st.1 st.2 (Array.getElem?_eq_none (Pp _)) hE
noncomputable def Ite (K:PySem.W.Frag) (b:Bool) (l:Addr):It:=
 ⟨λi H=>∃xs x,Sq b K H l xs/\xs[i]? = some x,
  λi H v H'=>∃T x,(∀xs,Sq b K H l xs->xs[i]? = some x)/\H T=none/\H'=upd H T (.tup [.int i,x])/\v=.ref T,
  λi H=>∃xs,Sq b K H l xs/\xs.length=i⟩
theorem vp {P:Program}{w:World}{K:PySem.W.Frag}{elts:List Expr}{kk:Nat}{tp:Pos}{b:Bool}{e it l:Addr}(hei:e≠it) (hle:l≠e) (hli:l≠it) :
  Turn P w K (.Tuple elts kk tp) (Ite K b l) [e,it] e (λi h=>(∃old,IsEnum h e it i old)/\Src b h it l i) where
 mem:=by simp
 obj:=λi h st c hc=>by
  simp only[Pk,P4,Kq] at hc;obtain⟨⟨old,he⟩,hs⟩:=st;rcases hc with q | q <;> subst q
  ·exact⟨_,he,λv q=>by cases q⟩
  ·exact hs.obj
 keep:=λi h h' st k=>by
  obtain⟨⟨old,he⟩,hs⟩:=st;exact⟨⟨old,k e (by simp) _ he⟩,hs.keep λo q=>k it (by simp) o q⟩
 item:=by
  intro X hP hw hK hc i pq s σ H E I hf st hg;subst hP hw hK;obtain⟨xs,x,hq,hx⟩:=hg;obtain⟨its,rv,o1⟩:=Xi I hq;obtain⟨⟨old,he⟩,hs⟩:=st;obtain⟨u,hu,ru⟩:=rv.get hx;have hlt:i<its.toArray.size:=by
   have:=(Pr.mp hu).1
   simpa using this
  have hh:X.A.in1.handled=none:=I.ok.hd hc;refine wpAny_pyNext_enum_itemD (Q2 hh b it l hli its.toArray) he ⟨hs,o1⟩ hlt hei (by simp only[Pk,P4,Kq,not_or];exact⟨hei,Ne.symm hle⟩) λx' h' tk hP ho hst hT hsz hk=>?_
  have ex:x'=u:=by
   have:its.toArray[i]? = some u:=by simpa using hu
   rw[this] at hP;exact (Pb hP).symm
  subst ex;have hfree:H s.heap.objs.size=none:=I.hok.fresh (Pp _);have ltz:∀c∈[e,it],c≠s.heap.objs.size:=λc hc q=>by
   simp only[Pk,P4,Kq] at hc;rcases hc with z | z <;> subst z
   ·exact absurd (Pw he) (by rw[q];exact P2 _)
   ·obtain⟨o,ho,_⟩:=hs.obj;exact absurd (Pw ho) (by rw[q];exact P2 _)
  have IA:Inv X pq σ (upd H s.heap.objs.size (.tup [.int i,x])) { s with heap:=s.heap.push { cls:=.type "tuple",data:=.seq [.int i tk,x'].toArray },toks:=tk+1 }:=
   I.laid (λc o q=>Ph _ q) (Pp _) ⟨by show 2<=sizeLine;decide,[.int i tk,x'],.cons ⟨tk,rfl⟩ (.cons ru .nil),Tg _ _⟩
  have hf2:∀c∈[e,it],Vo X pq (upd H s.heap.objs.size (.tup [.int i,x])) c:=λc hc=>⟨by rw[ZI (ltz c hc)];exact (hf c hc).1,(hf c hc).2⟩
  have IB:Inv X pq σ (upd H s.heap.objs.size (.tup [.int i,x])) { s with heap:=h',toks:=tk+1 }:=by
   refine Wo (s:={ s with heap:=s.heap.push { cls:=.type "tuple",data:=.seq [.int i tk,x'].toArray },toks:=tk+1 }) (ch:=[e,it]) IA (λc o hc q=>?_) hf2
   by_cases hcs:c=s.heap.objs.size
   ·subst hcs
    have q':(s.heap.push { cls:=.type "tuple",data:=.seq [.int i tk,x'].toArray }).get? s.heap.objs.size=some o:=q;rw[Pz _ rfl] at q';cases q';exact hT
   ·simp only[Pk,P4,Kq,not_or] at hc
    exact hk c o hc.1 hc.2 (Js q hcs)
  refine⟨.ref s.heap.objs.size,rfl,wpAny_letOwnedTupleGo_enum (s:={ s with heap:=h',toks:=tk+1 }) ho λh2 he2 hs2=>?_⟩
  have IC:Inv X pq σ (upd H s.heap.objs.size (.tup [.int i,x])) { s with heap:=h2,toks:=tk+1 }:=Wo (s:={ s with heap:=h',toks:=tk+1 }) (ch:=[e]) IB (λc o hc q=>(hs2.2 c (by simpa using hc)).trans q) λc hc=>hf2 c (by simp only[PF] at hc;simp[hc])
  refine⟨.ref s.heap.objs.size,_,IC,rfl,⟨_,x,λzs hz=>by rw[yx I hz hq];exact hx,hfree,rfl,rfl⟩,⟨⟨x',by simpa using he2⟩,hst.1.ext hs2.extBut (Ne.symm hei)⟩,λc hc=>(hf2 c hc).1⟩
 done:=by
  intro X hP hw hK hc i pq s σ H E I hf st hg;subst hP hw hK;obtain⟨xs,hq,hend⟩:=hg;obtain⟨its,rv,o1⟩:=Xi I hq;obtain⟨⟨old,he⟩,hs⟩:=st;have e1:=rv.length;have hh:X.A.in1.handled=none:=I.ok.hd hc;have en:i=its.toArray.size:=by simp;omega
  subst en;exact wpAny_pyNext_enum_endD (Q2 hh b it l hli its.toArray) he ⟨hs,o1⟩ λh' hx=>⟨rfl,Wo (t':=s.toks) (ch:=[e,it]) I (λc o hc q=>hx c o (λz=>hc (by simp[z])) q) hf⟩
 self:=λ_ _ _ _ _ st h=>by
  obtain⟨⟨old,he⟩,_⟩:=st;exact wpAny_pyIter_enum he h
section
variable {prog:Program}{w:World}{A:Around}{E:Value->Shared->Prop}{s:Shared}
theorem uJ (l:Addr) (items:Array Value) (n:Nat) (dct:Option Addr) (sl:Array (Option Value)) :
  Meets (Builtin.«enumerate.__new__» ⟨[.type "enumerate",.ref l],[]⟩) (λ_ R s=>s.heap.get? l=some { cls:=.type "tuple",dict:=dct,data:=.seq items n,slots:=sl }/\
   R (.ok (.ret (.ref (s.heap.push (Yu false l)).objs.size))) { s with heap:=(s.heap.push (Yu false l)).push { cls:=.type "enumerate",data:=.fields #[.none,.bool false,.ref s.heap.objs.size,rawInt 0,.none,.none] } }):=
 .of_wp λprog w A R s h=>by
  obtain⟨hp,g,d,tk,os⟩:=s;obtain⟨hl,h⟩:=h;have hsub:=sub_enumerate;have hL:Heap.IsTuple (Shared.heap ⟨hp,g,d,tk,os⟩) l items:=⟨_,hl,rfl,n,rfl⟩
  wp_walk using KA hl;refine wpAny_stack_any λst=>Pl ?_;split
  ·rename_i c _ _ _ _ _;cases (c == Value.type "enumerate") <;> (wp_walk using KA hl,KI hL;exact⟨_,rfl,h⟩)
  ·wp_walk using KA hl,KI hL;exact⟨_,rfl,h⟩
theorem vK {b:Bool}{l:Addr}{xs:Array Value}{Q:Value->Shared->Prop}(hL:YK b s.heap l xs)
  (h:∀h' n,n=s.heap.objs.size->IsEnum h' (n+1) n 0 .none->Src b h' n l 0->(∀c o,s.heap.get? c=some o->h'.get? c=some o)->Q (.ref (n+1)) { s with heap:=h' }):wpAny (model prog w) A (call (.type "enumerate") [.ref l]) Q E s:=by
 cases b with
 |true=>exact call_enumerate_list hL λh' a1 a2 _ a4=>h h' _ rfl a1 a2 a4
 |false=>
  obtain⟨⟨c,dct,dt,sl⟩,hl,hc,n,hd⟩:=hL;simp only at hc hd;subst hc hd;refine callType_new F.called_enumerate (by decide) (F.typeCall_enumerate_1 _) (F.newCall_enumerate_1 _) (λobj=>F.args_object_init_2 obj _) F.entry_enumerate_new (uJ l xs n dct sl) ⟨hl,?_⟩
  have hz:(s.heap.push (Yu false l)).objs.size=s.heap.objs.size+1:=Kr ..;have g2:=Pz (s.heap.push (Yu false l)) (o:={ cls:=.type "enumerate",data:=.fields #[.none,.bool false,.ref s.heap.objs.size,rawInt 0,.none,.none] }) rfl;have g1:((s.heap.push (Yu false l)).push { cls:=.type "enumerate",data:=.fields #[.none,.bool false,.ref s.heap.objs.size,rawInt 0,.none,.none] }).get? s.heap.objs.size=some (Yu false l):=Ph _ (Pz _ rfl);rw[hz] at g2 ⊢;exact⟨⟨_,g2,rfl⟩,h _ _ rfl g2 ⟨_,g1,rfl,rfl⟩ λc o q=>Ph _ (Ph _ q)⟩
end
section
variable {X:Cx}{elts:List Expr}{kk:Nat}{tp:Pos}
def ZcK (K:PySem.W.Frag) (ta:TA):TI:=λσ H R=>ta σ H λvs H1=>∃b l,vs=[.ref l]/\(∃xs,Sq b K H1 l xs)/\R (Ite K b l) H1
theorem Zaf {a:Expr}{ta:TA}{p pos:Pos}(hg:Gl X "enumerate") (hm:X.mg "enumerate" = none) (ha:PA X [a] ta) (hs:starEach [a] X.env=[(false,eval a X.env)]:=by rfl):PI X (.Tuple elts kk tp) (.Call (.Name "enumerate" p) [a] [] pos) (ZcK X.K ta):=by
 intro pq s σ H R I h;refine Call_ (Xl I hg hm (by rfl) (Ng (thn (ha pos pq s σ H _ I h) λus s1 ⟨vs,H1,I1,r1,q1⟩=>?_) hs rfl))
 obtain⟨b,l,e,⟨xs,hq⟩,q⟩:=q1;subst e;cases r1 with
 |cons r rr=>
  cases rr;cases r;obtain⟨its,rv,o1⟩:=Xi I1 hq;have lt1:=Uq o1;refine vK o1 λh' n hn he hs' hk=>?_
  have I2:Inv X pq σ H1 { s1 with heap:=h' }:=I1.kept (t':=s1.toks) hk
  have q1:(l:Nat)<n:=by rw[hn];exact lt1
  refine wpAny_pyIter_enum (s:={ s1 with heap:=h' }) he ⟨n+1,[n+1,n],_,_,H1,rfl,I2,vp (X9 (.inr (Nat.lt_succ_self n))) (X9 (.inl (NT q1))) (X9 (.inl q1)),⟨⟨_,he⟩,hs'⟩,λc hc=>?_,q⟩
  have hbn:s1.heap.objs.size<=c:=by
   rw[<-hn];simp only[Pk,P4,Kq] at hc;rcases hc with e | e <;> rw[e]
   ·exact Ti n
   ·exact Pp n
  exact I1.fpOk hbn (I1.hok.fresh hbn)
end
theorem vN {K:PySem.W.Frag}{ρ:List Addr}{H:Hp}{w:Walk}{b:Bool}{l:Addr}(h1:Side K ρ H w b l):WRel K ρ H ⟨(Ev.Zs 0 w.items.length).zip w.items |>.map λp=>.tup [p.1,p.2],w.kept⟩ (Ite K b l) where
 go:=λi ρ' S' H' f st hs hi=>by
  obtain⟨xs,q1,r1⟩:=h1 ρ' S' H' f st hs;have hi':i<w.items.length:=by
   have:i<(((Ev.Zs 0 w.items.length).zip w.items).map λp=>D.tup [p.1,p.2]).length:=hi
   rw[Pj,NV,WE] at this;omega
  obtain⟨x,g1,rx⟩:=r1.get (Pc hi');refine⟨⟨xs,x,q1,g1⟩,λu H'' ⟨T,x',e1,hT,eH,eu⟩=>?_⟩
  subst eH eu;have ex:=(e1 xs q1).symm.trans g1;cases ex;refine⟨Yg hT,st.fresh hT,λd hd=>?_⟩
  have hd':(((Ev.Zs 0 w.items.length).zip w.items).map λp=>D.tup [p.1,p.2])[i]? = some d:=hd
  have hz:((Ev.Zs 0 w.items.length).zip w.items)[i]? = some (.int (0+i),w.items[i]):=List.getElem?_zip_eq_some.mpr ⟨zB hi',Pc hi'⟩;rw[PH,hz] at hd';cases hd';refine ZS Yj (Rq.cons ?_ (Rq.cons (rx.mono (Yg hT)) Rq.nil));have:((0:Int)+i)=i:=by omega
  show Rep _ _ (D.int (0+i)) (V.int i);rw[this];exact Zp _
 stop:=λρ' S' H' f st hs=>by
  obtain⟨xs,q1,r1⟩:=h1 ρ' S' H' f st hs;refine⟨xs,q1,?_⟩;show xs.length=(((Ev.Zs 0 w.items.length).zip w.items).map λp=>D.tup [p.1,p.2]).length
  rw[Pj,NV,WE,r1.length];omega
section
variable {X:Cx}{xw:Nat->Hp->Prop}{C:Calls}{a b:Expr}{i j:E}{pos p tp:Pos}{elts:List Expr}{kk:Nat}
theorem JY (hm:X.mg "enumerate" = none) (ha:CA X xw C [a] [i]) (hg:Gl X "enumerate":=by rfl) (hs:starEach [a] X.env=[(false,eval a X.env)]:=by rfl) :
  CW X xw C (.Tuple elts kk tp) (.Call (.Name "enumerate" p) [a] [] pos) (.enum i):=
 PI.imp (Zaf hg hm ha hs) λσ H Q ⟨ρ,l,S,st,lr,h⟩=>by
  refine⟨ρ,l,S,st,lr,?_⟩;show End X.K xw Rq ρ H _ ((ev C i l S).bind λx S=>(Ev.R.ok [] S).bind λxs S=>.ok (x::xs) S)
  have h':End X.K xw (WRel X.K) ρ H Q ((ev C i l S).bind λx S=>match Ev.Yk S x with
   |some w=>.ok ⟨(Ev.Zs 0 w.items.length).zip w.items |>.map λp=>.tup [p.1,p.2],w.kept⟩ S
   |none=>.no):=h
  cases q:ev C i l S with
  |no=>rw[q] at h';exact h'
  |ex c S1=>rw[q] at h';exact h'
  |ok x S1=>
   rw[q] at h';intro ρ1 H1 vs f1 st1 r1;obtain⟨v,rfl,r⟩:=reps1 r1;have h3:End X.K xw (WRel X.K) ρ1 H1 Q (match Ev.Yk S1 x with
    |some w=>.ok ⟨(Ev.Zs 0 w.items.length).zip w.items |>.map λp=>.tup [p.1,p.2],w.kept⟩ S1
    |none=>.no):=End.mono f1 (show End X.K xw (WRel X.K) ρ H Q _ from h')
   cases e1:Ev.Yk S1 x with
   |none=>rw[e1] at h3;exact False.elim h3
   |some wk=>
    rw[e1] at h3;obtain⟨b1,l1,rfl,s1,d1⟩:=JI st1 r e1;exact⟨b1,l1,rfl,s1,End.ok (rep:=WRel X.K) h3 st1 (vN d1)⟩
end
theorem wW {prog:Program}{w:World}{A:Around}(hh:A.handled=none) (b:Bool) (it l:Addr) (hne:l≠it) (xs:Array Value) :
  Walks prog w A it [it,l] [it] xs.size (λi v=>xs[i]? = some v) (λi h=>Src b h it l i/\YK b h l xs):=by
 cases b
 ·exact Walks.tuple hh it l hne xs
 ·exact Walks.list hh it l hne xs
theorem Zal {b:Bool}{h:Heap}{l:Addr}:Src b (h.push (Yu b l)) h.objs.size l 0:=by
 cases b
 ·exact⟨_,Pz _ rfl,rfl,rfl⟩
 ·exact⟨_,Pz _ rfl,rfl,rfl⟩
theorem Zcw {K:PySem.W.Frag}{H:Hp}{p:Addr}{xs:List V}(h:SqL K H p xs\/SqT K H p xs):∃b,Sq b K H p xs:=by
 rcases h with h | h
 ·exact⟨true,h⟩
 ·exact⟨false,h⟩
section
variable {X:Cx}{xw:Nat->Hp->Prop}{C:Calls}{e a b c:Expr}{i j k:E}{pos p p' p2:Pos}
theorem vH (hc:X.calm=true):ZT X (.builtin "any") (λvs H Q=>∃ρ S ds x bs,St3 X.K ρ S H/\Rq ρ H [x] vs/\Ev.YH S x=some ds/\Ev.truths ds=some bs/\Q (.bl (bs.any id)) H):=by
 intro pq s σ H vs us Q I r h;obtain⟨ρ,S,ds,x,bs,st,rs,hl,hb,q⟩:=h;obtain⟨v,rfl,r1⟩:=reps1 rs;obtain⟨l,xs,rfl,hsq,rx⟩:=VW st r1 hl;obtain⟨kb,hq⟩:=Zcw hsq;obtain⟨u,rfl,ru⟩:=vals1 r;cases ru;obtain⟨its,rv,o1⟩:=Xi I hq;obtain⟨lb,tb⟩:=WQ hb;have hlt:=Uq o1;have hlen:its.toArray.size=bs.length:=by rw[Pf,<-rv.length,rx.length,lb]
 refine call_any_walk (Qn o1 ⟨s.heap.objs.size,[s.heap.objs.size,l],[s.heap.objs.size],its.toArray.size,_,_,λj=>bs.getD j false,rfl,wW (A:=X.A.in1) (show X.A.in1.handled=none from I.ok.hd hc) kb s.heap.objs.size l (PX hlt) its.toArray,⟨Zal,o1.keep λo q=>Ph _ q⟩,?_,?_⟩)
 ·intro j v s' Q' E' hv hQ'
  have hj:its[j]? = some v:=by simpa using hv
  have jl:j<ds.length:=by
   have:=(Pr.mp hj).1;rw[<-rv.length,rx.length] at this;exact this
  obtain⟨w',g,r'⟩:=rx.get (Pc jl);obtain⟨u',g',ru'⟩:=rv.get g;rw[hj] at g';cases g';exact Vn r' ru' (tb j _ (Pc jl)) s' Q' E' hQ'
 ·intro h' tk hk
  rw[hlen,vo];exact⟨.bl (bs.any id),H,I.kept (t':=tk) λb o e=>hk b o (λhm=>by
   have:b=s.heap.objs.size:=by simpa using hm
   exact absurd (this▸Pw e) (P2 _)) (Ph _ e),rfl,q⟩
theorem wC (hc:X.calm=true):ZT X (.builtin "any") (U2 X.K xw .any):=ZT.imp (vH hc) λvs H Q ⟨ρ,S,ds,st,r,h⟩=>by
 match ds,r,h with
 |[x],r,h=>
  obtain⟨xs,hx,h1⟩:=End.ob (show End X.K xw Rep ρ H Q ((Ev.ob (Ev.YH S x) S).bind λxs S=>(Ev.ob (Ev.truths xs) S).bind λbs S=>.ok (.bl (bs.any id)) S) from h)
  obtain⟨bs,hb,h2⟩:=End.ob h1;exact⟨ρ,S,xs,x,bs,st,r,hx,hb,End.ok h2 st (Zq _)⟩
 |[],r,h=>exact False.elim h
 |_::_::_,r,h=>exact False.elim h
theorem VO {o:Expr}{io:E}{apos cpos:Pos}(ho:CE X xw C o io) (ha:CA X xw C [e] [i])
  (hbase:attributeBase o "extend" X.env (eval o X.env)=eval o X.env:=by rfl)
  (hfew:((backTo cpos (starEach [e] X.env)).all (λx=>!x.1)&&(backToKw cpos (keywordEach [] X.env)).all (λx=>x.1.isSome)
   && decide (([e]:List Expr).length+([]:List Keyword).length+(if ([]:List Keyword).isEmpty then 0 else 1)<30))=true:=by rfl)
  (hline:(apos.endLine == cpos.line)=true:=by rfl) (hs:starEach [e] X.env=(false,eval e X.env)::starEach [] X.env:=by rfl) (hplain:(backTo cpos (starEach [] X.env)).any (·.1)=false:=by rfl) :
  CE X xw C (.Call (.Attribute o "extend" apos) [e] [] cpos) (.mt .extend io [i]):=
 PE.imp (Za8 PySem.F.plainAttrs_list PySem.F.slot_list_extend PySem.F.type_list_extend vE ho ha hbase hfew hline hs hplain) λσ H Q ⟨ρ,l,S,st,lr,h⟩=>by
  have h':End X.K xw Rep ρ H Q ((ev C io l S).bind λx S=>if Ev.UY S x=true then (evs C [i] l S).bind λxs S=>Ev.method .extend x xs S else .no):=h
  refine⟨ρ,l,S,st,lr,h'.bind λx S1 ρ1 H1 v f1 st1 r1 h1=>?_⟩
  obtain⟨hl,h1⟩:=h1.guard;cases x with
  |loc n=>
   obtain⟨p,rfl,hp⟩:=r1.loc';obtain⟨ds,hds⟩:=NQ.mp (show (Ev.Zh S1 n).isSome=true from hl)
   obtain⟨_,p',xs,q1,hx,_⟩:=st1.lst hds;rw[hp] at q1;cases q1;refine⟨.inl ⟨rfl,xs,SqL.of hx⟩,ρ1,l,S1,st1,lr.mono f1,h1.bind λys S2 ρ2 H2 vs f2 st2 r2 h2=>?_⟩
   match ys,r2,h2 with
   |[.loc m],r2,h2=>
    obtain⟨w,rfl,rw'⟩:=reps1 r2;obtain⟨pm,rfl,hpm⟩:=rw'.loc';have h2':End X.K xw Rep ρ2 H2 Q (if n=m then .no else (Ev.ob (Ev.Zh S2 n) S2).bind λxs S=>(Ev.ob (Ev.Zh S m) S).bind λys S=>if xs.length+ys.length<=Ev.lim then .ok .non (S.set n (.lst (xs++ys))) else .no):=h2
    by_cases hnm:n=m
    ·rw[Pg hnm] at h2';exact False.elim h2'
    ·rw[Pi hnm] at h2'
     obtain⟨zs,hz,h3⟩:=End.ob h2';obtain⟨ws,hw,h4⟩:=End.ob h3;obtain⟨hlen,h5⟩:=h4.guard;obtain⟨sn,p2,zs',q2,hz2,rz⟩:=st2.lst hz;rw[f2.at hp] at q2;cases q2;obtain⟨sm,p3,ws',q3,hw2,rw2⟩:=st2.lst hw;rw[hpm] at q3;cases q3;refine⟨p,pm,zs',ws',rfl,rfl,hz2,hw2,by rw[rz.length,rw2.length,<-Wf];exact hlen,?_⟩
     exact h5 ρ2 _ .non (YB hz2) (st2.wr (f2.at hp) sn hz2 (rz.append rw2)) Ww
   |[.non],r2,h2=>exact False.elim h2
   |[.bl _],r2,h2=>exact False.elim h2
   |[.int _],r2,h2=>exact False.elim h2
   |[.str _],r2,h2=>exact False.elim h2
   |[.tup _],r2,h2=>exact False.elim h2
   |[.fn _],r2,h2=>exact False.elim h2
   |[.exc _ _],r2,h2=>exact False.elim h2
   |[],r2,h2=>exact False.elim h2
   |d::_::_,r2,h2=>cases d <;> exact False.elim h2
  |_=>exact absurd hl (by simp[Ev.UY])
theorem yY {n m:Nat}{x y:Str}{px py pt:Pos}{kt k2 pt2}(hc:X.calm=true) (hN:X.N.Nodup) (ha:CA X xw C [a,b] [i,j]) (hnm:n≠m:=by decide) (hi:X.N[n]? = some x:=by rfl) (hj:X.N[m]? = some y:=by rfl)
  (hx:X.env.scope.names.lookup x=some .local:=by rfl) (hy:X.env.scope.names.lookup y=some .local:=by rfl)
  (hw:swappedStores [.Tuple [.Name x px,.Name y py] kt pt] (.Tuple [a,b] k2 pt2) X.env=pure (some [x,y]):=by rfl)
  (hs:swapsWithSole [.Tuple [.Name x px,.Name y py] kt pt] (.Tuple [a,b] k2 pt2) pos.line X.env=pure false:=by rfl) :
  CS X xw C (.Assign [.Tuple [.Name x px,.Name y py] kt pt] (.Tuple [a,b] k2 pt2) pos) (.par [n,m] [i,j]):=
 PS.imp (ZbX hc hN hi hj hnm hx hy ha hw hs) λD σ H ⟨ρ,l,S,st,lr,h⟩=>
  ⟨ρ,l,S,st,lr,Zx.bind (show Zx X.K xw ρ H D ((evs C [i,j] l S).bind λxs S=>(Ev.ob (Ev.fill [n,m] xs l) S).bind λσ S=>.ok (.nx σ) S) from h) λxs S1 ρ1 H1 vs f1 st1 r1 h1=>by
   obtain⟨l',hl',h2⟩:=Zx.ob h1
   match xs,r1,hl' with
   |[d1,d2],r1,hl'=>
    obtain⟨v,w,rfl,a1,a2⟩:=reps2 r1;have e:(l.set n (some d1)).set m (some d2)=l':=Pb hl';exact⟨v,w,rfl,Zx.nx h2 st1 (by rw[<-e];exact ((lr.mono f1).set n a1).set m a2)⟩
   |[],_,hl'=>cases hl'
   |[_],_,hl'=>cases hl'
   |_::_::_::_,_,hl'=>cases hl'⟩
end
section
variable {X:Cx}{xw:Nat->Hp->Prop}{C:Calls}{p:Pos}
theorem Zan {n:Int}{t:Tok}{x:Str}(hm:X.mg x=some (.int n t)) (hg:Gl X x:=by rfl) (hd:(x == ("__debug__" : Str))=false:=by decide):CE X xw C (.Name x p) (.c (.int n)):=
 PE.imp (Zad (v:=.int n) hg hm ⟨t,rfl⟩ hd) λσ H Q ⟨ρ,l,S,st,lr,h⟩=>End.ok h st (Zp n)
end
end Sd
namespace Sq
open PySem PySem.W PyProof.Rows
noncomputable def evT {α:Type} (n:Nat) (lt:Nat->Nat->Bool):KasT α->Option α
 |.ret a=>some a
 |.ask i j k=>if i<n/\j<n then evT n lt (k (lt i j)) else none
theorem WB {α:Type}{n:Nat}{lt:Nat->Nat->Bool}{i j:Nat}{k:Bool->KasT α}(c:i<n/\j<n):evT n lt (.ask i j k)=evT n lt (k (lt i j)):=by
 show (if i<n/\j<n then evT n lt (k (lt i j)) else none)=_
 rw[Pg c]
theorem Xv {α β:Type}{n:Nat}{lt:Nat->Nat->Bool}{f:α->KasT β}:∀{t:KasT α}{a:α},evT n lt t=some a->evT n lt (t.bind f)=evT n lt (f a)
 |.ret a,b,h=>by cases h;rfl
 |.ask i j k,b,h=>by
  unfold evT at h;by_cases c:i<n/\j<n
  ·rw[Pg c] at h
   show evT n lt (.ask i j λb=>(k b).bind f)=_
   rw[WB c];exact Xv h
  ·rw[Pi c] at h;cases h
theorem xc {α:Type}{n:Nat}{lt:Nat->Nat->Bool}{cmp:Nat->Nat->(Bool->Shared->Prop)->Shared->Prop}{G:α->Shared->Prop}{s:Shared}(hc:∀i j,i<n->j<n->∀C:Bool->Shared->Prop,C (lt i j) s->cmp i j C s) :
  ∀{t:KasT α} {a:α},evT n lt t=some a->G a s->t.kasWp cmp G s
 |.ret a,b,h,g=>by cases h;exact g
 |.ask i j k,b,h,g=>by
  unfold evT at h;by_cases c:i<n/\j<n
  ·rw[Pg c] at h
   exact hc i j c.1 c.2 _ (xc hc h g)
  ·rw[Pi c] at h;cases h
structure Ord (n:Nat) (lt:Nat->Nat->Bool):Prop where
 tot:∀i j,i<n->j<n->i≠j->lt i j=false->lt j i=true
 asy:∀i j,i<n->j<n->lt i j=true->lt j i=false
 tr:∀i j k,i<n->j<n->k<n->lt i j=true->lt j k=true->lt i k=true
noncomputable abbrev g (p:Array Nat) (i:Nat):Nat:=p.getD i 0
def Pm (n:Nat) (p:Array Nat):Prop:=p.Perm (List.toArray (List.range n))
theorem Pm.size {n:Nat}{p:Array Nat}(h:Pm n p):p.size=n:=by have:=Array.Perm.size_eq h;simpa using this
theorem yO {p:Array Nat}{i:Nat}(h:i<p.size):p[i]? = some (g p i):=by simp[g,h]
theorem Pm.lt {n:Nat}{p:Array Nat}(h:Pm n p) {i:Nat}(hi:i<n):g p i<n:=by
 have hs:=h.size;have h1:g p i∈p.toList:=by
  have:p.toList[i]? = some (g p i):=by rw[Ny];exact yO (by omega)
  exact Kp this
 have h2:p.toList.Perm (List.range n):=by simpa using Nr.mp h
 exact PQ.mp (h2.mem_iff.mp h1)
theorem Pm.inj {n:Nat}{p:Array Nat}(h:Pm n p) {i j:Nat}(hi:i<n) (hj:j<n) (e:g p i=g p j):i=j:=by
 have hs:=h.size;have h2:p.toList.Perm (List.range n):=by simpa using Nr.mp h
 have nd:p.toList.Nodup:=(h2.nodup_iff).mpr KZ;have e1:p.toList[i]? = some (g p i):=by rw[Ny];exact yO (by omega)
 have e2:p.toList[j]? = some (g p j):=by rw[Ny];exact yO (by omega)
 have hl:i<p.toList.length:=by simpa [hs] using hi
 exact (List.getElem?_inj hl nd).mp (by rw[e1,e2,e])
theorem zA {p:Array Nat}{src d:Nat}(hs:src<p.size) (hd:d<=src) (k:Nat):g (bubble p src d) k=if k=src-d then g p src else if src-d<k/\k<=src then g p (k-1) else g p k:=by
 have:=getElem?_bubble hs d hd k;unfold g;simp only[Array.getD_eq_getD_getElem?,this]
 repeat' split
 all_goals rfl
theorem Za3 {p:Array Nat}{m:Nat}(hm:m<=p.size) (k:Nat):g (kas_rev p 0 m) k=if k<m then g p (m-1-k) else g p k:=by
 have:=getElem?_mirror (xs:=p) (i:=0) (j:=m) hm ((m-0) / 2) (by omega) k
 unfold g kas_rev;simp only[Array.getD_eq_getD_getElem?,this];by_cases c:k<m
 ·rw[Pg c]
  split
  ·congr 2;omega
  ·congr 2;omega
 ·rw[Pi c,Pi (by omega)]
theorem uy {n:Nat}{p:Array Nat}(h:Pm n p) (i j:Nat):Pm n (kas_rev p i j):=(mirror_perm _ _ _ _).trans h
theorem vD {n:Nat}{p:Array Nat}(h:Pm n p) (i j:Nat):Pm n (bubble p i j):=(bubble_perm _ _ _).trans h
section
variable {n:Nat}{lt:Nat->Nat->Bool}
def Up (lt:Nat->Nat->Bool) (p:Array Nat) (m:Nat):Prop:=∀i j,i<j->j<m->lt (g p i) (g p j)=true
def Dn (lt:Nat->Nat->Bool) (p:Array Nat) (m:Nat):Prop:=∀i j,i<j->j<m->lt (g p j) (g p i)=true
theorem Zbx (p:Array Nat):Up lt p 1:=λi j a b=>by omega
theorem ZaH (O:Ord n lt) {p:Array Nat}(h:Pm n p) {m:Nat}(hm:m<n) (h1:1<=m) (u:Up lt p m) (c:lt (g p m) (g p (m-1))=false):Up lt p (m+1):=by
 have hl:lt (g p (m-1)) (g p m)=true:=O.tot _ _ (h.lt hm) (h.lt (by omega)) (λe=>by have:=h.inj hm (by omega) e;omega) c
 intro i j a b;by_cases z:j=m
 ·subst z
  by_cases y:i=j-1
  ·subst y;exact hl
  ·exact O.tr _ _ _ (h.lt (by omega)) (h.lt (by omega)) (h.lt hm) (u i (j-1) (by omega) (by omega)) hl
 ·exact u i j a (by omega)
theorem yW (O:Ord n lt) {p:Array Nat}(h:Pm n p):∀(f m:Nat),1<=m->m+f=n->Up lt p m->∃k,evT n lt (kas_asc p f m)=some k/\m<=k/\k<=n/\Up lt p k/\(k<n->lt (g p k) (g p (k-1))=true)
 |0,m,h1,e,u=>⟨m,rfl,Pp _,by omega,u,λz=>by omega⟩
 |f+1,m,h1,e,u=>by
  unfold kas_asc;rw[WB ⟨h.lt (by omega),h.lt (by omega)⟩]
  cases c:lt (g p m) (g p (m-1)) with
  |true=>exact⟨m,by rw[Pg rfl];rfl,Pp _,by omega,u,λ_=>c⟩
  |false=>
   obtain⟨k,e1,e2,e3,e4⟩:=yW O h f (m+1) (by omega) (by omega) (ZaH O h (by omega) h1 u c)
   exact⟨k,by rw[Pi (by simp)];exact e1,by omega,e3,e4⟩
theorem wz (O:Ord n lt) {p:Array Nat}(h:Pm n p) {m:Nat}(hm:m<n) (h1:1<=m) (u:Dn lt p m) (c:lt (g p m) (g p (m-1))=true):Dn lt p (m+1):=by
 intro i j a b;by_cases z:j=m
 ·subst z
  by_cases y:i=j-1
  ·subst y;exact c
  ·exact O.tr _ _ _ (h.lt hm) (h.lt (by omega)) (h.lt (by omega)) c (u i (j-1) (by omega) (by omega))
 ·exact u i j a (by omega)
theorem wB (O:Ord n lt) {p:Array Nat}(h:Pm n p):∀(f m:Nat),1<=m->m+f=n->Dn lt p m->∃k,evT n lt (kas_desc f p m 0)=some (p,k,0)/\m<=k/\k<=n/\Dn lt p k
 |0,m,h1,e,u=>⟨m,rfl,Pp _,by omega,u⟩
 |f+1,m,h1,e,u=>by
  unfold kas_desc;rw[WB ⟨h.lt (by omega),h.lt (by omega)⟩]
  cases c:lt (g p m) (g p (m-1)) with
  |true=>
   obtain⟨k,e1,e2,e3,e4⟩:=wB O h f (m+1) (by omega) (by omega) (wz O h (by omega) h1 u c)
   exact⟨k,by rw[Pg rfl,Pi (by omega)];exact e1,by omega,e3,e4⟩
  |false=>
   have hl:lt (g p (m-1)) (g p m)=true:=O.tot _ _ (h.lt (by omega)) (h.lt (by omega)) (λe=>by have:=h.inj (by omega) (by omega) e;omega) c
   refine⟨m,?_,Pp _,by omega,u⟩
   rw[Pi (by simp)]
   rw[WB ⟨h.lt (by omega),h.lt (by omega)⟩]
   show evT n lt (if lt (g p (m-1)) (g p m)=true then _ else _)=_
   rw[Pg hl];rfl
theorem qu (O:Ord n lt) {p:Array Nat}(h:Pm n p) (hn:1<=n):∃k p',evT n lt (kas_count n p)=some (k,p')/\1<=k/\k<=n/\Pm n p'/\Up lt p' k:=by
 obtain⟨k,e1,e2,e3,e4,e5⟩:=yW O h (n-1) 1 (Pp _) (by omega) (Zbx p)
 unfold kas_count;rw[Xv e1];by_cases c:k=n
 ·exact⟨k,p,by rw[Pg (by simpa using c)];rfl,e2,e3,h,e4⟩
 ·rw[Pi (by simpa using c)]
  by_cases c1:k>1
  ·refine⟨k,p,?_,e2,e3,h,e4⟩
   rw[Pg c1];rw[WB ⟨h.lt (by omega),h.lt (by omega)⟩]
   show evT n lt (if lt (g p 0) (g p (k-1))=true then _ else _)=_
   rw[Pg (e4 0 (k-1) (by omega) (by omega))];rfl
  ·rw[Pi c1]
   have hk:k=1:=by omega
   subst hk;have c2:=e5 (by omega)
   have d2:Dn lt p 2:=wz O h (by omega) (Pp _) (λi j a b=>by omega) c2
   obtain⟨m,f1,f2,f3,f4⟩:=wB O h (n-(1+1)) 2 (by omega) (by omega) d2
   unfold kas_descPart;rw[Xv f1,Pi (by simp)]
   unfold kas_tail3;have hu:Up lt (kas_rev p 0 m) m:=by
    intro i j a b;rw[Za3 (by rw[h.size];exact f3),Za3 (by rw[h.size];exact f3),Pg (by omega),Pg b]
    exact f4 _ _ (by omega) (by omega)
   obtain⟨k',a1,a2,a3,a4,_⟩:=yW O (uy h 0 m) (n-m) m (by omega) (by omega) hu
   exact⟨k',kas_rev p 0 m,by rw[Xv a1];rfl,by omega,a3,uy h 0 m,a4⟩
theorem UL (O:Ord n lt) {p:Array Nat}(h:Pm n p) {k:Nat}(hk:k<n) (u:Up lt p k):∀(f l r:Nat),l<=r->r<=k->r-l<=f->(∀i,i<l->lt (g p i) (g p k)=true)->(∀i,r<=i->i<k->lt (g p k) (g p i)=true)->
  ∃m,evT n lt (kas_place p k f l r)=some m/\m<=k/\(∀i,i<m->lt (g p i) (g p k)=true)/\∀i,m<=i->i<k->lt (g p k) (g p i)=true
 |0,l,r,h1,h2,h3,a,b=>⟨l,rfl,by omega,a,λi z=>b i (by omega)⟩
 |f+1,l,r,h1,h2,h3,a,b=>by
  unfold kas_place;by_cases c:l>=r
  ·rw[Pg c];exact⟨l,rfl,by omega,a,λi z=>b i (by omega)⟩
  ·rw[Pi c]
   rw[WB ⟨h.lt hk,h.lt (by omega)⟩]
   cases q:lt (g p k) (g p ((l+r) / 2)) with
   |true=>
    rw[Pg rfl];refine UL O h hk u f l ((l+r) / 2) (by omega) (by omega) (by omega) a λi z1 z2=>?_
    by_cases y:i=(l+r) / 2
    ·rw[y];exact q
    ·exact O.tr _ _ _ (h.lt hk) (h.lt (by omega)) (h.lt (by omega)) q (u _ _ (by omega) z2)
   |false=>
    rw[Pi (by simp)]
    have q':lt (g p ((l+r) / 2)) (g p k)=true:=O.tot _ _ (h.lt hk) (h.lt (by omega)) (λe=>by have:=h.inj hk (by omega) e;omega) q
    refine UL O h hk u f ((l+r) / 2+1) r (by omega) h2 (by omega) (λi z=>?_) b
    by_cases y:i=(l+r) / 2
    ·rw[y];exact q'
    ·exact O.tr _ _ _ (h.lt (by omega)) (h.lt (by omega)) (h.lt hk) (u _ _ (by omega) (by omega)) q'
theorem uw (O:Ord n lt):∀(f:Nat) {p:Array Nat}{k:Nat},Pm n p->1<=k->k+f=n->Up lt p k->∃p',evT n lt (kas_bin f p k)=some p'/\Pm n p'/\Up lt p' n
 |0,p,k,h,h1,e,u=>⟨p,rfl,h,by
  have:k=n:=by omega
  rw[<-this];exact u⟩
 |f+1,p,k,h,h1,e,u=>by
  obtain⟨l,e1,e2,e3,e4⟩:=UL O h (by omega) u k 0 k (by omega) (Pp _) (by omega) (λi z=>by omega) (λi a b=>by omega)
  unfold kas_bin;rw[Xv e1];refine uw O f (vD h k (k-l)) (by omega) (by omega) ?_
  have hs:k<p.size:=by rw[h.size];omega
  intro i j a b;rw[zA hs (by omega),zA hs (by omega)]
  have y:k-(k-l)=l:=by omega
  rw[y];by_cases ci:i=l
  ·rw[Pg ci,Pi (by omega),Pg (by omega)]
   exact e4 _ (by omega) (by omega)
  ·rw[Pi ci]
   by_cases cj:j=l
   ·rw[Pg cj,Pi (by omega)]
    exact e3 _ (by omega)
   ·rw[Pi cj]
    by_cases di:l<i/\i<=k
    ·rw[Pg di,Pg (by omega)]
     exact u _ _ (by omega) (by omega)
    ·rw[Pi di]
     by_cases dj:l<j/\j<=k
     ·rw[Pg dj];exact u _ _ (by omega) (by omega)
     ·rw[Pi dj];exact u _ _ (by omega) (by omega)
theorem Gs (O:Ord n lt) (hn:1<=n):∃p,evT n lt (kas_sort n)=some p/\Pm n p/\Up lt p n:=by
 obtain⟨k,p,e1,e2,e3,e4,e5⟩:=qu O (p:=List.toArray (List.range n)) (KD _) hn;unfold kas_sort;rw[Xv e1];by_cases c:k<n
 ·rw[Pg c]
  have:max k 1=k:=by omega
  rw[this];exact uw O (n-k) e4 e2 (by omega) e5
 ·rw[Pi c]
  have:k=n:=by omega
  exact⟨p,rfl,e4,by rw[<-this];exact e5⟩
end
end Sq
namespace Sq
open PySem PySem.W PyProof.Rows PySem.Calls
section
variable {prog:Program}{w:World}{A:Around}{E:Value->Shared->Prop}{s:Shared}
def Lat (h h':Heap):Prop:=∀b o,h.get? b=some o->h'.get? b=some o
structure Asks (prog:Program) (w:World) (A:Around) (h:Heap) (vs:List Value) (κ:SortKind) (lt:Nat->Nat->Bool):Prop where
 kind:2<=vs.length->∀(s':Shared) (E:Value->Shared->Prop) (Q:SortKind->Shared->Prop),Lat h s'.heap->Q κ s'->wpAny (model prog w) A (keyKind' vs.toArray) Q E s'
 cmp:∀i j,i<vs.length->j<vs.length->∀(s':Shared) (C:Bool->Shared->Prop) (E:Value->Shared->Prop),Lat h s'.heap->C (lt i j) s'->wpAny (model prog w) A (keyLt' κ (vs.getD i Value.none) (vs.getD j Value.none)) C E s'
noncomputable def ltR (b:Bool) (n:Nat) (lt:Nat->Nat->Bool):Nat->Nat->Bool:=λi j=>if b=true then lt (n-1-i) (n-1-j) else lt i j
theorem Gi {b:Bool}{n:Nat}{lt:Nat->Nat->Bool}(O:Ord n lt):Ord n (ltR b n lt):=by
 cases b
 ·exact O
 ·exact⟨λi j hi hj ne h=>O.tot _ _ (by omega) (by omega) (by omega) h,λi j hi hj h=>O.asy _ _ (by omega) (by omega) h,λi j k hi hj hk h1 h2=>O.tr _ _ _ (by omega) (by omega) (by omega) h1 h2⟩
theorem W5 {b:Bool}{vs:List Value}{i:Nat}(hi:i<vs.length):(katRev b vs).getD i Value.none=vs.getD (if b=true then vs.length-1-i else i) Value.none:=by
 cases b
 ·rfl
 ·show vs.reverse.getD i Value.none=vs.getD (vs.length-1-i) Value.none
  simp only[Po];rw[KU hi]
theorem Jx (vs:List Value):(List.range vs.length).map (λi=>vs.getD i Value.none)=vs:=by
 apply List.ext_getElem?
 intro i;rw[PH];by_cases h:i<vs.length
 ·rw[NW h];simp[h]
 ·simp[Kt h]
theorem list_sort_rev {a:Addr}{vs:List Value}{n:Nat}{b:Bool}{κ:SortKind}{lt:Nat->Nat->Bool}{P:PySem.Fin->Shared->Prop}{h0:Heap}(ho:s.heap.get? a=some (seqObj "list" vs.toArray n)) (h64:vs.length<64)
  (h00:∀b o,h0.get? b=some o->b≠a/\s.heap.get? b=some o) (O:Ord vs.length lt) (K:Asks prog w A h0 vs κ lt)
  (h:∀p,Pm vs.length p->Up (ltR b vs.length lt) p vs.length->P (.done (.ret .none)) { s with heap:=sortedHeap s.heap a vs (List.toArray (katRev b (p.toList.map λi=>(katRev b vs).getD i Value.none))) }) :
  wpAny (model prog w) A (Builtin.«list.sort» ⟨[.ref a],[(Str.ofString "reverse",.bool b)]⟩) P E s:=by
 rw[PyProof.Rows.list_sort_rev];have ha:a<s.heap.objs.size:=Pw ho;refine Pa (listItems_at ho rfl ?_);refine Pa (KB ho rfl ?_);obtain⟨e1,ho1⟩:∃e1,(s.heap.update a (Obj.mapSeq λ_=>#[])).get? a=some (seqObj "list" #[] e1):=⟨_,get?_update_seq ho (λ_=>#[])⟩
 refine Pa (K6 ho1 rfl ?_);refine Pa (wpAny_newTuple ?_);refine Pa (wpAny_newList ?_);refine Nl ?_;have ho6:(((s.heap.update a (Obj.mapSeq λ_=>#[])).push (seqObj "tuple" vs.toArray 0)).push (seqObj "list" #[] 0)).get? a=some (seqObj "list" #[] e1):=by
  rw[NH _ _ _ (by rw[size_push',Kh];exact PX (NT ha)),NH _ _ _ (by rw[Kh];exact PX ha)]
  exact ho1
 have lat:Lat h0 (((s.heap.update a (Obj.mapSeq λ_=>#[])).push (seqObj "tuple" vs.toArray 0)).push (seqObj "list" #[] 0)):=λb o e=>by
  obtain⟨nb,e⟩:=h00 b o e;exact Ph _ (Ph _ (by rw[Ky _ _ _ _ nb];exact e))
 show wpAny (model prog w) A _ P E { s with heap:=((s.heap.update a (Obj.mapSeq λ_=>#[])).push (seqObj "tuple" vs.toArray 0)).push (seqObj "list" #[] 0) }
 generalize hs':((s.heap.update a (Obj.mapSeq λ_=>#[])).push (seqObj "tuple" vs.toArray 0)).push (seqObj "list" #[] 0)=h1 at ho6 lat ⊢
 dsimp only
 have step:∀t:Sem PySem.Fin,wpAny (model prog w) A t P E { s with heap:=h1 }->wpAny (model prog w) A (if b=true then (do let _ <-rule "list.sort.reverse";t) else t) P E { s with heap:=h1 }:=by
  intro t ht;split
  ·exact Pa (Kb ht)
  ·exact ht
 refine step _ ?_;have hrl:(katRev b vs).length=vs.length:=kat_len b vs;have fin:∀out:List Value,out.length=vs.length->(∃p,Pm vs.length p/\Up (ltR b vs.length lt) p vs.length/\out=p.toList.map λi=>(katRev b vs).getD i Value.none)->
   P (.done (.ret .none)) { s with heap:=h1.update a (Obj.mapSeq λ_=>List.toArray (katRev b out)) }:=by
  rintro out _ ⟨p,h1',h2',rfl⟩
  subst hs';exact h p h1' h2'
 by_cases h2:vs.toArray.size<2
 ·rw[Pg h2,Pg h2]
  refine Pa (Pl ?_);rw[StateT.run_pure];refine Pa (Pl ?_)
  dsimp only
  have hz:((arrOf (SortSt.mk' general' (if b=true then (vs.toArray.zip vs.toArray).reverse else vs.toArray.zip vs.toArray) #[] 7 none)).map (·.2))=List.toArray (katRev b vs):=by
   show ((if b=true then (vs.toArray.zip vs.toArray).reverse else vs.toArray.zip vs.toArray).map (·.2))=_
   rw[kat_pairs b rfl];apply Array.toList_inj.mp;rw[Array.toList_map,ksk_zip];show (List.zip (katRev b vs) (katRev b vs)).map Prod.snd=katRev b vs;exact List.map_snd_zip (Pp _)
  rw[hz];refine Pa (K6 ho6 rfl ?_);rw[kat_outs];refine Pa (KB ho6 rfl ?_ (hsz2:=by rw[Pf];(try rw[kat_len]);(try rw[kat_len]);rw[NC];omega))
  simp only[KR,Nb,Nz];refine Pl (fin (katRev b vs) (kat_len b vs) ⟨List.toArray (List.range vs.length),KD _,λi j a1 a2=>by rw[Pf] at h2;omega,?_⟩)
  rw[<-hrl];exact (Jx _).symm
 ·rw[Pi h2,Pi h2]
  have l2:2<=vs.length:=by rw[Pf] at h2;omega
  refine Pa (K.kind l2 _ _ _ lat ?_);rw[kat_pairs b rfl];obtain⟨p,e1,e2,e3⟩:=Gs (Gi (b:=b) O) (by omega)
  refine Pa (Nq (kat_run (s:={ s with heap:=h1 }) (vs:=katRev b vs) (ks:=katRev b vs) (κ:=κ) (G:=λp' s'=>s'={ s with heap:=h1 }/\p'=p) (Q:=λst' s'=>s'={ s with heap:=h1 }/\failedOf st'=none/\(arrOf st').map (·.2)=List.toArray (p.toList.map λi=>(katRev b vs).getD i Value.none)) rfl (by rw[hrl];exact l2) (by rw[hrl];exact h64)
   (λp' st' s' a1 a2 a3 a4=>⟨a4.1,a3,by rw[kat_snds rfl a2,a4.2]⟩) (by
    rw[hrl];refine xc (n:=vs.length) (lt:=ltR b vs.length lt) (λi j hi hj C hC=>?_) e1 ⟨rfl,rfl⟩
    unfold kas_ask;rw[W5 hi,W5 hj];cases b
    ·exact K.cmp i j hi hj _ _ _ lat hC
    ·exact K.cmp _ _ (by simp only[NS];omega) (by simp only[NS];omega) _ _ _ lat hC)) ?_ λ_ _ x=>x)
  rintro ⟨⟨⟩,st'⟩ s' ⟨rfl,hf,har⟩
  dsimp only
  rw[har];have hl:(p.toList.map λi=>(katRev b vs).getD i Value.none).length=vs.length:=by rw[Pj,NK,e2.size]
  refine Pa (K6 ho6 rfl ?_);rw[kat_outs];refine Pa (KB ho6 rfl ?_ (hsz2:=by rw[Pf];(try rw[kat_len]);rw[hl,NC];omega))
  rw[hf];simp only[KR,Nb,Nz];exact Pl (fin _ hl ⟨p,e2,e3,rfl⟩)
theorem yR {l:Addr}{vs:List Value}{b:Bool}{κ:SortKind}{lt:Nat->Nat->Bool}{Q:Value->Shared->Prop}(hl:s.heap.IsList l vs.toArray) (h64:vs.length<64) (O:Ord vs.length lt) (K:Asks prog w A.in1.in1 s.heap vs κ lt)
  (h:∀p,Pm vs.length p->Up (ltR b vs.length lt) p vs.length->Q (.ref (s.heap.objs.size+1)) { s with heap:=sortedAll s.heap vs (List.toArray (katRev b (p.toList.map λi=>(katRev b vs).getD i Value.none))) }) :
  wpAny (model prog w) A (call (.builtin "sorted") [.ref l] [(Str.ofString "reverse",.bool b)]) Q E s:=by
 refine call_function_entry_kw kind_sorted plain_sorted entry_sorted (args_sorted_rev _ _) ?_;unfold Builtin.«sorted»;refine Pa (m:=checkCount "sorted" 1 1 _) (Pl ?_);refine Pa (collect_list hl ?_);refine Pa (wpAny_newList ?_);have hsz:((s.heap.push (seqObj "list" #[] 0)).update s.heap.objs.size (Obj.mapSeq (·++vs.toArray))).objs.size=s.heap.objs.size+1:=by
  rw[Kh,size_push']
 have hoL:(((s.heap.push (seqObj "list" #[] 0)).update s.heap.objs.size (Obj.mapSeq (·++vs.toArray))).push (seqObj "list" vs.toArray 0)).get? (s.heap.objs.size+1)=some (seqObj "list" vs.toArray 0):=by
  rw[<-hsz];exact Pz _ rfl
 show wpAny _ _ _ _ _ { s with heap:=((s.heap.push (seqObj "list" #[] 0)).update s.heap.objs.size (Obj.mapSeq (·++vs.toArray))).push (seqObj "list" vs.toArray 0) }
 rw[hsz];refine Pa (Nl (wpAny_call_entry_kw slot_list_sort ⟨_,hoL,rfl⟩ entry_list_sort (list_sort_rev (h0:=s.heap) hoL h64 (λb o e=>?_) O K  λp a1 a2=>⟨_,rfl,?_⟩) (args_list_sort_rev _ _)))
 ·have hlt:b<s.heap.objs.size:=Pw e
  refine⟨PX (NT hlt),?_⟩;rw[NH _ _ _ (by rw[hsz];exact PX (NT hlt)),Ky _ _ _ _ (PX hlt),NH _ _ _ (PX hlt)]
  exact e
 ·exact Pl ⟨_,rfl,h p a1 a2⟩
theorem JJ {R:Array Nat->Prop}{a:Addr}{vs:List Value}{n:Nat}{κ:SortKind}{lt:Nat->Nat->Bool}{P:PySem.Fin->Shared->Prop}{h0:Heap}(ho:s.heap.get? a=some (seqObj "list" vs.toArray n)) (h64:vs.length<64)
  (h00:∀b o,h0.get? b=some o->b≠a/\s.heap.get? b=some o) (r1:vs.length<2->R (List.toArray (List.range vs.length))) (r2:2<=vs.length->∃p,evT vs.length (ltR false vs.length lt) (kas_sort vs.length)=some p/\Pm vs.length p/\R p) (K:Asks prog w A h0 vs κ lt)
  (h:∀p,Pm vs.length p->R p->P (.done (.ret .none)) { s with heap:=sortedHeap s.heap a vs (List.toArray (katRev false (p.toList.map λi=>(katRev false vs).getD i Value.none))) }) :
  wpAny (model prog w) A (Builtin.«list.sort» ⟨[.ref a],[]⟩) P E s:=by
 rw[PyProof.Rows.list_sort_plain];have ha:a<s.heap.objs.size:=Pw ho;refine Pa (listItems_at ho rfl ?_);refine Pa (KB ho rfl ?_);obtain⟨e1,ho1⟩:∃e1,(s.heap.update a (Obj.mapSeq λ_=>#[])).get? a=some (seqObj "list" #[] e1):=⟨_,get?_update_seq ho (λ_=>#[])⟩
 refine Pa (K6 ho1 rfl ?_);refine Pa (wpAny_newTuple ?_);refine Pa (wpAny_newList ?_);refine Nl ?_;have ho6:(((s.heap.update a (Obj.mapSeq λ_=>#[])).push (seqObj "tuple" vs.toArray 0)).push (seqObj "list" #[] 0)).get? a=some (seqObj "list" #[] e1):=by
  rw[NH _ _ _ (by rw[size_push',Kh];exact PX (NT ha)),NH _ _ _ (by rw[Kh];exact PX ha)]
  exact ho1
 have lat:Lat h0 (((s.heap.update a (Obj.mapSeq λ_=>#[])).push (seqObj "tuple" vs.toArray 0)).push (seqObj "list" #[] 0)):=λb o e=>by
  obtain⟨nb,e⟩:=h00 b o e;exact Ph _ (Ph _ (by rw[Ky _ _ _ _ nb];exact e))
 show wpAny (model prog w) A _ P E { s with heap:=((s.heap.update a (Obj.mapSeq λ_=>#[])).push (seqObj "tuple" vs.toArray 0)).push (seqObj "list" #[] 0) }
 generalize hs':((s.heap.update a (Obj.mapSeq λ_=>#[])).push (seqObj "tuple" vs.toArray 0)).push (seqObj "list" #[] 0)=h1 at ho6 lat ⊢
 dsimp only
 have hrl:(katRev false vs).length=vs.length:=kat_len false vs;have fin:∀out:List Value,out.length=vs.length->(∃p,Pm vs.length p/\R p/\out=p.toList.map λi=>(katRev false vs).getD i Value.none)->
   P (.done (.ret .none)) { s with heap:=h1.update a (Obj.mapSeq λ_=>List.toArray (katRev false out)) }:=by
  rintro out _ ⟨p,h1',h2',rfl⟩
  subst hs';exact h p h1' h2'
 by_cases h2:vs.toArray.size<2
 ·rw[Pg h2,Pg h2]
  refine Pa (Pl ?_);rw[StateT.run_pure];refine Pa (Pl ?_)
  dsimp only
  have hz:((arrOf (SortSt.mk' general' (vs.toArray.zip vs.toArray) #[] 7 none)).map (·.2))=List.toArray (katRev false vs):=by
   show ((vs.toArray.zip vs.toArray).map (·.2))=_
   rw[show vs.toArray.zip vs.toArray=(List.toArray (katRev false vs)).zip (List.toArray (katRev false vs)) from rfl]
   apply Array.toList_inj.mp;rw[Array.toList_map,ksk_zip];show (List.zip (katRev false vs) (katRev false vs)).map Prod.snd=katRev false vs;exact List.map_snd_zip (Pp _)
  rw[hz];refine Pa (K6 ho6 rfl ?_);rw[show List.toArray (katRev false vs)=List.toArray (katRev false (katRev false vs)) from rfl]
  refine Pa (KB ho6 rfl ?_ (hsz2:=by rw[Pf];(try rw[kat_len]);(try rw[kat_len]);rw[NC];omega))
  simp only[KR,Nb,Nz];refine Pl (fin (katRev false vs) (kat_len false vs) ⟨List.toArray (List.range vs.length),KD _,r1 (by rw[Pf] at h2;exact h2),?_⟩)
  rw[<-hrl];exact (Jx _).symm
 ·rw[Pi h2,Pi h2]
  have l2:2<=vs.length:=by rw[Pf] at h2;omega
  refine Pa (K.kind l2 _ _ _ lat ?_);rw[show vs.toArray.zip vs.toArray=(List.toArray (katRev false vs)).zip (List.toArray (katRev false vs)) from rfl]
  obtain⟨p,e1,e2,e3⟩:=r2 l2;refine Pa (Nq (kat_run (s:={ s with heap:=h1 }) (vs:=katRev false vs) (ks:=katRev false vs) (κ:=κ) (G:=λp' s'=>s'={ s with heap:=h1 }/\p'=p) (Q:=λst' s'=>s'={ s with heap:=h1 }/\failedOf st'=none/\(arrOf st').map (·.2)=List.toArray (p.toList.map λi=>(katRev false vs).getD i Value.none)) rfl (by rw[hrl];exact l2) (by rw[hrl];exact h64)
   (λp' st' s' a1 a2 a3 a4=>⟨a4.1,a3,by rw[kat_snds rfl a2,a4.2]⟩) (by
    rw[hrl];refine xc (n:=vs.length) (lt:=ltR false vs.length lt) (λi j hi hj C hC=>?_) e1 ⟨rfl,rfl⟩
    unfold kas_ask;rw[W5 hi,W5 hj];exact K.cmp i j hi hj _ _ _ lat hC)) ?_ λ_ _ x=>x)
  rintro ⟨⟨⟩,st'⟩ s' ⟨rfl,hf,har⟩
  dsimp only
  rw[har];have hl:(p.toList.map λi=>(katRev false vs).getD i Value.none).length=vs.length:=by rw[Pj,NK,e2.size]
  refine Pa (K6 ho6 rfl ?_);rw[show List.toArray (p.toList.map λi=>(katRev false vs).getD i Value.none)=List.toArray (katRev false (p.toList.map λi=>(katRev false vs).getD i Value.none)) from rfl]
  refine Pa (KB ho6 rfl ?_ (hsz2:=by rw[Pf];(try rw[kat_len]);rw[hl,NC];omega))
  rw[hf];simp only[KR,Nb,Nz];exact Pl (fin _ hl ⟨p,e2,e3,rfl⟩)
theorem QN {R:Array Nat->Prop}{l:Addr}{vs:List Value}{κ:SortKind}{lt:Nat->Nat->Bool}{Q:Value->Shared->Prop}(hl:s.heap.IsList l vs.toArray) (h64:vs.length<64) (r1:vs.length<2->R (List.toArray (List.range vs.length))) (r2:2<=vs.length->∃p,evT vs.length (ltR false vs.length lt) (kas_sort vs.length)=some p/\Pm vs.length p/\R p) (K:Asks prog w A.in1.in1 s.heap vs κ lt)
  (h:∀p,Pm vs.length p->R p->Q (.ref (s.heap.objs.size+1)) { s with heap:=sortedAll s.heap vs (List.toArray (katRev false (p.toList.map λi=>(katRev false vs).getD i Value.none))) }) :
  wpAny (model prog w) A (call (.builtin "sorted") [.ref l]) Q E s:=by
 refine Calls.call_function_entry kind_sorted plain_sorted entry_sorted (args_sorted1 _) ?_;unfold Builtin.«sorted»;refine Pa (m:=checkCount "sorted" 1 1 _) (Pl ?_);refine Pa (collect_list hl ?_);refine Pa (wpAny_newList ?_);have hsz:((s.heap.push (seqObj "list" #[] 0)).update s.heap.objs.size (Obj.mapSeq (·++vs.toArray))).objs.size=s.heap.objs.size+1:=by
  rw[Kh,size_push']
 have hoL:(((s.heap.push (seqObj "list" #[] 0)).update s.heap.objs.size (Obj.mapSeq (·++vs.toArray))).push (seqObj "list" vs.toArray 0)).get? (s.heap.objs.size+1)=some (seqObj "list" vs.toArray 0):=by
  rw[<-hsz];exact Pz _ rfl
 show wpAny _ _ _ _ _ { s with heap:=((s.heap.push (seqObj "list" #[] 0)).update s.heap.objs.size (Obj.mapSeq (·++vs.toArray))).push (seqObj "list" vs.toArray 0) }
 rw[hsz];refine Pa (Nl (NO slot_list_sort ⟨_,hoL,rfl⟩ entry_list_sort (JJ (R:=R) (h0:=s.heap) hoL h64 (λb o e=>?_) r1 r2 K λp a1 a2=>⟨_,rfl,?_⟩) (args_list_sort _)))
 ·have hlt:b<s.heap.objs.size:=Pw e
  refine⟨PX (NT hlt),?_⟩;rw[NH _ _ _ (by rw[hsz];exact PX (NT hlt)),Ky _ _ _ _ (PX hlt),NH _ _ _ (PX hlt)]
  exact e
 ·exact Pl ⟨_,rfl,h p a1 a2⟩
theorem JF {l:Addr}{vs:List Value}{κ:SortKind}{lt:Nat->Nat->Bool}{Q:Value->Shared->Prop}(hl:s.heap.IsList l vs.toArray) (h64:vs.length<64) (O:Ord vs.length lt) (K:Asks prog w A.in1.in1 s.heap vs κ lt)
  (h:∀p,Pm vs.length p->Up (ltR false vs.length lt) p vs.length->Q (.ref (s.heap.objs.size+1)) { s with heap:=sortedAll s.heap vs (List.toArray (katRev false (p.toList.map λi=>(katRev false vs).getD i Value.none))) }) :
  wpAny (model prog w) A (call (.builtin "sorted") [.ref l]) Q E s:=
 QN (R:=λp=>Up (ltR false vs.length lt) p vs.length) hl h64 (λh2 i j a1 a2=>by omega) (λh2=>Gs (Gi (b:=false) O) (by omega)) K h
theorem zw {α:Type}{n:Nat}{lt lt':Nat->Nat->Bool}(h:∀i j,i<n->j<n->lt i j=lt' i j):∀t:KasT α,evT n lt t=evT n lt' t
 |.ret _=>rfl
 |.ask i j k=>by
  show (if i<n/\j<n then evT n lt (k (lt i j)) else none)=if i<n/\j<n then evT n lt' (k (lt' i j)) else none
  by_cases c:i<n/\j<n
  ·rw[Pg c,Pg c,h i j c.1 c.2];exact zw h _
  ·rw[Pi c,Pi c]
theorem vL {lt:Nat->Nat->Bool}(h:∀i j,i<2->j<2->lt i j=false):∃p,evT 2 (ltR false 2 lt) (kas_sort 2)=some p/\Pm 2 p/\p=List.toArray (List.range 2):=by
 refine⟨List.toArray (List.range 2),?_,KD _,rfl⟩;rw[zw (lt:=ltR false 2 lt) (lt':=λ_ _=>false) (λi j hi hj=>h i j hi hj)]
 rfl
end
end Sq
namespace Sd
open PySem PySem.Spec PyProof.Rows L2
open Ev (D Ob Store Lc R E Sm Calls Walk Fl Fn Bop Cop Ty Bf Mf ev evs evo evt evw tst run runs)
section
variable {X:Cx}{pq:List (Addr×Obj)}{σ:L2.St}{H:Hp}{s:Shared}{A:Around}{E:Value->Shared->Prop}{b:Bool}{Q:Value->Shared->Prop}
theorem xx {x:V}{u t:Value}{tp:Addr}{dd:Option Addr}{its:List Value}{n:Nat}{sl:Array (Option Value)}(I:Inv X pq σ H s) (rx:ZF x u) (ty:TyOf X.K H x t) (htp:s.heap.get? tp=some ⟨.type "tuple",dd,.seq its.toArray n,sl⟩)
  (e:PySem.W.kitAny X.K t its=some b) (h:∀tk,Q (.bool b) { s with toks:=tk }):wpAny (model X.prog X.w) A (call (.builtin "isinstance") [u,.ref tp]) Q E s:=by
 cases ty with
 |non=>cases (show u=Value.none from rx);exact Nu PySem.W.kitx_none I.kIn True.intro htp e (λz=>nomatch z) h
 |bl y=>cases (show u=Value.bool y from rx);exact Nu PySem.W.kitx_bool I.kIn True.intro htp e (λz=>nomatch z) h
 |int i=>obtain⟨t,q⟩:=(show ∃t,u=Value.int i t from rx);cases q;exact Nu PySem.W.kitx_int I.kIn True.intro htp e (λz=>nomatch z) h
 |str y=>obtain⟨t,q⟩:=(show ∃t,u=Value.str y t from rx);cases q;exact Nu PySem.W.kitx_str I.kIn True.intro htp e (λz=>nomatch z) h
 |flt y=>obtain⟨t,q⟩:=(show ∃t,u=Value.float y t from rx);cases q;exact Nu PySem.W.kitx_float I.kIn True.intro htp e (λz=>nomatch z) h
 |@lst a xs ea=>
  cases (show u=Value.ref a from rx);obtain⟨_,_,n,_,h1⟩:=(show ZZ X.prog X.w H s.heap a (.lst xs) from I.hok a _ ea)
  exact Nu KL I.kIn ⟨_,h1,rfl⟩ htp e (λz=>nomatch z) h
 |@frz a ob xs ea=>
  cases (show u=Value.ref a from rx);obtain⟨_,_,_,n,_,h1⟩:=(show ZZ X.prog X.w H s.heap a (.frz ob (.lst xs)) from I.hok a _ ea)
  exact Nu KL I.kIn ⟨_,h1,rfl⟩ htp e (λz=>nomatch z) h
 |@tup a xs ea=>
  cases (show u=Value.ref a from rx);obtain⟨_,_,_,p⟩:=(show ZZ X.prog X.w H s.heap a (.tup xs) from I.hok a _ ea)
  obtain⟨o,h1,h2,_⟩:=p;exact Nu PySem.W.kitx_tuple I.kIn ⟨o,h1,h2⟩ htp e (λz=>nomatch z) h
 |@dK a kvs ea=>
  cases (show u=Value.ref a from rx);obtain⟨_,_,vs,_,p⟩:=(show ZZ X.prog X.w H s.heap a (.dK kvs) from I.hok a _ ea)
  obtain⟨o,es,ep,h1,h2,_⟩:=p;exact Nu KM I.kIn ⟨o,h1,h2.1⟩ htp e (λz=>nomatch z) h
 |@dT a kvs ea=>
  cases (show u=Value.ref a from rx);obtain⟨_,_,xs,_,o,es,ep,h1,h2,_⟩:=(show ZZ X.prog X.w H s.heap a (.dT kvs) from I.hok a _ ea)
  exact Nu KM I.kIn ⟨o,h1,h2.1⟩ htp e (λz=>nomatch z) h
 |@ins a C dx fs ea cl ha hn htk hm=>
  cases (show u=Value.ref a from rx);obtain⟨mA,O,_⟩:=xP I.hok ea
  obtain⟨od,J,_⟩:=O.look;exact Nu (PySem.W.kitx_own (cl.get _) cl.hd ha hn htk hm) I.kIn J htp e (λz=>nomatch z) h
end
section
variable {X:Cx}{xw:Nat->Hp->Prop}{C:Calls}{e a b c:Expr}{i j k:E}{pos p p' p2 p3:Pos}
theorem vQ (T U:String):ZT X (.builtin "isinstance") (λvs H Q=>∃v tv n q,vs=[v,.ref q]/\H q=some (.tup [.ty T,.ty U])/\TyOf X.K H v tv/\PySem.W.kitAny X.K tv [.type T,.type U]=some n/\Q (.bl n) H):=by
 intro pq s σ H vs us Q I r h;obtain⟨v,tv,n,q,rfl,hq,ty,e,qq⟩:=h;obtain⟨u,w',rfl,r1,r2⟩:=vals2 r;cases r2;obtain⟨its,rv,⟨o,ho,hc,m,hd⟩,_⟩:=I.tuple (SqT.of hq);obtain⟨cls,dd,data,sl⟩:=o;simp only at hc hd;subst hc hd;obtain⟨z1,z2,rfl,q1,q2⟩:=vals2 rv;cases q1;cases q2;exact xx I r1 ty ho e λtk=>⟨.bl n,H,I.tok tk,rfl,qq⟩
theorem TyOf.later {K:PySem.W.Frag}{H:Hp}{v:V}{tv:Value}{q:Addr}{o:HO}(h:TyOf K H v tv) (hq:H q=none):TyOf K (upd H q o) v tv:=by
 cases h with
 |non=>exact .non
 |bl b=>exact .bl b
 |int b=>exact .int b
 |str b=>exact .str b
 |flt b=>exact .flt b
 |lst e=>exact .lst (by rw[ZI (ZE e hq)];exact e)
 |frz e=>exact .frz (by rw[ZI (ZE e hq)];exact e)
 |tup e=>exact .tup (by rw[ZI (ZE e hq)];exact e)
 |dK e=>exact .dK (by rw[ZI (ZE e hq)];exact e)
 |dT e=>exact .dT (by rw[ZI (ZE e hq)];exact e)
 |ins e a1 a2 a3 a4 a5=>exact .ins (by rw[ZI (ZE e hq)];exact e) a1 a2 a3 a4 a5
theorem TyOf.uniq {K:PySem.W.Frag}{H:Hp}{v:V}{t1 t2:Value}(h1:TyOf K H v t1) (h2:TyOf K H v t2):t1=t2:=by
 cases h1 <;> cases h2 <;> first | rfl | simp_all
theorem J4 {T U:Str}{t u:Ty}{k0:Nat}{p4:Pos}(ht:∀m,t≠.cls m) (hu:∀m,u≠.cls m) (hm:X.mg "isinstance" = none) (hmT:X.mg T=none) (hmU:X.mg U=none) (ha:CE X xw C a i) (hg:Gl X "isinstance":=by rfl) (hgT:Gl X T:=by rfl) (hgU:Gl X U:=by rfl) (hvT:bootBuiltins T=some (.type (ZL t)):=by rfl) (hvU:bootBuiltins U=some (.type (ZL u)):=by rfl) (hnT:T≠"__name__":=by decide) (hdT:(T == ("__debug__" : Str))=false:=by decide) (hnU:U≠"__name__":=by decide) (hdU:(U == ("__debug__" : Str))=false:=by decide)
  (hs0:starEach [.Name T p2,.Name U p3] X.env=(false,eval (.Name T p2) X.env)::starEach [.Name U p3] X.env:=by rfl) (hs00:starEach [.Name U p3] X.env=(false,eval (.Name U p3) X.env)::starEach [] X.env:=by rfl)
  (hs1:starEach [a,.Tuple [.Name T p2,.Name U p3] k0 p4] X.env=(false,eval a X.env)::starEach [.Tuple [.Name T p2,.Name U p3] k0 p4] X.env:=by rfl) (hs2:starEach [.Tuple [.Name T p2,.Name U p3] k0 p4] X.env=(false,eval (.Tuple [.Name T p2,.Name U p3] k0 p4) X.env)::starEach [] X.env:=by rfl) (hpl:(backTo pos (starEach [.Tuple [.Name T p2,.Name U p3] k0 p4] X.env)).any (·.1)=false:=by rfl) :
  CE X xw C (.Call (.Name "isinstance" p) [a,.Tuple [.Name T p2,.Name U p3] k0 p4] [] pos) (.isi i [t,u]):=
 PE.imp (U0 (vQ (ZL t) (ZL u)) hg hm (by rfl) (XS ha (XS (uD (XS (Gg (v:=.ty (ZL t)) hgT hmT hvT rfl hnT hdT) (XS (Gg (v:=.ty (ZL u)) hgU hmU hvU rfl hnU hdU) Gz hs00) hs0)) Gz hs2) hs1) (by decide) (by decide) hs1 hpl) λσ H Q ⟨ρ,l,S,st,lr,h⟩=>by
  refine⟨ρ,l,S,st,lr,End.bind (show End X.K xw Rep ρ H Q ((ev C i l S).bind _) from h) λx S1 ρ1 H1 v f1 st1 r1 h1=>⟨by show 2<=sizeLine;rw[NC];omega,λq hq=>?_⟩⟩
  obtain⟨n,hn,h2⟩:=End.ob h1;have st2:=st1.fresh (o:=.tup [.ty (ZL t),.ty (ZL u)]) hq;have f2:=Yg (ρ:=ρ1) (o:=.tup [.ty (ZL t),.ty (ZL u)]) hq;have fin:∀tv,TyOf X.K H1 v tv->PySem.W.kitAny X.K tv [.type (ZL t),.type (ZL u)]=some n->_:=λtv ty e=>(⟨v,tv,n,q,rfl,Yj,TyOf.later ty hq,e,h2 ρ1 _ _ f2 st2 (Zq n)⟩:∃v' tv n q',[v,V.ref q]=[v',.ref q']/\upd H1 q (.tup [.ty (ZL t),.ty (ZL u)]) q'=some (.tup [.ty (ZL t),.ty (ZL u)])/\TyOf X.K (upd H1 q (.tup [.ty (ZL t),.ty (ZL u)])) v' tv/\PySem.W.kitAny X.K tv [.type (ZL t),.type (ZL u)]=some n/\Q (.bl n) (upd H1 q (.tup [.ty (ZL t),.ty (ZL u)])))
  unfold Ev.UK at hn;cases q1:Ev.zJ S1 x t with
  |none=>rw[q1] at hn;cases hn
  |some m=>
   rw[q1] at hn;obtain⟨tv,ty,e⟩:=yZ st1 r1 ht q1;cases m with
   |true=>
    have hn':n=true:=(Pb hn).symm;exact fin tv ty (by unfold PySem.W.kitAny;rw[e,hn'])
   |false=>
    have hn1:(match Ev.zJ S1 x u with
     |some true=>some true
     |some false=>Ev.UK S1 x []
     |none=>none)=some n:=hn
    cases q2:Ev.zJ S1 x u with
    |none=>rw[q2] at hn1;cases hn1
    |some m2=>
     rw[q2] at hn1;obtain⟨tv2,ty2,e2⟩:=yZ st1 r1 hu q2;have et:tv2=tv:=TyOf.uniq ty2 ty;subst et;refine fin tv2 ty ?_;unfold PySem.W.kitAny;rw[e];show PySem.W.kitAny X.K tv2 [.type (ZL u)]=some n;unfold PySem.W.kitAny;rw[e2];cases m2 with
     |true=>exact hn1
     |false=>exact hn1
end
end Sd
namespace Sd
open Ev (ltI WW ZM)
theorem Uu:∀{x y:List Int},x≠y->ltI x y=false->ltI y x=true
 |[],[],h,_=>absurd rfl h
 |[],_::_,_,h=>by cases h
 |_::_,[],_,_=>rfl
 |a::x,b::y,h,e=>by
  unfold ltI at e ⊢;by_cases c:a=b
  ·subst c
   rw[Pg rfl] at e ⊢;exact Uu (λz=>h (by rw[z])) e
  ·rw[Pi c] at e
   rw[Pi (Ne.symm c)];have:=of_decide_eq_false e;exact PC (by omega)
theorem WD:∀{x y:List Int},ltI x y=true->ltI y x=false
 |[],[],h=>by cases h
 |[],_::_,_=>rfl
 |_::_,[],h=>by cases h
 |a::x,b::y,e=>by
  unfold ltI at e ⊢;by_cases c:a=b
  ·subst c
   rw[Pg rfl] at e ⊢;exact WD e
  ·rw[Pi c] at e
   rw[Pi (Ne.symm c)];have:=Pq e;exact PV (by omega)
theorem JE:∀{x y z:List Int},ltI x y=true->ltI y z=true->ltI x z=true
 |[],[],_,h,_=>by cases h
 |_::_,[],_,h,_=>by cases h
 |_,_::_,[],_,h=>by cases h
 |[],_::_,_::_,_,_=>rfl
 |a::x,b::y,c::z,e,f=>by
  unfold ltI at e f ⊢;by_cases h1:a=b
  ·subst h1
   rw[Pg rfl] at e;by_cases h2:a=c
   ·subst h2
    rw[Pg rfl] at f ⊢;exact JE e f
   ·rw[Pi h2] at f ⊢;exact f
  ·rw[Pi h1] at e
   have e':=Pq e;by_cases h2:b=c
   ·subst h2
    rw[Pi h1];exact e
   ·rw[Pi h2] at f
    have f':=Pq f;rw[Pi (by omega)]
    exact PC (by omega)
theorem VD (x:List Int):∀l:List (List Int),(WW x l).Perm (x::l)
 |[]=>NA _
 |y::r=>by
  unfold WW;split
  ·exact NA _
  ·exact ((VD x r).cons y).trans (List.Perm.swap x y r)
theorem Y0:∀l:List (List Int),(ZM l).Perm l
 |[]=>NA _
 |x::r=>(VD x (ZM r)).trans ((Y0 r).cons x)
theorem V7 (x:List Int):∀{l:List (List Int)},(∀y∈l,x≠y)->l.Pairwise (λa b=>ltI a b=true)->(WW x l).Pairwise (λa b=>ltI a b=true)
 |[],_,_=>by unfold WW;exact Nk ..
 |y::r,hn,h=>by
  rw[PK] at h;unfold WW;split
  ·rename_i c
   rw[PK,PK];refine⟨λz hz=>?_,h⟩
   rcases Pk.mp hz with rfl | hz
   ·exact c
   ·exact JE c (h.1 z hz)
  ·rename_i c
   rw[PK];refine⟨λz hz=>?_,V7 x (λy hy=>hn y (Pd _ hy)) h.2⟩
   rcases Pk.mp ((VD x r).mem_iff.mp hz) with rfl | hz
   ·exact Uu (hn y (Pe ..)) (by simpa using c)
   ·exact h.1 z hz
theorem XF:∀{l:List (List Int)},l.Nodup->(ZM l).Pairwise (λa b=>ltI a b=true)
 |[],_=>List.Pairwise.nil
 |x::r,h=>by
  rw[NB] at h;exact V7 x (λy hy e=>h.1 (by rw[e];exact (Y0 r).mem_iff.mp hy)) (XF h.2)
theorem Wh:∀{a b:List (List Int)},a.Perm b->a.Pairwise (λx y=>ltI x y=true)->b.Pairwise (λx y=>ltI x y=true)->a=b
 |[],b,p,_,_=>(List.Perm.nil_eq p)
 |x::a,[],p,_,_=>by have:=p.length_eq;simp at this
 |x::a,y::b,p,ha,hb=>by
  rw[PK] at ha hb;have e:x=y:=by
   rcases Pk.mp (p.mem_iff.mp (Pe ..)) with h | h
   ·exact h
   ·rcases Pk.mp (p.mem_iff.mpr (Pe (a:=y) (l:=b))) with h2 | h2
    ·exact h2.symm
    ·have z1:=hb.1 x h
     have z2:=ha.1 y h2;rw[WD z1] at z2;cases z2
  subst e;rw[Wh (List.perm_cons x |>.mp p) ha.2 hb.2]
end Sd
namespace Sd
open PySem PySem.Spec PyProof.Rows L2
open Ev (D Ob Store Lc R E Sm Calls Walk Fl Fn Bop Cop Ty Bf Mf ev evs evo evt evw tst run runs ltI WW ZM ZK UZ X4 sortOk)
noncomputable def Ua (fin:Bool):List Int->List Int->Bool
 |[],_=>fin
 |_::_,[]=>fin
 |a::x,b::y=>if a=b then Ua fin x y else decide (a<b)
theorem J6:∀(x y:List Int),Ua (decide (x.length<y.length)) x y=ltI x y
 |[],[]=>rfl
 |[],_::_=>by unfold Ua ltI;simp
 |_::_,[]=>by unfold Ua ltI;simp
 |a::x,b::y=>by
  unfold Ua ltI;have:decide ((a::x).length<(b::y).length)=decide (x.length<y.length):=by simp
  rw[this,J6 x y]
section
variable {prog:Program}{w:World}{A:Around}{s:Shared}
theorem z5 {b fin:Bool}{C:Bool->Shared->Prop}:∀{x y:List Int}{u v:List Value}{i:Nat},Vals (x.map V.int) u->Vals (y.map V.int) v->C (Ua fin x y) s->PySem.W.KatLex prog w A b fin C (u.zip v) i s
 |[],_,_,_,_,.nil,_,h=>by rw[Ko];exact Tb h
 |_::_,[],_,_,_,_,.nil,h=>by rw[Kj];exact Tb h
 |a::x,c::y,_,_,i,.cons ra ta,.cons rb tb,h=>by
  obtain⟨t,rfl⟩:=ra;obtain⟨t',rfl⟩:=rb;rw[Nf];refine PySem.W.kat_cons (wpAny_eqBool_int ?_);unfold Ua at h;by_cases e:a=c
  ·rw[Pg e] at h
   rw[beq_iff_eq.mpr e];exact PySem.W.kat_yes (z5 ta tb h)
  ·rw[Pi e] at h
   rw[NJ.mpr e];refine PySem.W.kat_no ?_;cases q:(b&&i == 0) with
   |true=>exact oneLt_int h
   |false=>exact PySem.W.kat_one _ _ (lt_int h)
end
section
variable {X:Cx}{pq:List (Addr×Obj)}{σ:L2.St}{H:Hp}{s:Shared}{ρ:List Addr}
inductive RowsAt (h:Heap):List (List Int)->List Value->Prop where
 |nil:RowsAt h [] []
 |cons {r:List Int} {rs:List (List Int)} {vs:List Value} {a:Addr} {o:Obj} {us:List Value} {m:Nat} (ho:h.get? a=some o) (hc:o.cls=.type "tuple") (hd:o.data=.seq us.toArray m) (hv:Vals (r.map V.int) us) (t:RowsAt h rs vs):RowsAt h (r::rs) (.ref a::vs)
theorem Qj:∀{ks:List D}{k:List Int},Ev.YQ ks=some k->ks=k.map D.int
 |[],k,h=>by cases h;rfl
 |.int n::ks,k,h=>by
  have h':(Ev.YQ ks).map (n :: ·)=some k:=h
  cases q:Ev.YQ ks with
  |none=>rw[q] at h';cases h'
  |some k'=>
   rw[q] at h';have e:n::k'=k:=Pb h';rw[<-e,Qj q];rfl
 |.non::_,_,h | .bl _::_,_,h | .str _::_,_,h | .tup _::_,_,h | .loc _::_,_,h | .fn _::_,_,h | .exc _ _::_,_,h=>by cases h
theorem vS {d:D}{r:List Int}(h:UZ d=some r):d=X4 r:=by
 cases d with
 |tup ks=>exact congrArg D.tup (Qj h)
 |_=>cases h
theorem Rq.intsV:∀{r:List Int}{xs:List V},Rq ρ H (r.map D.int) xs->xs=r.map V.int
 |[],xs,h=>by unfold Rq at h;exact h
 |n::r,xs,h=>by
  have h':Rq ρ H (D.int n::r.map D.int) xs:=h;unfold Rq at h';obtain⟨v,vs,rfl,a,b⟩:=h';rw[a.int',Rq.intsV b];rfl
theorem W4 (I:Inv X pq σ H s):∀{ds:List D}{rs:List (List Int)}{xs:List V}{its:List Value},ZK ds=some rs->Rq ρ H ds xs->Vals xs its->RowsAt s.heap rs its/\ds=rs.map X4
 |[],rs,xs,its,h,r,v=>by
  unfold Rq at r;subst r;cases v;cases h;exact⟨.nil,rfl⟩
 |d::ds,rs,xs,its,h,r,v=>by
  unfold Rq at r;obtain⟨x,xs',rfl,r1,r2⟩:=r;cases v with
  |cons v1 v2=>
   unfold ZK at h;cases q1:UZ d with
   |none=>rw[q1] at h;cases h
   |some a=>
    cases q2:ZK ds with
    |none=>rw[q1,q2] at h;cases h
    |some b=>
     rw[q1,q2] at h;cases h;obtain⟨t,e⟩:=W4 I q2 r2 v2;have ed:=vS q1;subst ed;obtain⟨p,ys,rfl,hp,ry⟩:=r1.tup';have ey:=Rq.intsV ry;subst ey;cases v1;obtain⟨us,rv,⟨o,ho,hc,m,hd⟩,_⟩:=I.tuple (SqT.of hp);exact⟨.cons ho hc hd rv t,by rw[e];rfl⟩
theorem RowsAt.length {h:Heap}:∀{rs:List (List Int)}{vs:List Value},RowsAt h rs vs->rs.length=vs.length
 |_,_,.nil=>rfl
 |_,_,.cons _ _ _ _ t=>by rw[Px,Px,RowsAt.length t]
theorem RowsAt.at {h:Heap}:∀{rs:List (List Int)}{vs:List Value}(i:Nat),RowsAt h rs vs->i<vs.length->∃a o us m,vs.getD i Value.none=.ref a/\h.get? a=some o/\o.data=.seq us.toArray m/\Vals ((rs.getD i []).map V.int) us
 |_,_,_,.nil,hi=>by simp at hi
 |_,_,0,.cons ho hc hd hv t,_=>⟨_,_,_,_,rfl,ho,hd,hv⟩
 |_,_,i+1,.cons ho hc hd hv t,hi=>by
  obtain⟨a,o,us,m,e1,e2,e3,e4⟩:=RowsAt.at i t (by simpa using hi)
  exact⟨a,o,us,m,by simpa using e1,e2,e3,by simpa using e4⟩
theorem RowsAt.tups {h h':Heap}(k:Sq.Lat h h'):∀{rs:List (List Int)}{vs:List Value},RowsAt h rs vs->(∀r∈rs,r≠[])->∃fs,PySem.W.KatTups h' vs fs/\fs.length=vs.length/\∀v∈fs,∃n t,v=Value.int n t
 |_,_,.nil,_=>⟨[],.nil,rfl,λv hv=>by cases hv⟩
 |_,_,.cons (r:=r) (us:=us) ho hc hd hv t,hn=>by
  obtain⟨fs,t1,t2,t3⟩:=RowsAt.tups k t λr hr=>hn r (Pd _ hr)
  have hr:=hn r (Pe ..);cases r with
  |nil=>exact absurd rfl hr
  |cons n r=>
   obtain⟨u,g,rel⟩:=hv.get (i:=0) (x:=V.int n) rfl;refine⟨u::fs,.cons (k _ _ ho) hc hd (by simpa using g) t1,by rw[Px,Px,t2],λv hv=>?_⟩
   rcases Pk.mp hv with rfl | hv
   ·obtain⟨tk,e⟩:=rel
    exact⟨n,tk,e⟩
   ·exact t3 v hv
theorem wO {prog:Program}{w:World}{A:Around}{h:Heap}{rs:List (List Int)}{vs:List Value}(R:RowsAt h rs vs) (hn:∀r∈rs,r≠[]):Sq.Asks prog w A h vs (tuples' true) (λi j=>ltI (rs.getD i []) (rs.getD j [])):=by
 refine⟨λh2 s' E Q k q=>?_,λi j hi hj s' C E k q=>?_⟩
 ·obtain⟨fs,t1,t2,t3⟩:=R.tups k hn
  exact PySem.W.kat_kind (T:=.type "int") t1 (by omega) (λv hv=>by obtain⟨n,t,rfl⟩:=t3 v hv;exact PySem.W.Looks.of_pure rfl) rfl q
 ·obtain⟨a,o,us,m,e1,e2,e3,e4⟩:=R.at i hi
  obtain⟨a',o',us',m',f1,f2,f3,f4⟩:=R.at j hj;rw[e1,f1];refine PySem.W.kat_lt (k _ _ e2) e3 (k _ _ f2) f3 (z5 e4 f4 ?_);have l1:us.toArray.size=(rs.getD i []).length:=by rw[Pf,<-e4.length,Pj]
  have l2:us'.toArray.size=(rs.getD j []).length:=by rw[Pf,<-f4.length,Pj]
  rw[l1,l2,J6];exact q
theorem uE {rs:List (List Int)}{n:Nat}(hn:rs.Nodup) (hl:rs.length=n):Sq.Ord n (λi j=>ltI (rs.getD i []) (rs.getD j [])):=by
 have hd:∀i j,i<n->j<n->i≠j->rs.getD i []≠rs.getD j []:=λi j hi hj ne e=>by
  simp only[Po] at e;have hi':i<rs.length:=by omega
  have hj':j<rs.length:=by omega
  refine ne ((List.getElem?_inj hi' hn).mp ?_);rw[Pc hi',Pc hj'] at e ⊢;exact congrArg some e
 exact⟨λi j hi hj ne e=>Uu (hd i j hi hj ne) e,λi j _ _ e=>WD e,λi j k _ _ _ e f=>JE e f⟩
theorem Qv {α β:Type}(b:Bool) (f:α->β) (l:List α):PySem.W.katRev b (l.map f)=(PySem.W.katRev b l).map f:=by
 cases b
 ·rfl
 ·exact K0.symm
theorem V1 {α:Type}(b:Bool) (l:List α):(PySem.W.katRev b l).Perm l:=by
 cases b
 ·exact NA _
 ·exact List.reverse_perm l
theorem Xb {α:Type}{d:α}{b:Bool}{vs:List α}{i:Nat}(hi:i<vs.length):(PySem.W.katRev b vs).getD i d=vs.getD (if b=true then vs.length-1-i else i) d:=by
 cases b
 ·rfl
 ·show vs.reverse.getD i d=vs.getD (vs.length-1-i) d
  simp only[Po];rw[KU hi]
theorem qd {rs:List (List Int)}{b:Bool}{p:Array Nat}(hn:rs.Nodup) (h1:Sq.Pm rs.length p) (h2:Sq.Up (Sq.ltR b rs.length λi j=>ltI (rs.getD i []) (rs.getD j [])) p rs.length) :
  (p.toList.map λi=>(PySem.W.katRev b rs).getD i [])=ZM rs:=by
 have hp:p.toList.Perm (List.range rs.length):=by simpa using Nr.mp h1
 have hl:p.toList.length=rs.length:=by rw[hp.length_eq,P0]
 refine Wh ?_ ?_ (XF hn)
 ·refine ((hp.map _).trans ?_).trans (Y0 rs).symm
  have e:(List.range rs.length).map (λi=>(PySem.W.katRev b rs).getD i [])=PySem.W.katRev b rs:=by
   apply List.ext_getElem?
   intro i;rw[PH];by_cases h:i<rs.length
   ·have:i<(PySem.W.katRev b rs).length:=by rw[N9];exact h
    rw[NW h];simp[this]
   ·have:(PySem.W.katRev b rs).length<=i:=by rw[N9];omega
    simp[Kt h,this]
  rw[e];exact V1 b rs
 ·rw[NI,No]
  intro i j hi hj hij;have g1:p.toList[i]=Sq.g p i:=by
   have:=Sq.yO (p:=p) (i:=i) (by simpa using hi)
   rw[<-Ny,Pc hi] at this;exact Pb this
  have g2:p.toList[j]=Sq.g p j:=by
   have:=Sq.yO (p:=p) (i:=j) (by simpa using hj)
   rw[<-Ny,Pc hj] at this;exact Pb this
  rw[g1,g2,Xb (h1.lt (by omega)),Xb (h1.lt (by omega))]
  have:=h2 i j hij (by omega)
  unfold Sq.ltR at this;cases b
  ·exact this
  ·exact this
theorem uN {F:List Nat}{xs:List V}{rs:List (List Int)}(h:Rq ρ H (rs.map X4) xs) (hF:∀i∈F,i<rs.length):Rq ρ H ((F.map λi=>rs.getD i []).map X4) (F.map λi=>xs.getD i V.non):=by
 induction F with
 |nil=>exact Rq.nil
 |cons i F ih=>
  refine Rq.cons ?_ (ih λj hj=>hF j (Pd _ hj))
  have hi:=hF i (Pe ..);obtain⟨v,g,r⟩:=h.get (i:=i) (d:=X4 rs[i]) (by rw[PH,Pc hi];rfl)
  show Rep ρ H (X4 (rs.getD i [])) (xs.getD i V.non);rw[Po,Po,g,Pc hi];exact r
theorem zh {F:List Nat}{xs:List V}{us:List Value}(h:Vals xs us) (hF:∀i∈F,i<xs.length):Vals (F.map λi=>xs.getD i V.non) (F.map λi=>us.getD i Value.none):=by
 induction F with
 |nil=>exact .nil
 |cons i F ih=>
  refine .cons ?_ (ih λj hj=>hF j (Pd _ hj))
  have hi:=hF i (Pe ..);obtain⟨u,g,r⟩:=h.get (Pc hi);show ZF (xs.getD i V.non) (us.getD i Value.none);rw[Po,Po,g,Pc hi];exact r
theorem zF {b:Bool}{ds:List D}{xs:List V}(h:Rq ρ H ds xs):Rq ρ H (PySem.W.katRev b ds) (PySem.W.katRev b xs):=by
 cases b
 ·exact h
 ·exact h.reverse
theorem zn {b:Bool}:∀{xs:List V}{us:List Value},Vals xs us->Vals (PySem.W.katRev b xs) (PySem.W.katRev b us):=by
 cases b
 ·exact λh=>h
 ·have snoc:∀{xs:List V} {us:List Value} {x:V} {u:Value},Vals xs us->ZF x u->Vals (xs++[x]) (us++[u]):=by
   intro xs us x u h r
   induction h with
   |nil=>exact .cons r .nil
   |cons a _ ih=>exact .cons a ih
  intro xs us h;show Vals xs.reverse us.reverse
  induction h with
  |nil=>exact .nil
  |cons r t ih=>rw[Ka,Ka];exact snoc ih r
end
section
variable {X:Cx}{xw:Nat->Hp->Prop}{C:Calls}{e a b c:Expr}{i j k:E}{pos p p' p2 p3:Pos}
noncomputable def u9 (K:PySem.W.Frag) (xw:Nat->Hp->Prop) (b:Bool):List V->Hp->VK->Prop:=λvs H Q=>∃ρ S n,St3 K ρ S H/\Rq ρ H [.loc n] vs/\End K xw Rep ρ H Q (Ev.sorted b n S)
theorem QP {pq:List (Addr×Obj)}{s:Shared}{σ:L2.St}{H:Hp}{vs:List V}{us:List Value}{Q:VK}{b:Bool}(I:Inv X pq σ H s) (r:Vals vs us) (h:u9 X.K xw b vs H Q) :
  ∃(l:Addr) (its:List Value) (rs:List (List Int)),us=[.ref l]/\s.heap.IsList l its.toArray/\its.length<64/\rs.length=its.length/\Sq.Ord its.length (λi j=>ltI (rs.getD i []) (rs.getD j []))/\(∀A,Sq.Asks X.prog X.w A s.heap its (tuples' true) (λi j=>ltI (rs.getD i []) (rs.getD j [])))/\
   ∀p,Sq.Pm its.length p->Sq.Up (Sq.ltR b its.length λi j=>ltI (rs.getD i []) (rs.getD j [])) p its.length->
    EP X pq σ Q (.ref (s.heap.objs.size+1)) { s with heap:=sortedAll s.heap its (List.toArray (PySem.W.katRev b (p.toList.map λi=>(PySem.W.katRev b its).getD i Value.none))) }:=by
 obtain⟨ρ,S,n,st,rs,h⟩:=h;obtain⟨ds,hl,h1⟩:=End.ob (show End X.K xw Rep ρ H Q ((Ev.ob (Ev.Zh S n) S).bind λxs S=>(Ev.ob (ZK xs) S).bind λrs S=>if sortOk rs=true then .ok (.loc S.length) (S++[.lst ((if b then (ZM rs).reverse else ZM rs).map X4)]) else .no) from h)
 obtain⟨rws,hrw,h2⟩:=End.ob h1;obtain⟨hok,h3⟩:=h2.guard;obtain⟨v,rfl,r1⟩:=reps1 rs;obtain⟨_,l,xs,q1,hx,rx⟩:=st.lst hl;obtain⟨l',rfl,t⟩:=r1.loc';rw[q1] at t;cases t;obtain⟨u,rfl,ru⟩:=vals1 r;cases ru;obtain⟨its,rv,pl,hz⟩:=I.list (SqL.of hx);obtain⟨RA,ed⟩:=W4 I hrw rx rv;obtain⟨hok1,hok3⟩:=(Py _ _).mp hok;obtain⟨hok1,hok2⟩:=(Py _ _).mp hok1;have h64:=Pq hok1;have hnd:=Pq hok2;have hne:∀r∈rws,r≠[]:=λr hr e=>by
  have:=PN.mp hok3 r hr;rw[e] at this;cases this
 have hlen:=RA.length;refine⟨l,its,rws,rfl,pl.isList,by omega,hlen,uE hnd hlen,λA=>wO RA hne,λp hp hu=>?_⟩
 rw[<-hlen] at hp hu;have out:=qd hnd hp hu;have hmem:∀i∈p.toList,i<rws.length:=λi hi=>by
  have hp':p.toList.Perm (List.range rws.length):=by simpa using Nr.mp hp
  exact PQ.mp (hp'.mem_iff.mp hi)
 subst ed;have xl:xs.length=rws.length:=by rw[rx.length,Pj]
 have rx1:Rq ρ H ((PySem.W.katRev b rws).map X4) (PySem.W.katRev b xs):=by rw[<-Qv];exact zF rx
 have rx2:=uN (F:=p.toList) rx1 (by rw[N9];exact hmem)
 rw[out] at rx2;have rx3:=zF (b:=b) rx2;have rv2:=zn (b:=b) (zh (F:=p.toList) (zn (b:=b) rv) (by rw[N9,xl];exact hmem))
 have eb:(if b=true then (ZM rws).reverse else ZM rws)=PySem.W.katRev b (ZM rws):=rfl
 rw[eb,<-Qv] at h3;obtain⟨ep,he⟩:=sortedAll_at s.heap its (List.toArray (PySem.W.katRev b (p.toList.map λi=>(PySem.W.katRev b its).getD i Value.none)))
 refine⟨.ref (s.heap.objs.size+1),_,I.laid (t':=s.toks) (o:=.lst (PySem.W.katRev b (p.toList.map λi=>(PySem.W.katRev b xs).getD i V.non))) (λb ob q=>sortedAll_old q) (Ti _) ?_,rfl,h3.newL st rx3 _ (I.hok.fresh (Ti _))⟩
 refine⟨?_,_,ep,rv2,he⟩;rw[N9,Pj,NK,hp.size,NC];omega
theorem G4:ZT X (.builtin "sorted") (u9 X.K xw false):=by
 intro pq s σ H vs us Q I r h;obtain⟨l,its,rs,rfl,h1,h2,h3,h4,h5,h6⟩:=QP I r h;exact Sq.JF h1 h2 h4 (h5 _) λp a b=>h6 p a b
theorem xV (b:Bool):∀(as:List D) (S:Store),(∃n,as=[.loc n])\/Ev.bltin (if b then .sortedR else .sorted) as S=.no
 |[.loc n],_=>.inl ⟨n,rfl⟩
 |x::_::_,_=>.inr (by cases b <;> cases x <;> rfl)
 |[],_ | [.non],_ | [.str _],_ | [.bl _],_ | [.int _],_ | [.tup _],_ | [.fn _],_ | [.exc _ _],_=>.inr (by cases b <;> rfl)
theorem WV {kp kp2:Pos}{q0}(hm:X.mg "sorted" = none) (ha:CA X xw C [e] [i]) (hg:Gl X "sorted":=by rfl)
  (he:backTo pos (starEach [e] X.env)=(false,eval e X.env)::backTo pos (starEach [] X.env):=by rfl) (hpl:(backTo pos (starEach [e] X.env)).any (·.1)=false:=by rfl) :
  CE X xw C (.Call (.Name "sorted" p) [e] [⟨some "reverse",.Constant (.bool true) q0 kp,kp2⟩] pos) (.blt .sortedR [i]):=by
 intro pq s σ H Q I hq;obtain⟨ρ,l,S,st,lr,h⟩:=hq;refine KF (Xl I hg hm (show bootBuiltins "sorted" = some (.builtin "sorted") from rfl) ?_ (by decide) (by decide))
 refine callWith_kw (thn (ha pos pq s σ H (λvs H1=>u9 X.K xw true vs H1 Q) I ?_) λus s1 ⟨vs,H1,I1,r1,q1⟩=>?_) he hpl rfl rfl
 ·refine⟨ρ,l,S,st,lr,End.bind (show End X.K xw Rep ρ H Q ((evs C [i] l S).bind λxs S=>Ev.bltin .sortedR xs S) from h) λxs S1 ρ1 H1 vs f1 st1 r1 h1=>?_⟩
  rcases xV true xs S1 with ⟨n,rfl⟩ | e
  ·exact⟨ρ1,S1,n,st1,r1,h1⟩
  ·exact (show End X.K xw Rep ρ1 H1 Q (.no:R D) from e▸h1).elim
 ·refine kws_cons (thn (Za0 pq s1 σ H1 (λv H2=>v=.bl true/\H2=H1) I1 ⟨rfl,rfl⟩) λu s2 ⟨x,H2,I2,r2,e1,e2⟩=>kws_nil ?_)
  subst e1 e2;cases r2;obtain⟨l,its,rs,rfl,h1,h2,h3,h4,h5,h6⟩:=QP I2 r1 q1;exact Sq.yR (b:=true) h1 h2 h4 (h5 _) λp a b=>h6 p a b
end
end Sd
namespace Sd
open Ev (ltI ltP Ug Zw)
structure StrictB {α:Type}(lt:α->α->Bool):Prop where
 tot:∀{x y},x≠y->lt x y=false->lt y x=true
 asy:∀{x y},lt x y=true->lt y x=false
 tr:∀{x y z},lt x y=true->lt y z=true->lt x z=true
theorem GA:∀{x y:List (List Int)},x≠y->ltP x y=false->ltP y x=true
 |[],[],h,_=>absurd rfl h
 |[],_::_,_,h=>by cases h
 |_::_,[],_,_=>rfl
 |a::x,b::y,h,e=>by
  unfold ltP at e ⊢;by_cases c:a=b
  ·subst c
   rw[Pg rfl] at e ⊢;exact GA (λz=>h (by rw[z])) e
  ·rw[Pi c] at e
   rw[Pi (Ne.symm c)];exact Uu c e
theorem wb:∀{x y:List (List Int)},ltP x y=true->ltP y x=false
 |[],[],h=>by cases h
 |[],_::_,_=>rfl
 |_::_,[],h=>by cases h
 |a::x,b::y,e=>by
  unfold ltP at e ⊢;by_cases c:a=b
  ·subst c
   rw[Pg rfl] at e ⊢;exact wb e
  ·rw[Pi c] at e
   rw[Pi (Ne.symm c)];exact WD e
theorem um:∀{x y z:List (List Int)},ltP x y=true->ltP y z=true->ltP x z=true
 |[],[],_,h,_=>by cases h
 |_::_,[],_,h,_=>by cases h
 |_,_::_,[],_,h=>by cases h
 |[],_::_,_::_,_,_=>rfl
 |a::x,b::y,c::z,e,f=>by
  unfold ltP at e f ⊢;by_cases h1:a=b
  ·subst h1
   rw[Pg rfl] at e;by_cases h2:a=c
   ·subst h2
    rw[Pg rfl] at f ⊢;exact um e f
   ·rw[Pi h2] at f ⊢;exact f
  ·rw[Pi h1] at e
   by_cases h2:b=c
   ·subst h2
    rw[Pi h1];exact e
   ·rw[Pi h2] at f
    have g:=JE e f;rw[Pi λz=>by subst z;rw[WD e] at f;cases f]
    exact g
theorem Ym:StrictB ltP:=⟨GA,wb,um⟩
section
variable {α:Type}{lt:α->α->Bool}
theorem VB (x:α):∀l:List α,(Ug lt x l).Perm (x::l)
 |[]=>NA _
 |y::r=>by
  unfold Ug;split
  ·exact NA _
  ·exact ((VB x r).cons y).trans (List.Perm.swap x y r)
theorem Z2:∀l:List α,(Zw lt l).Perm l
 |[]=>NA _
 |x::r=>(VB x (Zw lt r)).trans ((Z2 r).cons x)
theorem V5 (O:StrictB lt) (x:α):∀{l:List α},(∀y∈l,x≠y)->l.Pairwise (λa b=>lt a b=true)->(Ug lt x l).Pairwise (λa b=>lt a b=true)
 |[],_,_=>by unfold Ug;exact Nk ..
 |y::r,hn,h=>by
  rw[PK] at h;unfold Ug;split
  ·rename_i c
   rw[PK,PK];refine⟨λz hz=>?_,h⟩
   rcases Pk.mp hz with rfl | hz
   ·exact c
   ·exact O.tr c (h.1 z hz)
  ·rename_i c
   rw[PK];refine⟨λz hz=>?_,V5 O x (λy hy=>hn y (Pd _ hy)) h.2⟩
   rcases Pk.mp ((VB x r).mem_iff.mp hz) with rfl | hz
   ·exact O.tot (hn y (Pe ..)) (by simpa using c)
   ·exact h.1 z hz
theorem Yt (O:StrictB lt):∀{l:List α},l.Nodup->(Zw lt l).Pairwise (λa b=>lt a b=true)
 |[],_=>List.Pairwise.nil
 |x::r,h=>by
  rw[NB] at h;exact V5 O x (λy hy e=>h.1 (by rw[e];exact (Z2 r).mem_iff.mp hy)) (Yt O h.2)
theorem XQ (O:StrictB lt):∀{a b:List α},a.Perm b->a.Pairwise (λx y=>lt x y=true)->b.Pairwise (λx y=>lt x y=true)->a=b
 |[],b,p,_,_=>(List.Perm.nil_eq p)
 |x::a,[],p,_,_=>by have:=p.length_eq;simp at this
 |x::a,y::b,p,ha,hb=>by
  rw[PK] at ha hb;have e:x=y:=by
   rcases Pk.mp (p.mem_iff.mp (Pe ..)) with h | h
   ·exact h
   ·rcases Pk.mp (p.mem_iff.mpr (Pe (a:=y) (l:=b))) with h2 | h2
    ·exact h2.symm
    ·have z1:=hb.1 x h
     have z2:=ha.1 y h2;rw[O.asy z1] at z2;cases z2
  subst e;rw[XQ O (List.perm_cons x |>.mp p) ha.2 hb.2]
end
end Sd
namespace Sd
open PySem PySem.Spec PyProof.Rows L2
open Ev (ltI)
open PySem.SeqAt PySem.MeetsSeq PySem.MeetsSeq2 PySem.MeetsSeq3 PySem.SeqRoads2
open PySem.AutoSeq1 (wpAny_loadPart')
theorem yf (l b:Addr) (u v:List Value) (n n2:Nat) (dd dd2:Option Addr) (sl sl2:Array (Option Value)) (x y:List Int) (hx:Vals (x.map V.int) u) (hy:Vals (y.map V.int) v) :
  Meets (Builtin.«tuple.__lt__» ⟨[.ref l,.ref b],[]⟩) (λA R s=>s.heap.get? l=some { cls:=.type "tuple",dict:=dd,data:=.seq u.toArray n,slots:=sl }/\s.heap.get? b=some { cls:=.type "tuple",dict:=dd2,data:=.seq v.toArray n2,slots:=sl2 }/\R (.ok (.ret (.bool (ltI x y)))) s):=
 .of_wp λprog w A R s h=>by
  obtain⟨hp,g,d,tk,os⟩:=s;obtain⟨hl,hb,h⟩:=h;have f2:=NR;rw[<-J6] at h
  wp_walk using wpAny_loadPart' hl,wpAny_loadPart' hb,wpAny_forIn_list _ (λrest b s'=>b.1=none/\s'=⟨hp,g,d,tk,os⟩/\∃x' y' u' v',rest=List.zip u' v'/\Vals (List.map V.int x') u'/\Vals (List.map V.int y') v'/\R (.ok (.ret (.bool (Ua (decide (x.length<y.length)) x' y')))) ⟨hp,g,d,tk,os⟩) _
  case turn=>
   rintro ⟨a,c⟩ rest b s' ⟨hb',rfl,x',y',u',v',hz,hx',hy',hR⟩
   match x',y',u',v',hx',hy',hz,hR with
   |i::x',j::y',_::u',_::v',.cons ra ta,.cons rb tb,hz,hR=>
    obtain⟨t,rfl⟩:=ra;obtain⟨t',rfl⟩:=rb;rw[Nf] at hz;injection hz with h1 h2
    cases h1;unfold Ua at hR;refine Pa (wpAny_eqBool_int ?_);by_cases e:i=j
    ·rw[Pg e] at hR
     rw[beq_iff_eq.mpr e]
     wp_walk
     exact⟨rfl,rfl,x',y',u',v',h2,ta,tb,hR⟩
    ·rw[Pi e] at hR
     rw[NJ.mpr e];simp only[Bool.not_false,NS];refine Pa (Kb (Pa (PyProof.Rows.lt_int ?_)))
     wp_walk
     exact⟨_,rfl,by simpa using hR⟩
   |[],_,_,_,.nil,_,hz,_=>rw[Ko] at hz;cases hz
   |_::_,[],_,_,_,.nil,hz,_=>rw[Kj] at hz;cases hz
  case fin=>
   rintro ⟨b1,b2⟩ s' ⟨hb',rfl,x',y',u',v',hz,hx',hy',hR⟩
   simp only at hb';subst hb';have hf:Ua (decide (x.length<y.length)) x' y'=decide (x.length<y.length):=by
    match x',y',u',v',hx',hy',hz with
    |[],_,_,_,_,_,_=>unfold Ua;rfl
    |_::_,[],_,_,_,_,_=>unfold Ua;rfl
    |_::_,_::_,_::_,_::_,.cons _ _,.cons _ _,hz=>rw[Nf] at hz;cases hz
   rw[hf] at hR;have l1:u.length=x.length:=by rw[<-hx.length,Pj]
   have l2:v.length=y.length:=by rw[<-hy.length,Pj]
   wp_walk
   exact⟨_,rfl,by simpa [Builtin.Tuple.tupleCompareSizes,l1,l2] using hR⟩
  case h=>
   exact⟨rfl,rfl,x,y,u,v,by simp,hx,hy,h⟩
theorem ZaO {prog:Program}{w:World}{A:Around}{E:Value->Shared->Prop}{s:Shared}{a b:Addr}{o o':Obj}{u v:List Value}{m m':Nat}{x y:List Int}{Q:Value->Shared->Prop}(ha:s.heap.get? a=some o) (hc:o.cls=.type "tuple") (hd:o.data=.seq u.toArray m) (hx:Vals (x.map V.int) u)
  (hb:s.heap.get? b=some o') (hc':o'.cls=.type "tuple") (hd':o'.data=.seq v.toArray m') (hy:Vals (y.map V.int) v) (hu:A.units<cLine) (q:Q (.bool (ltI x y)) s):wpAny (model prog w) A (compareOp .Lt (.ref a) (.ref b)) Q E s:=by
 obtain⟨cls,dd,data,sl⟩:=o;obtain⟨cls2,dd2,data2,sl2⟩:=o';simp only at hc hd hc' hd';subst hc hd hc' hd';show wpAny (model prog w) A (richCompare .Lt (.ref a) (.ref b)) Q E s;exact richCompare_meets_room (op:=.Lt) ⟨_,ha,rfl⟩ ⟨_,hb,rfl⟩ F.slot_tuple_lt F.entry_tuple_lt (F.args_tuple_lt_2 _ _) (yf a b u v m m' dd dd2 sl sl2 x y hx hy) ⟨ha,hb,show Value.bool (ltI x y)≠Value.notImplemented/\Q (.bool (ltI x y)) s from ⟨(λx=>nomatch x),q⟩⟩ hu
end Sd
namespace Sd
open PySem PySem.Spec PyProof.Rows L2
open Ev (ltI ltP)
theorem G6:∀{x y:List Int}{u:List Value},Vals (x.map V.int) u->Vals (y.map V.int) u->x=y
 |[],[],_,_,_=>rfl
 |[],_::_,_,.nil,h=>by cases h
 |_::_,[],_,h,.nil=>by cases h
 |a::x,b::y,_::u,.cons ra ta,.cons rb tb=>by
  obtain⟨t,rfl⟩:=ra;obtain⟨t',e⟩:=rb;cases e;rw[G6 ta tb]
theorem Gw:∀{x:List Int}{u:List Value}{j:Nat}(h:j<u.length),Vals (x.map V.int) u->∃t,u[j]=Value.int (x.getD j 0) t
 |[],[],_,h,.nil=>by simp at h
 |_::_,_::_,0,_,.cons ra _=>by obtain⟨t,rfl⟩:=ra;exact⟨t,rfl⟩
 |_::x,_::u,j+1,h,.cons _ ta=>by
  obtain⟨t,e⟩:=Gw (j:=j) (by simpa using h) ta
  exact⟨t,by simpa using e⟩
theorem Zcy:∀{x y:List Int},((List.range (min x.length y.length)).all (λj=>x.getD j 0 == y.getD j 0)&&x.length == y.length)=decide (x=y):=by
 intro x y;rw[P3,Py,PN,decide_eq_true_iff]
 constructor
 ·rintro ⟨h1,h2⟩
  have h2:x.length=y.length:=by simpa using h2
  apply K1 h2;intro i hi hj;have:=h1 i (PQ.mpr (by omega))
  simpa [hi,hj] using this
 ·rintro rfl
  exact⟨λj _=>by simp,by simp⟩
def Vt (h:Heap) (r:List Int) (v:Value):Prop:=∃a o us m,v=.ref a/\h.get? a=some o/\o.cls=.type "tuple"/\o.data=.seq us.toArray m/\Vals (r.map V.int) us
theorem Vt.lat {h h':Heap}(k:Sq.Lat h h') {r:List Int}{v:Value}(R:Vt h r v):Vt h' r v:=by
 obtain⟨a,o,us,m,e,ho,hc,hd,hv⟩:=R;exact⟨a,o,us,m,e,k _ _ ho,hc,hd,hv⟩
theorem wl {A:Around}{s:Shared}{x y:List Int}{v u:Value}(hx:Vt s.heap x v) (hy:Vt s.heap y u) (hu:A.units<cLine):SeqAt.EqAt A s v u (decide (x=y)):=by
 obtain⟨a,o,us,m,rfl,ho,hc,hd,hv⟩:=hx;obtain⟨b,o',us',m',rfl,ho',hc',hd',hv'⟩:=hy;have l1:us.toArray.size=x.length:=by rw[Pf,<-hv.length,Pj]
 have l2:us'.toArray.size=y.length:=by rw[Pf,<-hv'.length,Pj]
 by_cases e:a=b
 ·subst e
  rw[ho] at ho';cases ho';rw[hd] at hd';injection hd' with h1 h2
  have h1:us=us':=by simpa using h1
  subst h1;rw[PC (G6 hv hv')];exact K8 _
 ·refine SeqAt.EqAt.of_refs e ?_
  have:=SeqAt.RcAt.tuples (A:=A) (s:=s) (e:=λj=>x.getD j 0 == y.getD j 0) ⟨o,ho,hc,m,hd⟩ ⟨o',ho',hc',m',hd'⟩ hu (λj h1 h2=>by
   obtain⟨t,e1⟩:=Gw (j:=j) (by simpa using h1) hv
   obtain⟨t',e2⟩:=Gw (j:=j) (by simpa using h2) hv'
   rw[show us.toArray[j]=us[j]'(by simpa using h1) by simp,show us'.toArray[j]=us'[j]'(by simpa using h2) by simp,e1,e2]
   exact SeqAt.EqAt.int_int _ _ _ _)
  rw[l1,l2,Zcy] at this;exact this
theorem zy {prog:Program}{w:World}{A:Around}{E:Value->Shared->Prop}{s:Shared}{x y:List Int}{v u:Value}{Q:Value->Shared->Prop}(hx:Vt s.heap x v) (hy:Vt s.heap y u) (hu:A.units<cLine) (q:Q (.bool (ltI x y)) s):wpAny (model prog w) A (compareOp .Lt v u) Q E s:=by
 obtain⟨a,o,us,m,rfl,ho,hc,hd,hv⟩:=hx;obtain⟨b,o',us',m',rfl,ho',hc',hd',hv'⟩:=hy;exact ZaO ho hc hd hv ho' hc' hd' hv' hu q
noncomputable def Uc (fin:Bool):List (List Int)->List (List Int)->Bool
 |[],_=>fin
 |_::_,[]=>fin
 |a::x,b::y=>if a=b then Uc fin x y else ltI a b
theorem Gd:∀(x y:List (List Int)),Uc (decide (x.length<y.length)) x y=ltP x y
 |[],[]=>rfl
 |[],_::_=>by unfold Uc ltP;simp
 |_::_,[]=>by unfold Uc ltP;simp
 |a::x,b::y=>by
  unfold Uc ltP;have:decide ((a::x).length<(b::y).length)=decide (x.length<y.length):=by simp
  rw[this,Gd x y]
inductive RowsIn (h:Heap):List (List Int)->List Value->Prop where
 |nil:RowsIn h [] []
 |cons {r:List Int} {rs:List (List Int)} {v:Value} {vs:List Value} (a:Vt h r v) (t:RowsIn h rs vs):RowsIn h (r::rs) (v::vs)
theorem RowsIn.lat {h h':Heap}(k:Sq.Lat h h'):∀{rs:List (List Int)}{vs:List Value},RowsIn h rs vs->RowsIn h' rs vs
 |_,_,.nil=>.nil
 |_,_,.cons a t=>.cons (a.lat k) (RowsIn.lat k t)
theorem RowsIn.length {h:Heap}:∀{rs:List (List Int)}{vs:List Value},RowsIn h rs vs->rs.length=vs.length
 |_,_,.nil=>rfl
 |_,_,.cons _ t=>by rw[Px,Px,RowsIn.length t]
theorem GU {prog:Program}{w:World}{A:Around}{s:Shared}{fin:Bool}{C:Bool->Shared->Prop}(hu:A.units<cLine):∀{x y:List (List Int)}{u v:List Value}{i:Nat},RowsIn s.heap x u->RowsIn s.heap y v->C (Uc fin x y) s->PySem.W.KatLex prog w A false fin C (u.zip v) i s
 |[],_,_,_,_,.nil,_,h=>by rw[Ko];exact Tb h
 |_::_,[],_,_,_,_,.nil,h=>by rw[Kj];exact Tb h
 |a::x,c::y,_,_,i,.cons ra ta,.cons rb tb,h=>by
  rw[Nf];refine PySem.W.kat_cons (wl ra rb hu prog w _ _ ?_);unfold Uc at h;by_cases e:a=c
  ·rw[Pg e] at h
   rw[PC e];exact PySem.W.kat_yes (GU hu ta tb h)
  ·rw[Pi e] at h
   rw[PV e];refine PySem.W.kat_no ?_;exact PySem.W.kat_one _ _ (zy ra rb hu h)
end Sd
namespace Sd
open PySem PySem.Spec PyProof.Rows L2
open Ev (D ltI ltP Ug Zw Vl JR Yf ZK UZ X4)
section
variable {α:Type}{lt:α->α->Bool}{df:α}
theorem ZdI (O:StrictB lt) {rs:List α}{n:Nat}(hn:rs.Nodup) (hl:rs.length=n):Sq.Ord n (λi j=>lt (rs.getD i df) (rs.getD j df)):=by
 have hd:∀i j,i<n->j<n->i≠j->rs.getD i df≠rs.getD j df:=λi j hi hj ne e=>by
  simp only[Po] at e;have hi':i<rs.length:=by omega
  have hj':j<rs.length:=by omega
  refine ne ((List.getElem?_inj hi' hn).mp ?_);rw[Pc hi',Pc hj'] at e ⊢;exact congrArg some e
 exact⟨λi j hi hj ne e=>O.tot (hd i j hi hj ne) e,λi j _ _ e=>O.asy e,λi j k _ _ _ e f=>O.tr e f⟩
theorem Zdq (O:StrictB lt) {rs:List α}{b:Bool}{p:Array Nat}(hn:rs.Nodup) (h1:Sq.Pm rs.length p) (h2:Sq.Up (Sq.ltR b rs.length λi j=>lt (rs.getD i df) (rs.getD j df)) p rs.length) :
  (p.toList.map λi=>(PySem.W.katRev b rs).getD i df)=Zw lt rs:=by
 have hp:p.toList.Perm (List.range rs.length):=by simpa using Nr.mp h1
 have hl:p.toList.length=rs.length:=by rw[hp.length_eq,P0]
 refine XQ O ?_ ?_ (Yt O hn)
 ·refine ((hp.map _).trans ?_).trans (Z2 rs).symm
  have e:(List.range rs.length).map (λi=>(PySem.W.katRev b rs).getD i df)=PySem.W.katRev b rs:=by
   apply List.ext_getElem?
   intro i;rw[PH];by_cases h:i<rs.length
   ·have:i<(PySem.W.katRev b rs).length:=by rw[N9];exact h
    rw[NW h];simp[this]
   ·have:(PySem.W.katRev b rs).length<=i:=by rw[N9];omega
    simp[Kt h,this]
  rw[e];exact V1 b rs
 ·rw[NI,No]
  intro i j hi hj hij;have g1:p.toList[i]=Sq.g p i:=by
   have:=Sq.yO (p:=p) (i:=i) (by simpa using hi)
   rw[<-Ny,Pc hi] at this;exact Pb this
  have g2:p.toList[j]=Sq.g p j:=by
   have:=Sq.yO (p:=p) (i:=j) (by simpa using hj)
   rw[<-Ny,Pc hj] at this;exact Pb this
  rw[g1,g2,Xb (h1.lt (by omega)),Xb (h1.lt (by omega))]
  have:=h2 i j hij (by omega)
  unfold Sq.ltR at this;cases b
  ·exact this
  ·exact this
theorem wT {ρ:List Addr}{H:Hp}{enc:α->D}{F:List Nat}{xs:List V}{rs:List α}(h:Rq ρ H (rs.map enc) xs) (hF:∀i∈F,i<rs.length):Rq ρ H ((F.map λi=>rs.getD i df).map enc) (F.map λi=>xs.getD i V.non):=by
 induction F with
 |nil=>exact Rq.nil
 |cons i F ih=>
  refine Rq.cons ?_ (ih λj hj=>hF j (Pd _ hj))
  have hi:=hF i (Pe ..);obtain⟨v,g,r⟩:=h.get (i:=i) (d:=enc rs[i]) (by rw[PH,Pc hi];rfl)
  show Rep ρ H (enc (rs.getD i df)) (xs.getD i V.non);rw[Po,Po,g,Pc hi];exact r
end
section
variable {X:Cx}{pq:List (Addr×Obj)}{σ:L2.St}{H:Hp}{s:Shared}{ρ:List Addr}
inductive PartsAt (h:Heap):List (List (List Int))->List Value->Prop where
 |nil:PartsAt h [] []
 |cons {P:List (List Int)} {ps:List (List (List Int))} {vs:List Value} {a:Addr} {o:Obj} {us:List Value} {m:Nat} (ho:h.get? a=some o) (hc:o.cls=.type "tuple") (hd:o.data=.seq us.toArray m) (hv:RowsIn h P us) (t:PartsAt h ps vs):PartsAt h (P::ps) (.ref a::vs)
theorem RowsAt.ins {h:Heap}:∀{rs:List (List Int)}{vs:List Value},RowsAt h rs vs->RowsIn h rs vs
 |_,_,.nil=>.nil
 |_,_,.cons ho hc hd hv t=>.cons ⟨_,_,_,_,rfl,ho,hc,hd,hv⟩ (RowsAt.ins t)
theorem zX (I:Inv X pq σ H s):∀{ds:List D}{ps:List (List (List Int))}{xs:List V}{its:List Value},Yf ds=some ps->Rq ρ H ds xs->Vals xs its->PartsAt s.heap ps its/\ds=ps.map Vl
 |[],ps,xs,its,h,r,v=>by
  unfold Rq at r;subst r;cases v;cases h;exact⟨.nil,rfl⟩
 |d::ds,ps,xs,its,h,r,v=>by
  unfold Rq at r;obtain⟨x,xs',rfl,r1,r2⟩:=r;cases v with
  |cons v1 v2=>
   unfold Yf at h;cases q1:JR d with
   |none=>rw[q1] at h;cases h
   |some a=>
    cases q2:Yf ds with
    |none=>rw[q1,q2] at h;cases h
    |some b=>
     rw[q1,q2] at h;cases h;obtain⟨t,e⟩:=zX I q2 r2 v2;cases d with
     |tup ks=>
      obtain⟨p,ys,rfl,hp,ry⟩:=r1.tup';cases v1;obtain⟨us,rv,⟨o,ho,hc,m,hd⟩,_⟩:=I.tuple (SqT.of hp);obtain⟨ra,ek⟩:=W4 I (show ZK ks=some a from q1) ry rv
      exact⟨.cons ho hc hd ra.ins t,by rw[e,ek];rfl⟩
     |_=>cases q1
theorem PartsAt.length {h:Heap}:∀{ps:List (List (List Int))}{vs:List Value},PartsAt h ps vs->ps.length=vs.length
 |_,_,.nil=>rfl
 |_,_,.cons _ _ _ _ t=>by rw[Px,Px,PartsAt.length t]
theorem PartsAt.at {h:Heap}:∀{ps:List (List (List Int))}{vs:List Value}(i:Nat),PartsAt h ps vs->i<vs.length->∃a o us m,vs.getD i Value.none=.ref a/\h.get? a=some o/\o.data=.seq us.toArray m/\RowsIn h (ps.getD i []) us
 |_,_,_,.nil,hi=>by simp at hi
 |_,_,0,.cons ho hc hd hv t,_=>⟨_,_,_,_,rfl,ho,hd,hv⟩
 |_,_,i+1,.cons ho hc hd hv t,hi=>by
  obtain⟨a,o,us,m,e1,e2,e3,e4⟩:=PartsAt.at i t (by simpa using hi)
  exact⟨a,o,us,m,by simpa using e1,e2,e3,by simpa using e4⟩
theorem PartsAt.tups {h h':Heap}(k:Sq.Lat h h'):∀{ps:List (List (List Int))}{vs:List Value},PartsAt h ps vs->(∀P∈ps,P≠[])->∃fs,PySem.W.KatTups h' vs fs/\fs.length=vs.length/\∀v∈fs,∃r,Vt h' r v
 |_,_,.nil,_=>⟨[],.nil,rfl,λv hv=>by cases hv⟩
 |_,_,.cons (P:=P) (us:=us) ho hc hd hv t,hn=>by
  obtain⟨fs,t1,t2,t3⟩:=PartsAt.tups k t λr hr=>hn r (Pd _ hr)
  have hr:=hn P (Pe ..);cases hv with
  |nil=>exact absurd rfl hr
  |cons a tl=>
   rename_i r rs v vs
   refine⟨v::fs,.cons (k _ _ ho) hc hd (by simp) t1,by rw[Px,Px,t2],λz hz=>?_⟩
   rcases Pk.mp hz with rfl | hz
   ·exact⟨r,a.lat k⟩
   ·exact t3 z hz
theorem xk {prog:Program}{w:World}{A:Around}{h:Heap}{ps:List (List (List Int))}{vs:List Value}(hu:A.units<cLine) (R:PartsAt h ps vs) (hn:2<=vs.length->∀P∈ps,P≠[]):Sq.Asks prog w A h vs (tuples' false) (λi j=>ltP (ps.getD i []) (ps.getD j [])):=by
 refine⟨λh2 s' E Q k q=>?_,λi j hi hj s' C E k q=>?_⟩
 ·obtain⟨fs,t1,t2,t3⟩:=R.tups k (hn h2)
  exact PySem.W.kat_kind (T:=.type "tuple") t1 (by omega) (λv hv=>by
   obtain⟨r,a,o,us,m,rfl,ho,hc,_,_⟩:=t3 v hv;exact λA Q E s kk qq=>wpAny_typeOf ⟨o,kk _ _ ho,hc⟩ qq) rfl q
 ·obtain⟨a,o,us,m,e1,e2,e3,e4⟩:=R.at i hi
  obtain⟨a',o',us',m',f1,f2,f3,f4⟩:=R.at j hj;rw[e1,f1];refine PySem.W.kat_lt (k _ _ e2) e3 (k _ _ f2) f3 (GU hu (e4.lat k) (f4.lat k) ?_);have l1:us.toArray.size=(ps.getD i []).length:=by rw[Pf,<-e4.length]
  have l2:us'.toArray.size=(ps.getD j []).length:=by rw[Pf,<-f4.length]
  rw[l1,l2,Gd];exact q
end
end Sd
namespace Sd
open PySem PySem.Spec PyProof.Rows L2
open Ev (D Ob Store Lc R E Sm Calls Walk Fl Fn Bop Cop Ty Bf Mf ltP Zw Vl Yf ZH)
section
variable {X:Cx}{xw:Nat->Hp->Prop}{C:Calls}{e a b c:Expr}{i j k:E}{pos p p' p2 p3:Pos}
theorem YZ {pq:List (Addr×Obj)}{s:Shared}{σ:L2.St}{H:Hp}{us:List Value}{Q:VK}{ρ:List Addr}{S:Store}{n:Nat}{vs:List V}{ds:List D}{ps:List (List (List Int))}(hu:X.A.units+2<cLine) (I:Inv X pq σ H s) (r:Vals vs us) (st:St3 X.K ρ S H) (rs:Rq ρ H [.loc n] vs)
  (hl:Ev.Zh S n=some ds) (hps:Yf ds=some ps) (hok:ZH ps=true) (h3:End X.K xw Rep ρ H Q (.ok (.loc S.length) (S++[.lst ((Zw ltP ps).map Vl)]))):wpAny (model X.prog X.w) X.A (call (.builtin "sorted") us) (EP X pq σ Q) X.xe s:=by
 obtain⟨v,rfl,r1⟩:=reps1 rs;obtain⟨_,l,xs,q1,hx,rx⟩:=st.lst hl;obtain⟨l',rfl,t⟩:=r1.loc';rw[q1] at t;cases t;obtain⟨u,rfl,ru⟩:=vals1 r;cases ru;obtain⟨its,rv,pl,hz⟩:=I.list (SqL.of hx);obtain⟨RA,ed⟩:=zX I hps rx rv;have hlen:=RA.length;have key:its.length<64/\(2<=its.length->∀P∈ps,P≠[])/\(its.length<2->((List.toArray (List.range its.length)).toList.map λi=>ps.getD i [])=Zw ltP ps)/\(2<=its.length->∃p,Sq.evT its.length (Sq.ltR false its.length λi j=>ltP (ps.getD i []) (ps.getD j [])) (PySem.W.kas_sort its.length)=some p/\Sq.Pm its.length p/\(p.toList.map λi=>ps.getD i [])=Zw ltP ps):=by
  rcases (Nv _ _).mp hok with hok | hok
  ·obtain⟨hok1,hok3⟩:=(Py _ _).mp hok
   obtain⟨hok1,hok2⟩:=(Py _ _).mp hok1;have h64:=Pq hok1;have hnd:=Pq hok2;have one:∀p,Sq.Pm its.length p->Sq.Up (Sq.ltR false its.length λi j=>ltP (ps.getD i []) (ps.getD j [])) p its.length->(p.toList.map λi=>ps.getD i [])=Zw ltP ps:=λp hp hu=>by
    rw[<-hlen] at hp hu;exact Zdq (b:=false) Ym hnd hp hu
   refine⟨by omega,λh2 P hP e=>?_,λh2=>one _ (KD _) λi j a b=>by omega,λh2=>?_⟩
   ·rcases (Nv _ _).mp hok3 with h | h
    ·have:=Pq h;omega
    ·have:=PN.mp h P hP
     rw[e] at this;cases this
   ·obtain⟨p,e1,e2,e3⟩:=Sq.Gs (Sq.Gi (b:=false) (ZdI (df:=[]) Ym hnd hlen)) (by omega)
    exact⟨p,e1,e2,one p e2 e3⟩
  ·match ps,hok with
   |[P,Q],hok=>
    obtain⟨h1,h2⟩:=(Py _ _).mp hok;obtain rfl:P=Q:=Pq h1;have hP:P≠[]:=λe=>by rw[e] at h2;cases h2
    have hn:its.length=2:=hlen.symm;have irr:ltP P P=false:=by
     cases e:ltP P P with
     |false=>rfl
     |true=>exact absurd (Ym.asy e) (by rw[e];simp)
    have so:Zw ltP [P,P]=[P,P]:=by
     simp[Zw,Ev.Ug,irr]
    rw[hn];refine⟨by omega,λ_ R hR=>?_,λh=>absurd h (by omega),λ_=>?_⟩
    ·rcases Pk.mp hR with rfl | hR
     ·exact hP
     ·rw[PF.mp hR];exact hP
    ·obtain⟨p,e1,e2,rfl⟩:=Sq.vL (lt:=λi j=>ltP (([P,P]:List (List (List Int))).getD i []) (([P,P]:List (List (List Int))).getD j [])) (λi j hi hj=>by
      have e:∀k,k<2->([P,P]:List (List (List Int))).getD k []=P:=λk hk=>by
       match k,hk with
       |0,_=>rfl
       |1,_=>rfl
      show ltP _ _=_;rw[e i hi,e j hj];exact irr)
     exact⟨_,e1,e2,so.symm⟩
 obtain⟨h64,hne,r1,r2⟩:=key;refine Sq.QN (R:=λp=>(p.toList.map λi=>ps.getD i [])=Zw ltP ps) pl.isList h64 r1 r2 (xk hu RA hne) λp hp out=>?_
 rw[<-hlen] at hp;have hmem:∀i∈p.toList,i<ps.length:=λi hi=>by
  have hp':p.toList.Perm (List.range ps.length):=by simpa using Nr.mp hp
  exact PQ.mp (hp'.mem_iff.mp hi)
 subst ed;have xl:xs.length=ps.length:=by rw[rx.length,Pj]
 have rx2:=wT (df:=[]) (F:=p.toList) rx hmem;have out':(p.toList.map λi=>ps.getD i [])=Zw ltP ps:=out
 rw[out'] at rx2;have rv2:=zh (F:=p.toList) rv (by rw[xl];exact hmem)
 obtain⟨ep,he⟩:=sortedAll_at s.heap its (List.toArray (p.toList.map λi=>its.getD i Value.none))
 refine⟨.ref (s.heap.objs.size+1),_,I.laid (t':=s.toks) (o:=.lst (p.toList.map λi=>xs.getD i V.non)) (λb ob q=>sortedAll_old q) (Ti _) ?_,rfl,h3.newL st rx2 _ (I.hok.fresh (Ti _))⟩
 refine⟨?_,_,ep,rv2,he⟩;rw[Pj,NK,hp.size,NC];omega
theorem U1 (hu:X.A.units+7<cLine):ZT X (.builtin "sorted") (U2 X.K xw .sorted):=by
 intro pq s σ H vs us Q I r ⟨ρ,S,ds,st,rs,h⟩;rcases xV false ds S with ⟨n,rfl⟩ | e
 ·obtain⟨xs,hl,h1⟩:=End.ob (show End X.K xw Rep ρ H Q ((Ev.ob (Ev.Zh S n) S).bind λxs S=>if Ev.wR xs=true then Ev.sorted false n S else (Ev.ob (Yf xs) S).bind λps S=>if ZH ps=true then .ok (.loc S.length) (S++[.lst ((Zw ltP ps).map Vl)]) else .no) from h)
  rcases h1.ite with ⟨_,h1⟩ | ⟨_,h1⟩
  ·exact G4 pq s σ H vs us Q I r ⟨ρ,S,n,st,rs,h1⟩
  ·obtain⟨ps,q,h1⟩:=End.ob h1
   obtain⟨hok,h3⟩:=h1.guard;exact YZ (by omega) I r st rs hl q hok h3
 ·exact (show End X.K xw Rep ρ H Q (.no:R D) from e▸h).elim
end
end Sd
namespace Sd
open PySem PySem.Spec PyProof.Rows L2
open Ev (D Ob Store Lc R E Sm Calls Walk Fl Fn Bop Cop Ty Bf Mf ev evs)
theorem Ud:isSubtype (.type "range_iterator") (.type "reversed")=pure false:=by rw[isSubtype_type];kernel_rfl
section
variable {prog:Program}{w:World}{A:Around}{E:Value->Shared->Prop}{s:Shared}
noncomputable abbrev u6 (lo:Int) (n:Nat):Obj:={ cls:=.type "range_iterator",data:=.fields #[rawInt (lo+n-1),rawInt n,rawInt (-1)] }
theorem WK {r:Addr}{lo hi:Int}{t u v:Tok}{Q:Value->Shared->Prop}(hr:IsRange s.heap r lo hi 1 t u v) (h1:-(2^62)<=lo) (h2:lo<2^62) (h3:-(2^62)<=hi) (h4:hi<2^62)
  (h:Q (.ref s.heap.objs.size) { s with heap:=s.heap.push (u6 lo (hi-lo).toNat) }):wpAny (model prog w) A (call (.builtin "range.__reversed__") [.ref r]) Q E s:=by
 refine NO F.slot_range_reversed ⟨_,hr,rfl⟩ F.entry_range_reversed ?_ (F.args_range_reversed_1 _);unfold Builtin.«range.__reversed__»;refine Pa (NZ (a:=Value.ref r) rfl ?_);unfold Builtin.Range.rangeFields;refine Pa (Pa (Nm hr rfl (x:=.int lo t) rfl ?_));refine Pa (NZ (a:=some lo) rfl ?_);refine Pa (Nm hr rfl (x:=.int hi u) rfl ?_);refine Pa (NZ (a:=some hi) rfl ?_);refine Pa (Nm hr rfl (x:=.int 1 v) rfl ?_);refine Pa (NZ (a:=some 1) rfl ?_);refine Pl ?_
 have hn:Builtin.Range.rangeSize lo hi 1=((hi-lo).toNat:Int):=by rw[rangeSize_one];split <;> omega
 have hs:(Builtin.Range.rangeFitsLong lo&&Builtin.Range.rangeFitsLong hi&&Builtin.Range.rangeFitsLong 1&&Builtin.Range.rangeFitsLong (-1)&&Builtin.Range.rangeFitsLong (lo-1)&&Builtin.Range.rangeFitsLong (Builtin.Range.rangeSize lo hi 1))=true:=by
  rw[hn];simp only[Builtin.Range.rangeFitsLong,Py,NU];omega
 simp only[hs,Bool.not_true,Nb,Nz,NS];refine Pa (Nw (Pl ⟨_,rfl,?_⟩));rw[hn];have e:lo+(((hi-lo).toNat:Int)-1)*1=lo+((hi-lo).toNat:Int)-1:=by omega
 simp only[e];exact h
theorem WF {r:Addr}{lo hi:Int}{t u v:Tok}{Q₁:Value->Shared->Prop}(hr:IsRange s.heap r lo hi 1 t u v) (h1:-(2^62)<=lo) (h2:lo<2^62) (h3:-(2^62)<=hi) (h4:hi<2^62)
  (h:Q₁ (.ref s.heap.objs.size) { s with heap:=s.heap.push (u6 lo (hi-lo).toNat) }) :
  codeAny (model prog w) A (.call (.builtin "reversed.__new__") ⟨[.type "reversed",.ref r],[]⟩) (wants Q₁ E) s:=by
 refine codeAny_of_tree ?_;show wpAny _ A.in1 (do checkBuiltinCall "reversed.__new__" ⟨[.type "reversed",.ref r],[]⟩;again (.builtin "reversed.__new__" ⟨[.type "reversed",.ref r],[]⟩)) _ _ s;refine Pa (NZ (F.newCall_reversed_1 _) (Pl ⟨plainId_quiet F.plain_reversed_new _,codeAny_builtin F.entry_reversed_new ?_⟩));rw[Around.under_plainId F.plain_reversed_new _];unfold Builtin.«reversed.__new__»;refine Pa (NZ (newClass_reversed _) ?_)
 try dsimp only
 refine Pa (NZ (a:=()) (by first | rfl | kernel_rfl) ?_)
 refine Pa (NZ (a:=()) (by first | rfl | kernel_rfl) ?_)
 try dsimp only
 refine Pa (wpAny_specialOf ⟨_,hr,rfl⟩ F.slot_range_reversed.lookup ?_)
 try dsimp only
 refine Pa (NZ (F.slot_range_reversed.bind _) ?_)
 try dsimp only
 first
 |rw[Pi (show ¬((Value.builtin "range.__reversed__" == Value.none)=true) from Pu)]
 |(show wpAny _ _ (if (Value.builtin "range.__reversed__" == Value.none)=true then _ else _) _ _ _;rw[Pi (show ¬((Value.builtin "range.__reversed__" == Value.none)=true) from Pu)])
 refine Pa (Kb ?_);refine Pa (m:=runValue (.call (.builtin "range.__reversed__") ⟨[.ref r],[]⟩)) (show wpAny _ _ (call (.builtin "range.__reversed__") [.ref r]) _ _ _ from WK hr h1 h2 h3 h4 ?_)
 first
 |exact Pl h
 |exact Pa (Pl (Pl h))
theorem WJ {r:Addr}{lo hi:Int}{t u v:Tok}{Q:Value->Shared->Prop}(hr:IsRange s.heap r lo hi 1 t u v) (h1:-(2^62)<=lo) (h2:lo<2^62) (h3:-(2^62)<=hi) (h4:hi<2^62)
  (h:Q (.ref s.heap.objs.size) { s with heap:=s.heap.push (u6 lo (hi-lo).toNat) }):wpAny (model prog w) A (call (.type "reversed") [.ref r]) Q E s:=by
 refine callType_other (U:="range_iterator") (Q₁:=λobj s₁=>obj=.ref s.heap.objs.size/\s₁={ s with heap:=s.heap.push (u6 lo (hi-lo).toNat) }) (by decide +kernel) F.create_reversed ⟨_,_,F.mro_reversed⟩ F.made_reversed Ud (F.typeCall_reversed_1 _) (WF hr h1 h2 h3 h4 ⟨rfl,rfl⟩) ?_
 rintro obj s₁ ⟨rfl,rfl⟩
 exact⟨⟨_,Pz _ rfl,rfl⟩,h⟩
end
noncomputable def Itrv (lo:Int) (n:Nat):It:=⟨λi _=>i<n,λi H x H'=>H'=H/\x=.int (lo+n-1-i),λi _=>n<=i⟩
theorem G3 {P:Program}{w:World}{K:PySem.W.Frag}{tg:Expr}(it:Addr) (lo:Int) (n:Nat):Turn P w K tg (Itrv lo n) [it] it (λi h=>IsRangeIter h it (lo+n-1+(i:Nat)*(-1)) ((n:Int)-(i:Nat)) (-1)) where
 mem:=by simp
 obj:=λi h st b hb=>by
  have e:b=it:=by simpa using hb
  subst e;exact⟨_,st,λv z=>by
   have z':Data.fields _=Data.cell v:=z;cases z'⟩
 keep:=λi h h' st k=>k it (by simp) _ st
 item:=by
  intro X hP hw hK hc i pq s σ H E I hf st hg;subst hP hw hK;obtain⟨f0,f1,f2,f3,f4,f5⟩:=hf it (by simp)
  have W:=Walks.range (prog:=X.prog) (w:=X.w) (I.ok.hd hc) it (lo+n-1) (-1) n;refine W.item i s _ _ hg st λv h' tk hv st' kk=>?_
  obtain⟨t,rfl⟩:=hv;have I1:Inv X pq σ H { s with heap:=h',toks:=tk }:=I.turned (λb o hb e=>kk b o (by simpa using hb) e) f0 f1 f3 f4 f5
  refine⟨_,rfl,wo (s:={ s with heap:=h',toks:=tk }) (n:="range_iterator") st' rfl rfl (by decide) ⟨.int (lo+n-1-i),H,I1,⟨t,?_⟩,⟨rfl,rfl⟩,st',λb hb=>(hf b hb).1⟩⟩
  have e:lo+n-1+(i:Int) * -1=lo+n-1-i:=by omega
  rw[e]
 done:=by
  intro X hP hw hK hc i pq s σ H E I hf st hg;subst hP hw hK;obtain⟨f0,f1,f2,f3,f4,f5⟩:=hf it (by simp)
  exact wpAny_pyNext_range_end (I.ok.hd hc) st (by have:n<=i:=hg;omega) λh' eb=>⟨rfl,I.turned (t':=s.toks) (λb o hb e=>eb b o hb e) f0 f1 f3 f4 f5⟩
 self:=λ_ _ _ _ _ st h=>KK st h
section
variable {X:Cx}{xw:Nat->Hp->Prop}{C:Calls}{a b tg:Expr}{i j:E}{pos p p2 p3:Pos}
def Zcs (ta:TA):TI:=λσ H R=>ta σ H λvs H1=>∃i j:Int,vs=[.int i,.int j]/\(-(2^62)<=i/\i<2^62/\-(2^62)<=j/\j<2^62)/\R (Itrv i (j-i).toNat) H1
theorem vJ {ta:TA}(hgr:Gl X "reversed") (hmr:X.mg "reversed" = none) (hg:Gl X "range") (hm:X.mg "range" = none) (ha:PA X [a,b] ta) (hs:starEach [a,b] X.env=[(false,eval a X.env),(false,eval b X.env)]) (hs2:starEach [b] X.env=[(false,eval b X.env)]) :
  PI X tg (.Call (.Name "reversed" p) [.Call (.Name "range" p2) [a,b] [] p3] [] pos) (Zcs ta):=by
 intro pq s σ H R I h;refine Call_ (Xl I hgr hmr (show bootBuiltins "reversed" = some (.type "reversed") from rfl) (Ng (Calls.spliced_cons ?_) rfl rfl))
 refine Call_ (Xl I hg hm boot_range (Ng (thn (ha p3 pq s σ H _ I h) λus s1 ⟨vs,H1,I1,r1,q1⟩=>?_) (by rw[hs,hs2]) (by rw[hs2];rfl)))
 obtain⟨lo,hi,e,⟨q1,q2,q3,q4⟩,q⟩:=q1;subst e;cases r1 with
 |cons r rr=>
  cases rr with
  |cons r' rr=>
   cases rr;obtain⟨t,rfl⟩:=r;obtain⟨t',rfl⟩:=r';refine call_range_2 (Calls.spliced_nil ?_);refine WJ (IsRange.new ..) q1 q2 q3 q4 ?_;have I2:Inv X pq σ H1 { s1 with heap:=s1.heap.push { cls:=.type "range",data:=.fields #[.int lo t,.int hi t',.int 1 s1.toks] },toks:=s1.toks+1 }:=I1.kept λb o e=>Ph _ e
   have I3:=I2.kept (t':=s1.toks+1) (h':=(s1.heap.push { cls:=.type "range",data:=.fields #[.int lo t,.int hi t',.int 1 s1.toks] }).push (u6 lo (hi-lo).toNat)) λb o e=>Ph _ e
   refine KK (Pz _ rfl) ?_;refine⟨_,[(s1.heap.push { cls:=.type "range",data:=.fields #[.int lo t,.int hi t',.int 1 s1.toks] }).objs.size],_,_,H1,rfl,I3,G3 _ lo (hi-lo).toNat,?_,λb hb=>?_,q⟩
   ·show IsRangeIter _ _ (lo+((hi-lo).toNat:Int)-1+((0:Nat):Int)*(-1)) ((((hi-lo).toNat:Nat):Int)-((0:Nat):Int)) (-1)
    rw[show lo+((hi-lo).toNat:Int)-1+((0:Nat):Int)*(-1)=lo+((hi-lo).toNat:Int)-1 by omega,show (((hi-lo).toNat:Nat):Int)-((0:Nat):Int)=((hi-lo).toNat:Int) by omega]
    exact Pz _ rfl
   ·have e:b=(s1.heap.push { cls:=.type "range",data:=.fields #[.int lo t,.int hi t',.int 1 s1.toks] }).objs.size:=by simpa using hb
    subst e;exact I2.fpOk (Pp _) (I2.hok.fresh (Pp _))
theorem yB {lo:Int}{n i:Nat}(h:i<n):(Ev.Zs lo n).reverse[i]? = some (.int (lo+n-1-i)):=by
 unfold Ev.Zs;rw[<-K0,PH,KU (by simpa using h),P0,NW (by omega)]
 simp only[Option.map_some]
 congr 2
 omega
theorem vX {K:PySem.W.Frag}{ρ:List Addr}{H:Hp}{lo:Int}{n:Nat}:WRel K ρ H ⟨(Ev.Zs lo n).reverse,[]⟩ (Itrv lo n) where
 go:=λi ρ' S' H' f st hs hi=>by
  have hi':i<n:=by simpa [Ev.Zs] using hi
  refine⟨hi',λx H'' ⟨e,hx⟩=>?_⟩
  subst e hx;refine⟨Fut.refl _ _,st,λd hd=>?_⟩
  have hd':(Ev.Zs lo n).reverse[i]? = some d:=hd;rw[yB hi'] at hd';cases hd';exact Zp _
 stop:=λρ' S' H' f st hs=>by show n<=((Ev.Zs lo n).reverse).length;simp[Ev.Zs]
noncomputable def Zbf (x y:D) (S:Store):R Walk:=match x,y with
 |.int i,.int j=>if (Ev.small i&&Ev.small j)=true then .ok ⟨(Ev.Zs i (j-i).toNat).reverse,[]⟩ S else .no
 |_,_=>.no
theorem J0 (hmr:X.mg "reversed" = none) (hm:X.mg "range" = none) (ha:CA X xw C [a,b] [i,j]) (hgr:Gl X "reversed":=by rfl) (hg:Gl X "range":=by rfl) (hs:starEach [a,b] X.env=[(false,eval a X.env),(false,eval b X.env)]:=by rfl) (hs2:starEach [b] X.env=[(false,eval b X.env)]:=by rfl) :
  CW X xw C tg (.Call (.Name "reversed" p) [.Call (.Name "range" p2) [a,b] [] p3] [] pos) (.rrng i j):=
 PI.imp (vJ hgr hmr hg hm ha hs hs2) λσ H Q ⟨ρ,l,S,st,lr,h⟩=>by
  refine⟨ρ,l,S,st,lr,?_⟩;show End X.K xw Rq ρ H _ ((ev C i l S).bind λx S=>((ev C j l S).bind λy S=>(Ev.R.ok [] S).bind λxs S=>.ok (y::xs) S).bind λxs S=>.ok (x::xs) S)
  have h':End X.K xw (WRel X.K) ρ H Q ((ev C i l S).bind λx S=>(ev C j l S).bind λy S=>Zbf x y S):=h
  cases q:ev C i l S with
  |no=>rw[q] at h';exact h'
  |ex c S1=>rw[q] at h';exact h'
  |ok x S1=>
   rw[q] at h';have h2:End X.K xw (WRel X.K) ρ H Q ((ev C j l S1).bind λy S=>Zbf x y S):=h'
   show End X.K xw Rq ρ H _ (((ev C j l S1).bind λy S=>(Ev.R.ok [] S).bind λxs S=>.ok (y::xs) S).bind λxs S=>.ok (x::xs) S)
   cases q2:ev C j l S1 with
   |no=>rw[q2] at h2;exact h2
   |ex c S2=>rw[q2] at h2;exact h2
   |ok y S2=>
    rw[q2] at h2;intro ρ1 H1 vs f1 st1 r1;obtain⟨v,u,rfl,rv,ru⟩:=reps2 r1;cases x with
    |int n=>cases y with
     |int m=>
      obtain⟨hs,h3⟩:=End.guard (End.mono f1 (show End X.K xw (WRel X.K) ρ H Q (if (Ev.small n&&Ev.small m)=true then .ok ⟨(Ev.Zs n (m-n).toNat).reverse,[]⟩ S2 else .no) from h2))
      obtain⟨s1,s2⟩:=(Py _ _).mp hs;have s1':=Pq (show decide (-(2^62)<=n/\n<2^62)=true from s1)
      have s2':=Pq (show decide (-(2^62)<=m/\m<2^62)=true from s2)
      exact⟨n,m,by rw[rv.int',ru.int'],⟨s1'.1,s1'.2,s2'.1,s2'.2⟩,End.ok (rep:=WRel X.K) h3 st1 vX⟩
     |_=>exact False.elim h2
    |_=>exact False.elim h2
end
end Sd
namespace Sd
open PySem PySem.Spec PyProof.Rows L2
open Ev (D Ob Store Lc R E Sm Calls Walk Fl Fn Bop Cop Ty Bf Mf ltI ltP ZK)
open PySem.SeqAt PySem.MeetsSeq PySem.MeetsSeq2 PySem.MeetsSeq3 PySem.SeqRoads2
open PySem.AutoSeq1 (wpAny_loadPart')
theorem xy (l b:Addr) (u v:List Value) (n n2:Nat) (dd dd2:Option Addr) (sl sl2:Array (Option Value)) (x y:List (List Int)) :
  Meets (Builtin.«tuple.__lt__» ⟨[.ref l,.ref b],[]⟩) (λA R s=>s.heap.get? l=some { cls:=.type "tuple",dict:=dd,data:=.seq u.toArray n,slots:=sl }/\s.heap.get? b=some { cls:=.type "tuple",dict:=dd2,data:=.seq v.toArray n2,slots:=sl2 }/\A.units+1<cLine/\RowsIn s.heap x u/\RowsIn s.heap y v/\R (.ok (.ret (.bool (ltP x y)))) s):=
 .of_wp λprog w A R s h=>by
  obtain⟨hp,g,d,tk,os⟩:=s;obtain⟨hl,hb,hu,hx,hy,h⟩:=h;have f2:=NR;rw[<-Gd] at h
  wp_walk using wpAny_loadPart' hl,wpAny_loadPart' hb,wpAny_forIn_list _ (λrest b s'=>b.1=none/\s'=⟨hp,g,d,tk,os⟩/\∃x' y' u' v',rest=List.zip u' v'/\RowsIn hp x' u'/\RowsIn hp y' v'/\R (.ok (.ret (.bool (Uc (decide (x.length<y.length)) x' y')))) ⟨hp,g,d,tk,os⟩) _
  case turn=>
   rintro ⟨a,c⟩ rest b s' ⟨hb',rfl,x',y',u',v',hz,hx',hy',hR⟩
   match x',y',u',v',hx',hy',hz,hR with
   |i::x',j::y',_::u',_::v',.cons ra ta,.cons rb tb,hz,hR=>
    rw[Nf] at hz;injection hz with h1 h2
    cases h1;unfold Uc at hR;refine Pa (wl ra rb (by omega) prog w _ _ ?_)
    by_cases e:i=j
    ·rw[Pg e] at hR
     rw[PC e]
     wp_walk
     exact⟨rfl,rfl,x',y',u',v',h2,ta,tb,hR⟩
    ·rw[Pi e] at hR
     rw[PV e];simp only[Bool.not_false,NS];refine Pa (Kb (Pa (zy ra rb (by omega) ?_)))
     wp_walk
     exact⟨_,rfl,by simpa using hR⟩
   |[],_,_,_,.nil,_,hz,_=>rw[Ko] at hz;cases hz
   |_::_,[],_,_,_,.nil,hz,_=>rw[Kj] at hz;cases hz
  case fin=>
   rintro ⟨b1,b2⟩ s' ⟨hb',rfl,x',y',u',v',hz,hx',hy',hR⟩
   simp only at hb';subst hb';have hf:Uc (decide (x.length<y.length)) x' y'=decide (x.length<y.length):=by
    match x',y',u',v',hx',hy',hz with
    |[],_,_,_,_,_,_=>unfold Uc;rfl
    |_::_,[],_,_,_,_,_=>unfold Uc;rfl
    |_::_,_::_,_::_,_::_,.cons _ _,.cons _ _,hz=>rw[Nf] at hz;cases hz
   rw[hf] at hR;have l1:u.length=x.length:=by rw[<-hx.length]
   have l2:v.length=y.length:=by rw[<-hy.length]
   wp_walk
   exact⟨_,rfl,by simpa [Builtin.Tuple.tupleCompareSizes,l1,l2] using hR⟩
  case h=>
   exact⟨rfl,rfl,x,y,u,v,by simp,hx,hy,h⟩
theorem ug {prog:Program}{w:World}{A:Around}{E:Value->Shared->Prop}{s:Shared}{a b:Addr}{o o':Obj}{u v:List Value}{m m':Nat}{x y:List (List Int)}{Q:Value->Shared->Prop}(ha:s.heap.get? a=some o) (hc:o.cls=.type "tuple") (hd:o.data=.seq u.toArray m) (hx:RowsIn s.heap x u)
  (hb:s.heap.get? b=some o') (hc':o'.cls=.type "tuple") (hd':o'.data=.seq v.toArray m') (hy:RowsIn s.heap y v) (hu:A.units+3<cLine) (q:Q (.bool (ltP x y)) s):wpAny (model prog w) A (compareOp .Lt (.ref a) (.ref b)) Q E s:=by
 obtain⟨cls,dd,data,sl⟩:=o;obtain⟨cls2,dd2,data2,sl2⟩:=o';simp only at hc hd hc' hd';subst hc hd hc' hd';show wpAny (model prog w) A (richCompare .Lt (.ref a) (.ref b)) Q E s;exact richCompare_meets_room (op:=.Lt) ⟨_,ha,rfl⟩ ⟨_,hb,rfl⟩ F.slot_tuple_lt F.entry_tuple_lt (F.args_tuple_lt_2 _ _) (xy a b u v m m' dd dd2 sl sl2 x y) ⟨ha,hb,by first | exact hu | (show _+_<_;omega) | omega,hx,hy,show Value.bool (ltP x y)≠Value.notImplemented/\Q (.bool (ltP x y)) s from ⟨(λx=>nomatch x),q⟩⟩ (by omega)
section
variable {X:Cx}{xw:Nat->Hp->Prop}
theorem wm (hu:X.A.units+7<cLine):Xg X xw .Lt .lt:=by
 intro pq s σ H v0 u0 v u Q I rv ru ⟨ρ,S,x,y,st,rx,ry,h⟩;rcases ZcC st rx ry h with z | ⟨a,b,A,B,rfl,rfl,hA,hB,q⟩
 ·exact Zc0 pq s σ H v0 u0 v u Q I rv ru z
 ·obtain⟨p1,xs,rfl,hp1,r1⟩:=rx.tup'
  obtain⟨p2,ys,rfl,hp2,r2⟩:=ry.tup';cases rv;cases ru;obtain⟨us,w1,⟨o,ho,hc,m,hd⟩,_⟩:=I.tuple (SqT.of hp1);obtain⟨us',w2,⟨o',ho',hc',m',hd'⟩,_⟩:=I.tuple (SqT.of hp2);obtain⟨ra,_⟩:=W4 I hA r1 w1;obtain⟨rb,_⟩:=W4 I hB r2 w2;exact ug ho hc hd ra.ins ho' hc' hd' rb.ins (by omega) ⟨.bl (ltP A B),H,I,rfl,q⟩
end
end Sd
structure Bx (P:Prop):Prop where
 h:P
namespace Wr
theorem bx3 {P Q R:Prop}(h:Bx P/\Bx Q/\Bx R):P/\Q/\R:=⟨h.1.h,h.2.1.h,h.2.2.h⟩
theorem bx6 {P Q R S T U:Prop}(h:Bx P/\Bx Q/\Bx R/\Bx S/\Bx T/\Bx U):P/\Q/\R/\S/\T/\U:=⟨h.1.h,h.2.1.h,h.2.2.1.h,h.2.2.2.1.h,h.2.2.2.2.1.h,h.2.2.2.2.2.h⟩
def yG {X xw C pos n q}:=Bx.mk (@Sd.yG X xw C pos n q)
def qh {X xw C pos n q}:=Bx.mk (@Sd.qh X xw C pos n q)
def xa {X xw C pos q}:=Bx.mk (@Sd.xa X xw C pos q)
def ZbB {X xw C pos} (n) {x} (hN hv hd hcd):=Bx.mk (@Sd.ZbB X xw C pos n x hN hv hd hcd)
def yu {X xw C pos es is q} (h):=Bx.mk (@Sd.yu X xw C pos es is q (Bx.h h))
def xf {X xw C pos es is} (h):=Bx.mk (@Sd.xf X xw C pos es is (Bx.h h))
def yC {X xw C a b i j pos} (ha hb):=Bx.mk (@Sd.yC X xw C a b i j pos (Bx.h ha) (Bx.h hb))
def xr {X xw C a b i j pos} (ha hb):=Bx.mk (@Sd.xr X xw C a b i j pos (Bx.h ha) (Bx.h hb))
def yk {X xw C a b i j pos} (ha hb):=Bx.mk (@Sd.yk X xw C a b i j pos (Bx.h ha) (Bx.h hb))
def GF {X xw C a b i j pos} (ha hb):=Bx.mk (@Sd.GF X xw C a b i j pos (Bx.h ha) (Bx.h hb))
def xA {X xw C a b i j pos} (ha hb):=Bx.mk (@Sd.xA X xw C a b i j pos (Bx.h ha) (Bx.h hb))
def yJ {X xw C a b i j pos} (ha hb):=Bx.mk (@Sd.yJ X xw C a b i j pos (Bx.h ha) (Bx.h hb))
def yX {X xw C a i pos} (ha):=Bx.mk (@Sd.yX X xw C a i pos (Bx.h ha))
def yA {X xw C a i pos} (ha):=Bx.mk (@Sd.yA X xw C a i pos (Bx.h ha))
def yt {X xw C a b i j pos rest} (ha hb):=Bx.mk (@Sd.yt X xw C a b i j pos rest (Bx.h ha) (Bx.h hb))
def yh {X xw C a b c i j k pos} (hc ha hb):=Bx.mk (@Sd.yh X xw C a b c i j k pos (Bx.h hc) (Bx.h ha) (Bx.h hb))
def YM {X xw C a b i j pos op o} (hc ha hb) (hm):=Bx.mk (@Sd.YM X xw C a b i j pos op o hc (Bx.h ha) (Bx.h hb) hm)
def Vi {X xw C a b i j pos op op' o o' d k} (hc hc' ha hb hd) (hm):=Bx.mk (@Sd.Vi X xw C a b i j pos op op' o o' d k hc hc' (Bx.h ha) (Bx.h hb) (Bx.h hd) hm)
def ur {X xw C a i pos p2 lo hi il ih} (ha hl hh):=Bx.mk (@Sd.ur X xw C a i pos p2 lo hi il ih (Bx.h ha) (Bx.h hl) (Bx.h hh))
def v8 {X xw C a b i j pos} (ha hb) (hs):=Bx.mk (@Sd.v8 X xw C a b i j pos (Bx.h ha) (Bx.h hb) hs)
def VT {X xw C a i pos p p2 T t} (ht hm hmT ha) (hg hgT hvT hnT hdT hs1 hs2 hpl):=Bx.mk (@Sd.VT X xw C a i pos p p2 T t ht hm hmT (Bx.h ha) hg hgT hvT hnT hdT hs1 hs2 hpl)
def Xd {X xw C e pos p f id x es is} (hc hm ha) (hg hv hn hdb he hpl):=Bx.mk (@Sd.Xd X xw C e pos p f id x es is hc hm (Bx.h ha) hg hv hn hdb he hpl)
def Ut {X xw C e pos p f id x es is} (hc hm ha) (hg hv hn hdb he hpl):=Bx.mk (@Sd.Ut X xw C e pos p f id x es is hc hm (Bx.h ha) hg hv hn hdb he hpl)
def VC {X xw C e i o io apos cpos} (ho ha) (hbase hfew hline hs hplain):=Bx.mk (@Sd.VC X xw C e i o io apos cpos (Bx.h ho) (Bx.h ha) hbase hfew hline hs hplain)
def yy {X xw C}:=Bx.mk (@Sd.yy X xw C)
def J2 {X xw C e i es is} (ha hr) (hs):=Bx.mk (@Sd.J2 X xw C e i es is (Bx.h ha) (Bx.h hr) hs)
def JT {X xw C}:=Bx.mk (@Sd.JT X xw C)
def JP {X xw C e i} (h):=Bx.mk (@Sd.JP X xw C e i (Bx.h h))
def y9 {X xw C a i pos} (ha):=Bx.mk (@Sd.y9 X xw C a i pos (Bx.h ha))
def YN {X xw C a b i j pos op o} (hc ha hb) (hm):=Bx.mk (@Sd.YN X xw C a b i j pos op o hc (Bx.h ha) (Bx.h hb) hm)
def ya {X xw C a i} (ha) (he):=Bx.mk (@Sd.ya X xw C a i (Bx.h ha) he)
def JX {X xw C a b i j pos rest} (ha hb):=Bx.mk (@Sd.JX X xw C a b i j pos rest (Bx.h ha) (Bx.h hb))
def xF {X xw C a b i j pos rest} (ha hb):=Bx.mk (@Sd.xF X xw C a b i j pos rest (Bx.h ha) (Bx.h hb))
def JL {X xw C a i pos} (ha):=Bx.mk (@Sd.JL X xw C a i pos (Bx.h ha))
def yc {X xw C a i pos} (ha):=Bx.mk (@Sd.yc X xw C a i pos (Bx.h ha))
def J3 {X xw C}:=Bx.mk (@Sd.J3 X xw C)
def Gf {X xw C c i} (h):=Bx.mk (@Sd.Gf X xw C c i (Bx.h h))
def uf {X xw C e tg i} (he):=Bx.mk (@Sd.uf X xw C e tg i (Bx.h he))
def JQ {X xw C a tg i pos p} (hm ha) (hg hs):=Bx.mk (@Sd.JQ X xw C a tg i pos p hm (Bx.h ha) hg hs)
def Ga {X xw C a b tg i j pos p} (hm ha) (hg hs hs2):=Bx.mk (@Sd.Ga X xw C a b tg i j pos p hm (Bx.h ha) hg hs hs2)
def JS {X pos n x} (hN) (hi hx hf):=Bx.mk (@Sd.JS X pos n x hN hi hx hf)
def xm {X pos tgs q2 n m r} (hc h) (hn hst):=Bx.mk (@Sd.xm X pos tgs q2 n m r hc (Bx.h h) hn hst)
def Gv {X}:=Bx.mk (@Sd.Gv X)
def Qi {X pos tgs n t x} (hN h2) (hi hx hf hs):=Bx.mk (@Sd.Qi X pos tgs n t x hN (Bx.h h2) hi hx hf hs)
def yV {X xw C}:=Bx.mk (@Sd.yV X xw C)
def Gq {X xw C s0 ss m0 ms} (h1 h2):=Bx.mk (@Sd.Gq X xw C s0 ss m0 ms (Bx.h h1) (Bx.h h2))
def yU {X xw C e i pos tg t} (he hg) (hs hw h1):=Bx.mk (@Sd.yU X xw C e i pos tg t (Bx.h he) (Bx.h hg) hs hw h1)
def y6 {X xw C e i pos p o ix io ii} (ho hi he) (ha hs hw h1):=Bx.mk (@Sd.y6 X xw C e i pos p o ix io ii (Bx.h ho) (Bx.h hi) (Bx.h he) ha hs hw h1)
def xg {X xw C e i pos} (he):=Bx.mk (@Sd.xg X xw C e i pos (Bx.h he))
def JZ {X xw C e i pos} (he) (hs):=Bx.mk (@Sd.JZ X xw C e i pos (Bx.h he) hs)
def uF {X xw C c k pos ms ms' sa sb} (hc ha hb):=Bx.mk (@Sd.uF X xw C c k pos ms ms' sa sb (Bx.h hc) (Bx.h ha) (Bx.h hb))
def yo {X xw C tg it pos body ms w t} (hp hc hw hg hb) (hs):=Bx.mk (@Sd.yo X xw C tg it pos body ms w t hp hc (Bx.h hw) (Bx.h hg) (Bx.h hb) hs)
def UV {X C s0 n}:=Bx.mk (@Sd.UV X C s0 n)
def JU {X xw C e i pos p op o n x} (ho hN he) (hi hx hf):=Bx.mk (@Sd.JU X xw C e i pos p op o n x ho hN (Bx.h he) hi hx hf)
def Qm {X xw C c k pos ms body} (hp hc hb):=Bx.mk (@Sd.Qm X xw C c k pos ms body hp (Bx.h hc) (Bx.h hb))
def ye {X xw C a b i j pos p tp elts kk} (hm ha) (hg hs hs2):=Bx.mk (@Sd.ye X xw C a b i j pos p tp elts kk hm (Bx.h ha) hg hs hs2)
def JY {X xw C a i pos p tp elts kk} (hm ha) (hg hs):=Bx.mk (@Sd.JY X xw C a i pos p tp elts kk hm (Bx.h ha) hg hs)
def VO {X xw C e i o io apos cpos} (ho ha) (hbase hfew hline hs hplain):=Bx.mk (@Sd.VO X xw C e i o io apos cpos (Bx.h ho) (Bx.h ha) hbase hfew hline hs hplain)
def yY {X xw C a b i j pos n m x y px py pt kt k2 pt2} (hc hN ha) (hnm hi hj hx hy hw hs):=Bx.mk (@Sd.yY X xw C a b i j pos n m x y px py pt kt k2 pt2 hc hN (Bx.h ha) hnm hi hj hx hy hw hs)
def J4 {X xw C a i pos p p2 p3 T U t u k0 p4} (ht hu hm hmT hmU ha) (hg hgT hgU hvT hvU hnT hdT hnU hdU hs0 hs00 hs1 hs2 hpl):=Bx.mk (@Sd.J4 X xw C a i pos p p2 p3 T U t u k0 p4 ht hu hm hmT hmU (Bx.h ha) hg hgT hgU hvT hvU hnT hdT hnU hdU hs0 hs00 hs1 hs2 hpl)
def WV {X xw C e i pos p kp kp2 q0} (hm ha) (hg he hpl):=Bx.mk (@Sd.WV X xw C e i pos p kp kp2 q0 hm (Bx.h ha) hg he hpl)
def J0 {X xw C a b tg i j pos p p2 p3} (hmr hm ha) (hgr hg hs hs2):=Bx.mk (@Sd.J0 X xw C a b tg i j pos p p2 p3 hmr hm (Bx.h ha) hgr hg hs hs2)
def Qt {X xw C tg it pos elt ifs is ie scope N cap nl w t} (hc hN CS hi) (hb:∀c s H p,Bx _/\Bx _/\Bx _) (hs):=Bx.mk (@Sd.Qt X xw C tg it pos elt ifs is ie scope N cap nl w t hc hN CS (Bx.h hi) (λc s H p=>bx3 (hb c s H p)) hs)
def UD {X xw C tg it pos elt ifs is ie scope N cap nl w t n y spos py} (hc hN CSc hi) (hb:∀c s H p,Bx _/\Bx _/\Bx _) (hsw hy hx hf hs):=Bx.mk (@Sd.UD X xw C tg it pos elt ifs is ie scope N cap nl w t n y spos py hc hN CSc (Bx.h hi) (λc s H p=>bx3 (hb c s H p)) hsw hy hx hf hs)
def VP {X xw C pos elt t1 i1 t2 i2 f1' f2' is js ie scope N cap nl w w2 t u n y spos py} (hc hN CSc hi) (hb:∀c s H p,Bx _/\Bx _/\Bx _/\Bx _/\Bx _/\Bx _) (hsw hy hx hf hs hs2):=Bx.mk (@Sd.VP X xw C pos elt t1 i1 t2 i2 f1' f2' is js ie scope N cap nl w w2 t u n y spos py hc hN CSc (Bx.h hi) (λc s H p=>bx6 (hb c s H p)) hsw hy hx hf hs hs2)
def uM {X xw C e i} (h):=Bx.mk (@Sd.CWh.ct X xw C e i (Bx.h h))
end Wr
namespace Gn
open PySem PySem.Spec PyProof.Rows L2
open Ev (D Ob Store Lc R E Sm Calls Walk Fl Fn Bop Cop Ty Bf Mf)
open Sd (spF CompScope cxC hu7 wI qB)
structure FR where
 x:Str
 st:Stmt
 N:List Str
 k:Nat
noncomputable def FR.ps (r:FR):List Str:=r.N.take r.k
noncomputable def scB (N:List Str) (k:Nat) (sc:Scope):Bool:=
 (match sc.kind with | .function=>true | _=>false)&&(!sc.isCoroutine&&(!sc.isGenerator&&(decide N.Nodup&&((N.take k).all (λx=>decide (sc.names.lookup x=some .local)||decide (sc.names.lookup x=some .cell))&&sc.names.all λy=>decide (y.2≠.free)))))
theorem Zbm {N:List Str}{k:Nat}{sc:Scope}(h:scB N k sc=true):FnScope N (N.take k) sc:=by
 unfold scB at h;simp only[Py,Bool.not_eq_true',NU,PN,Nv] at h;obtain⟨h1,h2,h3,h4,h5,h6⟩:=h;refine⟨?_,h2,h3,h4,?_,h5,h6⟩
 ·cases e:sc.kind <;> rw[e] at h1 <;> first | rfl | cases h1
 ·rw[Ni]
  by_cases hk:k<=N.length
  ·rw[Nat.min_eq_left hk]
  ·rw[Nat.min_eq_right (by omega),List.take_length,KQ (by omega)]
structure Top (K:PySem.W.Frag) (mg:Str->Option Value) (fs:List FR) (zs:List Str) (gs:List (Str×Int)) (f:Nat->Addr) (fd:Nat->FuncData):Prop where
 d:∀i r,fs[i]? = some r->Fun K r.x r.x r.st (f i) (fd i)
 b:∀i r,fs[i]? = some r->Binds K (fd i) r.ps []
 m:∀i r,fs[i]? = some r->mg r.x=some (.ref (f i))
 z:∀x∈zs,mg x=none
 g:∀y∈gs,∃t:Tok,mg y.1=some (.int y.2 t)
def All (P:Program) (w:World) (K:PySem.W.Frag) (mg:Str->Option Value) (base:Heap) (fs:List FR) (F:List Fn) (f:Nat->Addr) (fd:Nat->FuncData) (d:Nat):Prop:=
 ∀i r,fs[i]? = some r->FnOk P w K mg base CX0 d (f i) (fd i) r.ps (spF K (Ev.calls F d) i)
def Bd (fs:List FR) (zs:List Str) (gs:List (Str×Int)) (F:List Fn) (i:Nat) (r:FR) (fn:Fn):Prop:=
 ∀(P:Program) (w:World) (K:PySem.W.Frag) (mg:Str->Option Value) (base:Heap) (f:Nat->Addr) (fd:Nat->FuncData) (d:Nat),Top K mg fs zs gs f fd->All P w K mg base fs F f fd d->r.N.Nodup->
  ∀(cdv:Value) (A:Around) (outer:List Env) (s:Shared) (H:Hp) (E:XK),Room d (A.deeper (envOfC r.x (ZG r.st) s.heap.objs.size (f i) cdv))->(A.deeper (envOfC r.x (ZG r.st) s.heap.objs.size (f i) cdv)).units+7<cLine->
   Bx (Sd.CSs (GT CX0 P w K mg base r.N r.x (ZG r.st) (f i) cdv A outer s H E).nox (λ_ _=>False) (Ev.calls F d) (Ys r.st) fn.body)
def OkL (fs:List FR) (zs:List Str) (gs:List (Str×Int)) (F:List Fn):Nat->List FR->List Fn->Prop
 |_,[],[]=>True
 |i,r::rs,fn::fns=>(fn.ns=r.N.length/\fn.ps=r.ps.length/\scB r.N r.k (ZG r.st)=true/\Bd fs zs gs F i r fn)/\OkL fs zs gs F (i+1) rs fns
 |_,_,_=>False
theorem OkL.get {fs:List FR}{zs:List Str}{gs:List (Str×Int)}{F:List Fn}:∀{rs:List FR}{fns:List Fn}{i0:Nat},OkL fs zs gs F i0 rs fns->∀i r,rs[i]? = some r->∃fn,fns[i]? = some fn/\fn.ns=r.N.length/\fn.ps=r.ps.length/\scB r.N r.k (ZG r.st)=true/\Bd fs zs gs F (i0+i) r fn
 |[],_,_,_,i,r,e=>by simp at e
 |_::_,[],_,h,_,_,_=>h.elim
 |r::rs,fn::fns,i0,h,0,r',e=>by
  simp at e;subst e;exact⟨fn,rfl,h.1.1,h.1.2.1,h.1.2.2.1,h.1.2.2.2⟩
 |r::rs,fn::fns,i0,h,i+1,r',e=>by
  obtain⟨g,a,b,c,d,q⟩:=OkL.get h.2 i r' (by simpa using e)
  exact⟨g,by simpa using a,b,c,d,by rw[Nat.add_assoc,Nat.add_comm 1 i] at q;exact q⟩
theorem u4 {P:Program}{w:World}{K:PySem.W.Frag}{mg:Str->Option Value}{base:Heap}{fs:List FR}{zs:List Str}{gs:List (Str×Int)}{F:List Fn}{f:Nat->Addr}{fd:Nat->FuncData}(O:OkL fs zs gs F 0 fs F) (T:Top K mg fs zs gs f fd):∀d,All P w K mg base fs F f fd d
 |0=>λi r h=>wI
 |d+1=>λi r h=>by
  obtain⟨fn,a,b,c,e,q⟩:=O.get i r h;rw[Nat.zero_add] at q;have S:=Zbm e;exact Sd.jF a b c (T.d i r h) S λcdv A outer s H E hr=>(q P w K mg base f fd d T (u4 O T d) S.nd cdv A outer s H E hr (hu7 hr)).h
def Q7 (r:FR):Prop:=∀(kV doc pm:Value) (an:Option Addr) (cdv ct:Value) (us:List Value),us.length=r.ps.length->bindArgs (PySem.W.fnOf r.x r.x (Y8 r.st) (Ys r.st) (ZG r.st) .none kV doc pm an cdv ct) ⟨us,[]⟩=pure (r.ps.zip us)
section
variable {x:Str}{st:Stmt}
noncomputable abbrev bA (x:Str) (st:Stmt) (kV doc pm:Value) (an:Option Addr) (cdv ct:Value) (us:List Value):=bindArgs (PySem.W.fnOf x x (Y8 st) (Ys st) (ZG st) .none kV doc pm an cdv ct) ⟨us,[]⟩
theorem bd1 {N:List Str}{n:Nat}(h:∀kV doc pm an cdv ct a0,bA x st kV doc pm an cdv ct [a0]=pure ((N.take n).zip [a0])) (hl:(N.take n).length=1:=by rfl):Q7 ⟨x,st,N,n⟩:=λkV doc pm an cdv ct us e=>match us,e.trans hl with | [a0],_=>h kV doc pm an cdv ct a0
theorem bd2 {N:List Str}{n:Nat}(h:∀kV doc pm an cdv ct a0 a1,bA x st kV doc pm an cdv ct [a0,a1]=pure ((N.take n).zip [a0,a1])) (hl:(N.take n).length=2:=by rfl):Q7 ⟨x,st,N,n⟩:=λkV doc pm an cdv ct us e=>match us,e.trans hl with | [a0,a1],_=>h kV doc pm an cdv ct a0 a1
theorem bd3 {N:List Str}{n:Nat}(h:∀kV doc pm an cdv ct a0 a1 a2,bA x st kV doc pm an cdv ct [a0,a1,a2]=pure ((N.take n).zip [a0,a1,a2])) (hl:(N.take n).length=3:=by rfl):Q7 ⟨x,st,N,n⟩:=λkV doc pm an cdv ct us e=>match us,e.trans hl with | [a0,a1,a2],_=>h kV doc pm an cdv ct a0 a1 a2
theorem bd4 {N:List Str}{n:Nat}(h:∀kV doc pm an cdv ct a0 a1 a2 a3,bA x st kV doc pm an cdv ct [a0,a1,a2,a3]=pure ((N.take n).zip [a0,a1,a2,a3])) (hl:(N.take n).length=4:=by rfl):Q7 ⟨x,st,N,n⟩:=λkV doc pm an cdv ct us e=>match us,e.trans hl with | [a0,a1,a2,a3],_=>h kV doc pm an cdv ct a0 a1 a2 a3
end
inductive FnsAt (K:PySem.W.Frag):List FR->List Addr->List FuncData->Prop
 |nil:FnsAt K [] [] []
 |cons {x:Str} {st:Stmt} {N:List Str} {n:Nat} {a:Addr} {rs:List FR} {as:List Addr} {fds:List FuncData} {oc kV dc pm cd ct:Value} {od an:Option Addr} {sl:Array (Option Value)}
   (h1:PySem.W.nsIn K mainGlobals x=some (some (.ref a))) (h2:K.lookup a=some ⟨oc,od,.func (PySem.W.fnOf x x (Y8 st) (Ys st) (ZG st) .none kV dc pm an cd ct),sl⟩)
   (h3:PySem.W.codeIn K cd x=true) (h4:PySem.W.keepIn K (.ref a)=true) (h5:Q7 ⟨x,st,N,n⟩) (t:FnsAt K rs as fds) :
   FnsAt K (⟨x,st,N,n⟩::rs) (a::as) (PySem.W.fnOf x x (Y8 st) (Ys st) (ZG st) .none kV dc pm an cd ct::fds)
inductive ZsAt (K:PySem.W.Frag):List Str->Prop
 |nil:ZsAt K []
 |cons {x:Str} {zs:List Str} (h:PySem.W.nsIn K mainGlobals x=some none) (t:ZsAt K zs):ZsAt K (x::zs)
inductive GsAt (K:PySem.W.Frag):List (Str×Int)->Prop
 |nil:GsAt K []
 |cons {x:Str} {n:Int} {u:Tok} {gs:List (Str×Int)} (h:PySem.W.nsIn K mainGlobals x=some (some (.int n u))) (t:GsAt K gs):GsAt K ((x,n)::gs)
theorem GsAt.get {K:PySem.W.Frag}:∀{gs:List (Str×Int)},GsAt K gs->∀y∈gs,∃t:Tok,PySem.W.nsIn K mainGlobals y.1=some (some (.int y.2 t))
 |_,.nil,x,h=>by simp at h
 |_,.cons h t,x,m=>by
  rcases Pk.mp m with rfl | m
  ·exact⟨_,h⟩
  ·exact t.get x m
theorem FnsAt.get {K:PySem.W.Frag}{fd0:FuncData}:∀{fs:List FR}{as:List Addr}{fds:List FuncData},FnsAt K fs as fds->∀i r,fs[i]? = some r->
  PySem.W.nsIn K mainGlobals r.x=some (some (.ref (as.getD i 0)))/\Fun K r.x r.x r.st (as.getD i 0) (fds.getD i fd0)/\Q7 r
 |_,_,_,.nil,i,r,e=>by simp at e
 |_,_,_,.cons h1 h2 h3 h4 h5 t,0,r,e=>by
  simp at e;subst e;exact⟨h1,Zcf h2 h3 h4,h5⟩
 |_,_,_,.cons h1 h2 h3 h4 h5 t,i+1,r,e=>by
  obtain⟨a,b,c⟩:=t.get i r (by simpa using e)
  exact⟨by simpa using a,by simpa using b,c⟩
theorem ZsAt.get {K:PySem.W.Frag}:∀{zs:List Str},ZsAt K zs->∀x∈zs,PySem.W.nsIn K mainGlobals x=some none
 |_,.nil,x,h=>by simp at h
 |_,.cons h t,x,m=>by
  rcases Pk.mp m with rfl | m
  ·exact h
  ·exact t.get x m
theorem Zcn {l:PySem.W.OpenLaw}{w:World}{K:PySem.W.Frag}{h:Heap}{mg:Str->Option Value}{fa:Addr}{fs:List FR}{zs:List Str}{gs:List (Str×Int)}{F:List Fn}{L:Nat}{st:Stmt}{N:List Str}{as:List Addr}{fds:List FuncData}
  (X:K.In h) (G:h.Ns mainGlobals mg) (hfa:mg "law" = some (.ref fa)) (hL:fs[L]? = some ⟨"law",st,"_law_script" :: N,1⟩) (O:OkL fs zs gs F 0 fs F) (A:FnsAt K fs as fds) (Z:ZsAt K zs) (Y:GsAt K gs) :
  ∃fd:FuncData,(∀(s:Shared) (v:Value),BindsTo s fd ⟨[v],[]⟩ [("_law_script",v)])/\∀base:Heap,K.In base->base.Ns mainGlobals mg->FnOk l.prog w K mg base CX0 65 fa fd ["_law_script"] (spF K (Ev.calls F 65) L):=by
 cases fds with
 |nil=>cases A;simp at hL
 |cons fd0 fds'=>
 have T:Top K mg fs zs gs (λi=>as.getD i 0) (λi=>(fd0::fds').getD i fd0):=
  ⟨λi r e=>(A.get i r e).2.1,λi r e=>by
   obtain⟨_,F,B⟩:=A.get (fd0:=fd0) i r e;exact F.binds B,λi r e=>PySem.W.mg_of X G (A.get (fd0:=fd0) i r e).1,λx hx=>PySem.W.mg_none_of X G (Z.get x hx),λy hy=>by
   obtain⟨t,e⟩:=Y.get y hy;exact⟨t,PySem.W.mg_of X G e⟩⟩
 have e:=hfa.symm.trans (T.m L _ hL);obtain⟨_,Fu,B⟩:=A.get (fd0:=fd0) L _ hL;cases e;refine⟨(fd0::fds').getD L fd0,λs v=>?_,λbase _ _=>u4 O T 65 L _ hL⟩
 obtain⟨oc,od,kV,doc,pm,an,cdv,ct,osl,e,lk,hcd⟩:=Fu.ex;rw[e];exact .of_eq (B kV doc pm an cdv ct [v] rfl)
theorem walk {l:PySem.W.OpenLaw}{q:Program}{loose:List Str}{XP:(Str->Option Value)->Heap->Prop}{YP:World->Heap->Prop}{d:DefRec}{K:Params->PySem.W.Frag}{F:List Fn}{L:Nat}(hok:∀ns:List Int,∃S,Ev.calls F 65 L [.loc 0] [.scr ns]=.ok (.bl true) S) (hn:l.most=some 63) (hdf:d.params.defaults=[])
  (hY:∀(w:World) (h:Heap),YP w h->(K w.params).In h)
  (hF:∀(w:World) (mg:Str->Option Value) (fa:Addr) (h:Heap),(K w.params).In h->h.Ns mainGlobals mg->mg d.name=some (.ref fa)->
   ∃fd:FuncData,(∀(s:Shared) (u:Value),BindsTo s fd ⟨[u],[]⟩ [("_law_script",u)])/\∀base:Heap,(K w.params).In base->base.Ns mainGlobals mg->FnOk l.prog w (K w.params) mg base CX0 65 fa fd ["_law_script"] (spF (K w.params) (Ev.calls F 65) L)) :
  PySem.W.WalkO q loose XP YP l.row.toRowW d [] (λf vs=>PySem.call f vs):=
 L2.jO (n:=63) (k:=65) (x:="_law_script") (CX:=λ_=>CX0) (sp:=λw=>spF (K w.params) (Ev.calls F 65) L) hn (by decide) hdf ⟨rfl,by decide,by decide⟩ hY hF (λw H a ns hl hO hS=>qB hO hS (hok ns)) λ_ _ _ _ _ z=>z
section
variable {X:Cx}{xw:Nat->Hp->Prop}{C:Calls}{e a b:Expr}{i j:E}{es:List Expr}{is:List E}{pos p p2 p3:Pos}{fs:List FR}{zs:List Str}{gs:List (Str×Int)}{F:List Fn}{f:Nat->Addr}{fd:Nat->FuncData}{d:Nat}
theorem Top.no {K:PySem.W.Frag}{mg:Str->Option Value}{x:Str}(T:Top K mg fs zs gs f fd) (h:zs.contains x=true):mg x=none:=T.z x (by simpa using h)
theorem ZcA {n:Nat}{x:Str}(T:Top X.K X.mg fs zs gs f fd) (h:All X.prog X.w X.K X.mg X.base fs F f fd d) (hr:Room d X.A) (ha:Bx (Sd.CA X (λ_ _=>False) (Ev.calls F d) (e::es) is)) (hx:(fs[n]?).map FR.x=some x) (hg:Gl X x) (hdb:(x == ("__debug__" : Str))=false)
  (he:starEach (e::es) X.env=(false,eval e X.env)::starEach es X.env) (hpl:(backTo pos (starEach es X.env)).any (·.1)=false):Bx (Sd.CE X (λ_ _=>False) (Ev.calls F d) (.Call (.Name x p) (e::es) [] pos) (.call n is)):=by
 cases e0:fs[n]? with
 |none=>rw[e0] at hx;cases hx
 |some r=>
  rw[e0] at hx;obtain rfl:r.x=x:=Pb hx;exact⟨Sd.ZaB (h n r e0) hr (T.m n r e0) (T.d n r e0).kp (T.b n r e0) ha.h hg hdb he hpl⟩
theorem Zcu {n:Int}{x:Str}(T:Top X.K X.mg fs zs gs f fd) (h:gs.contains (x,n)=true) (hg:Gl X x) (hd:(x == ("__debug__" : Str))=false):Bx (Sd.CE X xw C (.Name x p) (.c (.int n))):=by
 obtain⟨t,e⟩:=T.g (x,n) (by simpa using h)
 exact⟨Sd.Zan e hg hd⟩
noncomputable def csB (sc:Scope) (N0:List Str) (scope:Scope) (N:List Str) (cap:List Nat) (nl:Nat):Bool:=
 ((N.take nl).all (λx=>decide (scope.names.lookup x=some .local))&&(decide (N.length=nl+cap.length)&&(cap.zipIdx.all (λp=>decide (N[nl+p.2]? = N0[p.1]?)&&decide ((N0[p.1]?).map (λx=>decide ((x,NameKind.free)∈scope.names))=some true)) &&
  ((match scope.kind with | .function=>true | _=>false)&&scope.names.all λy=>decide (y.2≠.cell)&&((!decide (y.2=.local)||decide (scope.names.lookup y.1=some .local))&&(!decide (y.2=.free)||((decide (sc.names.lookup y.1=some .cell)||decide (sc.names.lookup y.1=some .free))&&decide (scope.names.lookup y.1≠some .local))))))))
theorem ZO {sc:Scope}{N0:List Str}{scope:Scope}{N:List Str}{cap:List Nat}{nl:Nat}(h:csB sc N0 scope N cap nl=true):CompScope sc N0 scope N cap nl:=by
 unfold csB at h;simp only[Py,Nv,Bool.not_eq_true',NU,decide_eq_false_iff_not,PN] at h;obtain⟨_,h1,h2,h3,h4⟩:=h;refine⟨?_,λy hy=>(h4 y hy).1,λy hy z=>?_,λy hy z=>?_,λy hy z=>?_,h1,h2⟩
 ·cases e:scope.kind <;> rw[e] at h3 <;> first | rfl | cases h3
 ·rcases (h4 y hy).2.1 with q | q
  ·exact absurd z q
  ·exact q
 ·rcases (h4 y hy).2.2 with q | q
  ·exact absurd z q
  ·exact q.1
 ·rcases (h4 y hy).2.2 with q | q
  ·exact absurd z q
  ·exact q.2
end
end Gn
namespace Pv
open Ev
open PySem (Str)
inductive V where
 |non | bl (b:Bool) | int (i:Int) | str (x:Str) | tup (xs:List V) | lst (xs:List V) | drw
 deriving Inhabited
noncomputable abbrev DS:=Int×Bool
inductive PR (α:Type) where
 |ok (a:α) (s:DS) | ex (c:Nat) (s:DS) | no
noncomputable def PR.bind {α β:Type} (r:PR α) (f:α->DS->PR β):PR β:=match r with
 |.ok a s=>f a s
 |.ex c s=>.ex c s
 |.no=>.no
noncomputable def po {α:Type} (o:Option α) (s:DS):PR α:=match o with
 |some a=>.ok a s
 |none=>.no
noncomputable abbrev Env:=List (Option V)
mutual
noncomputable def V.flat:V->Bool
 |.tup xs=>fq xs
 |.lst _=>false
 |.drw=>false
 |_=>true
noncomputable def fq:List V->Bool
 |[]=>true
 |x::xs=>x.flat&&fq xs
end
mutual
noncomputable def toD:V->D
 |.non=>.non
 |.bl b=>.bl b
 |.int i=>.int i
 |.str x=>.str x
 |.tup xs=>.tup (Yz xs)
 |_=>.non
noncomputable def Yz:List V->List D
 |[]=>[]
 |x::xs=>toD x::Yz xs
end
mutual
noncomputable def ofD:D->Option V
 |.non=>some .non
 |.bl b=>some (.bl b)
 |.int i=>some (.int i)
 |.str x=>some (.str x)
 |.tup xs=>(wP xs).map .tup
 |_=>none
noncomputable def wP:List D->Option (List V)
 |[]=>some []
 |x::xs=>match ofD x,wP xs with
  |some a,some b=>some (a::b)
  |_,_=>none
end
noncomputable def Yi:V->Option Bool
 |.non=>some false
 |.bl b=>some b
 |.int i=>some (decide (i≠0))
 |.tup xs=>some (!xs.isEmpty)
 |.lst xs=>some (!xs.isEmpty)
 |_=>none
noncomputable def Vk (f:V->V->Option Bool):List V->List V->Option Bool
 |[],[]=>some true
 |x::xs,y::ys=>match f x y,Vk f xs ys with
  |some a,some b=>some (a&&b)
  |_,_=>none
 |_,_=>some false
noncomputable def eqV:Nat->V->V->Option Bool
 |0,_,_=>none
 |k+1,x,y=>match x,y with
  |.non,.non=>some true
  |.bl a,.bl b=>some (decide (a=b))
  |.int a,.int b=>some (decide (a=b))
  |.bl a,.int b=>some (decide (b2i a=b))
  |.int a,.bl b=>some (decide (a=b2i b))
  |.str a,.str b=>some (decide (a=b))
  |.tup xs,.tup ys=>Vk (eqV k) xs ys
  |.lst xs,.lst ys=>if xs.length=ys.length then Vk (eqV k) xs ys else some false
  |.non,.bl _ | .non,.int _ | .non,.str _ | .bl _,.non | .int _,.non | .str _,.non=>some false
  |.bl _,.str _ | .int _,.str _ | .str _,.bl _ | .str _,.int _=>some false
  |_,_=>none
noncomputable def WX (x:V):List V->Option Bool
 |[]=>some false
 |y::ys=>match eqV Zm y x,WX x ys with
  |some a,some b=>some (a||b)
  |_,_=>none
noncomputable def zi:V->Ty->Option Bool
 |.non,_=>some false
 |.bl _,t=>some (decide (t=.bool\/t=.int))
 |.int _,t=>some (decide (t=.int))
 |.str _,t=>some (decide (t=.str))
 |.tup _,t=>some (decide (t=.tuple))
 |.lst _,t=>some (decide (t=.list))
 |_,_=>none
noncomputable def Xj (x:V):List Ty->Option Bool
 |[]=>some false
 |t::ts=>match zi x t with
  |some true=>some true
  |some false=>Xj x ts
  |none=>none
noncomputable def Xo (xs:List V) (lo hi:Option Int):List V:=(xs.drop (sIx xs.length 0 lo)).take (sIx xs.length xs.length hi-sIx xs.length 0 lo)
noncomputable def Qd (op:Bop) (x y:V) (s:DS):PR V:=match op,x,y with
 |.add,.int a,.int b=>.ok (.int (a+b)) s
 |.sub,.int a,.int b=>.ok (.int (a-b)) s
 |.mul,.int a,.int b=>if (fits a&&fits b)=true then .ok (.int (a*b)) s else .no
 |.fdiv,.int a,.int b=>if 0<b/\b<1073741824 then .ok (.int (a / b)) s else .no
 |.mod,.int a,.int b=>if 0<b then .ok (.int (a%b)) s else .no
 |.pow,.int a,.int b=>if 0<=b/\b<=1000/\a.natAbs<2^64 then .ok (.int (a^b.toNat)) s else .no
 |.add,.tup a,.tup b=>if a.length+b.length<=lim then .ok (.tup (a++b)) s else .no
 |.mul,.tup a,.int b=>if 0<=b/\b<1000/\a.length<=1000 then .ok (.tup (List.replicate b.toNat a).flatten) s else .no
 |.mul,.lst a,.int b=>if 0<=b/\b<1000/\a.length<=1000 then .ok (.lst (List.replicate b.toNat a).flatten) s else .no
 |.add,.lst a,.lst b=>if a.length+b.length<=lim then .ok (.lst (a++b)) s else .no
 |_,_,_=>.no
noncomputable def ve (op:Bop) (x y:V) (s:DS):PR V:=match x,y with
 |.int _,.int _=>Qd op x y s
 |_,_=>.no
noncomputable def Wg (x y:V):Option Bool:=match y with
 |.tup ys=>WX x ys
 |.lst ys=>WX x ys
 |_=>none
noncomputable def Xs:V->Bool
 |.non=>true
 |_=>false
noncomputable def intsV:List V->Option (List Int)
 |[]=>some []
 |.int i::r=>(intsV r).map (i :: ·)
 |_::_=>none
noncomputable def Zf (r:List Int):V:=.tup (r.map .int)
noncomputable def Ye:List V->Option (List (List Int))
 |[]=>some []
 |.tup x::r=>match intsV x,Ye r with
  |some a,some b=>some (a::b)
  |_,_=>none
 |_::_=>none
noncomputable def WI (op:Cop) (x y:V):Option V:=match op with
 |.eq=>(eqV Zm x y).map .bl
 |.ne=>(eqV Zm x y).map λb=>.bl !b
 |.lt=>match x,y with
  |.int a,.int b=>some (.bl (decide (a<b)))
  |.tup a,.tup b=>(Ye a).bind λP=>(Ye b).map λQ=>.bl (ltP P Q)
  |_,_=>none
 |.gt=>match x,y with
  |.int a,.int b=>some (.bl (decide (b<a)))
  |_,_=>none
 |.le=>match x,y with
  |.int a,.int b=>some (.bl (decide (a<=b)))
  |_,_=>none
 |.ge=>match x,y with
  |.int a,.int b=>some (.bl (decide (b<=a)))
  |_,_=>none
 |.is=>match x,y with
  |_,.non=>some (.bl (Xs x))
  |.bl a,.bl b=>some (.bl (decide (a=b)))
  |_,_=>none
 |.isn=>match x,y with
  |_,.non=>some (.bl !(Xs x))
  |.bl a,.bl b=>some (.bl (decide (a≠b)))
  |_,_=>none
 |.inn=>(Wg x y).map .bl
 |.nin=>(Wg x y).map λb=>.bl !b
noncomputable def ixV (x y:V):Option V:=match x,y with
 |.tup xs,.int i=>at' xs i
 |.lst xs,.int i=>at' xs i
 |_,_=>none
noncomputable def slV (x:V) (lo hi:Option Int):Option V:=match x with
 |.tup xs=>some (.tup (Xo xs lo hi))
 |.lst xs=>some (.lst (Xo xs lo hi))
 |_=>none
noncomputable def Zdc:V->Option V
 |.tup xs=>some (.tup xs.reverse)
 |_=>none
noncomputable def UB:V->Option Bool
 |.non=>some false
 |.bl b=>some b
 |.int i=>some (decide (i≠0))
 |_=>none
noncomputable def ZN:List V->Option (List Bool)
 |[]=>some []
 |x::xs=>match UB x,ZN xs with
  |some b,some bs=>some (b::bs)
  |_,_=>none
noncomputable def Za (P:List (List Int)):V:=.tup (P.map Zf)
noncomputable def VX:V->Option (List (List Int))
 |.tup ks=>Ye ks
 |_=>none
noncomputable def XI:List V->Option (List (List (List Int)))
 |[]=>some []
 |x::r=>match VX x,XI r with
  |some a,some b=>some (a::b)
  |_,_=>none
noncomputable def vn:List V->Bool
 |.tup (.int _::_)::_=>true
 |_=>false
noncomputable def Z6:V->Option (List V)
 |.tup xs=>some xs
 |.lst xs=>some xs
 |_=>none
noncomputable def QC (f:Bf) (as:List V):Option V:=match f,as with
 |.len,[x]=>(Z6 x).map λxs=>.int xs.length
 |.max2,[.int a,.int b]=>some (.int (if b>a then b else a))
 |.min2,[.int a,.int b]=>some (.int (if b<a then b else a))
 |.toInt,[.int a]=>some (.int a)
 |.toInt,[.bl b]=>some (.int (b2i b))
 |.tuple,[x]=>(Z6 x).map .tup
 |.list,[x]=>(Z6 x).map .lst
 |.all,[.lst xs]=>(ZN xs).map λbs=>.bl (bs.all id)
 |.any,[x]=>(Z6 x).bind λxs=>(ZN xs).map λbs=>.bl (bs.any id)
 |.sum,[.lst xs]=>(intsV xs).bind λis=>if QI is=true then some (.int is.sum) else none
 |.sorted,[.lst xs]=>if vn xs=true then (Ye xs).bind λrs=>if sortOk rs=true then some (.lst ((ZM rs).map Zf)) else none else (XI xs).bind λps=>if ZH ps=true then some (.lst ((Zw ltP ps).map Za)) else none
 |.sortedR,[.lst xs]=>(Ye xs).bind λrs=>if sortOk rs=true then some (.lst ((ZM rs).reverse.map Zf)) else none
 |_,_=>none
noncomputable def YO:List Nat->List V->Env->Option Env
 |[],[],ρ=>some ρ
 |i::t,x::xs,ρ=>YO t xs (ρ.set i (some x))
 |_,_,_=>none
noncomputable def Zu (t:List Nat) (x:V) (ρ:Env):Option Env:=match t with
 |[i]=>some (ρ.set i (some x))
 |t=>match Z6 x with
  |some xs=>YO t xs ρ
  |none=>none
noncomputable def Yn (lo:Int) (n:Nat):List V:=(List.range n).map λ(k:Nat)=>.int (lo+(k:Int))
noncomputable abbrev Zt:=Nat->List V->DS->PR V
noncomputable def Z8 (cap:List Nat) (nl:Nat) (ρ:Env):Env:=List.replicate nl none++cap.map λi=>(ρ[i]?).join
noncomputable def mapP (f:V->DS->PR (List V)):List V->DS->PR (List V)
 |[],s=>.ok [] s
 |x::xs,s=>match f x s with
  |.ok ys s=>match mapP f xs s with
   |.ok zs s=>.ok (ys++zs) s
   |_=>.no
  |_=>.no
noncomputable def own (nl:Nat) (t:List Nat):Bool:=t.all λi=>decide (i<nl)
noncomputable def own2 (nl:Nat) (t u:List Nat):Bool:=own nl t&&u.all λi=>decide (i<nl) && !t.contains i
mutual
noncomputable def pv (C:Zt):E->Env->DS->PR V
 |.c d,_,s=>po (ofD d) s
 |.v i,ρ,s=>po (ρ[i]?).join s
 |.tup es,ρ,s=>(pvs C es ρ s).bind λxs s=>if xs.length<=lim then .ok (.tup xs) s else .no
 |.lst es,ρ,s=>(pvs C es ρ s).bind λxs s=>if xs.length<=lim then .ok (.lst xs) s else .no
 |.dnew,_,_=>.no
 |.dput1 _ _,_,_=>.no
 |.bin op a b,ρ,s=>(pv C a ρ s).bind λx s=>(pv C b ρ s).bind λy s=>Qd op x y s
 |.neg a,ρ,s=>(pv C a ρ s).bind λx s=>match x with
  |.int i=>.ok (.int (-i)) s
  |_=>.no
 |.not a,ρ,s=>(pv C a ρ s).bind λx s=>(po (Yi x) s).bind λb s=>.ok (.bl !b) s
 |.and a b,ρ,s=>(pv C a ρ s).bind λx s=>match x with
  |.bl c=>if c then pv C b ρ s else .ok (.bl false) s
  |_=>.no
 |.or a b,ρ,s=>(pv C a ρ s).bind λx s=>match x with
  |.bl c=>if c then .ok (.bl true) s else pv C b ρ s
  |_=>.no
 |.ite t a b,ρ,s=>(pv C t ρ s).bind λx s=>(po (Yi x) s).bind λc s=>if c then pv C a ρ s else pv C b ρ s
 |.cmp op a b,ρ,s=>(pv C a ρ s).bind λx s=>(pv C b ρ s).bind λy s=>po (WI op x y) s
 |.chain o p a b d,ρ,s=>(pv C a ρ s).bind λx s=>(pv C b ρ s).bind λy s=>(po (WI o x y) s).bind λz s=>match z with
  |.bl c=>if c then (pv C d ρ s).bind λw s=>po (WI p y w) s else .ok (.bl false) s
  |_=>.no
 |.ix a i,ρ,s=>(pv C a ρ s).bind λx s=>(pv C i ρ s).bind λy s=>po (ixV x y) s
 |.sl a lo hi,ρ,s=>(pv C a ρ s).bind λx s=>(pvo C lo ρ s).bind λl s=>(pvo C hi ρ s).bind λh s=>po (slV x l h) s
 |.rev a,ρ,s=>(pv C a ρ s).bind λx s=>po (Zdc x) s
 |.call f as,ρ,s=>(pvs C as ρ s).bind λxs s=>C f xs s
 |.blt f as,ρ,s=>(pvs C as ρ s).bind λxs s=>po (QC f xs) s
 |.mt _ _ _,_,_=>.no
 |.isi a ts,ρ,s=>(pv C a ρ s).bind λx s=>(po (Xj x ts) s).bind λb s=>.ok (.bl b) s
 |.inT a tab,ρ,s=>(pv C a ρ s).bind λx s=>match x with
  |.int i=>.ok (.bl ((tab.map (·.1)).contains i)) s
  |_=>.no
 |.getT tab a,ρ,s=>(pv C a ρ s).bind λx s=>match x with
  |.int i=>(po (tab.lookup i) s).bind λj s=>.ok (.int j) s
  |_=>.no
 |.comp1 cap nl t it ifs elt,ρ,s=>if own nl t=true then (pvw C it ρ s).bind λw s=>
   (mapP (λx s=>(po (Zu t x (Z8 cap nl ρ)) s).bind λσ s=>(pvt C ifs σ s).bind λb s=>if b then (pv C elt σ s).bind λy s=>.ok [y] s else .ok [] s) w s).bind
    λys s=>if ys.length<=lim then .ok (.lst ys) s else .no
  else .no
 |.comp2 cap nl t it ifs u jt jfs elt,ρ,s=>if own2 nl t u=true then (pvw C it ρ s).bind λw s=>
   (mapP (λx s=>(po (Zu t x (Z8 cap nl ρ)) s).bind λσ s=>(pvt C ifs σ s).bind λb s=>if b then
    (pvw C jt σ s).bind λw2 s=>mapP (λx s=>(po (Zu u x σ) s).bind λσ s=>(pvt C jfs σ s).bind λb s=>if b then (pv C elt σ s).bind λy s=>.ok [y] s else .ok [] s) w2 s
    else .ok [] s) w s).bind
    λys s=>if ys.length<=lim then .ok (.lst ys) s else .no
  else .no
 |.fstr,_,_=>.no
noncomputable def pvs (C:Zt):List E->Env->DS->PR (List V)
 |[],_,s=>.ok [] s
 |e::es,ρ,s=>(pv C e ρ s).bind λx s=>(pvs C es ρ s).bind λxs s=>.ok (x::xs) s
noncomputable def pvo (C:Zt):Option E->Env->DS->PR (Option Int)
 |none,_,s=>.ok none s
 |some e,ρ,s=>(pv C e ρ s).bind λx s=>match x with
  |.int i=>.ok (some i) s
  |_=>.no
noncomputable def pvt (C:Zt):List E->Env->DS->PR Bool
 |[],_,s=>.ok true s
 |e::es,ρ,s=>(pv C e ρ s).bind λx s=>(po (Yi x) s).bind λb s=>if b then pvt C es ρ s else .ok false s
noncomputable def pvw (C:Zt):W->Env->DS->PR (List V)
 |.rng1 a,ρ,s=>(pv C a ρ s).bind λx s=>match x with
  |.int i=>if small i then .ok (Yn 0 i.toNat) s else .no
  |_=>.no
 |.rng2 a b,ρ,s=>(pv C a ρ s).bind λx s=>(pv C b ρ s).bind λy s=>match x,y with
  |.int i,.int j=>if (small i&&small j)=true then .ok (Yn i (j-i).toNat) s else .no
  |_,_=>.no
 |.rrng a b,ρ,s=>(pv C a ρ s).bind λx s=>(pv C b ρ s).bind λy s=>match x,y with
  |.int i,.int j=>if (small i&&small j)=true then .ok (Yn i (j-i).toNat).reverse s else .no
  |_,_=>.no
 |.zip a b,ρ,s=>(pv C a ρ s).bind λx s=>(pv C b ρ s).bind λy s=>match Z6 x,Z6 y with
  |some v,some w=>.ok ((v.zip w).map λp=>.tup [p.1,p.2]) s
  |_,_=>.no
 |.enum a,ρ,s=>(pv C a ρ s).bind λx s=>match Z6 x with
  |some w=>.ok (((Yn 0 w.length).zip w).map λp=>.tup [p.1,p.2]) s
  |none=>.no
 |.of e,ρ,s=>(pv C e ρ s).bind λx s=>po (Z6 x) s
end
inductive FlV where | nx (ρ:Env) (os:List Nat) | ret (v:V) | brk (ρ:Env) (os:List Nat) | cnt (ρ:Env) (os:List Nat)
noncomputable def hide (os:List Nat) (ρ:Env):Env:=ρ.mapIdx λi o=>if os.contains i then none else o
noncomputable def fresh:E->Bool
 |.lst _=>true
 |.comp1 .. => true
 |.comp2 .. => true
 |.bin .mul (.lst _) _=>true
 |.blt .list _=>true
 |.blt .sorted _=>true
 |_=>false
noncomputable def pvA (C:Zt) (e:E) (ρ:Env) (os:List Nat) (s:DS):PR V:=match os with
 |[]=>pv C e ρ s
 |os=>match pv C e (hide os ρ) s with
  |.ok v s=>.ok v s
  |.ex c s=>.ex c s
  |.no=>(pv C e ρ s).bind λv s=>if v.flat then .ok v s else .no
noncomputable def ZcI (C:Zt) (es:List E) (ρ:Env) (os:List Nat) (s:DS):PR (List V):=match os with
 |[]=>pvs C es ρ s
 |_=>(pvs C es ρ s).bind λv s=>if fq v then .ok v s else .no
noncomputable def Ue (C:Zt) (e:E) (ρ:Env) (s:DS):PR Bool:=(pv C e ρ s).bind λx s=>po (Yi x) s
noncomputable def V9 (body:V->Env->List Nat->DS->PR FlV):List V->Env->List Nat->DS->PR FlV
 |[],ρ,os,s=>.ok (.nx ρ os) s
 |x::xs,ρ,os,s=>(body x ρ os s).bind λf s=>match f with
  |.nx ρ os=>V9 body xs ρ os s
  |.cnt ρ os=>V9 body xs ρ os s
  |.brk ρ os=>.ok (.nx ρ os) s
  |.ret v=>.ok (.ret v) s
noncomputable def Xk (test:Env->DS->PR Bool) (body:Env->List Nat->DS->PR FlV):Nat->Env->List Nat->DS->PR FlV
 |0,_,_,_=>.no
 |n+1,ρ,os,s=>(test ρ s).bind λb s=>if b then (body ρ os s).bind λf s=>match f with
  |.nx ρ os=>Xk test body n ρ os s
  |.cnt ρ os=>Xk test body n ρ os s
  |.brk ρ os=>.ok (.nx ρ os) s
  |.ret v=>.ok (.ret v) s
  else .ok (.nx ρ os) s
noncomputable def WL:Option (Option V)->Option (List V)
 |some (some (.lst xs))=>some xs
 |_=>none
mutual
noncomputable def rv (C:Zt) (ms:List Nat):Sm->Env->List Nat->DS->PR FlV
 |.asg [i] e,ρ,os,s=>(pvA C e ρ os s).bind λv s=>if (ms.contains i&&fresh e)=true then match v with
   |.lst xs=>if fq xs=true/\i<ρ.length then .ok (.nx (ρ.set i (some v)) (i::os.filter (· != i))) s else .no
   |_=>.no
  else .ok (.nx (ρ.set i (some v)) (os.filter (· != i))) s
 |.asg t e,ρ,os,s=>(pvA C e ρ os s).bind λv s=>if (t.any os.contains)=true then .no else (po (Zu t v ρ) s).bind λρ s=>.ok (.nx ρ os) s
 |.par t es,ρ,os,s=>(ZcI C es ρ os s).bind λvs s=>if (t.any os.contains)=true then .no else (po (YO t vs ρ) s).bind λρ s=>.ok (.nx ρ os) s
 |.aug i op e,ρ,os,s=>if os.contains i then .no else (po (ρ[i]?).join s).bind λx s=>(pv C e ρ s).bind λy s=>(ve op x y s).bind λz s=>.ok (.nx (ρ.set i (some z)) os) s
 |.put (.v i) k e,ρ,os,s=>if os.contains i then (pv C e ρ s).bind λv s=>if v.flat then (po (WL ρ[i]?) s).bind λxs s=>(pv C k ρ s).bind λy s=>match y with
   |.int n=>(po (ixN xs.length n) s).bind λj s=>.ok (.nx (ρ.set i (some (.lst (xs.set j v)))) os) s
   |_=>.no
  else .no else .no
 |.put _ _ _,_,_,_=>.no
 |.dput _ _ _,_,_,_=>.no
 |.ret e,ρ,os,s=>(pv C e ρ s).bind λv s=>.ok (.ret v) s
 |.ex (.mt .append (.v i) [e]),ρ,os,s=>if os.contains i then (po (WL ρ[i]?) s).bind λxs s=>(pv C e ρ s).bind λv s=>if v.flat=true/\xs.length<lim then .ok (.nx (ρ.set i (some (.lst (xs++[v])))) os) s else .no else .no
 |.ex (.mt .extend (.v i) [e]),ρ,os,s=>if os.contains i then (po (WL ρ[i]?) s).bind λxs s=>(pv C e (hide os ρ) s).bind λv s=>match v with
   |.lst ys=>if fq ys=true/\xs.length+ys.length<=lim then .ok (.nx (ρ.set i (some (.lst (xs++ys)))) os) s else .no
   |_=>.no
  else .no
 |.ex e,ρ,os,s=>(pv C e ρ s).bind λ_ s=>.ok (.nx ρ os) s
 |.ite t a b,ρ,os,s=>(Ue C t ρ s).bind λc s=>if c then rvs C ms a ρ os s else rvs C ms b ρ os s
 |.forr t it b,ρ,os,s=>(pvw C it (hide os ρ) s).bind λw s=>V9 (λx ρ os s=>if (t.any os.contains)=true then .no else if (os.isEmpty||x.flat)=true then (po (Zu t x ρ) s).bind λρ s=>rvs C ms b ρ os s else .no) w ρ os s
 |.whl t b,ρ,os,s=>Xk (Ue C t) (rvs C ms b) Ve ρ os s
 |.raise c as,ρ,os,s=>(pvs C as ρ s).bind λ_ s=>.ex c s
 |.pas,ρ,os,s=>.ok (.nx ρ os) s
 |.brk,ρ,os,s=>.ok (.brk ρ os) s
 |.cnt,ρ,os,s=>.ok (.cnt ρ os) s
noncomputable def rvs (C:Zt) (ms:List Nat):List Sm->Env->List Nat->DS->PR FlV
 |[],ρ,os,s=>.ok (.nx ρ os) s
 |m::ss,ρ,os,s=>(rv C ms m ρ os s).bind λf s=>match f with
  |.nx ρ os=>rvs C ms ss ρ os s
  |f=>.ok f s
end
mutual
noncomputable def muts1:Sm->List Nat
 |.put (.v i) _ _=>[i]
 |.ex (.mt .append (.v i) _)=>[i]
 |.ex (.mt .extend (.v i) _)=>[i]
 |.ite _ a b=>muts a++muts b
 |.forr _ _ b=>muts b
 |.whl _ b=>muts b
 |_=>[]
noncomputable def muts:List Sm->List Nat
 |[]=>[]
 |m::ss=>muts1 m++muts ss
end
noncomputable def XH (n:Nat) (xs:List V):Env:=xs.map some++List.replicate (n-xs.length) none
noncomputable def takeF (s:DS) (m:Int):Int×DS:=
 if s.2 then (s.1%m,(s.1 / m,true)) else
  let x:=(s.1*48271+29)%2147483647
  let y:=(x*x+39373*x+7)%2147483629
  let z:=(y*y+16807*y)%2147483587
  (z / 8%m,(x,false))
noncomputable def takeV (vs:List V) (s:DS):PR V:=match vs with
 |[.drw,.int m]=>if 0<m/\m<1073741824 then .ok (.int (takeF s m).1) (takeF s m).2 else .no
 |_=>.no
noncomputable def ZU (F:List Fn) (tk:Nat):Nat->Zt
 |0,_,_,_=>.no
 |d+1,f,xs,s=>if f=tk then takeV xs s else match F[f]? with
  |some fn=>if xs.length=fn.ps then (rvs (ZU F tk d) (muts fn.body) fn.body (XH fn.ns xs) [] s).bind λf s=>match f with
    |.ret v=>.ok v s
    |.nx _ _=>.ok .non s
    |_=>.no
   else .no
  |none=>.no
end Pv
namespace Pv
open Ev
mutual
def Rep (S:Store) (X:Nat->Prop) (n0:Nat):V->D->Prop
 |.non,d=>d=.non
 |.bl b,d=>d=.bl b
 |.int i,d=>d=.int i
 |.str x,d=>d=.str x
 |.tup vs,d=>∃ds,d=.tup ds/\Rq S X n0 vs ds
 |.lst vs,d=>∃n ds,d=.loc n/\S[n]? = some (.lst ds)/\¬X n/\Rq S X n0 vs ds
 |.drw,d=>d=.loc n0
def Rq (S:Store) (X:Nat->Prop) (n0:Nat):List V->List D->Prop
 |[],ds=>ds=[]
 |v::vs,ds=>∃d es,ds=d::es/\Rep S X n0 v d/\Rq S X n0 vs es
end
section
variable {S S':Store}{X X':Nat->Prop}{n0:Nat}
theorem Y5 {n:Nat}{o:Ob}(h:S[n]? = some o):n<S.length:=(Pr.mp h).1
mutual
theorem Rep.mono (k:∀n o,¬X n->S[n]? = some o->S'[n]? = some o) (x:∀n,n<S.length->X' n->X n):∀{v:V}{d:D},Rep S X n0 v d->Rep S' X' n0 v d
 |.non,_,h | .bl _,_,h | .int _,_,h | .str _,_,h | .drw,_,h=>by unfold Rep at h ⊢;exact h
 |.tup vs,d,h=>by
  unfold Rep at h ⊢;obtain⟨ds,e,r⟩:=h;exact⟨ds,e,Rq.mono k x r⟩
 |.lst vs,d,h=>by
  unfold Rep at h ⊢;obtain⟨n,ds,e,hs,hx,r⟩:=h;exact⟨n,ds,e,k n _ hx hs,λz=>hx (x n (Y5 hs) z),Rq.mono k x r⟩
theorem Rq.mono (k:∀n o,¬X n->S[n]? = some o->S'[n]? = some o) (x:∀n,n<S.length->X' n->X n):∀{vs:List V}{ds:List D},Rq S X n0 vs ds->Rq S' X' n0 vs ds
 |[],_,h=>by unfold Rq at h ⊢;exact h
 |v::vs,ds,h=>by
  unfold Rq at h ⊢;obtain⟨d,es,e,r,rs⟩:=h;exact⟨d,es,e,Rep.mono k x r,Rq.mono k x rs⟩
end
theorem Rq.nil:Rq S X n0 [] []:=by unfold Rq;rfl
theorem Rq.cons {v:V}{d:D}{vs:List V}{ds:List D}(r:Rep S X n0 v d) (rs:Rq S X n0 vs ds):Rq S X n0 (v::vs) (d::ds):=by unfold Rq;exact⟨d,ds,rfl,r,rs⟩
theorem Rq.nil' {ds:List D}(h:Rq S X n0 [] ds):ds=[]:=by unfold Rq at h;exact h
theorem Rq.cons' {v:V}{vs:List V}{ds:List D}(h:Rq S X n0 (v::vs) ds):∃d es,ds=d::es/\Rep S X n0 v d/\Rq S X n0 vs es:=by unfold Rq at h;exact h
theorem Rq.length:∀{vs:List V}{ds:List D},Rq S X n0 vs ds->ds.length=vs.length
 |[],_,h=>by rw[h.nil'];rfl
 |v::vs,_,h=>by obtain⟨d,es,rfl,_,t⟩:=h.cons';rw[Px,Px,Rq.length t]
theorem Rq.append:∀{vs ws:List V}{ds es:List D},Rq S X n0 vs ds->Rq S X n0 ws es->Rq S X n0 (vs++ws) (ds++es)
 |[],_,_,_,h,r=>by rw[h.nil'];exact r
 |v::vs,_,_,_,h,r=>by obtain⟨d,es,rfl,a,t⟩:=h.cons';exact Rq.cons a (Rq.append t r)
theorem Rq.take:∀{vs:List V}{ds:List D}(k:Nat),Rq S X n0 vs ds->Rq S X n0 (vs.take k) (ds.take k)
 |_,_,0,_=>Rq.nil
 |[],_,k+1,h=>by rw[h.nil'];exact Rq.nil
 |v::vs,_,k+1,h=>by obtain⟨d,es,rfl,a,t⟩:=h.cons';exact Rq.cons a (Rq.take k t)
theorem Rq.drop:∀{vs:List V}{ds:List D}(k:Nat),Rq S X n0 vs ds->Rq S X n0 (vs.drop k) (ds.drop k)
 |_,_,0,h=>h
 |[],_,k+1,h=>by rw[h.nil'];exact Rq.nil
 |v::vs,_,k+1,h=>by obtain⟨d,es,rfl,a,t⟩:=h.cons';exact Rq.drop k t
theorem Rq.get:∀{vs:List V}{ds:List D}{i:Nat}{v:V},Rq S X n0 vs ds->vs[i]? = some v->∃d,ds[i]? = some d/\Rep S X n0 v d
 |[],_,_,_,_,e=>by simp at e
 |v::vs,_,0,_,h,e=>by
  obtain⟨d,es,rfl,a,t⟩:=h.cons';simp at e;subst e;exact⟨d,rfl,a⟩
 |v::vs,_,i+1,_,h,e=>by
  obtain⟨d,es,rfl,a,t⟩:=h.cons';obtain⟨u,q,r⟩:=Rq.get (i:=i) t (by simpa using e)
  exact⟨u,by simpa using q,r⟩
theorem Rq.reverse:∀{vs:List V}{ds:List D},Rq S X n0 vs ds->Rq S X n0 vs.reverse ds.reverse
 |[],_,h=>by rw[h.nil'];exact Rq.nil
 |v::vs,_,h=>by
  obtain⟨d,es,rfl,a,t⟩:=h.cons';rw[Ka,Ka];exact Rq.append (Rq.reverse t) (Rq.cons a Rq.nil)
theorem Rq.rep {vs:List V}{ds:List D}(h:Rq S X n0 vs ds):∀k:Nat,Rq S X n0 (List.replicate k vs).flatten (List.replicate k ds).flatten
 |0=>Rq.nil
 |k+1=>by rw[PZ,PZ,P5,P5];exact Rq.append h (Rq.rep h k)
theorem Rq.empty:∀{vs:List V}{ds:List D},Rq S X n0 vs ds->ds.isEmpty=vs.isEmpty
 |[],_,h=>by rw[h.nil'];rfl
 |v::vs,_,h=>by obtain⟨d,es,rfl,_,_⟩:=h.cons';rfl
mutual
theorem X3:∀{v:V}{d:D},v.flat=true->Rep S X n0 v d->d=toD v
 |.non,_,_,h | .bl _,_,_,h | .int _,_,_,h | .str _,_,_,h=>by unfold Rep at h;exact h
 |.tup vs,d,hf,h=>by
  unfold Rep at h;obtain⟨ds,rfl,r⟩:=h;exact congrArg D.tup (Xt hf r)
 |.lst _,_,hf,_=>by cases hf
 |.drw,_,hf,_=>by cases hf
theorem Xt:∀{vs:List V}{ds:List D},fq vs=true->Rq S X n0 vs ds->ds=Yz vs
 |[],_,_,h=>h.nil'
 |v::vs,_,hf,h=>by
  obtain⟨d,es,rfl,a,t⟩:=h.cons';unfold fq at hf;obtain⟨h1,h2⟩:=(Py _ _).mp hf;rw[X3 h1 a,Xt h2 t];rfl
end
mutual
theorem UN:∀{v:V},v.flat=true->Rep S X n0 v (toD v)
 |.non,_ | .bl _,_ | .int _,_ | .str _,_=>by unfold Rep;rfl
 |.tup vs,hf=>by unfold Rep;exact⟨Yz vs,rfl,Ws hf⟩
 |.lst _,hf=>by cases hf
 |.drw,hf=>by cases hf
theorem Ws:∀{vs:List V},fq vs=true->Rq S X n0 vs (Yz vs)
 |[],_=>Rq.nil
 |v::vs,hf=>by
  unfold fq at hf;obtain⟨h1,h2⟩:=(Py _ _).mp hf;exact Rq.cons (UN h1) (Ws h2)
end
theorem Rep.int' {i:Int}{d:D}(h:Rep S X n0 (.int i) d):d=.int i:=by unfold Rep at h;exact h
theorem Rep.bl' {i:Bool}{d:D}(h:Rep S X n0 (.bl i) d):d=.bl i:=by unfold Rep at h;exact h
theorem Rep.non' {d:D}(h:Rep S X n0 .non d):d=.non:=by unfold Rep at h;exact h
theorem Rep.str' {x:PySem.Str}{d:D}(h:Rep S X n0 (.str x) d):d=.str x:=by unfold Rep at h;exact h
theorem Rep.tup' {vs:List V}{d:D}(h:Rep S X n0 (.tup vs) d):∃ds,d=.tup ds/\Rq S X n0 vs ds:=by unfold Rep at h;exact h
theorem Rep.lst' {vs:List V}{d:D}(h:Rep S X n0 (.lst vs) d):∃n ds,d=.loc n/\S[n]? = some (.lst ds)/\¬X n/\Rq S X n0 vs ds:=by unfold Rep at h;exact h
theorem Rep.drw' {d:D}(h:Rep S X n0 .drw d):d=.loc n0:=by unfold Rep at h;exact h
theorem Zp (i:Int):Rep S X n0 (.int i) (.int i):=by unfold Rep;rfl
theorem Zq (i:Bool):Rep S X n0 (.bl i) (.bl i):=by unfold Rep;rfl
theorem Ww:Rep S X n0 .non .non:=by unfold Rep;rfl
theorem ZS {vs:List V}{ds:List D}(h:Rq S X n0 vs ds):Rep S X n0 (.tup vs) (.tup ds):=by unfold Rep;exact⟨ds,rfl,h⟩
theorem J8 {vs:List V}{n:Nat}{ds:List D}(hs:S[n]? = some (.lst ds)) (hx:¬X n) (h:Rq S X n0 vs ds):Rep S X n0 (.lst vs) (.loc n):=by unfold Rep;exact⟨n,ds,rfl,hs,hx,h⟩
theorem ZA {n:Nat}{ds:List D}(h:S[n]? = some (.lst ds)):Zh S n=some ds:=by unfold Zh;rw[h]
theorem UT {n:Nat}{ds:List D}(h:S[n]? = some (.lst ds)):Z9 S n=some ds:=by unfold Z9;rw[h]
mutual
theorem wA:∀{d:D}{v:V},ofD d=some v->Rep S X n0 v d
 |.non,v,h | .bl _,v,h | .int _,v,h | .str _,v,h=>by cases h;unfold Rep;rfl
 |.tup ds,v,h=>by
  unfold ofD at h;cases q:wP ds with
  |none=>rw[q] at h;cases h
  |some vs=>rw[q] at h;cases h;exact ZS (zc q)
 |.loc _,_,h | .fn _,_,h | .exc _ _,_,h=>by cases h
theorem zc:∀{ds:List D}{vs:List V},wP ds=some vs->Rq S X n0 vs ds
 |[],vs,h=>by cases h;exact Rq.nil
 |d::ds,vs,h=>by
  unfold wP at h;cases q:ofD d with
  |none=>rw[q] at h;cases h
  |some a=>
   cases q2:wP ds with
   |none=>rw[q,q2] at h;cases h
   |some b=>rw[q,q2] at h;cases h;exact Rq.cons (wA q) (zc q2)
end
theorem Y2 {v:V}{d:D}{b:Bool}(r:Rep S X n0 v d) (h:Yi v=some b):truth S d=some b:=by
 cases v with
 |non=>cases r.non';exact h
 |bl x=>cases r.bl';exact h
 |int x=>cases r.int';exact h
 |str x=>cases h
 |drw=>cases h
 |tup vs=>
  obtain⟨ds,rfl,rs⟩:=r.tup';show some (!ds.isEmpty)=some b;rw[rs.empty];exact h
 |lst vs=>
  obtain⟨n,ds,rfl,hs,_,rs⟩:=r.lst';show (Z9 S n).map _=some b;rw[UT hs];show some (!ds.isEmpty)=some b;rw[rs.empty];exact h
theorem yg {f:V->V->Option Bool}{g:D->D->Option Bool}(hf:∀v w d e b,Rep S X n0 v d->Rep S X n0 w e->f v w=some b->g d e=some b):∀{vs ws:List V}{ds es:List D}{b:Bool},Rq S X n0 vs ds->Rq S X n0 ws es->Vk f vs ws=some b->eqL g ds es=some b
 |[],[],_,_,b,h1,h2,h=>by rw[h1.nil',h2.nil'];exact h
 |[],w::ws,_,_,b,h1,h2,h=>by rw[h1.nil'];obtain⟨d,es,rfl,_,_⟩:=h2.cons';exact h
 |v::vs,[],_,_,b,h1,h2,h=>by rw[h2.nil'];obtain⟨d,es,rfl,_,_⟩:=h1.cons';exact h
 |v::vs,w::ws,_,_,b,h1,h2,h=>by
  obtain⟨d,ds,rfl,a1,t1⟩:=h1.cons';obtain⟨e,es,rfl,a2,t2⟩:=h2.cons';unfold Vk at h;cases q1:f v w with
  |none=>rw[q1] at h;cases h
  |some x=>
   cases q2:Vk f vs ws with
   |none=>rw[q1,q2] at h;cases h
   |some y=>
    rw[q1,q2] at h;unfold eqL;rw[hf v w d e x a1 a2 q1,yg hf t1 t2 q2];exact h
theorem QA:∀(k:Nat) (v w:V) (d e:D) (b:Bool),Rep S X n0 v d->Rep S X n0 w e->eqV k v w=some b->eqD S k d e=some b
 |0,_,_,_,_,_,_,_,h=>by cases h
 |k+1,v,w,d,e,b,r1,r2,h=>by
  cases v with
  |tup vs=>cases w with
   |tup ws=>
    obtain⟨ds,rfl,t1⟩:=r1.tup';obtain⟨es,rfl,t2⟩:=r2.tup';exact yg (QA k) t1 t2 h
   |_=>cases h
  |lst vs=>cases w with
   |lst ws=>
    obtain⟨m,ds,rfl,hs1,_,t1⟩:=r1.lst';obtain⟨n,es,rfl,hs2,_,t2⟩:=r2.lst';have h':(if vs.length=ws.length then Vk (eqV k) vs ws else some false)=some b:=h
    show (match Zh S m,Zh S n with
     |some xs,some ys=>if xs.length=ys.length then eqL (eqD S k) xs ys else some false
     |_,_=>none)=some b
    rw[ZA hs1,ZA hs2];show (if ds.length=es.length then eqL (eqD S k) ds es else some false)=some b
    rw[t1.length,t2.length];by_cases c:vs.length=ws.length
    ·rw[Pg c] at h' ⊢;exact yg (QA k) t1 t2 h'
    ·rw[Pi c] at h' ⊢;exact h'
   |_=>cases h
  |drw=>cases w <;> cases h
  |non=>cases r1.non';cases w with
   |non=>cases r2.non';exact h
   |bl _=>cases r2.bl';exact h
   |int _=>cases r2.int';exact h
   |str _=>cases r2.str';exact h
   |_=>cases h
  |bl x=>cases r1.bl';cases w with
   |non=>cases r2.non';exact h
   |bl _=>cases r2.bl';exact h
   |int _=>cases r2.int';exact h
   |str _=>cases r2.str';exact h
   |_=>cases h
  |int x=>cases r1.int';cases w with
   |non=>cases r2.non';exact h
   |bl _=>cases r2.bl';exact h
   |int _=>cases r2.int';exact h
   |str _=>cases r2.str';exact h
   |_=>cases h
  |str x=>cases r1.str';cases w with
   |non=>cases r2.non';exact h
   |bl _=>cases r2.bl';exact h
   |int _=>cases r2.int';exact h
   |str _=>cases r2.str';exact h
   |_=>cases h
theorem yE {x:V}{dx:D}(rx:Rep S X n0 x dx):∀{vs:List V}{ds:List D}{b:Bool},Rq S X n0 vs ds->WX x vs=some b->inL S dx ds=some b
 |[],_,b,h,e=>by rw[h.nil'];exact e
 |v::vs,_,b,h,e=>by
  obtain⟨d,ds,rfl,a,t⟩:=h.cons';unfold WX at e;cases q1:eqV Zm v x with
  |none=>rw[q1] at e;cases e
  |some y=>
   cases q2:WX x vs with
   |none=>rw[q1,q2] at e;cases e
   |some z=>
    rw[q1,q2] at e;unfold inL;rw[QA _ _ _ _ _ _ a rx q1,yE rx t q2];exact e
theorem jC {v:V}{d:D}{t:Ty}{b:Bool}(r:Rep S X n0 v d) (h:zi v t=some b):zJ S d t=some b:=by
 cases v with
 |non=>cases r.non';exact h
 |bl x=>cases r.bl';exact h
 |int x=>cases r.int';exact h
 |str x=>cases r.str';exact h
 |drw=>cases h
 |tup vs=>obtain⟨ds,rfl,rs⟩:=r.tup';exact h
 |lst vs=>
  obtain⟨n,ds,rfl,hs,_,rs⟩:=r.lst';show (match S[n]? with
   |some (.lst _)=>some (decide (t=.list))
   |some (.dt _)=>some (decide (t=.dict))
   |some (.dk _)=>some (decide (t=.dict))
   |_=>none)=some b
  rw[hs];exact h
theorem zY {v:V}{d:D}(r:Rep S X n0 v d):∀{ts:List Ty}{b:Bool},Xj v ts=some b->UK S d ts=some b
 |[],b,h=>h
 |t::ts,b,h=>by
  unfold Xj at h;unfold UK;cases q:zi v t with
  |none=>rw[q] at h;cases h
  |some x=>
   rw[q] at h;rw[jC r q];cases x with
   |true=>exact h
   |false=>exact zY r h
theorem Zbc {vs:List V}{ds:List D}{i:Int}{v:V}(r:Rq S X n0 vs ds) (h:at' vs i=some v):∃d,at' ds i=some d/\Rep S X n0 v d:=by
 unfold at' at h ⊢;rw[r.length];cases q:ixN vs.length i with
 |none=>rw[q] at h;cases h
 |some j=>rw[q] at h;exact r.get h
theorem qZ {vs:List V}{ds:List D}{lo hi:Option Int}(r:Rq S X n0 vs ds):Rq S X n0 (Xo vs lo hi) (cut ds lo hi):=by
 unfold Xo cut;rw[r.length];exact (r.drop _).take _
theorem VR:∀{vs:List V}{ds:List D}{is:List Int},Rq S X n0 vs ds->intsV vs=some is->Qh ds=some is/\YQ ds=some is
 |[],_,is,r,h=>by rw[r.nil'];cases h;exact⟨rfl,rfl⟩
 |v::vs,_,is,r,h=>by
  obtain⟨d,ds,rfl,a,t⟩:=r.cons';cases v with
  |int i=>
   cases a.int';have h':(intsV vs).map (i :: ·)=some is:=h
   cases q:intsV vs with
   |none=>rw[q] at h';cases h'
   |some js=>
    rw[q] at h';obtain⟨e1,e2⟩:=VR t q;refine⟨?_,?_⟩
    ·show (Qh ds).map (i :: ·)=some is;rw[e1];exact h'
    ·show (YQ ds).map (i :: ·)=some is;rw[e2];exact h'
  |_=>cases h
theorem YT:∀{vs:List V}{ds:List D}{rs:List (List Int)},Rq S X n0 vs ds->Ye vs=some rs->ZK ds=some rs
 |[],_,rs,r,h=>by rw[r.nil'];cases h;rfl
 |v::vs,_,rs,r,h=>by
  obtain⟨d,ds,rfl,a,t⟩:=r.cons';cases v with
  |tup xs=>
   obtain⟨es,rfl,r2⟩:=a.tup';unfold Ye at h;cases q1:intsV xs with
   |none=>rw[q1] at h;cases h
   |some x=>
    cases q2:Ye vs with
    |none=>rw[q1,q2] at h;cases h
    |some y=>
     rw[q1,q2] at h;unfold ZK;have:UZ (.tup es)=some x:=(VR r2 q1).2;rw[this,YT t q2];exact h
  |_=>cases h
theorem zE:∀(is:List Int),Rq S X n0 (is.map V.int) (is.map D.int)
 |[]=>Rq.nil
 |i::is=>Rq.cons (Zp i) (zE is)
theorem Vq:∀(rs:List (List Int)),Rq S X n0 (rs.map Zf) (rs.map X4)
 |[]=>Rq.nil
 |r::rs=>Rq.cons (ZS (zE r)) (Vq rs)
theorem U3:∀{vs:List V}{ds:List D}{ps:List (List (List Int))},Rq S X n0 vs ds->XI vs=some ps->Yf ds=some ps
 |[],_,ps,r,h=>by rw[r.nil'];cases h;rfl
 |v::vs,_,ps,r,h=>by
  obtain⟨d,ds,rfl,a,t⟩:=r.cons';cases v with
  |tup xs=>
   obtain⟨es,rfl,r2⟩:=a.tup';unfold XI at h;cases q1:Ye xs with
   |none=>rw[show VX (.tup xs)=none from q1] at h;cases h
   |some x=>
    cases q2:XI vs with
    |none=>rw[show VX (.tup xs)=some x from q1,q2] at h;cases h
    |some y=>
     rw[show VX (.tup xs)=some x from q1,q2] at h
     unfold Yf;rw[show JR (.tup es)=some x from YT r2 q1,U3 t q2];exact h
  |_=>cases h
theorem Q9:∀(ps:List (List (List Int))),Rq S X n0 (ps.map Za) (ps.map Vl)
 |[]=>Rq.nil
 |P::ps=>Rq.cons (ZS (Vq P)) (Q9 ps)
theorem ZbE {vs:List V}{ds:List D}(r:Rq S X n0 vs ds):wR ds=vn vs:=by
 cases vs with
 |nil=>rw[r.nil'];rfl
 |cons v vs=>
  obtain⟨d,ds,rfl,a,t⟩:=r.cons';cases v with
  |tup xs=>
   obtain⟨es,rfl,r2⟩:=a.tup';cases xs with
   |nil=>rw[r2.nil'];rfl
   |cons x xs=>
    obtain⟨e,es,rfl,b,t2⟩:=r2.cons';cases x with
    |non=>cases b.non';rfl
    |bl _=>cases b.bl';rfl
    |int _=>cases b.int';rfl
    |str _=>cases b.str';rfl
    |tup _=>obtain⟨_,rfl,_⟩:=b.tup';rfl
    |lst _=>obtain⟨_,_,rfl,_⟩:=b.lst';rfl
    |drw=>cases b.drw';rfl
  |non=>cases a.non';rfl
  |bl _=>cases a.bl';rfl
  |int _=>cases a.int';rfl
  |str _=>cases a.str';rfl
  |lst _=>obtain⟨_,_,rfl,_⟩:=a.lst';rfl
  |drw=>cases a.drw';rfl
theorem vB {v:V}{d:D}{b:Bool}(r:Rep S X n0 v d) (h:UB v=some b):ptruth d=some b:=by
 cases v with
 |non=>cases r.non';exact h
 |bl x=>cases r.bl';exact h
 |int x=>cases r.int';exact h
 |_=>cases h
theorem VY:∀{vs:List V}{ds:List D}{bs:List Bool},Rq S X n0 vs ds->ZN vs=some bs->truths ds=some bs
 |[],_,bs,r,h=>by rw[r.nil'];exact h
 |v::vs,_,bs,r,h=>by
  obtain⟨d,ds,rfl,a,t⟩:=r.cons';unfold ZN at h;cases q1:UB v with
  |none=>rw[q1] at h;cases h
  |some x=>
   cases q2:ZN vs with
   |none=>rw[q1,q2] at h;cases h
   |some y=>
    rw[q1,q2] at h;unfold truths;rw[vB a q1,VY t q2];exact h
theorem xi {v:V}{d:D}{vs:List V}(r:Rep S X n0 v d) (h:Z6 v=some vs):∃ds,YH S d=some ds/\Rq S X n0 vs ds:=by
 cases v with
 |tup xs=>obtain⟨ds,rfl,rs⟩:=r.tup';cases h;exact⟨ds,rfl,rs⟩
 |lst xs=>obtain⟨n,ds,rfl,hs,_,rs⟩:=r.lst';cases h;exact⟨ds,UT hs,rs⟩
 |_=>cases h
end
structure Ext (n0:Nat) (S S':Store):Prop where
 len:S.length<=S'.length
 keep:∀n o,n≠n0->S[n]? = some o->S'[n]? = some o
theorem Ext.refl {n0:Nat}{S:Store}:Ext n0 S S:=⟨Pp _,λ_ _ _ h=>h⟩
theorem Ext.trans {n0:Nat}{S S1 S2:Store}(a:Ext n0 S S1) (b:Ext n0 S1 S2):Ext n0 S S2:=⟨PY a.len b.len,λn o h e=>b.keep n o h (a.keep n o h e)⟩
theorem Ext.app {n0:Nat}{S T:Store}:Ext n0 S (S++T):=⟨by simp,λn o _ e=>by rw[PB (Y5 e)];exact e⟩
def Dw (n0:Nat) (S:Store) (s:DS):Prop:=S[n0]? = some (.lst [.int s.1,.bl s.2])/\0<=s.1/\(s.2=false->s.1<2147483647)
theorem Dw.app {n0:Nat}{S T:Store}{s:DS}(h:Dw n0 S s):Dw n0 (S++T) s:=⟨by rw[PB (Y5 h.1)];exact h.1,h.2⟩
structure Xok (X:Nat->Prop) (n0:Nat) (S:Store):Prop where
 z:X n0
 lt:∀n,X n->n<S.length
theorem Xok.ext {X:Nat->Prop}{n0:Nat}{S S':Store}(h:Xok X n0 S) (e:Ext n0 S S'):Xok X n0 S':=⟨h.z,λn x=>PL (h.lt n x) e.len⟩
theorem Rep.ext {X:Nat->Prop}{n0:Nat}{S S':Store}{v:V}{d:D}(x:Xok X n0 S) (e:Ext n0 S S') (h:Rep S X n0 v d):Rep S' X n0 v d:=
 h.mono (λn o nx hs=>e.keep n o (λz=>nx (z▸x.z)) hs) λ_ _ h=>h
theorem Rq.ext {X:Nat->Prop}{n0:Nat}{S S':Store}{v:List V}{d:List D}(x:Xok X n0 S) (e:Ext n0 S S') (h:Rq S X n0 v d):Rq S' X n0 v d:=
 h.mono (λn o nx hs=>e.keep n o (λz=>nx (z▸x.z)) hs) λ_ _ h=>h
def Sim {α β:Type} (n0:Nat) (S:Store) (Rl:Store->β->α->Prop) (r:R α) (q:PR β):Prop:=match q with
 |.no=>True
 |.ok b s'=>∃a S',r=.ok a S'/\Ext n0 S S'/\Dw n0 S' s'/\Rl S' b a
 |.ex c s'=>∃S',r=.ex c S'/\Ext n0 S S'/\Dw n0 S' s'
section
variable {α β γ δ:Type}{n0:Nat}{S:Store}{X:Nat->Prop}
theorem Sim.bind {Rl:Store->β->α->Prop}{Rm:Store->δ->γ->Prop}{r:R α}{q:PR β}{f:α->Store->R γ}{g:β->DS->PR δ}(h:Sim n0 S Rl r q)
  (k:∀a b S' s',Ext n0 S S'->Dw n0 S' s'->Rl S' b a->Sim n0 S' Rm (f a S') (g b s')):Sim n0 S Rm (r.bind f) (q.bind g):=by
 cases q with
 |no=>exact True.intro
 |ex c s'=>
  obtain⟨S',e,x,w⟩:=h;rw[e];exact⟨S',rfl,x,w⟩
 |ok b s'=>
  obtain⟨a,S',e,x,w,rl⟩:=h;rw[e];have k':=k a b S' s' x w rl;show Sim n0 S Rm (f a S') (g b s');cases q2:g b s' with
  |no=>exact True.intro
  |ex c s2=>
   rw[q2] at k';obtain⟨S2,e2,x2,w2⟩:=k';exact⟨S2,e2,x.trans x2,w2⟩
  |ok b2 s2=>
   rw[q2] at k';obtain⟨a2,S2,e2,x2,w2,r2⟩:=k';exact⟨a2,S2,e2,x.trans x2,w2,r2⟩
theorem Sim.ok {Rl:Store->β->α->Prop}{a:α}{b:β}{s:DS}(w:Dw n0 S s) (r:Rl S b a):Sim n0 S Rl (.ok a S) (.ok b s):=⟨a,S,rfl,Ext.refl,w,r⟩
theorem Sim.app {Rl:Store->β->α->Prop}{a:α}{b:β}{s:DS}{T:Store}(w:Dw n0 S s) (r:Rl (S++T) b a):Sim n0 S Rl (.ok a (S++T)) (.ok b s):=⟨a,S++T,rfl,Ext.app,w.app,r⟩
theorem Sim.po {Rl:Store->β->α->Prop}{r:R α}{o:Option β}{s:DS}(h:∀b,o=some b->Sim n0 S Rl r (.ok b s)):Sim n0 S Rl r (po o s):=by
 cases o with
 |none=>exact True.intro
 |some b=>exact h b rfl
theorem Sim.obp {Rl:Store->β->α->Prop}{o':Option α}{o:Option β}{s:DS}(w:Dw n0 S s) (h:∀b,o=some b->∃a,o'=some a/\Rl S b a):Sim n0 S Rl (ob o' S) (Pv.po o s):=by
 cases o with
 |none=>exact True.intro
 |some b=>
  obtain⟨a,e,r⟩:=h b rfl;rw[e];exact Sim.ok w r
theorem Sim.guard {Rl:Store->β->α->Prop}{r r':R α}{q:PR β}{P:Prop}[Decidable P] (h:P->Sim n0 S Rl r q):Sim n0 S Rl (if P then r else r') (if P then q else .no):=by
 by_cases c:P
 ·rw[Pg c,Pg c];exact h c
 ·rw[Pi c,Pi c];exact True.intro
noncomputable abbrev RlV (X:Nat->Prop) (n0:Nat):Store->V->D->Prop:=λS v d=>Rep S X n0 v d
noncomputable abbrev Zag (X:Nat->Prop) (n0:Nat):Store->List V->List D->Prop:=λS v d=>Rq S X n0 v d
noncomputable abbrev RlE {α:Type}:Store->α->α->Prop:=λ_ a b=>b=a
theorem Sim.new {vs:List V}{ds:List D}{s:DS}(x:Xok X n0 S) (w:Dw n0 S s) (r:Rq S X n0 vs ds):Sim n0 S (RlV X n0) (.ok (.loc S.length) (S++[.lst ds])) (.ok (.lst vs) s):=
 Sim.app w (J8 (by simp) (λz=>P2 _ (x.lt _ z)) (r.ext x Ext.app))
theorem xD {op:Bop}{x y:V}{a b:D}{s:DS}(xo:Xok X n0 S) (w:Dw n0 S s) (rx:Rep S X n0 x a) (ry:Rep S X n0 y b):Sim n0 S (RlV X n0) (binop op a b S) (Qd op x y s):=by
 have bad:∀r:R D,Sim n0 S (RlV X n0) r .no:=λ_=>True.intro
 cases x with
 |int i=>
  cases rx.int';cases y with
  |int j=>
   cases ry.int';cases op with
   |add=>exact Sim.ok w (Zp _)
   |sub=>exact Sim.ok w (Zp _)
   |mul=>exact Sim.guard λ_=>Sim.ok w (Zp _)
   |fdiv=>exact Sim.guard λ_=>Sim.ok w (Zp _)
   |mod=>exact Sim.guard λ_=>Sim.ok w (Zp _)
   |pow=>exact Sim.guard λ_=>Sim.ok w (Zp _)
  |_=>cases op <;> exact bad _
 |tup us=>
  obtain⟨ds,rfl,r1⟩:=rx.tup';cases y with
  |tup ws=>
   obtain⟨es,rfl,r2⟩:=ry.tup';cases op with
   |add=>
    show Sim n0 S (RlV X n0) (if ds.length+es.length<=lim then .ok (.tup (ds++es)) S else .no) (if us.length+ws.length<=lim then .ok (.tup (us++ws)) s else .no)
    rw[r1.length,r2.length];exact Sim.guard λ_=>Sim.ok w (ZS (r1.append r2))
   |_=>exact bad _
  |int j=>
   cases ry.int';cases op with
   |mul=>
    show Sim n0 S (RlV X n0) (if 0<=j/\j<1000/\ds.length<=1000 then .ok (.tup (List.replicate j.toNat ds).flatten) S else .no) (if 0<=j/\j<1000/\us.length<=1000 then .ok (.tup (List.replicate j.toNat us).flatten) s else .no)
    rw[r1.length];exact Sim.guard λ_=>Sim.ok w (ZS (r1.rep _))
   |_=>exact bad _
  |_=>cases op <;> exact bad _
 |lst us=>
  obtain⟨n,ds,rfl,hs,_,r1⟩:=rx.lst';cases y with
  |lst ws=>
   obtain⟨m,es,rfl,hs2,_,r2⟩:=ry.lst';cases op with
   |add=>
    show Sim n0 S (RlV X n0) (match Zh S n,Zh S m with
     |some a,some b=>if a.length+b.length<=lim then .ok (.loc S.length) (S++[.lst (a++b)]) else .no
     |_,_=>.no) (if us.length+ws.length<=lim then .ok (.lst (us++ws)) s else .no)
    rw[ZA hs,ZA hs2];show Sim n0 S (RlV X n0) (if ds.length+es.length<=lim then .ok (.loc S.length) (S++[.lst (ds++es)]) else .no) _
    rw[r1.length,r2.length];exact Sim.guard λ_=>Sim.new xo w (r1.append r2)
   |_=>exact bad _
  |int j=>
   cases ry.int';cases op with
   |mul=>
    show Sim n0 S (RlV X n0) (match Zh S n with
     |some a=>if 0<=j/\j<1000/\a.length<=1000 then .ok (.loc S.length) (S++[.lst (List.replicate j.toNat a).flatten]) else .no
     |none=>.no) (if 0<=j/\j<1000/\us.length<=1000 then .ok (.lst (List.replicate j.toNat us).flatten) s else .no)
    rw[ZA hs];show Sim n0 S (RlV X n0) (if 0<=j/\j<1000/\ds.length<=1000 then .ok (.loc S.length) (S++[.lst (List.replicate j.toNat ds).flatten]) else .no) _
    rw[r1.length];exact Sim.guard λ_=>Sim.new xo w (r1.rep _)
   |_=>exact bad _
  |_=>cases op <;> exact bad _
 |_=>cases op <;> exact bad _
theorem ZaF {op:Bop}{x y:V}{a b:D}{s:DS}(xo:Xok X n0 S) (w:Dw n0 S s) (rx:Rep S X n0 x a) (ry:Rep S X n0 y b):Sim n0 S (RlV X n0) (augop op a b S) (ve op x y s):=by
 cases x with
 |int i=>cases y with
  |int j=>
   have h:=xD (op:=op) xo w rx ry;cases rx.int';cases ry.int';exact h
  |_=>exact True.intro
 |_=>exact True.intro
theorem Gu {op:Cop}{x y:V}{a b:D}{s:DS}(w:Dw n0 S s) (rx:Rep S X n0 x a) (ry:Rep S X n0 y b):Sim n0 S (RlV X n0) (cmpop op a b S) (po (WI op x y) s):=by
 have inn:∀z,Wg x y=some z->WG S a b=.ok z S:=by
  intro z h;cases y with
  |tup ys=>
   obtain⟨ds,rfl,rs⟩:=ry.tup';show ob (inL S a ds) S=_;rw[yE rx rs h];rfl
  |lst ys=>
   obtain⟨n,ds,rfl,hs,_,rs⟩:=ry.lst';show Zb9 S a S[n]? = _;rw[hs];show ob (inL S a ds) S=_;rw[yE rx rs h];rfl
  |_=>cases h
 refine Sim.po λv hv=>?_
 cases op with
 |eq=>
  have hv:(eqV Zm x y).map V.bl=some v:=hv;cases q:eqV Zm x y with
  |none=>rw[q] at hv;cases hv
  |some z=>
   rw[q] at hv;cases hv;show Sim n0 S (RlV X n0) ((ob (eqD S Zm a b) S).bind _) _;rw[QA _ _ _ _ _ _ rx ry q];exact Sim.ok w (Zq z)
 |ne=>
  have hv:(eqV Zm x y).map (λb=>V.bl !b)=some v:=hv
  cases q:eqV Zm x y with
  |none=>rw[q] at hv;cases hv
  |some z=>
   rw[q] at hv;cases hv;show Sim n0 S (RlV X n0) ((ob (eqD S Zm a b) S).bind _) _;rw[QA _ _ _ _ _ _ rx ry q];exact Sim.ok w (Zq _)
 |lt=>
  cases x with
  |tup a0=>
   cases y with
   |tup b0=>
    obtain⟨as,rfl,ra⟩:=rx.tup';obtain⟨bs,rfl,rb⟩:=ry.tup';have hv:((Ye a0).bind λP=>(Ye b0).map λQ=>V.bl (ltP P Q))=some v:=hv
    cases q1:Ye a0 with
    |none=>rw[q1] at hv;cases hv
    |some P=>
     cases q2:Ye b0 with
     |none=>rw[q1,q2] at hv;cases hv
     |some Q=>
      rw[q1,q2] at hv;cases hv;show Sim n0 S (RlV X n0) ((ob (ZK as) S).bind _) _;rw[YT ra q1];show Sim n0 S (RlV X n0) ((ob (ZK bs) S).bind _) _;rw[YT rb q2];exact Sim.ok w (Zq _)
   |_=>cases hv
  |_=>cases y <;> first | (cases hv;cases rx.int';cases ry.int';exact Sim.ok w (Zq _)) | cases hv
 |gt=>cases x <;> cases y <;> first | (cases hv;cases rx.int';cases ry.int';exact Sim.ok w (Zq _)) | cases hv
 |le=>cases x <;> cases y <;> first | (cases hv;cases rx.int';cases ry.int';exact Sim.ok w (Zq _)) | cases hv
 |ge=>cases x <;> cases y <;> first | (cases hv;cases rx.int';cases ry.int';exact Sim.ok w (Zq _)) | cases hv
 |is=>
  cases y with
  |non=>
   cases ry.non';have e:cmpop .is a .non S=.ok (.bl (Xs x)) S:=by
    cases x with
    |non=>cases rx.non';rfl
    |bl _=>cases rx.bl';rfl
    |int _=>cases rx.int';rfl
    |str _=>cases rx.str';rfl
    |tup _=>obtain⟨_,rfl,_⟩:=rx.tup';rfl
    |lst _=>obtain⟨_,_,rfl,_⟩:=rx.lst';rfl
    |drw=>cases rx.drw';rfl
   rw[e];have hv:some (V.bl (Xs x))=some v:=by cases x <;> exact hv
   cases hv;exact Sim.ok w (Zq _)
  |bl j=>cases x with
   |bl i=>cases rx.bl';cases ry.bl';cases hv;exact Sim.ok w (Zq _)
   |_=>cases hv
  |_=>cases x <;> cases hv
 |isn=>
  cases y with
  |non=>
   cases ry.non';have e:cmpop .isn a .non S=.ok (.bl !(Xs x)) S:=by
    cases x with
    |non=>cases rx.non';rfl
    |bl _=>cases rx.bl';rfl
    |int _=>cases rx.int';rfl
    |str _=>cases rx.str';rfl
    |tup _=>obtain⟨_,rfl,_⟩:=rx.tup';rfl
    |lst _=>obtain⟨_,_,rfl,_⟩:=rx.lst';rfl
    |drw=>cases rx.drw';rfl
   rw[e];have hv:some (V.bl !(Xs x))=some v:=by cases x <;> exact hv
   cases hv;exact Sim.ok w (Zq _)
  |bl j=>cases x with
   |bl i=>cases rx.bl';cases ry.bl';cases hv;exact Sim.ok w (Zq _)
   |_=>cases hv
  |_=>cases x <;> cases hv
 |inn=>
  have hv:(Wg x y).map V.bl=some v:=hv;cases q:Wg x y with
  |none=>rw[q] at hv;cases hv
  |some z=>
   rw[q] at hv;cases hv;show Sim n0 S (RlV X n0) ((WG S a b).bind _) _;rw[inn z q];exact Sim.ok w (Zq _)
 |nin=>
  have hv:(Wg x y).map (λb=>V.bl !b)=some v:=hv
  cases q:Wg x y with
  |none=>rw[q] at hv;cases hv
  |some z=>
   rw[q] at hv;cases hv;show Sim n0 S (RlV X n0) ((WG S a b).bind _) _;rw[inn z q];exact Sim.ok w (Zq _)
theorem Zcm {x y:V}{a b:D}{s:DS}(w:Dw n0 S s) (rx:Rep S X n0 x a) (ry:Rep S X n0 y b):Sim n0 S (RlV X n0) (getix a b S) (po (ixV x y) s):=by
 refine Sim.po λv hv=>?_
 cases x with
 |tup xs=>cases y with
  |int i=>
   obtain⟨ds,rfl,rs⟩:=rx.tup';cases ry.int';obtain⟨d,e,r⟩:=Zbc rs hv;show Sim n0 S (RlV X n0) (ob (at' ds i) S) _;rw[e];exact Sim.ok w r
  |_=>cases hv
 |lst xs=>cases y with
  |int i=>
   obtain⟨n,ds,rfl,hs,_,rs⟩:=rx.lst';cases ry.int';obtain⟨d,e,r⟩:=Zbc rs hv;show Sim n0 S (RlV X n0) (match Z9 S n with
    |some xs=>ob (at' xs i) S
    |none=>.no) _
   rw[UT hs];show Sim n0 S (RlV X n0) (ob (at' ds i) S) _;rw[e];exact Sim.ok w r
  |_=>cases hv
 |_=>cases y <;> cases hv
theorem ZbJ {x:V}{a:D}{s:DS}{lo hi:Option Int}(xo:Xok X n0 S) (w:Dw n0 S s) (rx:Rep S X n0 x a):Sim n0 S (RlV X n0) (slice a lo hi S) (po (slV x lo hi) s):=by
 refine Sim.po λv hv=>?_
 cases x with
 |tup xs=>
  obtain⟨ds,rfl,rs⟩:=rx.tup';cases hv;exact Sim.ok w (ZS (qZ rs))
 |lst xs=>
  obtain⟨n,ds,rfl,hs,_,rs⟩:=rx.lst';cases hv;show Sim n0 S (RlV X n0) (match Zh S n with
    |some xs=>.ok (.loc S.length) (S++[.lst (cut xs lo hi)])
    |none=>.no) _
  rw[ZA hs];exact Sim.new xo w (qZ rs)
 |_=>cases hv
theorem jw {f:Bf}{xs:List V}{ds:List D}{s:DS}(xo:Xok X n0 S) (w:Dw n0 S s) (rs:Rq S X n0 xs ds):Sim n0 S (RlV X n0) (bltin f ds S) (po (QC f xs) s):=by
 refine Sim.po λv hv=>?_
 have one:∀{x:V} {ds:List D},Rq S X n0 [x] ds->∃d,ds=[d]/\Rep S X n0 x d:=λ{x ds} h=>by
  obtain⟨d,es,rfl,a,t⟩:=h.cons';rw[t.nil'];exact⟨d,rfl,a⟩
 have two:∀{x y:V} {ds:List D},Rq S X n0 [x,y] ds->∃d e,ds=[d,e]/\Rep S X n0 x d/\Rep S X n0 y e:=λ{x y ds} h=>by
  obtain⟨d,es,rfl,a,t⟩:=h.cons';obtain⟨e,rfl,b⟩:=one t;exact⟨d,e,rfl,a,b⟩
 cases f with
 |len=>match xs,rs,hv with
  |[x],rs,hv=>
   obtain⟨d,rfl,r⟩:=one rs;have hv:(Z6 x).map (λxs=>V.int xs.length)=some v:=hv
   cases q:Z6 x with
   |none=>rw[q] at hv;cases hv
   |some ys=>
    rw[q] at hv;cases hv;obtain⟨es,e,r2⟩:=xi r q;show Sim n0 S (RlV X n0) ((ob (YH S d) S).bind _) _;rw[e];show Sim n0 S (RlV X n0) (.ok (.int es.length) S) _;rw[r2.length];exact Sim.ok w (Zp _)
 |max2=>match xs,rs,hv with
  |[.int i,.int j],rs,hv=>
   obtain⟨d,e,rfl,r1,r2⟩:=two rs;cases r1.int';cases r2.int';cases hv;exact Sim.ok w (Zp _)
 |min2=>match xs,rs,hv with
  |[.int i,.int j],rs,hv=>
   obtain⟨d,e,rfl,r1,r2⟩:=two rs;cases r1.int';cases r2.int';cases hv;exact Sim.ok w (Zp _)
 |toInt=>match xs,rs,hv with
  |[.int i],rs,hv=>obtain⟨d,rfl,r⟩:=one rs;cases r.int';cases hv;exact Sim.ok w (Zp _)
  |[.bl i],rs,hv=>obtain⟨d,rfl,r⟩:=one rs;cases r.bl';cases hv;exact Sim.ok w (Zp _)
 |tuple=>match xs,rs,hv with
  |[x],rs,hv=>
   obtain⟨d,rfl,r⟩:=one rs;have hv:(Z6 x).map V.tup=some v:=hv;cases x with
   |tup ys=>
    obtain⟨es,rfl,r2⟩:=r.tup';cases hv;exact Sim.ok w (ZS r2)
   |lst ys=>
    obtain⟨n,es,rfl,hs,_,r2⟩:=r.lst';cases hv;show Sim n0 S (RlV X n0) ((ob (Zh S n) S).bind _) _;rw[ZA hs];exact Sim.ok w (ZS r2)
   |_=>cases hv
 |list=>match xs,rs,hv with
  |[x],rs,hv=>
   obtain⟨d,rfl,r⟩:=one rs;have hv:(Z6 x).map V.lst=some v:=hv;cases q:Z6 x with
   |none=>rw[q] at hv;cases hv
   |some ys=>
    rw[q] at hv;cases hv;obtain⟨es,e,r2⟩:=xi r q;show Sim n0 S (RlV X n0) ((ob (YH S d) S).bind _) _;rw[e];exact Sim.new xo w r2
 |all=>match xs,rs,hv with
  |[.lst ys],rs,hv=>
   obtain⟨d,rfl,r⟩:=one rs;obtain⟨n,es,rfl,hs,_,r2⟩:=r.lst';have hv:(ZN ys).map (λbs=>V.bl (bs.all id))=some v:=hv
   cases q:ZN ys with
   |none=>rw[q] at hv;cases hv
   |some bs=>
    rw[q] at hv;cases hv;show Sim n0 S (RlV X n0) ((ob (Zh S n) S).bind _) _;rw[ZA hs];show Sim n0 S (RlV X n0) ((ob (truths es) S).bind _) _;rw[VY r2 q];exact Sim.ok w (Zq _)
 |any=>match xs,rs,hv with
  |[x],rs,hv=>
   obtain⟨d,rfl,r⟩:=one rs;have hv:(Z6 x).bind (λxs=>(ZN xs).map λbs=>V.bl (bs.any id))=some v:=hv
   cases q:Z6 x with
   |none=>rw[q] at hv;cases hv
   |some ys=>
    rw[q] at hv;have hv:(ZN ys).map (λbs=>V.bl (bs.any id))=some v:=hv
    obtain⟨es,e,r2⟩:=xi r q;cases q2:ZN ys with
    |none=>rw[q2] at hv;cases hv
    |some bs=>
     rw[q2] at hv;cases hv;show Sim n0 S (RlV X n0) ((ob (YH S d) S).bind _) _;rw[e];show Sim n0 S (RlV X n0) ((ob (truths es) S).bind _) _;rw[VY r2 q2];exact Sim.ok w (Zq _)
 |sum=>match xs,rs,hv with
  |[.lst ys],rs,hv=>
   obtain⟨d,rfl,r⟩:=one rs;obtain⟨n,es,rfl,hs,_,r2⟩:=r.lst';have hv:(intsV ys).bind (λis=>if QI is=true then some (V.int is.sum) else none)=some v:=hv
   cases q:intsV ys with
   |none=>rw[q] at hv;cases hv
   |some is=>
    rw[q] at hv;have hv:(if QI is=true then some (V.int is.sum) else none)=some v:=hv
    show Sim n0 S (RlV X n0) ((ob (Zh S n) S).bind _) _;rw[ZA hs];show Sim n0 S (RlV X n0) ((ob (Qh es) S).bind _) _;rw[(VR r2 q).1];show Sim n0 S (RlV X n0) (if QI is=true then .ok (.int is.sum) S else .no) _
    by_cases c:QI is=true
    ·rw[Pg c] at hv ⊢;cases hv;exact Sim.ok w (Zp _)
    ·rw[Pi c] at hv;cases hv
 |sorted=>match xs,rs,hv with
  |[.lst ys],rs,hv=>
   obtain⟨d,rfl,r⟩:=one rs;obtain⟨n,es,rfl,hs,_,r2⟩:=r.lst';have hv:(if vn ys=true then (Ye ys).bind (λrs=>if sortOk rs=true then some (V.lst ((ZM rs).map Zf)) else none) else (XI ys).bind λps=>if ZH ps=true then some (V.lst ((Zw ltP ps).map Za)) else none)=some v:=hv
   show Sim n0 S (RlV X n0) ((ob (Zh S n) S).bind _) _;rw[ZA hs];show Sim n0 S (RlV X n0) (if wR es=true then sorted false n S else _) _
   rw[ZbE r2];by_cases z:vn ys=true
   ·rw[Pg z] at hv ⊢
    cases q:Ye ys with
    |none=>rw[q] at hv;cases hv
    |some ws=>
     rw[q] at hv;have hv:(if sortOk ws=true then some (V.lst ((ZM ws).map Zf)) else none)=some v:=hv
     show Sim n0 S (RlV X n0) ((ob (Zh S n) S).bind _) _;rw[ZA hs];show Sim n0 S (RlV X n0) ((ob (ZK es) S).bind _) _;rw[YT r2 q];show Sim n0 S (RlV X n0) (if sortOk ws=true then .ok (.loc S.length) (S++[.lst ((ZM ws).map X4)]) else .no) _
     by_cases c:sortOk ws=true
     ·rw[Pg c] at hv ⊢;cases hv;exact Sim.new xo w (Vq _)
     ·rw[Pi c] at hv;cases hv
   ·rw[Pi z] at hv ⊢
    cases q:XI ys with
    |none=>rw[q] at hv;cases hv
    |some ws=>
     rw[q] at hv;have hv:(if ZH ws=true then some (V.lst ((Zw ltP ws).map Za)) else none)=some v:=hv
     rw[U3 r2 q];show Sim n0 S (RlV X n0) (if ZH ws=true then .ok (.loc S.length) (S++[.lst ((Zw ltP ws).map Vl)]) else .no) _
     by_cases c:ZH ws=true
     ·rw[Pg c] at hv ⊢;cases hv;exact Sim.new xo w (Q9 _)
     ·rw[Pi c] at hv;cases hv
 |sortedR=>match xs,rs,hv with
  |[.lst ys],rs,hv=>
   obtain⟨d,rfl,r⟩:=one rs;obtain⟨n,es,rfl,hs,_,r2⟩:=r.lst';have hv:(Ye ys).bind (λrs=>if sortOk rs=true then some (V.lst ((ZM rs).reverse.map Zf)) else none)=some v:=hv
   cases q:Ye ys with
   |none=>rw[q] at hv;cases hv
   |some ws=>
    rw[q] at hv;have hv:(if sortOk ws=true then some (V.lst ((ZM ws).reverse.map Zf)) else none)=some v:=hv
    show Sim n0 S (RlV X n0) ((ob (Zh S n) S).bind _) _;rw[ZA hs];show Sim n0 S (RlV X n0) ((ob (ZK es) S).bind _) _;rw[YT r2 q];show Sim n0 S (RlV X n0) (if sortOk ws=true then .ok (.loc S.length) (S++[.lst ((ZM ws).reverse.map X4)]) else .no) _
    by_cases c:sortOk ws=true
    ·rw[Pg c] at hv ⊢;cases hv;exact Sim.new xo w (Vq _)
    ·rw[Pi c] at hv;cases hv
 |_=>cases hv
end
structure Ew (S:Store) (X:Nat->Prop) (n0:Nat) (ρ:Env) (σ:Lc):Prop where
 len:ρ.length=σ.length
 val:∀(i:Nat) (v:V),ρ[i]? = some (some v)->∃d,σ[i]? = some (some d)/\Rep S X n0 v d
section
variable {S S':Store}{X X':Nat->Prop}{n0:Nat}{ρ ρ':Env}{σ σ':Lc}
theorem Ew.mono (k:∀n o,¬X n->S[n]? = some o->S'[n]? = some o) (x:∀n,n<S.length->X' n->X n) (h:Ew S X n0 ρ σ):Ew S' X' n0 ρ σ:=
 ⟨h.len,λi v e=>let ⟨d,a,b⟩:=h.val i v e;⟨d,a,b.mono k x⟩⟩
theorem Ew.ext (x:Xok X n0 S) (e:Ext n0 S S') (h:Ew S X n0 ρ σ):Ew S' X n0 ρ σ:=
 ⟨h.len,λi v q=>let ⟨d,a,b⟩:=h.val i v q;⟨d,a,b.ext x e⟩⟩
theorem Ew.weak (h:Ew S X n0 ρ σ) (hl:ρ'.length=ρ.length) (w:∀(i:Nat) (v:V),ρ'[i]? = some (some v)->ρ[i]? = some (some v)):Ew S X n0 ρ' σ:=⟨by rw[hl];exact h.len,λi v e=>h.val i v (w i v e)⟩
theorem Ew.set {v:V}{d:D}(h:Ew S X n0 ρ σ) (i:Nat) (r:Rep S X n0 v d):Ew S X n0 (ρ.set i (some v)) (σ.set i (some d)):=by
 refine⟨by rw[P1,P1];exact h.len,λj w e=>?_⟩
 rw[NG] at e ⊢;by_cases c:i=j
 ·rw[Pg c] at e ⊢
  by_cases l:i<ρ.length
  ·rw[Pg l] at e
   rw[Pg (by rw[<-h.len];exact l)]
   cases e;exact⟨d,rfl,r⟩
  ·rw[Pi l] at e;cases e
 ·rw[Pi c] at e ⊢
  exact h.val j w e
theorem YS:∀{t:List Nat}{vs:List V}{ds:List D}{ρ ρ':Env}{σ:Lc},Ew S X n0 ρ σ->Rq S X n0 vs ds->YO t vs ρ=some ρ'->∃σ',fill t ds σ=some σ'/\Ew S X n0 ρ' σ'
 |[],[],_,ρ,ρ',σ,h,r,e=>by rw[r.nil'];cases e;exact⟨σ,rfl,h⟩
 |[],_::_,_,_,_,_,_,_,e=>by cases e
 |_::_,[],_,_,_,_,_,_,e=>by cases e
 |i::t,v::vs,_,ρ,ρ',σ,h,r,e=>by
  obtain⟨d,ds,rfl,a,b⟩:=r.cons';exact YS (t:=t) (vs:=vs) (h.set i a) b e
theorem QX {t:List Nat}{v:V}{d:D}(h:Ew S X n0 ρ σ) (r:Rep S X n0 v d) (e:Zu t v ρ=some ρ'):∃σ',assign t d S σ=some σ'/\Ew S X n0 ρ' σ':=by
 have gen:∀t:List Nat,(∀i,t≠[i])->(match Z6 v with
   |some xs=>YO t xs ρ
   |none=>none)=some ρ'->∃σ',(match d with
   |.tup xs=>fill t xs σ
   |.loc n=>match Zh S n with
    |some xs=>fill t xs σ
    |none=>none
   |_=>none)=some σ'/\Ew S X n0 ρ' σ':=by
  intro t _ e;cases v with
  |tup vs=>obtain⟨ds,rfl,rs⟩:=r.tup';exact YS h rs e
  |lst vs=>
   obtain⟨n,ds,rfl,hs,_,rs⟩:=r.lst';obtain⟨σ',a,b⟩:=YS h rs e;refine⟨σ',?_,b⟩;show (match Zh S n with
    |some xs=>fill t xs σ
    |none=>none)=some σ'
   rw[ZA hs];exact a
  |_=>cases e
 match t,e with
 |[i],e=>cases e;exact⟨_,rfl,h.set i r⟩
 |[],e=>exact gen [] (by simp) e
 |i::j::t,e=>exact gen (i::j::t) (by simp) e
theorem Yq:∀{t:List Nat}{vs:List V}{ρ ρ':Env},YO t vs ρ=some ρ'->ρ'.length=ρ.length/\∀j,j∉t->ρ'[j]? = ρ[j]?
 |[],[],ρ,ρ',e=>by cases e;exact⟨rfl,λ_ _=>rfl⟩
 |[],_::_,_,_,e=>by cases e
 |_::_,[],_,_,e=>by cases e
 |i::t,v::vs,ρ,ρ',e=>by
  obtain⟨a,b⟩:=Yq (t:=t) (vs:=vs) (ρ:=ρ.set i (some v)) e;refine⟨by rw[a,P1],λj hj=>?_⟩
  have hij:i≠j:=λz=>hj (by rw[z];exact Pe ..)
  rw[b j (λz=>hj (Pd _ z)),PJ hij]
theorem V4 {t:List Nat}{v:V}(e:Zu t v ρ=some ρ'):ρ'.length=ρ.length/\∀j,j∉t->ρ'[j]? = ρ[j]?:=by
 match t,e with
 |[i],e=>cases e;exact⟨by simp,λj hj=>PJ (λz:i=j=>hj (by rw[z];exact Pe ..))⟩
 |[],e=>
  have e:(match Z6 v with | some xs=>YO [] xs ρ | none=>none)=some ρ':=e
  cases q:Z6 v with
  |none=>rw[q] at e;cases e
  |some xs=>rw[q] at e;exact Yq e
 |i::j::t,e=>
  have e:(match Z6 v with | some xs=>YO (i::j::t) xs ρ | none=>none)=some ρ':=e
  cases q:Z6 v with
  |none=>rw[q] at e;cases e
  |some xs=>rw[q] at e;exact Yq e
noncomputable def WkR (X:Nat->Prop) (n0:Nat):Store->List V->Walk->Prop:=λS vs w=>Rq S X n0 vs w.items/\∀p∈w.kept,S[p.1]? = some (.lst p.2)/\¬X p.1
theorem W7 {w:Walk}(h:∀p∈w.kept,S[p.1]? = some (.lst p.2)):w.still S=true:=by
 unfold Walk.still;rw[PN];intro p hp;exact PC (h p hp)
theorem Wy {v:V}{d:D}{vs:List V}(r:Rep S X n0 v d) (h:Z6 v=some vs):∃w,Yk S d=some w/\WkR X n0 S vs w:=by
 cases v with
 |tup xs=>obtain⟨ds,rfl,rs⟩:=r.tup';cases h;exact⟨⟨ds,[]⟩,rfl,rs,λp hp=>by cases hp⟩
 |lst xs=>
  obtain⟨n,ds,rfl,hs,hx,rs⟩:=r.lst';cases h;refine⟨⟨ds,[(n,ds)]⟩,?_,rs,λp hp=>?_⟩
  ·unfold Yk;simp only[hs]
  ·rcases PF.mp hp with rfl
   exact⟨hs,hx⟩
 |_=>cases h
theorem Ui (lo:Int) (n:Nat):Rq S X n0 (Yn lo n) (Zs lo n):=by
 unfold Yn Zs
 induction List.range n with
 |nil=>exact Rq.nil
 |cons k r ih=>exact Rq.cons (Zp _) ih
theorem J7:∀{vs ws:List V}{ds es:List D},Rq S X n0 vs ds->Rq S X n0 ws es->Rq S X n0 ((vs.zip ws).map λp=>V.tup [p.1,p.2]) ((ds.zip es).map λp=>D.tup [p.1,p.2])
 |[],_,_,_,a,_=>by rw[a.nil'];simp only[Ko,Te];exact Rq.nil
 |_::_,[],_,_,a,b=>by rw[b.nil'];simp only[Kj,Te];exact Rq.nil
 |v::vs,w::ws,_,_,a,b=>by
  obtain⟨d,ds,rfl,a1,a2⟩:=a.cons';obtain⟨e,es,rfl,b1,b2⟩:=b.cons';exact Rq.cons (ZS (Rq.cons a1 (Rq.cons b1 Rq.nil))) (J7 a2 b2)
end
structure Ext2 (n0 m:Nat) (S S':Store):Prop where
 len:S.length<=S'.length
 keep:∀n o,n≠n0->n≠m->S[n]? = some o->S'[n]? = some o
theorem Ext2.trans {n0 m:Nat}{S S1 S2:Store}(a:Ext2 n0 m S S1) (b:Ext2 n0 m S1 S2):Ext2 n0 m S S2:=⟨PY a.len b.len,λn o h z e=>b.keep n o h z (a.keep n o h z e)⟩
theorem Ext2.refl {n0 m:Nat}{S:Store}:Ext2 n0 m S S:=⟨Pp _,λ_ _ _ _ h=>h⟩
theorem Ext.two {n0 m:Nat}{S S':Store}(h:Ext n0 S S'):Ext2 n0 m S S':=⟨h.len,λn o a _ e=>h.keep n o a e⟩
section
variable {n0 m:Nat}{X:Nat->Prop}
theorem Rq.ext2 {S S':Store}{v:List V}{d:List D}(z:X n0) (zm:X m) (e:Ext2 n0 m S S') (h:Rq S X n0 v d):Rq S' X n0 v d:=
 h.mono (λn o nx hs=>e.keep n o (λq=>nx (q▸z)) (λq=>nx (q▸zm)) hs) λ_ _ h=>h
theorem Ew.ext2 {S S':Store}{ρ:Env}{σ:Lc}(z:X n0) (zm:X m) (e:Ext2 n0 m S S') (h:Ew S X n0 ρ σ):Ew S' X n0 ρ σ:=
 h.mono (λn o nx hs=>e.keep n o (λq=>nx (q▸z)) (λq=>nx (q▸zm)) hs) λ_ _ h=>h
theorem Xok.ext2 {S S':Store}(h:Xok X n0 S) (e:Ext2 n0 m S S'):Xok X n0 S':=⟨h.z,λn x=>PL (h.lt n x) e.len⟩
def Turn (n0 m:Nat) (X:Nat->Prop) (ρ:Env) (S:Store) (ds:List D) (q:PR (List V)) (r:R Lc):Prop:=∀ys s',q=.ok ys s'->ds.length+ys.length<=lim->
 ∃σ' S' es,r=.ok σ' S'/\Ext2 n0 m S S'/\Ew S' X n0 ρ σ'/\Dw n0 S' s'/\S'[m]? = some (.lst (ds++es))/\Rq S' X n0 ys es
theorem UC {ρ:Env}{wk:Walk}{f:V->DS->PR (List V)}{turn:D->Lc->Store->R Lc}(zm:X m) (hk:∀p∈wk.kept,¬X p.1)
  (ht:∀x d S s σ ds,Xok X n0 S->Rep S X n0 x d->Ew S X n0 ρ σ->Dw n0 S s->S[m]? = some (.lst ds)->Turn n0 m X ρ S ds (f x s) (turn d σ S)) :
  ∀(vs:List V) (es:List D) (S:Store) (s:DS) (σ:Lc) (ds:List D),Xok X n0 S->Rq S X n0 vs es->Ew S X n0 ρ σ->Dw n0 S s->S[m]? = some (.lst ds)->(∀p∈wk.kept,S[p.1]? = some (.lst p.2))->Turn n0 m X ρ S ds (mapP f vs s) (Yp wk turn es σ S)
 |[],es,S,s,σ,ds,xo,rs,he,w,hm,hs=>by
  intro ys s' q _;cases q;rw[rs.nil'];exact⟨σ,S,[],by rw[Yp,Pg (W7 hs)],Ext2.refl,he,w,by rw[N7];exact hm,Rq.nil⟩
 |v::vs,es,S,s,σ,ds,xo,rs,he,w,hm,hs=>by
  intro ys s' q hl;obtain⟨d,es,rfl,r1,r2⟩:=rs.cons';unfold mapP at q;cases q1:f v s with
  |no=>rw[q1] at q;cases q
  |ex _ _=>rw[q1] at q;cases q
  |ok y1 s1=>
   rw[q1] at q;cases q2:mapP f vs s1 with
   |no=>simp only[q2] at q;cases q
   |ex _ _=>simp only[q2] at q;cases q
   |ok y2 s2=>
    simp only[q2] at q;cases q;rw[PM] at hl;obtain⟨σ1,S1,e1,a1,a2,a3,a4,a5,a6⟩:=ht v d S s σ ds xo r1 he w hm y1 s1 q1 (by omega)
    have xo1:=xo.ext2 a2;have hs1:∀p∈wk.kept,S1[p.1]? = some (.lst p.2):=λp hp=>a2.keep _ _ (λz=>hk p hp (z▸xo.z)) (λz=>hk p hp (z▸zm)) (hs p hp)
    obtain⟨σ2,S2,e2,b1,b2,b3,b4,b5,b6⟩:=UC zm hk ht vs es S1 s1 σ1 (ds++e1) xo1 (r2.ext2 xo.z zm a2) a3 a4 a5 hs1 y2 _ q2 (by rw[PM,a6.length];omega)
    refine⟨σ2,S2,e1++e2,?_,a2.trans b2,b3,b4,by rw[<-List.append_assoc];exact b5,(a6.ext2 xo.z zm b2).append b6⟩
    rw[Yp,Pg (W7 hs),a1];exact b1
theorem Zap {S:Store}{y:D}{ds:List D}(hm:S[m]? = some (.lst ds)) (hl:ds.length<lim):push m y S=.ok () (S.set m (.lst (ds++[y]))):=by
 unfold push;rw[ZA hm];show (if ds.length<lim then _ else _)=_
 rw[Pg hl]
end
theorem jz {f:V->DS->PR (List V)}:∀{vs:List V}{s s':DS}{c:Nat},mapP f vs s≠.ex c s'
 |[],_,_,_,h=>by cases h
 |v::vs,s,s',c,h=>by
  unfold mapP at h;cases q1:f v s with
  |no=>rw[q1] at h;cases h
  |ex _ _=>rw[q1] at h;cases h
  |ok y s1=>
   rw[q1] at h;cases q2:mapP f vs s1 with
   |no=>simp only[q2] at h;cases h
   |ex _ _=>simp only[q2] at h;cases h
   |ok z s2=>simp only[q2] at h;cases h
section
variable {n0 m:Nat}{X:Nat->Prop}{C:Calls}{CV:Zt}
theorem uv {S:Store}{o:Ob}:Ext2 n0 m S (S.set m o):=⟨by simp,λn o' _ z e=>by rw[PJ (Ne.symm z)];exact e⟩
theorem Za4 {α:Type}{o:Option α}{s s':DS}{a:α}(h:po o s=.ok a s'):o=some a/\s'=s:=by
 cases o with
 |none=>cases h
 |some b=>cases h;exact⟨rfl,rfl⟩
theorem Ya {α β:Type}{r:PR α}{f:α->DS->PR β}{b:β}{s':DS}(h:r.bind f=.ok b s'):∃a s1,r=.ok a s1/\f a s1=.ok b s':=by
 cases r with
 |no=>cases h
 |ex _ _=>cases h
 |ok a s1=>exact⟨a,s1,rfl,h⟩
theorem Sim.out {α β:Type}{S:Store}{Rl:Store->β->α->Prop}{r:R α}{q:PR β}{b:β}{s':DS}(h:Sim n0 S Rl r q) (e:q=.ok b s'):∃a S',r=.ok a S'/\Ext n0 S S'/\Dw n0 S' s'/\Rl S' b a:=by
 rw[e] at h;exact h
theorem zU {ρ ρ1:Env}{t:List Nat}{x:V}(e:Zu t x ρ=some ρ1) (hno:∀i∈t,∀v,ρ[i]?≠some (some v)):ρ.length=ρ1.length/\∀(i:Nat) (v:V),ρ[i]? = some (some v)->ρ1[i]? = some (some v):=by
 obtain⟨a,b⟩:=V4 e;refine⟨a.symm,λi v h=>?_⟩
 rw[b i λz=>hno i z v h];exact h
theorem turn1 {ρ:Env}{t:List Nat}{ifs:List E}{elt:E}{x:V}{d:D}{S:Store}{s:DS}{σ:Lc}{ds:List D}(hmn:m≠n0) (zm:X m)
  (hT:∀{ρ:Env} {σ:Lc} {S:Store} {s:DS},Xok X n0 S->Ew S X n0 ρ σ->Dw n0 S s->Sim n0 S RlE (evt C ifs σ S) (pvt CV ifs ρ s)) (hE:∀{ρ:Env} {σ:Lc} {S:Store} {s:DS},Xok X n0 S->Ew S X n0 ρ σ->Dw n0 S s->Sim n0 S (RlV X n0) (ev C elt σ S) (pv CV elt ρ s))
  (hno:∀i∈t,∀v,ρ[i]?≠some (some v)) (xo:Xok X n0 S) (rx:Rep S X n0 x d) (he:Ew S X n0 ρ σ) (w:Dw n0 S s) (hm:S[m]? = some (.lst ds)) :
  Turn n0 m X ρ S ds ((po (Zu t x ρ) s).bind λσ s=>(pvt CV ifs σ s).bind λb s=>if b then (pv CV elt σ s).bind λy s=>.ok [y] s else .ok [] s)
   ((ob (assign t d S σ) S).bind λσ S1=>(evt C ifs σ S1).bind λb S1=>if b then (ev C elt σ S1).bind λy S1=>(push m y S1).bind λ_ S1=>.ok σ S1 else .ok σ S1):=by
 intro ys s' q hl;obtain⟨ρ1,s1,qa,qb⟩:=Ya q;clear q;obtain⟨q1,es1⟩:=Za4 qa;subst es1;obtain⟨σ1,e1,he1⟩:=QX he rx q1;obtain⟨b,s2,q2,q⟩:=Ya qb;clear qb;obtain⟨b',S2,e2,x2,w2,rfl⟩:=(hT xo he1 w).out q2;obtain⟨kl,kv⟩:=zU q1 hno;have xo2:=xo.ext x2;have he2:=he1.ext xo x2;have hm2:=x2.keep m _ hmn hm;cases b' with
 |false=>
  cases q;refine⟨σ1,S2,[],?_,x2.two,he2.weak kl kv,w2,by rw[N7];exact hm2,Rq.nil⟩
  rw[e1];show ((evt C ifs σ1 S).bind _)=_;rw[e2];rfl
 |true=>
  obtain⟨y,s3,q3,qe⟩:=Ya q;cases qe;obtain⟨dy,S3,e3,x3,w3,r3⟩:=(hE xo2 he2 w2).out q3;have hm3:=x3.keep m _ hmn hm2;have xo3:=xo2.ext x3;have hs:Ext2 n0 m S3 (S3.set m (.lst (ds++[dy]))):=uv;refine⟨σ1,S3.set m (.lst (ds++[dy])),[dy],?_,(x2.two.trans x3.two).trans hs,((he2.ext xo2 x3).ext2 xo.z zm hs).weak kl kv,⟨by rw[PJ hmn];exact w3.1,w3.2⟩,Np (Y5 hm3),Rq.ext2 xo.z zm hs (Rq.cons r3 Rq.nil)⟩
  rw[e1];show ((evt C ifs σ1 S).bind _)=_;rw[e2];show ((ev C elt σ1 S2).bind _)=_;rw[e3];show ((push m dy S3).bind _)=_;rw[Zap hm3 (by simp at hl;omega)];rfl
theorem turn2 {ρ:Env}{t u:List Nat}{ifs jfs:List E}{elt:E}{jt:W}{x:V}{d:D}{S:Store}{s:DS}{σ:Lc}{ds:List D}(hmn:m≠n0) (zm:X m)
  (hT:∀{ρ:Env} {σ:Lc} {S:Store} {s:DS},Xok X n0 S->Ew S X n0 ρ σ->Dw n0 S s->Sim n0 S RlE (evt C ifs σ S) (pvt CV ifs ρ s)) (hJ:∀{ρ:Env} {σ:Lc} {S:Store} {s:DS},Xok X n0 S->Ew S X n0 ρ σ->Dw n0 S s->Sim n0 S RlE (evt C jfs σ S) (pvt CV jfs ρ s))
  (hW:∀{ρ:Env} {σ:Lc} {S:Store} {s:DS},Xok X n0 S->Ew S X n0 ρ σ->Dw n0 S s->Sim n0 S (WkR X n0) (evw C jt σ S) (pvw CV jt ρ s)) (hE:∀{ρ:Env} {σ:Lc} {S:Store} {s:DS},Xok X n0 S->Ew S X n0 ρ σ->Dw n0 S s->Sim n0 S (RlV X n0) (ev C elt σ S) (pv CV elt ρ s))
  (hno:∀i∈t,∀v,ρ[i]?≠some (some v)) (hnu:∀i∈u,i∉t/\∀v,ρ[i]?≠some (some v)) (xo:Xok X n0 S) (rx:Rep S X n0 x d) (he:Ew S X n0 ρ σ) (w:Dw n0 S s) (hm:S[m]? = some (.lst ds)) :
  Turn n0 m X ρ S ds ((po (Zu t x ρ) s).bind λσ s=>(pvt CV ifs σ s).bind λb s=>if b then
    (pvw CV jt σ s).bind λw2 s=>mapP (λx s=>(po (Zu u x σ) s).bind λσ s=>(pvt CV jfs σ s).bind λb s=>if b then (pv CV elt σ s).bind λy s=>.ok [y] s else .ok [] s) w2 s
    else .ok [] s)
   ((ob (assign t d S σ) S).bind λσ S1=>(evt C ifs σ S1).bind λb S1=>if b then
    (evw C jt σ S1).bind λw2 S1=>Yp w2 (λx σ S1=>(ob (assign u x S1 σ) S1).bind λσ S1=>(evt C jfs σ S1).bind λb S1=>if b then (ev C elt σ S1).bind λy S1=>(push m y S1).bind λ_ S1=>.ok σ S1 else .ok σ S1) w2.items σ S1
    else .ok σ S1):=by
 intro ys s' q hl;obtain⟨ρ1,s1,qa,qb⟩:=Ya q;clear q;obtain⟨q1,es1⟩:=Za4 qa;subst es1;obtain⟨σ1,e1,he1⟩:=QX he rx q1;obtain⟨b,s2,q2,q⟩:=Ya qb;clear qb;obtain⟨b',S2,e2,x2,w2,rfl⟩:=(hT xo he1 w).out q2;obtain⟨kl,kv⟩:=zU q1 hno;have xo2:=xo.ext x2;have he2:=he1.ext xo x2;have hm2:=x2.keep m _ hmn hm;cases b' with
 |false=>
  cases q;refine⟨σ1,S2,[],?_,x2.two,he2.weak kl kv,w2,by rw[N7];exact hm2,Rq.nil⟩
  rw[e1];show ((evt C ifs σ1 S).bind _)=_;rw[e2];rfl
 |true=>
  obtain⟨vs,s3,q3,qe⟩:=Ya q;obtain⟨wk,S3,e3,x3,w3,r3⟩:=(hW xo2 he2 w2).out q3;have hm3:=x3.keep m _ hmn hm2;have xo3:=xo2.ext x3;have he3:=he2.ext xo2 x3;have hnu1:∀i∈u,∀v,ρ1[i]?≠some (some v):=λi hi v z=>by
   rw[(V4 q1).2 i (hnu i hi).1] at z;exact (hnu i hi).2 v z
  obtain⟨σ4,S4,es,a1,a2,a3,a4,a5,a6⟩:=UC (ρ:=ρ1) (wk:=wk) zm (λp hp=>(r3.2 p hp).2) (λx d S s σ ds xo rx he w hm=>turn1 hmn zm hJ hE hnu1 xo rx he w hm) vs wk.items S3 s3 σ1 ds xo3 r3.1 he3 w3 hm3 (λp hp=>(r3.2 p hp).1) ys s' qe hl
  refine⟨σ4,S4,es,?_,(x2.two.trans x3.two).trans a2,a3.weak kl kv,a4,a5,a6⟩;rw[e1];show ((evt C ifs σ1 S).bind _)=_;rw[e2];show ((evw C jt σ1 S2).bind _)=_;rw[e3];exact a1
theorem QO {S:Store}{ρ:Env}{σ:Lc}{cap:List Nat}{nl:Nat}(he:Ew S X n0 ρ σ):Ew S X n0 (Z8 cap nl ρ) (caught cap nl σ):=by
 refine⟨by simp[Z8,caught],λi v h=>?_⟩
 unfold Z8 at h;unfold caught;by_cases c:i<nl
 ·rw[PB (by simpa using c)] at h
  simp[c] at h
 ·rw[PU (by simp;omega)] at h ⊢
  rw[Nx] at h ⊢;rw[PH] at h ⊢;cases q:cap[i-nl]? with
  |none=>rw[q] at h;cases h
  |some j=>
   rw[q] at h;have h':(ρ[j]?).join=some v:=Pb h;cases q2:ρ[j]? with
   |none=>rw[q2] at h';cases h'
   |some o=>
    rw[q2] at h';have h'':o=some v:=h';subst h'';obtain⟨d,e,r⟩:=he.val j v q2;exact⟨d,by show some ((σ[j]?).join)=_;rw[e];rfl,r⟩
theorem VH {ρ:Env}{cap:List Nat}{nl i:Nat}(h:i<nl) (v:V):(Z8 cap nl ρ)[i]?≠some (some v):=by
 unfold Z8;rw[PB (by simpa using h)]
 simp[h]
theorem za {S:Store}{vs:List V}{s:DS}{ρ0:Env}{σ0:Lc}{wk:Walk}{f:V->DS->PR (List V)}{turn:D->Lc->Store->R Lc}(xo:Xok X n0 S) (w:Dw n0 S s) (rw':WkR X n0 S vs wk) (he:Ew S X n0 ρ0 σ0)
  (ht:∀x d S1 s σ ds,Xok (λn=>X n\/n=S.length) n0 S1->Rep S1 (λn=>X n\/n=S.length) n0 x d->Ew S1 (λn=>X n\/n=S.length) n0 ρ0 σ->Dw n0 S1 s->S1[S.length]? = some (.lst ds)->Turn n0 S.length (λn=>X n\/n=S.length) ρ0 S1 ds (f x s) (turn d σ S1)) :
  Sim n0 S (RlV X n0) ((Yp wk turn wk.items σ0 (S++[.lst []])).bind λ_ S1=>.ok (.loc S.length) S1) ((mapP f vs s).bind λys s=>if ys.length<=lim then .ok (.lst ys) s else .no):=by
 cases q:mapP f vs s with
 |no=>exact True.intro
 |ex c s'=>exact absurd q jz
 |ok ys s'=>
  show Sim n0 S _ _ (if ys.length<=lim then PR.ok (V.lst ys) s' else .no)
  by_cases c:ys.length<=lim
  ·rw[Pg c]
   have hX:∀n,n<S.length->(X n\/n=S.length)->X n:=λn h z=>z.elim id λe=>absurd (e▸h) (P2 _)
   have hk:∀n o,¬X n->S[n]? = some o->(S++[Ob.lst []])[n]? = some o:=λn o _ e=>by rw[PB (Y5 e)];exact e
   have xo1:Xok (λn=>X n\/n=S.length) n0 (S++[.lst []]):=⟨.inl xo.z,λn h=>by
    rw[PM,P6];rcases h with h | h
    ·have:=xo.lt n h;omega
    ·omega⟩
   obtain⟨σ',S',es,a1,a2,a3,a4,a5,a6⟩:=UC (m:=S.length) (ρ:=ρ0) (wk:=wk) (.inr rfl) (λp hp z=>(rw'.2 p hp).2 (hX _ (Y5 (rw'.2 p hp).1) z)) ht vs wk.items (S++[.lst []]) s σ0 [] xo1 (rw'.1.mono hk hX) (he.mono hk hX) w.app (by simp) (λp hp=>hk _ _ (rw'.2 p hp).2 (rw'.2 p hp).1) ys s' q (by simpa using c)
   refine⟨.loc S.length,S',by rw[a1];rfl,⟨PY (by simp) a2.len,λn o hn e=>a2.keep n o hn (λz=>absurd (Y5 e) (by omega)) (by rw[PB (Y5 e)];exact e)⟩,a4,?_⟩
   exact J8 a5 (λz=>P2 _ (xo.lt _ z)) (a6.mono (λn o nx e=>e) λn _ h=>.inl h)
  ·rw[Pi c];exact True.intro
end
def Z0 (n0:Nat) (C:Calls) (CV:Zt):Prop:=∀(f:Nat) (vs:List V) (ds:List D) (S:Store) (s:DS) (X:Nat->Prop),Xok X n0 S->Dw n0 S s->Rq S X n0 vs ds->Sim n0 S (RlV X n0) (C f ds S) (CV f vs s)
section
variable {n0:Nat}{C:Calls}{CV:Zt}
mutual
theorem ZP (H:Z0 n0 C CV):∀(e:E) {X:Nat->Prop}{ρ:Env}{σ:Lc}{S:Store}{s:DS},Xok X n0 S->Ew S X n0 ρ σ->Dw n0 S s->Sim n0 S (RlV X n0) (ev C e σ S) (pv CV e ρ s)
 |.c d,X,ρ,σ,S,s,xo,he,w=>by
  rw[ev,pv];exact Sim.po λv hv=>Sim.ok w (wA hv)
 |.v i,X,ρ,σ,S,s,xo,he,w=>by
  rw[ev,pv];refine Sim.obp w λv hv=>?_
  cases q:ρ[i]? with
  |none=>rw[q] at hv;cases hv
  |some o=>
   rw[q] at hv;have hv:o=some v:=hv;subst hv;obtain⟨d,e,r⟩:=he.val i v q;exact⟨d,by rw[e];rfl,r⟩
 |.tup es,X,ρ,σ,S,s,xo,he,w=>by
  rw[ev,pv];refine (X1 H es xo he w).bind λds vs S1 s1 x1 w1 r1=>?_
  rw[Rq.length r1];exact Sim.guard λ_=>Sim.ok w1 (ZS r1)
 |.lst es,X,ρ,σ,S,s,xo,he,w=>by
  rw[ev,pv];refine (X1 H es xo he w).bind λds vs S1 s1 x1 w1 r1=>?_
  rw[Rq.length r1];exact Sim.guard λ_=>Sim.new (xo.ext x1) w1 r1
 |.dnew,X,ρ,σ,S,s,xo,he,w=>by rw[pv];exact True.intro
 |.dput1 _ _,X,ρ,σ,S,s,xo,he,w=>by rw[pv];exact True.intro
 |.fstr,X,ρ,σ,S,s,xo,he,w=>by rw[pv];exact True.intro
 |.mt _ _ _,X,ρ,σ,S,s,xo,he,w=>by rw[pv];exact True.intro
 |.bin op a b,X,ρ,σ,S,s,xo,he,w=>by
  rw[ev,pv];exact (ZP H a xo he w).bind λd v S1 s1 x1 w1 r1=>(ZP H b (xo.ext x1) (he.ext xo x1) w1).bind λe u S2 s2 x2 w2 r2=>xD ((xo.ext x1).ext x2) w2 (Rep.ext (xo.ext x1) x2 r1) r2
 |.neg a,X,ρ,σ,S,s,xo,he,w=>by
  rw[ev,pv];refine (ZP H a xo he w).bind λd v S1 s1 x1 w1 r1=>?_
  cases v with
  |int i=>cases Rep.int' r1;exact Sim.ok w1 (Zp _)
  |_=>exact True.intro
 |.not a,X,ρ,σ,S,s,xo,he,w=>by
  rw[ev,pv];refine (ZP H a xo he w).bind λd v S1 s1 x1 w1 r1=>?_
  cases q:Yi v with
  |none=>exact True.intro
  |some b=>
   rw[Y2 r1 q];exact Sim.ok w1 (Zq _)
 |.and a b,X,ρ,σ,S,s,xo,he,w=>by
  rw[ev,pv];refine (ZP H a xo he w).bind λd v S1 s1 x1 w1 r1=>?_
  cases v with
  |bl c=>
   cases Rep.bl' r1;cases c with
   |true=>exact ZP H b (xo.ext x1) (he.ext xo x1) w1
   |false=>exact Sim.ok w1 (Zq _)
  |_=>exact True.intro
 |.or a b,X,ρ,σ,S,s,xo,he,w=>by
  rw[ev,pv];refine (ZP H a xo he w).bind λd v S1 s1 x1 w1 r1=>?_
  cases v with
  |bl c=>
   cases Rep.bl' r1;cases c with
   |true=>exact Sim.ok w1 (Zq _)
   |false=>exact ZP H b (xo.ext x1) (he.ext xo x1) w1
  |_=>exact True.intro
 |.ite t a b,X,ρ,σ,S,s,xo,he,w=>by
  rw[ev,pv];refine (ZP H t xo he w).bind λd v S1 s1 x1 w1 r1=>?_
  cases q:Yi v with
  |none=>exact True.intro
  |some c=>
   rw[Y2 r1 q];cases c with
   |true=>exact ZP H a (xo.ext x1) (he.ext xo x1) w1
   |false=>exact ZP H b (xo.ext x1) (he.ext xo x1) w1
 |.cmp op a b,X,ρ,σ,S,s,xo,he,w=>by
  rw[ev,pv];exact (ZP H a xo he w).bind λd v S1 s1 x1 w1 r1=>(ZP H b (xo.ext x1) (he.ext xo x1) w1).bind λe u S2 s2 x2 w2 r2=>Gu w2 (Rep.ext (xo.ext x1) x2 r1) r2
 |.chain o p a b d,X,ρ,σ,S,s,xo,he,w=>by
  rw[ev,pv];refine (ZP H a xo he w).bind λda va S1 s1 x1 w1 r1=>(ZP H b (xo.ext x1) (he.ext xo x1) w1).bind λdb vb S2 s2 x2 w2 r2=>(Gu w2 (Rep.ext (xo.ext x1) x2 r1) r2).bind λdz vz S3 s3 x3 w3 r3=>?_
  cases vz with
  |bl c=>
   cases Rep.bl' r3;cases c with
   |true=>
    refine (ZP H d (((xo.ext x1).ext x2).ext x3) (((he.ext xo x1).ext (xo.ext x1) x2).ext ((xo.ext x1).ext x2) x3) w3).bind λdd vd S4 s4 x4 w4 r4=>Gu w4 (Rep.ext (((xo.ext x1).ext x2).ext x3) x4 (Rep.ext ((xo.ext x1).ext x2) x3 r2)) r4
   |false=>exact Sim.ok w3 (Zq _)
  |_=>exact True.intro
 |.ix a i,X,ρ,σ,S,s,xo,he,w=>by
  rw[ev,pv];exact (ZP H a xo he w).bind λd v S1 s1 x1 w1 r1=>(ZP H i (xo.ext x1) (he.ext xo x1) w1).bind λe u S2 s2 x2 w2 r2=>Zcm w2 (Rep.ext (xo.ext x1) x2 r1) r2
 |.sl a lo hi,X,ρ,σ,S,s,xo,he,w=>by
  rw[ev,pv];refine (ZP H a xo he w).bind λd v S1 s1 x1 w1 r1=>(ZcV H lo (xo.ext x1) (he.ext xo x1) w1).bind λl' l S2 s2 x2 w2 r2=>?_
  have r2:l'=l:=r2;subst r2;refine (ZcV H hi ((xo.ext x1).ext x2) ((he.ext xo x1).ext (xo.ext x1) x2) w2).bind λh' h S3 s3 x3 w3 r3=>?_
  have r3:h'=h:=r3;subst r3;exact ZbJ (((xo.ext x1).ext x2).ext x3) w3 (Rep.ext ((xo.ext x1).ext x2) x3 (Rep.ext (xo.ext x1) x2 r1))
 |.rev a,X,ρ,σ,S,s,xo,he,w=>by
  rw[ev,pv];refine (ZP H a xo he w).bind λd v S1 s1 x1 w1 r1=>?_
  cases v with
  |tup vs=>obtain⟨ds,rfl,rs⟩:=Rep.tup' r1;exact Sim.ok w1 (ZS rs.reverse)
  |_=>exact True.intro
 |.call f as,X,ρ,σ,S,s,xo,he,w=>by
  rw[ev,pv];exact (X1 H as xo he w).bind λds vs S1 s1 x1 w1 r1=>H f vs ds S1 s1 X (xo.ext x1) w1 r1
 |.blt f as,X,ρ,σ,S,s,xo,he,w=>by
  rw[ev,pv];exact (X1 H as xo he w).bind λds vs S1 s1 x1 w1 r1=>jw (xo.ext x1) w1 r1
 |.isi a ts,X,ρ,σ,S,s,xo,he,w=>by
  rw[ev,pv];refine (ZP H a xo he w).bind λd v S1 s1 x1 w1 r1=>?_
  cases q:Xj v ts with
  |none=>exact True.intro
  |some b=>
   rw[zY r1 q];exact Sim.ok w1 (Zq _)
 |.inT a tab,X,ρ,σ,S,s,xo,he,w=>by
  rw[ev,pv];refine (ZP H a xo he w).bind λd v S1 s1 x1 w1 r1=>?_
  cases v with
  |int i=>cases Rep.int' r1;exact Sim.ok w1 (Zq _)
  |_=>exact True.intro
 |.getT tab a,X,ρ,σ,S,s,xo,he,w=>by
  rw[ev,pv];refine (ZP H a xo he w).bind λd v S1 s1 x1 w1 r1=>?_
  cases v with
  |int i=>
   cases Rep.int' r1;show Sim n0 S1 (RlV X n0) ((ob (tab.lookup i) S1).bind _) ((po (tab.lookup i) s1).bind _);cases q:tab.lookup i with
   |none=>exact True.intro
   |some j=>exact Sim.ok w1 (Zp _)
  |_=>exact True.intro
 |.comp1 cap nl t it ifs elt,X,ρ,σ,S,s,xo,he,w=>by
  rw[ev,pv];by_cases c:own nl t=true
  ·rw[Pg c]
   refine (vw H it xo he w).bind λwk vs S1 s1 x1 w1 r1=>?_
   have hn:∀i∈t,i<nl:=λi hi=>Pq (PN.mp c i hi)
   have xo1:=xo.ext x1;exact za xo1 w1 r1 (QO (he.ext xo x1)) λx d S2 s σ ds xo2 rx he2 w2 hm=>turn1 (λz=>absurd (xo1.lt _ xo1.z) (by omega)) (.inr rfl) (jU H ifs) (ZP H elt) (λi hi v=>VH (hn i hi) v) xo2 rx he2 w2 hm
  ·rw[Pi c];exact True.intro
 |.comp2 cap nl t it ifs u jt jfs elt,X,ρ,σ,S,s,xo,he,w=>by
  rw[ev,pv];by_cases c:own2 nl t u=true
  ·rw[Pg c]
   refine (vw H it xo he w).bind λwk vs S1 s1 x1 w1 r1=>?_
   obtain⟨c1,c2⟩:=(Py _ _).mp c;have hn:∀i∈t,i<nl:=λi hi=>Pq (PN.mp c1 i hi)
   have hn2:∀i∈u,i<nl/\i∉t:=λi hi=>by
    obtain⟨a,b⟩:=(Py _ _).mp (PN.mp c2 i hi);exact⟨Pq a,by simpa using b⟩
   have xo1:=xo.ext x1;exact za xo1 w1 r1 (QO (he.ext xo x1)) λx d S2 s σ ds xo2 rx he2 w2 hm=>turn2 (λz=>absurd (xo1.lt _ xo1.z) (by omega)) (.inr rfl) (jU H ifs) (jU H jfs) (vw H jt) (ZP H elt) (λi hi v=>VH (hn i hi) v) (λi hi=>⟨(hn2 i hi).2,λv=>VH (hn2 i hi).1 v⟩) xo2 rx he2 w2 hm
  ·rw[Pi c];exact True.intro
theorem X1 (H:Z0 n0 C CV):∀(es:List E) {X:Nat->Prop}{ρ:Env}{σ:Lc}{S:Store}{s:DS},Xok X n0 S->Ew S X n0 ρ σ->Dw n0 S s->Sim n0 S (Zag X n0) (evs C es σ S) (pvs CV es ρ s)
 |[],X,ρ,σ,S,s,xo,he,w=>by rw[evs,pvs];exact Sim.ok w Rq.nil
 |e::es,X,ρ,σ,S,s,xo,he,w=>by
  rw[evs,pvs];exact (ZP H e xo he w).bind λd v S1 s1 x1 w1 r1=>(X1 H es (xo.ext x1) (he.ext xo x1) w1).bind λds vs S2 s2 x2 w2 r2=>Sim.ok w2 (Rq.cons (Rep.ext (xo.ext x1) x2 r1) r2)
theorem ZcV (H:Z0 n0 C CV):∀(e:Option E) {X:Nat->Prop}{ρ:Env}{σ:Lc}{S:Store}{s:DS},Xok X n0 S->Ew S X n0 ρ σ->Dw n0 S s->Sim n0 S RlE (evo C e σ S) (pvo CV e ρ s)
 |none,X,ρ,σ,S,s,xo,he,w=>by rw[evo,pvo];exact Sim.ok w rfl
 |some e,X,ρ,σ,S,s,xo,he,w=>by
  rw[evo,pvo];refine (ZP H e xo he w).bind λd v S1 s1 x1 w1 r1=>?_
  cases v with
  |int i=>cases Rep.int' r1;exact Sim.ok w1 rfl
  |_=>exact True.intro
theorem jU (H:Z0 n0 C CV):∀(es:List E) {X:Nat->Prop}{ρ:Env}{σ:Lc}{S:Store}{s:DS},Xok X n0 S->Ew S X n0 ρ σ->Dw n0 S s->Sim n0 S RlE (evt C es σ S) (pvt CV es ρ s)
 |[],X,ρ,σ,S,s,xo,he,w=>by rw[evt,pvt];exact Sim.ok w rfl
 |e::es,X,ρ,σ,S,s,xo,he,w=>by
  rw[evt,pvt];refine (ZP H e xo he w).bind λd v S1 s1 x1 w1 r1=>?_
  cases q:Yi v with
  |none=>exact True.intro
  |some b=>
   rw[Y2 r1 q];cases b with
   |true=>exact jU H es (xo.ext x1) (he.ext xo x1) w1
   |false=>exact Sim.ok w1 rfl
theorem vw (H:Z0 n0 C CV):∀(wk:W) {X:Nat->Prop}{ρ:Env}{σ:Lc}{S:Store}{s:DS},Xok X n0 S->Ew S X n0 ρ σ->Dw n0 S s->Sim n0 S (WkR X n0) (evw C wk σ S) (pvw CV wk ρ s)
 |.rng1 a,X,ρ,σ,S,s,xo,he,w=>by
  rw[evw,pvw];refine (ZP H a xo he w).bind λd v S1 s1 x1 w1 r1=>?_
  cases v with
  |int i=>
   cases Rep.int' r1;exact Sim.guard λ_=>Sim.ok w1 ⟨Ui _ _,λp hp=>by cases hp⟩
  |_=>exact True.intro
 |.rng2 a b,X,ρ,σ,S,s,xo,he,w=>by
  rw[evw,pvw];refine (ZP H a xo he w).bind λd v S1 s1 x1 w1 r1=>(ZP H b (xo.ext x1) (he.ext xo x1) w1).bind λe u S2 s2 x2 w2 r2=>?_
  cases v with
  |int i=>cases u with
   |int j=>
    cases Rep.int' r1;cases Rep.int' r2;exact Sim.guard λ_=>Sim.ok w2 ⟨Ui _ _,λp hp=>by cases hp⟩
   |_=>exact True.intro
  |_=>exact True.intro
 |.rrng a b,X,ρ,σ,S,s,xo,he,w=>by
  rw[evw,pvw];refine (ZP H a xo he w).bind λd v S1 s1 x1 w1 r1=>(ZP H b (xo.ext x1) (he.ext xo x1) w1).bind λe u S2 s2 x2 w2 r2=>?_
  cases v with
  |int i=>cases u with
   |int j=>
    cases Rep.int' r1;cases Rep.int' r2;exact Sim.guard λ_=>Sim.ok w2 ⟨Rq.reverse (Ui _ _),λp hp=>by cases hp⟩
   |_=>exact True.intro
  |_=>exact True.intro
 |.zip a b,X,ρ,σ,S,s,xo,he,w=>by
  rw[evw,pvw];refine (ZP H a xo he w).bind λd v S1 s1 x1 w1 r1=>(ZP H b (xo.ext x1) (he.ext xo x1) w1).bind λe u S2 s2 x2 w2 r2=>?_
  cases q1:Z6 v with
  |none=>exact True.intro
  |some vs=>
   cases q2:Z6 u with
   |none=>exact True.intro
   |some us=>
    obtain⟨k1,e1,k2,k3⟩:=Wy (Rep.ext (xo.ext x1) x2 r1) q1;obtain⟨l1,f1,l2,l3⟩:=Wy r2 q2;rw[e1,f1];refine Sim.ok w2 ⟨J7 k2 l2,λp hp=>?_⟩
    rcases P7.mp hp with hp | hp
    ·exact k3 p hp
    ·exact l3 p hp
 |.enum a,X,ρ,σ,S,s,xo,he,w=>by
  rw[evw,pvw];refine (ZP H a xo he w).bind λd v S1 s1 x1 w1 r1=>?_
  cases q1:Z6 v with
  |none=>exact True.intro
  |some vs=>
   obtain⟨k1,e1,k2,k3⟩:=Wy r1 q1;rw[e1];refine Sim.ok w1 ⟨?_,k3⟩;show Rq S1 X n0 (((Yn 0 vs.length).zip vs).map _) (((Zs 0 k1.items.length).zip k1.items).map _);rw[k2.length];exact J7 (Ui _ _) k2
 |.of e,X,ρ,σ,S,s,xo,he,w=>by
  rw[evw,pvw];refine (ZP H e xo he w).bind λd v S1 s1 x1 w1 r1=>Sim.obp w1 λvs q=>Wy r1 q
end
end
abbrev Own:=Nat->Option Nat
noncomputable def XW (X:Nat->Prop) (W:Own):Nat->Prop:=λn=>X n\/∃i,W i=some n
structure Eu (S:Store) (X:Nat->Prop) (n0 base:Nat) (W:Own) (ρ:Env) (os:List Nat) (σ:Lc):Prop where
 xz:X n0
 xb:∀n,X n->n<base
 bs:base<=S.length
 len:ρ.length=σ.length
 osW:∀i,os.contains i=(W i).isSome
 inj:∀i j n,W i=some n->W j=some n->i=j
 pl:∀i n,W i=some n->base<=n
 own:∀i n,W i=some n->∃xs,ρ[i]? = some (some (.lst xs))/\fq xs=true/\σ[i]? = some (some (.loc n))/\S[n]? = some (.lst (Yz xs))
 val:∀(i:Nat) (v:V),ρ[i]? = some (some v)->W i=none->∃d,σ[i]? = some (some d)/\Rep S (XW X W) n0 v d
section
variable {S S':Store}{X:Nat->Prop}{n0 base:Nat}{W W':Own}{ρ:Env}{os:List Nat}{σ:Lc}
theorem Eu.xok (h:Eu S X n0 base W ρ os σ):Xok X n0 S:=⟨h.xz,λn x=>PL (h.xb n x) h.bs⟩
theorem Eu.xokW (h:Eu S X n0 base W ρ os σ):Xok (XW X W) n0 S:=⟨.inl h.xz,λn x=>by
 rcases x with x | ⟨i,x⟩
 ·exact h.xok.lt n x
 ·obtain⟨xs,_,_,_,e⟩:=h.own i n x;exact Y5 e⟩
theorem Eu.nx (h:Eu S X n0 base W ρ os σ) {i n:Nat}(e:W i=some n):¬X n:=λz=>by have:=h.xb n z;have:=h.pl i n e;omega
theorem Eu.ne (h:Eu S X n0 base W ρ os σ) {i n:Nat}(e:W i=some n):n≠n0:=λz=>h.nx e (z▸h.xz)
theorem Eu.all (h:Eu S X n0 base W ρ os σ):Ew S X n0 ρ σ:=⟨h.len,λi v e=>by
 cases q:W i with
 |none=>
  obtain⟨d,a,b⟩:=h.val i v e q;exact⟨d,a,b.mono (λ_ _ _ z=>z) λn _ z=>.inl z⟩
 |some n=>
  obtain⟨xs,a,b,c,d⟩:=h.own i n q;rw[a] at e;cases e;exact⟨_,c,J8 d (h.nx q) (Ws b)⟩⟩
theorem jd {i:Nat}{v:V}(e:(hide os ρ)[i]? = some (some v)):ρ[i]? = some (some v)/\os.contains i=false:=by
 unfold hide at e;rw[List.getElem?_mapIdx] at e;cases q:ρ[i]? with
 |none=>rw[q] at e;cases e
 |some o=>
  rw[q] at e;have e':(if os.contains i=true then none else o)=some v:=Pb e
  by_cases c:os.contains i=true
  ·rw[Pg c] at e';cases e'
  ·rw[Pi c] at e';exact⟨by rw[e'],by simpa using c⟩
theorem Eu.hid (h:Eu S X n0 base W ρ os σ):Ew S (XW X W) n0 (hide os ρ) σ:=⟨by unfold hide;rw[List.length_mapIdx];exact h.len,λi v e=>by
 obtain⟨a,b⟩:=jd e;rw[h.osW] at b;exact h.val i v a (by cases q:W i with | none=>rfl | some _=>rw[q] at b;cases b)⟩
theorem Eu.ext (h:Eu S X n0 base W ρ os σ) (e:Ext n0 S S'):Eu S' X n0 base W ρ os σ:=
 ⟨h.xz,h.xb,PY h.bs e.len,h.len,h.osW,h.inj,h.pl,λi n q=>by
  obtain⟨xs,a,b,c,d⟩:=h.own i n q;exact⟨xs,a,b,c,e.keep n _ (h.ne q) d⟩,λi v a b=>by
  obtain⟨d,c,r⟩:=h.val i v a b;exact⟨d,c,r.ext h.xokW e⟩⟩
theorem Eu.noW (h:Eu S X n0 base W ρ [] σ):∀i,W i=none:=λi=>by
 have:=h.osW i;cases q:W i with
 |none=>rfl
 |some n=>rw[q] at this;cases this
theorem Eu.set {i:Nat}{v:V}{d:D}(h:Eu S X n0 base W ρ os σ) (hi:os.contains i=false) (r:Rep S (XW X W) n0 v d):Eu S X n0 base W (ρ.set i (some v)) os (σ.set i (some d)):=by
 have hw:W i=.none:=by have:=h.osW i;rw[hi] at this;cases q:W i with | none=>rfl | some _=>rw[q] at this;cases this
 refine⟨h.xz,h.xb,h.bs,by rw[P1,P1];exact h.len,h.osW,h.inj,h.pl,λj n q=>?_,λj w e q=>?_⟩
 ·obtain⟨xs,a,b,c,e⟩:=h.own j n q
  have ij:i≠j:=λz=>by rw[z,q] at hw;cases hw
  exact⟨xs,by rw[PJ ij];exact a,b,by rw[PJ ij];exact c,e⟩
 ·rw[NG] at e ⊢
  by_cases c:i=j
  ·rw[Pg c] at e ⊢
   by_cases l:i<ρ.length
   ·rw[Pg l] at e
    rw[Pg (by rw[<-h.len];exact l)]
    cases e;exact⟨d,rfl,r⟩
   ·rw[Pi l] at e;cases e
  ·rw[Pi c] at e ⊢
   exact h.val j w e q
theorem Eu.fill:∀{t:List Nat}{vs:List V}{ds:List D}{ρ ρ':Env}{σ:Lc},Eu S X n0 base W ρ os σ->(t.any os.contains)=false->Rq S (XW X W) n0 vs ds->YO t vs ρ=some ρ'->∃σ',Ev.fill t ds σ=some σ'/\Eu S X n0 base W ρ' os σ'
 |[],[],_,ρ,ρ',σ,h,_,r,e=>by rw[r.nil'];cases e;exact⟨σ,rfl,h⟩
 |[],_::_,_,_,_,_,_,_,_,e=>by cases e
 |_::_,[],_,_,_,_,_,_,_,e=>by cases e
 |i::t,v::vs,_,ρ,ρ',σ,h,ht,r,e=>by
  obtain⟨d,ds,rfl,a,b⟩:=r.cons';rw[List.any_cons,Bool.or_eq_false_iff] at ht;exact Eu.fill (t:=t) (vs:=vs) (h.set ht.1 a) ht.2 b e
theorem Eu.assign {t:List Nat}{v:V}{d:D}{ρ':Env}(h:Eu S X n0 base W ρ os σ) (ht:(t.any os.contains)=false) (r:Rep S (XW X W) n0 v d) (e:Zu t v ρ=some ρ'):∃σ',Ev.assign t d S σ=some σ'/\Eu S X n0 base W ρ' os σ':=by
 have gen:∀t:List Nat,(t.any os.contains)=false->(match Z6 v with
   |some xs=>YO t xs ρ
   |none=>none)=some ρ'->∃σ',(match d with
   |.tup xs=>Ev.fill t xs σ
   |.loc n=>match Zh S n with
    |some xs=>Ev.fill t xs σ
    |none=>none
   |_=>none)=some σ'/\Eu S X n0 base W ρ' os σ':=by
  intro t ht e;cases v with
  |tup vs=>obtain⟨ds,rfl,rs⟩:=r.tup';exact h.fill ht rs e
  |lst vs=>
   obtain⟨n,ds,rfl,hs,_,rs⟩:=r.lst';obtain⟨σ',a,b⟩:=h.fill ht rs e;refine⟨σ',?_,b⟩;show (match Zh S n with
    |some xs=>Ev.fill t xs σ
    |.none=>.none)=some σ'
   rw[ZA hs];exact a
  |_=>cases e
 match t,ht,e with
 |[i],ht,e=>
  cases e;exact⟨_,rfl,h.set (by simpa using ht) r⟩
 |[],ht,e=>exact gen [] ht e
 |i::j::t,ht,e=>exact gen (i::j::t) ht e
theorem Eu.drop {i:Nat}{v:V}{d:D}(h:Eu S X n0 base W ρ os σ) (r:Rep S (XW X W) n0 v d):Eu S X n0 base (λj=>if j=i then .none else W j) (ρ.set i (some v)) (os.filter (· != i)) (σ.set i (some d)):=by
 have sub:∀n,XW X (λj=>if j=i then none else W j) n->XW X W n:=λn z=>by
  rcases z with z | ⟨j,z⟩
  ·exact .inl z
  ·by_cases c:j=i
   ·simp only[c,NS] at z;cases z
   ·simp only[c,Nz] at z;exact .inr ⟨j,z⟩
 have get:∀{j n:Nat},(if j=i then Option.none else W j)=some n->j≠i/\W j=some n:=λ{j n} z=>by
  by_cases c:j=i
  ·rw[Pg c] at z;cases z
  ·rw[Pi c] at z;exact⟨c,z⟩
 refine⟨h.xz,h.xb,h.bs,by rw[P1,P1];exact h.len,λj=>?_,λa b n x y=>h.inj a b n (get x).2 (get y).2,λj n z=>h.pl j n (get z).2,λj n z=>?_,λj w e z=>?_⟩
 ·by_cases c:j=i
  ·simp[c]
  ·simp only[c,Nz]
   rw[<-h.osW j,P3,NN,NN,Nd];simp[c]
 ·obtain⟨xs,a,b,c,e⟩:=h.own j n (get z).2
  have ij:i≠j:=Ne.symm (get z).1;exact⟨xs,by rw[PJ ij];exact a,b,by rw[PJ ij];exact c,e⟩
 ·rw[NG] at e ⊢
  by_cases c:i=j
  ·rw[Pg c] at e ⊢
   by_cases l:i<ρ.length
   ·rw[Pg l] at e
    rw[Pg (by rw[<-h.len];exact l)]
    cases e;exact⟨d,rfl,r.mono (λ_ _ _ q=>q) λn _ q=>sub n q⟩
   ·rw[Pi l] at e;cases e
  ·rw[Pi c] at e ⊢
   rw[Pi (Ne.symm c)] at z;obtain⟨d',a,b⟩:=h.val j w e z;exact⟨d',a,b.mono (λ_ _ _ q=>q) λn _ q=>sub n q⟩
theorem Eu.take {S0:Store}{i n:Nat}{xs:List V}(h:Eu S0 X n0 base W ρ os σ) (e:Ext n0 S0 S) (hn:S0.length<=n) (hf:fq xs=true) (r:Rep S (XW X W) n0 (.lst xs) (.loc n)) (hi:i<ρ.length) :
  Eu S X n0 base (λj=>if j=i then some n else W j) (ρ.set i (some (.lst xs))) (i::os.filter (· != i)) (σ.set i (some (.loc n))):=by
 obtain⟨n',ds,en,hs,hx,rs⟩:=r.lst';cases en;have ed:=Xt hf rs;subst ed;have h1:=h.ext e;have sub:∀m,m<S0.length->XW X (λj=>if j=i then some n else W j) m->XW X W m:=λm hm z=>by
  rcases z with z | ⟨j,z⟩
  ·exact .inl z
  ·by_cases c:j=i
   ·simp only[c,NS] at z
    have:n=m:=Pb z;omega
   ·simp only[c,Nz] at z;exact .inr ⟨j,z⟩
 have get:∀{j m:Nat},(if j=i then some n else W j)=some m->(j=i/\n=m)\/(j≠i/\W j=some m):=λ{j m} z=>by
  by_cases c:j=i
  ·rw[Pg c] at z;exact .inl ⟨c,Pb z⟩
  ·rw[Pi c] at z;exact .inr ⟨c,z⟩
 refine⟨h1.xz,h1.xb,h1.bs,by rw[P1,P1];exact h.len,λj=>?_,λa b m x y=>?_,λj m z=>?_,λj m z=>?_,λj w q z=>?_⟩
 ·by_cases c:j=i
  ·simp[c]
  ·simp only[c,Nz]
   rw[<-h.osW j,P3,NN,NN,Pk,Nd];simp[c]
 ·rcases get x with ⟨x1,x2⟩ | ⟨x1,x2⟩
  ·rcases get y with ⟨y1,y2⟩ | ⟨y1,y2⟩
   ·rw[x1,y1]
   ·exact absurd (.inr ⟨b,x2▸y2⟩) hx
  ·rcases get y with ⟨y1,y2⟩ | ⟨y1,y2⟩
   ·exact absurd (.inr ⟨a,y2▸x2⟩) hx
   ·exact h.inj a b m x2 y2
 ·rcases get z with ⟨z1,z2⟩ | ⟨z1,z2⟩
  ·have:=h.bs;omega
  ·exact h.pl j m z2
 ·rcases get z with ⟨z1,z2⟩ | ⟨z1,z2⟩
  ·subst z1 z2
   exact⟨xs,Np hi,hf,Np (by rw[<-h.len];exact hi),hs⟩
  ·obtain⟨ys,a,b,c,q⟩:=h1.own j m z2
   exact⟨ys,by rw[PJ (Ne.symm z1)];exact a,b,by rw[PJ (Ne.symm z1)];exact c,q⟩
 ·by_cases c:j=i
  ·rw[Pg c] at z;cases z
  ·rw[Pi c] at z
   rw[PJ (Ne.symm c)] at q ⊢;obtain⟨d,a,b⟩:=h.val j w q z;exact⟨d,a,b.mono (λm o nx hs=>e.keep m o (λq=>nx (q▸.inl h.xz)) hs) sub⟩
theorem Eu.mut {i n:Nat}{ys:List V}(h:Eu S X n0 base W ρ os σ) (hw:W i=some n) (hf:fq ys=true):Eu (S.set n (.lst (Yz ys))) X n0 base W (ρ.set i (some (.lst ys))) os σ:=by
 obtain⟨xs,a,b,c,e⟩:=h.own i n hw;have hi:i<ρ.length:=(Pr.mp a).1;refine⟨h.xz,h.xb,by rw[P1];exact h.bs,by rw[P1];exact h.len,h.osW,h.inj,h.pl,λj m z=>?_,λj w q z=>?_⟩
 ·by_cases k:i=j
  ·subst k
   rw[hw] at z;cases z;exact⟨ys,Np hi,hf,c,Np (Y5 e)⟩
  ·obtain⟨zs,a',b',c',e'⟩:=h.own j m z
   exact⟨zs,by rw[PJ k];exact a',b',c',by rw[PJ (λq:n=m=>k (h.inj i j n hw (by rw[q];exact z)))];exact e'⟩
 ·have k:i≠j:=λk=>by rw[<-k,hw] at z;cases z
  rw[PJ k] at q;obtain⟨d,a',b'⟩:=h.val j w q z;exact⟨d,a',b'.mono (λm o nx hs=>by rw[PJ (λq:n=m=>nx (.inr ⟨i,by rw[<-q];exact hw⟩))];exact hs) λ_ _ q=>q⟩
end
structure ExtS (n0:Nat) (W:Own) (S S':Store):Prop where
 len:S.length<=S'.length
 keep:∀n o,n≠n0->(∀i,W i≠some n)->S[n]? = some o->S'[n]? = some o
def WExt (S:Store) (W W':Own):Prop:=∀i n,W' i=some n->(∃j,W j=some n)\/S.length<=n
theorem Ext.s {n0:Nat}{W:Own}{S S':Store}(h:Ext n0 S S'):ExtS n0 W S S':=⟨h.len,λn o a _ e=>h.keep n o a e⟩
theorem ExtS.trans {n0:Nat}{W W':Own}{S S1 S2:Store}(a:ExtS n0 W S S1) (w:WExt S W W') (b:ExtS n0 W' S1 S2):ExtS n0 W S S2:=⟨PY a.len b.len,λn o h z e=>b.keep n o h (λi q=>by
 rcases w i n q with ⟨j,q⟩ | q
 ·exact z j q
 ·exact absurd (Y5 e) (by omega)) (a.keep n o h z e)⟩
theorem WExt.refl {S:Store}{W:Own}:WExt S W W:=λi n h=>.inl ⟨i,h⟩
theorem WExt.trans {S S1:Store}{W W1 W2:Own}(a:WExt S W W1) (l:S.length<=S1.length) (b:WExt S1 W1 W2):WExt S W W2:=λi n h=>by
 rcases b i n h with ⟨j,h⟩ | h
 ·exact a j n h
 ·exact .inr (PY l h)
def FlR (X:Nat->Prop) (n0 base:Nat) (S:Store) (W:Own) (S':Store):FlV->Fl->Prop
 |.nx ρ os,.nx σ=>∃W',WExt S W W'/\Eu S' X n0 base W' ρ os σ
 |.brk ρ os,.brk σ=>∃W',WExt S W W'/\Eu S' X n0 base W' ρ os σ
 |.cnt ρ os,.cnt σ=>∃W',WExt S W W'/\Eu S' X n0 base W' ρ os σ
 |.ret v,.ret d=>Rep S' X n0 v d
 |_,_=>False
def ZD (X:Nat->Prop) (n0 base:Nat) (S:Store) (W:Own) (r:R Fl) (q:PR FlV):Prop:=match q with
 |.no=>True
 |.ex c s'=>∃S',r=.ex c S'/\ExtS n0 W S S'/\Dw n0 S' s'
 |.ok f s'=>∃g S',r=.ok g S'/\ExtS n0 W S S'/\Dw n0 S' s'/\FlR X n0 base S W S' f g
section
variable {α β:Type}{S S':Store}{X:Nat->Prop}{n0 base:Nat}{W W':Own}{ρ:Env}{os:List Nat}{σ:Lc}
theorem FlR.from {S1:Store}{f:FlV}{g:Fl}(w:WExt S W W') (l:S.length<=S1.length) (h:FlR X n0 base S1 W' S' f g):FlR X n0 base S W S' f g:=by
 cases f with
 |nx ρ os=>cases g with
  |nx σ=>obtain⟨W2,a,b⟩:=h;exact⟨W2,w.trans l a,b⟩
  |_=>exact h.elim
 |brk ρ os=>cases g with
  |brk σ=>obtain⟨W2,a,b⟩:=h;exact⟨W2,w.trans l a,b⟩
  |_=>exact h.elim
 |cnt ρ os=>cases g with
  |cnt σ=>obtain⟨W2,a,b⟩:=h;exact⟨W2,w.trans l a,b⟩
  |_=>exact h.elim
 |ret v=>cases g with
  |ret d=>exact h
  |_=>exact h.elim
theorem ZD.from {S1:Store}{r:R Fl}{q:PR FlV}(x:ExtS n0 W S S1) (w:WExt S W W') (h:ZD X n0 base S1 W' r q):ZD X n0 base S W r q:=by
 cases q with
 |no=>exact True.intro
 |ex c s'=>obtain⟨S2,a,b,c⟩:=h;exact⟨S2,a,x.trans w b,c⟩
 |ok f s'=>obtain⟨g,S2,a,b,c,d⟩:=h;exact⟨g,S2,a,x.trans w b,c,FlR.from w x.len d⟩
theorem ZD.bindE {Rl:Store->β->α->Prop}{r:R α}{q:PR β}{f:α->Store->R Fl}{g:β->DS->PR FlV}(h:Sim n0 S Rl r q)
  (k:∀a b S' s',Ext n0 S S'->Dw n0 S' s'->Rl S' b a->ZD X n0 base S' W (f a S') (g b s')):ZD X n0 base S W (r.bind f) (q.bind g):=by
 cases q with
 |no=>exact True.intro
 |ex c s'=>obtain⟨S',e,x,w⟩:=h;rw[e];exact⟨S',rfl,x.s,w⟩
 |ok b s'=>
  obtain⟨a,S',e,x,w,rl⟩:=h;rw[e];exact ZD.from x.s WExt.refl (k a b S' s' x w rl)
theorem ZD.nx {s:DS}{σ':Lc}{ρ':Env}{os':List Nat}(w:Dw n0 S s) (hw:WExt S W W') (h:Eu S X n0 base W' ρ' os' σ'):ZD X n0 base S W (.ok (.nx σ') S) (.ok (.nx ρ' os') s):=⟨_,S,rfl,Ext.refl.s,w,W',hw,h⟩
end
section
variable {n0:Nat}{C:Calls}{CV:Zt}{X:Nat->Prop}{base:Nat}
theorem Zc6 (H:Z0 n0 C CV) (e:E) {W:Own}{ρ:Env}{os:List Nat}{σ:Lc}{S:Store}{s:DS}(he:Eu S X n0 base W ρ os σ) (w:Dw n0 S s):Sim n0 S (RlV (XW X W) n0) (ev C e σ S) (pvA CV e ρ os s):=by
 cases os with
 |nil=>
  have hh:Ew S (XW X W) n0 ρ σ:=⟨he.len,λi v q=>he.val i v q (he.noW i)⟩
  exact ZP H e he.xokW hh w
 |cons o os=>
  show Sim n0 S (RlV (XW X W) n0) (ev C e σ S) (match pv CV e (hide (o::os) ρ) s with
   |.ok v s=>.ok v s
   |.ex c s=>.ex c s
   |.no=>(pv CV e ρ s).bind λv s=>if v.flat then .ok v s else .no)
  have h1:=ZP H e he.xokW he.hid w;cases q:pv CV e (hide (o::os) ρ) s with
  |ok v s1=>rw[q] at h1;exact h1
  |ex c s1=>rw[q] at h1;exact h1
  |no=>
   have h2:=ZP H e he.xok he.all w;cases q2:pv CV e ρ s with
   |no=>exact True.intro
   |ex c s1=>rw[q2] at h2;exact h2
   |ok v s1=>
    rw[q2] at h2;show Sim n0 S (RlV (XW X W) n0) (ev C e σ S) (if v.flat=true then .ok v s1 else .no)
    by_cases c:v.flat=true
    ·rw[Pg c]
     obtain⟨d,S',a1,a2,a3,a4⟩:=h2;exact⟨d,S',a1,a2,a3,by rw[X3 c a4];exact UN c⟩
    ·rw[Pi c];exact True.intro
theorem ZcR (H:Z0 n0 C CV) (es:List E) {W:Own}{ρ:Env}{os:List Nat}{σ:Lc}{S:Store}{s:DS}(he:Eu S X n0 base W ρ os σ) (w:Dw n0 S s):Sim n0 S (Zag (XW X W) n0) (evs C es σ S) (ZcI CV es ρ os s):=by
 cases os with
 |nil=>
  have hh:Ew S (XW X W) n0 ρ σ:=⟨he.len,λi v q=>he.val i v q (he.noW i)⟩
  exact X1 H es he.xokW hh w
 |cons o os=>
  show Sim n0 S (Zag (XW X W) n0) (evs C es σ S) ((pvs CV es ρ s).bind λv s=>if fq v=true then .ok v s else .no)
  have h2:=X1 H es he.xok he.all w;cases q2:pvs CV es ρ s with
  |no=>exact True.intro
  |ex c s1=>rw[q2] at h2;exact h2
  |ok v s1=>
   rw[q2] at h2;show Sim n0 S (Zag (XW X W) n0) (evs C es σ S) (if fq v=true then .ok v s1 else .no)
   by_cases c:fq v=true
   ·rw[Pg c]
    obtain⟨d,S',a1,a2,a3,a4⟩:=h2;exact⟨d,S',a1,a2,a3,by rw[Xt c a4];exact Ws c⟩
   ·rw[Pi c];exact True.intro
theorem JA (H:Z0 n0 C CV) {e:E}(hf:fresh e=true) {ρ:Env}{σ:Lc}{S S':Store}{s s':DS}{xs:List V}{d:D}(xo:Xok X n0 S) (he:Ew S X n0 ρ σ) (w:Dw n0 S s) (q:pv CV e ρ s=.ok (.lst xs) s') (r:ev C e σ S=.ok d S'):∃n,d=.loc n/\S.length<=n:=by
 have bo:∀{α β:Type} {r:R α} {f:α->Store->R β} {b:β} {S':Store},r.bind f=.ok b S'->∃a S1,r=.ok a S1/\f a S1=.ok b S':=λ{α β r f b S'} h=>by
  cases r with
  |no=>cases h
  |ex _ _=>cases h
  |ok a S1=>exact⟨a,S1,rfl,h⟩
 have ifo:∀{α:Type} {P:Prop} [Decidable P] {r:R α} {b:α} {S':Store},(if P then r else .no)=.ok b S'->r=.ok b S':=λ{α P _ r b S'} h=>by
  by_cases c:P
  ·rw[Pg c] at h;exact h
  ·rw[Pi c] at h;cases h
 cases e with
 |lst es=>
  rw[pv] at q;obtain⟨vs,s1,q1,_⟩:=Ya q;obtain⟨ds,S1,e1,x1,_,_⟩:=(X1 H es xo he w).out q1;rw[ev,e1] at r;have r:=ifo (show (if ds.length<=lim then R.ok (D.loc S1.length) (S1++[.lst ds]) else .no)=.ok d S' from r)
  cases r;exact⟨_,rfl,x1.len⟩
 |comp1 cap nl t it ifs elt=>
  rw[pv] at q;by_cases c:own nl t=true
  ·rw[Pg c] at q
   obtain⟨vs,s1,q1,_⟩:=Ya q;obtain⟨wk,S1,e1,x1,_,_⟩:=(vw H it xo he w).out q1;rw[ev,e1] at r;obtain⟨_,_,ea,r⟩:=bo r;cases ea;obtain⟨_,S2,_,r⟩:=bo r;cases r;exact⟨_,rfl,x1.len⟩
  ·rw[Pi c] at q;cases q
 |comp2 cap nl t it ifs u jt jfs elt=>
  rw[pv] at q;by_cases c:own2 nl t u=true
  ·rw[Pg c] at q
   obtain⟨vs,s1,q1,_⟩:=Ya q;obtain⟨wk,S1,e1,x1,_,_⟩:=(vw H it xo he w).out q1;rw[ev,e1] at r;obtain⟨_,_,ea,r⟩:=bo r;cases ea;obtain⟨_,S2,_,r⟩:=bo r;cases r;exact⟨_,rfl,x1.len⟩
  ·rw[Pi c] at q;cases q
 |bin op a b=>
  cases op with
  |mul=>cases a with
   |lst es=>
    rw[pv] at q;obtain⟨x,s1,q1,q⟩:=Ya q;obtain⟨y,s2,q2,q⟩:=Ya q;obtain⟨dx,S1,e1,x1,w1,r1⟩:=(ZP H (.lst es) xo he w).out q1;obtain⟨dy,S2,e2,x2,w2,r2⟩:=(ZP H b (xo.ext x1) (he.ext xo x1) w1).out q2;rw[ev,e1] at r;have r:(ev C b σ S1).bind (λy S=>binop .mul dx y S)=.ok d S':=r
    rw[e2] at r;have r:binop .mul dx dy S2=.ok d S':=r;cases x with
    |lst us=>cases y with
     |int j=>
      obtain⟨n,ds,rfl,hs,_,_⟩:=Rep.lst' r1;cases Rep.int' r2;have hs2:=x2.keep n _ (λz=>?_) hs
      ·have r:(match Zh S2 n with
        |some a=>if 0<=j/\j<1000/\a.length<=1000 then R.ok (D.loc S2.length) (S2++[Ob.lst (List.replicate j.toNat a).flatten]) else .no
        |none=>.no)=.ok d S':=r
       rw[ZA hs2] at r;have r:=ifo (show (if 0<=j/\j<1000/\ds.length<=1000 then R.ok (D.loc S2.length) (S2++[Ob.lst (List.replicate j.toNat ds).flatten]) else .no)=.ok d S' from r)
       cases r;exact⟨_,rfl,PY x1.len x2.len⟩
      ·obtain⟨n',_,en,_,nx,_⟩:=Rep.lst' r1
       cases en;exact nx (z▸xo.z)
     |_=>cases q
    |tup us=>cases y with
     |int j=>
      have q:(if 0<=j/\j<1000/\us.length<=1000 then PR.ok (V.tup (List.replicate j.toNat us).flatten) s2 else .no)=.ok (.lst xs) s':=q
      by_cases c:0<=j/\j<1000/\us.length<=1000
      ·rw[Pg c] at q;cases q
      ·rw[Pi c] at q;cases q
     |_=>cases q
    |int i=>cases y with
     |int j=>
      have q:(if (fits i&&fits j)=true then PR.ok (V.int (i*j)) s2 else .no)=.ok (.lst xs) s':=q
      by_cases c:(fits i&&fits j)=true
      ·rw[Pg c] at q;cases q
      ·rw[Pi c] at q;cases q
     |_=>cases q
    |_=>cases y <;> cases q
   |_=>cases hf
  |_=>cases hf
 |blt f as=>
  cases f with
  |list=>
   rw[pv] at q;obtain⟨vs,s1,q1,q⟩:=Ya q;obtain⟨ds,S1,e1,x1,w1,r1⟩:=(X1 H as xo he w).out q1;rw[ev,e1] at r;have r:bltin .list ds S1=.ok d S':=r
   match ds,r with
   |[z],r=>
    obtain⟨_,S2,r1,r⟩:=bo (show (ob (YH S1 z) S1).bind (λxs S=>R.ok (D.loc S.length) (S++[.lst xs]))=.ok d S' from r)
    cases q:YH S1 z with
    |none=>rw[q] at r1;cases r1
    |some _=>rw[q] at r1;cases r1;cases r;exact⟨_,rfl,x1.len⟩
  |sorted=>
   rw[pv] at q;obtain⟨vs,s1,q1,q⟩:=Ya q;obtain⟨ds,S1,e1,x1,w1,r1⟩:=(X1 H as xo he w).out q1;rw[ev,e1] at r;have r:bltin .sorted ds S1=.ok d S':=r
   match ds,r with
   |[.loc z],r=>
    obtain⟨ys,S2,r1,r⟩:=bo (show (ob (Zh S1 z) S1).bind _=.ok d S' from r)
    cases q:Zh S1 z with
    |none=>rw[q] at r1;cases r1
    |some _=>
     rw[q] at r1;cases r1;have r:(if wR ys=true then sorted false z S1 else (ob (Yf ys) S1).bind λps S=>if ZH ps=true then .ok (.loc S.length) (S++[.lst ((Zw ltP ps).map Vl)]) else .no)=.ok d S':=r
     by_cases c:wR ys=true
     ·rw[Pg c] at r
      have r:(ob (Zh S1 z) S1).bind (λxs S=>(ob (ZK xs) S).bind λrs S=>if sortOk rs=true then .ok (.loc S.length) (S++[.lst ((if false then (ZM rs).reverse else ZM rs).map X4)]) else .no)=R.ok d S':=r
      rw[q] at r;obtain⟨rs,S3,r2,r⟩:=bo (show (ob (ZK ys) S1).bind _=R.ok d S' from r)
      cases q2:ZK ys with
      |none=>rw[q2] at r2;cases r2
      |some _=>
       rw[q2] at r2;cases r2;have r:=ifo r;cases r;exact⟨_,rfl,x1.len⟩
     ·rw[Pi c] at r
      obtain⟨rs,S3,r2,r⟩:=bo r;cases q2:Yf ys with
      |none=>rw[q2] at r2;cases r2
      |some _=>
       rw[q2] at r2;cases r2;have r:=ifo r;cases r;exact⟨_,rfl,x1.len⟩
  |_=>cases hf
 |_=>cases hf
end
theorem Wa:∀(a b:List V),Yz (a++b)=Yz a++Yz b
 |[],b=>rfl
 |x::a,b=>by rw[List.cons_append];show toD x::Yz (a++b)=_;rw[Wa a b];rfl
theorem XD:∀{a b:List V},fq a=true->fq b=true->fq (a++b)=true
 |[],b,_,h=>h
 |x::a,b,h,h'=>by
  unfold fq at h;obtain⟨h1,h2⟩:=(Py _ _).mp h;show (x.flat&&fq (a++b))=true;rw[h1,XD h2 h'];rfl
theorem zZ:∀(a:List V) (j:Nat) (v:V),Yz (a.set j v)=(Yz a).set j (toD v)
 |[],_,_=>rfl
 |x::a,0,v=>rfl
 |x::a,j+1,v=>by show toD x::Yz (a.set j v)=toD x::(Yz a).set j (toD v);rw[zZ a j v]
theorem Je:∀{a:List V}{j:Nat}{v:V},fq a=true->v.flat=true->fq (a.set j v)=true
 |[],_,_,h,_=>h
 |x::a,0,v,h,h'=>by
  unfold fq at h;obtain⟨h1,h2⟩:=(Py _ _).mp h;show (v.flat&&fq a)=true;rw[h',h2];rfl
 |x::a,j+1,v,h,h'=>by
  unfold fq at h;obtain⟨h1,h2⟩:=(Py _ _).mp h;show (x.flat&&fq (a.set j v))=true;rw[h1,Je h2 h'];rfl
theorem YJ:∀a:List V,(Yz a).length=a.length
 |[]=>rfl
 |x::a=>by show (Yz a).length+1=_;rw[YJ a];rfl
theorem wa {C:Calls}{e:E}{σ:Lc}{S:Store}:evs C [e] σ S=(ev C e σ S).bind λx S=>.ok [x] S:=by
 rw[evs];rfl
section
variable {n0:Nat}{C:Calls}{CV:Zt}{X:Nat->Prop}{base:Nat}{W:Own}{ρ:Env}{os:List Nat}{σ:Lc}{S:Store}{s:DS}
theorem Eu.at (h:Eu S X n0 base W ρ os σ) {i:Nat}(hi:os.contains i=true):∃n xs,W i=some n/\ρ[i]? = some (some (.lst xs))/\fq xs=true/\σ[i]? = some (some (.loc n))/\S[n]? = some (.lst (Yz xs)):=by
 rw[h.osW] at hi;obtain⟨n,hn⟩:=NQ.mp hi;obtain⟨xs,a,b,c,d⟩:=h.own i n hn;exact⟨n,xs,hn,a,b,c,d⟩
theorem jM {n:Nat}{o:Ob}{i:Nat}(hw:W i=some n):ExtS n0 W S (S.set n o):=⟨by simp,λm o' _ z e=>by rw[PJ (λq:n=m=>z i (by rw[<-q];exact hw))];exact e⟩
theorem ZD.mutd {i n:Nat}{ys:List V}(he:Eu S X n0 base W ρ os σ) (w:Dw n0 S s) (hw:W i=some n) (hf:fq ys=true):ZD X n0 base S W (.ok (.nx σ) (S.set n (.lst (Yz ys)))) (.ok (.nx (ρ.set i (some (.lst ys))) os) s):=
 ⟨_,_,rfl,jM hw,⟨by rw[PJ (he.ne hw)];exact w.1,w.2⟩,W,WExt.refl,he.mut hw hf⟩
theorem ZaM {op:Bop}{x y z:V}{s s':DS}(h:ve op x y s=.ok z s'):∃i,z=.int i:=by
 cases x with
 |int i=>cases y with
  |int j=>
   have ifo:∀{P:Prop} [Decidable P] {k:Int} ,(if P then PR.ok (V.int k) s else .no)=.ok z s'->∃i,z=.int i:=λ{P _ k} h=>by
    by_cases c:P
    ·rw[Pg c] at h;cases h;exact⟨_,rfl⟩
    ·rw[Pi c] at h;cases h
   cases op with
   |add=>cases h;exact⟨_,rfl⟩
   |sub=>cases h;exact⟨_,rfl⟩
   |mul=>exact ifo h
   |fdiv=>exact ifo h
   |mod=>exact ifo h
   |pow=>exact ifo h
  |_=>cases h
 |_=>cases h
theorem uz (H:Z0 n0 C CV) (e:E) (he:Eu S X n0 base W ρ os σ) (w:Dw n0 S s):Sim n0 S RlE (tst C e σ S) (Ue CV e ρ s):=by
 refine (ZP H e he.xok he.all w).bind λd v S1 s1 x1 w1 r1=>?_
 cases q:Yi v with
 |none=>exact True.intro
 |some b=>rw[Y2 r1 q];exact Sim.ok w1 rfl
theorem Zbg (H:Z0 n0 C CV) (e:E) (he:Eu S X n0 base W ρ os σ) (w:Dw n0 S s):ZD X n0 base S W ((ev C e σ S).bind λ_ S=>.ok (.nx σ) S) ((pv CV e ρ s).bind λ_ s=>.ok (.nx ρ os) s):=
 ZD.bindE (ZP H e he.xok he.all w) λd v S1 s1 x1 w1 r1=>ZD.nx w1 WExt.refl (he.ext x1)
theorem yH (H:Z0 n0 C CV) (i:Nat) (e:E) (he:Eu S X n0 base W ρ os σ) (w:Dw n0 S s):ZD X n0 base S W ((ev C (.mt .append (.v i) [e]) σ S).bind λ_ S=>.ok (.nx σ) S)
  (if os.contains i=true then (po (WL ρ[i]?) s).bind λxs s=>(pv CV e ρ s).bind λv s=>if v.flat=true/\xs.length<lim then .ok (.nx (ρ.set i (some (.lst (xs++[v])))) os) s else .no else .no):=by
 by_cases c:os.contains i=true
 ·rw[Pg c]
  obtain⟨n,xs,hw,a1,a2,a3,a4⟩:=he.at c;have e0:WL ρ[i]? = some xs:=by rw[a1];rfl
  rw[e0];show ZD X n0 base S W _ ((pv CV e ρ s).bind _);have e1:(ev C (.mt .append (.v i) [e]) σ S).bind (λ_ S=>R.ok (Fl.nx σ) S)=(ev C e σ S).bind λd S=>(method .append (.loc n) [d] S).bind λ_ S=>.ok (.nx σ) S:=by
   rw[ev,ev,a3];show R.bind (if UY S (.loc n)=true then _ else _) _=_
   rw[Pg (by show (Zh S n).isSome=true;rw[ZA a4];rfl),wa]
   cases ev C e σ S <;> rfl
  rw[e1];refine ZD.bindE (ZP H e he.xok he.all w) λd v S1 s1 x1 w1 r1=>?_
  have he1:=he.ext x1;have a5:=x1.keep n _ (he.ne hw) a4;by_cases c2:v.flat=true/\xs.length<lim
  ·rw[Pg c2]
   have hm:method .append (.loc n) [d] S1=.ok .non (S1.set n (.lst (Yz xs++[d]))):=by
    show R.bind (ob (Zh S1 n) S1) _=_;rw[ZA a5];show (if (Yz xs).length<lim then _ else _)=_
    rw[Pg (by rw[YJ];exact c2.2)]
   rw[hm];have:=ZD.mutd (ys:=xs++[v]) he1 w1 hw (XD a2 (by show (v.flat&&true)=true;rw[c2.1];rfl))
   rw[Wa] at this;rw[X3 c2.1 r1];exact this
  ·rw[Pi c2];exact True.intro
 ·rw[Pi c];exact True.intro
theorem xu (H:Z0 n0 C CV) (i:Nat) (e:E) (he:Eu S X n0 base W ρ os σ) (w:Dw n0 S s):ZD X n0 base S W ((ev C (.mt .extend (.v i) [e]) σ S).bind λ_ S=>.ok (.nx σ) S)
  (if os.contains i=true then (po (WL ρ[i]?) s).bind λxs s=>(pv CV e (hide os ρ) s).bind λv s=>match v with
   |.lst ys=>if fq ys=true/\xs.length+ys.length<=lim then .ok (.nx (ρ.set i (some (.lst (xs++ys)))) os) s else .no
   |_=>.no
  else .no):=by
 by_cases c:os.contains i=true
 ·rw[Pg c]
  obtain⟨n,xs,hw,a1,a2,a3,a4⟩:=he.at c;have e0:WL ρ[i]? = some xs:=by rw[a1];rfl
  rw[e0];show ZD X n0 base S W _ ((pv CV e (hide os ρ) s).bind _);have e1:(ev C (.mt .extend (.v i) [e]) σ S).bind (λ_ S=>R.ok (Fl.nx σ) S)=(ev C e σ S).bind λd S=>(method .extend (.loc n) [d] S).bind λ_ S=>.ok (.nx σ) S:=by
   rw[ev,ev,a3];show R.bind (if UY S (.loc n)=true then _ else _) _=_
   rw[Pg (by show (Zh S n).isSome=true;rw[ZA a4];rfl),wa]
   cases ev C e σ S <;> rfl
  rw[e1];refine ZD.bindE (ZP H e he.xokW he.hid w) λd v S1 s1 x1 w1 r1=>?_
  have he1:=he.ext x1;have a5:=x1.keep n _ (he.ne hw) a4;cases v with
  |lst ys=>
   obtain⟨k,ds,rfl,hs,hx,rs⟩:=Rep.lst' r1;show ZD X n0 base S1 W _ (if fq ys=true/\xs.length+ys.length<=lim then .ok (.nx (ρ.set i (some (.lst (xs++ys)))) os) s1 else .no)
   by_cases c2:fq ys=true/\xs.length+ys.length<=lim
   ·rw[Pg c2]
    have ed:=Xt c2.1 rs;subst ed;have hm:method .extend (.loc n) [.loc k] S1=.ok .non (S1.set n (.lst (Yz xs++Yz ys))):=by
     show (if n=k then R.no else (ob (Zh S1 n) S1).bind λxs S=>(ob (Zh S k) S).bind λys S=>if xs.length+ys.length<=lim then R.ok D.non (S.set n (.lst (xs++ys))) else .no)=_
     rw[Pi (λz:n=k=>hx (.inr ⟨i,by rw[<-z];exact hw⟩)),ZA a5]
     show R.bind (ob (Zh S1 k) S1) _=_;rw[ZA hs];show (if (Yz xs).length+(Yz ys).length<=lim then _ else _)=_
     rw[Pg (by rw[YJ,YJ];exact c2.2)]
    rw[hm];have:=ZD.mutd (ys:=xs++ys) he1 w1 hw (XD a2 c2.1);rw[Wa] at this;exact this
   ·rw[Pi c2];exact True.intro
  |_=>exact True.intro
 ·rw[Pi c];exact True.intro
theorem j5 (H:Z0 n0 C CV) (i:Nat) (k e:E) (he:Eu S X n0 base W ρ os σ) (w:Dw n0 S s):ZD X n0 base S W ((ev C e σ S).bind λv S=>(ev C (.v i) σ S).bind λx S=>(ev C k σ S).bind λy S=>(setix x y v S).bind λ_ S=>.ok (.nx σ) S)
  (if os.contains i then (pv CV e ρ s).bind λv s=>if v.flat then (po (WL ρ[i]?) s).bind λxs s=>(pv CV k ρ s).bind λy s=>match y with
   |.int n=>(po (ixN xs.length n) s).bind λj s=>.ok (.nx (ρ.set i (some (.lst (xs.set j v)))) os) s
   |_=>.no
  else .no else .no):=by
 by_cases c:os.contains i=true
 ·rw[Pg c]
  obtain⟨n,xs,hw,a1,a2,a3,a4⟩:=he.at c;refine ZD.bindE (ZP H e he.xok he.all w) λd v S1 s1 x1 w1 r1=>?_
  have he1:=he.ext x1;have a5:=x1.keep n _ (he.ne hw) a4;by_cases c2:v.flat=true
  ·rw[Pg c2]
   have e0:WL ρ[i]? = some xs:=by rw[a1];rfl
   rw[e0,ev,a3];show ZD X n0 base S1 W ((ev C k σ S1).bind λy S=>(setix (.loc n) y d S).bind λ_ S=>.ok (.nx σ) S) ((pv CV k ρ s1).bind _)
   refine ZD.bindE (ZP H k he1.xok he1.all w1) λdk vk S2 s2 x2 w2 r2=>?_
   have he2:=he1.ext x2;have a6:=x2.keep n _ (he.ne hw) a5;cases vk with
   |int m=>
    cases Rep.int' r2;show ZD X n0 base S2 W ((setix (.loc n) (.int m) d S2).bind _) ((po (ixN xs.length m) s2).bind _);cases q:ixN xs.length m with
    |none=>exact True.intro
    |some j=>
     have hm:setix (.loc n) (.int m) d S2=.ok () (S2.set n (.lst ((Yz xs).set j d))):=by
      show (match S2[n]? with
       |some (.lst xs)=>(ob (ixN xs.length m) S2).bind λj S=>R.ok () (S.set n (.lst (xs.set j d)))
       |_=>.no)=_
      rw[a6];show (ob (ixN (Yz xs).length m) S2).bind _=_;rw[YJ,q];rfl
     rw[hm];have:=ZD.mutd (ys:=xs.set j v) he2 w2 hw (Je a2 c2);rw[zZ] at this;rw[X3 c2 r1];exact this
   |_=>exact True.intro
  ·rw[Pi c2];exact True.intro
 ·rw[Pi c];exact True.intro
theorem uk (H:Z0 n0 C CV) (ms:List Nat) (i:Nat) (e:E) (he:Eu S X n0 base W ρ os σ) (w:Dw n0 S s):ZD X n0 base S W ((ev C e σ S).bind λx S=>(ob (assign [i] x S σ) S).bind λσ S=>.ok (.nx σ) S)
  ((pvA CV e ρ os s).bind λv s=>if (ms.contains i&&fresh e)=true then match v with
   |.lst xs=>if fq xs=true/\i<ρ.length then .ok (.nx (ρ.set i (some v)) (i::os.filter (· != i))) s else .no
   |_=>.no
  else .ok (.nx (ρ.set i (some v)) (os.filter (· != i))) s):=by
 have hA:=Zc6 H e he w;cases q:pvA CV e ρ os s with
 |no=>exact True.intro
 |ex c s1=>rw[q] at hA;obtain⟨S1,e1,x1,w1⟩:=hA;rw[e1];exact⟨S1,rfl,x1.s,w1⟩
 |ok v s1=>
  rw[q] at hA;obtain⟨d,S1,e1,x1,w1,r1⟩:=hA;rw[e1];show ZD X n0 base S W (.ok (.nx (σ.set i (some d))) S1) (if (ms.contains i&&fresh e)=true then _ else _)
  by_cases c:(ms.contains i&&fresh e)=true
  ·rw[Pg c]
   cases v with
   |lst xs=>
    show ZD X n0 base S W _ (if fq xs=true/\i<ρ.length then _ else _)
    by_cases c2:fq xs=true/\i<ρ.length
    ·rw[Pg c2]
     obtain⟨c2,hi⟩:=c2;have hf:=((Py _ _).mp c).2;have fl:∃n,d=.loc n/\S.length<=n:=by
      cases os with
      |nil=>
       have hh:Ew S (XW X W) n0 ρ σ:=⟨he.len,λi v q=>he.val i v q (he.noW i)⟩
       exact JA H hf he.xokW hh w q e1
      |cons o os=>
       have q':(match pv CV e (hide (o::os) ρ) s with
        |.ok v s=>.ok v s
        |.ex c s=>.ex c s
        |.no=>(pv CV e ρ s).bind λv s=>if v.flat then .ok v s else .no)=PR.ok (V.lst xs) s1:=q
       cases q3:pv CV e (hide (o::os) ρ) s with
       |ok v s2=>rw[q3] at q';cases q';exact JA H hf he.xokW he.hid w q3 e1
       |ex _ _=>rw[q3] at q';cases q'
       |no=>
        rw[q3] at q';obtain⟨v,s2,_,q5⟩:=Ya q';by_cases cf:v.flat=true
        ·rw[Pg cf] at q5;cases q5;cases cf
        ·rw[Pi cf] at q5;cases q5
     obtain⟨n,rfl,hn⟩:=fl;refine⟨_,S1,rfl,x1.s,w1,_,?_,he.take x1 hn c2 r1 hi⟩;intro j m z;by_cases cj:j=i
     ·simp only[cj,NS] at z;cases z;exact .inr hn
     ·simp only[cj,Nz] at z;exact .inl ⟨j,z⟩
    ·rw[Pi c2];exact True.intro
   |_=>exact True.intro
  ·rw[Pi c]
   refine⟨_,S1,rfl,x1.s,w1,_,?_,(he.ext x1).drop r1⟩;intro j m z;by_cases cj:j=i
   ·simp only[cj,NS] at z;cases z
   ·simp only[cj,Nz] at z;exact .inl ⟨j,z⟩
end
section
variable {n0:Nat}{C:Calls}{CV:Zt}{X:Nat->Prop}{base:Nat}
theorem yN {wk:Walk}{S0:Store}{W0:Own}{body:D->Lc->Store->R Fl}{bodyV:V->Env->List Nat->DS->PR FlV}
  (hk:∀p∈wk.kept,S0[p.1]? = some (.lst p.2)/\¬XW X W0 p.1) (z0:X n0)
  (hb:∀x d S W ρ os σ s,Eu S X n0 base W ρ os σ->Dw n0 S s->Rep S X n0 x d->ZD X n0 base S W (body d σ S) (bodyV x ρ os s)) :
  ∀(vs:List V) (ds:List D) (S:Store) (W:Own) (ρ:Env) (os:List Nat) (σ:Lc) (s:DS),Rq S0 (XW X W0) n0 vs ds->ExtS n0 W0 S0 S->WExt S0 W0 W->Eu S X n0 base W ρ os σ->Dw n0 S s->ZD X n0 base S W (Vf wk body ds σ S) (V9 bodyV vs ρ os s)
 |[],ds,S,W,ρ,os,σ,s,rs,x,wx,he,w=>by
  rw[rs.nil',Vf,V9,Pg (W7 λp hp=>x.keep _ _ (λz=>(hk p hp).2 (.inl (z▸z0))) (λi z=>(hk p hp).2 (.inr ⟨i,z⟩)) (hk p hp).1)]
  exact ZD.nx w WExt.refl he
 |v::vs,ds,S,W,ρ,os,σ,s,rs,x,wx,he,w=>by
  obtain⟨d,ds,rfl,r1,r2⟩:=rs.cons';rw[Vf,V9,Pg (W7 λp hp=>x.keep _ _ (λz=>(hk p hp).2 (.inl (z▸z0))) (λi z=>(hk p hp).2 (.inr ⟨i,z⟩)) (hk p hp).1)]
  have r1':Rep S X n0 v d:=r1.mono (λn o nx hs=>x.keep n o (λz=>nx (.inl (z▸z0))) (λi z=>nx (.inr ⟨i,z⟩)) hs) λn _ z=>.inl z
  have h1:=hb v d S W ρ os σ s he w r1';cases q:bodyV v ρ os s with
  |no=>exact True.intro
  |ex c s1=>rw[q] at h1;obtain⟨S1,e,x1,w1⟩:=h1;rw[e];exact⟨S1,rfl,x1,w1⟩
  |ok f s1=>
   rw[q] at h1;obtain⟨g,S1,e,x1,w1,fr⟩:=h1;rw[e];cases f with
   |nx ρ1 os1=>cases g with
    |nx σ1=>
     obtain⟨W1,wx1,he1⟩:=fr;exact ZD.from x1 wx1 (yN hk z0 hb vs ds S1 W1 ρ1 os1 σ1 s1 r2 (x.trans wx x1) (wx.trans x.len wx1) he1 w1)
    |_=>exact fr.elim
   |cnt ρ1 os1=>cases g with
    |cnt σ1=>
     obtain⟨W1,wx1,he1⟩:=fr;exact ZD.from x1 wx1 (yN hk z0 hb vs ds S1 W1 ρ1 os1 σ1 s1 r2 (x.trans wx x1) (wx.trans x.len wx1) he1 w1)
    |_=>exact fr.elim
   |brk ρ1 os1=>cases g with
    |brk σ1=>exact⟨_,S1,rfl,x1,w1,fr⟩
    |_=>exact fr.elim
   |ret v1=>cases g with
    |ret d1=>exact⟨_,S1,rfl,x1,w1,fr⟩
    |_=>exact fr.elim
theorem Qg {test:Lc->Store->R Bool}{testV:Env->DS->PR Bool}{body:Lc->Store->R Fl}{bodyV:Env->List Nat->DS->PR FlV}
  (ht:∀S W ρ os σ s,Eu S X n0 base W ρ os σ->Dw n0 S s->Sim n0 S RlE (test σ S) (testV ρ s))
  (hb:∀S W ρ os σ s,Eu S X n0 base W ρ os σ->Dw n0 S s->ZD X n0 base S W (body σ S) (bodyV ρ os s)) :
  ∀(n:Nat) (S:Store) (W:Own) (ρ:Env) (os:List Nat) (σ:Lc) (s:DS),Eu S X n0 base W ρ os σ->Dw n0 S s->ZD X n0 base S W (YW test body n σ S) (Xk testV bodyV n ρ os s)
 |0,S,W,ρ,os,σ,s,he,w=>by rw[Xk];exact True.intro
 |n+1,S,W,ρ,os,σ,s,he,w=>by
  rw[YW,Xk];refine ZD.bindE (ht S W ρ os σ s he w) λb' b S1 s1 x1 w1 r1=>?_
  have r1:b'=b:=r1;subst r1;have he1:=he.ext x1;cases b' with
  |false=>exact ZD.nx w1 WExt.refl he1
  |true=>
   have h1:=hb S1 W ρ os σ s1 he1 w1;show ZD X n0 base S1 W (match body σ S1 with
    |.ok (.nx σ') S'=>YW test body n σ' S'
    |.ok (.cnt σ') S'=>YW test body n σ' S'
    |.ok (.brk σ') S'=>.ok (.nx σ') S'
    |.ok (.ret d) S'=>.ok (.ret d) S'
    |.ex c S'=>.ex c S'
    |.no=>.no) ((bodyV ρ os s1).bind _)
   cases q:bodyV ρ os s1 with
   |no=>exact True.intro
   |ex c s2=>rw[q] at h1;obtain⟨S2,e,x2,w2⟩:=h1;rw[e];exact⟨S2,rfl,x2,w2⟩
   |ok f s2=>
    rw[q] at h1;obtain⟨g,S2,e,x2,w2,fr⟩:=h1;rw[e];cases f with
    |nx ρ1 os1=>cases g with
     |nx σ1=>obtain⟨W1,wx1,he2⟩:=fr;exact ZD.from x2 wx1 (Qg ht hb n S2 W1 ρ1 os1 σ1 s2 he2 w2)
     |_=>exact fr.elim
    |cnt ρ1 os1=>cases g with
     |cnt σ1=>obtain⟨W1,wx1,he2⟩:=fr;exact ZD.from x2 wx1 (Qg ht hb n S2 W1 ρ1 os1 σ1 s2 he2 w2)
     |_=>exact fr.elim
    |brk ρ1 os1=>cases g with
     |brk σ1=>exact⟨_,S2,rfl,x2,w2,fr⟩
     |_=>exact fr.elim
    |ret v1=>cases g with
     |ret d1=>exact⟨_,S2,rfl,x2,w2,fr⟩
     |_=>exact fr.elim
mutual
theorem Zdd (H:Z0 n0 C CV) (ms:List Nat):∀(m:Sm) {W:Own}{ρ:Env}{os:List Nat}{σ:Lc}{S:Store}{s:DS},Eu S X n0 base W ρ os σ->Dw n0 S s->ZD X n0 base S W (run C m σ S) (rv CV ms m ρ os s)
 |.asg t e,W,ρ,os,σ,S,s,he,w=>by
  rw[run];have gen:∀t:List Nat,ZD X n0 base S W ((ev C e σ S).bind λx S=>(ob (assign t x S σ) S).bind λσ S=>.ok (.nx σ) S) ((pvA CV e ρ os s).bind λv s=>if (t.any os.contains)=true then .no else (po (Zu t v ρ) s).bind λρ s=>.ok (.nx ρ os) s):=by
   intro t;refine ZD.bindE (Zc6 H e he w) λd v S1 s1 x1 w1 r1=>?_
   by_cases c:(t.any os.contains)=true
   ·rw[Pg c];exact True.intro
   ·rw[Pi c]
    cases q:Zu t v ρ with
    |none=>exact True.intro
    |some ρ1=>
     obtain⟨σ1,e1,he1⟩:=(he.ext x1).assign (by simpa using c) r1 q
     rw[e1];exact ZD.nx w1 WExt.refl he1
  match t with
  |[i]=>exact uk H ms i e he w
  |[]=>exact gen []
  |i::j::t=>exact gen (i::j::t)
 |.par t es,W,ρ,os,σ,S,s,he,w=>by
  rw[run,rv];refine ZD.bindE (ZcR H es he w) λds vs S1 s1 x1 w1 r1=>?_
  by_cases c:(t.any os.contains)=true
  ·rw[Pg c];exact True.intro
  ·rw[Pi c]
   cases q:YO t vs ρ with
   |none=>exact True.intro
   |some ρ1=>
    obtain⟨σ1,e1,he1⟩:=(he.ext x1).fill (by simpa using c) r1 q
    rw[e1];exact ZD.nx w1 WExt.refl he1
 |.aug i op e,W,ρ,os,σ,S,s,he,w=>by
  rw[run,rv];by_cases c:os.contains i=true
  ·rw[Pg c];exact True.intro
  ·rw[Pi c]
   cases q:(ρ[i]?).join with
   |none=>exact True.intro
   |some x=>
    have q':ρ[i]? = some (some x):=by
     cases q2:ρ[i]? with
     |none=>rw[q2] at q;cases q
     |some o=>rw[q2] at q;have q:o=some x:=q;rw[q]
    obtain⟨d,e1,r1⟩:=he.all.val i x q';rw[e1];show ZD X n0 base S W ((ev C e σ S).bind λy S=>(augop op d y S).bind λz S=>.ok (.nx (σ.set i (some z))) S) ((pv CV e ρ s).bind λy s=>(ve op x y s).bind λz s=>.ok (.nx (ρ.set i (some z)) os) s)
    refine ZD.bindE (ZP H e he.xok he.all w) λdy y S1 s1 x1 w1 r2=>?_
    have he1:=he.ext x1;have hs:=ZaF (op:=op) he1.xok w1 (r1.ext he.xok x1) r2;cases q3:ve op x y s1 with
    |no=>exact True.intro
    |ex c s2=>rw[q3] at hs;obtain⟨S2,e2,x2,w2⟩:=hs;rw[e2];exact⟨S2,rfl,x2.s,w2⟩
    |ok z s2=>
     rw[q3] at hs;obtain⟨dz,S2,e2,x2,w2,r3⟩:=hs;obtain⟨k,rfl⟩:=ZaM q3;cases Rep.int' r3;rw[e2];exact ZD.from x2.s WExt.refl (ZD.nx w2 WExt.refl ((he1.ext x2).set (by simpa using c) (Zp k)))
 |.put o k e,W,ρ,os,σ,S,s,he,w=>by
  rw[run];cases o with
  |v i=>exact j5 H i k e he w
  |_=>exact True.intro
 |.dput _ _ _,W,ρ,os,σ,S,s,he,w=>by rw[rv];exact True.intro
 |.ret e,W,ρ,os,σ,S,s,he,w=>by
  rw[run,rv];exact ZD.bindE (ZP H e he.xok he.all w) λd v S1 s1 x1 w1 r1=>⟨_,S1,rfl,Ext.refl.s,w1,r1⟩
 |.ex e,W,ρ,os,σ,S,s,he,w=>by
  rw[run];cases e with
  |mt m o as=>
   have no:∀{q:PR FlV},q=(pv CV (.mt m o as) ρ s).bind (λ_ s=>.ok (.nx ρ os) s)->ZD X n0 base S W ((ev C (.mt m o as) σ S).bind λ_ S=>.ok (.nx σ) S) q:=λ{q} h=>by rw[h];exact Zbg H _ he w
   cases m with
   |append=>cases o with
    |v i=>match as with
     |[e]=>exact yH H i e he w
     |[]=>exact no rfl
     |_::_::_=>exact no rfl
    |_=>exact no rfl
   |extend=>cases o with
    |v i=>match as with
     |[e]=>exact xu H i e he w
     |[]=>exact no rfl
     |_::_::_=>exact no rfl
    |_=>exact no rfl
   |index=>exact no rfl
  |_=>exact Zbg H _ he w
 |.ite t a b,W,ρ,os,σ,S,s,he,w=>by
  rw[run,rv];refine ZD.bindE (uz H t he w) λc' c S1 s1 x1 w1 r1=>?_
  have r1:c'=c:=r1;subst r1;cases c' with
  |true=>exact Qz H ms a (he.ext x1) w1
  |false=>exact Qz H ms b (he.ext x1) w1
 |.forr t it b,W,ρ,os,σ,S,s,he,w=>by
  rw[run,rv];refine ZD.bindE (vw H it he.xokW he.hid w) λwk vs S1 s1 x1 w1 r1=>?_
  have he1:=he.ext x1;refine yN (W0:=W) (S0:=S1) (λp hp=>r1.2 p hp) he.xz (λx d S W ρ os σ s he w r=>?_) vs wk.items S1 W ρ os σ s1 r1.1 Ext.refl.s WExt.refl he1 w1
  by_cases c:(t.any os.contains)=true
  ·rw[Pg c];exact True.intro
  ·rw[Pi c]
   by_cases c2:(os.isEmpty||x.flat)=true
   ·rw[Pg c2]
    have r':Rep S (XW X W) n0 x d:=by
     rcases (Nv _ _).mp c2 with c3 | c3
     ·have:os=[]:=by simpa using c3
      subst this;exact r.mono (λ_ _ _ z=>z) λn _ z=>z.elim id λ⟨i,z⟩=>by rw[he.noW i] at z;cases z
     ·rw[X3 c3 r];exact UN c3
    cases q:Zu t x ρ with
    |none=>exact True.intro
    |some ρ1=>
     obtain⟨σ1,e1,he2⟩:=he.assign (by simpa using c) r' q
     rw[e1];exact Qz H ms b he2 w
   ·rw[Pi c2];exact True.intro
 |.whl t b,W,ρ,os,σ,S,s,he,w=>by
  rw[run,rv];exact Qg (λS W ρ os σ s he w=>uz H t he w) (λS W ρ os σ s he w=>Qz H ms b he w) Ve S W ρ os σ s he w
 |.raise c as,W,ρ,os,σ,S,s,he,w=>by
  rw[run,rv];exact ZD.bindE (X1 H as he.xok he.all w) λd v S1 s1 x1 w1 r1=>⟨S1,rfl,Ext.refl.s,w1⟩
 |.pas,W,ρ,os,σ,S,s,he,w=>by rw[run,rv];exact ZD.nx w WExt.refl he
 |.brk,W,ρ,os,σ,S,s,he,w=>by rw[run,rv];exact⟨_,S,rfl,Ext.refl.s,w,W,WExt.refl,he⟩
 |.cnt,W,ρ,os,σ,S,s,he,w=>by rw[run,rv];exact⟨_,S,rfl,Ext.refl.s,w,W,WExt.refl,he⟩
theorem Qz (H:Z0 n0 C CV) (ms:List Nat):∀(l:List Sm) {W:Own}{ρ:Env}{os:List Nat}{σ:Lc}{S:Store}{s:DS},Eu S X n0 base W ρ os σ->Dw n0 S s->ZD X n0 base S W (runs C l σ S) (rvs CV ms l ρ os s)
 |[],W,ρ,os,σ,S,s,he,w=>by rw[runs,rvs];exact ZD.nx w WExt.refl he
 |m::l,W,ρ,os,σ,S,s,he,w=>by
  rw[runs,rvs];have h1:=Zdd H ms m he w;cases q:rv CV ms m ρ os s with
  |no=>exact True.intro
  |ex c s1=>rw[q] at h1;obtain⟨S1,e,x1,w1⟩:=h1;rw[e];exact⟨S1,rfl,x1,w1⟩
  |ok f s1=>
   rw[q] at h1;obtain⟨g,S1,e,x1,w1,fr⟩:=h1;rw[e];cases f with
   |nx ρ1 os1=>cases g with
    |nx σ1=>obtain⟨W1,wx1,he1⟩:=fr;exact ZD.from x1 wx1 (Qz H ms l he1 w1)
    |_=>exact fr.elim
   |cnt ρ1 os1=>cases g with
    |cnt σ1=>exact⟨_,S1,rfl,x1,w1,fr⟩
    |_=>exact fr.elim
   |brk ρ1 os1=>cases g with
    |brk σ1=>exact⟨_,S1,rfl,x1,w1,fr⟩
    |_=>exact fr.elim
   |ret v1=>cases g with
    |ret d1=>exact⟨_,S1,rfl,x1,w1,fr⟩
    |_=>exact fr.elim
end
end
noncomputable def takeFn:Fn:=⟨2,4,
 [.ite (.ix (.v 0) (.c (.int 1))) [.asg [2] (.bin .mod (.ix (.v 0) (.c (.int 0))) (.v 1)),
  .put (.v 0) (.c (.int 0)) (.bin .fdiv (.ix (.v 0) (.c (.int 0))) (.v 1)),
  .ret (.v 2)] [],
  .put (.v 0) (.c (.int 0)) (.bin .mod (.bin .add (.bin .mul (.ix (.v 0) (.c (.int 0))) (.c (.int 48271))) (.c (.int 29))) (.c (.int 2147483647))),
  .asg [3] (.bin .mod (.bin .add (.bin .add (.bin .mul (.ix (.v 0) (.c (.int 0))) (.ix (.v 0) (.c (.int 0)))) (.bin .mul (.c (.int 39373)) (.ix (.v 0) (.c (.int 0))))) (.c (.int 7))) (.c (.int 2147483629))),
  .asg [3] (.bin .mod (.bin .add (.bin .mul (.v 3) (.v 3)) (.bin .mul (.c (.int 16807)) (.v 3))) (.c (.int 2147483587))),
  .ret (.bin .mod (.bin .fdiv (.v 3) (.c (.int 8))) (.v 1))]⟩
theorem Wk {a:Int}(h0:0<=a) (h:a<4294967296):fits a=true:=by
 unfold fits;refine PC ?_;have h1:a.natAbs<2^32:=by omega
 exact PL h1 (Nn (by decide) (by decide))
theorem evT:(∀a b S,binop .add (.int a) (.int b) S=.ok (.int (a+b)) S)/\(∀a b S,binop .mul (.int a) (.int b) S=if (fits a&&fits b)=true then .ok (.int (a*b)) S else .no)/\(∀a b S,binop .fdiv (.int a) (.int b) S=if 0<b/\b<1073741824 then .ok (.int (a / b)) S else .no)/\(∀a b S,binop .mod (.int a) (.int b) S=if 0<b then .ok (.int (a%b)) S else .no)/\(∀S b,truth S (.bl b)=some b)/\(∀i x S σ,assign [i] x S σ=some (σ.set i (some x))):=
 ⟨λ_ _ _=>rfl,λ_ _ _=>rfl,λ_ _ _=>rfl,λ_ _ _=>rfl,λ_ _=>rfl,λ_ _ _ _=>rfl⟩
theorem Um {S:Store}{n:Nat}{i:Int}{xs:List D}(h:S[n]? = some (.lst xs)):getix (.loc n) (.int i) S=ob (at' xs i) S:=by
 have e:Z9 S n=some xs:=by unfold Z9;rw[h]
 show (match Z9 S n with | some xs=>ob (at' xs i) S | none=>.no)=_
 rw[e]
theorem wJ {S:Store}{n:Nat}{i:Int}{v:D}{xs:List D}(h:S[n]? = some (.lst xs)):setix (.loc n) (.int i) v S=(ob (ixN xs.length i) S).bind λj S=>.ok () (S.set n (.lst (xs.set j v))):=by
 show (match S[n]? with | some (.lst xs)=>(ob (ixN xs.length i) S).bind λj S=>.ok () (S.set n (.lst (xs.set j v))) | _=>.no)=_
 rw[h]
theorem take_ok {F:List Fn}{tk d:Nat}{n0:Nat}{S:Store}{s:DS}{m:Int}(hF:F[tk]? = some takeFn) (h:Dw n0 S s) (m0:0<m) (m1:m<1073741824) :
  ∃S',calls F (d+1) tk [.loc n0,.int m] S=.ok (.int (takeF s m).1) S'/\Ext n0 S S'/\Dw n0 S' (takeF s m).2:=by
 obtain⟨a,b⟩:=s;obtain⟨hs,ha,hb⟩:=h;simp only at hs ha hb;have hn:=Y5 hs;have hx:∀o,Ext n0 S (S.set n0 o):=λo=>⟨by simp,λn o' z e=>by rw[PJ (Ne.symm z)];exact e⟩
 have hset:∀o,(S.set n0 o)[n0]? = some o:=λo=>Np hn
 rw[calls,hF];cases b with
 |true=>
  refine⟨S.set n0 (.lst [.int (a / m),.bl true]),?_,hx _,hset _,?_,by simp[takeF]⟩
  ·simp[takeFn,takeF,Ev.runs,Ev.run,Ev.ev.eq_1,Ev.ev.eq_2,Ev.ev.eq_7,Ev.ev.eq_15,Ev.tst,Ev.R.bind,Ev.ob,evT,Ev.start,Um hs,wJ hs,Um (hset _),hs,at',ixN,m0,m1]
  ·simp only[takeF,NS]
   exact Int.ediv_nonneg ha (by omega)
 |false=>
  have hb:=hb rfl;have h1:=Wk ha (by omega)
  have x0:0<=(a*48271+29)%2147483647:=by omega
  have x1:(a*48271+29)%2147483647<2147483647:=by omega
  generalize hxx:(a*48271+29)%2147483647=x at x0 x1;have y0:0<=(x*x+39373*x+7)%2147483629:=by omega
  have y1:(x*x+39373*x+7)%2147483629<2147483629:=by omega
  generalize hyy:(x*x+39373*x+7)%2147483629=y at y0 y1;refine⟨S.set n0 (.lst [.int x,.bl false]),?_,hx _,by simp only[takeF,Nb,Nz,hxx];exact hset _,by simp only[takeF,Nb,Nz,hxx];exact x0,by simp only[takeF,Nb,Nz,hxx];exact λ_=>x1⟩
  have f1:=Wk x0 (by omega)
  have f2:=Wk y0 (by omega)
  have f3:fits 48271=true:=Wk (by omega) (by omega)
  have f4:fits 39373=true:=Wk (by omega) (by omega)
  have f5:fits 16807=true:=Wk (by omega) (by omega)
  clear hn;simp[takeFn,takeF,Ev.runs,Ev.run,Ev.ev.eq_1,Ev.ev.eq_2,Ev.ev.eq_7,Ev.ev.eq_15,Ev.tst,Ev.R.bind,Ev.ob,evT,Ev.start,Um hs,wJ hs,Um (hset _),hs,at',ixN,m0,m1,h1,hxx,hyy,f1,f2,f3,f4,f5,hset]
theorem qm {S:Store}{X:Nat->Prop}{n0:Nat}{vs:List V}{ds:List D}(n:Nat) (xo:Xok X n0 S) (rs:Rq S X n0 vs ds):Eu S X n0 S.length (λ_=>none) (XH n vs) [] (start n ds):=by
 refine⟨xo.z,xo.lt,Pp _,by unfold XH start;simp[rs.length],λi=>rfl,λi j n h=>(by cases h),λi n h=>(by cases h),λi n h=>(by cases h),λi v e _=>?_⟩
 unfold XH at e;unfold start;by_cases c:i<vs.length
 ·rw[PB (by simpa using c),PH] at e
  rw[PB (by simpa [rs.length] using c),PH]
  cases q:vs[i]? with
  |none=>rw[q] at e;cases e
  |some u=>
   rw[q] at e;have e:some u=some v:=Pb e;cases e;obtain⟨d,a,b⟩:=rs.get q;rw[a];exact⟨d,rfl,b.mono (λ_ _ _ z=>z) λn _ z=>z.elim id λ⟨_,z⟩=>by cases z⟩
 ·rw[PU (by simpa using Kt c),Nj] at e
  split at e <;> cases e
theorem GV {F:List Fn}{tk n0:Nat}(hF:F[tk]? = some takeFn):∀d,Z0 n0 (calls F d) (ZU F tk d)
 |0,f,vs,ds,S,s,X,xo,w,rs=>by rw[ZU];exact True.intro
 |d+1,f,vs,ds,S,s,X,xo,w,rs=>by
  rw[ZU];by_cases c:f=tk
  ·rw[Pg c]
   subst c
   match vs,rs with
   |[.drw,.int m],rs=>
    show Sim n0 S (RlV X n0) _ (if 0<m/\m<1073741824 then .ok (.int (takeF s m).1) (takeF s m).2 else .no)
    by_cases c2:0<m/\m<1073741824
    ·rw[Pg c2]
     obtain⟨d1,es,rfl,r1,r2⟩:=rs.cons';obtain⟨d2,es2,rfl,r3,r4⟩:=r2.cons';cases r4.nil';cases r1.drw';cases r3.int';obtain⟨S',e,x,w'⟩:=take_ok (d:=d) hF w c2.1 c2.2;exact⟨_,S',e,x,w',Zp _⟩
    ·rw[Pi c2];exact True.intro
   |[],_=>exact True.intro
   |[_],_=>unfold takeV;split <;> first | exact True.intro | (rename_i h;cases h)
   |a::b::c::l,_=>unfold takeV;split <;> first | exact True.intro | (rename_i h;cases h)
   |[.non,_],_ | [.bl _,_],_ | [.int _,_],_ | [.str _,_],_ | [.tup _,_],_ | [.lst _,_],_=>exact True.intro
   |[.drw,.non],_ | [.drw,.bl _],_ | [.drw,.str _],_ | [.drw,.tup _],_ | [.drw,.lst _],_ | [.drw,.drw],_=>exact True.intro
  ·rw[Pi c,calls]
   cases q:F[f]? with
   |none=>exact True.intro
   |some fn=>
    show Sim n0 S (RlV X n0) (if ds.length=fn.ps then _ else .no) (if vs.length=fn.ps then _ else .no)
    rw[rs.length];refine Sim.guard λ_=>?_
    have h1:=Qz (GV (n0:=n0) hF d) (muts fn.body) fn.body (qm fn.ns xo rs) w;have ex:∀{S':Store},ExtS n0 (λ_=>none) S S'->Ext n0 S S':=λ{S'} x=>⟨x.len,λn o a b=>x.keep n o a (λi z=>by cases z) b⟩
    cases q2:rvs (ZU F tk d) (muts fn.body) fn.body (XH fn.ns vs) [] s with
    |no=>exact True.intro
    |ex c s1=>rw[q2] at h1;obtain⟨S1,e,x1,w1⟩:=h1;rw[e];exact⟨S1,rfl,ex x1,w1⟩
    |ok g s1=>
     rw[q2] at h1;obtain⟨g',S1,e,x1,w1,fr⟩:=h1;rw[e];cases g with
     |nx ρ1 os1=>cases g' with
      |nx σ1=>exact⟨.non,S1,rfl,ex x1,w1,Ww⟩
      |_=>exact fr.elim
     |ret v1=>cases g' with
      |ret d1=>exact⟨d1,S1,rfl,ex x1,w1,fr⟩
      |_=>exact fr.elim
     |brk _ _=>exact True.intro
     |cnt _ _=>exact True.intro
end Pv
namespace La
variable {F:Type}[Lean.Grind.CommRing F]
noncomputable abbrev Vec (F:Type):=Nat->F
noncomputable abbrev Pt (F:Type):=List (Nat×Vec F)
noncomputable def pr:Pt F->Vec F->Vec F
 |[],_,_=>0
 |a::P,v,j=>v a.1*a.2 j+pr P v j
structure Rf (P:Pt F):Prop where
 inc:P.Pairwise λa b=>a.1<b.1
 low:∀a∈P,∀j,j<a.1->a.2 j=0
 one:∀a∈P,a.2 a.1=1
 zer:∀a∈P,∀b∈P,a.1≠b.1->b.2 a.1=0
def Mem (P:Pt F) (v:Vec F):Prop:=∀j,v j=pr P v j
theorem ZbV (P:Pt F) (u v:Vec F) (c:F) (j:Nat):pr P (λj=>u j+c*v j) j=pr P u j+c*pr P v j:=by
 induction P with
 |nil=>show (0:F)=0+c*0;grind
 |cons a P ih=>show (u a.1+c*v a.1)*a.2 j+pr P _ j=(u a.1*a.2 j+pr P u j)+c*(v a.1*a.2 j+pr P v j);grind
theorem GH (P:Pt F) (u v:Vec F) (c:F) (j:Nat):pr P (λj=>u j-c*v j) j=pr P u j-c*pr P v j:=by
 induction P with
 |nil=>show (0:F)=0-c*0;grind
 |cons a P ih=>show (u a.1-c*v a.1)*a.2 j+pr P _ j=(u a.1*a.2 j+pr P u j)-c*(v a.1*a.2 j+pr P v j);grind
theorem qJ {P:Pt F}{u v:Vec F}(h:∀b∈P,u b.1=v b.1) (j:Nat):pr P u j=pr P v j:=by
 induction P with
 |nil=>rfl
 |cons a P ih=>
  show u a.1*a.2 j+pr P u j=v a.1*a.2 j+pr P v j;rw[h a (Pe ..),ih λb hb=>h b (Pd _ hb)]
theorem XJ {P:Pt F}{v:Vec F}{j:Nat}(h:∀b∈P,v b.1*b.2 j=0):pr P v j=0:=by
 induction P with
 |nil=>rfl
 |cons a P ih=>
  show v a.1*a.2 j+pr P v j=0;rw[h a (Pe ..),ih λb hb=>h b (Pd _ hb)];grind
theorem wK {P:Pt F}{v:Vec F}{j:Nat}{a:Nat×Vec F}(inc:P.Pairwise λa b=>a.1<b.1) (ha:a∈P) (h:∀b∈P,b.1≠a.1->v b.1*b.2 j=0):pr P v j=v a.1*a.2 j:=by
 induction P with
 |nil=>cases ha
 |cons b P ih=>
  rw[PK] at inc;show v b.1*b.2 j+pr P v j=_;rcases Pk.mp ha with e | hm
  ·subst e
   rw[XJ λc hc=>h c (Pd _ hc) (by have:=inc.1 c hc;omega)];grind
  ·rw[ih inc.2 hm λc hc=>h c (Pd _ hc),h b (Pe ..) (by have:=inc.1 a hm;omega)];grind
theorem Rf.tail {a:Nat×Vec F}{P:Pt F}(h:Rf (a::P)):Rf P:=
 ⟨(PK.mp h.inc).2,λb hb=>h.low b (Pd _ hb),λb hb=>h.one b (Pd _ hb),λb hb c hc=>h.zer b (Pd _ hb) c (Pd _ hc)⟩
theorem Rf.nil:Rf ([]:Pt F):=⟨List.Pairwise.nil,λ_ h=>(by cases h),λ_ h=>(by cases h),λ_ h=>(by cases h)⟩
theorem JW {P:Pt F}(h:Rf P) {a:Nat×Vec F}(ha:a∈P) (v:Vec F):pr P v a.1=v a.1:=by
 rw[wK h.inc ha λb hb ne=>by rw[h.zer a ha b hb (Ne.symm ne)];grind,h.one a ha];grind
theorem Wt {P:Pt F}(h:Rf P) {a:Nat×Vec F}(ha:a∈P):Mem P a.2:=λj=>by
 rw[wK h.inc ha λb hb ne=>by rw[h.zer b hb a ha ne];grind,h.one a ha];grind
theorem XT {P:Pt F}{u v:Vec F}(c:F) (hu:Mem P u) (hv:Mem P v):Mem P λj=>u j+c*v j:=λj=>by
 show u j+c*v j=_;rw[ZbV,<-hu j,<-hv j]
theorem Vx {P:Pt F}{u v:Vec F}(c:F) (hu:Mem P u) (hv:Mem P v):Mem P λj=>u j-c*v j:=λj=>by
 show u j-c*v j=_;rw[GH,<-hu j,<-hv j]
theorem XZ {P:Pt F}:Mem P λ_=>0:=λj=>(XJ λb _=>by grind).symm
theorem yS {P:Pt F}(h:Rf P) (v:Vec F):Mem P (pr P v):=λj=>qJ (λb hb=>(JW h hb v).symm) j
theorem jS {v:Vec F}:Mem ([]:Pt F) v↔∀j,v j=0:=Iff.rfl
theorem zz {P:Pt F}{v:Vec F}(h:Mem P v) (z:∀b∈P,v b.1=0) (j:Nat):v j=0:=by
 rw[h j];exact XJ λb hb=>by rw[z b hb];grind
theorem ua {P:Pt F}(h:Rf P) {v:Vec F}(hv:Mem P v) {k:Nat}(hk:v k≠0) (hl:∀j,j<k->v j=0):∃a∈P,a.1=k:=by
 have inc:=h.inc;have low:=h.low;have gen:∀Q:Pt F,Q.Pairwise (λa b=>a.1<b.1)->(∀a∈Q,∀j,j<a.1->a.2 j=0)->(∀j,v j=pr Q v j)->∃a∈Q,v a.1≠0/\∀j,j<a.1->v j=0:=by
  intro Q
  induction Q with
  |nil=>intro _ _ e;exact absurd (e k) hk
  |cons a Q ih=>
   intro inc low e;rw[PK] at inc;by_cases c:v a.1=0
   ·obtain⟨b,hb,r⟩:=ih inc.2 (λb hb=>low b (Pd _ hb)) λj=>by
     have:v j=v a.1*a.2 j+pr Q v j:=e j;rw[c] at this;grind
    exact⟨b,Pd _ hb,r⟩
   ·refine⟨a,Pe ..,c,λj hj=>?_⟩
    have e1:v j=v a.1*a.2 j+pr Q v j:=e j;have e2:pr Q v j=0:=XJ λb hb=>by rw[low b (Pd _ hb) j (by have:=inc.1 b hb;omega)];grind
    rw[e1,e2,low a (Pe ..) j hj];grind
 obtain⟨a,ha,h1,h2⟩:=gen P inc low hv;refine⟨a,ha,?_⟩;by_cases c:a.1<k
 ·exact absurd (hl _ c) h1
 ·by_cases c2:k<a.1
  ·exact absurd (h2 _ c2) hk
  ·omega
theorem VV {P Q:Pt F}(one0:(1:F)≠0) (hP:Rf P) (hQ:Rf Q) (h:∀v,Mem P v->Mem Q v):∀a∈P,∃b∈Q,b.1=a.1:=λa ha=>
 ua hQ (h _ (Wt hP ha)) (by rw[hP.one a ha];exact one0) (hP.low a ha)
theorem yw:∀{a b:List Nat},a.Pairwise (· < ·)->b.Pairwise (· < ·)->(∀x,x∈a↔x∈b)->a=b
 |[],[],_,_,_=>rfl
 |[],y::b,_,_,h=>by have:=(h y).mpr (Pe ..);cases this
 |x::a,[],_,_,h=>by have:=(h x).mp (Pe ..);cases this
 |x::a,y::b,ha,hb,h=>by
  rw[PK] at ha hb;have e:x=y:=by
   rcases Pk.mp ((h x).mp (Pe ..)) with e | e
   ·exact e
   ·rcases Pk.mp ((h y).mpr (Pe ..)) with e' | e'
    ·exact e'.symm
    ·have:=hb.1 x e;have:=ha.1 y e';omega
  subst e;rw[yw ha.2 hb.2 λz=>?_]
  constructor
  ·intro hz
   rcases Pk.mp ((h z).mp (Pd _ hz)) with e | e
   ·have:=ha.1 z hz;omega
   ·exact e
  ·intro hz
   rcases Pk.mp ((h z).mpr (Pd _ hz)) with e | e
   ·have:=hb.1 z hz;omega
   ·exact e
theorem JM:∀{a b:List Nat},a.Pairwise (· < ·)->b.Pairwise (· < ·)->(∀x∈a,x∈b)->a.length<=b.length/\(a.length=b.length->a=b)
 |[],b,_,_,_=>⟨Ki _,λe=>(NF.mp e.symm).symm⟩
 |x::a,[],_,_,h=>by have:=h x (Pe ..);cases this
 |x::a,y::b,ha,hb,h=>by
  have ha':=ha;rw[PK] at ha hb;by_cases e:x=y
  ·subst e
   obtain⟨h1,h2⟩:=JM ha.2 hb.2 λz hz=>by
    rcases Pk.mp (h z (Pd _ hz)) with e | e
    ·have:=ha.1 z hz;omega
    ·exact e
   refine⟨by simp only[Px];omega,λe=>?_⟩
   rw[h2 (by simpa using e)]
  ·have hxb:x∈b:=by
    rcases Pk.mp (h x (Pe ..)) with e' | e'
    ·exact absurd e' e
    ·exact e'
   have:=hb.1 x hxb;obtain⟨h1,h2⟩:=JM ha' hb.2 λz hz=>by
    rcases Pk.mp (h z hz) with e' | e'
    ·rcases Pk.mp hz with e2 | e2
     ·omega
     ·have:=ha.1 z e2;omega
    ·exact e'
   simp only[Px] at h1 ⊢;exact⟨by omega,λe=>by omega⟩
theorem Rf.heads {P:Pt F}(h:Rf P):(P.map (·.1)).Pairwise (· < ·):=NI.mpr h.inc
theorem qz {P Q:Pt F}(one0:(1:F)≠0) (hP:Rf P) (hQ:Rf Q) (h:∀v,Mem P v->Mem Q v):P.length<=Q.length/\(P.length=Q.length->∀v,Mem Q v->Mem P v):=by
 obtain⟨h1,h2⟩:=JM hP.heads hQ.heads λx hx=>by
  obtain⟨a,ha,rfl⟩:=PD.mp hx;obtain⟨b,hb,e⟩:=VV one0 hP hQ h a ha;exact PD.mpr ⟨b,hb,e⟩
 rw[Pj,Pj] at h1 h2;refine⟨h1,λe v hv=>?_⟩
 have eh:=h2 e;have hd:Mem Q λj=>v j-1*pr P v j:=Vx 1 hv (h _ (yS hP v))
 have z:∀j,v j-1*pr P v j=0:=λj=>zz hd (λb hb=>by
  have:b.1∈P.map (·.1):=by rw[eh];exact PD.mpr ⟨b,hb,rfl⟩
  obtain⟨a,ha,ea⟩:=PD.mp this;show v b.1-1*pr P v b.1=0;rw[<-ea,JW hP ha v];grind) j
 intro j;have:=z j
 grind
theorem uniq {P Q:Pt F}(one0:(1:F)≠0) (hP:Rf P) (hQ:Rf Q) (h:∀v,Mem P v↔Mem Q v):P=Q:=by
 have eh:P.map (·.1)=Q.map (·.1):=yw hP.heads hQ.heads λx=>by
  constructor
  ·intro hx
   obtain⟨a,ha,rfl⟩:=PD.mp hx;obtain⟨b,hb,e⟩:=VV one0 hP hQ (λv=>(h v).mp) a ha
   exact PD.mpr ⟨b,hb,e⟩
  ·intro hx
   obtain⟨a,ha,rfl⟩:=PD.mp hx;obtain⟨b,hb,e⟩:=VV one0 hQ hP (λv=>(h v).mpr) a ha
   exact PD.mpr ⟨b,hb,e⟩
 have ev:∀a∈P,∀b∈Q,a.1=b.1->a.2=b.2:=by
  intro a ha b hb e;have hd:Mem P λj=>a.2 j-1*b.2 j:=Vx 1 (Wt hP ha) ((h _).mpr (Wt hQ hb))
  funext j
  have:=zz hd (λc hc=>by
   show a.2 c.1-1*b.2 c.1=0;have:c.1∈Q.map (·.1):=by rw[<-eh];exact PD.mpr ⟨c,hc,rfl⟩
   obtain⟨c',hc',ec⟩:=PD.mp this;by_cases z:c.1=a.1
   ·rw[z,hP.one a ha,e,hQ.one b hb];grind
   ·rw[hP.zer c hc a ha z,<-ec,hQ.zer c' hc' b hb (by omega)];grind) j
  grind
 clear h hP hQ
 induction P generalizing Q with
 |nil=>cases Q with
  |nil=>rfl
  |cons b Q=>cases eh
 |cons a P ih=>cases Q with
  |nil=>cases eh
  |cons b Q=>
   rw[PP,PP] at eh;injection eh with e1 e2
   have e3:=ev a (Pe ..) b (Pe ..) e1;rw[ih e2 λx hx y hy=>ev x (Pd _ hx) y (Pd _ hy)]
   rw[show a=b from Prod.ext e1 e3]
noncomputable def ins (x:Nat×Vec F):Pt F->Pt F
 |[]=>[x]
 |y::P=>if x.1<y.1 then x::y::P else y::ins x P
theorem YI (x:Nat×Vec F):∀P:Pt F,(ins x P).Perm (x::P)
 |[]=>NA _
 |y::P=>by
  unfold ins;split
  ·exact NA _
  ·exact ((YI x P).cons y).trans (List.Perm.swap x y P)
theorem xW (x:Nat×Vec F):∀{P:Pt F},P.Pairwise (λa b=>a.1<b.1)->(∀a∈P,a.1≠x.1)->(ins x P).Pairwise λa b=>a.1<b.1
 |[],_,_=>by unfold ins;exact Nk ..
 |y::P,h,hn=>by
  have h':=PK.mp h;unfold ins;split
  ·rename_i c
   refine PK.mpr ⟨λz hz=>?_,h⟩
   rcases Pk.mp hz with rfl | hz
   ·exact c
   ·have:=h'.1 z hz;omega
  ·rename_i c
   refine PK.mpr ⟨λz hz=>?_,xW x h'.2 λa ha=>hn a (Pd _ ha)⟩
   rcases Pk.mp ((YI x P).mem_iff.mp hz) with rfl | hz
   ·have:=hn y (Pe ..);omega
   ·exact h'.1 z hz
theorem qy (x:Nat×Vec F) (v:Vec F) (j:Nat):∀P:Pt F,pr (ins x P) v j=v x.1*x.2 j+pr P v j
 |[]=>rfl
 |y::P=>by
  unfold ins;split
  ·rfl
  ·show v y.1*y.2 j+pr (ins x P) v j=v x.1*x.2 j+(v y.1*y.2 j+pr P v j)
   rw[qy x v j P];grind
noncomputable def off (h:Nat) (l:Vec F) (a:Nat×Vec F):Nat×Vec F:=(a.1,λj=>a.2 j-a.2 h*l j)
noncomputable def wid (P:Pt F) (h:Nat) (l:Vec F):Pt F:=ins (h,l) (P.map (off h l))
theorem ql (h:Nat) (l v:Vec F) (j:Nat):∀P:Pt F,pr (P.map (off h l)) v j=pr P v j-pr P v h*l j
 |[]=>by show (0:F)=0-0*l j;grind
 |a::P=>by
  show v a.1*(a.2 j-a.2 h*l j)+pr (P.map (off h l)) v j=(v a.1*a.2 j+pr P v j)-(v a.1*a.2 h+pr P v h)*l j;rw[ql h l v j P];grind
structure Lead (P:Pt F) (h:Nat) (l:Vec F):Prop where
 one:l h=1
 low:∀j,j<h->l j=0
 zer:∀a∈P,l a.1=0
theorem Lead.ne {P:Pt F}{h:Nat}{l:Vec F}(one0:(1:F)≠0) (L:Lead P h l) {a:Nat×Vec F}(ha:a∈P):a.1≠h:=λe=>by
 have:=L.zer a ha;rw[e,L.one] at this;exact one0 this
theorem uK {P:Pt F}{h:Nat}{l:Vec F}(one0:(1:F)≠0) (hP:Rf P) (L:Lead P h l):Rf (wid P h l):=by
 have mem:∀{x},x∈wid P h l->x=(h,l)\/∃a∈P,x=off h l a:=λ{x} hx=>by
  rcases Pk.mp ((YI _ _).mem_iff.mp hx) with e | e
  ·exact .inl e
  ·obtain⟨a,ha,e⟩:=PD.mp e
   exact .inr ⟨a,ha,e.symm⟩
 refine⟨xW _ ?_ ?_,λx hx j hj=>?_,λx hx=>?_,λx hx y hy ne=>?_⟩
 ·exact NI.mpr hP.inc
 ·intro a ha
  obtain⟨b,hb,rfl⟩:=PD.mp ha;exact L.ne (a:=b) one0 hb
 ·rcases mem hx with rfl | ⟨a,ha,rfl⟩
  ·exact L.low j hj
  ·show a.2 j-a.2 h*l j=0
   rw[hP.low a ha j hj];by_cases c:h<a.1
   ·rw[hP.low a ha h c];grind
   ·have:j<a.1:=hj
    rw[L.low j (by have:=L.ne one0 ha;omega)];grind
 ·rcases mem hx with rfl | ⟨a,ha,rfl⟩
  ·exact L.one
  ·show a.2 a.1-a.2 h*l a.1=1
   rw[hP.one a ha,L.zer a ha];grind
 ·rcases mem hx with rfl | ⟨a,ha,rfl⟩
  ·rcases mem hy with rfl | ⟨b,hb,rfl⟩
   ·exact absurd rfl ne
   ·show b.2 h-b.2 h*l h=0
    rw[L.one];grind
  ·rcases mem hy with rfl | ⟨b,hb,rfl⟩
   ·exact L.zer a ha
   ·show b.2 a.1-b.2 h*l a.1=0
    rw[hP.zer a ha b hb ne,L.zer a ha];grind
theorem j7 (P:Pt F) (h:Nat) (l:Vec F):(wid P h l).length=P.length+1:=by
 have:=(YI (h,l) (P.map (off h l))).length_eq;rw[Px,Pj] at this;exact this
theorem Zau {P:Pt F}{h:Nat}{l:Vec F}(hP:Rf P) (L:Lead P h l) (u:Vec F):Mem (wid P h l) u↔∃c,Mem P λj=>u j-c*l j:=by
 have e:∀j,pr (wid P h l) u j=u h*l j+(pr P u j-pr P u h*l j):=λj=>by
  unfold wid;rw[qy,ql]
 have pl:∀j,pr P l j=0:=λj=>XJ λb hb=>by rw[L.zer b hb];grind
 constructor
 ·intro hu
  refine⟨u h-pr P u h,λj=>?_⟩
  rw[GH,pl];have:=hu j;rw[e j] at this;show u j-(u h-pr P u h)*l j=_
  grind
 ·rintro ⟨c,hc⟩ j
  rw[e j];have h1:u j-c*l j=_:=hc j;have h2:u h-c*l h=_:=hc h;rw[GH,pl] at h1 h2;rw[L.one] at h2
  grind
noncomputable def rest (P:Pt F) (v:Vec F):Vec F:=λj=>v j-pr P v j
theorem uo {P:Pt F}(hP:Rf P) (v:Vec F) {a:Nat×Vec F}(ha:a∈P):rest P v a.1=0:=by
 unfold rest;rw[JW hP ha];grind
theorem QB {P:Pt F}{v:Vec F}:(∀j,rest P v j=0)↔Mem P v:=by
 constructor
 ·intro h j;have:=h j;unfold rest at this;grind
 ·intro h j;have:=h j;unfold rest;grind
theorem wF {P:Pt F}(hP:Rf P) {v:Vec F}{h:Nat}{i:F}(hi:i*rest P v h=1) (hl:∀j,j<h->rest P v j=0):Lead P h λj=>i*rest P v j:=
 ⟨hi,λj hj=>by show i*rest P v j=0;rw[hl j hj];grind,λa ha=>by show i*rest P v a.1=0;rw[uo hP v ha];grind⟩
theorem jr {P:Pt F}(hP:Rf P) {v:Vec F}{h:Nat}{i:F}(hi:i*rest P v h=1) (hl:∀j,j<h->rest P v j=0) (u:Vec F) :
  Mem (wid P h λj=>i*rest P v j) u↔∃c,Mem P λj=>u j-c*v j:=by
 rw[Zau hP (wF hP hi hl)]
 constructor
 ·rintro ⟨c,hc⟩
  refine⟨c*i,?_⟩;have:=Vx (c*i) hc (yS hP v);have e:(λj=>(u j-c*(i*rest P v j))-c*i*pr P v j)=λj=>u j-c*i*v j:=by funext j;unfold rest;grind
  rw[e] at this;exact this
 ·rintro ⟨c,hc⟩
  refine⟨c*rest P v h,?_⟩;have:=XT c hc (yS hP v);have e:(λj=>(u j-c*v j)+c*pr P v j)=λj=>u j-c*rest P v h*(i*rest P v j):=by funext j;unfold rest at hi ⊢;grind
  rw[e] at this;exact this
theorem uU {P:Pt F}{v:Vec F}(hv:Mem P v) (u:Vec F):Mem P u↔∃c,Mem P λj=>u j-c*v j:=by
 constructor
 ·intro h;exact⟨0,by have:=Vx 0 h hv;exact this⟩
 ·rintro ⟨c,hc⟩
  have:=XT c hc hv;have e:(λj=>(u j-c*v j)+c*v j)=u:=by funext j;grind
  rw[e] at this;exact this
def UI (P:Pt F):List (Vec F)->Vec F->Prop
 |[],u=>Mem P u
 |v::vs,u=>∃c,UI P vs λj=>u j-c*v j
theorem VE {P P':Pt F}{v:Vec F}(h:∀u,Mem P' u↔∃c,Mem P λj=>u j-c*v j):∀(vs:List (Vec F)) (u:Vec F),UI P' vs u↔UI P (v::vs) u
 |[],u=>h u
 |w::vs,u=>by
  constructor
  ·rintro ⟨d,hd⟩
   obtain⟨c,hc⟩:=(VE h vs _).mp hd;refine⟨c,d,?_⟩;have e:(λj=>u j-c*v j-d*w j)=λj=>u j-d*w j-c*v j:=by funext j;grind
   show UI P vs λj=>u j-c*v j-d*w j
   rw[e];exact hc
  ·rintro ⟨c,d,hc⟩
   refine⟨d,(VE h vs _).mpr ⟨c,?_⟩⟩;have e:(λj=>u j-d*w j-c*v j)=λj=>u j-c*v j-d*w j:=by funext j;grind
   show UI P vs λj=>u j-d*w j-c*v j
   rw[e];exact hc
theorem vO {P Q:Pt F}(hQ:Rf Q) (u:Vec F):UI P (Q.map (·.2)) u↔∃q,Mem Q q/\Mem P λj=>u j-q j:=by
 constructor
 ·have gen:∀(ws:List (Vec F)) (u:Vec F),(∀w∈ws,Mem Q w)->UI P ws u->∃q,Mem Q q/\Mem P λj=>u j-q j:=by
   intro ws
   induction ws with
   |nil=>intro u _ h;exact⟨λ_=>0,XZ,by
    have e:(λj=>u j-0)=u:=by funext j;grind
    rw[e];exact h⟩
   |cons w ws ih=>
    rintro u hw ⟨c,h⟩
    obtain⟨q,hq,hp⟩:=ih _ (λx hx=>hw x (Pd _ hx)) h
    refine⟨λj=>q j+c*w j,XT c hq (hw w (Pe ..)),?_⟩
    have e:(λj=>u j-(q j+c*w j))=λj=>u j-c*w j-q j:=by funext j;grind
    rw[e];exact hp
  exact gen _ u λw hw=>by obtain⟨a,ha,rfl⟩:=PD.mp hw;exact Wt hQ ha
 ·rintro ⟨q,hq,hp⟩
  have gen:∀(R:Pt F) (u:Vec F),(Mem P λj=>u j-pr R q j)->UI P (R.map (·.2)) u:=by
   intro R
   induction R with
   |nil=>
    intro u h;have e:(λj=>u j-pr [] q j)=u:=by funext j;show u j-0=u j;grind
    rw[e] at h;exact h
   |cons a R ih=>
    intro u h;refine⟨q a.1,ih _ ?_⟩;have e:(λj=>u j-q a.1*a.2 j-pr R q j)=λj=>u j-pr (a::R) q j:=by funext j;show _=u j-(q a.1*a.2 j+pr R q j);grind
    show Mem P λj=>u j-q a.1*a.2 j-pr R q j
    rw[e];exact h
  refine gen Q u ?_;have e:(λj=>u j-pr Q q j)=λj=>u j-q j:=by funext j;rw[<-hq j]
  rw[e];exact hp
variable {F:Type}[Lean.Grind.CommRing F] [DecidableEq F]
def Supp (n:Nat) (v:Vec F):Prop:=∀j,n<=j->v j=0
structure Pn (n:Nat) (P:Pt F):Prop where
 rf:Rf P
 lt:∀a∈P,a.1<n
 sp:∀a∈P,Supp n a.2
theorem Pn.nil {n:Nat}:Pn n ([]:Pt F):=⟨Rf.nil,λ_ h=>(by cases h),λ_ h=>(by cases h)⟩
theorem xB {n:Nat}{P:Pt F}(h:Pn n P) (v:Vec F):Supp n (pr P v):=λj hj=>XJ λb hb=>by rw[h.sp b hb j hj];grind
theorem U4 {n:Nat}{P:Pt F}(h:Pn n P) {v:Vec F}(hv:Mem P v):Supp n v:=λj hj=>by rw[hv j];exact xB h v j hj
noncomputable def hdV (n:Nat) (v:Vec F):Option Nat:=(List.range n).find? λj=>decide (v j≠0)
theorem ul {n:Nat}{v:Vec F}(hs:Supp n v) (h:hdV n v=none) (j:Nat):v j=0:=by
 by_cases c:j<n
 ·have:=List.find?_eq_none.mp h j (PQ.mpr c)
  simpa using this
 ·exact hs j (by omega)
theorem zk {n:Nat}{v:Vec F}{k:Nat}(h:hdV n v=some k):k<n/\v k≠0/\∀j,j<k->v j=0:=by
 unfold hdV at h;rw[List.find?_range_eq_some] at h;obtain⟨h1,h2,h3⟩:=h;refine⟨PQ.mp h2,by simpa using h1,λj hj=>?_⟩
 have:=h3 j hj
 simpa using this
theorem yM {n:Nat}{v:Vec F}{k:Nat}(hk:k<n) (h1:v k≠0) (h2:∀j,j<k->v j=0):hdV n v=some k:=by
 unfold hdV;rw[List.find?_range_eq_some];exact⟨by simpa using h1,PQ.mpr hk,λj hj=>by simpa using h2 j hj⟩
structure Fld (inv:F->F):Prop where
 inv:∀a,a≠0->inv a*a=1
 one0:(1:F)≠0
section
variable {inv:F->F}{n:Nat}
noncomputable def more (inv:F->F) (n:Nat) (P:Pt F) (v:Vec F):Pt F:=match hdV n (rest P v) with
 |none=>P
 |some h=>wid P h λj=>inv (rest P v h)*rest P v j
structure Grow (n:Nat) (P:Pt F) (v:Vec F) (P':Pt F):Prop where
 pn:Pn n P'
 mem:∀u,Mem P' u↔∃c,Mem P λj=>u j-c*v j
 same:Mem P v->P'=P
 len:¬Mem P v->P'.length=P.length+1
theorem W6 (f:Fld inv) {P:Pt F}{v:Vec F}(hP:Pn n P) (hv:Supp n v):Grow n P v (more inv n P v):=by
 have hs:Supp n (rest P v):=λj hj=>by unfold rest;rw[hv j hj,xB hP v j hj];grind
 cases q:hdV n (rest P v) with
 |none=>
  have e:more inv n P v=P:=by unfold more;rw[q]
  have hm:Mem P v:=QB.mp (ul hs q);rw[e];exact⟨hP,uU hm,λ_=>rfl,λh=>absurd hm h⟩
 |some h=>
  have e:more inv n P v=wid P h λj=>inv (rest P v h)*rest P v j:=by unfold more;rw[q]
  obtain⟨h1,h2,h3⟩:=zk q;have hi:=f.inv _ h2;have L:=wF hP.rf hi h3;rw[e];refine⟨⟨uK f.one0 hP.rf L,λa ha=>?_,λa ha=>?_⟩,jr hP.rf hi h3,λhm=>absurd (QB.mpr hm h) h2,λ_=>j7 ..⟩
  ·rcases Pk.mp ((YI _ _).mem_iff.mp ha) with e | e
   ·rw[e];exact h1
   ·obtain⟨b,hb,rfl⟩:=PD.mp e
    exact hP.lt b hb
  ·rcases Pk.mp ((YI _ _).mem_iff.mp ha) with e | e
   ·rw[e];intro j hj
    show inv (rest P v h)*rest P v j=0;rw[hs j hj];grind
   ·obtain⟨b,hb,rfl⟩:=PD.mp e
    intro j hj;show b.2 j-b.2 h*(inv (rest P v h)*rest P v j)=0;rw[hP.sp b hb j hj,hs j hj];grind
noncomputable def WM (inv:F->F) (n:Nat) (P:Pt F) (vs:List (Vec F)):Pt F:=vs.foldl (more inv n) P
theorem Wb (f:Fld inv):∀(vs:List (Vec F)) {P:Pt F},Pn n P->(∀v∈vs,Supp n v)->Pn n (WM inv n P vs)/\∀u,Mem (WM inv n P vs) u↔UI P vs u
 |[],P,hP,_=>⟨hP,λu=>Iff.rfl⟩
 |v::vs,P,hP,hv=>by
  have g:=W6 f hP (hv v (Pe ..));obtain⟨a,b⟩:=Wb f vs g.pn λw hw=>hv w (Pd _ hw)
  exact⟨a,λu=>(b u).trans (VE g.mem vs u)⟩
noncomputable def join (inv:F->F) (n:Nat) (P Q:Pt F):Pt F:=WM inv n P (Q.map (·.2))
theorem xL (f:Fld inv) {P Q:Pt F}(hP:Pn n P) (hQ:Pn n Q):Pn n (join inv n P Q):=(Wb f _ hP λv hv=>by obtain⟨a,ha,rfl⟩:=PD.mp hv;exact hQ.sp a ha).1
theorem Vu (f:Fld inv) {P Q:Pt F}(hP:Pn n P) (hQ:Pn n Q) (u:Vec F):Mem (join inv n P Q) u↔∃q,Mem Q q/\Mem P λj=>u j-q j:=
 ((Wb f _ hP λv hv=>by obtain⟨a,ha,rfl⟩:=PD.mp hv;exact hQ.sp a ha).2 u).trans (vO hQ.rf u)
theorem qw (f:Fld inv) {P Q:Pt F}(hP:Pn n P) (hQ:Pn n Q) (h:∀v,Mem P v↔Mem Q v):P=Q:=uniq f.one0 hP.rf hQ.rf h
theorem sub_self (u:Vec F):(λj=>u j-u j)=λ_=>0:=by funext j;grind
theorem Q3 (f:Fld inv) {P Q:Pt F}(hP:Pn n P) (hQ:Pn n Q) {u:Vec F}(h:Mem P u):Mem (join inv n P Q) u:=
 (Vu f hP hQ u).mpr ⟨λ_=>0,XZ,by
   have e:(λj=>u j-0)=u:=by funext j;grind
   rw[e];exact h⟩
theorem WN (f:Fld inv) {P Q:Pt F}(hP:Pn n P) (hQ:Pn n Q) {u:Vec F}(h:Mem Q u):Mem (join inv n P Q) u:=
 (Vu f hP hQ u).mpr ⟨u,h,by rw[sub_self];exact XZ⟩
theorem Qf (f:Fld inv) {P Q R:Pt F}(hP:Pn n P) (hQ:Pn n Q) (h1:∀u,Mem P u->Mem R u) (h2:∀u,Mem Q u->Mem R u) {u:Vec F}(h:Mem (join inv n P Q) u):Mem R u:=by
 obtain⟨q,a,b⟩:=(Vu f hP hQ u).mp h;have:=XT 1 (h1 _ b) (h2 _ a);have e:(λj=>u j-q j+1*q j)=u:=by funext j;grind
 rw[e] at this;exact this
theorem vV (f:Fld inv) {P Q M:Pt F}(hP:Pn n P) (hQ:Pn n Q) (hM:Pn n M) (h:∀u,Mem M u↔Mem P u/\Mem Q u):(join inv n P Q).length+M.length=P.length+Q.length:=by
 have gen:∀(vs:List (Vec F)) (J T:Pt F),(∀v∈vs,Mem Q v/\Supp n v)->Pn n J->Pn n T->(∀u,Mem T u->Mem Q u)->(∀u,Mem M u->Mem T u)->(∀u,Mem J u↔∃t,Mem T t/\Mem P λj=>u j-t j)->J.length+M.length=P.length+T.length->(WM inv n J vs).length+M.length=P.length+(WM inv n T vs).length:=by
  intro vs
  induction vs with
  |nil=>intro J T _ _ _ _ _ _ e;exact e
  |cons v vs ih=>
   intro J T hv hJ hT h1 h2 h3 e;obtain⟨hvQ,hvS⟩:=hv v (Pe ..);have gJ:=W6 f hJ hvS;have gT:=W6 f hT hvS;refine ih (more inv n J v) (more inv n T v) (λw hw=>hv w (Pd _ hw)) gJ.pn gT.pn (λu hu=>?_) (λu hu=>?_) (λu=>?_) ?_
   ·obtain⟨c,hc⟩:=(gT.mem u).mp hu
    have:=XT c (h1 _ hc) hvQ;have e:(λj=>u j-c*v j+c*v j)=u:=by funext j;grind
    rw[e] at this;exact this
   ·exact (gT.mem u).mpr ⟨0,by
     have e:(λj=>u j-0*v j)=u:=by funext j;grind
     rw[e];exact h2 u hu⟩
   ·rw[gJ.mem u]
    constructor
    ·rintro ⟨c,hc⟩
     obtain⟨t,ht,hp⟩:=(h3 _).mp hc;refine⟨λj=>t j+c*v j,(gT.mem _).mpr ⟨c,?_⟩,?_⟩
     ·have e:(λj=>t j+c*v j-c*v j)=t:=by funext j;grind
      rw[e];exact ht
     ·have e:(λj=>u j-(t j+c*v j))=λj=>u j-c*v j-t j:=by funext j;grind
      rw[e];exact hp
    ·rintro ⟨t,ht,hp⟩
     obtain⟨c,hc⟩:=(gT.mem t).mp ht;refine⟨c,(h3 _).mpr ⟨_,hc,?_⟩⟩;have e:(λj=>u j-c*v j-(t j-c*v j))=λj=>u j-t j:=by funext j;grind
     rw[e];exact hp
   ·by_cases c:Mem T v
    ·have cJ:Mem J v:=(h3 v).mpr ⟨v,c,by rw[sub_self];exact XZ⟩
     rw[gJ.same cJ,gT.same c];exact e
    ·have cJ:¬Mem J v:=λhc=>by
      obtain⟨t,ht,hp⟩:=(h3 v).mp hc;have hq:Mem Q λj=>v j-t j:=by
       have:=Vx 1 hvQ (h1 t ht);have e:(λj=>v j-1*t j)=λj=>v j-t j:=by funext j;grind
       rw[e] at this;exact this
      have:=XT 1 (h2 _ ((h _).mpr ⟨hp,hq⟩)) ht;have e:(λj=>v j-t j+1*t j)=v:=by funext j;grind
      rw[e] at this;exact c this
     rw[gJ.len cJ,gT.len c];omega
 have hv:∀v∈Q.map (·.2),Mem Q v/\Supp n v:=λv hv=>by obtain⟨a,ha,rfl⟩:=PD.mp hv;exact⟨Wt hQ.rf ha,hQ.sp a ha⟩
 have:=gen (Q.map (·.2)) P M hv hP hM (λu hu=>((h u).mp hu).2) (λu hu=>hu) (λu=>by
  constructor
  ·intro hu
   exact⟨λ_=>0,XZ,by
     have e:(λj=>u j-0)=u:=by funext j;grind
     rw[e];exact hu⟩
  ·rintro ⟨t,ht,hp⟩
   have:=XT 1 hp ((h t).mp ht).1;have e:(λj=>u j-t j+1*t j)=u:=by funext j;grind
   rw[e] at this;exact this) rfl
 have eT:WM inv n M (Q.map (·.2))=Q:=qw f (xL f hM hQ) hQ λu=>by
  constructor
  ·exact Qf f hM hQ (λu hu=>((h u).mp hu).2) λu hu=>hu
  ·exact WN f hM hQ
 rw[eT] at this;exact this
noncomputable def sl:List Nat->(Nat->F)->F
 |[],_=>0
 |k::L,g=>g k+sl L g
theorem Xq {L:List Nat}{g g':Nat->F}(h:∀k∈L,g k=g' k):sl L g=sl L g':=by
 induction L with
 |nil=>rfl
 |cons k L ih=>show g k+sl L g=g' k+sl L g';rw[h k (Pe ..),ih λj hj=>h j (Pd _ hj)]
theorem qx (L:List Nat) (g g':Nat->F) (c:F):sl L (λj=>g j-c*g' j)=sl L g-c*sl L g':=by
 induction L with
 |nil=>show (0:F)=0-c*0;grind
 |cons k L ih=>show (g k-c*g' k)+sl L _=(g k+sl L g)-c*(g' k+sl L g');rw[ih];grind
theorem W3 {L:List Nat}{g:Nat->F}(h:∀k∈L,g k=0):sl L g=0:=by
 induction L with
 |nil=>rfl
 |cons k L ih=>show g k+sl L g=0;rw[h k (Pe ..),ih λj hj=>h j (Pd _ hj)];grind
theorem y4 {L:List Nat}{g:Nat->F}{k:Nat}(hn:L.Nodup) (hk:k∈L) (h:∀j∈L,j≠k->g j=0):sl L g=g k:=by
 induction L with
 |nil=>cases hk
 |cons m L ih=>
  rw[NB] at hn;show g m+sl L g=_;rcases Pk.mp hk with e | e
  ·subst e
   rw[W3 λj hj=>h j (Pd _ hj) λz=>hn.1 (z▸hj)];grind
  ·rw[ih hn.2 e λj hj=>h j (Pd _ hj),h m (Pe ..) λz=>hn.1 (z▸e)];grind
theorem j4 (p:Nat->Bool) (L:List Nat) (g:Nat->F):sl L g=sl (L.filter p) g+sl (L.filter λk=>!p k) g:=by
 induction L with
 |nil=>show (0:F)=0+0;grind
 |cons k L ih=>
  rw[Kv,Kv];show g k+sl L g=_;cases p k with
  |true=>simp only[NS,Bool.not_true,Nb,Nz];show _=g k+sl _ g+_;rw[ih];grind
  |false=>simp only[Nb,Nz,Bool.not_false,NS];show _=_+(g k+sl _ g);rw[ih];grind
noncomputable def dot (n:Nat) (u w:Vec F):F:=sl (List.range n) λj=>u j*w j
theorem JN (n:Nat) (a u v:Vec F) (c:F):dot n a (λj=>u j-c*v j)=dot n a u-c*dot n a v:=by
 unfold dot;rw[<-qx];exact Xq λk _=>by grind
theorem Vj (n:Nat) (u w:Vec F):dot n u w=dot n w u:=Xq λk _=>by grind
noncomputable def ZR (P:Pt F) (j:Nat):Bool:=(P.map (·.1)).contains j
noncomputable def free (n:Nat) (P:Pt F):List Nat:=(List.range n).filter λj=>!ZR P j
noncomputable def av:Pt F->Nat->Vec F
 |[],f,j=>if j=f then 1 else 0
 |a::P,f,j=>if j=a.1 then-a.2 f else av P f j
theorem Yl {P:Pt F}{j:Nat}:ZR P j=true↔∃a∈P,a.1=j:=by
 unfold ZR;rw[NN,PD]
theorem Wd {P:Pt F}{f j:Nat}(h:ZR P j=false):av P f j=if j=f then 1 else 0:=by
 induction P with
 |nil=>rfl
 |cons a P ih=>
  have h1:¬∃b∈a::P,b.1=j:=λz=>by rw[Yl.mpr z] at h;cases h
  show (if j=a.1 then-a.2 f else av P f j)=_
  rw[Pi λz=>h1 ⟨a,Pe ..,z.symm⟩]
  exact ih (by
   cases q:ZR P j with
   |false=>rfl
   |true=>obtain⟨b,hb,e⟩:=Yl.mp q;exact absurd ⟨b,Pd _ hb,e⟩ h1)
theorem wE {P:Pt F}(hP:P.Pairwise λa b=>a.1<b.1) {a:Nat×Vec F}(ha:a∈P) (f:Nat):av P f a.1 = - a.2 f:=by
 induction P with
 |nil=>cases ha
 |cons b P ih=>
  rw[PK] at hP;show (if a.1=b.1 then-b.2 f else av P f a.1)=_
  rcases Pk.mp ha with e | e
  ·subst e;rw[Pg rfl]
  ·rw[Pi (by have:=hP.1 a e;omega)];exact ih hP.2 e
theorem Yc {P:Pt F}{j:Nat}:j∈free n P↔j<n/\ZR P j=false:=by
 unfold free;rw[Nd,PQ];simp
theorem UX {P:Pt F}:(free n P).Nodup:=Ks _ KZ
theorem Uh {P:Pt F}(hP:Pn n P) {f:Nat}(hf:f<n):Supp n (av P f):=λj hj=>by
 rw[Wd (by
  cases q:ZR P j with
  |false=>rfl
  |true=>obtain⟨b,hb,e⟩:=Yl.mp q;have:=hP.lt b hb;omega),Pi (by omega)]
theorem QV {P:Pt F}(hP:Pn n P) {a:Nat×Vec F}(ha:a∈P) (u:Vec F):dot n a.2 u=sl (free n P) (λj=>a.2 j*u j)+u a.1:=by
 unfold dot;rw[j4 (ZR P) (List.range n)];have e:sl ((List.range n).filter (ZR P)) (λj=>a.2 j*u j)=a.2 a.1*u a.1:=by
  refine y4 (Ks _ KZ) (Nd.mpr ⟨PQ.mpr (hP.lt a ha),Yl.mpr ⟨a,ha,rfl⟩⟩) λj hj ne=>?_
  obtain⟨b,hb,rfl⟩:=Yl.mp (Nd.mp hj).2;rw[hP.rf.zer b hb a ha ne];grind
 rw[e,hP.rf.one a ha];show _=sl ((List.range n).filter λj=>!ZR P j) _+_
 grind
theorem Zbk {P:Pt F}(hP:Pn n P) {a:Nat×Vec F}(ha:a∈P) {f:Nat}(hf:f∈free n P):dot n a.2 (av P f)=0:=by
 obtain⟨f1,f2⟩:=Yc.mp hf;rw[QV hP ha,wE hP.rf.inc ha,y4 (L:=free n P) (k:=f) UX hf λj hj ne=>by
  rw[Wd (Yc.mp hj).2,Pi ne];grind]
 rw[Wd f2,Pg rfl];grind
noncomputable def perp (inv:F->F) (n:Nat) (P:Pt F):Pt F:=WM inv n [] ((free n P).map (av P))
theorem Ux (f:Fld inv) {P:Pt F}(hP:Pn n P):Pn n (perp inv n P):=(Wb f _ Pn.nil λv hv=>by
 obtain⟨k,hk,rfl⟩:=PD.mp hv;exact Uh hP (Yc.mp hk).1).1
theorem zd {P:Pt F}(hP:Pn n P) {a:Nat×Vec F}(ha:a∈P):∀(L:List Nat) (u:Vec F),(∀k∈L,k∈free n P)->UI [] (L.map (av P)) u->dot n a.2 u=0
 |[],u,_,h=>W3 λk _=>by rw[h k];show a.2 k*0=0;grind
 |k::L,u,hL,⟨c,h⟩=>by
  have:=zd hP ha L _ (λj hj=>hL j (Pd _ hj)) h
  rw[JN,Zbk hP ha (hL k (Pe ..))] at this
  grind
theorem QY {P:Pt F}{u:Vec F}:∀(L:List Nat) (w:Vec F),(∀j,w j=sl L λf=>u f*av P f j)->UI [] (L.map (av P)) w
 |[],w,h=>h
 |k::L,w,h=>⟨u k,QY (u:=u) L _ λj=>by rw[h j];show u k*av P k j+sl L (λf=>u f*av P f j)-u k*av P k j=_;grind⟩
theorem qI (f:Fld inv) {P:Pt F}(hP:Pn n P) (u:Vec F):Mem (perp inv n P) u↔Supp n u/\∀a∈P,dot n a.2 u=0:=by
 have ok:=Wb f ((free n P).map (av P)) (Pn.nil (n:=n)) λv hv=>by
  obtain⟨k,hk,rfl⟩:=PD.mp hv;exact Uh hP (Yc.mp hk).1
 constructor
 ·intro h
  exact⟨U4 ok.1 h,λa ha=>zd hP ha _ u (λk hk=>hk) ((ok.2 u).mp h)⟩
 ·rintro ⟨hs,hd⟩
  refine (ok.2 u).mpr (QY (u:=u) _ u λj=>?_)
  by_cases c:n<=j
  ·rw[hs j c]
   exact (W3 λk hk=>by rw[Uh hP (Yc.mp hk).1 j c];grind).symm
  ·cases q:ZR P j with
   |false=>
    rw[y4 (L:=free n P) (k:=j) UX (Yc.mpr ⟨by omega,q⟩) λk hk ne=>by
     rw[Wd q,Pi (Ne.symm ne)];grind]
    rw[Wd q,Pg rfl];grind
   |true=>
    obtain⟨a,ha,rfl⟩:=Yl.mp q;have h1:=hd a ha;rw[QV hP ha] at h1;have e:sl (free n P) (λf=>u f*av P f a.1) = - sl (free n P) λj=>a.2 j*u j:=by
     have:=qx (free n P) (λ_=>(0:F)) (λj=>a.2 j*u j) 1
     rw[W3 (g:=λ_=>(0:F)) λ_ _=>rfl] at this
     have e2:sl (free n P) (λf=>u f*av P f a.1)=sl (free n P) λj=>0-1*(a.2 j*u j):=Xq λk _=>by rw[wE hP.rf.inc ha];grind
     rw[e2,this];grind
    rw[e];grind
theorem YA (f:Fld inv) {P:Pt F}(hP:Pn n P) (u:Vec F):Mem (perp inv n P) u↔Supp n u/\∀v,Mem P v->dot n v u=0:=by
 rw[qI f hP]
 constructor
 ·rintro ⟨hs,hd⟩
  refine⟨hs,λv hv=>?_⟩
  have e:dot n v u=dot n u (pr P v):=by rw[Vj];exact Xq λk _=>by rw[<-hv k]
  rw[e];have gen:∀Q:Pt F,(∀a∈Q,dot n a.2 u=0)->dot n u (pr Q v)=0:=by
   intro Q
   induction Q with
   |nil=>intro _;exact W3 λk _=>by show u k*0=0;grind
   |cons a Q ih=>
    intro h;have e2:dot n u (pr (a::Q) v)=dot n u (λj=>pr Q v j-(- v a.1)*a.2 j):=Xq λk _=>by show u k*(v a.1*a.2 k+pr Q v k)=_;grind
    rw[e2,JN,ih λb hb=>h b (Pd _ hb),Vj,h a (Pe ..)];grind
  exact gen P hd
 ·rintro ⟨hs,hd⟩
  exact⟨hs,λa ha=>hd _ (Wt hP.rf ha)⟩
theorem Wl (f:Fld inv) {P:Pt F}(hP:Pn n P):(perp inv n P).length+P.length=n:=by
 have gen:∀(L:List Nat) (A:Pt F) (D:List Nat),Pn n A->(∀k∈L,k∈free n P)->L.Nodup->(∀k∈L,k∉D)->(∀u,Mem A u->∀k∈free n P,k∉D->u k=0)->(WM inv n A (L.map (av P))).length=A.length+L.length:=by
  intro L
  induction L with
  |nil=>intro A D _ _ _ _ _;rfl
  |cons k L ih=>
   intro A D hA hL hn hD hz;rw[NB] at hn;have hk:=hL k (Pe ..);have g:=W6 f hA (Uh hP (Yc.mp hk).1);have nm:¬Mem A (av P k):=λh=>by
    have:=hz _ h k hk (hD k (Pe ..));rw[Wd (Yc.mp hk).2,Pg rfl] at this;exact f.one0 this
   have:=ih (more inv n A (av P k)) (k::D) g.pn (λj hj=>hL j (Pd _ hj)) hn.2 (λj hj=>by
    rw[Pk]
    rintro (z | z)
    ·exact hn.1 (z▸hj)
    ·exact hD j (Pd _ hj) z) λu hu j hj hjD=>by
     obtain⟨c,hc⟩:=(g.mem u).mp hu;rw[Pk] at hjD;have h1:u j-c*av P k j=0:=hz _ hc j hj λz=>hjD (.inr z)
     rw[Wd (Yc.mp hj).2,Pi λz=>hjD (.inl z)] at h1
     grind
   show (WM inv n (more inv n A (av P k)) (L.map (av P))).length=_;rw[this,g.len nm,Px];omega
 have h1:=gen (free n P) [] [] Pn.nil (λ_ h=>h) (Ks _ KZ) (λ_ _ h=>by cases h) λu hu k _ _=>hu k
 have h2:(List.range n).filter (ZR P)=P.map (·.1):=yw (Ks _ List.pairwise_lt_range) hP.rf.heads λx=>by
  rw[Nd,PQ,Yl,PD]
  constructor
  ·rintro ⟨_,a,ha,e⟩;exact⟨a,ha,e⟩
  ·rintro ⟨a,ha,e⟩;exact⟨by rw[<-e];exact hP.lt a ha,a,ha,e⟩
 have h3:((List.range n).filter (ZR P)).length+(free n P).length=n:=by
  have gen:∀L:List Nat,(L.filter (ZR P)).length+(L.filter λj=>!ZR P j).length=L.length:=by
   intro L
   induction L with
   |nil=>rfl
   |cons k L ih=>
    rw[Kv,Kv];cases ZR P k <;> simp <;> omega
  have:=gen (List.range n);rw[P0] at this;exact this
 rw[h2,Pj] at h3;have h4:(perp inv n P).length=(free n P).length:=by
  have e:(perp inv n P).length=0+(free n P).length:=h1;omega
 omega
theorem VL (f:Fld inv) {P:Pt F}(hP:Pn n P):perp inv n (perp inv n P)=P:=by
 have h1:=Ux f hP;have h2:=Ux f h1;have s1:=Wl f hP;have s2:=Wl f h1;have sub:∀v,Mem P v->Mem (perp inv n (perp inv n P)) v:=λv hv=>(YA f h1 v).mpr ⟨U4 hP hv,λw hw=>by
  rw[Vj];exact ((YA f hP w).mp hw).2 v hv⟩
 refine (qw f hP h2 λv=>⟨sub v,(qz f.one0 hP.rf h2.rf sub).2 (by omega) v⟩).symm
noncomputable def meet (inv:F->F) (n:Nat) (P Q:Pt F):Pt F:=perp inv n (join inv n (perp inv n P) (perp inv n Q))
theorem qQ (f:Fld inv) {P Q:Pt F}(hP:Pn n P) (hQ:Pn n Q) (u:Vec F):Mem (meet inv n P Q) u↔Mem P u/\Mem Q u:=by
 have hA:=Ux f hP;have hB:=Ux f hQ;unfold meet;rw[YA f (xL f hA hB)]
 constructor
 ·rintro ⟨hs,h⟩
  refine⟨?_,?_⟩
  ·have:Mem (perp inv n (perp inv n P)) u:=(YA f hA u).mpr ⟨hs,λv hv=>h v (Q3 f hA hB hv)⟩
   rw[VL f hP] at this;exact this
  ·have:Mem (perp inv n (perp inv n Q)) u:=(YA f hB u).mpr ⟨hs,λv hv=>h v (WN f hA hB hv)⟩
   rw[VL f hQ] at this;exact this
 ·rintro ⟨h1,h2⟩
  refine⟨U4 hP h1,λv hv=>?_⟩
  obtain⟨q,hq,hp⟩:=(Vu f hA hB v).mp hv;have e1:=((YA f hP _).mp hp).2 u h1;have e2:=((YA f hQ _).mp hq).2 u h2;have e3:dot n u v=dot n u (λj=>(v j-q j)-(-1)*q j):=Xq λk _=>by grind
  rw[Vj,e3,JN,e1,e2];grind
end
end La
set_option maxRecDepth 10000
namespace Rw
open La
open Ev (ltI WW ZM)
section
variable {p:Nat}[NeZero p]
noncomputable def ph (p:Nat) [NeZero p] (a:Int):Fin p:=Fin.ofNat p (a%p).toNat
theorem ppos:(0:Int)<p:=by have:=NeZero.ne p;omega
theorem Y1 (a:Int):((ph p a).val:Int)=a%p:=by
 have h:=ppos (p:=p);have h0:=Kl a (by omega:(p:Int)≠0)
 have h1:=N4 a h;show ((((a%p).toNat)%p:Nat):Int)=a%p;rw[Nat.mod_eq_of_lt (by omega)]
 omega
theorem Ul {x y:Fin p}(h:(x.val:Int)=y.val):x=y:=Fin.ext (by omega)
theorem uV (a b:Int):ph p (a+b)=ph p a+ph p b:=Ul (by
 rw[Y1,Fin.val_add];show (a+b)%p=(((ph p a).val+(ph p b).val:Nat):Int)%p;rw[Int.natCast_add,Y1,Y1,<-Int.add_emod])
theorem qY (a b:Int):ph p (a*b)=ph p a*ph p b:=Ul (by
 rw[Y1,Fin.val_mul];show (a*b)%p=(((ph p a).val*(ph p b).val:Nat):Int)%p;rw[Tc,Y1,Y1,<-Int.mul_emod])
theorem yb (a:Int):ph p (a%p)=ph p a:=Ul (by rw[Y1,Y1,Int.emod_emod])
theorem Va:ph p 0=0:=Ul (by rw[Y1];simp)
theorem uI (a:Int):ph p (-a) = - ph p a:=by
 have h:ph p (-a+a)=ph p (-a)+ph p a:=uV _ _;rw[show -a+a=0 by omega,Va] at h
 grind
theorem xn {a b:Int}(ha:0<=a/\a<p) (hb:0<=b/\b<p) (h:ph p a=ph p b):a=b:=by
 have:=congrArg (λx:Fin p=>(x.val:Int)) h
 simp only[Y1] at this;rw[KS ha.1 ha.2,KS hb.1 hb.2] at this;exact this
theorem ZcT {a:Int}(ha:0<=a/\a<p):ph p a=0↔a=0:=by
 constructor
 ·intro h;exact xn ha ⟨by omega,ppos⟩ (by rw[h,Va])
 ·rintro rfl;exact Va
end
noncomputable abbrev Row:=List Int
def Zn (p n:Nat) (r:Row):Prop:=r.length=n/\∀a∈r,0<=a/\a<(p:Int)
noncomputable def gt (r:Row) (j:Nat):Int:=r.getD j 0
theorem X0 {p n:Nat}(h0:(0:Int)<p) {r:Row}(h:Zn p n r) (j:Nat):0<=gt r j/\gt r j<p:=by
 unfold gt;rw[Po];cases q:r[j]? with
 |none=>exact⟨Int.le_refl _,h0⟩
 |some a=>exact h.2 a (Kp q)
theorem uO {r:Row}{j:Nat}(h:r.length<=j):gt r j=0:=by unfold gt;rw[Po,KW h];rfl
theorem je {r s:Row}(hl:r.length=s.length) (h:∀j,gt r j=gt s j):r=s:=by
 apply K1 hl;intro j h1 h2;have:=h j;unfold gt at this;rw[Po,Po,Pc h1,Pc h2] at this;exact this
noncomputable def hdI:Row->Option Nat
 |[]=>none
 |a::r=>if a≠0 then some 0 else (hdI r).map (· + 1)
theorem YU:∀{r:Row}{k:Nat},hdI r=some k->gt r k≠0/\k<r.length/\∀j,j<k->gt r j=0
 |[],k,h=>by cases h
 |a::r,k,h=>by
  unfold hdI at h;by_cases c:a≠0
  ·rw[Pg c] at h;cases h;exact⟨c,by simp,λj hj=>by omega⟩
  ·rw[Pi c] at h
   cases q:hdI r with
   |none=>rw[q] at h;cases h
   |some m=>
    rw[q] at h;have e:m+1=k:=Pb h;subst e;obtain⟨h1,h2,h3⟩:=YU q;refine⟨h1,by simp;omega,λj hj=>?_⟩
    cases j with
    |zero=>exact Classical.not_not.mp c
    |succ j=>exact h3 j (by omega)
theorem X6:∀{r:Row},hdI r=none->∀j,gt r j=0
 |[],_,j=>uO (Ki _)
 |a::r,h,j=>by
  unfold hdI at h;by_cases c:a≠0
  ·rw[Pg c] at h;cases h
  ·rw[Pi c] at h
   have h':hdI r=none:=Option.map_eq_none_iff.mp h;cases j with
   |zero=>exact Classical.not_not.mp c
   |succ j=>exact X6 h' j
theorem Zbv {r:Row}{k:Nat}(h1:gt r k≠0) (h2:∀j,j<k->gt r j=0):hdI r=some k:=by
 cases q:hdI r with
 |none=>exact absurd (X6 q k) h1
 |some m=>
  obtain⟨a,_,c⟩:=YU q;have:¬k<m:=λz=>h1 (c k z)
  have:¬m<k:=λz=>a (h2 m z)
  rw[show m=k by omega]
section
variable {p n:Nat}[NeZero p]
noncomputable def toV (p:Nat) [NeZero p] (r:Row):Vec (Fin p):=λj=>ph p (gt r j)
theorem Zak {r s:Row}(hr:Zn p n r) (hs:Zn p n s) (h:toV p r=toV p s):r=s:=
 je (by rw[hr.1,hs.1]) λj=>xn (X0 ppos hr j) (X0 ppos hs j) (congrFun h j)
theorem GQ {r:Row}(hr:Zn p n r):Supp n (toV p r):=λj hj=>by unfold toV;rw[uO (by rw[hr.1];exact hj),Va]
theorem Xh {r:Row}(hr:Zn p n r) {j:Nat}:toV p r j=0↔gt r j=0:=ZcT (X0 ppos hr j)
theorem JH {r:Row}(hr:Zn p n r):hdV n (toV p r)=hdI r:=by
 cases q:hdI r with
 |none=>
  cases q2:hdV n (toV p r) with
  |none=>rfl
  |some k=>exact absurd ((Xh hr).mpr (X6 q k)) (zk q2).2.1
 |some k=>
  obtain⟨a,b,c⟩:=YU q;exact yM (by rw[<-hr.1];exact b) (λz=>a ((Xh hr).mp z)) λj hj=>(Xh hr).mpr (c j hj)
noncomputable def Xx (p:Nat) (r o:Row) (k:Int):Row:=List.zipWith (λa b=>(a+k*b)%p) r o
noncomputable def X5 (p:Nat) (r:Row) (k:Int):Row:=r.map λa=>k*a%p
theorem Zbs {f:Int->Int->Int}{r o:Row}(hl:r.length=o.length) (h0:f 0 0=0) (j:Nat):gt (List.zipWith f r o) j=f (gt r j) (gt o j):=by
 unfold gt;simp only[Po];rw[List.getElem?_zipWith];by_cases c:j<r.length
 ·rw[Pc c,Pc (by omega)];rfl
 ·rw[KW (by omega),KW (by omega)];exact h0.symm
theorem Yx {r o:Row}{k:Int}(hr:Zn p n r) (ho:Zn p n o):Zn p n (Xx p r o k):=by
 refine⟨by unfold Xx;rw[List.length_zipWith,hr.1,ho.1];simp,λa ha=>?_⟩
 unfold Xx at ha;rw[<-List.map_uncurry_zip_eq_zipWith] at ha;obtain⟨⟨x,y⟩,_,rfl⟩:=PD.mp ha;exact⟨Kl _ (by have:=ppos (p:=p);omega),N4 _ ppos⟩
theorem wp {r o:Row}{k:Int}(hr:Zn p n r) (ho:Zn p n o) (j:Nat):gt (Xx p r o k) j=(gt r j+k*gt o j)%p:=by
 unfold Xx;rw[Zbs (by rw[hr.1,ho.1]) (by simp)]
theorem jk {r o:Row}{k:Int}(hr:Zn p n r) (ho:Zn p n o):toV p (Xx p r o k)=λj=>toV p r j+ph p k*toV p o j:=by
 funext j
 unfold toV;rw[wp hr ho,yb,uV,qY]
theorem qR {r:Row}{k:Int}(j:Nat):gt (X5 p r k) j=k*gt r j%p:=by
 unfold X5 gt;simp only[Po,PH];cases r[j]? <;> simp
theorem Jp {r:Row}{k:Int}(hr:Zn p n r):Zn p n (X5 p r k):=by
 refine⟨by unfold X5;rw[Pj,hr.1],λa ha=>?_⟩
 obtain⟨x,_,rfl⟩:=PD.mp ha;exact⟨Kl _ (by have:=ppos (p:=p);omega),N4 _ ppos⟩
theorem wQ {r:Row}{k:Int}:toV p (X5 p r k)=λj=>ph p k*toV p r j:=by
 funext j
 unfold toV;rw[qR,yb,qY]
noncomputable def toP (p:Nat) [NeZero p] (P:List Row):Pt (Fin p):=P.map λr=>((hdI r).getD 0,toV p r)
structure pZ (p n:Nat) [NeZero p] (P:List Row):Prop where
 row:∀r∈P,Zn p n r
 pn:Pn n (toP p P)
theorem pZ.nil:pZ p n []:=⟨λ_ h=>(by cases h),Pn.nil⟩
theorem YF {P:List Row}{r:Row}(h:r∈P):((hdI r).getD 0,toV p r)∈toP p P:=PD.mpr ⟨r,h,rfl⟩
theorem pZ.head (one0:(1:Fin p)≠0) {P:List Row}(h:pZ p n P) {r:Row}(hr:r∈P):∃k,hdI r=some k/\k<n/\toV p r k=1:=by
 have h1:=h.pn.rf.one _ (YF (p:=p) hr);cases q:hdI r with
 |none=>
  rw[q] at h1;have:toV p r 0=1:=h1;have z:toV p r 0=0:=(Xh (h.row r hr)).mpr (X6 q 0);rw[z] at this;exact absurd this.symm one0
 |some k=>
  rw[q] at h1;have h2:=h.pn.lt _ (YF (p:=p) hr);rw[q] at h2;exact⟨k,rfl,h2,h1⟩
theorem xR {P Q:List Row}(hP:∀r∈P,Zn p n r) (hQ:∀r∈Q,Zn p n r) (h:toP p P=toP p Q):P=Q:=by
 induction P generalizing Q with
 |nil=>cases Q with
  |nil=>rfl
  |cons b Q=>cases h
 |cons a P ih=>cases Q with
  |nil=>cases h
  |cons b Q=>
   have h':((hdI a).getD 0,toV p a)::toP p P=((hdI b).getD 0,toV p b)::toP p Q:=h;injection h' with e1 e2
   have e3:toV p a=toV p b:=congrArg Prod.snd e1;rw[Zak (hP a (Pe ..)) (hQ b (Pe ..)) e3,ih (λr hr=>hP r (Pd _ hr)) (λr hr=>hQ r (Pd _ hr)) e2]
theorem j0 (P:List Row):(toP p P).map (·.2)=P.map (toV p):=by unfold toP;rw[Nh];rfl
theorem Uw (P:List Row):(toP p P).length=P.length:=by unfold toP;rw[Pj]
noncomputable def clr (p:Nat) (r o:Row) (h:Nat):Row:=Xx p r o (-(gt r h))
noncomputable def Zj (p:Nat) (P:List Row) (r:Row):Row:=P.foldl (λs o=>clr p s o ((hdI o).getD 0)) r
theorem Uo {r o:Row}{h:Nat}(hr:Zn p n r) (ho:Zn p n o):toV p (clr p r o h)=λj=>toV p r j-toV p r h*toV p o j:=by
 unfold clr;rw[jk hr ho]
 funext j
 rw[uI];show toV p r j+(- toV p r h)*toV p o j=_
 grind
theorem UA:∀{P:List Row}{r:Row},(∀o∈P,Zn p n o)->Rf (toP p P)->Zn p n r->Zn p n (Zj p P r)/\toV p (Zj p P r)=rest (toP p P) (toV p r)
 |[],r,_,_,hr=>⟨hr,by funext j;show toV p r j=toV p r j-0;grind⟩
 |o::P,r,hP,hf,hr=>by
  have ho:=hP o (Pe ..);have hc:Zn p n (clr p r o ((hdI o).getD 0)):=Yx hr ho;obtain⟨a,b⟩:=UA (P:=P) (λo h=>hP o (Pd _ h)) hf.tail hc
  refine⟨a,?_⟩;show toV p (Zj p P (clr p r o ((hdI o).getD 0)))=_;rw[b,Uo hr ho];have z:∀j,pr (toP p P) (toV p o) j=0:=λj=>XJ λc hc=>by
   have:toV p o c.1=0:=by
    have h1:c∈toP p (o::P):=Pd _ hc;have h2:((hdI o).getD 0,toV p o)∈toP p (o::P):=Pe ..;have h3:=(PK.mp hf.inc).1 c hc;exact hf.zer c h1 _ h2 (by simp only at h3 ⊢;omega)
   rw[this];grind
  funext j
  unfold rest;rw[GH,z];show toV p r j-toV p r ((hdI o).getD 0)*toV p o j-(pr (toP p P) (toV p r) j-_*0)=toV p r j-(toV p r ((hdI o).getD 0)*toV p o j+pr (toP p P) (toV p r) j)
  grind
theorem jq {P:List Row}{r:Row}(hP:pZ p n P) (hr:Zn p n r):hdI (Zj p P r)=none↔Mem (toP p P) (toV p r):=by
 obtain⟨a,b⟩:=UA hP.row hP.pn.rf hr;rw[<-QB,<-b]
 constructor
 ·intro h j;exact (Xh a).mpr (X6 h j)
 ·intro h
  cases q:hdI (Zj p P r) with
  |none=>rfl
  |some k=>exact absurd ((Xh a).mp (h k)) (YU q).1
end
end Rw
set_option maxRecDepth 10000
namespace Rw
open La
open Ev (ltI WW ZM)
noncomputable def UH (p:Nat) (a:Int):Int:=if a=1 then 1 else if p=3 then 2 else if a=2 then 3 else if a=3 then 2 else 4
noncomputable def Ub (p:Nat) [NeZero p] (x:Fin p):Fin p:=ph p (UH p x.val)
class Base (p:Nat):Prop where
 b:p=2\/p=3\/p=5
instance (p:Nat) [h:Base p]:NeZero p:=⟨by rcases h.b with e | e | e <;> omega⟩
section
variable {p n:Nat}[Base p]
theorem fld2:∀a:Fin 2,a≠0->Ub 2 a*a=1:=by decide
theorem fld3:∀a:Fin 3,a≠0->Ub 3 a*a=1:=by decide
theorem fld5:∀a:Fin 5,a≠0->Ub 5 a*a=1:=by decide
theorem one2:(1:Fin 2)≠0:=by decide
theorem one3:(1:Fin 3)≠0:=by decide
theorem one5:(1:Fin 5)≠0:=by decide
theorem fld:Fld (Ub p):=by
 rcases (inferInstance:Base p).b with e | e | e <;> subst e
 ·exact⟨fld2,one2⟩
 ·exact⟨fld3,one3⟩
 ·exact⟨fld5,one5⟩
theorem Zaq {a:Int}(h:0<=a/\a<(p:Int)):((ph p a).val:Int)=a:=by rw[Y1,KS h.1 h.2]
noncomputable def lead (p:Nat) (s:Row) (h:Nat):Row:=X5 p s (UH p (gt s h))
noncomputable def UF (p:Nat) (P:List Row) (r:Row):List Row:=match hdI (Zj p P r) with
 |none=>P
 |some h=>(ZM (P.map (λo=>clr p o (lead p (Zj p P r) h) h)++[lead p (Zj p P r) h])).reverse
noncomputable def GO (h:Nat) (x:Row):List Row->List Row
 |[]=>[x]
 |y::P=>if h<(hdI y).getD 0 then x::y::P else y::GO h x P
theorem VN (h:Nat) (x:Row):∀P:List Row,(GO h x P).Perm (x::P)
 |[]=>NA _
 |y::P=>by
  unfold GO;split
  ·exact NA _
  ·exact ((VN h x P).cons y).trans (List.Perm.swap x y P)
theorem zO {h:Nat}{x:Row}(hx:hdI x=some h):∀P:List Row,toP p (GO h x P)=ins (h,toV p x) (toP p P)
 |[]=>by show [((hdI x).getD 0,toV p x)]=_;rw[hx];rfl
 |y::P=>by
  unfold GO;show toP p (if h<(hdI y).getD 0 then _ else _)=(if h<(hdI y).getD 0 then _ else _)
  split
  ·show ((hdI x).getD 0,toV p x)::_=_;rw[hx];rfl
  ·show ((hdI y).getD 0,toV p y)::toP p (GO h x P)=_;rw[zO hx P];rfl
theorem uZ:∀{a b:Row}{h:Nat},a.length=b.length->(∀j,j<h->gt a j=gt b j)->gt b h<gt a h->h<a.length->ltI b a=true
 |[],_,_,_,_,_,hl=>by simp at hl
 |x::a,[],_,e,_,_,_=>by simp at e
 |x::a,y::b,0,_,_,hlt,_=>by
  have:y<x:=hlt;unfold ltI;rw[Pi (by omega)]
  exact PC this
 |x::a,y::b,h+1,e,hj,hlt,hl=>by
  have:x=y:=hj 0 (by omega)
  unfold ltI;rw[Pg this.symm];exact uZ (by simpa using e) (λj h'=>hj (j+1) (by omega)) hlt (by simpa using hl)
theorem uS {a b:Row}{h k:Nat}(ha:Zn p n a) (hb:Zn p n b) (h1:hdI a=some h) (h2:hdI b=some k) (hk:h<k):ltI b a=true:=by
 obtain⟨a1,a2,a3⟩:=YU h1;obtain⟨b1,b2,b3⟩:=YU h2;refine uZ (by rw[ha.1,hb.1]) (λj hj=>by rw[a3 j hj,b3 j (by omega)]) ?_ a2
 rw[b3 h hk];have:=(X0 ppos ha h).1;omega
theorem pZ.falls {P:List Row}(hP:pZ p n P):P.Pairwise λa b=>ltI b a=true:=by
 have inc:P.Pairwise λa b=>(hdI a).getD 0<(hdI b).getD 0:=by
  have:=hP.pn.rf.inc;unfold toP at this;rw[NI] at this;exact this
 refine KC (λ{a b} ha hb hab=>?_) inc
 obtain⟨h,e1,_⟩:=hP.head fld.one0 ha;obtain⟨k,e2,_⟩:=hP.head fld.one0 hb;rw[e1,e2] at hab;exact uS (hP.row a ha) (hP.row b hb) e1 e2 hab
theorem V8 {P:List Row}(h:P.Pairwise λa b=>ltI b a=true):P.Nodup:=List.Pairwise.imp (λ{a b} hab e=>by
 rw[e] at hab;have:=Sd.WD hab;rw[hab] at this;cases this) h
theorem jW {P Q:List Row}(hp:Q.Perm P) (h:Q.Pairwise λa b=>ltI b a=true):(ZM P).reverse=Q:=by
 have hn:P.Nodup:=(hp.nodup_iff).mp (V8 h);have e:ZM P=Q.reverse:=Sd.Wh ((Sd.Y0 P).trans (hp.symm.trans (List.reverse_perm Q).symm)) (Sd.XF hn) (List.pairwise_reverse.mpr h);rw[e,List.reverse_reverse]
theorem yv {P:List Row}{r:Row}(hP:pZ p n P) (hr:Zn p n r):pZ p n (UF p P r)/\toP p (UF p P r)=more (Ub p) n (toP p P) (toV p r):=by
 obtain⟨s1,s2⟩:=UA hP.row hP.pn.rf hr;have eh:=JH s1;rw[s2] at eh;have g:=W6 fld hP.pn (GQ hr);unfold UF;cases q:hdI (Zj p P r) with
 |none=>
  rw[q] at eh;exact⟨hP,by unfold more;rw[eh]⟩
 |some h=>
  rw[q] at eh;have em:more (Ub p) n (toP p P) (toV p r)=wid (toP p P) h (toV p (lead p (Zj p P r) h)):=by
   unfold more;rw[eh];show wid _ h _=_
   congr 1
   unfold lead;rw[wQ,s2]
   funext j
   congr 1
   unfold Ub;rw[<-s2];show ph p (UH p ((ph p (gt (Zj p P r) h)).val))=_;rw[Zaq (X0 ppos s1 h)]
  have hl:Zn p n (lead p (Zj p P r) h):=Jp s1;rw[em] at g;have mem:∀x∈wid (toP p P) h (toV p (lead p (Zj p P r) h)),hdV n x.2=some x.1:=λx hx=>yM (g.pn.lt x hx) (by rw[g.pn.rf.one x hx];exact fld.one0) (g.pn.rf.low x hx)
  have hx:hdI (lead p (Zj p P r) h)=some h:=by
   rw[<-JH hl];exact mem (h,toV p (lead p (Zj p P r) h)) ((YI _ _).mem_iff.mpr (Pe ..))
  have e1:toP p (P.map λo=>clr p o (lead p (Zj p P r) h) h)=(toP p P).map (off h (toV p (lead p (Zj p P r) h))):=by
   unfold toP;rw[Nh,Nh];refine NL λo ho=>?_
   have ho':=hP.row o ho;have hc:Zn p n (clr p o (lead p (Zj p P r) h) h):=Yx ho' hl;have ev:toV p (clr p o (lead p (Zj p P r) h) h)=(off h (toV p (lead p (Zj p P r) h)) ((hdI o).getD 0,toV p o)).2:=Uo ho' hl;show ((hdI (clr p o (lead p (Zj p P r) h) h)).getD 0,toV p (clr p o (lead p (Zj p P r) h) h))=off h _ ((hdI o).getD 0,toV p o);have:=mem (off h (toV p (lead p (Zj p P r) h)) ((hdI o).getD 0,toV p o)) ((YI _ _).mem_iff.mpr (Pd _ (PD.mpr ⟨_,YF ho,rfl⟩)));rw[<-ev,JH hc] at this;rw[this,ev];rfl
  have e2:toP p (GO h (lead p (Zj p P r) h) (P.map λo=>clr p o (lead p (Zj p P r) h) h))=wid (toP p P) h (toV p (lead p (Zj p P r) h)):=by
   rw[zO hx,e1];rfl
  have hQ:pZ p n (GO h (lead p (Zj p P r) h) (P.map λo=>clr p o (lead p (Zj p P r) h) h)):=by
   refine⟨λx hx=>?_,by rw[e2];exact g.pn⟩
   rcases Pk.mp ((VN _ _ _).mem_iff.mp hx) with e | e
   ·rw[e];exact hl
   ·obtain⟨o,ho,rfl⟩:=PD.mp e
    exact Yx (hP.row o ho) hl
  have e3:=jW ((VN h (lead p (Zj p P r) h) (P.map λo=>clr p o (lead p (Zj p P r) h) h)).trans (List.perm_append_singleton _ _).symm) hQ.falls
  show pZ p n (ZM _).reverse/\toP p (ZM _).reverse=_;rw[e3];exact⟨hQ,by rw[e2,em]⟩
noncomputable def YL (p:Nat) (P:List Row) (rs:List Row):List Row:=rs.foldl (UF p) P
theorem GC:∀{rs:List Row}{P:List Row},pZ p n P->(∀r∈rs,Zn p n r)->pZ p n (YL p P rs)/\toP p (YL p P rs)=WM (Ub p) n (toP p P) (rs.map (toV p))
 |[],P,hP,_=>⟨hP,rfl⟩
 |r::rs,P,hP,hr=>by
  obtain⟨a,b⟩:=yv hP (hr r (Pe ..));obtain⟨c,d⟩:=GC (rs:=rs) a λx hx=>hr x (Pd _ hx)
  refine⟨c,?_⟩;show toP p (YL p (UF p P r) rs)=_;rw[d,b];rfl
theorem Xp {P Q:List Row}(hP:pZ p n P) (hQ:pZ p n Q):pZ p n (YL p P Q)/\toP p (YL p P Q)=join (Ub p) n (toP p P) (toP p Q):=by
 obtain⟨a,b⟩:=GC hP hQ.row;exact⟨a,by rw[b];unfold join;rw[j0]⟩
noncomputable def Zy (P:List Row):List Nat:=P.map λr=>(hdI r).getD 0
noncomputable def XY (n:Nat) (P:List Row):List Nat:=(List.range n).filter λj=>!(Zy P).contains j
theorem Wn (P:List Row):(toP p P).map (·.1)=Zy P:=by unfold toP Zy;rw[Nh];rfl
theorem Qb (P:List Row):free n (toP p P)=XY n P:=by unfold free XY ZR;rw[Wn]
noncomputable def avF (p:Nat) (P:List Row) (f:Nat) (s:Row):Row:=P.foldl (λs r=>s.set ((hdI r).getD 0) ((-(gt r f))%p)) s
noncomputable def avI (p n:Nat) (P:List Row) (f:Nat):Row:=avF p P f ((List.replicate n 0).set f 1)
theorem ut {s:Row}{i j:Nat}{x:Int}(hi:i<s.length):gt (s.set i x) j=if j=i then x else gt s j:=by
 unfold gt;simp only[Po];rw[NG];by_cases c:i=j
 ·rw[Pg c,Pg hi,Pg c.symm];rfl
 ·rw[Pi c,Pi (Ne.symm c)]
theorem xJ:∀{P:List Row}{f:Nat}{s:Row},Zn p n s->Zn p n (avF p P f s)
 |[],_,_,h=>h
 |r::P,f,s,h=>by
  refine xJ (P:=P) ⟨by rw[P1];exact h.1,λa ha=>?_⟩
  rcases List.mem_or_eq_of_mem_set ha with z | z
  ·exact h.2 a z
  ·rw[z];exact⟨Kl _ (by have:=ppos (p:=p);omega),N4 _ ppos⟩
theorem wc:∀{P:List Row}{f:Nat}{s:Row}(j:Nat),(∀r∈P,(hdI r).getD 0<n)->(Zy P).Pairwise (· < ·)->s.length=n->toV p (avF p P f s) j=if ZR (toP p P) j=true then av (toP p P) f j else toV p s j
 |[],_,_,j,_,_,_=>rfl
 |r::P,f,s,j,hb,hi,hl=>by
  have hi':=PK.mp hi;show toV p (avF p P f (s.set ((hdI r).getD 0) ((-(gt r f))%p))) j=_;rw[wc j (λx hx=>hb x (Pd _ hx)) hi'.2 (by rw[P1];exact hl)]
  have e:av (toP p (r::P)) f j=if j=(hdI r).getD 0 then-toV p r f else av (toP p P) f j:=rfl
  have e0:ZR (toP p (r::P)) j=(decide (j=(hdI r).getD 0)||ZR (toP p P) j):=by
   unfold ZR;show (((hdI r).getD 0)::(toP p P).map (·.1)).contains j=_
   rw[KH]
   congr 1
  cases q:ZR (toP p P) j with
  |true=>
   rw[Pg rfl,Pg (by rw[e0,q];simp),e,Pi]
   intro z;have:j∈Zy P:=by rw[<-Wn (p:=p)];unfold ZR at q;exact NN.mp q
   have h5:(hdI r).getD 0<j:=hi'.1 j this;omega
  |false=>
   rw[Pi (by simp)]
   unfold toV;rw[ut (by rw[hl];exact hb r (Pe ..))]
   by_cases c:j=(hdI r).getD 0
   ·rw[Pg c,Pg (by rw[e0];simp[c]),e,Pg c,yb,uI];rfl
   ·rw[Pi c,Pi (by rw[e0,q];simp[c])]
theorem uP {P:List Row}{f:Nat}(hP:pZ p n P) (hf:f∈XY n P):Zn p n (avI p n P f)/\toV p (avI p n P f)=av (toP p P) f:=by
 rw[<-Qb (p:=p)] at hf;obtain⟨f1,f2⟩:=Yc.mp hf;have hone:(1:Int)<p:=by rcases (inferInstance:Base p).b with e | e | e <;> subst e <;> decide
 have hs:Zn p n ((List.replicate n (0:Int)).set f 1):=by
  refine⟨by simp,λa ha=>?_⟩
  rcases List.mem_or_eq_of_mem_set ha with z | z
  ·rw[(List.mem_replicate.mp z).2];exact⟨by omega,ppos⟩
  ·rw[z];exact⟨by omega,hone⟩
 refine⟨xJ hs,?_⟩
 funext j
 unfold avI;rw[wc (n:=n) j (λr hr=>hP.pn.lt _ (YF hr)) (by rw[<-Wn (p:=p)];exact hP.pn.rf.heads) hs.1]
 cases q:ZR (toP p P) j with
 |true=>rw[Pg rfl]
 |false=>
  rw[Pi (by simp),Wd q]
  unfold toV;rw[ut (by simpa using f1)]
  have one:ph p 1=1:=by rcases (inferInstance:Base p).b with e | e | e <;> subst e <;> rfl
  by_cases c:j=f
  ·rw[Pg c,Pg c,one]
  ·rw[Pi c,Pi c]
   have:gt (List.replicate n (0:Int)) j=0:=by
    unfold gt;rw[Po,Nj];split <;> rfl
   rw[this,Va]
noncomputable def Z5 (p n:Nat) (P:List Row):List Row:=YL p [] ((XY n P).map (avI p n P))
theorem YY {P:List Row}(hP:pZ p n P):pZ p n (Z5 p n P)/\toP p (Z5 p n P)=perp (Ub p) n (toP p P):=by
 obtain⟨a,b⟩:=GC (rs:=(XY n P).map (avI p n P)) (pZ.nil (p:=p) (n:=n)) λr hr=>by
  obtain⟨f,hf,rfl⟩:=PD.mp hr;exact (uP hP hf).1
 refine⟨a,?_⟩;unfold Z5;rw[b];unfold perp;rw[Qb,Nh]
 congr 1
 exact NL λf hf=>(uP hP hf).2
noncomputable def Vp (p n:Nat) (P Q:List Row):List Row:=Z5 p n (YL p (Z5 p n P) (Z5 p n Q))
theorem G8 {P Q:List Row}(hP:pZ p n P) (hQ:pZ p n Q):pZ p n (Vp p n P Q)/\toP p (Vp p n P Q)=meet (Ub p) n (toP p P) (toP p Q):=by
 obtain⟨a1,a2⟩:=YY hP;obtain⟨b1,b2⟩:=YY hQ;obtain⟨c1,c2⟩:=Xp a1 b1;obtain⟨d1,d2⟩:=YY c1;exact⟨d1,by unfold Vp;rw[d2,c2,a2,b2];rfl⟩
noncomputable def Wi (p:Nat) (rs:List Row) (o:Row):List Row:=rs.flatMap λr=>(List.range p).map λ(k:Nat)=>Xx p r o (k:Int)
noncomputable def x9 (p n:Nat) (P:List Row):List Row:=P.foldl (Wi p) [List.replicate n 0]
end
end Rw
set_option maxRecDepth 10000
namespace Rw
open La
open Ev (ltI WW ZM)
section
variable {p n:Nat}[Base p]
abbrev Mm (p:Nat) [NeZero p] (P:List Row) (u:Vec (Fin p)):Prop:=Mem (toP p P) u
theorem eqP {A B:List Row}(hA:pZ p n A) (hB:pZ p n B) (h:∀u,Mm p A u↔Mm p B u):A=B:=xR hA.row hB.row (qw fld hA.pn hB.pn h)
theorem xO {P Q:List Row}(hP:pZ p n P) (hQ:pZ p n Q) {u:Vec (Fin p)}(h:Mm p P u):Mm p (YL p P Q) u:=by
 unfold Mm;rw[(Xp hP hQ).2];exact Q3 fld hP.pn hQ.pn h
theorem UE {P Q:List Row}(hP:pZ p n P) (hQ:pZ p n Q) {u:Vec (Fin p)}(h:Mm p Q u):Mm p (YL p P Q) u:=by
 unfold Mm;rw[(Xp hP hQ).2];exact WN fld hP.pn hQ.pn h
theorem UW {P Q R:List Row}(hP:pZ p n P) (hQ:pZ p n Q) (h1:∀u,Mm p P u->Mm p R u) (h2:∀u,Mm p Q u->Mm p R u) {u:Vec (Fin p)}(h:Mm p (YL p P Q) u):Mm p R u:=by
 unfold Mm at h;rw[(Xp hP hQ).2] at h;exact Qf fld hP.pn hQ.pn h1 h2 h
theorem xG {P Q:List Row}(hP:pZ p n P) (hQ:pZ p n Q) (u:Vec (Fin p)):Mm p (Vp p n P Q) u↔Mm p P u/\Mm p Q u:=by
 unfold Mm;rw[(G8 hP hQ).2];exact qQ fld hP.pn hQ.pn u
theorem pJ {P Q:List Row}(hP:pZ p n P) (hQ:pZ p n Q):pZ p n (YL p P Q):=(Xp hP hQ).1
theorem pM {P Q:List Row}(hP:pZ p n P) (hQ:pZ p n Q):pZ p n (Vp p n P Q):=(G8 hP hQ).1
theorem sizes {P Q:List Row}(hP:pZ p n P) (hQ:pZ p n Q):(YL p P Q).length+(Vp p n P Q).length=P.length+Q.length:=by
 have:=vV fld hP.pn hQ.pn (pM hP hQ).pn (xG hP hQ);rw[<-(Xp hP hQ).2] at this
 simpa only[Uw] using this
theorem vZ {P Q:List Row}(hP:pZ p n P) (hQ:pZ p n Q):YL p P Q=YL p Q P:=eqP (pJ hP hQ) (pJ hQ hP) λu=>
 ⟨UW hP hQ (λu=>UE hQ hP) λu=>xO hQ hP,UW hQ hP (λu=>UE hP hQ) λu=>xO hP hQ⟩
theorem jf {P Q:List Row}(hP:pZ p n P) (hQ:pZ p n Q) (h:∀u,Mm p P u->Mm p Q u):YL p P Q=Q:=eqP (pJ hP hQ) hQ λu=>
 ⟨UW hP hQ h λ_ h=>h,UE hP hQ⟩
noncomputable def WP (p:Nat) (P:List Row) (r:Row):Bool:=(hdI (Zj p P r)).isNone
theorem G2 {P:List Row}{r:Row}(hP:pZ p n P) (hr:Zn p n r):WP p P r=true↔Mm p P (toV p r):=by
 unfold Mm;rw[<-jq hP hr];unfold WP;cases hdI (Zj p P r) <;> simp
theorem x6 {F:Type}[Lean.Grind.CommRing F]{x:Nat×Vec F}:∀{P:Pt F},(∀a∈P,a.1<x.1)->ins x P=P++[x]
 |[],_=>rfl
 |y::P,h=>by
  unfold ins;rw[Pi (by have:=h y (Pe ..);omega),x6 λa ha=>h a (Pd _ ha)];rfl
theorem wU {P:List Row}{l:Row}{j:Nat}(hP:pZ p n P) (hl:Zn p n l) (hj:j<n) (h1:gt l j=1) (h0:∀i,i<j->gt l i=0) (hh:∀r∈P,(hdI r).getD 0<j):pZ p n (P.map (λo=>clr p o l j)++[l])/\∀r∈P.map (λo=>clr p o l j)++[l],(hdI r).getD 0<j+1:=by
 have one:ph p 1=1:=by rcases (inferInstance:Base p).b with e | e | e <;> subst e <;> rfl
 have hlt:∀a∈toP p P,a.1<j:=λa ha=>by
  unfold toP at ha;obtain⟨r,hr,rfl⟩:=PD.mp ha;exact hh r hr
 have L:Lead (toP p P) j (toV p l):=⟨by unfold toV;rw[h1,one],λi hi=>(Xh hl).mpr (h0 i hi),λa ha=>(Xh hl).mpr (h0 _ (hlt a ha))⟩
 have rf:=uK fld.one0 hP.pn.rf L;have ew:wid (toP p P) j (toV p l)=(toP p P).map (off j (toV p l))++[(j,toV p l)]:=x6 λa ha=>by
  obtain⟨b,hb,rfl⟩:=PD.mp ha;exact hlt b hb
 have hx:hdI l=some j:=Zbv (by rw[h1];decide) h0
 have hmem:∀o∈P,off j (toV p l) ((hdI o).getD 0,toV p o)∈wid (toP p P) j (toV p l):=λo ho=>by
  rw[ew];exact K3 _ (PD.mpr ⟨_,YF ho,rfl⟩)
 have eh:∀o∈P,hdI (clr p o l j)=some ((hdI o).getD 0):=λo ho=>by
  have ho':=hP.row o ho;have hc:Zn p n (clr p o l j):=Yx ho' hl;have ev:toV p (clr p o l j)=(off j (toV p l) ((hdI o).getD 0,toV p o)).2:=Uo ho' hl;rw[<-JH hc,ev];exact yM (hP.pn.lt _ (YF ho)) (λz=>fld.one0 ((rf.one _ (hmem o ho)).symm.trans z)) (rf.low _ (hmem o ho))
 have eP:toP p (P.map (λo=>clr p o l j)++[l])=wid (toP p P) j (toV p l):=by
  rw[ew];unfold toP;rw[Km,Nh,Nh]
  congr 1
  ·refine NL λo ho=>?_
   show ((hdI (clr p o l j)).getD 0,toV p (clr p o l j))=off j _ ((hdI o).getD 0,toV p o);rw[eh o ho,Uo (hP.row o ho) hl];rfl
  ·show [((hdI l).getD 0,toV p l)]=_
   rw[hx];rfl
 have hrow:∀r∈P.map (λo=>clr p o l j)++[l],Zn p n r:=λr hr=>by
  rcases P7.mp hr with z | z
  ·obtain⟨o,ho,rfl⟩:=PD.mp z
   exact Yx (hP.row o ho) hl
  ·rw[PF.mp z];exact hl
 refine⟨⟨hrow,⟨by rw[eP];exact rf,λa ha=>?_,λa ha=>?_⟩⟩,λr hr=>?_⟩
 ·unfold toP at ha
  obtain⟨r,hr,rfl⟩:=PD.mp ha;rcases P7.mp hr with z | z
  ·obtain⟨o,ho,rfl⟩:=PD.mp z
   show (hdI _).getD 0<n;rw[eh o ho];exact hP.pn.lt _ (YF ho)
  ·rw[PF.mp z];show (hdI l).getD 0<n;rw[hx];exact hj
 ·unfold toP at ha
  obtain⟨r,hr,rfl⟩:=PD.mp ha;exact GQ (hrow r hr)
 ·rcases P7.mp hr with z | z
  ·obtain⟨o,ho,rfl⟩:=PD.mp z
   rw[eh o ho];have:=hh o ho;show (hdI o).getD 0<j+1;omega
  ·rw[PF.mp z,hx];show j<j+1;omega
end
end Rw
namespace Pv
open Ev
open Rw
theorem Zb {α β:Type}{a:α}{s:DS}{f:α->DS->PR β}:(PR.ok a s).bind f=f a s:=rfl
theorem U9 {F:List Fn}{tk d f:Nat}{vs:List V}{s:DS}{fn:Fn}(hf:F[f]? = some fn) (hne:f≠tk) (hl:vs.length=fn.ps):ZU F tk (d+1) f vs s=(rvs (ZU F tk d) (muts fn.body) fn.body (XH fn.ns vs) [] s).bind λg s=>match g with
  |.ret v=>.ok v s
  |.nx _ _=>.ok .non s
  |_=>.no:=by
 rw[ZU,Pi hne,hf];show (if vs.length=fn.ps then _ else _)=_
 rw[Pg hl]
 all_goals rfl
theorem takeF_ok (s:DS) {m:Int}(h:0<m):0<=(takeF s m).1/\(takeF s m).1<m:=by
 unfold takeF;split
 ·exact⟨Kl _ (by omega),N4 _ h⟩
 ·exact⟨Kl _ (by omega),N4 _ h⟩
theorem Q5 {F:List Fn}{tk d:Nat}{m:Int}(s:DS) (h0:0<m) (h1:m<1073741824):∃v s',ZU F tk (d+1) tk [.drw,.int m] s=.ok (.int v) s'/\0<=v/\v<m:=by
 refine⟨(takeF s m).1,(takeF s m).2,?_,takeF_ok s h0⟩;rw[ZU,Pg rfl];show (if 0<m/\m<1073741824 then _ else _)=_
 rw[Pg ⟨h0,h1⟩]
theorem U5 {α:Type}{f:V->DS->PR (List V)}{s:DS}{e:α->V}{g:α->V}:∀{l:List α},(∀x∈l,f (e x) s=.ok [g x] s)->mapP f (l.map e) s=.ok (l.map g) s
 |[],_=>rfl
 |x::l,h=>by
  rw[PP,mapP,h x (Pe ..)];show (match mapP f (l.map e) s with | .ok zs s=>PR.ok ([g x]++zs) s | _=>.no)=_
  rw[U5 λy hy=>h y (Pd _ hy)];rfl
theorem V2 {α:Type}{f:V->DS->PR (List V)}{s:DS}{e:α->V}{g:α->V}{q:α->Bool}:∀{l:List α},(∀x∈l,f (e x) s=.ok (if q x=true then [g x] else []) s)->mapP f (l.map e) s=.ok ((l.filter q).map g) s
 |[],_=>rfl
 |x::l,h=>by
  rw[PP,mapP,h x (Pe ..)];show (match mapP f (l.map e) s with | .ok zs s=>PR.ok ((if q x=true then [g x] else [])++zs) s | _=>.no)=_
  rw[V2 λy hy=>h y (Pd _ hy),Kv]
  show PR.ok _ s=_;cases q x <;> rfl
theorem Jw {α:Type}{f:V->DS->PR (List V)}{s:DS}{e:α->V}{g:α->List V}:∀{l:List α},(∀x∈l,f (e x) s=.ok (g x) s)->mapP f (l.map e) s=.ok (l.flatMap g) s
 |[],_=>rfl
 |x::l,h=>by
  rw[PP,mapP,h x (Pe ..)];show (match mapP f (l.map e) s with | .ok zs s=>PR.ok (g x++zs) s | _=>.no)=_
  rw[Jw λy hy=>h y (Pd _ hy)];rfl
theorem QW {f:V->DS->PR (List V)}{Q:V->Prop}(h:∀x s,∃y s',f x s=.ok [y] s'/\Q y):∀(l:List V) (s:DS),∃ys s',mapP f l s=.ok ys s'/\ys.length=l.length/\∀y∈ys,Q y
 |[],s=>⟨[],s,rfl,rfl,λ_ h=>by cases h⟩
 |x::l,s=>by
  obtain⟨y,s1,e1,q1⟩:=h x s;obtain⟨ys,s2,e2,l2,q2⟩:=QW h l s1;refine⟨y::ys,s2,?_,by rw[Px,Px,l2],λz hz=>?_⟩
  ·rw[mapP,e1]
   show (match mapP f l s1 with | .ok zs s=>PR.ok ([y]++zs) s | _=>.no)=_
   rw[e2];rfl
  ·rcases Pk.mp hz with rfl | hz
   ·exact q1
   ·exact q2 z hz
theorem Ju {σ α:Type}{body:V->Env->List Nat->DS->PR FlV}{s:DS}{os:List Nat}{ρ:σ->Option V->Env}{step:σ->α->σ}{e:α->V}(I:σ->Prop):∀{l:List α}{st:σ}{o:Option V},I st->(∀x∈l,∀st o,I st->I (step st x)/\∃o',body (e x) (ρ st o) os s=.ok (.nx (ρ (step st x) o') os) s)->∃o',I (l.foldl step st)/\V9 body (l.map e) (ρ st o) os s=.ok (.nx (ρ (l.foldl step st) o') os) s
 |[],st,o,hI,_=>⟨o,hI,rfl⟩
 |x::l,st,o,hI,h=>by
  obtain⟨h1,o1,e1⟩:=h x (Pe ..) st o hI;obtain⟨o2,h2,e2⟩:=Ju I (l:=l) (st:=step st x) (o:=o1) h1 λy hy=>h y (Pd _ hy)
  refine⟨o2,h2,?_⟩;rw[PP,V9,e1];exact e2
noncomputable def UU:Option Nat->V
 |none=>.non
 |some k=>.int k
noncomputable def spV (p n:Nat):V:=.tup [.int p,.int n]
theorem Z3 {a:Int}(h:-4294967296<a) (h':a<4294967296):fits a=true:=by
 unfold fits;refine PC ?_;have h1:a.natAbs<2^32:=by omega
 exact PL h1 (Nn (by decide) (by decide))
theorem WT {α:Type}{xs:List α}{k:Nat}{x:α}(h:xs[k]? = some x):at' xs (k:Int)=some x:=by
 have hk:k<xs.length:=(Pr.mp h).1;unfold at' ixN;rw[Pg (by omega),Pg (by omega)]
 show xs[(k:Int).toNat]? = _;rw[show (k:Int).toNat=k by omega];exact h
theorem VZ {r:Row}{k:Nat}(hk:k<r.length):at' (r.map V.int) (k:Int)=some (.int (gt r k)):=by
 refine WT ?_;rw[PH,Pc hk];unfold gt;rw[Po,Pc hk];rfl
theorem ZX {α:Type}{g:α->Bool}:∀l:List α,ZN (l.map λx=>.bl (g x))=some (l.map g)
 |[]=>rfl
 |x::l=>by rw[PP,ZN,ZX l];rfl
theorem Vw {α:Type}{f:V->V->Option Bool}{e:α->V}{d:α->α->Bool}(hd:∀a b,d a b=true↔a=b) (h:∀a b,f (e a) (e b)=some (d a b)):∀a b:List α,∃c,Vk f (a.map e) (b.map e)=some c/\(c=true↔a=b)
 |[],[]=>⟨true,rfl,by simp⟩
 |[],_::_=>⟨false,rfl,by simp⟩
 |_::_,[]=>⟨false,rfl,by simp⟩
 |x::a,y::b=>by
  obtain⟨c,e1,e2⟩:=Vw hd h a b;refine⟨d x y&&c,?_,?_⟩
  ·rw[PP,PP,Vk,h,e1]
  ·rw[Py,hd,e2];simp
theorem Zah (k:Nat) (a b:Row):eqV (k+2) (Zf a) (Zf b)=some (decide (a=b)):=by
 show Vk (eqV (k+1)) (a.map .int) (b.map .int)=_;obtain⟨c,e1,e2⟩:=Vw (f:=eqV (k+1)) (e:=V.int) (d:=λa b=>decide (a=b)) (λa b=>by simp) (λa b=>rfl) a b
 rw[e1,show c=decide (a=b) by rw[P3,e2];simp]
theorem Ql (k:Nat) (a b:List Row):eqV (k+3) (Za a) (Za b)=some (decide (a=b)):=by
 show Vk (eqV (k+2)) (a.map Zf) (b.map Zf)=_;obtain⟨c,e1,e2⟩:=Vw (f:=eqV (k+2)) (e:=Zf) (d:=λa b=>decide (a=b)) (λa b=>by simp) (λa b=>Zah k a b) a b
 rw[e1,show c=decide (a=b) by rw[P3,e2];simp]
theorem GY:∀(r o:Row),((r.map V.int).zip (o.map V.int)).map (λq=>V.tup [q.1,q.2])=(r.zip o).map λq=>V.tup [.int q.1,.int q.2]
 |[],_=>rfl
 |_::_,[]=>rfl
 |a::r,b::o=>by rw[PP,PP,Nf,PP,Nf,PP,GY r o]
theorem Ji:∀r:Row,intsV (r.map V.int)=some r
 |[]=>rfl
 |a::r=>by show (intsV (r.map V.int)).map (a :: ·)=_;rw[Ji r];rfl
theorem Xn:∀P:List Row,Ye (P.map Zf)=some P
 |[]=>rfl
 |r::P=>by
  show (match intsV (r.map V.int),Ye (P.map Zf) with | some a,some b=>some (a::b) | _,_=>none)=_
  rw[Ji,Xn P]
theorem XA:∀r:Row,fq (r.map V.int)=true
 |[]=>rfl
 |a::r=>XA r
theorem jZ (n:Nat):Yn 0 n=(List.range n).map λ(k:Nat)=>V.int (k:Int):=by
 unfold Yn;refine NL λk _=>?_
 simp
theorem Z4 {α:Type}{a:α}{s:DS}:po (some a) s=.ok a s:=rfl
section
variable {C:Zt}{cap:List Nat}{nl:Nat}{t:List Nat}{it:W}{elt tst:E}{ρ:Env}{s:DS}{α:Type}
theorem ZJ {l:List α}{e g:α->V}(hw:pvw C it ρ s=.ok (l.map e) s) (hl:l.length<=lim) (h:∀x∈l,∃σ,Zu t (e x) (Z8 cap nl ρ)=some σ/\pv C elt σ s=.ok (g x) s) (ho:own nl t=true:=by rfl):pv C (.comp1 cap nl t it [] elt) ρ s=.ok (.lst (l.map g)) s:=by
 rw[pv,Pg ho,hw,Zb,U5 (g:=g) λx hx=>by
  obtain⟨σ,e1,e2⟩:=h x hx;rw[e1,Z4,Zb,pvt,Zb];show (pv C elt σ s).bind _=_;rw[e2];rfl]
 rw[Zb,Pg (by rw[Pj];exact hl)]
theorem Y4 {l:List α}{e g:α->V}{q:α->Bool}(hw:pvw C it ρ s=.ok (l.map e) s) (hl:l.length<=lim) (h:∀x∈l,∃σ v,Zu t (e x) (Z8 cap nl ρ)=some σ/\pv C tst σ s=.ok v s/\Yi v=some (q x)/\(q x=true->pv C elt σ s=.ok (g x) s)) (ho:own nl t=true:=by rfl):pv C (.comp1 cap nl t it [tst] elt) ρ s=.ok (.lst ((l.filter q).map g)) s:=by
 rw[pv,Pg ho,hw,Zb,V2 (g:=g) (q:=q) λx hx=>by
  obtain⟨σ,v,e1,e2,e3,e4⟩:=h x hx;rw[e1,Z4,Zb,pvt,e2,Zb,e3,Z4,Zb];cases c:q x with
  |true=>
   rw[Pg rfl,pvt,Zb,Pg rfl,Pg rfl,e4 c];rfl
  |false=>rw[Pi (by simp),Zb,Pi (by simp),Pi (by simp)]]
 rw[Zb,Pg (by rw[Pj];exact PY (KY ..) hl)]
theorem U8 {β:Type}{u:List Nat}{jt:W}{l:List α}{e:α->V}{m:α->List β}{e2:β->V}{g:α->β->V}(hw:pvw C it ρ s=.ok (l.map e) s) (hl:(l.flatMap λx=>(m x).map (g x)).length<=lim)
  (h:∀x∈l,∃σ,Zu t (e x) (Z8 cap nl ρ)=some σ/\pvw C jt σ s=.ok ((m x).map e2) s/\∀y∈m x,∃σ',Zu u (e2 y) σ=some σ'/\pv C elt σ' s=.ok (g x y) s) (ho:own2 nl t u=true:=by rfl):pv C (.comp2 cap nl t it [] u jt [] elt) ρ s=.ok (.lst (l.flatMap λx=>(m x).map (g x))) s:=by
 rw[pv,Pg ho,hw,Zb,Jw (g:=λx=>(m x).map (g x)) λx hx=>by
  obtain⟨σ,e1,e3,e4⟩:=h x hx;rw[e1,Z4,Zb,pvt,Zb,Pg rfl,e3,Zb];exact U5 λy hy=>by
   obtain⟨σ',f1,f2⟩:=e4 y hy;rw[f1,Z4,Zb,pvt,Zb];show (pv C elt σ' s).bind _=_;rw[f2];rfl]
 rw[Zb,Pg hl]
theorem vT {k:Nat}{Q:V->Prop}(hw:pvw C it ρ s=.ok (Yn 0 k) s) (hl:k<=lim) (h:∀(x:V) (s:DS),∃σ y s',Zu t x (Z8 cap nl ρ)=some σ/\pv C elt σ s=.ok y s'/\Q y) (ho:own nl t=true:=by rfl) :
  ∃ys s',pv C (.comp1 cap nl t it [] elt) ρ s=.ok (.lst ys) s'/\ys.length=k/\∀y∈ys,Q y:=by
 obtain⟨ys,s',e1,e2,e3⟩:=QW (Q:=Q) (f:=λx s=>(po (Zu t x (Z8 cap nl ρ)) s).bind λσ s=>(pvt C [] σ s).bind λb s=>if b then (pv C elt σ s).bind λy s=>.ok [y] s else .ok [] s) (λx s=>by
  obtain⟨σ,y,s',f1,f2,f3⟩:=h x s;refine⟨y,s',?_,f3⟩;rw[f1,Z4,Zb,pvt,Zb];show (pv C elt σ s).bind _=_;rw[f2];rfl) (Yn 0 k) s
 have hk:(Yn 0 k).length=k:=by unfold Yn;simp
 refine⟨ys,s',?_,by rw[e2,hk],e3⟩
 rw[pv,Pg ho,hw,Zb,e1,Zb,Pg (by rw[e2,hk];exact hl)]
end
theorem yT {xs:List V}{k:Nat}(h:k<=xs.length):Xo xs none (some (k:Int))=xs.take k:=by
 show (xs.drop 0).take ((if (k:Int)<0 then ((k:Int)+xs.length).toNat else min (k:Int).toNat xs.length)-0)=_
 rw[Pi (by omega),show min (k:Int).toNat xs.length-0=k by omega];rfl
theorem Qw {xs:List V}{i:Int}{k:Nat}(hi:i=k) (h:k<=xs.length):Xo xs (some i) none=xs.drop k:=by
 subst hi;show (xs.drop (if (k:Int)<0 then ((k:Int)+xs.length).toNat else min (k:Int).toNat xs.length)).take (xs.length-(if (k:Int)<0 then ((k:Int)+xs.length).toNat else min (k:Int).toNat xs.length))=_
 rw[Pi (by omega),show min (k:Int).toNat xs.length=k by omega]
 exact KQ (by rw[ND];omega)
theorem GZ {xs:List V}:Xo xs (some 1) none=xs.tail:=by
 cases xs with
 |nil=>rfl
 |cons x xs=>exact Qw (k:=1) rfl (by simp)
noncomputable def Ze (k:Nat):V:=.int k
theorem xS (n:Nat):Yn 0 n=(List.range n).map Ze:=by rw[jZ];rfl
theorem Xz {i:Int}(h0:0<=i) (h1:i<1000000):small i=true:=by
 unfold small;have e:(2:Int)^62=4611686018427387904:=by decide
 rw[e];exact PC ⟨by omega,by omega⟩
theorem Zl {F:List Fn}{tk d f:Nat}{vs:List V}{s s':DS}{fn:Fn}{v:V}(hf:F[f]? = some fn) (hne:f≠tk) (hl:vs.length=fn.ps) (h:rvs (ZU F tk d) (muts fn.body) fn.body (XH fn.ns vs) [] s=.ok (.ret v) s'):ZU F tk (d+1) f vs s=.ok v s':=by
 rw[U9 hf hne hl,h];rfl
theorem XO {F:List Fn}{tk d f:Nat}{vs:List V}{s s':DS}{fn:Fn}{ρ:Env}{os:List Nat}(hf:F[f]? = some fn) (hne:f≠tk) (hl:vs.length=fn.ps) (h:rvs (ZU F tk d) (muts fn.body) fn.body (XH fn.ns vs) [] s=.ok (.nx ρ os) s'):ZU F tk (d+1) f vs s=.ok .non s':=by
 rw[U9 hf hne hl,h];rfl
section
variable {C:Zt}{ms:List Nat}{m:Sm}{l:List Sm}{ρ ρ':Env}{os os':List Nat}{s s':DS}
theorem Zg (h:rv C ms m ρ os s=.ok (.nx ρ' os') s'):rvs C ms (m::l) ρ os s=rvs C ms l ρ' os' s':=by rw[rvs,h];rfl
theorem Zo {v:V}(h:rv C ms m ρ os s=.ok (.ret v) s'):rvs C ms (m::l) ρ os s=.ok (.ret v) s':=by rw[rvs,h];rfl
theorem ZB {v:V}{e:E}(h:pv C e ρ s=.ok v s'):rv C ms (.ret e) ρ os s=.ok (.ret v) s':=by rw[rv,h];rfl
theorem Xe {v:V}{f:Nat}{as:List E}(h:pv C (.call f as) ρ s=.ok v s'):rv C ms (.ex (.call f as)) ρ os s=.ok (.nx ρ os) s':=by
 have:rv C ms (.ex (.call f as)) ρ os s=(pv C (.call f as) ρ s).bind λ_ s=>.ok (.nx ρ os) s:=by
  rw[rv]
  all_goals (intro _ _ z;cases z)
 rw[this,h];rfl
theorem Wc {b:Bool}{t:E}{x y:List Sm}(h:Ue C t ρ s=.ok b s'):rv C ms (.ite t x y) ρ os s=if b=true then rvs C ms x ρ os s' else rvs C ms y ρ os s':=by rw[rv,h];rfl
theorem XC {v:V}{b:Bool}{t:E}(h:pv C t ρ s=.ok v s') (hb:Yi v=some b):Ue C t ρ s=.ok b s':=by unfold Ue;rw[h,Zb,hb];rfl
theorem Zk {f:Nat}{as:List E}{vs:List V}{v:V}{s1:DS}(h:pvs C as ρ s=.ok vs s1) (hc:C f vs s1=.ok v s'):pv C (.call f as) ρ s=.ok v s':=by rw[pv,h];exact hc
theorem Zi:pvs C [] ρ s=.ok [] s:=by rw[pvs]
theorem Zc {e:E}{es:List E}{v:V}{vs:List V}{s1:DS}(h:pv C e ρ s=.ok v s1) (h2:pvs C es ρ s1=.ok vs s'):pvs C (e::es) ρ s=.ok (v::vs) s':=by rw[pvs,h,Zb,h2];rfl
theorem Zd {i:Nat}{v:V}(h:ρ[i]? = some (some v)):pv C (.v i) ρ s=.ok v s:=by rw[pv,h];rfl
theorem ZW {i:Nat}{e:E}{v:V}(h:pv C e ρ s=.ok v s') (hm:(ms.contains i&&fresh e)=false):rv C ms (.asg [i] e) ρ [] s=.ok (.nx (ρ.set i (some v)) []) s':=by
 rw[rv];show (pv C e ρ s).bind _=_;rw[h,Zb,Pi (by rw[hm];simp)];rfl
theorem Gc {σ α:Type}{t:List Nat}{it:W}{b:List Sm}{L:List α}{e:α->V}{step:σ->α->σ}{ρ:σ->Option V->Env}{st:σ}{o:Option V}(I:σ->Prop) (hw:pvw C it (hide os (ρ st o)) s=.ok (L.map e) s) (hI:I st) (ht:(t.any os.contains)=false)
  (h:∀x∈L,∀st o,I st->I (step st x)/\(os.isEmpty||(e x).flat)=true/\∃ρ1 o',Zu t (e x) (ρ st o)=some ρ1/\rvs C ms b ρ1 os s=.ok (.nx (ρ (step st x) o') os) s) :
  ∃o',I (L.foldl step st)/\rv C ms (.forr t it b) (ρ st o) os s=.ok (.nx (ρ (L.foldl step st) o') os) s:=by
 obtain⟨o',h1,h2⟩:=Ju (body:=λx ρ os s=>if (t.any os.contains)=true then .no else if (os.isEmpty||x.flat)=true then (po (Zu t x ρ) s).bind λρ s=>rvs C ms b ρ os s else .no) (s:=s) (os:=os) (ρ:=ρ) (step:=step) (e:=e) I (l:=L) (st:=st) (o:=o) hI (λx hx st o hI=>by
  obtain⟨a,f,ρ1,o',b1,b2⟩:=h x hx st o hI;refine⟨a,o',?_⟩;rw[Pi (by rw[ht];simp),Pg f,b1,Z4,Zb,b2])
 refine⟨o',h1,?_⟩;rw[rv,hw,Zb];exact h2
theorem XV {e:E}{n:Nat}(h:pv C e ρ s=.ok (.int n) s') (hn:n<1000000):pvw C (.rng1 e) ρ s=.ok ((List.range n).map Ze) s':=by
 rw[pvw,h,Zb];show (if small (n:Int)=true then PR.ok (Yn 0 (n:Int).toNat) s' else .no)=_
 rw[Pg (Xz (by omega) (by omega)),Int.toNat_natCast,xS]
theorem XM {σ α:Type}{t:List Nat}{it:W}{b:List Sm}{L:List α}{e:α->V}{step:σ->α->σ}{ρ:σ->Option V->Env}{st:σ}{o:Option V}(I:List α->σ->Prop) (hw:pvw C it (hide os (ρ st o)) s=.ok (L.map e) s) (hI:I L st) (ht:(t.any os.contains)=false)
  (h:∀x l st o,I (x::l) st->I l (step st x)/\(os.isEmpty||(e x).flat)=true/\∃ρ1 o',Zu t (e x) (ρ st o)=some ρ1/\rvs C ms b ρ1 os s=.ok (.nx (ρ (step st x) o') os) s) :
  ∃o',I [] (L.foldl step st)/\rv C ms (.forr t it b) (ρ st o) os s=.ok (.nx (ρ (L.foldl step st) o') os) s:=by
 rw[rv,hw,Zb];clear hw
 induction L generalizing st o with
 |nil=>exact⟨o,hI,rfl⟩
 |cons x L ih=>
  obtain⟨a,f,ρ1,o',b1,b2⟩:=h x L st o hI;obtain⟨o2,c1,c2⟩:=ih (st:=step st x) (o:=o') a;refine⟨o2,c1,?_⟩;rw[PP,V9,Pi (by rw[ht];simp),Pg f,b1,Z4,Zb,b2,Zb]
  exact c2
end
theorem pvF:(∀a,fresh (.lst a)=true)/\(∀a b,fresh (.bin .mul (.lst a) b)=true)/\(∀b,Yi (.bl b)=some b)/\(∀i,Yi (.int i)=some (decide (i≠0)))/\(∀xs,Yi (.tup xs)=some (!xs.isEmpty))/\(∀xs,Yi (.lst xs)=some (!xs.isEmpty))/\(Yi .non=some false)/\(∀xs i,ixV (.tup xs) (.int i)=at' xs i)/\(∀xs i,ixV (.lst xs) (.int i)=at' xs i)/\(∀xs,Z6 (.tup xs)=some xs)/\(∀xs,Z6 (.lst xs)=some xs)/\(∀x,QC .len [x]=(Z6 x).map λxs=>.int xs.length)/\(∀x,QC .tuple [x]=(Z6 x).map .tup)/\(∀x,QC .list [x]=(Z6 x).map .lst)/\(∀xs,QC .all [.lst xs]=(ZN xs).map λbs=>.bl (bs.all id))/\(∀a b,QC .max2 [.int a,.int b]=some (.int (if b>a then b else a)))/\(∀a b,QC .min2 [.int a,.int b]=some (.int (if b<a then b else a)))/\(∀a,QC .toInt [.int a]=some (.int a))/\(∀a,QC .toInt [.bl a]=some (.int (b2i a)))/\(∀xs,QC .sortedR [.lst xs]=(Ye xs).bind λrs=>if sortOk rs=true then some (.lst ((ZM rs).reverse.map Zf)) else none)/\(∀a b s,Qd .add (.int a) (.int b) s=.ok (.int (a+b)) s)/\(∀a b s,Qd .sub (.int a) (.int b) s=.ok (.int (a-b)) s)/\(∀a b s,Qd .mul (.int a) (.int b) s=if (fits a&&fits b)=true then .ok (.int (a*b)) s else .no)/\(∀a b s,Qd .mod (.int a) (.int b) s=if 0<b then .ok (.int (a%b)) s else .no)/\(∀a b s,Qd .add (.tup a) (.tup b) s=if a.length+b.length<=lim then .ok (.tup (a++b)) s else .no)/\(∀a b s,Qd .mul (.tup a) (.int b) s=if 0<=b/\b<1000/\a.length<=1000 then .ok (.tup (List.replicate b.toNat a).flatten) s else .no)/\(∀a b s,Qd .mul (.lst a) (.int b) s=if 0<=b/\b<1000/\a.length<=1000 then .ok (.lst (List.replicate b.toNat a).flatten) s else .no)/\(∀a b s,Qd .add (.lst a) (.lst b) s=if a.length+b.length<=lim then .ok (.lst (a++b)) s else .no)/\(∀x y,WI .eq x y=(eqV Zm x y).map .bl)/\(∀x y,WI .ne x y=(eqV Zm x y).map λb=>.bl !b)/\(∀a b,WI .lt (.int a) (.int b)=some (.bl (decide (a<b))))/\(∀a b,WI .gt (.int a) (.int b)=some (.bl (decide (b<a))))/\(∀a b,WI .le (.int a) (.int b)=some (.bl (decide (a<=b))))/\(∀a b,WI .ge (.int a) (.int b)=some (.bl (decide (b<=a))))/\(∀x,WI .is x .non=some (.bl (Xs x)))/\(∀x,WI .isn x .non=some (.bl !(Xs x)))/\(∀a b,WI .is (.bl a) (.bl b)=some (.bl (decide (a=b))))/\(∀a b,WI .isn (.bl a) (.bl b)=some (.bl (decide (a≠b))))/\(∀x y,WI .inn x y=(Wg x y).map .bl)/\(∀x y,WI .nin x y=(Wg x y).map λb=>.bl !b)/\(Xs .non=true)/\(∀b,Xs (.bl b)=false)/\(∀b,Xs (.int b)=false)/\(∀b,Xs (.tup b)=false)/\(∀b,Xs (.lst b)=false)/\(ofD .non=some .non)/\(∀b,ofD (.bl b)=some (.bl b))/\(∀b,ofD (.int b)=some (.int b))/\(∀ρ,YO [] [] ρ=some ρ)/\(∀i t x xs ρ,YO (i::t) (x::xs) ρ=YO t xs (ρ.set i (some x)))/\(∀i x ρ,Zu [i] x ρ=some (ρ.set i (some x)))/\(∀i j t xs ρ,Zu (i::j::t) (.tup xs) ρ=YO (i::j::t) xs ρ)/\(∀i j t xs ρ,Zu (i::j::t) (.lst xs) ρ=YO (i::j::t) xs ρ)/\(∀k a b,eqV (k+1) (.int a) (.int b)=some (decide (a=b)))/\(∀k a b,eqV (k+1) (.bl a) (.bl b)=some (decide (a=b)))/\(∀k a b,eqV (k+1) (.tup a) (.tup b)=Vk (eqV k) a b)/\(∀k a b,eqV (k+1) (.lst a) (.lst b)=if a.length=b.length then Vk (eqV k) a b else some false):=
 ⟨λ_=>rfl,λ_ _=>rfl,λ_=>rfl,λ_=>rfl,λ_=>rfl,λ_=>rfl,rfl,λ_ _=>rfl,λ_ _=>rfl,λ_=>rfl,λ_=>rfl,λ_=>rfl,λ_=>rfl,λ_=>rfl,λ_=>rfl,λ_ _=>rfl,λ_ _=>rfl,λ_=>rfl,λ_=>rfl,λ_=>rfl,λ_ _ _=>rfl,λ_ _ _=>rfl,λ_ _ _=>rfl,λ_ _ _=>rfl,λ_ _ _=>rfl,λ_ _ _=>rfl,λ_ _ _=>rfl,λ_ _ _=>rfl,λ_ _=>rfl,λ_ _=>rfl,λ_ _=>rfl,λ_ _=>rfl,λ_ _=>rfl,λ_ _=>rfl,λ_=>rfl,λ_=>rfl,λ_ _=>rfl,λ_ _=>rfl,λ_ _=>rfl,λ_ _=>rfl,rfl,λ_=>rfl,λ_=>rfl,λ_=>rfl,λ_=>rfl,rfl,λ_=>rfl,λ_=>rfl,λ_=>rfl,λ_ _ _ _ _=>rfl,λ_ _ _=>rfl,λ_ _ _ _ _=>rfl,λ_ _ _ _ _=>rfl,λ_ _ _=>rfl,λ_ _ _=>rfl,λ_ _ _=>rfl,λ_ _ _=>rfl⟩
def pvE:=And.intro (And.intro (And.intro (And.intro (And.intro (And.intro pvF @Zb) (And.intro @Z4 @Ue.eq_1)) (And.intro (And.intro @XH.eq_1 @hide.eq_1) (And.intro @Z8.eq_1 @Option.join.eq_1.{0}))) (And.intro (And.intro (And.intro @lim.eq_1 @rvs.eq_1) (And.intro @rvs.eq_2 @rv.eq_1)) (And.intro (And.intro @rv.eq_2 @rv.eq_3) (And.intro @rv.eq_4 @rv.eq_5)))) (And.intro (And.intro (And.intro (And.intro @rv.eq_6 @rv.eq_7) (And.intro @rv.eq_8 @rv.eq_9)) (And.intro (And.intro @rv.eq_10 @rv.eq_11) (And.intro @rv.eq_12 @rv.eq_13))) (And.intro (And.intro (And.intro @rv.eq_14 @rv.eq_15) (And.intro @rv.eq_16 @rv.eq_17)) (And.intro (And.intro @rv.eq_18 @pvA.eq_1) (And.intro @pvA.eq_2 (And.intro @pvs.eq_1 @pvs.eq_2)))))) (And.intro (And.intro (And.intro (And.intro (And.intro @pvo.eq_1 @pvo.eq_2) (And.intro @pvt.eq_1 @pvt.eq_2)) (And.intro (And.intro @pvw.eq_1 @pvw.eq_2) (And.intro @pvw.eq_3 @pvw.eq_4))) (And.intro (And.intro (And.intro @pvw.eq_5 @pvw.eq_6) (And.intro @pv.eq_1 @pv.eq_2)) (And.intro (And.intro @pv.eq_3 @pv.eq_4) (And.intro @pv.eq_5 @pv.eq_6)))) (And.intro (And.intro (And.intro (And.intro @pv.eq_7 @pv.eq_8) (And.intro @pv.eq_9 @pv.eq_10)) (And.intro (And.intro @pv.eq_11 @pv.eq_12) (And.intro @pv.eq_13 @pv.eq_14))) (And.intro (And.intro (And.intro @pv.eq_15 @pv.eq_16) (And.intro @pv.eq_17 @pv.eq_18)) (And.intro (And.intro @pv.eq_19 @pv.eq_20) (And.intro @pv.eq_21 (And.intro @pv.eq_22 @pv.eq_23))))))
end Pv
set_option maxRecDepth 10000
namespace Rw
open La
open Ev (ltI WW ZM)
section
variable {p n:Nat}[Base p]
theorem pP {P:List Row}(hP:pZ p n P):pZ p n (Z5 p n P):=(YY hP).1
theorem G9 {P:List Row}(hP:pZ p n P):Z5 p n (Z5 p n P)=P:=by
 refine xR (pP (pP hP)).row hP.row ?_;rw[(YY (pP hP)).2,(YY hP).2,VL fld hP.pn]
theorem zI {P:List Row}(hP:pZ p n P):(Z5 p n P).length+P.length=n:=by
 have:=Wl (inv:=Ub p) fld hP.pn;rw[<-(YY hP).2,Uw,Uw] at this;exact this
theorem ym {P Q:List Row}(hP:pZ p n P) (hQ:pZ p n Q):Vp p n (Z5 p n P) (Z5 p n Q)=Z5 p n (YL p P Q):=by
 unfold Vp;rw[G9 hP,G9 hQ]
noncomputable def Wj (p:Nat) (rs:List Row):List Row:=rs.flatMap λr=>(List.range p).map λ(k:Nat)=>r++[(k:Int)]
noncomputable def ZV (p n h:Nat):List Row:=(List.range (n-(h+1))).foldl (λrs _=>Wj p rs) [List.replicate h 0++[1]]
noncomputable def Z7 (P:List Row):Nat:=match P.getLast? with
 |some r=>(hdI r).getD 0+1
 |none=>0
noncomputable def WS (n f:Nat):List Nat:=((List.range (n-f)).map (f + ·)).reverse
noncomputable def yn (p n:Nat) (P:List Row) (st:List Row) (h:Nat):List Row:=if (P.all λr=>decide (gt r h=0))=true then st++ZV p n h else st
noncomputable def Ja (p n:Nat) (P:List Row):List Row:=(WS n (Z7 P)).foldl (yn p n P) []
noncomputable def zj (p n:Nat) (Ps:List (List Row)):List (List Row):=Ps.flatMap λP=>(Ja p n P).map λr=>P++[r]
noncomputable def ZC (p n:Nat):Nat->List (List Row)
 |0=>[[]]
 |k+1=>zj p n (ZC p n k)
def jH (p h m:Nat) (r:Row):Prop:=∃t:Row,r=List.replicate h 0++1::t/\t.length=m/\∀a∈t,0<=a/\a<(p:Int)
theorem j3 {h m:Nat}{rs:List Row}(H:∀r∈rs,jH p h m r):∀r∈Wj p rs,jH p h (m+1) r:=λr hr=>by
 obtain⟨q,hq,hr⟩:=K2.mp hr;obtain⟨k,hk,rfl⟩:=PD.mp hr;obtain⟨t,rfl,ht,hb⟩:=H q hq;have hk':=PQ.mp hk;refine⟨t++[(k:Int)],by simp,by simp[ht],λa ha=>?_⟩
 rcases P7.mp ha with z | z
 ·exact hb a z
 ·rw[PF.mp z];exact⟨by omega,by omega⟩
theorem zD (rs:List Row):(Wj p rs).length=rs.length*p:=by
 unfold Wj;rw[Kd];simp only[Pj,P0];rw[KE,NX]
theorem zP {h:Nat}:∀(L:List Nat) {m:Nat}{rs:List Row},(∀r∈rs,jH p h m r)->(∀r∈L.foldl (λrs _=>Wj p rs) rs,jH p h (m+L.length) r)/\(L.foldl (λrs _=>Wj p rs) rs).length=rs.length*p^L.length
 |[],m,rs,H=>⟨H,by simp⟩
 |_::L,m,rs,H=>by
  obtain⟨a,b⟩:=zP L (j3 H);refine⟨λr hr=>?_,?_⟩
  ·have:=a r hr
   rw[show m+1+L.length=m+(L.length+1) by omega] at this
   exact this
  ·rw[List.foldl_cons,b,zD,Px,Nat.pow_succ,Nat.mul_assoc,Tf p]
theorem QT {h:Nat}(hh:h<n):(∀r∈ZV p n h,Zn p n r/\gt r h=1/\∀i,i<h->gt r i=0)/\(ZV p n h).length=p^(n-(h+1)):=by
 have hone:(1:Int)<p:=by rcases (inferInstance:Base p).b with e | e | e <;> subst e <;> decide
 obtain⟨a,b⟩:=zP (p:=p) (h:=h) (List.range (n-(h+1))) (m:=0) (rs:=[List.replicate h 0++[1]]) λr hr=>⟨[],by rw[PF.mp hr],rfl,λa ha=>by cases ha⟩
 refine⟨λr hr=>?_,by unfold ZV;rw[b];simp⟩
 obtain⟨t,rfl,ht,hb⟩:=a r hr;rw[P0] at ht;refine⟨⟨by simp[ht];omega,λx hx=>?_⟩,?_,λi hi=>?_⟩
 ·rcases P7.mp hx with z | z
  ·rw[(List.mem_replicate.mp z).2];exact⟨by omega,by omega⟩
  ·rcases Pk.mp z with rfl | z
   ·exact⟨by omega,hone⟩
   ·exact hb x z
 ·unfold gt;rw[Po,PU (by simp)];simp
 ·unfold gt;rw[Po,PB (by simpa using hi),Nj];simp[hi]
theorem zr {P:List Row}{r:Row}:∀(L:List Nat) (st:List Row),r∈L.foldl (yn p n P) st->r∈st\/∃h∈L,(∀q∈P,gt q h=0)/\r∈ZV p n h
 |[],st,hr=>.inl hr
 |h::L,st,hr=>by
  rcases zr L (yn p n P st h) hr with z | ⟨k,hk,z⟩
  ·unfold yn at z
   split at z
   ·rename_i c
    rcases P7.mp z with z | z
    ·exact .inl z
    ·exact .inr ⟨h,Pe ..,λq hq=>Pq (PN.mp c q hq),z⟩
   ·exact .inl z
  ·exact .inr ⟨k,Pd _ hk,z⟩
theorem Qs {f h:Nat}:h∈WS n f↔f<=h/\h<n:=by
 unfold WS;rw[List.mem_reverse,PD]
 constructor
 ·rintro ⟨k,hk,rfl⟩
  have:=PQ.mp hk;omega
 ·rintro ⟨a,b⟩
  exact⟨h-f,PQ.mpr (by omega),by omega⟩
theorem v3 {P:List Row}{r:Row}(hr:r∈Ja p n P):∃h,Z7 P<=h/\h<n/\(∀q∈P,gt q h=0)/\r∈ZV p n h:=by
 rcases zr _ _ hr with z | ⟨h,hh,a,b⟩
 ·cases z
 ·obtain⟨x,y⟩:=Qs.mp hh
  exact⟨h,x,y,a,b⟩
theorem uW {P:List Row}(hP:pZ p n P) {r:Row}(hr:r∈P):(hdI r).getD 0<Z7 P:=by
 have hi:=hP.pn.rf.inc;unfold toP at hi;rw[NI] at hi;unfold Z7;cases e:P.getLast? with
 |none=>rw[List.getLast?_eq_none_iff] at e;rw[e] at hr;cases hr
 |some q=>
  obtain⟨P',rfl⟩:=Kx.mp e;show _<(hdI q).getD 0+1;rcases P7.mp hr with z | z
  ·have:=(List.pairwise_append.mp hi).2.2 r z q (PF.mpr rfl)
   simp only at this;omega
  ·rw[PF.mp z];omega
theorem v7 {o l:Row}{j:Nat}(ho:Zn p n o) (hl:Zn p n l) (h:gt o j=0):clr p o l j=o:=by
 refine je ?_ λk=>?_
 ·exact (Yx (k:=-(gt o j)) ho hl).1.trans ho.1.symm
 ·unfold clr
  rw[wp ho hl,h];have:=X0 ppos ho k;simp only[Int.neg_zero,Int.zero_mul,Int.add_zero];exact KS this.1 this.2
theorem ZaR {P:List Row}{r:Row}(hP:pZ p n P) (hr:r∈Ja p n P):pZ p n (P++[r]):=by
 obtain⟨h,h1,h2,h3,h4⟩:=v3 hr;obtain⟨hrow,hone,hzero⟩:=(QT h2).1 r h4;have:=wU hP hrow h2 hone hzero λq hq=>PL (uW hP hq) h1
 have e:P.map (λo=>clr p o r h)=P:=by
  conv=>rhs;rw[<-List.map_id P]
  exact NL λo ho=>v7 (hP.row o ho) hrow (h3 o ho)
 rw[e] at this;exact this.1
theorem ZQ:∀(k:Nat),∀P∈ZC p n k,pZ p n P/\P.length=k
 |0,P,hP=>by rw[PF.mp hP];exact⟨pZ.nil,rfl⟩
 |k+1,P,hP=>by
  obtain⟨Q,hQ,hP⟩:=K2.mp hP;obtain⟨r,hr,rfl⟩:=PD.mp hP;obtain⟨a,b⟩:=ZQ k Q hQ;exact⟨ZaR a hr,by simp[b]⟩
end
end Rw
namespace Rw
open Ev (ltP Zw ZH)
noncomputable def ZcB (p n:Nat):Bool:=(List.range (n+1)).all λk=>decide ((ZC p n k).length<=1395)
noncomputable def VU:List (Nat×Nat):=[(2,1),(2,2),(2,3),(2,4),(3,1),(3,2),(3,3),(5,1),(5,2)]
noncomputable def Zav:List (Nat×Nat):=[(2,5),(2,6),(3,4),(5,3)]
theorem qo:((VU++Zav).all λs=>ZcB s.1 s.2)=true:=by decide +kernel
end Rw
namespace Rw
open La
open Ev (ltP Zw ZH)
section
variable {p n:Nat}[Base p]
noncomputable def Zv (p:Nat) (P Q:List Row):Bool:=decide ((YL p P Q).length=P.length+Q.length)
theorem WC {P Q:List Row}(hP:pZ p n P) (hQ:pZ p n Q):Zv p P Q=Zv p Q P:=by
 unfold Zv;rw[vZ hP hQ,Nat.add_comm]
theorem Jc {P:List Row}(hP:pZ p n P) (h:1<=P.length):Zv p P P=false:=by
 unfold Zv;rw[jf hP hP λ_ h=>h]
 exact PV (by omega)
theorem Jt {P Q:List Row}(hP:pZ p n P) (hQ:pZ p n Q):Zv p P Q=true↔Vp p n P Q=[]:=by
 have:=sizes hP hQ;unfold Zv;rw[NU,<-NF];omega
theorem qD {P Q:List Row}(hP:pZ p n P) (hQ:pZ p n Q) (h:Zv p P Q=true) {r:Row}(hr:Zn p n r) (h1:WP p P r=true) (h2:WP p Q r=true) (j:Nat):gt r j=0:=by
 have h3:=(xG hP hQ (toV p r)).mpr ⟨(G2 hP hr).mp h1,(G2 hQ hr).mp h2⟩;rw[(Jt hP hQ).mp h] at h3;exact (Xh hr).mp (jS.mp h3 j)
theorem Jb {P Q:List Row}(hP:pZ p n P) (hQ:pZ p n Q) (h:Zv p P Q=true) (hl:P.length+Q.length=n):Zv p (Z5 p n P) (Z5 p n Q)=true:=by
 have e:=ym hP hQ;rw[Jt (pP hP) (pP hQ)];have h1:=zI (pJ hP hQ);have h2:(YL p P Q).length=P.length+Q.length:=Pq h;have h3:(Z5 p n (YL p P Q)).length=0:=by omega
 have h4:=NF.mp h3
 first | rw[e];exact h4 | rw[<-e];exact h4
structure Lot (p n k:Nat) [Base p] (L:List (List Row)):Prop where
 pt:∀P∈L,pZ p n P/\P.length=k
 ms:L.Pairwise λP Q=>Zv p P Q=true/\Zv p Q P=true
variable {k:Nat}
theorem Lot.nodup {L:List (List Row)}(h:Lot p n k L) (hk:1<=k):L.Nodup:=by
 have:=h.ms;refine KC (λ{P Q} hP hQ hm e=>?_) this
 subst e;have:=Jc (h.pt P hP).1 (by rw[(h.pt P hP).2];exact hk)
 rw[this] at hm;exact absurd hm.1 (by simp)
theorem Lot.perm {L M:List (List Row)}(h:Lot p n k L) (e:M.Perm L):Lot p n k M:=
 ⟨λP hP=>h.pt P (e.mem_iff.mp hP),(e.pairwise_iff (λ{x y} q=>⟨q.2,q.1⟩)).mpr h.ms⟩
theorem Lot.sub {L M:List (List Row)}(h:Lot p n k L) (e:M.Sublist L):Lot p n k M:=
 ⟨λP hP=>h.pt P (e.subset hP),h.ms.sublist e⟩
theorem Lot.any {L:List (List Row)}(h:Lot p n k L) {P Q:List Row}(hP:P∈L) (hQ:Q∈L) (ne:P≠Q):Zv p P Q=true:=by
 obtain⟨i,hi,rfl⟩:=P8 hP;obtain⟨j,hj,rfl⟩:=P8 hQ;have:=No.mp h.ms;rcases Nat.lt_trichotomy i j with c | c | c
 ·exact (this i j hi hj c).1
 ·subst c;exact absurd rfl ne
 ·exact (this j i hj hi c).2
noncomputable def Xr (p:Nat) (f:List (List Row)) (P:List Row):List (List Row):=if f.all (Zv p P)=true then f++[P] else f
noncomputable def Yw (p:Nat) (f A:List (List Row)):List (List Row):=A.foldl (Xr p) f
theorem zG {f:List (List Row)}{P:List Row}(h:Lot p n k f) (hP:pZ p n P/\P.length=k):Lot p n k (Xr p f P):=by
 unfold Xr;split
 ·next c=>
  refine⟨λQ hQ=>?_,List.pairwise_append.mpr ⟨h.ms,Nk ..,λQ hQ R hR=>?_⟩⟩
  ·rcases P7.mp hQ with z | z
   ·exact h.pt Q z
   ·rw[PF.mp z];exact hP
  ·rw[PF.mp hR]
   have:=PN.mp c Q hQ;exact⟨by rw[WC (h.pt Q hQ).1 hP.1];exact this,this⟩
 ·exact h
theorem Q4 {f:List (List Row)}{P:List Row}:∀Q∈f,Q∈Xr p f P:=λQ hQ=>by
 unfold Xr;split
 ·exact P7.mpr (.inl hQ)
 ·exact hQ
theorem YS:∀{A f:List (List Row)},Lot p n k f->(∀P∈A,pZ p n P/\P.length=k)->Lot p n k (Yw p f A)/\(∀P∈f,P∈Yw p f A)/\(∀P∈A,P∈Yw p f A\/∃Q∈Yw p f A,Zv p P Q=false)/\∀P∈Yw p f A,P∈f\/P∈A
 |[],f,h,_=>⟨h,λ_ q=>q,λ_ q=>absurd q (P4),λ_ q=>.inl q⟩
 |P::A,f,h,hA=>by
  obtain⟨h1,h2,h3,h4⟩:=YS (A:=A) (zG h (hA P (Pe ..))) λQ hQ=>hA Q (Pd _ hQ)
  refine⟨h1,λQ hQ=>h2 Q (Q4 Q hQ),λQ hQ=>?_,λQ hQ=>?_⟩
  ·rcases Pk.mp hQ with rfl | hQ
   ·by_cases c:f.all (Zv p Q)=true
    ·exact .inl (h2 Q (by unfold Xr;rw[Pg c];exact P7.mpr (.inr (PF.mpr rfl))))
    ·obtain⟨R,hR,e⟩:∃R∈f,Zv p Q R=false:=by
      simpa using c
     exact .inr ⟨R,h2 R (Q4 R hR),e⟩
   ·exact h3 Q hQ
  ·rcases h4 Q hQ with z | z
   ·unfold Xr at z
    split at z
    ·rcases P7.mp z with z | z
     ·exact .inl z
     ·rw[PF.mp z];exact .inr (Pe ..)
    ·exact .inl z
   ·exact .inr (Pd _ z)
theorem QR:∀{A f:List (List Row)},(∀P∈A,∃Q∈f,Zv p P Q=false)->Yw p f A=f
 |[],_,_=>rfl
 |P::A,f,h=>by
  have e:Xr p f P=f:=by
   unfold Xr;obtain⟨Q,hQ,e⟩:=h P (Pe ..);rw[Pi λc=>by have:=PN.mp c Q hQ;rw[e] at this;cases this]
  show Yw p (Xr p f P) A=f;rw[e];exact QR λQ hQ=>h Q (Pd _ hQ)
noncomputable def Yd (p n k:Nat) (L:List (List Row)):List (List Row):=Zw ltP (Yw p L (ZC p n k))
theorem Uy {L:List (List Row)}(h:Lot p n k L):Lot p n k (Yd p n k L)/\(∀P∈L,P∈Yd p n k L)/\∀P∈ZC p n k,P∈Yd p n k L\/∃Q∈Yd p n k L,Zv p P Q=false:=by
 obtain⟨h1,h2,h3,h4⟩:=YS (A:=ZC p n k) h λP hP=>ZQ k P hP
 have e:=Sd.Z2 (lt:=ltP) (Yw p L (ZC p n k));refine⟨h1.perm e,λP hP=>e.mem_iff.mpr (h2 P hP),λP hP=>?_⟩
 rcases h3 P hP with z | ⟨Q,z,w⟩
 ·exact .inl (e.mem_iff.mpr z)
 ·exact .inr ⟨Q,e.mem_iff.mpr z,w⟩
theorem Qu {L:List (List Row)}(h:Lot p n k L) (hk:1<=k):Yd p n k (Yd p n k L)=Yd p n k L:=by
 obtain⟨h1,h2,h3⟩:=Uy h;have e:Yw p (Yd p n k L) (ZC p n k)=Yd p n k L:=QR λP hP=>by
  rcases h3 P hP with z | z
  ·exact⟨P,z,Jc (ZQ k P hP).1 (by rw[(ZQ k P hP).2];exact hk)⟩
  ·exact z
 have nd:=h1.nodup hk;show Zw ltP (Yw p (Yd p n k L) (ZC p n k))=_;rw[e];have nd0:(Yw p L (ZC p n k)).Nodup:=(YS (A:=ZC p n k) h λP hP=>ZQ k P hP).1.nodup hk
 exact Sd.XQ Sd.Ym (Sd.Z2 _) (Sd.Yt Sd.Ym nd) (Sd.Yt Sd.Ym nd0)
theorem zT {α:Type}[BEq α] [LawfulBEq α]:∀{L A:List α},L.Nodup->(∀x∈L,x∈A)->L.length<=A.length
 |[],_,_,_=>Ki _
 |x::L,A,h,hs=>by
  rw[NB] at h;have h1:=zT (L:=L) (A:=A.erase x) h.2 λy hy=>(List.mem_erase_of_ne (show y≠x from λe=>h.1 (by rw[<-e];exact hy))).mpr (hs y (Pd _ hy))
  have h2:=hs x (Pe ..);have h3:=List.length_erase_of_mem h2;have h4:=List.length_pos_of_mem h2;rw[Px];omega
theorem jK {L:List (List Row)}(h:Lot p n k L) (hk:1<=k) (hs:∀P∈L,P∈ZC p n k):L.length<=(ZC p n k).length:=by
 exact zT (h.nodup hk) hs
theorem rises {L:List (List Row)}(h:L.Nodup):(Zw ltP L).Pairwise λa b=>ltP a b=true:=Sd.Yt Sd.Ym h
theorem Qr {L:List (List Row)}(h:Lot p n k L) (hk:1<=k) (hl:L.length<64):ZH L=true:=by
 unfold ZH;rw[Nv]
 left
 rw[Py,Py,NU,NU];refine⟨⟨hl,h.nodup hk⟩,?_⟩;rw[Nv]
 right
 rw[PN];intro P hP;have:=(h.pt P hP).2;cases P with
 |nil=>simp at this;omega
 |cons a b=>rfl
noncomputable def apB (p:Nat) (L:List (List Row)):Bool:=(List.range L.length).all λi=>(L.take i).all (Zv p (L.getD i []))
theorem ZbW {L:List (List Row)}(h:Lot p n k L):apB p L=true:=by
 unfold apB;rw[PN];intro i hi;have hi:=PQ.mp hi;rw[PN];intro Q hQ;obtain⟨j,hj,rfl⟩:=P8 hQ;rw[Ni] at hj;have hj1:j<L.length:=by omega
 rw[List.getElem_take,Po,Pc hi];exact (No.mp h.ms j i hj1 hi (by omega)).2
end
section
variable {p n k:Nat}[Base p]
structure Good (p n k:Nat) [Base p] (L:List (List Row)):Prop where
 lot:Lot p n k L
 mem:∀P∈L,P∈ZC p n k
 up:L.Pairwise λa b=>ltP a b=true
theorem Good.nil:Good p n k []:=⟨⟨λ_ h=>absurd h P4,List.Pairwise.nil⟩,λ_ h=>absurd h P4,List.Pairwise.nil⟩
theorem Good.sub {L M:List (List Row)}(h:Good p n k L) (e:M.Sublist L):Good p n k M:=⟨h.lot.sub e,λP hP=>h.mem P (e.subset hP),h.up.sublist e⟩
theorem Good.fill {L:List (List Row)}(h:Good p n k L) (hk:1<=k):Good p n k (Yd p n k L):=by
 obtain⟨h1,h2,h3,h4⟩:=YS (A:=ZC p n k) h.lot λP hP=>ZQ k P hP
 have e:=Sd.Z2 (lt:=ltP) (Yw p L (ZC p n k));refine⟨h1.perm e,λP hP=>?_,rises (h1.nodup hk)⟩
 rcases h4 P (e.mem_iff.mp hP) with z | z
 ·exact h.mem P z
 ·exact z
theorem Good.len {L:List (List Row)}(h:Good p n k L) (hk:1<=k) (hA:(ZC p n k).length<64):L.length<64:=by
 have:=jK h.lot hk h.mem;omega
theorem Good.sortOk {L:List (List Row)}(h:Good p n k L) (hk:1<=k) (hA:(ZC p n k).length<64):ZH (Yw p L (ZC p n k))=true:=by
 obtain⟨h1,h2,h3,h4⟩:=YS (A:=ZC p n k) h.lot λP hP=>ZQ k P hP
 have:=(h.fill hk).len hk hA;unfold Yd at this;rw[(Sd.Z2 (lt:=ltP) (Yw p L (ZC p n k))).length_eq] at this;exact Qr h1 hk this
theorem vR {P Q:List Row}(ne:P≠Q):∃X Y,Zw ltP [P,Q]=[X,Y]/\ltP X Y=true/\(X=P/\Y=Q\/X=Q/\Y=P):=by
 cases e:ltP P Q with
 |true=>exact⟨P,Q,by simp[Zw,Ev.Ug,e],e,.inl ⟨rfl,rfl⟩⟩
 |false=>exact⟨Q,P,by simp[Zw,Ev.Ug,e],Sd.GA ne e,.inr ⟨rfl,rfl⟩⟩
theorem ZaJ {P Q:List Row}(hP:pZ p n P/\P.length=k) (hQ:pZ p n Q/\Q.length=k) (hk:1<=k):ZH [P,Q]=true:=by
 unfold ZH;have f:∀{R:List Row},R.length=k->R.isEmpty=false:=λ{R} h=>by
  cases R with
  |nil=>simp at h;omega
  |cons a b=>rfl
 by_cases c:P=Q
 ·subst c
  rw[Nv];right;simp[Ev.twin,f hP.2]
 ·rw[Nv];left
  simp[c,f hP.2,f hQ.2]
theorem Good.one {P:List Row}(hP:P∈ZC p n k):Good p n k [P]:=⟨⟨λQ hQ=>by rw[PF.mp hQ];exact ZQ k P hP,Nk ..⟩,λQ hQ=>by rw[PF.mp hQ];exact hP,Nk ..⟩
theorem Good.two {X Y:List Row}(hX:X∈ZC p n k) (hY:Y∈ZC p n k) (hm:Zv p X Y=true) (hl:ltP X Y=true):Good p n k [X,Y]:=by
 have hX':=ZQ k X hX;have hY':=ZQ k Y hY;refine⟨⟨λQ hQ=>?_,?_⟩,λQ hQ=>?_,?_⟩
 ·rcases Pk.mp hQ with rfl | hQ
  ·exact hX'
  ·rw[PF.mp hQ];exact hY'
 ·refine PK.mpr ⟨λQ hQ=>?_,Nk ..⟩
  rw[PF.mp hQ];exact⟨hm,by rw[WC hY'.1 hX'.1];exact hm⟩
 ·rcases Pk.mp hQ with rfl | hQ
  ·exact hX
  ·rw[PF.mp hQ];exact hY
 ·refine PK.mpr ⟨λQ hQ=>?_,Nk ..⟩
  rw[PF.mp hQ];exact hl
theorem wX {L:List (List Row)}(h:Good p n k L) (hk:1<=k) {r:Row}(hr:Zn p n r) (ha:r.any (λa=>decide (a≠0))=true):(L.filter λP=>WP p P r).length<=1:=by
 cases e:L.filter λP=>WP p P r with
 |nil=>simp
 |cons X l=>
  cases l with
  |nil=>simp
  |cons Y l=>
   exfalso
   have nd:(L.filter λP=>WP p P r).Nodup:=(h.lot.nodup hk).sublist List.filter_sublist
   rw[e] at nd;have hX:X∈L.filter λP=>WP p P r:=by rw[e];exact Pe ..
   have hY:Y∈L.filter λP=>WP p P r:=by rw[e];exact Pd _ (Pe ..)
   obtain⟨x1,x2⟩:=Nd.mp hX;obtain⟨y1,y2⟩:=Nd.mp hY;have ne:X≠Y:=λq=>by
    rw[NB] at nd;exact nd.1 (by rw[q];exact Pe ..)
   have z:=qD (h.lot.pt X x1).1 (h.lot.pt Y y1).1 (h.lot.any x1 y1 ne) hr x2 y2;obtain⟨a,a1,a2⟩:=Ku.mp ha;obtain⟨j,hj,rfl⟩:=P8 a1;have:=z j;unfold gt at this;rw[Po,Pc hj] at this;exact Pq a2 this
theorem yD {L:List (List Row)}(h:Lot p n k L) (hk:2*k=n):Lot p n k (L.map (Z5 p n)):=by
 refine⟨λP hP=>?_,NI.mpr (KC (λ{P Q} hP hQ hm=>?_) h.ms)⟩
 ·obtain⟨Q,hQ,rfl⟩:=PD.mp hP
  obtain⟨q1,q2⟩:=h.pt Q hQ;have:=zI q1;exact⟨pP q1,by omega⟩
 ·obtain⟨p1,p2⟩:=h.pt P hP
  obtain⟨q1,q2⟩:=h.pt Q hQ;exact⟨Jb p1 q1 hm.1 (by omega),Jb q1 p1 hm.2 (by omega)⟩
theorem U7 (o:Row) (rs:List Row):(Wi p rs o).length=rs.length*p:=by
 unfold Wi;rw[Kd];simp only[Pj,P0];rw[KE,NX]
theorem Jf:∀(P rs:List Row),(P.foldl (Wi p) rs).length=rs.length*p^P.length
 |[],rs=>by simp
 |o::P,rs=>by
  rw[List.foldl_cons,Jf P,U7,Px,Nat.pow_succ,Nat.mul_assoc,Tf p]
theorem v6 (P:List Row):(x9 p n P).length=p^P.length:=by
 unfold x9;rw[Jf,P6,Nat.one_mul]
end
noncomputable def ZdC (p n:Nat):Bool:=(List.range (n+1)).all λk=>decide ((ZC p n k).length<64) && !(ZC p n k).isEmpty
noncomputable def Zdg (p n:Nat):Bool:=(List.range n).all λk=>decide (n%(k+1)≠0)||decide ((Yw p [] (ZC p n (k+1))).length*(p^(k+1)-1)=p^n-1)
theorem j8:(VU.all λs=>ZdC s.1 s.2)=true:=by decide +kernel
theorem jP:(VU.all λs=>Zdg s.1 s.2)=true:=by decide +kernel
theorem Jh:∀q∈VU,q.2<=4:=by decide
theorem yq {p n k:Nat}(h:(p,n)∈VU) (hk:k<=n):(ZC p n k).length<64/\ZC p n k≠[]:=by
 have:=PN.mp (PN.mp j8 (p,n) h) k (PQ.mpr (by omega))
 obtain⟨a,b⟩:=(Py _ _).mp this;refine⟨Pq a,λe=>?_⟩
 rw[e] at b;cases b
theorem Zce {p n k:Nat}(h:(p,n)∈VU) (h1:1<=k) (hk:k<=n) (hd:n%k=0):(Yd p n k []).length*(p^k-1)=p^n-1:=by
 obtain⟨j,rfl⟩:∃j,k=j+1:=⟨k-1,by omega⟩
 have:=PN.mp (PN.mp jP (p,n) h) j (PQ.mpr (by omega))
 rcases (Nv _ _).mp this with z | z
 ·exact absurd hd (Pq z)
 ·unfold Yd
  rw[(Sd.Z2 _).length_eq];exact Pq z
end Rw
namespace Lw
def evE:=And.intro (And.intro (And.intro (And.intro @Ev.ev.eq_1 @Ev.ev.eq_2) (And.intro @Ev.ev.eq_3 (And.intro @Ev.ev.eq_4 @Ev.ev.eq_5))) (And.intro (And.intro @Ev.ev.eq_6 (And.intro @Ev.ev.eq_7 @Ev.ev.eq_8)) (And.intro @Ev.ev.eq_9 (And.intro @Ev.ev.eq_10 @Ev.ev.eq_11)))) (And.intro (And.intro (And.intro @Ev.ev.eq_12 (And.intro @Ev.ev.eq_13 @Ev.ev.eq_14)) (And.intro @Ev.ev.eq_15 (And.intro @Ev.ev.eq_16 @Ev.ev.eq_17))) (And.intro (And.intro @Ev.ev.eq_18 (And.intro @Ev.ev.eq_19 @Ev.ev.eq_20)) (And.intro @Ev.ev.eq_21 (And.intro @Ev.ev.eq_22 @Ev.ev.eq_23))))
open Ev Pv
section
theorem evF:(∀x S,bltin .len [x] S=(ob (YH S x) S).bind λxs S=>.ok (.int xs.length) S)/\(∀a b S,bltin .max2 [.int a,.int b] S=.ok (.int (if b>a then b else a)) S)/\(∀a b S,bltin .min2 [.int a,.int b] S=.ok (.int (if b<a then b else a)) S)/\(∀a b S,cmpop .lt (.int a) (.int b) S=.ok (.bl (decide (a<b))) S)/\(∀a b S,cmpop .ge (.int a) (.int b) S=.ok (.bl (decide (b<=a))) S)/\(∀a b S,binop .sub (.int a) (.int b) S=.ok (.int (a-b)) S)/\(∀a b S,binop .mod (.int a) (.int b) S=if 0<b then .ok (.int (a%b)) S else .no)/\(∀a b S,binop .pow (.int a) (.int b) S=if 0<=b/\b<=1000/\a.natAbs<2^64 then .ok (.int (a^b.toNat)) S else .no)/\(∀S b,truth S (.bl b)=some b)/\(∀n S,YH S (.loc n)=Z9 S n)/\(∀i x S σ,assign [i] x S σ=some (σ.set i (some x))):=
 ⟨λ_ _=>rfl,λ_ _ _=>rfl,λ_ _ _=>rfl,λ_ _ _=>rfl,λ_ _ _=>rfl,λ_ _ _=>rfl,λ_ _ _=>rfl,λ_ _ _=>rfl,λ_ _=>rfl,λ_ _=>rfl,λ_ _ _ _=>rfl⟩
theorem ZaQ {S:Store}{n:Nat}{i:Int}{xs:List D}(h:Z9 S n=some xs):getix (.loc n) (.int i) S=ob (at' xs i) S:=by
 show (match Z9 S n with | some xs=>ob (at' xs i) S | none=>.no)=_
 rw[h]
theorem jR {C:Calls}{es:List E}{σ:Lc}{S S1:Store}{xs:List D}{f:Nat}(h1:evs C es σ S=.ok xs S1):ev C (.call f es) σ S=C f xs S1:=by
 rw[ev,h1];rfl
theorem wZ {C:Calls}{e:E}{ss:List Sm}{σ:Lc}{S S':Store}{x:D}{k:Nat}(h:ev C e σ S=.ok x S'):runs C (.asg [k] e::ss) σ S=runs C ss (σ.set k (some x)) S':=by
 rw[runs,run,h];rfl
theorem qt {C:Calls}{e:E}{ss:List Sm}{σ:Lc}{S S':Store}{x:D}(h:ev C e σ S=.ok x S'):runs C (.ret e::ss) σ S=.ok (.ret x) S':=by
 rw[runs,run,h];rfl
theorem Zaj {C:Calls}{s:Sm}{ss:List Sm}{σ σ':Lc}{S S':Store}(h:run C s σ S=.ok (.nx σ') S'):runs C (s::ss) σ S=runs C ss σ' S':=by rw[runs,h];rfl
theorem we {S:Store}{o:Ob}:(S++[o])[S.length]? = some o:=by rw[PU (Pp _),Nat.sub_self];rfl
noncomputable def VJ:Fn:=⟨2,2,[.ite (.cmp .lt (.v 1) (.blt .len [(.v 0)])) [.ret (.ix (.v 0) (.v 1))] [],.ret (.c (.int 0))]⟩
noncomputable def Vv (c:Nat):Fn:=⟨2,3,[.asg [2] (.call c [(.v 0),(.v 1)]),.ite (.cmp .ge (.v 2) (.bin .pow (.c (.int 10)) (.c (.int 18)))) [.ret (.lst [(.bin .sub (.v 2) (.bin .pow (.c (.int 10)) (.c (.int 18)))),(.c (.bl true))])] [],.ret (.lst [(.bin .mod (.v 2) (.c (.int 2147483647))),(.c (.bl false))])]⟩
noncomputable def lawFn (nn:Nat) (M:Int) (st:Nat) (B:List Sm):Fn:=⟨1,nn,[.forr [1] (.rng1 (.blt .max2 [(.c (.int 1)),(.blt .min2 [(.blt .len [(.v 0)]),(.c (.int M))])])) (.asg [2] (.call st [(.v 0),(.v 1)])::B),.ret (.c (.bl true))]⟩
variable {F:List Fn}{tk ca st L nn:Nat}{M:Int}{B:List Sm}
theorem j9 (hC:F[ca]? = some VJ) {S:Store}{ns:List Int}{k:Int}(d:Nat) (hs:S[0]? = some (.scr ns)) (k0:0<=k):∃c,calls F (d+1) ca [.loc 0,.int k] S=.ok (.int c) S:=by
 have h1:Z9 S 0=some (ns.map .int):=by unfold Z9;rw[hs]
 by_cases c:k<ns.length
 ·have hk:k.toNat<ns.length:=by omega
  refine⟨ns[k.toNat],?_⟩;simp[Ev.calls,Ev.runs,Ev.run,evE,Ev.evs,Ev.evo,Ev.evt,Ev.tst,Ev.R.bind,Ev.ob,Ev.start,Ev.lim,hC,VJ,evF,h1,c,ZaQ h1,at',ixN,k0,hk]
 ·refine⟨0,?_⟩
  simp[Ev.calls,Ev.runs,Ev.run,evE,Ev.evs,Ev.evo,Ev.evt,Ev.tst,Ev.R.bind,Ev.ob,Ev.start,Ev.lim,hC,VJ,evF,h1,c]
theorem qg (hC:F[ca]? = some VJ) (hS:F[st]? = some (Vv ca)) {S:Store}{ns:List Int}{k:Int}(d:Nat) (hs:S[0]? = some (.scr ns)) (k0:0<=k):∃o s,Dw S.length (S++[o]) s/\calls F (d+2) st [.loc 0,.int k] S=.ok (.loc S.length) (S++[o]):=by
 obtain⟨c,e⟩:=j9 hC d hs k0;rw[show d+2=(d+1)+1 from rfl,calls]
 generalize calls F (d+1)=C at e ⊢;by_cases h:10^18<=c
 ·refine⟨.lst [.int (c-10^18),.bl true],(c-10^18,true),⟨we,by show 0<=c-10^18;omega,by simp⟩,?_⟩
  have h':(1000000000000000000:Int)<=c:=by simpa using h
  simp[Ev.calls,Ev.runs,Ev.run,evE,Ev.evs,Ev.evo,Ev.evt,Ev.tst,Ev.R.bind,Ev.ob,Ev.start,Ev.lim,hS,Vv,e,evF,h']
 ·refine⟨.lst [.int (c%2147483647),.bl false],(c%2147483647,false),⟨we,by show 0<=c%2147483647;omega,λ_=>by show c%2147483647<_;omega⟩,?_⟩
  have h':¬(1000000000000000000:Int)<=c:=by simpa using h
  simp[Ev.calls,Ev.runs,Ev.run,evE,Ev.evs,Ev.evo,Ev.evt,Ev.tst,Ev.R.bind,Ev.ob,Ev.start,Ev.lim,hS,Vv,e,evF,h']
theorem GS {w:Walk}{body:D->Lc->Store->R Fl}(P:Lc->Store->Prop) (hst:∀σ S,P σ S->w.still S=true):∀(xs:List D),(∀x∈xs,∀σ S,P σ S->∃σ' S',P σ' S'/\body x σ S=.ok (.nx σ') S')->∀σ S,P σ S->∃σ' S',P σ' S'/\Vf w body xs σ S=.ok (.nx σ') S'
 |[],_,σ,S,h=>⟨σ,S,h,by rw[Vf,Pg (hst σ S h)]⟩
 |x::xs,hb,σ,S,h=>by
  obtain⟨σ1,S1,h1,e1⟩:=hb x (Pe ..) σ S h;obtain⟨σ2,S2,h2,e2⟩:=GS P hst xs (λy hy=>hb y (Pd _ hy)) σ1 S1 h1
  refine⟨σ2,S2,h2,?_⟩;rw[Vf,Pg (hst σ S h),e1];exact e2
theorem wV {lo:Int}{k:Nat}{x:D}(h:x∈Zs lo k):∃i,x=.int i/\lo<=i:=by
 unfold Zs at h;obtain⟨j,_,e⟩:=PD.mp h;exact⟨_,e.symm,by omega⟩
def Kept (σ σ':Lc):Prop:=σ'[0]? = σ[0]?/\σ'.length=σ.length
theorem Kept.trans {σ σ1 σ2:Lc}(h:Kept σ σ1) (h2:Kept σ1 σ2):Kept σ σ2:=⟨h2.1.trans h.1,h2.2.trans h.2⟩
theorem Kept.set {σ:Lc}{i:Nat}{x:Option D}(h:i≠0):Kept σ (σ.set i x):=⟨PJ h,P1 ..⟩
theorem Yq:∀{t:List Nat}{xs:List D}{σ σ':Lc},fill t xs σ=some σ'->¬0∈t->Kept σ σ'
 |[],[],σ,σ',h,_=>by cases h;exact⟨rfl,rfl⟩
 |i::t,x::xs,σ,σ',h,h0=>(Kept.set (λz=>h0 (by rw[z];exact Pe ..))).trans (Yq (t:=t) (xs:=xs) h λz=>h0 (Pd _ z))
 |[],_::_,_,_,h,_=>by cases h
 |_::_,[],_,_,h,_=>by cases h
theorem u8 {C:Calls}{m:Sm}{l:List Sm}{σ σ':Lc}{S S':Store}(h:runs C (m::l) σ S=.ok (.nx σ') S'):∃σ1 S1,run C m σ S=.ok (.nx σ1) S1/\runs C l σ1 S1=.ok (.nx σ') S':=by
 rw[runs] at h;cases q:run C m σ S with
 |no=>rw[q] at h;cases h
 |ex c S1=>rw[q] at h;cases h
 |ok f S1=>
  rw[q] at h;cases f with
  |nx σ1=>exact⟨σ1,S1,rfl,h⟩
  |ret v=>cases h
  |brk v=>cases h
  |cnt v=>cases h
theorem qK {C:Calls}{t:List Nat}{e:E}{σ σ':Lc}{S S':Store}(h:run C (.asg t e) σ S=.ok (.nx σ') S') (h0:¬0∈t):Kept σ σ':=by
 rw[run] at h;cases q:ev C e σ S with
 |no=>rw[q] at h;cases h
 |ex c S1=>rw[q] at h;cases h
 |ok x S1=>
  rw[q] at h;replace h:((ob (assign t x S1 σ) S1).bind λσ S=>R.ok (Fl.nx σ) S)=.ok (.nx σ') S':=h
  cases q2:assign t x S1 σ with
  |none=>rw[q2] at h;cases h
  |some σ1=>
   rw[q2] at h;cases h;unfold assign at q2;split at q2
   ·cases q2
    exact Kept.set λz=>h0 (by simp[z])
   ·split at q2
    ·exact Yq q2 h0
    ·split at q2
     ·exact Yq q2 h0
     ·cases q2
    ·cases q2
mutual
noncomputable def kp:Sm->Bool
 |.asg t _=>!t.contains 0
 |.par t _=>!t.contains 0
 |.ite _ a b=>kps a&&kps b
 |.ret _=>true
 |.ex _=>true
 |_=>false
noncomputable def kps:List Sm->Bool
 |[]=>true
 |m::l=>kp m&&kps l
end
theorem Kept.refl (σ:Lc):Kept σ σ:=⟨rfl,rfl⟩
mutual
theorem ZcD {C:Calls}:∀(m:Sm) {σ σ':Lc}{S S':Store},kp m=true->run C m σ S=.ok (.nx σ') S'->Kept σ σ'
 |.asg t e,σ,σ',S,S',h,r=>qK r (by unfold kp at h;simpa using h)
 |.par t es,σ,σ',S,S',h,r=>by
  unfold kp at h;rw[run] at r;cases q:evs C es σ S with
  |no=>rw[q] at r;cases r
  |ex c S1=>rw[q] at r;cases r
  |ok x S1=>
   rw[q] at r;replace r:((ob (fill t x σ) S1).bind λσ S=>R.ok (Fl.nx σ) S)=.ok (.nx σ') S':=r
   cases q2:fill t x σ with
   |none=>rw[q2] at r;cases r
   |some σ1=>rw[q2] at r;cases r;exact Yq q2 (by simpa using h)
 |.ite t a b,σ,σ',S,S',h,r=>by
  unfold kp at h;obtain⟨h1,h2⟩:=(Py _ _).mp h;rw[run] at r;cases q:tst C t σ S with
  |no=>rw[q] at r;cases r
  |ex c S1=>rw[q] at r;cases r
  |ok c S1=>
   rw[q] at r;cases c with
   |false=>exact Gj b h2 (show runs C b σ S1=_ from r)
   |true=>exact Gj a h1 (show runs C a σ S1=_ from r)
 |.ret e,σ,σ',S,S',h,r=>by
  rw[run] at r;cases q:ev C e σ S with
  |no=>rw[q] at r;cases r
  |ex c S1=>rw[q] at r;cases r
  |ok x S1=>rw[q] at r;cases r
 |.ex e,σ,σ',S,S',h,r=>by
  rw[run] at r;cases q:ev C e σ S with
  |no=>rw[q] at r;cases r
  |ex c S1=>rw[q] at r;cases r
  |ok x S1=>rw[q] at r;cases r;exact Kept.refl _
 |.aug ..,_,_,_,_,h,_ | .put ..,_,_,_,_,h,_ | .dput ..,_,_,_,_,h,_ | .forr ..,_,_,_,_,h,_ | .whl ..,_,_,_,_,h,_ | .raise ..,_,_,_,_,h,_ | .pas,_,_,_,_,h,_ | .brk,_,_,_,_,h,_ | .cnt,_,_,_,_,h,_=>by unfold kp at h;cases h
theorem Gj {C:Calls}:∀(l:List Sm) {σ σ':Lc}{S S':Store},kps l=true->runs C l σ S=.ok (.nx σ') S'->Kept σ σ'
 |[],σ,σ',S,S',h,r=>by rw[runs] at r;cases r;exact Kept.refl _
 |m::l,σ,σ',S,S',h,r=>by
  unfold kps at h;obtain⟨h1,h2⟩:=(Py _ _).mp h;obtain⟨σ1,S1,r1,r2⟩:=u8 r;exact (ZcD m h1 r1).trans (Gj l h2 r2)
end
def Q0 (m:Nat) (ns:List Int) (σ:Lc) (S:Store):Prop:=∃a1 a2 as,σ=some (.loc 0)::a1::a2::as/\as.length=m/\S[0]? = some (.scr ns)
theorem ZaC {m d:Nat}(hT:F[tk]? = some takeFn) (hC:F[ca]? = some VJ) (hS:F[st]? = some (Vv ca)) (hk:kps B=true)
  (hv:∀(k:Nat) (s:DS),∃ρ' os' s',rvs (ZU F tk (d+2)) [] B (none::some (.int k)::some .drw::List.replicate m none) [] s=.ok (.nx ρ' os') s')
  {ns:List Int} {x:D} {σ:Lc} {S:Store} (hx:∃i,x=.int i/\0<=i) (hq:Q0 m ns σ S):∃σ' S',Q0 m ns σ' S'/\(ob (assign [1] x S σ) S).bind (λσ S=>runs (calls F (d+2)) (.asg [2] (.call st [(.v 0),(.v 1)])::B) σ S)=.ok (.nx σ') S':=by
 obtain⟨i,rfl,i0⟩:=hx;obtain⟨k,rfl⟩:∃k:Nat,i=k:=⟨i.toNat,by omega⟩
 obtain⟨a1,a2,as,rfl,hm,hs⟩:=hq;show ∃σ' S',Q0 m ns σ' S'/\runs (calls F (d+2)) _ (some (.loc 0)::some (.int k)::a2::as) S=.ok (.nx σ') S';obtain⟨o,s,h1,e1⟩:=qg hC hS d hs i0;have n0:S.length≠0:=by have:=Y5 hs;omega
 have s1:(S++[o])[0]? = some (.scr ns):=by rw[PB (Y5 hs)];exact hs
 rw[wZ (x:=.loc S.length) (S':=S++[o]) (by rw[jR (xs:=[.loc 0,.int k]) (S1:=S) rfl];exact e1)]
 show ∃σ' S',Q0 m ns σ' S'/\runs (calls F (d+2)) _ (some (.loc 0)::some (.int k)::some (.loc S.length)::as) (S++[o])=.ok (.nx σ') S';obtain⟨ρ',os',s',e2⟩:=hv k s;have hE:Eu (S++[o]) (· = S.length) S.length (S.length+1) (λ_=>none) (none::some (.int k)::some .drw::List.replicate m none) [] (some (.loc 0)::some (.int k)::some (.loc S.length)::as):={
  xz:=rfl
  xb:=λn h=>by omega
  bs:=by simp
  len:=by simp[hm]
  osW:=λi=>rfl
  inj:=λi j n h=>by cases h
  pl:=λi n h=>by cases h
  own:=λi n h=>by cases h
  val:=λi v h _=>by
   match i,h with
   |0,h=>cases h
   |1,h=>cases h;exact⟨_,rfl,by unfold Rep;rfl⟩
   |2,h=>cases h;exact⟨_,rfl,by unfold Rep;rfl⟩
   |i+3,h=>
    have h:(List.replicate m (none:Option V))[i]? = some (some v):=h;rw[Nj] at h;split at h <;> cases h }
 have hS:=Qz (GV (F:=F) (tk:=tk) (n0:=S.length) hT (d+2)) [] B hE h1;rw[e2] at hS;obtain⟨g,S',e3,x3,w3,f3⟩:=hS;cases g with
 |nx σ'=>
  refine⟨σ',S',?_,e3⟩;have hl:=Gj B hk e3;have hlen:σ'.length=m+3:=by rw[hl.2];simp[hm]
  replace hl:σ'[0]? = some (some (.loc 0)):=hl.1
  match σ',hlen,hl with
  |b0::b1::b2::bs,hlen,hl=>
   cases hl;exact⟨b1,b2,bs,rfl,by simpa using hlen,x3.keep 0 _ (Ne.symm n0) (λi h=>by cases h) s1⟩
 |ret v=>exact f3.elim
 |brk v=>exact f3.elim
 |cnt v=>exact f3.elim
theorem law_of {m d:Nat}(hT:F[tk]? = some takeFn) (hC:F[ca]? = some VJ) (hS:F[st]? = some (Vv ca)) (hL:F[L]? = some (lawFn (m+3) M st B)) (hk:kps B=true) (hM:1<=M/\M<1000)
  (hv:∀(k:Nat) (s:DS),∃ρ' os' s',rvs (ZU F tk (d+2)) [] B (none::some (.int k)::some .drw::List.replicate m none) [] s=.ok (.nx ρ' os') s')
  {ns:List Int} {S:Store} (hs:S[0]? = some (.scr ns)):∃S',calls F (d+3) L [.loc 0] S=.ok (.bl true) S':=by
 have h1:Z9 S 0=some (ns.map .int):=by unfold Z9;rw[hs]
 let k:Int:=if (if M<(ns.length:Int) then M else ns.length)>1 then (if M<(ns.length:Int) then M else ns.length) else 1
 have hk2:small k=true:=Xz (by simp only[k];split <;> split <;> omega) (by simp only[k];split <;> split <;> omega)
 obtain⟨σ1,S1,hq1,e1⟩:=GS (w:=⟨Zs 0 k.toNat,[]⟩) (Q0 m ns) (λ_ _ _=>rfl) (Zs 0 k.toNat) (λx hx σ S hq=>ZaC hT hC hS hk hv (wV hx) hq) (some (.loc 0)::none::none::List.replicate m none) S ⟨_,_,_,rfl,by simp,hs⟩
 refine⟨S1,?_⟩;rw[show d+3=(d+2)+1 from rfl,calls,hL]
 show (runs (calls F (d+2)) (.forr [1] (.rng1 (.blt .max2 [(.c (.int 1)),(.blt .min2 [(.blt .len [(.v 0)]),(.c (.int M))])])) _ :: .ret (.c (.bl true))::[]) (some (.loc 0)::List.replicate (m+3-1) none) S).bind _=_;rw[show List.replicate (m+3-1) (none:Option D)=none::none::List.replicate m none from rfl]
 have er:ev (calls F (d+2)) (.blt .max2 [(.c (.int 1)),(.blt .min2 [(.blt .len [(.v 0)]),(.c (.int M))])]) (some (.loc 0)::none::none::List.replicate m none) S=.ok (.int k) S:=by
  simp[Ev.calls,Ev.runs,Ev.run,evE,Ev.evs,Ev.evo,Ev.evt,Ev.tst,Ev.R.bind,Ev.ob,Ev.start,Ev.lim,evF,h1,k]
 have ew:evw (calls F (d+2)) (.rng1 (.blt .max2 [(.c (.int 1)),(.blt .min2 [(.blt .len [(.v 0)]),(.c (.int M))])])) (some (.loc 0)::none::none::List.replicate m none) S=.ok ⟨Zs 0 k.toNat,[]⟩ S:=by
  rw[evw,er];show (if small k=true then _ else _)=_
  rw[Pg hk2]
 rw[Zaj (σ':=σ1) (S':=S1) (by rw[run,ew];exact e1)]
 rw[qt (x:=.bl true) (S':=S1) (by rw[ev])];rfl
end
end Lw
namespace K85
open Ev
noncomputable def f__law_cell_at:Fn:=⟨2,2,
 [.ite (.cmp .lt (.v 1) (.blt .len [(.v 0)])) [.ret (.ix (.v 0) (.v 1))] [],
  .ret (.c (.int 0))]⟩
noncomputable def f__law_state:Fn:=⟨2,3,
 [.asg [2] (.call 0 [(.v 0),(.v 1)]),
  .ite (.cmp .ge (.v 2) (.bin .pow (.c (.int 10)) (.c (.int 18)))) [.ret (.lst [(.bin .sub (.v 2) (.bin .pow (.c (.int 10)) (.c (.int 18)))),(.c (.bl true))])] [],
  .ret (.lst [(.bin .mod (.v 2) (.c (.int 2147483647))),(.c (.bl false))])]⟩
noncomputable def f__law_take:Fn:=⟨2,4,
 [.ite (.ix (.v 0) (.c (.int 1))) [.asg [2] (.bin .mod (.ix (.v 0) (.c (.int 0))) (.v 1)),
  .put (.v 0) (.c (.int 0)) (.bin .fdiv (.ix (.v 0) (.c (.int 0))) (.v 1)),
  .ret (.v 2)] [],
  .put (.v 0) (.c (.int 0)) (.bin .mod (.bin .add (.bin .mul (.ix (.v 0) (.c (.int 0))) (.c (.int 48271))) (.c (.int 29))) (.c (.int 2147483647))),
  .asg [3] (.bin .mod (.bin .add (.bin .add (.bin .mul (.ix (.v 0) (.c (.int 0))) (.ix (.v 0) (.c (.int 0)))) (.bin .mul (.c (.int 39373)) (.ix (.v 0) (.c (.int 0))))) (.c (.int 7))) (.c (.int 2147483629))),
  .asg [3] (.bin .mod (.bin .add (.bin .mul (.v 3) (.v 3)) (.bin .mul (.c (.int 16807)) (.v 3))) (.c (.int 2147483587))),
  .ret (.bin .mod (.bin .fdiv (.v 3) (.c (.int 8))) (.v 1))]⟩
noncomputable def f__law_space:Fn:=⟨2,3,
 [.asg [2] (.lst [(.tup [(.c (.int 2)),(.tup [(.c (.int 2)),(.c (.int 1))])]),(.tup [(.c (.int 4)),(.tup [(.c (.int 2)),(.c (.int 2))])]),(.tup [(.c (.int 8)),(.tup [(.c (.int 2)),(.c (.int 3))])]),(.tup [(.c (.int 16)),(.tup [(.c (.int 2)),(.c (.int 4))])]),(.tup [(.c (.int 32)),(.tup [(.c (.int 2)),(.c (.int 5))])]),(.tup [(.c (.int 64)),(.tup [(.c (.int 2)),(.c (.int 6))])]),(.tup [(.c (.int 3)),(.tup [(.c (.int 3)),(.c (.int 1))])]),(.tup [(.c (.int 9)),(.tup [(.c (.int 3)),(.c (.int 2))])])]),
  .asg [2] (.bin .add (.v 2) (.lst [(.tup [(.c (.int 27)),(.tup [(.c (.int 3)),(.c (.int 3))])]),(.tup [(.c (.int 81)),(.tup [(.c (.int 3)),(.c (.int 4))])]),(.tup [(.c (.int 5)),(.tup [(.c (.int 5)),(.c (.int 1))])]),(.tup [(.c (.int 25)),(.tup [(.c (.int 5)),(.c (.int 2))])]),(.tup [(.c (.int 125)),(.tup [(.c (.int 5)),(.c (.int 3))])])])),
  .asg [2] (.comp1 [1] 2 [0,1] (.of (.v 2)) [(.cmp .le (.v 0) (.v 2))] (.v 1)),
  .ret (.ix (.v 2) (.call 2 [(.v 0),(.blt .len [(.v 2)])]))]⟩
noncomputable def WU:Fn:=⟨3,3,
 [.ret (.and (.isi (.v 0) [.int]) (.and (.not (.isi (.v 0) [.bool])) (.chain .le .le (.v 1) (.v 0) (.v 2))))]⟩
noncomputable def XG:Fn:=⟨3,3,
 [.ite (.not (.call 4 [(.v 0),(.v 1),(.v 2)])) [.raise 3 []] []]⟩
noncomputable def Y3:Fn:=⟨2,4,
 [.asg [2,3] (.v 0),
  .ex (.call 5 [(.v 1),(.c (.int 1)),(.v 3)])]⟩
noncomputable def Yb:Fn:=⟨1,3,
 [.asg [1,2] (.v 0),
  .ite (.cmp .gt (.v 2) (.c (.int 4))) [.raise 5 []] []]⟩
noncomputable def YD:Fn:=⟨2,6,
 [.asg [2,3] (.v 0),
  .asg [4] (.lst [(.bin .add (.bin .mul (.tup [(.c (.int 0))]) (.v 1)) (.tup [(.c (.int 1))]))]),
  .forr [5] (.rng2 (.bin .add (.v 1) (.c (.int 1))) (.v 3)) [.asg [4] (.comp2 [2] 2 [0] (.of (.v 4)) [] [1] (.rng1 (.v 2)) [] (.bin .add (.v 0) (.tup [(.v 1)])))],
  .ret (.v 4)]⟩
noncomputable def Yr:Fn:=⟨2,2,
 [.ret (.blt .all [(.comp1 [1] 1 [0] (.of (.v 0)) [] (.cmp .eq (.ix (.v 0) (.v 1)) (.c (.int 0))))])]⟩
noncomputable def QS:Fn:=⟨1,3,
 [.forr [1,2] (.enum (.v 0)) [.ite (.cmp .ne (.v 2) (.c (.int 0))) [.ret (.v 1)] []],
  .ret (.c .non)]⟩
noncomputable def YE:Fn:=⟨2,5,
 [.asg [2] (.ite (.v 1) (.bin .add (.call 10 [(.ix (.v 1) (.neg (.c (.int 1))))]) (.c (.int 1))) (.c (.int 0))),
  .asg [3] (.lst []),
  .forr [4] (.rrng (.v 2) (.blt .len [(.v 0)])) [.ite (.call 9 [(.v 1),(.v 4)]) [.ex (.mt .extend (.v 3) [(.ix (.v 0) (.v 4))])] []],
  .ret (.v 3)]⟩
noncomputable def Xf:Fn:=⟨2,7,
 [.asg [2,3] (.v 0),
  .ex (.call 5 [(.v 1),(.c (.int 0)),(.v 3)]),
  .asg [4] (.comp1 [0] 1 [0] (.rng1 (.v 3)) [] (.call 8 [(.v 1),(.v 0)])),
  .asg [5] (.lst [(.tup [])]),
  .forr [6] (.rng1 (.v 1)) [.asg [5] (.comp2 [4] 2 [0] (.of (.v 5)) [] [1] (.of (.call 11 [(.v 2),(.v 0)])) [] (.bin .add (.v 0) (.tup [(.v 1)])))],
  .ret (.v 5)]⟩
noncomputable def XE:Fn:=⟨4,4,
 [.ret (.blt .tuple [(.comp1 [3,0] 2 [0,1] (.zip (.v 1) (.v 2)) [] (.bin .mod (.bin .add (.v 0) (.bin .mul (.v 2) (.v 1))) (.v 3)))])]⟩
noncomputable def VI:Fn:=⟨4,4,
 [.ret (.call 13 [(.v 0),(.v 1),(.v 2),(.neg (.ix (.v 1) (.v 3)))])]⟩
noncomputable def Y6:Fn:=⟨3,7,
 [.asg [3,4] (.v 0),
  .asg [5] (.v 2),
  .forr [6] (.of (.v 1)) [.asg [5] (.call 14 [(.v 3),(.v 5),(.v 6),(.call 10 [(.v 6)])])],
  .ret (.v 5)]⟩
noncomputable def JG:Fn:=⟨3,3,
 [.ret (.blt .tuple [(.comp1 [2,0] 1 [0] (.of (.v 1)) [] (.bin .mod (.bin .mul (.v 1) (.v 0)) (.v 2)))])]⟩
noncomputable def Jk:Fn:=⟨2,3,
 [.asg [2] (.c (.int 1)),
  .whl (.cmp .ne (.bin .mod (.bin .mul (.v 2) (.v 1)) (.v 0)) (.c (.int 1))) [.aug 2 .add (.c (.int 1))],
  .ret (.v 2)]⟩
noncomputable def Wm:Fn:=⟨3,9,
 [.asg [3,4] (.v 0),
  .asg [5] (.call 15 [(.v 0),(.v 1),(.v 2)]),
  .asg [6] (.call 10 [(.v 5)]),
  .ite (.cmp .is (.v 6) (.c .non)) [.ret (.v 1)] [],
  .asg [7] (.call 16 [(.v 3),(.v 5),(.call 17 [(.v 3),(.ix (.v 5) (.v 6))])]),
  .asg [8] (.comp1 [3,7,6] 1 [0] (.of (.v 1)) [] (.call 14 [(.v 1),(.v 0),(.v 2),(.v 3)])),
  .ret (.blt .tuple [(.blt .sortedR [(.bin .add (.v 8) (.lst [(.v 7)]))])])]⟩
noncomputable def Yh:Fn:=⟨3,5,
 [.asg [3] (.v 1),
  .forr [4] (.of (.v 2)) [.asg [3] (.call 18 [(.v 0),(.v 3),(.v 4)])],
  .ret (.v 3)]⟩
noncomputable def Jl:Fn:=⟨3,3,
 [.ret (.cmp .eq (.blt .len [(.call 19 [(.v 0),(.v 1),(.v 2)])]) (.bin .add (.blt .len [(.v 1)]) (.blt .len [(.v 2)])))]⟩
noncomputable def YR:Fn:=⟨3,3,
 [.ret (.blt .all [(.comp1 [0,1] 1 [0] (.of (.v 2)) [] (.call 20 [(.v 1),(.v 2),(.v 0)]))])]⟩
noncomputable def Y7:Fn:=⟨3,5,
 [.asg [3] (.blt .list [(.v 2)]),
  .forr [4] (.of (.call 12 [(.v 0),(.v 1)])) [.ite (.call 21 [(.v 0),(.v 4),(.v 3)]) [.ex (.mt .append (.v 3) [(.v 4)])] []],
  .ret (.blt .tuple [(.blt .sorted [(.v 3)])])]⟩
noncomputable def Xc:Fn:=⟨2,4,
 [.ex (.call 6 [(.v 0),(.v 1)]),
  .ex (.call 7 [(.v 0)]),
  .asg [2,3] (.v 0),
  .ite (.cmp .ne (.bin .mod (.v 3) (.v 1)) (.c (.int 0))) [.ret (.c .non)] [],
  .ret (.call 22 [(.v 0),(.v 1),(.tup [])])]⟩
noncomputable def Yo:Fn:=⟨1,1,
 [.ret (.blt .all [(.comp1 [] 2 [0,1] (.zip (.v 0) (.sl (.v 0) (some (.c (.int 1))) none)) [] (.cmp .lt (.v 0) (.v 1)))])]⟩
noncomputable def YX:Fn:=⟨3,3,
 [.ret (.and (.cmp .eq (.ix (.ix (.v 0) (.v 1)) (.v 2)) (.c (.int 1))) (.call 9 [(.bin .add (.sl (.v 0) none (some (.v 1))) (.sl (.v 0) (some (.bin .add (.v 1) (.c (.int 1)))) none)),(.v 2)]))]⟩
noncomputable def Vc:Fn:=⟨2,4,
 [.asg [2,3] (.v 0),
  .ite (.or (.not (.isi (.v 1) [.tuple])) (.cmp .ne (.blt .len [(.v 1)]) (.v 3))) [.ret (.c (.bl false))] [],
  .ret (.blt .all [(.comp1 [2] 1 [0] (.of (.v 1)) [] (.call 4 [(.v 0),(.c (.int 0)),(.bin .sub (.v 1) (.c (.int 1)))]))])]⟩
noncomputable def Wv:Fn:=⟨2,3,
 [.ite (.or (.not (.isi (.v 1) [.tuple])) (.not (.blt .all [(.comp1 [0] 1 [0] (.of (.v 1)) [] (.call 26 [(.v 1),(.v 0)]))]))) [.ret (.c (.bl false))] [],
  .asg [2] (.comp1 [] 1 [0] (.of (.v 1)) [] (.call 10 [(.v 0)])),
  .ite (.or (.cmp .inn (.c .non) (.v 2)) (.not (.call 24 [(.v 2)]))) [.ret (.c (.bl false))] [],
  .ret (.blt .all [(.comp1 [1] 2 [0,1] (.enum (.v 2)) [] (.call 25 [(.v 2),(.v 0),(.v 1)]))])]⟩
noncomputable def XN:Fn:=⟨3,3,
 [.ex (.call 6 [(.v 0),(.v 1)]),
  .ite (.or (.not (.isi (.v 2) [.tuple])) (.not (.blt .all [(.comp1 [0,1] 1 [0] (.of (.v 2)) [] (.and (.call 27 [(.v 1),(.v 0)]) (.cmp .eq (.blt .len [(.v 0)]) (.v 2))))]))) [.ret (.c (.bl false))] [],
  .ite (.not (.call 24 [(.v 2)])) [.ret (.c (.bl false))] [],
  .ret (.blt .all [(.comp1 [0,2] 2 [0,1] (.enum (.v 2)) [] (.call 21 [(.v 2),(.v 1),(.sl (.v 3) none (some (.v 0)))]))])]⟩
noncomputable def XB:Fn:=⟨3,3,
 [.ite (.not (.call 28 [(.v 0),(.v 1),(.v 2)])) [.raise 4 []] []]⟩
noncomputable def Vy:Fn:=⟨3,3,
 [.ex (.call 29 [(.v 0),(.v 1),(.v 2)]),
  .ex (.call 7 [(.v 0)]),
  .ret (.call 22 [(.v 0),(.v 1),(.v 2)])]⟩
noncomputable def Uz:Fn:=⟨2,4,
 [.asg [2] (.c (.int 1)),
  .forr [3] (.rng1 (.v 1)) [.aug 2 .mul (.v 0)],
  .ret (.v 2)]⟩
noncomputable def Wx:Fn:=⟨3,5,
 [.ex (.call 29 [(.v 0),(.v 1),(.v 2)]),
  .asg [3,4] (.v 0),
  .ret (.cmp .eq (.bin .mul (.blt .len [(.v 2)]) (.bin .sub (.call 31 [(.v 3),(.v 1)]) (.c (.int 1)))) (.bin .sub (.call 31 [(.v 3),(.v 4)]) (.c (.int 1))))]⟩
noncomputable def X7:Fn:=⟨2,2,
 [.ite (.not (.call 27 [(.v 0),(.v 1)])) [.raise 2 []] []]⟩
noncomputable def Wp:Fn:=⟨2,6,
 [.ex (.call 33 [(.v 0),(.v 1)]),
  .asg [2,3] (.v 0),
  .asg [4] (.lst [(.bin .mul (.tup [(.c (.int 0))]) (.v 3))]),
  .forr [5] (.of (.v 1)) [.asg [4] (.comp2 [2,5] 2 [0] (.of (.v 4)) [] [1] (.rng1 (.v 2)) [] (.call 13 [(.v 2),(.v 0),(.v 3),(.v 1)]))],
  .ret (.v 4)]⟩
noncomputable def WO:Fn:=⟨2,2,
 [.ite (.not (.call 26 [(.v 0),(.v 1)])) [.raise 1 []] []]⟩
noncomputable def Wz:Fn:=⟨2,3,
 [.ite (.not (.isi (.v 1) [.tuple,.list])) [.raise 1 []] [],
  .forr [2] (.of (.v 1)) [.ex (.call 35 [(.v 0),(.v 2)])],
  .ret (.call 19 [(.v 0),(.tup []),(.v 1)])]⟩
noncomputable def YC:Fn:=⟨3,7,
 [.asg [3,4] (.v 0),
  .asg [5] (.bin .mul (.lst [(.c (.int 0))]) (.v 4)),
  .put (.v 5) (.v 2) (.c (.int 1)),
  .forr [6] (.of (.v 1)) [.put (.v 5) (.call 10 [(.v 6)]) (.bin .mod (.neg (.ix (.v 6) (.v 2))) (.v 3))],
  .ret (.blt .tuple [(.v 5)])]⟩
noncomputable def Wu:Fn:=⟨2,6,
 [.ex (.call 33 [(.v 0),(.v 1)]),
  .asg [2,3] (.v 0),
  .asg [4] (.comp1 [] 1 [0] (.of (.v 1)) [] (.call 10 [(.v 0)])),
  .asg [5] (.comp1 [4] 1 [0] (.rng1 (.v 3)) [(.cmp .nin (.v 0) (.v 1))] (.v 0)),
  .ret (.call 36 [(.v 0),(.comp1 [0,1] 1 [0] (.of (.v 5)) [] (.call 37 [(.v 1),(.v 2),(.v 0)]))])]⟩
noncomputable def f__law_full_right:Fn:=⟨3,10,
 [.asg [3] (.call 23 [(.v 1),(.v 2)]),
  .asg [4] (.ix (.v 1) (.c (.int 1))),
  .ite (.cmp .is (.v 3) (.c .non)) [.ret (.cmp .ne (.bin .mod (.v 4) (.v 2)) (.c (.int 0)))] [],
  .ite (.or (.cmp .isn (.call 28 [(.v 1),(.v 2),(.v 3)]) (.c (.bl true))) (.or (.cmp .isn (.call 32 [(.v 1),(.v 2),(.v 3)]) (.c (.bl true))) (.cmp .ne (.bin .mod (.v 4) (.v 2)) (.c (.int 0))))) [.ret (.c (.bl false))] [],
  .asg [5] (.bin .sub (.blt .len [(.call 34 [(.v 1),(.ix (.call 12 [(.v 1),(.v 4)]) (.c (.int 0)))])]) (.c (.int 1))),
  .ite (.or (.cmp .ne (.bin .mul (.blt .len [(.v 3)]) (.bin .sub (.blt .len [(.call 34 [(.v 1),(.ix (.v 3) (.c (.int 0)))])]) (.c (.int 1)))) (.v 5)) (.cmp .ne (.call 30 [(.v 1),(.v 2),(.v 3)]) (.v 3))) [.ret (.c (.bl false))] [],
  .asg [6] (.call 2 [(.v 0),(.blt .len [(.v 3)])]),
  .asg [7] (.bin .add (.sl (.v 3) none (some (.v 6))) (.sl (.v 3) (some (.bin .add (.v 6) (.c (.int 1)))) none)),
  .ite (.cmp .isn (.call 32 [(.v 1),(.v 2),(.v 7)]) (.c (.bl false))) [.ret (.c (.bl false))] [],
  .asg [8] (.call 30 [(.v 1),(.v 2),(.v 7)]),
  .ite (.or (.cmp .isn (.call 28 [(.v 1),(.v 2),(.v 8)]) (.c (.bl true))) (.cmp .ne (.comp1 [8] 1 [0] (.of (.v 7)) [(.cmp .nin (.v 0) (.v 1))] (.v 0)) (.lst []))) [.ret (.c (.bl false))] [],
  .ite (.cmp .eq (.bin .mul (.c (.int 2)) (.v 2)) (.v 4)) [.asg [9] (.blt .tuple [(.blt .sorted [(.comp1 [1] 1 [0] (.of (.v 3)) [] (.call 38 [(.v 1),(.v 0)]))])]),
  .ite (.or (.cmp .isn (.call 28 [(.v 1),(.v 2),(.v 9)]) (.c (.bl true))) (.cmp .isn (.call 32 [(.v 1),(.v 2),(.v 9)]) (.c (.bl true)))) [.ret (.c (.bl false))] []] [],
  .ret (.c (.bl true))]⟩
noncomputable def f__law_row_of:Fn:=⟨2,2,
 [.ret (.blt .tuple [(.comp1 [0,1] 1 [0] (.rng1 (.ix (.v 1) (.c (.int 1)))) [] (.call 2 [(.v 1),(.ix (.v 2) (.c (.int 0)))]))])]⟩
noncomputable def XL:Fn:=⟨3,3,
 [.ex (.call 33 [(.v 0),(.v 1)]),
  .ex (.call 33 [(.v 0),(.v 2)])]⟩
noncomputable def GG:Fn:=⟨3,3,
 [.ex (.call 41 [(.v 0),(.v 1),(.v 2)]),
  .ret (.call 20 [(.v 0),(.v 1),(.v 2)])]⟩
noncomputable def Wq:Fn:=⟨3,3,
 [.ret (.cmp .is (.call 10 [(.call 15 [(.v 0),(.v 1),(.v 2)])]) (.c .non))]⟩
noncomputable def Uv:Fn:=⟨3,3,
 [.ex (.call 33 [(.v 0),(.v 1)]),
  .ex (.call 35 [(.v 0),(.v 2)]),
  .ret (.call 43 [(.v 0),(.v 1),(.v 2)])]⟩
noncomputable def f__law_lot_right:Fn:=⟨3,10,
 [.asg [3] (.call 12 [(.v 1),(.v 2)]),
  .par [4,5] [(.ix (.v 3) (.call 2 [(.v 0),(.blt .len [(.v 3)])])),(.ix (.v 3) (.call 2 [(.v 0),(.blt .len [(.v 3)])]))],
  .asg [6] (.blt .tuple [(.blt .sorted [(.lst [(.v 4),(.v 5)])])]),
  .ite (.and (.cmp .ne (.v 4) (.v 5)) (.cmp .ne (.call 28 [(.v 1),(.v 2),(.v 6)]) (.call 42 [(.v 1),(.v 4),(.v 5)]))) [.ret (.c (.bl false))] [],
  .asg [6] (.ite (.and (.cmp .ne (.v 4) (.v 5)) (.call 42 [(.v 1),(.v 4),(.v 5)])) (.v 6) (.tup [(.v 4)])),
  .asg [7] (.call 30 [(.v 1),(.v 2),(.v 6)]),
  .ite (.or (.cmp .ne (.call 30 [(.v 1),(.v 2),(.v 7)]) (.v 7)) (.cmp .ne (.comp1 [7] 1 [0] (.of (.v 6)) [(.cmp .nin (.v 0) (.v 1))] (.v 0)) (.lst []))) [.ret (.c (.bl false))] [],
  .asg [8] (.call 40 [(.v 0),(.v 1)]),
  .ite (.and (.blt .any [(.v 8)]) (.cmp .gt (.blt .len [(.comp1 [1,8] 1 [0] (.of (.v 7)) [(.call 44 [(.v 1),(.v 0),(.v 2)])] (.v 0))]) (.c (.int 1)))) [.ret (.c (.bl false))] [],
  .forr [9] (.of (.v 3)) [.ite (.and (.cmp .nin (.v 9) (.v 7)) (.blt .all [(.comp1 [1,9] 1 [0] (.of (.v 7)) [] (.call 42 [(.v 1),(.v 2),(.v 0)]))])) [.ret (.c (.bl false))] []],
  .ret (.c (.bl true))]⟩
noncomputable def Zc8:Fn:=⟨1,5,
 [.forr [1] (.rng1 (.blt .max2 [(.c (.int 1)),(.blt .min2 [(.blt .len [(.v 0)]),(.c (.int 3))])])) [.asg [2] (.call 1 [(.v 0),(.v 1)]),
  .asg [3] (.call 3 [(.v 2),(.c (.int 27))]),
  .asg [4] (.bin .add (.c (.int 1)) (.call 2 [(.v 2),(.ix (.v 3) (.c (.int 1)))])),
  .ite (.or (.not (.call 39 [(.v 2),(.v 3),(.v 4)])) (.not (.call 45 [(.v 2),(.v 3),(.v 4)]))) [.ret (.c (.bl false))] []],
  .ret (.c (.bl true))]⟩
noncomputable def fns:List Fn:=[f__law_cell_at,f__law_state,f__law_take,f__law_space,WU,XG,Y3,Yb,YD,Yr,QS,YE,Xf,XE,VI,Y6,JG,Jk,Wm,Yh,Jl,YR,Y7,Xc,Yo,YX,Vc,Wv,XN,XB,Vy,Uz,Wx,X7,Wp,WO,Wz,YC,Wu,f__law_full_right,f__law_row_of,XL,GG,Wq,Uv,f__law_lot_right,Zc8]
end K85
namespace K85
open Ev Pv Rw La
noncomputable abbrev CV (d:Nat):Zt:=ZU fns 2 d
theorem JB (C:Zt) (s:DS) (v:V):∀(r:Row) (k:Nat) (a b:Option V),∃a' b',V9 (λx ρ os s=>if (([1,2]:List Nat).any os.contains)=true then .no else if (os.isEmpty||x.flat)=true then (po (Zu [1,2] x ρ) s).bind λρ s=>rvs C [] [.ite (.cmp .ne (.v 2) (.c (.int 0))) [.ret (.v 1)] []] ρ os s else .no)
   (((Yn k r.length).zip (r.map V.int)).map λp=>V.tup [p.1,p.2]) [some v,a,b] [] s=match hdI r with
    |some m=>.ok (.ret (.int (k+m:Nat))) s
    |none=>.ok (.nx [some v,a',b'] []) s
 |[],k,a,b=>⟨a,b,rfl⟩
 |x::r,k,a,b=>by
  have er:Yn k (x::r).length=.int k::Yn (k+1:Nat) r.length:=by
   unfold Yn;rw[Px,List.range_succ_eq_map,PP,Nh];refine List.cons_eq_cons.mpr ⟨by simp,?_⟩
   ·refine NL λj _=>?_
    show V.int ((k:Int)+((j+1:Nat):Int))=V.int (((k+1:Nat):Int)+(j:Int))
    congr 1
    omega
  obtain⟨a',b',ih⟩:=JB C s v r (k+1) (some (.int k)) (some (.int x));refine⟨a',b',?_⟩;rw[er,PP,Nf,PP,V9];by_cases c:x=0
  ·subst c
   have e0:hdI (0::r)=(hdI r).map (· + 1):=by rw[hdI,Pi (by simp)]
   have e1:(if (([1,2]:List Nat).any ([]:List Nat).contains)=true then (.no:PR FlV) else if (([]:List Nat).isEmpty||(V.tup [V.int k,V.int 0]).flat)=true then (po (Zu [1,2] (V.tup [.int k,.int 0]) [some v,a,b]) s).bind λρ s=>rvs C [] [.ite (.cmp .ne (.v 2) (.c (.int 0))) [.ret (.v 1)] []] ρ [] s else .no)=.ok (.nx [some v,some (.int k),some (.int 0)] []) s:=by
    simp[pvE,Zm]
   rw[e1,Zb,e0];show V9 _ _ [some v,some (.int k),some (.int 0)] [] s=_;rw[ih];cases hdI r with
   |none=>rfl
   |some m=>show PR.ok (FlV.ret (.int ((k+1+m:Nat):Int))) s=PR.ok (FlV.ret (.int ((k+(m+1):Nat):Int))) s;congr 3;omega
  ·have e0:hdI (x::r)=some 0:=by rw[hdI,Pg c]
   have e1:(if (([1,2]:List Nat).any ([]:List Nat).contains)=true then (.no:PR FlV) else if (([]:List Nat).isEmpty||(V.tup [V.int k,V.int x]).flat)=true then (po (Zu [1,2] (V.tup [.int k,.int x]) [some v,a,b]) s).bind λρ s=>rvs C [] [.ite (.cmp .ne (.v 2) (.c (.int 0))) [.ret (.v 1)] []] ρ [] s else .no)=.ok (.ret (.int k)) s:=by
    simp[pvE,Zm,c]
   rw[e1,Zb,e0];rfl
theorem XU (d:Nat) (r:Row) (s:DS):CV (d+1) 10 [Zf r] s=.ok (UU (hdI r)) s:=by
 rw[CV,U9 (fn:=QS) rfl (by decide) rfl]
 obtain⟨a,b,e⟩:=JB (ZU fns 2 d) s (Zf r) r 0 none none;show ((rv _ [] (.forr [1,2] (.enum (.v 0)) _) [some (Zf r),none,none] [] s).bind _).bind _=_;have e2:rv (ZU fns 2 d) [] (.forr [1,2] (.enum (.v 0)) [.ite (.cmp .ne (.v 2) (.c (.int 0))) [.ret (.v 1)] []]) [some (Zf r),none,none] [] s=match hdI r with
    |some m=>.ok (.ret (.int (m:Nat))) s
    |none=>.ok (.nx [some (Zf r),a,b] []) s:=by
  rw[rv];have ew:pvw (ZU fns 2 d) (.enum (.v 0)) (hide [] [some (Zf r),none,none]) s=.ok (((Yn 0 r.length).zip (r.map V.int)).map λp=>V.tup [p.1,p.2]) s:=by
   simp[pvE,Zf]
  rw[ew,Zb];simp only[Nat.zero_add,Int.natCast_zero] at e;exact e
 rw[e2];cases hdI r with
 |none=>rfl
 |some m=>rfl
section
variable {p n:Nat}[Base p]
theorem W9:(p:Int)<=5/\(2:Int)<=p:=by rcases (inferInstance:Base p).b with e | e | e <;> subst e <;> decide
theorem Qk (d:Nat) {r o:Row}{k:Int}(s:DS) (hn:n<=6) (hr:Zn p n r) (ho:Zn p n o) (hk:-1000<k/\k<1000):CV (d+1) 13 [.int p,Zf r,Zf o,.int k] s=.ok (Zf (Xx p r o k)) s:=by
 rw[CV,U9 (fn:=XE) rfl (by decide) rfl]
 have hp:=W9 (p:=p);have hc:=ZJ (C:=ZU fns 2 d) (cap:=[3,0]) (nl:=2) (t:=[0,1]) (it:=.zip (.v 1) (.v 2)) (elt:=.bin .mod (.bin .add (.v 0) (.bin .mul (.v 2) (.v 1))) (.v 3)) (ρ:=[some (.int p),some (Zf r),some (Zf o),some (.int k)]) (s:=s) (l:=r.zip o) (e:=λq=>V.tup [.int q.1,.int q.2]) (g:=λq=>V.int ((q.1+k*q.2)%p))
  (by simp[pvE,Zf,GY]) (by rw[NV,hr.1,ho.1];unfold lim;omega) (λq hq=>by
   have h2:=ho.2 q.2 (K7 hq).2;refine⟨_,rfl,?_⟩;have f1:=Z3 (a:=k) (by omega) (by omega)
   have f2:=Z3 (a:=q.2) (by omega) (by omega)
   have hp0:0<p:=by omega
   simp[pvE,f1,f2,hp0])
 have e:(r.zip o).map (λq=>V.int ((q.1+k*q.2)%p))=(Xx p r o k).map V.int:=by
  unfold Xx;rw[<-List.map_uncurry_zip_eq_zipWith,Nh];rfl
 simp[XE,pvE,hc,e];rfl
theorem cleared (d:Nat) {r o:Row}{h:Nat}(s:DS) (hn:n<=6) (hr:Zn p n r) (ho:Zn p n o) (hh:h<n):CV (d+2) 14 [.int p,Zf r,Zf o,.int h] s=.ok (Zf (clr p r o h)) s:=by
 rw[CV,U9 (fn:=VI) rfl (by decide) rfl]
 have hg:=X0 ppos hr h;have hp:=W9 (p:=p);have e:=Qk (p:=p) d (k:=-(gt r h)) s hn hr ho ⟨by omega,by omega⟩
 have e2:=VZ (r:=r) (k:=h) (by rw[hr.1];exact hh)
 simp only[CV] at e;simp[VI,pvE,Zf,e2];simp only[Zf] at e;rw[e];simp[pvE,clr]
theorem times (d:Nat) {r:Row}{k:Int}(s:DS) (hn:n<=6) (hr:Zn p n r) (hk:-1000<k/\k<1000):CV (d+1) 16 [.int p,Zf r,.int k] s=.ok (Zf (X5 p r k)) s:=by
 rw[CV,U9 (fn:=JG) rfl (by decide) rfl]
 have hp:=W9 (p:=p);have hc:=ZJ (C:=ZU fns 2 d) (cap:=[2,0]) (nl:=1) (t:=[0]) (it:=.of (.v 1)) (elt:=.bin .mod (.bin .mul (.v 1) (.v 0)) (.v 2)) (ρ:=[some (.int p),some (Zf r),some (.int k)]) (s:=s) (l:=r) (e:=V.int) (g:=λq=>V.int (k*q%p))
  (by simp[pvE,Zf]) (by rw[hr.1];unfold lim;omega) (λq hq=>by
   have h2:=hr.2 q hq;refine⟨_,rfl,?_⟩;have f1:=Z3 (a:=k) (by omega) (by omega)
   have f2:=Z3 (a:=q) (by omega) (by omega)
   have hp0:0<p:=by omega
   simp[pvE,f1,f2,hp0])
 simp[JG,pvE,hc];simp[Zf,X5]
theorem JD (C:Zt) (m:Nat) {q a k:Int}(s:DS) (hq:0<q) (f1:fits a=true) (f2:fits k=true):Xk (Ue C (.cmp .ne (.bin .mod (.bin .mul (.v 2) (.v 1)) (.v 0)) (.c (.int 1)))) (rvs C [] [.aug 2 .add (.c (.int 1))]) (m+1) [some (.int q),some (.int a),some (.int k)] [] s =
  if k*a%q=1 then .ok (.nx [some (.int q),some (.int a),some (.int k)] []) s else Xk (Ue C (.cmp .ne (.bin .mod (.bin .mul (.v 2) (.v 1)) (.v 0)) (.c (.int 1)))) (rvs C [] [.aug 2 .add (.c (.int 1))]) m [some (.int q),some (.int a),some (.int (k+1))] [] s:=by
 rw[Xk];by_cases c:k*a%q=1 <;> simp[pvE,f1,f2,hq,Zm,c,ve]
theorem inverse (d:Nat) {a:Int}(s:DS) (ha:0<a/\a<p):CV (d+1) 17 [.int p,.int a] s=.ok (.int (UH p a)) s:=by
 rw[CV,U9 (fn:=Jk) rfl (by decide) rfl]
 generalize ZU fns 2 d=C;have fs:∀k:Int,0<=k->k<=5->fits k=true:=λk h0 h1=>Z3 (by omega) (by omega)
 have hp:=W9 (p:=p);have fa:=fs a (by omega) (by omega)
 have key:Xk (Ue C (.cmp .ne (.bin .mod (.bin .mul (.v 2) (.v 1)) (.v 0)) (.c (.int 1)))) (rvs C [] [.aug 2 .add (.c (.int 1))]) (996+1+1+1+1) [some (.int p),some (.int a),some (.int 1)] [] s=.ok (.nx [some (.int p),some (.int a),some (.int (UH p a))] []) s:=by
  rw[JD C _ s (by omega) fa (fs 1 (by omega) (by omega)),JD C _ s (by omega) fa (fs (1+1) (by omega) (by omega)),JD C _ s (by omega) fa (fs (1+1+1) (by omega) (by omega)),JD C _ s (by omega) fa (fs (1+1+1+1) (by omega) (by omega))]
  rcases (inferInstance:Base p).b with e | e | e <;> subst e
  ·have:a=1:=by omega
   subst this;rfl
  ·have:a=1\/a=2:=by omega
   rcases this with e | e <;> subst e <;> rfl
  ·have:a=1\/a=2\/a=3\/a=4:=by omega
   rcases this with e | e | e | e <;> subst e <;> rfl
 have e:rv C [] (.whl (.cmp .ne (.bin .mod (.bin .mul (.v 2) (.v 1)) (.v 0)) (.c (.int 1))) [.aug 2 .add (.c (.int 1))]) [some (.int p),some (.int a),some (.int 1)] [] s=.ok (.nx [some (.int p),some (.int a),some (.int (UH p a))] []) s:=by
  rw[rv];exact key
 show ((rvs C [] (.asg [2] (.c (.int 1)) :: .whl _ _ :: .ret (.v 2)::[]) [some (.int p),some (.int a),none] [] s).bind _)=_;have e1:rv C [] (.asg [2] (.c (.int 1))) [some (.int p),some (.int a),none] [] s=.ok (.nx [some (.int p),some (.int a),some (.int 1)] []) s:=by simp[pvE]
 rw[rvs,e1,Zb];show ((rvs C [] (.whl _ _ :: .ret (.v 2)::[]) [some (.int p),some (.int a),some (.int 1)] [] s).bind _)=_;rw[rvs,e,Zb];simp[pvE]
end
section
variable {p n:Nat}[Base p]
theorem ZY (C:Zt) (ms:List Nat) {i j:Nat}{ρ:Env}{os:List Nat}{s:DS}{e:E}(h:pvA C e ρ os s=.ok (spV p n) s) (ho:os.contains i=false/\os.contains j=false):rv C ms (.asg [i,j] e) ρ os s=.ok (.nx ((ρ.set i (some (.int p))).set j (some (.int n))) os) s:=by
 rw[rv,h,Zb,Pi (by simpa using ho)]
 ·rfl
 ·simp
theorem QM (d:Nat) {P:List Row}{r:Row}(s:DS) (hn:n<=6) (hP:pZ p n P) (hr:Zn p n r):CV (d+3) 15 [spV p n,Za P,Zf r] s=.ok (Zf (Zj p P r)) s:=by
 refine Zl (fn:=Y6) rfl (by decide) rfl ?_
 show rvs (CV (d+2)) [] Y6.body [some (spV p n),some (Za P),some (Zf r),none,none,none,none] [] s=_
 dsimp only[Y6]
 rw[Zg (ZY (p:=p) (n:=n) _ _ (by simp[pvE]) (by simp))]
 rw[Zg (ρ':=[some (spV p n),some (Za P),some (Zf r),some (.int p),some (.int n),some (Zf r),none]) (os':=[]) (s':=s) (by simp[pvE])]
 obtain⟨o',hI,e⟩:=Gc (C:=CV (d+2)) (ms:=[]) (t:=[6]) (it:=.of (.v 1)) (b:=[.asg [5] (.call 14 [(.v 3),(.v 5),(.v 6),(.call 10 [(.v 6)])])]) (L:=P) (e:=Zf) (step:=λst o=>clr p st o ((hdI o).getD 0)) (ρ:=λst o=>[some (spV p n),some (Za P),some (Zf r),some (.int p),some (.int n),some (Zf st),o]) (st:=r) (o:=none) (os:=[]) (s:=s) (Zn p n) (by simp[pvE,Za]) hr rfl (λx hx st o hst=>by
  have hx':=hP.row x hx;obtain⟨k,hk,hkn,_⟩:=hP.head fld.one0 hx;refine⟨Yx hst hx',rfl,_,some (Zf x),rfl,?_⟩;have e1:=XU (d+1) x s;have e2:=cleared d (h:=k) s hn hst hx' hkn;rw[hk] at e1;simp only[UU] at e1;have e3:CV (d+2) 10 [Zf x] s=.ok (.int k) s:=e1;simp[pvE,e3,e2,hk])
 rw[Zg e];exact Zo (ZB (by simp[pvE,Zj]))
theorem dsum {P:List Row}(hP:pZ p n P):P.length<=n:=by
 have:=Wl fld hP.pn;rw[Uw] at this;omega
theorem widened (d:Nat) {P:List Row}{r:Row}(s:DS) (hn:n<=6) (hP:pZ p n P) (hr:Zn p n r):CV (d+4) 18 [spV p n,Za P,Zf r] s=.ok (Za (UF p P r)) s:=by
 refine Zl (fn:=Wm) rfl (by decide) rfl ?_
 show rvs (CV (d+3)) [] Wm.body [some (spV p n),some (Za P),some (Zf r),none,none,none,none,none,none] [] s=_
 dsimp only[Wm]
 obtain⟨l1,l2⟩:=UA hP.row hP.pn.rf hr;have hw:=(yv hP hr).1;rw[Zg (ZY (p:=p) (n:=n) _ _ (by simp[pvE]) (by simp))]
 have e1:=QM d s hn hP hr;rw[Zg (ρ':=[some (spV p n),some (Za P),some (Zf r),some (.int p),some (.int n),some (Zf (Zj p P r)),none,none,none]) (os':=[]) (s':=s) (by simp[pvE,e1])]
 have e2:=XU (d+2) (Zj p P r) s;rw[Zg (ρ':=[some (spV p n),some (Za P),some (Zf r),some (.int p),some (.int n),some (Zf (Zj p P r)),some (UU (hdI (Zj p P r))),none,none]) (os':=[]) (s':=s) (by simp[pvE,e2])]
 cases q:hdI (Zj p P r) with
 |none=>
  refine Zo ?_;have:UF p P r=P:=by unfold UF;rw[q]
  simp[pvE,UU,this]
 |some h=>
  obtain⟨h1,h2,h3⟩:=YU q;rw[l1.1] at h2;have hg:=X0 ppos l1 h;have hp:=W9 (p:=p);have hwid:UF p P r=(ZM (P.map (λo=>clr p o (lead p (Zj p P r) h) h)++[lead p (Zj p P r) h])).reverse:=by unfold UF;rw[q]
  rw[Zg (ρ':=[some (spV p n),some (Za P),some (Zf r),some (.int p),some (.int n),some (Zf (Zj p P r)),some (.int h),none,none]) (os':=[]) (s':=s) (by simp[pvE,UU])]
  have e3:=inverse (p:=p) (d+2) (a:=gt (Zj p P r) h) s ⟨by omega,hg.2⟩
  have hi:-1000<UH p (gt (Zj p P r) h)/\UH p (gt (Zj p P r) h)<1000:=by
   unfold UH
   repeat' split
   all_goals omega
  have e4:=times (p:=p) (d+2) s hn l1 hi;have e5:=VZ (r:=Zj p P r) (k:=h) (by rw[l1.1];exact h2)
  have hl:Zn p n (lead p (Zj p P r) h):=Jp l1;rw[Zg (ρ':=[some (spV p n),some (Za P),some (Zf r),some (.int p),some (.int n),some (Zf (Zj p P r)),some (.int h),some (Zf (lead p (Zj p P r) h)),none]) (os':=[]) (s':=s) (by
   have e6:pv (CV (d+3)) (.call 16 [(.v 3),(.v 5),(.call 17 [(.v 3),(.ix (.v 5) (.v 6))])]) [some (spV p n),some (Za P),some (Zf r),some (.int p),some (.int n),some (Zf (Zj p P r)),some (.int h),none,none] s=.ok (Zf (lead p (Zj p P r) h)) s:=by
    refine Zk (vs:=[.int p,Zf (Zj p P r),.int (UH p (gt (Zj p P r) h))]) (s1:=s) ?_ e4;have e7:pv (CV (d+3)) (.call 17 [(.v 3),(.ix (.v 5) (.v 6))]) [some (spV p n),some (Za P),some (Zf r),some (.int p),some (.int n),some (Zf (Zj p P r)),some (.int h),none,none] s=.ok (.int (UH p (gt (Zj p P r) h))) s:=by
     refine Zk (vs:=[.int p,.int (gt (Zj p P r) h)]) (s1:=s) ?_ e3;simp[pvE,Zf,e5]
    exact Zc (Zd rfl) (Zc (Zd rfl) (Zc e7 Zi))
   rw[rv];show (pv _ _ _ _).bind _=_;rw[e6];rfl)]
  have hc:=ZJ (C:=CV (d+3)) (cap:=[3,7,6]) (nl:=1) (t:=[0]) (it:=.of (.v 1)) (elt:=.call 14 [(.v 1),(.v 0),(.v 2),(.v 3)]) (ρ:=[some (spV p n),some (Za P),some (Zf r),some (.int p),some (.int n),some (Zf (Zj p P r)),some (.int h),some (Zf (lead p (Zj p P r) h)),none]) (s:=s) (l:=P) (e:=Zf) (g:=λo=>Zf (clr p o (lead p (Zj p P r) h) h))
   (by simp[pvE,Za]) (by have:=dsum hP;unfold lim;omega) (λo ho=>⟨_,rfl,by
    have:=cleared (p:=p) (d+1) (h:=h) s hn (hP.row o ho) hl h2;simp[pvE,this]⟩)
  rw[Zg (ρ':=[some (spV p n),some (Za P),some (Zf r),some (.int p),some (.int n),some (Zf (Zj p P r)),some (.int h),some (Zf (lead p (Zj p P r) h)),some (.lst (P.map λo=>Zf (clr p o (lead p (Zj p P r) h) h)))]) (os':=[]) (s':=s) (by simp[pvE,hc])]
  refine Zo (ZB ?_);have ea:(P.map λo=>Zf (clr p o (lead p (Zj p P r) h) h))++[Zf (lead p (Zj p P r) h)]=((P.map λo=>clr p o (lead p (Zj p P r) h) h)++[lead p (Zj p P r) h]).map Zf:=by rw[Km,Nh];rfl
  have hs:sortOk ((P.map λo=>clr p o (lead p (Zj p P r) h) h)++[lead p (Zj p P r) h])=true:=by
   have hlen:((P.map λo=>clr p o (lead p (Zj p P r) h) h)++[lead p (Zj p P r) h]).length=P.length+1:=by simp
   have hnd:((P.map λo=>clr p o (lead p (Zj p P r) h) h)++[lead p (Zj p P r) h]).Nodup:=by
    have h5:=V8 hw.falls;rw[hwid] at h5;exact ((Sd.Y0 _).nodup_iff).mp (((List.reverse_perm _).nodup_iff).mp h5)
   have hd:=dsum hP;unfold sortOk;rw[PC (by rw[hlen];omega),PC hnd]
   rw[Py];refine⟨rfl,PN.mpr λx hx=>?_⟩
   have:x.length=n:=by
    rcases P7.mp hx with z | z
    ·obtain⟨o,ho,rfl⟩:=PD.mp z
     exact (Yx (hP.row o ho) hl).1
    ·rw[PF.mp z];exact hl.1
   cases x with
   |nil=>simp at this;omega
   |cons _ _=>rfl
  have hlen2:P.length+1<=16777216:=by have:=dsum hP;omega
  simp[pvE,hlen2];rw[ea,Xn];simp[pvE,hs,hwid,Za,K0]
theorem We (d:Nat) {P R:List Row}{v:V}(s:DS) (hn:n<=6) (hP:pZ p n P) (hR:∀r∈R,Zn p n r) (hv:Z6 v=some (R.map Zf)):CV (d+5) 19 [spV p n,Za P,v] s=.ok (Za (YL p P R)) s:=by
 refine Zl (fn:=Yh) rfl (by decide) rfl ?_
 show rvs (CV (d+4)) [] Yh.body [some (spV p n),some (Za P),some v,none,none] [] s=_
 dsimp only[Yh]
 rw[Zg (ρ':=[some (spV p n),some (Za P),some v,some (Za P),none]) (os':=[]) (s':=s) (by simp[pvE])]
 obtain⟨o',hI,e⟩:=Gc (C:=CV (d+4)) (ms:=[]) (t:=[4]) (it:=.of (.v 2)) (b:=[.asg [3] (.call 18 [(.v 0),(.v 3),(.v 4)])]) (L:=R) (e:=Zf) (step:=UF p) (ρ:=λst o=>[some (spV p n),some (Za P),some v,some (Za st),o]) (st:=P) (o:=none) (os:=[]) (s:=s) (pZ p n) (by show pvw (CV (d+4)) (.of (.v 2)) [some (spV p n),some (Za P),some v,some (Za P),none] s=_;rw[pvw,pv];show po (Z6 v) s=_;rw[hv];rfl) hP rfl (λx hx st o hst=>by
  have hx':=hR x hx;refine⟨(yv hst hx').1,rfl,_,some (Zf x),rfl,?_⟩;have e2:=widened d s hn hst hx';simp[pvE,e2])
 rw[Zg e];exact Zo (ZB (by simp[pvE,YL]))
end
section
variable {p n:Nat}[Base p]
theorem zt (d:Nat) (i lo hi:Int) (s:DS):CV (d+1) 4 [.int i,.int lo,.int hi] s=.ok (.bl (decide (lo<=i)&&decide (i<=hi))) s:=by
 refine Zl (fn:=WU) rfl (by decide) rfl ?_
 by_cases c:lo<=i <;> simp[WU,pvE,Xj,zi,c]
theorem qX (d:Nat) {r:Row}(s:DS) (hn:n<=6) (hr:Zn p n r):CV (d+2) 26 [spV p n,Zf r] s=.ok (.bl true) s:=by
 refine Zl (fn:=Vc) rfl (by decide) rfl ?_
 show rvs (CV (d+1)) [] Vc.body [some (spV p n),some (Zf r),none,none] [] s=_
 dsimp only[Vc]
 rw[Zg (ZY (p:=p) (n:=n) _ _ (by simp[pvE]) (by simp))]
 rw[Zg (ρ':=[some (spV p n),some (Zf r),some (.int p),some (.int n)]) (os':=[]) (s':=s) (by
  have hl:=hr.1;simp[pvE,Xj,zi,Zf,Zm,hl])]
 refine Zo (ZB ?_);have hc:=ZJ (C:=CV (d+1)) (cap:=[2]) (nl:=1) (t:=[0]) (it:=.of (.v 1)) (elt:=.call 4 [(.v 0),(.c (.int 0)),(.bin .sub (.v 1) (.c (.int 1)))]) (ρ:=[some (spV p n),some (Zf r),some (.int p),some (.int n)]) (s:=s) (l:=r) (e:=V.int) (g:=λ_=>V.bl true)
  (by simp[pvE,Zf]) (by rw[hr.1];unfold lim;omega) (λx hx=>⟨_,rfl,by
   have h:=hr.2 x hx;have e:=zt d x 0 (p-1) s;have h1:x<=p-1:=by omega
   simp[pvE,e,h.1,h1]⟩)
 have ht:=ZX (g:=λ_:Int=>true) r
 simp[pvE,hc,ht]
theorem zR (d:Nat) {r:Row}(s:DS) (hn:n<=6) (hr:Zn p n r):CV (d+3) 35 [spV p n,Zf r] s=.ok .non s:=by
 have e:=qX d s hn hr;refine XO (fn:=WO) (ρ:=[some (spV p n),some (Zf r)]) (os:=[]) rfl (by decide) rfl ?_
 show rvs (CV (d+2)) [] _ [some (spV p n),some (Zf r)] [] s=_;simp[WO,pvE,e]
theorem vy (d:Nat) {hs:List Nat}(s:DS) (hl:hs.length<=1000) (h:hs.Pairwise (· < ·)):CV (d+1) 24 [.lst (hs.map Ze)] s=.ok (.bl true) s:=by
 refine Zl (fn:=Yo) rfl (by decide) rfl ?_
 have ez:∀(a b:List Nat),((a.map Ze).zip (b.map Ze)).map (λq=>V.tup [q.1,q.2])=(a.zip b).map λq=>V.tup [Ze q.1,Ze q.2]:=by
  intro a
  induction a with
  |nil=>intro b;rfl
  |cons x a ih=>intro b;cases b with
   |nil=>rfl
   |cons y b=>simp only[PP,Nf];rw[ih]
 have hc:=ZJ (C:=CV d) (cap:=[]) (nl:=2) (t:=[0,1]) (it:=.zip (.v 0) (.sl (.v 0) (some (.c (.int 1))) none)) (elt:=.cmp .lt (.v 0) (.v 1)) (ρ:=[some (.lst (hs.map Ze))]) (s:=s) (l:=hs.zip hs.tail) (e:=λq=>V.tup [Ze q.1,Ze q.2]) (g:=λ_=>V.bl true)
  (by
   have e1:Xo (hs.map Ze) (some 1) none=hs.tail.map Ze:=by rw[GZ,List.map_tail]
   simp[pvE,slV,e1];rw[<-List.map_tail,ez]) (by rw[NV];unfold lim;omega) (λq hq=>⟨_,rfl,by
   have:q.1<q.2:=by
    obtain⟨i,hi,e⟩:=P8 hq;rw[List.getElem_zip] at e;rw[<-e];rw[NV,List.length_tail] at hi;simp only[List.getElem_tail];exact No.mp h i (i+1) (by omega) (by omega) (by omega)
   simp[pvE,Ze,this]⟩)
 have ht:=ZX (g:=λ_:Nat×Nat=>true) (hs.zip hs.tail)
 simp[Yo,pvE,hc,ht]
theorem xp (d:Nat) {R:List Row}{k:Nat}(s:DS) (hl:R.length<=1000) (hk:∀r∈R,k<r.length/\gt r k=0):CV (d+1) 9 [Za R,.int k] s=.ok (.bl true) s:=by
 refine Zl (fn:=Yr) rfl (by decide) rfl ?_
 have hc:=ZJ (C:=CV d) (cap:=[1]) (nl:=1) (t:=[0]) (it:=.of (.v 0)) (elt:=.cmp .eq (.ix (.v 0) (.v 1)) (.c (.int 0))) (ρ:=[some (Za R),some (.int k)]) (s:=s) (l:=R) (e:=Zf) (g:=λ_=>V.bl true)
  (by simp[pvE,Za]) (by unfold lim;omega) (λr hr=>⟨_,rfl,by
   obtain⟨h1,h2⟩:=hk r hr;have:=VZ h1;simp[pvE,Zf,this,h2,Zm]⟩)
 have ht:=ZX (g:=λ_:Row=>true) R
 simp[Yr,pvE,hc,ht]
theorem zC {P:List Row}(hP:pZ p n P):P.map (λr=>UU (hdI r))=(Zy P).map Ze:=by
 unfold Zy;rw[Nh];refine NL λr hr=>?_
 obtain⟨k,hk,_⟩:=hP.head fld.one0 hr;show UU (hdI r)=Ze ((hdI r).getD 0);rw[hk];rfl
theorem Zca {P:List Row}(hP:pZ p n P) {i:Nat}(hi:i<P.length):∃k,hdI P[i]=some k/\k<n/\gt P[i] k=1/\∀j (hj:j<P.length),j≠i->gt P[j] k=0:=by
 have hm:=P9 hi;obtain⟨k,h1,h2,h3⟩:=hP.head fld.one0 hm;have one:ph p 1=1:=by rcases (inferInstance:Base p).b with e | e | e <;> subst e <;> rfl
 refine⟨k,h1,h2,xn (X0 ppos (hP.row _ hm) k) ⟨by omega,by have:=W9 (p:=p);omega⟩ (by rw[one];exact h3),λj hj ne=>?_⟩
 have hm2:=P9 hj;obtain⟨k2,g1,g2,g3⟩:=hP.head fld.one0 hm2;have inc:=hP.pn.rf.heads;have a1:=YF (p:=p) hm;have a2:=YF (p:=p) hm2;rw[h1] at a1;rw[g1] at a2;refine (Xh (hP.row _ hm2)).mp (hP.pn.rf.zer _ a1 _ a2 ?_);have hinc:=hP.pn.rf.inc;unfold toP at hinc;rw[NI,No] at hinc;show k≠k2;rcases Nat.lt_or_gt_of_ne ne with c | c
 ·have:=hinc j i hj hi c
  simp only[h1,g1] at this;simp at this;omega
 ·have:=hinc i j hi hj c
  simp only[h1,g1] at this;simp at this;omega
theorem GB (d:Nat) {P:List Row}{i:Nat}(s:DS) (hn:n<=6) (hP:pZ p n P) (hi:i<P.length):∃k,hdI P[i]=some k/\CV (d+2) 25 [Za P,.int i,.int k] s=.ok (.bl true) s:=by
 obtain⟨k,h1,h2,h3,h4⟩:=Zca hP hi;refine⟨k,h1,Zl (fn:=YX) rfl (by decide) rfl ?_⟩
 have hd:=dsum hP;have hrow:=hP.row _ (P9 hi);have e1:at' (P.map Zf) (i:Int)=some (Zf P[i]):=WT (by rw[PH,Pc hi];rfl)
 have e2:=VZ (r:=P[i]) (k:=k) (by rw[hrow.1];exact h2)
 have e3:=xp d (R:=P.take i++P.drop (i+1)) (k:=k) s (by rw[PM,Ni,ND];omega) (λr hr=>by
  have hmem:∃j,∃(hj:j<P.length),j≠i/\P[j]=r:=by
   rcases P7.mp hr with z | z
   ·obtain⟨j,hj,e⟩:=P8 z
    rw[Ni] at hj;exact⟨j,by omega,by omega,by rw[<-e,List.getElem_take]⟩
   ·obtain⟨j,hj,e⟩:=P8 z
    rw[ND] at hj;exact⟨i+1+j,by omega,by omega,by rw[<-e,List.getElem_drop]⟩
  obtain⟨j,hj,ne,rfl⟩:=hmem;exact⟨by rw[(hP.row _ (P9 hj)).1];exact h2,h4 j hj ne⟩)
 have c1:Xo (P.map Zf) none (some (i:Int))=(P.take i).map Zf:=by rw[yT (by rw[Pj];omega),List.map_take]
 have c2:Xo (P.map Zf) (some ((i:Int)+1)) none=(P.drop (i+1)).map Zf:=by rw[Qw (k:=i+1) (by omega) (by rw[Pj];omega),List.map_drop]
 have c3:(P.take i).length+(P.drop (i+1)).length<=16777216:=by rw[Ni,ND];omega
 rw[Ni,ND] at c3;have e4:CV (d+1) 9 [V.tup ((P.map Zf).take i++(P.map Zf).drop (i+1)),.int k] s=.ok (.bl true) s:=by
  rw[<-List.map_take,<-List.map_drop,<-Km];exact e3
 simp[YX,pvE,Za,slV,e1,c1,c2,c3,e4];simp[Zf,e2,h3,Zm,pvE,e4]
theorem wv:∀hs:List Nat,WX .non (hs.map Ze)=some false
 |[]=>rfl
 |h::hs=>by
  show (match eqV Zm (Ze h) .non,WX .non (hs.map Ze) with | some a,some b=>some (a||b) | _,_=>none)=_
  rw[wv hs];rfl
theorem wg (d:Nat) {P:List Row}(s:DS) (hn:n<=6) (hP:pZ p n P):CV (d+3) 27 [spV p n,Za P] s=.ok (.bl true) s:=by
 refine Zl (fn:=Wv) rfl (by decide) rfl ?_
 show rvs (CV (d+2)) [] Wv.body [some (spV p n),some (Za P),none] [] s=_
 dsimp only[Wv]
 have hd:=dsum hP;have hc1:=ZJ (C:=CV (d+2)) (cap:=[0]) (nl:=1) (t:=[0]) (it:=.of (.v 1)) (elt:=.call 26 [(.v 1),(.v 0)]) (ρ:=[some (spV p n),some (Za P),none]) (s:=s) (l:=P) (e:=Zf) (g:=λ_=>V.bl true)
  (by simp[pvE,Za]) (by unfold lim;omega) (λx hx=>⟨_,rfl,by
   have e:=qX d s hn (hP.row x hx);simp[pvE,e]⟩)
 have ht:=ZX (g:=λ_:Row=>true) P
 have hpt:Xj (Za P) [.tuple]=some true:=rfl;rw[Zg (ρ':=[some (spV p n),some (Za P),none]) (os':=[]) (s':=s) (by simp[pvE,hpt,hc1,ht])]
 have hc2:=ZJ (C:=CV (d+2)) (cap:=[]) (nl:=1) (t:=[0]) (it:=.of (.v 1)) (elt:=.call 10 [(.v 0)]) (ρ:=[some (spV p n),some (Za P),none]) (s:=s) (l:=P) (e:=Zf) (g:=λr=>UU (hdI r))
  (by simp[pvE,Za]) (by unfold lim;omega) (λx hx=>⟨_,rfl,by
   have e:=XU (d+1) x s;simp[pvE,e]⟩)
 rw[zC hP] at hc2;rw[Zg (ρ':=[some (spV p n),some (Za P),some (.lst ((Zy P).map Ze))]) (os':=[]) (s':=s) (by simp[pvE,hc2])]
 have hrs:(Zy P).Pairwise (· < ·):=by rw[<-Wn (p:=p)];exact hP.pn.rf.heads
 have hln:(Zy P).length=P.length:=by unfold Zy;rw[Pj]
 have e3:=vy (d+1) s (by omega) hrs
 have hin:=wv (Zy P);rw[Zg (ρ':=[some (spV p n),some (Za P),some (.lst ((Zy P).map Ze))]) (os':=[]) (s':=s) (by simp[pvE,Wg,hin,e3])]
 refine Zo (ZB ?_);have ew:((Yn 0 (Zy P).length).zip ((Zy P).map Ze)).map (λq=>V.tup [q.1,q.2])=(List.range P.length).map λi=>V.tup [Ze i,Ze ((Zy P).getD i 0)]:=by
  apply K1
  ·simp[Yn,hln]
  ·intro i h1 h2
   have h3:i<P.length:=by simpa using h2
   have h4:i<(Zy P).length:=by omega
   simp[Yn,Ze,h4]
 have hc3:=ZJ (C:=CV (d+2)) (cap:=[1]) (nl:=2) (t:=[0,1]) (it:=.enum (.v 2)) (elt:=.call 25 [(.v 2),(.v 0),(.v 1)]) (ρ:=[some (spV p n),some (Za P),some (.lst ((Zy P).map Ze))]) (s:=s) (l:=List.range P.length) (e:=λi=>V.tup [Ze i,Ze ((Zy P).getD i 0)]) (g:=λ_=>V.bl true)
  (by
   have:pvw (CV (d+2)) (.enum (.v 2)) [some (spV p n),some (Za P),some (.lst ((Zy P).map Ze))] s=.ok (((Yn 0 ((Zy P).map Ze).length).zip ((Zy P).map Ze)).map λq=>V.tup [q.1,q.2]) s:=by simp[pvE]
   rw[this,Pj,ew]) (by rw[P0];unfold lim;omega) (λi hi=>⟨_,rfl,by
   have hi':=PQ.mp hi;obtain⟨k,hk,e⟩:=GB d s hn hP hi';have:(Zy P).getD i 0=k:=by
    unfold Zy;rw[Po,PH,Pc hi'];show ((hdI P[i]).getD 0)=k;rw[hk];rfl
   have e':CV (d+2) 25 [Za P,Ze i,Ze ((Zy P).getD i 0)] s=.ok (.bl true) s:=by rw[this];exact e
   simp[pvE] at e' ⊢;exact e'⟩)
 have ht3:=ZX (g:=λ_:Nat=>true) (List.range P.length)
 simp[pvE,hc3,ht3]
theorem Xw (d:Nat) {P:List Row}(s:DS) (hn:n<=6) (hP:pZ p n P):CV (d+4) 33 [spV p n,Za P] s=.ok .non s:=by
 have e:=wg d s hn hP;refine XO (fn:=X7) (ρ:=[some (spV p n),some (Za P)]) (os:=[]) rfl (by decide) rfl ?_
 show rvs (CV (d+3)) [] _ [some (spV p n),some (Za P)] [] s=_;simp[X7,pvE,e]
theorem y8 (d:Nat) {P Q:List Row}(s:DS) (hn:n<=6) (hP:pZ p n P) (hQ:pZ p n Q):CV (d+5) 41 [spV p n,Za P,Za Q] s=.ok .non s:=by
 have e1:=Xw d s hn hP;have e2:=Xw d s hn hQ;refine XO (fn:=XL) (ρ:=[some (spV p n),some (Za P),some (Za Q)]) (os:=[]) rfl (by decide) rfl ?_
 show rvs (CV (d+4)) [] _ [some (spV p n),some (Za P),some (Za Q)] [] s=_;simp[XL,pvE,e1,e2]
end
section
variable {p n:Nat}[Base p]
theorem spanned (d:Nat) {R:List Row}{v:V}(s:DS) (hn:n<=6) (hR:∀r∈R,Zn p n r) (hv:Z6 v=some (R.map Zf)) (ht:Xj v [.tuple,.list]=some true):CV (d+6) 36 [spV p n,v] s=.ok (Za (YL p [] R)) s:=by
 refine Zl (fn:=Wz) rfl (by decide) rfl ?_
 show rvs (CV (d+5)) [] Wz.body [some (spV p n),some v,none] [] s=_
 dsimp only[Wz]
 rw[Zg (ρ':=[some (spV p n),some v,none]) (os':=[]) (s':=s) (by simp[pvE,ht])]
 obtain⟨o',hI,e⟩:=Gc (C:=CV (d+5)) (ms:=[]) (t:=[2]) (it:=.of (.v 1)) (b:=[.ex (.call 35 [(.v 0),(.v 2)])]) (L:=R) (e:=Zf) (step:=λ(st:Unit) _=>st) (ρ:=λ_ o=>[some (spV p n),some v,o]) (st:=()) (o:=none) (os:=[]) (s:=s) (λ_=>True) (by show pvw (CV (d+5)) (.of (.v 1)) [some (spV p n),some v,none] s=_;rw[pvw,pv];show po (Z6 v) s=_;rw[hv];rfl) True.intro rfl (λx hx st o hst=>by
  refine⟨True.intro,rfl,_,some (Zf x),rfl,?_⟩;have e2:=zR (d+2) s hn (hR x hx);show rvs (CV (d+5)) [] _ [some (spV p n),some v,some (Zf x)] [] s=_;rw[Zg (Xe (v:=.non) (s':=s) (Zk (vs:=[spV p n,Zf x]) (s1:=s) (Zc (Zd rfl) (Zc (Zd rfl) Zi)) e2)),rvs])
 rw[Zg e];refine Zo (ZB (Zk (vs:=[spV p n,Za [],v]) (s1:=s) (Zc (Zd rfl) (Zc (by simp[pvE,Za]) (Zc (Zd rfl) Zi))) (We d s hn pZ.nil hR hv)))
theorem G1 {r:Row}{k:Nat}{x:Int}:(r.map V.int).set k (.int x)=(r.set k x).map V.int:=by rw[List.map_set]
theorem z8 (d:Nat) {P:List Row}{f:Nat}(s:DS) (hn:n<=6) (hP:pZ p n P) (hf:f<n):CV (d+2) 37 [spV p n,Za P,.int f] s=.ok (Zf (avI p n P f)) s:=by
 refine Zl (fn:=YC) rfl (by decide) rfl ?_
 show rvs (CV (d+1)) [5,5] YC.body [some (spV p n),some (Za P),some (.int f),none,none,none,none] [] s=_
 dsimp only[YC]
 rw[Zg (ZY (p:=p) (n:=n) _ _ (by simp[pvE]) (by simp))]
 have er:(List.replicate n [V.int 0]).flatten=(List.replicate n (0:Int)).map V.int:=by
  rw[Kk];clear hf hP hn
  induction n with
  |zero=>rfl
  |succ k ih=>rw[PZ,P5,ih];rfl
 have hp:=W9 (p:=p);have e1:rv (CV (d+1)) [5,5] (.asg [5] (.bin .mul (.lst [(.c (.int 0))]) (.v 4))) [some (spV p n),some (Za P),some (.int f),some (.int p),some (.int n),none,none] [] s=.ok (.nx [some (spV p n),some (Za P),some (.int f),some (.int p),some (.int n),some (.lst ((List.replicate n (0:Int)).map V.int)),none] [5]) s:=by
  have h1:n<1000:=by omega
  have hfl:=XA (List.replicate n (0:Int));rw[Kk] at hfl er;have h2:(n:Int)<1000:=by omega
  simp[pvE,h2,er,hfl]
 rw[show (([some (spV p n),some (Za P),some (.int f),none,none,none,none]:Env).set 3 (some (.int p))).set 4 (some (.int n))=[some (spV p n),some (Za P),some (.int f),some (.int p),some (.int n),none,none] from rfl,Zg e1]
 have ix:∀(r:Row) (k:Nat),k<r.length->ixN (r.map V.int).length (k:Int)=some k:=λr k h=>by
  unfold ixN;rw[Pg (by omega),Pg (by rw[Pj];omega)];rfl
 have e2:rv (CV (d+1)) [5,5] (.put (.v 5) (.v 2) (.c (.int 1))) [some (spV p n),some (Za P),some (.int f),some (.int p),some (.int n),some (.lst ((List.replicate n (0:Int)).map V.int)),none] [5] s=.ok (.nx [some (spV p n),some (Za P),some (.int f),some (.int p),some (.int n),some (.lst (((List.replicate n (0:Int)).set f 1).map V.int)),none] [5]) s:=by
  have h1:=ix (List.replicate n 0) f (by simpa using hf)
  rw[rv];simp only[pvE,WL,V.flat];simp only[KH,BEq.rfl,Bool.true_or,NS,List.getElem?_cons_succ,List.getElem?_cons_zero,Option.bind,id,pvE];rw[h1,Z4,Zb,G1];rfl
 rw[Zg e2];obtain⟨o',hI,e⟩:=Gc (C:=CV (d+1)) (ms:=[5,5]) (t:=[6]) (it:=.of (.v 1)) (b:=[.put (.v 5) (.call 10 [(.v 6)]) (.bin .mod (.neg (.ix (.v 6) (.v 2))) (.v 3))]) (L:=P) (e:=Zf) (step:=λ(s:Row) r=>s.set ((hdI r).getD 0) ((-(gt r f))%p)) (ρ:=λst o=>[some (spV p n),some (Za P),some (.int f),some (.int p),some (.int n),some (.lst (st.map V.int)),o]) (st:=(List.replicate n (0:Int)).set f 1) (o:=none) (os:=[5]) (s:=s) (λst=>st.length=n) (by simp[pvE,Za]) (by simp) (by simp) (λx hx st o hst=>by
  have hx':=hP.row x hx;obtain⟨k,hk,hkn,_⟩:=hP.head fld.one0 hx;refine⟨by rw[P1];exact hst,by simp[Zf,V.flat,XA],_,some (Zf x),rfl,?_⟩
  show rvs (CV (d+1)) [5,5] _ [some (spV p n),some (Za P),some (.int f),some (.int p),some (.int n),some (.lst (st.map V.int)),some (Zf x)] [5] s=_;have e3:=XU d x s;rw[hk] at e3;have e3':CV (d+1) 10 [Zf x] s=.ok (.int k) s:=e3;have e4:=VZ (r:=x) (k:=f) (by rw[hx'.1];exact hf)
  have ev:pv (CV (d+1)) (.bin .mod (.neg (.ix (.v 6) (.v 2))) (.v 3)) [some (spV p n),some (Za P),some (.int f),some (.int p),some (.int n),some (.lst (st.map V.int)),some (Zf x)] s=.ok (.int ((-(gt x f))%p)) s:=by
   have hp0:0<p:=by omega
   simp[pvE,Zf,e4,hp0]
  have ek:pv (CV (d+1)) (.call 10 [(.v 6)]) [some (spV p n),some (Za P),some (.int f),some (.int p),some (.int n),some (.lst (st.map V.int)),some (Zf x)] s=.ok (.int k) s:=Zk (Zc (Zd rfl) Zi) e3';have h1:=ix st k (by rw[hst];exact hkn)
  rw[hk];rw[Zg (ρ':=[some (spV p n),some (Za P),some (.int f),some (.int p),some (.int n),some (.lst ((st.set k ((-(gt x f))%p)).map V.int)),some (Zf x)]) (os':=[5]) (s':=s) (by
   rw[rv,Pg (by simp),ev,Zb,Pg (by rfl)]
   show (po (some (st.map V.int)) s).bind _=_;rw[Z4,Zb,ek,Zb];show (po (ixN (st.map V.int).length (k:Int)) s).bind _=_;rw[h1,Z4,Zb,G1];rfl),rvs]
  rfl)
 rw[Zg e];refine Zo (ZB ?_);simp[pvE,Zf,avI,avF]
theorem uL (j:Nat):∀hs:List Nat,WX (Ze j) (hs.map Ze)=some (hs.contains j)
 |[]=>rfl
 |h::hs=>by
  show (match eqV Zm (Ze h) (Ze j),WX (Ze j) (hs.map Ze) with | some a,some b=>some (a||b) | _,_=>none)=_
  rw[uL j hs,KH];show some (decide ((h:Int)=(j:Int))||hs.contains j)=_
  congr 2
  rw[P3];simp;omega
theorem against (d:Nat) {P:List Row}(s:DS) (hn:n<=6) (hP:pZ p n P):CV (d+7) 38 [spV p n,Za P] s=.ok (Za (Z5 p n P)) s:=by
 refine Zl (fn:=Wu) rfl (by decide) rfl ?_
 show rvs (CV (d+6)) [] Wu.body [some (spV p n),some (Za P),none,none,none,none] [] s=_
 dsimp only[Wu]
 have hd:=dsum hP;rw[Zg (Xe (Zk (Zc (Zd rfl) (Zc (Zd rfl) Zi)) (Xw (d+2) s hn hP)))];rw[Zg (ZY (p:=p) (n:=n) _ _ (by simp[pvE]) (by simp))]
 have hc2:=ZJ (C:=CV (d+6)) (cap:=[]) (nl:=1) (t:=[0]) (it:=.of (.v 1)) (elt:=.call 10 [(.v 0)]) (ρ:=[some (spV p n),some (Za P),some (.int p),some (.int n),none,none]) (s:=s) (l:=P) (e:=Zf) (g:=λr=>UU (hdI r))
  (by simp[pvE,Za]) (by unfold lim;omega) (λx hx=>⟨_,rfl,by
   have e:=XU (d+5) x s;simp[pvE,e]⟩)
 rw[zC hP] at hc2;rw[Zg (ρ':=[some (spV p n),some (Za P),some (.int p),some (.int n),some (.lst ((Zy P).map Ze)),none]) (os':=[]) (s':=s) (by simp[pvE,hc2])]
 have hc3:=Y4 (C:=CV (d+6)) (cap:=[4]) (nl:=1) (t:=[0]) (it:=.rng1 (.v 3)) (tst:=.cmp .nin (.v 0) (.v 1)) (elt:=.v 0) (ρ:=[some (spV p n),some (Za P),some (.int p),some (.int n),some (.lst ((Zy P).map Ze)),none]) (s:=s) (l:=List.range n) (e:=Ze) (g:=Ze) (q:=λj=>!(Zy P).contains j)
  (XV (Zd rfl) (by omega)) (by rw[P0];unfold lim;omega) (λj hj=>⟨_,.bl (!(Zy P).contains j),rfl,by
   have:=uL j (Zy P);simp[pvE,Wg,this],rfl,λ_=>by simp[pvE]⟩)
 rw[Zg (ρ':=[some (spV p n),some (Za P),some (.int p),some (.int n),some (.lst ((Zy P).map Ze)),some (.lst ((XY n P).map Ze))]) (os':=[]) (s':=s) (by
  refine (ZW hc3 rfl).trans ?_;rfl)]
 have hc4:=ZJ (C:=CV (d+6)) (cap:=[0,1]) (nl:=1) (t:=[0]) (it:=.of (.v 5)) (elt:=.call 37 [(.v 1),(.v 2),(.v 0)]) (ρ:=[some (spV p n),some (Za P),some (.int p),some (.int n),some (.lst ((Zy P).map Ze)),some (.lst ((XY n P).map Ze))]) (s:=s) (l:=XY n P) (e:=Ze) (g:=λf=>Zf (avI p n P f))
  (by simp[pvE]) (by
   have:(XY n P).length<=n:=by unfold XY;exact PY (KY ..) (by rw[P0];exact Pp _)
   unfold lim;omega) (λf hf=>⟨_,rfl,by
   have hf':f<n:=by rw[<-Qb (p:=p)] at hf;exact (Yc.mp hf).1
   have e:=z8 (d+4) s hn hP hf';exact Zk (Zc (Zd rfl) (Zc (Zd rfl) (Zc (Zd rfl) Zi))) e⟩)
 have e5:=spanned (p:=p) (n:=n) d (R:=(XY n P).map (avI p n P)) (v:=.lst ((XY n P).map λf=>Zf (avI p n P f))) s hn (λr hr=>by obtain⟨f,hf,rfl⟩:=PD.mp hr;exact (uP hP hf).1) (by rw[Nh];rfl) rfl
 exact Zo (ZB (Zk (Zc (Zd rfl) (Zc hc4 Zi)) e5))
theorem Zat (d:Nat) {P:List Row}{r:Row}(s:DS) (hn:n<=6) (hP:pZ p n P) (hr:Zn p n r):CV (d+4) 43 [spV p n,Za P,Zf r] s=.ok (.bl (WP p P r)) s:=by
 refine Zl (fn:=Wq) rfl (by decide) rfl ?_
 show rvs (CV (d+3)) [] Wq.body [some (spV p n),some (Za P),some (Zf r)] [] s=_
 dsimp only[Wq]
 have e1:pv (CV (d+3)) (.call 10 [(.call 15 [(.v 0),(.v 1),(.v 2)])]) [some (spV p n),some (Za P),some (Zf r)] s=.ok (UU (hdI (Zj p P r))) s:=
  Zk (Zc (Zk (Zc (Zd rfl) (Zc (Zd rfl) (Zc (Zd rfl) Zi))) (QM d s hn hP hr)) Zi) (XU (d+2) _ s)
 refine Zo (ZB ?_);rw[pv,e1,Zb];unfold WP;cases hdI (Zj p P r) <;> simp[pvE,UU]
theorem holds (d:Nat) {P:List Row}{r:Row}(s:DS) (hn:n<=6) (hP:pZ p n P) (hr:Zn p n r):CV (d+5) 44 [spV p n,Za P,Zf r] s=.ok (.bl (WP p P r)) s:=by
 refine Zl (fn:=Uv) rfl (by decide) rfl ?_
 show rvs (CV (d+4)) [] Uv.body [some (spV p n),some (Za P),some (Zf r)] [] s=_
 dsimp only[Uv]
 rw[Zg (Xe (Zk (Zc (Zd rfl) (Zc (Zd rfl) Zi)) (Xw d s hn hP)))];rw[Zg (Xe (Zk (Zc (Zd rfl) (Zc (Zd rfl) Zi)) (zR (d+1) s hn hr)))];exact Zo (ZB (Zk (Zc (Zd rfl) (Zc (Zd rfl) (Zc (Zd rfl) Zi))) (Zat d s hn hP hr)))
theorem U7 (rs:List Row) (o:Row):(Wi p rs o).length=rs.length*p:=by
 unfold Wi;rw[Kd];simp only[Pj,P0];rw[KE,NX]
theorem Zae (d:Nat) {P:List Row}(s:DS) (hn:n<=6) (hP:pZ p n P):CV (d+5) 34 [spV p n,Za P] s=.ok (.lst ((x9 p n P).map Zf)) s:=by
 refine Zl (fn:=Wp) rfl (by decide) rfl ?_
 show rvs (CV (d+4)) [] Wp.body [some (spV p n),some (Za P),none,none,none,none] [] s=_
 dsimp only[Wp]
 have hd:=dsum hP;have hp:=W9 (p:=p);rw[Zg (Xe (Zk (Zc (Zd rfl) (Zc (Zd rfl) Zi)) (Xw d s hn hP)))];rw[Zg (ZY (p:=p) (n:=n) _ _ (by simp[pvE]) (by simp))]
 have er:(List.replicate n [V.int 0]).flatten=(List.replicate n (0:Int)).map V.int:=by
  rw[Kk];clear hd hP hn
  induction n with
  |zero=>rfl
  |succ k ih=>rw[PZ,P5,ih];rfl
 rw[Zg (ρ':=[some (spV p n),some (Za P),some (.int p),some (.int n),some (.lst ([List.replicate n (0:Int)].map Zf)),none]) (os':=[]) (s':=s) (by
  have h1:(n:Int)<1000:=by omega
  rw[Kk] at er;simp[pvE,h1,er,Zf])]
 have hz:Zn p n (List.replicate n (0:Int)):=⟨by simp,λa ha=>by rw[(List.mem_replicate.mp ha).2];exact⟨by omega,ppos⟩⟩
 obtain⟨o',hI,e⟩:=XM (C:=CV (d+4)) (ms:=[]) (t:=[5]) (it:=.of (.v 1)) (b:=[.asg [4] (.comp2 [2,5] 2 [0] (.of (.v 4)) [] [1] (.rng1 (.v 2)) [] (.call 13 [(.v 2),(.v 0),(.v 3),(.v 1)]))]) (L:=P) (e:=Zf) (step:=Wi p) (ρ:=λst o=>[some (spV p n),some (Za P),some (.int p),some (.int n),some (.lst (st.map Zf)),o]) (st:=[List.replicate n (0:Int)]) (o:=none) (os:=[]) (s:=s) (λl st=>(∀r∈l,Zn p n r)/\(∀r∈st,Zn p n r)/\st.length*5^l.length<=15625) (by simp[pvE,Za]) ⟨hP.row,λr hr=>by rw[PF.mp hr];exact hz,by
   have h1:P.length<=6:=by omega
   have:5^P.length<=5^6:=Nn (by omega) h1
   simp only[P6];omega⟩ rfl (λx l st o hst=>by
  obtain⟨h1,h2,h3⟩:=hst;have hx:=h1 x (Pe ..);have hsl:(Wi p st x).length=st.length*p:=U7 st x;have hb:st.length*p*5^l.length<=15625:=by
   have:st.length*p<=st.length*5:=Nat.mul_le_mul_left _ (by omega)
   have h4:st.length*p*5^l.length<=st.length*5*5^l.length:=Nat.mul_le_mul_right _ this;rw[Px,Nat.pow_succ] at h3;have h5:st.length*5*5^l.length=st.length*(5^l.length*5):=by rw[Nat.mul_assoc,Tf 5]
   omega
  have hlim:st.length*p<=15625:=PY (Nat.le_mul_of_pos_right _ (Nat.pow_pos (by omega))) hb
  refine⟨⟨λr hr=>h1 r (Pd _ hr),λr hr=>?_,by rw[hsl];exact hb⟩,rfl,_,some (Zf x),rfl,?_⟩
  ·unfold Wi at hr
   obtain⟨q,hq,hr⟩:=K2.mp hr;obtain⟨k,_,rfl⟩:=PD.mp hr;exact Yx (h2 q hq) hx
  ·show rvs (CV (d+4)) [] _ [some (spV p n),some (Za P),some (.int p),some (.int n),some (.lst (st.map Zf)),some (Zf x)] [] s=_
   have hc:=U8 (C:=CV (d+4)) (cap:=[2,5]) (nl:=2) (t:=[0]) (u:=[1]) (it:=.of (.v 4)) (jt:=.rng1 (.v 2)) (elt:=.call 13 [(.v 2),(.v 0),(.v 3),(.v 1)]) (ρ:=[some (spV p n),some (Za P),some (.int p),some (.int n),some (.lst (st.map Zf)),some (Zf x)]) (s:=s) (l:=st) (e:=Zf) (m:=λ_=>List.range p) (e2:=Ze) (g:=λr k=>Zf (Xx p r x (k:Int)))
    (by simp[pvE]) (by rw[Kd];simp only[Pj,P0];rw[KE,NX];unfold lim;omega) (λr hr=>⟨_,rfl,by
     exact XV (n:=p) (Zd rfl) (by omega),λk hk=>⟨_,rfl,by
     have hk':=PQ.mp hk;have:=Qk (p:=p) (d+3) (k:=(k:Int)) s hn (h2 r hr) hx ⟨by omega,by omega⟩
     exact Zk (Zc (Zd rfl) (Zc (Zd rfl) (Zc (Zd rfl) (Zc (Zd rfl) Zi)))) this⟩⟩)
   have ef:(st.flatMap λr=>(List.range p).map λ(k:Nat)=>Zf (Xx p r x (k:Int)))=(Wi p st x).map Zf:=by
    unfold Wi;rw[List.map_flatMap];exact congrArg (λf=>st.flatMap f) (funext λr=>by rw[Nh];rfl)
   rw[ef] at hc;rw[Zg (ZW hc rfl),rvs];rfl)
 rw[Zg e];exact Zo (ZB (Zd rfl))
end
section
variable {p n:Nat}[Base p]
theorem ix0 {C:Zt}{i:Nat}{ρ:Env}{s:DS}(h:ρ[i]? = some (some (spV p n))):pv C (.ix (.v i) (.c (.int 0))) ρ s=.ok (.int p) s:=by
 rw[pv,Zd h,Zb,pv];rfl
theorem ix1 {C:Zt}{i:Nat}{ρ:Env}{s:DS}(h:ρ[i]? = some (some (spV p n))):pv C (.ix (.v i) (.c (.int 1))) ρ s=.ok (.int n) s:=by
 rw[pv,Zd h,Zb,pv];rfl
theorem law_row_of (d:Nat) (s:DS) (hn:n<=6):∃r s',CV (d+2) 40 [.drw,spV p n] s=.ok (Zf r) s'/\Zn p n r:=by
 have hp:=W9 (p:=p);obtain⟨ys,s',e1,e2,e3⟩:=vT (C:=CV (d+1)) (cap:=[0,1]) (nl:=1) (t:=[0]) (it:=.rng1 (.ix (.v 1) (.c (.int 1)))) (elt:=.call 2 [(.v 1),(.ix (.v 2) (.c (.int 0)))]) (ρ:=[some .drw,some (spV p n)]) (s:=s) (k:=n) (Q:=λy=>∃a:Int,y=.int a/\0<=a/\a<p)
  (by rw[xS];exact XV (ix1 rfl) (by omega)) (by unfold lim;omega) (λx s=>by
   obtain⟨v,s',f1,f2,f3⟩:=Q5 (F:=fns) (tk:=2) (d:=d) (m:=p) s (by omega) (by omega)
   refine⟨[some x,some .drw,some (spV p n)],.int v,s',rfl,Zk (Zc (Zd rfl) (Zc (ix0 (p:=p) (n:=n) rfl) Zi)) f1,v,rfl,f2,f3⟩)
 have:∃r:Row,ys=r.map V.int/\∀a∈r,0<=a/\a<(p:Int):=by
  clear e1 e2
  induction ys with
  |nil=>exact⟨[],rfl,λ_ h=>by cases h⟩
  |cons y ys ih=>
   obtain⟨r,h1,h2⟩:=ih λz hz=>e3 z (Pd _ hz)
   obtain⟨a,rfl,h3⟩:=e3 y (Pe ..);refine⟨a::r,by rw[h1];rfl,λx hx=>?_⟩
   rcases Pk.mp hx with rfl | hx
   ·exact h3
   ·exact h2 x hx
 obtain⟨r,rfl,h2⟩:=this;refine⟨r,s',Zl (fn:=f__law_row_of) rfl (by decide) rfl ?_,by simpa using e2,h2⟩
 show rvs (CV (d+1)) [] f__law_row_of.body [some .drw,some (spV p n)] [] s=_
 dsimp only[f__law_row_of]
 refine Zo (ZB ?_);rw[pv,Zc e1 Zi];rfl
end
section
variable {C:Zt}{ρ:Env}{s:DS}{a b:E}
theorem Jv {c:Bool}(h1:pv C a ρ s=.ok (.bl false) s) (h2:pv C b ρ s=.ok (.bl c) s):pv C (.or a b) ρ s=.ok (.bl c) s:=by rw[pv,h1];exact h2
theorem ZbI {c c':Bool}(h1:pv C a ρ s=.ok (.bl c) s) (h2:pv C b ρ s=.ok (.bl c') s):pv C (.and a b) ρ s=.ok (.bl (c&&c')) s:=by
 rw[pv,h1];cases c
 ·rfl
 ·exact h2
theorem ue {c:Bool}(h1:pv C a ρ s=.ok (.bl c) s):pv C (.not a) ρ s=.ok (.bl !c) s:=by rw[pv,h1];rfl
theorem jY {P Q:List Row}(h1:pv C a ρ s=.ok (Za P) s) (h2:pv C b ρ s=.ok (Za Q) s):pv C (.cmp .ne a b) ρ s=.ok (.bl !decide (P=Q)) s:=by
 rw[pv,h1,Zb,h2,Zb];show po ((eqV Zm (Za P) (Za Q)).map λb=>V.bl !b) s=_
 rw[Zm,Ql];rfl
theorem ZcU {c c':Bool}(h1:pv C a ρ s=.ok (.bl c) s) (h2:pv C b ρ s=.ok (.bl c') s) (h:c=c'):pv C (.cmp .ne a b) ρ s=.ok (.bl false) s:=by
 subst h;rw[pv,h1,Zb,h2,Zb];cases c <;> rfl
theorem X2 (h1:pv C a ρ s=.ok (.bl true) s):pv C (.cmp .isn a (.c (.bl true))) ρ s=.ok (.bl false) s:=by
 rw[pv,h1,Zb,pv];rfl
theorem call1 {f:Nat}{x y:E}{v w r:V}(h1:pv C x ρ s=.ok v s) (h2:pv C y ρ s=.ok w s) (h:C f [v,w] s=.ok r s):pv C (.call f [x,y]) ρ s=.ok r s:=Zk (Zc h1 (Zc h2 Zi)) h
theorem call3 {f:Nat}{x y z:E}{v w u r:V}(h1:pv C x ρ s=.ok v s) (h2:pv C y ρ s=.ok w s) (h3:pv C z ρ s=.ok u s) (h:C f [v,w,u] s=.ok r s):pv C (.call f [x,y,z]) ρ s=.ok r s:=Zk (Zc h1 (Zc h2 (Zc h3 Zi))) h
theorem guard {ms:List Nat}{t:E}{x l:List Sm}(h:pv C t ρ s=.ok (.bl false) s):rvs C ms (.ite t x []::l) ρ [] s=rvs C ms l ρ [] s:=by
 rw[Zg ((Wc (XC h rfl)).trans (by rw[Pi (by simp),rvs]))]
theorem WZ {P:List Row}(h1:pv C a ρ s=.ok (Za P) s):pv C (.blt .len [a]) ρ s=.ok (.int P.length) s:=by
 rw[pv,Zc h1 Zi,Zb];show po (some (V.int (P.map Zf).length)) s=_;rw[Pj];rfl
theorem qO {x y:Int}(h1:pv C a ρ s=.ok (.int x) s) (h2:pv C b ρ s=.ok (.int y) s):pv C (.bin .add a b) ρ s=.ok (.int (x+y)) s:=by
 rw[pv,h1,Zb,h2,Zb];rfl
theorem ne_int {x y:Int}(h1:pv C a ρ s=.ok (.int x) s) (h2:pv C b ρ s=.ok (.int y) s) (h:x=y):pv C (.cmp .ne a b) ρ s=.ok (.bl false) s:=by
 rw[pv,h1,Zb,h2,Zb];show PR.ok (V.bl !decide (x=y)) s=_;rw[PC h];rfl
end
noncomputable def menu:List (Nat×Nat×Nat):=[(2,2,1),(4,2,2),(8,2,3),(16,2,4),(32,2,5),(64,2,6),(3,3,1),(9,3,2),(27,3,3),(81,3,4),(5,5,1),(25,5,2),(125,5,3)]
theorem Zam:∀q∈menu,(q.2.1=2\/q.2.1=3\/q.2.1=5)/\1<=q.2.2/\q.2.2<=6/\q.2∈VU++Zav:=by decide
theorem ub:∀q∈menu,(q.1:Int)<=27->q.2∈VU:=by decide
theorem law_space (d:Nat) {m:Int}(s:DS) (hm:2<=m):∃p n s',CV (d+2) 3 [.drw,.int m] s=.ok (spV p n) s'/\(p=2\/p=3\/p=5)/\1<=n/\n<=6/\(p,n)∈VU++Zav/\(m<=27->(p,n)∈VU):=by
 let L:=menu.filter λq=>decide ((q.1:Int)<=m)
 have hL:0<L.length:=List.length_pos_of_mem (a:=(2,2,1)) (Nd.mpr ⟨Pe ..,PC hm⟩);have hL2:L.length<=13:=KY ..;have hc:=Y4 (C:=CV (d+1)) (cap:=[1]) (nl:=2) (t:=[0,1]) (it:=.of (.v 2)) (tst:=.cmp .le (.v 0) (.v 2)) (elt:=.v 1) (ρ:=[some .drw,some (.int m),some (.lst (menu.map λq=>.tup [.int q.1,spV q.2.1 q.2.2]))]) (s:=s) (l:=menu) (e:=λq=>.tup [.int q.1,spV q.2.1 q.2.2]) (g:=λq=>spV q.2.1 q.2.2) (q:=λq=>decide ((q.1:Int)<=m))
  (by rw[pvw,Zd (v:=.lst (menu.map λq=>.tup [.int q.1,spV q.2.1 q.2.2])) rfl];rfl) (by decide) (λq _=>⟨[some (.int q.1),some (spV q.2.1 q.2.2),some (.int m)],.bl (decide ((q.1:Int)<=m)),rfl,by
   rw[pv,Zd (v:=.int q.1) rfl,Zb,Zd (v:=.int m) rfl];rfl,rfl,λ_=>Zd rfl⟩)
 obtain⟨v,s',f1,f2,f3⟩:=Q5 (F:=fns) (tk:=2) (d:=d) (m:=L.length) s (by omega) (by omega)
 obtain⟨k,rfl⟩:∃k:Nat,v=k:=⟨v.toNat,by omega⟩
 have hk:k<L.length:=by omega
 have hq:=Zam _ (Nd.mp (P9 hk)).1;have hf:=ub _ (Nd.mp (P9 hk)).1;have hle:=Pq (Nd.mp (P9 hk)).2;refine⟨L[k].2.1,L[k].2.2,s',Zl (fn:=f__law_space) rfl (by decide) rfl ?_,hq.1,hq.2.1,hq.2.2.1,hq.2.2.2,λh=>hf (by omega)⟩
 show rvs (CV (d+1)) [] f__law_space.body [some .drw,some (.int m),none] [] s=_
 dsimp only[f__law_space]
 rw[Zg (ρ':=[some .drw,some (.int m),some (.lst ((menu.take 8).map λq=>.tup [.int q.1,spV q.2.1 q.2.2]))]) (os':=[]) (s':=s) (by simp[pvE,menu,spV])]
 rw[Zg (ρ':=[some .drw,some (.int m),some (.lst (menu.map λq=>.tup [.int q.1,spV q.2.1 q.2.2]))]) (os':=[]) (s':=s) (by simp[pvE,menu,spV])]
 rw[Zg (ZW hc rfl)];show rvs _ _ _ [some .drw,some (.int m),some (.lst (L.map λq=>spV q.2.1 q.2.2))] _ _=_
 refine Zo (ZB ?_);have e1:pv (CV (d+1)) (.blt .len [(.v 2)]) [some .drw,some (.int m),some (.lst (L.map λq=>spV q.2.1 q.2.2))] s=.ok (.int L.length) s:=by
  rw[pv,Zc (Zd (v:=.lst (L.map λq=>spV q.2.1 q.2.2)) rfl) Zi,Zb]
  show po (some (V.int (L.map λq=>spV q.2.1 q.2.2).length)) s=_
  rw[Pj];rfl
 rw[pv,Zd (v:=.lst (L.map λq=>spV q.2.1 q.2.2)) rfl,Zb,Zk (Zc (Zd rfl) (Zc e1 Zi)) f1,Zb]
 show po (at' (L.map λq=>spV q.2.1 q.2.2) (k:Int)) s'=_
 rw[WT (x:=spV L[k].2.1 L[k].2.2) (by rw[PH,Pc hk];rfl)];rfl
section
variable {p n:Nat}[Base p]
theorem zo (d:Nat) {P:List Row}{h:Nat}(s:DS) (hP:∀r∈P,Zn p n r) (hl:P.length<=1000) (hh:h<n):CV (d+1) 9 [Za P,Ze h] s=.ok (.bl (P.all λr=>decide (gt r h=0))) s:=by
 refine Zl (fn:=Yr) rfl (by decide) rfl ?_
 have hc:=ZJ (C:=CV d) (cap:=[1]) (nl:=1) (t:=[0]) (it:=.of (.v 0)) (elt:=.cmp .eq (.ix (.v 0) (.v 1)) (.c (.int 0))) (ρ:=[some (Za P),some (Ze h)]) (s:=s) (l:=P) (e:=Zf) (g:=λr=>V.bl (decide (gt r h=0)))
  (by simp[pvE,Za]) (by unfold lim;omega) (λr hr=>⟨_,rfl,by
   have:=VZ (r:=r) (k:=h) (by rw[(hP r hr).1];exact hh)
   simp[pvE,Zf,Ze,this,Zm]⟩)
 have ht:=ZX (g:=λr:Row=>decide (gt r h=0)) P
 simp[Yr,pvE,hc,ht,KO,Function.comp]
theorem UO (d:Nat) {i lo hi:Int}(s:DS) (h1:lo<=i) (h2:i<=hi):CV (d+2) 5 [.int i,.int lo,.int hi] s=.ok .non s:=by
 have e:=zt d i lo hi s;refine XO (fn:=XG) (ρ:=[some (.int i),some (.int lo),some (.int hi)]) (os:=[]) rfl (by decide) rfl ?_
 show rvs (CV (d+1)) [] _ [some (.int i),some (.int lo),some (.int hi)] [] s=_;simp[XG,pvE,e,h1,h2]
theorem zeros (h:Nat):(List.replicate h [V.int 0]).flatten=(List.replicate h (0:Int)).map V.int:=by
 induction h with
 |zero=>rfl
 |succ k ih=>rw[PZ,P5,ih];rfl
theorem ja {C:Zt}{ρ:Env}{s:DS}{a b:E}{i j:Nat}(h1:pv C a ρ s=.ok (.int i) s) (h2:pv C b ρ s=.ok (.int j) s) (hi:i<1000000) (hj:j<1000000):pvw C (.rng2 a b) ρ s=.ok ((List.range (j-i)).map λk=>Ze (i+k)) s:=by
 rw[pvw,h1,Zb,h2,Zb];show (if (small (i:Int)&&small (j:Int))=true then PR.ok (Yn i ((j:Int)-i).toNat) s else .no)=_
 rw[Xz (by omega) (by omega),Xz (by omega) (by omega),Pg (show (true&&true)=true from rfl),show ((j:Int)-i).toNat=j-i by omega]
 rfl
theorem zH (d:Nat) {h:Nat}(s:DS) (hn:n<=6) (hh:h<n):CV (d+1) 8 [spV p n,Ze h] s=.ok (.lst ((ZV p n h).map Zf)) s:=by
 refine Zl (fn:=YD) rfl (by decide) rfl ?_
 show rvs (CV d) [] YD.body [some (spV p n),some (Ze h),none,none,none,none] [] s=_
 dsimp only[YD]
 have hp:=W9 (p:=p);rw[Zg (ZY (p:=p) (n:=n) _ _ (by simp[pvE]) (by simp))]
 have er:=zeros h;rw[Zg (ρ':=[some (spV p n),some (Ze h),some (.int p),some (.int n),some (.lst ([List.replicate h (0:Int)++[1]].map Zf)),none]) (os':=[]) (s':=s) (by
  have h1:(h:Int)<1000:=by omega
  have h2:h+1<=lim:=by unfold lim;omega
  have h3:(List.replicate h (V.int 0)).length+1<=16777216:=by rw[Nx];omega
  rw[Kk] at er;have h4:h<=16777215:=by omega
  simp[pvE,Ze,h1,er,Zf,h4])]
 obtain⟨o',hI,e⟩:=XM (C:=CV d) (ms:=[]) (t:=[5]) (it:=.rng2 (.bin .add (.v 1) (.c (.int 1))) (.v 3)) (b:=[.asg [4] (.comp2 [2] 2 [0] (.of (.v 4)) [] [1] (.rng1 (.v 2)) [] (.bin .add (.v 0) (.tup [(.v 1)])))]) (L:=List.range (n-(h+1))) (e:=λk=>Ze (h+1+k)) (step:=λrs _=>Wj p rs) (ρ:=λst o=>[some (spV p n),some (Ze h),some (.int p),some (.int n),some (.lst (st.map Zf)),o]) (st:=[List.replicate h (0:Int)++[1]]) (o:=none) (os:=[]) (s:=s) (λl st=>st.length*5^l.length<=15625/\∀r∈st,r.length+l.length<=1000)
  (ja (by simp[pvE,Ze]) (by simp[pvE]) (by omega) (by omega)) ⟨by
   have:5^(n-(h+1))<=5^6:=Nn (by omega) (by omega)
   simp only[P6,P0];omega,λr hr=>by rw[PF.mp hr];simp;omega⟩ rfl (λx l st o hst=>by
  obtain⟨h3,h4⟩:=hst;have hsl:(Wj p st).length=st.length*p:=zD st;have hb:st.length*p*5^l.length<=15625:=by
   have:st.length*p<=st.length*5:=Nat.mul_le_mul_left _ (by omega)
   have h4:st.length*p*5^l.length<=st.length*5*5^l.length:=Nat.mul_le_mul_right _ this;rw[Px,Nat.pow_succ] at h3;have h5:st.length*5*5^l.length=st.length*(5^l.length*5):=by rw[Nat.mul_assoc,Tf 5]
   omega
  have hlim:st.length*p<=15625:=PY (Nat.le_mul_of_pos_right _ (Nat.pow_pos (by omega))) hb
  refine⟨⟨by rw[hsl];exact hb,λr hr=>?_⟩,rfl,_,some (Ze (h+1+x)),rfl,?_⟩
  ·unfold Wj at hr
   obtain⟨q,hq,hr⟩:=K2.mp hr;obtain⟨k,_,rfl⟩:=PD.mp hr;have:=h4 q hq;rw[Px] at this;rw[PM,P6];omega
  ·show rvs (CV d) [] _ [some (spV p n),some (Ze h),some (.int p),some (.int n),some (.lst (st.map Zf)),some (Ze (h+1+x))] [] s=_
   have hc:=U8 (C:=CV d) (cap:=[2]) (nl:=2) (t:=[0]) (u:=[1]) (it:=.of (.v 4)) (jt:=.rng1 (.v 2)) (elt:=.bin .add (.v 0) (.tup [(.v 1)])) (ρ:=[some (spV p n),some (Ze h),some (.int p),some (.int n),some (.lst (st.map Zf)),some (Ze (h+1+x))]) (s:=s) (l:=st) (e:=Zf) (m:=λ_=>List.range p) (e2:=Ze) (g:=λr k=>Zf (r++[(k:Int)]))
    (by simp[pvE]) (by rw[Kd];simp only[Pj,P0];rw[KE,NX];unfold lim;omega) (λr hr=>⟨_,rfl,by
     exact XV (n:=p) (Zd rfl) (by omega),λk hk=>⟨_,rfl,by
     have hr':=h4 r hr;have h6:r.length+1<=16777216:=by omega
     simp[pvE,Zf,Ze,h6]⟩⟩)
   have ef:(st.flatMap λr=>(List.range p).map λ(k:Nat)=>Zf (r++[(k:Int)]))=(Wj p st).map Zf:=by
    unfold Wj;rw[List.map_flatMap];exact congrArg (λf=>st.flatMap f) (funext λr=>by rw[Nh];rfl)
   rw[ef] at hc;rw[Zg (ZW hc rfl),rvs];rfl)
 rw[Zg e];exact Zo (ZB (Zd rfl))
theorem qr {C:Zt}{ρ:Env}{s:DS}{a b:E}{i j:Nat}(h1:pv C a ρ s=.ok (.int i) s) (h2:pv C b ρ s=.ok (.int j) s) (hi:i<1000000) (hj:j<1000000):pvw C (.rrng a b) ρ s=.ok ((WS j i).map Ze) s:=by
 rw[pvw,h1,Zb,h2,Zb];show (if (small (i:Int)&&small (j:Int))=true then PR.ok (Yn i ((j:Int)-i).toNat).reverse s else .no)=_
 rw[Xz (by omega) (by omega),Xz (by omega) (by omega),Pg (show (true&&true)=true from rfl),show ((j:Int)-i).toNat=j-i by omega]
 unfold WS Yn;rw[K0,Nh];rfl
theorem jv {r:Row}{P:List Row}:at' ((P++[r]).map Zf) (-1)=some (Zf r):=by
 have e:ixN ((P++[r]).map Zf).length (-1)=some P.length:=by
  rw[Pj,PM,P6];unfold ixN;rw[Pi (by omega),Pg (by omega),show (-1+((P.length+1:Nat):Int)).toNat=P.length by omega]
 unfold at';rw[e];show ((P++[r]).map Zf)[P.length]? = _;rw[PH,PU (Pp _),Nat.sub_self];rfl
theorem qF (d:Nat) {P:List Row}{v:V}{a2 a3 a4:Option V}(s:DS) (hP:pZ p n P):pv (CV (d+1)) (.ite (.v 1) (.bin .add (.call 10 [(.ix (.v 1) (.neg (.c (.int 1))))]) (.c (.int 1))) (.c (.int 0))) [some v,some (Za P),a2,a3,a4] s=.ok (Ze (Z7 P)) s:=by
 unfold Z7;cases e:P.getLast? with
 |none=>
  rw[List.getLast?_eq_none_iff] at e;subst e;simp[pvE,Za,Ze]
 |some r=>
  obtain⟨P',rfl⟩:=Kx.mp e;obtain⟨k,h1,h2,h3⟩:=hP.head fld.one0 (r:=r) (by simp)
  have e1:=XU d r s;rw[h1] at e1;have e2:pv (CV (d+1)) (.ix (.v 1) (.neg (.c (.int 1)))) [some v,some (Za (P'++[r])),a2,a3,a4] s=.ok (Zf r) s:=by
   have:=jv (r:=r) (P:=P');simp only[Km,PP,Te] at this;simp[pvE,Za,this]
  have e3:pv (CV (d+1)) (.call 10 [(.ix (.v 1) (.neg (.c (.int 1))))]) [some v,some (Za (P'++[r])),a2,a3,a4] s=.ok (.int k) s:=Zk (Zc e2 Zi) e1;have e4:pv (CV (d+1)) (.v 1) [some v,some (Za (P'++[r])),a2,a3,a4] s=.ok (Za (P'++[r])) s:=Zd rfl;rw[pv,e4,Zb];show (po (some (!((P'++[r]).map Zf).isEmpty)) s).bind _=_;have:((P'++[r]).map Zf).isEmpty=false:=by cases P' <;> rfl
  rw[this,Z4,Zb];show pv (CV (d+1)) (.bin .add _ _) _ s=_;rw[pv,e3,Zb,pv];simp[h1,pvE,Ze]
theorem YG:∀L:List Row,fq (L.map Zf)=true
 |[]=>rfl
 |r::L=>by
  show (V.flat (Zf r)&&fq (L.map Zf))=true;rw[YG L,Bool.and_true];exact XA r
theorem zK (d:Nat) {P:List Row}(s:DS) (hn:n<=6) (hP:pZ p n P):CV (d+2) 11 [.lst ((List.range n).map λh=>.lst ((ZV p n h).map Zf)),Za P] s=.ok (.lst ((Ja p n P).map Zf)) s:=by
 refine Zl (fn:=YE) rfl (by decide) rfl ?_
 have hd:=dsum hP;have hp:=W9 (p:=p)
 let v:V:=.lst ((List.range n).map λh=>.lst ((ZV p n h).map Zf))
 show rvs (CV (d+1)) [3] YE.body [some v,some (Za P),none,none,none] [] s=_
 dsimp only[YE]
 rw[Zg (ZW (qF d s hP) rfl)];show rvs (CV (d+1)) [3] _ [some v,some (Za P),some (Ze (Z7 P)),none,none] [] s=_;rw[Zg (ρ':=[some v,some (Za P),some (Ze (Z7 P)),some (.lst (([]:List Row).map Zf)),none]) (os':=[3]) (s':=s) (by
  rw[rv];simp[pvE];rfl)]
 have hf:Z7 P<=n:=by
  unfold Z7;cases e:P.getLast? with
  |none=>exact Ki _
  |some r=>
   obtain⟨P',rfl⟩:=Kx.mp e;have:=hP.pn.lt _ (YF (p:=p) (show r∈P'++[r] by simp))
   exact this
 obtain⟨o',hI,e⟩:=XM (C:=CV (d+1)) (ms:=[3]) (t:=[4]) (it:=.rrng (.v 2) (.blt .len [(.v 0)])) (b:=[.ite (.call 9 [(.v 1),(.v 4)]) [.ex (.mt .extend (.v 3) [(.ix (.v 0) (.v 4))])] []]) (L:=WS n (Z7 P)) (e:=Ze) (step:=yn p n P) (ρ:=λst o=>[some v,some (Za P),some (Ze (Z7 P)),some (.lst (st.map Zf)),o]) (st:=[]) (o:=none) (os:=[3]) (s:=s) (λl st=>(∀h∈l,h<n)/\st.length+15625*l.length<=100000)
  (by
   have e1:pv (CV (d+1)) (.blt .len [(.v 0)]) (hide [3] [some v,some (Za P),some (Ze (Z7 P)),some (.lst (([]:List Row).map Zf)),none]) s=.ok (.int n) s:=by
    simp[pvE,v]
   exact qr (by simp[pvE,Ze]) e1 (by omega) (by omega)) ⟨λh hh=>(Qs.mp hh).2,by
   unfold WS;simp;omega⟩ rfl (λx l st o hst=>by
  obtain⟨h1,h2⟩:=hst;have hx:=h1 x (Pe ..);have hl:(ZV p n x).length<=15625:=by
   rw[(QT hx).2];have a1:p^(n-(x+1))<=5^(n-(x+1)):=Ke (by omega) _
   have a2:5^(n-(x+1))<=5^6:=Nn (by omega) (by omega)
   omega
  have e2:=zo (p:=p) d (h:=x) s hP.row (by omega) hx
  rw[Px] at h2;refine⟨⟨λh hh=>h1 h (Pd _ hh),?_⟩,rfl,_,some (Ze x),rfl,?_⟩
  ·unfold yn
   split
   ·rw[PM];omega
   ·omega
  ·show rvs (CV (d+1)) [3] _ [some v,some (Za P),some (Ze (Z7 P)),some (.lst (st.map Zf)),some (Ze x)] [3] s=_
   have e3:Ue (CV (d+1)) (.call 9 [(.v 1),(.v 4)]) [some v,some (Za P),some (Ze (Z7 P)),some (.lst (st.map Zf)),some (Ze x)] s=.ok (P.all λr=>decide (gt r x=0)) s:=XC (Zk (Zc (Zd rfl) (Zc (Zd rfl) Zi)) e2) rfl
   unfold yn;by_cases c:(P.all λr=>decide (gt r x=0))=true
   ·rw[Pg c]
    have e4:at' ((List.range n).map λh=>V.lst ((ZV p n h).map Zf)) (x:Int)=some (.lst ((ZV p n x).map Zf)):=WT (by rw[PH,NW hx];rfl)
    have e5:rv (CV (d+1)) [3] (.ex (.mt .extend (.v 3) [(.ix (.v 0) (.v 4))])) [some v,some (Za P),some (Ze (Z7 P)),some (.lst (st.map Zf)),some (Ze x)] [3] s=.ok (.nx [some v,some (Za P),some (Ze (Z7 P)),some (.lst ((st++ZV p n x).map Zf)),some (Ze x)] [3]) s:=by
     have e6:pv (CV (d+1)) (.ix (.v 0) (.v 4)) (hide [3] [some v,some (Za P),some (Ze (Z7 P)),some (.lst (st.map Zf)),some (Ze x)]) s=.ok (.lst ((ZV p n x).map Zf)) s:=by
      simp[pvE,v,Ze,e4]
     rw[rv,Pg (by rfl)]
     show (PR.ok (st.map Zf) s).bind _=_;rw[Zb,e6,Zb];show (if fq ((ZV p n x).map Zf)=true/\(st.map Zf).length+((ZV p n x).map Zf).length<=lim then _ else _)=_
     rw[Pg ⟨YG _,by rw[Pj,Pj];unfold lim;omega⟩,Km]
     rfl
    rw[Zg ((Wc e3).trans (by rw[Pg c,Zg e5,rvs])),rvs]
   ·rw[Pi c]
    rw[Zg ((Wc e3).trans (by rw[Pi c,rvs])),rvs])
 rw[Zg e];exact Zo (ZB (Zd rfl))
theorem VS (d:Nat) {k:Nat}(s:DS) (hn:n<=6) (hk:k<=n) (hl:∀j,j<=n->(ZC p n j).length<=1395):CV (d+3) 12 [spV p n,Ze k] s=.ok (.lst ((ZC p n k).map Za)) s:=by
 refine Zl (fn:=Xf) rfl (by decide) rfl ?_
 show rvs (CV (d+2)) [] Xf.body [some (spV p n),some (Ze k),none,none,none,none,none] [] s=_
 dsimp only[Xf]
 rw[Zg (ZY (p:=p) (n:=n) _ _ (by simp[pvE]) (by simp))]
 show rvs (CV (d+2)) [] _ [some (spV p n),some (Ze k),some (.int p),some (.int n),none,none,none] [] s=_;rw[Zg (Xe (Zk (Zc (Zd rfl) (Zc (by rw[pv];rfl) (Zc (Zd rfl) Zi))) (UO d (i:=k) (lo:=0) (hi:=n) s (by omega) (by omega))))]
 have hc:=ZJ (C:=CV (d+2)) (cap:=[0]) (nl:=1) (t:=[0]) (it:=.rng1 (.v 3)) (elt:=.call 8 [(.v 1),(.v 0)]) (ρ:=[some (spV p n),some (Ze k),some (.int p),some (.int n),none,none,none]) (s:=s) (l:=List.range n) (e:=Ze) (g:=λh=>V.lst ((ZV p n h).map Zf))
  (XV (n:=n) (Zd rfl) (by omega)) (by rw[P0];unfold lim;omega) (λh hh=>⟨_,rfl,Zk (Zc (Zd rfl) (Zc (Zd rfl) Zi)) (zH (d+1) s hn (PQ.mp hh))⟩)
 rw[Zg (ZW hc rfl)]
 let v:V:=.lst ((List.range n).map λh=>.lst ((ZV p n h).map Zf))
 show rvs (CV (d+2)) [] _ [some (spV p n),some (Ze k),some (.int p),some (.int n),some v,none,none] [] s=_;rw[Zg (ρ':=[some (spV p n),some (Ze k),some (.int p),some (.int n),some v,some (.lst ((ZC p n 0).map Za)),none]) (os':=[]) (s':=s) (by simp[pvE,ZC,Za])]
 obtain⟨o',hI,e⟩:=XM (C:=CV (d+2)) (ms:=[]) (t:=[6]) (it:=.rng1 (.v 1)) (b:=[.asg [5] (.comp2 [4] 2 [0] (.of (.v 5)) [] [1] (.of (.call 11 [(.v 2),(.v 0)])) [] (.bin .add (.v 0) (.tup [(.v 1)])))]) (L:=List.range k) (e:=Ze) (step:=λPs _=>zj p n Ps) (ρ:=λst o=>[some (spV p n),some (Ze k),some (.int p),some (.int n),some v,some (.lst (st.map Za)),o]) (st:=ZC p n 0) (o:=none) (os:=[]) (s:=s) (λl st=>∃j,j+l.length=k/\st=ZC p n j)
  (XV (n:=k) (Zd rfl) (by omega)) ⟨0,by simp,rfl⟩ rfl (λx l st o hst=>by
  obtain⟨j,hj,rfl⟩:=hst;rw[Px] at hj;refine⟨⟨j+1,by omega,rfl⟩,rfl,_,some (Ze x),rfl,?_⟩
  show rvs (CV (d+2)) [] _ [some (spV p n),some (Ze k),some (.int p),some (.int n),some v,some (.lst ((ZC p n j).map Za)),some (Ze x)] [] s=_;have ef:((ZC p n j).flatMap λP=>(Ja p n P).map λr=>Za (P++[r]))=(ZC p n (j+1)).map Za:=by
   show _=(zj p n (ZC p n j)).map Za;unfold zj;rw[List.map_flatMap];exact congrArg (λf=>(ZC p n j).flatMap f) (funext λP=>by rw[Nh];rfl)
  have hc:=U8 (C:=CV (d+2)) (cap:=[4]) (nl:=2) (t:=[0]) (u:=[1]) (it:=.of (.v 5)) (jt:=.of (.call 11 [(.v 2),(.v 0)])) (elt:=.bin .add (.v 0) (.tup [(.v 1)])) (ρ:=[some (spV p n),some (Ze k),some (.int p),some (.int n),some v,some (.lst ((ZC p n j).map Za)),some (Ze x)]) (s:=s) (l:=ZC p n j) (e:=Za) (m:=Ja p n) (e2:=Zf) (g:=λP r=>Za (P++[r]))
   (by simp[pvE]) (by rw[ef,Pj];have:=hl (j+1) (by omega);unfold lim;omega) (λP hP=>by
    obtain⟨h1,h2⟩:=ZQ j P hP;refine⟨_,rfl,?_,λr hr=>⟨_,rfl,?_⟩⟩
    ·rw[pvw,Zk (Zc (Zd (v:=v) rfl) (Zc (Zd (v:=Za P) rfl) Zi)) (zK d s hn h1)]
     rfl
    ·have h3:P.length+1<=16777216:=by omega
     simp[pvE,Za,h3])
  rw[ef] at hc;rw[Zg (ZW hc rfl),rvs];rfl)
 have ek:(List.range k).foldl (λPs _=>zj p n Ps) (ZC p n 0)=ZC p n k:=by
  obtain⟨j,h1,h2⟩:=hI;rw[h2];rw[List.length_nil] at h1;rw[show j=k by omega]
 rw[ek] at e;rw[Zg e];exact Zo (ZB (Zd rfl))
end
noncomputable abbrev Zr (L:List (List Row)):V:=.tup (L.map Za)
section
variable {p n k:Nat}[Base p]
theorem QL (d:Nat) (s:DS) (h1:1<=k) (h2:k<=n):CV (d+3) 6 [spV p n,Ze k] s=.ok .non s:=by
 have e:=UO d (i:=k) (lo:=1) (hi:=n) s (by omega) (by omega)
 refine XO (fn:=Y3) (ρ:=[some (spV p n),some (Ze k),some (.int p),some (.int n)]) (os:=[]) rfl (by decide) rfl ?_
 show rvs (CV (d+2)) [] Y3.body [some (spV p n),some (Ze k),none,none] [] s=_
 dsimp only[Y3]
 rw[Zg (ZY (p:=p) (n:=n) _ _ (by simp[pvE]) (by simp))]
 show rvs (CV (d+2)) [] _ [some (spV p n),some (Ze k),some (.int p),some (.int n)] [] s=_;rw[Zg (Xe (Zk (Zc (Zd rfl) (Zc (by rw[pv];rfl) (Zc (Zd rfl) Zi))) e)),rvs]
theorem zb (d:Nat) (s:DS) (h:n<=4):CV (d+1) 7 [spV p n] s=.ok .non s:=by
 refine XO (fn:=Yb) (ρ:=[some (spV p n),some (.int p),some (.int n)]) (os:=[]) rfl (by decide) rfl ?_
 show rvs (CV d) [] Yb.body [some (spV p n),none,none] [] s=_
 dsimp only[Yb]
 rw[Zg (ZY (p:=p) (n:=n) _ _ (by simp[pvE]) (by simp))]
 show rvs (CV d) [] _ [some (spV p n),some (.int p),some (.int n)] [] s=_;have e:pv (CV d) (.cmp .gt (.v 2) (.c (.int 4))) [some (spV p n),some (.int p),some (.int n)] s=.ok (.bl false) s:=by
  have h:¬(4:Int)<n:=by omega
  simp[pvE,h]
 rw[guard e,rvs]
theorem ww (d:Nat) {P Q:List Row}(s:DS) (hn:n<=6) (hP:pZ p n P) (hQ:pZ p n Q):CV (d+6) 20 [spV p n,Za P,Za Q] s=.ok (.bl (Zv p P Q)) s:=by
 have e:=We d (v:=Za Q) s hn hP hQ.row rfl;refine Zl (fn:=Jl) rfl (by decide) rfl ?_
 refine Zo (ZB ?_);have e1:=WZ (call3 (f:=19) (ρ:=[some (spV p n),some (Za P),some (Za Q)]) (x:=.v 0) (y:=.v 1) (z:=.v 2) (Zd rfl) (Zd rfl) (Zd rfl) e);have e2:=qO (C:=CV (d+5)) (ρ:=[some (spV p n),some (Za P),some (Za Q)]) (s:=s) (a:=.blt .len [(.v 1)]) (b:=.blt .len [(.v 2)]) (WZ (P:=P) (Zd rfl)) (WZ (P:=Q) (Zd rfl));show pv (CV (d+5)) (.cmp .eq (.blt .len [(.call 19 [(.v 0),(.v 1),(.v 2)])]) (.bin .add (.blt .len [(.v 1)]) (.blt .len [(.v 2)]))) [some (spV p n),some (Za P),some (Za Q)] s=_;rw[pv,e1,Zb,e2,Zb];show PR.ok (V.bl (decide (((YL p P Q).length:Int)=(P.length:Int)+Q.length))) s=_
 unfold Zv;rw[show decide (((YL p P Q).length:Int)=(P.length:Int)+Q.length)=decide ((YL p P Q).length=P.length+Q.length) from Kw.mpr (by omega)]
theorem UP (d:Nat) {P:List Row}{L:List (List Row)}{v:V}(s:DS) (hn:n<=6) (hP:pZ p n P) (hL:∀Q∈L,pZ p n Q) (hl:L.length<=3000) (hv:Z6 v=some (L.map Za)):CV (d+7) 21 [spV p n,Za P,v] s=.ok (.bl (L.all (Zv p P))) s:=by
 refine Zl (fn:=YR) rfl (by decide) rfl ?_
 have hc:=ZJ (C:=CV (d+6)) (cap:=[0,1]) (nl:=1) (t:=[0]) (it:=.of (.v 2)) (elt:=.call 20 [(.v 1),(.v 2),(.v 0)]) (ρ:=[some (spV p n),some (Za P),some v]) (s:=s) (l:=L) (e:=Za) (g:=λQ=>V.bl (Zv p P Q))
  (by simp[pvE,hv]) (by unfold lim;omega) (λQ hQ=>⟨_,rfl,Zk (Zc (Zd rfl) (Zc (Zd rfl) (Zc (Zd rfl) Zi))) (ww d s hn hP (hL Q hQ))⟩)
 have ht:=ZX (g:=λQ:List Row=>Zv p P Q) L
 show rvs (CV (d+6)) [] YR.body [some (spV p n),some (Za P),some v] [] s=_
 dsimp only[YR]
 refine Zo (ZB ?_);rw[pv,Zc hc Zi,Zb];show po ((ZN (L.map λQ=>V.bl (Zv p P Q))).map λbs=>V.bl (bs.all id)) s=_
 rw[ht];show PR.ok (V.bl ((L.map λQ=>Zv p P Q).all id)) s=_
 rw[KO];rfl
theorem V3:∀L:List (List Row),fq (L.map Za)=true
 |[]=>rfl
 |P::L=>by
  show (V.flat (Za P)&&fq (L.map Za))=true;rw[V3 L,Bool.and_true];exact YG P
theorem Qa:∀Ps:List (List Row),XI (Ps.map Za)=some Ps
 |[]=>rfl
 |P::Ps=>by
  show (match VX (Za P),XI (Ps.map Za) with | some a,some b=>some (a::b) | _,_=>none)=_
  rw[Qa Ps,show VX (Za P)=some P from Xn P]
theorem vM:∀Ps:List (List Row),vn (Ps.map Za)=false
 |[]=>rfl
 |[]::_=>rfl
 |(_::_)::_=>rfl
theorem YZ {C:Zt}{ρ:Env}{s:DS}{a:E}{Ps:List (List Row)}(h1:pv C a ρ s=.ok (.lst (Ps.map Za)) s) (h:ZH Ps=true):pv C (.blt .sorted [a]) ρ s=.ok (.lst ((Zw ltP Ps).map Za)) s:=by
 rw[pv,Zc h1 Zi,Zb];show po (if vn (Ps.map Za)=true then _ else _) s=_
 rw[Pi (by rw[vM];simp),Qa]
 show po (if ZH Ps=true then _ else _) s=_
 rw[Pg h];rfl
theorem VF {C:Zt}{ρ:Env}{s:DS}{a:E}{Ps:List (List Row)}(h1:pv C a ρ s=.ok (.lst (Ps.map Za)) s):pv C (.blt .tuple [a]) ρ s=.ok (Zr Ps) s:=by
 rw[pv,Zc h1 Zi];rfl
theorem Jz (d:Nat) {L:List (List Row)}(s:DS) (hn:n<=6) (hk:k<=n) (hl:∀j,j<=n->(ZC p n j).length<=1395) (hL:Lot p n k L) (hL1:L.length<=1000) (hs:ZH (Yw p L (ZC p n k))=true):CV (d+8) 22 [spV p n,Ze k,Zr L] s=.ok (Zr (Yd p n k L)) s:=by
 refine Zl (fn:=Y7) rfl (by decide) rfl ?_
 show rvs (CV (d+7)) [3] Y7.body [some (spV p n),some (Ze k),some (Zr L),none,none] [] s=_
 dsimp only[Y7]
 have ff:=V3 L;rw[Zg (ρ':=[some (spV p n),some (Ze k),some (Zr L),some (.lst (L.map Za)),none]) (os':=[3]) (s':=s) (by
  have e:pvA (CV (d+7)) (.blt .list [(.v 2)]) [some (spV p n),some (Ze k),some (Zr L),none,none] [] s=.ok (.lst (L.map Za)) s:=by simp[pvE]
  rw[rv,e,Zb,Pg (by rfl)]
  show (if fq (L.map Za)=true/\3<5 then _ else _)=_
  rw[Pg ⟨ff,by omega⟩];rfl)]
 obtain⟨o',hI,e⟩:=XM (C:=CV (d+7)) (ms:=[3]) (t:=[4]) (it:=.of (.call 12 [(.v 0),(.v 1)])) (b:=[.ite (.call 21 [(.v 0),(.v 4),(.v 3)]) [.ex (.mt .append (.v 3) [(.v 4)])] []]) (L:=ZC p n k) (e:=Za) (step:=Xr p) (ρ:=λst o=>[some (spV p n),some (Ze k),some (Zr L),some (.lst (st.map Za)),o]) (st:=L) (o:=none) (os:=[3]) (s:=s) (λl st=>st.length+l.length<=2395/\Lot p n k st/\∀P∈l,pZ p n P/\P.length=k)
  (by
   have e1:=VS (p:=p) (d+4) s hn hk hl;rw[pvw,Zk (Zc (Zd (v:=spV p n) rfl) (Zc (Zd (v:=Ze k) rfl) Zi)) e1];rfl) ⟨by have:=hl k hk;omega,hL,λP hP=>ZQ k P hP⟩ rfl (λP l st o hst=>by
  obtain⟨h1,h2,h3⟩:=hst;have hP:=h3 P (Pe ..);rw[Px] at h1;refine⟨⟨?_,zG h2 hP,λQ hQ=>h3 Q (Pd _ hQ)⟩,YG P,_,some (Za P),rfl,?_⟩
  ·unfold Xr
   split
   ·rw[PM,P6];omega
   ·omega
  ·show rvs (CV (d+7)) [3] _ [some (spV p n),some (Ze k),some (Zr L),some (.lst (st.map Za)),some (Za P)] [3] s=_
   have e2:=UP (p:=p) (L:=st) (v:=.lst (st.map Za)) d s hn hP.1 (λQ hQ=>(h2.pt Q hQ).1) (by omega) rfl
   have e3:Ue (CV (d+7)) (.call 21 [(.v 0),(.v 4),(.v 3)]) [some (spV p n),some (Ze k),some (Zr L),some (.lst (st.map Za)),some (Za P)] s=.ok (st.all (Zv p P)) s:=XC (Zk (Zc (Zd rfl) (Zc (Zd rfl) (Zc (Zd rfl) Zi))) e2) rfl;unfold Xr;by_cases c:st.all (Zv p P)=true
   ·rw[Pg c]
    have e5:rv (CV (d+7)) [3] (.ex (.mt .append (.v 3) [(.v 4)])) [some (spV p n),some (Ze k),some (Zr L),some (.lst (st.map Za)),some (Za P)] [3] s=.ok (.nx [some (spV p n),some (Ze k),some (Zr L),some (.lst ((st++[P]).map Za)),some (Za P)] [3]) s:=by
     rw[rv,Pg (by rfl)]
     show (PR.ok (st.map Za) s).bind _=_;rw[Zb,Zd (v:=Za P) rfl,Zb];show (if V.flat (Za P)=true/\(st.map Za).length<lim then _ else _)=_
     rw[Pg ⟨YG P,by rw[Pj];unfold lim;omega⟩,Km]
     rfl
    rw[Zg ((Wc e3).trans (by rw[Pg c,Zg e5,rvs])),rvs]
   ·rw[Pi c]
    rw[Zg ((Wc e3).trans (by rw[Pi c,rvs])),rvs])
 rw[Zg e];exact Zo (ZB (VF (YZ (Zd rfl) hs)))
theorem v4 (d:Nat) (s:DS) (hn:n<=4) (h1:1<=k) (hk:k<=n) (hl:∀j,j<=n->(ZC p n j).length<=1395) (hs:ZH (Yw p [] (ZC p n k))=true):CV (d+9) 23 [spV p n,Ze k] s=.ok (if n%k=0 then Zr (Yd p n k []) else .non) s:=by
 refine Zl (fn:=Xc) rfl (by decide) rfl ?_
 show rvs (CV (d+8)) [] Xc.body [some (spV p n),some (Ze k),none,none] [] s=_
 dsimp only[Xc]
 rw[Zg (Xe (Zk (Zc (Zd rfl) (Zc (Zd rfl) Zi)) (QL (p:=p) (d+5) s h1 hk)))];rw[Zg (Xe (Zk (Zc (Zd rfl) Zi) (zb (p:=p) (d+7) s hn)))];rw[Zg (ZY (p:=p) (n:=n) _ _ (by simp[pvE]) (by simp))]
 show rvs (CV (d+8)) [] _ [some (spV p n),some (Ze k),some (.int p),some (.int n)] [] s=_;have e1:pv (CV (d+8)) (.cmp .ne (.bin .mod (.v 3) (.v 1)) (.c (.int 0))) [some (spV p n),some (Ze k),some (.int p),some (.int n)] s=.ok (.bl !decide (n%k=0)) s:=by
  have hk0:(0:Int)<k:=by omega
  have em:((n:Int)%(k:Int)=0)↔n%k=0:=by omega
  rw[pv,pv,Zd (v:=.int n) rfl,Zb,Zd (v:=Ze k) rfl,Zb];show ((if 0<(k:Int) then PR.ok (V.int ((n:Int)%k)) s else .no).bind _)=_
  rw[Pg hk0,Zb,pv];show PR.ok (V.bl !decide ((n:Int)%k=0)) s=_;rw[Kw.mpr em]
 by_cases c:n%k=0
 ·rw[PC c] at e1
  rw[guard e1,Pg c];exact Zo (ZB (call3 (Zd rfl) (Zd rfl) (by simp[pvE]) (Jz (p:=p) (L:=[]) d s (by omega) hk hl ⟨λ_ h=>absurd h P4,List.Pairwise.nil⟩ (by simp) hs)))
 ·rw[PV c] at e1
  rw[Pi c];refine Zo ((Wc (XC e1 rfl)).trans ?_);exact Zo (ZB (by rw[pv];rfl))
noncomputable def US (L:List (List Row)):Bool:=(L.zip L.tail).all λx=>ltP x.1 x.2
theorem uq {L:List (List Row)}(h:L.Pairwise λa b=>ltP a b=true):US L=true:=by
 unfold US;rw[PN];intro q hq;obtain⟨i,hi,e⟩:=P8 hq;rw[List.getElem_zip] at e;rw[<-e];rw[NV,List.length_tail] at hi;simp only[List.getElem_tail];exact No.mp h i (i+1) (by omega) (by omega) (by omega)
theorem Jm:∀(a b:List (List Row)),((a.map Za).zip (b.map Za)).map (λq=>V.tup [q.1,q.2])=(a.zip b).map λq=>V.tup [Za q.1,Za q.2]
 |[],_=>rfl
 |_::_,[]=>rfl
 |x::a,y::b=>by simp only[PP,Nf];rw[Jm a b]
theorem Zaz {C:Zt}{ρ:Env}{s:DS}{a b:E}{P Q:List Row}(h1:pv C a ρ s=.ok (Za P) s) (h2:pv C b ρ s=.ok (Za Q) s):pv C (.cmp .lt a b) ρ s=.ok (.bl (ltP P Q)) s:=by
 rw[pv,h1,Zb,h2,Zb];show po ((Ye (P.map Zf)).bind λA=>(Ye (Q.map Zf)).map λB=>V.bl (ltP A B)) s=_
 rw[Xn,Xn];rfl
theorem Ge (d:Nat) {L:List (List Row)}(s:DS) (hl:L.length<=3000):CV (d+1) 24 [Zr L] s=.ok (.bl (US L)) s:=by
 refine Zl (fn:=Yo) rfl (by decide) rfl ?_
 have hc:=ZJ (C:=CV d) (cap:=[]) (nl:=2) (t:=[0,1]) (it:=.zip (.v 0) (.sl (.v 0) (some (.c (.int 1))) none)) (elt:=.cmp .lt (.v 0) (.v 1)) (ρ:=[some (Zr L)]) (s:=s) (l:=L.zip L.tail) (e:=λq=>V.tup [Za q.1,Za q.2]) (g:=λq=>V.bl (ltP q.1 q.2))
  (by
   have e1:Xo (L.map Za) (some 1) none=L.tail.map Za:=by rw[GZ,List.map_tail]
   simp[pvE,slV,e1];rw[<-List.map_tail,Jm]) (by rw[NV];unfold lim;omega) (λq hq=>⟨_,rfl,Zaz (Zd rfl) (Zd rfl)⟩)
 have ht:=ZX (g:=λq:List Row×List Row=>ltP q.1 q.2) (L.zip L.tail)
 show rvs (CV d) [] Yo.body [some (Zr L)] [] s=_
 dsimp only[Yo]
 refine Zo (ZB ?_);rw[pv,Zc hc Zi,Zb];show po ((ZN ((L.zip L.tail).map λq=>V.bl (ltP q.1 q.2))).map λbs=>V.bl (bs.all id)) s=_
 rw[ht];show PR.ok (V.bl (((L.zip L.tail).map λq=>ltP q.1 q.2).all id)) s=_
 rw[KO];rfl
theorem zS (d:Nat) {L:List (List Row)}(s:DS) (hn:n<=6) (h1:1<=k) (hk:k<=n) (hL:∀P∈L,pZ p n P/\P.length=k) (hl:L.length<=3000):CV (d+8) 28 [spV p n,Ze k,Zr L] s=.ok (.bl (US L&&apB p L)) s:=by
 refine Zl (fn:=XN) rfl (by decide) rfl ?_
 show rvs (CV (d+7)) [] XN.body [some (spV p n),some (Ze k),some (Zr L)] [] s=_
 dsimp only[XN]
 rw[Zg (Xe (Zk (Zc (Zd rfl) (Zc (Zd rfl) Zi)) (QL (p:=p) (d+4) s h1 hk)))];have hc:=ZJ (C:=CV (d+7)) (cap:=[0,1]) (nl:=1) (t:=[0]) (it:=.of (.v 2)) (elt:=.and (.call 27 [(.v 1),(.v 0)]) (.cmp .eq (.blt .len [(.v 0)]) (.v 2))) (ρ:=[some (spV p n),some (Ze k),some (Zr L)]) (s:=s) (l:=L) (e:=Za) (g:=λ_=>V.bl true)
  (by simp[pvE]) (by unfold lim;omega) (λP hP=>⟨[some (Za P),some (spV p n),some (Ze k)],rfl,by
   obtain⟨q1,q2⟩:=hL P hP;have e1:=wg (d+4) s hn q1;have e2:pv (CV (d+7)) (.cmp .eq (.blt .len [(.v 0)]) (.v 2)) [some (Za P),some (spV p n),some (Ze k)] s=.ok (.bl true) s:=by
    rw[pv,WZ (P:=P) (Zd rfl),Zb,Zd (v:=Ze k) rfl,Zb];show PR.ok (V.bl (decide ((P.length:Int)=(k:Int)))) s=_;rw[q2,PC rfl]
   rw[ZbI (call1 (Zd rfl) (Zd rfl) e1) e2];rfl⟩)
 have ht:=ZX (g:=λ_:List Row=>true) L
 have hpt:Xj (Zr L) [.tuple]=some true:=rfl;rw[Zg (ρ':=[some (spV p n),some (Ze k),some (Zr L)]) (os':=[]) (s':=s) (by simp[pvE,hpt,hc,ht])]
 have er:=ue (C:=CV (d+7)) (ρ:=[some (spV p n),some (Ze k),some (Zr L)]) (s:=s) (a:=.call 24 [(.v 2)]) (Zk (Zc (Zd rfl) Zi) (Ge (d+6) s hl));cases eb:US L with
 |false=>
  rw[eb] at er;exact Zo ((Wc (XC er rfl)).trans (Zo (ZB (by rw[pv];rfl))))
 |true=>
  rw[eb] at er;rw[guard er];refine Zo (ZB ?_);have ew:((Yn 0 (L.map Za).length).zip (L.map Za)).map (λq=>V.tup [q.1,q.2])=(List.range L.length).map λi=>V.tup [Ze i,Za (L.getD i [])]:=by
   apply K1
   ·simp[Yn]
   ·intro i h1 h2
    have h3:i<L.length:=by simpa using h2
    simp[Yn,Ze,h3]
  have hc3:=ZJ (C:=CV (d+7)) (cap:=[0,2]) (nl:=2) (t:=[0,1]) (it:=.enum (.v 2)) (elt:=.call 21 [(.v 2),(.v 1),(.sl (.v 3) none (some (.v 0)))]) (ρ:=[some (spV p n),some (Ze k),some (Zr L)]) (s:=s) (l:=List.range L.length) (e:=λi=>V.tup [Ze i,Za (L.getD i [])]) (g:=λi=>V.bl ((L.take i).all (Zv p (L.getD i []))))
   (by
    have:pvw (CV (d+7)) (.enum (.v 2)) [some (spV p n),some (Ze k),some (Zr L)] s=.ok (((Yn 0 (L.map Za).length).zip (L.map Za)).map λq=>V.tup [q.1,q.2]) s:=by simp[pvE]
    rw[this,ew]) (by rw[P0];unfold lim;omega) (λi hi=>⟨[some (Ze i),some (Za (L.getD i [])),some (spV p n),some (Zr L)],rfl,by
    have hi':=PQ.mp hi;have hm:L.getD i []∈L:=by rw[Po,Pc hi'];exact P9 hi'
    have e5:pv (CV (d+7)) (.sl (.v 3) none (some (.v 0))) [some (Ze i),some (Za (L.getD i [])),some (spV p n),some (Zr L)] s=.ok (Zr (L.take i)) s:=by
     have e6:=yT (xs:=L.map Za) (k:=i) (by rw[Pj];omega)
     rw[<-List.map_take] at e6;simp[pvE,slV,Ze,e6]
    exact call3 (Zd rfl) (Zd rfl) e5 (UP d s hn (hL _ hm).1 (λQ hQ=>(hL Q (List.mem_of_mem_take hQ)).1) (by rw[Ni];omega) rfl)⟩)
  have ht3:=ZX (g:=λi:Nat=>(L.take i).all (Zv p (L.getD i []))) (List.range L.length)
  rw[pv,Zc hc3 Zi,Zb];show po ((ZN ((List.range L.length).map λi=>V.bl ((L.take i).all (Zv p (L.getD i []))))).map λbs=>V.bl (bs.all id)) s=_
  rw[ht3];show PR.ok (V.bl (((List.range L.length).map λi=>(L.take i).all (Zv p (L.getD i []))).all id)) s=_
  rw[KO,Bool.true_and];rfl
theorem WR (d:Nat) {L:List (List Row)}(s:DS) (hn:n<=6) (h1:1<=k) (hk:k<=n) (hL:Lot p n k L) (hr:L.Pairwise λa b=>ltP a b=true) (hl:L.length<=3000):CV (d+8) 28 [spV p n,Ze k,Zr L] s=.ok (.bl true) s:=by
 rw[zS d s hn h1 hk hL.pt hl,uq hr,ZbW hL];rfl
theorem G5 (d:Nat) {L:List (List Row)}(s:DS) (hn:n<=6) (h1:1<=k) (hk:k<=n) (hL:Lot p n k L) (hr:L.Pairwise λa b=>ltP a b=true) (hl:L.length<=3000):CV (d+9) 29 [spV p n,Ze k,Zr L] s=.ok .non s:=by
 refine XO (fn:=XB) (ρ:=[some (spV p n),some (Ze k),some (Zr L)]) (os:=[]) rfl (by decide) rfl ?_
 show rvs (CV (d+8)) [] XB.body [some (spV p n),some (Ze k),some (Zr L)] [] s=_
 dsimp only[XB]
 have e:=ue (call3 (C:=CV (d+8)) (ρ:=[some (spV p n),some (Ze k),some (Zr L)]) (x:=.v 0) (y:=.v 1) (z:=.v 2) (Zd rfl) (Zd rfl) (Zd rfl) (WR d s hn h1 hk hL hr hl));rw[guard e,rvs]
theorem filled (d:Nat) {L:List (List Row)}(s:DS) (hn:n<=4) (h1:1<=k) (hk:k<=n) (hl:∀j,j<=n->(ZC p n j).length<=1395) (hL:Lot p n k L) (hr:L.Pairwise λa b=>ltP a b=true) (hL1:L.length<=1000) (hs:ZH (Yw p L (ZC p n k))=true):CV (d+10) 30 [spV p n,Ze k,Zr L] s=.ok (Zr (Yd p n k L)) s:=by
 refine Zl (fn:=Vy) rfl (by decide) rfl ?_
 show rvs (CV (d+9)) [] Vy.body [some (spV p n),some (Ze k),some (Zr L)] [] s=_
 dsimp only[Vy]
 rw[Zg (Xe (call3 (Zd rfl) (Zd rfl) (Zd rfl) (G5 d s (by omega) h1 hk hL hr (by omega))))]
 rw[Zg (Xe (Zk (Zc (Zd rfl) Zi) (zb (p:=p) (d+8) s hn)))];exact Zo (ZB (call3 (Zd rfl) (Zd rfl) (Zd rfl) (Jz (d+1) s (by omega) hk hl hL hL1 hs)))
theorem power (d:Nat) {m:Nat}(s:DS) (hm:m<=6):CV (d+1) 31 [.int p,Ze m] s=.ok (.int ((p^m:Nat):Int)) s:=by
 refine Zl (fn:=Uz) rfl (by decide) rfl ?_
 have hp:=W9 (p:=p);show rvs (CV d) [] Uz.body [some (.int p),some (Ze m),none,none] [] s=_
 dsimp only[Uz]
 rw[Zg (ZW (v:=.int 1) (by rw[pv];rfl) rfl)]
 show rvs (CV d) [] _ [some (.int p),some (Ze m),some (.int ((1:Nat):Int)),none] [] s=_;obtain⟨o',hI,e⟩:=XM (C:=CV d) (ms:=[]) (t:=[3]) (it:=.rng1 (.v 1)) (b:=[.aug 2 .mul (.v 0)]) (L:=List.range m) (e:=Ze) (step:=λ(x:Nat) _=>x*p) (ρ:=λst o=>[some (.int p),some (Ze m),some (.int (st:Int)),o]) (st:=1) (o:=none) (os:=[]) (s:=s) (λl st=>∃j,j+l.length=m/\st=p^j)
  (XV (n:=m) (Zd rfl) (by omega)) ⟨0,by simp,rfl⟩ rfl (λx l st o hst=>by
  obtain⟨j,hj,rfl⟩:=hst;rw[Px] at hj;refine⟨⟨j+1,by omega,rfl⟩,rfl,_,some (Ze x),rfl,?_⟩
  have h5:p^j<=5^6:=PY (Ke (show p<=5 by omega) j) (Nn (by omega) (by omega))
  have b1:=Z3 (a:=((p^j:Nat):Int)) (by omega) (by omega)
  have b2:=Z3 (a:=(p:Int)) (by omega) (by omega)
  show rvs (CV d) [] _ [some (.int p),some (Ze m),some (.int ((p^j:Nat):Int)),some (Ze x)] [] s=_;rw[Zg (ρ':=[some (.int p),some (Ze m),some (.int ((p^j*p:Nat):Int)),some (Ze x)]) (os':=[]) (s':=s) (by
   rw[rv,Pi (by simp)]
   show (PR.ok (V.int ((p^j:Nat):Int)) s).bind _=_;rw[Zb,Zd (v:=.int p) rfl,Zb];show ((if (fits ((p^j:Nat):Int)&&fits (p:Int))=true then PR.ok (V.int (((p^j:Nat):Int)*p)) s else .no).bind _)=_
   rw[b1,b2,Pg (show (true&&true)=true from rfl),Zb,Tc]
   rfl),rvs])
 have ek:(List.range m).foldl (λ(x:Nat) _=>x*p) 1=p^m:=by
  obtain⟨j,h1,h2⟩:=hI;rw[h2];rw[List.length_nil] at h1;rw[show j=m by omega]
 rw[ek] at e;rw[Zg e];exact Zo (ZB (Zd rfl))
noncomputable def Qp (p n k:Nat) (L:List (List Row)):Bool:=decide (L.length*(p^k-1)=p^n-1)
theorem JV {C:Zt}{ρ:Env}{s:DS}{a:E}{L:List (List Row)}(h1:pv C a ρ s=.ok (Zr L) s):pv C (.blt .len [a]) ρ s=.ok (.int L.length) s:=by
 rw[pv,Zc h1 Zi,Zb];show po (some (V.int (L.map Za).length)) s=_;rw[Pj];rfl
theorem UG {C:Zt}{ρ:Env}{s:DS}{a b:E}{x y:Int}(h1:pv C a ρ s=.ok (.int x) s) (h2:pv C b ρ s=.ok (.int y) s):pv C (.bin .sub a b) ρ s=.ok (.int (x-y)) s:=by
 rw[pv,h1,Zb,h2,Zb];rfl
theorem UJ {C:Zt}{ρ:Env}{s:DS}{a b:E}{x y:Int}(h1:pv C a ρ s=.ok (.int x) s) (h2:pv C b ρ s=.ok (.int y) s) (hx:0<=x/\x<1000000) (hy:0<=y/\y<1000000):pv C (.bin .mul a b) ρ s=.ok (.int (x*y)) s:=by
 rw[pv,h1,Zb,h2,Zb];show (if (fits x&&fits y)=true then _ else _)=_
 rw[Z3 (by omega) (by omega),Z3 (by omega) (by omega),Pg (show (true&&true)=true from rfl)]
theorem WA {m:Nat}(hm:m<=6):1<=p^m/\p^m<=15625:=by
 have hp:=W9 (p:=p);have hp0:0<p:=by have:=ppos (p:=p);omega
 exact⟨Nat.pow_pos hp0,PY (Ke (show p<=5 by omega) m) (PY (Nn (show 0<5 by omega) hm) (by decide))⟩
theorem xI (d:Nat) {L:List (List Row)}(s:DS) (hn:n<=6) (h1:1<=k) (hk:k<=n) (hL:Lot p n k L) (hr:L.Pairwise λa b=>ltP a b=true) (hl:L.length<=3000):CV (d+10) 32 [spV p n,Ze k,Zr L] s=.ok (.bl (Qp p n k L)) s:=by
 refine Zl (fn:=Wx) rfl (by decide) rfl ?_
 show rvs (CV (d+9)) [] Wx.body [some (spV p n),some (Ze k),some (Zr L),none,none] [] s=_
 dsimp only[Wx]
 rw[Zg (Xe (call3 (Zd rfl) (Zd rfl) (Zd rfl) (G5 d s hn h1 hk hL hr hl)))];rw[Zg (ZY (p:=p) (n:=n) _ _ (by simp[pvE]) (by simp))]
 show rvs (CV (d+9)) [] _ [some (spV p n),some (Ze k),some (Zr L),some (.int p),some (.int n)] [] s=_;have w1:=WA (p:=p) (m:=k) (by omega)
 have w2:=WA (p:=p) (m:=n) hn;have a1:=UG (C:=CV (d+9)) (ρ:=[some (spV p n),some (Ze k),some (Zr L),some (.int p),some (.int n)]) (s:=s) (a:=.call 31 [(.v 3),(.v 1)]) (b:=.c (.int 1)) (y:=1) (call1 (Zd rfl) (Zd rfl) (power (p:=p) (d+8) (m:=k) s (by omega))) (by rw[pv];rfl)
 have a2:=UG (C:=CV (d+9)) (ρ:=[some (spV p n),some (Ze k),some (Zr L),some (.int p),some (.int n)]) (s:=s) (a:=.call 31 [(.v 3),(.v 4)]) (b:=.c (.int 1)) (y:=1) (call1 (Zd rfl) (Zd (v:=Ze n) rfl) (power (p:=p) (d+8) (m:=n) s hn)) (by rw[pv];rfl)
 have a3:=UJ (JV (L:=L) (a:=.v 2) (Zd rfl)) a1 ⟨by omega,by omega⟩ ⟨by omega,by omega⟩
 refine Zo (ZB ?_);rw[pv,a3,Zb,a2,Zb];show PR.ok (V.bl (decide ((L.length:Int)*(((p^k:Nat):Int)-1)=((p^n:Nat):Int)-1))) s=_;unfold Qp;rw[show decide ((L.length:Int)*(((p^k:Nat):Int)-1)=((p^n:Nat):Int)-1)=decide (L.length*(p^k-1)=p^n-1) from Kw.mpr (by
  rw[show (((p^k:Nat):Int)-1)=((p^k-1:Nat):Int) by omega,show (((p^n:Nat):Int)-1)=((p^n-1:Nat):Int) by omega,<-Tc]
  omega)]
theorem miss (d:Nat) {P Q:List Row}(s:DS) (hn:n<=6) (hP:pZ p n P) (hQ:pZ p n Q):CV (d+7) 42 [spV p n,Za P,Za Q] s=.ok (.bl (Zv p P Q)) s:=by
 refine Zl (fn:=GG) rfl (by decide) rfl ?_
 show rvs (CV (d+6)) [] GG.body [some (spV p n),some (Za P),some (Za Q)] [] s=_
 dsimp only[GG]
 rw[Zg (Xe (call3 (Zd rfl) (Zd rfl) (Zd rfl) (y8 (d+1) s hn hP hQ)))];exact Zo (ZB (call3 (Zd rfl) (Zd rfl) (Zd rfl) (ww d s hn hP hQ)))
end
section
variable {C:Zt}{ρ:Env}{s:DS}{a b:E}
theorem ZaW (k:Nat) (a b:List (List Row)):eqV (k+4) (Zr a) (Zr b)=some (decide (a=b)):=by
 show Vk (eqV (k+3)) (a.map Za) (b.map Za)=_;obtain⟨c,e1,e2⟩:=Vw (f:=eqV (k+3)) (e:=Za) (d:=λa b=>decide (a=b)) (λa b=>by simp) (λa b=>Ql k a b) a b
 rw[e1,show c=decide (a=b) by rw[P3,e2];simp]
theorem uR {A B:List (List Row)}(h1:pv C a ρ s=.ok (Zr A) s) (h2:pv C b ρ s=.ok (Zr B) s) (h:A=B):pv C (.cmp .ne a b) ρ s=.ok (.bl false) s:=by
 rw[pv,h1,Zb,h2,Zb];show po ((eqV Zm (Zr A) (Zr B)).map λb=>V.bl !b) s=_
 rw[Zm,ZaW,PC h];rfl
theorem zV (P:List Row):∀M:List (List Row),WX (Za P) (M.map Za)=some (decide (P∈M))
 |[]=>by simp[WX]
 |Q::M=>by
  show (match eqV Zm (Za Q) (Za P),WX (Za P) (M.map Za) with | some a,some b=>some (a||b) | _,_=>none)=_
  rw[zV P M,Zm,Ql];show some (decide (Q=P)||decide (P∈M))=some (decide (P∈Q::M))
  congr 1
  rw[P3];simp only[Nv,NU,Pk];exact⟨λh=>h.imp Eq.symm id,λh=>h.imp Eq.symm id⟩
theorem wf {P:List Row}{M:List (List Row)}(h1:pv C a ρ s=.ok (Za P) s) (h2:pv C b ρ s=.ok (Zr M) s):pv C (.cmp .nin a b) ρ s=.ok (.bl !decide (P∈M)) s:=by
 rw[pv,h1,Zb,h2,Zb];show po ((WX (Za P) (M.map Za)).map λb=>V.bl !b) s=_
 rw[zV];rfl
theorem wN (h1:pv C a ρ s=.ok (.bl false) s):pv C (.cmp .isn a (.c (.bl false))) ρ s=.ok (.bl false) s:=by
 rw[pv,h1,Zb,pv];rfl
theorem Gp (h1:pv C a ρ s=.ok (.bl false) s):pv C (.and a b) ρ s=.ok (.bl false) s:=by rw[pv,h1];rfl
theorem VA {v:V}(h1:pv C a ρ s=.ok (.bl true) s) (h2:pv C b ρ s=.ok v s):pv C (.and a b) ρ s=.ok v s:=by rw[pv,h1];exact h2
theorem Q6 {x:E}{L M:List (List Row)}{i:Nat}(hx:pvw C (.of x) ρ s=.ok (L.map Za) s) (hl:L.length<=3000) (hc:Z8 [i] 1 ρ=[none,some (Zr M)]) (h:∀P∈L,P∈M):pv C (.cmp .ne (.comp1 [i] 1 [0] (.of x) [(.cmp .nin (.v 0) (.v 1))] (.v 0)) (.lst [])) ρ s=.ok (.bl false) s:=by
 have hf:=Y4 (C:=C) (cap:=[i]) (nl:=1) (t:=[0]) (it:=.of x) (tst:=.cmp .nin (.v 0) (.v 1)) (elt:=.v 0) (ρ:=ρ) (s:=s) (l:=L) (e:=Za) (g:=Za) (q:=λP=>!decide (P∈M)) hx (by unfold lim;omega) (λP hP=>⟨[some (Za P),some (Zr M)],.bl !decide (P∈M),by rw[hc];rfl,wf (Zd rfl) (Zd rfl),rfl,λ_=>Zd rfl⟩)
 rw[show L.filter (λP=>!decide (P∈M))=[] from List.filter_eq_nil_iff.mpr λP hP=>by simp[h P hP]] at hf
 rw[pv,hf,Zb];have e:pv C (.lst []) ρ s=.ok (.lst []) s:=by simp[pvE]
 rw[e];rfl
end
section
variable {p n k:Nat}[Base p]
theorem sp1 {C:Zt}{ρ:Env}{s:DS}(h:ρ[1]? = some (some (spV p n))):pv C (.ix (.v 1) (.c (.int 1))) ρ s=.ok (Ze n) s:=by
 rw[pv,Zd h,Zb,pv];rfl
theorem Ur (d:Nat) {L:List (List Row)}(s:DS) (hn:n<=4) (h1:1<=k) (hk:k<=n) (hl:∀j,j<=n->(ZC p n j).length<=1395) (hA:(ZC p n k).length<64) (hL:Good p n k L):CV (d+10) 30 [spV p n,Ze k,Zr L] s=.ok (Zr (Yd p n k L)) s:=
 filled d s hn h1 hk hl hL.lot hL.up (by have:=hL.len h1 hA;omega) (hL.sortOk h1 hA)
theorem ux (d:Nat) {L:List (List Row)}(s:DS) (hn:n<=4) (h1:1<=k) (hk:k<=n) (hA:(ZC p n k).length<64) (hL:Good p n k L):CV (d+8) 28 [spV p n,Ze k,Zr L] s=.ok (.bl true) s:=
 WR d s (by omega) h1 hk hL.lot hL.up (by have:=hL.len h1 hA;omega)
theorem Zbb (d:Nat) {L:List (List Row)}(s:DS) (hn:n<=4) (h1:1<=k) (hk:k<=n) (hA:(ZC p n k).length<64) (hL:Good p n k L):CV (d+10) 32 [spV p n,Ze k,Zr L] s=.ok (.bl (Qp p n k L)) s:=
 xI d s (by omega) h1 hk hL.lot hL.up (by have:=hL.len h1 hA;omega)
theorem u7 {C:Zt}{ρ:Env}{s:DS}{a b:E}(h1:pv C a ρ s=.ok (Ze n) s) (h2:pv C b ρ s=.ok (Ze k) s) (hk:1<=k):pv C (.cmp .ne (.bin .mod a b) (.c (.int 0))) ρ s=.ok (.bl !decide (n%k=0)) s:=by
 have hk0:(0:Int)<k:=by omega
 have em:((n:Int)%(k:Int)=0)↔n%k=0:=by omega
 rw[pv,pv,h1,Zb,h2,Zb];show ((if 0<(k:Int) then PR.ok (V.int ((n:Int)%k)) s else .no).bind _)=_
 rw[Pg hk0,Zb,pv];show PR.ok (V.bl !decide ((n:Int)%k=0)) s=_;rw[Kw.mpr em]
theorem ze (d:Nat) {ρ:Env}{s:DS}{x:E}{P:List Row}(hn:n<=6) (hP:pZ p n P) (h1:ρ[1]? = some (some (spV p n))) (h2:pv (CV (d+5)) x ρ s=.ok (Za P) s):pv (CV (d+5)) (.bin .sub (.blt .len [(.call 34 [(.v 1),x])]) (.c (.int 1))) ρ s=.ok (.int (((p^P.length:Nat):Int)-1)) s:=by
 refine UG ?_ (by rw[pv];rfl)
 rw[pv,Zc (call1 (Zd h1) h2 (Zae d s hn hP)) Zi,Zb];show po (some (V.int ((x9 p n P).map Zf).length)) s=_;rw[Pj,v6];rfl
end
section
variable {p n k:Nat}[Base p]
noncomputable abbrev frE (p n k:Nat) (a b c d e f g:Option V):Env:=[some .drw,some (spV p n),some (Ze k),a,b,c,d,e,f,g]
noncomputable abbrev frA (p n k:Nat) (F:List (List Row)) (d e f g:Option V):Env:=frE p n k (some (Zr F)) (some (Ze n)) (some (.int (((p^n:Nat):Int)-1))) d e f g
theorem yF (d:Nat) (s:DS) (hf:(p,n)∈VU) (h1:1<=k) (hk:k<=n) (hl:∀j,j<=n->(ZC p n j).length<=1395):∃s',CV (d+11) 39 [.drw,spV p n,Ze k] s=.ok (.bl true) s':=by
 have hn:=Jh _ hf;simp only at hn;obtain⟨hA,_⟩:=yq hf hk;have hn6:n<=6:=by omega
 suffices h:∃s',rvs (CV (d+10)) [] f__law_full_right.body (frE p n k none none none none none none none) [] s=.ok (.ret (.bl true)) s' by
  obtain⟨s',h⟩:=h;exact⟨s',Zl (fn:=f__law_full_right) rfl (by decide) rfl h⟩
 show ∃s',rvs (CV (d+10)) [] f__law_full_right.body _ [] s=_
 dsimp only[f__law_full_right]
 have g0:=v4 (p:=p) (n:=n) (k:=k) (d+1) s hn h1 hk hl (Good.nil.sortOk h1 hA);rw[Zg (ZW (call1 (Zd rfl) (Zd rfl) g0) rfl)];rw[Zg (ZW (sp1 (p:=p) (n:=n) rfl) rfl)];by_cases c:n%k=0
 ·rw[Pg c]
  show ∃s',rvs (CV (d+10)) [] _ (frE p n k (some (Zr (Yd p n k []))) (some (Ze n)) none none none none none) [] s=_;have G:Good p n k (Yd p n k []):=Good.nil.fill h1;have hcnt:=Zce hf h1 hk c;have hag:=Qu (Good.nil (p:=p) (n:=n) (k:=k)).lot h1;generalize Yd p n k []=F at G hcnt hag ⊢;have hF:=G.len h1 hA;have w1:=WA (p:=p) (m:=k) (by omega)
  have w2:=WA (p:=p) (m:=n) hn6;have hp2:2<=p:=by have:=W9 (p:=p);omega
  have wk:2<=p^k:=PY (show 2<=2^k from PY (by omega) (Nn (show 0<2 by omega) h1)) (Ke hp2 k)
  have wn:2<=p^n:=PY (show 2<=2^n from PY (by omega) (Nn (show 0<2 by omega) (show 1<=n by omega))) (Ke hp2 n)
  have hfull:Qp p n k F=true:=PC hcnt;have e1:pv (CV (d+10)) (.cmp .is (.v 3) (.c .non)) (frE p n k (some (Zr F)) (some (Ze n)) none none none none none) s=.ok (.bl false) s:=by
   rw[pv,Zd (v:=Zr F) rfl,Zb,pv];rfl
  rw[guard e1];have gA:=ux (d+2) s hn h1 hk hA G;have gF:=Zbb d s hn h1 hk hA G;rw[hfull] at gF;have gm:=u7 (C:=CV (d+10)) (ρ:=frE p n k (some (Zr F)) (some (Ze n)) none none none none none) (s:=s) (a:=.v 4) (b:=.v 2) (n:=n) (k:=k) (Zd rfl) (Zd rfl) h1;rw[PC c] at gm;rw[guard (Jv (X2 (call3 (Zd rfl) (Zd rfl) (Zd rfl) gA)) (Jv (X2 (call3 (Zd rfl) (Zd rfl) (Zd rfl) gF)) gm))];obtain⟨_,hne⟩:=yq hf (Pp n);obtain⟨A0,Al,eA⟩:∃A0 Al,ZC p n n=A0::Al:=by
   cases e:ZC p n n with
   |nil=>exact absurd e hne
   |cons a l=>exact⟨a,l,rfl⟩
  have hA0:=ZQ n A0 (by rw[eA];exact Pe ..)
  have gall:=VS (p:=p) (k:=n) (d+7) s hn6 (Pp n) hl;rw[eA] at gall;have eA0:pv (CV (d+10)) (.ix (.call 12 [(.v 1),(.v 4)]) (.c (.int 0))) (frE p n k (some (Zr F)) (some (Ze n)) none none none none none) s=.ok (Za A0) s:=by
   rw[pv,call1 (Zd rfl) (Zd rfl) gall,Zb,pv];show po (at' ((A0::Al).map Za) ((0:Nat):Int)) s=_;rw[WT (x:=Za A0) rfl];rfl
  rw[Zg (ZW (ze (d+5) hn6 hA0.1 rfl eA0) rfl)];rw[hA0.2];show ∃s',rvs (CV (d+10)) [] _ (frA p n k F none none none none) [] s=_;obtain⟨F0,Fl,rfl⟩:∃F0 Fl,F=F0::Fl:=by
   cases F with
   |nil=>simp at hcnt;omega
   |cons a l=>exact⟨a,l,rfl⟩
  have hF0:=G.lot.pt F0 (Pe ..);have eF0:pv (CV (d+10)) (.ix (.v 3) (.c (.int 0))) (frE p n k (some (Zr (F0::Fl))) (some (Ze n)) (some (.int (((p^n:Nat):Int)-1))) none none none none) s=.ok (Za F0) s:=by
   rw[pv,Zd (v:=Zr (F0::Fl)) rfl,Zb,pv];show po (at' ((F0::Fl).map Za) ((0:Nat):Int)) s=_;rw[WT (x:=Za F0) rfl];rfl
  have r2:=ze (d+5) hn6 hF0.1 rfl eF0;rw[hF0.2] at r2;have r3:=UJ (JV (L:=F0::Fl) (a:=.v 3) (Zd rfl)) r2 ⟨by omega,by omega⟩ ⟨by omega,by omega⟩
  have gfil:=Ur d s hn h1 hk hl hA G;rw[hag] at gfil;rw[guard (Jv (ne_int r3 (Zd rfl) (by
   rw[show (((p^k:Nat):Int)-1)=((p^k-1:Nat):Int) by omega,show (((p^n:Nat):Int)-1)=((p^n-1:Nat):Int) by omega,<-Tc,hcnt])) (uR (call3 (Zd rfl) (Zd rfl) (Zd rfl) gfil) (Zd rfl) rfl))]
  generalize hFF:F0::Fl=F at G hcnt hag hF hfull gA gF gfil ⊢;have hF1:1<=F.length:=by rw[<-hFF];simp
  obtain⟨v,s1,t1,t2,t3⟩:=Q5 (F:=fns) (tk:=2) (d:=d+9) (m:=(F.length:Int)) s (by omega) (by omega)
  obtain⟨z,rfl⟩:∃z:Nat,v=z:=⟨v.toNat,by omega⟩
  have hz:z<F.length:=by omega
  rw[Zg (ZW (Zk (Zc (Zd rfl) (Zc (JV (L:=F) (Zd rfl)) Zi)) t1) rfl)];show ∃s',rvs (CV (d+10)) [] _ (frA p n k F (some (Ze z)) none none none) [] s1=_;have hsub:(F.take z++F.drop (z+1)).Sublist F:=by rw[<-List.eraseIdx_eq_take_drop_succ];exact List.eraseIdx_sublist ..
  have hlenW:(F.take z++F.drop (z+1)).length=F.length-1:=by rw[PM,Ni,ND];omega
  have eW:pv (CV (d+10)) (.bin .add (.sl (.v 3) none (some (.v 6))) (.sl (.v 3) (some (.bin .add (.v 6) (.c (.int 1)))) none)) (frA p n k F (some (Ze z)) none none none) s1=.ok (Zr (F.take z++F.drop (z+1))) s1:=by
   have e6:=yT (xs:=F.map Za) (k:=z) (by rw[Pj];omega)
   have e7:=Qw (xs:=F.map Za) (i:=(z:Int)+1) (k:=z+1) (by omega) (by rw[Pj];omega)
   rw[<-List.map_take] at e6;rw[<-List.map_drop] at e7;have e8:(F.take z).length+(F.drop (z+1)).length<=16777216:=by rw[<-PM,hlenW];omega
   rw[Ni,ND] at e8;simp[pvE,slV,Ze,e6,e7];simp[e8]
  rw[Zg (ZW eW rfl)];have GW:=G.sub hsub;generalize F.take z++F.drop (z+1)=W at hlenW GW ⊢;show ∃s',rvs (CV (d+10)) [] _ (frA p n k F (some (Ze z)) (some (Zr W)) none none) [] s1=_;have gW:=Zbb d s1 hn h1 hk hA GW;have hW:Qp p n k W=false:=PV (by
   rw[hlenW,<-hcnt];intro e;have:=Nat.mul_lt_mul_of_pos_right (show F.length-1<F.length by omega) (show 0<p^k-1 by omega)
   omega)
  rw[hW] at gW;rw[guard (wN (call3 (Zd rfl) (Zd rfl) (Zd rfl) gW))];have gfW:=Ur d s1 hn h1 hk hl hA GW;have GM:=GW.fill h1;have hsubM:=(Uy GW.lot).2.1;rw[Zg (ZW (call3 (Zd rfl) (Zd rfl) (Zd rfl) gfW) rfl)];generalize Yd p n k W=M at GM hsubM ⊢;show ∃s',rvs (CV (d+10)) [] _ (frA p n k F (some (Ze z)) (some (Zr W)) (some (Zr M)) none) [] s1=_;rw[guard (Jv (X2 (call3 (Zd rfl) (Zd rfl) (Zd rfl) (ux (d+2) s1 hn h1 hk hA GM))) (Q6 (M:=M) (L:=W) (by simp[pvE]) (by omega) rfl hsubM))]
  have e2k:pv (CV (d+10)) (.cmp .eq (.bin .mul (.c (.int 2)) (.v 2)) (.v 4)) (frA p n k F (some (Ze z)) (some (Zr W)) (some (Zr M)) none) s1=.ok (.bl (decide (2*k=n))) s1:=by
   rw[pv,UJ (x:=2) (y:=(k:Int)) (by rw[pv];rfl) (Zd rfl) ⟨by omega,by omega⟩ ⟨by omega,by omega⟩,Zb,Zd (v:=Ze n) rfl,Zb]
   show PR.ok (V.bl (decide ((2:Int)*k=n))) s1=_;rw[Kw.mpr (show (2:Int)*k=n↔2*k=n by omega)]
  by_cases c2:2*k=n
  ·rw[PC c2] at e2k
   have hT:=yD G.lot c2;have lT:(F.map (Z5 p n)).length=F.length:=Pj ..;have hc:=ZJ (C:=CV (d+10)) (cap:=[1]) (nl:=1) (t:=[0]) (it:=.of (.v 3)) (elt:=.call 38 [(.v 1),(.v 0)]) (ρ:=frA p n k F (some (Ze z)) (some (Zr W)) (some (Zr M)) none) (s:=s1) (l:=F) (e:=Za) (g:=λP=>Za (Z5 p n P))
    (by simp[pvE]) (by unfold lim;omega) (λP hP=>⟨[some (Za P),some (spV p n)],rfl,call1 (Zd rfl) (Zd rfl) (against (d+3) s1 hn6 (G.lot.pt P hP).1)⟩)
   rw[show (F.map λP=>Za (Z5 p n P))=(F.map (Z5 p n)).map Za by rw[Nh];rfl] at hc
   have hT2:=hT.perm (Sd.Z2 (lt:=ltP) (F.map (Z5 p n)));have up:=rises (hT.nodup h1);have lS:(Zw ltP (F.map (Z5 p n))).length=F.length:=by rw[(Sd.Z2 _).length_eq,lT]
   have eT:=VF (YZ hc (Qr hT h1 (by omega)))
   refine⟨s1,?_⟩;rw[Zg ((Wc (XC e2k rfl)).trans (by
    rw[Pg rfl,Zg (ZW eT rfl)];have q1:=WR (d+2) s1 hn6 h1 hk hT2 up (by omega)
    have q2:=xI d s1 hn6 h1 hk hT2 up (by omega)
    rw[show Qp p n k (Zw ltP (F.map (Z5 p n)))=true by unfold Qp;rw[lS];exact hfull] at q2
    rw[guard (Jv (X2 (call3 (Zd rfl) (Zd rfl) (Zd rfl) q1)) (X2 (call3 (Zd rfl) (Zd rfl) (Zd rfl) q2))),rvs]))]
   exact Zo (ZB (by rw[pv];rfl))
  ·rw[PV c2] at e2k
   refine⟨s1,?_⟩;rw[Zg ((Wc (XC e2k rfl)).trans (by rw[Pi (by simp),rvs]))]
   exact Zo (ZB (by rw[pv];rfl))
 ·rw[Pi c]
  show ∃s',rvs (CV (d+10)) [] _ (frE p n k (some .non) (some (Ze n)) none none none none none) [] s=_;have e1:pv (CV (d+10)) (.cmp .is (.v 3) (.c .non)) (frE p n k (some .non) (some (Ze n)) none none none none none) s=.ok (.bl true) s:=by
   rw[pv,Zd (v:=V.non) rfl,Zb,pv];rfl
  have gm:=u7 (C:=CV (d+10)) (ρ:=frE p n k (some .non) (some (Ze n)) none none none none none) (s:=s) (a:=.v 4) (b:=.v 2) (n:=n) (k:=k) (Zd rfl) (Zd rfl) h1;rw[PV c] at gm;exact⟨s,Zo ((Wc (XC e1 rfl)).trans (Zo (ZB gm)))⟩
end
theorem z7:∀r:Row,ZN (r.map V.int)=some (r.map λa=>decide (a≠0))
 |[]=>rfl
 |a::r=>by
  have:=z7 r;simp[ZN,UB,this]
section
variable {p n k:Nat}[Base p]
theorem xC {C:Zt}{ρ:Env}{s s':DS}{x y:E}{A:List (List Row)}{i:Nat}(h1:pv C x ρ s=.ok (.lst (A.map Za)) s) (h2:pv C y ρ s=.ok (.int i) s') (hi:i<A.length):pv C (.ix x y) ρ s=.ok (Za A[i]) s':=by
 rw[pv,h1,Zb,h2,Zb];show po (at' (A.map Za) (i:Int)) s'=_;rw[WT (x:=Za A[i]) (by rw[PH,Pc hi];rfl)];rfl
theorem U6 {C:Zt}{ρ:Env}{s:DS}{x:E}{α:Type}{e:α->V}{A:List α}(h1:pv C x ρ s=.ok (.lst (A.map e)) s):pv C (.blt .len [x]) ρ s=.ok (.int A.length) s:=by
 rw[pv,Zc h1 Zi,Zb];show po (some (V.int (A.map e).length)) s=_;rw[Pj];rfl
theorem yd (d:Nat) {X Y:List Row}(s:DS) (hn:n<=6) (h1:1<=k) (hk:k<=n) (hX:pZ p n X/\X.length=k) (hY:pZ p n Y/\Y.length=k) (h:ltP X Y=true):CV (d+8) 28 [spV p n,Ze k,Zr [X,Y]] s=.ok (.bl (Zv p X Y)) s:=by
 rw[zS d s hn h1 hk (λQ hQ=>by
  rcases Pk.mp hQ with rfl | hQ
  ·exact hX
  ·rw[PF.mp hQ];exact hY) (by simp)]
 have e1:US [X,Y]=true:=by simp[US,h]
 have e2:apB p [X,Y]=Zv p X Y:=by
  rw[WC hX.1 hY.1];simp[apB,List.range_succ]
 rw[e1,e2];rfl
noncomputable abbrev lrE (p n k:Nat) (a b c d e f g:Option V):Env:=[some .drw,some (spV p n),some (Ze k),a,b,c,d,e,f,g]
noncomputable abbrev lrB (p n k:Nat) (A:List (List Row)) (P Q:List Row) (d e f g:Option V):Env:=lrE p n k (some (.lst (A.map Za))) (some (Za P)) (some (Za Q)) d e f g
noncomputable abbrev lrA (p n k:Nat) (A:List (List Row)) (P Q:List Row) (L M:List (List Row)) (r:Row) (g:Option V):Env:=lrB p n k A P Q (some (Zr L)) (some (Zr M)) (some (Zf r)) g
theorem vY (d:Nat) (s:DS) (hf:(p,n)∈VU) (h1:1<=k) (hk:k<=n) (hl:∀j,j<=n->(ZC p n j).length<=1395):∃s',CV (d+11) 45 [.drw,spV p n,Ze k] s=.ok (.bl true) s':=by
 have hn:=Jh _ hf;simp only at hn;obtain⟨hA,hne⟩:=yq hf hk;have hn6:n<=6:=by omega
 suffices h:∃s',rvs (CV (d+10)) [] f__law_lot_right.body (lrE p n k none none none none none none none) [] s=.ok (.ret (.bl true)) s' by
  obtain⟨s',h⟩:=h;exact⟨s',Zl (fn:=f__law_lot_right) rfl (by decide) rfl h⟩
 show ∃s',rvs (CV (d+10)) [] f__law_lot_right.body _ [] s=_
 dsimp only[f__law_lot_right]
 have gall:=VS (p:=p) (k:=k) (d+7) s hn6 hk hl;rw[Zg (ZW (call1 (Zd rfl) (Zd rfl) gall) rfl)];have hpart:=λP (hP:P∈ZC p n k)=>ZQ k P hP
 have hfil:=λ(L:List (List Row)) (G:Good p n k L)=>Uy G.lot
 generalize eA:ZC p n k=A at hne hpart ⊢;show ∃s',rvs (CV (d+10)) [] _ (lrE p n k (some (.lst (A.map Za))) none none none none none none) [] s=_;have hA0:1<=A.length:=by
  cases A with
  |nil=>exact absurd rfl hne
  |cons a l=>simp
 have hA9:A.length<64:=by rw[<-eA];exact hA
 obtain⟨v,s1,t1,t2,t3⟩:=Q5 (F:=fns) (tk:=2) (d:=d+9) (m:=(A.length:Int)) s (by omega) (by omega)
 obtain⟨i,rfl⟩:∃z:Nat,v=z:=⟨v.toNat,by omega⟩
 have hi:i<A.length:=by omega
 obtain⟨v,s2,u1,u2,u3⟩:=Q5 (F:=fns) (tk:=2) (d:=d+9) (m:=(A.length:Int)) s1 (by omega) (by omega)
 obtain⟨j,rfl⟩:∃z:Nat,v=z:=⟨v.toNat,by omega⟩
 have hj:j<A.length:=by omega
 have e45:rv (CV (d+10)) [] (.par [4,5] [(.ix (.v 3) (.call 2 [(.v 0),(.blt .len [(.v 3)])])),(.ix (.v 3) (.call 2 [(.v 0),(.blt .len [(.v 3)])]))]) (lrE p n k (some (.lst (A.map Za))) none none none none none none) [] s=.ok (.nx (lrE p n k (some (.lst (A.map Za))) (some (Za A[i])) (some (Za A[j])) none none none none) []) s2:=by
  rw[rv];show (pvs _ _ _ _).bind _=_;rw[Zc (xC (Zd rfl) (Zk (Zc (Zd rfl) (Zc (U6 (Zd rfl)) Zi)) t1) hi) (Zc (xC (Zd rfl) (Zk (Zc (Zd rfl) (Zc (U6 (Zd rfl)) Zi)) u1) hj) Zi)];rfl
 rw[Zg e45];have hPm:A[i]∈A:=P9 hi;have hQm:A[j]∈A:=P9 hj;generalize A[i]=P at hPm ⊢;generalize A[j]=Q at hQm ⊢;have hP:=hpart P hPm;have hQ:=hpart Q hQm;have eL:pv (CV (d+10)) (.lst [(.v 4),(.v 5)]) (lrB p n k A P Q none none none none) s2=.ok (.lst ([P,Q].map Za)) s2:=by simp[pvE]
 rw[Zg (ZW (VF (YZ eL (ZaJ hP hQ h1))) rfl)];show ∃s',rvs (CV (d+10)) [] _ (lrB p n k A P Q (some (Zr (Zw ltP [P,Q]))) none none none) [] s2=_;have emiss:∀(x:Option V),pv (CV (d+10)) (.call 42 [(.v 1),(.v 4),(.v 5)]) (lrB p n k A P Q x none none none) s2=.ok (.bl (Zv p P Q)) s2:=λx=>call3 (Zd rfl) (Zd rfl) (Zd rfl) (miss (d+3) s2 hn6 hP.1 hQ.1)
 have ene:∀(x:Option V),pv (CV (d+10)) (.cmp .ne (.v 4) (.v 5)) (lrB p n k A P Q x none none none) s2=.ok (.bl !decide (P=Q)) s2:=λx=>jY (Zd rfl) (Zd rfl)
 obtain⟨L,GL,eg,el⟩:∃L,Good p n k L/\pv (CV (d+10)) (.and (.cmp .ne (.v 4) (.v 5)) (.cmp .ne (.call 28 [(.v 1),(.v 2),(.v 6)]) (.call 42 [(.v 1),(.v 4),(.v 5)]))) (lrB p n k A P Q (some (Zr (Zw ltP [P,Q]))) none none none) s2=.ok (.bl false) s2/\pv (CV (d+10)) (.ite (.and (.cmp .ne (.v 4) (.v 5)) (.call 42 [(.v 1),(.v 4),(.v 5)])) (.v 6) (.tup [(.v 4)])) (lrB p n k A P Q (some (Zr (Zw ltP [P,Q]))) none none none) s2=.ok (Zr L) s2:=by
  have et:∀x,pv (CV (d+10)) (.tup [(.v 4)]) (lrB p n k A P Q x none none none) s2=.ok (Zr [P]) s2:=λx=>by simp[pvE]
  have one:Good p n k [P]:=Good.one (by rw[eA];exact hPm)
  by_cases c:P=Q
  ·have e0:=ene (some (Zr (Zw ltP [P,Q])))
   rw[PC c] at e0;refine⟨[P],one,Gp e0,?_⟩;rw[pv,Gp e0,Zb];exact et (some (Zr (Zw ltP [P,Q])))
  ·have e0:=ene (some (Zr (Zw ltP [P,Q])))
   rw[PV c] at e0;obtain⟨X,Y,z1,z2,z3⟩:=vR c;have hXY:(X∈ZC p n k/\Y∈ZC p n k)/\Zv p X Y=Zv p P Q:=by
    rw[eA];rcases z3 with ⟨rfl,rfl⟩ | ⟨rfl,rfl⟩
    ·exact⟨⟨hPm,hQm⟩,rfl⟩
    ·exact⟨⟨hQm,hPm⟩,WC hQ.1 hP.1⟩
   have ea:pv (CV (d+10)) (.call 28 [(.v 1),(.v 2),(.v 6)]) (lrB p n k A P Q (some (Zr (Zw ltP [P,Q]))) none none none) s2=.ok (.bl (Zv p P Q)) s2:=by
    rw[z1,<-hXY.2];exact call3 (Zd rfl) (Zd rfl) (Zd rfl) (yd (d+2) s2 hn6 h1 hk (ZQ k X hXY.1.1) (ZQ k Y hXY.1.2) z2)
   have eg:=VA e0 (ZcU ea (emiss _) rfl);cases em:Zv p P Q with
   |true=>
    have e2:=emiss (some (Zr (Zw ltP [P,Q])));rw[em] at e2;refine⟨Zw ltP [P,Q],?_,eg,?_⟩
    ·rw[z1]
     exact Good.two hXY.1.1 hXY.1.2 (by rw[hXY.2];exact em) z2
    ·rw[pv,VA e0 e2,Zb]
     show pv (CV (d+10)) (.v 6) (lrB p n k A P Q (some (Zr (Zw ltP [P,Q]))) none none none) s2=_;exact Zd rfl
   |false=>
    have e2:=emiss (some (Zr (Zw ltP [P,Q])));rw[em] at e2;refine⟨[P],one,eg,?_⟩;rw[pv,VA e0 e2,Zb];exact et (some (Zr (Zw ltP [P,Q])))
 rw[guard eg,Zg (ZW el rfl)];show ∃s',rvs (CV (d+10)) [] _ (lrB p n k A P Q (some (Zr L)) none none none) [] s2=_;have gf:=Ur d s2 hn h1 hk hl hA GL;rw[Zg (ZW (call3 (Zd rfl) (Zd rfl) (Zd rfl) gf) rfl)];have hag:=Qu GL.lot h1;have GM:=GL.fill h1;obtain⟨_,hsub,hmax⟩:=Uy GL.lot;rw[eA] at hmax;have gf2:=Ur d s2 hn h1 hk hl hA GM;rw[hag] at gf2;have hLl:=GL.len h1 hA;clear gf hag;generalize Yd p n k L=M at GM hsub hmax gf2 ⊢;show ∃s',rvs (CV (d+10)) [] _ (lrB p n k A P Q (some (Zr L)) (some (Zr M)) none none) [] s2=_;have hMl:=GM.len h1 hA;rw[guard (Jv (uR (call3 (Zd rfl) (Zd rfl) (Zd rfl) gf2) (Zd rfl) rfl) (Q6 (M:=M) (L:=L) (by simp[pvE]) (by omega) rfl hsub))]
 obtain⟨r,s3,x1,hr⟩:=law_row_of (p:=p) (n:=n) (d+8) s2 hn6;rw[Zg (ZW (Zk (Zc (Zd rfl) (Zc (Zd rfl) Zi)) x1) rfl)];show ∃s',rvs (CV (d+10)) [] _ (lrA p n k A P Q L M r none) [] s3=_;have ea:pv (CV (d+10)) (.blt .any [(.v 8)]) (lrA p n k A P Q L M r none) s3=.ok (.bl (r.any λa=>decide (a≠0))) s3:=by
  rw[pv,Zc (Zd (v:=Zf r) rfl) Zi,Zb];show po ((ZN (r.map V.int)).map λbs=>V.bl (bs.any id)) s3=_
  rw[z7];show PR.ok (V.bl ((r.map λa=>decide (a≠0)).any id)) s3=_
  rw[List.any_map];rfl
 have hc:=Y4 (C:=CV (d+10)) (cap:=[1,8]) (nl:=1) (t:=[0]) (it:=.of (.v 7)) (tst:=.call 44 [(.v 1),(.v 0),(.v 2)]) (elt:=.v 0) (ρ:=lrA p n k A P Q L M r none) (s:=s3) (l:=M) (e:=Za) (g:=Za) (q:=λX=>WP p X r)
  (by simp[pvE]) (by unfold lim;omega) (λX hX=>⟨[some (Za X),some (spV p n),some (Zf r)],.bl (WP p X r),rfl,call3 (Zd rfl) (Zd rfl) (Zd rfl) (holds (d+5) s3 hn6 (GM.lot.pt X hX).1 hr),rfl,λ_=>Zd rfl⟩)
 have eC:pv (CV (d+10)) (.and (.blt .any [(.v 8)]) (.cmp .gt (.blt .len [(.comp1 [1,8] 1 [0] (.of (.v 7)) [(.call 44 [(.v 1),(.v 0),(.v 2)])] (.v 0))]) (.c (.int 1)))) (lrA p n k A P Q L M r none) s3=.ok (.bl false) s3:=by
  cases ec:r.any λa=>decide (a≠0) with
  |false=>rw[ec] at ea;exact Gp ea
  |true=>
   rw[ec] at ea;have hone:=wX GM h1 hr ec;rw[VA ea (show pv (CV (d+10)) (.cmp .gt (.blt .len [(.comp1 [1,8] 1 [0] (.of (.v 7)) [(.call 44 [(.v 1),(.v 0),(.v 2)])] (.v 0))]) (.c (.int 1))) _ s3=.ok (.bl false) s3 from ?_)]
   rw[pv,U6 hc,Zb,pv];show PR.ok (V.bl (decide ((1:Int)<((M.filter λX=>WP p X r).length:Int)))) s3=_
   rw[PV (by omega)]
 rw[guard eC];obtain⟨o',hI,e⟩:=XM (C:=CV (d+10)) (ms:=[]) (t:=[9]) (it:=.of (.v 3)) (b:=[.ite (.and (.cmp .nin (.v 9) (.v 7)) (.blt .all [(.comp1 [1,9] 1 [0] (.of (.v 7)) [] (.call 42 [(.v 1),(.v 2),(.v 0)]))])) [.ret (.c (.bl false))] []]) (L:=A) (e:=Za) (step:=λ(u:Unit) _=>u) (ρ:=λ_ o=>lrA p n k A P Q L M r o) (st:=()) (o:=none) (os:=[]) (s:=s3) (λl _=>∀X∈l,X∈A)
  (by simp[pvE]) (λX hX=>hX) rfl (λX l _ o hst=>by
  have hX:=hst X (Pe ..);refine⟨λY hY=>hst Y (Pd _ hY),rfl,_,some (Za X),rfl,?_⟩
  show rvs (CV (d+10)) [] _ (lrA p n k A P Q L M r (some (Za X))) [] s3=_;have q1:=wf (C:=CV (d+10)) (ρ:=lrA p n k A P Q L M r (some (Za X))) (s:=s3) (a:=.v 9) (b:=.v 7) (P:=X) (M:=M) (Zd rfl) (Zd rfl);have q2:pv (CV (d+10)) (.and (.cmp .nin (.v 9) (.v 7)) (.blt .all [(.comp1 [1,9] 1 [0] (.of (.v 7)) [] (.call 42 [(.v 1),(.v 2),(.v 0)]))])) (lrA p n k A P Q L M r (some (Za X))) s3=.ok (.bl false) s3:=by
   by_cases c:X∈M
   ·rw[PC c] at q1
    exact Gp q1
   ·rw[PV c] at q1
    obtain⟨Y,y1,y2⟩:=(hmax X hX).resolve_left c;have hc2:=ZJ (C:=CV (d+10)) (cap:=[1,9]) (nl:=1) (t:=[0]) (it:=.of (.v 7)) (elt:=.call 42 [(.v 1),(.v 2),(.v 0)]) (ρ:=lrA p n k A P Q L M r (some (Za X))) (s:=s3) (l:=M) (e:=Za) (g:=λZ=>V.bl (Zv p X Z))
     (by simp[pvE]) (by unfold lim;omega) (λZ hZ=>⟨[some (Za Z),some (spV p n),some (Za X)],rfl,call3 (Zd rfl) (Zd rfl) (Zd rfl) (miss (d+3) s3 hn6 (hpart X hX).1 (GM.lot.pt Z hZ).1)⟩)
    have ht:=ZX (g:=λZ:List Row=>Zv p X Z) M
    refine VA q1 ?_;rw[pv,Zc hc2 Zi,Zb];show po ((ZN (M.map λZ=>V.bl (Zv p X Z))).map λbs=>V.bl (bs.all id)) s3=_
    rw[ht];show PR.ok (V.bl ((M.map λZ=>Zv p X Z).all id)) s3=_
    rw[show (M.map λZ=>Zv p X Z).all id=false by
     rw[KO,List.all_eq_false];exact⟨Y,y1,by simp[y2]⟩]
  rw[guard q2,rvs])
 rw[Zg e];exact⟨s3,Zo (ZB (by rw[pv];rfl))⟩
end
theorem ZaD {p n:Nat}(h:(p,n)∈VU++Zav):∀j,j<=n->(ZC p n j).length<=1395:=λj hj=>by
 have:=PN.mp (PN.mp qo (p,n) h) j (PQ.mpr (by omega))
 exact Pq this
noncomputable def uG:List Sm:=[.asg [3] (.call 3 [(.v 2),(.c (.int 27))]),
  .asg [4] (.bin .add (.c (.int 1)) (.call 2 [(.v 2),(.ix (.v 3) (.c (.int 1)))])),
  .ite (.or (.not (.call 39 [(.v 2),(.v 3),(.v 4)])) (.not (.call 45 [(.v 2),(.v 3),(.v 4)]))) [.ret (.c (.bl false))] []]
theorem jb (d:Nat) (k:Nat) (s:DS):∃ρ' os' s',rvs (CV (d+11)) [] uG (none::some (.int k)::some .drw::List.replicate 2 none) [] s=.ok (.nx ρ' os') s':=by
 unfold uG;show ∃ρ' os' s',rvs (CV (d+11)) [] _ [none,some (.int k),some .drw,none,none] [] s=.ok (.nx ρ' os') s';obtain⟨p,n,s1,f1,f2,f3,f4,f5,f6⟩:=law_space (d+9) (m:=27) s (by omega)
 have hf:=f6 (by omega)
 have hB:Base p:=⟨f2⟩;have hl:=ZaD f5;rw[Zg (ZW (Zk (Zc (Zd rfl) (Zc (by rw[pv];rfl) Zi)) f1) rfl)]
 show ∃ρ' os' s',rvs _ _ _ [none,some (.int k),some .drw,some (spV p n),none] [] s1=.ok (.nx ρ' os') s';obtain⟨v,s2,t1,t2,t3⟩:=Q5 (F:=fns) (tk:=2) (d:=d+10) (m:=(n:Int)) s1 (by omega) (by omega)
 obtain⟨z,rfl⟩:∃z:Nat,v=z:=⟨v.toNat,by omega⟩
 have e3:pv (CV (d+11)) (.ix (.v 3) (.c (.int 1))) [none,some (.int k),some .drw,some (spV p n),none] s1=.ok (.int n) s1:=by
  rw[pv,Zd (v:=spV p n) rfl,Zb,pv];rfl
 have e4:pv (CV (d+11)) (.bin .add (.c (.int 1)) (.call 2 [(.v 2),(.ix (.v 3) (.c (.int 1)))])) [none,some (.int k),some .drw,some (spV p n),none] s1=.ok (Ze (z+1)) s2:=by
  rw[pv,show pv (CV (d+11)) (.c (.int 1)) [none,some (.int k),some .drw,some (spV p n),none] s1=.ok (.int 1) s1 by rw[pv];rfl,Zb,Zk (Zc (Zd (v:=.drw) rfl) (Zc e3 Zi)) t1,Zb]
  show PR.ok (V.int (1+(z:Int))) s2=.ok (V.int ((z+1:Nat):Int)) s2;rw[show ((z+1:Nat):Int)=1+(z:Int) by omega]
 rw[Zg (ZW e4 rfl)];show ∃ρ' os' s',rvs _ _ _ [none,some (.int k),some .drw,some (spV p n),some (Ze (z+1))] [] s2=.ok (.nx ρ' os') s';obtain⟨s3,g1⟩:=yF (p:=p) (n:=n) (k:=z+1) d s2 hf (by omega) (by omega) hl
 obtain⟨s4,g2⟩:=vY (p:=p) (n:=n) (k:=z+1) d s3 hf (by omega) (by omega) hl
 have e5:pv (CV (d+11)) (.or (.not (.call 39 [(.v 2),(.v 3),(.v 4)])) (.not (.call 45 [(.v 2),(.v 3),(.v 4)]))) [none,some (.int k),some .drw,some (spV p n),some (Ze (z+1))] s2=.ok (.bl false) s4:=by
  have a1:pv (CV (d+11)) (.call 39 [(.v 2),(.v 3),(.v 4)]) [none,some (.int k),some .drw,some (spV p n),some (Ze (z+1))] s2=.ok (.bl true) s3:=Zk (Zc (Zd rfl) (Zc (Zd rfl) (Zc (Zd rfl) Zi))) g1;have a2:pv (CV (d+11)) (.call 45 [(.v 2),(.v 3),(.v 4)]) [none,some (.int k),some .drw,some (spV p n),some (Ze (z+1))] s3=.ok (.bl true) s4:=Zk (Zc (Zd rfl) (Zc (Zd rfl) (Zc (Zd rfl) Zi))) g2;have b1:pv (CV (d+11)) (.not (.call 39 [(.v 2),(.v 3),(.v 4)])) [none,some (.int k),some .drw,some (spV p n),some (Ze (z+1))] s2=.ok (.bl false) s3:=by rw[pv,a1];rfl
  have b2:pv (CV (d+11)) (.not (.call 45 [(.v 2),(.v 3),(.v 4)])) [none,some (.int k),some .drw,some (spV p n),some (Ze (z+1))] s3=.ok (.bl false) s4:=by rw[pv,a2];rfl
  rw[pv,b1];exact b2
 rw[Zg ((Wc (XC e5 rfl)).trans (by rw[Pi (by simp),rvs])),rvs]
 exact⟨_,_,_,rfl⟩
theorem law_ok {ns:List Int}{S:Store}(d:Nat) (hs:S[0]? = some (.scr ns)):∃S',calls fns (d+12) 46 [.loc 0] S=.ok (.bl true) S':=
 Lw.law_of (F:=fns) (tk:=2) (ca:=0) (st:=1) (L:=46) (M:=3) (B:=uG) (m:=2) (d:=d+9) rfl rfl rfl rfl rfl (by omega) (jb d) hs
end K85
namespace K85
open PySem PySem.Spec PyProof.Rows L2 Wr Gn
open Sd (GR wq qA qk qj Za7 uc x8 wd qv qi wm QK uX qG ui yr uQ yp wL xQ wt Jg GX wH wC U1 uT qM)
noncomputable def top (i:Nat):Stmt:=PySem.Challenge.pw_fewspaces_k85_whole_lots_apart.main.body.getD i (.Pass ⟨0,0,0,0⟩)
noncomputable abbrev r0:FR:=⟨"_law_cell_at",top 54,["_law_script","_law_k"],2⟩
noncomputable abbrev r1:FR:=⟨"_law_state",top 55,["_law_script","_law_k","_law_cell"],2⟩
noncomputable abbrev r2:FR:=⟨"_law_take",top 56,["_law_state_here","_law_many","_law_found","_law_mixed"],2⟩
noncomputable abbrev r3:FR:=⟨"_law_space",top 57,["_law_state_here","_law_most","_law_some"],2⟩
noncomputable abbrev r4:FR:=⟨"is_whole",top 8,["thing","least","greatest"],3⟩
noncomputable abbrev r5:FR:=⟨"need_whole",top 32,["thing","least","greatest"],3⟩
noncomputable abbrev r6:FR:=⟨"need_size",top 41,["space","size","p","n"],2⟩
noncomputable abbrev r7:FR:=⟨"need_few_places",top 46,["space","p","n"],1⟩
noncomputable abbrev r8:FR:=⟨"rows_headed",top 34,["space","head","p","n","rows","place"],2⟩
noncomputable abbrev r9:FR:=⟨"noughts_at",top 16,["rows","place"],2⟩
noncomputable abbrev r10:FR:=⟨"head_of",top 11,["row","place","number"],1⟩
noncomputable abbrev r11:FR:=⟨"rows_behind",top 35,["headed","part","first","rows","head"],2⟩
noncomputable abbrev r12:FR:=⟨"all_parts",top 33,["space","size","p","n","headed","parts","many"],2⟩
noncomputable abbrev r13:FR:=⟨"plus_times",top 13,["p","row","other","number"],4⟩
noncomputable abbrev r14:FR:=⟨"cleared",top 15,["p","row","other","head"],4⟩
noncomputable abbrev r15:FR:=⟨"left_over",top 27,["space","part","row","p","n","rest","other"],3⟩
noncomputable abbrev r16:FR:=⟨"times",top 12,["p","row","number"],3⟩
noncomputable abbrev r17:FR:=⟨"inverse",top 14,["p","number","found"],2⟩
noncomputable abbrev r18:FR:=⟨"widened",top 26,["space","part","row","p","n","rest","head","lead","rows"],3⟩
noncomputable abbrev r19:FR:=⟨"widened_by_all",top 25,["space","part","rows","wider","row"],3⟩
noncomputable abbrev r20:FR:=⟨"do_miss",top 38,["space","one","other"],3⟩
noncomputable abbrev r21:FR:=⟨"misses_all",top 43,["space","part","others"],3⟩
noncomputable abbrev r22:FR:=⟨"filled_up",top 49,["space","size","lot","found","part"],3⟩
noncomputable abbrev r23:FR:=⟨"some_full",top 47,["space","size","p","n"],2⟩
noncomputable abbrev r24:FR:=⟨"is_rising",top 9,["things"],1⟩
noncomputable abbrev r25:FR:=⟨"stands_alone",top 20,["rows","at","place"],3⟩
noncomputable abbrev r26:FR:=⟨"is_row",top 18,["space","thing","p","n"],2⟩
noncomputable abbrev r27:FR:=⟨"is_part",top 19,["space","thing","places"],2⟩
noncomputable abbrev r28:FR:=⟨"is_apart",top 42,["space","size","thing"],3⟩
noncomputable abbrev r29:FR:=⟨"need_lot",top 44,["space","size","thing"],3⟩
noncomputable abbrev r30:FR:=⟨"filled",top 48,["space","size","lot"],3⟩
noncomputable abbrev r31:FR:=⟨"power",top 10,["number","many","found","k"],2⟩
noncomputable abbrev r32:FR:=⟨"is_full",top 45,["space","size","lot","p","n"],3⟩
noncomputable abbrev r33:FR:=⟨"need_part",top 22,["space","thing"],2⟩
noncomputable abbrev r34:FR:=⟨"rows_of",top 30,["space","part","p","n","rows","other"],2⟩
noncomputable abbrev r35:FR:=⟨"need_row",top 21,["space","thing"],2⟩
noncomputable abbrev r36:FR:=⟨"spanned",top 24,["space","rows","row"],2⟩
noncomputable abbrev r37:FR:=⟨"row_against",top 52,["space","part","free","p","n","numbers","row"],3⟩
noncomputable abbrev r38:FR:=⟨"against",top 51,["space","part","p","n","places","free"],2⟩
noncomputable abbrev r39:FR:=⟨"_law_full_right",top 61,["_law_state_here","_law_space_here","_law_size","_law_found","_law_n","_law_every","_law_at","_law_fewer","_law_more","_law_turned"],3⟩
noncomputable abbrev r40:FR:=⟨"_law_row_of",top 58,["_law_state_here","_law_space_here"],2⟩
noncomputable abbrev r41:FR:=⟨"need_parts",top 23,["space","one","other"],3⟩
noncomputable abbrev r42:FR:=⟨"miss",top 37,["space","one","other"],3⟩
noncomputable abbrev r43:FR:=⟨"has_row",top 29,["space","part","row"],3⟩
noncomputable abbrev r44:FR:=⟨"holds",top 28,["space","part","row"],3⟩
noncomputable abbrev r45:FR:=⟨"_law_lot_right",top 62,["_law_state_here","_law_space_here","_law_size","_law_some","_law_one","_law_other","_law_lot","_law_there","_law_row","_law_part"],3⟩
noncomputable abbrev r46:FR:=⟨"law",top 63,["_law_script","_law_k","_law_state_here","_law_space_here","_law_size"],1⟩
noncomputable abbrev fs:List FR:=[r0,r1,r2,r3,r4,r5,r6,r7,r8,r9,r10,r11,r12,r13,r14,r15,r16,r17,r18,r19,r20,r21,r22,r23,r24,r25,r26,r27,r28,r29,r30,r31,r32,r33,r34,r35,r36,r37,r38,r39,r40,r41,r42,r43,r44,r45,r46]
abbrev zs:List Str:=["all","any","bool","enumerate","int","isinstance","len","list","max","min","range","reversed","sorted","tuple","zip"]
abbrev gs:List (Str×Int):=[("MOST_FILLED_PLACES",4)]
abbrev n0:List Str:=["_law_rows","_law_space_here","_law_most"]
abbrev n1:List Str:=["row","number","p"]
abbrev n2:List Str:=["row","place"]
abbrev n3:List Str:=["head","space"]
abbrev n4:List Str:=["part","row","headed"]
abbrev n5:List Str:=["mine","its","number","p"]
abbrev n6:List Str:=["mine","number","p"]
abbrev n7:List Str:=["other","p","lead","head"]
abbrev n8:List Str:=["other","space","part"]
abbrev n9:List Str:=["one","other"]
abbrev n10:List Str:=["number","p"]
abbrev n11:List Str:=["row"]
abbrev n12:List Str:=["at","place","thing"]
abbrev n13:List Str:=["row","space"]
abbrev n14:List Str:=["at","part","space","thing"]
abbrev n15:List Str:=["part","space","size"]
abbrev n16:List Str:=["row","number","p","other"]
abbrev n17:List Str:=["place","places"]
abbrev n18:List Str:=["place","space","part"]
abbrev n19:List Str:=["_law_part","_law_more"]
abbrev n20:List Str:=["_law_part","_law_space_here"]
abbrev n21:List Str:=["_law_place","_law_state_here","_law_space_here"]
abbrev n22:List Str:=["_law_part","_law_there"]
abbrev n23:List Str:=["_law_part","_law_space_here","_law_row"]
abbrev n24:List Str:=["_law_other","_law_space_here","_law_part"]
local macro_rules | `(tactic| walk_at "n") => `(tactic| first|exact ZO (N:=n0) (by kernel_rfl!)|exact ZO (N:=n1) (by kernel_rfl!)|exact ZO (N:=n2) (by kernel_rfl!)|exact ZO (N:=n3) (by kernel_rfl!)|exact ZO (N:=n4) (by kernel_rfl!)|exact ZO (N:=n5) (by kernel_rfl!)|exact ZO (N:=n6) (by kernel_rfl!)|exact ZO (N:=n7) (by kernel_rfl!)|exact ZO (N:=n8) (by kernel_rfl!)|exact ZO (N:=n9) (by kernel_rfl!)|exact ZO (N:=n10) (by kernel_rfl!)|exact ZO (N:=n11) (by kernel_rfl!)|exact ZO (N:=n12) (by kernel_rfl!)|exact ZO (N:=n13) (by kernel_rfl!)|exact ZO (N:=n14) (by kernel_rfl!)|exact ZO (N:=n15) (by kernel_rfl!)|exact ZO (N:=n16) (by kernel_rfl!)|exact ZO (N:=n17) (by kernel_rfl!)|exact ZO (N:=n18) (by kernel_rfl!)|exact ZO (N:=n19) (by kernel_rfl!)|exact ZO (N:=n20) (by kernel_rfl!)|exact ZO (N:=n21) (by kernel_rfl!)|exact ZO (N:=n22) (by kernel_rfl!)|exact ZO (N:=n23) (by kernel_rfl!)|exact ZO (N:=n24) (by kernel_rfl!))
local macro_rules | `(tactic| walk_at "e") => `(tactic| first|exact wq|exact GR|exact x8|exact uc|exact qA|exact qj|exact wd|exact qk|exact Za7)
local macro_rules | `(tactic| walk_at "z") => `(tactic| exact Top.no (by assumption) (by kernel_rfl!))
local macro_rules | `(tactic| walk_at "v") => `(tactic| first|exact Or.inl (by kernel_rfl!)|exact Or.inr (by kernel_rfl!)|exact Or.inr (Or.inl (by kernel_rfl!))|exact Or.inr (Or.inr (by kernel_rfl!)))
theorem okl:OkL fs zs gs fns 0 fs fns:=by
 repeat' (first | exact True.intro | refine⟨⟨rfl,rfl,by decide +kernel,?_⟩,?_⟩ | fail)
 all_goals
 (intro P w K mg base f fd d T h hn cdv A outer s H E hr hu;repeat' (first
 |(with_reducible show Bx (Sd.CSs _ _ _ _ _));first | exact yV | refine Gq ?_ ?_
 |(with_reducible show Bx (Sd.CA _ _ _ _ _));first | exact yy | refine J2 ?_ ?_ (by walk_at "e")
 |(with_reducible show Bx (Sd.CE _ _ _ _ (.v _)));exact ZbB _ (hN:=by kernel_rfl!) (hv:=by walk_at "v") (hd:=by kernel_rfl!) (hcd:=by kernel_rfl!)
 |(with_reducible show Bx (Sd.CE _ _ _ _ (.c _)));first | exact yG | exact Zcu (by assumption) (by kernel_rfl!) rfl rfl | exact qh | exact xa
 |(with_reducible show Bx (Sd.CE _ _ _ _ (.call _ _)));refine ZcA (by assumption) (by assumption) (by assumption) ?_ (by kernel_rfl!) rfl (by kernel_rfl!) (by walk_at "e") rfl
 |(with_reducible show Bx (Sd.CE _ _ _ _ (.ix _ _)));refine v8 ?_ ?_ (hs:=by intro _ _;kernel_rfl!)
 |(with_reducible show Bx (Sd.CE _ _ _ _ (.blt .len _)));refine Xd (x:="len") (f:=.len) wL (by walk_at "z") ?_ (he:=(by walk_at "e")) (hg:=show _=_ from by kernel_rfl!) (hv:=by kernel_rfl!) (hn:=by decide) (hdb:=by kernel_rfl!) (hpl:=by kernel_rfl!)
 |(with_reducible show Bx (Sd.CE _ _ _ _ (.blt .tuple _)));refine Ut (x:="tuple") (f:=.tuple) Jg (by walk_at "z") ?_ (he:=(by walk_at "e")) (hg:=show _=_ from by kernel_rfl!) (hv:=by kernel_rfl!) (hn:=by decide) (hdb:=by kernel_rfl!) (hpl:=by kernel_rfl!)
 |(with_reducible show Bx (Sd.CE _ _ _ _ (.blt .all _)));refine Xd (x:="all") (f:=.all) (wH rfl) (by walk_at "z") ?_ (he:=(by walk_at "e")) (hg:=show _=_ from by kernel_rfl!) (hv:=by kernel_rfl!) (hn:=by decide) (hdb:=by kernel_rfl!) (hpl:=by kernel_rfl!)
 |(with_reducible show Bx (Sd.CE _ _ _ _ (.blt .list _)));refine Ut (x:="list") (f:=.list) GX (by walk_at "z") ?_ (he:=(by walk_at "e")) (hg:=show _=_ from by kernel_rfl!) (hv:=by kernel_rfl!) (hn:=by decide) (hdb:=by kernel_rfl!) (hpl:=by kernel_rfl!)
 |(with_reducible show Bx (Sd.CE _ _ _ _ (.blt .any _)));refine Xd (x:="any") (f:=.any) (wC rfl) (by walk_at "z") ?_ (he:=(by walk_at "e")) (hg:=show _=_ from by kernel_rfl!) (hv:=by kernel_rfl!) (hn:=by decide) (hdb:=by kernel_rfl!) (hpl:=by kernel_rfl!)
 |(with_reducible show Bx (Sd.CE _ _ _ _ (.blt .max2 _)));refine Xd (x:="max") (f:=.max2) (xQ rfl) (by walk_at "z") ?_ (he:=(by walk_at "e")) (hg:=show _=_ from by kernel_rfl!) (hv:=by kernel_rfl!) (hn:=by decide) (hdb:=by kernel_rfl!) (hpl:=by kernel_rfl!)
 |(with_reducible show Bx (Sd.CE _ _ _ _ (.blt .min2 _)));refine Xd (x:="min") (f:=.min2) (wt rfl) (by walk_at "z") ?_ (he:=(by walk_at "e")) (hg:=show _=_ from by kernel_rfl!) (hv:=by kernel_rfl!) (hn:=by decide) (hdb:=by kernel_rfl!) (hpl:=by kernel_rfl!)
 |(with_reducible show Bx (Sd.CE _ _ _ _ (.blt .sorted _)));refine Xd (x:="sorted") (f:=.sorted) (U1 (by assumption)) (by walk_at "z") ?_ (he:=(by walk_at "e")) (hg:=show _=_ from by kernel_rfl!) (hv:=by kernel_rfl!) (hn:=by decide) (hdb:=by kernel_rfl!) (hpl:=by kernel_rfl!)
 |(with_reducible show Bx (Sd.CE _ _ _ _ (.blt _ _)));refine WV (by walk_at "z") ?_ (hg:=show _=_ from by kernel_rfl!) (he:=by kernel_rfl!) (hpl:=by kernel_rfl!)
 |(with_reducible show Bx (Sd.CE _ _ _ _ (.bin _ _ _)));first | refine yC ?_ ?_ | refine xA ?_ ?_ | refine xr ?_ ?_ | refine yk ?_ ?_ | refine GF ?_ ?_ | refine yJ ?_ ?_
 |(with_reducible show Bx (Sd.CE _ _ _ _ (.tup _)));refine yu ?_
 |(with_reducible show Bx (Sd.CE _ _ _ _ (.lst _)));refine xf ?_
 |(with_reducible show Bx (Sd.CE _ _ _ _ (.neg _)));refine yX ?_
 |(with_reducible show Bx (Sd.CE _ _ _ _ (.not _)));refine yA ?_
 |(with_reducible show Bx (Sd.CE _ _ _ _ (.cmp .eq _ _)));refine YM (op:=.Eq) (o:=.eq) (qv (by assumption)) ?_ ?_ (hm:=by first | exact nomark _ | kernel_rfl!)
 |(with_reducible show Bx (Sd.CE _ _ _ _ (.cmp .ne _ _)));refine YM (op:=.NotEq) (o:=.ne) (qi (by assumption)) ?_ ?_ (hm:=by first | exact nomark _ | kernel_rfl!)
 |(with_reducible show Bx (Sd.CE _ _ _ _ (.cmp .lt _ _)));refine YM (op:=.Lt) (o:=.lt) (wm (by assumption)) ?_ ?_ (hm:=by first | exact nomark _ | kernel_rfl!)
 |(with_reducible show Bx (Sd.CE _ _ _ _ (.cmp .le _ _)));refine YM (op:=.LtE) (o:=.le) (QK (by assumption)) ?_ ?_ (hm:=by first | exact nomark _ | kernel_rfl!)
 |(with_reducible show Bx (Sd.CE _ _ _ _ (.cmp .gt _ _)));refine YM (op:=.Gt) (o:=.gt) (uX (by assumption)) ?_ ?_ (hm:=by first | exact nomark _ | kernel_rfl!)
 |(with_reducible show Bx (Sd.CE _ _ _ _ (.cmp .ge _ _)));refine YM (op:=.GtE) (o:=.ge) (qG (by assumption)) ?_ ?_ (hm:=by first | exact nomark _ | kernel_rfl!)
 |(with_reducible show Bx (Sd.CE _ _ _ _ (.cmp .is _ _)));refine YM (op:=.Is) (o:=.is) (ui (by assumption)) ?_ ?_ (hm:=by first | exact nomark _ | kernel_rfl!)
 |(with_reducible show Bx (Sd.CE _ _ _ _ (.cmp .isn _ _)));refine YM (op:=.IsNot) (o:=.isn) (yr (by assumption)) ?_ ?_ (hm:=by first | exact nomark _ | kernel_rfl!)
 |(with_reducible show Bx (Sd.CE _ _ _ _ (.cmp .inn _ _)));refine YM (op:=.In) (o:=.inn) (uQ (by assumption)) ?_ ?_ (hm:=by first | exact nomark _ | kernel_rfl!)
 |(with_reducible show Bx (Sd.CE _ _ _ _ (.cmp .nin _ _)));refine YM (op:=.NotIn) (o:=.nin) (yp (by assumption)) ?_ ?_ (hm:=by first | exact nomark _ | kernel_rfl!)
 |(with_reducible show Bx (Sd.CE _ _ _ _ (.chain _ _ _ _ _)));first | refine Vi (op:=.LtE) (o:=.le) (op':=.LtE) (o':=.le) (QK (by assumption)) (QK (by assumption)) ?_ ?_ ?_ (hm:=by kernel_rfl!) | refine Vi (op:=.LtE) (o:=.le) (op':=.Lt) (o':=.lt) (QK (by assumption)) (wm (by assumption)) ?_ ?_ ?_ (hm:=by kernel_rfl!)
 |(with_reducible show Bx (Sd.CE _ _ _ _ (.ite _ _ _)));refine yh ?_ ?_ ?_
 |(with_reducible show Bx (Sd.CE _ _ _ _ (.sl _ _ _)));refine ur ?_ ?_ ?_
 |(with_reducible show Bx (Sd.CE _ _ _ _ (.isi _ _)));first | refine VT (T:="int") (t:=.int) (by intro m h;cases h) (by walk_at "z") (by walk_at "z") ?_ (hg:=show _=_ from by kernel_rfl!) (hgT:=show _=_ from by kernel_rfl!) (hvT:=by kernel_rfl!) (hnT:=by decide) (hdT:=by kernel_rfl!) (hs1:=by kernel_rfl!) (hs2:=by kernel_rfl!) (hpl:=by kernel_rfl!) | refine VT (T:="bool") (t:=.bool) (by intro m h;cases h) (by walk_at "z") (by walk_at "z") ?_ (hg:=show _=_ from by kernel_rfl!) (hgT:=show _=_ from by kernel_rfl!) (hvT:=by kernel_rfl!) (hnT:=by decide) (hdT:=by kernel_rfl!) (hs1:=by kernel_rfl!) (hs2:=by kernel_rfl!) (hpl:=by kernel_rfl!) | refine VT (T:="tuple") (t:=.tuple) (by intro m h;cases h) (by walk_at "z") (by walk_at "z") ?_ (hg:=show _=_ from by kernel_rfl!) (hgT:=show _=_ from by kernel_rfl!) (hvT:=by kernel_rfl!) (hnT:=by decide) (hdT:=by kernel_rfl!) (hs1:=by kernel_rfl!) (hs2:=by kernel_rfl!) (hpl:=by kernel_rfl!) | refine VT (T:="list") (t:=.list) (by intro m h;cases h) (by walk_at "z") (by walk_at "z") ?_ (hg:=show _=_ from by kernel_rfl!) (hgT:=show _=_ from by kernel_rfl!) (hvT:=by kernel_rfl!) (hnT:=by decide) (hdT:=by kernel_rfl!) (hs1:=by kernel_rfl!) (hs2:=by kernel_rfl!) (hpl:=by kernel_rfl!) | refine J4 (T:="tuple") (U:="list") (t:=.tuple) (u:=.list) (by intro m h;cases h) (by intro m h;cases h) (by walk_at "z") (by walk_at "z") (by walk_at "z") ?_ (hg:=show _=_ from by kernel_rfl!) (hgT:=show _=_ from by kernel_rfl!) (hgU:=show _=_ from by kernel_rfl!) (hvT:=by kernel_rfl!) (hvU:=by kernel_rfl!) (hnT:=by decide) (hdT:=by kernel_rfl!) (hnU:=by decide) (hdU:=by kernel_rfl!) (hs0:=by kernel_rfl!) (hs00:=by kernel_rfl!) (hs1:=by kernel_rfl!) (hs2:=by kernel_rfl!) (hpl:=by kernel_rfl!)
 |(with_reducible show Bx (Sd.CE _ _ _ _ (.mt _ _ _)));first | refine VC ?_ ?_ (hbase:=by kernel_rfl!) (hfew:=by kernel_rfl!) (hline:=by kernel_rfl!) (hs:=by kernel_rfl!) (hplain:=by kernel_rfl!) | refine VO ?_ ?_ (hbase:=by kernel_rfl!) (hfew:=by kernel_rfl!) (hline:=by kernel_rfl!) (hs:=by kernel_rfl!) (hplain:=by kernel_rfl!)
 |(with_reducible show Bx (Sd.CE _ _ _ _ (.comp1 _ _ _ _ _ _)));refine Qt rfl (by assumption) (by walk_at "n") ?_ (λ_ _ _ _=>⟨?_,?_,?_⟩) (hs:=by intro _;kernel_rfl!)
 |(with_reducible show Bx (Sd.CE _ _ _ _ _));refine yt ?_ ?_
 |(with_reducible show Bx (Sd.CO _ _ _ _ _));first | exact JT | refine JP ?_
 |(with_reducible show Bx (Sd.CS _ _ _ _ (.ret _)));refine xg ?_
 |(with_reducible show Bx (Sd.CS _ _ _ _ (.par _ _)));refine yY rfl (by assumption) ?_ (hnm:=by decide) (hi:=by kernel_rfl!) (hj:=by kernel_rfl!) (hx:=by kernel_rfl!) (hy:=by kernel_rfl!) (hw:=by kernel_rfl!) (hs:=by kernel_rfl!)
 |(with_reducible show Bx (Sd.CS _ _ _ _ (.put _ _ _)));refine y6 ?_ ?_ ?_ (ha:=by intro _;kernel_rfl!) (hs:=by kernel_rfl!) (hw:=by kernel_rfl!) (h1:=by kernel_rfl!)
 |(with_reducible show Bx (Sd.CS _ _ _ _ (.asg _ (.comp1 _ _ _ _ _ _))));refine UD rfl (by assumption) (by walk_at "n") ?_ (λ_ _ _ _=>⟨?_,?_,?_⟩) (hsw:=by kernel_rfl!) (hy:=by kernel_rfl!) (hx:=by walk_at "v") (hf:=by first | exact .inl rfl | exact .inr (by kernel_rfl!)) (hs:=by intro _;kernel_rfl!)
 |(with_reducible show Bx (Sd.CS _ _ _ _ (.asg _ (.comp2 _ _ _ _ _ _ _ _ _))));refine VP rfl (by assumption) (by walk_at "n") ?_ (λ_ _ _ _=>⟨?_,?_,?_,?_,?_,?_⟩) (hsw:=by kernel_rfl!) (hy:=by kernel_rfl!) (hx:=by walk_at "v") (hf:=by first | exact .inl rfl | exact .inr (by kernel_rfl!)) (hs:=by intro _;kernel_rfl!) (hs2:=by intro _ _;kernel_rfl!)
 |(with_reducible show Bx (Sd.CS _ _ _ _ (.asg _ _)));refine yU ?_ ?_ (hs:=by kernel_rfl!) (hw:=by kernel_rfl!) (h1:=by kernel_rfl!)
 |(with_reducible show Bx (Sd.CS _ _ _ _ (.ex _)));refine JZ ?_ (hs:=by kernel_rfl!)
 |(with_reducible show Bx (Sd.CS _ _ _ _ (.ite _ _ _)));refine uF ?_ ?_ ?_
 |(with_reducible show Bx (Sd.CS _ _ _ _ (.forr _ _ _)));refine yo PassesOwn.never rfl ?_ ?_ ?_ (hs:=by intro _;kernel_rfl!)
 |(with_reducible show Bx (Sd.CS _ _ _ _ (.whl _ _)));refine Qm PassesOwn.never ?_ ?_
 |(with_reducible show Bx (Sd.CS _ _ _ _ (.aug _ _ _)));first | refine JU (op:=.Add) uT (by assumption) ?_ (hi:=by kernel_rfl!) (hx:=by walk_at "v") (hf:=by first | exact .inl rfl | exact .inr (by kernel_rfl!)) | refine JU (op:=.Mult) qM (by assumption) ?_ (hi:=by kernel_rfl!) (hx:=by walk_at "v") (hf:=by first | exact .inl rfl | exact .inr (by kernel_rfl!))
 |(with_reducible show Bx (Sd.CS _ _ _ _ _));exact UV
 |(with_reducible show Bx (Sd.CT _ _ _ _ (.not _)));refine y9 ?_
 |(with_reducible show Bx (Sd.CT _ _ _ _ (.cmp .eq _ _)));refine YN (op:=.Eq) (o:=.eq) (qv (by assumption)) ?_ ?_ (hm:=by first | exact nomark _ | kernel_rfl!)
 |(with_reducible show Bx (Sd.CT _ _ _ _ (.cmp .ne _ _)));refine YN (op:=.NotEq) (o:=.ne) (qi (by assumption)) ?_ ?_ (hm:=by first | exact nomark _ | kernel_rfl!)
 |(with_reducible show Bx (Sd.CT _ _ _ _ (.cmp .lt _ _)));refine YN (op:=.Lt) (o:=.lt) (wm (by assumption)) ?_ ?_ (hm:=by first | exact nomark _ | kernel_rfl!)
 |(with_reducible show Bx (Sd.CT _ _ _ _ (.cmp .le _ _)));refine YN (op:=.LtE) (o:=.le) (QK (by assumption)) ?_ ?_ (hm:=by first | exact nomark _ | kernel_rfl!)
 |(with_reducible show Bx (Sd.CT _ _ _ _ (.cmp .gt _ _)));refine YN (op:=.Gt) (o:=.gt) (uX (by assumption)) ?_ ?_ (hm:=by first | exact nomark _ | kernel_rfl!)
 |(with_reducible show Bx (Sd.CT _ _ _ _ (.cmp .ge _ _)));refine YN (op:=.GtE) (o:=.ge) (qG (by assumption)) ?_ ?_ (hm:=by first | exact nomark _ | kernel_rfl!)
 |(with_reducible show Bx (Sd.CT _ _ _ _ (.cmp .is _ _)));refine YN (op:=.Is) (o:=.is) (ui (by assumption)) ?_ ?_ (hm:=by first | exact nomark _ | kernel_rfl!)
 |(with_reducible show Bx (Sd.CT _ _ _ _ (.cmp .isn _ _)));refine YN (op:=.IsNot) (o:=.isn) (yr (by assumption)) ?_ ?_ (hm:=by first | exact nomark _ | kernel_rfl!)
 |(with_reducible show Bx (Sd.CT _ _ _ _ (.cmp .inn _ _)));refine YN (op:=.In) (o:=.inn) (uQ (by assumption)) ?_ ?_ (hm:=by first | exact nomark _ | kernel_rfl!)
 |(with_reducible show Bx (Sd.CT _ _ _ _ (.cmp .nin _ _)));refine YN (op:=.NotIn) (o:=.nin) (yp (by assumption)) ?_ ?_ (hm:=by first | exact nomark _ | kernel_rfl!)
 |(with_reducible show Bx (Sd.CT _ _ _ _ (.and _ _)));refine uM (JX ?_ ?_)
 |(with_reducible show Bx (Sd.CT _ _ _ _ (.or _ _)));refine uM (xF ?_ ?_)
 |(with_reducible show Bx (Sd.CT _ _ _ _ _));refine ya ?_ (he:=by intro _;kernel_rfl!)
 |(with_reducible show Bx (Sd.CWh _ _ _ _ _));first | refine JX ?_ ?_ | refine JL ?_ | refine xF ?_ ?_ | refine yc ?_
 |(with_reducible show Bx (Sd.CTs _ _ _ _ _));first | exact J3 | refine Gf ?_
 |(with_reducible show Bx (Sd.CW _ _ _ _ _ _));first | refine JQ (by walk_at "z") ?_ (hg:=show _=_ from by kernel_rfl!) (hs:=by kernel_rfl!) | refine Ga (by walk_at "z") ?_ (hg:=show _=_ from by kernel_rfl!) (hs:=by kernel_rfl!) (hs2:=by kernel_rfl!) | refine J0 (by walk_at "z") (by walk_at "z") ?_ (hgr:=show _=_ from by kernel_rfl!) (hg:=show _=_ from by kernel_rfl!) (hs:=by kernel_rfl!) (hs2:=by kernel_rfl!) | refine ye (by walk_at "z") ?_ (hg:=show _=_ from by kernel_rfl!) (hs:=by kernel_rfl!) (hs2:=by kernel_rfl!) | refine JY (by walk_at "z") ?_ (hg:=show _=_ from by kernel_rfl!) (hs:=by kernel_rfl!) | refine uf ?_
 |(with_reducible show Bx (Sd.CG _ _ _));first | exact JS (by first | assumption | exact Pq (by kernel_rfl!)) (hi:=by kernel_rfl!) (hx:=by walk_at "v") (hf:=by first | exact .inl rfl | exact .inr (by kernel_rfl!)) | refine xm rfl ?_ (hn:=by kernel_rfl!) (hst:=by kernel_rfl!)
 |(with_reducible show Bx (Sd.CGs _ _ _));first | exact Gv | refine Qi (by first | assumption | exact Pq (by kernel_rfl!)) ?_ (hi:=by kernel_rfl!) (hx:=by walk_at "v") (hf:=by first | exact .inl rfl | exact .inr (by kernel_rfl!)) (hs:=by kernel_rfl!)))
end K85
namespace PySem.W.Fast
def tw17834655439157263115:=0
def tw10692453008750282847:=0
def tw13034483036768261150:=0
def tw12549037848242333306:=0
def tw15138605061973534812:=0
def tw385212797858910158:=0
def tw12141334187701830305:=0
def tw5314330705403486549:=0
def tw2825637443976412132:=0
def tw9467459604021940666:=0
def tw11045407552971089876:=0
def tw12276969929931355304:=0
def tw5030693903547152217:=0
def tw4721904256486171391:=0
def tw1144475420655482728:=0
def tw12785363253287117130:=0
def tw9343744606320982729:=0
def tw16476064138086977134:=0
def tw9270373955844489313:=0
def tw12803048354659460735:=0
def tw9483079550853030965:=0
def tw5816530364289268107:=0
def tw12726737168268947741:=0
def tw9863347170425234788:=0
def tw6584901399862729213:=0
def tw13731999124392638849:=0
def tw5082698168598659553:=0
def tw7659542200454370007:=0
def tw10358065531090702831:=0
def tw17176656980963483433:=0
def tw8400447856813774882:=0
def tw4325922808745865836:=0
def tw5427693198857022784:=0
def tw16562465264164930807:=0
def tw12953178559214458297:=0
def tw16270183617532934269:=0
def tw572725987676449068:=0
def tw7510868681963990964:=0
def tw12640681335793551067:=0
def tw7987977233715084354:=0
def tw10548793486282741540:=0
def tw8949775589574090178:=0
def tw14215668084764789056:=0
def tw16341432673496905868:=0
def tw7804773600024257854:=0
def tw17189080186823641677:=0
def tw1158769669984039953:=0
def tw7722176069805649800:=0
def tw1209977204393819116:=0
def tw11775975138254551328:=0
def tw14075315338998457807:=0
def tw1377809579925959979:=0
def tw9756014224914666416:=0
def tw7841887524392061322:=0
def tw186054866374667149:=0
def tw13538853427585513783:=0
def tw9701262112822036273:=0
def tw2362731184156144056:=0
def tw6091534119424241924:=0
def tw4721244142281641290:=0
def tw15773626664295048701:=0
def tw15627657576441025616:=0
def tw18206212955207402761:=0
def tw1346740040822357022:=0
def tw17742990974765212634:=0
def tw3572496475341722264:=0
def tw7950546000324728926:=0
def tw10241809220251936094:=0
def tw8115248452544311235:=0
def tw14880413262793995506:=0
def tw1927038374799456126:=0
def tw4466094076231188385:=0
def tw10485225542647473322:=0
def tw748409424856577730:=0
def tw3537255411866474468:=0
def tw10700742850928322565:=0
def tw3351012239029240452:=0
def tw1551768562999637866:=0
def tw3162460215318801619:=0
def tw1181730874667921944:=0
def tw4529074450296157583:=0
def tw1807218177254889171:=0
def tw567689197090782724:=0
def tw7711591802988180602:=0
def tw1923818201438160267:=0
def tw9745591647489416772:=0
def tw8126614587589947469:=0
def tw14049631805628468713:=0
def tw10977319252048265989:=0
def tw11977793719057931947:=0
def tw15388937535748536540:=0
def tw18245999962406930384:=0
def tw1772429897365211542:=0
def tw5888516292641495427:=0
def tw7665850650909271604:=0
def tw1490500083956869648:=0
def tw14653865631091673659:=0
def tw17690378235461296944:=0
def tw15985865105924457376:=0
def tw12626408189094566860:=0
def tw13708387928878122424:=0
def tw14372165916182619883:=0
def tw11154510258077915612:=0
def tw2592176000699736177:=0
def tw3547793602573078588:=0
def tw8484997763201898868:=0
def tw6159189022417253214:=0
def tw12509109367107032262:=0
def tw18322373947538018834:=0
def tw629596129684466816:=0
def tw726241987888029574:=0
def tw823554949084472056:=0
def tw7632207516519491259:=0
def tw1236615981845889968:=0
def tw6847009648732708810:=0
def tw13179852213957302395:=0
def tw4439634244820655814:=0
def tw15531788738168670670:=0
def tw1938661338972856476:=0
def tw5229625459920596435:=0
def tw5214722357264173321:=0
def tw5577997627837493219:=0
def tw129620658144749652:=0
def tw18372794083721821024:=0
def tw16612255674112596265:=0
def tw13066415624719694716:=0
def tw17463676338428104817:=0
def tw12975450417341195314:=0
def tw5974755733869081139:=0
def tw8856466539342930761:=0
def tw16618420939118491591:=0
def tw18101250926440056655:=0
def tw7353443237593023331:=0
def tw16194701627217694145:=0
def tw16414245391395908111:=0
def tw1016012837819758468:=0
def tw2543847352189237019:=0
def tw4309246735711940292:=0
def tw10334261413974309851:=0
def tw17857699687880812534:=0
def tw15215849874915275908:=0
def tw5791214614359922025:=0
def tw9653390306409477674:=0
def tw9442451416038395974:=0
def tw2217002234795320662:=0
def tw18279160677336934426:=0
def tw15782740705443603247:=0
def tw697444313958520884:=0
def tw11559320150857825898:=0
def tw17071979276345769243:=0
def tw17888699783329175082:=0
def tw1864050346028511086:=0
def tw459380797665581571:=0
def tw6816254799073330206:=0
def tw12438643345419752069:=0
def tw4504913030505073666:=0
def tw8413244917473600165:=0
def tw12768932424792747464:=0
end PySem.W.Fast
open PySem PySem.W PyProof.Rows Gn
set_option maxRecDepth 100000 in
set_option maxHeartbeats 0 in
theorem PySem.Challenge.cw_fewspaces_k85_whole_lots_apart_holds : PySem.Challenge.rw_fewspaces_k85_whole_lots_apart.Holds := by
  w_on; o_law; k_head; (case hw => w_witness2)
  k_fill
  refine Gn.walk (l := PySem.Challenge.rw_fewspaces_k85_whole_lots_apart) (F := K85.fns) (L := 46) (fun ns => K85.law_ok (ns := ns) (S := [.scr ns]) 53 rfl) rfl rfl (fun w h Y => PySem.W.kIn_of Y) ?F
  case F =>
    intro w mg fa h KX G hmg;refine' Gn.Zcn (fs := K85.fs) (zs := K85.zs) (gs := K85.gs) KX G hmg rfl K85.okl ?A ?Z ?Y
    case A => repeat' (first | exact FnsAt.nil | refine' FnsAt.cons ?h1 ?h2 ?h3 ?h4 ?h5 ?_; (case h1 => k_is); (case h2 => k_is); (case h3 => k_is); (case h4 => k_is); (case h5 => first | exact bd1 fun _ _ _ _ _ _ _ => rfl | exact bd2 fun _ _ _ _ _ _ _ _ => rfl | exact bd3 fun _ _ _ _ _ _ _ _ _ => rfl | exact bd4 fun _ _ _ _ _ _ _ _ _ _ => rfl | exact bd5 fun _ _ _ _ _ _ _ _ _ _ _ => rfl | exact bd6 fun _ _ _ _ _ _ _ _ _ _ _ _ => rfl))
    case Z => repeat' (first | exact ZsAt.nil | refine' ZsAt.cons ?h1 ?_; (case h1 => k_is))
    case Y => repeat' (first | exact GsAt.nil | refine' GsAt.cons ?h1 ?_; (case h1 => k_is))
