import PyProof.Rows.All
import Wide.All
import OpenK.AllK
import Wide.FinOn
import Lean
import PyProof.EqAt
import PyProof.EqKinds
import PyProof.TupleCall
import PySem.Str
import PyProof.ListMulAny
import PyProof.NeKinds
import PyProof.ConsumeWalk
import PyProof.CompFree
import PyProof.ZipIter
import PyProof.Draws
import PyProof.EnumMake
import PyProof.SumWalk
import KE.KSortTup
import PyProof.Rows.SortRev
import KE.KRevIter
import PyProof.FactsAll.range_2
import PyProof.ListRange
import PyProof.TupleOfSeq
import PyProof.TupleOfGen
import PyProof.CallType
import PyProof.FactsAll.tuple
import PySem.Challenge.RW_fewspaces_k65_whole_chains_between_and_m
set_option Elab.async false
set_option linter.all false
set_option compiler.extract_closed false
set_option maxRecDepth 100000
set_option maxHeartbeats 0
abbrev Pa:=@PySem.wpAny_bind
abbrev Pb:=@Option.some.inj
abbrev Pc:=@List.mem_cons_of_mem
abbrev Pd:=@List.getElem?_eq_getElem
abbrev Pe:=@List.mem_cons_self
abbrev Pf:=@PySem.Heap.get?_push_of_some
abbrev Pg:=@List.size_toArray
abbrev Ph:=@if_pos
abbrev Pi:=@PySem.wpAny_pure
abbrev Pj:=@if_neg
abbrev Pk:=@Nat.le_refl
abbrev Pl:=@List.length_map
abbrev Po:=@List.mem_cons
abbrev Pp:=@Bool.and_eq_true
abbrev Pq:=@PySem.Heap.get?_push_size
abbrev Pr:=@List.getElem?_eq_some_iff
abbrev Pu:=@List.getD_eq_getElem?_getD
abbrev Pw:=@List.all_eq_true
abbrev Px:=@Bool.false_ne_true
abbrev Py:=@List.mem_map
abbrev Pz:=@PySem.Heap.lt_size
abbrev PB:=@List.getElem?_append_left
abbrev PC:=@List.length_cons
abbrev PD:=@List.length_append
abbrev PF:=@of_decide_eq_true
abbrev PH:=@List.mem_range
abbrev PJ:=@decide_eq_true
abbrev PK:=@List.getElem?_set_ne
abbrev PL:=@List.mem_singleton
abbrev PM:=@List.getElem?_map
abbrev PN:=@Nat.lt_of_lt_of_le
abbrev PP:=@List.map_cons
abbrev PQ:=@List.getElem?_append_right
abbrev PU:=@List.length_range
abbrev PV:=@PySem.wpAny_newObj_type
abbrev PX:=@decide_eq_false
abbrev PY:=@List.pairwise_cons
abbrev PZ:=@PyProof.Rows.callWith_type1
abbrev P0:=@List.length_set
abbrev P1:=@List.length_singleton
abbrev P2:=@Nat.lt_irrefl
abbrev P3:=@Nat.ne_of_lt
abbrev P4:=@Nat.le_trans
abbrev P5:=@List.replicate_succ
abbrev P6:=@PySem.wpAny_field
abbrev P7:=@List.map_map
abbrev P8:=@List.mem_append_right
abbrev P9:=@List.lookup_cons
abbrev Na:=@List.mem_filter
abbrev Nc:=@List.mem_append_left
abbrev Nd:=@List.mem_append
abbrev Nf:=@Bool.eq_iff_iff
abbrev Ng:=@List.flatten_cons
abbrev Nh:=@PySem.wpAny_callSpecial?_slot
abbrev Ni:=@List.not_mem_nil
abbrev Nj:=@PyProof.Rows.slot_tuple_getitem
abbrev Nk:=@PySem.wpAny_of_eq
abbrev Nl:=@List.contains_iff_mem
abbrev Nm:=@List.getElem?_replicate
abbrev Nn:=@PySem.wpAny_holding
abbrev No:=@List.getElem?_set_self
abbrev Np:=@Bool.false_eq_true
abbrev Nq:=@List.map_append
abbrev Nr:=@List.length_drop
abbrev Nt:=@PySem.wpAny_call_entry
abbrev Nu:=@List.length_replicate
abbrev Nv:=@PySem.wpAny_mono
abbrev Nw:=@PySem.W.kia_one
abbrev Nx:=@PySem.W.kia_tup
abbrev Ny:=@List.getElem_mem
abbrev Nz:=@decide_eq_true_eq
abbrev NA:=@List.length_take
abbrev NB:=@List.length_eq_zero_iff
abbrev NC:=@PySem.wpAny_truthy_bool
abbrev ND:=@if_false
abbrev NE:=@List.reverse_cons
abbrev NF:=@List.getElem?_set
abbrev NG:=@Array.length_toList
abbrev NH:=@List.getElem_of_mem
abbrev NI:=@List.map_congr_left
abbrev NJ:=@PySem.sizeLine_eq
abbrev NK:=@List.length_zip
abbrev NL:=@List.drop_eq_getElem_cons
abbrev NM:=@List.length_filter_le
abbrev NO:=@PySem.AutoSeq1.wpAny_loadPart'
abbrev NP:=@Option.isSome_iff_exists
abbrev NQ:=@List.pairwise_map
abbrev NR:=@beq_eq_false_iff_ne
abbrev NS:=@PySem.wpAny_standAt
abbrev NT:=@beq_self_eq_true
abbrev NU:=@List.mem_flatMap
abbrev NV:=@PySem.F.slot_tuple_iterator_next
abbrev NW:=@PySem.wpAny_seqItems
abbrev NX:=@PySem.wpAny_setField_rec
abbrev NY:=@Array.perm_iff_toList_perm
abbrev NZ:=@List.Perm.refl
abbrev N1:=@List.zip_cons_cons
abbrev N2:=@Int.emod_lt_of_pos
abbrev N3:=@if_true
abbrev N4:=@Array.getElem?_toList
abbrev N5:=@List.pairwise_iff_getElem
abbrev N6:=@PySem.wpAny_passesOwn
abbrev N7:=@List.append_nil
abbrev N8:=@List.nodup_cons
abbrev N9:=@List.mem_of_getElem?
abbrev Ka:=@Nat.zero_le
abbrev Kb:=@PySem.mem_of_lookup
abbrev Kc:=@List.getElem?_range
abbrev Kd:=@PySem.Heap.size_push
abbrev Ke:=@Nat.le_add_right
abbrev Kf:=@List.pairwise_singleton
abbrev Kg:=@PySem.wpAny_rule
abbrev Kh:=@List.of_mem_zip
abbrev Ki:=@or_false
abbrev Kj:=@Int.emod_nonneg
abbrev Kk:=@List.getElem?_reverse
abbrev Kl:=@Nat.lt_succ_of_lt
abbrev Km:=@Nat.pow_le_pow_right
abbrev Kn:=@List.Pairwise.filter
abbrev Ko:=@List.map_reverse
abbrev Kp:=@List.filter_cons
abbrev Kq:=@List.getLast?_eq_some_iff
abbrev Kr:=@PySem.F.args_tuple_add_2
abbrev Ks:=@PySem.AutoSeq1.sub_tuple_tuple
abbrev Kt:=@PySem.AutoSeq1.wpAny_loadPart'
abbrev Ku:=@PySem.W.kat_len
abbrev Kv:=@PySem.wpAny_Call_Name_kw
abbrev Kw:=@PySem.call_meets
abbrev Kx:=@List.contains_cons
abbrev Ky:=@PySem.wpAny_pyIter_tuple
abbrev Kz:=@PyProof.Rows.IsTup.new
abbrev KA:=@PySem.F.entry_tuple_add
abbrev KB:=@PySem.wpAny_pyIter_rangeiter
abbrev KC:=@PySem.W.kitx_list
abbrev KD:=@PySem.W.kitx_dict
abbrev KE:=@PySem.F.slot_tuple_add
abbrev KF:=@PySem.wpAny_pyIter_list
abbrev KG:=@List.take_of_length_le
abbrev KH:=@PySem.Heap.get?_push_ne
abbrev KI:=@Int.emod_eq_of_lt
abbrev KJ:=@List.getElem?_eq_none
abbrev KL:=@Nat.le_of_not_lt
abbrev KM:=@List.nodup_range
abbrev KN:=@List.isEmpty_toArray
abbrev KO:=@PySem.wpAny_updateSeq_pair
abbrev KP:=@PySem.F.slot_int_rmul
abbrev KQ:=@PySem.F.slot_zip_next
abbrev KU:=@List.filterMap_cons
abbrev KW:=@List.drop_zero
abbrev KY:=@List.map_replicate
abbrev KZ:=@List.ext_getElem
abbrev K0:=@decide_eq_decide
abbrev K1:=@List.map_nil
abbrev K2:=@List.all_map
namespace L2
open PySem PySem.Spec PyProof.Rows
noncomputable abbrev Key:=Sum Int Str
noncomputable def Zbs:Key->Value->Bool
 |.inl k,v=>Value.isInt k v
 |.inr x,v=>Value.isStrOf x v
noncomputable def Zd0 (w:World):Key->Int
 |.inl k=>hashInt k
 |.inr x=>hashStr w x
theorem ZW:∀{k:Key}{v:Value},Zbs k v=true->(∃i t,k=Sum.inl i/\v=Value.int i t)\/(∃x t,k=Sum.inr x/\v=Value.str x t)
 |.inl i,v,h=>by
  obtain⟨t,e⟩:=Value.isInt_shape (k:=i) (v:=v) h;exact .inl ⟨i,t,rfl,e⟩
 |.inr x,v,h=>by
  obtain⟨t,e⟩:=Value.isStrOf_shape (x:=x) (v:=v) h;exact .inr ⟨x,t,rfl,e⟩
theorem ZbV (a b:Int):decide ((Sum.inl a:Key)=Sum.inl b)=(a == b):=by
 by_cases e:a=b
 ·subst e;simp
 ·have h:¬(Sum.inl a:Key)=Sum.inl b:=λq=>e (Sum.inl.inj q)
  rw[PX h];exact (NR.mpr e).symm
theorem Zb7 (a b:Str):decide ((Sum.inr a:Key)=Sum.inr b)=decide (a=b):=by
 by_cases e:a=b
 ·subst e;simp
 ·have h:¬(Sum.inr a:Key)=Sum.inr b:=λq=>e (Sum.inr.inj q)
  rw[PX h,PX e]
theorem Zb9 (a:Int) (b:Str):decide ((Sum.inl a:Key)=Sum.inr b)=false:=PX (λq=>nomatch q)
theorem ZcF (a:Str) (b:Int):decide ((Sum.inr a:Key)=Sum.inl b)=false:=PX (λq=>nomatch q)
noncomputable def GK (prog:Program) (w:World):PySem.KeyKind prog w Key where
 is:=Zbs
 hash:=Zd0 w
 inj:=λv a b ha hb=>by
  rcases ZW ha with ⟨i,t,rfl,rfl⟩ | ⟨x,t,rfl,rfl⟩
  ·rcases ZW hb with ⟨j,u,rfl,e⟩ | ⟨y,u,rfl,e⟩
   ·injection e with e1 _;rw[e1]
   ·exact nomatch e
  ·rcases ZW hb with ⟨j,u,rfl,e⟩ | ⟨y,u,rfl,e⟩
   ·exact nomatch e
   ·injection e with e1 _;rw[e1]
 byValue:=λk v h=>by
  rcases ZW h with ⟨i,t,rfl,rfl⟩ | ⟨x,t,rfl,rfl⟩ <;> rfl
 pyHash:=λhv h=>by
  rcases ZW hv with ⟨i,t,rfl,rfl⟩ | ⟨x,t,rfl,rfl⟩
  ·exact wpAny_pyHash_int h
  ·exact wpAny_pyHash_str h
 eqBool:=λhu hv h=>by
  rcases ZW hu with ⟨i,t,rfl,rfl⟩ | ⟨x,t,rfl,rfl⟩
  ·rcases ZW hv with ⟨j,u,rfl,rfl⟩ | ⟨y,u,rfl,rfl⟩
   ·rw[ZbV] at h;exact wpAny_eqBool_int h
   ·rw[Zb9] at h;exact SeqAt.EqAt.int_str i t y u _ _ _ _ h
  ·rcases ZW hv with ⟨j,u,rfl,rfl⟩ | ⟨y,u,rfl,rfl⟩
   ·rw[ZcF] at h;exact SeqAt.EqAt.str_int x t j u _ _ _ _ h
   ·rw[Zb7] at h;exact wpAny_eqBool_str h
 «strs»:=λk x t v h=>by
  rcases ZW h with ⟨i,u,rfl,e⟩ | ⟨y,u,rfl,e⟩
  ·exact nomatch e
  ·injection e with e1 _
   subst e1;cases v <;> rfl
inductive V where
 |non | bl (b:Bool) | int (i:Int) | str (x:Str) | byt (b:Array UInt8) | flt (b:UInt64) | ref (a:Addr) | ty (n:String)
 deriving DecidableEq
def ZI:V->Value->Prop
 |.non,u=>u=Value.none
 |.bl b,u=>u=Value.bool b
 |.int i,u=>∃t,u=Value.int i t
 |.str x,u=>∃t,u=Value.str x t
 |.byt b,u=>∃t,u=Value.bytes b t
 |.flt b,u=>∃t,u=Value.float b t
 |.ref a,u=>u=Value.ref a
 |.ty n,u=>u=Value.type n
noncomputable abbrev Vals:List V->List Value->Prop:=Paired ZI
theorem Vals.length {xs:List V}{us:List Value}(r:Vals xs us):xs.length=us.length:=Paired.length r
theorem Vals.get:∀{xs:List V}{us:List Value}{i:Nat}{x:V},Vals xs us->xs[i]? = some x->∃u,us[i]? = some u/\ZI x u
 |_,_,_,_,.nil,e=>by simp at e
 |_,_,0,_,.cons r _,e=>by simp at e;subst e;exact⟨_,rfl,r⟩
 |_,_,i+1,x,.cons _ t,e=>by
  obtain⟨u,h1,h2⟩:=Vals.get (i:=i) (x:=x) t (by simpa using e)
  exact⟨u,by simpa using h1,h2⟩
theorem Vals.set {x:V}{u:Value}(r:ZI x u):∀{xs:List V}{us:List Value}(i:Nat),Vals xs us->Vals (xs.set i x) (us.set i u)
 |_,_,_,.nil=>.nil
 |_,_,0,.cons _ t=>.cons r t
 |_,_,i+1,.cons q t=>.cons q (Vals.set r i t)
theorem Vals.append:∀{xs ys:List V}{us ws:List Value},Vals xs us->Vals ys ws->Vals (xs++ys) (us++ws)
 |_,_,_,_,.nil,s=>s
 |_,_,_,_,.cons r t,s=>.cons r (Vals.append t s)
theorem Vals.take:∀{xs:List V}{us:List Value}(n:Nat),Vals xs us->Vals (xs.take n) (us.take n)
 |_,_,0,_=>.nil
 |_,_,_+1,.nil=>.nil
 |_,_,n+1,.cons r t=>.cons r (Vals.take n t)
theorem Vals.drop:∀{xs:List V}{us:List Value}(n:Nat),Vals xs us->Vals (xs.drop n) (us.drop n)
 |_,_,0,r=>r
 |_,_,_+1,.nil=>.nil
 |_,_,n+1,.cons _ t=>Vals.drop n t
def ZcH:Option V->Option Value->Prop
 |some v,some u=>ZI v u
 |none,none=>True
 |_,_=>False
noncomputable def KV {κ:Type}:List (κ×V)->List (κ×Value)->Prop:=Paired λ(p:κ×V) (q:κ×Value)=>p.1=q.1/\ZI p.2 q.2
noncomputable def kV:Key->V
 |.inl i=>.int i
 |.inr x=>.str x
inductive HO where
 |lst (xs:List V)
 |tup (xs:List V)
 |dK (kvs:List (Key×V)) | dT (kvs:List (List Key×V))
 |set (S:Int->Bool) (n:Nat)
 |ins (C dx:Addr) (fs:List (Str×V))
 |own (x:Addr)
 |xd (fs:List (Str×V))
 |met (f x:Addr)
 |rng (lo hi:Int)
 |frz (o:Obj) (u:HO)
 |tbl (ps:Array Value)
 |ext (φ:Heap->Prop)
abbrev Hp:=Addr->Option HO
noncomputable def upd (H:Hp) (a:Addr) (o:HO):Hp:=λb=>if b=a then some o else H b
theorem Yh {H:Hp}{a:Addr}{o:HO}:upd H a o a=some o:=by unfold upd;rw[Ph rfl]
theorem ZE {H:Hp}{a b:Addr}{o:HO}(h:b≠a):upd H a o b=H b:=by unfold upd;rw[Pj h]
theorem ZC {H:Hp}{a b:Addr}{o:HO}(h:H a=some o) (h':H b=none):a≠b:=by
 intro e;subst e;rw[h] at h';cases h'
section
variable (P:Program) (w:World)
def Z2 (H:Hp) (h:Heap) (a:Addr):HO->Prop
 |.lst xs=>xs.length<=sizeLine/\∃(its:List Value) (n:Nat),Vals xs its/\h.get? a=some { cls:=.type "list",data:=.seq its.toArray n }
 |.tup xs=>xs.length<=sizeLine/\∃its:List Value,Vals xs its/\IsTup h a its.toArray
 |.dK kvs=>kvs.length<=sizeLine/\(a == sysModules)=false/\∃vs,KV kvs vs/\h.DictOf (GK P w) a vs
 |.dT kvs=>kvs.length<=sizeLine/\(a == sysModules)=false/\∃xs:List (List Key×Addr×Value),
   Paired (λ(p:List Key×V) (q:List Key×Addr×Value)=>p.1=q.1/\H q.2.1=some (.tup (p.1.map kV))/\ZI p.2 q.2.2) kvs xs/\
   ∃o es ep,h.get? a=some o/\o.ExactDict/\o.data=.dict es ep/\es.toList=xs.map (entryOfKey (tupleKind (GK P w)))/\(xs.map (·.1)).Nodup
 |.set S n=>h.SetOf (intKind P w) a S n
 |.ins C dx fs=>H dx=some (.own a)/\fs.length<=1000/\dx≠a/\h.get? a=some (PySem.W.instObj C dx)/\
   ∃mA,h.Ns1 dx mA/\(∀f,ZcH (fs.lookup f) (mA f))/\PySem.Within mA (fs.map (·.1))
 |.own _=>∃o,h.get? a=some o
 |.xd fs=>∃mA,h.Ns1 a mA/\∀f,ZcH (fs.lookup f) (mA f)
 |.rng lo hi=>∃t u v,h.get? a=some { cls:=.type "range",data:=.fields #[.int lo t,.int hi u,.int 1 v] }
 |.frz o u=>h.get? a=some o/\Z2 H h a u
 |.tbl ps=>h.get? a=some { cls:=.none,data:=.fields ps }
 |.met f x=>h.get? a=some (PySem.W.methodObj (.ref f) (.ref x))
 |.ext φ=>φ h/\(∃o,h.get? a=some o)/\∀h1 h2:Heap,φ h1->(∀o,h1.get? a=some o->h2.get? a=some o)->φ h2
def HOk (H:Hp) (h:Heap):Prop:=∀a o,H a=some o->Z2 P w H h a o
end
section
variable {P:Program}{w:World}{H H':Hp}{h h':Heap}{a:Addr}{o:HO}
theorem Z2.lt (x:Z2 P w H h a o):a<h.objs.size:=by
 cases o with
 |lst xs=>obtain⟨_,_,_,_,e⟩:=x;exact Pz e
 |tup xs=>obtain⟨_,_,_,p⟩:=x;exact p.lt
 |dK kvs=>obtain⟨_,_,_,_,o,_,_,e,_⟩:=x;exact Pz e
 |dT kvs=>obtain⟨_,_,_,_,o,_,_,e,_⟩:=x;exact Pz e
 |set S n=>obtain⟨o,_,_,_,e,_⟩:=x;exact Pz e
 |ins C dx fs=>obtain⟨_,_,_,e,_⟩:=x;exact Pz e
 |own y=>obtain⟨_,e⟩:=x;exact Pz e
 |xd fs=>obtain⟨_,⟨_,_,_,e,_⟩,_⟩:=x;exact Pz e
 |rng lo hi=>obtain⟨_,_,_,e⟩:=x;exact Pz e
 |frz ob u=>obtain⟨e,_⟩:=x;exact Pz e
 |tbl ps=>exact Pz (show h.get? a=some _ from x)
 |met f y=>exact Pz (show h.get? a=some _ from x)
 |ext φ=>obtain⟨_,⟨_,e⟩,_⟩:=x;exact Pz e
theorem Paired.mapP {α β:Type}{F G:α->β->Prop}:∀{l₁:List α}{l₂:List β},Paired F l₁ l₂->(∀a b,F a b->G a b)->Paired G l₁ l₂
 |_,_,.nil,_=>.nil
 |_,_,.cons r t,f=>.cons (f _ _ r) (Paired.mapP t f)
theorem Z2.stay (x:Z2 P w H h a o) (k:∀b u,(b=a\/H b=some (.own a))->h.get? b=some u->h'.get? b=some u)
  (ho:∀b,H b=some (.own a)->H' b=some (.own a)) (ht:∀b xs,H b=some (.tup xs)->H' b=some (.tup xs)):Z2 P w H' h' a o:=by
 induction o with
 |lst xs=>obtain⟨z,its,n,r,e⟩:=x;exact⟨z,its,n,r,k _ _ (.inl rfl) e⟩
 |tup xs=>obtain⟨z,its,r,ob,e,c⟩:=x;exact⟨z,its,r,ob,k _ _ (.inl rfl) e,c⟩
 |dK kvs=>obtain⟨z,y,vs,r,ob,es,ep,e,c⟩:=x;exact⟨z,y,vs,r,ob,es,ep,k _ _ (.inl rfl) e,c⟩
 |dT kvs=>
  obtain⟨z,y,xs,r,ob,es,ep,e,c⟩:=x;exact⟨z,y,xs,Paired.mapP r λp q z=>⟨z.1,ht _ _ z.2.1,z.2.2⟩,ob,es,ep,k _ _ (.inl rfl) e,c⟩
 |set S n=>obtain⟨ob,es,ep,t,e,c⟩:=x;exact⟨ob,es,ep,t,k _ _ (.inl rfl) e,c⟩
 |ins C dx fs=>
  obtain⟨d,z,ne,e,mA,⟨od,es,ep,e2,c⟩,r⟩:=x;exact⟨ho _ d,z,ne,k _ _ (.inl rfl) e,mA,⟨od,es,ep,k _ _ (.inr d) e2,c⟩,r⟩
 |own y=>obtain⟨ob,e⟩:=x;exact⟨ob,k _ _ (.inl rfl) e⟩
 |xd fs=>obtain⟨mA,⟨od,es,ep,e,c⟩,r⟩:=x;exact⟨mA,⟨od,es,ep,k _ _ (.inl rfl) e,c⟩,r⟩
 |rng lo hi=>obtain⟨t,u,v,e⟩:=x;exact⟨t,u,v,k _ _ (.inl rfl) e⟩
 |frz ob u ih=>obtain⟨e,q⟩:=x;exact⟨k _ _ (.inl rfl) e,ih q⟩
 |tbl ps=>
  have e:h.get? a=some { cls:=.none,data:=.fields ps }:=x;show h'.get? a=some { cls:=.none,data:=.fields ps };exact k a _ (.inl rfl) e
 |met f y=>
  have e:h.get? a=some (PySem.W.methodObj (.ref f) (.ref y)):=x;show h'.get? a=some (PySem.W.methodObj (.ref f) (.ref y));exact k a _ (.inl rfl) e
 |ext φ=>obtain⟨p,⟨o,e⟩,st⟩:=x;exact⟨st _ _ p λo q=>k _ _ (.inl rfl) q,⟨o,k _ _ (.inl rfl) e⟩,st⟩
theorem HOk.lt (x:HOk P w H h) (e:H a=some o):a<h.objs.size:=(x a o e).lt
theorem HOk.fresh (x:HOk P w H h) (e:h.objs.size<=a):H a=none:=by
 cases q:H a with
 |none=>rfl
 |some u=>exact absurd (PN (x.lt q) e) (P2 _)
theorem HOk.kept (x:HOk P w H h) (k:∀b u,h.get? b=some u->h'.get? b=some u):HOk P w H h':=λa o e=>
 (x a o e).stay (λb u _ q=>k b u q) (λ_ q=>q) λ_ _ q=>q
theorem HOk.laid (x:HOk P w H h) (k:∀b u,h.get? b=some u->h'.get? b=some u) (hp:h.objs.size<=a) (new:Z2 P w (upd H a o) h' a o):HOk P w (upd H a o) h':=λb u e=>by
 have hn:=x.fresh hp;by_cases hb:b=a
 ·subst hb;rw[Yh] at e;cases e;exact new
 ·rw[ZE hb] at e
  exact (x b u e).stay (λc v _ q=>k c v q) (λc q=>by rw[ZE (ZC q hn)];exact q) λc xs q=>by rw[ZE (ZC q hn)];exact q
end
def Rd (H:Hp) (a:Addr) (u:HO):Prop:=H a=some u\/∃o,H a=some (.frz o u)
theorem Rd.ok {P:Program}{w:World}{H:Hp}{h:Heap}{a:Addr}{u:HO}(r:Rd H a u) (x:HOk P w H h):Z2 P w H h a u:=by
 rcases r with r | ⟨o,r⟩
 ·exact x a u r
 ·obtain⟨_,q⟩:=x a _ r
  exact q
def Mut:Option HO->Prop
 |some (.lst _)=>True
 |some (.dK _)=>True
 |some (.dT _)=>True
 |some (.set _ _)=>True
 |some (.ins _ _ _)=>True
 |some (.ext _)=>True
 |_=>False
section
variable {P:Program}{w:World}{H:Hp}{h h':Heap}{x e:Addr}{o':HO}
theorem HOk.write (ok:HOk P w H h) (mu:Mut (H x)) (he:e=x\/H e=some (.own x)) (k:∀b u,b≠e->h.get? b=some u->h'.get? b=some u) (heo:∃u,h'.get? e=some u)
  (new:Z2 P w (upd H x o') h' x o'):HOk P w (upd H x o') h':=λb u q=>by
 have nown:∀c y,H c=some (.own y)->c≠x:=λc y r z=>by subst z;rw[r] at mu;exact mu
 have ntup:∀c xs,H c=some (.tup xs)->c≠x:=λc xs r z=>by subst z;rw[r] at mu;exact mu
 by_cases hb:b=x
 ·subst hb;rw[Yh] at q;cases q;exact new
 ·rw[ZE hb] at q
  by_cases hbe:b=e
  ·have q':H b=some (.own x):=by
    rcases he with z | z
    ·exact absurd (hbe.trans z) hb
    ·rw[hbe];exact z
   rw[q] at q';cases q';obtain⟨v,hv⟩:=heo;exact⟨v,by rw[hbe];exact hv⟩
  ·refine (ok b u q).stay (λc v hc r=>k c v ?_ r) (λc r=>by rw[ZE (nown c b r)];exact r) λc xs r=>by rw[ZE (ntup c xs r)];exact r
   rcases hc with rfl | hc
   ·exact hbe
   ·rintro rfl
    rcases he with z | z
    ·exact nown c b hc z
    ·rw[hc] at z;cases z;exact hb rfl
end
structure Un (fs ex:List Addr) (H H':Hp) (h h':Heap):Prop where
 keep:∀b o,h.get? b=some o->H b=none->b∉fs->b∉ex->h'.get? b=some o
 slot:∀b o,h.get? b=some o->H b=none->b∈fs->b∉ex->∃sl,h'.get? b=some { o with slots:=sl }
 free:∀b o,h.get? b=some o->H b=none->b∉ex->H' b=none
 there:∀b o,h.get? b=some o->b∉ex->∃o',h'.get? b=some o'
 tups:∀b xs,H b=some (.tup xs)->H' b=some (.tup xs)
 frzs:∀b o u,H b=some (.frz o u)->H' b=some (.frz o u)
 tbls:∀b ps,H b=some (.tbl ps)->∃more,H' b=some (.tbl (ps++more))
section
variable {fs fs' ex ex':List Addr}{H H1 H2:Hp}{h h1 h2 h':Heap}{a x e:Addr}{o:HO}
theorem Un.any (u:Un fs ex H H1 h h1) {b:Addr}{ob:Obj}(q:h.get? b=some ob) (n:H b=none) (hx:b∉ex):∃sl,h1.get? b=some { ob with slots:=sl }:=by
 by_cases hb:b∈fs
 ·exact u.slot b ob q n hb hx
 ·exact⟨ob.slots,u.keep b ob q n hb hx⟩
theorem Un.kept (k:∀b u,h.get? b=some u->h'.get? b=some u):Un fs ex H H h h':=
 ⟨λb ob q _ _ _=>k b ob q,λb ob q _ _ _=>⟨ob.slots,k b ob q⟩,λ_ _ _ n _=>n,λb ob q _=>⟨ob,k b ob q⟩,λ_ _ q=>q,λ_ _ _ q=>q,λ_ ps q=>⟨#[],by rw[q];simp⟩⟩
theorem Un.refl:Un fs ex H H h h:=Un.kept λ_ _ q=>q
theorem Un.laid (k:∀b u,h.get? b=some u->h'.get? b=some u) (hp:h.objs.size<=a) (hn:H a=none):Un fs ex H (upd H a o) h h' where
 keep:=λb u q _ _ _=>k b u q
 slot:=λb u q _ _ _=>⟨u.slots,k b u q⟩
 free:=λb u q n _=>by rw[ZE (P3 (PN (Pz q) hp))];exact n
 there:=λb u q _=>⟨u,k b u q⟩
 tups:=λb xs q=>by rw[ZE (ZC q hn)];exact q
 frzs:=λb u xs q=>by rw[ZE (ZC q hn)];exact q
 tbls:=λb ps q=>⟨#[],by rw[ZE (ZC q hn),q];simp⟩
theorem Un.write (mu:Mut (H x)) (he:e=x\/H e=some (.own x)) (k:∀b u,b≠e->h.get? b=some u->h'.get? b=some u) (heo:∃u,h'.get? e=some u):Un fs ex H (upd H x o) h h':=by
 have hx:∀b,H b=none->b≠x:=λb n z=>by subst z;rw[n] at mu;exact mu
 have hb:∀b,H b=none->b≠e:=λb n z=>by
  subst z;rcases he with r | r
  ·exact hx b n r
  ·rw[n] at r;cases r
 have hm:∀b u,H b=some u->¬Mut (some u)->b≠x:=λb u q nm z=>by subst z;rw[q] at mu;exact nm mu
 refine⟨λb u q n _ _=>k b u (hb b n) q,λb u q n _ _=>⟨u.slots,k b u (hb b n) q⟩,λb u q n _=>by rw[ZE (hx b n)];exact n,λb u q _=>?_,
  λb xs q=>by rw[ZE (hm b _ q λz=>z)];exact q,λb u xs q=>by rw[ZE (hm b _ q λz=>z)];exact q,λb ps q=>⟨#[],by rw[ZE (hm b _ q λz=>z),q];simp⟩⟩
 by_cases hbe:b=e
 ·subst hbe;exact heo
 ·exact⟨u,k b u hbe q⟩
end
noncomputable def trk (h:Heap) (H:Hp):List Addr:=(List.range h.objs.size).filter λa=>(H a).isSome
noncomputable def JH (h:Heap) (H:Hp):Heap:=PySem.W.hideAll h (trk h H)
theorem vJ (h:Heap) (H:Hp):(JH h H).objs.size=h.objs.size:=PySem.W.hideAll_size _ _
theorem v7 {h:Heap}{H:Hp}{b:Addr}{o:Obj}(e:h.get? b=some o) (n:H b=none):(JH h H).get? b=some o:=
 PySem.W.hideAll_get _ e λhm=>by
  have q:(H b).isSome=true:=(Na.mp hm).2;rw[n] at q;simp at q
theorem Zbe {h:Heap}{H:Hp}{b:Addr}{o:Obj}(e:(JH h H).get? b=some o):h.get? b=some o/\H b=none:=by
 have e':h.get? b=some o:=PySem.W.of_hideAll (trk h H) e;refine⟨e',?_⟩;cases q:H b with
 |none=>rfl
 |some x=>
  have hm:b∈trk h H:=Na.mpr ⟨PH.mpr (Pz e'),by simp[q]⟩
  have z:(JH h H).get? b=none:=PySem.W.hideAll_none (trk h H) hm;rw[z] at e;cases e
structure Mod (K:PySem.W.Frag) (mg:Str->Option Value) (base:Heap):Prop where
 kin:K.In base
 glob:base.Ns mainGlobals mg
 blt:∃mb,base.Ns builtinsNs mb/\∀x:Str,x≠"__name__"->mb x=bootBuiltins x
 nolimit:base.NoLimit
structure Cx where
 prog:Program
 w:World
 K:PySem.W.Frag
 mg:Str->Option Value
 base:Heap
 A:Around
 N:List Str
 s₀:Shared
 H₀:Hp
 env:Env
 outer:List Env
 stack:List Env
 ex:List Addr
 fn:Str->Bool
 calm:Bool
 pn:List (Addr×Obj)
 xe:Value->Shared->Prop
noncomputable def frs (l:List Env):List Addr:=l.filterMap (·.frame)
noncomputable abbrev Cx.fs (X:Cx):List Addr:=frs X.outer
def Vis (sc:Scope) (x:Str):Prop:=sc.names.lookup x=some .local\/sc.names.lookup x=some .cell\/sc.names.lookup x=some .free
def Loc (sc:Scope) (x:Str):Prop:=sc.names.lookup x=some .local\/sc.names.lookup x=some .cell
def Look (env:Env) (h:Heap) (m:Str->Option Value) (x:Str) (u:Value):Prop:=
 (env.kindOf x=some .local/\m x=some u)\/((env.kindOf x=some .cell\/env.kindOf x=some .free)/\∃c,env.cells.lookup x=some c/\h.IsCell c (some u))
structure Cx.Ok (X:Cx):Prop where
 mod:Mod X.K X.mg X.base
 kind:X.env.scope.kind=.function
 glob:X.env.globals=mainGlobals
 blt:X.env.builtins=builtinsNs
 above:X.s₀.heap.objs.size<=X.env.locals
 inj:∀x y c,X.env.cells.lookup x=some c->X.env.cells.lookup y=some c->x=y
 has:∀x,(X.env.kindOf x=some .cell\/X.env.kindOf x=some .free)->∃c,X.env.cells.lookup x=some c
 cab:∀x c,X.fn x=true->X.env.cells.lookup x=some c->X.s₀.heap.objs.size<=c
 hd:X.calm=true->X.A.handled=none
 frames:X.A.frames=some X.stack
 stk:X.stack=X.outer\/(X.stack=X.env::X.outer/\X.env.frame=some X.env.locals)
 exf:∀b∈X.ex,b≠X.env.locals/\∀x c,X.env.cells.lookup x=some c->c≠b
 bs:∀b o,X.base.get? b=some o->X.s₀.heap.get? b=some o/\X.H₀ b=none
 bsz:X.base.objs.size<=X.s₀.heap.objs.size
 noex:∀b o,X.base.get? b=some o->b∉X.ex
 exfs:∀b∈X.ex,b∉X.fs
 funs:X.s₀.heap.FunFrames X.base X.outer
 frf:∀b∈X.fs,X.H₀ b=none
structure Inv (X:Cx) (pq:List (Addr×Obj)) (σ:List (Option V)) (H:Hp) (s:Shared):Prop where
 ok:X.Ok
 os:s.os=X.s₀.os
 bare:AllBare s.gens
 base:Un X.fs X.ex X.H₀ H X.s₀.heap s.heap
 loc:∃m,s.heap.Ns X.env.locals m/\∀(i:Nat) (x:Str) (v:V),X.N[i]? = some x->σ[i]? = some (some v)->Vis X.env.scope x->∃u,ZI v u/\Look X.env s.heap m x u
 cell:∀x c,X.env.cells.lookup x=some c->∃v,s.heap.IsCell c v
 free:H X.env.locals=none
 freeC:∀x c,X.env.cells.lookup x=some c->H c=none
 pin:∀p∈X.pn++pq,s.heap.get? p.1=some p.2/\H p.1=none/\p.1≠X.env.locals/\p.1∉X.fs/\∀v,p.2.data≠.cell v
 hok:HOk X.prog X.w H s.heap
 len:σ.length=X.N.length
section
variable {X:Cx}{pq:List (Addr×Obj)}{σ:List (Option V)}{H H':Hp}{s:Shared}{h':Heap}
theorem Cx.Ok.nofr (ok:X.Ok) {b:Addr}{o:Obj}(e:X.base.get? b=some o):b∉X.fs:=λhb=>by
 have:=(ok.funs.mem hb).1;rw[e] at this;cases this
theorem Inv.bs (I:Inv X pq σ H s):∀b o,X.base.get? b=some o->s.heap.get? b=some o/\H b=none:=λb o e=>
 ⟨I.base.keep b o (I.ok.bs b o e).1 (I.ok.bs b o e).2 (I.ok.nofr e) (I.ok.noex b o e),I.base.free b o (I.ok.bs b o e).1 (I.ok.bs b o e).2 (I.ok.noex b o e)⟩
theorem Inv.bk (I:Inv X pq σ H s):∀b o,X.base.get? b=some o->s.heap.get? b=some o:=λb o e=>(I.bs b o e).1
theorem Inv.mod (I:Inv X pq σ H s):Mod X.K X.mg X.base:=I.ok.mod
theorem Inv.kIn (I:Inv X pq σ H s):X.K.In s.heap:=I.ok.mod.kin.keeps I.bk
theorem Inv.lt (I:Inv X pq σ H s):X.env.locals<s.heap.objs.size:=let ⟨_,hn,_⟩:=I.loc;hn.lt
theorem Inv.sz (I:Inv X pq σ H s):X.s₀.heap.objs.size<=s.heap.objs.size:=P4 I.ok.above (Nat.le_of_lt I.lt)
theorem Inv.nofs (I:Inv X pq σ H s) {a:Addr}(h:s.heap.objs.size<=a):a∉X.fs:=λhb=>by
 obtain⟨_,o,ho,_⟩:=I.ok.funs.mem hb;exact absurd (PN (Pz ho) (P4 I.sz h)) (P2 _)
theorem Inv.cne (I:Inv X pq σ H s):∀x c,X.env.cells.lookup x=some c->c≠X.env.locals:=λx c e z=>by
 obtain⟨v,o,ho,hd⟩:=I.cell x c e;obtain⟨m,⟨o',es,ep,ho',hd',_⟩,_⟩:=I.loc;rw[z,ho'] at ho;cases ho;rw[hd'] at hd;cases hd
theorem Inv.funs (I:Inv X pq σ H s):s.heap.FunFrames X.base X.outer:=by
 have all:∀(l:List Env),(∀b∈frs l,b∈X.fs)->X.s₀.heap.FunFrames X.base l->s.heap.FunFrames X.base l:=by
  intro l
  induction l with
  |nil=>intro _ _;trivial
  |cons env r ih=>
   intro hs hl;obtain⟨hk,⟨L,o,hf,hn,ho,hd⟩,hr⟩:=hl;have hL:L∈X.fs:=hs L (by unfold frs;rw[KU,hf];exact Pe)
   obtain⟨sl,e⟩:=I.base.slot L o ho (I.ok.frf L hL) hL λz=>I.ok.exfs L z hL
   exact⟨hk,⟨L,_,hf,hn,e,hd⟩,ih (λb hb=>hs b (by unfold frs;rw[KU,hf];exact Pc _ hb)) hr⟩
 exact all X.outer (λ_ hb=>hb) I.ok.funs
theorem Inv.stack (I:Inv X pq σ H s):s.heap.FunFrames X.base X.stack:=by
 rcases I.ok.stk with e | ⟨e,hf⟩
 ·rw[e];exact I.funs
 ·rw[e]
  obtain⟨m,hn,_⟩:=I.loc;refine .cons (by rw[I.ok.kind];decide) hf hn ?_ I.funs
  exact Heap.get?_none_of_le (P4 I.ok.bsz I.ok.above)
theorem Inv.stkSub (I:Inv X pq σ H s):∀b∈frs X.stack,b∈X.env.locals::X.fs:=λb hb=>by
 rcases I.ok.stk with e | ⟨e,hf⟩
 ·rw[e] at hb;exact Pc _ hb
 ·rw[e] at hb
  unfold frs at hb;rw[KU,hf] at hb;exact hb
theorem Inv.stkFree (I:Inv X pq σ H s):∀b∈frs X.stack,H b=none:=λb hb=>by
 rcases Po.mp (I.stkSub b hb) with e | hb
 ·rw[e];exact I.free
 ·obtain⟨_,o,ho,_⟩:=I.ok.funs.mem hb
  exact I.base.free b o ho (I.ok.frf b hb) λz=>I.ok.exfs b z hb
theorem Inv.step {g':Array GenState}{t':Nat}{d':Drawn}{ch:List Addr}(I:Inv X pq σ H s)
  (hch:∀b∈ch,(b∈X.ex\/X.s₀.heap.objs.size<=b)/\b≠X.env.locals/\(∀x c,X.env.cells.lookup x=some c->c≠b)/\∀p∈X.pn++pq,p.1≠b)
  (keep:∀b o,b≠X.env.locals->b∉X.fs->b∉ch->s.heap.get? b=some o->H b=none->h'.get? b=some o)
  (slot:∀b o,b≠X.env.locals->b∈X.fs->b∉ch->s.heap.get? b=some o->H b=none->∃sl,h'.get? b=some { o with slots:=sl }) (free:∀b o,b∉ch->s.heap.get? b=some o->H b=none->H' b=none)
  (there:∀b o,b∉ch->s.heap.get? b=some o->∃o',h'.get? b=some o')
  (tups:∀b xs,H b=some (.tup xs)->H' b=some (.tup xs)) (frzs:∀b o u,H b=some (.frz o u)->H' b=some (.frz o u)) (tbls:∀b ps,H b=some (.tbl ps)->∃more,H' b=some (.tbl (ps++more)))
  (ns:∀m,s.heap.Ns X.env.locals m->h'.Ns X.env.locals m) (hok:HOk X.prog X.w H' h') (hg:AllBare g') :
  Inv X pq σ H' { s with heap:=h',gens:=g',drawn:=d',toks:=t' }:=by
 have neL:∀b o,X.s₀.heap.get? b=some o->b≠X.env.locals:=λb o e=>P3 (PN (Pz e) I.ok.above)
 have neC:∀b o,X.s₀.heap.get? b=some o->b∉X.ex->b∉ch:=λb o e hx hb=>by
  rcases (hch b hb).1 with z | z
  ·exact hx z
  ·exact absurd (PN (Pz e) z) (P2 _)
 have cellK:∀x c,X.env.cells.lookup x=some c->∀v,s.heap.IsCell c v->h'.IsCell c v:=λx c e v ⟨o,ho,hd⟩=>by
  have nch:c∉ch:=λz=>(hch c z).2.2.1 x c e rfl
  by_cases hc:c∈X.fs
  ·obtain⟨sl,q⟩:=slot c o (I.cne x c e) hc nch ho (I.freeC x c e)
   exact⟨_,q,hd⟩
  ·exact⟨o,keep c o (I.cne x c e) hc nch ho (I.freeC x c e),hd⟩
 refine⟨I.ok,I.os,hg,⟨λb o e n hb hx=>?_,λb o e n hb hx=>?_,λb o e n hx=>?_,λb o e hx=>?_,λb xs e=>tups b xs (I.base.tups b xs e),λb o xs e=>frzs b o xs (I.base.frzs b o xs e),λb ps e=>?_⟩,?_,λx c e=>?_,?_,λx c e=>?_,λp hp=>?_,hok,I.len⟩
 ·exact keep b o (neL b o e) hb (neC b o e hx) (I.base.keep b o e n hb hx) (I.base.free b o e n hx)
 ·obtain⟨sl,e1⟩:=I.base.slot b o e n hb hx
  obtain⟨sl',e2⟩:=slot b _ (neL b o e) hb (neC b o e hx) e1 (I.base.free b o e n hx);exact⟨sl',e2⟩
 ·obtain⟨o',e1⟩:=I.base.there b o e hx
  exact free b o' (neC b o e hx) e1 (I.base.free b o e n hx)
 ·obtain⟨o',e1⟩:=I.base.there b o e hx
  exact there b o' (neC b o e hx) e1
 ·obtain⟨m1,e1⟩:=I.base.tbls b ps e
  obtain⟨m2,e2⟩:=tbls b _ e1;exact⟨m1++m2,by rw[e2,Array.append_assoc]⟩
 ·obtain⟨m,hn,hl⟩:=I.loc
  refine⟨m,ns m hn,λi x v e1 e2 e3=>?_⟩
  obtain⟨u,r,l⟩:=hl i x v e1 e2 e3;refine⟨u,r,?_⟩;rcases l with l | ⟨k,c,e,z⟩
  ·exact .inl l
  ·exact .inr ⟨k,c,e,cellK x c e _ z⟩
 ·obtain⟨v,z⟩:=I.cell x c e
  exact⟨v,cellK x c e v z⟩
 ·obtain⟨m,⟨o,_,_,ho,_⟩,_⟩:=I.loc
  exact free _ o (λz=>(hch _ z).2.1 rfl) ho I.free
 ·obtain⟨v,o,ho,hd⟩:=I.cell x c e
  exact free c o (λz=>(hch c z).2.2.1 x c e rfl) ho (I.freeC x c e)
 ·obtain⟨e,n,ne,nf,d⟩:=I.pin p hp
  have nch:p.1∉ch:=λz=>(hch p.1 z).2.2.2 p hp rfl
  exact⟨keep p.1 p.2 ne nf nch e n,free p.1 p.2 nch e n,ne,nf,d⟩
theorem Inv.un {t':Nat}(I:Inv X pq σ H s) (u:Un X.fs [] H H' s.heap h') (hok:HOk X.prog X.w H' h'):Inv X pq σ H' { s with heap:=h',toks:=t' }:=by
 obtain⟨m,⟨o,es,ep,ho,r⟩,_⟩:=id I.loc;obtain⟨sl,hL⟩:=u.any ho I.free (by simp)
 exact I.step (g':=s.gens) (d':=s.drawn) (ch:=[]) (λ_ z=>nomatch z) (λb o _ hb _ e n=>u.keep b o e n hb (by simp)) (λb o _ hb _ e n=>u.slot b o e n hb (by simp)) (λb o _ e n=>u.free b o e n (by simp)) (λb o _ e=>u.there b o e (by simp)) u.tups u.frzs u.tbls (λm' hm=>by
  obtain⟨o',es',ep',ho',r'⟩:=hm;rw[ho] at ho';cases ho';exact⟨_,es',ep',hL,r'⟩) hok I.bare
theorem Inv.call {g':Array GenState}{t':Nat}{d':Drawn}{ch:List Addr}(I:Inv X pq σ H s) (u:Un (frs X.stack) ch H H' s.heap h') (hok:HOk X.prog X.w H' h') (hg:AllBare g')
  (hch:∀b∈ch,(b∈X.ex\/X.s₀.heap.objs.size<=b)/\b≠X.env.locals/\(∀x c,X.env.cells.lookup x=some c->c≠b)/\∀p∈X.pn++pq,p.1≠b) :
  Inv X pq σ H' { s with heap:=h',gens:=g',drawn:=d',toks:=t' }:=by
 obtain⟨m,⟨o,es,ep,ho,r⟩,_⟩:=id I.loc;obtain⟨sl,hL⟩:=u.any ho I.free λz=>(hch _ z).2.1 rfl
 exact I.step (ch:=ch) hch (λb o hL hb hc e n=>u.keep b o e n (λz=>(Po.mp (I.stkSub b z)).elim hL hb) hc) (λb o _ _ hc e n=>u.any e n hc) (λb o hc e n=>u.free b o e n hc) (λb o hc e=>u.there b o e hc) u.tups u.frzs u.tbls (λm' hm=>by
  obtain⟨o',es',ep',ho',r'⟩:=hm;rw[ho] at ho';cases ho';exact⟨_,es',ep',hL,r'⟩) hok hg
theorem Inv.turned {t':Nat}{it:Addr}(I:Inv X pq σ H s) (k:∀b o,b≠it->s.heap.get? b=some o->h'.get? b=some o) (hn:H it=none) (hL:it≠X.env.locals)
  (h1:it∈X.ex\/X.s₀.heap.objs.size<=it) (h2:∀x c,X.env.cells.lookup x=some c->c≠it) (h3:∀p∈X.pn++pq,p.1≠it):Inv X pq σ H { s with heap:=h',toks:=t' }:=by
 have nit:∀b u,H b=some u->b≠it:=λb u e z=>by rw[z,hn] at e;cases e
 refine I.step (g':=s.gens) (d':=s.drawn) (ch:=[it]) (λb hb=>?_) (λb o _ _ hc e _=>k b o (λz=>hc (by simp[z])) e) (λb o _ _ hc e _=>⟨o.slots,k b o (λz=>hc (by simp[z])) e⟩) (λ_ _ _ _ n=>n)
  (λb o hc e=>⟨o,k b o (λz=>hc (by simp[z])) e⟩) (λ_ _ e=>e) (λ_ _ _ e=>e) (λb ps e=>⟨#[],by rw[e];simp⟩) (λm hm=>?_) (λb u e=>?_) I.bare
 ·have e:b=it:=by simpa using hb
  subst e;exact⟨h1,hL,h2,h3⟩
 ·obtain⟨o,es,ep,ho,r⟩:=hm
  exact⟨o,es,ep,k _ o (Ne.symm hL) ho,r⟩
 ·refine (I.hok b u e).stay (λc v hc q=>k c v ?_ q) (λ_ q=>q) λ_ _ q=>q
  rcases hc with z | z
  ·rw[z];exact nit b u e
  ·exact nit c _ z
theorem Inv.tok (I:Inv X pq σ H s) (t:Nat):Inv X pq σ H { s with toks:=t }:=I.un (h':=s.heap) (t':=t) Un.refl I.hok
theorem Inv.kept {t':Nat}(I:Inv X pq σ H s) (k:∀b u,s.heap.get? b=some u->h'.get? b=some u):Inv X pq σ H { s with heap:=h',toks:=t' }:=I.un (Un.kept k) (I.hok.kept k)
theorem Inv.laid {a:Addr}{o:HO}{t':Nat}(I:Inv X pq σ H s) (k:∀b u,s.heap.get? b=some u->h'.get? b=some u) (hp:s.heap.objs.size<=a) (new:Z2 X.prog X.w (upd H a o) h' a o) :
  Inv X pq σ (upd H a o) { s with heap:=h',toks:=t' }:=I.un (Un.laid k hp (I.hok.fresh hp)) (I.hok.laid k hp new)
theorem Inv.write {x e:Addr}{o:HO}{t':Nat}(I:Inv X pq σ H s) (mu:Mut (H x)) (he:e=x\/H e=some (.own x)) (k:∀b u,b≠e->s.heap.get? b=some u->h'.get? b=some u) (heo:∃u,h'.get? e=some u)
  (new:Z2 X.prog X.w (upd H x o) h' x o):Inv X pq σ (upd H x o) { s with heap:=h',toks:=t' }:=I.un (Un.write mu he k heo) (I.hok.write mu he k heo new)
theorem Inv.pins_of {pins':List (Addr×Obj)}(I:Inv X pq σ H s) (h:∀p∈pins',s.heap.get? p.1=some p.2/\H p.1=none/\p.1≠X.env.locals/\p.1∉X.fs/\∀v,p.2.data≠.cell v):Inv X pins' σ H s:=
 ⟨I.ok,I.os,I.bare,I.base,I.loc,I.cell,I.free,I.freeC,λp hp=>(Nd.mp hp).elim (λz=>I.pin p (Nc _ z)) (h p),I.hok,I.len⟩
theorem zE {N:List Str}(hN:N.Nodup) {i j:Nat}{x:Str}(a:N[i]? = some x) (b:N[j]? = some x):i=j:=by
 obtain⟨h1,e1⟩:=Pr.mp a;obtain⟨h2,e2⟩:=Pr.mp b;exact (List.getElem_inj hN).mp (e1.trans e2.symm)
theorem VX {M:Model}{A:Around}{E:Value->Shared->Prop}{i:Nat}{x:Str}{v:V}{u:Value}{Q:Unit->Shared->Prop}(I:Inv X pq σ H s) (hN:X.N.Nodup) (hi:X.N[i]? = some x) (hx:Loc X.env.scope x) (r:ZI v u)
  (h:∀s',Inv X pq (σ.set i (some v)) H s'->(∃a,Heap.SameBut a s.heap s'.heap/\(a=X.env.locals\/X.env.cells.lookup x=some a))->Q () s') (hf:X.fn x=true\/X.env.scope.names.lookup x=some .local:=by first | exact .inl rfl | exact .inr rfl | assumption):wpAny M A (storeName X.env x u) Q E s:=by
 obtain⟨m,hn,hl⟩:=id I.loc;have hcls:(X.env.scope.kind == .class||(X.env.scope.kind == .module&&X.env.locals != X.env.globals))=false:=by rw[I.ok.kind];rfl
 have hiσ:i<σ.length:=by rw[I.len];exact (Pr.mp hi).1
 have cne:=I.cne;have tracked:∀{a:Addr} {h':Heap},(∃o,s.heap.get? a=some o/\H a=none)->Heap.SameBut a s.heap h'->HOk X.prog X.w H h':=λ{a h'} ha hs b ob e=>by
  obtain⟨_,_,hfree⟩:=ha;refine (I.hok b ob e).stay (λc w' hc q=>(hs.2 c ?_).trans q) (λ_ q=>q) λ_ _ q=>q
  rintro rfl
  rcases hc with rfl | hc
  ·rw[hfree] at e;cases e
  ·rw[hfree] at hc;cases hc
 rcases hx with hk | hk
 ·refine wpAny_storeName_local hk hn (λh' hn' hs=>?_) hcls
  obtain⟨oL,_,_,hoL,_⟩:=id hn;refine h _ ⟨I.ok,I.os,I.bare,⟨λb o e n hb hx=>?_,λb o e n hb hx=>?_,I.base.free,λb o e hx=>?_,I.base.tups,I.base.frzs,I.base.tbls⟩,⟨_,hn',λj y v' e1 e2 e3=>?_⟩,λy c e=>?_,I.free,I.freeC,λp hp=>?_,tracked ⟨oL,hoL,I.free⟩ hs,by simpa using I.len⟩ ⟨_,hs,.inl rfl⟩
  ·exact (hs.2 b (P3 (PN (Pz e) I.ok.above))).trans (I.base.keep b o e n hb hx)
  ·obtain⟨sl,e1⟩:=I.base.slot b o e n hb hx
   exact⟨sl,(hs.2 b (P3 (PN (Pz e) I.ok.above))).trans e1⟩
  ·obtain⟨o',e1⟩:=I.base.there b o e hx
   exact⟨o',(hs.2 b (P3 (PN (Pz e) I.ok.above))).trans e1⟩
  ·by_cases hj:j=i
   ·subst hj
    rw[hi] at e1;cases e1;rw[No hiσ] at e2;cases e2;exact⟨u,r,.inl ⟨hk,by simp⟩⟩
   ·rw[PK (Ne.symm hj)] at e2
    obtain⟨u',r',q⟩:=hl j y v' e1 e2 e3;refine⟨u',r',?_⟩;rcases q with ⟨k,e⟩ | ⟨k,c,e,z⟩
    ·refine .inl ⟨k,?_⟩
     have:y≠x:=λe=>hj (zE hN e1 (e▸hi))
     simp[this,e]
    ·exact .inr ⟨k,c,e,z.sameBut hs (cne y c e)⟩
  ·obtain⟨w',z⟩:=I.cell y c e
   exact⟨w',z.sameBut hs (cne y c e)⟩
  ·obtain⟨e,n,ne,nf,d⟩:=I.pin p hp
   exact⟨(hs.2 p.1 ne).trans e,n,ne,nf,d⟩
 ·have hfn:X.fn x=true:=by
   rcases hf with z | z
   ·exact z
   ·rw[z] at hk;cases hk
  obtain⟨c,hc⟩:=I.ok.has x (.inl hk);obtain⟨w',z⟩:=I.cell x c hc;refine wpAny_storeName_cell I.ok.kind hk hc z (λh' hc' hs=>?_)
  obtain⟨oc,hoc,hocd⟩:=id z;refine h { s with heap:=h' } ⟨I.ok,I.os,I.bare,⟨λb o e n hb hx=>?_,λb o e n hb hx=>?_,I.base.free,λb o e hx=>?_,I.base.tups,I.base.frzs,I.base.tbls⟩,⟨m,hn.sameBut hs (Ne.symm (cne x c hc)),λj y v' e1 e2 e3=>?_⟩,λy c' e=>?_,I.free,I.freeC,λp hp=>?_,tracked ⟨oc,hoc,I.freeC x c hc⟩ hs,by simpa using I.len⟩ ⟨c,hs,.inr hc⟩
  ·exact (hs.2 b (P3 (PN (Pz e) (I.ok.cab x c hfn hc)))).trans (I.base.keep b o e n hb hx)
  ·obtain⟨sl,e1⟩:=I.base.slot b o e n hb hx
   exact⟨sl,(hs.2 b (P3 (PN (Pz e) (I.ok.cab x c hfn hc)))).trans e1⟩
  ·obtain⟨o',e1⟩:=I.base.there b o e hx
   exact⟨o',(hs.2 b (P3 (PN (Pz e) (I.ok.cab x c hfn hc)))).trans e1⟩
  ·by_cases hj:j=i
   ·subst hj
    rw[hi] at e1;cases e1;rw[No hiσ] at e2;cases e2;exact⟨u,r,.inr ⟨.inl hk,c,hc,hc'⟩⟩
   ·rw[PK (Ne.symm hj)] at e2
    obtain⟨u',r',q⟩:=hl j y v' e1 e2 e3;refine⟨u',r',?_⟩;rcases q with q | ⟨k,c',e,z'⟩
    ·exact .inl q
    ·refine .inr ⟨k,c',e,z'.sameBut hs ?_⟩
     rintro rfl
     exact hj (zE hN e1 (I.ok.inj _ _ _ e hc▸hi))
  ·by_cases hcc:c'=c
   ·subst hcc;exact⟨_,hc'⟩
   ·obtain⟨w2,z2⟩:=I.cell y c' e
    exact⟨w2,z2.sameBut hs hcc⟩
  ·obtain⟨e,n,ne,nf,d⟩:=I.pin p hp
   refine⟨(hs.2 p.1 ?_).trans e,n,ne,nf,d⟩;intro q;rw[q,hoc] at e;have q':oc=p.2:=Pb e;exact d w' (by rw[<-q'];exact hocd)
theorem VE {M:Model}{A:Around}{E:Value->Shared->Prop}{i:Nat}{x:Str}{v:V}{u:Value}{Q:Unit->Shared->Prop}(I:Inv X pq σ H s) (hN:X.N.Nodup) (hi:X.N[i]? = some x) (hx:Loc X.env.scope x) (r:ZI v u)
  (h:∀s',Inv X pq (σ.set i (some v)) H s'->Q () s') (hf:X.fn x=true\/X.env.scope.names.lookup x=some .local:=by first | exact .inl rfl | exact .inr rfl | assumption):wpAny M A (storeName X.env x u) Q E s:=
 VX I hN hi hx r (λs' I' _=>h s' I') hf
theorem Inv.call' {s':Shared}{ch:List Addr}(I:Inv X pq σ H s) (ho:s'.os=s.os) (u:Un (frs X.stack) ch H H' s.heap s'.heap) (hok:HOk X.prog X.w H' s'.heap) (hg:AllBare s'.gens)
  (hch:∀b∈ch,(b∈X.ex\/X.s₀.heap.objs.size<=b)/\b≠X.env.locals/\(∀x c,X.env.cells.lookup x=some c->c≠b)/\∀p∈X.pn++pq,p.1≠b):Inv X pq σ H' s':=by
 obtain⟨h',g',d',t',o'⟩:=s';have e:o'=s.os:=ho;subst e;exact I.call (g':=g') (t':=t') (d':=d') u hok hg hch
end
abbrev XK:=Value->Option Addr->Hp->Prop
noncomputable abbrev St:=List (Option V)
abbrev VK:=V->Hp->Prop
abbrev TE:=St->Hp->VK->Prop
abbrev TT:=St->Hp->(Bool->Hp->Prop)->Prop
abbrev TA:=St->Hp->(List V->Hp->Prop)->Prop
structure Ends where
 nx:St->Hp->Prop
 rt:VK
 bk:St->Hp->Prop:=λ_ _=>False
 ct:St->Hp->Prop:=λ_ _=>False
abbrev TS:=Ends->St->Hp->Prop
def EP (X:Cx) (pq:List (Addr×Obj)) (σ:St) (Q:VK) (u:Value) (s':Shared):Prop:=∃v H',Inv X pq σ H' s'/\ZI v u/\Q v H'
def TP (X:Cx) (pq:List (Addr×Obj)) (σ:St) (Q:Bool->Hp->Prop) (b:Bool) (s':Shared):Prop:=∃H',Inv X pq σ H' s'/\Q b H'
def AP (X:Cx) (pq:List (Addr×Obj)) (σ:St) (Q:List V->Hp->Prop) (us:List Value) (s':Shared):Prop:=∃vs H',Inv X pq σ H' s'/\Vals vs us/\Q vs H'
def SP (X:Cx) (pq:List (Addr×Obj)) (D:Ends) (f:Flow) (s':Shared):Prop:=
 match f with
 |.next=>∃σ' H',Inv X pq σ' H' s'/\D.nx σ' H'
 |.brk=>∃σ' H',Inv X pq σ' H' s'/\D.bk σ' H'
 |.cont=>∃σ' H',Inv X pq σ' H' s'/\D.ct σ' H'
 |.ret u=>∃v σ' H',Inv X pq σ' H' s'/\ZI v u/\D.rt v H'
def PE (X:Cx) (e:Expr) (t:TE):Prop:=
 ∀(pq:List (Addr×Obj)) (s:Shared) (σ:St) (H:Hp) (Q:VK),Inv X pq σ H s->t σ H Q->wpAny (model X.prog X.w) X.A (eval e X.env) (EP X pq σ Q) X.xe s
def PT (X:Cx) (e:Expr) (t:TT):Prop:=
 ∀(pq:List (Addr×Obj)) (s:Shared) (σ:St) (H:Hp) (Q:Bool->Hp->Prop),Inv X pq σ H s->t σ H Q->wpAny (model X.prog X.w) X.A (isTrue e X.env (eval e X.env)) (TP X pq σ Q) X.xe s
def PW (X:Cx) (e:Expr) (t:TT):Prop:=
 ∀(whole:Sem Value) (pq:List (Addr×Obj)) (s:Shared) (σ:St) (H:Hp) (Q:Bool->Hp->Prop),Inv X pq σ H s->t σ H Q->wpAny (model X.prog X.w) X.A (isTrue e X.env whole) (TP X pq σ Q) X.xe s
theorem PW.pt {X:Cx}{e:Expr}{t:TT}(h:PW X e t):PT X e t:=h _
def PA (X:Cx) (es:List Expr) (t:TA):Prop:=
 ∀(pos:Pos) (pq:List (Addr×Obj)) (s:Shared) (σ:St) (H:Hp) (Q:List V->Hp->Prop),Inv X pq σ H s->t σ H Q->wpAny (model X.prog X.w) X.A (spliced (backTo pos (starEach es X.env))) (AP X pq σ Q) X.xe s
def PS (X:Cx) (st:Stmt) (t:TS):Prop:=
 ∀(pq:List (Addr×Obj)) (s:Shared) (σ:St) (H:Hp) (D:Ends),Inv X pq σ H s->t D σ H->wpAny (model X.prog X.w) X.A (exec st X.env) (SP X pq D) X.xe s
def PSs (X:Cx) (st:List Stmt) (t:TS):Prop:=
 ∀(pq:List (Addr×Obj)) (s:Shared) (σ:St) (H:Hp) (D:Ends),Inv X pq σ H s->t D σ H->wpAny (model X.prog X.w) X.A (execs st X.env) (SP X pq D) X.xe s
theorem thn {α:Type}{t:Sem α}{Q Q':α->Shared->Prop}{M:Model}{A:Around}{E:Value->Shared->Prop}{s:Shared}(h:wpAny M A t Q E s) (hQ:∀a s,Q a s->Q' a s):wpAny M A t Q' E s:=Nv h hQ λ_ _ x=>x
section
variable {X:Cx}
def ZdR (i:Nat):TE:=λσ H Q=>∃v,σ[i]? = some (some v)/\Q v H
def tC (v:V):TE:=λ_ H Q=>Q v H
theorem Zcx {i:Nat}{x:Str}{pos:Pos}(hN:X.N[i]? = some x) (hv:Vis X.env.scope x) (hd:(x == ("__debug__" : Str))=false:=by decide) (hcd:(x == ("__classdict__" : Str))=false:=by decide):PE X (.Name x pos) (ZdR i):=by
 intro pq s σ H Q I h;obtain⟨v,e,h⟩:=h;obtain⟨m,hn,hl⟩:=I.loc;obtain⟨u,r,l⟩:=hl i x v hN e hv;have fin:EP X pq σ Q u s:=⟨v,H,I,r,h⟩;rcases l with ⟨hk,hm⟩ | ⟨hk,c,hc,hcell⟩
 ·exact wpAny_Name (wpAny_loadName_local I.ok.kind hk hn hm fin) hd
 ·rcases hk with hk | hk
  ·exact wpAny_Name (wpAny_loadName_cell I.ok.kind hk hc hcell fin) hd
  ·exact wpAny_Name (wpAny_loadName_free I.ok.kind hk hc hcell fin hcd) hd
theorem Zca {i j pos}:PE X (.Constant (.int i) j pos) (tC (.int i)):=λ_ _ _ H _ I h=>wpAny_Constant_int ⟨.int i,H,I.tok _,⟨_,rfl⟩,h⟩
theorem ZbC {b j pos}:PE X (.Constant (.bool b) j pos) (tC (.bl b)):=λ_ _ _ H _ I h=>Constant_bool ⟨.bl b,H,I,rfl,h⟩
theorem ZbS {j pos}:PE X (.Constant .none j pos) (tC .non):=λ_ _ _ H _ I h=>Constant_none ⟨.non,H,I,rfl,h⟩
def Gl (X:Cx) (x:Str):Prop:=X.env.kindOf x=some .globalImplicit
theorem xy {E:Value->Shared->Prop}{pq:List (Addr×Obj)}{s:Shared}{σ:St}{H:Hp}{x:Str}{u:Value}{pos:Pos}{Q:Value->Shared->Prop}(I:Inv X pq σ H s) (hg:Gl X x) (hm:X.mg x=some u) (h:Q u s)
  (hd:(x == ("__debug__" : Str))=false:=by decide):wpAny (model X.prog X.w) X.A (eval (.Name x pos) X.env) Q E s:=
 Calls.Name_function_global I.ok.kind hg (Calls.loadGlobal_global (by rw[I.ok.glob];exact I.mod.glob.keeps I.bk) hm h) hd
theorem YF {E:Value->Shared->Prop}{pq:List (Addr×Obj)}{s:Shared}{σ:St}{H:Hp}{x:Str}{u:Value}{pos:Pos}{Q:Value->Shared->Prop}(I:Inv X pq σ H s) (hg:Gl X x) (hm:X.mg x=none) (hv:bootBuiltins x=some u) (h:Q u s)
  (hn:x≠"__name__":=by decide) (hd:(x == ("__debug__" : Str))=false:=by decide):wpAny (model X.prog X.w) X.A (eval (.Name x pos) X.env) Q E s:=by
 obtain⟨mb,h1,h2⟩:=I.mod.blt;exact Calls.Name_function_global I.ok.kind hg (Calls.loadGlobal_builtin (by rw[I.ok.glob];exact I.mod.glob.keeps I.bk) hm (by rw[I.ok.blt];exact h1.keeps I.bk) ((h2 x hn).trans hv) h) hd
theorem xS {x:Str}{v:V}{u:Value}{pos:Pos}(hg:Gl X x) (hm:X.mg x=some u) (r:ZI v u) (hd:(x == ("__debug__" : Str))=false:=by decide):PE X (.Name x pos) (tC v):=
 λ_ _ _ H _ I h=>xy I hg hm ⟨v,H,I,r,h⟩ hd
theorem J2 {x:Str}{v:V}{u:Value}{pos:Pos}(hg:Gl X x) (hm:X.mg x=none) (hv:bootBuiltins x=some u) (r:ZI v u) (hn:x≠"__name__":=by decide) (hd:(x == ("__debug__" : Str))=false:=by decide):PE X (.Name x pos) (tC v):=
 λ_ _ _ H _ I h=>YF I hg hm hv ⟨v,H,I,r,h⟩ hn hd
variable {a b:Expr}{ta tb:TE}{pos:Pos}
variable {tA tB':TT}{rest:List Expr}
def tOr (t u:TT):TT:=λσ H Q=>t σ H λc H1=>if c=true then Q true H1 else u σ H1 Q
def ZdZ (t:TT):TT:=λσ H Q=>t σ H λc H1=>Q (!c) H1
theorem Zch (ha:PT X a tA):PW X (.BoolOp .Or [a] pos) tA:=by
 intro wh pq s σ H Q I h;refine isTrue_or (thn (ha pq s σ H Q I h) λc s1 e=>?_)
 cases c with
 |false=>exact isTrue_or_nil e
 |true=>exact e
theorem Zc2 (ha:PT X a tA) (hb:PW X (.BoolOp .Or (b::rest) pos) tB'):PW X (.BoolOp .Or (a::b::rest) pos) (tOr tA tB'):=by
 intro wh pq s σ H Q I h;refine isTrue_or (thn (ha pq s σ H _ I h) λc s1 ⟨H1,I1,q1⟩=>?_)
 cases c with
 |true=>exact⟨H1,I1,q1⟩
 |false=>exact hb wh pq s1 σ H1 Q I1 q1
theorem Zb1 (ha:PT X a tA):PT X (.UnaryOp .Not a pos) (ZdZ tA):=by
 intro pq s σ H Q I h;exact isTrue_not (ha pq s σ H (λc H1=>Q (!c) H1) I h)
def ZdB (ta tb:TE):TE:=λσ H Q=>ta σ H λx H1=>∃c,x=.bl c/\if c=true then tb σ H1 Q else Q (.bl false) H1
def Zd6 (ta tb:TE):TE:=λσ H Q=>ta σ H λx H1=>∃c,x=.bl c/\if c=true then Q (.bl true) H1 else tb σ H1 Q
theorem ZbU (ha:PE X a ta) (hb:PE X (.BoolOp .And (b::rest) pos) tb):PE X (.BoolOp .And (a::b::rest) pos) (ZdB ta tb):=by
 intro pq s σ H Q I h;refine BoolOp_and (thn (ha pq s σ H _ I h) λv s1 ⟨x,H1,I1,r1,q1⟩=>?_)
 obtain⟨c,rfl,q1⟩:=q1;cases r1;refine NC ?_;cases c with
 |true=>exact hb pq s1 σ H1 Q I1 q1
 |false=>exact⟨.bl false,H1,I1,rfl,q1⟩
theorem Zdd (ha:PE X a ta) (hb:PE X (.BoolOp .Or (b::rest) pos) tb):PE X (.BoolOp .Or (a::b::rest) pos) (Zd6 ta tb):=by
 intro pq s σ H Q I h;refine BoolOp_or (thn (ha pq s σ H _ I h) λv s1 ⟨x,H1,I1,r1,q1⟩=>?_)
 obtain⟨c,rfl,q1⟩:=q1;cases r1;refine NC ?_;cases c with
 |false=>exact hb pq s1 σ H1 Q I1 q1
 |true=>exact⟨.bl true,H1,I1,rfl,q1⟩
def tIf (t:TT) (ta tb:TE):TE:=λσ H Q=>t σ H λc H1=>if c=true then ta σ H1 Q else tb σ H1 Q
theorem uP {c:Expr}(hc:PT X c tA) (ha:PE X a ta) (hb:PE X b tb):PE X (.IfExp c a b pos) (tIf tA ta tb):=by
 intro pq s σ H Q I h;refine wpAny_IfExp (thn (hc pq s σ H _ I h) λd s1 ⟨H1,I1,q1⟩=>?_)
 cases d with
 |true=>exact ha pq s1 σ H1 Q I1 q1
 |false=>exact hb pq s1 σ H1 Q I1 q1
end
def SqL (K:PySem.W.Frag) (H:Hp) (a:Addr) (xs:List V):Prop:=
 Rd H a (.lst xs)\/
  ∃(o:Obj) (its:Array Value) (n:Nat),K.lookup a=some o/\o.cls=.type "list"/\o.dict=none/\o.data=.seq its n/\its.size<=sizeLine/\Vals xs its.toList
def SqT (K:PySem.W.Frag) (H:Hp) (a:Addr) (xs:List V):Prop:=
 Rd H a (.tup xs)\/
  ∃(o:Obj) (its:Array Value) (n:Nat),K.lookup a=some o/\o.cls=.type "tuple"/\o.data=.seq its n/\its.size<=sizeLine/\Vals xs its.toList
noncomputable def Zeb:Value->Option V
 |.none=>some .non
 |.bool b=>some (.bl b)
 |.int i _=>some (.int i)
 |.str x _=>some (.str x)
 |.bytes b _=>some (.byt b)
 |.float b _=>some (.flt b)
 |.ref a=>some (.ref a)
 |.type n=>some (.ty n)
 |_=>none
theorem ZI.abs {x:V}{u:Value}(r:ZI x u):Zeb u=some x:=by
 cases x with
 |non=>cases r;rfl
 |bl _=>cases r;rfl
 |int _=>obtain⟨t,rfl⟩:=r;rfl
 |str _=>obtain⟨t,rfl⟩:=r;rfl
 |byt _=>obtain⟨t,rfl⟩:=r;rfl
 |flt _=>obtain⟨t,rfl⟩:=r;rfl
 |ref _=>cases r;rfl
 |ty _=>cases r;rfl
theorem ZI.inj {x y:V}{u:Value}(r:ZI x u) (q:ZI y u):x=y:=Pb (r.abs.symm.trans q.abs)
theorem Vals.inj:∀{xs ys:List V}{us:List Value},Vals xs us->Vals ys us->xs=ys
 |_,_,_,.nil,.nil=>rfl
 |_,_,_,.cons r t,.cons r' t'=>by rw[r.inj r',Vals.inj t t']
section
variable {X:Cx}{pq:List (Addr×Obj)}{σ:St}{H:Hp}{s:Shared}{a:Addr}{xs ys:List V}
theorem SqL.of {K:PySem.W.Frag}(h:H a=some (.lst xs)):SqL K H a xs:=.inl (.inl h)
theorem SqT.of {K:PySem.W.Frag}(h:H a=some (.tup xs)):SqT K H a xs:=.inl (.inl h)
theorem Inv.list (I:Inv X pq σ H s) (h:SqL X.K H a xs):∃its:List Value,Vals xs its/\PlainL s.heap a its.toArray/\xs.length<=sizeLine:=by
 rcases h with h | ⟨o,its,n,hk,hc,hd,hs,hz,r⟩
 ·obtain⟨z,its,n,r,e⟩:=h.ok I.hok
  exact⟨its,r,⟨_,n,e,rfl,rfl,rfl⟩,z⟩
 ·refine⟨its.toList,r,⟨o,n,I.kIn a o hk,hc,hd,by simpa using hs⟩,?_⟩
  have e:=r.length;simp only[NG] at e;omega
theorem Inv.tuple (I:Inv X pq σ H s) (h:SqT X.K H a xs):∃its:List Value,Vals xs its/\IsTup s.heap a its.toArray/\xs.length<=sizeLine:=by
 rcases h with h | ⟨o,its,n,hk,hc,hs,hz,r⟩
 ·obtain⟨z,its,r,p⟩:=h.ok I.hok
  exact⟨its,r,p,z⟩
 ·refine⟨its.toList,r,⟨o,I.kIn a o hk,hc,n,by simpa using hs⟩,?_⟩
  have e:=r.length;simp only[NG] at e;omega
theorem Inv.list_inj (I:Inv X pq σ H s) (h:SqL X.K H a xs) (h':SqL X.K H a ys):xs=ys:=by
 obtain⟨its,r,⟨o,n,e,_,_,d⟩,_⟩:=I.list h;obtain⟨its',r',⟨o',n',e',_,_,d'⟩,_⟩:=I.list h';rw[e] at e';cases e';rw[d] at d';injection d' with d1 _
 have:its=its':=by simpa using congrArg Array.toList d1
 subst this;exact r.inj r'
theorem Inv.tuple_inj (I:Inv X pq σ H s) (h:SqT X.K H a xs) (h':SqT X.K H a ys):xs=ys:=by
 obtain⟨its,r,⟨o,e,_,n,d⟩,_⟩:=I.tuple h;obtain⟨its',r',⟨o',e',_,n',d'⟩,_⟩:=I.tuple h';rw[e] at e';cases e';rw[d] at d';injection d' with d1 _
 have:its=its':=by simpa using congrArg Array.toList d1
 subst this;exact r.inj r'
end
noncomputable abbrev Cx.wish (X:Cx) (E:Value->Shared->Prop):Cx:={ X with xe:=E }
noncomputable abbrev Cx.nox (X:Cx):Cx:=X.wish λ_ _=>False
theorem Cx.Ok.wish {X:Cx}(ok:X.Ok) (E:Value->Shared->Prop):(X.wish E).Ok:=
 ⟨ok.mod,ok.kind,ok.glob,ok.blt,ok.above,ok.inj,ok.has,ok.cab,ok.hd,ok.frames,ok.stk,ok.exf,ok.bs,ok.bsz,ok.noex,ok.exfs,ok.funs,ok.frf⟩
theorem Cx.Ok.unwish {X:Cx}{E:Value->Shared->Prop}(ok:(X.wish E).Ok):X.Ok:=
 ⟨ok.mod,ok.kind,ok.glob,ok.blt,ok.above,ok.inj,ok.has,ok.cab,ok.hd,ok.frames,ok.stk,ok.exf,ok.bs,ok.bsz,ok.noex,ok.exfs,ok.funs,ok.frf⟩
section
variable {X:Cx}{pq:List (Addr×Obj)}{σ:St}{H:Hp}{s:Shared}{E:Value->Shared->Prop}
theorem Inv.wish (I:Inv X pq σ H s) (E:Value->Shared->Prop):Inv (X.wish E) pq σ H s:=⟨I.ok.wish E,I.os,I.bare,I.base,I.loc,I.cell,I.free,I.freeC,I.pin,I.hok,I.len⟩
theorem Inv.unwish (I:Inv (X.wish E) pq σ H s):Inv X pq σ H s:=⟨I.ok.unwish,I.os,I.bare,I.base,I.loc,I.cell,I.free,I.freeC,I.pin,I.hok,I.len⟩
theorem SP.unwish {D:Ends}{f:Flow}{s':Shared}(h:SP (X.wish E) pq D f s'):SP X pq D f s':=by
 cases f with
 |next=>obtain⟨σ',H',I,q⟩:=h;exact⟨σ',H',I.unwish,q⟩
 |brk=>obtain⟨σ',H',I,q⟩:=h;exact⟨σ',H',I.unwish,q⟩
 |cont=>obtain⟨σ',H',I,q⟩:=h;exact⟨σ',H',I.unwish,q⟩
 |ret u=>obtain⟨v,σ',H',I,r,q⟩:=h;exact⟨v,σ',H',I.unwish,r,q⟩
theorem PSs.nox {st:List Stmt}{t:TS}(h:PSs X.nox st t):PSs X st t:=λpq s σ H D I hw=>
 Nv (h pq s σ H D (I.wish _) hw) (λ_ _ q=>q.unwish) λ_ _ z=>False.elim z
end
section
variable {X:Cx}{st:Stmt}{rest:List Stmt}{t u:TS}{e:Expr}{te:TE}{pos:Pos}
def Zdj:TS:=λD σ H=>D.nx σ H
def ZdY (t u:TS):TS:=λD σ H=>t { D with nx:=u D } σ H
theorem jZ:PSs X [] Zdj:=λ_ _ σ H _ I h=>wpAny_execs_nil ⟨σ,H,I,h⟩
theorem uC (h1:PS X st t) (h2:PSs X rest u):PSs X (st::rest) (ZdY t u):=by
 intro pq s σ H D I h;refine wpAny_execs_cons (thn (h1 pq s σ H { D with nx:=u D } I h) λf s1 q=>?_)
 cases f with
 |next=>
  obtain⟨σ',H',I',q⟩:=q;exact h2 pq s1 σ' H' D I' q
 |ret v=>exact q
 |brk=>exact q
 |cont=>exact q
theorem Inv.quiet {pq:List (Addr×Obj)}{σ:St}{H:Hp}{s:Shared}(I:Inv X pq σ H s):interactive X.env=false:=by simp[interactive,I.ok.kind]
def ZdE (te:TE):TS:=λD σ H=>te σ H λ_ H1=>D.nx σ H1
theorem ZaH (he:PE X e te) (hs:swapsWith e none pos.line X.env=pure false:=by rfl):PS X (.Expr e pos) (ZdE te):=by
 intro pq s σ H D I h;exact wpAny_Expr_any (thn (he pq s σ H _ I h) λv s1 ⟨x,H1,I1,r1,q1⟩=>⟨σ,H1,I1,q1⟩) I.quiet hs
def ZdM (te:TE):TS:=λD σ H=>te σ H D.rt
theorem ZcR (he:PE X e te):PS X (.Return (some e) pos) (ZdM te):=by
 intro pq s σ H D I h;exact wpAny_Return_some (thn (he pq s σ H _ I h) λv s1 ⟨x,H1,I1,r1,q1⟩=>⟨x,σ,H1,I1,r1,q1⟩)
def Zee (c:TT) (t u:TS):TS:=λD σ H=>c σ H λb H1=>if b=true then t D σ H1 else u D σ H1
theorem Zc0 {c:Expr}{a b:List Stmt}{tc:TT}(hc:PT X c tc) (ha:PSs X a t) (hb:PSs X b u):PS X (.If c a b pos) (Zee tc t u):=by
 intro pq s σ H D I h;refine wpAny_If (thn (hc pq s σ H _ I h) λd s1 ⟨H1,I1,q1⟩=>?_)
 cases d with
 |true=>exact ha pq s1 σ H1 D I1 q1
 |false=>exact hb pq s1 σ H1 D I1 q1
end
abbrev TG:=V->St->Hp->(St->Hp->Prop)->Prop
abbrev TGs:=List V->St->Hp->(St->Hp->Prop)->Prop
def PG (X:Cx) (target:Expr) (t:TG):Prop:=
 ∀(pq:List (Addr×Obj)) (s:Shared) (σ:St) (H:Hp) (v:V) (u:Value) (Q:St->Hp->Prop),Inv X pq σ H s->ZI v u->t v σ H Q->
  wpAny (model X.prog X.w) X.A (assign target X.env u) (λ_ s'=>∃σ' H',Inv X pq σ' H' s'/\Q σ' H') X.xe s
def PGs (X:Cx) (ts:List Expr) (t:TGs):Prop:=
 ∀(pq:List (Addr×Obj)) (s:Shared) (σ:St) (H:Hp) (vs:List V) (us:List Value) (Q:St->Hp->Prop),Inv X pq σ H s->Vals vs us->t vs σ H Q->
  wpAny (model X.prog X.w) X.A (assignInOrder ((assignEach ts X.env).map (·.2)) us) (λ_ s'=>∃σ' H',Inv X pq σ' H' s'/\Q σ' H') X.xe s
abbrev TSet:=V->V->V->Hp->(Hp->Prop)->Prop
def PSet (X:Cx) (t:TSet):Prop:=
 ∀(pq:List (Addr×Obj)) (s:Shared) (σ:St) (H:Hp) (o i v:V) (ov iv u:Value) (Q:Hp->Prop),Inv X pq σ H s->ZI o ov->ZI i iv->ZI v u->t o i v H Q->
  wpAny (model X.prog X.w) X.A (setItem ov iv u) (λ_ s'=>∃H',Inv X pq σ H' s'/\Q H') X.xe s
abbrev TIp:=V->V->Hp->VK->Prop
def PIp (X:Cx) (op:Operator) (t:TIp):Prop:=
 ∀(pq:List (Addr×Obj)) (s:Shared) (σ:St) (H:Hp) (x y:V) (v u:Value) (Q:VK),Inv X pq σ H s->ZI x v->ZI y u->t x y H Q->
  wpAny (model X.prog X.w) X.A (inplaceOp op v u) (EP X pq σ Q) X.xe s
section
variable {X:Cx}{pos:Pos}
def Zdq (i:Nat):TG:=λv σ H Q=>Q (σ.set i (some v)) H
theorem UF {i:Nat}{x:Str}(hN:X.N.Nodup) (hi:X.N[i]? = some x) (hx:Loc X.env.scope x) (hf:X.fn x=true\/X.env.scope.names.lookup x=some .local:=by first | exact .inl rfl | exact .inr rfl | assumption):PG X (.Name x pos) (Zdq i):=by
 intro pq s σ H v u Q I r h;exact wpAny_assign_Name (VE I hN hi hx r (λs' I'=>⟨_,H,I',h⟩) hf)
def Zef:TGs:=λvs σ H Q=>vs=[]/\Q σ H
def ZdJ (t:TG) (u:TGs):TGs:=λvs σ H Q=>∃v r,vs=v::r/\t v σ H λσ' H'=>u r σ' H' Q
theorem Zaf:PGs X [] Zef:=by
 intro pq s σ H vs us Q I r h;obtain⟨e,h⟩:=h;subst e;cases r;exact assignInOrder_nil ⟨σ,H,I,h⟩
theorem qS {e:Expr}{es:List Expr}{t:TG}{u:TGs}(h1:PG X e t) (h2:PGs X es u)
  (hs:(assignEach (e::es) X.env).map (·.2)=assign e X.env::(assignEach es X.env).map (·.2):=by rfl):PGs X (e::es) (ZdJ t u):=by
 intro pq s σ H vs us Q I r h;obtain⟨v,vr,e1,h⟩:=h;subst e1;cases r with
 |cons r rr=>
  rw[hs];refine assignInOrder_cons (thn (h1 pq s σ H _ _ _ I r h) λ_ s1 ⟨σ1,H1,I1,q1⟩=>?_)
  exact h2 pq s1 σ1 H1 _ _ Q I1 rr q1
def ZdQ (K:PySem.W.Frag) (n:Nat) (t:TGs):TG:=λv σ H Q=>∃a xs,v=.ref a/\SqT K H a xs/\xs.length=n/\t xs σ H Q
theorem ZcD {es:List Expr}{k:Nat}{t:TGs}{n:Nat}(hc:X.calm=true) (h:PGs X es t)
  (hn:(assignEach es X.env).length=n:=by rfl) (hst:(assignEach es X.env).findIdx? (·.1)=none:=by rfl):PG X (.Tuple es k pos) (ZdQ X.K n t):=by
 intro pq s σ H v u Q I r hw;obtain⟨a,xs,e1,hq,hl,hw⟩:=hw;subst e1;cases r;obtain⟨its,rv,ht,hz⟩:=I.tuple hq;refine assign_Tuple_tuple (I.ok.hd hc) ht (by simp[hn,<-hl,rv.length]) hst λh' hx=>?_
 have I1:Inv X pq σ H { s with heap:=h' }:=I.kept (t':=s.toks) λb o e=>hx b o (P3 (Pz e)) e
 exact h pq _ σ H xs _ Q I1 (by simpa using rv) hw
def Zd9 (to ti:TE) (t:TSet):TG:=λv σ H Q=>to σ H λo H1=>ti σ H1 λi H2=>t o i v H2 λH3=>Q σ H3
theorem ZbJ {o i:Expr}{to ti:TE}{t:TSet}(ho:PE X o to) (hi:PE X i ti) (hs:PSet X t)
  (ha:∀v,assign (.Subscript o i pos) X.env v=(do
   let ov <-holding [v] (eval o X.env)
   let iv <-holding [v,ov] (eval i X.env)
   standAt pos
   holding [v,ov,iv] (setItem ov iv v)
   release [v,ov,iv] []):=by intro _;rfl):PG X (.Subscript o i pos) (Zd9 to ti t):=by
 intro pq s σ H v u Q I r h;rw[ha];refine Pa (Nn (thn (ho pq s σ H _ I h) λov s1 ⟨x,H1,I1,r1,q1⟩=>?_))
 refine Pa (Nn (thn (hi pq s1 σ H1 _ I1 q1) λiv s2 ⟨y,H2,I2,r2,q2⟩=>?_))
 refine Pa (NS (Pa (Nn (thn (hs pq s2 σ H2 x y v ov iv u _ I2 r1 r2 r q2) λ_ s3 ⟨H3,I3,q3⟩=>?_))))
 exact wpAny_release ⟨σ,H3,I3,q3⟩
def ZdT (te:TE) (g:TG):TS:=λD σ H=>te σ H λx H1=>g x σ H1 D.nx
theorem qI {tg e:Expr}{te:TE}{g:TG}(he:PE X e te) (hg:PG X tg g) (hs:swapsWithSole [tg] e pos.line X.env=pure false:=by rfl) (hw:swappedStores [tg] e X.env=pure none:=by rfl)
  (h1:(assignEach [tg] X.env).map (·.2)=[assign tg X.env]:=by rfl):PS X (.Assign [tg] e pos) (ZdT te g):=by
 intro pq s σ H D I h;refine wpAny_Assign_stores (thn (he pq s σ H _ I h) λv s1 ⟨x,H1,I1,r1,q1⟩=>?_) hs hw
 rw[h1];exact thn (hg pq s1 σ H1 x v _ I1 r1 q1) λ_ s2 q=>q
def ZdW (i j:Nat) (ta:TA):TS:=λD σ H=>ta σ H λvs H1=>∃v w,vs=[v,w]/\D.nx ((σ.set i (some v)).set j (some w)) H1
theorem Zcn {i j:Nat}{x y:Str}{a b:Expr}{ta:TA}{px py pt:Pos}{kt k2 pt2}(hc:X.calm=true) (hN:X.N.Nodup) (hi:X.N[i]? = some x) (hj:X.N[j]? = some y) (hij:i≠j)
  (hx:X.env.scope.names.lookup x=some .local) (hy:X.env.scope.names.lookup y=some .local) (ha:PA X [a,b] ta)
  (hw:swappedStores [.Tuple [.Name x px,.Name y py] kt pt] (.Tuple [a,b] k2 pt2) X.env=pure (some [x,y]))
  (hs:swapsWithSole [.Tuple [.Name x px,.Name y py] kt pt] (.Tuple [a,b] k2 pt2) pos.line X.env=pure false:=by rfl) :
  PS X (.Assign [.Tuple [.Name x px,.Name y py] kt pt] (.Tuple [a,b] k2 pt2) pos) (ZdW i j ta):=by
 intro pq s σ H D I h;rw[exec_Assign_arm];refine Pa (NS ?_);rw[hs];refine Pa (Pi ?_);rw[Pj (by decide)]
 refine Pa (Tuple_ (thn (ha _ pq s σ H _ I h) λus s1 ⟨vs,H1,I1,r1,q1⟩=>?_))
 obtain⟨v,w,e1,q1⟩:=q1;subst e1;obtain⟨u1,u2,rfl,rv,rw'⟩:∃u1 u2,us=[u1,u2]/\ZI v u1/\ZI w u2:=by
  cases r1 with
  |cons p q=>
   cases q with
   |cons p' q'=>
    cases q';exact⟨_,_,rfl,p,p'⟩
 refine PV ?_ (by show 2<=sizeLine;decide)
 have I2:Inv X pq σ H1 { s1 with heap:=s1.heap.push { cls:=.type "tuple",data:=.seq [u1,u2].toArray } }:=I1.kept (t':=s1.toks) λb o e=>Pf _ e
 rw[hw];refine Pa (Pi ?_);show wpAny (model X.prog X.w) X.A (do rule "assign.swapped-stores";let items <-unpackItems (.ref s1.heap.objs.size) 2 none;assignInOrder [λv=>bindName X.env y v,λv=>bindName X.env x v] items.reverse;pure Flow.next) _ _ _
 refine Pa (Kg (Pa (unpackItems_tuple (items:=#[u1,u2]) (I.ok.hd hc) (Kz s1.heap _) λh' hx'=>?_)))
 have I3:=I2.kept (h':=h') (t':=s1.toks) λb o e=>hx' b o (P3 (Pz e)) e
 show wpAny _ _ (assignInOrder [λv=>bindName X.env y v,λv=>bindName X.env x v] [u2,u1] >>= λ_=>pure Flow.next) _ _ _
 refine Pa (assignInOrder_cons (wpAny_bindName (VE I3 hN hj (.inl hy) rw' (λs2 I4=>?_) (.inr hy))))
 refine assignInOrder_cons (wpAny_bindName (VE I4 hN hi (.inl hx) rv (λs3 I5=>assignInOrder_nil (Pi ?_)) (.inr hx)))
 rw[List.set_comm _ _ (Ne.symm hij)] at I5;exact⟨_,H1,I5,q1⟩
def Zd5 (i:Nat) (te:TE) (ti:TIp):TS:=λD σ H=>∃x,σ[i]? = some (some x)/\te σ H λy H1=>ti x y H1 λz H2=>D.nx (σ.set i (some z)) H2
theorem Zcf {i:Nat}{x:Str}{e:Expr}{te:TE}{op:Operator}{ti:TIp}{pos':Pos}(hN:X.N.Nodup) (hi:X.N[i]? = some x) (hx:Loc X.env.scope x) (he:PE X e te) (ho:PIp X op ti) (hf:X.fn x=true\/X.env.scope.names.lookup x=some .local:=by first | exact .inl rfl | exact .inr rfl | assumption) :
  PS X (.AugAssign (.Name x pos') op e pos) (Zd5 i te ti):=by
 intro pq s σ H D I h;obtain⟨v,e1,h⟩:=h;obtain⟨m,hn,hl⟩:=I.loc;have vis:Vis X.env.scope x:=by rcases hx with k | k;exact .inl k;exact .inr (.inl k)
 obtain⟨u,r,l⟩:=hl i x v hi e1 vis;refine wpAny_AugAssign_Name ?_;have go:wpAny (model X.prog X.w) X.A (eval e X.env) (λw s₂=>wpAny (model X.prog X.w) X.A (inplaceOp op u w) (λr s₃=>wpAny (model X.prog X.w) X.A (storeName X.env x r) (λ_=>SP X pq D .next) X.xe s₃) X.xe s₂) X.xe s:=by
  refine thn (he pq s σ H _ I h) λw s1 ⟨y,H1,I1,r1,q1⟩=>?_
  refine thn (ho pq s1 σ H1 v y u w _ I1 r r1 q1) λz s2 ⟨zv,H2,I2,r2,q2⟩=>?_
  exact VE I2 hN hi hx r2 (λs3 I3=>⟨_,H2,I3,q2⟩) hf
 rcases l with ⟨hk,hm⟩ | ⟨hk,c,hc,hcell⟩
 ·exact wpAny_loadName_local I.ok.kind hk hn hm go
 ·rcases hk with hk | hk
  ·exact wpAny_loadName_cell I.ok.kind hk hc hcell go
  ·rcases hx with k | k
   ·have:X.env.scope.names.lookup x=some .free:=hk
    rw[k] at this;cases this
   ·have:X.env.scope.names.lookup x=some .free:=hk
    rw[k] at this;cases this
end
section
variable {X:Cx}{pos:Pos}
def ZcP (c:TT) (tb:TS):TS:=λD σ H=>∃W:Nat->St->Hp->Prop,(∃m,W m σ H)/\∀m σ H,W m σ H->
 c σ H λb H1=>if b=true then ∃N:St->Hp->Prop,(∀σ' H',N σ' H'->∃m',m'<m/\W m' σ' H')/\tb { D with nx:=N,ct:=N,bk:=D.nx } σ H1 else D.nx σ H1
theorem uY {c:Expr}{body:List Stmt}{tc:TT}{tb:TS}(hp:PassesOwn (model X.prog X.w) X.A X.env X.xe) (hc:PT X c tc) (hb:PSs X body tb):PS X (.While c body [] pos) (ZcP tc tb):=by
 intro pq s σ H D I h;obtain⟨W,⟨m0,w0⟩,turn⟩:=h;refine wpAny_While (codeAny_whileLoop (λn s'=>∃σ' H',Inv X pq σ' H' s'/\W n σ' H') ?_ m0 ⟨σ,H,I,w0⟩)
 rintro n s1 ⟨σ1,H1,I1,w1⟩
 refine N6 hp (thn (hc pq s1 σ1 H1 _ I1 (turn n σ1 H1 w1)) λb s2 ⟨H2,I2,q2⟩=>?_)
 cases b with
 |true=>
  obtain⟨N,hN,q2⟩:=q2;rw[Ph rfl];refine N6 hp (thn (hb pq s2 σ1 H2 _ I2 q2) λf s3 q3=>?_)
  cases f with
  |next=>
   obtain⟨σ3,H3,I3,n3⟩:=q3;obtain⟨m',hm,w3⟩:=hN σ3 H3 n3;exact⟨m',hm,σ3,H3,I3,w3⟩
  |cont=>
   obtain⟨σ3,H3,I3,n3⟩:=q3;obtain⟨m',hm,w3⟩:=hN σ3 H3 n3;exact⟨m',hm,σ3,H3,I3,w3⟩
  |brk=>exact q3
  |ret v=>exact q3
 |false=>
  rw[Pj Px];exact wpAny_execs_nil ⟨σ1,H2,I2,q2⟩
end
structure It where
 go:Nat->Hp->Prop
 yld:Nat->Hp->V->Hp->Prop
 stop:Nat->Hp->Prop
def VC (X:Cx) (pq:List (Addr×Obj)) (H:Hp) (b:Addr):Prop:=
 H b=none/\b≠X.env.locals/\b∉X.fs/\(b∈X.ex\/X.s₀.heap.objs.size<=b)/\(∀x c,X.env.cells.lookup x=some c->c≠b)/\∀p∈X.pn++pq,p.1≠b
theorem Inv.fpOk {X:Cx}{pq:List (Addr×Obj)}{σ:St}{H H':Hp}{s:Shared}{b:Addr}(I:Inv X pq σ H s) (hb:s.heap.objs.size<=b) (hn:H' b=none):VC X pq H' b:=by
 refine⟨hn,Nat.ne_of_gt (PN I.lt hb),I.nofs hb,.inr (P4 I.sz hb),λx c e z=>?_,λp hp z=>?_⟩
 ·obtain⟨v,q⟩:=I.cell x c e
  exact absurd (PN q.lt (by rw[z];exact hb)) (P2 _)
 ·exact absurd (PN (Pz (I.pin p hp).1) (by rw[z];exact hb)) (P2 _)
structure Turn (P:Program) (w:World) (K:PySem.W.Frag) (tg:Expr) (J:It) (fp:List Addr) (it:Addr) (tn:Nat->Heap->Prop):Prop where
 mem:it∈fp
 obj:∀i h,tn i h->∀b∈fp,∃o,h.get? b=some o/\∀v,o.data≠.cell v
 keep:∀i h h',tn i h->(∀b∈fp,∀o,h.get? b=some o->h'.get? b=some o)->tn i h'
 item:∀(X:Cx),X.prog=P->X.w=w->X.K=K->X.calm=true->∀(i:Nat) (pq:List (Addr×Obj)) (s:Shared) (σ:St) (H:Hp) (E:Value->Shared->Prop),Inv X pq σ H s->(∀b∈fp,VC X pq H b)->tn i s.heap->J.go i H->
  wpAny (model P w) X.A (pyNext (.ref it)) (λr s1=>∃u,r=some u/\
   wpAny (model P w) X.A (letOwnedTupleGo tg (.ref it) u) (λ_ s2=>∃x H',Inv X pq σ H' s2/\ZI x u/\J.yld i H x H'/\tn (i+1) s2.heap/\∀b∈fp,H' b=none) E s1) E s
 done:∀(X:Cx),X.prog=P->X.w=w->X.K=K->X.calm=true->∀(i:Nat) (pq:List (Addr×Obj)) (s:Shared) (σ:St) (H:Hp) (E:Value->Shared->Prop),Inv X pq σ H s->(∀b∈fp,VC X pq H b)->tn i s.heap->J.stop i H->
  wpAny (model P w) X.A (pyNext (.ref it)) (λr s1=>r=none/\Inv X pq σ H s1) E s
 self:∀(A:Around) (i:Nat) (s:Shared) (Q:Value->Shared->Prop) (E:Value->Shared->Prop),tn i s.heap->Q (.ref it) s->wpAny (model P w) A (pyIter (.ref it)) Q E s
abbrev TI:=St->Hp->(It->Hp->Prop)->Prop
def PIE (X:Cx) (pq:List (Addr×Obj)) (σ:St) (tg:Expr) (R:It->Hp->Prop) (itv:Value) (s2:Shared):Prop:=
 ∃(it:Addr) (fp:List Addr) (tn:Nat->Heap->Prop) (J:It) (H':Hp),itv=.ref it/\Inv X pq σ H' s2/\Turn X.prog X.w X.K tg J fp it tn/\tn 0 s2.heap/\(∀b∈fp,VC X pq H' b)/\R J H'
def PI (X:Cx) (tg iter:Expr) (wi:TI):Prop:=
 ∀(pq:List (Addr×Obj)) (s:Shared) (σ:St) (H:Hp) (R:It->Hp->Prop),Inv X pq σ H s->wi σ H R->
  wpAny (model X.prog X.w) X.A (eval iter X.env) (λv s1=>wpAny (model X.prog X.w) X.A (pyIter v) (PIE X pq σ tg R) X.xe s1) X.xe s
theorem zd {M:Model}{A:Around}{E:Value->Shared->Prop}{s:Shared}{tg:Expr}{it:Addr}{u:Value}{o:Obj}{n:String}{vs:Array Value}{Q:Unit->Shared->Prop}(ho:s.heap.get? it=some o) (hc:o.cls=.type n) (hd:o.data=.fields vs)
  (hn:["enumerate","zip","dict_itemiterator","dict_reverseitemiterator","odict_iterator","itertools.zip_longest","itertools.pairwise"].contains n=false) (hQ:Q () s):wpAny M A (letOwnedTupleGo tg (.ref it) u) Q E s:=by
 unfold letOwnedTupleGo;cases tg <;> first
  |exact Pi hQ
  |(cases u <;> first
    |exact Pi hQ
    |(refine Pa (wpAny_load ho ?_)
      rw[hc,hd];show wpAny M A (if (["enumerate","zip","dict_itemiterator","dict_reverseitemiterator","odict_iterator","itertools.zip_longest","itertools.pairwise"].contains n&&vs[0]? == some (rawInt _))=true then _ else _) Q E s
      rw[Pj (by intro h;rw[hn,Bool.false_and] at h;cases h)]
      exact Pi hQ))
noncomputable def Itl (K:PySem.W.Frag) (a:Addr):It:=
 ⟨λi H=>∃xs x,SqL K H a xs/\xs[i]? = some x,λi H x H'=>H'=H/\∀xs,SqL K H a xs->xs[i]? = some x,λi H=>∃xs,SqL K H a xs/\xs.length<=i⟩
noncomputable def Itt (K:PySem.W.Frag) (a:Addr):It:=
 ⟨λi H=>∃xs x,SqT K H a xs/\xs[i]? = some x,λi H x H'=>H'=H/\∀xs,SqT K H a xs->xs[i]? = some x,λi H=>∃xs,SqT K H a xs/\xs.length<=i⟩
noncomputable def Itr (lo:Int) (n:Nat):It:=⟨λi _=>i<n,λi H x H'=>H'=H/\x=.int (lo+i),λi _=>n<=i⟩
theorem ve {P:Program}{w:World}{K:PySem.W.Frag}{tg:Expr}(a it:Addr):Turn P w K tg (Itl K a) [it] it (λi h=>h.IsListIter it a i) where
 mem:=by simp
 obj:=λi h st b hb=>by
  have e:b=it:=by simpa using hb
  subst e;obtain⟨o,e,c,d⟩:=st;exact⟨o,e,λv z=>by rw[d] at z;cases z⟩
 keep:=λi h h' st k=>st.at λo e=>k it (by simp) o e
 item:=by
  intro X hP hw hK hc i pq s σ H E I hf st hg;subst hP hw hK;obtain⟨xs,x,hq,hx⟩:=hg;obtain⟨its,rv,p,hz⟩:=I.list hq;obtain⟨u,hu,ru⟩:=rv.get hx;obtain⟨f0,f1,f2,f3,f4,f5⟩:=hf it (by simp)
  refine wpAny_pyNext_list_item st p.isList (x:=u) (by simpa using hu) λh' st' sb=>?_
  have I1:Inv X pq σ H { s with heap:=h' }:=I.turned (t':=s.toks) (λb o hb e=>(sb.2 b hb).trans e) f0 f1 f3 f4 f5
  obtain⟨o,e,c,d⟩:=id st';exact⟨u,rfl,zd (s:={ s with heap:=h' }) e c d (by decide) ⟨x,H,I1,ru,⟨rfl,λys hy=>by rw[I.list_inj hy hq];exact hx⟩,st',λb hb=>(hf b hb).1⟩⟩
 done:=by
  intro X hP hw hK hc i pq s σ H E I hf st hg;subst hP hw hK;obtain⟨xs,hq,hx⟩:=hg;obtain⟨its,rv,p,hz⟩:=I.list hq;obtain⟨f0,f1,f2,f3,f4,f5⟩:=hf it (by simp)
  have hl:=rv.length;exact wpAny_pyNext_list_end (I.ok.hd hc) st p.isList (by simp;omega) λh' eb=>⟨rfl,I.turned (t':=s.toks) (λb o hb e=>eb b o hb e) f0 f1 f3 f4 f5⟩
 self:=λ_ _ _ _ _ st h=>wpAny_pyIter_listiter st h
theorem yH {P:Program}{w:World}{K:PySem.W.Frag}{tg:Expr}(a it:Addr):Turn P w K tg (Itt K a) [it] it (λi h=>h.IsTupleIter it a i) where
 mem:=by simp
 obj:=λi h st b hb=>by
  have e:b=it:=by simpa using hb
  subst e;obtain⟨o,e,c,d⟩:=st;exact⟨o,e,λv z=>by rw[d] at z;cases z⟩
 keep:=λi h h' st k=>st.at λo e=>k it (by simp) o e
 item:=by
  intro X hP hw hK hc i pq s σ H E I hf st hg;subst hP hw hK;obtain⟨xs,x,hq,hx⟩:=hg;obtain⟨its,rv,p,hz⟩:=I.tuple hq;obtain⟨u,hu,ru⟩:=rv.get hx;obtain⟨f0,f1,f2,f3,f4,f5⟩:=hf it (by simp)
  refine wpAny_pyNext_tuple_item st (show s.heap.IsTuple a its.toArray from p) (x:=u) (by simpa using hu) λh' st' sb=>?_
  have I1:Inv X pq σ H { s with heap:=h' }:=I.turned (t':=s.toks) (λb o hb e=>(sb.2 b hb).trans e) f0 f1 f3 f4 f5
  obtain⟨o,e,c,d⟩:=id st';exact⟨u,rfl,zd (s:={ s with heap:=h' }) e c d (by decide) ⟨x,H,I1,ru,⟨rfl,λys hy=>by rw[I.tuple_inj hy hq];exact hx⟩,st',λb hb=>(hf b hb).1⟩⟩
 done:=by
  intro X hP hw hK hc i pq s σ H E I hf st hg;subst hP hw hK;obtain⟨xs,hq,hx⟩:=hg;obtain⟨its,rv,p,hz⟩:=I.tuple hq;obtain⟨f0,f1,f2,f3,f4,f5⟩:=hf it (by simp)
  have hl:=rv.length;exact wpAny_pyNext_tuple_end (I.ok.hd hc) st (show s.heap.IsTuple a its.toArray from p) (by simp;omega) λh' eb=>⟨rfl,I.turned (t':=s.toks) (λb o hb e=>eb b o hb e) f0 f1 f3 f4 f5⟩
 self:=λ_ _ _ _ _ st h=>wpAny_pyIter_tupleiter st h
theorem y6 {P:Program}{w:World}{K:PySem.W.Frag}{tg:Expr}(it:Addr) (lo:Int) (n:Nat):Turn P w K tg (Itr lo n) [it] it (λi h=>IsRangeIter h it (lo+(i:Nat)*1) ((n:Int)-(i:Nat)) 1) where
 mem:=by simp
 obj:=λi h st b hb=>by
  have e:b=it:=by simpa using hb
  subst e;exact⟨_,st,λv z=>by
   have z':Data.fields _=Data.cell v:=z;cases z'⟩
 keep:=λi h h' st k=>k it (by simp) _ st
 item:=by
  intro X hP hw hK hc i pq s σ H E I hf st hg;subst hP hw hK;obtain⟨f0,f1,f2,f3,f4,f5⟩:=hf it (by simp)
  have W:=Walks.range (prog:=X.prog) (w:=X.w) (I.ok.hd hc) it lo 1 n;refine W.item i s _ _ hg st λv h' tk hv st' kk=>?_
  obtain⟨t,rfl⟩:=hv;have I1:Inv X pq σ H { s with heap:=h',toks:=tk }:=I.turned (λb o hb e=>kk b o (by simpa using hb) e) f0 f1 f3 f4 f5
  refine⟨_,rfl,zd (s:={ s with heap:=h',toks:=tk }) (n:="range_iterator") st' rfl rfl (by decide) ⟨.int (lo+i),H,I1,⟨t,?_⟩,⟨rfl,rfl⟩,st',λb hb=>(hf b hb).1⟩⟩
  rw[Int.mul_one]
 done:=by
  intro X hP hw hK hc i pq s σ H E I hf st hg;subst hP hw hK;obtain⟨f0,f1,f2,f3,f4,f5⟩:=hf it (by simp)
  exact wpAny_pyNext_range_end (I.ok.hd hc) st (by have:n<=i:=hg;omega) λh' eb=>⟨rfl,I.turned (t':=s.toks) (λb o hb e=>eb b o hb e) f0 f1 f3 f4 f5⟩
 self:=λ_ _ _ _ _ st h=>KB st h
section
variable {X:Cx}{tg:Expr}
theorem zq {pq:List (Addr×Obj)}{σ:St}{H:Hp}{s:Shared}{R:It->Hp->Prop}{E:Value->Shared->Prop}{lo hi:Int}{t u v:Tok}{tk:Nat}(I:Inv X pq σ H s) (h1:-(2^62)<=lo) (h2:lo<2^62) (h3:-(2^62)<=hi) (h4:hi<2^62)
  (q:R (Itr lo (hi-lo).toNat) H):wpAny (model X.prog X.w) X.A (pyIter (.ref s.heap.objs.size)) (PIE X pq σ tg R) E { s with heap:=s.heap.push { cls:=.type "range",data:=.fields #[.int lo t,.int hi u,.int 1 v] },toks:=tk }:=by
 refine wpAny_pyIter_range (IsRange.new ..) (small_one h1 h2 h3 h4) ?_;have I1:Inv X pq σ H { s with heap:=s.heap.push { cls:=.type "range",data:=.fields #[.int lo t,.int hi u,.int 1 v] },toks:=tk }:=I.kept λb o e=>Pf _ e
 refine⟨(s.heap.push { cls:=.type "range",data:=.fields #[.int lo t,.int hi u,.int 1 v] }).objs.size,[(s.heap.push { cls:=.type "range",data:=.fields #[.int lo t,.int hi u,.int 1 v] }).objs.size],_,_,H,rfl,
  I1.kept (t':=tk) λb o e=>Pf _ e,y6 _ lo (hi-lo).toNat,?_,λb hb=>?_,q⟩
 ·have e1:lo+((0:Nat):Int)*1=lo:=by simp
  have e2:(((hi-lo).toNat:Nat):Int)-((0:Nat):Int)=Builtin.Range.rangeSize lo hi 1:=by rw[rangeSize_one];split <;> omega
  show IsRangeIter _ _ (lo+((0:Nat):Int)*1) ((((hi-lo).toNat:Nat):Int)-((0:Nat):Int)) 1;rw[e1,e2];exact Pq _ rfl
 ·have e:b=(s.heap.push { cls:=.type "range",data:=.fields #[.int lo t,.int hi u,.int 1 v] }).objs.size:=by simpa using hb
  subst e;exact I1.fpOk (Pk _) (I1.hok.fresh (Pk _))
def ZdG (ta:TA):TI:=λσ H R=>ta σ H λvs H1=>∃j:Int,vs=[.int j]/\-(2^62)<=j/\j<2^62/\R (Itr 0 j.toNat) H1
def ZcZ (ta:TA):TI:=λσ H R=>ta σ H λvs H1=>∃i j:Int,vs=[.int i,.int j]/\(-(2^62)<=i/\i<2^62/\-(2^62)<=j/\j<2^62)/\R (Itr i (j-i).toNat) H1
theorem wX {a:Expr}{ta:TA}{p pos:Pos}(hg:Gl X "range") (hm:X.mg "range" = none) (ha:PA X [a] ta) (hs:starEach [a] X.env=[(false,eval a X.env)]:=by rfl):PI X tg (.Call (.Name "range" p) [a] [] pos) (ZdG ta):=by
 intro pq s σ H R I h;refine Call_ (YF I hg hm boot_range (PZ (thn (ha pos pq s σ H _ I h) λus s1 ⟨vs,H1,I1,r1,q1⟩=>?_) hs rfl))
 obtain⟨j,e,q1,q2,q⟩:=q1;subst e;cases r1 with
 |cons r rr=>
  cases rr;obtain⟨t,rfl⟩:=r;exact call_range_1 (zq I1 (by omega) (by omega) q1 q2 (by simpa using q))
theorem wT {a b:Expr}{ta:TA}{p pos:Pos}(hg:Gl X "range") (hm:X.mg "range" = none) (ha:PA X [a,b] ta) (hs:starEach [a,b] X.env=[(false,eval a X.env),(false,eval b X.env)]:=by rfl) (hs2:starEach [b] X.env=[(false,eval b X.env)]:=by rfl) :
  PI X tg (.Call (.Name "range" p) [a,b] [] pos) (ZcZ ta):=by
 intro pq s σ H R I h;refine Call_ (YF I hg hm boot_range (PZ (thn (ha pos pq s σ H _ I h) λus s1 ⟨vs,H1,I1,r1,q1⟩=>?_) (by rw[hs,hs2]) (by rw[hs2];rfl)))
 obtain⟨i,j,e,⟨q1,q2,q3,q4⟩,q⟩:=q1;subst e;cases r1 with
 |cons r rr=>
  cases rr with
  |cons r' rr=>
   cases rr;obtain⟨t,rfl⟩:=r;obtain⟨t',rfl⟩:=r';exact call_range_2 (zq I1 q1 q2 q3 q4 q)
def Zd1 (wi:TI) (g:TG) (tb:TS):TS:=λD σ H=>wi σ H λJ H1=>∃W:Nat->Nat->St->Hp->Prop,(∃m,W 0 m σ H1)/\∀i m σ H,W i m σ H->
 (J.stop i H/\D.nx σ H)\/(J.go i H/\∃N:St->Hp->Prop,(∀σ' H',N σ' H'->∃m',m'<m/\W (i+1) m' σ' H')/\∀x H',J.yld i H x H'->g x σ H' λσ2 H2=>tb { D with nx:=N,ct:=N,bk:=D.nx } σ2 H2)
noncomputable def QE (fp:List Addr) (h:Heap):List (Addr×Obj):=fp.filterMap λb=>(h.get? b).map λo=>(b,o)
theorem X7 {fp:List Addr}{h:Heap}{b:Addr}{o:Obj}(hb:b∈fp) (e:h.get? b=some o):(b,o)∈QE fp h:=List.mem_filterMap.mpr ⟨b,hb,by rw[e];rfl⟩
theorem w6 {fp:List Addr}{h:Heap}{p:Addr×Obj}(hp:p∈QE fp h):p.1∈fp/\h.get? p.1=some p.2:=by
 obtain⟨b,hb,e⟩:=List.mem_filterMap.mp hp;cases q:h.get? b with
 |none=>rw[q] at e;cases e
 |some o=>
  rw[q] at e;have e':(b,o)=p:=Pb e;subst e';exact⟨hb,q⟩
theorem Inv.pinned {pq:List (Addr×Obj)}{σ:St}{H:Hp}{s:Shared}{fp:List Addr}(I:Inv X pq σ H s) (hf:∀b∈fp,VC X pq H b) (ho:∀b∈fp,∃o,s.heap.get? b=some o/\∀v,o.data≠.cell v):Inv X (pq++QE fp s.heap) σ H s:=
 I.pins_of λp hp=>(Nd.mp hp).elim (λz=>I.pin p (P8 _ z)) λz=>by
  obtain⟨hb,e⟩:=w6 z;obtain⟨f0,f1,f2,_⟩:=hf p.1 hb;obtain⟨o,e',d⟩:=ho p.1 hb;rw[e] at e';cases e';exact⟨e,f0,f1,f2,d⟩
theorem Inv.unpinned {pq pl:List (Addr×Obj)}{σ:St}{H:Hp}{s:Shared}(I:Inv X (pq++pl) σ H s):Inv X pq σ H s:=I.pins_of λp hp=>I.pin p (P8 _ (Nc _ hp))
theorem Zb8 {iter:Expr}{body:List Stmt}{wi:TI}{g:TG}{tb:TS}{pos:Pos}(hp:PassesOwn (model X.prog X.w) X.A X.env X.xe) (hc:X.calm=true) (hi:PI X tg iter wi) (hg:PG X tg g) (hb:PSs X body tb)
  (hs:∀x,foldedSetIterable iter X.env x=pure x:=by intro _;rfl):PS X (.For tg iter body [] pos) (Zd1 wi g tb):=by
 intro pq s σ H D I h;refine wpAny_For (thn (hi pq s σ H _ I h) λv s1 h1=>thn h1 λitv s2 h2=>?_) hs
 obtain⟨it,fp,tn,J,H2,e,I2,T,st2,f2,W,⟨m0,w0⟩,turn⟩:=h2;subst e;have stat:∀{H':Hp},(∀b∈fp,H' b=none)->∀b∈fp,VC X pq H' b:=λhn b hb=>⟨hn b hb,(f2 b hb).2⟩
 refine codeAny_forLoop_any (λn s'=>∃i σ' H',Inv X pq σ' H' s'/\tn i s'.heap/\(∀b∈fp,H' b=none)/\W i n σ' H') ?_ m0 ⟨0,σ,H2,I2,st2,λb hb=>(f2 b hb).1,w0⟩
 rintro n s3 ⟨i,σ3,H3,I3,st3,fr3,w3⟩
 rcases turn i n σ3 H3 w3 with ⟨stop,qn⟩ | ⟨go,N,hN,step⟩
 ·refine N6 hp (thn (T.done X rfl rfl rfl hc i pq s3 σ3 H3 X.xe I3 (stat fr3) st3 stop) λr s4 ⟨hr,I4⟩=>?_)
  subst hr;exact wpAny_execs_nil ⟨σ3,H3,I4,qn⟩
 ·refine N6 hp (thn (T.item X rfl rfl rfl hc i pq s3 σ3 H3 X.xe I3 (stat fr3) st3 go) λr s4 ⟨u,hr,h4⟩=>?_)
  subst hr;refine N6 hp (thn h4 λ_ s5 ⟨x,H5,I5,r5,y5,st5,fr5⟩=>?_)
  have I5':=I5.pinned (stat fr5) (T.obj _ _ st5);refine N6 hp (thn (hg _ s5 σ3 H5 x u _ I5' r5 (step x H5 y5)) λ_ s6 ⟨σ6,H6,I6,q6⟩=>?_)
  refine N6 hp (thn (hb _ s6 σ6 H6 _ I6 q6) λf s7 q7=>?_)
  have again:∀{σ7:St} {H7:Hp},Inv X (pq++QE fp s5.heap) σ7 H7 s7->N σ7 H7->∃m,m<n/\∃i σ' H',Inv X pq σ' H' s7/\tn i s7.heap/\(∀b∈fp,H' b=none)/\W i m σ' H':=λ{σ7 H7} I7 n7=>by
   obtain⟨m',hm,w7⟩:=hN σ7 H7 n7;refine⟨m',hm,i+1,σ7,H7,I7.unpinned,T.keep _ _ _ st5 λb hb o e=>(I7.pin (b,o) (P8 _ (P8 _ (X7 hb e)))).1,λb hb=>?_,w7⟩
   obtain⟨o,e,d⟩:=T.obj _ _ st5 b hb;exact (I7.pin (b,o) (P8 _ (P8 _ (X7 hb e)))).2.1
  cases f with
  |next=>obtain⟨σ7,H7,I7,n7⟩:=q7;exact again I7 n7
  |cont=>obtain⟨σ7,H7,I7,n7⟩:=q7;exact again I7 n7
  |brk=>obtain⟨σ7,H7,I7,q7⟩:=q7;exact⟨σ7,H7,I7.unpinned,q7⟩
  |ret v=>obtain⟨x7,σ7,H7,I7,r7,q7⟩:=q7;exact⟨x7,σ7,H7,I7.unpinned,r7,q7⟩
end
abbrev R2:=V->V->Hp->VK->Prop
def OpR (X:Cx) (f:Value->Value->Sem Value) (r:R2):Prop:=
 ∀(pq:List (Addr×Obj)) (s:Shared) (σ:St) (H:Hp) (x y:V) (v u:Value) (Q:VK),Inv X pq σ H s->ZI x v->ZI y u->r x y H Q->
  wpAny (model X.prog X.w) X.A (f v u) (EP X pq σ Q) X.xe s
def UnR (X:Cx) (f:Value->Sem Value) (r:V->Hp->VK->Prop):Prop:=
 ∀(pq:List (Addr×Obj)) (s:Shared) (σ:St) (H:Hp) (x:V) (v:Value) (Q:VK),Inv X pq σ H s->ZI x v->r x H Q->
  wpAny (model X.prog X.w) X.A (f v) (EP X pq σ Q) X.xe s
def ZO (X:Cx) (f:Value) (r:List V->Hp->VK->Prop):Prop:=
 ∀(pq:List (Addr×Obj)) (s:Shared) (σ:St) (H:Hp) (xs:List V) (us:List Value) (Q:VK),Inv X pq σ H s->Vals xs us->r xs H Q->
  wpAny (model X.prog X.w) X.A (call f us) (EP X pq σ Q) X.xe s
def ZdV (X:Cx) (r:V->Hp->(Bool->Hp->Prop)->Prop):Prop:=
 ∀(pq:List (Addr×Obj)) (s:Shared) (σ:St) (H:Hp) (x:V) (v:Value) (Q:Bool->Hp->Prop),Inv X pq σ H s->ZI x v->r x H Q->
  wpAny (model X.prog X.w) X.A (truthy v) (TP X pq σ Q) X.xe s
def tOp (r:R2) (ta tb:TE):TE:=λσ H Q=>ta σ H λx H1=>tb σ H1 λy H2=>r x y H2 Q
def tUn (r:V->Hp->VK->Prop) (ta:TE):TE:=λσ H Q=>ta σ H λx H1=>r x H1 Q
def rI (C:Int->Int->Prop) (g:Int->Int->V):R2:=λx y H Q=>∃i j,x=.int i/\y=.int j/\C i j/\Q (g i j) H
def rI0 (g:Int->Int->V):R2:=λx y H Q=>∃i j,x=.int i/\y=.int j/\Q (g i j) H
noncomputable def rU (g:Int->V):V->Hp->VK->Prop:=λx H Q=>∃i,x=.int i/\Q (g i) H
section
variable {X:Cx}{a b c:Expr}{ta tb tc:TE}{pos:Pos}
theorem ZcL (ha:PE X a ta) (hb:PE X b tb) {pq:List (Addr×Obj)}{s:Shared}{σ:St}{H:Hp}{R:V->V->Hp->Prop}(I:Inv X pq σ H s)
  (h:ta σ H λx H1=>tb σ H1 λy H2=>R x y H2) {Q:Value->Shared->Prop} {f:Value->Value->Sem Value}
  (hf:∀v u s2 x y H2,Inv X pq σ H2 s2->ZI x v->ZI y u->R x y H2->wpAny (model X.prog X.w) X.A (f v u) Q X.xe s2) :
  wpAny (model X.prog X.w) X.A (eval a X.env) (λv s₁=>wpAny (model X.prog X.w) X.A (eval b X.env) (λu s₂=>wpAny (model X.prog X.w) X.A (f v u) Q X.xe s₂) X.xe s₁) X.xe s:=by
 refine thn (ha pq s σ H _ I h) λv s1 ⟨x,H1,I1,r1,q1⟩=>?_
 refine thn (hb pq s1 σ H1 _ I1 q1) λu s2 ⟨y,H2,I2,r2,q2⟩=>?_
 exact hf v u s2 x y H2 I2 r1 r2 q2
theorem Je {op:Operator}{r:R2}(ho:OpR X (binaryOp op) r) (ha:PE X a ta) (hb:PE X b tb):PE X (.BinOp a op b pos) (tOp r ta tb):=by
 intro pq s σ H Q I h;exact wpAny_BinOp (ZcL ha hb I h λv u s2 x y H2 I2 rx ry q=>ho pq s2 σ H2 x y v u Q I2 rx ry q)
theorem Zdv {op:UnaryOp}{r:V->Hp->VK->Prop}(ho:UnR X (unaryOp op) r) (ha:PE X a ta):PE X (.UnaryOp op a pos) (tUn r ta):=by
 intro pq s σ H Q I h;exact UnaryOp_ (thn (ha pq s σ H _ I h) λv s1 ⟨x,H1,I1,r1,q1⟩=>ho pq s1 σ H1 x v Q I1 r1 q1)
theorem opI {f:Value->Value->Sem Value}{C:Int->Int->Prop}{g:Int->Int->Int}
  (rule:∀(i j:Int) (t u:Tok) (s:Shared) (Q:Value->Shared->Prop) (E:Value->Shared->Prop),C i j->Q (.int (g i j) s.toks) { s with toks:=s.toks+1 }->wpAny (model X.prog X.w) X.A (f (.int i t) (.int j u)) Q E s) :
  OpR X f (rI C λi j=>.int (g i j)):=by
 intro pq s σ H x y v u Q I rx ry h;obtain⟨i,j,rfl,rfl,hc,q⟩:=h;obtain⟨t,rfl⟩:=rx;obtain⟨t',rfl⟩:=ry;exact rule i j t t' s _ _ hc ⟨.int (g i j),H,I.tok _,⟨_,rfl⟩,q⟩
theorem ZbX {f:Value->Value->Sem Value}{g:Int->Int->Int}
  (rule:∀(i j:Int) (t u:Tok) (s:Shared) (Q:Value->Shared->Prop) (E:Value->Shared->Prop),Q (.int (g i j) s.toks) { s with toks:=s.toks+1 }->wpAny (model X.prog X.w) X.A (f (.int i t) (.int j u)) Q E s) :
  OpR X f (rI0 λi j=>.int (g i j)):=by
 intro pq s σ H x y v u Q I rx ry h;obtain⟨i,j,rfl,rfl,q⟩:=h;obtain⟨t,rfl⟩:=rx;obtain⟨t',rfl⟩:=ry;exact rule i j t t' s _ _ ⟨.int (g i j),H,I.tok _,⟨_,rfl⟩,q⟩
theorem Zad {f:Value->Value->Sem Value}{g:Int->Int->Bool}
  (rule:∀(i j:Int) (t u:Tok) (s:Shared) (Q:Value->Shared->Prop) (E:Value->Shared->Prop),Q (.bool (g i j)) s->wpAny (model X.prog X.w) X.A (f (.int i t) (.int j u)) Q E s) :
  OpR X f (rI0 λi j=>.bl (g i j)):=by
 intro pq s σ H x y v u Q I rx ry h;obtain⟨i,j,rfl,rfl,q⟩:=h;obtain⟨t,rfl⟩:=rx;obtain⟨t',rfl⟩:=ry;exact rule i j t t' s _ _ ⟨.bl (g i j),H,I,rfl,q⟩
def CDiv (i j:Int):Prop:=0<j/\j<1073741824
def CPow (i j:Int):Prop:=0<=j/\j<=1000000/\i.natAbs<2^64
theorem ZbP:OpR X (binaryOp .Add) (rI0 λi j=>.int (i+j)):=ZbX λ_ _ _ _ _ _ _ q=>add_int q
theorem ZbH:OpR X (binaryOp .Sub) (rI0 λi j=>.int (i-j)):=ZbX λ_ _ _ _ _ _ _ q=>sub_int q
theorem ZaQ:OpR X (binaryOp .FloorDiv) (rI CDiv λi j=>.int (i / j)):=opI λi j _ _ _ _ _ hc q=>by
 have h1:(0:Int)<j:=hc.1;have h2:j<1073741824:=hc.2;exact floordiv_int (by omega) (by rw[Int.fdiv_eq_ediv_of_nonneg i (by omega)];exact q) (.inl (PyProof.noPylong_small (by omega)))
theorem ZcS:OpR X (binaryOp .Mod) (rI (λ_ j=>0<j) λi j=>.int (i%j)):=opI λi j _ _ _ _ _ hc q=>by
 have h1:(0:Int)<j:=hc;exact mod_int' (by omega) (by rw[Int.fmod_eq_emod_of_nonneg i (by omega)];exact q)
theorem ZbW:OpR X (binaryOp .Pow) (rI CPow λi j=>.int (i^j.toNat)):=opI λ_ _ _ _ _ _ _ hc q=>pow_int_small hc.1 hc.2.1 hc.2.2 q
theorem jX:OpR X (inplaceOp .Add) (rI0 λi j=>.int (i+j)):=ZbX λ_ _ _ _ _ _ _ q=>iadd_int q
theorem unI {f:Value->Sem Value}{g:Int->Int}
  (rule:∀(i:Int) (t:Tok) (s:Shared) (Q:Value->Shared->Prop) (E:Value->Shared->Prop),Q (.int (g i) s.toks) { s with toks:=s.toks+1 }->wpAny (model X.prog X.w) X.A (f (.int i t)) Q E s) :
  UnR X f (rU λi=>.int (g i)):=by
 intro pq s σ H x v Q I rx h;obtain⟨i,rfl,q⟩:=h;obtain⟨t,rfl⟩:=rx;exact rule i t s _ _ ⟨.int (g i),H,I.tok _,⟨_,rfl⟩,q⟩
theorem Zb4:UnR X (unaryOp .USub) (rU λi=>.int (-i)):=unI λ_ _ _ _ _ q=>neg_int q
end
noncomputable def scal:V->V->Bool
 |.non,.non=>true | .non,.int _=>true | .int _,.non=>true | .non,.bl _=>true | .bl _,.non=>true | .non,.str _=>true | .str _,.non=>true
 |.int _,.int _=>true | .bl _,.bl _=>true | .str _,.str _=>true | .byt _,.byt _=>true
 |.int _,.str _=>true | .str _,.int _=>true | .bl _,.str _=>true | .str _,.bl _=>true
 |_,_=>false
def rEq:R2:=λx y H Q=>scal x y=true/\Q (.bl (decide (x=y))) H
def rNe:R2:=λx y H Q=>scal x y=true/\Q (.bl (!decide (x=y))) H
theorem wd {i j:Int}:decide (V.int i=V.int j)=(i == j):=by
 rw[Nf];simp
theorem jh {i j:Bool}:decide (V.bl i=V.bl j)=(i == j):=by
 rw[Nf];simp
theorem xD {i j:Str}:decide (V.str i=V.str j)=(i == j):=by
 rw[Nf];simp
theorem wM {i j:Array UInt8}:decide (V.byt i=V.byt j)=(i.toList == j.toList):=by
 rw[Nf];cases i;cases j;simp
section
variable {X:Cx}{a b c:Expr}{ta tb tc:TE}{pos:Pos}
theorem Zz {pq:List (Addr×Obj)}{σ:St}{H:Hp}{s:Shared}{Q:VK}{k k':Bool}(I:Inv X pq σ H s) (q:Q (.bl k) H) (e:k=k'):EP X pq σ Q (.bool k') s:=by
 subst e;exact⟨.bl k,H,I,rfl,q⟩
theorem Zde:OpR X (compareOp .Eq) rEq:=by
 intro pq s σ H x y v u Q I rx ry h;obtain⟨hs,q⟩:=h;cases x with
 |non=>
  cases rx;cases y with
  |non=>cases ry;exact PySem.EqNone.eq_none_none (Zz I q (by simp))
  |bl j=>cases ry;exact PySem.EqNone.eq_none_bool (Zz I q (by simp))
  |int j=>obtain⟨t',rfl⟩:=ry;exact PySem.EqNone.eq_none_int (Zz I q (by simp))
  |str j=>obtain⟨t',rfl⟩:=ry;exact PySem.EqNone.eq_none_str (Zz I q (by simp))
  |_=>exact absurd (show false=true from hs) Px
 |bl i=>
  cases rx;cases y with
  |non=>cases ry;exact PySem.EqNone.eq_bool_none (Zz I q (by simp))
  |bl j=>cases ry;exact eq_bool (Zz I q jh)
  |str j=>obtain⟨t',rfl⟩:=ry;exact PySem.EqMixed.eq_bool_str (Zz I q (by simp))
  |_=>exact absurd (show false=true from hs) Px
 |int i=>
  obtain⟨t,rfl⟩:=rx;cases y with
  |non=>cases ry;exact PySem.EqNone.eq_int_none (Zz I q (by simp))
  |int j=>obtain⟨t',rfl⟩:=ry;exact eq_int (Zz I q wd)
  |str j=>obtain⟨t',rfl⟩:=ry;exact PySem.EqMixed.eq_int_str (Zz I q (by simp))
  |_=>exact absurd (show false=true from hs) Px
 |str i=>
  obtain⟨t,rfl⟩:=rx;cases y with
  |non=>cases ry;exact PySem.EqNone.eq_str_none (Zz I q (by simp))
  |bl j=>cases ry;exact PySem.EqMixed.eq_str_bool (Zz I q (by simp))
  |int j=>obtain⟨t',rfl⟩:=ry;exact PySem.EqMixed.eq_str_int (Zz I q (by simp))
  |str j=>obtain⟨t',rfl⟩:=ry;exact eq_str (Zz I q xD)
  |_=>exact absurd (show false=true from hs) Px
 |byt i=>
  obtain⟨t,rfl⟩:=rx;cases y with
  |byt j=>obtain⟨t',rfl⟩:=ry;exact PySem.W.eq_bytes (Zz I q wM)
  |_=>exact absurd (show false=true from hs) Px
 |_=>cases y <;> exact absurd (show false=true from hs) Px
theorem Zdl:OpR X (compareOp .NotEq) rNe:=by
 intro pq s σ H x y v u Q I rx ry h;obtain⟨hs,q⟩:=h;cases x with
 |non=>
  cases rx;cases y with
  |non=>cases ry;exact PySem.EqNone.ne_none_none (Zz I q (by simp))
  |bl j=>cases ry;exact PySem.EqNone.ne_none_bool (Zz I q (by simp))
  |int j=>obtain⟨t',rfl⟩:=ry;exact PySem.EqNone.ne_none_int (Zz I q (by simp))
  |str j=>obtain⟨t',rfl⟩:=ry;exact PySem.EqNone.ne_none_str (Zz I q (by simp))
  |_=>exact absurd (show false=true from hs) Px
 |bl i=>
  cases rx;cases y with
  |non=>cases ry;exact PySem.EqNone.ne_bool_none (Zz I q (by simp))
  |bl j=>cases ry;exact ne_bool (Zz I q (congrArg not jh))
  |str j=>obtain⟨t',rfl⟩:=ry;exact PySem.EqMixed.ne_bool_str (Zz I q (by simp))
  |_=>exact absurd (show false=true from hs) Px
 |int i=>
  obtain⟨t,rfl⟩:=rx;cases y with
  |non=>cases ry;exact PySem.EqNone.ne_int_none (Zz I q (by simp))
  |int j=>obtain⟨t',rfl⟩:=ry;exact ne_int (Zz I q (congrArg not wd))
  |str j=>obtain⟨t',rfl⟩:=ry;exact PySem.EqMixed.ne_int_str (Zz I q (by simp))
  |_=>exact absurd (show false=true from hs) Px
 |str i=>
  obtain⟨t,rfl⟩:=rx;cases y with
  |non=>cases ry;exact PySem.EqNone.ne_str_none (Zz I q (by simp))
  |bl j=>cases ry;exact PySem.EqMixed.ne_str_bool (Zz I q (by simp))
  |int j=>obtain⟨t',rfl⟩:=ry;exact PySem.EqMixed.ne_str_int (Zz I q (by simp))
  |str j=>obtain⟨t',rfl⟩:=ry;exact ne_str (Zz I q (congrArg not xD))
  |_=>exact absurd (show false=true from hs) Px
 |byt i=>
  obtain⟨t,rfl⟩:=rx;cases y with
  |byt j=>obtain⟨t',rfl⟩:=ry;exact PySem.W.ne_bytes (Zz I q (congrArg not wM))
  |_=>exact absurd (show false=true from hs) Px
 |_=>cases y <;> exact absurd (show false=true from hs) Px
theorem Zc3:OpR X (compareOp .Lt) (rI0 λi j=>.bl (decide (i<j))):=Zad λ_ _ _ _ _ _ _ q=>lt_int q
theorem Zdm:OpR X (compareOp .LtE) (rI0 λi j=>.bl (decide (i<=j))):=Zad λ_ _ _ _ _ _ _ q=>le_int q
theorem ZdH:OpR X (compareOp .Gt) (rI0 λi j=>.bl (decide (j<i))):=Zad λ_ _ _ _ _ _ _ q=>gt_int q
theorem ZcT:OpR X (compareOp .GtE) (rI0 λi j=>.bl (decide (j<=i))):=Zad λ_ _ _ _ _ _ _ q=>ge_int q
theorem ZcE:OpR X (compareOp .Is) (λx y H Q=>y=.non/\Q (.bl (decide (x=.non))) H):=by
 intro pq s σ H x y v u Q I rx ry h;obtain⟨rfl,q⟩:=h;cases ry;refine is_none_gen (Zz I q ?_);cases x <;> first
  |(cases rx;rfl)
  |(obtain⟨t,rfl⟩:=rx;rfl)
theorem ZaP:OpR X (compareOp .IsNot) (λx y H Q=>y=.non/\Q (.bl (!decide (x=.non))) H):=by
 intro pq s σ H x y v u Q I rx ry h;obtain⟨rfl,q⟩:=h;cases ry;refine isnot_none_gen (Zz I q ?_);cases x <;> first
  |(cases rx;rfl)
  |(obtain⟨t,rfl⟩:=rx;rfl)
theorem OpR.or {f:Value->Value->Sem Value}{r r':R2}(h:OpR X f r) (h':OpR X f r'):OpR X f (λx y H Q=>r x y H Q\/r' x y H Q):=by
 intro pq s σ H x y v u Q I rx ry q;rcases q with q | q
 ·exact h pq s σ H x y v u Q I rx ry q
 ·exact h' pq s σ H x y v u Q I rx ry q
theorem ZU (b:Expr) {op:CmpOp}(h:op≠.In:=by decide) (h2:op≠.NotIn:=by decide):behindInMarks op b=false:=by
 have e1:(op == CmpOp.In)=false:=by cases op <;> first | rfl | exact absurd rfl h
 have e2:(op == CmpOp.NotIn)=false:=by cases op <;> first | rfl | exact absurd rfl h2
 cases b <;> simp[behindInMarks,e1,e2]
theorem xE {op:CmpOp}{r:R2}(ho:OpR X (compareOp op) r) (ha:PE X a ta) (hb:PE X b tb) (hm:behindInMarks op b=false):PE X (.Compare a [op] [b] pos) (tOp r ta tb):=by
 intro pq s σ H Q I h;exact wpAny_Compare1 (ZcL ha hb I h λv u s2 x y H2 I2 rx ry q=>ho pq s2 σ H2 x y v u Q I2 rx ry q) hm
def Zbu (t:TE):TT:=λσ H Q=>t σ H λx H'=>∃k,x=.bl k/\Q k H'
theorem Zat {op:CmpOp}{r:R2}(ho:OpR X (compareOp op) r) (ha:PE X a ta) (hb:PE X b tb) (hm:behindInMarks op b=false):PT X (.Compare a [op] [b] pos) (Zbu (tOp r ta tb)):=by
 intro pq s σ H Q I h;refine wpAny_isTrue_Compare1 (thn (ha pq s σ H _ I h) λv s1 ⟨x,H1,I1,r1,q1⟩=>thn (hb pq s1 σ H1 _ I1 q1) λu s2 ⟨y,H2,I2,r2,q2⟩=>
  thn (ho pq s2 σ H2 x y v u _ I2 r1 r2 q2) λc s3 ⟨z,H3,I3,r3,k,e,q3⟩=>?_) hm
 subst e;cases r3;exact NC ⟨H3,I3,q3⟩
def qk (r r':R2) (ta tb tc:TE):TE:=λσ H Q=>ta σ H λx H1=>tb σ H1 λy H2=>r x y H2 λz H3=>∃k,z=.bl k/\
 (if k=true then tc σ H3 λw' H4=>r' y w' H4 Q else Q (.bl false) H3)
theorem qt {op op':CmpOp}{r r':R2}(ho:OpR X (compareOp op) r) (ho':OpR X (compareOp op') r') (ha:PE X a ta) (hb:PE X b tb) (hc:PE X c tc)
  (hm:lastMarks [op,op'] [b,c]=false:=by with_unfolding_all rfl):PE X (.Compare a [op,op'] [b,c] pos) (qk r r' ta tb tc):=by
 intro pq s σ H Q I h;refine Compare_chain (thn (ha pq s σ H _ I h) λv s1 ⟨x,H1,I1,r1,q1⟩=>chain_link (thn (hb pq s1 σ H1 _ I1 q1) λu s2 ⟨y,H2,I2,r2,q2⟩=>
  thn (ho pq s2 σ H2 x y v u _ I2 r1 r2 q2) λd s3 ⟨z,H3,I3,r3,k,e,q3⟩=>?_)) hm
 subst e;cases r3;refine NC ?_;cases k with
 |false=>exact ite_ff ⟨.bl false,H3,I3,rfl,q3⟩
 |true=>exact ite_tt (chain_last (thn (hc pq s3 σ H3 _ I3 q3) λw' s4 ⟨z',H4,I4,r4,q4⟩=>ho' pq s4 σ H4 y z' u w' Q I4 r2 r4 q4))
theorem jz {op op':CmpOp}{r r':R2}(ho:OpR X (compareOp op) r) (ho':OpR X (compareOp op') r') (ha:PE X a ta) (hb:PE X b tb) (hc:PE X c tc)
  (hm:lastMarks [op,op'] [b,c]=false:=by with_unfolding_all rfl):PT X (.Compare a [op,op'] [b,c] pos) (Zbu (qk r r' ta tb tc)):=by
 intro pq s σ H Q I h;refine isTrue_chain (thn (ha pq s σ H _ I h) λv s1 ⟨x,H1,I1,r1,q1⟩=>test_link (thn (hb pq s1 σ H1 _ I1 q1) λu s2 ⟨y,H2,I2,r2,q2⟩=>
  thn (ho pq s2 σ H2 x y v u _ I2 r1 r2 q2) λd s3 ⟨z,H3,I3,r3,k,e,q3⟩=>?_)) hm
 subst e;cases r3;refine NC ?_;cases k with
 |false=>
  obtain⟨k',e',q'⟩:=q3;cases e';exact ite_ff ⟨H3,I3,q'⟩
 |true=>
  refine ite_tt (test_last (thn (hc pq s3 σ H3 _ I3 q3) λw' s4 ⟨z',H4,I4,r4,q4⟩=>thn (ho' pq s4 σ H4 y z' u w' _ I4 r2 r4 q4) λd' s5 ⟨z2,H5,I5,r5,k2,e2,q5⟩=>?_))
  subst e2;cases r5;exact NC ⟨H5,I5,q5⟩
def jG (K:PySem.W.Frag) (x:V) (H:Hp) (k:Bool):Prop:=
 match x with
 |.non=>k=false
 |.bl b=>k=b
 |.int i=>k=(i != 0)
 |.str y=>y.length<=sizeLine/\k=((y.length:Int) != 0)
 |.byt y=>y.size<=sizeLine/\k=((y.size:Int) != 0)
 |.ref p=>(∃xs,SqL K H p xs/\k = !xs.isEmpty)\/(∃xs,SqT K H p xs/\k = !xs.isEmpty)\/∃kvs,H p=some (.dK kvs)/\k = !kvs.isEmpty
 |_=>False
theorem yT {κ:Type}{kvs:List (κ×V)}{vs:List (κ×Value)}(r:KV kvs vs):(!vs.isEmpty) = !kvs.isEmpty:=by
 cases r <;> rfl
theorem Qt {xs:List V}{its:List Value}(r:Vals xs its):(!its.toArray.isEmpty) = !xs.isEmpty:=by
 cases r <;> simp
theorem U0:(sizeLine:Nat)<2^63:=by rw[NJ];decide
theorem jc:ZdV X (λx H Q=>∃k,jG X.K x H k/\Q k H):=by
 intro pq s σ H x v Q I rx h;obtain⟨k,e,q⟩:=h;have hl:=U0;have hs:sizeLine=16777216:=NJ;cases x with
 |non=>
  cases rx;have e':k=false:=e;subst e';exact truthy_none ⟨H,I,q⟩
 |bl b=>
  cases rx;have e':k=b:=e;subst e';exact NC ⟨H,I,q⟩
 |int i=>
  obtain⟨t,rfl⟩:=rx;have e':k=(i != 0):=e;subst e';exact PySem.P.truthy_int ⟨H,I,q⟩
 |str y=>
  obtain⟨t,rfl⟩:=rx;obtain⟨hy,e'⟩:y.length<=sizeLine/\k=((y.length:Int) != 0):=e;subst e';exact PySem.P.truthy_str (by omega) ⟨H,I.tok _,q⟩
 |byt y=>
  obtain⟨t,rfl⟩:=rx;obtain⟨hy,e'⟩:y.size<=sizeLine/\k=((y.size:Int) != 0):=e;subst e';exact PySem.W.truthy_bytes (by omega) ⟨H,I.tok _,q⟩
 |ref p=>
  cases rx;have e':(∃xs,SqL X.K H p xs/\k = !xs.isEmpty)\/(∃xs,SqT X.K H p xs/\k = !xs.isEmpty)\/∃kvs,H p=some (.dK kvs)/\k = !kvs.isEmpty:=e;rcases e' with ⟨xs,hx,e'⟩ | ⟨xs,hx,e'⟩ | ⟨kvs,hx,e'⟩
  ·subst e'
   obtain⟨its,r,pl,hz⟩:=I.list hx;have hlen:=r.length;exact wpAny_truthy_list pl.isList (by simp only[Pg];omega) ⟨H,I.tok _,by rw[Qt r];exact q⟩
  ·subst e'
   obtain⟨its,r,pl,hz⟩:=I.tuple hx;have hlen:=r.length;exact truthy_tuple pl (by simp only[Pg];omega) ⟨H,I.tok _,by rw[Qt r];exact q⟩
  ·subst e'
   obtain⟨hz,hS,vs,r,m⟩:kvs.length<=sizeLine/\(p == sysModules)=false/\∃vs,KV kvs vs/\s.heap.DictOf (GK X.prog X.w) p vs:=I.hok p _ hx;have hlen:kvs.length=vs.length:=Paired.length r;exact wpAny_truthy_dict hS m (by omega) ⟨H,I.tok _,by rw[yT r];exact q⟩
 |_=>exact (show False from e).elim
theorem qu (ha:PE X a ta) (he:∀whole,isTrue a X.env whole=(do let v <-whole;standAt a.pos;holding [v] (truthy v))) :
  PT X a (λσ H Q=>ta σ H λx H'=>∃k,jG X.K x H' k/\Q k H'):=by
 intro pq s σ H Q I h;exact isTrue_plain (thn (ha pq s σ H _ I h) λv s1 ⟨x,H1,I1,r1,q1⟩=>jc pq s1 σ H1 x v Q I1 r1 q1) (he _)
theorem Uo {x:V}{us:List Value}(r:Vals [x] us):∃u,us=[u]/\ZI x u:=by
 cases r with
 |cons r1 r2=>cases r2;exact⟨_,rfl,r1⟩
theorem G1 {x y:V}{us:List Value}(r:Vals [x,y] us):∃u w',us=[u,w']/\ZI x u/\ZI y w':=by
 cases r with
 |cons r1 r2=>
  cases r2 with
  |cons r3 r4=>cases r4;exact⟨_,_,rfl,r1,r3⟩
theorem vh (hc:X.calm=true):ZO X (.builtin "max") (λxs H Q=>∃i j,xs=[.int i,.int j]/\Q (.int (if j>i then j else i)) H):=by
 intro pq s σ H xs us Q I r h;obtain⟨i,j,rfl,q⟩:=h;obtain⟨u,w',rfl,⟨t,rfl⟩,⟨t',rfl⟩⟩:=G1 r;refine max_two_ints (I.ok.hd hc) λh' tk k=>⟨_,H,I.kept k,?_,q⟩
 by_cases hj:j>i
 ·rw[Ph hj,Ph hj];exact⟨_,rfl⟩
 ·rw[Pj hj,Pj hj];exact⟨_,rfl⟩
theorem vV (hc:X.calm=true):ZO X (.builtin "min") (λxs H Q=>∃i j,xs=[.int i,.int j]/\Q (.int (if j<i then j else i)) H):=by
 intro pq s σ H xs us Q I r h;obtain⟨i,j,rfl,q⟩:=h;obtain⟨u,w',rfl,⟨t,rfl⟩,⟨t',rfl⟩⟩:=G1 r;refine min_two_ints (I.ok.hd hc) λh' tk k=>⟨_,H,I.kept k,?_,q⟩
 by_cases hj:j<i
 ·rw[Ph hj,Ph hj];exact⟨_,rfl⟩
 ·rw[Pj hj,Pj hj];exact⟨_,rfl⟩
theorem vt:ZO X (.type "int") (λxs H Q=>(∃i,xs=[.int i]/\Q (.int i) H)\/∃k,xs=[.bl k]/\Q (.int (if k then 1 else 0)) H):=by
 intro pq s σ H xs us Q I r h;rcases h with ⟨i,rfl,q⟩ | ⟨k,rfl,q⟩
 ·obtain⟨u,rfl,t,rfl⟩:=Uo r
  exact call_int_int ⟨.int i,H,I,⟨_,rfl⟩,q⟩
 ·obtain⟨u,rfl,r1⟩:=Uo r
  cases r1;exact call_int_bool ⟨.int (if k then 1 else 0),H,I.tok _,⟨_,rfl⟩,q⟩
end
structure ObjM (h:Heap) (x dx C:Addr) (mA:Str->Option Value):Prop where
 obj:h.get? x=some (PySem.W.instObj C dx)
 ns:h.Ns1 dx mA
 ne:dx≠x
theorem vY {h:Heap}{dx:Addr}{mA:Str->Option Value}(n:h.Ns1 dx mA):∃od,h.get? dx=some od/\∀name,PySem.W.lookIn name od=some (mA name):=by
 obtain⟨o,es,ep,ho,hd,hk,_,hm⟩:=n;refine⟨o,ho,λname=>?_⟩
 have e:=hm name;unfold nsFind findBy at e;rw[<-Array.find?_toList] at e;unfold PySem.W.lookIn;rw[hd]
 dsimp only
 split
 ·rename_i y q
  rw[q] at e;exact congrArg some e
 ·rename_i q
  rw[q] at e;have a:es.toList.any (·.refKey)=false:=by
   rw[List.any_eq_false];intro y hy;obtain⟨z,t,hkey⟩:=hk y (Array.mem_toList_iff.mp hy);simp[DictEntry.refKey,hkey]
  have a':¬es.toList.any (·.refKey)=true:=by rw[a];exact Px
  rw[Pj a'];exact congrArg some e
theorem ObjM.look {h:Heap}{x dx C:Addr}{mA:Str->Option Value}(I:ObjM h x dx C mA):∃od,PySem.W.InstAt h x (PySem.W.instObj C dx) C (some od)/\∀name,PySem.W.lookIn name od=some (mA name):=
 let ⟨od,ho,hl⟩:=vY I.ns
 ⟨od,⟨I.obj,rfl,rfl,ho⟩,hl⟩
section
variable {P:Program}{w:World}{H H':Hp}{h h':Heap}{a C dx:Addr}{fs fs':List (Str×V)}
theorem xT (hok:HOk P w H h) (e:H a=some (.ins C dx fs)):∃mA,ObjM h a dx C mA/\(∀f,ZcH (fs.lookup f) (mA f))/\PySem.Within mA (fs.map (·.1))/\fs.length<=1000/\H dx=some (.own a):=by
 obtain⟨d,z,ne,ob,mA,n,r,q⟩:=(show Z2 P w H h a (.ins C dx fs) from hok a _ e)
 exact⟨mA,⟨ob,n,ne⟩,r,q,z,d⟩
end
structure Cls (K:PySem.W.Frag) (C:Addr):Prop where
 pg:PySem.W.plainGet K C Str.empty=true
 hd:PySem.W.hasDictIn K C=true
 po:PySem.W.plainOver K C=true
 sa:PySem.W.findIn K (.ref C) "__setattr__" = some (some (.builtin "object.__setattr__"))
theorem Cls.get {K:PySem.W.Frag}{C:Addr}(c:Cls K C) (f:Str):PySem.W.plainGet K C f=true:=c.pg
section
variable {X:Cx}{pq:List (Addr×Obj)}{σ:St}{H:Hp}{s:Shared}{A:Around}{E:Value->Shared->Prop}{Q:Value->Shared->Prop}{c:Value}{b:Bool}
inductive TyOf (K:PySem.W.Frag) (H:Hp):V->Value->Prop where
 |non:TyOf K H .non (.type "NoneType")
 |bl (x:Bool):TyOf K H (.bl x) (.type "bool")
 |int (i:Int):TyOf K H (.int i) (.type "int")
 |str (x:Str):TyOf K H (.str x) (.type "str")
 |flt (x:UInt64):TyOf K H (.flt x) (.type "float")
 |lst {a:Addr} {xs:List V} (e:H a=some (.lst xs)):TyOf K H (.ref a) (.type "list")
 |frz {a:Addr} {o:Obj} {xs:List V} (e:H a=some (.frz o (.lst xs))):TyOf K H (.ref a) (.type "list")
 |tup {a:Addr} {xs:List V} (e:H a=some (.tup xs)):TyOf K H (.ref a) (.type "tuple")
 |dK {a:Addr} {kvs:List (Key×V)} (e:H a=some (.dK kvs)):TyOf K H (.ref a) (.type "dict")
 |dT {a:Addr} {kvs:List (List Key×V)} (e:H a=some (.dT kvs)):TyOf K H (.ref a) (.type "dict")
 |ins {a C dx:Addr} {fs:List (Str×V)} (e:H a=some (.ins C dx fs)) (cl:Cls K C) (ha:PySem.W.findIn K (.ref C) "__class__" = some (some (.builtin "object.__class__")))
   (hn:PySem.W.specialIn K (.builtin "object.__class__") "__get__" = some (some (.builtin "getset_descriptor.__get__"))) (htk:PySem.W.takesIn K (.builtin "object.__class__")=some true)
   (hm:PySem.W.mroIn K C (.type "object")=some true):TyOf K H (.ref a) (.ref C)
theorem vE {x:V}{u t:Value}(I:Inv X pq σ H s) (rx:ZI x u) (ty:TyOf X.K H x t) (e:PySem.W.kitOne X.K t c=some b) (h:∀tk,Q (.bool b) { s with toks:=tk }) :
  wpAny (model X.prog X.w) A (call (.builtin "isinstance") [u,c]) Q E s:=by
 cases ty with
 |non=>cases (show u=Value.none from rx);exact Nw PySem.W.kitx_none I.kIn True.intro e (λz=>nomatch z) h
 |bl y=>cases (show u=Value.bool y from rx);exact Nw PySem.W.kitx_bool I.kIn True.intro e (λz=>nomatch z) h
 |int i=>obtain⟨t,q⟩:=(show ∃t,u=Value.int i t from rx);cases q;exact Nw PySem.W.kitx_int I.kIn True.intro e (λz=>nomatch z) h
 |str y=>obtain⟨t,q⟩:=(show ∃t,u=Value.str y t from rx);cases q;exact Nw PySem.W.kitx_str I.kIn True.intro e (λz=>nomatch z) h
 |flt y=>obtain⟨t,q⟩:=(show ∃t,u=Value.float y t from rx);cases q;exact Nw PySem.W.kitx_float I.kIn True.intro e (λz=>nomatch z) h
 |@lst a xs ea=>
  cases (show u=Value.ref a from rx)
  obtain⟨_,_,n,_,h1⟩:=(show Z2 X.prog X.w H s.heap a (.lst xs) from I.hok a _ ea)
  exact Nw KC I.kIn ⟨_,h1,rfl⟩ e (λz=>nomatch z) h
 |@frz a ob xs ea=>
  cases (show u=Value.ref a from rx)
  obtain⟨_,_,_,n,_,h1⟩:=(show Z2 X.prog X.w H s.heap a (.frz ob (.lst xs)) from I.hok a _ ea)
  exact Nw KC I.kIn ⟨_,h1,rfl⟩ e (λz=>nomatch z) h
 |@tup a xs ea=>
  cases (show u=Value.ref a from rx)
  obtain⟨_,_,_,p⟩:=(show Z2 X.prog X.w H s.heap a (.tup xs) from I.hok a _ ea)
  obtain⟨o,h1,h2,_⟩:=p;exact Nw PySem.W.kitx_tuple I.kIn ⟨o,h1,h2⟩ e (λz=>nomatch z) h
 |@dK a kvs ea=>
  cases (show u=Value.ref a from rx)
  obtain⟨_,_,vs,_,p⟩:=(show Z2 X.prog X.w H s.heap a (.dK kvs) from I.hok a _ ea)
  obtain⟨o,es,ep,h1,h2,_⟩:=p;exact Nw KD I.kIn ⟨o,h1,h2.1⟩ e (λz=>nomatch z) h
 |@dT a kvs ea=>
  cases (show u=Value.ref a from rx)
  obtain⟨_,_,xs,_,o,es,ep,h1,h2,_⟩:=(show Z2 X.prog X.w H s.heap a (.dT kvs) from I.hok a _ ea)
  exact Nw KD I.kIn ⟨o,h1,h2.1⟩ e (λz=>nomatch z) h
 |@ins a C dx fs ea cl ha hn htk hm=>
  cases (show u=Value.ref a from rx)
  obtain⟨mA,O,_⟩:=xT I.hok ea;obtain⟨od,J,_⟩:=O.look;exact Nw (PySem.W.kitx_own (cl.get _) cl.hd ha hn htk hm) I.kIn J e (λz=>nomatch z) h
end
structure Room (k:Nat) (A:Around):Prop where
 hd:A.handled=none
 dp:A.depth+3*k+5<recursionLimit
 un:A.units+16*k+200<cLine
theorem Room.deeper {k:Nat}{A:Around}(r:Room (k+1) A) (env:Env):Room k (A.deeper env):=
 ⟨r.hd,by have:=r.dp;show A.depth+1+3*k+5<_;omega,by have:=r.un;show A.units+3+16*k+200<_;omega⟩
theorem Room.depth {k:Nat}{A:Around}(r:Room k A):A.depth<recursionLimit:=by have:=r.dp;omega
def ZdU:TA:=λ_ H Q=>Q [] H
def Zc6 (ta:TE) (tr:TA):TA:=λσ H Q=>ta σ H λx H1=>tr σ H1 λxs H2=>Q (x::xs) H2
section
variable {X:Cx}{e:Expr}{es:List Expr}{te:TE}{t:TA}{pos:Pos}
theorem J9:PA X [] ZdU:=λ_ _ _ _ H Q I h=>Calls.spliced_nil ⟨[],H,I,.nil,h⟩
theorem X3 (ha:PE X e te) (hr:PA X es t) (hs:starEach (e::es) X.env=(false,eval e X.env)::starEach es X.env:=by rfl):PA X (e::es) (Zc6 te t):=by
 intro pos pq s σ H Q I h;rw[hs];show wpAny _ _ (spliced ((false,eval e X.env)::backTo pos (starEach es X.env))) _ _ s;refine Calls.spliced_cons (thn (ha pq s σ H _ I h) λu s1 ⟨x,H1,I1,r1,q1⟩=>?_)
 exact thn (hr pos pq s1 σ H1 _ I1 q1) λus s2 ⟨xs,H2,I2,r2,q2⟩=>⟨x::xs,H2,I2,.cons r1 r2,q2⟩
def Zed (t:TA):TE:=λσ H Q=>t σ H λxs H1=>xs.length<=sizeLine/\∀p,H1 p=none->Q (.ref p) (upd H1 p (.tup xs))
def Zec (t:TA):TE:=λσ H Q=>t σ H λxs H1=>xs.length<=sizeLine/\∀p,H1 p=none->Q (.ref p) (upd H1 p (.lst xs))
theorem uz {x1}(h:PA X es t):PE X (.Tuple es x1 pos) (Zed t):=by
 intro pq s σ H Q I hq;refine wpAny_Tuple_spliced (thn (h pos pq s σ H _ I hq) λus s1 ⟨xs,H1,I1,r,z,q⟩=>⟨by rw[<-r.length];exact z,?_⟩)
 have hf:H1 s1.heap.objs.size=none:=I1.hok.fresh (Pk _);refine⟨.ref s1.heap.objs.size,upd H1 s1.heap.objs.size (.tup xs),I1.laid (t':=s1.toks) (λb u e=>Pf _ e) (Pk _) ?_,rfl,q _ hf⟩
 exact⟨z,us,r,⟨_,Pq _ rfl,rfl,_,rfl⟩⟩
theorem Zcj (h:PA X es t):PE X (.List es pos) (Zec t):=by
 intro pq s σ H Q I hq;refine wpAny_List_spliced (thn (h pos pq s σ H _ I hq) λus s1 ⟨xs,H1,I1,r,z,q⟩=>⟨by rw[<-r.length];exact z,?_⟩)
 have hf:H1 s1.heap.objs.size=none:=I1.hok.fresh (Pk _);refine⟨.ref s1.heap.objs.size,upd H1 s1.heap.objs.size (.lst xs),I1.laid (t':=s1.toks) (λb u e=>Pf _ e) (Pk _) ?_,rfl,q _ hf⟩
 exact⟨z,us,0,r,Pq _ rfl⟩
end
abbrev Sp:=List V->Hp->VK->XK->Prop
abbrev CXT:=List Env->Hp->Shared->XK->Value->Shared->Prop
structure Env0 (P:Program) (w:World) (K:PySem.W.Frag) (mg:Str->Option Value) (base:Heap) (A:Around) (outer:List Env) (s:Shared) (H:Hp):Prop where
 frames:A.frames=some outer
 mod:Mod K mg base
 bs:∀b o,base.get? b=some o->s.heap.get? b=some o/\H b=none
 bsz:base.objs.size<=s.heap.objs.size
 funs:s.heap.FunFrames base outer
 frf:∀b∈frs outer,H b=none
 hok:HOk P w H s.heap
 bare:AllBare s.gens
def CE (outer:List Env) (P:Program) (w:World) (H:Hp) (s:Shared) (Q:VK) (u:Value) (s':Shared):Prop:=
 ∃v H',s'.os=s.os/\AllBare s'.gens/\Un (frs outer) [] H H' s.heap s'.heap/\HOk P w H' s'.heap/\ZI v u/\Q v H'
def CR (CX:CXT) (outer:List Env) (P:Program) (w:World) (H:Hp) (s:Shared) (Q:VK) (E:XK) (r:Result) (s':Shared):Prop:=
 match r with
 |.ok (.ret u)=>CE outer P w H s Q u s'
 |.ok _=>False
 |.error e=>CX outer H s E e s'
structure FnOk (P:Program) (w:World) (K:PySem.W.Frag) (mg:Str->Option Value) (base:Heap) (CX:CXT) (k:Nat) (f:Addr) (fd:FuncData) (ps:List Str) (sp:Sp):Prop where
 len:∀vs H Q E,sp vs H Q E->vs.length=ps.length
 run:∀(A:Around) (outer:List Env) (s:Shared) (H:Hp) (args:Args) (us:List Value) (vs:List V) (Q:VK) (E:XK),Room k A->Env0 P w K mg base A outer s H->BindsTo s fd args (ps.zip us)->Vals vs us->sp vs H Q E->
  codeAny (model P w) A (.call (.ref f) args) (CR CX outer P w H s Q E) s
section
variable {X:Cx}{pq:List (Addr×Obj)}{σ:St}{H:Hp}{s s':Shared}
theorem Inv.env0 (I:Inv X pq σ H s):Env0 X.prog X.w X.K X.mg X.base X.A X.stack s H:=
 ⟨I.ok.frames,I.ok.mod,I.bs,P4 I.ok.bsz I.sz,I.stack,I.stkFree,I.hok,I.bare⟩
theorem Inv.after {Q:VK}{u:Value}(I:Inv X pq σ H s) (h:CE X.stack X.prog X.w H s Q u s'):EP X pq σ Q u s':=by
 obtain⟨v,H',os,bare,un,hok,r,q⟩:=h;obtain⟨hh,g,d,t,os'⟩:=s';obtain rfl:os'=s.os:=os;exact⟨v,H',I.call (h':=hh) (g':=g) (d':=d) (t':=t) (ch:=[]) un hok bare (λb z=>absurd z (by simp)),r,q⟩
end
def ZdL (sp:Sp) (dvs:List V) (E:XK) (t:TA):TE:=λσ H Q=>t σ H λvs H1=>sp (vs++dvs) H1 Q E
def QG (K:PySem.W.Frag) (fd:FuncData) (ps:List Str) (ds:List Value):Prop:=
 ∀(s:Shared) (us:List Value),K.In s.heap->(us++ds).length=ps.length->BindsTo s fd ⟨us,[]⟩ (ps.zip (us++ds))
theorem QG.all {K:PySem.W.Frag}{fd:FuncData}{ps:List Str}(h:∀us:List Value,us.length=ps.length->bindArgs fd ⟨us,[]⟩=pure (ps.zip us)):QG K fd ps []:=λs us _ hl=>by
 rw[N7] at hl ⊢;exact .of_eq (h us hl)
def xr (CX:CXT) (X:Cx) (E:XK):Prop:=∀(pq:List (Addr×Obj)) (σ:St) (H:Hp) (s:Shared) (e:Value) (s':Shared),Inv X pq σ H s->CX X.stack H s E e s'->X.xe e s'
section
variable {X:Cx}{CX:CXT}{k:Nat}{f C:Addr}{fd:FuncData}{ps:List Str}{sp:Sp}{dvs:List V}{ds:List Value}{E:XK}{x m:Str}{p pos apos:Pos}{e o:Expr}{es:List Expr}{ta:TE}{t:TA}
theorem Zcp {pq:List (Addr×Obj)}{σ:St}{H:Hp}{s:Shared}{Q:VK}{us:List Value}{vs:List V}(F:FnOk X.prog X.w X.K X.mg X.base CX k f fd ps sp) (hr:Room k X.A) (hb:QG X.K fd ps ds) (hd:Vals dvs ds) (hx:xr CX X E)
  (I:Inv X pq σ H s) (r:Vals vs us) (h:sp (vs++dvs) H Q E):wpAny (model X.prog X.w) X.A (call (.ref f) us) (EP X pq σ Q) X.xe s:=by
 have r2:Vals (vs++dvs) (us++ds):=r.append hd;have hl:(us++ds).length=ps.length:=by rw[<-r2.length];exact F.len _ _ _ _ h
 refine wpAny_call (codeAny_mono (F.run X.A X.stack s H ⟨us,[]⟩ (us++ds) (vs++dvs) Q E hr I.env0 (hb s us I.kIn hl) r2 h) λr s' hq=>?_)
 cases r with
 |error e=>exact hx pq σ H s e s' I hq
 |ok fl=>
  cases fl with
  |ret u=>exact I.after hq
  |next=>exact False.elim hq
  |brk=>exact False.elim hq
  |cont=>exact False.elim hq
theorem Zaz (F:FnOk X.prog X.w X.K X.mg X.base CX k f fd ps sp) (hr:Room k X.A) (hg:Gl X x) (hm:X.mg x=some (.ref f)) (hk:PySem.W.keepIn X.K (.ref f)=true) (hb:QG X.K fd ps ds) (hd:Vals dvs ds) (hx:xr CX X E)
  (ha:PA X (e::es) t) (hdb:(x == ("__debug__" : Str))=false:=by decide) (he:starEach (e::es) X.env=(false,eval e X.env)::starEach es X.env:=by rfl) (hpl:(backTo pos (starEach es X.env)).any (·.1)=false:=by rfl) :
  PE X (.Call (.Name x p) (e::es) [] pos) (ZdL sp dvs E t):=by
 intro pq s σ H Q I h;refine Kv (xy I hg hm ?_ hdb);refine PySem.W.callWith_K (h₀:=X.base) I.ok.mod.kin hk (thn (ha pos pq s σ H _ I h) λus s1 ⟨vs,H1,I1,r,q⟩=>⟨I1.kIn,?_⟩) he hpl
 exact Zcp F hr hb hd hx I1 r q
end
structure FnScope (N P:List Str) (sc:Scope):Prop where
 kind:sc.kind=.function
 co:sc.isCoroutine=false
 gen:sc.isGenerator=false
 nd:N.Nodup
 pre:N.take P.length=P
 par:∀x∈P,sc.names.lookup x=some .local\/sc.names.lookup x=some .cell
 nofree:∀y∈sc.names,y.2≠.free
theorem Q6 {kindOf:Str->Option NameKind}{x:Str}:∀{binds:List (Str×Value)}{m:Str->Option Value},(∀v,(x,v)∉binds)->bindL kindOf binds m x=m x
 |[],_,_=>rfl
 |(n,v)::r,m,h=>by
  unfold bindL;rw[Q6 λw hw=>h w (Pc _ hw)]
  split
  ·have:x≠n:=by rintro rfl;exact h v Pe
   simp[this]
  ·rfl
theorem Jf {kindOf:Str->Option NameKind}{x:Str}:∀{binds:List (Str×Value)}{m:Str->Option Value},(∀v,(x,v)∉binds)->bindC kindOf binds m x=m x
 |[],_,_=>rfl
 |(n,v)::r,m,h=>by
  unfold bindC;rw[Jf λw hw=>h w (Pc _ hw)]
  split
  ·rfl
  ·have:x≠n:=by rintro rfl;exact h v Pe
   simp[this]
theorem Ji {kindOf:Str->Option NameKind}{x:Str}{v:Value}:∀{P:List Str}{vs:List Value}{i:Nat}{m:Str->Option Value},P.Nodup->P[i]? = some x->vs[i]? = some v->kindOf x=some .local->
  bindL kindOf (P.zip vs) m x=some v
 |[],_,_,_,_,h,_,_=>by simp at h
 |_::_,[],_,_,_,_,h,_=>by simp at h
 |p::P,w::vs,0,m,nd,h1,h2,hk=>by
  simp at h1 h2;subst h1;subst h2;show bindL kindOf ((p,w)::P.zip vs) m p=_;unfold bindL;rw[Q6 λv hv=>(N8.mp nd).1 (Kh hv).1,Ph hk]
  simp
 |p::P,w::vs,i+1,m,nd,h1,h2,hk=>by
  show bindL kindOf ((p,w)::P.zip vs) m x=_;unfold bindL;exact Ji (i:=i) (N8.mp nd).2 (by simpa using h1) (by simpa using h2) hk
theorem JC {kindOf:Str->Option NameKind}{x:Str}{v:Value}:∀{P:List Str}{vs:List Value}{i:Nat}{m:Str->Option Value},P.Nodup->P[i]? = some x->vs[i]? = some v->kindOf x≠some .local->
  bindC kindOf (P.zip vs) m x=some v
 |[],_,_,_,_,h,_,_=>by simp at h
 |_::_,[],_,_,_,_,h,_=>by simp at h
 |p::P,w::vs,0,m,nd,h1,h2,hk=>by
  simp at h1 h2;subst h1;subst h2;show bindC kindOf ((p,w)::P.zip vs) m p=_;unfold bindC;rw[Jf λv hv=>(N8.mp nd).1 (Kh hv).1,Pj hk]
  simp
 |p::P,w::vs,i+1,m,nd,h1,h2,hk=>by
  show bindC kindOf ((p,w)::P.zip vs) m x=_;unfold bindC;exact JC (i:=i) (N8.mp nd).2 (by simpa using h1) (by simpa using h2) hk
noncomputable def start (N:List Str) (vs:List V):St:=vs.map some++List.replicate (N.length-vs.length) none
noncomputable def GX (CX:CXT) (P:Program) (w:World) (K:PySem.W.Frag) (mg:Str->Option Value) (base:Heap) (N:List Str) (qual:Str) (scope:Scope) (f:Addr) (cd:Value) (A:Around) (outer:List Env) (s:Shared) (H:Hp) (E:XK):Cx where
 prog:=P
 w:=w
 K:=K
 mg:=mg
 base:=base
 A:=A.deeper (envOfC qual scope s.heap.objs.size f cd)
 N:=N
 s₀:=s
 H₀:=H
 env:=envOfC qual scope s.heap.objs.size f cd
 outer:=outer
 stack:=envOfC qual scope s.heap.objs.size f cd::outer
 ex:=[]
 calm:=true
 fn:=λ_=>true
 pn:=[]
 xe:=λe s'=>wpAny (model P w) (A.deeper (envOfC qual scope s.heap.objs.size f cd)) (leaving (envOfC qual scope s.heap.objs.size f cd) e) (λ_ s''=>CX outer H s E e s'') (λe' s''=>CX outer H s E e' s'') s'
theorem z5 {sc:Scope}{n:Nat}{x:Str}(h:sc.names.lookup x=some .cell):∃c,(cellsFrom n sc.names []).lookup x=some c:=by
 have q:=PySem.W.cellsFrom_some sc.names n [] (.inl h);exact NP.mp q
theorem vG {CX:CXT}{P:Program}{w:World}{K:PySem.W.Frag}{mg:Str->Option Value}{base:Heap}{N ps:List Str}{qual:Str}{scope:Scope}{f:Addr}{cd:Value}{A:Around}{outer:List Env}{s s1:Shared}{H:Hp}{E:XK}{us:List Value}{vs:List V}
  (S:FnScope N ps scope) (hd:A.handled=none) (e0:Env0 P w K mg base A outer s H) (hl:vs.length=ps.length) (r:Vals vs us)
  (x:InCallC s s.heap.objs.size (bindL (envOfC qual scope s.heap.objs.size f cd).kindOf (ps.zip us) λ_=>none) (cellsFrom (s.heap.objs.size+1) scope.names []) (bindC (envOfC qual scope s.heap.objs.size f cd).kindOf (ps.zip us) λ_=>none) s1) :
  Inv (GX CX P w K mg base N qual scope f cd A outer s H E) [] (start N vs) H s1:=by
 have hpl:ps.length<=N.length:=by have:=congrArg List.length S.pre;rw[NA] at this;omega
 obtain⟨h1,tk,rfl,hk⟩:=x.done;have noA:∀b:Addr,b∉(GX CX P w K mg base N qual scope f cd A outer s H E).ex:=λb z=>absurd (show b∈([]:List Addr) from z) (by simp)
 refine⟨⟨e0.mod,S.kind,rfl,rfl,Pk _,λy z c h1 h2=>?_,λy hy=>?_,λy c _ h=>?_,λ_=>hd,Around.frames_deeper e0.frames,.inr ⟨rfl,rfl⟩,λb z=>absurd z (noA b),e0.bs,e0.bsz,λb _ _=>noA b,λb z=>absurd z (noA b),e0.funs,e0.frf⟩,
  rfl,e0.bare,Un.kept hk,⟨_,x.toInCall.ns,λi y v h1 h2 h3=>?_⟩,λy c h=>⟨_,x.cell y c h⟩,e0.hok.fresh (Pk _),λy c h=>?_,λp hp=>absurd (show p∈([]:List (Addr×Obj)) from hp) (by simp),e0.hok.kept hk,?_⟩
 ·exact name_of_addr x.apart (Kb h1) (Kb h2)
 ·have hy:scope.names.lookup y=some .cell\/scope.names.lookup y=some .free:=hy
  rcases hy with hy | hy
  ·exact z5 hy
  ·exact absurd rfl (S.nofree _ (Kb hy))
 ·exact Nat.le_of_lt (x.above y c (Kb h))
 ·have hi:i<vs.length:=by
   unfold start at h2;by_cases hi:i<vs.length
   ·exact hi
   ·rw[PQ (by simpa using hi)] at h2
    rw[Nm] at h2;split at h2 <;> cases h2
  have ha:vs[i]? = some v:=by
   unfold start at h2;rw[PB (by simpa using hi),PM] at h2
   cases e:vs[i]? with
   |none=>rw[e] at h2;cases h2
   |some a=>rw[e] at h2;cases h2;rfl
  obtain⟨u,hu,rv⟩:=r.get ha;have hp:ps[i]? = some y:=by
   rw[<-S.pre,List.getElem?_take_of_lt (by omega)];exact h1
  have ndP:ps.Nodup:=by rw[<-S.pre];exact S.nd.sublist (List.take_sublist _ _)
  refine⟨u,rv,?_⟩;rcases S.par y (N9 hp) with k | k
  ·exact .inl ⟨k,Ji ndP hp hu k⟩
  ·obtain⟨c,e⟩:=z5 (n:=s.heap.objs.size+1) k
   refine .inr ⟨.inl k,c,e,?_⟩;have q:=x.cell y c e;rw[JC ndP hp hu (by show scope.names.lookup y≠_;rw[k];decide)] at q
   exact q
 ·exact e0.hok.fresh (Nat.le_of_lt (x.above y c (Kb h)))
 ·unfold start
  show _=N.length;rw[PD,Pl,Nu];omega
theorem Zda {CX:CXT}{P:Program}{w:World}{K:PySem.W.Frag}{mg:Str->Option Value}{base:Heap}{k:Nat}{f:Addr}{name qual:Str}{params:Arguments}{body:List Stmt}{scope:Scope}{dV kV doc pm cdv ct oc:Value}{an od:Option Addr}
  {osl:Array (Option Value)} {N ps:List Str} {sp:Sp} (lk:K.lookup f=some ⟨oc,od,.func (PySem.W.fnOf name qual params body scope dV kV doc pm an cdv ct),osl⟩) (hcd:PySem.W.codeIn K cdv qual=true) (S:FnScope N ps scope)
  (len:∀vs H Q E,sp vs H Q E->vs.length=ps.length)
  (hbody:∀(A:Around) (outer:List Env) (s:Shared) (H:Hp) (vs:List V) (Q:VK) (E:XK),Room k (A.deeper (envOfC qual scope s.heap.objs.size f cdv))->sp vs H Q E->
   ∃t,PSs (GX CX P w K mg base N qual scope f cdv A outer s H E) body t/\t { nx:=λ_ H'=>Q .non H',rt:=Q } (start N vs) H) :
  FnOk P w K mg base CX (k+1) f (PySem.W.fnOf name qual params body scope dV kV doc pm an cdv ct) ps sp:=by
 refine⟨len,λA outer s H args us vs Q E hr e0 hb r hsp=>?_⟩
 have hl:=len _ _ _ _ hsp;have KX:K.In s.heap:=e0.mod.kin.keeps λb o e=>(e0.bs b o e).1
 have lim:s.heap.NoLimit:=e0.mod.nolimit.keeps λb o e=>(e0.bs b o e).1
 have hkind:∀y∈ps.zip us,scope.names.lookup y.1=some .local\/(scope.names.lookup y.1=some .cell/\((cellsFrom (s.heap.objs.size+1) scope.names []).lookup y.1).isSome=true):=λ⟨n,v⟩ hy=>by
  rcases S.par n (Kh hy).1 with q | q
  ·exact .inl q
  ·exact .inr ⟨q,PySem.W.cellsFrom_some _ _ _ (.inl q)⟩
 refine codeAny_call_function hr.depth (KX _ _ lk) rfl S.co S.gen rfl (PySem.W.codeRec_of KX hcd) (hb _ _ _ _ ?_);refine wpAny_newFunctionEnv_cells S.kind hkind λenv he s1 x=>?_
 subst he;refine⟨lim.keeps x.toInCall.keep,codeAny_func ?_⟩;obtain⟨t,ht,hq⟩:=hbody A outer s H vs Q E (hr.deeper _) hsp;have I:Inv (GX CX P w K mg base N qual scope f cdv A outer s H E) [] (start N vs) H s1:=vG S hr.hd e0 hl r x;refine Nv (ht [] s1 (start N vs) H _ I hq) (λfl s' hs=>?_) λe s' hs=>hs
 have fin:∀{σ':St} {H':Hp} {v:V} {u:Value},Inv (GX CX P w K mg base N qual scope f cdv A outer s H E) [] σ' H' s'->ZI v u->Q v H'->CE outer P w H s Q u s':=
  λ{σ' H' v u} J rv q=>⟨v,H',J.os,J.bare,J.base,J.hok,rv,q⟩
 cases fl with
 |ret u=>
  obtain⟨v,σ',H',J,rv,q⟩:=hs;exact fin J rv q
 |next=>
  obtain⟨σ',H',J,q⟩:=hs;exact fin (v:=V.non) (u:=Value.none) J rfl q
 |brk=>
  obtain⟨_,_,_,q⟩:=hs;exact False.elim q
 |cont=>
  obtain⟨_,_,_,q⟩:=hs;exact False.elim q
section
variable {X:Cx}{x:Str}{p pos:Pos}{e:Expr}{es:List Expr}{t:TA}{id T:String}{r:List V->Hp->VK->Prop}
def tCB (r:List V->Hp->VK->Prop) (t:TA):TE:=λσ H Q=>t σ H λvs H1=>r vs H1 Q
theorem Qq (hc:ZO X (.builtin id) r) (hg:Gl X x) (hm:X.mg x=none) (hv:bootBuiltins x=some (.builtin id)) (ha:PA X (e::es) t) (hn:x≠"__name__":=by decide) (hdb:(x == ("__debug__" : Str))=false:=by decide)
  (he:starEach (e::es) X.env=(false,eval e X.env)::starEach es X.env:=by rfl) (hpl:(backTo pos (starEach es X.env)).any (·.1)=false:=by rfl):PE X (.Call (.Name x p) (e::es) [] pos) (tCB r t):=by
 intro pq s σ H Q I h;refine Kv (YF I hg hm hv ?_ hn hdb);exact PyProof.Rows.callWith_builtin1 (thn (ha pos pq s σ H _ I h) λus s1 ⟨vs,H1,I1,r1,q1⟩=>hc pq s1 σ H1 vs us Q I1 r1 q1) he hpl
theorem vK (hc:ZO X (.type T) r) (hg:Gl X x) (hm:X.mg x=none) (hv:bootBuiltins x=some (.type T)) (ha:PA X (e::es) t) (hn:x≠"__name__":=by decide) (hdb:(x == ("__debug__" : Str))=false:=by decide)
  (he:starEach (e::es) X.env=(false,eval e X.env)::starEach es X.env:=by rfl) (hpl:(backTo pos (starEach es X.env)).any (·.1)=false:=by rfl):PE X (.Call (.Name x p) (e::es) [] pos) (tCB r t):=by
 intro pq s σ H Q I h;refine Kv (YF I hg hm hv ?_ hn hdb);exact PZ (thn (ha pos pq s σ H _ I h) λus s1 ⟨vs,H1,I1,r1,q1⟩=>hc pq s1 σ H1 vs us Q I1 r1 q1) he hpl
end
end L2
namespace HT
open PySem PyProof.Rows
section
variable {prog:Program}{w:World}{A:Around}{E:Value->Shared->Prop}{s:Shared}
theorem Zaq {t b:Addr}{vs ws:List Value}{Q:Value->Shared->Prop}(ht:IsTup s.heap t vs.toArray) (hb:IsTup s.heap b ws.toArray) (hv:vs≠[])
  (h1:ws=[]->Q (.ref t) s) (h2:ws≠[]->Q (.ref s.heap.objs.size) { s with heap:=s.heap.push { cls:=.type "tuple",data:=.seq (vs++ws).toArray } })
  (hsz:vs.length+ws.length<=sizeLine):wpAny (model prog w) A (binaryOp .Add (.ref t) (.ref b)) Q E s:=by
 obtain⟨⟨cls,dd,data,sl⟩,ho,hc,n,hd⟩:=id ht;obtain⟨⟨cls2,dd2,data2,sl2⟩,ho2,hc2,n2,hd2⟩:=id hb;simp only at hc hd hc2 hd2;subst hc hd hc2 hd2;have e:vs.toArray++ws.toArray=(vs++ws).toArray:=by simp
 by_cases hw:ws=[]
 ·exact concat_meets ⟨_,ho,rfl⟩ ⟨_,ho2,rfl⟩ noFill_tuple_add seq_tuple_add KE KA (Kr _ _)
   (tuple_addW1 t b vs.toArray ws.toArray n n2 dd dd2 sl sl2 (by simpa using hv) (by simp[hw])) ⟨ho,ho2,h1 hw⟩
 ·refine concat_meets ⟨_,ho,rfl⟩ ⟨_,ho2,rfl⟩ noFill_tuple_add seq_tuple_add KE KA (Kr _ _)
   (tuple_addW2 t b vs.toArray ws.toArray n n2 dd dd2 sl sl2 (by simpa using hv) (by simpa using hw) (by rw[Pg,Pg];exact hsz)) ⟨ho,ho2,?_⟩
  rw[e];exact h2 hw
noncomputable def sIx (n d:Nat):Option Int->Nat
 |none=>d
 |some v=>if v<0 then (v+(n:Int)).toNat else min v.toNat n
theorem Zcr (n d:Nat) (hd:d<=n) (o:Option Int):sIx n d o<=n:=by
 cases o with
 |none=>exact hd
 |some v=>
  show (if v<0 then (v+(n:Int)).toNat else min v.toNat n)<=n
  by_cases hv:v<0
  ·rw[Ph hv];omega
  ·rw[Pj hv];exact Nat.min_le_right _ _
theorem wn (v:Int) (n d:Nat):(if v<0 then max (v+(n:Int)) 0 else min v (n:Int))=((sIx n d (some v):Nat):Int):=by
 show (if v<0 then max (v+(n:Int)) 0 else min v (n:Int))=(((if v<0 then (v+(n:Int)).toNat else min v.toNat n):Nat):Int)
 by_cases hv:v<0
 ·simp only[Ph hv];omega
 ·simp only[Pj hv];omega
theorem yX (lo hi:Option Int) (n:Nat):Builtin.Slice.sliceAdjust lo hi 1 (n:Int)=(((sIx n 0 lo:Nat):Int),((sIx n n hi:Nat):Int)):=by
 have h1:¬((1:Int)<0):=by omega
 unfold Builtin.Slice.sliceAdjust;simp only[h1,ND];refine Prod.ext ?_ ?_
 ·cases lo with
  |none=>rfl
  |some v=>exact wn v n 0
 ·cases hi with
  |none=>rfl
  |some v=>exact wn v n n
theorem yi (i j:Nat):Builtin.Slice.slicePlaces (i:Int) (j:Int) 1=j-i:=by
 unfold Builtin.Slice.slicePlaces;have h1:(1:Int)>0:=by omega
 simp only[h1,N3,Int.ediv_one];split <;> omega
theorem Vb {v:Value}{o:Option Int}{Q:Option Int->Shared->Prop}(p:IsPart v o) (h:Q o s):wpAny (model prog w) A (Builtin.Slice.slicePartIndex v) Q E s:=by
 cases p with
 |none=>exact slicePart_none h
 |int i t=>exact slicePart_int h
theorem XN {sl:Addr}{vl vu:Value}{lo hi:Option Int}{n:Nat}{Q:Int×Int×Nat->Shared->Prop}(hs:s.heap.IsSliceOf sl vl vu .none) (pl:IsPart vl lo) (pu:IsPart vu hi)
  (h:Q (((sIx n 0 lo:Nat):Int),1,sIx n n hi-sIx n 0 lo) s):wpAny (model prog w) A (Builtin.Slice.sliceApplied (.ref sl) (pure (n:Int))) Q E s:=by
 obtain⟨os,hos,hcs,hds⟩:=id hs;unfold Builtin.Slice.sliceApplied Builtin.Slice.sliceFields;refine Pa (Pa (P6 hos hds (x:=vl) rfl (Pa (P6 hos hds (x:=vu) rfl (Pa (P6 hos hds (x:=.none) rfl (Pi ?_)))))));refine Pa (slicePart_none ?_);show wpAny _ _ (if ((1:Int) == 0)=true then _ else _) _ _ s
 rw[Pj (by decide)]
 refine Pa (Vb pl (Pa (Vb pu (Pa (Pi ?_)))));show wpAny _ _ (match Builtin.Slice.sliceAdjust lo hi 1 (n:Int) with | (lo,hi)=>pure (lo,(1:Int),Builtin.Slice.slicePlaces lo hi 1)) _ _ s
 rw[yX lo hi n];show wpAny _ _ (pure (((sIx n 0 lo:Nat):Int),(1:Int),Builtin.Slice.slicePlaces ((sIx n 0 lo:Nat):Int) ((sIx n n hi:Nat):Int) 1)) _ _ s;rw[yi];exact Pi h
theorem v6 (xs:Array Value) (i k:Nat):((List.range k).filterMap λ(m:Nat)=>xs[((i:Int)+(m:Int)*1).toNat]?).toArray=((xs.toList.drop i).take k).toArray:=by
 have e:(λ(m:Nat)=>xs[((i:Int)+(m:Int)*1).toNat]?)=λm=>xs[i+m]?:=by
  funext m
  have:((i:Int)+(m:Int)*1).toNat=i+m:=by omega
  rw[this]
 rw[e];have:=pick_run xs i k;rw[List.filterMap_map] at this;have e2:((λx=>xs[x]?)∘λx=>i+x)=λm=>xs[i+m]?:=rfl
 rw[e2] at this;rw[this]
theorem VM {t sl:Addr}{items:Array Value}{vl vu:Value}{lo hi:Option Int}{Q:Value->Shared->Prop}(ht:IsTup s.heap t items) (hs:s.heap.IsSliceOf sl vl vu .none) (pl:IsPart vl lo) (pu:IsPart vu hi)
  (hw:¬(sIx items.size 0 lo=0/\sIx items.size items.size hi=items.size))
  (h:Q (.ref s.heap.objs.size) { s with heap:=s.heap.push { cls:=.type "tuple",data:=.seq ((items.toList.drop (sIx items.size 0 lo)).take (sIx items.size items.size hi-sIx items.size 0 lo)).toArray } })
  (hsz:items.size<=sizeLine):wpAny (model prog w) A (getItem (.ref t) (.ref sl)) Q E s:=by
 have htake:sizeOk (.seq ((items.toList.drop (sIx items.size 0 lo)).take (sIx items.size items.size hi-sIx items.size 0 lo)).toArray):=by
  show ((items.toList.drop (sIx items.size 0 lo)).take (sIx items.size items.size hi-sIx items.size 0 lo)).toArray.size<=sizeLine;rw[Pg,NA,Nr,NG];omega
 have hj:sIx items.size items.size hi<=items.size:=Zcr _ _ (Pk _) hi;obtain⟨os,hos,hcs,hds⟩:=id hs;have hTs:s.TypeIs (.ref sl) "slice":=⟨os,hos,hcs⟩;unfold getItem
 try with_reducible refine Nn ?_
 first | refine Pa (Pi ?_) | skip
 refine Pa (wpAny_sequenceKey ht.typeIs (by decide) ?_)
 refine Pa (Nh (name:=Str.ofString "__getitem__") ht.typeIs Nj
  (Nt Nj ht.typeIs entry_tuple_getitem ?_ (args_tuple_getitem _ _)))
 show wpAny _ _ (Builtin.Tuple.tupleItemsOf (.ref t) >>= _) _ _ s;refine Pa (tupleItemsOf_ ht ?_);refine Pa (wpAny_typeOf hTs ?_);rw[Ph (by decide)]
 refine Pa (XN hs pl pu ?_);have hno:¬((((sIx items.size 0 lo:Nat):Int) == 0&&(1:Int) == 1&&(sIx items.size items.size hi-sIx items.size 0 lo) == items.size)=true):=by
  intro q;rw[Pp,Pp] at q;have q1:((sIx items.size 0 lo:Nat):Int)=0:=eq_of_beq q.1.1;have q2:sIx items.size items.size hi-sIx items.size 0 lo=items.size:=eq_of_beq q.2;exact hw ⟨by omega,by omega⟩
 show wpAny _ _ (if (((sIx items.size 0 lo:Nat):Int) == 0&&(1:Int) == 1&&(sIx items.size items.size hi-sIx items.size 0 lo) == items.size)=true then _ else _) _ _ s
 rw[Pj hno,v6]
 first
  |exact Pa (m:=Builtin.Tuple.tupleExact _) (PV (Pi ⟨_,rfl,Pi h⟩) htake)
  |exact Pa (m:=Builtin.Tuple.tupleExact _) (PV (Pa (Pi (Pi ⟨_,rfl,Pi h⟩))) htake)
  |exact Pa (Pa (m:=Builtin.Tuple.tupleExact _) (PV (Pi (Pi ⟨_,rfl,Pi h⟩)) htake))
  |exact Pa (Pa (m:=Builtin.Tuple.tupleExact _) (PV (Pi ⟨_,rfl,Pi h⟩) htake))
end
end HT
namespace L2
open PySem PySem.Spec PyProof.Rows
abbrev TO:=St->Hp->(Option Int->Hp->Prop)->Prop
def PO (X:Cx) (e:Option Expr) (t:TO):Prop:=
 ∀(pq:List (Addr×Obj)) (s:Shared) (σ:St) (H:Hp) (Q:Option Int->Hp->Prop),Inv X pq σ H s->t σ H Q->
  wpAny (model X.prog X.w) X.A (evalPart e X.env) (λu s'=>∃o H',Inv X pq σ H' s'/\IsPart u o/\Q o H') X.xe s
def j3:TO:=λ_ H Q=>Q none H
def Zdz (t:TE):TO:=λσ H Q=>t σ H λx H1=>∃i,x=.int i/\Q (some i) H1
section
variable {X:Cx}{e:Expr}{te:TE}{lo hi:Option Expr}{tl th:TO}{pos p2:Pos}
theorem Zae:PO X none j3:=by
 intro pq s σ H Q I h;rw[evalPart_none];exact Pi ⟨none,H,I,.none,h⟩
theorem ZY (h:PE X e te):PO X (some e) (Zdz te):=by
 intro pq s σ H Q I hw;rw[evalPart_some];refine thn (h pq s σ H _ I hw) λu s1 ⟨x,H1,I1,r1,q1⟩=>?_
 obtain⟨i,rfl,q⟩:=q1;obtain⟨t,rfl⟩:=r1;exact⟨some i,H1,I1,.int i t,q⟩
def SlR (X:Cx) (r:V->Option Int->Option Int->Hp->VK->Prop):Prop:=
 ∀(pq:List (Addr×Obj)) (s:Shared) (σ:St) (H:Hp) (x:V) (v vl vu:Value) (lo hi:Option Int) (sl:Addr) (Q:VK),Inv X pq σ H s->ZI x v->s.heap.IsSliceOf sl vl vu .none->IsPart vl lo->IsPart vu hi->r x lo hi H Q->
  ∃T id,typeLookup (.type T) "__getitem__" = pure (some (.builtin id))/\s.TypeIs v T/\wpAny (model X.prog X.w) X.A (getItem v (.ref sl)) (EP X pq σ Q) X.xe s
theorem SlR.or {r r':V->Option Int->Option Int->Hp->VK->Prop}(h:SlR X r) (h':SlR X r'):SlR X (λx lo hi H Q=>r x lo hi H Q\/r' x lo hi H Q):=by
 intro pq s σ H x v vl vu lo hi sl Q I rx hs pl pu q;rcases q with q | q
 ·exact h pq s σ H x v vl vu lo hi sl Q I rx hs pl pu q
 ·exact h' pq s σ H x v vl vu lo hi sl Q I rx hs pl pu q
def tSl (r:V->Option Int->Option Int->Hp->VK->Prop) (te:TE) (tl th:TO):TE:=λσ H Q=>te σ H λx H1=>tl σ H1 λl H2=>th σ H2 λu H3=>r x l u H3 Q
theorem u0 {r:V->Option Int->Option Int->Hp->VK->Prop}(hr:SlR X r) (he:PE X e te) (hl:PO X lo tl) (hu:PO X hi th):PE X (.Subscript e (.Slice lo hi none p2) pos) (tSl r te tl th):=by
 intro pq s σ H Q I h;refine Subscript_ (thn (he pq s σ H _ I h) λv s1 ⟨x,H1,I1,r1,q1⟩=>?_)
 refine wpAny_Slice (thn (hl pq s1 σ H1 _ I1 q1) λvl s2 ⟨l,H2,I2,pl,q2⟩=>thn (hu pq s2 σ H2 _ I2 q2) λvu s3 ⟨u,H3,I3,pu,q3⟩=>?_)
 rw[evalPart_none];refine Pi ?_;have I4:Inv X pq σ H3 { s3 with heap:=s3.heap.push { cls:=.type "slice",data:=.fields #[vl,vu,.none] } }:=I3.kept (t':=s3.toks) λb ob q=>Pf _ q
 obtain⟨T,id,hT,ht,hg⟩:=hr pq { s3 with heap:=s3.heap.push { cls:=.type "slice",data:=.fields #[vl,vu,.none] } } σ H3 x v vl vu l u s3.heap.objs.size Q I4 r1 (Heap.IsSliceOf.new ..) pl pu q3
 show wpAny (model X.prog X.w) X.A (subscriptTail e (.Slice lo hi none p2) v (.ref s3.heap.objs.size)) (EP X pq σ Q) X.xe { s3 with heap:=s3.heap.push { cls:=.type "slice",data:=.fields #[vl,vu,.none] } }
 exact tail_any (ops:=[.ref s3.heap.objs.size,v]) ht hT hg (by with_unfolding_all rfl)
noncomputable def Xk (xs:List V) (lo hi:Option Int):List V:=(xs.drop (HT.sIx xs.length 0 lo)).take (HT.sIx xs.length xs.length hi-HT.sIx xs.length 0 lo)
theorem Um (xs:List V) (lo hi:Option Int):(Xk xs lo hi).length<=xs.length:=by
 unfold Xk;rw[NA,Nr];omega
noncomputable def Zd2 (K:PySem.W.Frag):V->Option Int->Option Int->Hp->VK->Prop:=λx lo hi H Q=>∃a xs,x=.ref a/\SqT K H a xs/\
 ¬(HT.sIx xs.length 0 lo=0/\HT.sIx xs.length xs.length hi=xs.length)/\∀p,H p=none->Q (.ref p) (upd H p (.tup (Xk xs lo hi)))
theorem ZbI:SlR X (Zd2 X.K):=by
 intro pq s σ H x v vl vu lo hi sl Q I rx hs pl pu h;obtain⟨a,xs,rfl,hx,hw,q⟩:=h;cases rx;obtain⟨its,r,ht,hz⟩:=I.tuple hx;have hlen:its.toArray.size=xs.length:=by rw[Pg];exact r.length.symm
 refine⟨"tuple",_,PyProof.Rows.slot_tuple_getitem.lookup,ht.typeIs,?_⟩;refine HT.VM ht hs pl pu (by rw[hlen];exact hw) ?_ (by rw[hlen];exact hz)
 rw[hlen];refine⟨.ref s.heap.objs.size,_,I.laid (t':=s.toks) (o:=.tup (Xk xs lo hi)) (λb ob q=>Pf _ q) (Pk _) ?_,rfl,q _ (I.hok.fresh (Pk _))⟩
 exact⟨P4 (Um xs lo hi) hz,_,(r.drop (HT.sIx xs.length 0 lo)).take (HT.sIx xs.length xs.length hi-HT.sIx xs.length 0 lo),Kz _ _⟩
def Zbk (K:PySem.W.Frag):R2:=λx y H Q=>∃a b xs ys,x=.ref a/\y=.ref b/\SqT K H a xs/\SqT K H b ys/\xs≠[]/\xs.length+ys.length<=sizeLine/\
 (ys=[]->Q (.ref a) H)/\(ys≠[]->∀p,H p=none->Q (.ref p) (upd H p (.tup (xs++ys))))
theorem Vals.nil_iff {xs:List V}{us:List Value}(r:Vals xs us):us=[]↔xs=[]:=by
 cases r with
 |nil=>simp
 |cons _ _=>simp
theorem Zar:OpR X (binaryOp .Add) (Zbk X.K):=by
 intro pq s σ H x y v u Q I rx ry h;obtain⟨a,b,xs,ys,rfl,rfl,ha,hb,hx,hz,q1,q2⟩:=h;cases rx;cases ry;obtain⟨its,r1,p1,_⟩:=I.tuple ha;obtain⟨its2,r2,p2,_⟩:=I.tuple hb;refine HT.Zaq p1 p2 (λz=>hx (r1.nil_iff.mp z)) (λz=>⟨.ref a,H,I,rfl,q1 (r2.nil_iff.mp z)⟩) (λz=>?_) (by rw[<-r1.length,<-r2.length];exact hz)
 refine⟨.ref s.heap.objs.size,_,I.laid (t':=s.toks) (o:=.tup (xs++ys)) (λb ob q=>Pf _ q) (Pk _) ?_,rfl,q2 (λw=>z (r2.nil_iff.mpr w)) _ (I.hok.fresh (Pk _))⟩
 exact⟨by rw[PD];exact hz,_,r1.append r2,Kz _ _⟩
end
noncomputable def ixN (n:Nat) (i:Int):Option Nat:=if 0<=i then (if i<n then some i.toNat else none) else if -(n:Int)<=i then some (i+n).toNat else none
noncomputable def atI {α:Type} (xs:List α) (i:Int):Option α:=(ixN xs.length i).bind λj=>xs[j]?
theorem wp {n:Nat}{i:Int}{j:Nat}(h:ixN n i=some j):seqIndex? i n=some j/\j<n/\-(n:Int)<=i/\i<n:=by
 unfold ixN at h;by_cases h0:0<=i
 ·rw[Ph h0] at h
  by_cases h1:i<n
  ·rw[Ph h1] at h
   have e:i.toNat=j:=Pb h;exact⟨by rw[seqIndex_of h0 h1,e],by omega,by omega,h1⟩
  ·rw[Pj h1] at h;cases h
 ·rw[Pj h0] at h
  by_cases h1:-(n:Int)<=i
  ·rw[Ph h1] at h
   have e:(i+n).toNat=j:=Pb h;exact⟨by rw[seqIndex_neg (by omega) h1,e],by omega,h1,by omega⟩
  ·rw[Pj h1] at h;cases h
theorem wt {α:Type}{xs:List α}{i:Int}{v:α}(h:atI xs i=some v):∃j,seqIndex? i xs.length=some j/\xs[j]? = some v/\j<xs.length/\-(xs.length:Int)<=i/\i<xs.length:=by
 unfold atI at h;cases e:ixN xs.length i with
 |none=>rw[e] at h;cases h
 |some j=>
  rw[e] at h;obtain⟨h1,h2,h3,h4⟩:=wp e;exact⟨j,h1,h,h2,h3,h4⟩
def wm (b:Expr):Prop:=∀o i,subscripted b false o i=operate [o,i] (getItem o i)
def IxR (X:Cx) (r:R2):Prop:=
 ∀(value slice:Expr) (pq:List (Addr×Obj)) (s:Shared) (σ:St) (H:Hp) (x y:V) (v u:Value) (Q:VK),Inv X pq σ H s->ZI x v->ZI y u->r x y H Q->
  subscripted slice false v u=operate [v,u] (getItem v u)->wpAny (model X.prog X.w) X.A (subscriptTail value slice v u) (EP X pq σ Q) X.xe s
def MtR (X:Cx) (id:String) (r:V->List V->Hp->VK->Prop):Prop:=
 ∀(pq:List (Addr×Obj)) (s:Shared) (σ:St) (H:Hp) (x:V) (xs:List V) (v:Value) (us:List Value) (Q:VK),Inv X pq σ H s->ZI x v->Vals xs us->r x xs H Q->
  wpAny (model X.prog X.w) X.A (call (.builtin id) (v::us)) (EP X pq σ Q) X.xe s
section
variable {X:Cx}{a b:Expr}{ta tb:TE}{pos:Pos}
theorem IxR.or {r r':R2}(h:IxR X r) (h':IxR X r'):IxR X (λx y H Q=>r x y H Q\/r' x y H Q):=by
 intro value slice pq s σ H x y v u Q I rx ry q hs;rcases q with q | q
 ·exact h value slice pq s σ H x y v u Q I rx ry q hs
 ·exact h' value slice pq s σ H x y v u Q I rx ry q hs
theorem Zdk {r:R2}(hr:IxR X r) (ha:PE X a ta) (hb:PE X b tb) (hs:wm b):PE X (.Subscript a b pos) (tOp r ta tb):=by
 intro pq s σ H Q I h;exact Subscript_ (ZcL ha hb I h λv u s2 x y H2 I2 rx ry q=>hr a b pq s2 σ H2 x y v u Q I2 rx ry q (hs _ _))
def Zd4 (K:PySem.W.Frag):R2:=λx y H Q=>∃p xs i v,x=.ref p/\y=.int i/\SqL K H p xs/\atI xs i=some v/\Q v H
def ZdO (K:PySem.W.Frag):R2:=λx y H Q=>∃p xs i v,x=.ref p/\y=.int i/\SqT K H p xs/\atI xs i=some v/\Q v H
theorem Zas:IxR X (Zd4 X.K):=by
 intro value slice pq s σ H x y v u Q I rx ry h hs;obtain⟨p,xs,i,z,rfl,rfl,hq,he,q⟩:=h;cases rx;obtain⟨t,rfl⟩:=ry;obtain⟨its,r,pl,hz⟩:=I.list hq;obtain⟨j,h1,h2,h3,h4,h5⟩:=wt he;obtain⟨w,ew,rw'⟩:=r.get h2;have hl:=r.length;have hn:=U0;have fin:EP X pq σ Q w s:=⟨z,H,I,rw',q⟩;by_cases h0:0<=i
 ·have hj:i.toNat=j:=by
   rw[seqIndex_of h0 h5] at h1;exact Pb h1
  exact item_listR pl.isList h0 (by omega) (by rw[hj];simpa using ew) fin hs
 ·have hj:(i+(its.toArray.size:Int)).toNat=j:=by
   rw[seqIndex_neg (by omega) h4] at h1
   rw[Pg,<-hl];exact Pb h1
  exact subscriptTail_builtinR (x:=w) pl.isList.typeIs slot_list_getitem.lookup
   (wpAny_getItem_list_neg (Q:=λr s'=>r=w/\EP X pq σ Q r s') pl.isList (by omega) (by rw[Pg] <;> omega) (by omega) (by rw[hj];simpa using ew) ⟨rfl,fin⟩) hs
theorem ZcB:IxR X (ZdO X.K):=by
 intro value slice pq s σ H x y v u Q I rx ry h hs;obtain⟨p,xs,i,z,rfl,rfl,hq,he,q⟩:=h;cases rx;obtain⟨t,rfl⟩:=ry;obtain⟨its,r,pl,hz⟩:=I.tuple hq;obtain⟨j,h1,h2,h3,h4,h5⟩:=wt he;obtain⟨w,ew,rw'⟩:=r.get h2;have hl:=r.length;have hn:=U0;have fin:EP X pq σ Q w s:=⟨z,H,I,rw',q⟩;exact subscriptTail_builtinR (x:=w) pl.typeIs slot_tuple_getitem.lookup
  (getItem_tuple (j:=j) (Q:=λr s'=>r=w/\EP X pq σ Q r s') pl (by omega) (by omega) (by rw[Pg,<-hl];exact h1) (by simpa using ew) ⟨rfl,fin⟩) hs
theorem xu (its:List Value) (n j:Nat) (u:Value):Obj.mapSeq (·.setIfInBounds j u) { cls:=.type "list",data:=.seq its.toArray n }={ cls:=.type "list",data:=.seq (its.set j u).toArray n }:=by
 simp[Obj.mapSeq]
theorem Inv.lst {pq:List (Addr×Obj)}{σ:St}{H:Hp}{s:Shared}{p:Addr}{xs:List V}(I:Inv X pq σ H s) (h:H p=some (.lst xs)) :
  ∃(its:List Value) (n:Nat),Vals xs its/\s.heap.get? p=some { cls:=.type "list",data:=.seq its.toArray n }/\xs.length<=sizeLine:=by
 obtain⟨z,its,n,r,e⟩:=I.hok p _ h;exact⟨its,n,r,e,z⟩
theorem Inv.lstUpd {pq:List (Addr×Obj)}{σ:St}{H:Hp}{s:Shared}{p:Addr}{xs ys:List V}{its its':List Value}{n n':Nat}{f:Obj->Obj}(I:Inv X pq σ H s) (h:H p=some (.lst xs))
  (ho:s.heap.get? p=some { cls:=.type "list",data:=.seq its.toArray n }) (hf:f { cls:=.type "list",data:=.seq its.toArray n }={ cls:=.type "list",data:=.seq its'.toArray n' }) (r:Vals ys its') (hz:ys.length<=sizeLine) (t:Nat) :
  Inv X pq σ (upd H p (.lst ys)) { s with heap:=s.heap.update p f,toks:=t }:=by
 have e:(s.heap.update p f).get? p=some { cls:=.type "list",data:=.seq its'.toArray n' }:=by
  rw[Heap.get?_update_self f ho (by rw[hf] <;> rfl),hf]
 refine I.write (x:=p) (e:=p) (by rw[h];trivial) (.inl rfl) (λb u hb q=>(Heap.get?_update_other _ _ (Ne.symm hb)).trans q) ⟨_,e⟩ ?_
 exact⟨hz,its',n',r,e⟩
noncomputable def ZdI:V->V->V->Hp->(Hp->Prop)->Prop:=λo i v H Q=>∃p xs k j,o=.ref p/\i=.int k/\H p=some (.lst xs)/\ixN xs.length k=some j/\Q (upd H p (.lst (xs.set j v)))
theorem uJ:PSet X ZdI:=by
 intro pq s σ H o i v ov iv u Q I ro ri rv h;obtain⟨p,xs,k,j,rfl,rfl,hp,hj,q⟩:=h;cases ro;obtain⟨t,rfl⟩:=ri;obtain⟨its,n,r,ho,hz⟩:=I.lst hp;obtain⟨h1,h2,h3,h4⟩:=wp hj;have hl:=r.length;have hn:=U0;have I':Inv X pq σ (upd H p (.lst (xs.set j v))) { s with heap:=s.heap.update p (Obj.mapSeq (·.setIfInBounds j u)) }:=
  I.lstUpd hp ho (xu its n j u) (r.set rv j) (by rw[P0];exact hz) s.toks
 by_cases h0:0<=k
 ·have hk:k.toNat=j:=by
   rw[seqIndex_of h0 h4] at h1;exact Pb h1
  exact PySem.W.ki_setAt ho h0 (by omega) (by rw[Pg,<-hl];exact h4) (by rw[hk];exact⟨_,I',q⟩)
 ·have hk:(k+(its.toArray.size:Int)).toNat=j:=by
   rw[seqIndex_neg (by omega) h3] at h1
   rw[Pg,<-hl];exact Pb h1
  exact PySem.W.ki_setBack ho (by omega) (by rw[Pg,<-hl];exact h3) (by omega) (by rw[hk];exact⟨_,I',q⟩)
theorem J6 (lo hi:Option Int) (n:Nat):(sliceBounds lo hi none n).1=((HT.sIx n 0 lo:Nat):Int)/\(sliceBounds lo hi none n).2.1=((HT.sIx n n hi:Nat):Int)/\(sliceBounds lo hi none n).2.2=1:=by
 refine⟨?_,?_,rfl⟩
 ·cases lo with
  |none=>simp[sliceBounds,HT.sIx]
  |some i=>
   simp only[sliceBounds,HT.sIx,Option.getD_none,show (1:Int)>0 by decide,N3]
   by_cases h:i<0
   ·simp only[h,N3] <;> omega
   ·simp only[h,ND] <;> omega
 ·cases hi with
  |none=>simp[sliceBounds,HT.sIx]
  |some i=>
   simp only[sliceBounds,HT.sIx,Option.getD_none,show (1:Int)>0 by decide,N3]
   by_cases h:i<0
   ·simp only[h,N3] <;> omega
   ·simp only[h,ND] <;> omega
theorem QS (its:List Value) (lo hi:Option Int):slicePick its.toArray lo hi none=((its.drop (HT.sIx its.length 0 lo)).take (HT.sIx its.length its.length hi-HT.sIx its.length 0 lo)).toArray:=by
 obtain⟨h1,h2,h3⟩:=J6 lo hi its.toArray.size;unfold slicePick;rw[h1,h2,h3];simp only[sliceRange_one,pick_run,Pg] <;> rfl
noncomputable def Zd8 (K:PySem.W.Frag):V->Option Int->Option Int->Hp->VK->Prop:=λx lo hi H Q=>∃a xs,x=.ref a/\SqL K H a xs/\∀p,H p=none->Q (.ref p) (upd H p (.lst (Xk xs lo hi)))
theorem Zbf:SlR X (Zd8 X.K):=by
 intro pq s σ H x v vl vu lo hi sl Q I rx hs pl pu h;obtain⟨a,xs,rfl,hx,q⟩:=h;cases rx;obtain⟨its,r,ht,hz⟩:=I.list hx;have hlen:=r.length;refine⟨"list",_,slot_list_getitem.lookup,ht.isList.typeIs,?_⟩;refine wpAny_getItem_list_slice ht.isList hs pl pu .none (by simp) ?_ (by rw[Pg] <;> omega)
 rw[QS,<-hlen];refine⟨.ref s.heap.objs.size,_,I.laid (t':=s.toks) (o:=.lst (Xk xs lo hi)) (λb ob q=>Pf _ q) (Pk _) ?_,rfl,q _ (I.hok.fresh (Pk _))⟩
 exact⟨P4 (Um xs lo hi) hz,_,0,(r.drop (HT.sIx xs.length 0 lo)).take (HT.sIx xs.length xs.length hi-HT.sIx xs.length 0 lo),Pq _ rfl⟩
noncomputable def xN:V->Bool
 |.non=>true
 |.bl _=>true
 |.int _=>true
 |.str _=>true
 |_=>false
noncomputable def eqV:V->V->Bool
 |.non,.non=>true
 |.bl a,.bl b=>a == b
 |.bl a,.int b=>(if a then 1 else 0) == b
 |.int a,.bl b=>a == (if b then 1 else 0)
 |.int a,.int b=>a == b
 |.str a,.str b=>a == b
 |_,_=>false
theorem Zci {A:Around}{s:Shared}{y x:V}{u v:Value}(ry:ZI y u) (rx:ZI x v) (fy:xN y=true) (fx:xN x=true):SeqAt.EqAt A s u v (eqV y x):=by
 cases y with
 |non=>
  cases ry;cases x with
  |non=>cases rx;exact SeqAt.EqAt.same _
  |bl b=>cases rx;exact SeqAt.EqAt.none_bool b
  |int b=>obtain⟨t,rfl⟩:=rx;exact SeqAt.EqAt.none_int b t
  |str b=>obtain⟨t,rfl⟩:=rx;exact SeqAt.EqAt.none_str b t
  |_=>exact absurd (show false=true from fx) Px
 |bl a=>
  cases ry;cases x with
  |non=>cases rx;exact SeqAt.EqAt.bool_none a
  |bl b=>cases rx;exact SeqAt.EqAt.bool_bool a b
  |int b=>obtain⟨t,rfl⟩:=rx;exact SeqAt.EqAt.bool_int a b t
  |str b=>obtain⟨t,rfl⟩:=rx;exact SeqAt.EqAt.bool_str a b t
  |_=>exact absurd (show false=true from fx) Px
 |int a=>
  obtain⟨t',rfl⟩:=ry;cases x with
  |non=>cases rx;exact SeqAt.EqAt.int_none a t'
  |bl b=>cases rx;exact SeqAt.EqAt.int_bool a t' b
  |int b=>obtain⟨t,rfl⟩:=rx;exact SeqAt.EqAt.int_int a t' b t
  |str b=>obtain⟨t,rfl⟩:=rx;exact SeqAt.EqAt.int_str a t' b t
  |_=>exact absurd (show false=true from fx) Px
 |str a=>
  obtain⟨t',rfl⟩:=ry;cases x with
  |non=>cases rx;exact SeqAt.EqAt.str_none a t'
  |bl b=>cases rx;exact SeqAt.EqAt.str_bool a t' b
  |int b=>obtain⟨t,rfl⟩:=rx;exact SeqAt.EqAt.str_int a t' b t
  |str b=>obtain⟨t,rfl⟩:=rx;exact SeqAt.EqAt.str_str a t' b t
  |_=>exact absurd (show false=true from fx) Px
 |_=>exact absurd (show false=true from fy) Px
theorem GF:ZO X (.builtin "len") (λxs H Q=>∃p ys,xs=[.ref p]/\(SqL X.K H p ys\/SqT X.K H p ys)/\Q (.int ys.length) H):=by
 intro pq s σ H xs us Q I r h;obtain⟨p,ys,rfl,hq,q⟩:=h;obtain⟨u,rfl,rx⟩:=Uo r;cases rx;have hn:=U0;rcases hq with hq | hq
 ·obtain⟨its,r',pl,hz⟩:=I.list hq
  have hlen:=r'.length;exact Calls.call_len_list pl.isList (by simp only[Pg] <;> omega) ⟨.int ys.length,H,I.tok _,⟨s.toks+1,by rw[Pg,hlen]⟩,q⟩
 ·obtain⟨its,r',pl,hz⟩:=I.tuple hq
  have hlen:=r'.length;exact len_tuple pl (by simp only[Pg] <;> omega) ⟨.int ys.length,H,I.tok _,⟨s.toks+1,by rw[Pg,hlen]⟩,q⟩
theorem JE:ZO X (.type "list") (λxs H Q=>∃p ys,xs=[.ref p]/\(SqL X.K H p ys\/SqT X.K H p ys)/\∀l,H l=none->Q (.ref l) (upd H l (.lst ys))):=by
 intro pq s σ H xs us Q I r h;obtain⟨p,ys,rfl,hq,q⟩:=h;obtain⟨u,rfl,rx⟩:=Uo r;cases rx;have fin:∀(its:List Value),Vals ys its->ys.length<=sizeLine->∀(h':Heap) (c':Nat),(∀b o',s.heap.get? b=some o'->h'.get? b=some o')->
   h'.get? s.heap.objs.size=some { cls:=.type "list",dict:=none,data:=.seq its.toArray c',slots:=#[] }->EP X pq σ Q (.ref s.heap.objs.size) { s with heap:=h' }:=λits r' hz h' c' kp e=>
  ⟨.ref s.heap.objs.size,_,I.laid (t':=s.toks) kp (Pk _) (show Z2 X.prog X.w _ h' _ (.lst ys) from ⟨hz,its,c',r',e⟩),rfl,q _ (I.hok.fresh (Pk _))⟩
 rcases hq with hq | hq
 ·obtain⟨its,r',pl,hz⟩:=I.list hq
  have hlen:=r'.length;obtain⟨o,ho,hc,n,hd⟩:=pl.isList;exact call_list_seq p (.inl rfl) ho hc hd (λh' c' kp e=>fin its r' hz h' c' kp e) (by simp only[Pg] <;> omega)
 ·obtain⟨its,r',pl,hz⟩:=I.tuple hq
  have hlen:=r'.length;obtain⟨o,ho,hc,n,hd⟩:=pl;exact call_list_seq p (.inr rfl) ho hc hd (λh' c' kp e=>fin its r' hz h' c' kp e) (by simp only[Pg] <;> omega)
theorem QR:ZO X (.type "tuple") (λxs H Q=>∃p ys,xs=[.ref p]/\((SqL X.K H p ys/\∀l,H l=none->Q (.ref l) (upd H l (.tup ys)))\/(SqT X.K H p ys/\Q (.ref p) H))):=by
 intro pq s σ H xs us Q I r h;obtain⟨p,ys,rfl,h⟩:=h;obtain⟨u,rfl,rx⟩:=Uo r;cases rx;rcases h with ⟨hq,q⟩ | ⟨hq,q⟩
 ·obtain⟨its,r',pl,hz⟩:=I.list hq
  have hlen:=r'.length;refine call_tuple_list pl.isList (λh' kp=>?_) (by simp only[Pg] <;> omega)
  have I1:Inv X pq σ H { s with heap:=h' }:=I.kept (t':=s.toks) kp
  have I2:Inv X pq σ (upd H h'.objs.size (.tup ys)) { s with heap:=h'.push { cls:=.type "tuple",data:=.seq its.toArray } }:=
   I1.laid (t':=s.toks) (λb o e=>Pf _ e) (Pk _) (show Z2 X.prog X.w _ _ _ (.tup ys) from ⟨hz,its,r',Kz _ _⟩)
  exact⟨.ref h'.objs.size,_,I2,rfl,q _ (I1.hok.fresh (Pk _))⟩
 ·obtain⟨its,r',pl,hz⟩:=I.tuple hq
  exact call_tuple_same pl ⟨.ref p,H,I,rfl,q⟩
def tyV (K:PySem.W.Frag) (T:String) (x:V) (H:Hp):Prop:=match x with
 |.str _=>T = "str"
 |.int _=>T = "int"
 |.ref p=>(T = "list"/\∃xs,SqL K H p xs)\/(T = "tuple"/\∃o,K.lookup p=some o/\o.cls=.type "tuple"/\o.dict=none)\/
   (T = "dict"/\((∃kvs,H p=some (.dK kvs))\/∃kvs,H p=some (.dT kvs)))\/(T = "set"/\∃S n,H p=some (.set S n))
 |_=>False
theorem Zck {pq:List (Addr×Obj)}{σ:St}{H:Hp}{s:Shared}{T:String}{x:V}{v:Value}(I:Inv X pq σ H s) (r:ZI x v) (ty:tyV X.K T x H) :
  s.TypeIs v T/\∀a,v=.ref a->∃ob,s.heap.get? a=some ob/\ob.dict=none:=by
 cases x with
 |str z=>
  obtain⟨t,rfl⟩:=r;cases (show T = "str" from ty)
  exact⟨typeIs_str s z t,λ_ e=>nomatch e⟩
 |int i=>
  obtain⟨t,rfl⟩:=r;cases (show T = "int" from ty)
  exact⟨typeIs_int s i t,λ_ e=>nomatch e⟩
 |ref p=>
  cases r;rcases ty with ⟨rfl,xs,hq⟩ | ⟨rfl,o,hk,hc,hd⟩ | ⟨rfl,hk⟩ | ⟨rfl,S,n,hk⟩
  ·obtain⟨its,_,pl,_⟩:=I.list hq
   refine⟨pl.isList.typeIs,λa e=>?_⟩
   cases e;obtain⟨o,n,e,c,hd,_⟩:=pl;exact⟨o,e,hd⟩
  ·refine⟨⟨o,I.kIn p o hk,hc⟩,λa e=>?_⟩
   cases e;exact⟨o,I.kIn _ o hk,hd⟩
  ·have z:∃o,s.heap.get? p=some o/\o.ExactDict:=by
    rcases hk with ⟨kvs,hk⟩ | ⟨kvs,hk⟩
    ·obtain⟨_,_,_,_,o,_,_,e,ex,_⟩:=I.hok p _ hk
     exact⟨o,e,ex⟩
    ·obtain⟨_,_,_,_,o,_,_,e,ex,_⟩:=I.hok p _ hk
     exact⟨o,e,ex⟩
   obtain⟨o,e,ex⟩:=z;refine⟨⟨o,e,ex.1⟩,λa e2=>?_⟩
   cases e2;exact⟨o,e,ex.2.1⟩
  ·obtain⟨o,_,_,_,e,ex,_⟩:=I.hok p _ hk
   refine⟨⟨o,e,ex.1⟩,λa e2=>?_⟩
   cases e2;exact⟨o,e,ex.2.1⟩
 |_=>exact False.elim ty
def tBM (K:PySem.W.Frag) (T:String) (r:V->List V->Hp->VK->Prop) (to:TE) (t:TA):TE:=λσ H Q=>to σ H λx H1=>tyV K T x H1/\t σ H1 λxs H2=>r x xs H2 Q
variable {o e:Expr}{es:List Expr}{to:TE}{t:TA}{name:Str}{apos cpos:Pos}{T id:String}{r:V->List V->Hp->VK->Prop}
theorem Zbn (pa:PlainAttrs T) (slot:Slot T name id) (hty:typeOf (.builtin id)=pure (.type "method_descriptor")) (hm:MtR X id r) (ho:PE X o to) (ha:PA X (e::es) t)
  (hbase:attributeBase o name X.env (eval o X.env)=eval o X.env:=by rfl)
  (hfew:((backTo cpos (starEach (e::es) X.env)).all (λx=>!x.1)&&(backToKw cpos (keywordEach [] X.env)).all (λx=>x.1.isSome)
   && decide ((e::es).length+([]:List Keyword).length+(if ([]:List Keyword).isEmpty then 0 else 1)<30))=true:=by rfl)
  (hline:(apos.endLine == cpos.line)=true:=by rfl) (hs:starEach (e::es) X.env=(false,eval e X.env)::starEach es X.env:=by rfl) (hplain:(backTo cpos (starEach es X.env)).any (·.1)=false:=by rfl) :
  PE X (.Call (.Attribute o name apos) (e::es) [] cpos) (tBM X.K T r to t):=by
 intro pq s σ H Q I h;refine wpAny_Call_method_late hbase hfew hline rfl (thn (ho pq s σ H _ I h) λv s1 ⟨x,H1,I1,r1,ty,q1⟩=>?_)
 obtain⟨h1,h2⟩:=Zck I1 r1 ty;refine⟨T,id,pa,slot,hty,h1,h2,?_⟩;have hA:=ha cpos pq s1 σ H1 _ I1 q1;rw[hs] at hA ⊢;refine Calls.callWith_builtin (by show (false||(backTo cpos (starEach es X.env)).any (·.1))=false;rw[hplain] <;> rfl) (Calls.evalArgs_plain ?_)
 exact thn hA λus s2 ⟨vs,H2,I2,r2,q2⟩=>hm pq s2 σ H2 x vs v us Q I2 r1 r2 q2
end
def MtM (X:Cx) (id:String) (r:V->List V->Hp->VK->Prop):Prop:=
 ∀(pq:List (Addr×Obj)) (s:Shared) (σ:St) (H:Hp) (x:V) (xs:List V) (v:Value) (us:List Value) (Q:VK),Inv X pq σ H s->ZI x v->Vals xs us->r x xs H Q->
  wpAny (model X.prog X.w) X.A (call (.builtin id) (v::us)) (EP X pq σ Q) X.xe s
theorem Vals.one:∀{x:V}{us:List Value},Vals [x] us->∃u,us=[u]/\ZI x u
 |_,_,.cons r .nil=>⟨_,rfl,r⟩
theorem Vals.reverse {xs:List V}{us:List Value}(h:Vals xs us):Vals xs.reverse us.reverse:=by
 induction h with
 |nil=>exact .nil
 |cons r t ih=>rw[NE,NE];exact Vals.append ih (.cons r .nil)
theorem Vals.rep {xs:List V}{us:List Value}(h:Vals xs us):∀k:Nat,Vals (List.replicate k xs).flatten (List.replicate k us).flatten
 |0=>.nil
 |k+1=>by
  rw[P5,P5,Ng,Ng];exact Vals.append h (Vals.rep h k)
theorem V8 (its:List Value):∀(k:Nat) (acc:List Value),
  List.foldl (λx1 x2=>x1++x2) acc.toArray (List.replicate k its.toArray)=(acc++(List.replicate k its).flatten).toArray
 |0,acc=>by simp
 |k+1,acc=>by
  have e:acc.toArray++its.toArray=(acc++its).toArray:=by simp
  have e2:(acc++its)++(List.replicate k its).flatten=acc++(List.replicate (k+1) its).flatten:=by
   rw[P5,Ng,List.append_assoc]
  rw[<-e2,<-V8 its k (acc++its),<-e,P5,List.foldl_cons]
section
variable {X:Cx}{pq:List (Addr×Obj)}{σ:St}{H:Hp}{s:Shared}{l b:Addr}{xs ys zs:List V}
theorem Inv.lset {its its':List Value}{n:Nat}{f:Array Value->Array Value}{t':Nat}(I:Inv X pq σ H s) (hH:H l=some (.lst xs))
  (e:s.heap.get? l=some { cls:=.type "list",data:=.seq its.toArray n }) (hf:f its.toArray=its'.toArray) (hv:Vals ys its') (hz:ys.length<=sizeLine) :
  Inv X pq σ (upd H l (.lst ys)) { s with heap:=s.heap.update l (Obj.mapSeq f),toks:=t' }:=by
 have q:=PySem.IsL.update e f;rw[hf] at q;refine I.write (x:=l) (e:=l) (by rw[hH];exact trivial) (.inl rfl) (λb' u hb hu=>(Heap.get?_update_other s.heap (Obj.mapSeq f) (Ne.symm hb)).trans hu) ⟨_,q⟩ ?_
 exact⟨hz,its',_,hv,q⟩
theorem Inv.lnew {its:List Value}{t':Nat}(I:Inv X pq σ H s) (hv:Vals ys its) (hz:ys.length<=sizeLine) :
  Inv X pq σ (upd H s.heap.objs.size (.lst ys)) { s with heap:=s.heap.push { cls:=.type "list",data:=.seq its.toArray },toks:=t' }:=
 I.laid (λ_ _ q=>Pf _ q) (Pk _) ⟨hz,its,0,hv,Pq _ rfl⟩
theorem Inv.fresh (I:Inv X pq σ H s):H s.heap.objs.size=none:=I.hok.fresh (Pk _)
theorem Inv.lstM (I:Inv X pq σ H s) (hH:H l=some (.lst xs)):xs.length<=sizeLine/\∃(its:List Value) (n:Nat),Vals xs its/\xs.length=its.length/\s.heap.get? l=some { cls:=.type "list",data:=.seq its.toArray n }:=by
 obtain⟨z,its,n,r,e⟩:=I.hok l _ hH;exact⟨z,its,n,r,r.length,e⟩
theorem uT {n:Nat}(h:n<=sizeLine):Builtin.List.listTooLong n=false:=by
 unfold Builtin.List.listTooLong;exact PX (by omega)
end
section
variable {X:Cx}
noncomputable def Zaj:V->List V->Hp->VK->Prop:=λx vs H Q=>∃l xs y,x=.ref l/\vs=[y]/\H l=some (.lst xs)/\xs.length<sizeLine/\Q .non (upd H l (.lst (xs++[y])))
theorem Jn:MtM X "list.append" Zaj:=by
 intro pq s σ H x vs v us Q I rx rv h;obtain⟨l,xs,y,rfl,rfl,hH,hz,q⟩:=h;cases rx;obtain⟨u,rfl,ru⟩:=rv.one;obtain⟨z,its,n,r,hl,e⟩:=I.lstM hH;refine Kw F.slot_list_append ⟨_,e,rfl⟩ F.entry_list_append (F.args_list_append_2 _ _) (PySem.list_append l its.toArray n u (by rw[Pg];omega)) ⟨e,?_⟩
 refine⟨.non,_,I.lset (its':=its++[u]) hH e (by simp) (r.append (.cons ru .nil)) ?_,rfl,q⟩
 rw[PD,P1];omega
noncomputable def jL:V->List V->Hp->VK->Prop:=λx vs H Q=>∃l b xs zs,x=.ref l/\vs=[.ref b]/\H l=some (.lst xs)/\H b=some (.lst zs)/\xs.length+zs.length<=sizeLine/\Q .non (upd H l (.lst (xs++zs)))
theorem vI:MtM X "list.extend" jL:=by
 intro pq s σ H x vs v us Q I rx rv h;obtain⟨l,b,xs,zs,rfl,rfl,hH,hB,hz,q⟩:=h;cases rx;obtain⟨u,rfl,ru⟩:=rv.one;cases ru;obtain⟨z,its,n,r,hl,e⟩:=I.lstM hH;obtain⟨z2,its2,n2,r2,hl2,e2⟩:=I.lstM hB;have hsz:its.toArray.size+its2.toArray.size<=sizeLine:=by rw[Pg,Pg];omega
 have hlong:¬(!its.toArray.isEmpty&&Builtin.List.listTooLong (its.toArray.size+its2.toArray.size))=true:=by
  rw[uT hsz,Bool.and_false];exact Px
 refine Kw F.slot_list_extend ⟨_,e,rfl⟩ F.entry_list_extend (F.args_list_extend_2 _ _)
  (AutoSeq1.list_extend_list_list_0 l its.toArray n b its2.toArray n2 hlong (by rw[Pg];omega) (by omega)) ⟨e,e2,?_⟩
 refine⟨.non,_,I.lset (its':=its++its2) hH e (by simp) (r.append r2) ?_,rfl,q⟩
 rw[PD];omega
def Zdn:R2:=λx y H Q=>∃l b xs zs,x=.ref l/\y=.ref b/\H l=some (.lst xs)/\H b=some (.lst zs)/\xs.length+zs.length<=sizeLine/\∀p,H p=none->Q (.ref p) (upd H p (.lst (xs++zs)))
theorem Zcy:OpR X (binaryOp .Add) Zdn:=by
 intro pq s σ H x y v u Q I rx ry h;obtain⟨l,b,xs,zs,rfl,rfl,hH,hB,hz,q⟩:=h;cases rx;cases ry;obtain⟨z,its,n,r,hl,e⟩:=I.lstM hH;obtain⟨z2,its2,n2,r2,hl2,e2⟩:=I.lstM hB;refine PySem.P.add_list e e2 ?_ (by rw[Pg,Pg];omega)
 have ea:its.toArray++its2.toArray=(its++its2).toArray:=by simp
 rw[ea];exact⟨.ref _,_,I.lnew (t':=s.toks) (r.append r2) (by rw[PD];omega),rfl,q _ I.fresh⟩
theorem Gi {α:Type}(xs:List α) (k:Nat):(List.replicate k xs).flatten.length=k*xs.length:=by
 induction k with
 |zero=>simp
 |succ k ih=>rw[P5,Ng,PD,ih,Nat.succ_mul,Nat.add_comm]
end
end L2
namespace Att
open PySem PySem.W PySem.Calls PyProof.Rows
theorem Uv {P:Params}{h:Heap}:∀(ns:List Int) (vs:List Value),WellAll P h vs (ns.map WData.int)->IntsAre vs ns:=by
 intro ns
 induction ns with
 |nil=>
  intro vs w;rw[K1] at w;cases w;exact .nil
 |cons n ns ih=>
  intro vs w;rw[PP] at w;cases w with
  |cons a b=>
   cases a;exact .cons _ _ (ih _ b)
theorem vj {l:OpenLaw}{n:Nat}(hn:l.most=some n) {P:Params}{h:Heap}{args:List WData}{vals:List Value}
  (hpre:l.row.toRowW.claim.pre args=true) (hwl:WellAll P h vals args) :
  ∃a vs ns,vals=[Value.ref a]/\args=[WData.list (ns.map WData.int)]/\h.get? a=some { cls:=.type "list",data:=.seq vs.toArray }/\IntsAre vs ns/\ns.length<=n:=by
 have hsh:WShape.hasAll [] args [.list .int]=true:=(pre_splitW hpre).1;have hc:l.pre.holds [] { args:=args }=true:=(pre_splitW hpre).2;obtain⟨d,r,rfl,h1,h2⟩:=hasAllW_cons hsh;obtain rfl:=hasAllW_nil h2;obtain⟨xs,rfl,h3⟩:=hasW_list h1;obtain⟨ns,rfl⟩:=items_int h3;have hlen:ns.length<=n:=by
  unfold OpenLaw.pre at hc;have h4:(WTm.not (.lt (.lit (.int (n:Int))) (.len (.arg 0)))).holds [] { args:=[.list (ns.map .int)] }=true:=by
   have h4:=(holds_andW hc).1;rw[hn] at h4;exact h4
  have h5:=condW_of h4 (w_not (w_lt w_lit (w_len_list (w_arg rfl))));rw[Pl] at h5;refine KL λq=>?_
  have q':(n:Int)<((ns.length:Nat):Int):=by omega
  first
   |(rw[PJ q'] at h5;exact absurd h5 (by decide))
   |(simp at h5;omega)
 cases hwl with
 |cons w1 w2=>
  cases w2;cases w1 with
  |list ho hall=>exact⟨_,_,ns,rfl,rfl,ho,Uv ns _ hall,hlen⟩
theorem vS (l:OpenLaw) (args:List WData):l.row.toRowW.claim.post args (.bool true) args=true:=
 postW_of (r:=l.row.toRowW) (X:=(true == true))
  (show WShape.has [] (.bool true) .bool=true by first | rfl | decide | simp[WShape.has,WShape.arms,WShape.armsAll])
  (show (WTm.eq .res (.lit (.bool true))).value [] { args:=args,res:=some (.bool true),after:=args }=some (.bool (true == true)) from w_eq_bool (w_res rfl) w_lit) rfl
theorem ze {l:OpenLaw}{n:Nat}{q:Program}{loose:List Str}{XP:(Str->Option Value)->Heap->Prop}{YP:World->Heap->Prop}{d:DefRec}
  (hn:l.most=some n) (hdf:d.params.defaults=[])
  (call:∀(w:World) (s₀ s₁:Shared) (mg mb:Str->Option Value) (fa:Addr) (o:Obj) (pm cd doc:Value) (a:Addr) (vs:List Value) (ns:List Int),
   Ground q loose [] XP w s₀ mg mb s₁.heap->YP w s₁.heap->
   s₁.heap.get? fa=some o->o.data=.func (docDef d.name d.params d.body d.scope pm cd doc)->s₁.heap.CodeRec cd d.name->mg d.name=some (.ref fa)->
   s₁.heap.get? a=some { cls:=.type "list",data:=.seq vs.toArray }->IntsAre vs ns->ns.length<=n->s₁.gens = #[]->
   codeAny (model l.prog w) callerA (.call (.ref fa) ⟨[.ref a],[]⟩) (λr s'=>r=.ok (.ret (.bool true))/\OldK s₁.heap s'.heap/\s'.os=s₁.os/\AllBare s'.gens) s₁) :
  WalkO q loose XP YP l.row.toRowW d [] (λf vs=>PySem.call f vs):=by
 intro w s₀ s₁ mg mb G Y fa o pm cd doc dV kV ho hd hcd hD hmg hg args vals as hpre hlay hrd hwl hlo;obtain rfl:dV=.none:=Dflts.none hD hdf;obtain rfl:kV=.none:=Dflts.noKw hD;obtain⟨a,vs,ns,rfl,rfl,hobj,hints,hlen⟩:=vj hn hpre hwl;refine enter_call (codeAny_mono (call w s₀ s₁ mg mb fa o pm cd doc a vs ns G Y ho (fd_plain hd) hcd hmg hobj hints hlen hg) λr s' hq=>?_)
 obtain⟨rfl,h2,h3,h4⟩:=hq;exact⟨.inl ⟨.bool true,.bool true,[],rfl,λ_=>rfl,.bool true,vS l _,λ_=>⟨List.Pairwise.nil,λ_ hm=>(nomatch hm)⟩⟩,h2,h3,h4⟩
end Att
namespace L2
open PySem PySem.Spec PyProof.Rows
theorem Q4:∀{vs:List Value}{ns:List Int},IntsAre vs ns->Vals (ns.map V.int) vs
 |_,_,.nil=>.nil
 |_,_,.cons n t h=>.cons ⟨t,rfl⟩ (Q4 h)
def Only (H:Hp):Prop:=∀b,H b=none\/∃o xs,H b=some (.frz o (.lst xs))
theorem ui {P:Program}{w:World}{K:PySem.W.Frag}{mg mb:Str->Option Value}{CX:CXT}{k:Nat}{fa a:Addr}{fd:FuncData}{x:Str}{sp:Sp}{s₁:Shared}{vs:List Value}{ns:List Int}
  (KX:K.In s₁.heap) (hns:s₁.heap.Ns mainGlobals mg) (hb:s₁.heap.Ns builtinsNs mb) (hbb:∀x:Str,x≠"__name__"->mb x=bootBuiltins x) (hlim:s₁.heap.NoLimit) (hg:s₁.gens = #[])
  (ha:s₁.heap.get? a=some { cls:=.type "list",data:=.seq vs.toArray }) (hi:IntsAre vs ns) (hl:ns.length<=sizeLine) (hr:Room k callerA)
  (F:∀base:Heap,K.In base->base.Ns mainGlobals mg->FnOk P w K mg base CX k fa fd [x] sp) (hbind:∀(s:Shared) (u:Value),BindsTo s fd ⟨[u],[]⟩ [(x,u)])
  (hsp:∀H:Hp,Only H->SqL K H a (ns.map V.int)->sp [.ref a] H (λv _=>v=.bl true) λ_ _ _=>False)
  (hCX:∀H e s',CX [] H s₁ (λ_ _ _=>False) e s'->False) :
  codeAny (model P w) callerA (.call (.ref fa) ⟨[.ref a],[]⟩) (λr s'=>r=.ok (.ret (.bool true))/\OldK s₁.heap s'.heap/\s'.os=s₁.os/\AllBare s'.gens) s₁:=by
 have rv:=Q4 hi;have lenV:=hi.length;have core:∀H:Hp,Only H->SqL K H a (ns.map V.int)->HOk P w H s₁.heap->(∀b,H b≠none->b=a)->(H a≠none->K.lookup a=none)->
   codeAny (model P w) callerA (.call (.ref fa) ⟨[.ref a],[]⟩) (λr s'=>r=.ok (.ret (.bool true))/\OldK s₁.heap s'.heap/\s'.os=s₁.os/\AllBare s'.gens) s₁:=by
  intro H hO hS hok hA hK;have base_of:∀{b:Addr} {o:Obj},s₁.heap.get? b=some o->H b=none->(JH s₁.heap H).get? b=some o:=λe n=>v7 e n
  have noA:∀{b:Addr} {o:Obj} {es:Array DictEntry} {ep:Nat},s₁.heap.get? b=some o->o.data=.dict es ep->H b=none:=λ{b o es ep} e d=>by
   cases q:H b with
   |none=>rfl
   |some u=>
    have e':b=a:=hA b (by rw[q];simp)
    subst e';rw[ha] at e;cases e;have d':Data.seq vs.toArray _=Data.dict es ep:=d;cases d'
  have nsK:∀{b:Addr} {m:Str->Option Value},s₁.heap.Ns b m->(JH s₁.heap H).Ns b m:=λ{b m} ⟨o,es,ep,e,d,r⟩=>⟨o,es,ep,base_of e (noA e d),d,r⟩
  have hKb:K.In (JH s₁.heap H):=λb o e=>base_of (KX b o e) (by
   cases q:H b with
   |none=>rfl
   |some u=>
    have e':b=a:=hA b (by rw[q];simp)
    subst e';rw[hK (by rw[q];simp)] at e;cases e)
  have hM:Mod K mg (JH s₁.heap H):=⟨hKb,nsK hns,⟨mb,nsK hb,hbb⟩,let ⟨mc,h1,h2⟩:=hlim;⟨mc,nsK h1,h2⟩⟩;have e0:Env0 P w K mg (JH s₁.heap H) callerA [] s₁ H:=⟨rfl,hM,λb o e=>Zbe e,Nat.le_of_eq (vJ _ _),trivial,λb hb=>absurd (show b∈([]:List Addr) from hb) (by simp),hok,.of_eq hg⟩
  refine codeAny_mono ((F _ hKb (nsK hns)).run callerA [] s₁ H ⟨[.ref a],[]⟩ [.ref a] [.ref a] _ _ hr e0 (hbind s₁ (.ref a)) (.cons rfl .nil) (hsp H hO hS)) λr s' h=>?_
  cases r with
  |error e=>exact (hCX H e s' h).elim
  |ok fl=>
   cases fl with
   |next=>exact False.elim h
   |brk=>exact False.elim h
   |cont=>exact False.elim h
   |ret u=>
    obtain⟨v,H',os,bare,un,hok',r',q⟩:=h;have q':v=.bl true:=q;subst q';obtain rfl:u=Value.bool true:=r';refine⟨rfl,OldK.of_keep λb o e=>?_,os,bare⟩
    cases q:H b with
    |none=>exact un.keep b o e q (by intro z;exact absurd (show b∈([]:List Addr) from z) (by simp)) (by simp)
    |some u=>
     rcases hO b with z | ⟨ob,xs,z⟩
     ·rw[q] at z;cases z
     ·have z2:=un.frzs b ob _ z
      obtain⟨e1,_⟩:=hok b _ z;obtain⟨e2,_⟩:=hok' b _ z2;rw[e] at e1;cases e1;exact e2
 cases hk:K.lookup a with
 |some o=>
  have e:=KX a o hk;rw[ha] at e;cases e;refine core (λ_=>none) (λ_=>.inl rfl) (.inr ⟨_,vs.toArray,_,hk,rfl,rfl,rfl,by rw[Pg,lenV];exact hl,by simpa using rv⟩) (λb u z=>by have z':(none:Option HO)=some u:=z;cases z') (λb z=>absurd rfl z) λz=>absurd rfl z
 |none=>
  refine core (λb=>if b=a then some (.frz { cls:=.type "list",data:=.seq vs.toArray } (.lst (ns.map V.int))) else none) (λb=>?_) (.inl (.inr ⟨{ cls:=.type "list",data:=.seq vs.toArray },Ph rfl⟩)) (λb u z=>?_) (λb z=>?_) λ_=>hk
  ·by_cases hb:b=a
   ·exact .inr ⟨_,_,Ph hb⟩
   ·exact .inl (Pj hb)
  ·by_cases hb:b=a
   ·have z':=(Ph hb).symm.trans z
    cases z';subst hb;exact⟨ha,by rw[Pl];exact hl,vs,_,rv,ha⟩
   ·have z':=(Pj hb).symm.trans z
    cases z'
  ·by_cases hb:b=a
   ·exact hb
   ·exact absurd (Pj hb) z
theorem jS {l:PySem.W.OpenLaw}{n k:Nat}{q:Program}{loose:List Str}{XP:(Str->Option Value)->Heap->Prop}{YP:World->Heap->Prop}{d:DefRec}{K:Params->PySem.W.Frag}{CX:World->CXT}{sp:World->Sp}{x:Str}
  (hn:l.most=some n) (hn2:n<=sizeLine) (hdf:d.params.defaults=[]) (hr:Room k callerA)
  (hY:∀(w:World) (h:Heap),YP w h->(K w.params).In h)
  (F:∀(w:World) (mg:Str->Option Value) (fa:Addr) (h:Heap),(K w.params).In h->h.Ns mainGlobals mg->mg d.name=some (.ref fa)->
   ∃fd:FuncData,(∀(s:Shared) (u:Value),BindsTo s fd ⟨[u],[]⟩ [(x,u)])/\
    ∀base:Heap,(K w.params).In base->base.Ns mainGlobals mg->FnOk l.prog w (K w.params) mg base (CX w) k fa fd [x] (sp w))
  (hsp:∀(w:World) (H:Hp) (a:Addr) (ns:List Int),ns.length<=n->Only H->SqL (K w.params) H a (ns.map V.int)->sp w [.ref a] H (λv _=>v=.bl true) λ_ _ _=>False)
  (hCX:∀(w:World) (H:Hp) (s:Shared) (e:Value) (s':Shared),CX w [] H s (λ_ _ _=>False) e s'->False) :
  PySem.W.WalkO q loose XP YP l.row.toRowW d [] (λf vs=>PySem.call f vs):=by
 refine Att.ze hn hdf λw s₀ s₁ mg mb fa o pm cd doc a vs ns G Y ho hd hcd hmg hobj hints hlen hg=>?_
 have KX:=hY w _ Y;obtain⟨fd,hb,hF⟩:=F w mg fa _ KX G.T.g hmg;exact ui KX G.T.g G.T.b G.T.builtins G.T.nolimit hg hobj hints (P4 hlen hn2) hr hF hb (λH hO hS=>hsp w H a ns hlen hO hS) λH e s'=>hCX w H s₁ e s'
noncomputable def Xo (s:Stmt):Arguments:=match s with
 |.FunctionDef _ a _ _ _ _ _ _ _ _=>a
 |_=>{ posonlyargs:=[],args:=[],vararg:=none,kwonlyargs:=[],kw_defaults:=[],kwarg:=none,defaults:=[] }
noncomputable def Yv (s:Stmt):List Stmt:=match s with
 |.FunctionDef _ _ b _ _ _ _ _ _ _=>b
 |_=>[]
noncomputable def ZG (s:Stmt):Scope:=match s with
 |.FunctionDef _ _ _ _ _ _ sc _ _ _=>sc
 |_=>{ kind:=.function,names:=[],isGenerator:=false,isCoroutine:=false }
noncomputable abbrev CX0:CXT:=λ_ _ _ _ _ _=>False
noncomputable abbrev E0:XK:=λ_ _ _=>False
theorem Zdc {X:Cx}:xr CX0 X E0:=λ_ _ _ _ _ _ _ h=>h.elim
structure Fun (K:PySem.W.Frag) (x qual:Str) (st:Stmt) (f:Addr) (fd:FuncData):Prop where
 ex:∃(oc:Value) (od:Option Addr) (kV doc pm:Value) (an:Option Addr) (cdv ct:Value) (osl:Array (Option Value)),
  fd=PySem.W.fnOf x qual (Xo st) (Yv st) (ZG st) .none kV doc pm an cdv ct/\K.lookup f=some ⟨oc,od,.func fd,osl⟩/\PySem.W.codeIn K cdv qual=true
 kp:PySem.W.keepIn K (.ref f)=true
section
variable {P:Program}{w:World}{K:PySem.W.Frag}{mg:Str->Option Value}{base:Heap}
theorem Fun.ok {x qual:Str}{st:Stmt}{f:Addr}{fd:FuncData}{N ps:List Str}{k:Nat}{sp:Sp}(F:Fun K x qual st f fd) (S:FnScope N ps (ZG st)) (len:∀vs H Q E,sp vs H Q E->vs.length=ps.length)
  (hbody:∀(cdv:Value) (A:Around) (outer:List Env) (s:Shared) (H:Hp) (vs:List V) (Q:VK) (E:XK),Room k (A.deeper (envOfC qual (ZG st) s.heap.objs.size f cdv))->sp vs H Q E->
   ∃t,PSs (GX CX0 P w K mg base N qual (ZG st) f cdv A outer s H E).nox (Yv st) t/\t { nx:=λ_ H'=>Q .non H',rt:=Q } (start N vs) H):FnOk P w K mg base CX0 (k+1) f fd ps sp:=by
 obtain⟨oc,od,kV,doc,pm,an,cdv,ct,osl,rfl,lk,hcd⟩:=F.ex;refine Zda lk hcd S len λA outer s H vs Q E hr hsp=>?_
 obtain⟨t,h,q⟩:=hbody cdv A outer s H vs Q E hr hsp;exact⟨t,h.nox,q⟩
theorem Fun.binds {x qual:Str}{st:Stmt}{f:Addr}{fd:FuncData}{ps:List Str}(F:Fun K x qual st f fd)
  (h:∀(kV doc pm:Value) (an:Option Addr) (cdv ct:Value) (us:List Value),us.length=ps.length->bindArgs (PySem.W.fnOf x qual (Xo st) (Yv st) (ZG st) .none kV doc pm an cdv ct) ⟨us,[]⟩=pure (ps.zip us)):QG K fd ps []:=by
 obtain⟨oc,od,kV,doc,pm,an,cdv,ct,osl,rfl,lk,hcd⟩:=F.ex;exact .all (h kV doc pm an cdv ct)
theorem ZcG {x qual:Str}{st:Stmt}{f:Addr}{oc:Value}{od an:Option Addr}{osl:Array (Option Value)}{kV doc pm cdv ct:Value}(l:K.lookup f=some ⟨oc,od,.func (PySem.W.fnOf x qual (Xo st) (Yv st) (ZG st) .none kV doc pm an cdv ct),osl⟩)
  (c:PySem.W.codeIn K cdv qual=true) (k:PySem.W.keepIn K (.ref f)=true):Fun K x qual st f (PySem.W.fnOf x qual (Xo st) (Yv st) (ZG st) .none kV doc pm an cdv ct):=⟨⟨oc,od,kV,doc,pm,an,cdv,ct,osl,rfl,l,c⟩,k⟩
end
end L2
namespace Ev
open PySem (Str)
inductive D where
 |non | bl (b:Bool) | int (i:Int) | str (x:Str) | tup (xs:List D) | loc (n:Nat)
 deriving Inhabited
mutual
def D.beq:D->D->Bool
 |.non,.non=>true
 |.bl a,.bl b=>decide (a=b)
 |.int a,.int b=>decide (a=b)
 |.str a,.str b=>decide (a=b)
 |.tup a,.tup b=>D.beqs a b
 |.loc a,.loc b=>decide (a=b)
 |_,_=>false
def D.beqs:List D->List D->Bool
 |[],[]=>true
 |x::xs,y::ys=>D.beq x y&&D.beqs xs ys
 |_,_=>false
end
mutual
theorem D.eq_of_beq:∀{a b:D},D.beq a b=true->a=b
 |.non,.non,_=>rfl
 |.bl a,.bl b,h=>by unfold D.beq at h;rw[PF h]
 |.int a,.int b,h=>by unfold D.beq at h;rw[PF h]
 |.str a,.str b,h=>by unfold D.beq at h;rw[PF h]
 |.tup a,.tup b,h=>by unfold D.beq at h;rw[D.eq_of_beqs h]
 |.loc a,.loc b,h=>by unfold D.beq at h;rw[PF h]
 |.non,.bl _,h | .non,.int _,h | .non,.str _,h | .non,.tup _,h | .non,.loc _,h=>by unfold D.beq at h;cases h
 |.bl _,.non,h | .bl _,.int _,h | .bl _,.str _,h | .bl _,.tup _,h | .bl _,.loc _,h=>by unfold D.beq at h;cases h
 |.int _,.non,h | .int _,.bl _,h | .int _,.str _,h | .int _,.tup _,h | .int _,.loc _,h=>by unfold D.beq at h;cases h
 |.str _,.non,h | .str _,.bl _,h | .str _,.int _,h | .str _,.tup _,h | .str _,.loc _,h=>by unfold D.beq at h;cases h
 |.tup _,.non,h | .tup _,.bl _,h | .tup _,.int _,h | .tup _,.str _,h | .tup _,.loc _,h=>by unfold D.beq at h;cases h
 |.loc _,.non,h | .loc _,.bl _,h | .loc _,.int _,h | .loc _,.str _,h | .loc _,.tup _,h=>by unfold D.beq at h;cases h
theorem D.eq_of_beqs:∀{a b:List D},D.beqs a b=true->a=b
 |[],[],_=>rfl
 |x::xs,y::ys,h=>by
  unfold D.beqs at h;have h1:=(Pp _ _).mp h;rw[D.eq_of_beq h1.1,D.eq_of_beqs h1.2]
 |[],_::_,h=>by unfold D.beqs at h;cases h
 |_::_,[],h=>by unfold D.beqs at h;cases h
end
mutual
theorem D.beq_self:∀a:D,D.beq a a=true
 |.non=>rfl
 |.bl a=>by unfold D.beq;exact PJ rfl
 |.int a=>by unfold D.beq;exact PJ rfl
 |.str a=>by unfold D.beq;exact PJ rfl
 |.tup a=>by unfold D.beq;exact D.beqs_self a
 |.loc a=>by unfold D.beq;exact PJ rfl
theorem D.beqs_self:∀a:List D,D.beqs a a=true
 |[]=>rfl
 |x::xs=>by unfold D.beqs;rw[D.beq_self x,D.beqs_self xs];rfl
end
instance:DecidableEq D:=λa b=>if h:D.beq a b=true then isTrue (D.eq_of_beq h) else isFalse λe=>h (by rw[e];exact D.beq_self b)
inductive Ob where
 |lst (xs:List D) | scr (ns:List Int)
 deriving DecidableEq
noncomputable abbrev Zc:=List Ob
noncomputable abbrev Lc:=List (Option D)
inductive R (α:Type) where
 |ok (a:α) (S:Zc) | ex (c:Nat) (S:Zc) | no
noncomputable def R.bind {α β:Type} (r:R α) (f:α->Zc->R β):R β:=match r with
 |.ok a S=>f a S
 |.ex c S=>.ex c S
 |.no=>.no
noncomputable def lim:Nat:=16777216
inductive Bop where | add | sub | mul | fdiv | mod | pow
 deriving DecidableEq
inductive Cop where | eq | ne | lt | le | gt | ge | is | isn | inn | nin
 deriving DecidableEq
inductive Ty where | int | bool | str | tuple | list | dict | cls (c:Nat)
 deriving DecidableEq
inductive Bf where | len | max2 | min2 | toInt | tuple | list | all | any | sum | sorted | sortedR | set | listD | sortedD | rangeT
 deriving DecidableEq
inductive Mf where | append | extend
 deriving DecidableEq
mutual
inductive E where
 |c (d:D) | v (i:Nat)
 |tup (es:List E) | lst (es:List E)
 |bin (op:Bop) (a b:E) | neg (a:E) | not (a:E) | and (a b:E) | or (a b:E) | ite (t a b:E)
 |cmp (op:Cop) (a b:E) | chain (o p:Cop) (a b d:E)
 |ix (a i:E) | sl (a:E) (lo hi:Option E) | rev (a:E)
 |call (f:Nat) (as:List E) | blt (f:Bf) (as:List E) | mt (m:Mf) (o:E) (as:List E)
 |isi (a:E) (ts:List Ty)
 |inT (a:E) (tab:List (Int×Int))
 |comp1 (cap:List Nat) (nl:Nat) (t:List Nat) (it:W) (ifs:List E) (elt:E)
 |comp2 (cap:List Nat) (nl:Nat) (t:List Nat) (it:W) (ifs:List E) (u:List Nat) (jt:W) (jfs:List E) (elt:E)
inductive W where
 |of (e:E) | rng1 (a:E) | rng2 (a b:E) | zip (a b:E) | enum (a:E) | rrng (a b:E) | rtup (a:E)
end
inductive Sm where
 |asg (t:List Nat) (e:E) | par (t:List Nat) (es:List E) | aug (i:Nat) (op:Bop) (e:E) | put (o i e:E)
 |ret (e:E) | ex (e:E) | ite (t:E) (a b:List Sm) | forr (t:List Nat) (it:W) (b:List Sm) | whl (t:E) (b:List Sm)
 |raise (c:Nat) (as:List E) | pas | brk | cnt
noncomputable def Z7 (S:Zc) (n:Nat):Option (List D):=match S[n]? with
 |some (.lst xs)=>some xs
 |some (.scr ns)=>some (ns.map .int)
 |_=>none
noncomputable def Zj (S:Zc) (n:Nat):Option (List D):=match S[n]? with
 |some (.lst xs)=>some xs
 |_=>none
noncomputable def ZM (S:Zc):D->Option Bool
 |.non=>some false
 |.bl b=>some b
 |.int i=>some (decide (i≠0))
 |.tup xs=>some (!xs.isEmpty)
 |.loc n=>(Z7 S n).map λxs=>!xs.isEmpty
 |_=>none
noncomputable def b2i (b:Bool):Int:=if b then 1 else 0
noncomputable def eqL (f:D->D->Option Bool):List D->List D->Option Bool
 |[],[]=>some true
 |x::xs,y::ys=>match f x y,eqL f xs ys with
  |some a,some b=>some (a&&b)
  |_,_=>none
 |_,_=>some false
noncomputable def eqD (S:Zc):Nat->D->D->Option Bool
 |0,_,_=>none
 |k+1,x,y=>match x,y with
  |.non,.non=>some true
  |.bl a,.bl b=>some (decide (a=b))
  |.int a,.int b=>some (decide (a=b))
  |.bl a,.int b=>some (decide (b2i a=b))
  |.int a,.bl b=>some (decide (a=b2i b))
  |.str a,.str b=>some (decide (a=b))
  |.tup xs,.tup ys=>eqL (eqD S k) xs ys
  |.loc m,.loc n=>match Zj S m,Zj S n with
   |some xs,some ys=>if xs.length=ys.length then eqL (eqD S k) xs ys else some false
   |_,_=>none
  |.non,.bl _ | .non,.int _ | .non,.str _ | .bl _,.non | .int _,.non | .str _,.non=>some false
  |.bl _,.str _ | .int _,.str _ | .str _,.bl _ | .str _,.int _=>some false
  |_,_=>none
noncomputable def Zo:Nat:=6
noncomputable def inL (S:Zc) (x:D):List D->Option Bool
 |[]=>some false
 |y::ys=>match eqD S Zo y x,inL S x ys with
  |some a,some b=>some (a||b)
  |_,_=>none
noncomputable def U2:List D->Option (List Int)
 |[]=>some []
 |.int i::r=>(U2 r).map (i :: ·)
 |_::_=>none
noncomputable def G8 (S:Zc):D->Ty->Option Bool
 |.non,_=>some false
 |.bl _,t=>some (decide (t=.bool\/t=.int))
 |.int _,t=>some (decide (t=.int))
 |.str _,t=>some (decide (t=.str))
 |.tup _,t=>some (decide (t=.tuple))
 |.loc n,t=>match S[n]? with
  |some (.lst _)=>some (decide (t=.list))
  |_=>none
noncomputable def Qu (S:Zc) (x:D):List Ty->Option Bool
 |[]=>some false
 |t::ts=>match G8 S x t with
  |some true=>some true
  |some false=>Qu S x ts
  |none=>none
noncomputable def ixN (n:Nat) (i:Int):Option Nat:=if 0<=i then (if i<n then some i.toNat else none) else if -(n:Int)<=i then some (i+n).toNat else none
noncomputable def at' {α:Type} (xs:List α) (i:Int):Option α:=(ixN xs.length i).bind λj=>xs[j]?
noncomputable def sIx (n d:Nat):Option Int->Nat
 |none=>d
 |some i=>if i<0 then (i+n).toNat else min i.toNat n
noncomputable def cut (xs:List D) (lo hi:Option Int):List D:=(xs.drop (sIx xs.length 0 lo)).take (sIx xs.length xs.length hi-sIx xs.length 0 lo)
noncomputable def fits (i:Int):Bool:=decide (i.natAbs<2^1000)
noncomputable def Ys (op:Bop) (x y:D) (S:Zc):R D:=match op,x,y with
 |.add,.int a,.int b=>.ok (.int (a+b)) S
 |.sub,.int a,.int b=>.ok (.int (a-b)) S
 |.mul,.int a,.int b=>if (fits a&&fits b)=true then .ok (.int (a*b)) S else .no
 |.fdiv,.int a,.int b=>if 0<b/\b<1073741824 then .ok (.int (a / b)) S else .no
 |.mod,.int a,.int b=>if 0<b then .ok (.int (a%b)) S else .no
 |.pow,.int a,.int b=>if 0<=b/\b<=1000/\a.natAbs<2^64 then .ok (.int (a^b.toNat)) S else .no
 |.add,.tup a,.tup b=>if a.length+b.length<=lim then .ok (.tup (a++b)) S else .no
 |.mul,.tup a,.int b=>if 0<=b/\b<1000/\a.length<=1000 then .ok (.tup (List.replicate b.toNat a).flatten) S else .no
 |.mul,.loc m,.int b=>match Zj S m with
  |some a=>if 0<=b/\b<1000/\a.length<=1000 then .ok (.loc S.length) (S++[.lst (List.replicate b.toNat a).flatten]) else .no
  |none=>.no
 |.add,.loc m,.loc n=>match Zj S m,Zj S n with
  |some a,some b=>if a.length+b.length<=lim then .ok (.loc S.length) (S++[.lst (a++b)]) else .no
  |_,_=>.no
 |_,_,_=>.no
noncomputable def xO (op:Bop) (x y:D) (S:Zc):R D:=match x,y with
 |.int _,.int _=>Ys op x y S
 |_,_=>.no
noncomputable def ob {α:Type} (o:Option α) (S:Zc):R α:=match o with
 |some a=>.ok a S
 |none=>.no
noncomputable def Zb5 (S:Zc) (x:D):Option Ob->R Bool
 |some (.lst ys)=>ob (inL S x ys) S
 |_=>.no
noncomputable def WU (S:Zc) (x y:D):R Bool:=match y with
 |.tup ys=>ob (inL S x ys) S
 |.loc n=>Zb5 S x S[n]?
 |_=>.no
noncomputable def Jh:D->Option (List Int)
 |.tup ks=>U2 ks
 |_=>none
noncomputable def Y6:List D->Option (List (List Int))
 |[]=>some []
 |x::r=>match Jh x,Y6 r with
  |some a,some b=>some (a::b)
  |_,_=>none
noncomputable def V7 (r:List Int):D:=.tup (r.map .int)
noncomputable def ltI:List Int->List Int->Bool
 |[],[]=>false
 |[],_::_=>true
 |_::_,[]=>false
 |a::x,b::y=>if a=b then ltI x y else decide (a<b)
noncomputable def Wm (x:List Int):List (List Int)->List (List Int)
 |[]=>[x]
 |y::r=>if ltI x y then x::y::r else y::Wm x r
noncomputable def ZS:List (List Int)->List (List Int)
 |[]=>[]
 |x::r=>Wm x (ZS r)
noncomputable def YB (op:Cop) (x y:D) (S:Zc):R D:=match op with
 |.eq=>(ob (eqD S Zo x y) S).bind λb S=>.ok (.bl b) S
 |.ne=>(ob (eqD S Zo x y) S).bind λb S=>.ok (.bl !b) S
 |.lt=>match x,y with
  |.int a,.int b=>.ok (.bl (decide (a<b))) S
  |_,_=>.no
 |.gt=>match x,y with
  |.int a,.int b=>.ok (.bl (decide (b<a))) S
  |_,_=>.no
 |.le=>match x,y with
  |.int a,.int b=>.ok (.bl (decide (a<=b))) S
  |_,_=>.no
 |.ge=>match x,y with
  |.int a,.int b=>.ok (.bl (decide (b<=a))) S
  |_,_=>.no
 |.is=>match x,y with
  |_,.non=>.ok (.bl (decide (x=.non))) S
  |.bl a,.bl b=>.ok (.bl (decide (a=b))) S
  |_,_=>.no
 |.isn=>match x,y with
  |_,.non=>.ok (.bl (decide (x≠.non))) S
  |.bl a,.bl b=>.ok (.bl (decide (a≠b))) S
  |_,_=>.no
 |.inn=>(WU S x y).bind λb S=>.ok (.bl b) S
 |.nin=>(WU S x y).bind λb S=>.ok (.bl !b) S
noncomputable def wJ (x y:D) (S:Zc):R D:=match x,y with
 |.tup xs,.int i=>ob (at' xs i) S
 |.loc n,.int i=>match Z7 S n with
  |some xs=>ob (at' xs i) S
  |none=>.no
 |_,_=>.no
noncomputable def slice (x:D) (lo hi:Option Int) (S:Zc):R D:=match x with
 |.tup xs=>.ok (.tup (cut xs lo hi)) S
 |.loc n=>match Zj S n with
  |some xs=>.ok (.loc S.length) (S++[.lst (cut xs lo hi)])
  |none=>.no
 |_=>.no
noncomputable def reversed (x:D) (S:Zc):R D:=match x with
 |.tup xs=>.ok (.tup xs.reverse) S
 |_=>.no
noncomputable def Qe (o i v:D) (S:Zc):R Unit:=match o,i with
 |.loc n,.int k=>match S[n]? with
  |some (.lst xs)=>(ob (ixN xs.length k) S).bind λj S=>.ok () (S.set n (.lst (xs.set j v)))
  |_=>.no
 |_,_=>.no
noncomputable def U3:D->Option Bool
 |.non=>some false
 |.bl b=>some b
 |.int i=>some (decide (i≠0))
 |_=>none
noncomputable def YW:List D->Option (List Bool)
 |[]=>some []
 |x::xs=>match U3 x,YW xs with
  |some b,some bs=>some (b::bs)
  |_,_=>none
noncomputable def XC:List D->Option (List Int)
 |[]=>some []
 |.int i::r=>(XC r).map (i :: ·)
 |_::_=>none
noncomputable def Xc (is:List Int):Bool:=decide (is.length<=1000)&&is.all λi=>decide (-1099511627776<=i/\i<=1099511627776)
noncomputable def YX (rs:List (List Int)):Bool:=decide (rs.length<64)&&decide rs.Nodup&&rs.all λr=>!r.isEmpty
noncomputable def sorted (rev:Bool) (n:Nat) (S:Zc):R D:=(ob (Zj S n) S).bind λxs S=>(ob (Y6 xs) S).bind λrs S=>
 if YX rs=true then .ok (.loc S.length) (S++[.lst ((if rev then (ZS rs).reverse else ZS rs).map V7)]) else .no
noncomputable def Xu (S:Zc):D->Option (List D)
 |.tup xs=>some xs
 |.loc n=>Z7 S n
 |_=>none
noncomputable def Zq (lo:Int) (n:Nat):List D:=(List.range n).map λ(k:Nat)=>.int (lo+(k:Int))
noncomputable def small (i:Int):Bool:=decide (-(2^62)<=i/\i<2^62)
noncomputable def few (i:Int):Bool:=decide (0<=i/\i<=1000)
noncomputable def YQ (f:Bf) (as:List D) (S:Zc):R D:=match f,as with
 |.len,[x]=>(ob (Xu S x) S).bind λxs S=>.ok (.int xs.length) S
 |.max2,[.int a,.int b]=>.ok (.int (if b>a then b else a)) S
 |.min2,[.int a,.int b]=>.ok (.int (if b<a then b else a)) S
 |.toInt,[.int a]=>.ok (.int a) S
 |.toInt,[.bl b]=>.ok (.int (b2i b)) S
 |.tuple,[.tup xs]=>.ok (.tup xs) S
 |.tuple,[.loc n]=>(ob (Zj S n) S).bind λxs S=>.ok (.tup xs) S
 |.list,[x]=>(ob (Xu S x) S).bind λxs S=>.ok (.loc S.length) (S++[.lst xs])
 |.all,[.loc n]=>(ob (Zj S n) S).bind λxs S=>(ob (YW xs) S).bind λbs S=>.ok (.bl (bs.all id)) S
 |.any,[x]=>(ob (Xu S x) S).bind λxs S=>(ob (YW xs) S).bind λbs S=>.ok (.bl (bs.any id)) S
 |.sum,[.loc n]=>(ob (Zj S n) S).bind λxs S=>(ob (XC xs) S).bind λis S=>if Xc is=true then .ok (.int is.sum) S else .no
 |.sortedR,[.loc n]=>sorted true n S
 |.rangeT,[.int i]=>if few i then .ok (.tup (Zq 0 i.toNat)) S else .no
 |_,_=>.no
noncomputable def W9 (m:Mf) (o:D) (as:List D) (S:Zc):R D:=match m,o,as with
 |.append,.loc n,[x]=>(ob (Zj S n) S).bind λxs S=>if xs.length<lim then .ok .non (S.set n (.lst (xs++[x]))) else .no
 |.extend,.loc n,[.loc k]=>if n=k then .no else (ob (Zj S n) S).bind λxs S=>(ob (Zj S k) S).bind λys S=>if xs.length+ys.length<=lim then .ok .non (S.set n (.lst (xs++ys))) else .no
 |_,_,_=>.no
noncomputable def Qg (S:Zc):D->Bool
 |.loc n=>(Zj S n).isSome
 |_=>false
noncomputable def fill:List Nat->List D->Lc->Option Lc
 |[],[],σ=>some σ
 |i::t,x::xs,σ=>fill t xs (σ.set i (some x))
 |_,_,_=>none
noncomputable def assign (t:List Nat) (x:D) (S:Zc) (σ:Lc):Option Lc:=match t with
 |[i]=>some (σ.set i (some x))
 |t=>match x with
  |.tup xs=>fill t xs σ
  |.loc n=>match Zj S n with
   |some xs=>fill t xs σ
   |none=>none
  |_=>none
inductive Fl where | nx (σ:Lc) | ret (d:D) | brk (σ:Lc) | cnt (σ:Lc)
noncomputable abbrev Calls:=Nat->List D->Zc->R D
structure Walk where
 items:List D
 kept:List (Nat×List D)
noncomputable def Walk.still (w:Walk) (S:Zc):Bool:=w.kept.all λp=>decide (S[p.1]? = some (.lst p.2))
noncomputable def Ym (S:Zc):D->Option Walk
 |.tup xs=>some ⟨xs,[]⟩
 |.loc n=>match S[n]? with
  |some (.lst xs)=>some ⟨xs,[(n,xs)]⟩
  |_=>none
 |_=>none
noncomputable def Vm (w:Walk) (body:D->Lc->Zc->R Fl):List D->Lc->Zc->R Fl
 |[],σ,S=>if w.still S then .ok (.nx σ) S else .no
 |x::xs,σ,S=>if w.still S then match body x σ S with
   |.ok (.nx σ') S'=>Vm w body xs σ' S'
   |.ok (.cnt σ') S'=>Vm w body xs σ' S'
   |.ok (.brk σ') S'=>.ok (.nx σ') S'
   |.ok (.ret d) S'=>.ok (.ret d) S'
   |.ex c S'=>.ex c S'
   |.no=>.no
  else .no
noncomputable def Y9 (test:Lc->Zc->R Bool) (body:Lc->Zc->R Fl):Nat->Lc->Zc->R Fl
 |0,_,_=>.no
 |n+1,σ,S=>(test σ S).bind λb S=>if b then match body σ S with
   |.ok (.nx σ') S'=>Y9 test body n σ' S'
   |.ok (.cnt σ') S'=>Y9 test body n σ' S'
   |.ok (.brk σ') S'=>.ok (.nx σ') S'
   |.ok (.ret d) S'=>.ok (.ret d) S'
   |.ex c S'=>.ex c S'
   |.no=>.no
  else .ok (.nx σ) S
noncomputable def Yt (w:Walk) (turn:D->Lc->Zc->R Lc):List D->Lc->Zc->R Lc
 |[],σ,S=>if w.still S then .ok σ S else .no
 |x::xs,σ,S=>if w.still S then (turn x σ S).bind λσ S=>Yt w turn xs σ S else .no
noncomputable def push (n:Nat) (y:D) (S:Zc):R Unit:=match Zj S n with
 |some ys=>if ys.length<lim then .ok () (S.set n (.lst (ys++[y]))) else .no
 |none=>.no
noncomputable def caught (cap:List Nat) (nl:Nat) (σ:Lc):Lc:=List.replicate nl none++cap.map λi=>(σ[i]?).join
noncomputable def Vw:Nat:=1000
mutual
noncomputable def ev (C:Calls):E->Lc->Zc->R D
 |.c d,_,S=>.ok d S
 |.v i,σ,S=>ob (σ[i]?).join S
 |.tup es,σ,S=>(evs C es σ S).bind λxs S=>if xs.length<=lim then .ok (.tup xs) S else .no
 |.lst es,σ,S=>(evs C es σ S).bind λxs S=>if xs.length<=lim then .ok (.loc S.length) (S++[.lst xs]) else .no
 |.bin op a b,σ,S=>(ev C a σ S).bind λx S=>(ev C b σ S).bind λy S=>Ys op x y S
 |.neg a,σ,S=>(ev C a σ S).bind λx S=>match x with
  |.int i=>.ok (.int (-i)) S
  |_=>.no
 |.not a,σ,S=>(ev C a σ S).bind λx S=>(ob (ZM S x) S).bind λb S=>.ok (.bl !b) S
 |.and a b,σ,S=>(ev C a σ S).bind λx S=>match x with
  |.bl c=>if c then ev C b σ S else .ok (.bl false) S
  |_=>.no
 |.or a b,σ,S=>(ev C a σ S).bind λx S=>match x with
  |.bl c=>if c then .ok (.bl true) S else ev C b σ S
  |_=>.no
 |.ite t a b,σ,S=>(ev C t σ S).bind λx S=>(ob (ZM S x) S).bind λc S=>if c then ev C a σ S else ev C b σ S
 |.cmp op a b,σ,S=>(ev C a σ S).bind λx S=>(ev C b σ S).bind λy S=>YB op x y S
 |.chain o p a b d,σ,S=>(ev C a σ S).bind λx S=>(ev C b σ S).bind λy S=>(YB o x y S).bind λz S=>match z with
  |.bl c=>if c then (ev C d σ S).bind λw S=>YB p y w S else .ok (.bl false) S
  |_=>.no
 |.ix a i,σ,S=>(ev C a σ S).bind λx S=>(ev C i σ S).bind λy S=>wJ x y S
 |.sl a lo hi,σ,S=>(ev C a σ S).bind λx S=>(evo C lo σ S).bind λl S=>(evo C hi σ S).bind λh S=>slice x l h S
 |.rev a,σ,S=>(ev C a σ S).bind λx S=>reversed x S
 |.call f as,σ,S=>(evs C as σ S).bind λxs S=>C f xs S
 |.blt f as,σ,S=>(evs C as σ S).bind λxs S=>YQ f xs S
 |.mt m o as,σ,S=>(ev C o σ S).bind λx S=>if Qg S x=true then (evs C as σ S).bind λxs S=>W9 m x xs S else .no
 |.isi a ts,σ,S=>(ev C a σ S).bind λx S=>(ob (Qu S x ts) S).bind λb S=>.ok (.bl b) S
 |.inT a tab,σ,S=>(ev C a σ S).bind λx S=>match x with
  |.int i=>.ok (.bl ((tab.map (·.1)).contains i)) S
  |_=>.no
 |.comp1 cap nl t it ifs elt,σ,S=>(evw C it σ S).bind λw S=>
   (Yt w (λx σ S1=>(ob (assign t x S1 σ) S1).bind λσ S1=>(evt C ifs σ S1).bind λb S1=>if b then (ev C elt σ S1).bind λy S1=>(push S.length y S1).bind λ_ S1=>.ok σ S1 else .ok σ S1) w.items (caught cap nl σ) (S++[.lst []])).bind
    λ_ S1=>.ok (.loc S.length) S1
 |.comp2 cap nl t it ifs u jt jfs elt,σ,S=>(evw C it σ S).bind λw S=>
   (Yt w (λx σ S1=>(ob (assign t x S1 σ) S1).bind λσ S1=>(evt C ifs σ S1).bind λb S1=>if b then
    (evw C jt σ S1).bind λw2 S1=>Yt w2 (λx σ S1=>(ob (assign u x S1 σ) S1).bind λσ S1=>(evt C jfs σ S1).bind λb S1=>if b then (ev C elt σ S1).bind λy S1=>(push S.length y S1).bind λ_ S1=>.ok σ S1 else .ok σ S1) w2.items σ S1
    else .ok σ S1) w.items (caught cap nl σ) (S++[.lst []])).bind
    λ_ S1=>.ok (.loc S.length) S1
noncomputable def evs (C:Calls):List E->Lc->Zc->R (List D)
 |[],_,S=>.ok [] S
 |e::es,σ,S=>(ev C e σ S).bind λx S=>(evs C es σ S).bind λxs S=>.ok (x::xs) S
noncomputable def evo (C:Calls):Option E->Lc->Zc->R (Option Int)
 |none,_,S=>.ok none S
 |some e,σ,S=>(ev C e σ S).bind λx S=>match x with
  |.int i=>.ok (some i) S
  |_=>.no
noncomputable def evt (C:Calls):List E->Lc->Zc->R Bool
 |[],_,S=>.ok true S
 |e::es,σ,S=>(ev C e σ S).bind λx S=>(ob (ZM S x) S).bind λb S=>if b then evt C es σ S else .ok false S
noncomputable def evw (C:Calls):W->Lc->Zc->R Walk
 |.rng1 a,σ,S=>(ev C a σ S).bind λx S=>match x with
  |.int i=>if small i then .ok ⟨Zq 0 i.toNat,[]⟩ S else .no
  |_=>.no
 |.rng2 a b,σ,S=>(ev C a σ S).bind λx S=>(ev C b σ S).bind λy S=>match x,y with
  |.int i,.int j=>if (small i&&small j)=true then .ok ⟨Zq i (j-i).toNat,[]⟩ S else .no
  |_,_=>.no
 |.rrng a b,σ,S=>(ev C a σ S).bind λx S=>(ev C b σ S).bind λy S=>match x,y with
  |.int i,.int j=>if (small i&&small j)=true then .ok ⟨(Zq i (j-i).toNat).reverse,[]⟩ S else .no
  |_,_=>.no
 |.rtup a,σ,S=>(ev C a σ S).bind λx S=>match x with
  |.tup xs=>.ok ⟨xs.reverse,[]⟩ S
  |_=>.no
 |.zip a b,σ,S=>(ev C a σ S).bind λx S=>(ev C b σ S).bind λy S=>match Ym S x,Ym S y with
  |some v,some w=>.ok ⟨(v.items.zip w.items).map λp=>.tup [p.1,p.2],v.kept++w.kept⟩ S
  |_,_=>.no
 |.enum a,σ,S=>(ev C a σ S).bind λx S=>match Ym S x with
  |some w=>.ok ⟨(Zq 0 w.items.length).zip w.items |>.map λp=>.tup [p.1,p.2],w.kept⟩ S
  |none=>.no
 |.of e,σ,S=>(ev C e σ S).bind λx S=>ob (Ym S x) S
end
noncomputable def tst (C:Calls) (e:E) (σ:Lc) (S:Zc):R Bool:=(ev C e σ S).bind λx S=>ob (ZM S x) S
mutual
noncomputable def run (C:Calls):Sm->Lc->Zc->R Fl
 |.asg t e,σ,S=>(ev C e σ S).bind λx S=>(ob (assign t x S σ) S).bind λσ S=>.ok (.nx σ) S
 |.par t es,σ,S=>(evs C es σ S).bind λxs S=>(ob (fill t xs σ) S).bind λσ S=>.ok (.nx σ) S
 |.aug i op e,σ,S=>(ob (σ[i]?).join S).bind λx S=>(ev C e σ S).bind λy S=>(xO op x y S).bind λz S=>.ok (.nx (σ.set i (some z))) S
 |.put o i e,σ,S=>(ev C e σ S).bind λv S=>(ev C o σ S).bind λx S=>(ev C i σ S).bind λy S=>(Qe x y v S).bind λ_ S=>.ok (.nx σ) S
 |.ret e,σ,S=>(ev C e σ S).bind λx S=>.ok (.ret x) S
 |.ex e,σ,S=>(ev C e σ S).bind λ_ S=>.ok (.nx σ) S
 |.ite t a b,σ,S=>(tst C t σ S).bind λc S=>if c then runs C a σ S else runs C b σ S
 |.forr t it b,σ,S=>(evw C it σ S).bind λw S=>Vm w (λx σ S=>(ob (assign t x S σ) S).bind λσ S=>runs C b σ S) w.items σ S
 |.whl t b,σ,S=>Y9 (tst C t) (runs C b) Vw σ S
 |.raise c as,σ,S=>(evs C as σ S).bind λ_ S=>.ex c S
 |.pas,σ,S=>.ok (.nx σ) S
 |.brk,σ,S=>.ok (.brk σ) S
 |.cnt,σ,S=>.ok (.cnt σ) S
noncomputable def runs (C:Calls):List Sm->Lc->Zc->R Fl
 |[],σ,S=>.ok (.nx σ) S
 |s::ss,σ,S=>(run C s σ S).bind λf S=>match f with
  |.nx σ=>runs C ss σ S
  |f=>.ok f S
end
structure Fn where
 ps:Nat
 ns:Nat
 body:List Sm
noncomputable def start (n:Nat) (xs:List D):Lc:=xs.map some++List.replicate (n-xs.length) none
noncomputable def ZH (F:List Fn):Nat->Calls
 |0,_,_,_=>.no
 |d+1,f,xs,S=>match F[f]? with
  |some fn=>if xs.length=fn.ps then (runs (ZH F d) fn.body (start fn.ns xs) S).bind λf S=>match f with
    |.ret x=>.ok x S
    |.nx _=>.ok .non S
    |_=>.no
   else .no
  |none=>.no
end Ev
namespace Sd
open PySem PySem.Spec PyProof.Rows L2
open Ev (D Ob Zc Lc R E Sm Calls Walk Fl Fn Bop Cop Ty Bf Mf ev evs evo evt evw tst run runs)
mutual
def Rep (ρ:List Addr) (H:Hp):D->V->Prop
 |.non,v=>v=.non
 |.bl b,v=>v=.bl b
 |.int i,v=>v=.int i
 |.str x,v=>v=.str x
 |.tup ds,v=>∃a xs,v=.ref a/\H a=some (.tup xs)/\Rq ρ H ds xs
 |.loc n,v=>∃a,v=.ref a/\ρ[n]? = some a
def Rq (ρ:List Addr) (H:Hp):List D->List V->Prop
 |[],xs=>xs=[]
 |d::ds,xs=>∃v vs,xs=v::vs/\Rep ρ H d v/\Rq ρ H ds vs
end
structure Fut (ρ:List Addr) (H:Hp) (ρ':List Addr) (H':Hp):Prop where
 pre:∃t,ρ'=ρ++t
 tup:∀a xs,H a=some (.tup xs)->H' a=some (.tup xs)
theorem Fut.refl (ρ:List Addr) (H:Hp):Fut ρ H ρ H:=⟨⟨[],by simp⟩,λ_ _ h=>h⟩
theorem Fut.trans {ρ ρ1 ρ2:List Addr}{H H1 H2:Hp}(a:Fut ρ H ρ1 H1) (b:Fut ρ1 H1 ρ2 H2):Fut ρ H ρ2 H2:=
 ⟨by obtain⟨t,e⟩:=a.pre;obtain⟨u,f⟩:=b.pre;exact⟨t++u,by rw[f,e,List.append_assoc]⟩,λc xs h=>b.tup c xs (a.tup c xs h)⟩
theorem Fut.at {ρ ρ':List Addr}{H H':Hp}(f:Fut ρ H ρ' H') {n:Nat}{a:Addr}(h:ρ[n]? = some a):ρ'[n]? = some a:=by
 obtain⟨t,rfl⟩:=f.pre;have hn:n<ρ.length:=(Pr.mp h).1;rw[PB hn];exact h
mutual
theorem Rep.mono {ρ ρ':List Addr}{H H':Hp}(f:Fut ρ H ρ' H'):∀{d:D}{v:V},Rep ρ H d v->Rep ρ' H' d v
 |.non,_,h | .bl _,_,h | .int _,_,h | .str _,_,h=>by unfold Rep at h ⊢;exact h
 |.tup ds,v,h=>by
  unfold Rep at h ⊢;obtain⟨a,xs,e,t,r⟩:=h;exact⟨a,xs,e,f.tup a xs t,Rq.mono f r⟩
 |.loc n,v,h=>by
  unfold Rep at h ⊢;obtain⟨a,e,t⟩:=h;exact⟨a,e,f.at t⟩
theorem Rq.mono {ρ ρ':List Addr}{H H':Hp}(f:Fut ρ H ρ' H'):∀{ds:List D}{xs:List V},Rq ρ H ds xs->Rq ρ' H' ds xs
 |[],_,h=>by unfold Rq at h ⊢;exact h
 |d::ds,xs,h=>by
  unfold Rq at h ⊢;obtain⟨v,vs,e,r,rs⟩:=h;exact⟨v,vs,e,Rep.mono f r,Rq.mono f rs⟩
end
theorem Rq.nil {ρ:List Addr}{H:Hp}:Rq ρ H [] []:=by unfold Rq;rfl
theorem Rq.cons {ρ:List Addr}{H:Hp}{d:D}{v:V}{ds:List D}{vs:List V}(r:Rep ρ H d v) (rs:Rq ρ H ds vs):Rq ρ H (d::ds) (v::vs):=by
 unfold Rq;exact⟨v,vs,rfl,r,rs⟩
theorem Rq.length {ρ:List Addr}{H:Hp}:∀{ds:List D}{xs:List V},Rq ρ H ds xs->xs.length=ds.length
 |[],_,h=>by unfold Rq at h;rw[h];rfl
 |d::ds,xs,h=>by
  unfold Rq at h;obtain⟨v,vs,rfl,_,rs⟩:=h;rw[PC,PC,Rq.length rs]
theorem Rq.append {ρ:List Addr}{H:Hp}:∀{ds es:List D}{xs ys:List V},Rq ρ H ds xs->Rq ρ H es ys->Rq ρ H (ds++es) (xs++ys)
 |[],_,_,_,h,r=>by unfold Rq at h;rw[h];exact r
 |d::ds,_,_,_,h,r=>by
  unfold Rq at h;obtain⟨v,vs,rfl,a,rs⟩:=h;exact Rq.cons a (Rq.append rs r)
theorem Rq.take {ρ:List Addr}{H:Hp}:∀{ds:List D}{xs:List V}(k:Nat),Rq ρ H ds xs->Rq ρ H (ds.take k) (xs.take k)
 |_,_,0,_=>Rq.nil
 |[],_,k+1,h=>by unfold Rq at h;rw[h];exact Rq.nil
 |d::ds,_,k+1,h=>by
  unfold Rq at h;obtain⟨v,vs,rfl,a,rs⟩:=h;exact Rq.cons a (Rq.take k rs)
theorem Rq.drop {ρ:List Addr}{H:Hp}:∀{ds:List D}{xs:List V}(k:Nat),Rq ρ H ds xs->Rq ρ H (ds.drop k) (xs.drop k)
 |_,_,0,h=>h
 |[],_,k+1,h=>by unfold Rq at h;rw[h];exact Rq.nil
 |d::ds,_,k+1,h=>by
  unfold Rq at h;obtain⟨v,vs,rfl,a,rs⟩:=h;exact Rq.drop k rs
theorem Rq.get {ρ:List Addr}{H:Hp}:∀{ds:List D}{xs:List V}{i:Nat}{d:D},Rq ρ H ds xs->ds[i]? = some d->∃v,xs[i]? = some v/\Rep ρ H d v
 |[],_,_,_,_,e=>by simp at e
 |d::ds,_,0,_,h,e=>by
  unfold Rq at h;obtain⟨v,vs,rfl,a,rs⟩:=h;simp at e;subst e;exact⟨v,rfl,a⟩
 |d::ds,_,i+1,_,h,e=>by
  unfold Rq at h;obtain⟨v,vs,rfl,a,rs⟩:=h;obtain⟨u,q,r⟩:=Rq.get (i:=i) rs (by simpa using e)
  exact⟨u,by simpa using q,r⟩
theorem Rq.set {ρ:List Addr}{H:Hp}{d:D}{v:V}(r:Rep ρ H d v):∀{ds:List D}{xs:List V}(i:Nat),Rq ρ H ds xs->Rq ρ H (ds.set i d) (xs.set i v)
 |[],_,i,h=>by unfold Rq at h;rw[h];exact Rq.nil
 |_::_,_,0,h=>by
  unfold Rq at h;obtain⟨_,_,rfl,_,rs⟩:=h;exact Rq.cons r rs
 |_::_,_,i+1,h=>by
  unfold Rq at h;obtain⟨_,_,rfl,a,rs⟩:=h;exact Rq.cons a (Rq.set r i rs)
theorem Rq.reverse {ρ:List Addr}{H:Hp}:∀{ds:List D}{xs:List V},Rq ρ H ds xs->Rq ρ H ds.reverse xs.reverse
 |[],_,h=>by unfold Rq at h;rw[h];exact Rq.nil
 |d::ds,_,h=>by
  unfold Rq at h;obtain⟨v,vs,rfl,a,rs⟩:=h;rw[NE,NE];exact Rq.append (Rq.reverse rs) (Rq.cons a Rq.nil)
theorem Rq.rep {ρ:List Addr}{H:Hp}{ds:List D}{xs:List V}(h:Rq ρ H ds xs):∀k:Nat,Rq ρ H (List.replicate k ds).flatten (List.replicate k xs).flatten
 |0=>Rq.nil
 |k+1=>by
  rw[P5,P5,Ng,Ng];exact Rq.append h (Rq.rep h k)
theorem Rq.ints {ρ:List Addr}{H:Hp}:∀ns:List Int,Rq ρ H (ns.map D.int) (ns.map V.int)
 |[]=>Rq.nil
 |n::ns=>Rq.cons (by unfold Rep;rfl) (Rq.ints ns)
def Scr (K:PySem.W.Frag) (H:Hp) (a:Addr) (ns:List Int):Prop:=
 (∃o,H a=some (.frz o (.lst (ns.map V.int))))\/
  ∃(o:Obj) (its:Array Value) (n:Nat),K.lookup a=some o/\o.cls=.type "list"/\o.dict=none/\o.data=.seq its n/\its.size<=sizeLine/\Vals (ns.map V.int) its.toList
theorem Scr.sq {K:PySem.W.Frag}{H:Hp}{a:Addr}{ns:List Int}(h:Scr K H a ns):SqL K H a (ns.map V.int):=by
 rcases h with ⟨o,h⟩ | h
 ·exact .inl (.inr ⟨o,h⟩)
 ·exact .inr h
def Jp (K:PySem.W.Frag) (ρ:List Addr) (H:Hp) (a:Addr):Ob->Prop
 |.lst ds=>∃xs,H a=some (.lst xs)/\Rq ρ H ds xs
 |.scr ns=>Scr K H a ns
structure St3 (K:PySem.W.Frag) (ρ:List Addr) (S:Zc) (H:Hp):Prop where
 len:ρ.length=S.length
 nd:∀(m n:Nat) (a:Addr),ρ[m]? = some a->ρ[n]? = some a->m≠n->(∃ns,S[m]? = some (.scr ns))\/(∃ns,S[n]? = some (.scr ns))
 ob:∀(n:Nat) (o:Ob) (a:Addr),S[n]? = some o->ρ[n]? = some a->Jp K ρ H a o
structure LocR (ρ:List Addr) (H:Hp) (l:Lc) (σ:L2.St):Prop where
 len:l.length=σ.length
 val:∀(i:Nat) (d:D),l[i]? = some (some d)->∃v,σ[i]? = some (some v)/\Rep ρ H d v
theorem LocR.mono {ρ ρ':List Addr}{H H':Hp}{l:Lc}{σ:L2.St}(f:Fut ρ H ρ' H') (r:LocR ρ H l σ):LocR ρ' H' l σ:=
 ⟨r.len,λi d e=>let ⟨v,q,h⟩:=r.val i d e;⟨v,q,h.mono f⟩⟩
theorem LocR.set {ρ:List Addr}{H:Hp}{l:Lc}{σ:L2.St}{d:D}{v:V}(r:LocR ρ H l σ) (i:Nat) (h:Rep ρ H d v):LocR ρ H (l.set i (some d)) (σ.set i (some v)):=
 ⟨by rw[P0,P0];exact r.len,λj e q=>by
  rw[NF] at q ⊢;split at q
  ·rename_i hij
   subst hij;split at q
   ·rename_i hl
    cases q;rw[Ph rfl,Ph (by rw[<-r.len];exact hl)]
    exact⟨v,rfl,h⟩
   ·cases q
  ·rename_i hij
   rw[Pj hij];exact r.val j e q⟩
def End {α β:Type} (K:PySem.W.Frag) (xw:Nat->Hp->Prop) (rep:List Addr->Hp->α->β->Prop) (ρ:List Addr) (H:Hp) (Q:β->Hp->Prop):R α->Prop
 |.ok d S=>∀ρ' H' v,Fut ρ H ρ' H'->St3 K ρ' S H'->rep ρ' H' d v->Q v H'
 |.ex c S=>∀ρ' H',Fut ρ H ρ' H'->St3 K ρ' S H'->xw c H'
 |.no=>False
section
variable {K:PySem.W.Frag}{xw:Nat->Hp->Prop}{ρ ρ':List Addr}{H H':Hp}{α β α' β':Type}{rep:List Addr->Hp->α->β->Prop}{rep':List Addr->Hp->α'->β'->Prop}
theorem End.mono {r:R α}{Q:β->Hp->Prop}(f:Fut ρ H ρ' H') (h:End K xw rep ρ H Q r):End K xw rep ρ' H' Q r:=by
 cases r with
 |ok d S=>exact λρ2 H2 v g st r=>h ρ2 H2 v (f.trans g) st r
 |ex c S=>exact λρ2 H2 g st=>h ρ2 H2 (f.trans g) st
 |no=>exact h
theorem End.bind {r:R α}{f:α->Zc->R α'}{Q:β'->Hp->Prop}{Q1:β->Hp->Prop}(h:End K xw rep' ρ H Q (r.bind f))
  (k:∀d S ρ1 H1 v,Fut ρ H ρ1 H1->St3 K ρ1 S H1->rep ρ1 H1 d v->End K xw rep' ρ1 H1 Q (f d S)->Q1 v H1):End K xw rep ρ H Q1 r:=by
 cases r with
 |ok d S=>exact λρ1 H1 v g st r=>k d S ρ1 H1 v g st r (End.mono g h)
 |ex c S=>exact h
 |no=>exact h
theorem End.ok {a:α}{S:Zc}{Q:β->Hp->Prop}{v:β}(h:End K xw rep ρ H Q (.ok a S)) (st:St3 K ρ S H) (r:rep ρ H a v):Q v H:=h ρ H v (Fut.refl ρ H) st r
theorem End.ob {o:Option α}{S:Zc}{f:α->Zc->R α'}{Q:β'->Hp->Prop}(h:End K xw rep' ρ H Q ((Ev.ob o S).bind f)):∃a,o=some a/\End K xw rep' ρ H Q (f a S):=by
 cases o with
 |none=>exact h.elim
 |some a=>exact⟨a,rfl,h⟩
theorem End.ite {c:Prop}[Decidable c]{a b:R α}{Q:β->Hp->Prop}(h:End K xw rep ρ H Q (if c then a else b)):(c/\End K xw rep ρ H Q a)\/(¬c/\End K xw rep ρ H Q b):=by
 split at h
 ·exact .inl ⟨‹_›,h⟩
 ·exact .inr ⟨‹_›,h⟩
theorem End.guard {c:Prop}[Decidable c]{a:R α}{Q:β->Hp->Prop}(h:End K xw rep ρ H Q (if c then a else .no)):c/\End K xw rep ρ H Q a:=by
 rcases h.ite with h | ⟨_,h⟩
 ·exact h
 ·exact h.elim
end
def XH (_:List Addr) (_:Hp) (a b:Bool):Prop:=a=b
def j0 (_:List Addr) (_:Hp) (a b:Option Int):Prop:=a=b
section
variable (X:Cx) (xw:Nat->Hp->Prop)
def tE (f:Lc->Zc->R D):TE:=λσ H Q=>∃ρ l S,St3 X.K ρ S H/\LocR ρ H l σ/\End X.K xw Rep ρ H Q (f l S)
def tA (f:Lc->Zc->R (List D)):TA:=λσ H Q=>∃ρ l S,St3 X.K ρ S H/\LocR ρ H l σ/\End X.K xw Rq ρ H Q (f l S)
def tB3 (f:Lc->Zc->R Bool):TT:=λσ H Q=>∃ρ l S,St3 X.K ρ S H/\LocR ρ H l σ/\End X.K xw XH ρ H Q (f l S)
def tO (f:Lc->Zc->R (Option Int)):TO:=λσ H Q=>∃ρ l S,St3 X.K ρ S H/\LocR ρ H l σ/\End X.K xw j0 ρ H Q (f l S)
variable (C:Calls)
def CE (e:Expr) (i:E):Prop:=PE X e (tE X xw (ev C i))
def CT (e:Expr) (i:E):Prop:=PT X e (tB3 X xw (tst C i))
def CA (es:List Expr) (is:List E):Prop:=PA X es (tA X xw (evs C is))
def CO (e:Option Expr) (i:Option E):Prop:=PO X e (tO X xw (evo C i))
end
theorem PE.imp {X:Cx}{e:Expr}{t t':TE}(h:PE X e t) (k:∀σ H Q,t' σ H Q->t σ H Q):PE X e t':=λpq s σ H Q I q=>h pq s σ H Q I (k σ H Q q)
theorem PT.imp {X:Cx}{e:Expr}{t t':TT}(h:PT X e t) (k:∀σ H Q,t' σ H Q->t σ H Q):PT X e t':=λpq s σ H Q I q=>h pq s σ H Q I (k σ H Q q)
theorem PA.imp {X:Cx}{e:List Expr}{t t':TA}(h:PA X e t) (k:∀σ H Q,t' σ H Q->t σ H Q):PA X e t':=λpos pq s σ H Q I q=>h pos pq s σ H Q I (k σ H Q q)
theorem PO.imp {X:Cx}{e:Option Expr}{t t':TO}(h:PO X e t) (k:∀σ H Q,t' σ H Q->t σ H Q):PO X e t':=λpq s σ H Q I q=>h pq s σ H Q I (k σ H Q q)
section
variable {K:PySem.W.Frag}{ρ ρ':List Addr}{S:Zc}{H H':Hp}{a p:Addr}{n:Nat}
theorem St3.at (st:St3 K ρ S H) {o:Ob}(h:S[n]? = some o):∃a,ρ[n]? = some a/\Jp K ρ H a o:=by
 have hn:n<S.length:=(Pr.mp h).1;have hr:n<ρ.length:=by rw[st.len];exact hn
 exact⟨ρ[n],Pd hr,st.ob n o _ h (Pd hr)⟩
theorem Jp.keep {o:Ob}(f:Fut ρ H ρ' H') (k:∀u,H a=some u->H' a=some u) (h:Jp K ρ H a o):Jp K ρ' H' a o:=by
 cases o with
 |lst ds=>obtain⟨xs,e,r⟩:=h;exact⟨xs,k _ e,r.mono f⟩
 |scr ns=>
  rcases h with ⟨o,e⟩ | h
  ·exact .inl ⟨o,k _ e⟩
  ·exact .inr h
theorem Yg {o:HO}(hp:H p=none):Fut ρ H ρ (upd H p o):=⟨⟨[],by simp⟩,λb xs h=>by rw[ZE (ZC h hp)];exact h⟩
theorem VJ {o:HO}(hp:H p=none):Fut ρ H (ρ++[p]) (upd H p o):=⟨⟨[p],rfl⟩,λb xs h=>by rw[ZE (ZC h hp)];exact h⟩
theorem St3.fresh {o:HO}(st:St3 K ρ S H) (hp:H p=none):St3 K ρ S (upd H p o):=
 ⟨st.len,st.nd,λn ob a h1 h2=>(st.ob n ob a h1 h2).keep (Yg hp) λu e=>by rw[ZE (ZC e hp)];exact e⟩
theorem St3.new {o:Ob}{ho:HO}(st:St3 K ρ S H) (hp:H p=none) (r:Jp K (ρ++[p]) (upd H p ho) p o):St3 K (ρ++[p]) (S++[o]) (upd H p ho):=by
 have old:∀(m:Nat),(ρ++[p])[m]? = some p->m≠S.length->∃ns,S[m]? = some (.scr ns):=λm e hm=>by
  have hml:m<S.length:=by
   have:=(Pr.mp e).1;rw[PD,st.len,P1] at this;omega
  rw[PB (by rw[st.len];exact hml)] at e
  have q:=st.ob m S[m] p (Pd hml) e;rw[Pd hml];generalize S[m]=ob at q;cases ob with
  |lst ds=>obtain⟨xs,z,_⟩:=q;rw[hp] at z;cases z
  |scr ns=>exact⟨ns,rfl⟩
 have lenE:(S++[o])[S.length]? = some o:=by simp
 have up:∀{m:Nat} {ns:List Int},S[m]? = some (.scr ns)->(S++[o])[m]? = some (.scr ns):=λ{m ns} e=>by
  rw[PB (Pr.mp e).1];exact e
 refine⟨by rw[PD,PD,st.len];rfl,λm n a h1 h2 ne=>?_,λn ob a h1 h2=>?_⟩
 ·by_cases hm:m=S.length
  ·have ha:a=p:=by
    rw[hm,<-st.len,PQ (Pk _)] at h1
    simpa using h1.symm
   rw[ha] at h2;obtain⟨ns,e⟩:=old n h2 (by omega)
   exact .inr ⟨ns,up e⟩
  ·by_cases hn:n=S.length
   ·have ha:a=p:=by
     rw[hn,<-st.len,PQ (Pk _)] at h2
     simpa using h2.symm
    rw[ha] at h1;obtain⟨ns,e⟩:=old m h1 hm;exact .inl ⟨ns,up e⟩
   ·have lt:∀{k:Nat},(ρ++[p])[k]? = some a->k≠S.length->ρ[k]? = some a:=λ{k} e hk=>by
     have:=(Pr.mp e).1;rw[PD,st.len,P1] at this;rw[PB (by rw[st.len];omega)] at e
     exact e
    rcases st.nd m n a (lt h1 hm) (lt h2 hn) ne with ⟨ns,e⟩ | ⟨ns,e⟩
    ·exact .inl ⟨ns,up e⟩
    ·exact .inr ⟨ns,up e⟩
 ·by_cases hn:n=S.length
  ·subst hn
   rw[lenE] at h1;cases h1;have ha:a=p:=by
    rw[<-st.len,PQ (Pk _)] at h2
    simpa using h2.symm
   subst ha;exact r
  ·have hl:n<S.length:=by
    have:=(Pr.mp h1).1;rw[PD,P1] at this;omega
   rw[PB hl] at h1;rw[PB (by rw[st.len];exact hl)] at h2
   exact (st.ob n ob a h1 h2).keep (VJ hp) λu e=>by rw[ZE (ZC e hp)];exact e
theorem YI {xs ys:List V}(h:H a=some (.lst xs)):Fut ρ H ρ (upd H a (.lst ys)):=⟨⟨[],by simp⟩,λb zs e=>by
 rw[ZE (by intro z;rw[z,h] at e;cases e)];exact e⟩
theorem St3.wr {xs ys:List V}{ds es:List D}(st:St3 K ρ S H) (hr:ρ[n]? = some a) (hS:S[n]? = some (.lst ds)) (h:H a=some (.lst xs)) (r:Rq ρ H es ys):St3 K ρ (S.set n (.lst es)) (upd H a (.lst ys)):=by
 have f:=YI (ρ:=ρ) (ys:=ys) h;refine⟨by rw[P0];exact st.len,λm k b h1 h2 ne=>?_,λm ob b h1 h2=>?_⟩
 ·have keep:∀{j:Nat} {ns:List Int},S[j]? = some (.scr ns)->(S.set n (.lst es))[j]? = some (.scr ns):=λ{j ns} e=>by
   rw[NF];split
   ·rename_i z;rw[<-z,hS] at e;cases e
   ·exact e
  rcases st.nd m k b h1 h2 ne with ⟨ns,e⟩ | ⟨ns,e⟩
  ·exact .inl ⟨ns,keep e⟩
  ·exact .inr ⟨ns,keep e⟩
 ·by_cases hm:n=m
  ·subst hm
   rw[hr] at h2;cases h2;rw[NF,Ph rfl] at h1;split at h1
   ·cases h1
    exact⟨ys,Yh,r.mono f⟩
   ·cases h1
  ·rw[NF,Pj hm] at h1
   have q:=st.ob m ob b h1 h2;by_cases hb:b=a
   ·subst hb
    rcases st.nd n m b hr h2 hm with ⟨ns,e⟩ | ⟨ns,e⟩
    ·rw[hS] at e;cases e
    ·rw[h1] at e
     cases e;rcases q with ⟨o,e⟩ | q
     ·rw[h] at e;cases e
     ·exact .inr q
   ·exact q.keep f λu e=>by rw[ZE hb];exact e
theorem St3.lst (st:St3 K ρ S H) {ds:List D}(h:Ev.Zj S n=some ds):S[n]? = some (.lst ds)/\∃a xs,ρ[n]? = some a/\H a=some (.lst xs)/\Rq ρ H ds xs:=by
 unfold Ev.Zj at h;split at h
 ·rename_i zs e
  cases h;obtain⟨a,hr,xs,e2,r⟩:=st.at e;exact⟨e,a,xs,hr,e2,r⟩
 ·cases h
theorem St3.seq (st:St3 K ρ S H) {ds:List D}(h:Ev.Z7 S n=some ds):∃a xs,ρ[n]? = some a/\SqL K H a xs/\Rq ρ H ds xs:=by
 unfold Ev.Z7 at h;split at h
 ·rename_i zs e
  cases h;obtain⟨a,hr,xs,e2,r⟩:=st.at e;exact⟨a,xs,hr,SqL.of e2,r⟩
 ·rename_i ns e
  cases h;obtain⟨a,hr,q⟩:=st.at e;exact⟨a,_,hr,Scr.sq q,Rq.ints ns⟩
 ·cases h
end
section
variable {ρ:List Addr}{H:Hp}{v:V}
theorem Rep.int' {i:Int}(h:Rep ρ H (.int i) v):v=.int i:=by unfold Rep at h;exact h
theorem Rep.bl' {b:Bool}(h:Rep ρ H (.bl b) v):v=.bl b:=by unfold Rep at h;exact h
theorem Rep.non' (h:Rep ρ H .non v):v=.non:=by unfold Rep at h;exact h
theorem Rep.str' {x:Str}(h:Rep ρ H (.str x) v):v=.str x:=by unfold Rep at h;exact h
theorem Rep.tup' {ds:List D}(h:Rep ρ H (.tup ds) v):∃a xs,v=.ref a/\H a=some (.tup xs)/\Rq ρ H ds xs:=by unfold Rep at h;exact h
theorem Rep.loc' {n:Nat}(h:Rep ρ H (.loc n) v):∃a,v=.ref a/\ρ[n]? = some a:=by unfold Rep at h;exact h
theorem Zp (i:Int):Rep ρ H (.int i) (.int i):=by unfold Rep;rfl
theorem Zr (b:Bool):Rep ρ H (.bl b) (.bl b):=by unfold Rep;rfl
theorem WC:Rep ρ H .non .non:=by unfold Rep;rfl
theorem ZQ {ds:List D}{a:Addr}{xs:List V}(h:H a=some (.tup xs)) (r:Rq ρ H ds xs):Rep ρ H (.tup ds) (.ref a):=by unfold Rep;exact⟨a,xs,rfl,h,r⟩
theorem UC {n:Nat}{a:Addr}(h:ρ[n]? = some a):Rep ρ H (.loc n) (.ref a):=by unfold Rep;exact⟨a,rfl,h⟩
end
theorem Ww:Ev.lim=sizeLine:=by rw[NJ];rfl
section
variable {K:PySem.W.Frag}{xw:Nat->Hp->Prop}{ρ:List Addr}{H:Hp}{S:Zc}{Q:VK}
theorem End.newT {ds:List D}{xs:List V}(h:End K xw Rep ρ H Q (.ok (.tup ds) S)) (st:St3 K ρ S H) (r:Rq ρ H ds xs):∀p,H p=none->Q (.ref p) (upd H p (.tup xs)):=λp hp=>
 h ρ _ _ (Yg hp) (st.fresh hp) (ZQ Yh (r.mono (Yg hp)))
theorem End.newL {ds:List D}{xs:List V}(h:End K xw Rep ρ H Q (.ok (.loc S.length) (S++[.lst ds]))) (st:St3 K ρ S H) (r:Rq ρ H ds xs):∀p,H p=none->Q (.ref p) (upd H p (.lst xs)):=λp hp=>
 h (ρ++[p]) _ _ (VJ hp) (st.new hp ⟨xs,Yh,r.mono (VJ hp)⟩) (UC (by rw[<-st.len];simp))
end
section
variable {X:Cx}{xw:Nat->Hp->Prop}{C:Calls}{e a b c:Expr}{i j k:E}{pos:Pos}
theorem GP {n:Int}{q}:CE X xw C (.Constant (.int n) q pos) (.c (.int n)):=PE.imp Zca λσ H Q ⟨ρ,l,S,st,lr,h⟩=>End.ok h st (Zp n)
theorem uX {n:Bool}{q}:CE X xw C (.Constant (.bool n) q pos) (.c (.bl n)):=PE.imp ZbC λσ H Q ⟨ρ,l,S,st,lr,h⟩=>End.ok h st (Zr n)
theorem y8 {q}:CE X xw C (.Constant .none q pos) (.c .non):=PE.imp ZbS λσ H Q ⟨ρ,l,S,st,lr,h⟩=>End.ok h st WC
theorem ZbR (n:Nat) {x:Str}(hN:X.N[n]? = some x:=by rfl) (hv:Vis X.env.scope x:=by first | exact Or.inl rfl | exact Or.inr (Or.inl rfl) | exact Or.inr (Or.inr rfl)) (hd:(x == ("__debug__" : Str))=false:=by decide)
  (hcd:(x == ("__classdict__" : Str))=false:=by decide):CE X xw C (.Name x pos) (.v n):=PE.imp (Zcx hN hv hd hcd) λσ H Q ⟨ρ,l,S,st,lr,h⟩=>by
 rw[ev] at h;cases q:l[n]? with
 |none=>rw[q] at h;exact h.elim
 |some o=>
  cases o with
  |none=>rw[q] at h;exact h.elim
  |some d=>
   rw[q] at h;obtain⟨v,q2,r⟩:=lr.val n d q;exact⟨v,q2,End.ok h st r⟩
theorem yk:CA X xw C [] []:=PA.imp J9 λσ H Q ⟨ρ,l,S,st,lr,h⟩=>by
 rw[evs] at h;exact End.ok h st Rq.nil
theorem Gf {es:List Expr}{is:List E}(ha:CE X xw C e i) (hr:CA X xw C es is) (hs:starEach (e::es) X.env=(false,eval e X.env)::starEach es X.env:=by rfl):CA X xw C (e::es) (i::is):=
 PA.imp (X3 ha hr hs) λσ H Q ⟨ρ,l,S,st,lr,h⟩=>by
  rw[evs] at h;exact⟨ρ,l,S,st,lr,h.bind λx S1 ρ1 H1 v f1 st1 r1 h1=>⟨ρ1,l,S1,st1,lr.mono f1,h1.bind λxs S2 ρ2 H2 vs f2 st2 r2 h2=>h2.ok st2 (Rq.cons (r1.mono f2) r2)⟩⟩
theorem yn {es:List Expr}{is:List E}{q}(h:CA X xw C es is):CE X xw C (.Tuple es q pos) (.tup is):=PE.imp (uz h) λσ H Q ⟨ρ,l,S,st,lr,h⟩=>by
 rw[ev] at h;refine⟨ρ,l,S,st,lr,h.bind λxs S1 ρ1 H1 vs f1 st1 r1 h1=>?_⟩
 obtain⟨hl,h1⟩:=h1.guard;exact⟨by rw[r1.length,<-Ww];exact hl,h1.newT st1 r1⟩
theorem yy {es:List Expr}{is:List E}(h:CA X xw C es is):CE X xw C (.List es pos) (.lst is):=PE.imp (Zcj h) λσ H Q ⟨ρ,l,S,st,lr,h⟩=>by
 rw[ev] at h;refine⟨ρ,l,S,st,lr,h.bind λxs S1 ρ1 H1 vs f1 st1 r1 h1=>?_⟩
 obtain⟨hl,h1⟩:=h1.guard;exact⟨by rw[r1.length,<-Ww];exact hl,h1.newL st1 r1⟩
theorem Wi {r:R2}{g:D->D->Zc->R D}(hg:∀{ρ H S x y v u Q},St3 X.K ρ S H->Rep ρ H x v->Rep ρ H y u->End X.K xw Rep ρ H Q (g x y S)->r v u H Q) :
  ∀σ H Q,tE X xw (λl S=>(ev C i l S).bind λx S=>(ev C j l S).bind λy S=>g x y S) σ H Q->tOp r (tE X xw (ev C i)) (tE X xw (ev C j)) σ H Q:=λσ H Q ⟨ρ,l,S,st,lr,h⟩=>
 ⟨ρ,l,S,st,lr,h.bind λx S1 ρ1 H1 v f1 st1 r1 h1=>⟨ρ1,l,S1,st1,lr.mono f1,h1.bind λy S2 ρ2 H2 u f2 st2 r2 h2=>hg st2 (r1.mono f2) r2 h2⟩⟩
end
section
variable {X:Cx}
def qA (K:PySem.W.Frag):R2:=λx y H Q=>∃a b ys,x=.ref a/\y=.ref b/\SqT K H a []/\SqT K H b ys/\Q (.ref b) H
theorem uh:OpR X (binaryOp .Add) (qA X.K):=by
 intro pq s σ H x y v u Q I rx ry h;obtain⟨a,b,ys,rfl,rfl,ha,hb,q⟩:=h;cases rx;cases ry;obtain⟨its,r1,p1,_⟩:=I.tuple ha;obtain⟨its2,r2,p2,_⟩:=I.tuple hb;have e0:its=[]:=r1.nil_iff.mpr rfl;obtain⟨⟨cls,dd,data,sl⟩,ho,hc,n,hd⟩:=id p1;obtain⟨⟨cls2,dd2,data2,sl2⟩,ho2,hc2,n2,hd2⟩:=id p2;simp only at hc hd hc2 hd2;subst hc hd hc2 hd2;exact concat_meets ⟨_,ho,rfl⟩ ⟨_,ho2,rfl⟩ noFill_tuple_add seq_tuple_add KE KA (Kr _ _)
   (tuple_addW0 a b its.toArray its2.toArray n n2 dd dd2 sl sl2 (by rw[e0];rfl)) ⟨ho,ho2,⟨.ref b,H,I,rfl,q⟩⟩
noncomputable def Zd3 (K:PySem.W.Frag):V->Option Int->Option Int->Hp->VK->Prop:=λx lo hi H Q=>∃a xs,x=.ref a/\SqT K H a xs/\
 (HT.sIx xs.length 0 lo=0/\HT.sIx xs.length xs.length hi=xs.length)/\Q (.ref a) H
theorem WY {prog:Program}{w:World}{A:Around}{E:Value->Shared->Prop}{s:Shared}{t sl:Addr}{items:Array Value}{vl vu:Value}{lo hi:Option Int}{Q:Value->Shared->Prop}(ht:IsTup s.heap t items) (hs:s.heap.IsSliceOf sl vl vu .none) (pl:IsPart vl lo) (pu:IsPart vu hi)
  (hw:HT.sIx items.size 0 lo=0/\HT.sIx items.size items.size hi=items.size) (h:Q (.ref t) s):wpAny (model prog w) A (getItem (.ref t) (.ref sl)) Q E s:=by
 obtain⟨os,hos,hcs,hds⟩:=id hs;have hTs:s.TypeIs (.ref sl) "slice":=⟨os,hos,hcs⟩;unfold getItem
 try with_reducible refine Nn ?_
 first | refine Pa (Pi ?_) | skip
 refine Pa (wpAny_sequenceKey ht.typeIs (by decide) ?_)
 refine Pa (Nh (name:=Str.ofString "__getitem__") ht.typeIs Nj
  (Nt Nj ht.typeIs entry_tuple_getitem ?_ (args_tuple_getitem _ _)))
 show wpAny _ _ (Builtin.Tuple.tupleItemsOf (.ref t) >>= _) _ _ s;refine Pa (tupleItemsOf_ ht ?_);refine Pa (wpAny_typeOf hTs ?_);rw[Ph (by decide)]
 refine Pa (HT.XN hs pl pu ?_);have hyes:((((HT.sIx items.size 0 lo:Nat):Int) == 0&&(1:Int) == 1&&(HT.sIx items.size items.size hi-HT.sIx items.size 0 lo) == items.size)=true):=by
  rw[hw.1,hw.2];simp
 show wpAny _ _ (if (((HT.sIx items.size 0 lo:Nat):Int) == 0&&(1:Int) == 1&&(HT.sIx items.size items.size hi-HT.sIx items.size 0 lo) == items.size)=true then _ else _) _ _ s
 rw[Ph hyes];refine Pa (Pa (wpAny_typeOf ht.typeIs (Pi ?_)));rw[Ph (by decide)]
 exact Pa (Kg (Pi ⟨_,rfl,Pi h⟩))
theorem ud:SlR X (Zd3 X.K):=by
 intro pq s σ H x v vl vu lo hi sl Q I rx hs pl pu h;obtain⟨a,xs,rfl,hx,hw,q⟩:=h;cases rx;obtain⟨its,r,ht,hz⟩:=I.tuple hx;have hlen:its.toArray.size=xs.length:=by rw[Pg];exact r.length.symm
 refine⟨"tuple",_,PyProof.Rows.slot_tuple_getitem.lookup,ht.typeIs,?_⟩;exact WY ht hs pl pu (by rw[hlen];exact hw) ⟨.ref a,H,I,rfl,q⟩
theorem UM {i:Int}(h:Ev.fits i=true):Builtin.Int.intBits i<=2^20:=by
 have h1:i.natAbs<2^1000:=PF h;unfold Builtin.Int.intBits;split
 ·exact Ka _
 ·rename_i hz
  have hne:i.natAbs≠0:=by intro z;exact hz (by simp[Int.natAbs_eq_zero.mp z])
  have:=(Nat.log2_lt hne).mpr h1;have e:(2:Nat)^20=1048576:=by decide
  omega
theorem Zbj:OpR X (binaryOp .Mult) (rI (λi j=>Ev.fits i=true/\Ev.fits j=true) λi j=>.int (i*j)):=opI λ_ _ _ _ _ _ _ hc q=>mul_int q (IntMulOk.of_bits (UM hc.1) (UM hc.2))
theorem jo:OpR X (inplaceOp .Mult) (rI (λi j=>Ev.fits i=true/\Ev.fits j=true) λi j=>.int (i*j)):=opI λ_ _ _ _ _ _ _ hc q=>imul_int q (IntMulOk.of_bits (UM hc.1) (UM hc.2))
theorem ZbG:OpR X (compareOp .Is) (λx y H Q=>∃a b,x=.bl a/\y=.bl b/\Q (.bl (decide (a=b))) H):=by
 intro pq s σ H x y v u Q I rx ry h;obtain⟨a,b,rfl,rfl,q⟩:=h;cases rx;cases ry;cases a <;> cases b <;> exact Pi ⟨.bl _,H,I,rfl,q⟩
theorem jB:OpR X (compareOp .IsNot) (λx y H Q=>∃a b,x=.bl a/\y=.bl b/\Q (.bl (decide (a≠b))) H):=by
 intro pq s σ H x y v u Q I rx ry h;obtain⟨a,b,rfl,rfl,q⟩:=h;cases rx;cases ry;cases a <;> cases b <;> exact Pi ⟨.bl _,H,I,rfl,q⟩
end
end Sd
namespace Sd
open PySem PySem.Spec PyProof.Rows L2
theorem QT:fillsNumberSlot (.type "tuple") "mul" = pure false:=
 PySem.fillsNumberSlot_seq (id:="tuple.__mul__") (r:=some (.builtin "tuple.__rmul__")) F.slot_tuple_mul.lookup (by decide +kernel) F.slot_tuple_rmul.lookup (by decide +kernel)
theorem Go:seqRepeat? (.type "tuple")=pure (some (.builtin "tuple.__mul__")):=by
 unfold seqRepeat?
 rw[PySem.seqSlot_of (T:="tuple") (name:="__mul__") (id:="tuple.__mul__") F.slot_tuple_mul.lookup (by decide +kernel),PySem.seqSlot_of (T:="tuple") (name:="__rmul__") (id:="tuple.__rmul__") F.slot_tuple_rmul.lookup (by decide +kernel)]
 rfl
theorem U4 (a:Int) (t:Tok) (l:Addr) (items:Array Value) (n:Nat) (dd:Option Addr) (sl:Array (Option Value)) :
  Meets (Builtin.«int.__rmul__» ⟨[.int a t,.ref l],[]⟩) (λ_ R s=>s.heap.get? l=some { cls:=.type "tuple",dict:=dd,data:=.seq items n,slots:=sl }/\R (.ok (.ret Value.notImplemented)) s):=
 .of_wp λprog w A R s h=>by obtain⟨hp,g,d,tk,os⟩:=s;obtain⟨hl,h⟩:=h;wp_walk;exact⟨_,rfl,h⟩
theorem GD (l:Addr) (items:Array Value) (n:Nat) (dd:Option Addr) (sl:Array (Option Value)) (x:Int) (u:Tok) (h0:¬(x < -(2^63)||x>=2^63)=true) (hc:(items.isEmpty||x == 1)=true) :
  Meets (Builtin.«tuple.__mul__» ⟨[.ref l,.int x u],[]⟩) (λ_ R s=>s.heap.get? l=some { cls:=.type "tuple",dict:=dd,data:=.seq items n,slots:=sl }/\R (.ok (.ret (Value.ref l))) { s with heap:=s.heap,toks:=s.toks }):=
 .of_wp λprog w A R s h=>by obtain⟨hp,g,d,tk,os⟩:=s;obtain⟨hl,h⟩:=h;have f1:=AutoSeq1.idx_int;have f2:=Ks;wp_walk;rw[Pj h0];wp_walk using NO hl;exact⟨_,rfl,h⟩
theorem Gy (l:Addr) (items:Array Value) (n:Nat) (dd:Option Addr) (sl:Array (Option Value)) (x:Int) (u:Tok) (h0:¬(x < -(2^63)||x>=2^63)=true) (hc:¬(items.isEmpty||x == 1)=true) (h1:(x<=0||items.isEmpty)=true) :
  Meets (Builtin.«tuple.__mul__» ⟨[.ref l,.int x u],[]⟩) (λ_ R s=>s.heap.get? l=some { cls:=.type "tuple",dict:=dd,data:=.seq items n,slots:=sl }/\R (.ok (.ret (Value.ref s.heap.objs.size))) { s with heap:=s.heap.push { cls:=.type "tuple",data:=.seq #[] },toks:=s.toks }):=
 .of_wp λprog w A R s h=>by obtain⟨hp,g,d,tk,os⟩:=s;obtain⟨hl,h⟩:=h;have f1:=AutoSeq1.idx_int;have f2:=Ks;wp_walk;rw[Pj h0];wp_walk using NO hl;exact⟨_,rfl,h⟩
theorem zL (l:Addr) (items:Array Value) (n:Nat) (dd:Option Addr) (sl:Array (Option Value)) (x:Int) (u:Tok) (h0:¬(x < -(2^63)||x>=2^63)=true) (hc:¬(items.isEmpty||x == 1)=true) (h1:¬(x<=0||items.isEmpty)=true)
  (h2:¬(items.size*x>(2^63-1) / 8)) (h3:¬Builtin.Tuple.tupleTooMany (items.size*x)=true) (hsz:((List.replicate x.toNat items).foldl (·++·) #[]).size<=sizeLine) :
  Meets (Builtin.«tuple.__mul__» ⟨[.ref l,.int x u],[]⟩) (λ_ R s=>s.heap.get? l=some { cls:=.type "tuple",dict:=dd,data:=.seq items n,slots:=sl }/\R (.ok (.ret (Value.ref s.heap.objs.size))) { s with heap:=s.heap.push { cls:=.type "tuple",data:=.seq ((List.replicate x.toNat items).foldl (·++·) #[]) },toks:=s.toks }):=
 .of_wp λprog w A R s h=>by obtain⟨hp,g,d,tk,os⟩:=s;obtain⟨hl,h⟩:=h;have f1:=AutoSeq1.idx_int;have f2:=Ks;wp_walk;rw[Pj h0];wp_walk using NO hl;rw[Pj h2];wp_walk using NO hl;exact⟨_,rfl,h⟩
def Zbt (K:PySem.W.Frag):R2:=λx y H Q=>∃a k xs,x=.ref a/\y=.int k/\SqT K H a xs/\(0<=k/\k<1000/\xs.length<=1000)/\
 ((xs=[]\/k=1)->Q (.ref a) H)/\(¬(xs=[]\/k=1)->∀p,H p=none->Q (.ref p) (upd H p (.tup (List.replicate k.toNat xs).flatten)))
theorem j6 {X:Cx}:OpR X (binaryOp .Mult) (Zbt X.K):=by
 intro pq s σ H x y v u Q I rx ry h;obtain⟨a,k,xs,rfl,rfl,hx,⟨k0,k1,hz⟩,q1,q2⟩:=h;cases rx;obtain⟨t,rfl⟩:=ry;obtain⟨its,r,pt,_⟩:=I.tuple hx;have hl:=r.length;obtain⟨⟨cls,dd,data,sl⟩,ho,hc,n,hd⟩:=id pt;simp only at hc hd;subst hc hd;have h0:¬(decide (k < -(2^63))||decide (k>=2^63))=true:=by
  rw[PX (by omega),PX (by omega)];exact Px
 refine wpAny_binaryOp_repeat_ref (T:="tuple") (U:="int") (by decide) ⟨_,ho,rfl⟩ (λs'=>typeIs_int s' k t) QT F.fills_int_mul KP Go F.slot_int_index.lookup
  (Kw KP (typeIs_int s k t) F.entry_int_rmul (F.args_int_rmul_2 _ _) (U4 k t a its.toArray n dd sl) ⟨ho,rfl,⟨_,ho,rfl⟩,?_⟩)
 have hnil:its=[]↔xs=[]:=r.nil_iff;by_cases c:xs=[]\/k=1
 ·have c':(its.toArray.isEmpty||k == 1)=true:=by
   rcases c with c | c
   ·rw[hnil.mpr c];rfl
   ·rw[c];simp
  exact Kw F.slot_tuple_mul ⟨_,ho,rfl⟩ F.entry_tuple_mul (F.args_tuple_mul_2 _ _) (GD a its.toArray n dd sl k t h0 c') ⟨ho,⟨.ref a,H,I,rfl,q1 c⟩⟩
 ·have ne:its≠[]:=λz=>c (.inl (hnil.mp z))
  have k1:k≠1:=λz=>c (.inr z)
  have c':¬(its.toArray.isEmpty||k == 1)=true:=by
   rw[NR.mpr k1,Bool.or_false,KN];cases its with
   |nil=>exact absurd rfl ne
   |cons _ _=>exact Px
  have fin:∀arr:List Value,arr=(List.replicate k.toNat its).flatten->EP X pq σ Q (Value.ref s.heap.objs.size) { s with heap:=s.heap.push { cls:=.type "tuple",data:=.seq arr.toArray } }:=λarr e=>by
   subst e;refine⟨.ref s.heap.objs.size,_,I.laid (t':=s.toks) (o:=.tup (List.replicate k.toNat xs).flatten) (λb ob q=>Pf _ q) (Pk _) ?_,rfl,q2 c _ (I.hok.fresh (Pk _))⟩
   refine⟨?_,_,r.rep k.toNat,Kz _ _⟩;rw[Gi,NJ];have:k.toNat*xs.length<=1000*1000:=Nat.mul_le_mul (by omega) hz
   omega
  by_cases z:k=0
  ·have h1:(decide (k<=0)||its.toArray.isEmpty)=true:=by rw[z];rfl
   refine Kw F.slot_tuple_mul ⟨_,ho,rfl⟩ F.entry_tuple_mul (F.args_tuple_mul_2 _ _) (Gy a its.toArray n dd sl k t h0 c' h1) ⟨ho,?_⟩;exact fin [] (by rw[z];rfl)
  ·have h1:¬(decide (k<=0)||its.toArray.isEmpty)=true:=by
    rw[PX (by omega),Bool.false_or,KN]
    cases its with
    |nil=>exact absurd rfl ne
    |cons _ _=>exact Px
   have hm:(its.toArray.size:Int)*k<=1000*1000:=by
    rw[Pg,<-hl];exact Int.mul_le_mul (by omega) (by omega) k0 (by omega)
   have joined:(List.replicate k.toNat its.toArray).foldl (·++·) #[]=(List.replicate k.toNat its).flatten.toArray:=by
    have:=V8 its k.toNat [];rw[List.nil_append] at this;exact this
   have hsz:((List.replicate k.toNat its.toArray).foldl (·++·) #[]).size<=sizeLine:=by
    rw[joined,Pg,Gi,NJ,<-hl];have:k.toNat*xs.length<=1000*1000:=Nat.mul_le_mul (by omega) hz
    omega
   refine Kw F.slot_tuple_mul ⟨_,ho,rfl⟩ F.entry_tuple_mul (F.args_tuple_mul_2 _ _) (zL a its.toArray n dd sl k t h0 c' h1 (by omega) (by
    unfold Builtin.Tuple.tupleTooMany;rw[PX (by rw[NJ];omega)]
    exact Px) hsz) ⟨ho,?_⟩
   rw[joined];exact fin _ rfl
def Zbp:R2:=λx y H Q=>∃a k xs,x=.ref a/\y=.int k/\H a=some (.lst xs)/\(0<=k/\k<1000/\xs.length<=1000)/\∀p,H p=none->Q (.ref p) (upd H p (.lst (List.replicate k.toNat xs).flatten))
theorem Zak {X:Cx}:OpR X (binaryOp .Mult) Zbp:=by
 intro pq s σ H x y v u Q I rx ry h;obtain⟨a,k,xs,rfl,rfl,hx,⟨k0,k1,hz⟩,q2⟩:=h;cases rx;obtain⟨t,rfl⟩:=ry;obtain⟨its,r,pl,_⟩:=I.list (SqL.of hx);have hl:=r.length;obtain⟨⟨cls,dd,data,sl⟩,n,ho,hc,hd2,hd⟩:=id pl;simp only at hc hd hd2;subst hc hd;have hm:k.toNat*its.length<=1000*1000:=Nat.mul_le_mul (by omega) (by omega)
 have hm2:its.length*k.toNat<=1000*1000:=by rw[Nat.mul_comm];exact hm
 refine wpAny_binaryOp_repeat_ref (T:="list") (U:="int") (by decide) ⟨_,ho,rfl⟩ (λs'=>typeIs_int s' k t) noFill_list_mul F.fills_int_mul KP repeat_list F.slot_int_index.lookup
  (Kw KP (typeIs_int s k t) F.entry_int_rmul (F.args_int_rmul_2 _ _) (lm_int_rmul_list_any k t a its.toArray n dd sl) ⟨ho,rfl,⟨_,ho,rfl⟩,
   Kw F.slot_list_mul ⟨_,ho,rfl⟩ F.entry_list_mul (F.args_list_mul_2 _ _) (lm_list_mul_any a its.toArray n dd sl k t (by simp[Builtin.List.listFitsIndex];omega) (by rw[Pg];omega) (by rw[Pg];simp[Builtin.List.listTooLong,sizeLine];omega)) ⟨ho,?_⟩⟩)
 have joined:(List.replicate (if its.toArray.isEmpty=true then 0 else k.toNat) its.toArray).foldl (λx1 x2=>x1++x2) #[]=(List.replicate k.toNat its).flatten.toArray:=by
  have h0:=V8 its k.toNat [];rw[List.nil_append] at h0;by_cases z:its=[]
  ·subst z
   have e:∀m:Nat,(List.replicate m ([]:List Value)).flatten=[]:=λm=>by induction m with | zero=>rfl | succ m ih=>rw[P5,Ng,ih];rfl
   rw[e];rfl
  ·rw[Pj (by rw[KN];cases its with | nil=>exact absurd rfl z | cons _ _=>exact Px)]
   exact h0
 rw[joined];refine⟨.ref s.heap.objs.size,_,I.laid (t':=s.toks) (o:=.lst (List.replicate k.toNat xs).flatten) (λb ob q=>Pf _ q) (Pk _) ?_,rfl,q2 _ (I.hok.fresh (Pk _))⟩
 refine⟨?_,_,0,r.rep k.toNat,Pq _ rfl⟩;rw[Gi,NJ];rw[hl];omega
end Sd
namespace Sd
open PySem PySem.Spec PyProof.Rows L2
open Ev (D Ob Zc Lc R E Sm Calls Walk Fl Fn Bop Cop Ty Bf Mf ev evs evo evt evw tst run runs)
section
variable {X:Cx}{xw:Nat->Hp->Prop}{C:Calls}{e a b c:Expr}{i j k:E}{pos:Pos}
variable {ρ:List Addr}{H:Hp}{S:Zc}{x y:D}{v u:V}{Q:VK}{K:PySem.W.Frag}
def Zbo (K:PySem.W.Frag):R2:=λx y H Q=>rI0 (λi j=>.int (i+j)) x y H Q\/(Zbk K x y H Q\/(qA K x y H Q\/Zdn x y H Q))
theorem Za2:OpR X (binaryOp .Add) (Zbo X.K):=ZbP.or (Zar.or (uh.or Zcy))
theorem Zcz (st:St3 K ρ S H) (rx:Rep ρ H x v) (ry:Rep ρ H y u) (h:End K xw Rep ρ H Q (Ev.Ys .add x y S)):Zbo K v u H Q:=by
 cases x with
 |int i=>cases y with
  |int j=>exact .inl ⟨i,j,rx.int',ry.int',End.ok h st (Zp _)⟩
  |_=>exact False.elim h
 |tup ds=>cases y with
  |tup es=>
   obtain⟨hl,h⟩:=End.guard h;obtain⟨p,xs,rfl,hp,r1⟩:=rx.tup';obtain⟨q,ys,rfl,hq,r2⟩:=ry.tup';have l1:=r1.length;have l2:=r2.length;by_cases z:xs=[]
   ·subst z
    have e1:ds=[]:=NB.mp l1.symm;subst e1;exact .inr (.inr (.inl ⟨p,q,ys,rfl,rfl,SqT.of hp,SqT.of hq,End.ok h st (ZQ hq r2)⟩))
   ·refine .inr (.inl ⟨p,q,xs,ys,rfl,rfl,SqT.of hp,SqT.of hq,z,by rw[l1,l2,<-Ww];exact hl,λz2=>?_,λ_=>h.newT st (r1.append r2)⟩)
    subst z2;have e2:es=[]:=NB.mp l2.symm;subst e2;refine End.ok h st ?_;rw[N7];exact ZQ hp r1
  |_=>exact False.elim h
 |loc m=>cases y with
  |loc n=>
   have h':End K xw Rep ρ H Q (match Ev.Zj S m,Ev.Zj S n with
    |some a,some b=>if a.length+b.length<=Ev.lim then .ok (.loc S.length) (S++[.lst (a++b)]) else .no
    |_,_=>.no):=h
   cases e1:Ev.Zj S m with
   |none=>rw[e1] at h';exact False.elim h'
   |some ds=>
    cases e2:Ev.Zj S n with
    |none=>rw[e1,e2] at h';exact False.elim h'
    |some es=>
     rw[e1,e2] at h';obtain⟨hl,h⟩:=End.guard h';obtain⟨_,p,xs,q1,hp,r1⟩:=st.lst e1;obtain⟨_,q,ys,q2,hq,r2⟩:=st.lst e2;obtain⟨p',rfl,t1⟩:=rx.loc';obtain⟨q',rfl,t2⟩:=ry.loc';rw[q1] at t1;cases t1;rw[q2] at t2;cases t2;exact .inr (.inr (.inr ⟨p,q,xs,ys,rfl,rfl,hp,hq,by rw[r1.length,r2.length,<-Ww];exact hl,h.newL st (r1.append r2)⟩))
  |_=>exact False.elim h
 |_=>cases y <;> exact False.elim h
theorem ZcJ (st:St3 K ρ S H) (rx:Rep ρ H x v) (ry:Rep ρ H y u) (h:End K xw Rep ρ H Q (Ev.Ys .sub x y S)):rI0 (λi j=>.int (i-j)) v u H Q:=by
 cases x with
 |int i=>cases y with
  |int j=>exact⟨i,j,rx.int',ry.int',End.ok h st (Zp _)⟩
  |_=>exact False.elim h
 |_=>cases y <;> exact False.elim h
def Zbz (K:PySem.W.Frag):R2:=λx y H Q=>rI (λi j=>Ev.fits i=true/\Ev.fits j=true) (λi j=>.int (i*j)) x y H Q\/(Zbt K x y H Q\/Zbp x y H Q)
theorem ZaA:OpR X (binaryOp .Mult) (Zbz X.K):=Zbj.or (j6.or Zak)
theorem ZbE (st:St3 K ρ S H) (rx:Rep ρ H x v) (ry:Rep ρ H y u) (h:End K xw Rep ρ H Q (Ev.Ys .mul x y S)):Zbz K v u H Q:=by
 cases x with
 |int i=>cases y with
  |int j=>
   obtain⟨hc,h⟩:=End.guard h;exact .inl ⟨i,j,rx.int',ry.int',(Pp _ _).mp hc,End.ok h st (Zp _)⟩
  |_=>exact False.elim h
 |tup ds=>cases y with
  |int k=>
   obtain⟨⟨h0,h1,h2⟩,h⟩:=End.guard h;obtain⟨p,xs,rfl,hp,r1⟩:=rx.tup';have l1:=r1.length;refine .inr <| .inl ⟨p,k,xs,rfl,ry.int',SqT.of hp,⟨h0,h1,by rw[l1];exact h2⟩,λz=>?_,λ_=>h.newT st (r1.rep k.toNat)⟩
   refine End.ok h st (ZQ hp ?_);rcases z with z | z
   ·subst z
    have e1:ds=[]:=NB.mp l1.symm;subst e1;have:∀m:Nat,(List.replicate m ([]:List D)).flatten=[]:=λm=>by induction m with | zero=>rfl | succ m ih=>rw[P5,Ng,ih];rfl
    rw[this];exact Rq.nil
   ·subst z
    show Rq ρ H (List.replicate 1 ds).flatten xs;rw[P5,List.replicate_zero,Ng,List.flatten_nil,N7];exact r1
  |_=>exact False.elim h
 |loc m=>cases y with
  |int k=>
   have h':End K xw Rep ρ H Q (match Ev.Zj S m with
    |some a=>if 0<=k/\k<1000/\a.length<=1000 then .ok (.loc S.length) (S++[.lst (List.replicate k.toNat a).flatten]) else .no
    |none=>.no):=h
   cases e1:Ev.Zj S m with
   |none=>rw[e1] at h';exact False.elim h'
   |some ds=>
    rw[e1] at h';obtain⟨⟨h0,h1,h2⟩,h⟩:=End.guard h';obtain⟨_,p,xs,q1,hp,r1⟩:=st.lst e1;obtain⟨p',rfl,t1⟩:=rx.loc';rw[q1] at t1;cases t1;exact .inr (.inr ⟨p,k,xs,rfl,ry.int',hp,⟨h0,h1,by rw[r1.length];exact h2⟩,h.newL st (r1.rep k.toNat)⟩)
  |_=>exact False.elim h
 |_=>cases y <;> exact False.elim h
theorem Zaa (st:St3 K ρ S H) (rx:Rep ρ H x v) (ry:Rep ρ H y u) (h:End K xw Rep ρ H Q (Ev.Ys .fdiv x y S)):rI CDiv (λi j=>.int (i / j)) v u H Q:=by
 cases x with
 |int i=>cases y with
  |int j=>
   obtain⟨hc,h⟩:=End.guard h;exact⟨i,j,rx.int',ry.int',hc,End.ok h st (Zp _)⟩
  |_=>exact False.elim h
 |_=>cases y <;> exact False.elim h
theorem Zce (st:St3 K ρ S H) (rx:Rep ρ H x v) (ry:Rep ρ H y u) (h:End K xw Rep ρ H Q (Ev.Ys .mod x y S)):rI (λ_ j=>0<j) (λi j=>.int (i%j)) v u H Q:=by
 cases x with
 |int i=>cases y with
  |int j=>
   obtain⟨hc,h⟩:=End.guard h;exact⟨i,j,rx.int',ry.int',hc,End.ok h st (Zp _)⟩
  |_=>exact False.elim h
 |_=>cases y <;> exact False.elim h
theorem ZbF (st:St3 K ρ S H) (rx:Rep ρ H x v) (ry:Rep ρ H y u) (h:End K xw Rep ρ H Q (Ev.Ys .pow x y S)):rI CPow (λi j=>.int (i^j.toNat)) v u H Q:=by
 cases x with
 |int i=>cases y with
  |int j=>
   obtain⟨hc,h⟩:=End.guard h;exact⟨i,j,rx.int',ry.int',⟨hc.1,by omega,hc.2.2⟩,End.ok h st (Zp _)⟩
  |_=>exact False.elim h
 |_=>cases y <;> exact False.elim h
theorem yO (ha:CE X xw C a i) (hb:CE X xw C b j):CE X xw C (.BinOp a .Add b pos) (.bin .add i j):=PE.imp (Je Za2 ha hb) (Wi λst rx ry h=>Zcz st rx ry h)
theorem xj (ha:CE X xw C a i) (hb:CE X xw C b j):CE X xw C (.BinOp a .Sub b pos) (.bin .sub i j):=PE.imp (Je ZbH ha hb) (Wi λst rx ry h=>ZcJ st rx ry h)
theorem yY (ha:CE X xw C a i) (hb:CE X xw C b j):CE X xw C (.BinOp a .Mult b pos) (.bin .mul i j):=PE.imp (Je ZaA ha hb) (Wi λst rx ry h=>ZbE st rx ry h)
theorem Gz (ha:CE X xw C a i) (hb:CE X xw C b j):CE X xw C (.BinOp a .FloorDiv b pos) (.bin .fdiv i j):=PE.imp (Je ZaQ ha hb) (Wi λst rx ry h=>Zaa st rx ry h)
theorem yj (ha:CE X xw C a i) (hb:CE X xw C b j):CE X xw C (.BinOp a .Mod b pos) (.bin .mod i j):=PE.imp (Je ZcS ha hb) (Wi λst rx ry h=>Zce st rx ry h)
theorem yp (ha:CE X xw C a i) (hb:CE X xw C b j):CE X xw C (.BinOp a .Pow b pos) (.bin .pow i j):=PE.imp (Je ZbW ha hb) (Wi λst rx ry h=>ZbF st rx ry h)
theorem yZ (ha:CE X xw C a i):CE X xw C (.UnaryOp .USub a pos) (.neg i):=PE.imp (Zdv Zb4 ha) λσ H Q ⟨ρ,l,S,st,lr,h⟩=>by
 refine⟨ρ,l,S,st,lr,End.bind (show End X.K xw Rep ρ H Q ((ev C i l S).bind _) from h) λx S1 ρ1 H1 v f1 st1 r1 h1=>?_⟩
 cases x with
 |int n=>exact⟨n,r1.int',End.ok h1 st1 (Zp _)⟩
 |_=>exact False.elim h1
theorem Xe {n:Bool}(st:St3 K ρ S H) (rx:Rep ρ H x v) (h:Ev.ZM S x=some n):jG K v H n:=by
 cases x with
 |non=>rw[rx.non'];exact (Pb h).symm
 |bl b=>rw[rx.bl'];exact (Pb h).symm
 |int i=>
  rw[rx.int'];have h':=Pb h;show n=(i != 0);rw[<-h'];by_cases z:i=0
  ·subst z;rfl
  ·rw[PJ z];exact (bne_iff_ne.mpr z).symm
 |tup ds=>
  obtain⟨p,xs,rfl,hp,r⟩:=rx.tup';have h':=Pb h;refine .inr (.inl ⟨xs,SqT.of hp,?_⟩);rw[<-h'];have:=r.length;cases ds <;> cases xs <;> first | rfl | (simp at this)
 |loc m=>
  have h2:(Ev.Z7 S m).map (λxs=>!xs.isEmpty)=some n:=h
  cases e:Ev.Z7 S m with
  |none=>rw[e] at h2;cases h2
  |some ds=>
   rw[e] at h2;obtain⟨p,xs,q,hp,r⟩:=st.seq e;obtain⟨p',rfl,t⟩:=rx.loc';rw[q] at t;cases t;refine .inl ⟨xs,hp,?_⟩;have h':=Pb h2;rw[<-h'];have:=r.length;cases ds <;> cases xs <;> first | rfl | (simp at this)
 |_=>cases h
theorem yE (ha:CE X xw C a i) (he:∀whole,isTrue a X.env whole=(do let v <-whole;standAt a.pos;holding [v] (truthy v)):=by intro _;rfl):CT X xw C a i:=
 PT.imp (qu ha he) λσ H Q ⟨ρ,l,S,st,lr,h⟩=>by
  refine⟨ρ,l,S,st,lr,End.bind (show End X.K xw XH ρ H Q ((ev C i l S).bind λx S=>Ev.ob (Ev.ZM S x) S) from h) λx S1 ρ1 H1 v f1 st1 r1 h1=>?_⟩
  cases q:Ev.ZM S1 x with
  |none=>rw[q] at h1;exact False.elim h1
  |some n=>rw[q] at h1;exact⟨n,Xe st1 r1 q,End.ok h1 st1 rfl⟩
theorem xk (ha:CT X xw C a i):CT X xw C (.UnaryOp .Not a pos) (.not i):=PT.imp (Zb1 ha) λσ H Q ⟨ρ,l,S,st,lr,h⟩=>by
 refine⟨ρ,l,S,st,lr,?_⟩;have h':End X.K xw XH ρ H Q (((ev C i l S).bind λx S=>(Ev.ob (Ev.ZM S x) S).bind λb S=>.ok (.bl !b) S).bind λx S=>Ev.ob (Ev.ZM S x) S):=h
 show End X.K xw XH ρ H (λc H1=>Q (!c) H1) ((ev C i l S).bind λx S=>Ev.ob (Ev.ZM S x) S)
 cases q:ev C i l S with
 |no=>rw[q] at h';exact h'
 |ex c S1=>rw[q] at h';exact h'
 |ok x S1=>
  rw[q] at h';show End X.K xw XH ρ H _ (Ev.ob (Ev.ZM S1 x) S1);have h2:End X.K xw XH ρ H Q (((Ev.ob (Ev.ZM S1 x) S1).bind λb S=>.ok (.bl !b) S).bind λx S=>Ev.ob (Ev.ZM S x) S):=h'
  cases t:Ev.ZM S1 x with
  |none=>rw[t] at h2;exact h2
  |some n=>
   rw[t] at h2;intro ρ1 H1 w f1 st1 e;exact h2 ρ1 H1 (!w) f1 st1 (by rw[<-(show n=w from e)];rfl)
theorem yr (ha:CE X xw C a i):CE X xw C (.UnaryOp .Not a pos) (.not i):=by
 intro pq s σ H Q I hq;obtain⟨ρ,l,S,st,lr,h⟩:=hq;have h':End X.K xw Rep ρ H Q ((ev C i l S).bind λx S=>(Ev.ob (Ev.ZM S x) S).bind λb S=>.ok (.bl !b) S):=h
 refine UnaryOp_ (thn (ha pq s σ H (λv H1=>∃k,jG X.K v H1 k/\Q (.bl !k) H1) I ⟨ρ,l,S,st,lr,End.bind h' λx S1 ρ1 H1 v f1 st1 r1 h1=>?_⟩) λv s1 ⟨x,H1,I1,r1,q1⟩=>?_)
 ·cases q:Ev.ZM S1 x with
  |none=>rw[q] at h1;exact False.elim h1
  |some n=>rw[q] at h1;exact⟨n,Xe st1 r1 q,End.ok h1 st1 (Zr _)⟩
 ·obtain⟨k,tk,q2⟩:=q1
  refine not_of (thn (jc pq s1 σ H1 x v (λk' H'=>Q (.bl !k') H') I1 r1 ⟨k,tk,q2⟩) λk' s2 ⟨H2,I2,q3⟩=>?_)
  exact⟨.bl (!k'),H2,I2,rfl,q3⟩
theorem yB {rest:List Expr}(ha:CE X xw C a i) (hb:CE X xw C (.BoolOp .And (b::rest) pos) j):CE X xw C (.BoolOp .And (a::b::rest) pos) (.and i j):=PE.imp (ZbU ha hb) λσ H Q ⟨ρ,l,S,st,lr,h⟩=>by
 refine⟨ρ,l,S,st,lr,End.bind (show End X.K xw Rep ρ H Q ((ev C i l S).bind _) from h) λx S1 ρ1 H1 v f1 st1 r1 h1=>?_⟩
 cases x with
 |bl c=>
  refine⟨c,r1.bl',?_⟩;cases c with
  |true=>exact⟨ρ1,l,S1,st1,lr.mono f1,h1⟩
  |false=>exact End.ok h1 st1 (Zr _)
 |_=>exact False.elim h1
theorem uR {rest:List Expr}(ha:CE X xw C a i) (hb:CE X xw C (.BoolOp .Or (b::rest) pos) j):CE X xw C (.BoolOp .Or (a::b::rest) pos) (.or i j):=PE.imp (Zdd ha hb) λσ H Q ⟨ρ,l,S,st,lr,h⟩=>by
 refine⟨ρ,l,S,st,lr,End.bind (show End X.K xw Rep ρ H Q ((ev C i l S).bind _) from h) λx S1 ρ1 H1 v f1 st1 r1 h1=>?_⟩
 cases x with
 |bl c=>
  refine⟨c,r1.bl',?_⟩;cases c with
  |false=>exact⟨ρ1,l,S1,st1,lr.mono f1,h1⟩
  |true=>exact End.ok h1 st1 (Zr _)
 |_=>exact False.elim h1
theorem xp (hc:CT X xw C c k) (ha:CE X xw C a i) (hb:CE X xw C b j):CE X xw C (.IfExp c a b pos) (.ite k i j):=PE.imp (uP hc ha hb) λσ H Q ⟨ρ,l,S,st,lr,h⟩=>by
 have h':End X.K xw Rep ρ H Q ((ev C k l S).bind λx S=>(Ev.ob (Ev.ZM S x) S).bind λc S=>if c then ev C i l S else ev C j l S):=h
 refine⟨ρ,l,S,st,lr,?_⟩;show End X.K xw XH ρ H _ ((ev C k l S).bind λx S=>Ev.ob (Ev.ZM S x) S)
 cases q:ev C k l S with
 |no=>rw[q] at h';exact h'
 |ex c S1=>rw[q] at h';exact h'
 |ok x S1=>
  rw[q] at h';have h2:End X.K xw Rep ρ H Q ((Ev.ob (Ev.ZM S1 x) S1).bind λc S=>if c then ev C i l S else ev C j l S):=h'
  show End X.K xw XH ρ H _ (Ev.ob (Ev.ZM S1 x) S1);cases t:Ev.ZM S1 x with
  |none=>rw[t] at h2;exact h2
  |some n=>
   rw[t] at h2;have h3:End X.K xw Rep ρ H Q (if n then ev C i l S1 else ev C j l S1):=h2
   intro ρ1 H1 w f1 st1 e;have e':n=w:=e;subst e';cases n with
   |true=>exact⟨ρ1,l,S1,st1,lr.mono f1,h3.mono f1⟩
   |false=>exact⟨ρ1,l,S1,st1,lr.mono f1,h3.mono f1⟩
def CWh (X:Cx) (xw:Nat->Hp->Prop) (C:Calls) (e:Expr) (i:E):Prop:=PW X e (tB3 X xw (tst C i))
theorem CWh.ct (h:CWh X xw C e i):CT X xw C e i:=PW.pt h
theorem PW.imp {X:Cx}{e:Expr}{t t':TT}(h:PW X e t) (k:∀σ H Q,t' σ H Q->t σ H Q):PW X e t':=λwh pq s σ H Q I q=>h wh pq s σ H Q I (k σ H Q q)
theorem yG (ha:CT X xw C a i):CWh X xw C (.BoolOp .Or [a] pos) i:=Zch ha
theorem xY {rest:List Expr}(ha:CT X xw C a i) (hb:CWh X xw C (.BoolOp .Or (b::rest) pos) j):CWh X xw C (.BoolOp .Or (a::b::rest) pos) (.or i j):=PW.imp (Zc2 ha hb) λσ H Q ⟨ρ,l,S,st,lr,h⟩=>by
 have h':End X.K xw XH ρ H Q (((ev C i l S).bind λx S=>match x with | .bl c=>if c then .ok (.bl true) S else ev C j l S | _=>.no).bind λx S=>Ev.ob (Ev.ZM S x) S):=h
 refine⟨ρ,l,S,st,lr,?_⟩;show End X.K xw XH ρ H _ ((ev C i l S).bind λx S=>Ev.ob (Ev.ZM S x) S)
 cases q:ev C i l S with
 |no=>rw[q] at h';exact h'
 |ex c S1=>rw[q] at h';exact h'
 |ok x S1=>
  rw[q] at h';cases x with
  |bl n=>
   intro ρ1 H1 w f1 st1 e;have e':n=w:=e;subst e';cases n with
   |false=>exact⟨ρ1,l,S1,st1,lr.mono f1,End.mono f1 (show End X.K xw XH ρ H Q ((ev C j l S1).bind λx S=>Ev.ob (Ev.ZM S x) S) from h')⟩
   |true=>exact (show End X.K xw XH ρ H Q (.ok true S1) from h') ρ1 H1 true f1 st1 rfl
  |_=>exact False.elim h'
end
section
variable {K:PySem.W.Frag}{ρ:List Addr}{H:Hp}{S:Zc}
theorem UO {f:D->D->Option Bool}(hf:∀x y v b,Rep ρ H x v->Rep ρ H y v->f x y=some b->b=true):∀{ds es:List D}{xs:List V}{b:Bool},Rq ρ H ds xs->Rq ρ H es xs->Ev.eqL f ds es=some b->b=true
 |[],[],_,b,_,_,h=>(Pb h).symm
 |d::ds,e::es,_,b,r1,r2,h=>by
  unfold Rq at r1 r2;obtain⟨v,vs,rfl,a1,b1⟩:=r1;obtain⟨v',vs',e',a2,b2⟩:=r2;cases e';unfold Ev.eqL at h;cases q1:f d e with
  |none=>rw[q1] at h;cases h
  |some p=>
   cases q2:Ev.eqL f ds es with
   |none=>rw[q1,q2] at h;cases h
   |some q=>
    rw[q1,q2] at h;have h':(p&&q)=b:=Pb h;rw[<-h',hf d e v p a1 a2 q1,UO hf b1 b2 q2];rfl
 |[],_::_,_,b,r1,r2,h=>by
  have l1:=r1.length;have l2:=r2.length;rw[l1] at l2;simp at l2
 |_::_,[],_,b,r1,r2,h=>by
  have l1:=r1.length;have l2:=r2.length;rw[l1] at l2;simp at l2
theorem Vs (st:St3 K ρ S H):∀(k:Nat) (x y:D) (v:V) (b:Bool),Rep ρ H x v->Rep ρ H y v->Ev.eqD S k x y=some b->b=true
 |0,_,_,_,_,_,_,h=>by cases h
 |k+1,x,y,v,b,r1,r2,h=>by
  cases x with
  |non=>
   cases r1.non';cases y with
   |non=>exact (Pb h).symm
   |bl _=>cases r2.bl'
   |int _=>cases r2.int'
   |str _=>cases r2.str'
   |tup _=>obtain⟨_,_,z,_⟩:=r2.tup';cases z
   |loc _=>obtain⟨_,z,_⟩:=r2.loc';cases z
  |bl i=>
   cases r1.bl';cases y with
   |bl j=>cases r2.bl';have:=Pb h;rw[<-this];exact PJ rfl
   |non=>cases r2.non'
   |int _=>cases r2.int'
   |str _=>cases r2.str'
   |tup _=>obtain⟨_,_,z,_⟩:=r2.tup';cases z
   |loc _=>obtain⟨_,z,_⟩:=r2.loc';cases z
  |int i=>
   cases r1.int';cases y with
   |int j=>cases r2.int';have:=Pb h;rw[<-this];exact PJ rfl
   |non=>cases r2.non'
   |bl _=>cases r2.bl'
   |str _=>cases r2.str'
   |tup _=>obtain⟨_,_,z,_⟩:=r2.tup';cases z
   |loc _=>obtain⟨_,z,_⟩:=r2.loc';cases z
  |str i=>
   cases r1.str';cases y with
   |str j=>cases r2.str';have:=Pb h;rw[<-this];exact PJ rfl
   |non=>cases r2.non'
   |bl _=>cases r2.bl'
   |int _=>cases r2.int'
   |tup _=>obtain⟨_,_,z,_⟩:=r2.tup';cases z
   |loc _=>obtain⟨_,z,_⟩:=r2.loc';cases z
  |tup ds=>
   obtain⟨p,xs,rfl,hp,q1⟩:=r1.tup';cases y with
   |tup es=>
    obtain⟨p',xs',z,hp',q2⟩:=r2.tup';cases z;rw[hp] at hp';cases hp';exact UO (λx y v b=>Vs st k x y v b) q1 q2 h
   |non=>cases r2.non'
   |bl _=>cases r2.bl'
   |int _=>cases r2.int'
   |str _=>cases r2.str'
   |loc _=>cases h
  |loc m=>
   obtain⟨p,rfl,hp⟩:=r1.loc';cases y with
   |loc n=>
    obtain⟨p',z,hp'⟩:=r2.loc';cases z;have h':(match Ev.Zj S m,Ev.Zj S n with
     |some xs,some ys=>if xs.length=ys.length then Ev.eqL (Ev.eqD S k) xs ys else some false
     |_,_=>none)=some b:=h
    cases e1:Ev.Zj S m with
    |none=>rw[e1] at h';cases h'
    |some ds=>
     cases e2:Ev.Zj S n with
     |none=>rw[e1,e2] at h';cases h'
     |some es=>
      rw[e1,e2] at h';obtain⟨s1,a1,xs,t1,u1,q1⟩:=st.lst e1;obtain⟨s2,a2,ys,t2,u2,q2⟩:=st.lst e2;by_cases hmn:m=n
      ·subst hmn
       rw[e1] at e2;cases e2;have h2:(if ds.length=ds.length then Ev.eqL (Ev.eqD S k) ds ds else some false)=some b:=h'
       rw[Ph rfl] at h2;exact UO (λx y v b=>Vs st k x y v b) q1 q1 h2
      ·rcases st.nd m n p hp hp' hmn with ⟨ns,z⟩ | ⟨ns,z⟩
       ·rw[s1] at z;cases z
       ·rw[s2] at z;cases z
   |non=>cases r2.non'
   |bl _=>cases r2.bl'
   |int _=>cases r2.int'
   |str _=>cases r2.str'
   |tup _=>cases h
noncomputable def eAt (f:D->D->Option Bool) (ds es:List D) (j:Nat):Bool:=match ds[j]?,es[j]? with
 |some x,some y=>(f x y).getD false
 |_,_=>false
theorem Xy {f:D->D->Option Bool}:∀{ds es:List D}{b:Bool},Ev.eqL f ds es=some b->
  ((List.range (min ds.length es.length)).all (eAt f ds es)&&ds.length == es.length)=b/\∀j x y,ds[j]? = some x->es[j]? = some y->f x y=some (eAt f ds es j)
 |[],[],b,h=>⟨Pb h,λj x y e=>by simp at e⟩
 |[],_::es,b,h=>⟨by rw[<-Pb h];simp,λj x y e=>by simp at e⟩
 |_::ds,[],b,h=>⟨by rw[<-Pb h];simp,λj x y _ e=>by simp at e⟩
 |d::ds,e::es,b,h=>by
  unfold Ev.eqL at h;cases q1:f d e with
  |none=>rw[q1] at h;cases h
  |some p=>
   cases q2:Ev.eqL f ds es with
   |none=>rw[q1,q2] at h;cases h
   |some q=>
    rw[q1,q2] at h;obtain⟨ih,ih2⟩:=Xy q2;have h':(p&&q)=b:=Pb h;have e0:eAt f (d::ds) (e::es) 0=p:=by simp[eAt,q1]
    have es':∀j,eAt f (d::ds) (e::es) (j+1)=eAt f ds es j:=λj=>by simp[eAt]
    refine⟨?_,λj x y hx hy=>?_⟩
    ·rw[<-h',<-ih,PC,PC,Nat.succ_min_succ,List.range_succ_eq_map,List.all_cons,e0,K2]
     have:((List.range (min ds.length es.length)).all (eAt f (d::ds) (e::es)∘Nat.succ))=(List.range (min ds.length es.length)).all (eAt f ds es):=by
      exact congrArg (λg=>(List.range (min ds.length es.length)).all g) (funext λj=>es' j)
     rw[this,Bool.and_assoc]
     congr 2
     simp
    ·cases j with
     |zero=>
      simp at hx hy;subst hx hy;rw[e0];exact q1
     |succ j=>
      rw[es' j];exact ih2 j x y (by simpa using hx) (by simpa using hy)
end
section
variable {X:Cx}{pq:List (Addr×Obj)}{σ:L2.St}{H:Hp}{s:Shared}{ρ:List Addr}{S:Zc}
theorem YE {A:Around}{k:Nat}(h:A.units+(k+1)<cLine):A.in1.units+k<cLine:=by
 have e:A.in1.units<=A.units+1:=by
  first | exact Pk _ | (simp[Around.in1,Around.units] <;> omega)
 omega
theorem GI (I:Inv X pq σ H s) (st:St3 X.K ρ S H):∀(k:Nat) (A:Around) (x y:D) (v u:V) (vv uu:Value) (b:Bool),A.units+k<cLine->Rep ρ H x v->Rep ρ H y u->ZI v vv->ZI u uu->Ev.eqD S k x y=some b->SeqAt.EqAt A s vv uu b
 |0,_,_,_,_,_,_,_,_,_,_,_,_,_,h=>by cases h
 |k+1,A,x,y,v,u,vv,uu,b,hu,r1,r2,e1,e2,h=>by
  have flat:xN v=true->xN u=true->eqV v u=b->SeqAt.EqAt A s vv uu b:=λf1 f2 e=>by rw[<-e];exact Zci e1 e2 f1 f2
  have bb:∀{a c:Bool},(a == c)=decide (a=c):=λ{a c}=>by cases a <;> cases c <;> rfl
  have ii:∀{a c:Int},(a == c)=decide (a=c):=λ{a c}=>by rw[Nf];simp
  have ss:∀{a c:Str},(a == c)=decide (a=c):=λ{a c}=>by rw[Nf];simp
  cases x with
  |non=>
   cases r1.non';cases y with
   |non=>cases r2.non';exact flat rfl rfl (Pb h)
   |bl _=>cases r2.bl';exact flat rfl rfl (Pb h)
   |int _=>cases r2.int';exact flat rfl rfl (Pb h)
   |str _=>cases r2.str';exact flat rfl rfl (Pb h)
   |_=>cases h
  |bl i=>
   cases r1.bl';cases y with
   |non=>cases r2.non';exact flat rfl rfl (Pb h)
   |bl _=>cases r2.bl';exact flat rfl rfl (bb.trans (Pb h))
   |int _=>cases r2.int';exact flat rfl rfl (ii.trans (Pb h))
   |str _=>cases r2.str';exact flat rfl rfl (Pb h)
   |_=>cases h
  |int i=>
   cases r1.int';cases y with
   |non=>cases r2.non';exact flat rfl rfl (Pb h)
   |bl _=>cases r2.bl';exact flat rfl rfl (ii.trans (Pb h))
   |int _=>cases r2.int';exact flat rfl rfl (ii.trans (Pb h))
   |str _=>cases r2.str';exact flat rfl rfl (Pb h)
   |_=>cases h
  |str i=>
   cases r1.str';cases y with
   |non=>cases r2.non';exact flat rfl rfl (Pb h)
   |bl _=>cases r2.bl';exact flat rfl rfl (Pb h)
   |int _=>cases r2.int';exact flat rfl rfl (Pb h)
   |str _=>cases r2.str';exact flat rfl rfl (ss.trans (Pb h))
   |_=>cases h
  |tup ds=>
   obtain⟨p,xs,rfl,hp,q1⟩:=r1.tup';cases e1;cases y with
   |tup es=>
    obtain⟨p',ys,rfl,hp',q2⟩:=r2.tup';cases e2;by_cases hpp:p=p'
    ·subst hpp
     rw[Vs st (k+1) (.tup ds) (.tup es) (.ref p) b r1 r2 h];exact SeqAt.EqAt.same _
    ·obtain⟨its,v1,t1,_⟩:=I.tuple (SqT.of hp)
     obtain⟨its2,v2,t2,_⟩:=I.tuple (SqT.of hp');have h':Ev.eqL (Ev.eqD S k) ds es=some b:=h;obtain⟨ev,ea⟩:=Xy h';have n1:its.toArray.size=ds.length:=by rw[Pg,<-v1.length,q1.length]
     have n2:its2.toArray.size=es.length:=by rw[Pg,<-v2.length,q2.length]
     refine SeqAt.EqAt.of_refs hpp ?_;rw[<-ev,<-n1,<-n2];refine SeqAt.RcAt.tuples t1 t2 (by omega) λj j1 j2=>?_
     have d1:ds[j]? = some ds[j]:=Pd (by omega)
     have d2:es[j]? = some es[j]:=Pd (by omega)
     obtain⟨w1,g1,z1⟩:=q1.get d1;obtain⟨w2,g2,z2⟩:=q2.get d2;obtain⟨m1,k1,y1⟩:=v1.get g1;obtain⟨m2,k2,y2⟩:=v2.get g2;have o1:its.toArray[j]=m1:=by
      have:=Pr.mp k1
      simpa using this.2
     have o2:its2.toArray[j]=m2:=by
      have:=Pr.mp k2
      simpa using this.2
     rw[o1,o2];exact GI I st k A.in1 ds[j] es[j] w1 w2 m1 m2 _ (YE hu) z1 z2 y1 y2 (ea j _ _ d1 d2)
   |_=>cases h
  |loc m=>
   obtain⟨p,rfl,hp⟩:=r1.loc';cases e1;cases y with
   |loc n=>
    obtain⟨p',rfl,hp'⟩:=r2.loc';cases e2;by_cases hpp:p=p'
    ·subst hpp
     rw[Vs st (k+1) (.loc m) (.loc n) (.ref p) b r1 r2 h];exact SeqAt.EqAt.same _
    ·have h':(match Ev.Zj S m,Ev.Zj S n with
      |some xs,some ys=>if xs.length=ys.length then Ev.eqL (Ev.eqD S k) xs ys else some false
      |_,_=>none)=some b:=h
     cases a1:Ev.Zj S m with
     |none=>rw[a1] at h';cases h'
     |some ds=>
      cases a2:Ev.Zj S n with
      |none=>rw[a1,a2] at h';cases h'
      |some es=>
       rw[a1,a2] at h';obtain⟨s1,c1,xs,t1,u1,q1⟩:=st.lst a1;obtain⟨s2,c2,ys,t2,u2,q2⟩:=st.lst a2;rw[hp] at t1;cases t1;rw[hp'] at t2;cases t2;obtain⟨its,v1,p1,_⟩:=I.list (SqL.of u1);obtain⟨its2,v2,p2,_⟩:=I.list (SqL.of u2);have n1:its.toArray.size=ds.length:=by rw[Pg,<-v1.length,q1.length]
       have n2:its2.toArray.size=es.length:=by rw[Pg,<-v2.length,q2.length]
       refine SeqAt.EqAt.of_refs hpp ?_;have h2:(if ds.length=es.length then Ev.eqL (Ev.eqD S k) ds es else some false)=some b:=h'
       by_cases hl:ds.length=es.length
       ·rw[Ph hl] at h2
        obtain⟨ev,ea⟩:=Xy h2;have ev':(List.range ds.length).all (eAt (Ev.eqD S k) ds es)=b:=by
         rw[<-ev,<-hl,Nat.min_self];simp
        rw[<-ev',<-n1];refine SeqAt.RcAt.lists p1.isList p2.isList (by omega) (by omega) λj j1 j2=>?_
        have d1:ds[j]? = some ds[j]:=Pd (by omega)
        have d2:es[j]? = some es[j]:=Pd (by omega)
        obtain⟨w1,g1,z1⟩:=q1.get d1;obtain⟨w2,g2,z2⟩:=q2.get d2;obtain⟨m1,k1,y1⟩:=v1.get g1;obtain⟨m2,k2,y2⟩:=v2.get g2;have o1:its.toArray[j]=m1:=by
         have:=Pr.mp k1
         simpa using this.2
        have o2:its2.toArray[j]=m2:=by
         have:=Pr.mp k2
         simpa using this.2
        rw[o1,o2];exact GI I st k A.in1 ds[j] es[j] w1 w2 m1 m2 _ (YE hu) z1 z2 y1 y2 (ea j _ _ d1 d2)
       ·rw[Pj hl] at h2
        rw[<-Pb h2];exact SeqAt.RcAt.lists_lengths p1.isList p2.isList (bne_iff_ne.mpr (by omega)) (by omega)
   |_=>cases h
end
section
variable {X:Cx}{pq:List (Addr×Obj)}{σ:L2.St}{H:Hp}{s:Shared}{ρ:List Addr}{S:Zc}
theorem Vu (I:Inv X pq σ H s) (st:St3 X.K ρ S H) {k:Nat}{A:Around}{ds es:List D}{xs ys:List V}{its its2:List Value}{b:Bool}(hu:A.units+(k+1)<cLine)
  (q1:Rq ρ H ds xs) (q2:Rq ρ H es ys) (v1:Vals xs its) (v2:Vals ys its2) (h:Ev.eqL (Ev.eqD S k) ds es=some b) :
  ∀j (h1:j<its.toArray.size) (h2:j<its2.toArray.size),SeqAt.EqAt A.in1 s its.toArray[j] its2.toArray[j] (eAt (Ev.eqD S k) ds es j):=λj j1 j2=>by
 obtain⟨_,ea⟩:=Xy h;have n1:its.toArray.size=ds.length:=by rw[Pg,<-v1.length,q1.length]
 have n2:its2.toArray.size=es.length:=by rw[Pg,<-v2.length,q2.length]
 have d1:ds[j]? = some ds[j]:=Pd (by omega)
 have d2:es[j]? = some es[j]:=Pd (by omega)
 obtain⟨w1,g1,z1⟩:=q1.get d1;obtain⟨w2,g2,z2⟩:=q2.get d2;obtain⟨m1,k1,y1⟩:=v1.get g1;obtain⟨m2,k2,y2⟩:=v2.get g2;have o1:its.toArray[j]=m1:=by
  have:=Pr.mp k1
  simpa using this.2
 have o2:its2.toArray[j]=m2:=by
  have:=Pr.mp k2
  simpa using this.2
 rw[o1,o2];exact GI I st k A.in1 ds[j] es[j] w1 w2 m1 m2 _ (YE hu) z1 z2 y1 y2 (ea j _ _ d1 d2)
end
section
variable {X:Cx}{xw:Nat->Hp->Prop}{C:Calls}{e a b c:Expr}{i j k:E}{pos p p':Pos}
def jq (K:PySem.W.Frag) (xw:Nat->Hp->Prop) (op:Cop):R2:=λv u H Q=>∃ρ S x y,St3 K ρ S H/\Rep ρ H x v/\Rep ρ H y u/\End K xw Rep ρ H Q (Ev.YB op x y S)
theorem Zcm {op:Cop}:∀σ H Q,tE X xw (ev C (.cmp op i j)) σ H Q->tOp (jq X.K xw op) (tE X xw (ev C i)) (tE X xw (ev C j)) σ H Q:=λσ H Q h=>
 Wi (r:=jq X.K xw op) (g:=Ev.YB op) (λ{ρ H S x y v u Q} st rx ry h=>⟨ρ,S,x,y,st,rx,ry,h⟩) σ H Q h
theorem dI {a c:Int}:(a == c)=decide (a=c):=by rw[Nf];simp
theorem ZcQ (hu:X.A.units+6<cLine):OpR X (compareOp .Eq) (jq X.K xw .eq):=by
 intro pq s σ H v u vv uu Q I e1 e2 h;obtain⟨ρ,S,x,y,st,rx,ry,h⟩:=h;have h0:End X.K xw Rep ρ H Q ((Ev.ob (Ev.eqD S Ev.Zo x y) S).bind λb S=>.ok (.bl b) S):=h
 obtain⟨b,hb,h1⟩:=End.ob h0;have q:Q (.bl b) H:=End.ok h1 st (Zr b);have flat:scal v u=true->decide (v=u)=b->wpAny (model X.prog X.w) X.A (compareOp .Eq vv uu) (EP X pq σ Q) X.xe s:=λhs e=>Zde pq s σ H v u vv uu Q I e1 e2 ⟨hs,by rw[e];exact q⟩
 cases x with
 |non=>
  cases rx.non';cases y with
  |non=>cases ry.non';exact flat rfl (Pb hb▸by simp)
  |bl _=>cases ry.bl';exact flat rfl (Pb hb▸by simp)
  |int _=>cases ry.int';exact flat rfl (Pb hb▸by simp)
  |str _=>cases ry.str';exact flat rfl (Pb hb▸by simp)
  |_=>cases hb
 |bl i=>
  cases rx.bl';cases y with
  |non=>cases ry.non';exact flat rfl (Pb hb▸by simp)
  |bl j=>cases ry.bl';exact flat rfl (Pb hb▸by simp)
  |int j=>
   cases ry.int';cases e1;obtain⟨t,rfl⟩:=e2;refine EqBoolInt.eq_bool_int ⟨.bl b,H,I,?_,q⟩;show Value.bool ((if i then 1 else 0) == j)=Value.bool b
   rw[dI];exact congrArg Value.bool (Pb hb)
  |str _=>cases ry.str';exact flat rfl (Pb hb▸by simp)
  |_=>cases hb
 |int i=>
  cases rx.int';cases y with
  |non=>cases ry.non';exact flat rfl (Pb hb▸by simp)
  |bl j=>
   cases ry.bl';cases e2;obtain⟨t,rfl⟩:=e1;refine EqBoolInt.eq_int_bool ⟨.bl b,H,I,?_,q⟩;show Value.bool (i == (if j then 1 else 0))=Value.bool b
   rw[dI];exact congrArg Value.bool (Pb hb)
  |int _=>cases ry.int';exact flat rfl (Pb hb▸by simp)
  |str _=>cases ry.str';exact flat rfl (Pb hb▸by simp)
  |_=>cases hb
 |str i=>
  cases rx.str';cases y with
  |non=>cases ry.non';exact flat rfl (Pb hb▸by simp)
  |bl _=>cases ry.bl';exact flat rfl (Pb hb▸by simp)
  |int _=>cases ry.int';exact flat rfl (Pb hb▸by simp)
  |str _=>cases ry.str';exact flat rfl (Pb hb▸by simp)
  |_=>cases hb
 |tup ds=>
  obtain⟨p,xs,rfl,hp,q1⟩:=rx.tup';cases e1;cases y with
  |tup es=>
   obtain⟨p',ys,rfl,hp',q2⟩:=ry.tup';cases e2;obtain⟨its,v1,t1,_⟩:=I.tuple (SqT.of hp);obtain⟨its2,v2,t2,_⟩:=I.tuple (SqT.of hp');have hb':Ev.eqL (Ev.eqD S 5) ds es=some b:=hb;obtain⟨ev,_⟩:=Xy hb';have n1:its.toArray.size=ds.length:=by rw[Pg,<-v1.length,q1.length]
   have n2:its2.toArray.size=es.length:=by rw[Pg,<-v2.length,q2.length]
   refine SeqAt.RcAt.tuples t1 t2 (by omega) (Vu I st hu q1 q2 v1 v2 hb') X.prog X.w X.xe _ ?_
   rw[n1,n2,ev];exact⟨.bl b,H,I,rfl,q⟩
  |_=>cases hb
 |loc m=>
  obtain⟨p,rfl,hp⟩:=rx.loc';cases e1;cases y with
  |loc n=>
   obtain⟨p',rfl,hp'⟩:=ry.loc';cases e2;have h':(match Ev.Zj S m,Ev.Zj S n with
    |some xs,some ys=>if xs.length=ys.length then Ev.eqL (Ev.eqD S 5) xs ys else some false
    |_,_=>none)=some b:=hb
   cases a1:Ev.Zj S m with
   |none=>rw[a1] at h';cases h'
   |some ds=>
    cases a2:Ev.Zj S n with
    |none=>rw[a1,a2] at h';cases h'
    |some es=>
     rw[a1,a2] at h';obtain⟨s1,c1,xs,t1,u1,q1⟩:=st.lst a1;obtain⟨s2,c2,ys,t2,u2,q2⟩:=st.lst a2;rw[hp] at t1;cases t1;rw[hp'] at t2;cases t2;obtain⟨its,v1,p1,_⟩:=I.list (SqL.of u1);obtain⟨its2,v2,p2,_⟩:=I.list (SqL.of u2);have n1:its.toArray.size=ds.length:=by rw[Pg,<-v1.length,q1.length]
     have n2:its2.toArray.size=es.length:=by rw[Pg,<-v2.length,q2.length]
     have h2:(if ds.length=es.length then Ev.eqL (Ev.eqD S 5) ds es else some false)=some b:=h'
     by_cases hl:ds.length=es.length
     ·rw[Ph hl] at h2
      obtain⟨ev,_⟩:=Xy h2;have ev':(List.range ds.length).all (eAt (Ev.eqD S 5) ds es)=b:=by
       rw[<-ev,<-hl,Nat.min_self];simp
      refine SeqAt.RcAt.lists p1.isList p2.isList (by omega) (by omega) (Vu I st hu q1 q2 v1 v2 h2) X.prog X.w X.xe _ ?_
      rw[n1,ev'];exact⟨.bl b,H,I,rfl,q⟩
     ·rw[Pj hl] at h2
      refine SeqAt.RcAt.lists_lengths p1.isList p2.isList (bne_iff_ne.mpr (by omega)) (by omega) X.prog X.w X.xe _ ?_
      exact⟨.bl b,H,I,congrArg Value.bool (Pb h2),q⟩
  |_=>cases hb
theorem Zcb (hu:X.A.units+6<cLine):OpR X (compareOp .NotEq) (jq X.K xw .ne):=by
 intro pq s σ H v u vv uu Q I e1 e2 h;obtain⟨ρ,S,x,y,st,rx,ry,h⟩:=h;have h0:End X.K xw Rep ρ H Q ((Ev.ob (Ev.eqD S Ev.Zo x y) S).bind λb S=>.ok (.bl !b) S):=h
 obtain⟨b,hb,h1⟩:=End.ob h0;have q:Q (.bl !b) H:=End.ok h1 st (Zr _);have flat:scal v u=true->decide (v=u)=b->wpAny (model X.prog X.w) X.A (compareOp .NotEq vv uu) (EP X pq σ Q) X.xe s:=λhs e=>Zdl pq s σ H v u vv uu Q I e1 e2 ⟨hs,by rw[e];exact q⟩
 cases x with
 |non=>
  cases rx.non';cases y with
  |non=>cases ry.non';exact flat rfl (Pb hb▸by simp)
  |bl _=>cases ry.bl';exact flat rfl (Pb hb▸by simp)
  |int _=>cases ry.int';exact flat rfl (Pb hb▸by simp)
  |str _=>cases ry.str';exact flat rfl (Pb hb▸by simp)
  |_=>cases hb
 |bl i=>
  cases rx.bl';cases y with
  |non=>cases ry.non';exact flat rfl (Pb hb▸by simp)
  |bl j=>cases ry.bl';exact flat rfl (Pb hb▸by simp)
  |int j=>
   cases ry.int';cases e1;obtain⟨t,rfl⟩:=e2;refine EqBoolInt.ne_bool_int ⟨.bl !b,H,I,?_,q⟩;show Value.bool (!((if i then 1 else 0) == j))=Value.bool !b
   rw[dI];exact congrArg (λz=>Value.bool !z) (Pb hb)
  |str _=>cases ry.str';exact flat rfl (Pb hb▸by simp)
  |_=>cases hb
 |int i=>
  cases rx.int';cases y with
  |non=>cases ry.non';exact flat rfl (Pb hb▸by simp)
  |bl j=>
   cases ry.bl';cases e2;obtain⟨t,rfl⟩:=e1;refine EqBoolInt.ne_int_bool ⟨.bl !b,H,I,?_,q⟩;show Value.bool (!(i == (if j then 1 else 0)))=Value.bool !b
   rw[dI];exact congrArg (λz=>Value.bool !z) (Pb hb)
  |int _=>cases ry.int';exact flat rfl (Pb hb▸by simp)
  |str _=>cases ry.str';exact flat rfl (Pb hb▸by simp)
  |_=>cases hb
 |str i=>
  cases rx.str';cases y with
  |non=>cases ry.non';exact flat rfl (Pb hb▸by simp)
  |bl _=>cases ry.bl';exact flat rfl (Pb hb▸by simp)
  |int _=>cases ry.int';exact flat rfl (Pb hb▸by simp)
  |str _=>cases ry.str';exact flat rfl (Pb hb▸by simp)
  |_=>cases hb
 |tup ds=>
  obtain⟨p,xs,rfl,hp,q1⟩:=rx.tup';cases e1;cases y with
  |tup es=>
   obtain⟨p',ys,rfl,hp',q2⟩:=ry.tup';cases e2;obtain⟨its,v1,t1,_⟩:=I.tuple (SqT.of hp);obtain⟨its2,v2,t2,_⟩:=I.tuple (SqT.of hp');have hb':Ev.eqL (Ev.eqD S 5) ds es=some b:=hb;obtain⟨ev,_⟩:=Xy hb';have n1:its.toArray.size=ds.length:=by rw[Pg,<-v1.length,q1.length]
   have n2:its2.toArray.size=es.length:=by rw[Pg,<-v2.length,q2.length]
   refine SeqAt.RcNeAt.tuples t1 t2 (by omega) (Vu I st hu q1 q2 v1 v2 hb') X.prog X.w X.xe _ ?_
   rw[n1,n2,ev];exact⟨.bl !b,H,I,rfl,q⟩
  |_=>cases hb
 |loc m=>
  obtain⟨p,rfl,hp⟩:=rx.loc';cases e1;cases y with
  |loc n=>
   obtain⟨p',rfl,hp'⟩:=ry.loc';cases e2;have h':(match Ev.Zj S m,Ev.Zj S n with
    |some xs,some ys=>if xs.length=ys.length then Ev.eqL (Ev.eqD S 5) xs ys else some false
    |_,_=>none)=some b:=hb
   cases a1:Ev.Zj S m with
   |none=>rw[a1] at h';cases h'
   |some ds=>
    cases a2:Ev.Zj S n with
    |none=>rw[a1,a2] at h';cases h'
    |some es=>
     rw[a1,a2] at h';obtain⟨s1,c1,xs,t1,u1,q1⟩:=st.lst a1;obtain⟨s2,c2,ys,t2,u2,q2⟩:=st.lst a2;rw[hp] at t1;cases t1;rw[hp'] at t2;cases t2;obtain⟨its,v1,p1,_⟩:=I.list (SqL.of u1);obtain⟨its2,v2,p2,_⟩:=I.list (SqL.of u2);have n1:its.toArray.size=ds.length:=by rw[Pg,<-v1.length,q1.length]
     have n2:its2.toArray.size=es.length:=by rw[Pg,<-v2.length,q2.length]
     have h2:(if ds.length=es.length then Ev.eqL (Ev.eqD S 5) ds es else some false)=some b:=h'
     by_cases hl:ds.length=es.length
     ·rw[Ph hl] at h2
      obtain⟨ev,_⟩:=Xy h2;have ev':(List.range ds.length).all (eAt (Ev.eqD S 5) ds es)=b:=by
       rw[<-ev,<-hl,Nat.min_self];simp
      refine SeqAt.RcNeAt.lists p1.isList p2.isList (by omega) (by omega) (Vu I st hu q1 q2 v1 v2 h2) X.prog X.w X.xe _ ?_
      rw[n1,ev'];exact⟨.bl !b,H,I,rfl,q⟩
     ·rw[Pj hl] at h2
      refine SeqAt.RcNeAt.lists_lengths p1.isList p2.isList (bne_iff_ne.mpr (by omega)) (by omega) X.prog X.w X.xe _ ?_
      exact⟨.bl !b,H,I,congrArg (λz=>Value.bool !z) (Pb h2),q⟩
  |_=>cases hb
end
section
variable {K:PySem.W.Frag}{ρ:List Addr}{H:Hp}{S:Zc}
theorem xA {f:D->D->Option Bool}(hf:∀x x' y v b b',Rep ρ H x v->Rep ρ H x' v->f x y=some b->f x' y=some b'->b=b') :
  ∀{ds ds' es:List D} {xs:List V} {b b':Bool},Rq ρ H ds xs->Rq ρ H ds' xs->Ev.eqL f ds es=some b->Ev.eqL f ds' es=some b'->b=b'
 |[],[],[],_,b,b',_,_,h,h'=>(Pb h).symm.trans (Pb h')
 |[],[],_::_,_,b,b',_,_,h,h'=>(Pb h).symm.trans (Pb h')
 |_::_,_::_,[],_,b,b',_,_,h,h'=>(Pb h).symm.trans (Pb h')
 |d::ds,d'::ds',e::es,_,b,b',r1,r2,h,h'=>by
  unfold Rq at r1 r2;obtain⟨v,vs,rfl,a1,b1⟩:=r1;obtain⟨v',vs',e',a2,b2⟩:=r2;cases e';unfold Ev.eqL at h h';cases q1:f d e with
  |none=>rw[q1] at h;cases h
  |some p=>
   cases q2:Ev.eqL f ds es with
   |none=>rw[q1,q2] at h;cases h
   |some q=>
    cases q3:f d' e with
    |none=>rw[q3] at h';cases h'
    |some p'=>
     cases q4:Ev.eqL f ds' es with
     |none=>rw[q3,q4] at h';cases h'
     |some q'=>
      rw[q1,q2] at h;rw[q3,q4] at h';have z1:(p&&q)=b:=Pb h;have z2:(p'&&q')=b':=Pb h';rw[<-z1,<-z2,hf d d' e v p p' a1 a2 q1 q3,xA hf b1 b2 q2 q4]
 |[],_::_,_,_,b,b',r1,r2,_,_=>by
  have l1:=r1.length;have l2:=r2.length;rw[l1] at l2;simp at l2
 |_::_,[],_,_,b,b',r1,r2,_,_=>by
  have l1:=r1.length;have l2:=r2.length;rw[l1] at l2;simp at l2
theorem x5 (st:St3 K ρ S H):∀(k:Nat) (x x' y:D) (v:V) (b b':Bool),Rep ρ H x v->Rep ρ H x' v->Ev.eqD S k x y=some b->Ev.eqD S k x' y=some b'->b=b'
 |0,_,_,_,_,_,_,_,_,h,_=>by cases h
 |k+1,x,x',y,v,b,b',r1,r2,h,h'=>by
  cases x with
  |non=>
   cases r1.non';cases x' with
   |non=>exact Pb (h.symm.trans h')
   |bl _=>cases r2.bl'
   |int _=>cases r2.int'
   |str _=>cases r2.str'
   |tup _=>obtain⟨_,_,z,_⟩:=r2.tup';cases z
   |loc _=>obtain⟨_,z,_⟩:=r2.loc';cases z
  |bl i=>
   cases r1.bl';cases x' with
   |bl j=>cases r2.bl';exact Pb (h.symm.trans h')
   |non=>cases r2.non'
   |int _=>cases r2.int'
   |str _=>cases r2.str'
   |tup _=>obtain⟨_,_,z,_⟩:=r2.tup';cases z
   |loc _=>obtain⟨_,z,_⟩:=r2.loc';cases z
  |int i=>
   cases r1.int';cases x' with
   |int j=>cases r2.int';exact Pb (h.symm.trans h')
   |non=>cases r2.non'
   |bl _=>cases r2.bl'
   |str _=>cases r2.str'
   |tup _=>obtain⟨_,_,z,_⟩:=r2.tup';cases z
   |loc _=>obtain⟨_,z,_⟩:=r2.loc';cases z
  |str i=>
   cases r1.str';cases x' with
   |str j=>cases r2.str';exact Pb (h.symm.trans h')
   |non=>cases r2.non'
   |bl _=>cases r2.bl'
   |int _=>cases r2.int'
   |tup _=>obtain⟨_,_,z,_⟩:=r2.tup';cases z
   |loc _=>obtain⟨_,z,_⟩:=r2.loc';cases z
  |tup ds=>
   obtain⟨p,xs,rfl,hp,q1⟩:=r1.tup';cases y with
   |tup es=>
    cases x' with
    |tup ds'=>
     obtain⟨p',xs',z,hp',q2⟩:=r2.tup';cases z;rw[hp] at hp';cases hp';exact xA (λx x' y v b b'=>x5 st k x x' y v b b') q1 q2 h h'
    |non=>cases r2.non'
    |bl _=>cases r2.bl'
    |int _=>cases r2.int'
    |str _=>cases r2.str'
    |loc _=>cases h'
   |_=>cases h
  |loc m=>
   obtain⟨p,rfl,hp⟩:=r1.loc';cases y with
   |loc n=>
    cases x' with
    |loc m'=>
     obtain⟨p',z,hp'⟩:=r2.loc';cases z;by_cases hm:m=m'
     ·subst hm
      exact Pb (h.symm.trans h')
     ·have one:∀{q:Nat} {b:Bool},Ev.eqD S (k+1) (.loc q) (.loc n)=some b->∃ds,Ev.Zj S q=some ds:=λ{q b} h=>by
       have h2:(match Ev.Zj S q,Ev.Zj S n with
        |some xs,some ys=>if xs.length=ys.length then Ev.eqL (Ev.eqD S k) xs ys else some false
        |_,_=>none)=some b:=h
       cases e1:Ev.Zj S q with
       |none=>rw[e1] at h2;cases h2
       |some ds=>exact⟨ds,rfl⟩
      obtain⟨ds,e1⟩:=one h;obtain⟨ds',e2⟩:=one h';rcases st.nd m m' p hp hp' hm with ⟨ns,z⟩ | ⟨ns,z⟩
      ·rw[(st.lst e1).1] at z;cases z
      ·rw[(st.lst e2).1] at z;cases z
    |non=>cases r2.non'
    |bl _=>cases r2.bl'
    |int _=>cases r2.int'
    |str _=>cases r2.str'
    |tup _=>cases h'
   |_=>cases h
theorem JS {x:D}:∀{ds:List D}{b:Bool},Ev.inL S x ds=some b->∀d∈ds,∃c,Ev.eqD S Ev.Zo d x=some c
 |[],_,_,d,hd=>by cases hd
 |y::ys,b,h,d,hd=>by
  unfold Ev.inL at h;cases q1:Ev.eqD S Ev.Zo y x with
  |none=>rw[q1] at h;cases h
  |some p=>
   cases q2:Ev.inL S x ys with
   |none=>rw[q1,q2] at h;cases h
   |some q=>
    rcases Po.mp hd with rfl | hd
    ·exact⟨p,q1⟩
    ·exact JS q2 d hd
theorem xV {x:D}:∀{ds:List D}{b:Bool},Ev.inL S x ds=some b->(ds.any λd=>(Ev.eqD S Ev.Zo d x).getD false)=b
 |[],_,h=>Pb h
 |y::ys,b,h=>by
  unfold Ev.inL at h;cases q1:Ev.eqD S Ev.Zo y x with
  |none=>rw[q1] at h;cases h
  |some p=>
   cases q2:Ev.inL S x ys with
   |none=>rw[q1,q2] at h;cases h
   |some q=>
    rw[q1,q2] at h;rw[List.any_cons,xV q2,q1,<-Pb h];rfl
end
section
variable {X:Cx}{pq:List (Addr×Obj)}{σ:L2.St}{H:Hp}{s:Shared}{ρ:List Addr}{S:Zc}
open Classical in
theorem Vy (I:Inv X pq σ H s) (st:St3 X.K ρ S H) {A:Around}{x:D}{ds:List D}{xs:List V}{its:List Value}{b:Bool}{v:V}{vv:Value}(hu:A.units+6<cLine) (rx:Rep ρ H x v) (ex:ZI v vv)
  (q:Rq ρ H ds xs) (vs:Vals xs its) (h:Ev.inL S x ds=some b):∃e:Value->Bool,(∀u,u∈its.toArray->SeqAt.EqAt A s u vv (e u))/\its.toArray.any e=b:=by
 refine⟨λu=>decide (∃d∈ds,∃w,Rep ρ H d w/\ZI w u/\Ev.eqD S Ev.Zo d x=some true),λu hu'=>?_,?_⟩
 ·have hu2:u∈its:=by simpa using hu'
  obtain⟨j,hj,e⟩:=NH hu2;have hl:j<ds.length:=by rw[<-q.length,vs.length];exact hj
  obtain⟨w,g,r⟩:=q.get (Pd hl);obtain⟨u',g',r'⟩:=vs.get g;have eu:u'=u:=by
   rw[Pd hj] at g';exact (Pb g').symm.trans e
  subst eu;obtain⟨c,hc⟩:=JS h ds[j] (Ny hl);have ec:decide (∃d∈ds,∃w,Rep ρ H d w/\ZI w u'/\Ev.eqD S Ev.Zo d x=some true)=c:=by
   cases c with
   |true=>exact PJ ⟨ds[j],Ny hl,w,r,r',hc⟩
   |false=>
    refine PX ?_
    rintro ⟨d,hd,w',a1,a2,a3⟩
    cases a2.inj r';exact absurd (x5 st 6 d ds[j] x w true false a1 r a3 hc) (by decide)
  dsimp only
  rw[ec];exact GI I st 6 A ds[j] x w v u' vv c hu r rx r' ex hc
 ·rw[<-xV h,List.any_toArray,Nf,List.any_eq_true,List.any_eq_true]
  constructor
  ·rintro ⟨u,hu1,h1⟩
   obtain⟨d,hd,w,a1,a2,a3⟩:=PF h1;exact⟨d,hd,by rw[a3];rfl⟩
  ·rintro ⟨d,hd,h1⟩
   obtain⟨j,hj,e⟩:=NH hd;subst e;obtain⟨w,g,r⟩:=q.get (Pd hj);obtain⟨u,g',r'⟩:=vs.get g;refine⟨u,N9 g',PJ ⟨ds[j],hd,w,r,r',?_⟩⟩;obtain⟨c,hc⟩:=JS h ds[j] hd;rw[hc] at h1 ⊢;exact congrArg some h1
end
section
variable {X:Cx}{xw:Nat->Hp->Prop}{C:Calls}{e a b c:Expr}{i j k:E}{pos p p':Pos}
theorem ZbZ (hu:X.A.units+7<cLine):OpR X (compareOp .In) (λv u H Q=>∃ρ S x ds b,St3 X.K ρ S H/\Rep ρ H x v/\(Rep ρ H (.tup ds) u\/∃n,Rep ρ H (.loc n) u/\S[n]? = some (.lst ds))/\Ev.inL S x ds=some b/\Q (.bl b) H):=by
 intro pq s σ H v u vv uu Q I e1 e2 h;obtain⟨ρ,S,x,ds,b,st,rx,ry,hb,q⟩:=h;rcases ry with ry | ⟨n,ry,hn⟩
 ·obtain⟨p,xs,rfl,hp,q1⟩:=ry.tup'
  cases e2;obtain⟨its,v1,t1,_⟩:=I.tuple (SqT.of hp);obtain⟨f,h1,h2⟩:=Vy I st (A:=X.A.in1) (YE hu) rx e1 q1 v1 hb;exact SeqAt.in_tupleAt f t1 h1 (by rw[h2];exact⟨.bl b,H,I,rfl,q⟩)
 ·obtain⟨p,rfl,hp⟩:=ry.loc'
  cases e2;obtain⟨p',hp',xs,hx,q1⟩:=st.at hn;rw[hp] at hp';cases hp';obtain⟨its,v1,t1,_⟩:=I.list (SqL.of hx);obtain⟨f,h1,h2⟩:=Vy I st (A:=X.A.in1) (YE hu) rx e1 q1 v1 hb;exact SeqAt.in_listAt f t1.isList h1 (by rw[h2];exact⟨.bl b,H,I,rfl,q⟩)
theorem j7 (hu:X.A.units+7<cLine):OpR X (compareOp .NotIn) (λv u H Q=>∃ρ S x ds b,St3 X.K ρ S H/\Rep ρ H x v/\(Rep ρ H (.tup ds) u\/∃n,Rep ρ H (.loc n) u/\S[n]? = some (.lst ds))/\Ev.inL S x ds=some b/\Q (.bl !b) H):=by
 intro pq s σ H v u vv uu Q I e1 e2 h;obtain⟨ρ,S,x,ds,b,st,rx,ry,hb,q⟩:=h;rcases ry with ry | ⟨n,ry,hn⟩
 ·obtain⟨p,xs,rfl,hp,q1⟩:=ry.tup'
  cases e2;obtain⟨its,v1,t1,_⟩:=I.tuple (SqT.of hp);obtain⟨f,h1,h2⟩:=Vy I st (A:=X.A.in1) (YE hu) rx e1 q1 v1 hb;exact SeqAt.notIn_tupleAt f t1 h1 (by rw[h2];exact⟨.bl !b,H,I,rfl,q⟩)
 ·obtain⟨p,rfl,hp⟩:=ry.loc'
  cases e2;obtain⟨p',hp',xs,hx,q1⟩:=st.at hn;rw[hp] at hp';cases hp';obtain⟨its,v1,t1,_⟩:=I.list (SqL.of hx);obtain⟨f,h1,h2⟩:=Vy I st (A:=X.A.in1) (YE hu) rx e1 q1 v1 hb;exact SeqAt.notIn_listAt f t1.isList h1 (by rw[h2];exact⟨.bl !b,H,I,rfl,q⟩)
variable {ρ:List Addr}{H:Hp}{S:Zc}{x y:D}{v u:V}{Q:VK}{K:PySem.W.Frag}
theorem ZcV (st:St3 K ρ S H) (rx:Rep ρ H x v) (ry:Rep ρ H y u) (h:End K xw Rep ρ H Q (Ev.YB .lt x y S)):rI0 (λi j=>.bl (decide (i<j))) v u H Q:=by
 cases x with
 |int i=>cases y with
  |int j=>exact⟨i,j,rx.int',ry.int',End.ok h st (Zr _)⟩
  |_=>exact False.elim h
 |_=>cases y <;> exact False.elim h
theorem Zc5 (st:St3 K ρ S H) (rx:Rep ρ H x v) (ry:Rep ρ H y u) (h:End K xw Rep ρ H Q (Ev.YB .le x y S)):rI0 (λi j=>.bl (decide (i<=j))) v u H Q:=by
 cases x with
 |int i=>cases y with
  |int j=>exact⟨i,j,rx.int',ry.int',End.ok h st (Zr _)⟩
  |_=>exact False.elim h
 |_=>cases y <;> exact False.elim h
theorem Xg (st:St3 K ρ S H) (rx:Rep ρ H x v) (ry:Rep ρ H y u) (h:End K xw Rep ρ H Q (Ev.YB .gt x y S)):rI0 (λi j=>.bl (decide (j<i))) v u H Q:=by
 cases x with
 |int i=>cases y with
  |int j=>exact⟨i,j,rx.int',ry.int',End.ok h st (Zr _)⟩
  |_=>exact False.elim h
 |_=>cases y <;> exact False.elim h
theorem ZcW (st:St3 K ρ S H) (rx:Rep ρ H x v) (ry:Rep ρ H y u) (h:End K xw Rep ρ H Q (Ev.YB .ge x y S)):rI0 (λi j=>.bl (decide (j<=i))) v u H Q:=by
 cases x with
 |int i=>cases y with
  |int j=>exact⟨i,j,rx.int',ry.int',End.ok h st (Zr _)⟩
  |_=>exact False.elim h
 |_=>cases y <;> exact False.elim h
end
section
variable {X:Cx}{xw:Nat->Hp->Prop}{C:Calls}{e a b c:Expr}{i j k:E}{pos p p':Pos}
theorem Yr {α β γ:Type}(r:R α) (f:α->Zc->R β) (g:β->Zc->R γ):(r.bind f).bind g=r.bind λa S=>(f a S).bind g:=by cases r <;> rfl
theorem UI {α β:Type}{o:Option α}{S S':Zc}{f:α->Zc->R β}{z:β}(h:(Ev.ob o S).bind f=.ok z S'):∃a,o=some a/\f a S=.ok z S':=by
 cases o with
 |none=>cases h
 |some a=>exact⟨a,rfl,h⟩
theorem G0 {o:Cop}{x y:D}{S S':Zc}{z:D}(h:Ev.YB o x y S=.ok z S'):∃b,z=.bl b:=by
 have fin:∀{n:Bool},R.ok (D.bl n) S=.ok z S'->∃b,z=.bl b:=λ{n} e=>by cases e;exact⟨n,rfl⟩
 cases o with
 |eq=>obtain⟨_,_,e⟩:=UI h;exact fin e
 |ne=>obtain⟨_,_,e⟩:=UI h;exact fin e
 |lt=>cases x <;> cases y <;> first | exact fin h | (obtain⟨_,_,e⟩:=UI h;obtain⟨_,_,e⟩:=UI e;exact fin e) | cases h
 |gt=>cases x <;> cases y <;> first | exact fin h | cases h
 |le=>cases x <;> cases y <;> first | exact fin h | cases h
 |ge=>cases x <;> cases y <;> first | exact fin h | cases h
 |is=>cases x <;> cases y <;> first | exact fin h | cases h
 |isn=>cases x <;> cases y <;> first | exact fin h | cases h
 |inn=>cases q:Ev.WU S x y with
  |ok b S1=>have h':((Ev.WU S x y).bind λb S=>R.ok (D.bl b) S)=.ok z S':=h;rw[q] at h';cases h';exact⟨b,rfl⟩
  |ex _ _=>have h':((Ev.WU S x y).bind λb S=>R.ok (D.bl b) S)=.ok z S':=h;rw[q] at h';cases h'
  |no=>have h':((Ev.WU S x y).bind λb S=>R.ok (D.bl b) S)=.ok z S':=h;rw[q] at h';cases h'
 |nin=>cases q:Ev.WU S x y with
  |ok b S1=>have h':((Ev.WU S x y).bind λb S=>R.ok (D.bl !b) S)=.ok z S':=h;rw[q] at h';cases h';exact⟨!b,rfl⟩
  |ex _ _=>have h':((Ev.WU S x y).bind λb S=>R.ok (D.bl !b) S)=.ok z S':=h;rw[q] at h';cases h'
  |no=>have h':((Ev.WU S x y).bind λb S=>R.ok (D.bl !b) S)=.ok z S':=h;rw[q] at h';cases h'
def Y0 (X:Cx) (xw:Nat->Hp->Prop) (op:CmpOp) (o:Cop):Prop:=OpR X (compareOp op) (jq X.K xw o)
theorem OpR.imp {X:Cx}{f:Value->Value->Sem Value}{r r':R2}(h:OpR X f r) (k:∀v u H Q,r' v u H Q->r v u H Q):OpR X f r':=λpq s σ H x y v u Q I e1 e2 q=>h pq s σ H x y v u Q I e1 e2 (k x y H Q q)
theorem qP (hu:X.A.units+7<cLine):Y0 X xw .Eq .eq:=ZcQ (by omega)
theorem ub (hu:X.A.units+7<cLine):Y0 X xw .NotEq .ne:=Zcb (by omega)
theorem wI (hu:X.A.units+7<cLine):Y0 X xw .Lt .lt:=OpR.imp Zc3 λv u H Q ⟨ρ,S,x,y,st,rx,ry,h⟩=>ZcV st rx ry h
theorem Ui (hu:X.A.units+7<cLine):Y0 X xw .LtE .le:=OpR.imp Zdm λv u H Q ⟨ρ,S,x,y,st,rx,ry,h⟩=>Zc5 st rx ry h
theorem uN (hu:X.A.units+7<cLine):Y0 X xw .Gt .gt:=OpR.imp ZdH λv u H Q ⟨ρ,S,x,y,st,rx,ry,h⟩=>Xg st rx ry h
theorem uo (hu:X.A.units+7<cLine):Y0 X xw .GtE .ge:=OpR.imp ZcT λv u H Q ⟨ρ,S,x,y,st,rx,ry,h⟩=>ZcW st rx ry h
theorem qh (hu:X.A.units+7<cLine):Y0 X xw .Is .is:=OpR.imp (ZcE.or ZbG) λv u H Q ⟨ρ,S,x,y,st,rx,ry,h⟩=>by
 cases y with
 |non=>
  refine .inl ⟨ry.non',?_⟩;have e:decide (x=D.non)=decide (v=V.non):=by
   cases x with
   |non=>rw[rx.non'];simp
   |bl _=>rw[rx.bl'];simp
   |int _=>rw[rx.int'];simp
   |str _=>rw[rx.str'];simp
   |tup _=>obtain⟨_,_,z,_⟩:=rx.tup';rw[z];simp
   |loc _=>obtain⟨_,z,_⟩:=rx.loc';rw[z];simp
  rw[<-e];have h':End X.K xw Rep ρ H Q (.ok (.bl (decide (x=.non))) S):=by cases x <;> exact h
  exact End.ok h' st (Zr _)
 |bl j=>cases x with
  |bl i=>exact .inr ⟨i,j,rx.bl',ry.bl',End.ok h st (Zr _)⟩
  |_=>exact False.elim h
 |_=>cases x <;> exact False.elim h
theorem yw (hu:X.A.units+7<cLine):Y0 X xw .IsNot .isn:=OpR.imp (ZaP.or jB) λv u H Q ⟨ρ,S,x,y,st,rx,ry,h⟩=>by
 cases y with
 |non=>
  refine .inl ⟨ry.non',?_⟩;have e:decide (x≠D.non) = !decide (v=V.non):=by
   cases x with
   |non=>rw[rx.non'];simp
   |bl _=>rw[rx.bl'];simp
   |int _=>rw[rx.int'];simp
   |str _=>rw[rx.str'];simp
   |tup _=>obtain⟨_,_,z,_⟩:=rx.tup';rw[z];simp
   |loc _=>obtain⟨_,z,_⟩:=rx.loc';rw[z];simp
  rw[<-e];have h':End X.K xw Rep ρ H Q (.ok (.bl (decide (x≠.non))) S):=by cases x <;> exact h
  exact End.ok h' st (Zr _)
 |bl j=>cases x with
  |bl i=>exact .inr ⟨i,j,rx.bl',ry.bl',End.ok h st (Zr _)⟩
  |_=>exact False.elim h
 |_=>cases x <;> exact False.elim h
theorem zY {ρ:List Addr}{S:Zc}{H:Hp}{x y:D}{u:V}(st:St3 X.K ρ S H) (ry:Rep ρ H y u) {f:Bool->Zc->R D}{Q:VK}(h:End X.K xw Rep ρ H Q ((Ev.WU S x y).bind f)) :
  (∃ds b,(Rep ρ H (.tup ds) u\/∃n,Rep ρ H (.loc n) u/\S[n]? = some (.lst ds))/\Ev.inL S x ds=some b/\End X.K xw Rep ρ H Q (f b S)):=by
 cases y with
 |tup ys=>
  obtain⟨b,hb,h1⟩:=End.ob (show End X.K xw Rep ρ H Q ((Ev.ob (Ev.inL S x ys) S).bind f) from h)
  exact⟨ys,b,.inl ry,hb,h1⟩
 |loc n=>
  have h':End X.K xw Rep ρ H Q ((Ev.Zb5 S x S[n]?).bind f):=h;cases q:S[n]? with
  |none=>rw[q] at h';exact False.elim h'
  |some o=>
   rw[q] at h';cases o with
   |lst ys=>
    obtain⟨b,hb,h1⟩:=End.ob (show End X.K xw Rep ρ H Q ((Ev.ob (Ev.inL S x ys) S).bind f) from h')
    exact⟨ys,b,.inr ⟨n,ry,q⟩,hb,h1⟩
   |_=>exact False.elim h'
 |_=>exact False.elim h
theorem YV {op:CmpOp}{o:Cop}(hc:Y0 X xw op o) (ha:CE X xw C a i) (hb:CE X xw C b j) (hm:behindInMarks op b=false:=by first | exact ZU _ | rfl | (with_unfolding_all rfl)):CE X xw C (.Compare a [op] [b] pos) (.cmp o i j):=
 PE.imp (xE hc ha hb hm) (Zcm)
theorem YU {op:CmpOp}{o:Cop}(hc:Y0 X xw op o) (ha:CE X xw C a i) (hb:CE X xw C b j) (hm:behindInMarks op b=false:=by first | exact ZU _ | rfl | (with_unfolding_all rfl)):CT X xw C (.Compare a [op] [b] pos) (.cmp o i j):=
 PT.imp (Zat hc ha hb hm) λσ H Q ⟨ρ,l,S,st,lr,h⟩=>by
  have h':End X.K xw XH ρ H Q (((ev C i l S).bind λx S=>(ev C j l S).bind λy S=>Ev.YB o x y S).bind λx S=>Ev.ob (Ev.ZM S x) S):=h
  simp only[Yr] at h';refine⟨ρ,l,S,st,lr,h'.bind λx S1 ρ1 H1 v f1 st1 r1 h1=>⟨ρ1,l,S1,st1,lr.mono f1,h1.bind λy S2 ρ2 H2 u f2 st2 r2 h2=>⟨ρ2,S2,x,y,st2,r1.mono f2,r2,?_⟩⟩⟩
  have h3:∀{r:R D},(∀z S',r=.ok z S'->∃b,z=.bl b)->End X.K xw XH ρ2 H2 Q (r.bind λx S=>Ev.ob (Ev.ZM S x) S)->End X.K xw Rep ρ2 H2 (λx H'=>∃k,x=V.bl k/\Q k H') r:=λ{r} hr h=>by
   cases r with
   |no=>exact h
   |ex _ _=>exact h
   |ok z S3=>
    obtain⟨b,rfl⟩:=hr z S3 rfl;exact λρ3 H3 w f3 st3 r3=>⟨b,r3.bl',h ρ3 H3 b f3 st3 rfl⟩
  exact h3 (λz S' e=>G0 e) h2
theorem VP {op op':CmpOp}{o o':Cop}{d:Expr}{k:E}(hc:Y0 X xw op o) (hc':Y0 X xw op' o') (ha:CE X xw C a i) (hb:CE X xw C b j) (hd:CE X xw C d k)
  (hm:lastMarks [op,op'] [b,d]=false:=by with_unfolding_all rfl):CE X xw C (.Compare a [op,op'] [b,d] pos) (.chain o o' i j k):=
 PE.imp (qt hc hc' ha hb hd hm) λσ H Q ⟨ρ,l,S,st,lr,h⟩=>by
  refine⟨ρ,l,S,st,lr,End.bind (show End X.K xw Rep ρ H Q ((ev C i l S).bind _) from h) λx S1 ρ1 H1 v f1 st1 r1 h1=>⟨ρ1,l,S1,st1,lr.mono f1,h1.bind λy S2 ρ2 H2 u f2 st2 r2 h2=>⟨ρ2,S2,x,y,st2,r1.mono f2,r2,h2.bind λz S3 ρ3 H3 w f3 st3 r3 h3=>?_⟩⟩⟩
  cases z with
  |bl n=>
   refine⟨n,r3.bl',?_⟩;cases n with
   |true=>exact⟨ρ3,l,S3,st3,((lr.mono f1).mono f2).mono f3,End.bind (show End X.K xw Rep ρ3 H3 Q ((ev C k l S3).bind _) from h3) λt S4 ρ4 H4 t' f4 st4 r4 h4=>⟨ρ4,S4,y,t,st4,(r2.mono f3).mono f4,r4,h4⟩⟩
   |false=>exact End.ok h3 st3 (Zr _)
  |_=>exact False.elim h3
end
section
variable {X:Cx}{xw:Nat->Hp->Prop}{C:Calls}{e a b c:Expr}{i j k:E}{pos p p' p2:Pos}
variable {ρ:List Addr}{H:Hp}{S:Zc}{x y:D}{v u:V}{Q:VK}{K:PySem.W.Frag}
theorem uU (hu:X.A.units+7<cLine):Y0 X xw .In .inn:=OpR.imp (ZbZ hu) λv u H Q ⟨ρ,S,x,y,st,rx,ry,h⟩=>by
 obtain⟨ds,b,hy,hb,h1⟩:=zY st ry (show End X.K xw Rep ρ H Q ((Ev.WU S x y).bind λb S=>.ok (.bl b) S) from h);exact⟨ρ,S,x,ds,b,st,rx,hy,hb,End.ok h1 st (Zr _)⟩
theorem yh (hu:X.A.units+7<cLine):Y0 X xw .NotIn .nin:=OpR.imp (j7 hu) λv u H Q ⟨ρ,S,x,y,st,rx,ry,h⟩=>by
 obtain⟨ds,b,hy,hb,h1⟩:=zY st ry (show End X.K xw Rep ρ H Q ((Ev.WU S x y).bind λb S=>.ok (.bl !b) S) from h);exact⟨ρ,S,x,ds,b,st,rx,hy,hb,End.ok h1 st (Zr _)⟩
theorem uy (ha:CE X xw C a i) (hb:CE X xw C b j) (hs:wm b:=by intro _ _;with_unfolding_all rfl):CE X xw C (.Subscript a b pos) (.ix i j):=PE.imp (Zdk (Zas.or ZcB) ha hb hs) (Wi λ{ρ H S x y v u Q} st rx ry h=>by
 cases x with
 |tup ds=>cases y with
  |int n=>
   obtain⟨p,xs,rfl,hp,r⟩:=rx.tup';have h':End X.K xw Rep ρ H Q (Ev.ob (Ev.at' ds n) S):=h;cases q:Ev.at' ds n with
   |none=>rw[q] at h';exact False.elim h'
   |some d=>
    rw[q] at h';unfold Ev.at' at q;cases q2:Ev.ixN ds.length n with
    |none=>rw[q2] at q;cases q
    |some m=>
     rw[q2] at q;obtain⟨w,g,rw'⟩:=r.get (show ds[m]? = some d from q)
     refine .inr ⟨p,xs,n,w,rfl,ry.int',SqT.of hp,?_,End.ok h' st rw'⟩;unfold atI;rw[r.length,show ixN ds.length n=some m from q2]
     exact g
  |_=>exact False.elim h
 |loc m=>cases y with
  |int n=>
   have h':End X.K xw Rep ρ H Q (match Ev.Z7 S m with
    |some xs=>Ev.ob (Ev.at' xs n) S
    |none=>.no):=h
   cases e1:Ev.Z7 S m with
   |none=>rw[e1] at h';exact False.elim h'
   |some ds=>
    rw[e1] at h';obtain⟨p,xs,q1,hp,r⟩:=st.seq e1;obtain⟨p',rfl,t⟩:=rx.loc';rw[q1] at t;cases t;have h2:End X.K xw Rep ρ H Q (Ev.ob (Ev.at' ds n) S):=h';cases q:Ev.at' ds n with
    |none=>rw[q] at h2;exact False.elim h2
    |some d=>
     rw[q] at h2;unfold Ev.at' at q;cases q2:Ev.ixN ds.length n with
     |none=>rw[q2] at q;cases q
     |some k=>
      rw[q2] at q;obtain⟨w,g,rw'⟩:=r.get (show ds[k]? = some d from q)
      refine .inl ⟨p,xs,n,w,rfl,ry.int',hp,?_,End.ok h2 st rw'⟩;unfold atI;rw[r.length,show ixN ds.length n=some k from q2]
      exact g
  |_=>exact False.elim h
 |_=>cases y <;> exact False.elim h)
theorem Gk:CO X xw C none none:=PO.imp Zae λσ H Q ⟨ρ,l,S,st,lr,h⟩=>End.ok (rep:=j0) h st rfl
theorem Gr (h:CE X xw C e i):CO X xw C (some e) (some i):=PO.imp (ZY h) λσ H Q ⟨ρ,l,S,st,lr,h⟩=>by
 refine⟨ρ,l,S,st,lr,End.bind (show End X.K xw j0 ρ H Q ((ev C i l S).bind _) from h) λx S1 ρ1 H1 v f1 st1 r1 h1=>?_⟩
 cases x with
 |int n=>exact⟨n,r1.int',End.ok (rep:=j0) h1 st1 rfl⟩
 |_=>exact False.elim h1
theorem JZ (n d:Nat) (o:Option Int):Ev.sIx n d o=HT.sIx n d o:=by
 cases o with
 |none=>rfl
 |some i=>first | rfl | (unfold Ev.sIx HT.sIx;rfl)
theorem wN {ds:List D}{xs:List V}(r:Rq ρ H ds xs) (lo hi:Option Int):Rq ρ H (Ev.cut ds lo hi) (Xk xs lo hi):=by
 unfold Ev.cut Xk;rw[JZ,JZ,r.length];exact (r.drop _).take _
theorem u5 {lo hi:Option Expr}{il ih:Option E}(ha:CE X xw C a i) (hl:CO X xw C lo il) (hh:CO X xw C hi ih):CE X xw C (.Subscript a (.Slice lo hi none p2) pos) (.sl i il ih):=
 PE.imp (u0 (ZbI.or (ud.or Zbf)) ha hl hh) λσ H Q ⟨ρ,l,S,st,lr,h⟩=>by
  refine⟨ρ,l,S,st,lr,End.bind (show End X.K xw Rep ρ H Q ((ev C i l S).bind _) from h) λx S1 ρ1 H1 v f1 st1 r1 h1=>⟨ρ1,l,S1,st1,lr.mono f1,h1.bind λy S2 ρ2 H2 u f2 st2 r2 h2=>⟨ρ2,l,S2,st2,(lr.mono f1).mono f2,h2.bind λz S3 ρ3 H3 w f3 st3 r3 h3=>?_⟩⟩⟩
  have e1:y=u:=r2;have e2:z=w:=r3;subst e1 e2;have r0:=(r1.mono f2).mono f3;cases x with
  |tup ds=>
   obtain⟨p,xs,rfl,hp,r⟩:=r0.tup';have h':End X.K xw Rep ρ3 H3 Q (.ok (.tup (Ev.cut ds y z)) S3):=h3;by_cases hw:HT.sIx xs.length 0 y=0/\HT.sIx xs.length xs.length z=xs.length
   ·refine .inr (.inl ⟨p,xs,rfl,SqT.of hp,hw,End.ok h' st3 ?_⟩)
    have ew:Ev.cut ds y z=ds:=by
     unfold Ev.cut;rw[JZ,JZ,<-r.length,hw.1,hw.2,KW,Nat.sub_zero,r.length,List.take_length]
    rw[ew];exact ZQ hp r
   ·exact .inl ⟨p,xs,rfl,SqT.of hp,hw,h'.newT st3 (wN r y z)⟩
  |loc n=>
   have h':End X.K xw Rep ρ3 H3 Q (match Ev.Zj S3 n with
    |some xs=>.ok (.loc S3.length) (S3++[.lst (Ev.cut xs y z)])
    |none=>.no):=h3
   cases e1:Ev.Zj S3 n with
   |none=>rw[e1] at h';exact False.elim h'
   |some ds=>
    rw[e1] at h';obtain⟨_,p,xs,q1,hp,r⟩:=st3.lst e1;obtain⟨p',rfl,t⟩:=r0.loc';rw[q1] at t;cases t;exact .inr (.inr ⟨p,xs,rfl,SqL.of hp,End.newL h' st3 (wN r y z)⟩)
  |_=>exact False.elim h3
noncomputable def UT (K:PySem.W.Frag) (xw:Nat->Hp->Prop) (f:Bf):List V->Hp->VK->Prop:=λvs H Q=>∃ρ S ds,St3 K ρ S H/\Rq ρ H ds vs/\End K xw Rep ρ H Q (Ev.YQ f ds S)
theorem ZO.imp {X:Cx}{f:Value}{r r':List V->Hp->VK->Prop}(h:ZO X f r) (k:∀vs H Q,r' vs H Q->r vs H Q):ZO X f r':=λpq s σ H xs us Q I e q=>h pq s σ H xs us Q I e (k xs H Q q)
theorem u7 {f:Bf}{is:List E}:∀σ H Q,tE X xw (ev C (.blt f is)) σ H Q->tCB (UT X.K xw f) (tA X xw (evs C is)) σ H Q:=λσ H Q ⟨ρ,l,S,st,lr,h⟩=>
 ⟨ρ,l,S,st,lr,End.bind (show End X.K xw Rep ρ H Q ((evs C is l S).bind _) from h) λxs S1 ρ1 H1 vs f1 st1 r1 h1=>⟨ρ1,S1,xs,st1,r1,h1⟩⟩
theorem YZ {d:D}{vs:List V}(r:Rq ρ H [d] vs):∃v,vs=[v]/\Rep ρ H d v:=by
 unfold Rq at r;obtain⟨v,ws,rfl,a1,b1⟩:=r;unfold Rq at b1;exact⟨v,by rw[b1],a1⟩
theorem Js {d e:D}{vs:List V}(r:Rq ρ H [d,e] vs):∃v w,vs=[v,w]/\Rep ρ H d v/\Rep ρ H e w:=by
 unfold Rq at r;obtain⟨v,ws,rfl,a1,b1⟩:=r;obtain⟨w,rfl,b2⟩:=YZ b1;exact⟨v,w,rfl,a1,b2⟩
theorem Jm (st:St3 K ρ S H) (rx:Rep ρ H x v) {ds:List D}(h:Ev.Xu S x=some ds):∃p xs,v=.ref p/\(SqL K H p xs\/SqT K H p xs)/\Rq ρ H ds xs:=by
 cases x with
 |tup es=>
  cases h;obtain⟨p,xs,rfl,hp,r⟩:=rx.tup';exact⟨p,xs,rfl,.inr (SqT.of hp),r⟩
 |loc n=>
  obtain⟨p,rfl,hp⟩:=rx.loc';obtain⟨p',xs,q1,hx,r⟩:=st.seq (show Ev.Z7 S n=some ds from h)
  rw[hp] at q1;cases q1;exact⟨p,xs,rfl,.inl hx,r⟩
 |_=>cases h
theorem xH:ZO X (.builtin "len") (UT X.K xw .len):=ZO.imp GF λvs H Q ⟨ρ,S,ds,st,r,h⟩=>by
 cases ds with
 |nil=>exact False.elim h
 |cons d ds=>cases ds with
  |cons _ _=>exact False.elim h
  |nil=>
   obtain⟨v,rfl,rv⟩:=YZ r;obtain⟨xs,hx,h1⟩:=End.ob (show End X.K xw Rep ρ H Q ((Ev.ob (Ev.Xu S d) S).bind λxs S=>.ok (.int xs.length) S) from h)
   obtain⟨p,ys,rfl,hq,r2⟩:=Jm st rv hx;refine⟨p,ys,rfl,hq,?_⟩;rw[r2.length];exact End.ok h1 st (Zp _)
theorem ZbL:∀(as:List D) (S:Zc),(∃a b,as=[.int a,.int b])\/Ev.YQ .max2 as S=.no
 |[.int a,.int b],_=>.inl ⟨a,b,rfl⟩
 |[],_=>.inr rfl
 |[x],_=>.inr (by cases x <;> rfl)
 |x::y::_::_,_=>.inr (by cases x <;> first | rfl | (cases y <;> rfl))
 |[.non,_],_ | [.bl _,_],_ | [.str _,_],_ | [.tup _,_],_ | [.loc _,_],_=>.inr rfl
 |[.int _,.non],_ | [.int _,.bl _],_ | [.int _,.str _],_ | [.int _,.tup _],_ | [.int _,.loc _],_=>.inr rfl
theorem Zcg:∀(as:List D) (S:Zc),(∃a b,as=[.int a,.int b])\/Ev.YQ .min2 as S=.no
 |[.int a,.int b],_=>.inl ⟨a,b,rfl⟩
 |[],_=>.inr rfl
 |[x],_=>.inr (by cases x <;> rfl)
 |x::y::_::_,_=>.inr (by cases x <;> first | rfl | (cases y <;> rfl))
 |[.non,_],_ | [.bl _,_],_ | [.str _,_],_ | [.tup _,_],_ | [.loc _,_],_=>.inr rfl
 |[.int _,.non],_ | [.int _,.bl _],_ | [.int _,.str _],_ | [.int _,.tup _],_ | [.int _,.loc _],_=>.inr rfl
theorem ZcN:∀(as:List D) (S:Zc),(∃a,as=[.int a])\/(∃b,as=[.bl b])\/Ev.YQ .toInt as S=.no
 |[.int a],_=>.inl ⟨a,rfl⟩
 |[.bl b],_=>.inr (.inl ⟨b,rfl⟩)
 |x::_::_,_=>.inr (.inr (by cases x <;> rfl))
 |[],_ | [.non],_ | [.str _],_ | [.tup _],_ | [.loc _],_=>.inr (.inr rfl)
theorem qE:∀(as:List D) (S:Zc),(∃a,as=[.tup a])\/(∃b,as=[.loc b])\/Ev.YQ .tuple as S=.no
 |[.tup a],_=>.inl ⟨a,rfl⟩
 |[.loc b],_=>.inr (.inl ⟨b,rfl⟩)
 |x::_::_,_=>.inr (.inr (by cases x <;> rfl))
 |[],_ | [.non],_ | [.str _],_ | [.bl _],_ | [.int _],_=>.inr (.inr rfl)
theorem Zay:∀(as:List D) (S:Zc),(∃a,as=[a])\/Ev.YQ .list as S=.no
 |[a],_=>.inl ⟨a,rfl⟩
 |[],_=>.inr rfl
 |x::_::_,_=>.inr (by cases x <;> rfl)
theorem ZbQ:∀(as:List D) (S:Zc),(∃b,as=[.loc b])\/Ev.YQ .all as S=.no
 |[.loc b],_=>.inl ⟨b,rfl⟩
 |x::_::_,_=>.inr (by cases x <;> rfl)
 |[],_ | [.non],_ | [.str _],_ | [.bl _],_ | [.int _],_ | [.tup _],_=>.inr rfl
theorem wK (hc:X.calm=true):ZO X (.builtin "max") (UT X.K xw .max2):=ZO.imp (vh hc) λvs H Q ⟨ρ,S,ds,st,r,h⟩=>by
 rcases ZbL ds S with ⟨m,n,rfl⟩ | e
 ·obtain⟨v,w,rfl,r1,r2⟩:=Js r
  exact⟨m,n,by rw[r1.int',r2.int'],End.ok h st (Zp _)⟩
 ·rw[e] at h;exact h.elim
theorem wq (hc:X.calm=true):ZO X (.builtin "min") (UT X.K xw .min2):=ZO.imp (vV hc) λvs H Q ⟨ρ,S,ds,st,r,h⟩=>by
 rcases Zcg ds S with ⟨m,n,rfl⟩ | e
 ·obtain⟨v,w,rfl,r1,r2⟩:=Js r
  exact⟨m,n,by rw[r1.int',r2.int'],End.ok h st (Zp _)⟩
 ·rw[e] at h;exact h.elim
theorem wE:ZO X (.type "int") (UT X.K xw .toInt):=ZO.imp vt λvs H Q ⟨ρ,S,ds,st,r,h⟩=>by
 rcases ZcN ds S with ⟨m,rfl⟩ | ⟨m,rfl⟩ | e
 ·obtain⟨v,rfl,r1⟩:=YZ r
  exact .inl ⟨m,by rw[r1.int'],End.ok h st (Zp _)⟩
 ·obtain⟨v,rfl,r1⟩:=YZ r
  exact .inr ⟨m,by rw[r1.bl'],End.ok h st (Zp _)⟩
 ·rw[e] at h;exact h.elim
theorem QZ:ZO X (.type "tuple") (UT X.K xw .tuple):=ZO.imp QR λvs H Q ⟨ρ,S,ds,st,r,h⟩=>by
 rcases qE ds S with ⟨es,rfl⟩ | ⟨n,rfl⟩ | e
 ·obtain⟨v,rfl,r1⟩:=YZ r
  obtain⟨p,xs,rfl,hp,r2⟩:=r1.tup';exact⟨p,xs,rfl,.inr ⟨SqT.of hp,End.ok h st r1⟩⟩
 ·obtain⟨v,rfl,r1⟩:=YZ r
  obtain⟨xs,hx,h1⟩:=End.ob (show End X.K xw Rep ρ H Q ((Ev.ob (Ev.Zj S n) S).bind λxs S=>.ok (.tup xs) S) from h)
  obtain⟨_,p,ys,q1,hp,r2⟩:=st.lst hx;obtain⟨p',rfl,t⟩:=r1.loc';rw[q1] at t;cases t;exact⟨p,ys,rfl,.inl ⟨SqL.of hp,h1.newT st r2⟩⟩
 ·rw[e] at h;exact h.elim
theorem zU:ZO X (.type "list") (UT X.K xw .list):=ZO.imp JE λvs H Q ⟨ρ,S,ds,st,r,h⟩=>by
 rcases Zay ds S with ⟨d,rfl⟩ | e
 case inr=>rw[e] at h;exact h.elim
 case inl=>
  obtain⟨v,rfl,r1⟩:=YZ r;obtain⟨xs,hx,h1⟩:=End.ob (show End X.K xw Rep ρ H Q ((Ev.ob (Ev.Xu S d) S).bind λxs S=>.ok (.loc S.length) (S++[.lst xs])) from h)
  obtain⟨p,ys,rfl,hq,r2⟩:=Jm st r1 hx;exact⟨p,ys,rfl,hq,h1.newL st r2⟩
theorem X9 {f:Bf}{id:String}{x:Str}{es:List Expr}{is:List E}(hc:ZO X (.builtin id) (UT X.K xw f)) (hm:X.mg x=none) (ha:CA X xw C (e::es) is) (hg:Gl X x:=by rfl) (hv:bootBuiltins x=some (.builtin id):=by rfl) (hn:x≠"__name__":=by decide) (hdb:(x == ("__debug__" : Str))=false:=by decide)
  (he:starEach (e::es) X.env=(false,eval e X.env)::starEach es X.env:=by rfl) (hpl:(backTo pos (starEach es X.env)).any (·.1)=false:=by rfl):CE X xw C (.Call (.Name x p) (e::es) [] pos) (.blt f is):=
 PE.imp (Qq hc hg hm hv ha hn hdb he hpl) u7
theorem VA {f:Bf}{id:String}{x:Str}{es:List Expr}{is:List E}(hc:ZO X (.type id) (UT X.K xw f)) (hm:X.mg x=none) (ha:CA X xw C (e::es) is) (hg:Gl X x:=by rfl) (hv:bootBuiltins x=some (.type id):=by rfl) (hn:x≠"__name__":=by decide) (hdb:(x == ("__debug__" : Str))=false:=by decide)
  (he:starEach (e::es) X.env=(false,eval e X.env)::starEach es X.env:=by rfl) (hpl:(backTo pos (starEach es X.env)).any (·.1)=false:=by rfl):CE X xw C (.Call (.Name x p) (e::es) [] pos) (.blt f is):=
 PE.imp (vK hc hg hm hv ha hn hdb he hpl) u7
end
section
variable {X:Cx}{xw:Nat->Hp->Prop}{C:Calls}{e a b c:Expr}{i j k:E}{pos p p' p2:Pos}
theorem Qy:∀{ds:List D}{bs:List Bool},Ev.YW ds=some bs->bs.length=ds.length/\∀j d,ds[j]? = some d->Ev.U3 d=some (bs.getD j false)
 |[],bs,h=>by cases h;exact⟨rfl,λj d e=>by simp at e⟩
 |d::ds,bs,h=>by
  unfold Ev.YW at h;cases q1:Ev.U3 d with
  |none=>rw[q1] at h;cases h
  |some b=>
   cases q2:Ev.YW ds with
   |none=>rw[q1,q2] at h;cases h
   |some cs=>
    rw[q1,q2] at h;cases h;obtain⟨l,ih⟩:=Qy q2;refine⟨by rw[PC,PC,l],λj d' e=>?_⟩
    cases j with
    |zero=>simp at e;subst e;simpa using q1
    |succ j=>simpa using ih j d' (by simpa using e)
theorem vC (bs:List Bool):(List.range bs.length).all (λj=>bs.getD j false)=bs.all id:=by
 rw[Nf,Pw,Pw]
 constructor
 ·intro h b hb
  obtain⟨j,hj,e⟩:=NH hb;have:=h j (PH.mpr hj)
  simpa [Pd hj,e] using this
 ·intro h j hj
  have hj':=PH.mp hj
  simpa [Pd hj'] using h bs[j] (Ny hj')
theorem Gw {prog:Program}{w:World}{A:Around}{ρ:List Addr}{H:Hp}{d:D}{v:V}{u:Value}{n:Bool}(r:Rep ρ H d v) (e:ZI v u) (h:Ev.U3 d=some n) (s:Shared) (Q:Bool->Shared->Prop) (E:Value->Shared->Prop) (q:Q n s) :
  wpAny (model prog w) A (truthy u) Q E s:=by
 cases d with
 |non=>cases r.non';cases e;cases h;exact truthy_none q
 |bl b=>cases r.bl';cases e;cases h;exact NC q
 |int m=>
  cases r.int';obtain⟨t,rfl⟩:=e;have h':decide (m≠0)=n:=Pb h;refine PySem.P.truthy_int ?_;have:(m != 0)=n:=by
   rw[<-h'];by_cases z:m=0
   ·subst z;rfl
   ·rw[PJ z];exact bne_iff_ne.mpr z
  rw[this];exact q
 |_=>cases h
theorem wW (hc:X.calm=true):ZO X (.builtin "all") (λvs H Q=>∃ρ S ds n bs,St3 X.K ρ S H/\Rq ρ H [.loc n] vs/\Ev.Zj S n=some ds/\Ev.YW ds=some bs/\Q (.bl (bs.all id)) H):=by
 intro pq s σ H vs us Q I r h;obtain⟨ρ,S,ds,n,bs,st,rs,hl,hb,q⟩:=h;obtain⟨v,rfl,r1⟩:=YZ rs;obtain⟨_,p,xs,q1,hx,rx⟩:=st.lst hl;obtain⟨p',rfl,t⟩:=r1.loc';rw[q1] at t;cases t;obtain⟨u,rfl,ru⟩:=Uo r;cases ru;obtain⟨its,rv,pl,hz⟩:=I.list (SqL.of hx);obtain⟨lb,tb⟩:=Qy hb;have hlt:p<s.heap.objs.size:=by obtain⟨_,e,_⟩:=pl.isList;exact Pz e
 have hlen:its.toArray.size=bs.length:=by rw[Pg,<-rv.length,rx.length,lb]
 refine call_all_walk (KF pl.isList ⟨s.heap.objs.size,[s.heap.objs.size,p],[s.heap.objs.size],its.toArray.size,(λi v=>its.toArray[i]? = some v),(λi h=>h.IsListIter s.heap.objs.size p i/\h.IsList p its.toArray),λj=>bs.getD j false,rfl,Walks.list (A:=X.A.in1) (show X.A.in1.handled=none from I.ok.hd hc) s.heap.objs.size p (P3 hlt) its.toArray,⟨⟨_,Pq _ rfl,rfl,rfl⟩,pl.isList.push _⟩,?_,?_⟩)
 ·intro j v s' Q' E' hv hQ'
  have hj:its[j]? = some v:=by simpa using hv
  have jl:j<ds.length:=by
   have:=(Pr.mp hj).1;rw[<-rv.length,rx.length] at this;exact this
  obtain⟨w',g,r'⟩:=rx.get (Pd jl);obtain⟨u',g',ru'⟩:=rv.get g;rw[hj] at g';cases g';exact Gw r' ru' (tb j _ (Pd jl)) s' Q' E' hQ'
 ·intro h' tk hk
  rw[hlen,vC];have kp:∀b o,s.heap.get? b=some o->h'.get? b=some o:=λb o e=>hk b o (λhm=>by
   have:b=s.heap.objs.size:=by simpa using hm
   exact absurd (this▸Pz e) (P2 _)) (Pf _ e)
  exact⟨.bl (bs.all id),H,I.kept (t':=tk) kp,rfl,q⟩
theorem wc (hc:X.calm=true):ZO X (.builtin "all") (UT X.K xw .all):=ZO.imp (wW hc) λvs H Q ⟨ρ,S,ds,st,r,h⟩=>by
 rcases ZbQ ds S with ⟨n,rfl⟩ | e
 case inr=>rw[e] at h;exact h.elim
 case inl=>
  obtain⟨xs,hx,h1⟩:=End.ob (show End X.K xw Rep ρ H Q ((Ev.ob (Ev.Zj S n) S).bind λxs S=>(Ev.ob (Ev.YW xs) S).bind λbs S=>.ok (.bl (bs.all id)) S) from h)
  obtain⟨bs,hb,h2⟩:=End.ob h1;exact⟨ρ,S,xs,n,bs,st,r,hx,hb,End.ok h2 st (Zr _)⟩
noncomputable def ZK:Ty->String
 |.int=>"int" | .bool=>"bool" | .str=>"str" | .tuple=>"tuple" | .list=>"list" | .dict=>"dict" | .cls _=>""
theorem yS {K:PySem.W.Frag}{ρ:List Addr}{S:Zc}{H:Hp}{x:D}{v:V}{t:Ty}{n:Bool}(st:St3 K ρ S H) (rx:Rep ρ H x v) (ht:∀m,t≠.cls m) (h:Ev.G8 S x t=some n) :
  ∃tv,TyOf K H v tv/\PySem.W.kitOne K tv (.type (ZK t))=some n:=by
 cases x with
 |non=>rw[rx.non'];refine⟨_,.non,?_⟩;cases h;cases t <;> first | rfl | exact absurd rfl (ht _)
 |bl b=>rw[rx.bl'];refine⟨_,.bl b,?_⟩;cases h;cases t <;> first | rfl | exact absurd rfl (ht _)
 |int b=>rw[rx.int'];refine⟨_,.int b,?_⟩;cases h;cases t <;> first | rfl | exact absurd rfl (ht _)
 |str b=>rw[rx.str'];refine⟨_,.str b,?_⟩;cases h;cases t <;> first | rfl | exact absurd rfl (ht _)
 |tup ds=>
  obtain⟨p,xs,rfl,hp,_⟩:=rx.tup';refine⟨_,.tup hp,?_⟩;cases h;cases t <;> first | rfl | exact absurd rfl (ht _)
 |loc m=>
  obtain⟨p,rfl,hp⟩:=rx.loc';have h':(match S[m]? with
   |some (.lst _)=>some (decide (t=.list))
   |_=>none)=some n:=h
  cases q:S[m]? with
  |none=>rw[q] at h';cases h'
  |some o=>
   rw[q] at h';obtain⟨p',hp',ro⟩:=st.at q;rw[hp] at hp';cases hp';cases o with
   |lst xs=>obtain⟨ys,e,_⟩:=ro;refine⟨_,.lst e,?_⟩;cases h';cases t <;> first | rfl | exact absurd rfl (ht _)
   |_=>cases h'
theorem qj (T:String):ZO X (.builtin "isinstance") (λvs H Q=>∃v tv n,vs=[v,.ty T]/\TyOf X.K H v tv/\PySem.W.kitOne X.K tv (.type T)=some n/\Q (.bl n) H):=by
 intro pq s σ H vs us Q I r h;obtain⟨v,tv,n,rfl,ty,e,q⟩:=h;obtain⟨u,w',rfl,r1,r2⟩:=G1 r;cases r2;exact vE I r1 ty e λtk=>⟨.bl n,H,I.tok tk,rfl,q⟩
theorem Ue {T:Str}{t:Ty}(ht:∀m,t≠.cls m) (hm:X.mg "isinstance" = none) (hmT:X.mg T=none) (ha:CE X xw C a i) (hg:Gl X "isinstance":=by rfl) (hgT:Gl X T:=by rfl) (hvT:bootBuiltins T=some (.type (ZK t)):=by rfl) (hnT:T≠"__name__":=by decide) (hdT:(T == ("__debug__" : Str))=false:=by decide)
  (hs1:starEach [a,.Name T p2] X.env=(false,eval a X.env)::starEach [.Name T p2] X.env:=by rfl) (hs2:starEach [.Name T p2] X.env=(false,eval (.Name T p2) X.env)::starEach [] X.env:=by rfl) (hpl:(backTo pos (starEach [.Name T p2] X.env)).any (·.1)=false:=by rfl) :
  CE X xw C (.Call (.Name "isinstance" p) [a,.Name T p2] [] pos) (.isi i [t]):=
 PE.imp (Qq (qj (ZK t)) hg hm (by rfl) (X3 ha (X3 (J2 (v:=.ty (ZK t)) hgT hmT hvT rfl hnT hdT) J9 hs2) hs1) (by decide) (by decide) hs1 hpl) λσ H Q ⟨ρ,l,S,st,lr,h⟩=>by
  refine⟨ρ,l,S,st,lr,End.bind (show End X.K xw Rep ρ H Q ((ev C i l S).bind _) from h) λx S1 ρ1 H1 v f1 st1 r1 h1=>?_⟩
  obtain⟨n,hn,h2⟩:=End.ob h1;have hn':Ev.G8 S1 x t=some n:=by
   unfold Ev.Qu at hn;cases q:Ev.G8 S1 x t with
   |none=>rw[q] at hn;cases hn
   |some m=>rw[q] at hn;cases m <;> exact hn
  obtain⟨tv,ty,e⟩:=yS st1 r1 ht hn';exact⟨v,tv,n,rfl,ty,e,End.ok h2 st1 (Zr _)⟩
def jW (P:Program) (w:World) (K:PySem.W.Frag) (a:Addr) (tab:List (Int×Int)):Prop:=(a == sysModules)=false/\∃f:Int->Option Value,(∀h:Heap,K.In h->h.MapOf (intKind P w) a f)/\∀k,(tab.lookup k=none->f k=none)/\∀j,tab.lookup k=some j->∃t,f k=some (.int j t)
theorem Wd (i:Int):∀tab:List (Int×Int),(tab.map (·.1)).contains i=(tab.lookup i).isSome
 |[]=>rfl
 |(k,v)::r=>by
  rw[PP,Kx,Wd i r,P9];cases h:(i == k) <;> simp
theorem qz {tb:Addr}{tab:List (Int×Int)}(T:jW X.prog X.w X.K tb tab):OpR X (compareOp .In) (λv u H Q=>∃n,v=.int n/\u=.ref tb/\Q (.bl ((tab.map (·.1)).contains n)) H):=by
 intro pq s σ H v u vv uu Q I e1 e2 h;obtain⟨n,rfl,rfl,q⟩:=h;obtain⟨t,rfl⟩:=e1;cases e2;obtain⟨h1,f,hf,hk⟩:=T;refine wpAny_in_of (knd:=intKind X.prog X.w) (k:=n) (intKind_is _ _ _ _) h1 (hf s.heap I.kIn) ?_;refine⟨.bl _,H,I.tok _,?_,q⟩;show Value.bool (f n).isSome=Value.bool _;rw[Wd];cases e:tab.lookup n with
 |none=>rw[(hk n).1 e];rfl
 |some j=>obtain⟨t',z⟩:=(hk n).2 j e;rw[z];rfl
theorem Zcq {tb:Addr}{tab:List (Int×Int)}{x:Str}(T:jW X.prog X.w X.K tb tab) (hm:X.mg x=some (.ref tb)) (ha:CE X xw C a i) (hg:Gl X x:=by rfl) (hd:(x == ("__debug__" : Str))=false:=by decide) (hmk:behindInMarks .In (.Name x p)=false:=by first | rfl | (with_unfolding_all rfl)) :
  CE X xw C (.Compare a [.In] [.Name x p] pos) (.inT i tab):=PE.imp (xE (qz T) ha (xS (v:=.ref tb) hg hm rfl hd) hmk) λσ H Q ⟨ρ,l,S,st,lr,h⟩=>by
 refine⟨ρ,l,S,st,lr,End.bind (show End X.K xw Rep ρ H Q ((ev C i l S).bind _) from h) λx S1 ρ1 H1 v f1 st1 r1 h1=>?_⟩
 cases x with
 |int n=>exact⟨n,r1.int',rfl,End.ok h1 st1 (Zr _)⟩
 |_=>exact False.elim h1
theorem VY {o:Expr}{io:E}{apos cpos:Pos}(ho:CE X xw C o io) (ha:CA X xw C [e] [i])
  (hbase:attributeBase o "append" X.env (eval o X.env)=eval o X.env:=by rfl)
  (hfew:((backTo cpos (starEach [e] X.env)).all (λx=>!x.1)&&(backToKw cpos (keywordEach [] X.env)).all (λx=>x.1.isSome)
   && decide (([e]:List Expr).length+([]:List Keyword).length+(if ([]:List Keyword).isEmpty then 0 else 1)<30))=true:=by rfl)
  (hline:(apos.endLine == cpos.line)=true:=by rfl) (hs:starEach [e] X.env=(false,eval e X.env)::starEach [] X.env:=by rfl) (hplain:(backTo cpos (starEach [] X.env)).any (·.1)=false:=by rfl) :
  CE X xw C (.Call (.Attribute o "append" apos) [e] [] cpos) (.mt .append io [i]):=
 PE.imp (Zbn PySem.F.plainAttrs_list PySem.F.slot_list_append PySem.F.type_list_append Jn ho ha hbase hfew hline hs hplain) λσ H Q ⟨ρ,l,S,st,lr,h⟩=>by
  have h':End X.K xw Rep ρ H Q ((ev C io l S).bind λx S=>if Ev.Qg S x=true then (evs C [i] l S).bind λxs S=>Ev.W9 .append x xs S else .no):=h
  refine⟨ρ,l,S,st,lr,h'.bind λx S1 ρ1 H1 v f1 st1 r1 h1=>?_⟩
  obtain⟨hl,h1⟩:=h1.guard;cases x with
  |loc n=>
   obtain⟨p,rfl,hp⟩:=r1.loc';obtain⟨ds,hds⟩:=NP.mp (show (Ev.Zj S1 n).isSome=true from hl)
   obtain⟨_,p',xs,q1,hx,_⟩:=st1.lst hds;rw[hp] at q1;cases q1;refine⟨.inl ⟨rfl,xs,SqL.of hx⟩,ρ1,l,S1,st1,lr.mono f1,h1.bind λys S2 ρ2 H2 vs f2 st2 r2 h2=>?_⟩
   match ys,r2,h2 with
   |[y],r2,h2=>
    obtain⟨w,rfl,rw'⟩:=YZ r2;obtain⟨zs,hz,h3⟩:=End.ob (show End X.K xw Rep ρ2 H2 Q ((Ev.ob (Ev.Zj S2 n) S2).bind λxs S=>if xs.length<Ev.lim then .ok .non (S.set n (.lst (xs++[y]))) else .no) from h2)
    obtain⟨hlen,h4⟩:=h3.guard;obtain⟨sn,p2,zs',q2,hz2,rz⟩:=st2.lst hz;rw[f2.at hp] at q2;cases q2;refine⟨p,zs',w,rfl,rfl,hz2,by rw[rz.length,<-Ww];exact hlen,?_⟩
    exact h4 ρ2 _ .non (YI hz2) (st2.wr (f2.at hp) sn hz2 (rz.append (Rq.cons rw' Rq.nil))) WC
   |[],r2,h2=>exact False.elim h2
   |_::_::_,r2,h2=>exact False.elim h2
  |_=>exact absurd hl (by simp[Ev.Qg])
def spF (K:PySem.W.Frag) (C:Calls) (n:Nat):Sp:=λvs H Q _=>∃ρ ds S,St3 K ρ S H/\Rq ρ H ds vs/\End K (λ_ _=>False) Rep ρ H Q (C n ds S)
theorem ZaE {n kk:Nat}{f:Addr}{fd:FuncData}{ps:List Str}{x:Str}{es:List Expr}{is:List E}(F:FnOk X.prog X.w X.K X.mg X.base CX0 kk f fd ps (spF X.K C n)) (hr:Room kk X.A) (hm:X.mg x=some (.ref f)) (hk:PySem.W.keepIn X.K (.ref f)=true) (hb:QG X.K fd ps [])
  (ha:CA X (λ_ _=>False) C (e::es) is) (hg:Gl X x:=by rfl) (hdb:(x == ("__debug__" : Str))=false:=by decide) (he:starEach (e::es) X.env=(false,eval e X.env)::starEach es X.env:=by rfl) (hpl:(backTo pos (starEach es X.env)).any (·.1)=false:=by rfl) :
  CE X (λ_ _=>False) C (.Call (.Name x p) (e::es) [] pos) (.call n is):=
 PE.imp (Zaz F hr hg hm hk hb .nil Zdc ha hdb he hpl) λσ H Q ⟨ρ,l,S,st,lr,h⟩=>
  ⟨ρ,l,S,st,lr,End.bind (show End X.K (λ_ _=>False) Rep ρ H Q ((evs C is l S).bind _) from h) λxs S1 ρ1 H1 vs f1 st1 r1 h1=>by
   rw[N7];exact⟨ρ1,xs,S1,st1,r1,h1⟩⟩
end
def Zy (K:PySem.W.Frag) (xw:Nat->Hp->Prop) (ρ:List Addr) (H:Hp) (D:Ends):R Fl->Prop
 |.ok (.nx l) S=>∀ρ' H' σ',Fut ρ H ρ' H'->St3 K ρ' S H'->LocR ρ' H' l σ'->D.nx σ' H'
 |.ok (.brk l) S=>∀ρ' H' σ',Fut ρ H ρ' H'->St3 K ρ' S H'->LocR ρ' H' l σ'->D.bk σ' H'
 |.ok (.cnt l) S=>∀ρ' H' σ',Fut ρ H ρ' H'->St3 K ρ' S H'->LocR ρ' H' l σ'->D.ct σ' H'
 |.ok (.ret d) S=>∀ρ' H' v,Fut ρ H ρ' H'->St3 K ρ' S H'->Rep ρ' H' d v->D.rt v H'
 |.ex c S=>∀ρ' H',Fut ρ H ρ' H'->St3 K ρ' S H'->xw c H'
 |.no=>False
section
variable {K:PySem.W.Frag}{xw:Nat->Hp->Prop}{ρ ρ':List Addr}{H H':Hp}{α β:Type}{rep:List Addr->Hp->α->β->Prop}{D:Ends}
theorem Zy.mono {r:R Fl}(f:Fut ρ H ρ' H') (h:Zy K xw ρ H D r):Zy K xw ρ' H' D r:=by
 cases r with
 |ok fl S=>
  cases fl with
  |nx l=>exact λρ2 H2 σ g=>h ρ2 H2 σ (f.trans g)
  |brk l=>exact λρ2 H2 σ g=>h ρ2 H2 σ (f.trans g)
  |cnt l=>exact λρ2 H2 σ g=>h ρ2 H2 σ (f.trans g)
  |ret d=>exact λρ2 H2 v g=>h ρ2 H2 v (f.trans g)
 |ex c S=>exact λρ2 H2 g=>h ρ2 H2 (f.trans g)
 |no=>exact h
theorem Zy.bind {r:R α}{f:α->Zc->R Fl}{Q1:β->Hp->Prop}(h:Zy K xw ρ H D (r.bind f))
  (k:∀d S ρ1 H1 v,Fut ρ H ρ1 H1->St3 K ρ1 S H1->rep ρ1 H1 d v->Zy K xw ρ1 H1 D (f d S)->Q1 v H1):End K xw rep ρ H Q1 r:=by
 cases r with
 |ok d S=>exact λρ1 H1 v g st r=>k d S ρ1 H1 v g st r (Zy.mono g h)
 |ex c S=>exact h
 |no=>exact h
theorem Zy.ob {o:Option α}{S:Zc}{f:α->Zc->R Fl}(h:Zy K xw ρ H D ((Ev.ob o S).bind f)):∃a,o=some a/\Zy K xw ρ H D (f a S):=by
 cases o with
 |none=>exact h.elim
 |some a=>exact⟨a,rfl,h⟩
theorem Zy.nx {l:Lc}{S:Zc}{σ:L2.St}(h:Zy K xw ρ H D (.ok (.nx l) S)) (st:St3 K ρ S H) (lr:LocR ρ H l σ):D.nx σ H:=h ρ H σ (Fut.refl ρ H) st lr
end
section
variable (X:Cx) (xw:Nat->Hp->Prop)
def tS3 (f:Lc->Zc->R Fl):TS:=λD σ H=>∃ρ l S,St3 X.K ρ S H/\LocR ρ H l σ/\Zy X.K xw ρ H D (f l S)
variable (C:Calls)
def CS (st:Stmt) (s:Sm):Prop:=PS X st (tS3 X xw (run C s))
def CSs (st:List Stmt) (s:List Sm):Prop:=PSs X st (tS3 X xw (runs C s))
def tG3 (t:List Nat):TG:=λv σ H Q=>∃ρ l S d l',St3 X.K ρ S H/\LocR ρ H l σ/\Rep ρ H d v/\Ev.assign t d S l=some l'/\∀σ',LocR ρ H l' σ'->Q σ' H
def CG (tg:Expr) (t:List Nat):Prop:=PG X tg (tG3 X t)
def Zea (t:List Nat):TGs:=λvs σ H Q=>∃ρ l ds l',LocR ρ H l σ/\Rq ρ H ds vs/\Ev.fill t ds l=some l'/\∀σ',LocR ρ H l' σ'->Q σ' H
def CGs (tgs:List Expr) (t:List Nat):Prop:=PGs X tgs (Zea t)
end
theorem PS.imp {X:Cx}{e:Stmt}{t t':TS}(h:PS X e t) (k:∀D σ H,t' D σ H->t D σ H):PS X e t':=λpq s σ H D I q=>h pq s σ H D I (k D σ H q)
theorem PSs.imp {X:Cx}{e:List Stmt}{t t':TS}(h:PSs X e t) (k:∀D σ H,t' D σ H->t D σ H):PSs X e t':=λpq s σ H D I q=>h pq s σ H D I (k D σ H q)
theorem PG.imp {X:Cx}{e:Expr}{t t':TG}(h:PG X e t) (k:∀v σ H Q,t' v σ H Q->t v σ H Q):PG X e t':=λpq s σ H v u Q I r q=>h pq s σ H v u Q I r (k v σ H Q q)
theorem PGs.imp {X:Cx}{e:List Expr}{t t':TGs}(h:PGs X e t) (k:∀v σ H Q,t' v σ H Q->t v σ H Q):PGs X e t':=λpq s σ H v u Q I r q=>h pq s σ H v u Q I r (k v σ H Q q)
section
variable {X:Cx}{xw:Nat->Hp->Prop}{C:Calls}{e a b c:Expr}{i j k:E}{pos p p' p2:Pos}{s0:Stmt}{ss:List Stmt}{m0:Sm}{ms ms':List Sm}
theorem yx:CSs X xw C [] []:=PSs.imp jZ λD σ H ⟨ρ,l,S,st,lr,h⟩=>Zy.nx h st lr
theorem GJ (h1:CS X xw C s0 m0) (h2:CSs X xw C ss ms):CSs X xw C (s0::ss) (m0::ms):=PSs.imp (uC h1 h2) λD σ H ⟨ρ,l,S,st,lr,h⟩=>by
 refine⟨ρ,l,S,st,lr,?_⟩;have h':Zy X.K xw ρ H D ((run C m0 l S).bind λf S=>match f with | .nx σ=>runs C ms σ S | f=>.ok f S):=h
 cases q:run C m0 l S with
 |no=>rw[q] at h';exact h'
 |ex c S1=>rw[q] at h';exact h'
 |ok fl S1=>
  rw[q] at h';cases fl with
  |nx l1=>exact λρ1 H1 σ1 f1 st1 lr1=>⟨ρ1,l1,S1,st1,lr1,Zy.mono f1 h'⟩
  |brk l1=>exact h'
  |cnt l1=>exact h'
  |ret d=>exact h'
theorem y9 (he:CE X xw C e i):CS X xw C (.Return (some e) pos) (.ret i):=PS.imp (ZcR he) λD σ H ⟨ρ,l,S,st,lr,h⟩=>
 ⟨ρ,l,S,st,lr,Zy.bind (show Zy X.K xw ρ H D ((ev C i l S).bind λx S=>.ok (.ret x) S) from h) λx S1 ρ1 H1 v f1 st1 r1 h1=>h1 ρ1 H1 v (Fut.refl _ _) st1 r1⟩
theorem JJ (he:CE X xw C e i) (hs:swapsWith e none pos.line X.env=pure false:=by rfl):CS X xw C (.Expr e pos) (.ex i):=PS.imp (ZaH he hs) λD σ H ⟨ρ,l,S,st,lr,h⟩=>
 ⟨ρ,l,S,st,lr,Zy.bind (show Zy X.K xw ρ H D ((ev C i l S).bind λ_ S=>.ok (.nx l) S) from h) λx S1 ρ1 H1 v f1 st1 r1 h1=>Zy.nx h1 st1 (lr.mono f1)⟩
theorem qZ {sa sb:List Stmt}(hc:CT X xw C c k) (ha:CSs X xw C sa ms) (hb:CSs X xw C sb ms'):CS X xw C (.If c sa sb pos) (.ite k ms ms'):=PS.imp (Zc0 hc ha hb) λD σ H ⟨ρ,l,S,st,lr,h⟩=>
 ⟨ρ,l,S,st,lr,Zy.bind (show Zy X.K xw ρ H D ((tst C k l S).bind λc S=>if c then runs C ms l S else runs C ms' l S) from h) λx S1 ρ1 H1 v f1 st1 r1 h1=>by
  have e1:x=v:=r1;subst e1;cases x with
  |true=>exact⟨ρ1,l,S1,st1,lr.mono f1,h1⟩
  |false=>exact⟨ρ1,l,S1,st1,lr.mono f1,h1⟩⟩
theorem JM {n:Nat}{x:Str}(hN:X.N.Nodup) (hi:X.N[n]? = some x:=by rfl) (hx:L2.Loc X.env.scope x:=by first | exact Or.inl rfl | exact Or.inr rfl) (hf:X.fn x=true\/X.env.scope.names.lookup x=some .local:=by first | exact .inl rfl | exact .inr rfl):CG X (.Name x pos) [n]:=
 PG.imp (UF hN hi hx hf) λv σ H Q ⟨ρ,l,S,d,l',st,lr,r,ha,q⟩=>by
  have e:l.set n (some d)=l':=Pb ha;exact q _ (by rw[<-e];exact lr.set n r)
theorem J0:CGs X [] []:=PGs.imp Zaf λvs σ H Q ⟨ρ,l,ds,l',lr,r,hf,q⟩=>by
 cases ds with
 |nil=>
  unfold Rq at r;cases hf;exact⟨r,q σ lr⟩
 |cons _ _=>cases hf
theorem QA {tgs:List Expr}{n:Nat}{t:List Nat}{x:Str}(hN:X.N.Nodup) (h2:CGs X tgs t) (hi:X.N[n]? = some x:=by rfl) (hx:L2.Loc X.env.scope x:=by first | exact Or.inl rfl | exact Or.inr rfl) (hf:X.fn x=true\/X.env.scope.names.lookup x=some .local:=by first | exact .inl rfl | exact .inr rfl)
  (hs:(assignEach (.Name x pos::tgs) X.env).map (·.2)=PySem.assign (.Name x pos) X.env::(assignEach tgs X.env).map (·.2):=by rfl):CGs X (.Name x pos::tgs) (n::t):=
 PGs.imp (qS (UF hN hi hx hf) h2 hs) λvs σ H Q ⟨ρ,l,ds,l',lr,r,hf,q⟩=>by
  cases ds with
  |nil=>cases hf
  |cons d ds=>
   unfold Rq at r;obtain⟨v,ws,rfl,r1,r2⟩:=r;exact⟨v,ws,rfl,ρ,l.set n (some d),ds,l',lr.set n r1,r2,hf,q⟩
theorem Qo:∀{t:List Nat}{ds:List D}{l l':Lc},Ev.fill t ds l=some l'->ds.length=t.length
 |[],[],_,_,_=>rfl
 |[],_::_,_,_,h=>by cases h
 |_::_,[],_,_,h=>by cases h
 |n::t,d::ds,l,l',h=>by rw[PC,PC,Qo (t:=t) (ds:=ds) h]
theorem Jk {prog:Program}{w:World}{A:Around}{E:Value->Shared->Prop}{it t:Addr}{items:Array Value}(hne:t≠it):∀(n i:Nat) (s:Shared) (Q:List Value->Shared->Prop),s.heap.IsListIter it t i->s.heap.IsList t items->i+n<=items.size->
  (∀h',Heap.IsListIter h' it t (i+n)->Heap.SameBut it s.heap h'->Q ((items.toList.drop i).take n) { s with heap:=h' })->wpAny (model prog w) A (draw (.ref it) n) Q E s
 |0,i,s,Q,hit,_,_,hQ=>by
  show wpAny _ _ (pure []) Q E s;exact Pi (by simpa using hQ s.heap hit (Heap.SameBut.refl ..))
 |n+1,i,s,Q,hit,ht,hle,hQ=>by
  have hlt:i<items.size:=by omega
  show wpAny _ _ (pyNext (.ref it) >>= _) Q E s;refine Pa (wpAny_pyNext_list_item hit ht (x:=items[i]) (by simp[hlt]) λh₁ hit₁ hs₁=>?_)
  refine Pa (Nn (Jk hne n (i+1) _ _ hit₁ (ht.extBut hs₁.extBut hne) (by omega) λh₂ hit₂ hs₂=>Pi ?_))
  have hd:items.toList.drop i=items[i]::items.toList.drop (i+1):=by simp[NL,hlt]
  have:=hQ h₂ (by rw[show i+(n+1)=i+1+n by omega];exact hit₂) (hs₁.trans hs₂)
  rw[hd,List.take_succ_cons] at this;exact this
theorem zj {prog:Program}{w:World}{A:Around}{E:Value->Shared->Prop}{s:Shared}{env:Env}{elts:List Expr}{x1}{pos:Pos}{t:Addr}{items:Array Value}{Q:Unit->Shared->Prop}(hh:A.handled=none) (ht:s.heap.IsList t items)
  (hn:(assignEach elts env).length=items.size) (hstar:(assignEach elts env).findIdx? (·.1)=none)
  (h:∀h',Heap.ExtBut s.heap.objs.size s.heap h'->wpAny (model prog w) A (assignInOrder ((assignEach elts env).map (·.2)) items.toList) Q E { s with heap:=h' }) :
  wpAny (model prog w) A (PySem.assign (.Tuple elts x1 pos) env (.ref t)) Q E s:=by
 rw[assign_Tuple];refine Pa (NS ?_);have hlt:t≠s.heap.objs.size:=by obtain⟨o,ho,_⟩:=ht;exact P3 (Pz ho)
 unfold unpack;rw[hn,hstar];refine Pa (Nn ?_);unfold unpackItems;refine Pa ?_;unfold notIterableAtAll;refine Pa (wpAny_specialOf ht.typeIs slot_list_iter.lookup ?_);refine Pi ?_;simp only[Np,ND];refine Pa (Nn (KF ht ?_));refine Pa (Nn (Jk hlt items.size 0 _ _ ⟨_,Pq _ rfl,rfl,rfl⟩ (ht.push _) (by omega) λh₁ hit₁ hs₁=>?_))
 have hall:List.take items.size (List.drop 0 items.toList)=items.toList:=by
  rw[KW];exact KG (by simp)
 rw[hall];rw[Pj (by simp)]
 have ht₁:h₁.IsList t items:=(ht.push _).extBut hs₁.extBut hlt;refine Pa (Nn (wpAny_pyNext_list_end hh hit₁ ht₁ (by simp) λh₂ he₂=>?_))
 simp only[Option.isSome_none,Np,ND];exact Pi (h h₂ λb o hb e=>he₂ b o hb (hs₁.extBut b o hb (Pf _ e)))
def gTL (K:PySem.W.Frag) (n:Nat) (t:TGs):TG:=λv σ H Q=>∃a xs,v=.ref a/\(SqT K H a xs\/H a=some (.lst xs))/\xs.length=n/\t xs σ H Q
theorem Zdg {X:Cx}{pos:Pos}{es:List Expr}{k:Nat}{t:TGs}{n:Nat}(hc:X.calm=true) (h:PGs X es t)
  (hn:(assignEach es X.env).length=n:=by rfl) (hst:(assignEach es X.env).findIdx? (·.1)=none:=by rfl):PG X (.Tuple es k pos) (gTL X.K n t):=by
 intro pq s σ H v u Q I r hw;obtain⟨a,xs,e1,hq | hq,hl,hw⟩:=hw
 ·exact ZcD hc h hn hst pq s σ H v u Q I r ⟨a,xs,e1,hq,hl,hw⟩
 ·subst e1
  cases r;obtain⟨its,rv,pl,hz⟩:=I.list (SqL.of hq);refine zj (I.ok.hd hc) pl.isList (by simp[hn,<-hl,rv.length]) hst λh' hx=>?_
  have I1:Inv X pq σ H { s with heap:=h' }:=I.kept (t':=s.toks) λb o e=>hx b o (P3 (Pz e)) e
  exact h pq _ σ H xs _ Q I1 (by simpa using rv) hw
theorem yd {tgs:List Expr}{q2:Nat}{n m:Nat}{r:List Nat}(hc:X.calm=true) (h:CGs X tgs (n::m::r)) (hn:(assignEach tgs X.env).length=(n::m::r).length:=by rfl) (hst:(assignEach tgs X.env).findIdx? (·.1)=none:=by rfl):CG X (.Tuple tgs q2 pos) (n::m::r):=
 PG.imp (Zdg hc h hn hst) λv σ H Q ⟨ρ,l,S,d,l',st,lr,rd,ha,q⟩=>by
  cases d with
  |tup ds=>
   have hf:Ev.fill (n::m::r) ds l=some l':=ha;obtain⟨p,xs,rfl,hp,rs⟩:=rd.tup';exact⟨p,xs,rfl,.inl (SqT.of hp),by rw[rs.length];exact Qo hf,ρ,l,ds,l',lr,rs,hf,q⟩
  |loc k=>
   have ha':(match Ev.Zj S k with
    |some xs=>Ev.fill (n::m::r) xs l
    |none=>none)=some l':=ha
   cases e1:Ev.Zj S k with
   |none=>rw[e1] at ha';cases ha'
   |some ds=>
    rw[e1] at ha';have hf:Ev.fill (n::m::r) ds l=some l':=ha';obtain⟨_,p,xs,q1,hp,r1⟩:=st.lst e1;obtain⟨p',rfl,t1⟩:=rd.loc';rw[q1] at t1;cases t1;exact⟨p,xs,rfl,.inr hp,by rw[r1.length];exact Qo hf,ρ,l,ds,l',lr,r1,hf,q⟩
  |_=>cases ha
theorem yg {tg:Expr}{t:List Nat}(he:CE X xw C e i) (hg:CG X tg t) (hs:swapsWithSole [tg] e pos.line X.env=pure false:=by rfl) (hw:swappedStores [tg] e X.env=pure none:=by rfl)
  (h1:(assignEach [tg] X.env).map (·.2)=[PySem.assign tg X.env]:=by rfl):CS X xw C (.Assign [tg] e pos) (.asg t i):=PS.imp (qI he hg hs hw h1) λD σ H ⟨ρ,l,S,st,lr,h⟩=>
 ⟨ρ,l,S,st,lr,Zy.bind (show Zy X.K xw ρ H D ((ev C i l S).bind λx S=>(Ev.ob (Ev.assign t x S l) S).bind λσ S=>.ok (.nx σ) S) from h) λx S1 ρ1 H1 v f1 st1 r1 h1=>by
  obtain⟨l',hl',h2⟩:=Zy.ob h1;exact⟨ρ1,l,S1,x,l',st1,lr.mono f1,r1,hl',λσ' lr'=>Zy.nx h2 st1 lr'⟩⟩
theorem yM {o ix:Expr}{io ii:E}(ho:CE X xw C o io) (hi:CE X xw C ix ii) (he:CE X xw C e i)
  (ha:∀v,PySem.assign (.Subscript o ix p) X.env v=(do
   let ov <-holding [v] (eval o X.env)
   let iv <-holding [v,ov] (eval ix X.env)
   standAt p
   holding [v,ov,iv] (setItem ov iv v)
   release [v,ov,iv] []):=by intro _;rfl) (hs:swapsWithSole [.Subscript o ix p] e pos.line X.env=pure false:=by rfl) (hw:swappedStores [.Subscript o ix p] e X.env=pure none:=by rfl)
  (h1:(assignEach [.Subscript o ix p] X.env).map (·.2)=[PySem.assign (.Subscript o ix p) X.env]:=by rfl):CS X xw C (.Assign [.Subscript o ix p] e pos) (.put io ii i):=
 PS.imp (qI he (ZbJ ho hi (uJ (X:=X)) ha) hs hw h1) λD σ H ⟨ρ,l,S,st,lr,h⟩=>
 ⟨ρ,l,S,st,lr,Zy.bind (show Zy X.K xw ρ H D ((ev C i l S).bind λv S=>(ev C io l S).bind λx S=>(ev C ii l S).bind λy S=>(Ev.Qe x y v S).bind λ_ S=>.ok (.nx l) S) from h) λx S1 ρ1 H1 v f1 st1 r1 h1=>
  ⟨ρ1,l,S1,st1,lr.mono f1,h1.bind λy S2 ρ2 H2 u f2 st2 r2 h2=>⟨ρ2,l,S2,st2,(lr.mono f1).mono f2,h2.bind λz S3 ρ3 H3 w f3 st3 r3 h3=>by
   cases y with
   |loc n=>cases z with
    |int m=>
     obtain⟨pa,rfl,hp⟩:=(r2.mono f3).loc';have h4:Zy X.K xw ρ3 H3 D ((match S3[n]? with
      |some (.lst xs)=>(Ev.ob (Ev.ixN xs.length m) S3).bind λj S=>.ok () (S.set n (.lst (xs.set j x)))
      |_=>.no).bind λ_ S=>.ok (.nx l) S):=h3
     cases q:S3[n]? with
     |none=>rw[q] at h4;exact False.elim h4
     |some ob=>
      rw[q] at h4;cases ob with
      |lst xs=>
       have h5:Zy X.K xw ρ3 H3 D (((Ev.ob (Ev.ixN xs.length m) S3).bind λj S=>R.ok () (S.set n (.lst (xs.set j x)))).bind λ_ S=>.ok (.nx l) S):=h4
       cases hj:Ev.ixN xs.length m with
       |none=>rw[hj] at h5;exact False.elim h5
       |some jj=>
        rw[hj] at h5;obtain⟨pb,hp',ys,hy,ry⟩:=st3.at q;rw[hp] at hp';cases hp';refine⟨pa,ys,m,jj,rfl,r3.int',hy,by rw[ry.length];exact hj,?_⟩
        have rx:=(r1.mono f2).mono f3;exact h5 ρ3 _ σ (YI hy) (st3.wr hp q hy (Rq.set rx jj ry)) ((((lr.mono f1).mono f2).mono f3).mono (YI hy))
      |_=>exact False.elim h4
    |_=>exact False.elim h3
   |_=>exact False.elim h3⟩⟩⟩
end
structure WRel (K:PySem.W.Frag) (ρ:List Addr) (H:Hp) (w:Walk) (J:It):Prop where
 go:∀(i:Nat) ρ' S' H',Fut ρ H ρ' H'->St3 K ρ' S' H'->w.still S'=true->i<w.items.length->J.go i H'/\∀x H'',J.yld i H' x H''->Fut ρ' H' ρ' H''/\St3 K ρ' S' H''/\∀d,w.items[i]? = some d->Rep ρ' H'' d x
 stop:∀ρ' S' H',Fut ρ H ρ' H'->St3 K ρ' S' H'->w.still S'=true->J.stop w.items.length H'
section
variable (X:Cx) (xw:Nat->Hp->Prop)
def tW3 (f:Lc->Zc->R Walk):TI:=λσ H Q=>∃ρ l S,St3 X.K ρ S H/\LocR ρ H l σ/\End X.K xw (WRel X.K) ρ H Q (f l S)
def CW (C:Calls) (tg it:Expr) (w:Ev.W):Prop:=PI X tg it (tW3 X xw (evw C w))
end
theorem PI.imp {X:Cx}{tg it:Expr}{t t':TI}(h:PI X tg it t) (k:∀σ H Q,t' σ H Q->t σ H Q):PI X tg it t':=λpq s σ H R I q=>h pq s σ H R I (k σ H R q)
section
variable {X:Cx}{xw:Nat->Hp->Prop}{C:Calls}{e a b c tg it:Expr}{i j k:E}{pos p p' p2:Pos}
def ZdP (K:PySem.W.Frag) (tl:TE):TI:=λσ H R=>tl σ H λx H1=>∃a,x=.ref a/\(((∃xs,SqL K H1 a xs)/\R (Itl K a) H1)\/((∃xs,SqT K H1 a xs)/\R (Itt K a) H1))
theorem ZcO {l:Expr}{tl:TE}(hl:PE X l tl):PI X tg l (ZdP X.K tl):=by
 intro pq s σ H R I h;refine thn (hl pq s σ H _ I h) λv s1 ⟨x,H1,I1,r1,a,e,q⟩=>?_
 subst e;cases r1;rcases q with ⟨⟨xs,hq⟩,q⟩ | ⟨⟨xs,hq⟩,q⟩
 ·obtain⟨its,rv,p,hz⟩:=I1.list hq
  refine KF p.isList ?_;refine⟨s1.heap.objs.size,[s1.heap.objs.size],_,_,H1,rfl,I1.kept (t':=s1.toks) λb o e=>Pf _ e,ve a _,⟨_,Pq _ rfl,rfl,rfl⟩,λb hb=>?_,q⟩
  have e:b=s1.heap.objs.size:=by simpa using hb
  subst e;exact I1.fpOk (Pk _) (I1.hok.fresh (Pk _))
 ·obtain⟨its,rv,p,hz⟩:=I1.tuple hq
  refine Ky (show s1.heap.IsTuple a its.toArray from p) ?_
  refine⟨s1.heap.objs.size,[s1.heap.objs.size],_,_,H1,rfl,I1.kept (t':=s1.toks) λb o e=>Pf _ e,yH a _,⟨_,Pq _ rfl,rfl,rfl⟩,λb hb=>?_,q⟩
  have e:b=s1.heap.objs.size:=by simpa using hb
  subst e;exact I1.fpOk (Pk _) (I1.hok.fresh (Pk _))
theorem uk {K:PySem.W.Frag}{ρ:List Addr}{H:Hp}{ds:List D}{a:Addr}{xs:List V}(hp:H a=some (.tup xs)) (r:Rq ρ H ds xs):WRel K ρ H ⟨ds,[]⟩ (Itt K a) where
 go:=λi ρ' S' H' f st _ hi=>by
  have hi':i<ds.length:=hi;obtain⟨v,g,_⟩:=(r.mono f).get (Pd hi');refine⟨⟨xs,v,SqT.of (f.tup a xs hp),g⟩,λx H'' y=>?_⟩
  obtain⟨rfl,y⟩:=y;refine⟨Fut.refl _ _,st,λd hd=>?_⟩
  obtain⟨v',g',r'⟩:=(r.mono f).get hd;have:=y xs (SqT.of (f.tup a xs hp));rw[g'] at this;cases this;exact r'
 stop:=λρ' S' H' f st _=>⟨xs,SqT.of (f.tup a xs hp),by show xs.length<=ds.length;rw[r.length];exact Pk _⟩
theorem jy {K:PySem.W.Frag}{ρ:List Addr}{H:Hp}{ds:List D}{a:Addr}{n:Nat}(hp:ρ[n]? = some a):WRel K ρ H ⟨ds,[(n,ds)]⟩ (Itl K a) where
 go:=λi ρ' S' H' f st hs hi=>by
  have hn:S'[n]? = some (.lst ds):=by simpa [Walk.still] using hs
  obtain⟨a',ha,xs,hx,r⟩:=st.at hn;rw[f.at hp] at ha;cases ha;have hi':i<ds.length:=hi;obtain⟨v,g,_⟩:=r.get (Pd hi');refine⟨⟨xs,v,SqL.of hx,g⟩,λx H'' y=>?_⟩
  obtain⟨rfl,y⟩:=y;refine⟨Fut.refl _ _,st,λd hd=>?_⟩
  obtain⟨v',g',r'⟩:=r.get hd;have:=y xs (SqL.of hx);rw[g'] at this;cases this;exact r'
 stop:=λρ' S' H' f st hs=>by
  have hn:S'[n]? = some (.lst ds):=by simpa [Walk.still] using hs
  obtain⟨a',ha,xs,hx,r⟩:=st.at hn;rw[f.at hp] at ha;cases ha;exact⟨xs,SqL.of hx,by show xs.length<=ds.length;rw[r.length];exact Pk _⟩
theorem G9 {lo:Int}{n i:Nat}(h:i<n):(Ev.Zq lo n)[i]? = some (.int (lo+i)):=by
 unfold Ev.Zq;rw[PM,Kc h];rfl
theorem WP (lo:Int) (n:Nat):(Ev.Zq lo n).length=n:=by unfold Ev.Zq;rw[Pl,PU]
theorem zW {K:PySem.W.Frag}{ρ:List Addr}{H:Hp}{lo:Int}{n:Nat}:WRel K ρ H ⟨Ev.Zq lo n,[]⟩ (Itr lo n) where
 go:=λi ρ' S' H' f st _ hi=>by
  have hi':i<n:=by simpa [WP] using hi
  refine⟨hi',λx H'' y=>?_⟩
  obtain⟨rfl,rfl⟩:=y;refine⟨Fut.refl _ _,st,λd hd=>?_⟩
  have hd':(Ev.Zq lo n)[i]? = some d:=hd;rw[G9 hi'] at hd';cases hd';exact Zp _
 stop:=λρ' S' H' f st _=>by
  show n<=(Ev.Zq lo n).length;rw[WP];exact Pk _
theorem qi (he:CE X xw C e i):CW X xw C tg e (.of i):=PI.imp (ZcO he) λσ H Q ⟨ρ,l,S,st,lr,h⟩=>by
 refine⟨ρ,l,S,st,lr,End.bind (show End X.K xw (WRel X.K) ρ H Q ((ev C i l S).bind λx S=>Ev.ob (Ev.Ym S x) S) from h) λx S1 ρ1 H1 v f1 st1 r1 h1=>?_⟩
 cases x with
 |tup ds=>
  obtain⟨a,xs,rfl,hp,r⟩:=r1.tup';exact⟨a,rfl,.inr ⟨⟨xs,SqT.of hp⟩,End.ok (rep:=WRel X.K) h1 st1 (uk hp r)⟩⟩
 |loc n=>
  obtain⟨a,rfl,hp⟩:=r1.loc';have h':End X.K xw (WRel X.K) ρ1 H1 Q (Ev.ob (match S1[n]? with
   |some (.lst xs)=>some ⟨xs,[(n,xs)]⟩
   |_=>none) S1):=h1
  cases q:S1[n]? with
  |none=>rw[q] at h';exact False.elim h'
  |some o=>
   rw[q] at h';cases o with
   |lst ds=>
    obtain⟨a',ha,xs,hx,r⟩:=st1.at q;rw[hp] at ha;cases ha;exact⟨a,rfl,.inl ⟨⟨xs,SqL.of hx⟩,End.ok (rep:=WRel X.K) h' st1 (jy hp)⟩⟩
   |_=>exact False.elim h'
 |_=>exact False.elim h1
theorem JI (hm:X.mg "range" = none) (ha:CA X xw C [a] [i]) (hg:Gl X "range":=by rfl) (hs:starEach [a] X.env=[(false,eval a X.env)]:=by rfl):CW X xw C tg (.Call (.Name "range" p) [a] [] pos) (.rng1 i):=
 PI.imp (wX hg hm ha hs) λσ H Q ⟨ρ,l,S,st,lr,h⟩=>by
  refine⟨ρ,l,S,st,lr,?_⟩;show End X.K xw Rq ρ H _ ((ev C i l S).bind λx S=>(Ev.R.ok [] S).bind λxs S=>.ok (x::xs) S)
  have h':End X.K xw (WRel X.K) ρ H Q ((ev C i l S).bind λx S=>match x with
   |.int i=>if Ev.small i then .ok ⟨Ev.Zq 0 i.toNat,[]⟩ S else .no
   |_=>.no):=h
  cases q:ev C i l S with
  |no=>rw[q] at h';exact h'
  |ex c S1=>rw[q] at h';exact h'
  |ok x S1=>
   rw[q] at h';intro ρ1 H1 vs f1 st1 r1;obtain⟨v,rfl,r⟩:=YZ r1;cases x with
   |int n=>
    obtain⟨hs,h2⟩:=End.guard (End.mono f1 (show End X.K xw (WRel X.K) ρ H Q (if Ev.small n=true then .ok ⟨Ev.Zq 0 n.toNat,[]⟩ S1 else .no) from h'))
    have hs':=PF (show decide (-(2^62)<=n/\n<2^62)=true from hs)
    exact⟨n,by rw[r.int'],hs'.1,hs'.2,End.ok (rep:=WRel X.K) h2 st1 zW⟩
   |_=>exact False.elim h'
noncomputable def Zbm (x y:D) (S:Zc):R Walk:=match x,y with
 |.int i,.int j=>if (Ev.small i&&Ev.small j)=true then .ok ⟨Ev.Zq i (j-i).toNat,[]⟩ S else .no
 |_,_=>.no
theorem Gq (hm:X.mg "range" = none) (ha:CA X xw C [a,b] [i,j]) (hg:Gl X "range":=by rfl) (hs:starEach [a,b] X.env=[(false,eval a X.env),(false,eval b X.env)]:=by rfl) (hs2:starEach [b] X.env=[(false,eval b X.env)]:=by rfl) :
  CW X xw C tg (.Call (.Name "range" p) [a,b] [] pos) (.rng2 i j):=
 PI.imp (wT hg hm ha hs hs2) λσ H Q ⟨ρ,l,S,st,lr,h⟩=>by
  refine⟨ρ,l,S,st,lr,?_⟩;show End X.K xw Rq ρ H _ ((ev C i l S).bind λx S=>((ev C j l S).bind λy S=>(Ev.R.ok [] S).bind λxs S=>.ok (y::xs) S).bind λxs S=>.ok (x::xs) S)
  have h':End X.K xw (WRel X.K) ρ H Q ((ev C i l S).bind λx S=>(ev C j l S).bind λy S=>Zbm x y S):=h
  cases q:ev C i l S with
  |no=>rw[q] at h';exact h'
  |ex c S1=>rw[q] at h';exact h'
  |ok x S1=>
   rw[q] at h';have h2:End X.K xw (WRel X.K) ρ H Q ((ev C j l S1).bind λy S=>Zbm x y S):=h'
   show End X.K xw Rq ρ H _ (((ev C j l S1).bind λy S=>(Ev.R.ok [] S).bind λxs S=>.ok (y::xs) S).bind λxs S=>.ok (x::xs) S)
   cases q2:ev C j l S1 with
   |no=>rw[q2] at h2;exact h2
   |ex c S2=>rw[q2] at h2;exact h2
   |ok y S2=>
    rw[q2] at h2;intro ρ1 H1 vs f1 st1 r1;obtain⟨v,u,rfl,rv,ru⟩:=Js r1;cases x with
    |int n=>cases y with
     |int m=>
      obtain⟨hs,h3⟩:=End.guard (End.mono f1 (show End X.K xw (WRel X.K) ρ H Q (if (Ev.small n&&Ev.small m)=true then .ok ⟨Ev.Zq n (m-n).toNat,[]⟩ S2 else .no) from h2))
      obtain⟨s1,s2⟩:=(Pp _ _).mp hs;have s1':=PF (show decide (-(2^62)<=n/\n<2^62)=true from s1)
      have s2':=PF (show decide (-(2^62)<=m/\m<2^62)=true from s2)
      exact⟨n,m,by rw[rv.int',ru.int'],⟨s1'.1,s1'.2,s2'.1,s2'.2⟩,End.ok (rep:=WRel X.K) h3 st1 zW⟩
     |_=>exact False.elim h2
    |_=>exact False.elim h2
theorem ye {body:List Stmt}{ms:List Sm}{w:Ev.W}{t:List Nat}(hp:PassesOwn (model X.prog X.w) X.A X.env X.xe) (hc:X.calm=true) (hw:CW X xw C tg it w) (hg:CG X tg t) (hb:CSs X xw C body ms)
  (hs:∀x,foldedSetIterable it X.env x=pure x:=by intro _;rfl):CS X xw C (.For tg it body [] pos) (.forr t w ms):=PS.imp (Zb8 hp hc hw hg hb hs) λD σ H ⟨ρ,l,S,st,lr,h⟩=>by
 have h':Zy X.K xw ρ H D ((evw C w l S).bind λw S=>Ev.Vm w (λx σ S=>(Ev.ob (Ev.assign t x S σ) S).bind λσ S=>runs C ms σ S) w.items l S):=h
 refine⟨ρ,l,S,st,lr,h'.bind λwk S1 ρ1 H1 J f1 st1 r1 h1=>?_⟩
 let B:Ev.D->Lc->Zc->R Fl:=λx σ S=>(Ev.ob (Ev.assign t x S σ) S).bind λσ S=>runs C ms σ S
 refine⟨λn m σ' H'=>m=wk.items.length-n/\n<=wk.items.length/\∃ρ' l' S',Fut ρ1 H1 ρ' H'/\St3 X.K ρ' S' H'/\LocR ρ' H' l' σ'/\Zy X.K xw ρ' H' D (Ev.Vm wk B (wk.items.drop n) l' S'),
  ⟨wk.items.length,rfl,Ka _,ρ1,l,S1,Fut.refl _ _,st1,lr.mono f1,h1⟩,?_⟩
 rintro n m σ' H' ⟨rfl,hn,ρ',l',S',f',st',lr',e'⟩
 by_cases hlt:n<wk.items.length
 ·right
  have hd:wk.items.drop n=wk.items[n]::wk.items.drop (n+1):=NL hlt;rw[hd] at e';have e2:Zy X.K xw ρ' H' D (if wk.still S'=true then (match B wk.items[n] l' S' with
   |.ok (.nx σ') S'=>Ev.Vm wk B (wk.items.drop (n+1)) σ' S'
   |.ok (.cnt σ') S'=>Ev.Vm wk B (wk.items.drop (n+1)) σ' S'
   |.ok (.brk σ') S'=>.ok (.nx σ') S'
   |.ok (.ret d) S'=>.ok (.ret d) S'
   |.ex c S'=>.ex c S'
   |.no=>.no) else .no):=e'
  by_cases hst:wk.still S'=true
  ·rw[Ph hst] at e2
   obtain⟨go,yl⟩:=r1.go n ρ' S' H' f' st' hst hlt;refine⟨go,λσ2 H2=>∃ρ2 l2 S2,Fut ρ1 H1 ρ2 H2/\St3 X.K ρ2 S2 H2/\LocR ρ2 H2 l2 σ2/\Zy X.K xw ρ2 H2 D (Ev.Vm wk B (wk.items.drop (n+1)) l2 S2),λσ2 H2 ⟨ρ2,l2,S2,a1,a2,a3,a4⟩=>⟨wk.items.length-(n+1),by omega,rfl,hlt,ρ2,l2,S2,a1,a2,a3,a4⟩,λx H3 y=>?_⟩
   obtain⟨f3,st3,rp⟩:=yl x H3 y;have rx:=rp _ (Pd hlt);cases ha:Ev.assign t wk.items[n] S' l' with
   |none=>
    have e3:B wk.items[n] l' S'=.no:=by show (Ev.ob (Ev.assign t wk.items[n] S' l') S').bind _=_;rw[ha];rfl
    rw[e3] at e2;exact False.elim e2
   |some l2=>
    have e3:B wk.items[n] l' S'=runs C ms l2 S':=by show (Ev.ob (Ev.assign t wk.items[n] S' l') S').bind _=_;rw[ha];rfl
    rw[e3] at e2;refine⟨ρ',l',S',wk.items[n],l2,st3,lr'.mono f3,rx,ha,λσ2 lr2=>⟨ρ',l2,S',st3,lr2,?_⟩⟩
    have e4:=Zy.mono f3 e2;have ff:=f'.trans f3;cases q:runs C ms l2 S' with
    |no=>rw[q] at e4;exact e4
    |ex c S2=>rw[q] at e4;exact e4
    |ok fl S2=>
     rw[q] at e4;cases fl with
     |nx l3=>exact λρ4 H4 σ4 f4 st4 lr4=>⟨ρ4,l3,S2,ff.trans f4,st4,lr4,Zy.mono f4 e4⟩
     |cnt l3=>exact λρ4 H4 σ4 f4 st4 lr4=>⟨ρ4,l3,S2,ff.trans f4,st4,lr4,Zy.mono f4 e4⟩
     |brk l3=>exact e4
     |ret d=>exact e4
  ·rw[Pj hst] at e2
   exact False.elim e2
 ·left
  have en:n=wk.items.length:=by omega
  subst en;rw[List.drop_length] at e';have e2:Zy X.K xw ρ' H' D (if wk.still S'=true then .ok (.nx l') S' else .no):=e'
  by_cases hst:wk.still S'=true
  ·rw[Ph hst] at e2
   exact⟨r1.stop ρ' S' H' f' st' hst,Zy.nx e2 st' lr'⟩
  ·rw[Pj hst] at e2
   exact False.elim e2
end
end Sd
namespace Sd
open PySem PySem.Spec PyProof.Rows L2
noncomputable def vO (env:Env):List (Str×NameKind)->List (Str×Addr)->List (Str×Addr)
 |[],acc=>acc
 |x::r,acc=>vO env r (if (x.2 == NameKind.free)=true then (x.1,(env.cells.lookup x.1).getD 0)::acc else acc)
theorem U9 {env:Env}{f:Str×NameKind->List (Str×Addr)->Sem (ForInStep (List (Str×Addr)))}:∀(names:List (Str×NameKind)) (acc:List (Str×Addr)),
  (∀x∈names,∀c,f x c=pure (.yield (if (x.2 == NameKind.free)=true then (x.1,(env.cells.lookup x.1).getD 0)::c else c)))->forIn names acc f=pure (vO env names acc)
 |[],acc,_=>rfl
 |x::r,acc,h=>by
  rw[List.forIn_cons,h x Pe,pure_bind];exact U9 r _ λy hy=>h y (Pc _ hy)
theorem z7 {env:Env}{x:Str}{c:Addr}:∀(names:List (Str×NameKind)) (acc:List (Str×Addr)),(vO env names acc).lookup x=some c->acc.lookup x=some c\/(∃y∈names,y.1=x/\y.2=.free/\c=(env.cells.lookup x).getD 0)
 |[],acc,h=>.inl h
 |y::r,acc,h=>by
  rcases z7 r _ h with h | ⟨z,hz,e⟩
  ·by_cases hf:(y.2 == NameKind.free)=true
   ·rw[Ph hf,P9] at h
    cases q:(x == y.1) with
    |true=>
     rw[q] at h;have e:x=y.1:=eq_of_beq q;exact .inr ⟨y,Pe,e.symm,eq_of_beq hf,by rw[e];exact (Pb h).symm⟩
    |false=>rw[q] at h;exact .inl h
   ·rw[Pj hf] at h;exact .inl h
  ·exact .inr ⟨z,Pc _ hz,e⟩
theorem zn {env:Env}{x:Str}:∀(names:List (Str×NameKind)) (acc:List (Str×Addr)),(acc.lookup x).isSome=true->((vO env names acc).lookup x).isSome=true
 |[],acc,h=>h
 |y::r,acc,h=>by
  refine zn r _ ?_;split
  ·rw[P9]
   cases (x == y.1) with
   |true=>rfl
   |false=>exact h
  ·exact h
theorem zN {env:Env}{x:Str}:∀(names:List (Str×NameKind)) (acc:List (Str×Addr)),(x,NameKind.free)∈names->((vO env names acc).lookup x).isSome=true
 |[],acc,h=>by cases h
 |y::r,acc,h=>by
  rcases Po.mp h with h | h
  ·subst h
   refine zn r _ ?_;rw[Ph (by rfl),P9,NT]
   rfl
  ·exact zN r _ h
theorem yf {scope:Scope}{env:Env}(h:∀y∈scope.names,y.2=.free->∃c,env.cells.lookup y.1=some c) :
  ∃cl,closureFor scope env=pure cl/\(∀x c,cl.lookup x=some c->env.cells.lookup x=some c)/\∀x,(x,NameKind.free)∈scope.names->∃c,cl.lookup x=some c:=by
 refine⟨vO env scope.names [],?_,λx c e=>?_,λx hx=>NP.mp (zN _ _ hx)⟩
 ·simp only[closureFor]
  rw[U9 (env:=env) scope.names [] (λx hx c=>by
   obtain⟨n,kind⟩:=x;by_cases hk:(kind == NameKind.free)=true
   ·obtain⟨a,ha⟩:=h (n,kind) hx (eq_of_beq hk)
    have ha':env.cells.lookup n=some a:=ha;simp only[hk,N3,cellOf,ha',pure_bind,Option.getD_some]
   ·simp only[hk,ND]
    rfl),pure_bind]
 ·rcases z7 _ _ e with e | ⟨y,hy,e1,e2,e3⟩
  ·cases e
  ·obtain⟨a,ha⟩:=h y hy e2
   rw[e1] at ha;rw[e3,ha];rfl
noncomputable def cxC (X:Cx) (N:List Str) (scope:Scope) (cl:List (Str×Addr)) (s:Shared) (H:Hp) (fp:List Addr):Cx:=
 { X with N:=N,s₀:=s,H₀:=H,env:=compEnvC scope cl s.heap.objs.size X.env,outer:=X.stack,ex:=fp,fn:=λ_=>false,pn:=[],xe:=λ_ _=>False }
def PTs (X:Cx) (ifs:List Expr) (t:TT):Prop:=
 ∀(pq:List (Addr×Obj)) (s:Shared) (σ:L2.St) (H:Hp) (Q:Bool->Hp->Prop),Inv X pq σ H s->t σ H Q->
  wpAny (model X.prog X.w) X.A (forIn ifs true λc r=>if r=true then do let ok <-isTrue c X.env (eval c X.env);pure (ForInStep.yield ok) else pure (ForInStep.yield r)) (TP X pq σ Q) X.xe s
theorem jO {X:Cx}:PTs X [] (λσ H Q=>Q true H):=λpq s σ H Q I h=>wpAny_tests_nil ⟨H,I,h⟩
theorem ZaD {X:Cx}{c:Expr}{t:TT}(h:PT X c t):PTs X [c] t:=λpq s σ H Q I hq=>wpAny_tests_one (h pq s σ H Q I hq)
structure CompScope (sc:Scope) (N0:List Str) (scope:Scope) (N:List Str) (cap:List Nat) (nl:Nat):Prop where
 kind:scope.kind=.function
 nocell:∀y∈scope.names,y.2≠.cell
 names:∀y∈scope.names,y.2=.local->scope.names.lookup y.1=some .local
 free:∀y∈scope.names,y.2=.free->sc.names.lookup y.1=some .cell\/sc.names.lookup y.1=some .free
 apart:∀y∈scope.names,y.2=.free->scope.names.lookup y.1≠some .local
 len:N.length=nl+cap.length
 cap:∀p∈cap.zipIdx,N[nl+p.2]? = N0[p.1]?/\(N0[p.1]?).map (λx=>decide ((x,NameKind.free)∈scope.names))=some true
theorem CompScope.capt {sc:Scope}{N0:List Str}{scope:Scope}{N:List Str}{cap:List Nat}{nl:Nat}(h:CompScope sc N0 scope N cap nl) (i j:Nat) (e:cap[i]? = some j):∃x,N[nl+i]? = some x/\N0[j]? = some x/\(x,NameKind.free)∈scope.names:=by
 have hm:(j,i)∈cap.zipIdx:=by
  rw[List.mem_zipIdx_iff_getElem?];exact e
 obtain⟨h1,h2⟩:=h.cap (j,i) hm;cases q:N0[j]? with
 |none=>rw[show N0[(j,i).1]? = none from q] at h2;cases h2
 |some x=>
  rw[show N0[(j,i).1]? = some x from q] at h1 h2
  exact⟨x,h1,rfl,PF (Pb h2)⟩
noncomputable def Y5 (cap:List Nat) (nl:Nat) (σ:L2.St):L2.St:=List.replicate nl none++cap.map λi=>(σ[i]?).join
section
variable {X:Cx}{pq:List (Addr×Obj)}{σ:L2.St}{H:Hp}{s:Shared}
theorem Vg {scope:Scope}{env:Env}:∀{names:List (Str×NameKind)}{x:Str},(names.map λ(n,k)=>if (k == NameKind.free&&env.scope.kind == .function&&env.kindOf n == some .cell) then (n,NameKind.cell) else (n,k)).lookup x=some .cell\/
  (names.map λ(n,k)=>if (k == NameKind.free&&env.scope.kind == .function&&env.kindOf n == some .cell) then (n,NameKind.cell) else (n,k)).lookup x=some .free->(∀y∈names,y.2≠.cell)->(x,NameKind.free)∈names
 |[],x,h,_=>by rcases h with h | h <;> cases h
 |(n,k)::r,x,h,hc=>by
  have ih:=@Vg scope env r x;have hk:k≠.cell:=hc (n,k) Pe;by_cases e:x=n
  ·subst e
   have hk2:k=.free:=by
    rcases h with h | h
    ·rw[PP] at h
     by_cases c:(k == NameKind.free&&env.scope.kind == .function&&env.kindOf x == some .cell)=true
     ·have:=(Pp _ _).mp c
      exact eq_of_beq ((Pp _ _).mp this.1).1
     ·simp only[Pj c,P9,NT] at h
      exact absurd (Pb h) hk
    ·rw[PP] at h
     by_cases c:(k == NameKind.free&&env.scope.kind == .function&&env.kindOf x == some .cell)=true
     ·simp only[Ph c,P9,NT] at h
      cases h
     ·simp only[Pj c,P9,NT] at h
      exact Pb h
   rw[hk2];exact Pe
  ·have hb:(x == n)=false:=NR.mpr e
   refine Pc _ (ih ?_ λy hy=>hc y (Pc _ hy))
   rcases h with h | h
   ·left
    rw[PP] at h;by_cases c:(k == NameKind.free&&env.scope.kind == .function&&env.kindOf n == some .cell)=true
    ·simp only[Ph c,P9,hb] at h;exact h
    ·simp only[Pj c,P9,hb] at h;exact h
   ·right
    rw[PP] at h;by_cases c:(k == NameKind.free&&env.scope.kind == .function&&env.kindOf n == some .cell)=true
    ·simp only[Ph c,P9,hb] at h;exact h
    ·simp only[Pj c,P9,hb] at h;exact h
theorem ux {N:List Str}{scope:Scope}{cl:List (Str×Addr)}{fp:List Addr}{cap:List Nat}{nl:Nat}{h1:Heap}{tk:Nat}(I:Inv X pq σ H s) (CS:CompScope X.env.scope X.N scope N cap nl) (hN:X.N.Nodup)
  (c1:∀x c,cl.lookup x=some c->X.env.cells.lookup x=some c) (c2:∀x,(x,NameKind.free)∈scope.names->∃c,cl.lookup x=some c)
  (hf:∀b∈fp,VC X pq H b) (hb:∀b∈fp,∃o,s.heap.get? b=some o) (hns:∃m,h1.Ns s.heap.objs.size m) (hk:∀b o,s.heap.get? b=some o->h1.get? b=some o) :
  Inv (cxC X N scope cl s H fp) [] (Y5 cap nl σ) H { s with heap:=h1,toks:=tk }:=by
 have bne:∀b∈fp,b≠s.heap.objs.size:=λb hb' e=>by
  obtain⟨o,ho⟩:=hb b hb';exact absurd (Pz ho) (by rw[e];exact P2 _)
 refine⟨⟨I.ok.mod,CS.kind,I.ok.glob,I.ok.blt,Pk _,λx y c h1 h2=>I.ok.inj x y c (c1 x c h1) (c1 y c h2),λx hx=>c2 x (Vg (scope:=scope) (env:=X.env) hx CS.nocell),λx c h=>(by cases h),I.ok.hd,I.ok.frames,.inl rfl,
  λb hb'=>⟨bne b hb',λx c e=>(hf b hb').2.2.2.2.1 x c (c1 x c e)⟩,I.bs,P4 I.ok.bsz I.sz,λb o e hb'=>?_,λb hb' hm=>?_,I.stack,I.stkFree⟩,
  rfl,I.bare,Un.kept hk,?_,λx c e=>?_,I.hok.fresh (Pk _),λx c e=>I.freeC x c (c1 x c e),λp hp=>absurd hp (by simp[cxC]),I.hok.kept hk,?_⟩
 ·rcases (hf b hb').2.2.2.1 with z | z
  ·exact I.ok.noex b o e z
  ·exact absurd (Pz e) (Nat.not_lt.mpr (P4 I.ok.bsz z))
 ·rcases Po.mp (I.stkSub b hm) with e | e
  ·exact (hf b hb').2.1 e
  ·exact (hf b hb').2.2.1 e
 ·obtain⟨m1,hm1⟩:=hns
  refine⟨m1,hm1,λi x v e1 e2 e3=>?_⟩
  obtain⟨m,hm,hl⟩:=I.loc;have hi:nl<=i:=by
   by_cases hi:nl<=i
   ·exact hi
   ·have z:(Y5 cap nl σ)[i]? = some none:=by
     unfold Y5;rw[PB (by simp;omega),Nm,Ph (by omega)]
    rw[z] at e2;cases e2
  have e2':(cap.map λi=>(σ[i]?).join)[i-nl]? = some (some v):=by
   have:(Y5 cap nl σ)[i]? = some (some v):=e2;unfold Y5 at this
   rwa [PQ (by simp;exact hi),Nu] at this
  rw[PM] at e2';cases hj:cap[i-nl]? with
  |none=>rw[hj] at e2';cases e2'
  |some j=>
   rw[hj] at e2';have hv:σ[j]? = some (some v):=by
    have:(σ[j]?).join=some v:=Pb e2';cases q:σ[j]? with
    |none=>rw[q] at this;cases this
    |some o=>rw[q] at this;cases o with
     |none=>cases this
     |some w=>cases this;rfl
   obtain⟨x',n1,n2,fr⟩:=CS.capt _ _ hj;have ex:x'=x:=by
    have:N[nl+(i-nl)]? = some x:=by rw[show nl+(i-nl)=i by omega];exact e1
    rw[n1] at this;exact Pb this
   subst ex;have kd:=CS.free _ fr rfl;have vis:Vis X.env.scope x':=by
    rcases kd with z | z
    ·exact .inr (.inl z)
    ·exact .inr (.inr z)
   obtain⟨u,r,lk⟩:=hl j x' v n2 hv vis;refine⟨u,r,?_⟩;rcases lk with ⟨k,_⟩ | ⟨k,c,ec,hc⟩
   ·have k':X.env.scope.names.lookup x'=some .local:=k
    rcases kd with z | z <;> (rw[z] at k';cases k')
   ·obtain⟨c',ec'⟩:=c2 x' fr
    have ecc:c'=c:=by
     have:=c1 x' c' ec';rw[ec] at this;exact (Pb this).symm
    subst ecc;have vis2:Vis (relabel scope X.env) x':=e3;refine .inr ⟨?_,c',ec',?_⟩
    ·rcases vis2 with z | z | z
     ·have z':(scope.names.map λ(n,k)=>if (k == NameKind.free&&X.env.scope.kind == .function&&X.env.kindOf n == some .cell) then (n,NameKind.cell) else (n,k)).lookup x'=some .local:=z
      exfalso
      have:∀(names:List (Str×NameKind)),(∀y∈names,y.2=NameKind.local->y.1≠x')->(names.map λ(n,k)=>if (k == NameKind.free&&X.env.scope.kind == .function&&X.env.kindOf n == some .cell) then (n,NameKind.cell) else (n,k)).lookup x'≠some .local:=by
       intro names
       induction names with
       |nil=>intro _ h;cases h
       |cons y r ih=>
        obtain⟨n,k⟩:=y;intro hy h;rw[PP] at h;by_cases e:x'=n
        ·subst e
         by_cases c:(k == NameKind.free&&X.env.scope.kind == .function&&X.env.kindOf x' == some .cell)=true
         ·simp only[Ph c,P9,NT] at h;cases h
         ·simp only[Pj c,P9,NT] at h
          exact hy (x',k) Pe (Pb h) rfl
        ·have hb:(x' == n)=false:=NR.mpr e
         refine ih (λy hy'=>hy y (Pc _ hy')) ?_
         by_cases c:(k == NameKind.free&&X.env.scope.kind == .function&&X.env.kindOf n == some .cell)=true
         ·simp only[Ph c,P9,hb] at h;exact h
         ·simp only[Pj c,P9,hb] at h;exact h
      refine this scope.names (λy hy hl e=>?_) z'
      have l1:=CS.names y hy hl;rw[e] at l1;exact CS.apart (x',.free) fr rfl l1
     ·exact .inl z
     ·exact .inr z
    ·obtain⟨o,ho,hd⟩:=hc
     exact⟨o,hk c' o ho,hd⟩
 ·obtain⟨v,o,ho,hd⟩:=I.cell x c (c1 x c e)
  exact⟨v,o,hk c o ho,hd⟩
 ·unfold Y5
  show _=N.length;rw[PD,Nu,Pl,CS.len]
end
abbrev TEm:=L2.St->Hp->(L2.St->Hp->Prop)->Prop
def zT (X:Cx) (act:Sem Fin->Sem Fin) (te:TEm):Prop:=
 ∀(pq:List (Addr×Obj)) (s:Shared) (σ:L2.St) (H:Hp) (Q:L2.St->Hp->Prop) (k:Sem Fin) (QF:Fin->Shared->Prop) (EE:Value->Shared->Prop),Inv X pq σ H s->te σ H Q->(∀s' σ' H',Inv X pq σ' H' s'->Q σ' H'->wpAny (model X.prog X.w) X.A k QF EE s')->
  wpAny (model X.prog X.w) X.A (act k) QF EE s
noncomputable def Vq (ipos:Pos) (tg:Expr) (ifs:List Expr) (act:Sem Fin->Sem Fin) (it:Value) (env:Env) (c:Code):Sem Fin:=do
 standAt ipos
 match <-pyNext it with
 |none=>pure (.done .next)
 |some v=>
  letOwnedTupleGo tg it v
  assign tg env v
  let mut ok:=true
  for c in ifs do
   if ok then ok <-isTrue c env (eval c env)
  if ok then act (again c) else again c
def xL (J:It) (g:TG) (tt:TT) (te:TEm) (W:Nat->Nat->L2.St->Hp->Prop) (Q:L2.St->Hp->Prop):Prop:=∀i m σ' H',W i m σ' H'->
  (J.stop i H'/\Q σ' H')\/(J.go i H'/\∀x H'',J.yld i H' x H''->g x σ' H'' λσ2 H2=>tt σ2 H2 λok H3=>if ok=true then te σ2 H3 λσ3 H4=>∃m',m'<m/\W (i+1) m' σ3 H4 else ∃m',m'<m/\W (i+1) m' σ2 H3)
theorem Jv {Y:Cx}{e:Expr}{depth:Nat}{ipos:Pos}{tg:Expr}{ifs:List Expr}{act:Sem Fin->Sem Fin}{acc:Value}{J:It}{fp:List Addr}{it:Addr}{tn:Nat->Heap->Prop}{g:TG}{tt:TT}{te:TEm}{pq:List (Addr×Obj)}{Rr:Result->Shared->Prop}{Q:L2.St->Hp->Prop}{W:Nat->Nat->L2.St->Hp->Prop}{s:Shared}{σ:L2.St}{H:Hp}{m:Nat}
  (hc:Y.calm=true) (hx:∀a b,Y.xe a b->False) (hT:compTurn e depth (.ref it) acc Y.env=Vq ipos tg ifs act (.ref it) Y.env (.compLoop e depth (.ref it) acc Y.env)) (hquiet:(Code.compLoop e depth (.ref it) acc Y.env).isFrame=false)
  (hq:(Code.compLoop e depth (.ref it) acc Y.env).quiet=true) (T:Turn Y.prog Y.w Y.K tg J fp it tn) (hg:PG Y tg g) (ht:PTs Y ifs tt) (he:zT Y act te) (stat:∀{H':Hp},(∀b∈fp,H' b=none)->∀b∈fp,VC Y pq H' b)
  (turn:xL J g tt te W Q) (fin:∀σ H s,Inv Y pq σ H s->Q σ H->Rr (.ok .next) s)
  (I0:Inv Y pq σ H s) (st0:tn 0 s.heap) (fr0:∀b∈fp,H b=none) (w0:W 0 m σ H) (hden:(model Y.prog Y.w).den (.compLoop e depth (.ref it) acc Y.env)=(compTurn e depth (.ref it) acc Y.env).onRaise (λx=>do noteFrame x Y.env;theTreesLotGoes x))
  (hund:Y.A.under (.compLoop e depth (.ref it) acc Y.env)=Y.A):codeAny (model Y.prog Y.w) Y.A (.compLoop e depth (.ref it) acc Y.env) Rr s:=by
 refine codeAny_loop hq (λn s'=>∃i σ' H',Inv Y pq σ' H' s'/\tn i s'.heap/\(∀b∈fp,H' b=none)/\W i n σ' H') (λn s5 hI=>?_) m ⟨0,σ,H,I0,st0,fr0,w0⟩
 rw[hund,hden,hT];refine wpAny_noted ?_;obtain⟨i,σ5,H5,I5,st5,fr5,w5⟩:=hI;unfold Vq;refine Pa (NS (Pa ?_));rcases turn i n σ5 H5 w5 with ⟨stop,qn⟩ | ⟨go,step⟩
 ·refine Nv (T.done Y rfl rfl rfl hc i pq s5 σ5 H5 (λ_ _=>False) I5 (stat fr5) st5 stop) (λr s6 ⟨hr,I6⟩=>?_) λ_ _ h'=>h'.elim
  subst hr;exact Pi (fin σ5 H5 s6 I6 qn)
 ·refine Nv (T.item Y rfl rfl rfl hc i pq s5 σ5 H5 (λ_ _=>False) I5 (stat fr5) st5 go) (λr s6 ⟨u,hr,h6⟩=>?_) λ_ _ h'=>h'.elim
  subst hr;refine Pa (Nv h6 (λ_ s7 ⟨x,H7,I7,r7,y7,st7,fr7⟩=>?_) λ_ _ h'=>h'.elim)
  have I7':=I7.pinned (stat fr7) (T.obj _ _ st7);have back:∀{σ8:L2.St} {H8:Hp} {s8:Shared} {m':Nat},Inv Y (pq++QE fp s7.heap) σ8 H8 s8->m'<n->W (i+1) m' σ8 H8->∃m,m<n/\∃i σ' H',Inv Y pq σ' H' s8/\tn i s8.heap/\(∀b∈fp,H' b=none)/\W i m σ' H':=λ{σ8 H8 s8 m'} I8 hm w8=>by
   refine⟨m',hm,i+1,σ8,H8,I8.unpinned,T.keep _ _ _ st7 λb hb' o e=>(I8.pin (b,o) (P8 _ (P8 _ (X7 hb' e)))).1,λb hb'=>?_,w8⟩
   obtain⟨o,e,d⟩:=T.obj _ _ st7 b hb';exact (I8.pin (b,o) (P8 _ (P8 _ (X7 hb' e)))).2.1
  refine Pa (Nv (hg _ s7 σ5 H7 x u _ I7' r7 (step x H7 y7)) (λ_ s8 ⟨σ8,H8,I8,q8⟩=>?_) λ_ _ h'=>(hx _ _ h').elim)
  refine Pa (Nv (ht _ s8 σ8 H8 _ I8 q8) (λok s9 ⟨H9,I9,q9⟩=>?_) λ_ _ h'=>(hx _ _ h').elim)
  cases ok with
  |false=>
   rw[Pj Px] at q9;obtain⟨m',hm,w9⟩:=q9;exact Pi ⟨rfl,back I9 hm w9⟩
  |true=>
   rw[Ph rfl] at q9;exact he _ s9 σ8 H9 _ _ _ _ I9 q9 λs10 σ10 H10 I10 ⟨m',hm,w10⟩=>Pi ⟨rfl,back I10 hm w10⟩
theorem Qh {Y:Cx}{elt:Expr}{te:TE}{D:Addr}(hx:∀a b,Y.xe a b->False) (he:PE Y elt te):zT Y (λk=>(do let _ <-call (.builtin "list.append") [.ref D,<-eval elt Y.env]:Sem Unit) >>= λ_=>k) (λσ H Q=>te σ H λy H4=>∃ys,H4 D=some (.lst ys)/\ys.length<sizeLine/\Q σ (upd H4 D (.lst (ys++[y])))):=by
 intro pq s σ H Q k QF EE I h hk;refine Pa ?_;refine Pa (Nv (he pq s σ H _ I h) (λxv s10 ⟨y,H10,I10,r10,ys,hDy,hz,q⟩=>?_) λ_ _ h'=>(hx _ _ h').elim)
 refine Pa (Nv (Jn (X:=Y) pq s10 σ H10 (.ref D) [y] (.ref D) [xv] (λv H'=>v=.non/\H'=upd H10 D (.lst (ys++[y]))) I10 rfl (.cons r10 .nil) ⟨D,ys,y,rfl,rfl,hDy,hz,rfl,rfl⟩) (λ_ s11 ⟨v11,H11,I11,_,_,eH⟩=>?_) λ_ _ h'=>(hx _ _ h').elim)
 subst eH;exact Pi (hk _ _ _ I11 q)
def xq (wi:TI) (g:TG) (tt:TT) (te:Addr->TEm) (cap:List Nat) (nl:Nat):TE:=λσ H Q=>wi σ H λJ H1=>∀D,H1 D=none->∃W:Nat->Nat->L2.St->Hp->Prop,(∃m,W 0 m (Y5 cap nl σ) (upd H1 D (.lst [])))/\xL J g tt (te D) W λ_ H'=>Q (.ref D) H'
def qU (wi:TI) (g:TG) (tt:TT) (te:TE) (cap:List Nat) (nl:Nat):TE:=λσ H Q=>wi σ H λJ H1=>∀D,H1 D=none->∃W:Nat->Nat->L2.St->Hp->Prop,(∃m,W 0 m (Y5 cap nl σ) (upd H1 D (.lst [])))/\∀i m σ' H',W i m σ' H'->
  (J.stop i H'/\Q (.ref D) H')\/(J.go i H'/\∀x H'',J.yld i H' x H''->g x σ' H'' λσ2 H2=>tt σ2 H2 λok H3=>if ok=true then te σ2 H3 λy H4=>∃ys,H4 D=some (.lst ys)/\ys.length<sizeLine/\∃m',m'<m/\W (i+1) m' σ2 (upd H4 D (.lst (ys++[y]))) else ∃m',m'<m/\W (i+1) m' σ2 H3)
section
variable {X:Cx}
structure Gone (X:Cx) (pq:List (Addr×Obj)) (H:Hp) (s:Shared) (C:Addr):Prop where
 free:H C=none
 ns:∃m,s.heap.Ns C m
 loc:C≠X.env.locals
 big:X.s₀.heap.objs.size<=C
 cel:∀x c,X.env.cells.lookup x=some c->c≠C
 pin:∀p∈X.pn++pq,p.1≠C
theorem Ud {tg iter elt:Expr}{ifs:List Expr}{scope:Scope}{pos fpos:Pos}{N:List Str}{cap:List Nat}{nl:Nat}{wi:TI}{g:TG}{tt:TT}{te:Addr->TEm}{act:Value->Env->Sem Fin->Sem Fin}{rest:List Comprehension}{pq:List (Addr×Obj)}{s:Shared}{σ:L2.St}{H:Hp}{Q:VK}{use:Option (Value->Sem Unit)}{QQ:Value->Shared->Prop}(hc:X.calm=true) (hN:X.N.Nodup) (CS:CompScope X.env.scope X.N scope N cap nl) (hi:PI X tg iter wi)
  (hT:∀it acc env,compTurn (.ListComp elt (⟨tg,iter,ifs,0⟩::rest) scope pos) 0 it acc env=Vq iter.pos tg ifs (act acc env) it env (.compLoop (.ListComp elt (⟨tg,iter,ifs,0⟩::rest) scope pos) 0 it acc env))
  (hb:∀cl s H fp,PG (cxC X N scope cl s H fp) tg g/\PTs (cxC X N scope cl s H fp) ifs tt/\∀D,zT (cxC X N scope cl s H fp) (act (.ref D) (cxC X N scope cl s H fp).env) (te D))
  (hs:∀x,foldedSetIterable iter X.env x=pure x) (I:Inv X pq σ H s) (h:xq wi g tt te cap nl σ H Q)
  (fin:∀D C H5 s6,Inv X pq σ H5 s6->Gone X pq H5 s6 C->Q (.ref D) H5->compPost (model X.prog X.w) X.A X.xe use QQ (.ref D) C (.ok .next) s6) :
  wpAny (model X.prog X.w) X.A (comprehension (.ListComp elt (⟨tg,iter,ifs,0⟩::rest) scope pos) scope X.env fpos (newList []) false (eval iter X.env) use) QQ X.xe s:=by
 obtain⟨cl,hcl,c1,c2⟩:=yf (scope:=scope) (env:=X.env) λy hy hf=>I.ok.has y.1 (CS.free y hy hf)
 refine wpAny_comprehension_free (use:=use) rfl hs hcl CS.kind CS.names ?_;refine thn (hi pq s σ H _ I h) λv s1 h1=>thn h1 λitv s2 h2=>?_
 obtain⟨it,fp,tn,J,H2,rfl,I2,T,st2,f2,q2⟩:=h2;obtain⟨W,⟨m0,w0⟩,turn⟩:=q2 s2.heap.objs.size (I2.hok.fresh (Pk _));refine PV (wpAny_newFunctionEnv CS.nocell (by intro y hy;simp at hy) (λh₁ hns₁ hsb₁=>?_) CS.kind)
 dsimp only at hns₁ hsb₁ ⊢
 have I3:Inv X pq σ (upd H2 s2.heap.objs.size (.lst [])) { s2 with heap:=s2.heap.push { cls:=.type "list",dict:=none,data:=.seq ([]:List Value).toArray },toks:=s2.toks }:=
  I2.laid (λb u e=>Pf _ e) (Pk _) ⟨Ka _,[],0,.nil,Pq _ rfl⟩
 generalize hD:s2.heap.objs.size=D at I3 w0 turn hns₁ hsb₁ ⊢;generalize hs3:({ s2 with heap:=s2.heap.push { cls:=.type "list",dict:=none,data:=.seq ([]:List Value).toArray },toks:=s2.toks }:Shared)=s3 at I3
 have hh3:s2.heap.push { cls:=.type "list",dict:=none,data:=.seq ([]:List Value).toArray }=s3.heap:=by rw[<-hs3]
 rw[hh3] at hns₁ hsb₁;have old:∀b o,s2.heap.get? b=some o->s3.heap.get? b=some o:=λb o e=>by rw[<-hh3];exact Pf _ e
 have neD:∀b∈fp,b≠D:=λb hb' e=>by
  obtain⟨o,ho,_⟩:=T.obj _ _ st2 b hb';exact absurd (Pz ho) (by rw[e,<-hD];exact P2 _)
 have f3:∀b∈fp,VC X pq (upd H2 D (.lst [])) b:=λb hb'=>⟨by rw[ZE (neD b hb')];exact (f2 b hb').1,(f2 b hb').2⟩
 have keep4:∀b o,s3.heap.get? b=some o->h₁.get? b=some o:=λb o e=>hsb₁.extBut b o (P3 (Pz e)) (Pf _ e)
 have I4:=ux (tk:=s2.toks+([]:List (Str×Value)).length) I3 CS hN c1 c2 f3 (λb hb'=>let ⟨o,ho,_⟩:=T.obj _ _ st2 b hb';⟨o,old b o ho⟩) ⟨_,hns₁⟩ keep4
 have e4:({ s3 with heap:=h₁,toks:=s2.toks+([]:List (Str×Value)).length }:Shared)={ s2 with heap:=h₁,toks:=s2.toks+([]:List (Str×Value)).length }:=by rw[<-hs3]
 rw[e4] at I4;obtain⟨hg,ht,he⟩:=hb cl s3 (upd H2 D (.lst [])) fp;generalize hY:cxC X N scope cl s3 (upd H2 D (.lst [])) fp=Y at I4 hg ht he;have yP:Y.prog=X.prog:=by rw[<-hY];rfl
 have stat:∀{H':Hp},(∀b∈fp,H' b=none)->∀b∈fp,VC Y [] H' b:=λhn b hb'=>by
  subst hY;refine⟨hn b hb',λe=>?_,λhm=>?_,.inl hb',λx c e=>(f3 b hb').2.2.2.2.1 x c (c1 x c e),λp hp=>absurd hp (by simp[cxC])⟩
  ·obtain⟨o,ho,_⟩:=T.obj _ _ st2 b hb'
   have:=Pz (old b o ho);rw[e] at this;exact absurd this (P2 _)
  ·rcases Po.mp (I3.stkSub b hm) with e | e
   ·exact (f3 b hb').2.1 e
   ·exact (f3 b hb').2.2.1 e
 subst hY
 let Y:=cxC X N scope cl s3 (upd H2 D (.lst [])) fp
 have st4:tn 0 h₁:=T.keep _ _ _ st2 λb hb' o e=>keep4 b o (old b o e)
 have fr4:∀b∈fp,upd H2 D (HO.lst []) b=none:=λb hb'=>(f3 b hb').1
 have loop:codeAny (model X.prog X.w) X.A (.compLoop (.ListComp elt (⟨tg,iter,ifs,0⟩::rest) scope pos) 0 (.ref it) (.ref D) (compEnvC scope cl s3.heap.objs.size X.env))
   (compPost (model X.prog X.w) X.A X.xe use QQ (.ref D) s3.heap.objs.size) { s2 with heap:=h₁,toks:=s2.toks+([]:List (Str×Value)).length }:=by
  refine Jv (Y:=cxC X N scope cl s3 (upd H2 D (.lst [])) fp) (pq:=[]) (W:=W) (Q:=λ_ H'=>Q (.ref D) H') hc (λ_ _ z=>z) (hT _ _ _) rfl rfl T hg ht (he D) stat turn (λσ5 H5 s6 I6 qn=>?_) I4 st4 fr4 w0 rfl rfl
  obtain⟨m6,hn6,_⟩:=I6.loc;have u:=I6.base;have IX:Inv X pq σ H5 s6:=Inv.call' (s':=s6) (ch:=fp) I3 I6.os ⟨u.keep,u.slot,u.free,u.there,u.tups,u.frzs,u.tbls⟩ I6.hok I6.bare λb hb'=>⟨(f3 b hb').2.2.2.1,(f3 b hb').2.1,(f3 b hb').2.2.2.2.1,λp hp e=>(f3 b hb').2.2.2.2.2 p hp e⟩
  refine fin D s3.heap.objs.size H5 s6 IX ⟨I6.free,⟨m6,hn6⟩,Ne.symm (P3 I3.lt),I3.sz,λx c e z=>?_,λp hp z=>?_⟩ qn
  ·obtain⟨v,q⟩:=I3.cell x c e
   exact absurd q.lt (by rw[z];exact P2 _)
  ·exact absurd (Pz (I3.pin p hp).1) (by rw[z];exact P2 _)
 subst hs3;exact codeAny_compStart_list loop (T.self _ 0 _ _ _ st4 loop)
theorem Gone.inv {pq:List (Addr×Obj)}{H:Hp}{s:Shared}{C:Addr}{σ:L2.St}{h':Heap}(G:Gone X pq H s C) (I:Inv X pq σ H s) (hsb:Heap.SameBut C s.heap h'):Inv X pq σ H { s with heap:=h' }:=
 I.turned (t':=s.toks) (λb o hb e=>(hsb.2 b hb).trans e) G.free G.loc (.inr G.big) G.cel G.pin
def vX (te:TE) (D:Addr):TEm:=λσ H Q=>te σ H λy H4=>∃ys,H4 D=some (.lst ys)/\ys.length<sizeLine/\Q σ (upd H4 D (.lst (ys++[y])))
theorem jD {tg iter elt:Expr}{ifs:List Expr}{scope:Scope}{pos:Pos}{N:List Str}{cap:List Nat}{nl:Nat}{wi:TI}{g:TG}{tt:TT}{te:TE}(hc:X.calm=true) (hN:X.N.Nodup) (CS:CompScope X.env.scope X.N scope N cap nl) (hi:PI X tg iter wi)
  (hb:∀cl s H fp,PG (cxC X N scope cl s H fp) tg g/\PTs (cxC X N scope cl s H fp) ifs tt/\PE (cxC X N scope cl s H fp) elt te)
  (hs:∀x,foldedSetIterable iter X.env x=pure x:=by intro _;rfl):PE X (.ListComp elt [⟨tg,iter,ifs,0⟩] scope pos) (qU wi g tt te cap nl):=by
 intro pq s σ H Q I h;rw[eval_ListComp];refine Ud (te:=vX te) (act:=λacc env k=>(do let _ <-call (.builtin "list.append") [acc,<-eval elt env]:Sem Unit) >>= λ_=>k) hc hN CS hi (λ_ _ _=>rfl) (λcl s H fp=>⟨(hb cl s H fp).1,(hb cl s H fp).2.1,λD=>Qh (λ_ _ z=>z) (hb cl s H fp).2.2⟩) hs I h λD C H5 s6 I6 G q=>?_
 obtain⟨m6,hn6⟩:=G.ns;exact⟨m6,hn6,λh' hsb=>⟨.ref D,H5,G.inv I6 hsb,rfl,q⟩⟩
theorem u9 {tg iter elt:Expr}{ifs:List Expr}{scope:Scope}{pos spos py:Pos}{N:List Str}{cap:List Nat}{nl:Nat}{wi:TI}{g:TG}{tt:TT}{te:TE}{i:Nat}{y:Str}(hc:X.calm=true) (hN:X.N.Nodup) (CS:CompScope X.env.scope X.N scope N cap nl) (hi:PI X tg iter wi)
  (hb:∀cl s H fp,PG (cxC X N scope cl s H fp) tg g/\PTs (cxC X N scope cl s H fp) ifs tt/\PE (cxC X N scope cl s H fp) elt te)
  (hsw:swapsWith (.ListComp elt [⟨tg,iter,ifs,0⟩] scope pos) (some (.Name y py)) spos.line X.env=pure true)
  (hy:X.N[i]? = some y) (hx:L2.Loc X.env.scope y) (hf:X.fn y=true\/X.env.scope.names.lookup y=some .local)
  (hs:∀x,foldedSetIterable iter X.env x=pure x:=by intro _;rfl):PS X (.Assign [.Name y py] (.ListComp elt [⟨tg,iter,ifs,0⟩] scope pos) spos) (λD σ H=>qU wi g tt te cap nl σ H λv H1=>D.nx (σ.set i (some v)) H1):=by
 intro pq s σ H D I h;rw[exec_Assign_Name_used _ _ _ _ hsw];refine Pa (NS (Pa ?_));show wpAny _ X.A (do let _ <-comprehension (.ListComp elt [⟨tg,iter,ifs,0⟩] scope pos) scope X.env _ (newList []) false (eval iter X.env) (some (assign (.Name y py) X.env))) _ _ s;refine Pa (Nv (Ud (use:=some (assign (.Name y py) X.env)) (QQ:=λ_ s'=>SP X pq D .next s') (Q:=λv H1=>D.nx (σ.set i (some v)) H1) (te:=vX te) (act:=λacc env k=>(do let _ <-call (.builtin "list.append") [acc,<-eval elt env]:Sem Unit) >>= λ_=>k) hc hN CS hi (λ_ _ _=>rfl) (λcl s H fp=>⟨(hb cl s H fp).1,(hb cl s H fp).2.1,λD=>Qh (λ_ _ z=>z) (hb cl s H fp).2.2⟩) hs I h λA C H5 s6 I6 G q=>?_) (λ_ s' hq=>Pi (Pi hq)) λ_ _ e=>e)
 show wpAny _ X.A (assign (.Name y py) X.env (.ref A)) _ _ s6;refine wpAny_assign_Name (VX (v:=V.ref A) I6 hN hy hx rfl (λs7 I7 ⟨a,hsb,ha⟩=>?_) hf)
 have hCa:C≠a:=by
  rcases ha with e | e
  ·rw[e];exact G.loc
  ·exact Ne.symm (G.cel y a e)
 obtain⟨m6,hn6⟩:=G.ns;have G7:Gone X pq H5 s7 C:=⟨G.free,⟨m6,hn6.sameBut hsb hCa⟩,G.loc,G.big,G.cel,G.pin⟩;exact⟨m6,hn6.sameBut hsb hCa,λh' hs'=>⟨σ.set i (some (.ref A)),H5,G7.inv I7 hs',q⟩⟩
def J1 (wi:TI) (g:TG) (tt:TT) (te:TEm):TEm:=λσ H Q=>wi σ H λJ H1=>∃W:Nat->Nat->L2.St->Hp->Prop,(∃m,W 0 m σ H1)/\xL J g tt te W Q
theorem xf {Y:Cx}{elt t2 i2:Expr}{gens:List Comprehension}{scope:Scope}{pos:Pos}{f2:List Expr}{act:Sem Fin->Sem Fin}{acc:Value}{wi:TI}{g:TG}{tt:TT}{te:TEm}(hc:Y.calm=true) (hx:∀a b,Y.xe a b->False) (hi:PI Y t2 i2 wi) (hg:PG Y t2 g) (ht:PTs Y f2 tt) (he:zT Y act te)
  (hs:∀x,foldedSetIterable i2 Y.env x=pure x)
  (hstart:∀(it:Value) (R:Result->Shared->Prop) (s:Shared),codeAny (model Y.prog Y.w) Y.A (.compLoop (.ListComp elt gens scope pos) 1 it acc Y.env) R s->wpAny (model Y.prog Y.w) Y.A (pyIter it) (λit' s'=>codeAny (model Y.prog Y.w) Y.A (.compLoop (.ListComp elt gens scope pos) 1 it' acc Y.env) R s') (notedBy (model Y.prog Y.w) Y.A Y.env λx s'=>R (.error x) s') s->codeAny (model Y.prog Y.w) Y.A (.compStart (.ListComp elt gens scope pos) 1 it acc Y.env) R s)
  (hT:∀it,compTurn (.ListComp elt gens scope pos) 1 it acc Y.env=Vq i2.pos t2 f2 act it Y.env (.compLoop (.ListComp elt gens scope pos) 1 it acc Y.env)) :
  zT Y (λk=>do let x <-eval i2 Y.env;standAt i2.pos;let x <-foldedSetIterable i2 Y.env x;let _ <-runOwn (.compStart (.ListComp elt gens scope pos) 1 (<-holding [x] (pyIter x)) acc Y.env) Y.env;k) (J1 wi g tt te):=by
 intro pq s σ H Q k QF EE I h hk;refine Pa (Nv (hi pq s σ H _ I h) (λv s1 h1=>Pa (NS (Pa (Nk (hs v) (Pa (Nn (Nv h1 (λitv s2 h2=>?_) λ_ _ z=>(hx _ _ z).elim))))))) λ_ _ z=>(hx _ _ z).elim)
 obtain⟨it,fp,tn,J,H2,rfl,I2,T,st2,f2',W,⟨m0,w0⟩,turn⟩:=h2;have stat:∀{H':Hp},(∀b∈fp,H' b=none)->∀b∈fp,VC Y pq H' b:=λhn b hb=>⟨hn b hb,(f2' b hb).2⟩
 have loop:codeAny (model Y.prog Y.w) Y.A (.compLoop (.ListComp elt gens scope pos) 1 (.ref it) acc Y.env) (λr s'=>match r with | .ok f=>wpAny (model Y.prog Y.w) Y.A k QF EE s' | .error x=>cameBackBy (model Y.prog Y.w) Y.A Y.env EE x s') s2:=
  Jv (W:=W) (Q:=Q) hc hx (hT _) rfl rfl T hg ht he stat turn (λσ5 H5 s6 I6 qn=>hk s6 σ5 H5 I6 qn) I2 st2 (λb hb=>(f2' b hb).1) w0 rfl rfl
 exact Pa (wpAny_runOwn (hstart _ _ _ loop (T.self _ 0 _ _ _ st2 loop)))
theorem ZbT {prog:Program}{w:World}{A:Around}{R:Result->Shared->Prop}{s:Shared}{elt t1 i1 t2 i2:Expr}{f1 f2:List Expr}{scope:Scope}{pos:Pos}{it acc:Value}{env:Env}
  (h0:codeAny (model prog w) A (.compLoop (.ListComp elt [⟨t1,i1,f1,0⟩,⟨t2,i2,f2,0⟩] scope pos) 1 it acc env) R s)
  (h:wpAny (model prog w) A (pyIter it) (λit' s'=>codeAny (model prog w) A (.compLoop (.ListComp elt [⟨t1,i1,f1,0⟩,⟨t2,i2,f2,0⟩] scope pos) 1 it' acc env) R s') (notedBy (model prog w) A env λx s'=>R (.error x) s') s) :
  codeAny (model prog w) A (.compStart (.ListComp elt [⟨t1,i1,f1,0⟩,⟨t2,i2,f2,0⟩] scope pos) 1 it acc env) R s:=by
 refine codeAny_of_tree ?_;show wpAny _ _ ((compStart (.ListComp elt [⟨t1,i1,f1,0⟩,⟨t2,i2,f2,0⟩] scope pos) 1 it acc env).onRaise (λx=>do noteFrame x env;standAt theWindowsPlace)) _ _ s
 refine wpAny_notedAt ?_;unfold compStart;show wpAny _ _ (ask >>= _) _ _ s;refine Pa (wpAny_askSetting (wpAny_ite ?_));split
 ·first | exact Pa (Pi (Pi (And.intro rfl h0))) | exact Pi (And.intro rfl h0)
 ·first | exact Pa (Kg (Pa (NS (Pa (Nv h (λit' s' h'=>Pi (And.intro rfl h')) λ_ _ x=>x))))) | (refine Pa (Kg ?_);show wpAny _ _ (standAt i2.pos >>= _) _ _ s;exact Pa (NS (Pa (Nv h (λit' s' h'=>Pi (And.intro rfl h')) λ_ _ x=>x))))
theorem vx {t1 i1 t2 i2 elt:Expr}{f1 f2:List Expr}{scope:Scope}{pos spos py:Pos}{N:List Str}{cap:List Nat}{nl:Nat}{wi wj:TI}{g1 g2:TG}{tt1 tt2:TT}{te:TE}{i:Nat}{y:Str}(hc:X.calm=true) (hN:X.N.Nodup) (CS:CompScope X.env.scope X.N scope N cap nl) (hi:PI X t1 i1 wi)
  (hb:∀cl s H fp,PG (cxC X N scope cl s H fp) t1 g1/\PTs (cxC X N scope cl s H fp) f1 tt1/\PI (cxC X N scope cl s H fp) t2 i2 wj/\PG (cxC X N scope cl s H fp) t2 g2/\PTs (cxC X N scope cl s H fp) f2 tt2/\PE (cxC X N scope cl s H fp) elt te)
  (hsw:swapsWith (.ListComp elt [⟨t1,i1,f1,0⟩,⟨t2,i2,f2,0⟩] scope pos) (some (.Name y py)) spos.line X.env=pure true)
  (hy:X.N[i]? = some y) (hx:L2.Loc X.env.scope y) (hf:X.fn y=true\/X.env.scope.names.lookup y=some .local)
  (hs:∀x,foldedSetIterable i1 X.env x=pure x:=by intro _;rfl) (hs2:∀env x,foldedSetIterable i2 env x=pure x:=by intro _ _;rfl) :
  PS X (.Assign [.Name y py] (.ListComp elt [⟨t1,i1,f1,0⟩,⟨t2,i2,f2,0⟩] scope pos) spos) (λD σ H=>xq wi g1 tt1 (λD=>J1 wj g2 tt2 (vX te D)) cap nl σ H λv H1=>D.nx (σ.set i (some v)) H1):=by
 intro pq s σ H D I h;rw[exec_Assign_Name_used _ _ _ _ hsw];refine Pa (NS (Pa ?_));show wpAny _ X.A (do let _ <-comprehension (.ListComp elt [⟨t1,i1,f1,0⟩,⟨t2,i2,f2,0⟩] scope pos) scope X.env _ (newList []) false (eval i1 X.env) (some (assign (.Name y py) X.env))) _ _ s;refine Pa (Nv (Ud (use:=some (assign (.Name y py) X.env)) (QQ:=λ_ s'=>SP X pq D .next s') (Q:=λv H1=>D.nx (σ.set i (some v)) H1) (te:=λD=>J1 wj g2 tt2 (vX te D)) (act:=λacc env k=>do let x <-eval i2 env;standAt i2.pos;let x <-foldedSetIterable i2 env x;let _ <-runOwn (.compStart (.ListComp elt [⟨t1,i1,f1,0⟩,⟨t2,i2,f2,0⟩] scope pos) 1 (<-holding [x] (pyIter x)) acc env) env;k) hc hN CS hi (λ_ _ _=>rfl) (λcl s H fp=>?_) hs I h λA C H5 s6 I6 G q=>?_) (λ_ s' hq=>Pi (Pi hq)) λ_ _ e=>e)
 ·obtain⟨a1,a2,a3,a4,a5,a6⟩:=hb cl s H fp
  exact⟨a1,a2,λD=>xf hc (λ_ _ z=>z) a3 a4 a5 (Qh (λ_ _ z=>z) a6) (λx=>hs2 _ x) (λit R s k1 k2=>ZbT k1 k2) λit=>rfl⟩
 show wpAny _ X.A (assign (.Name y py) X.env (.ref A)) _ _ s6;refine wpAny_assign_Name (VX (v:=V.ref A) I6 hN hy hx rfl (λs7 I7 ⟨a,hsb,ha⟩=>?_) hf)
 have hCa:C≠a:=by
  rcases ha with e | e
  ·rw[e];exact G.loc
  ·exact Ne.symm (G.cel y a e)
 obtain⟨m6,hn6⟩:=G.ns;have G7:Gone X pq H5 s7 C:=⟨G.free,⟨m6,hn6.sameBut hsb hCa⟩,G.loc,G.big,G.cel,G.pin⟩;exact⟨m6,hn6.sameBut hsb hCa,λh' hs'=>⟨σ.set i (some (.ref A)),H5,G7.inv I7 hs',q⟩⟩
end
end Sd
namespace Sd
open PySem PySem.Spec PyProof.Rows L2
open Ev (D Ob Zc Lc R E Sm Calls Walk Fl Fn Bop Cop Ty Bf Mf ev evs evo evt evw tst run runs)
section
variable {X:Cx}{xw:Nat->Hp->Prop}{C:Calls}{e a b c tg it:Expr}{i j k:E}{pos p p' p2:Pos}
def CTs (X:Cx) (xw:Nat->Hp->Prop) (C:Calls) (ifs:List Expr) (is:List E):Prop:=PTs X ifs (tB3 X xw (evt C is))
theorem PTs.imp {X:Cx}{e:List Expr}{t t':TT}(h:PTs X e t) (k:∀σ H Q,t' σ H Q->t σ H Q):PTs X e t':=λpq s σ H Q I q=>h pq s σ H Q I (k σ H Q q)
theorem GE:CTs X xw C [] []:=PTs.imp jO λσ H Q ⟨ρ,l,S,st,lr,h⟩=>End.ok (rep:=XH) (show End X.K xw XH ρ H Q (.ok true S) from h) st rfl
theorem Za9 (σ:Lc) (S:Zc):evt C [i] σ S=tst C i σ S:=by
 show ((ev C i σ S).bind λx S=>(Ev.ob (Ev.ZM S x) S).bind λb S=>if b then evt C [] σ S else .ok false S)=(ev C i σ S).bind λx S=>Ev.ob (Ev.ZM S x) S
 congr 1
 funext x S
 cases Ev.ZM S x with
 |none=>rfl
 |some b=>cases b <;> rfl
theorem Gh (h:CT X xw C c i):CTs X xw C [c] [i]:=PTs.imp (ZaD h) λσ H Q ⟨ρ,l,S,st,lr,h⟩=>⟨ρ,l,S,st,lr,by rw[<-Za9];exact h⟩
theorem LocR.caught {ρ:List Addr}{H:Hp}{l:Lc}{σ:L2.St}(lr:LocR ρ H l σ) (cap:List Nat) (nl:Nat):LocR ρ H (Ev.caught cap nl l) (Y5 cap nl σ):=by
 refine⟨by unfold Ev.caught Y5;simp,λn d e=>?_⟩
 unfold Ev.caught at e;by_cases hn:n<nl
 ·rw[PB (by simp;exact hn),Nm,Ph hn] at e
  cases e
 ·rw[PQ (by simp;omega),Nu,PM] at e
  unfold Y5;rw[PQ (by simp;omega),Nu,PM]
  cases q:cap[n-nl]? with
  |none=>rw[q] at e;cases e
  |some m=>
   rw[q] at e;have e':(l[m]?).join=some d:=Pb e;have:l[m]? = some (some d):=by
    cases z:l[m]? with
    |none=>rw[z] at e';cases e'
    |some o=>rw[z] at e';cases o with
     |none=>cases e'
     |some w=>cases e';rfl
   obtain⟨v,hv,r⟩:=lr.val m d this;exact⟨v,by show some ((σ[m]?).join)=_;rw[hv];rfl,r⟩
theorem GT {is:List E}{ie:E}{cap:List Nat}{nl:Nat}{w:Ev.W}{t:List Nat}{σ:L2.St}{H:Hp}{Q:VK}(hyp:tE X xw (ev C (.comp1 cap nl t w is ie)) σ H Q):qU (tW3 X xw (evw C w)) (tG3 X t) (tB3 X xw (evt C is)) (tE X xw (ev C ie)) cap nl σ H Q:=by
  obtain⟨ρ,l,S,st,lr,h⟩:=hyp;rw[ev] at h;refine⟨ρ,l,S,st,lr,h.bind λwk S1 ρ1 H1 J f1 st1 r1 h1=>λD hD=>?_⟩
  have st2:St3 X.K (ρ1++[D]) (S1++[.lst []]) (upd H1 D (.lst [])):=st1.new hD ⟨[],Yh,Rq.nil⟩;have f2:Fut ρ1 H1 (ρ1++[D]) (upd H1 D (.lst [])):=VJ hD;have pD:(ρ1++[D])[S1.length]? = some D:=by rw[<-st1.len];simp
  let B:Ev.D->Lc->Zc->R Lc:=λx σ S2=>(Ev.ob (Ev.assign t x S2 σ) S2).bind λσ S2=>(evt C is σ S2).bind λb S2=>if b then (ev C ie σ S2).bind λy S2=>(Ev.push S1.length y S2).bind λ_ S2=>.ok σ S2 else .ok σ S2
  have h2:End X.K xw Rep ρ1 H1 Q ((Ev.Yt wk B wk.items (Ev.caught cap nl l) (S1++[.lst []])).bind λ_ S2=>.ok (.loc S1.length) S2):=h1
  refine⟨λn m σ' H'=>m=wk.items.length-n/\n<=wk.items.length/\∃ρ' l' S',Fut (ρ1++[D]) (upd H1 D (.lst [])) ρ' H'/\St3 X.K ρ' S' H'/\LocR ρ' H' l' σ'/\End X.K xw Rep ρ' H' Q ((Ev.Yt wk B (wk.items.drop n) l' S').bind λ_ S2=>.ok (.loc S1.length) S2),
   ⟨wk.items.length,rfl,Ka _,ρ1++[D],Ev.caught cap nl l,S1++[Ob.lst []],Fut.refl _ _,st2,(((lr.mono f1).mono f2).caught cap nl),by rw[KW];exact End.mono f2 h2⟩,?_⟩
  rintro n m σ' H' ⟨rfl,hn,ρ',l',S',f',st',lr',e'⟩
  by_cases hlt:n<wk.items.length
  ·right
   have hd:wk.items.drop n=wk.items[n]::wk.items.drop (n+1):=NL hlt;rw[hd] at e';have e2:End X.K xw Rep ρ' H' Q ((if wk.still S'=true then (B wk.items[n] l' S').bind λσ S=>Ev.Yt wk B (wk.items.drop (n+1)) σ S else .no).bind λ_ S2=>.ok (.loc S1.length) S2):=e'
   by_cases hst:wk.still S'=true
   ·rw[Ph hst] at e2
    obtain⟨go,yl⟩:=r1.go n ρ' S' H' (f2.trans f') st' hst hlt;refine⟨go,λx H3 y=>?_⟩
    obtain⟨f3,st3,rp⟩:=yl x H3 y;have rx:=rp _ (Pd hlt);have e3:=End.mono f3 e2;have ff:=f'.trans f3;cases ha:Ev.assign t wk.items[n] S' l' with
    |none=>
     have z:B wk.items[n] l' S'=.no:=by show (Ev.ob (Ev.assign t wk.items[n] S' l') S').bind _=_;rw[ha];rfl
     rw[z] at e3;exact False.elim e3
    |some l2=>
     have z:B wk.items[n] l' S'=(evt C is l2 S').bind λb S2=>if b then (ev C ie l2 S2).bind λy S2=>(Ev.push S1.length y S2).bind λ_ S2=>.ok l2 S2 else .ok l2 S2:=by
      show (Ev.ob (Ev.assign t wk.items[n] S' l') S').bind _=_;rw[ha];rfl
     rw[z] at e3;simp only[Yr] at e3;refine⟨ρ',l',S',wk.items[n],l2,st3,lr'.mono f3,rx,ha,λσ2 lr2=>⟨ρ',l2,S',st3,lr2,e3.bind λok S4 ρ4 H4 ok' f4 st4 ro h4=>?_⟩⟩
     have eo:ok=ok':=ro;subst eo;cases ok with
     |false=>
      rw[Pj Px];exact⟨wk.items.length-(n+1),by omega,rfl,hlt,ρ4,l2,S4,ff.trans f4,st4,lr2.mono f4,h4⟩
     |true=>
      rw[Ph rfl];have h5:End X.K xw Rep ρ4 H4 Q (((ev C ie l2 S4).bind λy S2=>(Ev.push S1.length y S2).bind λ_ S2=>.ok l2 S2).bind λa S=>(Ev.Yt wk B (wk.items.drop (n+1)) a S).bind λ_ S2=>.ok (.loc S1.length) S2):=h4
      simp only[Yr] at h5;refine⟨ρ4,l2,S4,st4,lr2.mono f4,h5.bind λy S5 ρ5 H5 v f5 st5 r5 h6=>?_⟩
      have p5:ρ5[S1.length]? = some D:=f5.at (f4.at (ff.at pD));cases q:Ev.Zj S5 S1.length with
      |none=>
       have z:Ev.push S1.length y S5=.no:=by unfold Ev.push;rw[q]
       rw[z] at h6;exact False.elim h6
      |some zs=>
       have z:Ev.push S1.length y S5=if zs.length<Ev.lim then .ok () (S5.set S1.length (.lst (zs++[y]))) else .no:=by unfold Ev.push;rw[q]
       rw[z] at h6;by_cases hl:zs.length<Ev.lim
       ·rw[Ph hl] at h6
        obtain⟨sn,a,xs,pa,hx,rz⟩:=st5.lst q;rw[p5] at pa;cases pa;refine⟨xs,hx,by rw[rz.length,<-Ww];exact hl,wk.items.length-(n+1),by omega,rfl,hlt,ρ5,l2,S5.set S1.length (.lst (zs++[y])),((ff.trans f4).trans f5).trans (YI hx),st5.wr p5 sn hx (rz.append (Rq.cons r5 Rq.nil)),((lr2.mono f4).mono f5).mono (YI hx),End.mono (YI hx) h6⟩
       ·rw[Pj hl] at h6
        exact False.elim h6
   ·rw[Pj hst] at e2
    exact False.elim e2
  ·left
   have en:n=wk.items.length:=by omega
   subst en;rw[List.drop_length] at e';have e2:End X.K xw Rep ρ' H' Q ((if wk.still S'=true then Ev.R.ok l' S' else .no).bind λ_ S2=>.ok (.loc S1.length) S2):=e'
   by_cases hst:wk.still S'=true
   ·rw[Ph hst] at e2
    exact⟨r1.stop ρ' S' H' (f2.trans f') st' hst,End.ok (rep:=Rep) (show End X.K xw Rep ρ' H' Q (.ok (.loc S1.length) S') from e2) st' (UC (f'.at pD))⟩
   ·rw[Pj hst] at e2
    exact False.elim e2
theorem QM {elt:Expr}{ifs:List Expr}{is:List E}{ie:E}{scope:Scope}{N:List Str}{cap:List Nat}{nl:Nat}{w:Ev.W}{t:List Nat}(hc:X.calm=true) (hN:X.N.Nodup) (CS:CompScope X.env.scope X.N scope N cap nl) (hi:CW X xw C tg it w)
  (hb:∀cl s H fp,CG (cxC X N scope cl s H fp) tg t/\CTs (cxC X N scope cl s H fp) xw C ifs is/\CE (cxC X N scope cl s H fp) xw C elt ie)
  (hs:∀x,foldedSetIterable it X.env x=pure x:=by intro _;rfl):CE X xw C (.ListComp elt [⟨tg,it,ifs,0⟩] scope pos) (.comp1 cap nl t w is ie):=
 PE.imp (jD (g:=tG3 X t) (tt:=tB3 X xw (evt C is)) (te:=tE X xw (ev C ie)) hc hN CS hi (λcl s H fp=>hb cl s H fp) hs) λσ H Q hyp=>GT hyp
theorem Qv {elt:Expr}{ifs:List Expr}{is:List E}{ie:E}{scope:Scope}{N:List Str}{cap:List Nat}{nl:Nat}{w:Ev.W}{t:List Nat}{n:Nat}{y:Str}{spos py:Pos}(hc:X.calm=true) (hN:X.N.Nodup) (CSc:CompScope X.env.scope X.N scope N cap nl) (hi:CW X xw C tg it w)
  (hb:∀cl s H fp,CG (cxC X N scope cl s H fp) tg t/\CTs (cxC X N scope cl s H fp) xw C ifs is/\CE (cxC X N scope cl s H fp) xw C elt ie)
  (hsw:swapsWith (.ListComp elt [⟨tg,it,ifs,0⟩] scope pos) (some (.Name y py)) spos.line X.env=pure true:=by rfl)
  (hy:X.N[n]? = some y:=by rfl) (hx:L2.Loc X.env.scope y:=by first | exact Or.inl rfl | exact Or.inr rfl) (hf:X.fn y=true\/X.env.scope.names.lookup y=some .local:=by first | exact .inl rfl | exact .inr rfl)
  (hs:∀x,foldedSetIterable it X.env x=pure x:=by intro _;rfl):CS X xw C (.Assign [.Name y py] (.ListComp elt [⟨tg,it,ifs,0⟩] scope pos) spos) (.asg [n] (.comp1 cap nl t w is ie)):=
 PS.imp (u9 (g:=tG3 X t) (tt:=tB3 X xw (evt C is)) (te:=tE X xw (ev C ie)) hc hN CSc hi (λcl s H fp=>hb cl s H fp) hsw hy hx hf hs) λD σ H ⟨ρ,l,S,st,lr,h⟩=>
  GT ⟨ρ,l,S,st,lr,Zy.bind (show Zy X.K xw ρ H D ((ev C (.comp1 cap nl t w is ie) l S).bind λx S=>(Ev.ob (Ev.assign [n] x S l) S).bind λσ S=>.ok (.nx σ) S) from h) λx S1 ρ1 H1 v f1 st1 r1 h1=>by
   obtain⟨l',hl',h2⟩:=Zy.ob h1;have e:l.set n (some x)=l':=Pb hl';exact Zy.nx h2 st1 (by rw[<-e];exact (lr.mono f1).set n r1)⟩
def LcR (ρ:List Addr) (H:Hp) (l:Lc) (σ:L2.St):Prop:=LocR ρ H l σ
noncomputable def Wf (C:Calls) (t:List Nat) (is:List E) (Em:Lc->Zc->R Lc) (x:D) (l:Lc) (S:Zc):R Lc:=(Ev.ob (Ev.assign t x S l) S).bind λl S=>(evt C is l S).bind λb S=>if b then Em l S else .ok l S
theorem G5 {ρ1:List Addr}{H1:Hp}{wk:Walk}{J:It}(r1:WRel X.K ρ1 H1 wk J) {t:List Nat}{is:List E}{te:TEm}{Em:Lc->Zc->R Lc}(P:List Addr->Prop) (hP:∀ρ ρ' H H',Fut ρ H ρ' H'->P ρ->P ρ')
  (hEm:∀ρ H l σ S Q,P ρ->St3 X.K ρ S H->LocR ρ H l σ->End X.K xw LcR ρ H Q (Em l S)->te σ H Q) {QQ:L2.St->Hp->Prop} {ρ:List Addr} {H:Hp} {l:Lc} {σ:L2.St} {S:Zc} (f:Fut ρ1 H1 ρ H) (hp:P ρ) (st:St3 X.K ρ S H) (lr:LocR ρ H l σ)
  (h:End X.K xw LcR ρ H QQ (Ev.Yt wk (Wf C t is Em) wk.items l S)):∃W:Nat->Nat->L2.St->Hp->Prop,(∃m,W 0 m σ H)/\xL J (tG3 X t) (tB3 X xw (evt C is)) te W QQ:=by
 refine⟨λn m σ' H'=>m=wk.items.length-n/\n<=wk.items.length/\∃ρ' l' S',Fut ρ1 H1 ρ' H'/\P ρ'/\St3 X.K ρ' S' H'/\LocR ρ' H' l' σ'/\End X.K xw LcR ρ' H' QQ (Ev.Yt wk (Wf C t is Em) (wk.items.drop n) l' S'),
  ⟨wk.items.length,rfl,Ka _,ρ,l,S,f,hp,st,lr,by rw[KW];exact h⟩,?_⟩
 rintro n m σ' H' ⟨rfl,hn,ρ',l',S',f',hp',st',lr',e'⟩
 by_cases hlt:n<wk.items.length
 ·right
  have hd:wk.items.drop n=wk.items[n]::wk.items.drop (n+1):=NL hlt;rw[hd] at e';have e2:End X.K xw LcR ρ' H' QQ (if wk.still S'=true then (Wf C t is Em wk.items[n] l' S').bind λσ S=>Ev.Yt wk (Wf C t is Em) (wk.items.drop (n+1)) σ S else .no):=e'
  obtain⟨hst,e2⟩:=End.guard e2;obtain⟨go,yl⟩:=r1.go n ρ' S' H' f' st' hst hlt;refine⟨go,λx H3 y=>?_⟩
  obtain⟨f3,st3,rp⟩:=yl x H3 y;have rx:=rp _ (Pd hlt);have e3:=End.mono f3 e2;have ff:=f'.trans f3;have p3:=hP _ _ _ _ f3 hp';cases ha:Ev.assign t wk.items[n] S' l' with
  |none=>
   have z:Wf C t is Em wk.items[n] l' S'=.no:=by unfold Wf;rw[ha];rfl
   rw[z] at e3;exact False.elim e3
  |some l2=>
   have z:Wf C t is Em wk.items[n] l' S'=(evt C is l2 S').bind λb S2=>if b then Em l2 S2 else .ok l2 S2:=by unfold Wf;rw[ha];rfl
   rw[z] at e3;simp only[Yr] at e3;refine⟨ρ',l',S',wk.items[n],l2,st3,lr'.mono f3,rx,ha,λσ2 lr2=>⟨ρ',l2,S',st3,lr2,e3.bind λok S4 ρ4 H4 ok' f4 st4 ro h4=>?_⟩⟩
   have eo:ok=ok':=ro;subst eo;have p4:=hP _ _ _ _ f4 p3;cases ok with
   |false=>
    rw[Pj Px];exact⟨wk.items.length-(n+1),by omega,rfl,hlt,ρ4,l2,S4,ff.trans f4,p4,st4,lr2.mono f4,h4⟩
   |true=>
    rw[Ph rfl];have h5:End X.K xw LcR ρ4 H4 QQ ((Em l2 S4).bind λa S=>Ev.Yt wk (Wf C t is Em) (wk.items.drop (n+1)) a S):=h4
    refine hEm ρ4 H4 l2 σ2 S4 _ p4 st4 (lr2.mono f4) (h5.bind λl3 S5 ρ5 H5 σ3 f5 st5 r5 h6=>?_)
    exact⟨wk.items.length-(n+1),by omega,rfl,hlt,ρ5,l3,S5,(ff.trans f4).trans f5,hP _ _ _ _ f5 p4,st5,r5,h6⟩
 ·left
  have en:n=wk.items.length:=by omega
  subst en;rw[List.drop_length] at e';have e2:End X.K xw LcR ρ' H' QQ (if wk.still S'=true then .ok l' S' else .no):=e'
  obtain⟨hst,e2⟩:=End.guard e2;exact⟨r1.stop ρ' S' H' f' st' hst,End.ok (rep:=LcR) e2 st' lr'⟩
noncomputable def emE (C:Calls) (n:Nat) (ie:E) (l:Lc) (S:Zc):R Lc:=(ev C ie l S).bind λy S=>(Ev.push n y S).bind λ_ S=>.ok l S
theorem Zb3 {ie:E}{n:Nat}{D:Addr}(ρ:List Addr) (H:Hp) (l:Lc) (σ:L2.St) (S:Zc) (Q:L2.St->Hp->Prop) (hp:ρ[n]? = some D) (st:St3 X.K ρ S H) (lr:LocR ρ H l σ) (h:End X.K xw LcR ρ H Q (emE C n ie l S)):vX (tE X xw (ev C ie)) D σ H Q:=by
 refine⟨ρ,l,S,st,lr,End.bind (show End X.K xw LcR ρ H Q ((ev C ie l S).bind _) from h) λy S5 ρ5 H5 v f5 st5 r5 h6=>?_⟩
 have p5:ρ5[n]? = some D:=f5.at hp;cases q:Ev.Zj S5 n with
 |none=>
  have z:Ev.push n y S5=.no:=by unfold Ev.push;rw[q]
  rw[z] at h6;exact False.elim h6
 |some zs=>
  have z:Ev.push n y S5=if zs.length<Ev.lim then .ok () (S5.set n (.lst (zs++[y]))) else .no:=by unfold Ev.push;rw[q]
  rw[z] at h6;by_cases hl:zs.length<Ev.lim
  ·rw[Ph hl] at h6
   obtain⟨sn,a,xs,pa,hx,rz⟩:=st5.lst q;rw[p5] at pa;cases pa;exact⟨xs,hx,by rw[rz.length,<-Ww];exact hl,(show End X.K xw LcR ρ5 H5 Q (.ok l (S5.set n (.lst (zs++[y])))) from h6) ρ5 _ σ (YI hx) (st5.wr p5 sn hx (rz.append (Rq.cons r5 Rq.nil))) ((lr.mono f5).mono (YI hx))⟩
  ·rw[Pj hl] at h6
   exact False.elim h6
theorem vm {is js:List E}{ie:E}{cap:List Nat}{nl:Nat}{w w2:Ev.W}{t u:List Nat}{σ:L2.St}{H:Hp}{Q:VK}(hyp:tE X xw (ev C (.comp2 cap nl t w is u w2 js ie)) σ H Q) :
  xq (tW3 X xw (evw C w)) (tG3 X t) (tB3 X xw (evt C is)) (λD=>J1 (tW3 X xw (evw C w2)) (tG3 X u) (tB3 X xw (evt C js)) (vX (tE X xw (ev C ie)) D)) cap nl σ H Q:=by
 obtain⟨ρ,l,S,st,lr,h⟩:=hyp;rw[ev] at h;refine⟨ρ,l,S,st,lr,h.bind λwk S1 ρ1 H1 J f1 st1 r1 h1=>λD hD=>?_⟩
 have st2:St3 X.K (ρ1++[D]) (S1++[.lst []]) (upd H1 D (.lst [])):=st1.new hD ⟨[],Yh,Rq.nil⟩;have f2:Fut ρ1 H1 (ρ1++[D]) (upd H1 D (.lst [])):=VJ hD;have pD:(ρ1++[D])[S1.length]? = some D:=by rw[<-st1.len];simp
 let Em:Lc->Zc->R Lc:=λl S2=>(evw C w2 l S2).bind λwk2 S2=>Ev.Yt wk2 (Wf C u js (emE C S1.length ie)) wk2.items l S2
 have h2:End X.K xw Rep ρ1 H1 Q ((Ev.Yt wk (Wf C t is Em) wk.items (Ev.caught cap nl l) (S1++[.lst []])).bind λ_ S2=>.ok (.loc S1.length) S2):=h1
 refine G5 r1 (λρ=>ρ[S1.length]? = some D) (λρ ρ' H H' f hp=>f.at hp) (λρ H l σ S Q hp st lr h=>?_) (Em:=Em) f2 pD st2 (((lr.mono f1).mono f2).caught cap nl) ((End.mono f2 h2).bind λl3 S3 ρ3 H3 σ3 f3 st3 r3 h3=>End.ok (rep:=Rep) h3 st3 (UC (f3.at pD)))
 exact⟨ρ,l,S,st,lr,End.bind (show End X.K xw LcR ρ H Q ((evw C w2 l S).bind λwk2 S2=>Ev.Yt wk2 (Wf C u js (emE C S1.length ie)) wk2.items l S2) from h) λwk2 S5 ρ5 H5 J5 f5 st5 r5 h5=>
  G5 r5 (λρ=>ρ[S1.length]? = some D) (λρ ρ' H H' f hp=>f.at hp) (λρ H l σ S Q hp st lr h=>Zb3 ρ H l σ S Q hp st lr h) (Fut.refl _ _) (f5.at hp) st5 (lr.mono f5) h5⟩
theorem V9 {elt t1 i1 t2 i2:Expr}{f1' f2':List Expr}{is js:List E}{ie:E}{scope:Scope}{N:List Str}{cap:List Nat}{nl:Nat}{w w2:Ev.W}{t u:List Nat}{n:Nat}{y:Str}{spos py:Pos}(hc:X.calm=true) (hN:X.N.Nodup) (CSc:CompScope X.env.scope X.N scope N cap nl) (hi:CW X xw C t1 i1 w)
  (hb:∀cl s H fp,CG (cxC X N scope cl s H fp) t1 t/\CTs (cxC X N scope cl s H fp) xw C f1' is/\CW (cxC X N scope cl s H fp) xw C t2 i2 w2/\CG (cxC X N scope cl s H fp) t2 u/\CTs (cxC X N scope cl s H fp) xw C f2' js/\CE (cxC X N scope cl s H fp) xw C elt ie)
  (hsw:swapsWith (.ListComp elt [⟨t1,i1,f1',0⟩,⟨t2,i2,f2',0⟩] scope pos) (some (.Name y py)) spos.line X.env=pure true:=by rfl)
  (hy:X.N[n]? = some y:=by rfl) (hx:L2.Loc X.env.scope y:=by first | exact Or.inl rfl | exact Or.inr rfl) (hf:X.fn y=true\/X.env.scope.names.lookup y=some .local:=by first | exact .inl rfl | exact .inr rfl)
  (hs:∀x,foldedSetIterable i1 X.env x=pure x:=by intro _;rfl) (hs2:∀env x,foldedSetIterable i2 env x=pure x:=by intro _ _;rfl) :
  CS X xw C (.Assign [.Name y py] (.ListComp elt [⟨t1,i1,f1',0⟩,⟨t2,i2,f2',0⟩] scope pos) spos) (.asg [n] (.comp2 cap nl t w is u w2 js ie)):=
 PS.imp (vx (wj:=tW3 X xw (evw C w2)) (g1:=tG3 X t) (tt1:=tB3 X xw (evt C is)) (g2:=tG3 X u) (tt2:=tB3 X xw (evt C js)) (te:=tE X xw (ev C ie)) hc hN CSc hi (λcl s H fp=>hb cl s H fp) hsw hy hx hf hs hs2) λD σ H ⟨ρ,l,S,st,lr,h⟩=>
  vm ⟨ρ,l,S,st,lr,Zy.bind (show Zy X.K xw ρ H D ((ev C (.comp2 cap nl t w is u w2 js ie) l S).bind λx S=>(Ev.ob (Ev.assign [n] x S l) S).bind λσ S=>.ok (.nx σ) S) from h) λx S1 ρ1 H1 v f1 st1 r1 h1=>by
   obtain⟨l',hl',h2⟩:=Zy.ob h1;have e:l.set n (some x)=l':=Pb hl';exact Zy.nx h2 st1 (by rw[<-e];exact (lr.mono f1).set n r1)⟩
end
theorem LocR.start {ρ:List Addr}{H:Hp}{ds:List D}{vs:List V}(r:Rq ρ H ds vs) (N:List Str) (n:Nat) (hn:n=N.length):LocR ρ H (Ev.start n ds) (L2.start N vs):=by
 subst hn;have hl:=r.length;refine⟨by unfold Ev.start L2.start;simp[hl],λi d e=>?_⟩
 unfold Ev.start at e;by_cases hi:i<ds.length
 ·rw[PB (by simpa using hi),PM] at e
  cases q:ds[i]? with
  |none=>rw[q] at e;cases e
  |some d'=>
   rw[q] at e;cases e;obtain⟨v,hv,r'⟩:=r.get q;refine⟨v,?_,r'⟩;unfold L2.start;rw[PB (by simp;omega),PM,hv]
   rfl
 ·rw[PQ (by simp;omega),Nm] at e
  split at e <;> cases e
section
variable {P:Program}{w:World}{K:PySem.W.Frag}{mg:Str->Option Value}{base:Heap}
theorem Zac {F:List Fn}{n d:Nat}{fn:Fn}{x qual:Str}{st:Stmt}{f:Addr}{fd:FuncData}{N ps:List Str}{k:Nat}(hF:F[n]? = some fn) (hns:fn.ns=N.length) (hps:fn.ps=ps.length) (Fu:Fun K x qual st f fd) (S:FnScope N ps (ZG st))
  (hb:∀(cdv:Value) (A:Around) (outer:List Env) (s:Shared) (H:Hp) (E:XK),Room k (A.deeper (envOfC qual (ZG st) s.heap.objs.size f cdv))->
   CSs (GX CX0 P w K mg base N qual (ZG st) f cdv A outer s H E).nox (λ_ _=>False) (Ev.ZH F d) (Yv st) fn.body) :
  FnOk P w K mg base CX0 (k+1) f fd ps (spF K (Ev.ZH F (d+1)) n):=by
 have eq:∀ds S,Ev.ZH F (d+1) n ds S=if ds.length=fn.ps then (runs (Ev.ZH F d) fn.body (Ev.start fn.ns ds) S).bind λf S=>match f with
    |.ret x=>.ok x S
    |.nx _=>.ok .non S
    |_=>.no
   else .no:=λds S=>by
  rw[Ev.ZH,hF]
  all_goals rfl
 refine Fu.ok S (λvs H Q E ⟨ρ,ds,S,st,r,h⟩=>?_) λcdv A outer s H vs Q E hr ⟨ρ,ds,S',st,r,h⟩=>⟨_,hb cdv A outer s H E hr,ρ,Ev.start fn.ns ds,S',st,LocR.start r N fn.ns hns,?_⟩
 ·rw[eq] at h
  obtain⟨hl,_⟩:=End.guard h;rw[r.length,hl,hps]
 ·rw[eq] at h
  obtain⟨hl,h⟩:=End.guard h;cases q:runs (Ev.ZH F d) fn.body (Ev.start fn.ns ds) S' with
  |no=>rw[q] at h;exact h
  |ex c S2=>rw[q] at h;exact h
  |ok fl S2=>
   rw[q] at h;cases fl with
   |ret x=>exact λρ' H' v g st r=>h ρ' H' v g st r
   |nx l=>exact λρ' H' σ' g st lr=>h ρ' H' .non g st WC
   |brk l=>exact False.elim h
   |cnt l=>exact False.elim h
theorem xB {F:List Fn}{n k:Nat}{f:Addr}{fd:FuncData}{ps:List Str}:FnOk P w K mg base CX0 k f fd ps (spF K (Ev.ZH F 0) n):=
 ⟨λvs H Q E ⟨ρ,ds,S,st,r,h⟩=>False.elim h,λA outer s H args us vs Q E hr e0 hb r ⟨ρ,ds,S,st,r',h⟩=>False.elim h⟩
end
section
variable {prog:Program}{w:World}{A:Around}{E:Value->Shared->Prop}{s:Shared}
theorem vM (n:Nat):Builtin.Slice.slicePlaces ((n:Int)-1) (-1) (-1)=n:=by
 unfold Builtin.Slice.slicePlaces;have h1:¬((-1:Int)>0):=by decide
 rw[Pj h1];by_cases h:(n:Int)-1 > -1
 ·rw[Ph h,show (- -1:Int)=1 by decide,Int.ediv_one]
  omega
 ·rw[Pj h]
  omega
theorem Ug {sl:Addr}{vk:Value}{n:Nat}{Q:Int×Int×Nat->Shared->Prop}(hs:s.heap.IsSliceOf sl .none .none vk) (pk:IsPart vk (some (-1)))
  (h:Q ((n:Int)-1,-1,n) s):wpAny (model prog w) A (Builtin.Slice.sliceApplied (.ref sl) (pure (n:Int))) Q E s:=by
 obtain⟨os,hos,hcs,hds⟩:=id hs;unfold Builtin.Slice.sliceApplied Builtin.Slice.sliceFields;refine Pa (Pa (P6 hos hds (x:=.none) rfl (Pa (P6 hos hds (x:=.none) rfl (Pa (P6 hos hds (x:=vk) rfl (Pi ?_)))))));refine Pa (HT.Vb pk ?_);show wpAny _ _ (if ((-1:Int) == 0)=true then _ else _) _ _ s
 rw[Pj (by decide)]
 refine Pa (slicePart_none (Pa (slicePart_none (Pa (Pi ?_)))));show wpAny _ _ (pure ((n:Int)-1,(-1:Int),Builtin.Slice.slicePlaces ((n:Int)-1) (-1) (-1))) _ _ s;rw[vM];exact Pi h
theorem qC (xs:Array Value):((List.range xs.size).filterMap λ(k:Nat)=>xs[((xs.size:Int)-1+(k:Int) * -1).toNat]?).toArray=xs.toList.reverse.toArray:=by
 congr 1
 have e:(List.range xs.size).filterMap (λ(k:Nat)=>xs[((xs.size:Int)-1+(k:Int) * -1).toNat]?)=((List.range xs.size).map λk=>xs.size-1-k).filterMap (xs[·]?):=by
  rw[List.filterMap_map]
  congr 1
  funext k
  have:((xs.size:Int)-1+(k:Int) * -1).toNat=xs.size-1-k:=by omega
  rw[this];rfl
 rw[e,PySem.W.krv_range,List.filterMap_reverse,PySem.W.krv_all]
theorem VQ {t sl:Addr}{items:Array Value}{vk:Value}{Q:Value->Shared->Prop}(ht:IsTup s.heap t items) (hs:s.heap.IsSliceOf sl .none .none vk) (pk:IsPart vk (some (-1)))
  (h:Q (.ref s.heap.objs.size) { s with heap:=s.heap.push { cls:=.type "tuple",data:=.seq items.toList.reverse.toArray } })
  (hsz:items.size<=sizeLine):wpAny (model prog w) A (getItem (.ref t) (.ref sl)) Q E s:=by
 have htake:sizeOk (.seq items.toList.reverse.toArray):=by
  show items.toList.reverse.toArray.size<=sizeLine;rw[Pg,List.length_reverse,NG];exact hsz
 obtain⟨os,hos,hcs,hds⟩:=id hs;have hTs:s.TypeIs (.ref sl) "slice":=⟨os,hos,hcs⟩;unfold getItem
 try with_reducible refine Nn ?_
 first | refine Pa (Pi ?_) | skip
 refine Pa (wpAny_sequenceKey ht.typeIs (by decide) ?_)
 refine Pa (Nh (name:=Str.ofString "__getitem__") ht.typeIs Nj
  (Nt Nj ht.typeIs entry_tuple_getitem ?_ (args_tuple_getitem _ _)))
 show wpAny _ _ (Builtin.Tuple.tupleItemsOf (.ref t) >>= _) _ _ s;refine Pa (tupleItemsOf_ ht ?_);refine Pa (wpAny_typeOf hTs ?_);rw[Ph (by decide)]
 refine Pa (Ug hs pk ?_);have hno:¬(((items.size:Int)-1 == 0&&(-1:Int) == 1&&items.size == items.size)=true):=by
  intro q;rw[Pp,Pp] at q;exact absurd q.1.2 (by decide)
 show wpAny _ _ (if ((items.size:Int)-1 == 0&&(-1:Int) == 1&&items.size == items.size)=true then _ else _) _ _ s
 rw[Pj hno,qC]
 first
  |exact Pa (m:=Builtin.Tuple.tupleExact _) (PV (Pi ⟨_,rfl,Pi h⟩) htake)
  |exact Pa (m:=Builtin.Tuple.tupleExact _) (PV (Pa (Pi (Pi ⟨_,rfl,Pi h⟩))) htake)
  |exact Pa (Pa (m:=Builtin.Tuple.tupleExact _) (PV (Pi (Pi ⟨_,rfl,Pi h⟩)) htake))
  |exact Pa (Pa (m:=Builtin.Tuple.tupleExact _) (PV (Pi ⟨_,rfl,Pi h⟩) htake))
end
section
variable {X:Cx}{xw:Nat->Hp->Prop}{C:Calls}{e a b c tg it:Expr}{i j k:E}{pos p p' p2 p3:Pos}{q1:Option Str}
theorem yQ {e1:Expr}(ha:CE X xw C a i) (h1:CE X xw C e1 (.neg (.c (.int 1)))):CE X xw C (.Subscript a (.Slice none none (some e1) p2) pos) (.rev i):=by
 intro pq s σ H Q I hq;obtain⟨ρ,l,S,st,lr,h⟩:=hq;have h':End X.K xw Rep ρ H Q ((ev C i l S).bind λx S=>Ev.reversed x S):=h
 refine Subscript_ (thn (ha pq s σ H (λx H1=>∃ρ1 S1 d,St3 X.K ρ1 S1 H1/\LocR ρ1 H1 l σ/\Rep ρ1 H1 d x/\End X.K xw Rep ρ1 H1 Q (Ev.reversed d S1)) I ⟨ρ,l,S,st,lr,h'.bind λd S1 ρ1 H1 v f1 st1 r1 h1=>⟨ρ1,S1,d,st1,lr.mono f1,r1,h1⟩⟩) λv s1 ⟨x,H1,I1,r1,ρ1,S1,d,st1,lr1,rd,h2⟩=>?_)
 refine wpAny_Slice ?_;rw[evalPart_none];refine Pi (Pi ?_);rw[evalPart_some];refine thn (h1 pq s1 σ H1 (λy H2=>y=.int (-1)/\∃ρ2,Fut ρ1 H1 ρ2 H2/\St3 X.K ρ2 S1 H2) I1 ⟨ρ1,l,S1,st1,lr1,λρ2 H2 y f2 st2 ry=>⟨ry.int',ρ2,f2,st2⟩⟩) λvk s2 ⟨y,H2,I2,ry,ey,ρ2,f2,st2⟩=>?_
 subst ey;obtain⟨t,rfl⟩:=ry;have rd2:=rd.mono f2;have h3:=End.mono f2 h2;cases d with
 |tup ds=>
  obtain⟨q,xs,rfl,hp,rs⟩:=rd2.tup';cases r1;have I4:Inv X pq σ H2 { s2 with heap:=s2.heap.push { cls:=.type "slice",data:=.fields #[.none,.none,.int (-1) t] } }:=I2.kept (t':=s2.toks) λb ob q=>Pf _ q
  obtain⟨its,r,ht,hz⟩:=I4.tuple (SqT.of hp);have hlen:its.toArray.size=xs.length:=by rw[Pg];exact r.length.symm
  show wpAny (model X.prog X.w) X.A (subscriptTail a (.Slice none none (some e1) p2) (.ref q) (.ref s2.heap.objs.size)) (EP X pq σ Q) X.xe { s2 with heap:=s2.heap.push { cls:=.type "slice",data:=.fields #[.none,.none,.int (-1) t] } }
  refine tail_any (ops:=[.ref q,.ref s2.heap.objs.size]) ht.typeIs PyProof.Rows.slot_tuple_getitem.lookup ?_ (by with_unfolding_all rfl)
  refine VQ ht (Heap.IsSliceOf.new ..) (IsPart.int _ _) ?_ (by rw[hlen];exact hz)
  refine⟨.ref _,_,I4.laid (t':=s2.toks) (o:=.tup xs.reverse) (λb ob q=>Pf _ q) (Pk _) ⟨by rw[List.length_reverse];exact hz,_,r.reverse,Kz _ _⟩,rfl,h3.newT st2 rs.reverse _ (I4.hok.fresh (Pk _))⟩
 |_=>exact False.elim h3
end
section
variable {es:List Expr}{env:Env}
theorem zr {a b c}:starEach (.Constant a b c::es) env=(false,eval (.Constant a b c) env)::starEach es env:=rfl
theorem wb {a b}:starEach (.Name a b::es) env=(false,eval (.Name a b) env)::starEach es env:=rfl
theorem uH {a b c}:starEach (.Tuple a b c::es) env=(false,eval (.Tuple a b c) env)::starEach es env:=rfl
theorem ja {a b c d}:starEach (.BinOp a b c d::es) env=(false,eval (.BinOp a b c d) env)::starEach es env:=rfl
theorem Zbl {a b c}:starEach (.UnaryOp a b c::es) env=(false,eval (.UnaryOp a b c) env)::starEach es env:=rfl
theorem v9 {a b c d}:starEach (.Compare a b c d::es) env=(false,eval (.Compare a b c d) env)::starEach es env:=rfl
theorem qR {a b c}:starEach (.Subscript a b c::es) env=(false,eval (.Subscript a b c) env)::starEach es env:=rfl
theorem wz {a b c d}:starEach (.Call a b c d::es) env=(false,eval (.Call a b c d) env)::starEach es env:=rfl
theorem wl {a b c d}:starEach (.ListComp a b c d::es) env=(false,eval (.ListComp a b c d) env)::starEach es env:=rfl
end
def Xz:List DictEntry->List (Int×Int)->Prop
 |[],[]=>True
 |e::r,(k,j)::q=>(∃t,e.key=.int k t)/\e.hash=hashInt k/\(∃u,e.val=.int j u)/\Xz r q
 |_,_=>False
theorem Xz.mem {P:Program}{w:World}:∀{es:List DictEntry}{tab:List (Int×Int)},Xz es tab->∀e∈es,∃k,(intKind P w).is k e.key=true/\e.hash=(intKind P w).hash k
 |[],_,_,e,h=>by cases h
 |e::r,[],h,_,_=>h.elim
 |e::r,(k,j)::q,h,x,hx=>by
  obtain⟨⟨t,h1⟩,h2,_,h4⟩:=h;rcases Po.mp hx with rfl | hx
  ·exact⟨k,by rw[h1];exact intKind_is P w k t,h2⟩
  ·exact Xz.mem h4 x hx
theorem Xz.find {P:Program}{w:World}(k:Int):∀{es:List DictEntry}{tab:List (Int×Int)},Xz es tab->(tab.lookup k=none->(es.find? λe=>(intKind P w).is k e.key)=none)/\∀j,tab.lookup k=some j->∃e t,(es.find? λe=>(intKind P w).is k e.key)=some e/\e.val=.int j t
 |[],[],_=>⟨λ_=>rfl,λj h=>by cases h⟩
 |[],_::_,h=>h.elim
 |e::r,[],h=>h.elim
 |e::r,(k',j')::q,h=>by
  obtain⟨⟨t,h1⟩,h2,⟨u,h3⟩,h4⟩:=h;obtain⟨i1,i2⟩:=Xz.find (P:=P) (w:=w) k h4;rw[P9,List.find?_cons];have hd:(intKind P w).is k e.key=decide (k=k'):=KeyKind.is_eq_decide (by rw[h1];exact intKind_is P w k' t) k
  rw[hd];by_cases z:k=k'
  ·subst z
   rw[NT,PJ rfl];exact⟨λz=>(by cases z),λj z=>(by cases z;exact⟨e,u,rfl,h3⟩)⟩
  ·rw[NR.mpr z,PX z]
   exact⟨i1,i2⟩
theorem ZaU {P:Program}{w:World}{K:PySem.W.Frag}{a:Addr}{es:Array DictEntry}{n:Nat}{tab:List (Int×Int)}(hl:K.lookup a=some ⟨.type "dict",none,.dict es n,#[]⟩) (ht:Xz es.toList tab) (ha:(a == sysModules)=false):jW P w K a tab:=by
 refine⟨ha,λk=>findBy (intKind P w).is es k,λh X=>⟨_,es,n,X _ _ hl,⟨rfl,rfl,rfl⟩,rfl,λe he=>ht.mem e (Array.mem_toList_iff.mpr he),λ_=>rfl⟩,λk=>?_⟩
 obtain⟨l⟩:=es;obtain⟨i1,i2⟩:=Xz.find (P:=P) (w:=w) k ht;refine⟨λz=>?_,λj z=>?_⟩
 ·show ((l.toArray.find? λe=>(intKind P w).is k e.key).map (·.val))=none
  rw[List.find?_toArray,i1 z];rfl
 ·obtain⟨e,t,q1,q2⟩:=i2 j z
  refine⟨t,?_⟩;show ((l.toArray.find? λe=>(intKind P w).is k e.key).map (·.val))=_
  rw[List.find?_toArray,q1];exact congrArg some q2
theorem hu7 {k:Nat}{A:Around}(hr:Room k A):A.units+7<cLine:=Nat.lt_of_le_of_lt (by omega) hr.un
theorem jw {K:PySem.W.Frag}{C:Calls}{n:Nat}{H:Hp}{a:Addr}{ns:List Int}(hO:Only H) (hS:SqL K H a (ns.map V.int)) (h:∃S',C n [.loc 0] [.scr ns]=.ok (.bl true) S'):spF K C n [.ref a] H (λv _=>v=.bl true) λ_ _ _=>False:=by
 obtain⟨S',e⟩:=h;refine⟨[a],[.loc 0],[.scr ns],⟨rfl,λm k b h1 h2 hm=>?_,λm o b h1 h2=>?_⟩,Rq.cons (UC rfl) Rq.nil,?_⟩
 ·have l1:=(Pr.mp h1).1
  have l2:=(Pr.mp h2).1;simp at l1 l2;omega
 ·have l1:=(Pr.mp h1).1
  have e0:m=0:=by simp at l1;exact l1
  subst e0;cases h1;cases h2;show Scr K H a ns;rcases hS with (hS | hS) | hS
  ·rcases hO a with z | ⟨o,xs,z⟩
   ·rw[z] at hS;cases hS
   ·rw[z] at hS;cases hS
  ·exact .inl hS
  ·exact .inr hS
 ·rw[e]
  exact λρ' H' v _ _ r=>r.bl'
section
variable {X:Cx}{xw:Nat->Hp->Prop}{C:Calls}{e a b c tg it:Expr}{i j k:E}{pos p p' p2 p3:Pos}{s0:Stmt}{ss:List Stmt}{m0:Sm}{ms ms':List Sm}
theorem QI {n:Nat}:CS X (λ_ _=>False) C s0 (.raise n []):=λpq s σ H D I ⟨ρ,l,S,st,lr,h⟩=>
 False.elim ((show Zy X.K (λ_ _=>False) ρ H D (.ex n S) from h) ρ H (Fut.refl ρ H) st)
structure AugOk (X:Cx) (op:Operator) (o:Bop):Prop where
 h:∃t:TIp,PIp X op t/\∀(xw:Nat->Hp->Prop) ρ S H n m Q,St3 X.K ρ S H->End X.K xw Rep ρ H Q (Ev.Ys o (.int n) (.int m) S)->t (.int n) (.int m) H Q
theorem qd:AugOk X .Add .add:=⟨_,jX,λxw ρ S H n m Q st h=>⟨n,m,rfl,rfl,End.ok h st (Zp _)⟩⟩
theorem ql:AugOk X .Mult .mul:=⟨_,jo,λxw ρ S H n m Q st h=>by
 obtain⟨hc,h⟩:=End.guard h;exact⟨n,m,rfl,rfl,(Pp _ _).mp hc,End.ok h st (Zp _)⟩⟩
theorem Gx {op:Operator}{o:Bop}{n:Nat}{x:Str}(ho:AugOk X op o) (hN:X.N.Nodup) (he:CE X xw C e i) (hi:X.N[n]? = some x:=by rfl) (hx:L2.Loc X.env.scope x:=by first | exact Or.inl rfl | exact Or.inr rfl) (hf:X.fn x=true\/X.env.scope.names.lookup x=some .local:=by first | exact .inl rfl | exact .inr rfl) :
  CS X xw C (.AugAssign (.Name x p) op e pos) (.aug n o i):=by
 obtain⟨t,ht,hq⟩:=ho.h;refine PS.imp (Zcf hN hi hx he ht hf) λD σ H ⟨ρ,l,S,st,lr,h⟩=>?_
 obtain⟨d,hd,h1⟩:=Zy.ob (show Zy X.K xw ρ H D ((Ev.ob (l[n]?).join S).bind λx S=>(ev C i l S).bind λy S=>(Ev.xO o x y S).bind λz S=>.ok (.nx (l.set n (some z))) S) from h)
 have hd':l[n]? = some (some d):=by
  cases z:l[n]? with
  |none=>rw[z] at hd;cases hd
  |some oo=>rw[z] at hd;cases oo with
   |none=>cases hd
   |some w=>cases hd;rfl
 obtain⟨v,hv,rv⟩:=lr.val n d hd';refine⟨v,hv,ρ,l,S,st,lr,h1.bind λy S1 ρ1 H1 u f1 st1 r1 h2=>?_⟩
 cases d with
 |int m=>cases y with
  |int m'=>
   rw[rv.int',r1.int'];refine hq xw ρ1 S1 H1 m m' _ st1 ?_;exact Zy.bind (show Zy X.K xw ρ1 H1 D ((Ev.Ys o (.int m) (.int m') S1).bind λz S=>.ok (.nx (l.set n (some z))) S) from h2) λz S2 ρ2 H2 w f2 st2 r2 h3=>Zy.nx h3 st2 (((lr.mono f1).mono f2).set n r2)
  |_=>exact False.elim h2
 |_=>exact False.elim h2
theorem Qk {body:List Stmt}(hp:PassesOwn (model X.prog X.w) X.A X.env X.xe) (hc:CT X xw C c k) (hb:CSs X xw C body ms):CS X xw C (.While c body [] pos) (.whl k ms):=PS.imp (uY hp hc hb) λD σ H ⟨ρ,l,S,st,lr,h⟩=>by
 refine⟨λm σ' H'=>∃ρ' l' S',St3 X.K ρ' S' H'/\LocR ρ' H' l' σ'/\Zy X.K xw ρ' H' D (Ev.Y9 (tst C k) (runs C ms) m l' S'),⟨Ev.Vw,ρ,l,S,st,lr,h⟩,?_⟩
 rintro m σ' H' ⟨ρ',l',S',st',lr',e'⟩
 cases m with
 |zero=>exact False.elim e'
 |succ m=>
  refine⟨ρ',l',S',st',lr',Zy.bind (show Zy X.K xw ρ' H' D ((tst C k l' S').bind λb S=>if b then (match runs C ms l' S with
   |.ok (.nx σ') S'=>Ev.Y9 (tst C k) (runs C ms) m σ' S'
   |.ok (.cnt σ') S'=>Ev.Y9 (tst C k) (runs C ms) m σ' S'
   |.ok (.brk σ') S'=>.ok (.nx σ') S'
   |.ok (.ret d) S'=>.ok (.ret d) S'
   |.ex c S'=>.ex c S'
   |.no=>.no) else .ok (.nx l') S) from e') λb S1 ρ1 H1 b' f1 st1 r1 h1=>?_⟩
  have eb:b=b':=r1;subst eb;cases b with
  |false=>
   rw[Pj Px] at h1 ⊢;exact Zy.nx h1 st1 (lr'.mono f1)
  |true=>
   rw[Ph rfl] at h1 ⊢;refine⟨λσ2 H2=>∃ρ2 l2 S2,St3 X.K ρ2 S2 H2/\LocR ρ2 H2 l2 σ2/\Zy X.K xw ρ2 H2 D (Ev.Y9 (tst C k) (runs C ms) m l2 S2),λσ2 H2 w=>⟨m,Nat.lt_succ_self m,w⟩,ρ1,l',S1,st1,lr'.mono f1,?_⟩
   cases q:runs C ms l' S1 with
   |no=>rw[q] at h1;exact h1
   |ex c S2=>rw[q] at h1;exact h1
   |ok fl S2=>
    rw[q] at h1;cases fl with
    |nx l3=>exact λρ4 H4 σ4 f4 st4 lr4=>⟨ρ4,l3,S2,st4,lr4,Zy.mono f4 h1⟩
    |cnt l3=>exact λρ4 H4 σ4 f4 st4 lr4=>⟨ρ4,l3,S2,st4,lr4,Zy.mono f4 h1⟩
    |brk l3=>exact h1
    |ret d=>exact h1
end
end Sd
namespace Sd
open PySem PySem.Spec PyProof.Rows L2
def Src (b:Bool) (h:Heap) (it l:Addr) (k:Nat):Prop:=match b with
 |true=>h.IsListIter it l k
 |false=>h.IsTupleIter it l k
def YN (b:Bool) (h:Heap) (l:Addr) (xs:Array Value):Prop:=match b with
 |true=>h.IsList l xs
 |false=>h.IsTuple l xs
theorem Src.ext {b:Bool}{h h':Heap}{it l c:Addr}{k:Nat}(x:Src b h it l k) (e:Heap.ExtBut c h h') (n:it≠c):Src b h' it l k:=by
 cases b
 ·exact Heap.IsTupleIter.extBut x e n
 ·exact Heap.IsListIter.extBut x e n
theorem Src.keep {b:Bool}{h h':Heap}{it l:Addr}{k:Nat}(x:Src b h it l k) (e:∀o,h.get? it=some o->h'.get? it=some o):Src b h' it l k:=by
 cases b
 ·obtain⟨o,ho,r⟩:=x;exact⟨o,e o ho,r⟩
 ·obtain⟨o,ho,r⟩:=x;exact⟨o,e o ho,r⟩
theorem Src.obj {b:Bool}{h:Heap}{it l:Addr}{k:Nat}(x:Src b h it l k):∃o,h.get? it=some o/\∀v,o.data≠.cell v:=by
 cases b
 ·obtain⟨o,ho,_,d⟩:=x;exact⟨o,ho,λv z=>by rw[d] at z;cases z⟩
 ·obtain⟨o,ho,_,d⟩:=x;exact⟨o,ho,λv z=>by rw[d] at z;cases z⟩
theorem YN.keep {b:Bool}{h h':Heap}{l:Addr}{xs:Array Value}(x:YN b h l xs) (e:∀o,h.get? l=some o->h'.get? l=some o):YN b h' l xs:=by
 cases b
 ·obtain⟨o,ho,r⟩:=x;exact⟨o,e o ho,r⟩
 ·obtain⟨o,ho,r⟩:=x;exact⟨o,e o ho,r⟩
section
variable {prog:Program}{w:World}{A:Around}{E:Value->Shared->Prop}{s:Shared}
theorem qQ {it t:Addr}{i:Nat}{items:Array Value}{x:Value}{Q:Value->Shared->Prop}(hit:s.heap.IsTupleIter it t i) (ht:s.heap.IsTuple t items) (hx:items[i]? = some x)
  (hQ:∀h',h'.IsTupleIter it t (i+1)->Heap.SameBut it s.heap h'->Q x { s with heap:=h' }):wpAny (model prog w) A (Builtin.SmallTypes.nextOf (.ref it)) Q E s:=by
 obtain⟨o,ho,hc,hd⟩:=id hit;obtain⟨ol,hol,_,nl,hdl⟩:=ht;unfold Builtin.SmallTypes.nextOf;refine Pa (Nh (name:=Str.ofString "__next__") hit.typeIs NV (Nt NV hit.typeIs F.entry_tuple_iterator_next ?_ (F.args_tuple_iterator_next_1 _)));show wpAny _ _ (field (.ref it) 0 >>= _) _ _ s;refine Pa (P6 ho hd (x:=.ref t) rfl ?_);show wpAny _ _ (if (Value.ref t == Value.none)=true then _ else _) _ _ s
 rw[Pj (show ¬((Value.ref t == Value.none)=true) by exact Px)];show wpAny _ _ (field (.ref it) 1 >>= _) _ _ s;refine Pa (P6 ho hd (x:=.int i 0) rfl ?_)
 show wpAny _ _ (seqItems? (.ref t) >>= _) _ _ s;refine Pa (NW hol hdl ?_);simp only[Int.toNat_natCast,hx];refine Pa (wpAny_setField ho hd (by simp) (Pi ⟨x,rfl,Pi (hQ _ ⟨_,Heap.get?_update_self _ ho (Obj.isFreed_of_fields (Obj.data_mapFields hd _)),(Obj.cls_mapFields ..).trans hc,?_⟩ (Heap.SameBut.update ..))⟩))
 rw[Obj.data_mapFields hd];simp[rawInt]
theorem JG {it t:Addr}{i:Nat}{items:Array Value}{Q:Value->Shared->Prop}(hh:A.handled=none) (hit:s.heap.IsTupleIter it t i) (ht:s.heap.IsTuple t items) (hx:items[i]? = none)
  (hE:∀h' e,Heap.ExtBut it s.heap h'->(∃o,h'.get? e=some o/\o.cls=.type "StopIteration")->E (.ref e) { s with heap:=h' }):wpAny (model prog w) A (Builtin.SmallTypes.nextOf (.ref it)) Q E s:=by
 obtain⟨o,ho,hc,hd⟩:=id hit;obtain⟨ol,hol,_,nl,hdl⟩:=ht;unfold Builtin.SmallTypes.nextOf;refine Pa (Nh (name:=Str.ofString "__next__") hit.typeIs NV (Nt NV hit.typeIs F.entry_tuple_iterator_next ?_ (F.args_tuple_iterator_next_1 _)));show wpAny _ _ (field (.ref it) 0 >>= _) _ _ s;refine Pa (P6 ho hd (x:=.ref t) rfl ?_);show wpAny _ _ (if (Value.ref t == Value.none)=true then _ else _) _ _ s
 rw[Pj (show ¬((Value.ref t == Value.none)=true) by exact Px)];show wpAny _ _ (field (.ref it) 1 >>= _) _ _ s;refine Pa (P6 ho hd (x:=.int i 0) rfl ?_)
 show wpAny _ _ (seqItems? (.ref t) >>= _) _ _ s;refine Pa (NW hol hdl ?_);simp only[Int.toNat_natCast,hx];refine Pa (Kg (Pa (wpAny_setField ho hd (by simp) ?_)));show wpAny _ _ (newExc (.type "StopIteration") [] >>= _) _ _ _
 refine Pa ?_;simp only[newExc,newTuple];refine Pa (PV ?_ (by size_fits))
 refine Pa (m:=firstArgMember _ _) (Nk (a:=Value.none) (by first | rfl | (simp only[firstArgMember];rfl)) (PV ?_ (by size_fits)))
 simp only[raiseNew];refine Pa (wpAny_handled ?_);first | rw[show A.in1.handled=none from hh] | rw[hh]
 exact Pa (Pi (wpAny_throw (hE _ _ (((Heap.SameBut.update ..).extBut.push _).push _) ⟨_,Pq _ rfl,rfl⟩)))
theorem Vo {b:Bool}{it l:Addr}{k:Nat}{xs:Array Value}{x:Value}{Q:Value->Shared->Prop}(hit:Src b s.heap it l k) (hl:YN b s.heap l xs) (hx:xs[k]? = some x)
  (hQ:∀h',Src b h' it l (k+1)->Heap.SameBut it s.heap h'->Q x { s with heap:=h' }):wpAny (model prog w) A (Builtin.SmallTypes.nextOf (.ref it)) Q E s:=by
 cases b
 ·exact qQ hit hl hx hQ
 ·exact wpAny_nextOf_list_item hit hl hx hQ
theorem GH {b:Bool}{it l:Addr}{k:Nat}{xs:Array Value}{Q:Value->Shared->Prop}(hh:A.handled=none) (hit:Src b s.heap it l k) (hl:YN b s.heap l xs) (hx:xs[k]? = none)
  (hE:∀h' e,Heap.ExtBut it s.heap h'->(∃o,h'.get? e=some o/\o.cls=.type "StopIteration")->E (.ref e) { s with heap:=h' }):wpAny (model prog w) A (Builtin.SmallTypes.nextOf (.ref it)) Q E s:=by
 cases b
 ·exact JG hh hit hl hx hE
 ·exact wpAny_nextOf_list_end hh hit hl hx hE
noncomputable def YA (b:Bool) (l:Addr):Obj:={ cls:=.type (if b then "list_iterator" else "tuple_iterator"),data:=.fields #[.ref l,.int 0 0] }
theorem U8 {b:Bool}{l:Addr}{xs:Array Value}{Q:Value->Shared->Prop}(hl:YN b s.heap l xs) (h:Q (.ref s.heap.objs.size) { s with heap:=s.heap.push (YA b l) }):wpAny (model prog w) A (pyIter (.ref l)) Q E s:=by
 cases b
 ·exact Ky hl h
 ·exact KF hl h
structure ZipSt (b1 b2:Bool) (z TI TO i1 i2 l1 l2:Addr) (k:Nat) (f0:Value) (h:Heap):Prop where
 zp:IsZip h z TI TO f0
 ti:IsPair h TI (.ref i1) (.ref i2)
 to:∃a b,IsPair h TO a b
 s1:Src b1 h i1 l1 k
 s2:Src b2 h i2 l2 k
theorem qr {b1 b2:Bool}{z TI TO i1 i2 l1 l2:Addr}{k:Nat}{xs ys:Array Value}{x y:Value}{Q:Value->Shared->Prop}(D:ZipApart z TI TO i1 i2 l1 l2) (Z:ZipSt b1 b2 z TI TO i1 i2 l1 l2 k .none s.heap) (hl1:YN b1 s.heap l1 xs) (hl2:YN b2 s.heap l2 ys) (hx:xs[k]? = some x) (hy:ys[k]? = some y)
  (hQ:∀h',ZipSt b1 b2 z TI TO i1 i2 l1 l2 (k+1) (rawInt s.heap.objs.size) h'->IsPair h' s.heap.objs.size x y->(∀c o,c∉[z,TO,i1,i2]->s.heap.get? c=some o->h'.get? c=some o)->Q (.ref s.heap.objs.size) { s with heap:=h' }) :
  wpAny (model prog w) A (Builtin.«zip.__next__» ⟨[.ref z],[]⟩) (λfin s'=>∃v,fin=.done (.ret v)/\Q v s') E s:=by
 obtain⟨hz,hTI,⟨a,b,hTO⟩,h1,h2⟩:=Z;show wpAny _ _ (field (.ref z) 2 >>= _) _ _ _;refine Pa (P6 hz rfl (x:=.bool false) rfl ?_);show wpAny _ _ (field (.ref z) 3 >>= _) _ _ _;refine Pa (P6 hz rfl (x:=.ref TI) rfl (Pa (NW hTI rfl ?_)));show wpAny _ _ (Builtin.SmallTypes.ownedTupleIsFree (.ref z) >>= _) _ _ _;refine Pa ?_;unfold Builtin.SmallTypes.ownedTupleIsFree;refine Pa (P6 hz rfl (x:=.none) rfl (Pi ?_));simp only[N3];refine Pa (Kg (Pa (P6 hz rfl (x:=.ref TO) rfl (Pa (NX hz (by simp) λh₁ hz₁ hs₁=>?_)))))
 replace hz₁:IsZip h₁ z TI TO .ellipsis:=by exact hz₁
 refine Pa ?_;simp only[List.zipIdx_cons,List.zipIdx_nil,List.forIn_cons,List.forIn_nil];refine Pa (Pa (wpAny_onRaise ?_));show wpAny _ _ (Builtin.SmallTypes.nextOf (.ref i1) >>= _) _ _ _;refine Pa (Vo (h1.ext hs₁.extBut D.i1z) (hl1.keep λo e=>hs₁.extBut _ o D.l1z e) hx λh₂ h1₂ hs₂=>Pi ?_)
 have hTO₂:IsPair h₂ TO a b:=by exact hs₂.extBut _ _ D.TOi1 (hs₁.extBut _ _ D.TOz hTO)
 refine Pa (NW hTO₂ rfl (Pa (KO hTO₂ λh₃ hTO₃ hs₃=>?_)))
 replace hTO₃:IsPair h₃ TO x b:=by exact hTO₃
 refine Pa (wpAny_letGo (Pi (Pa (Pa (wpAny_onRaise ?_)))));show wpAny _ _ (Builtin.SmallTypes.nextOf (.ref i2) >>= _) _ _ _;have to3:∀c o,c≠z->c≠TO->c≠i1->s.heap.get? c=some o->h₃.get? c=some o:=λc o c1 c2 c3 e=>hs₃.extBut _ _ c2 (hs₂.extBut _ _ c3 (hs₁.extBut _ _ c1 e))
 refine Pa (Vo (h2.keep λo e=>to3 _ o D.i2z D.TOi2.symm D.i12.symm e) (hl2.keep λo e=>to3 _ o D.l2z D.l2TO D.l2i1 e) hy λh₄ h2₄ hs₄=>Pi ?_)
 have hTO₄:IsPair h₄ TO x b:=by exact hs₄.extBut _ _ D.TOi2 hTO₃
 refine Pa (NW hTO₄ rfl (Pa (KO hTO₄ λh₅ hTO₅ hs₅=>?_)))
 replace hTO₅:IsPair h₅ TO x y:=by exact hTO₅
 refine Pa (wpAny_letGo (Pi (Pi (Pa (NW hTO₅ rfl (Pa (wpAny_newTuple ?_)))))));have hsz:h₅.objs.size=s.heap.objs.size:=by rw[hs₅.1,hs₄.1,hs₃.1,hs₂.1,hs₁.1]
 have to5:∀c o,c≠z->c≠TO->c≠i1->c≠i2->s.heap.get? c=some o->h₅.get? c=some o:=λc o c1 c2 c3 c4 e=>hs₅.extBut _ _ c2 (hs₄.extBut _ _ c4 (to3 c o c1 c2 c3 e))
 have hz₅:IsZip h₅ z TI TO .ellipsis:=by exact hs₅.extBut _ _ D.TOz.symm (hs₄.extBut _ _ D.i2z.symm (hs₃.extBut _ _ D.TOz.symm (hs₂.extBut _ _ D.i1z.symm hz₁)))
 have h1₅:Src b1 h₅ i1 l1 (k+1):=((h1₂.ext hs₃.extBut D.TOi1.symm).ext hs₄.extBut D.i12).ext hs₅.extBut D.TOi1.symm;have h2₅:Src b2 h₅ i2 l2 (k+1):=h2₄.ext hs₅.extBut D.TOi2.symm;have zl:z<h₅.objs.size:=Pz hz₅;show wpAny _ _ (Builtin.SmallTypes.ownedTupleHandOut (.ref z) (.ref h₅.objs.size) >>= _) _ _ _;refine Pa ?_;unfold Builtin.SmallTypes.ownedTupleHandOut;have hz₆:IsZip (h₅.push { cls:=.type "tuple",data:=.seq #[x,y] }) z TI TO .ellipsis:=by exact Pf _ hz₅
 refine Pa (NX hz₆ (by simp) λh₇ hz₇ hs₇=>?_)
 replace hz₇:IsZip h₇ z TI TO (rawInt h₅.objs.size):=by exact hz₇
 refine NX hz₇ (by simp) λh₈ hz₈ hs₈=>Pi ⟨_,rfl,?_⟩
 replace hz₈:IsZip h₈ z TI TO (rawInt h₅.objs.size):=by exact hz₈
 have up:∀c o,c≠z->h₅.get? c=some o->h₈.get? c=some o:=λc o c1 e=>by exact hs₈.extBut _ _ c1 (hs₇.extBut _ _ c1 (Pf _ e))
 have hT₈:IsPair h₈ h₅.objs.size x y:=by exact hs₈.extBut _ _ (Nat.ne_of_gt zl) (hs₇.extBut _ _ (Nat.ne_of_gt zl) (Pq _ rfl))
 show Q (.ref h₅.objs.size) _;rw[hsz] at hz₈ hT₈ ⊢;refine hQ h₈ ⟨hz₈,up _ _ D.TIz (to5 _ _ D.TIz D.TITO D.TIi1 D.TIi2 hTI),⟨x,y,up _ _ D.TOz hTO₅⟩,h1₅.keep λo e=>up _ o D.i1z e,h2₅.keep λo e=>up _ o D.i2z e⟩ hT₈ λc o hc e=>?_
 simp only[Po,Ni,Ki,not_or] at hc;exact up c o hc.1 (to5 c o hc.1 hc.2.1 hc.2.2.1 hc.2.2.2 e)
end
section
variable {prog:Program}{w:World}{A:Around}{E:Value->Shared->Prop}{s:Shared}
theorem QW {b1 b2:Bool}{z TI TO i1 i2 l1 l2:Addr}{k:Nat}{xs ys:Array Value}{Q:Fin->Shared->Prop}(hh:A.handled=none) (D:ZipApart z TI TO i1 i2 l1 l2) (Z:ZipSt b1 b2 z TI TO i1 i2 l1 l2 k .none s.heap) (hl1:YN b1 s.heap l1 xs) (hl2:YN b2 s.heap l2 ys) (hend:xs[k]? = none\/ys[k]? = none)
  (hE:∀h' e,(∀c o,c∉[z,TO,i1,i2]->s.heap.get? c=some o->h'.get? c=some o)->(∃o,h'.get? e=some o/\o.cls=.type "StopIteration")->E (.ref e) { s with heap:=h' }) :
  wpAny (model prog w) A (Builtin.«zip.__next__» ⟨[.ref z],[]⟩) Q E s:=by
 obtain⟨hz,hTI,⟨a,b,hTO⟩,h1,h2⟩:=Z;have hk:∀{c:Addr},c∉[z,TO,i1,i2]->c≠z/\c≠TO/\c≠i1/\c≠i2:=λhc=>by
  simp only[Po,Ni,Ki,not_or] at hc;exact hc
 show wpAny _ _ (field (.ref z) 2 >>= _) _ _ _;refine Pa (P6 hz rfl (x:=.bool false) rfl ?_);show wpAny _ _ (field (.ref z) 3 >>= _) _ _ _;refine Pa (P6 hz rfl (x:=.ref TI) rfl (Pa (NW hTI rfl ?_)));show wpAny _ _ (Builtin.SmallTypes.ownedTupleIsFree (.ref z) >>= _) _ _ _;refine Pa ?_;unfold Builtin.SmallTypes.ownedTupleIsFree;refine Pa (P6 hz rfl (x:=.none) rfl (Pi ?_));simp only[N3];refine Pa (Kg (Pa (P6 hz rfl (x:=.ref TO) rfl (Pa (NX hz (by simp) λh₁ hz₁ hs₁=>?_)))))
 replace hz₁:IsZip h₁ z TI TO .ellipsis:=by exact hz₁
 refine Pa ?_;simp only[List.zipIdx_cons,List.zipIdx_nil,List.forIn_cons,List.forIn_nil];refine Pa (Pa (wpAny_onRaise ?_));show wpAny _ _ (Builtin.SmallTypes.nextOf (.ref i1) >>= _) _ _ _;have l1₁:YN b1 h₁ l1 xs:=hl1.keep λo e=>hs₁.extBut _ o D.l1z e
 cases hx:xs[k]? with
 |none=>
  refine Pa (GH hh (h1.ext hs₁.extBut D.i1z) l1₁ hx λh₂ e hs₂ he=>?_)
  obtain⟨oe,hoe,hce⟩:=he;have hz₂:IsZip h₂ z TI TO .ellipsis:=by exact hs₂ _ _ D.i1z.symm hz₁
  have hez:e≠z:=λx=>by subst x;rw[hz₂] at hoe;cases hoe;simp at hce
  exact NX hz₂ (by simp) λh₃ _ hs₃=>hE h₃ e (λc o hc x=>hs₃.extBut _ _ (hk hc).1 (hs₂ _ _ (hk hc).2.2.1 (hs₁.extBut _ _ (hk hc).1 x))) ⟨oe,hs₃.extBut _ _ hez hoe,hce⟩
 |some x=>
  have hy:ys[k]? = none:=by rcases hend with q | q;rw[hx] at q;cases q;exact q
  refine Pa (Vo (h1.ext hs₁.extBut D.i1z) l1₁ hx λh₂ h1₂ hs₂=>Pi ?_)
  have hTO₂:IsPair h₂ TO a b:=by exact hs₂.extBut _ _ D.TOi1 (hs₁.extBut _ _ D.TOz hTO)
  refine Pa (NW hTO₂ rfl (Pa (KO hTO₂ λh₃ hTO₃ hs₃=>?_)))
  refine Pa (wpAny_letGo (Pi (Pa (Pa (wpAny_onRaise ?_)))));show wpAny _ _ (Builtin.SmallTypes.nextOf (.ref i2) >>= _) _ _ _;have to3:∀c o,c≠z->c≠TO->c≠i1->s.heap.get? c=some o->h₃.get? c=some o:=λc o c1 c2 c3 e=>hs₃.extBut _ _ c2 (hs₂.extBut _ _ c3 (hs₁.extBut _ _ c1 e))
  refine Pa (GH hh (h2.keep λo e=>to3 _ o D.i2z D.TOi2.symm D.i12.symm e) (hl2.keep λo e=>to3 _ o D.l2z D.l2TO D.l2i1 e) hy λh₄ e hs₄ he=>?_)
  obtain⟨oe,hoe,hce⟩:=he;have hz₄:IsZip h₄ z TI TO .ellipsis:=by exact hs₄ _ _ D.i2z.symm (hs₃.extBut _ _ D.TOz.symm (hs₂.extBut _ _ D.i1z.symm hz₁))
  have hez:e≠z:=λx=>by subst x;rw[hz₄] at hoe;cases hoe;simp at hce
  exact NX hz₄ (by simp) λh₅ _ hs₅=>hE h₅ e (λc o hc x=>hs₅.extBut _ _ (hk hc).1 (hs₄ _ _ (hk hc).2.2.2 (to3 c o (hk hc).1 (hk hc).2.1 (hk hc).2.2.1 x))) ⟨oe,hs₅.extBut _ _ hez hoe,hce⟩
theorem yz {b1 b2:Bool}{z TI TO i1 i2 l1 l2:Addr}{k:Nat}{xs ys:Array Value}{x y:Value}{Q:Option Value->Shared->Prop}(D:ZipApart z TI TO i1 i2 l1 l2) (Z:ZipSt b1 b2 z TI TO i1 i2 l1 l2 k .none s.heap) (hl1:YN b1 s.heap l1 xs) (hl2:YN b2 s.heap l2 ys) (hx:xs[k]? = some x) (hy:ys[k]? = some y)
  (hQ:∀h',ZipSt b1 b2 z TI TO i1 i2 l1 l2 (k+1) (rawInt s.heap.objs.size) h'->IsPair h' s.heap.objs.size x y->(∀c o,c∉[z,TO,i1,i2]->s.heap.get? c=some o->h'.get? c=some o)->Q (some (.ref s.heap.objs.size)) { s with heap:=h' }) :
  wpAny (model prog w) A (pyNext (.ref z)) Q E s:=by
 have hT:s.TypeIs (.ref z) "zip":=⟨_,Z.zp,rfl⟩;unfold pyNext;exact Pa (wpAny_attempt (Nh (name:=Str.ofString "__next__") hT KQ (Nt KQ hT F.entry_zip_next (qr D Z hl1 hl2 hx hy λh' a1 a2 a3=>Pi (hQ h' a1 a2 a3)) (F.args_zip_next_1 _))))
theorem Qx {b1 b2:Bool}{z TI TO i1 i2 l1 l2:Addr}{k:Nat}{xs ys:Array Value}{Q:Option Value->Shared->Prop}(hh:A.handled=none) (D:ZipApart z TI TO i1 i2 l1 l2) (Z:ZipSt b1 b2 z TI TO i1 i2 l1 l2 k .none s.heap) (hl1:YN b1 s.heap l1 xs) (hl2:YN b2 s.heap l2 ys) (hend:xs[k]? = none\/ys[k]? = none)
  (hQ:∀h',(∀c o,c∉[z,TO,i1,i2]->s.heap.get? c=some o->h'.get? c=some o)->Q none { s with heap:=h' }):wpAny (model prog w) A (pyNext (.ref z)) Q E s:=by
 have hT:s.TypeIs (.ref z) "zip":=⟨_,Z.zp,rfl⟩;unfold pyNext;refine Pa (wpAny_attempt (Nh (name:=Str.ofString "__next__") hT KQ (Nt KQ hT F.entry_zip_next (QW hh D Z hl1 hl2 hend λh' e hk he=>?_) (F.args_zip_next_1 _))))
 obtain⟨o,ho,hc⟩:=he;exact Pa (wpAny_isInstance (T:="StopIteration") (b:=true) ⟨o,ho,hc⟩ isSubtype_stop (Pi (hQ _ hk)))
noncomputable def zH1 (h:Heap) (b1:Bool) (l1:Addr):Heap:=h.push (YA b1 l1)
noncomputable def zH2 (h:Heap) (b1 b2:Bool) (l1 l2:Addr):Heap:=(zH1 h b1 l1).push (YA b2 l2)
noncomputable def zH3 (h:Heap) (b1 b2:Bool) (l1 l2:Addr):Heap:=(zH2 h b1 b2 l1 l2).push { cls:=.type "tuple",data:=.seq #[.ref h.objs.size,.ref (zH1 h b1 l1).objs.size] }
noncomputable def zH4 (h:Heap) (b1 b2:Bool) (l1 l2:Addr):Heap:=(zH3 h b1 b2 l1 l2).push { cls:=.type "tuple",data:=.seq #[.none,.none] }
noncomputable def zH5 (h:Heap) (b1 b2:Bool) (l1 l2:Addr):Heap:=(zH4 h b1 b2 l1 l2).push { cls:=.type "zip",data:=.fields #[.none,.bool false,.bool false,.ref (zH2 h b1 b2 l1 l2).objs.size,.ref (zH3 h b1 b2 l1 l2).objs.size] }
theorem Zbd (b1 b2:Bool) (l1 l2:Addr) (xs ys:Array Value) :
  Meets (Builtin.«zip.__new__» ⟨[.type "zip",.ref l1,.ref l2],[]⟩) (λ_ R s=>YN b1 s.heap l1 xs/\YN b2 s.heap l2 ys/\R (.ok (.ret (.ref (zH4 s.heap b1 b2 l1 l2).objs.size))) { s with heap:=zH5 s.heap b1 b2 l1 l2 }):=
 .of_wp λprog w A R s h=>by
  obtain⟨hp,g,d,tk,os⟩:=s;obtain⟨hl1,hl2,h⟩:=h;have hsub:=sub_zip;have hL1:YN b1 (Shared.heap ⟨hp,g,d,tk,os⟩) l1 xs:=hl1;have hL2:YN b2 (Shared.heap ⟨hp.push (YA b1 l1),g,d,tk,os⟩) l2 ys:=hl2.keep λo e=>Pf _ e
  wp_walk using U8 hL1,U8 hL2
  exact⟨_,rfl,h⟩
theorem uO {b1 b2:Bool}{l1 l2:Addr}{xs ys:Array Value}{Q:Value->Shared->Prop}(hl1:YN b1 s.heap l1 xs) (hl2:YN b2 s.heap l2 ys)
  (h:∀h' n,n=s.heap.objs.size->ZipSt b1 b2 (n+4) (n+2) (n+3) n (n+1) l1 l2 0 .none h'->(∀c o,s.heap.get? c=some o->h'.get? c=some o)->Q (.ref (n+4)) { s with heap:=h' }) :
  wpAny (model prog w) A (call (.type "zip") [.ref l1,.ref l2]) Q E s:=by
 refine callType_new F.called_zip (by decide) (F.typeCall_zip_2 _ _) (F.newCall_zip_2 _ _) (λobj=>F.args_object_init_3 obj _ _) F.entry_zip_new (Zbd b1 b2 l1 l2 xs ys) ⟨hl1,hl2,?_⟩
 have z1:(zH1 s.heap b1 l1).objs.size=s.heap.objs.size+1:=Kd ..;have z2:(zH2 s.heap b1 b2 l1 l2).objs.size=s.heap.objs.size+2:=by unfold zH2;rw[Kd,z1]
 have z3:(zH3 s.heap b1 b2 l1 l2).objs.size=s.heap.objs.size+3:=by unfold zH3;rw[Kd,z2]
 have z4:(zH4 s.heap b1 b2 l1 l2).objs.size=s.heap.objs.size+4:=by unfold zH4;rw[Kd,z3]
 have g5:(zH5 s.heap b1 b2 l1 l2).get? (zH4 s.heap b1 b2 l1 l2).objs.size=some { cls:=.type "zip",data:=.fields #[.none,.bool false,.bool false,.ref (zH2 s.heap b1 b2 l1 l2).objs.size,.ref (zH3 s.heap b1 b2 l1 l2).objs.size] }:=Pq _ rfl;have k4:∀c o,(zH4 s.heap b1 b2 l1 l2).get? c=some o->(zH5 s.heap b1 b2 l1 l2).get? c=some o:=λc o e=>Pf _ e
 have k3:∀c o,(zH3 s.heap b1 b2 l1 l2).get? c=some o->(zH5 s.heap b1 b2 l1 l2).get? c=some o:=λc o e=>k4 c o (Pf _ e)
 have k2:∀c o,(zH2 s.heap b1 b2 l1 l2).get? c=some o->(zH5 s.heap b1 b2 l1 l2).get? c=some o:=λc o e=>k3 c o (Pf _ e)
 have k1:∀c o,(zH1 s.heap b1 l1).get? c=some o->(zH5 s.heap b1 b2 l1 l2).get? c=some o:=λc o e=>k2 c o (Pf _ e)
 have g4:=k4 _ _ (Pq (zH3 s.heap b1 b2 l1 l2) (o:={ cls:=.type "tuple",data:=.seq #[.none,.none] }) rfl);have g3:=k3 _ _ (Pq (zH2 s.heap b1 b2 l1 l2) (o:={ cls:=.type "tuple",data:=.seq #[.ref s.heap.objs.size,.ref (zH1 s.heap b1 l1).objs.size] }) rfl);have g2:=k2 _ _ (Pq (zH1 s.heap b1 l1) (o:=YA b2 l2) rfl);have g1:=k1 _ _ (Pq s.heap (o:=YA b1 l1) rfl);rw[z2,z3,z4] at g5;rw[z1,z2] at g3;rw[z3] at g4;rw[z1] at g2;rw[z4];have src:∀b l it,(zH5 s.heap b1 b2 l1 l2).get? it=some (YA b l)->Src b (zH5 s.heap b1 b2 l1 l2) it l 0:=λb l it e=>by
  cases b
  ·exact⟨_,e,rfl,rfl⟩
  ·exact⟨_,e,rfl,rfl⟩
 exact⟨⟨_,g5,rfl⟩,h _ _ rfl ⟨g5,g3,⟨_,_,g4⟩,src b1 l1 _ g1,src b2 l2 _ g2⟩ λc o e=>k1 c o (Pf _ e)⟩
end
end Sd
namespace Sd
open PySem PySem.Spec PyProof.Rows L2
open Ev (D Ob Zc Lc R E Sm Calls Walk Fl Fn Bop Cop Ty Bf Mf ev evs evo evt evw tst run runs)
theorem WJ {X:Cx}{pq:List (Addr×Obj)}{σ:L2.St}{H:Hp}{s:Shared}{h':Heap}{t':Nat}{ch:List Addr}(I:Inv X pq σ H s) (k:∀b o,b∉ch->s.heap.get? b=some o->h'.get? b=some o) (hf:∀b∈ch,VC X pq H b):Inv X pq σ H { s with heap:=h',toks:=t' }:=by
 have nit:∀b u,H b=some u->b∉ch:=λb u e z=>by have:=(hf b z).1;rw[e] at this;cases this
 refine I.step (g':=s.gens) (d':=s.drawn) (ch:=ch) (λb hb=>?_) (λb o _ _ hc e _=>k b o hc e) (λb o _ _ hc e _=>⟨o.slots,k b o hc e⟩) (λ_ _ _ _ n=>n) (λb o hc e=>⟨o,k b o hc e⟩) (λ_ _ e=>e) (λ_ _ _ e=>e) (λb ps e=>⟨#[],by rw[e];simp⟩) (λm hm=>?_) (λb u e=>?_) I.bare
 ·exact⟨(hf b hb).2.2.2.1,(hf b hb).2.1,(hf b hb).2.2.2.2.1,(hf b hb).2.2.2.2.2⟩
 ·obtain⟨o,es,ep,ho,r⟩:=hm
  exact⟨o,es,ep,k _ o (λz=>(hf _ z).2.1 rfl) ho,r⟩
 ·refine (I.hok b u e).stay (λc v hc q=>k c v ?_ q) (λ_ q=>q) λ_ _ q=>q
  rcases hc with z | z
  ·rw[z];exact nit b u e
  ·exact nit c _ z
theorem Jj {h:Heap}{o o':Obj}{b:Addr}(e:(h.push o').get? b=some o) (n:b≠h.objs.size):h.get? b=some o:=by
 unfold Heap.get? Heap.push at *;simp only[Array.getElem?_push] at e;rw[Pj n] at e;exact e
theorem Wt {a b:Nat}(h:a<b\/b<a):(a:Addr)≠b:=λe=>by
 have e':(a:Nat)=b:=e;omega
def Sq (b:Bool) (K:PySem.W.Frag) (H:Hp) (l:Addr) (xs:List V):Prop:=match b with
 |true=>SqL K H l xs
 |false=>SqT K H l xs
section
variable {X:Cx}{pq:List (Addr×Obj)}{σ:L2.St}{H:Hp}{s:Shared}
theorem XB (I:Inv X pq σ H s) {b:Bool}{l:Addr}{xs:List V}(h:Sq b X.K H l xs):∃its:List Value,Vals xs its/\YN b s.heap l its.toArray:=by
 cases b
 ·obtain⟨its,r,p,_⟩:=I.tuple h;exact⟨its,r,p⟩
 ·obtain⟨its,r,p,_⟩:=I.list h;exact⟨its,r,p.isList⟩
theorem yq (I:Inv X pq σ H s) {b:Bool}{l:Addr}{xs ys:List V}(h:Sq b X.K H l xs) (h':Sq b X.K H l ys):xs=ys:=by
 cases b
 ·exact I.tuple_inj h h'
 ·exact I.list_inj h h'
theorem UJ {b:Bool}{h:Heap}{l:Addr}{xs:Array Value}(x:YN b h l xs):l<h.objs.size:=by
 cases b
 ·obtain⟨o,ho,_⟩:=x;exact Pz ho
 ·obtain⟨o,ho,_⟩:=x;exact Pz ho
end
noncomputable def Itz (K:PySem.W.Frag) (b1 b2:Bool) (l1 l2:Addr):It:=
 ⟨λi H=>∃xs ys x y,Sq b1 K H l1 xs/\Sq b2 K H l2 ys/\xs[i]? = some x/\ys[i]? = some y,
  λi H v H'=>∃T x y,(∀xs,Sq b1 K H l1 xs->xs[i]? = some x)/\(∀ys,Sq b2 K H l2 ys->ys[i]? = some y)/\H T=none/\H'=upd H T (.tup [x,y])/\v=.ref T,
  λi H=>∃xs ys,Sq b1 K H l1 xs/\Sq b2 K H l2 ys/\(xs.length<=i\/ys.length<=i)⟩
theorem ji {P:Program}{w:World}{K:PySem.W.Frag}{elts:List Expr}{kk:Nat}{tp:Pos}{b1 b2:Bool}{z TI TO i1 i2 l1 l2:Addr}(D:ZipApart z TI TO i1 i2 l1 l2) :
  Turn P w K (.Tuple elts kk tp) (Itz K b1 b2 l1 l2) [z,TI,TO,i1,i2] z (λi h=>ZipSt b1 b2 z TI TO i1 i2 l1 l2 i .none h) where
 mem:=by simp
 obj:=λi h st b hb=>by
  simp only[Po,Ni,Ki] at hb;obtain⟨a,c,hTO⟩:=st.to;rcases hb with e | e | e | e | e <;> subst e
  ·exact⟨_,st.zp,λv q=>by cases q⟩
  ·exact⟨_,st.ti,λv q=>by cases q⟩
  ·exact⟨_,hTO,λv q=>by cases q⟩
  ·exact st.s1.obj
  ·exact st.s2.obj
 keep:=λi h h' st k=>by
  obtain⟨a,c,hTO⟩:=st.to;exact⟨k z (by simp) _ st.zp,k TI (by simp) _ st.ti,⟨a,c,k TO (by simp) _ hTO⟩,st.s1.keep λo e=>k i1 (by simp) o e,st.s2.keep λo e=>k i2 (by simp) o e⟩
 item:=by
  intro X hP hw hK hc i pq s σ H E I hf st hg;subst hP hw hK;obtain⟨xs,ys,x,y,hq1,hq2,hx,hy⟩:=hg;obtain⟨its,rv,o1⟩:=XB I hq1;obtain⟨its2,rv2,o2⟩:=XB I hq2;obtain⟨u,hu,ru⟩:=rv.get hx;obtain⟨u2,hu2,ru2⟩:=rv2.get hy;refine yz D st o1 o2 (x:=u) (y:=u2) (by simpa using hu) (by simpa using hu2) λh' Z' hT hk=>?_
  have hfree:H s.heap.objs.size=none:=I.hok.fresh (Pk _);have ltz:∀b∈[z,TI,TO,i1,i2],b≠s.heap.objs.size:=λb hb e=>by
   simp only[Po,Ni,Ki] at hb;obtain⟨a,c,hTO⟩:=st.to;rcases hb with q | q | q | q | q <;> subst q
   ·exact absurd (Pz st.zp) (by rw[e];exact P2 _)
   ·exact absurd (Pz st.ti) (by rw[e];exact P2 _)
   ·exact absurd (Pz hTO) (by rw[e];exact P2 _)
   ·obtain⟨o,ho,_⟩:=st.s1.obj;exact absurd (Pz ho) (by rw[e];exact P2 _)
   ·obtain⟨o,ho,_⟩:=st.s2.obj;exact absurd (Pz ho) (by rw[e];exact P2 _)
  have IA:Inv X pq σ (upd H s.heap.objs.size (.tup [x,y])) { s with heap:=s.heap.push { cls:=.type "tuple",data:=.seq [u,u2].toArray },toks:=s.toks }:=
   I.laid (λb o e=>Pf _ e) (Pk _) ⟨by show 2<=sizeLine;decide,[u,u2],.cons ru (.cons ru2 .nil),Kz _ _⟩
  have hf2:∀b∈[z,TI,TO,i1,i2],VC X pq (upd H s.heap.objs.size (.tup [x,y])) b:=λb hb=>⟨by rw[ZE (ltz b hb)];exact (hf b hb).1,(hf b hb).2⟩
  have IB:Inv X pq σ (upd H s.heap.objs.size (.tup [x,y])) { s with heap:=h',toks:=s.toks }:=by
   refine WJ (s:={ s with heap:=s.heap.push { cls:=.type "tuple",data:=.seq [u,u2].toArray },toks:=s.toks }) (ch:=[z,TO,i1,i2]) IA (λb o hb e=>?_) λb hb=>hf2 b (by simp only[Po,Ni,Ki] at hb ⊢;rcases hb with q | q | q | q <;> simp[q])
   by_cases hbs:b=s.heap.objs.size
   ·subst hbs
    have e':(s.heap.push { cls:=.type "tuple",data:=.seq [u,u2].toArray }).get? s.heap.objs.size=some o:=e;rw[Pq _ rfl] at e';cases e';exact hT
   ·refine hk b o hb ?_
    have e':(s.heap.push { cls:=.type "tuple",data:=.seq [u,u2].toArray }).get? b=some o:=e;have hlt:=Pz e';rw[Kd] at hlt;exact Jj e' hbs
  refine⟨.ref s.heap.objs.size,rfl,wpAny_letOwnedTupleGo_zip (s:={ s with heap:=h' }) Z'.zp λh2 hz2 hs2=>?_⟩
  have IC:Inv X pq σ (upd H s.heap.objs.size (.tup [x,y])) { s with heap:=h2,toks:=s.toks }:=WJ (s:={ s with heap:=h',toks:=s.toks }) (ch:=[z]) IB (λb o hb e=>(hs2.2 b (by simpa using hb)).trans e) λb hb=>hf2 b (by simp only[PL] at hb;simp[hb])
  obtain⟨a,c,hTO⟩:=Z'.to;refine⟨.ref s.heap.objs.size,_,IC,rfl,⟨_,x,y,λzs hz=>by rw[yq I hz hq1];exact hx,λzs hz=>by rw[yq I hz hq2];exact hy,hfree,rfl,rfl⟩,?_,λb hb=>(hf2 b hb).1⟩
  exact⟨hz2,hs2.extBut _ _ D.TIz Z'.ti,⟨a,c,hs2.extBut _ _ D.TOz hTO⟩,Z'.s1.ext hs2.extBut D.i1z,Z'.s2.ext hs2.extBut D.i2z⟩
 done:=by
  intro X hP hw hK hc i pq s σ H E I hf st hg;subst hP hw hK;obtain⟨xs,ys,hq1,hq2,hend⟩:=hg;obtain⟨its,rv,o1⟩:=XB I hq1;obtain⟨its2,rv2,o2⟩:=XB I hq2;have e1:=rv.length;have e2:=rv2.length;refine Qx (I.ok.hd hc) D st o1 o2 (by rcases hend with q | q;exact .inl (by simp;omega);exact .inr (by simp;omega)) λh' hk=>⟨rfl,WJ (t':=s.toks) (ch:=[z,TO,i1,i2]) I (λb o hb e=>hk b o hb e) λb hb=>hf b (by simp only[Po,Ni,Ki] at hb ⊢;rcases hb with q | q | q | q <;> simp[q])⟩
 self:=λ_ _ _ _ _ st h=>wpAny_pyIter_zip st.zp h
section
variable {X:Cx}{elts:List Expr}{kk:Nat}{tp:Pos}
def ZdN (K:PySem.W.Frag) (ta:TA):TI:=λσ H R=>ta σ H λvs H1=>∃b1 b2 l1 l2,vs=[.ref l1,.ref l2]/\(∃xs,Sq b1 K H1 l1 xs)/\(∃ys,Sq b2 K H1 l2 ys)/\R (Itz K b1 b2 l1 l2) H1
theorem Zcc {a b:Expr}{ta:TA}{p pos:Pos}(hg:Gl X "zip") (hm:X.mg "zip" = none) (ha:PA X [a,b] ta) (hs:starEach [a,b] X.env=[(false,eval a X.env),(false,eval b X.env)]:=by rfl) (hs2:starEach [b] X.env=[(false,eval b X.env)]:=by rfl) :
  PI X (.Tuple elts kk tp) (.Call (.Name "zip" p) [a,b] [] pos) (ZdN X.K ta):=by
 intro pq s σ H R I h;refine Call_ (YF I hg hm (by rfl) (PZ (thn (ha pos pq s σ H _ I h) λus s1 ⟨vs,H1,I1,r1,q1⟩=>?_) (by rw[hs,hs2]) (by rw[hs2];rfl)))
 obtain⟨b1,b2,l1,l2,e,⟨xs,hq1⟩,⟨ys,hq2⟩,q⟩:=q1;subst e;cases r1 with
 |cons r rr=>
  cases rr with
  |cons r' rr=>
   cases rr;cases r;cases r';obtain⟨its,rv,o1⟩:=XB I1 hq1;obtain⟨its2,rv2,o2⟩:=XB I1 hq2;have lt1:=UJ o1;have lt2:=UJ o2;refine uO o1 o2 λh' n hn Z hk=>?_
   have I2:Inv X pq σ H1 { s1 with heap:=h' }:=I1.kept (t':=s1.toks) hk
   have q1:(l1:Nat)<n:=by rw[hn];exact lt1
   have q2:(l2:Nat)<n:=by rw[hn];exact lt2
   have D:ZipApart (n+4) (n+2) (n+3) n (n+1) l1 l2:=by constructor <;> first | exact Wt (by omega) | exact Wt (.inl (PN q1 (Ke n _))) | exact Wt (.inl (PN q2 (Ke n _))) | exact Wt (.inl q1) | exact Wt (.inl q2)
   refine wpAny_pyIter_zip (s:={ s1 with heap:=h' }) Z.zp ⟨n+4,[n+4,n+2,n+3,n,n+1],_,_,H1,rfl,I2,ji D,Z,λb hb=>?_,q⟩
   have hbn:s1.heap.objs.size<=b:=by
    rw[<-hn];simp only[Po,Ni,Ki] at hb;rcases hb with e | e | e | e | e <;> rw[e]
    ·exact Ke n 4
    ·exact Ke n 2
    ·exact Ke n 3
    ·exact Pk n
    ·exact Ke n 1
   exact I1.fpOk hbn (I1.hok.fresh hbn)
end
def Side (K:PySem.W.Frag) (ρ:List Addr) (H:Hp) (wk:Walk) (b:Bool) (l:Addr):Prop:=∀ρ' S' H',Fut ρ H ρ' H'->St3 K ρ' S' H'->wk.still S'=true->∃vs,Sq b K H' l vs/\Rq ρ' H' wk.items vs
theorem Gd {K:PySem.W.Frag}{ρ:List Addr}{S:Zc}{H:Hp}{x:D}{v:V}{wk:Walk}(st:St3 K ρ S H) (r:Rep ρ H x v) (h:Ev.Ym S x=some wk):∃b l,v=.ref l/\(∃xs,Sq b K H l xs)/\Side K ρ H wk b l:=by
 cases x with
 |tup ds=>
  obtain⟨a,xs,rfl,hp,rs⟩:=r.tup';cases h;exact⟨false,a,rfl,⟨xs,SqT.of hp⟩,λρ' S' H' f _ _=>⟨xs,SqT.of (f.tup a xs hp),rs.mono f⟩⟩
 |loc n=>
  obtain⟨a,rfl,hp⟩:=r.loc';have h':(match S[n]? with
   |some (.lst xs)=>some (Walk.mk xs [(n,xs)])
   |_=>none)=some wk:=h
  cases q:S[n]? with
  |none=>rw[q] at h';cases h'
  |some o=>
   rw[q] at h';cases o with
   |lst ds=>
    cases h';obtain⟨a',ha,xs,hx,rs⟩:=st.at q;rw[hp] at ha;cases ha;refine⟨true,a,rfl,⟨xs,SqL.of hx⟩,λρ' S' H' f st' hs=>?_⟩
    have hn:S'[n]? = some (.lst ds):=by simpa [Walk.still] using hs
    obtain⟨a',ha,xs',hx',rs'⟩:=st'.at hn;rw[f.at hp] at ha;cases ha;exact⟨xs',SqL.of hx',rs'⟩
   |_=>cases h'
 |_=>cases h
theorem qW {K:PySem.W.Frag}{ρ:List Addr}{H:Hp}{v w:Walk}{b1 b2:Bool}{l1 l2:Addr}(h1:Side K ρ H v b1 l1) (h2:Side K ρ H w b2 l2):WRel K ρ H ⟨(v.items.zip w.items).map λp=>.tup [p.1,p.2],v.kept++w.kept⟩ (Itz K b1 b2 l1 l2) where
 go:=λi ρ' S' H' f st hs hi=>by
  have hs':v.still S'=true/\w.still S'=true:=by
   have:(v.kept++w.kept).all (λp=>decide (S'[p.1]? = some (.lst p.2)))=true:=hs
   rw[List.all_append,Pp] at this;exact this
  obtain⟨xs,q1,r1⟩:=h1 ρ' S' H' f st hs'.1;obtain⟨ys,q2,r2⟩:=h2 ρ' S' H' f st hs'.2;have hi':i<min v.items.length w.items.length:=by simpa using hi
  obtain⟨x,g1,rx⟩:=r1.get (Pd (show i<v.items.length by omega))
  obtain⟨y,g2,ry⟩:=r2.get (Pd (show i<w.items.length by omega))
  refine⟨⟨xs,ys,x,y,q1,q2,g1,g2⟩,λu H'' ⟨T,x',y',e1,e2,hT,eH,eu⟩=>?_⟩
  subst eH eu;have ex:=(e1 xs q1).symm.trans g1;have ey:=(e2 ys q2).symm.trans g2;cases ex;cases ey;refine⟨Yg hT,st.fresh hT,λd hd=>?_⟩
  have hd':((v.items.zip w.items).map λp=>D.tup [p.1,p.2])[i]? = some d:=hd
  have hz:(v.items.zip w.items)[i]? = some (v.items[i],w.items[i]):=List.getElem?_zip_eq_some.mpr ⟨Pd (show i<v.items.length by omega),Pd (show i<w.items.length by omega)⟩
  rw[PM,hz] at hd';cases hd';exact ZQ Yh (Rq.cons (rx.mono (Yg hT)) (Rq.cons (ry.mono (Yg hT)) Rq.nil))
 stop:=λρ' S' H' f st hs=>by
  have hs':v.still S'=true/\w.still S'=true:=by
   have:(v.kept++w.kept).all (λp=>decide (S'[p.1]? = some (.lst p.2)))=true:=hs
   rw[List.all_append,Pp] at this;exact this
  obtain⟨xs,q1,r1⟩:=h1 ρ' S' H' f st hs'.1;obtain⟨ys,q2,r2⟩:=h2 ρ' S' H' f st hs'.2;refine⟨xs,ys,q1,q2,?_⟩;show xs.length<=((v.items.zip w.items).map λp=>D.tup [p.1,p.2]).length\/_
  rw[r1.length,r2.length,Pl,NK];omega
section
variable {X:Cx}{xw:Nat->Hp->Prop}{C:Calls}{a b:Expr}{i j:E}{pos p tp:Pos}{elts:List Expr}{kk:Nat}
noncomputable def Zau (x y:D) (S:Zc):R Walk:=match Ev.Ym S x,Ev.Ym S y with
 |some v,some w=>.ok ⟨(v.items.zip w.items).map λp=>.tup [p.1,p.2],v.kept++w.kept⟩ S
 |_,_=>.no
theorem yJ (hm:X.mg "zip" = none) (ha:CA X xw C [a,b] [i,j]) (hg:Gl X "zip":=by rfl) (hs:starEach [a,b] X.env=[(false,eval a X.env),(false,eval b X.env)]:=by rfl) (hs2:starEach [b] X.env=[(false,eval b X.env)]:=by rfl) :
  CW X xw C (.Tuple elts kk tp) (.Call (.Name "zip" p) [a,b] [] pos) (.zip i j):=
 PI.imp (Zcc hg hm ha hs hs2) λσ H Q ⟨ρ,l,S,st,lr,h⟩=>by
  refine⟨ρ,l,S,st,lr,?_⟩;show End X.K xw Rq ρ H _ ((ev C i l S).bind λx S=>((ev C j l S).bind λy S=>(Ev.R.ok [] S).bind λxs S=>.ok (y::xs) S).bind λxs S=>.ok (x::xs) S)
  have h':End X.K xw (WRel X.K) ρ H Q ((ev C i l S).bind λx S=>(ev C j l S).bind λy S=>Zau x y S):=h
  cases q:ev C i l S with
  |no=>rw[q] at h';exact h'
  |ex c S1=>rw[q] at h';exact h'
  |ok x S1=>
   rw[q] at h';have h2:End X.K xw (WRel X.K) ρ H Q ((ev C j l S1).bind λy S=>Zau x y S):=h'
   show End X.K xw Rq ρ H _ (((ev C j l S1).bind λy S=>(Ev.R.ok [] S).bind λxs S=>.ok (y::xs) S).bind λxs S=>.ok (x::xs) S)
   cases q2:ev C j l S1 with
   |no=>rw[q2] at h2;exact h2
   |ex c S2=>rw[q2] at h2;exact h2
   |ok y S2=>
    rw[q2] at h2;intro ρ1 H1 vs f1 st1 r1;obtain⟨v,u,rfl,rv,ru⟩:=Js r1;have h3:End X.K xw (WRel X.K) ρ1 H1 Q (Zau x y S2):=End.mono f1 h2;unfold Zau at h3;cases e1:Ev.Ym S2 x with
    |none=>rw[e1] at h3;exact False.elim h3
    |some v1=>
     cases e2:Ev.Ym S2 y with
     |none=>rw[e1,e2] at h3;exact False.elim h3
     |some v2=>
      rw[e1,e2] at h3;obtain⟨b1,l1,rfl,s1,d1⟩:=Gd st1 rv e1;obtain⟨b2,l2,rfl,s2,d2⟩:=Gd st1 ru e2;exact⟨b1,b2,l1,l2,rfl,s1,s2,End.ok (rep:=WRel X.K) h3 st1 (qW d1 d2)⟩
end
theorem Jq {prog:Program}{w:World}{A:Around}(hh:A.handled=none) (b:Bool) (it l:Addr) (hne:l≠it) (xs:Array Value) :
  Draws prog w A it [it,l] xs.size (λi v=>xs[i]? = some v) (λi h=>Src b h it l i/\YN b h l xs) where
 live:=λ_ _ st=>let ⟨o,ho,_⟩:=st.1.obj;⟨o,ho⟩
 frame:=λ_ _ _ st hk=>⟨st.1.keep λo e=>hk it (by simp) o e,st.2.keep λo e=>hk l (by simp) o e⟩
 item:=λi s Q E hi st hQ=>Vo st.1 st.2 (x:=xs[i]) (Array.getElem?_eq_getElem hi) λh' hit' hs'=>hQ _ h' s.toks (Array.getElem?_eq_getElem hi) ⟨hit',st.2.keep λo e=>hs'.extBut _ o hne e⟩ hs'
 done:=λs Q E st hE=>GH hh st.1 st.2 (Array.getElem?_eq_none (Pk _)) hE
noncomputable def Ite (K:PySem.W.Frag) (b:Bool) (l:Addr):It:=
 ⟨λi H=>∃xs x,Sq b K H l xs/\xs[i]? = some x,
  λi H v H'=>∃T x,(∀xs,Sq b K H l xs->xs[i]? = some x)/\H T=none/\H'=upd H T (.tup [.int i,x])/\v=.ref T,
  λi H=>∃xs,Sq b K H l xs/\xs.length=i⟩
theorem wZ {P:Program}{w:World}{K:PySem.W.Frag}{elts:List Expr}{kk:Nat}{tp:Pos}{b:Bool}{e it l:Addr}(hei:e≠it) (hle:l≠e) (hli:l≠it) :
  Turn P w K (.Tuple elts kk tp) (Ite K b l) [e,it] e (λi h=>(∃old,IsEnum h e it i old)/\Src b h it l i) where
 mem:=by simp
 obj:=λi h st c hc=>by
  simp only[Po,Ni,Ki] at hc;obtain⟨⟨old,he⟩,hs⟩:=st;rcases hc with q | q <;> subst q
  ·exact⟨_,he,λv q=>by cases q⟩
  ·exact hs.obj
 keep:=λi h h' st k=>by
  obtain⟨⟨old,he⟩,hs⟩:=st;exact⟨⟨old,k e (by simp) _ he⟩,hs.keep λo q=>k it (by simp) o q⟩
 item:=by
  intro X hP hw hK hc i pq s σ H E I hf st hg;subst hP hw hK;obtain⟨xs,x,hq,hx⟩:=hg;obtain⟨its,rv,o1⟩:=XB I hq;obtain⟨⟨old,he⟩,hs⟩:=st;obtain⟨u,hu,ru⟩:=rv.get hx;have hlt:i<its.toArray.size:=by
   have:=(Pr.mp hu).1
   simpa using this
  have hh:X.A.in1.handled=none:=I.ok.hd hc;refine wpAny_pyNext_enum_itemD (Jq hh b it l hli its.toArray) he ⟨hs,o1⟩ hlt hei (by simp only[Po,Ni,Ki,not_or];exact⟨hei,Ne.symm hle⟩) λx' h' tk hP ho hst hT hsz hk=>?_
  have ex:x'=u:=by
   have:its.toArray[i]? = some u:=by simpa using hu
   rw[this] at hP;exact (Pb hP).symm
  subst ex;have hfree:H s.heap.objs.size=none:=I.hok.fresh (Pk _);have ltz:∀c∈[e,it],c≠s.heap.objs.size:=λc hc q=>by
   simp only[Po,Ni,Ki] at hc;rcases hc with z | z <;> subst z
   ·exact absurd (Pz he) (by rw[q];exact P2 _)
   ·obtain⟨o,ho,_⟩:=hs.obj;exact absurd (Pz ho) (by rw[q];exact P2 _)
  have IA:Inv X pq σ (upd H s.heap.objs.size (.tup [.int i,x])) { s with heap:=s.heap.push { cls:=.type "tuple",data:=.seq [.int i tk,x'].toArray },toks:=tk+1 }:=
   I.laid (λc o q=>Pf _ q) (Pk _) ⟨by show 2<=sizeLine;decide,[.int i tk,x'],.cons ⟨tk,rfl⟩ (.cons ru .nil),Kz _ _⟩
  have hf2:∀c∈[e,it],VC X pq (upd H s.heap.objs.size (.tup [.int i,x])) c:=λc hc=>⟨by rw[ZE (ltz c hc)];exact (hf c hc).1,(hf c hc).2⟩
  have IB:Inv X pq σ (upd H s.heap.objs.size (.tup [.int i,x])) { s with heap:=h',toks:=tk+1 }:=by
   refine WJ (s:={ s with heap:=s.heap.push { cls:=.type "tuple",data:=.seq [.int i tk,x'].toArray },toks:=tk+1 }) (ch:=[e,it]) IA (λc o hc q=>?_) hf2
   by_cases hcs:c=s.heap.objs.size
   ·subst hcs
    have q':(s.heap.push { cls:=.type "tuple",data:=.seq [.int i tk,x'].toArray }).get? s.heap.objs.size=some o:=q;rw[Pq _ rfl] at q';cases q';exact hT
   ·simp only[Po,Ni,Ki,not_or] at hc
    exact hk c o hc.1 hc.2 (Jj q hcs)
  refine⟨.ref s.heap.objs.size,rfl,wpAny_letOwnedTupleGo_enum (s:={ s with heap:=h',toks:=tk+1 }) ho λh2 he2 hs2=>?_⟩
  have IC:Inv X pq σ (upd H s.heap.objs.size (.tup [.int i,x])) { s with heap:=h2,toks:=tk+1 }:=WJ (s:={ s with heap:=h',toks:=tk+1 }) (ch:=[e]) IB (λc o hc q=>(hs2.2 c (by simpa using hc)).trans q) λc hc=>hf2 c (by simp only[PL] at hc;simp[hc])
  refine⟨.ref s.heap.objs.size,_,IC,rfl,⟨_,x,λzs hz=>by rw[yq I hz hq];exact hx,hfree,rfl,rfl⟩,⟨⟨x',by simpa using he2⟩,hst.1.ext hs2.extBut (Ne.symm hei)⟩,λc hc=>(hf2 c hc).1⟩
 done:=by
  intro X hP hw hK hc i pq s σ H E I hf st hg;subst hP hw hK;obtain⟨xs,hq,hend⟩:=hg;obtain⟨its,rv,o1⟩:=XB I hq;obtain⟨⟨old,he⟩,hs⟩:=st;have e1:=rv.length;have hh:X.A.in1.handled=none:=I.ok.hd hc;have en:i=its.toArray.size:=by simp;omega
  subst en;exact wpAny_pyNext_enum_endD (Jq hh b it l hli its.toArray) he ⟨hs,o1⟩ λh' hx=>⟨rfl,WJ (t':=s.toks) (ch:=[e,it]) I (λc o hc q=>hx c o (λz=>hc (by simp[z])) q) hf⟩
 self:=λ_ _ _ _ _ st h=>by
  obtain⟨⟨old,he⟩,_⟩:=st;exact wpAny_pyIter_enum he h
section
variable {prog:Program}{w:World}{A:Around}{E:Value->Shared->Prop}{s:Shared}
theorem uv (l:Addr) (items:Array Value) (n:Nat) (dct:Option Addr) (sl:Array (Option Value)) :
  Meets (Builtin.«enumerate.__new__» ⟨[.type "enumerate",.ref l],[]⟩) (λ_ R s=>s.heap.get? l=some { cls:=.type "tuple",dict:=dct,data:=.seq items n,slots:=sl }/\
   R (.ok (.ret (.ref (s.heap.push (YA false l)).objs.size))) { s with heap:=(s.heap.push (YA false l)).push { cls:=.type "enumerate",data:=.fields #[.none,.bool false,.ref s.heap.objs.size,rawInt 0,.none,.none] } }):=
 .of_wp λprog w A R s h=>by
  obtain⟨hp,g,d,tk,os⟩:=s;obtain⟨hl,h⟩:=h;have hsub:=sub_enumerate;have hL:Heap.IsTuple (Shared.heap ⟨hp,g,d,tk,os⟩) l items:=⟨_,hl,rfl,n,rfl⟩
  wp_walk using Kt hl;refine wpAny_stack_any λst=>Pi ?_;split
  ·rename_i c _ _ _ _ _;cases (c == Value.type "enumerate") <;> (wp_walk using Kt hl,Ky hL;exact⟨_,rfl,h⟩)
  ·wp_walk using Kt hl,Ky hL;exact⟨_,rfl,h⟩
theorem vA {b:Bool}{l:Addr}{xs:Array Value}{Q:Value->Shared->Prop}(hL:YN b s.heap l xs)
  (h:∀h' n,n=s.heap.objs.size->IsEnum h' (n+1) n 0 .none->Src b h' n l 0->(∀c o,s.heap.get? c=some o->h'.get? c=some o)->Q (.ref (n+1)) { s with heap:=h' }):wpAny (model prog w) A (call (.type "enumerate") [.ref l]) Q E s:=by
 cases b with
 |true=>exact call_enumerate_list hL λh' a1 a2 _ a4=>h h' _ rfl a1 a2 a4
 |false=>
  obtain⟨⟨c,dct,dt,sl⟩,hl,hc,n,hd⟩:=hL;simp only at hc hd;subst hc hd;refine callType_new F.called_enumerate (by decide) (F.typeCall_enumerate_1 _) (F.newCall_enumerate_1 _) (λobj=>F.args_object_init_2 obj _) F.entry_enumerate_new (uv l xs n dct sl) ⟨hl,?_⟩
  have hz:(s.heap.push (YA false l)).objs.size=s.heap.objs.size+1:=Kd ..;have g2:=Pq (s.heap.push (YA false l)) (o:={ cls:=.type "enumerate",data:=.fields #[.none,.bool false,.ref s.heap.objs.size,rawInt 0,.none,.none] }) rfl;have g1:((s.heap.push (YA false l)).push { cls:=.type "enumerate",data:=.fields #[.none,.bool false,.ref s.heap.objs.size,rawInt 0,.none,.none] }).get? s.heap.objs.size=some (YA false l):=Pf _ (Pq _ rfl);rw[hz] at g2 ⊢;exact⟨⟨_,g2,rfl⟩,h _ _ rfl g2 ⟨_,g1,rfl,rfl⟩ λc o q=>Pf _ (Pf _ q)⟩
end
section
variable {X:Cx}{elts:List Expr}{kk:Nat}{tp:Pos}
def Zc4 (K:PySem.W.Frag) (ta:TA):TI:=λσ H R=>ta σ H λvs H1=>∃b l,vs=[.ref l]/\(∃xs,Sq b K H1 l xs)/\R (Ite K b l) H1
theorem Zai {a:Expr}{ta:TA}{p pos:Pos}(hg:Gl X "enumerate") (hm:X.mg "enumerate" = none) (ha:PA X [a] ta) (hs:starEach [a] X.env=[(false,eval a X.env)]:=by rfl):PI X (.Tuple elts kk tp) (.Call (.Name "enumerate" p) [a] [] pos) (Zc4 X.K ta):=by
 intro pq s σ H R I h;refine Call_ (YF I hg hm (by rfl) (PZ (thn (ha pos pq s σ H _ I h) λus s1 ⟨vs,H1,I1,r1,q1⟩=>?_) hs rfl))
 obtain⟨b,l,e,⟨xs,hq⟩,q⟩:=q1;subst e;cases r1 with
 |cons r rr=>
  cases rr;cases r;obtain⟨its,rv,o1⟩:=XB I1 hq;have lt1:=UJ o1;refine vA o1 λh' n hn he hs' hk=>?_
  have I2:Inv X pq σ H1 { s1 with heap:=h' }:=I1.kept (t':=s1.toks) hk
  have q1:(l:Nat)<n:=by rw[hn];exact lt1
  refine wpAny_pyIter_enum (s:={ s1 with heap:=h' }) he ⟨n+1,[n+1,n],_,_,H1,rfl,I2,wZ (Wt (.inr (Nat.lt_succ_self n))) (Wt (.inl (Kl q1))) (Wt (.inl q1)),⟨⟨_,he⟩,hs'⟩,λc hc=>?_,q⟩
  have hbn:s1.heap.objs.size<=c:=by
   rw[<-hn];simp only[Po,Ni,Ki] at hc;rcases hc with e | e <;> rw[e]
   ·exact Nat.le_succ n
   ·exact Pk n
  exact I1.fpOk hbn (I1.hok.fresh hbn)
end
theorem wR {K:PySem.W.Frag}{ρ:List Addr}{H:Hp}{w:Walk}{b:Bool}{l:Addr}(h1:Side K ρ H w b l):WRel K ρ H ⟨(Ev.Zq 0 w.items.length).zip w.items |>.map λp=>.tup [p.1,p.2],w.kept⟩ (Ite K b l) where
 go:=λi ρ' S' H' f st hs hi=>by
  obtain⟨xs,q1,r1⟩:=h1 ρ' S' H' f st hs;have hi':i<w.items.length:=by
   have:i<(((Ev.Zq 0 w.items.length).zip w.items).map λp=>D.tup [p.1,p.2]).length:=hi
   rw[Pl,NK,WP] at this;omega
  obtain⟨x,g1,rx⟩:=r1.get (Pd hi');refine⟨⟨xs,x,q1,g1⟩,λu H'' ⟨T,x',e1,hT,eH,eu⟩=>?_⟩
  subst eH eu;have ex:=(e1 xs q1).symm.trans g1;cases ex;refine⟨Yg hT,st.fresh hT,λd hd=>?_⟩
  have hd':(((Ev.Zq 0 w.items.length).zip w.items).map λp=>D.tup [p.1,p.2])[i]? = some d:=hd
  have hz:((Ev.Zq 0 w.items.length).zip w.items)[i]? = some (.int (0+i),w.items[i]):=List.getElem?_zip_eq_some.mpr ⟨G9 hi',Pd hi'⟩;rw[PM,hz] at hd';cases hd';refine ZQ Yh (Rq.cons ?_ (Rq.cons (rx.mono (Yg hT)) Rq.nil));have:((0:Int)+i)=i:=by omega
  show Rep _ _ (D.int (0+i)) (V.int i);rw[this];exact Zp _
 stop:=λρ' S' H' f st hs=>by
  obtain⟨xs,q1,r1⟩:=h1 ρ' S' H' f st hs;refine⟨xs,q1,?_⟩;show xs.length=(((Ev.Zq 0 w.items.length).zip w.items).map λp=>D.tup [p.1,p.2]).length
  rw[Pl,NK,WP,r1.length];omega
section
variable {X:Cx}{xw:Nat->Hp->Prop}{C:Calls}{a b:Expr}{i j:E}{pos p tp:Pos}{elts:List Expr}{kk:Nat}
theorem JL (hm:X.mg "enumerate" = none) (ha:CA X xw C [a] [i]) (hg:Gl X "enumerate":=by rfl) (hs:starEach [a] X.env=[(false,eval a X.env)]:=by rfl) :
  CW X xw C (.Tuple elts kk tp) (.Call (.Name "enumerate" p) [a] [] pos) (.enum i):=
 PI.imp (Zai hg hm ha hs) λσ H Q ⟨ρ,l,S,st,lr,h⟩=>by
  refine⟨ρ,l,S,st,lr,?_⟩;show End X.K xw Rq ρ H _ ((ev C i l S).bind λx S=>(Ev.R.ok [] S).bind λxs S=>.ok (x::xs) S)
  have h':End X.K xw (WRel X.K) ρ H Q ((ev C i l S).bind λx S=>match Ev.Ym S x with
   |some w=>.ok ⟨(Ev.Zq 0 w.items.length).zip w.items |>.map λp=>.tup [p.1,p.2],w.kept⟩ S
   |none=>.no):=h
  cases q:ev C i l S with
  |no=>rw[q] at h';exact h'
  |ex c S1=>rw[q] at h';exact h'
  |ok x S1=>
   rw[q] at h';intro ρ1 H1 vs f1 st1 r1;obtain⟨v,rfl,r⟩:=YZ r1;have h3:End X.K xw (WRel X.K) ρ1 H1 Q (match Ev.Ym S1 x with
    |some w=>.ok ⟨(Ev.Zq 0 w.items.length).zip w.items |>.map λp=>.tup [p.1,p.2],w.kept⟩ S1
    |none=>.no):=End.mono f1 (show End X.K xw (WRel X.K) ρ H Q _ from h')
   cases e1:Ev.Ym S1 x with
   |none=>rw[e1] at h3;exact False.elim h3
   |some wk=>
    rw[e1] at h3;obtain⟨b1,l1,rfl,s1,d1⟩:=Gd st1 r e1;exact⟨b1,l1,rfl,s1,End.ok (rep:=WRel X.K) h3 st1 (wR d1)⟩
end
theorem wP {prog:Program}{w:World}{A:Around}(hh:A.handled=none) (b:Bool) (it l:Addr) (hne:l≠it) (xs:Array Value) :
  Walks prog w A it [it,l] [it] xs.size (λi v=>xs[i]? = some v) (λi h=>Src b h it l i/\YN b h l xs):=by
 cases b
 ·exact Walks.tuple hh it l hne xs
 ·exact Walks.list hh it l hne xs
theorem jV {b:Bool}{h:Heap}{l:Addr}:Src b (h.push (YA b l)) h.objs.size l 0:=by
 cases b
 ·exact⟨_,Pq _ rfl,rfl,rfl⟩
 ·exact⟨_,Pq _ rfl,rfl,rfl⟩
section
variable {X:Cx}{xw:Nat->Hp->Prop}{C:Calls}{e a b c:Expr}{i j k:E}{pos p p' p2:Pos}
theorem U6 {ρ:List Addr}{H:Hp}:∀{ds:List D}{is:List Int}{xs:List V},Ev.XC ds=some is->Rq ρ H ds xs->xs=is.map V.int
 |[],is,xs,h,r=>by unfold Rq at r;cases h;rw[r];rfl
 |d::ds,is,xs,h,r=>by
  unfold Rq at r;obtain⟨v,vs,rfl,a1,b1⟩:=r;cases d with
  |int n=>
   have h':(Ev.XC ds).map (n :: ·)=some is:=h
   cases q:Ev.XC ds with
   |none=>rw[q] at h';cases h'
   |some k'=>
    rw[q] at h';have e:n::k'=is:=Pb h';rw[<-e,a1.int',U6 q b1];rfl
  |_=>cases h
theorem Qd (f:Nat->Int) (n:Nat):preSum f (n+1)=preSum f n+f n:=rfl
theorem zB:∀(is:List Int),preSum (λj=>is.getD j 0) is.length=is.sum:=by
 have gen:∀(is:List Int) (n:Nat),n<=is.length->preSum (λj=>is.getD j 0) n=(is.take n).sum:=by
  intro is n
  induction n with
  |zero=>intro _;rfl
  |succ n ih=>
   intro h;rw[Qd,ih (by omega),List.take_add_one,List.sum_append]
   have:is[n]? = some is[n]:=Pd (by omega)
   simp[this]
 intro is;rw[gen is is.length (Pk _),List.take_length]
theorem Vr {f:Nat->Int}{M:Int}(h:∀j,-M<=f j/\f j<=M) (hM:0<=M):∀n:Nat,-(M*n)<=preSum f n/\preSum f n<=M*n
 |0=>by rw[show preSum f 0=0 from rfl];simp
 |n+1=>by
  obtain⟨a,b⟩:=Vr h hM n;obtain⟨c,d⟩:=h n;rw[Qd];have:M*((n+1:Nat):Int)=M*n+M:=by rw[Int.natCast_add,Int.mul_add];simp
  rw[this];omega
theorem wU (hc:X.calm=true):ZO X (.builtin "sum") (λvs H Q=>∃ρ S ds n is,St3 X.K ρ S H/\Rq ρ H [.loc n] vs/\Ev.Zj S n=some ds/\Ev.XC ds=some is/\Ev.Xc is=true/\Q (.int is.sum) H):=by
 intro pq s σ H vs us Q I r h;obtain⟨ρ,S,ds,n,is,st,rs,hl,hb,hok,q⟩:=h;obtain⟨v,rfl,r1⟩:=YZ rs;obtain⟨_,l,xs,q1,hx,rx⟩:=st.lst hl;obtain⟨p',rfl,t⟩:=r1.loc';rw[q1] at t;cases t;obtain⟨u,rfl,ru⟩:=Uo r;cases ru;have hq:Sq true X.K H l xs:=SqL.of hx;obtain⟨its,rv,o1⟩:=XB I hq;have hlt:=UJ o1;have ex:=U6 hb rx;subst ex;have hlen:its.toArray.size=is.length:=by rw[Pg,<-rv.length,Pl]
 obtain⟨k1,k2⟩:=(Pp _ _).mp hok;have k1':=PF k1;have bd:∀j,-1099511627776<=is.getD j 0/\is.getD j 0<=1099511627776:=λj=>by
  cases e:is[j]? with
  |none=>rw[Pu,e];simp
  |some y=>
   have:=PF (Pw.mp k2 y (N9 e));rw[Pu,e];exact this
 refine call_sum_walk (U8 o1 ⟨s.heap.objs.size,[s.heap.objs.size,l],[s.heap.objs.size],its.toArray.size,_,_,λj=>is.getD j 0,rfl,wP (A:=X.A.in1) (show X.A.in1.handled=none from I.ok.hd hc) true s.heap.objs.size l (P3 hlt) its.toArray,⟨jV,o1.keep λo q=>Pf _ q⟩,λb hb=>?_,λj v hv=>?_,λj hj=>?_,?_⟩)
 ·rw[Kd]
  simp only[Po,Ni,Ki] at hb;rcases hb with q | q <;> rw[q]
  ·exact Nat.lt_succ_self _
  ·exact Kl hlt
 ·have hj:its[j]? = some v:=by simpa using hv
  have jl:j<is.length:=by
   have:=(Pr.mp hj).1;rw[<-rv.length,Pl] at this;exact this
  obtain⟨u',g',ru'⟩:=rv.get (i:=j) (show (is.map V.int)[j]? = some (V.int is[j]) by rw[PM,Pd jl];rfl)
  rw[hj] at g';cases g';obtain⟨t,e⟩:=ru';exact⟨t,by rw[e];show Value.int is[j] t=Value.int (is.getD j 0) t;rw[Pu,Pd jl];rfl⟩
 ·have b1:=bd j
  have b2:=Vr bd (by omega) (j+1)
  have jl:j+1<=1000:=by omega
  have b3:(1099511627776:Int)*((j+1:Nat):Int)<=1099511627776*1000:=Int.mul_le_mul_of_nonneg_left (by omega) (by omega)
  refine⟨show InLong (is.getD j 0) from ?_,?_⟩ <;> (unfold InLong;omega)
 ·intro h' tk t' hk
  rw[hlen,zB];exact⟨.int is.sum,H,I.kept (t':=tk) λb o e=>hk b o (λhm=>by
   have:b=s.heap.objs.size:=by simpa using hm
   exact absurd (this▸Pz e) (P2 _)) (Pf _ e),⟨t',rfl⟩,q⟩
theorem xI (hc:X.calm=true):ZO X (.builtin "sum") (UT X.K xw .sum):=ZO.imp (wU hc) λvs H Q ⟨ρ,S,ds,st,r,h⟩=>by
 match ds,r,h with
 |[.loc n],r,h=>
  obtain⟨xs,hx,h1⟩:=End.ob (show End X.K xw Rep ρ H Q ((Ev.ob (Ev.Zj S n) S).bind λxs S=>(Ev.ob (Ev.XC xs) S).bind λis S=>if Ev.Xc is=true then .ok (.int is.sum) S else .no) from h)
  obtain⟨is,hb,h2⟩:=End.ob h1;obtain⟨hs,h3⟩:=End.guard h2;exact⟨ρ,S,xs,n,is,st,r,hx,hb,hs,End.ok h3 st (Zp _)⟩
theorem V3 {o:Expr}{io:E}{apos cpos:Pos}(ho:CE X xw C o io) (ha:CA X xw C [e] [i])
  (hbase:attributeBase o "extend" X.env (eval o X.env)=eval o X.env:=by rfl)
  (hfew:((backTo cpos (starEach [e] X.env)).all (λx=>!x.1)&&(backToKw cpos (keywordEach [] X.env)).all (λx=>x.1.isSome)
   && decide (([e]:List Expr).length+([]:List Keyword).length+(if ([]:List Keyword).isEmpty then 0 else 1)<30))=true:=by rfl)
  (hline:(apos.endLine == cpos.line)=true:=by rfl) (hs:starEach [e] X.env=(false,eval e X.env)::starEach [] X.env:=by rfl) (hplain:(backTo cpos (starEach [] X.env)).any (·.1)=false:=by rfl) :
  CE X xw C (.Call (.Attribute o "extend" apos) [e] [] cpos) (.mt .extend io [i]):=
 PE.imp (Zbn PySem.F.plainAttrs_list PySem.F.slot_list_extend PySem.F.type_list_extend vI ho ha hbase hfew hline hs hplain) λσ H Q ⟨ρ,l,S,st,lr,h⟩=>by
  have h':End X.K xw Rep ρ H Q ((ev C io l S).bind λx S=>if Ev.Qg S x=true then (evs C [i] l S).bind λxs S=>Ev.W9 .extend x xs S else .no):=h
  refine⟨ρ,l,S,st,lr,h'.bind λx S1 ρ1 H1 v f1 st1 r1 h1=>?_⟩
  obtain⟨hl,h1⟩:=h1.guard;cases x with
  |loc n=>
   obtain⟨p,rfl,hp⟩:=r1.loc';obtain⟨ds,hds⟩:=NP.mp (show (Ev.Zj S1 n).isSome=true from hl)
   obtain⟨_,p',xs,q1,hx,_⟩:=st1.lst hds;rw[hp] at q1;cases q1;refine⟨.inl ⟨rfl,xs,SqL.of hx⟩,ρ1,l,S1,st1,lr.mono f1,h1.bind λys S2 ρ2 H2 vs f2 st2 r2 h2=>?_⟩
   match ys,r2,h2 with
   |[.loc m],r2,h2=>
    obtain⟨w,rfl,rw'⟩:=YZ r2;obtain⟨pm,rfl,hpm⟩:=rw'.loc';have h2':End X.K xw Rep ρ2 H2 Q (if n=m then .no else (Ev.ob (Ev.Zj S2 n) S2).bind λxs S=>(Ev.ob (Ev.Zj S m) S).bind λys S=>if xs.length+ys.length<=Ev.lim then .ok .non (S.set n (.lst (xs++ys))) else .no):=h2
    by_cases hnm:n=m
    ·rw[Ph hnm] at h2';exact False.elim h2'
    ·rw[Pj hnm] at h2'
     obtain⟨zs,hz,h3⟩:=End.ob h2';obtain⟨ws,hw,h4⟩:=End.ob h3;obtain⟨hlen,h5⟩:=h4.guard;obtain⟨sn,p2,zs',q2,hz2,rz⟩:=st2.lst hz;rw[f2.at hp] at q2;cases q2;obtain⟨sm,p3,ws',q3,hw2,rw2⟩:=st2.lst hw;rw[hpm] at q3;cases q3;refine⟨p,pm,zs',ws',rfl,rfl,hz2,hw2,by rw[rz.length,rw2.length,<-Ww];exact hlen,?_⟩
     exact h5 ρ2 _ .non (YI hz2) (st2.wr (f2.at hp) sn hz2 (rz.append rw2)) WC
   |[.non],r2,h2=>exact False.elim h2
   |[.bl _],r2,h2=>exact False.elim h2
   |[.int _],r2,h2=>exact False.elim h2
   |[.str _],r2,h2=>exact False.elim h2
   |[.tup _],r2,h2=>exact False.elim h2
   |[],r2,h2=>exact False.elim h2
   |d::_::_,r2,h2=>cases d <;> exact False.elim h2
  |_=>exact absurd hl (by simp[Ev.Qg])
theorem yt {n m:Nat}{x y:Str}{px py pt:Pos}{kt k2 pt2}(hc:X.calm=true) (hN:X.N.Nodup) (ha:CA X xw C [a,b] [i,j]) (hnm:n≠m:=by decide) (hi:X.N[n]? = some x:=by rfl) (hj:X.N[m]? = some y:=by rfl)
  (hx:X.env.scope.names.lookup x=some .local:=by rfl) (hy:X.env.scope.names.lookup y=some .local:=by rfl)
  (hw:swappedStores [.Tuple [.Name x px,.Name y py] kt pt] (.Tuple [a,b] k2 pt2) X.env=pure (some [x,y]):=by rfl)
  (hs:swapsWithSole [.Tuple [.Name x px,.Name y py] kt pt] (.Tuple [a,b] k2 pt2) pos.line X.env=pure false:=by rfl) :
  CS X xw C (.Assign [.Tuple [.Name x px,.Name y py] kt pt] (.Tuple [a,b] k2 pt2) pos) (.par [n,m] [i,j]):=
 PS.imp (Zcn hc hN hi hj hnm hx hy ha hw hs) λD σ H ⟨ρ,l,S,st,lr,h⟩=>
  ⟨ρ,l,S,st,lr,Zy.bind (show Zy X.K xw ρ H D ((evs C [i,j] l S).bind λxs S=>(Ev.ob (Ev.fill [n,m] xs l) S).bind λσ S=>.ok (.nx σ) S) from h) λxs S1 ρ1 H1 vs f1 st1 r1 h1=>by
   obtain⟨l',hl',h2⟩:=Zy.ob h1
   match xs,r1,hl' with
   |[d1,d2],r1,hl'=>
    obtain⟨v,w,rfl,a1,a2⟩:=Js r1;have e:(l.set n (some d1)).set m (some d2)=l':=Pb hl';exact⟨v,w,rfl,Zy.nx h2 st1 (by rw[<-e];exact ((lr.mono f1).set n a1).set m a2)⟩
   |[],_,hl'=>cases hl'
   |[_],_,hl'=>cases hl'
   |_::_::_::_,_,hl'=>cases hl'⟩
end
section
variable {X:Cx}{xw:Nat->Hp->Prop}{C:Calls}{p:Pos}
theorem ZaO {n:Int}{t:Tok}{x:Str}(hm:X.mg x=some (.int n t)) (hg:Gl X x:=by rfl) (hd:(x == ("__debug__" : Str))=false:=by decide):CE X xw C (.Name x p) (.c (.int n)):=
 PE.imp (xS (v:=.int n) hg hm ⟨t,rfl⟩ hd) λσ H Q ⟨ρ,l,S,st,lr,h⟩=>End.ok h st (Zp n)
end
end Sd
namespace Sq
open PySem PySem.W PyProof.Rows
noncomputable def evT {α:Type} (n:Nat) (lt:Nat->Nat->Bool):KasT α->Option α
 |.ret a=>some a
 |.ask i j k=>if i<n/\j<n then evT n lt (k (lt i j)) else none
theorem WO {α:Type}{n:Nat}{lt:Nat->Nat->Bool}{i j:Nat}{k:Bool->KasT α}(c:i<n/\j<n):evT n lt (.ask i j k)=evT n lt (k (lt i j)):=by
 show (if i<n/\j<n then evT n lt (k (lt i j)) else none)=_
 rw[Ph c]
theorem XF {α β:Type}{n:Nat}{lt:Nat->Nat->Bool}{f:α->KasT β}:∀{t:KasT α}{a:α},evT n lt t=some a->evT n lt (t.bind f)=evT n lt (f a)
 |.ret a,b,h=>by cases h;rfl
 |.ask i j k,b,h=>by
  unfold evT at h;by_cases c:i<n/\j<n
  ·rw[Ph c] at h
   show evT n lt (.ask i j λb=>(k b).bind f)=_
   rw[WO c];exact XF h
  ·rw[Pj c] at h;cases h
theorem uZ {α:Type}{n:Nat}{lt:Nat->Nat->Bool}{cmp:Nat->Nat->(Bool->Shared->Prop)->Shared->Prop}{G:α->Shared->Prop}{s:Shared}(hc:∀i j,i<n->j<n->∀C:Bool->Shared->Prop,C (lt i j) s->cmp i j C s) :
  ∀{t:KasT α} {a:α},evT n lt t=some a->G a s->t.kasWp cmp G s
 |.ret a,b,h,g=>by cases h;exact g
 |.ask i j k,b,h,g=>by
  unfold evT at h;by_cases c:i<n/\j<n
  ·rw[Ph c] at h
   exact hc i j c.1 c.2 _ (uZ hc h g)
  ·rw[Pj c] at h;cases h
structure Ord (n:Nat) (lt:Nat->Nat->Bool):Prop where
 tot:∀i j,i<n->j<n->i≠j->lt i j=false->lt j i=true
 asy:∀i j,i<n->j<n->lt i j=true->lt j i=false
 tr:∀i j k,i<n->j<n->k<n->lt i j=true->lt j k=true->lt i k=true
noncomputable abbrev g (p:Array Nat) (i:Nat):Nat:=p.getD i 0
def Pm (n:Nat) (p:Array Nat):Prop:=p.Perm (List.toArray (List.range n))
theorem Pm.size {n:Nat}{p:Array Nat}(h:Pm n p):p.size=n:=by have:=Array.Perm.size_eq h;simpa using this
theorem qY {p:Array Nat}{i:Nat}(h:i<p.size):p[i]? = some (g p i):=by simp[g,h]
theorem Pm.lt {n:Nat}{p:Array Nat}(h:Pm n p) {i:Nat}(hi:i<n):g p i<n:=by
 have hs:=h.size;have h1:g p i∈p.toList:=by
  have:p.toList[i]? = some (g p i):=by rw[N4];exact qY (by omega)
  exact N9 this
 have h2:p.toList.Perm (List.range n):=by simpa using NY.mp h
 exact PH.mp (h2.mem_iff.mp h1)
theorem Pm.inj {n:Nat}{p:Array Nat}(h:Pm n p) {i j:Nat}(hi:i<n) (hj:j<n) (e:g p i=g p j):i=j:=by
 have hs:=h.size;have h2:p.toList.Perm (List.range n):=by simpa using NY.mp h
 have nd:p.toList.Nodup:=(h2.nodup_iff).mpr KM;have e1:p.toList[i]? = some (g p i):=by rw[N4];exact qY (by omega)
 have e2:p.toList[j]? = some (g p j):=by rw[N4];exact qY (by omega)
 have hl:i<p.toList.length:=by simpa [hs] using hi
 exact (List.getElem?_inj hl nd).mp (by rw[e1,e2,e])
theorem GV {p:Array Nat}{src d:Nat}(hs:src<p.size) (hd:d<=src) (k:Nat):g (bubble p src d) k=if k=src-d then g p src else if src-d<k/\k<=src then g p (k-1) else g p k:=by
 have:=getElem?_bubble hs d hd k;unfold g;simp only[Array.getD_eq_getD_getElem?,this]
 repeat' split
 all_goals rfl
theorem Zbx {p:Array Nat}{m:Nat}(hm:m<=p.size) (k:Nat):g (kas_rev p 0 m) k=if k<m then g p (m-1-k) else g p k:=by
 have:=getElem?_mirror (xs:=p) (i:=0) (j:=m) hm ((m-0) / 2) (by omega) k
 unfold g kas_rev;simp only[Array.getD_eq_getD_getElem?,this];by_cases c:k<m
 ·rw[Ph c]
  split
  ·congr 2;omega
  ·congr 2;omega
 ·rw[Pj c,Pj (by omega)]
theorem qO {n:Nat}{p:Array Nat}(h:Pm n p) (i j:Nat):Pm n (kas_rev p i j):=(mirror_perm _ _ _ _).trans h
theorem vW {n:Nat}{p:Array Nat}(h:Pm n p) (i j:Nat):Pm n (bubble p i j):=(bubble_perm _ _ _).trans h
section
variable {n:Nat}{lt:Nat->Nat->Bool}
def Up (lt:Nat->Nat->Bool) (p:Array Nat) (m:Nat):Prop:=∀i j,i<j->j<m->lt (g p i) (g p j)=true
def Dn (lt:Nat->Nat->Bool) (p:Array Nat) (m:Nat):Prop:=∀i j,i<j->j<m->lt (g p j) (g p i)=true
theorem Zcv (p:Array Nat):Up lt p 1:=λi j a b=>by omega
theorem Zbi (O:Ord n lt) {p:Array Nat}(h:Pm n p) {m:Nat}(hm:m<n) (h1:1<=m) (u:Up lt p m) (c:lt (g p m) (g p (m-1))=false):Up lt p (m+1):=by
 have hl:lt (g p (m-1)) (g p m)=true:=O.tot _ _ (h.lt hm) (h.lt (by omega)) (λe=>by have:=h.inj hm (by omega) e;omega) c
 intro i j a b;by_cases z:j=m
 ·subst z
  by_cases y:i=j-1
  ·subst y;exact hl
  ·exact O.tr _ _ _ (h.lt (by omega)) (h.lt (by omega)) (h.lt hm) (u i (j-1) (by omega) (by omega)) hl
 ·exact u i j a (by omega)
theorem xt (O:Ord n lt) {p:Array Nat}(h:Pm n p):∀(f m:Nat),1<=m->m+f=n->Up lt p m->∃k,evT n lt (kas_asc p f m)=some k/\m<=k/\k<=n/\Up lt p k/\(k<n->lt (g p k) (g p (k-1))=true)
 |0,m,h1,e,u=>⟨m,rfl,Pk _,by omega,u,λz=>by omega⟩
 |f+1,m,h1,e,u=>by
  unfold kas_asc;rw[WO ⟨h.lt (by omega),h.lt (by omega)⟩]
  cases c:lt (g p m) (g p (m-1)) with
  |true=>exact⟨m,by rw[Ph rfl];rfl,Pk _,by omega,u,λ_=>c⟩
  |false=>
   obtain⟨k,e1,e2,e3,e4⟩:=xt O h f (m+1) (by omega) (by omega) (Zbi O h (by omega) h1 u c)
   exact⟨k,by rw[Pj (by simp)];exact e1,by omega,e3,e4⟩
theorem wA (O:Ord n lt) {p:Array Nat}(h:Pm n p) {m:Nat}(hm:m<n) (h1:1<=m) (u:Dn lt p m) (c:lt (g p m) (g p (m-1))=true):Dn lt p (m+1):=by
 intro i j a b;by_cases z:j=m
 ·subst z
  by_cases y:i=j-1
  ·subst y;exact c
  ·exact O.tr _ _ _ (h.lt hm) (h.lt (by omega)) (h.lt (by omega)) c (u i (j-1) (by omega) (by omega))
 ·exact u i j a (by omega)
theorem x9 (O:Ord n lt) {p:Array Nat}(h:Pm n p):∀(f m:Nat),1<=m->m+f=n->Dn lt p m->∃k,evT n lt (kas_desc f p m 0)=some (p,k,0)/\m<=k/\k<=n/\Dn lt p k
 |0,m,h1,e,u=>⟨m,rfl,Pk _,by omega,u⟩
 |f+1,m,h1,e,u=>by
  unfold kas_desc;rw[WO ⟨h.lt (by omega),h.lt (by omega)⟩]
  cases c:lt (g p m) (g p (m-1)) with
  |true=>
   obtain⟨k,e1,e2,e3,e4⟩:=x9 O h f (m+1) (by omega) (by omega) (wA O h (by omega) h1 u c)
   exact⟨k,by rw[Ph rfl,Pj (by omega)];exact e1,by omega,e3,e4⟩
  |false=>
   have hl:lt (g p (m-1)) (g p m)=true:=O.tot _ _ (h.lt (by omega)) (h.lt (by omega)) (λe=>by have:=h.inj (by omega) (by omega) e;omega) c
   refine⟨m,?_,Pk _,by omega,u⟩
   rw[Pj (by simp)]
   rw[WO ⟨h.lt (by omega),h.lt (by omega)⟩]
   show evT n lt (if lt (g p (m-1)) (g p m)=true then _ else _)=_
   rw[Ph hl];rfl
theorem v0 (O:Ord n lt) {p:Array Nat}(h:Pm n p) (hn:1<=n):∃k p',evT n lt (kas_count n p)=some (k,p')/\1<=k/\k<=n/\Pm n p'/\Up lt p' k:=by
 obtain⟨k,e1,e2,e3,e4,e5⟩:=xt O h (n-1) 1 (Pk _) (by omega) (Zcv p)
 unfold kas_count;rw[XF e1];by_cases c:k=n
 ·exact⟨k,p,by rw[Ph (by simpa using c)];rfl,e2,e3,h,e4⟩
 ·rw[Pj (by simpa using c)]
  by_cases c1:k>1
  ·refine⟨k,p,?_,e2,e3,h,e4⟩
   rw[Ph c1];rw[WO ⟨h.lt (by omega),h.lt (by omega)⟩]
   show evT n lt (if lt (g p 0) (g p (k-1))=true then _ else _)=_
   rw[Ph (e4 0 (k-1) (by omega) (by omega))];rfl
  ·rw[Pj c1]
   have hk:k=1:=by omega
   subst hk;have c2:=e5 (by omega)
   have d2:Dn lt p 2:=wA O h (by omega) (Pk _) (λi j a b=>by omega) c2
   obtain⟨m,f1,f2,f3,f4⟩:=x9 O h (n-(1+1)) 2 (by omega) (by omega) d2
   unfold kas_descPart;rw[XF f1,Pj (by simp)]
   unfold kas_tail3;have hu:Up lt (kas_rev p 0 m) m:=by
    intro i j a b;rw[Zbx (by rw[h.size];exact f3),Zbx (by rw[h.size];exact f3),Ph (by omega),Ph b]
    exact f4 _ _ (by omega) (by omega)
   obtain⟨k',a1,a2,a3,a4,_⟩:=xt O (qO h 0 m) (n-m) m (by omega) (by omega) hu
   exact⟨k',kas_rev p 0 m,by rw[XF a1];rfl,by omega,a3,qO h 0 m,a4⟩
theorem Qn (O:Ord n lt) {p:Array Nat}(h:Pm n p) {k:Nat}(hk:k<n) (u:Up lt p k):∀(f l r:Nat),l<=r->r<=k->r-l<=f->(∀i,i<l->lt (g p i) (g p k)=true)->(∀i,r<=i->i<k->lt (g p k) (g p i)=true)->
  ∃m,evT n lt (kas_place p k f l r)=some m/\m<=k/\(∀i,i<m->lt (g p i) (g p k)=true)/\∀i,m<=i->i<k->lt (g p k) (g p i)=true
 |0,l,r,h1,h2,h3,a,b=>⟨l,rfl,by omega,a,λi z=>b i (by omega)⟩
 |f+1,l,r,h1,h2,h3,a,b=>by
  unfold kas_place;by_cases c:l>=r
  ·rw[Ph c];exact⟨l,rfl,by omega,a,λi z=>b i (by omega)⟩
  ·rw[Pj c]
   rw[WO ⟨h.lt hk,h.lt (by omega)⟩]
   cases q:lt (g p k) (g p ((l+r) / 2)) with
   |true=>
    rw[Ph rfl];refine Qn O h hk u f l ((l+r) / 2) (by omega) (by omega) (by omega) a λi z1 z2=>?_
    by_cases y:i=(l+r) / 2
    ·rw[y];exact q
    ·exact O.tr _ _ _ (h.lt hk) (h.lt (by omega)) (h.lt (by omega)) q (u _ _ (by omega) z2)
   |false=>
    rw[Pj (by simp)]
    have q':lt (g p ((l+r) / 2)) (g p k)=true:=O.tot _ _ (h.lt hk) (h.lt (by omega)) (λe=>by have:=h.inj hk (by omega) e;omega) q
    refine Qn O h hk u f ((l+r) / 2+1) r (by omega) h2 (by omega) (λi z=>?_) b
    by_cases y:i=(l+r) / 2
    ·rw[y];exact q'
    ·exact O.tr _ _ _ (h.lt (by omega)) (h.lt (by omega)) (h.lt hk) (u _ _ (by omega) (by omega)) q'
theorem qT (O:Ord n lt):∀(f:Nat) {p:Array Nat}{k:Nat},Pm n p->1<=k->k+f=n->Up lt p k->∃p',evT n lt (kas_bin f p k)=some p'/\Pm n p'/\Up lt p' n
 |0,p,k,h,h1,e,u=>⟨p,rfl,h,by
  have:k=n:=by omega
  rw[<-this];exact u⟩
 |f+1,p,k,h,h1,e,u=>by
  obtain⟨l,e1,e2,e3,e4⟩:=Qn O h (by omega) u k 0 k (by omega) (Pk _) (by omega) (λi z=>by omega) (λi a b=>by omega)
  unfold kas_bin;rw[XF e1];refine qT O f (vW h k (k-l)) (by omega) (by omega) ?_
  have hs:k<p.size:=by rw[h.size];omega
  intro i j a b;rw[GV hs (by omega),GV hs (by omega)]
  have y:k-(k-l)=l:=by omega
  rw[y];by_cases ci:i=l
  ·rw[Ph ci,Pj (by omega),Ph (by omega)]
   exact e4 _ (by omega) (by omega)
  ·rw[Pj ci]
   by_cases cj:j=l
   ·rw[Ph cj,Pj (by omega)]
    exact e3 _ (by omega)
   ·rw[Pj cj]
    by_cases di:l<i/\i<=k
    ·rw[Ph di,Ph (by omega)]
     exact u _ _ (by omega) (by omega)
    ·rw[Pj di]
     by_cases dj:l<j/\j<=k
     ·rw[Ph dj];exact u _ _ (by omega) (by omega)
     ·rw[Pj dj];exact u _ _ (by omega) (by omega)
theorem jC (O:Ord n lt) (hn:1<=n):∃p,evT n lt (kas_sort n)=some p/\Pm n p/\Up lt p n:=by
 obtain⟨k,p,e1,e2,e3,e4,e5⟩:=v0 O (p:=List.toArray (List.range n)) (Array.Perm.refl _) hn;unfold kas_sort;rw[XF e1];by_cases c:k<n
 ·rw[Ph c]
  have:max k 1=k:=by omega
  rw[this];exact qT O (n-k) e4 e2 (by omega) e5
 ·rw[Pj c]
  have:k=n:=by omega
  exact⟨p,rfl,e4,by rw[<-this];exact e5⟩
end
end Sq
namespace Sq
open PySem PySem.W PyProof.Rows PySem.Calls
section
variable {prog:Program}{w:World}{A:Around}{E:Value->Shared->Prop}{s:Shared}
def Lat (h h':Heap):Prop:=∀b o,h.get? b=some o->h'.get? b=some o
structure Asks (prog:Program) (w:World) (A:Around) (h:Heap) (vs:List Value) (κ:SortKind) (lt:Nat->Nat->Bool):Prop where
 kind:2<=vs.length->∀(s':Shared) (E:Value->Shared->Prop) (Q:SortKind->Shared->Prop),Lat h s'.heap->Q κ s'->wpAny (model prog w) A (keyKind' vs.toArray) Q E s'
 cmp:∀i j,i<vs.length->j<vs.length->∀(s':Shared) (C:Bool->Shared->Prop) (E:Value->Shared->Prop),Lat h s'.heap->C (lt i j) s'->wpAny (model prog w) A (keyLt' κ (vs.getD i Value.none) (vs.getD j Value.none)) C E s'
noncomputable def ltR (b:Bool) (n:Nat) (lt:Nat->Nat->Bool):Nat->Nat->Bool:=λi j=>if b=true then lt (n-1-i) (n-1-j) else lt i j
theorem jU {b:Bool}{n:Nat}{lt:Nat->Nat->Bool}(O:Ord n lt):Ord n (ltR b n lt):=by
 cases b
 ·exact O
 ·exact⟨λi j hi hj ne h=>O.tot _ _ (by omega) (by omega) (by omega) h,λi j hi hj h=>O.asy _ _ (by omega) (by omega) h,λi j k hi hj hk h1 h2=>O.tr _ _ _ (by omega) (by omega) (by omega) h1 h2⟩
theorem zo {b:Bool}{vs:List Value}{i:Nat}(hi:i<vs.length):(katRev b vs).getD i Value.none=vs.getD (if b=true then vs.length-1-i else i) Value.none:=by
 cases b
 ·rfl
 ·show vs.reverse.getD i Value.none=vs.getD (vs.length-1-i) Value.none
  simp only[Pu];rw[Kk hi]
theorem vg (vs:List Value):(List.range vs.length).map (λi=>vs.getD i Value.none)=vs:=by
 apply List.ext_getElem?
 intro i;rw[PM];by_cases h:i<vs.length
 ·rw[Kc h];simp[h]
 ·simp[KL h]
theorem list_sort_rev {a:Addr}{vs:List Value}{n:Nat}{b:Bool}{κ:SortKind}{lt:Nat->Nat->Bool}{P:PySem.Fin->Shared->Prop}{h0:Heap}(ho:s.heap.get? a=some (seqObj "list" vs.toArray n)) (h64:vs.length<64)
  (h00:∀b o,h0.get? b=some o->b≠a/\s.heap.get? b=some o) (O:Ord vs.length lt) (K:Asks prog w A h0 vs κ lt)
  (h:∀p,Pm vs.length p->Up (ltR b vs.length lt) p vs.length->P (.done (.ret .none)) { s with heap:=sortedHeap s.heap a vs (List.toArray (katRev b (p.toList.map λi=>(katRev b vs).getD i Value.none))) }) :
  wpAny (model prog w) A (Builtin.«list.sort» ⟨[.ref a],[(Str.ofString "reverse",.bool b)]⟩) P E s:=by
 rw[PyProof.Rows.list_sort_rev];have ha:a<s.heap.objs.size:=Pz ho;refine Pa (listItems_at ho rfl ?_);refine Pa (listUpdate_at ho rfl ?_);obtain⟨e1,ho1⟩:∃e1,(s.heap.update a (Obj.mapSeq λ_=>#[])).get? a=some (seqObj "list" #[] e1):=⟨_,get?_update_seq ho (λ_=>#[])⟩
 refine Pa (seqEpoch_at ho1 rfl ?_);refine Pa (wpAny_newTuple ?_);refine Pa (wpAny_newList ?_);refine Nn ?_;have ho6:(((s.heap.update a (Obj.mapSeq λ_=>#[])).push (seqObj "tuple" vs.toArray 0)).push (seqObj "list" #[] 0)).get? a=some (seqObj "list" #[] e1):=by
  rw[KH _ _ _ (by rw[size_push',Heap.size_update];exact P3 (Kl ha)),KH _ _ _ (by rw[Heap.size_update];exact P3 ha)]
  exact ho1
 have lat:Lat h0 (((s.heap.update a (Obj.mapSeq λ_=>#[])).push (seqObj "tuple" vs.toArray 0)).push (seqObj "list" #[] 0)):=λb o e=>by
  obtain⟨nb,e⟩:=h00 b o e;exact Pf _ (Pf _ (by rw[Heap.get?_update_ne _ _ _ _ nb];exact e))
 show wpAny (model prog w) A _ P E { s with heap:=((s.heap.update a (Obj.mapSeq λ_=>#[])).push (seqObj "tuple" vs.toArray 0)).push (seqObj "list" #[] 0) }
 generalize hs':((s.heap.update a (Obj.mapSeq λ_=>#[])).push (seqObj "tuple" vs.toArray 0)).push (seqObj "list" #[] 0)=h1 at ho6 lat ⊢
 dsimp only
 have step:∀t:Sem PySem.Fin,wpAny (model prog w) A t P E { s with heap:=h1 }->wpAny (model prog w) A (if b=true then (do let _ <-rule "list.sort.reverse";t) else t) P E { s with heap:=h1 }:=by
  intro t ht;split
  ·exact Pa (Kg ht)
  ·exact ht
 refine step _ ?_;have hrl:(katRev b vs).length=vs.length:=kat_len b vs;have fin:∀out:List Value,out.length=vs.length->(∃p,Pm vs.length p/\Up (ltR b vs.length lt) p vs.length/\out=p.toList.map λi=>(katRev b vs).getD i Value.none)->
   P (.done (.ret .none)) { s with heap:=h1.update a (Obj.mapSeq λ_=>List.toArray (katRev b out)) }:=by
  rintro out _ ⟨p,h1',h2',rfl⟩
  subst hs';exact h p h1' h2'
 by_cases h2:vs.toArray.size<2
 ·rw[Ph h2,Ph h2]
  refine Pa (Pi ?_);rw[StateT.run_pure];refine Pa (Pi ?_)
  dsimp only
  have hz:((arrOf (SortSt.mk' general' (if b=true then (vs.toArray.zip vs.toArray).reverse else vs.toArray.zip vs.toArray) #[] 7 none)).map (·.2))=List.toArray (katRev b vs):=by
   show ((if b=true then (vs.toArray.zip vs.toArray).reverse else vs.toArray.zip vs.toArray).map (·.2))=_
   rw[kat_pairs b rfl];apply Array.toList_inj.mp;rw[Array.toList_map,ksk_zip];show (List.zip (katRev b vs) (katRev b vs)).map Prod.snd=katRev b vs;exact List.map_snd_zip (Pk _)
  rw[hz];refine Pa (seqEpoch_at ho6 rfl ?_);rw[kat_outs];refine Pa (listUpdate_at ho6 rfl ?_ (hsz2:=by rw[Pg];(try rw[kat_len]);(try rw[kat_len]);rw[NJ];omega))
  simp only[bne_self_eq_false,Np,ND];refine Pi (fin (katRev b vs) (kat_len b vs) ⟨List.toArray (List.range vs.length),Array.Perm.refl _,λi j a1 a2=>by rw[Pg] at h2;omega,?_⟩)
  rw[<-hrl];exact (vg _).symm
 ·rw[Pj h2,Pj h2]
  have l2:2<=vs.length:=by rw[Pg] at h2;omega
  refine Pa (K.kind l2 _ _ _ lat ?_);rw[kat_pairs b rfl];obtain⟨p,e1,e2,e3⟩:=jC (jU (b:=b) O) (by omega)
  refine Pa (Nv (kat_run (s:={ s with heap:=h1 }) (vs:=katRev b vs) (ks:=katRev b vs) (κ:=κ) (G:=λp' s'=>s'={ s with heap:=h1 }/\p'=p) (Q:=λst' s'=>s'={ s with heap:=h1 }/\failedOf st'=none/\(arrOf st').map (·.2)=List.toArray (p.toList.map λi=>(katRev b vs).getD i Value.none)) rfl (by rw[hrl];exact l2) (by rw[hrl];exact h64)
   (λp' st' s' a1 a2 a3 a4=>⟨a4.1,a3,by rw[kat_snds rfl a2,a4.2]⟩) (by
    rw[hrl];refine uZ (n:=vs.length) (lt:=ltR b vs.length lt) (λi j hi hj C hC=>?_) e1 ⟨rfl,rfl⟩
    unfold kas_ask;rw[zo hi,zo hj];cases b
    ·exact K.cmp i j hi hj _ _ _ lat hC
    ·exact K.cmp _ _ (by simp only[N3];omega) (by simp only[N3];omega) _ _ _ lat hC)) ?_ λ_ _ x=>x)
  rintro ⟨⟨⟩,st'⟩ s' ⟨rfl,hf,har⟩
  dsimp only
  rw[har];have hl:(p.toList.map λi=>(katRev b vs).getD i Value.none).length=vs.length:=by rw[Pl,NG,e2.size]
  refine Pa (seqEpoch_at ho6 rfl ?_);rw[kat_outs];refine Pa (listUpdate_at ho6 rfl ?_ (hsz2:=by rw[Pg];(try rw[kat_len]);rw[hl,NJ];omega))
  rw[hf];simp only[bne_self_eq_false,Np,ND];exact Pi (fin _ hl ⟨p,e2,e3,rfl⟩)
theorem xc {l:Addr}{vs:List Value}{b:Bool}{κ:SortKind}{lt:Nat->Nat->Bool}{Q:Value->Shared->Prop}(hl:s.heap.IsList l vs.toArray) (h64:vs.length<64) (O:Ord vs.length lt) (K:Asks prog w A.in1.in1 s.heap vs κ lt)
  (h:∀p,Pm vs.length p->Up (ltR b vs.length lt) p vs.length->Q (.ref (s.heap.objs.size+1)) { s with heap:=sortedAll s.heap vs (List.toArray (katRev b (p.toList.map λi=>(katRev b vs).getD i Value.none))) }) :
  wpAny (model prog w) A (call (.builtin "sorted") [.ref l] [(Str.ofString "reverse",.bool b)]) Q E s:=by
 refine call_function_entry_kw kind_sorted plain_sorted entry_sorted (args_sorted_rev _ _) ?_;unfold Builtin.«sorted»;refine Pa (m:=checkCount "sorted" 1 1 _) (Pi ?_);refine Pa (collect_list hl ?_);refine Pa (wpAny_newList ?_);have hsz:((s.heap.push (seqObj "list" #[] 0)).update s.heap.objs.size (Obj.mapSeq (·++vs.toArray))).objs.size=s.heap.objs.size+1:=by
  rw[Heap.size_update,size_push']
 have hoL:(((s.heap.push (seqObj "list" #[] 0)).update s.heap.objs.size (Obj.mapSeq (·++vs.toArray))).push (seqObj "list" vs.toArray 0)).get? (s.heap.objs.size+1)=some (seqObj "list" vs.toArray 0):=by
  rw[<-hsz];exact Pq _ rfl
 show wpAny _ _ _ _ _ { s with heap:=((s.heap.push (seqObj "list" #[] 0)).update s.heap.objs.size (Obj.mapSeq (·++vs.toArray))).push (seqObj "list" vs.toArray 0) }
 rw[hsz];refine Pa (Nn (wpAny_call_entry_kw slot_list_sort ⟨_,hoL,rfl⟩ entry_list_sort (list_sort_rev (h0:=s.heap) hoL h64 (λb o e=>?_) O K  λp a1 a2=>⟨_,rfl,?_⟩) (args_list_sort_rev _ _)))
 ·have hlt:b<s.heap.objs.size:=Pz e
  refine⟨P3 (Kl hlt),?_⟩;rw[KH _ _ _ (by rw[hsz];exact P3 (Kl hlt)),Heap.get?_update_ne _ _ _ _ (P3 hlt),KH _ _ _ (P3 hlt)]
  exact e
 ·exact Pi ⟨_,rfl,h p a1 a2⟩
end
end Sq
namespace Sd
open PySem PySem.Spec PyProof.Rows L2
open Ev (D Ob Zc Lc R E Sm Calls Walk Fl Fn Bop Cop Ty Bf Mf ev evs evo evt evw tst run runs)
section
variable {X:Cx}{pq:List (Addr×Obj)}{σ:L2.St}{H:Hp}{s:Shared}{A:Around}{E:Value->Shared->Prop}{b:Bool}{Q:Value->Shared->Prop}
theorem yF {x:V}{u t:Value}{tp:Addr}{dd:Option Addr}{its:List Value}{n:Nat}{sl:Array (Option Value)}(I:Inv X pq σ H s) (rx:ZI x u) (ty:TyOf X.K H x t) (htp:s.heap.get? tp=some ⟨.type "tuple",dd,.seq its.toArray n,sl⟩)
  (e:PySem.W.kitAny X.K t its=some b) (h:∀tk,Q (.bool b) { s with toks:=tk }):wpAny (model X.prog X.w) A (call (.builtin "isinstance") [u,.ref tp]) Q E s:=by
 cases ty with
 |non=>cases (show u=Value.none from rx);exact Nx PySem.W.kitx_none I.kIn True.intro htp e (λz=>nomatch z) h
 |bl y=>cases (show u=Value.bool y from rx);exact Nx PySem.W.kitx_bool I.kIn True.intro htp e (λz=>nomatch z) h
 |int i=>obtain⟨t,q⟩:=(show ∃t,u=Value.int i t from rx);cases q;exact Nx PySem.W.kitx_int I.kIn True.intro htp e (λz=>nomatch z) h
 |str y=>obtain⟨t,q⟩:=(show ∃t,u=Value.str y t from rx);cases q;exact Nx PySem.W.kitx_str I.kIn True.intro htp e (λz=>nomatch z) h
 |flt y=>obtain⟨t,q⟩:=(show ∃t,u=Value.float y t from rx);cases q;exact Nx PySem.W.kitx_float I.kIn True.intro htp e (λz=>nomatch z) h
 |@lst a xs ea=>
  cases (show u=Value.ref a from rx);obtain⟨_,_,n,_,h1⟩:=(show Z2 X.prog X.w H s.heap a (.lst xs) from I.hok a _ ea)
  exact Nx KC I.kIn ⟨_,h1,rfl⟩ htp e (λz=>nomatch z) h
 |@frz a ob xs ea=>
  cases (show u=Value.ref a from rx);obtain⟨_,_,_,n,_,h1⟩:=(show Z2 X.prog X.w H s.heap a (.frz ob (.lst xs)) from I.hok a _ ea)
  exact Nx KC I.kIn ⟨_,h1,rfl⟩ htp e (λz=>nomatch z) h
 |@tup a xs ea=>
  cases (show u=Value.ref a from rx);obtain⟨_,_,_,p⟩:=(show Z2 X.prog X.w H s.heap a (.tup xs) from I.hok a _ ea)
  obtain⟨o,h1,h2,_⟩:=p;exact Nx PySem.W.kitx_tuple I.kIn ⟨o,h1,h2⟩ htp e (λz=>nomatch z) h
 |@dK a kvs ea=>
  cases (show u=Value.ref a from rx);obtain⟨_,_,vs,_,p⟩:=(show Z2 X.prog X.w H s.heap a (.dK kvs) from I.hok a _ ea)
  obtain⟨o,es,ep,h1,h2,_⟩:=p;exact Nx KD I.kIn ⟨o,h1,h2.1⟩ htp e (λz=>nomatch z) h
 |@dT a kvs ea=>
  cases (show u=Value.ref a from rx);obtain⟨_,_,xs,_,o,es,ep,h1,h2,_⟩:=(show Z2 X.prog X.w H s.heap a (.dT kvs) from I.hok a _ ea)
  exact Nx KD I.kIn ⟨o,h1,h2.1⟩ htp e (λz=>nomatch z) h
 |@ins a C dx fs ea cl ha hn htk hm=>
  cases (show u=Value.ref a from rx);obtain⟨mA,O,_⟩:=xT I.hok ea
  obtain⟨od,J,_⟩:=O.look;exact Nx (PySem.W.kitx_own (cl.get _) cl.hd ha hn htk hm) I.kIn J htp e (λz=>nomatch z) h
end
section
variable {X:Cx}{xw:Nat->Hp->Prop}{C:Calls}{e a b c:Expr}{i j k:E}{pos p p' p2 p3:Pos}
theorem vZ (T U:String):ZO X (.builtin "isinstance") (λvs H Q=>∃v tv n q,vs=[v,.ref q]/\H q=some (.tup [.ty T,.ty U])/\TyOf X.K H v tv/\PySem.W.kitAny X.K tv [.type T,.type U]=some n/\Q (.bl n) H):=by
 intro pq s σ H vs us Q I r h;obtain⟨v,tv,n,q,rfl,hq,ty,e,qq⟩:=h;obtain⟨u,w',rfl,r1,r2⟩:=G1 r;cases r2;obtain⟨its,rv,⟨o,ho,hc,m,hd⟩,_⟩:=I.tuple (SqT.of hq);obtain⟨cls,dd,data,sl⟩:=o;simp only at hc hd;subst hc hd;obtain⟨z1,z2,rfl,q1,q2⟩:=G1 rv;cases q1;cases q2;exact yF I r1 ty ho e λtk=>⟨.bl n,H,I.tok tk,rfl,qq⟩
theorem TyOf.later {K:PySem.W.Frag}{H:Hp}{v:V}{tv:Value}{q:Addr}{o:HO}(h:TyOf K H v tv) (hq:H q=none):TyOf K (upd H q o) v tv:=by
 cases h with
 |non=>exact .non
 |bl b=>exact .bl b
 |int b=>exact .int b
 |str b=>exact .str b
 |flt b=>exact .flt b
 |lst e=>exact .lst (by rw[ZE (ZC e hq)];exact e)
 |frz e=>exact .frz (by rw[ZE (ZC e hq)];exact e)
 |tup e=>exact .tup (by rw[ZE (ZC e hq)];exact e)
 |dK e=>exact .dK (by rw[ZE (ZC e hq)];exact e)
 |dT e=>exact .dT (by rw[ZE (ZC e hq)];exact e)
 |ins e a1 a2 a3 a4 a5=>exact .ins (by rw[ZE (ZC e hq)];exact e) a1 a2 a3 a4 a5
theorem TyOf.uniq {K:PySem.W.Frag}{H:Hp}{v:V}{t1 t2:Value}(h1:TyOf K H v t1) (h2:TyOf K H v t2):t1=t2:=by
 cases h1 <;> cases h2 <;> first | rfl | simp_all
theorem JQ {T U:Str}{t u:Ty}{k0:Nat}{p4:Pos}(ht:∀m,t≠.cls m) (hu:∀m,u≠.cls m) (hm:X.mg "isinstance" = none) (hmT:X.mg T=none) (hmU:X.mg U=none) (ha:CE X xw C a i) (hg:Gl X "isinstance":=by rfl) (hgT:Gl X T:=by rfl) (hgU:Gl X U:=by rfl) (hvT:bootBuiltins T=some (.type (ZK t)):=by rfl) (hvU:bootBuiltins U=some (.type (ZK u)):=by rfl) (hnT:T≠"__name__":=by decide) (hdT:(T == ("__debug__" : Str))=false:=by decide) (hnU:U≠"__name__":=by decide) (hdU:(U == ("__debug__" : Str))=false:=by decide)
  (hs0:starEach [.Name T p2,.Name U p3] X.env=(false,eval (.Name T p2) X.env)::starEach [.Name U p3] X.env:=by rfl) (hs00:starEach [.Name U p3] X.env=(false,eval (.Name U p3) X.env)::starEach [] X.env:=by rfl)
  (hs1:starEach [a,.Tuple [.Name T p2,.Name U p3] k0 p4] X.env=(false,eval a X.env)::starEach [.Tuple [.Name T p2,.Name U p3] k0 p4] X.env:=by rfl) (hs2:starEach [.Tuple [.Name T p2,.Name U p3] k0 p4] X.env=(false,eval (.Tuple [.Name T p2,.Name U p3] k0 p4) X.env)::starEach [] X.env:=by rfl) (hpl:(backTo pos (starEach [.Tuple [.Name T p2,.Name U p3] k0 p4] X.env)).any (·.1)=false:=by rfl) :
  CE X xw C (.Call (.Name "isinstance" p) [a,.Tuple [.Name T p2,.Name U p3] k0 p4] [] pos) (.isi i [t,u]):=
 PE.imp (Qq (vZ (ZK t) (ZK u)) hg hm (by rfl) (X3 ha (X3 (uz (X3 (J2 (v:=.ty (ZK t)) hgT hmT hvT rfl hnT hdT) (X3 (J2 (v:=.ty (ZK u)) hgU hmU hvU rfl hnU hdU) J9 hs00) hs0)) J9 hs2) hs1) (by decide) (by decide) hs1 hpl) λσ H Q ⟨ρ,l,S,st,lr,h⟩=>by
  refine⟨ρ,l,S,st,lr,End.bind (show End X.K xw Rep ρ H Q ((ev C i l S).bind _) from h) λx S1 ρ1 H1 v f1 st1 r1 h1=>⟨by show 2<=sizeLine;rw[NJ];omega,λq hq=>?_⟩⟩
  obtain⟨n,hn,h2⟩:=End.ob h1;have st2:=st1.fresh (o:=.tup [.ty (ZK t),.ty (ZK u)]) hq;have f2:=Yg (ρ:=ρ1) (o:=.tup [.ty (ZK t),.ty (ZK u)]) hq;have fin:∀tv,TyOf X.K H1 v tv->PySem.W.kitAny X.K tv [.type (ZK t),.type (ZK u)]=some n->_:=λtv ty e=>(⟨v,tv,n,q,rfl,Yh,TyOf.later ty hq,e,h2 ρ1 _ _ f2 st2 (Zr n)⟩:∃v' tv n q',[v,V.ref q]=[v',.ref q']/\upd H1 q (.tup [.ty (ZK t),.ty (ZK u)]) q'=some (.tup [.ty (ZK t),.ty (ZK u)])/\TyOf X.K (upd H1 q (.tup [.ty (ZK t),.ty (ZK u)])) v' tv/\PySem.W.kitAny X.K tv [.type (ZK t),.type (ZK u)]=some n/\Q (.bl n) (upd H1 q (.tup [.ty (ZK t),.ty (ZK u)])))
  unfold Ev.Qu at hn;cases q1:Ev.G8 S1 x t with
  |none=>rw[q1] at hn;cases hn
  |some m=>
   rw[q1] at hn;obtain⟨tv,ty,e⟩:=yS st1 r1 ht q1;cases m with
   |true=>
    have hn':n=true:=(Pb hn).symm;exact fin tv ty (by unfold PySem.W.kitAny;rw[e,hn'])
   |false=>
    have hn1:(match Ev.G8 S1 x u with
     |some true=>some true
     |some false=>Ev.Qu S1 x []
     |none=>none)=some n:=hn
    cases q2:Ev.G8 S1 x u with
    |none=>rw[q2] at hn1;cases hn1
    |some m2=>
     rw[q2] at hn1;obtain⟨tv2,ty2,e2⟩:=yS st1 r1 hu q2;have et:tv2=tv:=TyOf.uniq ty2 ty;subst et;refine fin tv2 ty ?_;unfold PySem.W.kitAny;rw[e];show PySem.W.kitAny X.K tv2 [.type (ZK u)]=some n;unfold PySem.W.kitAny;rw[e2];cases m2 with
     |true=>exact hn1
     |false=>exact hn1
end
end Sd
namespace Sd
open Ev (ltI Wm ZS)
theorem J4:∀{x y:List Int},x≠y->ltI x y=false->ltI y x=true
 |[],[],h,_=>absurd rfl h
 |[],_::_,_,h=>by cases h
 |_::_,[],_,_=>rfl
 |a::x,b::y,h,e=>by
  unfold ltI at e ⊢;by_cases c:a=b
  ·subst c
   rw[Ph rfl] at e ⊢;exact J4 (λz=>h (by rw[z])) e
  ·rw[Pj c] at e
   rw[Pj (Ne.symm c)];have:=of_decide_eq_false e;exact PJ (by omega)
theorem UB:∀{x y:List Int},ltI x y=true->ltI y x=false
 |[],[],h=>by cases h
 |[],_::_,_=>rfl
 |_::_,[],h=>by cases h
 |a::x,b::y,e=>by
  unfold ltI at e ⊢;by_cases c:a=b
  ·subst c
   rw[Ph rfl] at e ⊢;exact UB e
  ·rw[Pj c] at e
   rw[Pj (Ne.symm c)];have:=PF e;exact PX (by omega)
theorem yc:∀{x y z:List Int},ltI x y=true->ltI y z=true->ltI x z=true
 |[],[],_,h,_=>by cases h
 |_::_,[],_,h,_=>by cases h
 |_,_::_,[],_,h=>by cases h
 |[],_::_,_::_,_,_=>rfl
 |a::x,b::y,c::z,e,f=>by
  unfold ltI at e f ⊢;by_cases h1:a=b
  ·subst h1
   rw[Ph rfl] at e;by_cases h2:a=c
   ·subst h2
    rw[Ph rfl] at f ⊢;exact yc e f
   ·rw[Pj h2] at f ⊢;exact f
  ·rw[Pj h1] at e
   have e':=PF e;by_cases h2:b=c
   ·subst h2
    rw[Pj h1];exact e
   ·rw[Pj h2] at f
    have f':=PF f;rw[Pj (by omega)]
    exact PJ (by omega)
theorem V6 (x:List Int):∀l:List (List Int),(Wm x l).Perm (x::l)
 |[]=>NZ _
 |y::r=>by
  unfold Wm;split
  ·exact NZ _
  ·exact ((V6 x r).cons y).trans (List.Perm.swap x y r)
theorem Xi:∀l:List (List Int),(ZS l).Perm l
 |[]=>NZ _
 |x::r=>(V6 x (ZS r)).trans ((Xi r).cons x)
theorem Uj (x:List Int):∀{l:List (List Int)},(∀y∈l,x≠y)->l.Pairwise (λa b=>ltI a b=true)->(Wm x l).Pairwise (λa b=>ltI a b=true)
 |[],_,_=>by unfold Wm;exact Kf ..
 |y::r,hn,h=>by
  rw[PY] at h;unfold Wm;split
  ·rename_i c
   rw[PY,PY];refine⟨λz hz=>?_,h⟩
   rcases Po.mp hz with rfl | hz
   ·exact c
   ·exact yc c (h.1 z hz)
  ·rename_i c
   rw[PY];refine⟨λz hz=>?_,Uj x (λy hy=>hn y (Pc _ hy)) h.2⟩
   rcases Po.mp ((V6 x r).mem_iff.mp hz) with rfl | hz
   ·exact J4 (hn y (Pe ..)) (by simpa using c)
   ·exact h.1 z hz
theorem XU:∀{l:List (List Int)},l.Nodup->(ZS l).Pairwise (λa b=>ltI a b=true)
 |[],_=>List.Pairwise.nil
 |x::r,h=>by
  rw[N8] at h;exact Uj x (λy hy e=>h.1 (by rw[e];exact (Xi r).mem_iff.mp hy)) (XU h.2)
theorem Wq:∀{a b:List (List Int)},a.Perm b->a.Pairwise (λx y=>ltI x y=true)->b.Pairwise (λx y=>ltI x y=true)->a=b
 |[],b,p,_,_=>(List.Perm.nil_eq p)
 |x::a,[],p,_,_=>by have:=p.length_eq;simp at this
 |x::a,y::b,p,ha,hb=>by
  rw[PY] at ha hb;have e:x=y:=by
   rcases Po.mp (p.mem_iff.mp (Pe ..)) with h | h
   ·exact h
   ·rcases Po.mp (p.mem_iff.mpr (Pe (a:=y) (l:=b))) with h2 | h2
    ·exact h2.symm
    ·have z1:=hb.1 x h
     have z2:=ha.1 y h2;rw[UB z1] at z2;cases z2
  subst e;rw[Wq (List.perm_cons x |>.mp p) ha.2 hb.2]
end Sd
namespace Sd
open PySem PySem.Spec PyProof.Rows L2
open Ev (D Ob Zc Lc R E Sm Calls Walk Fl Fn Bop Cop Ty Bf Mf ev evs evo evt evw tst run runs ltI Wm ZS Y6 Jh V7 YX)
noncomputable def yv (fin:Bool):List Int->List Int->Bool
 |[],_=>fin
 |_::_,[]=>fin
 |a::x,b::y=>if a=b then yv fin x y else decide (a<b)
theorem wH:∀(x y:List Int),yv (decide (x.length<y.length)) x y=ltI x y
 |[],[]=>rfl
 |[],_::_=>by unfold yv ltI;simp
 |_::_,[]=>by unfold yv ltI;simp
 |a::x,b::y=>by
  unfold yv ltI;have:decide ((a::x).length<(b::y).length)=decide (x.length<y.length):=by simp
  rw[this,wH x y]
section
variable {prog:Program}{w:World}{A:Around}{s:Shared}
theorem zw {b fin:Bool}{C:Bool->Shared->Prop}:∀{x y:List Int}{u v:List Value}{i:Nat},Vals (x.map V.int) u->Vals (y.map V.int) v->C (yv fin x y) s->PySem.W.KatLex prog w A b fin C (u.zip v) i s
 |[],_,_,_,_,.nil,_,h=>by rw[List.zip_nil_left];exact PySem.W.kat_nil h
 |_::_,[],_,_,_,_,.nil,h=>by rw[List.zip_nil_right];exact PySem.W.kat_nil h
 |a::x,c::y,_,_,i,.cons ra ta,.cons rb tb,h=>by
  obtain⟨t,rfl⟩:=ra;obtain⟨t',rfl⟩:=rb;rw[N1];refine PySem.W.kat_cons (wpAny_eqBool_int ?_);unfold yv at h;by_cases e:a=c
  ·rw[Ph e] at h
   rw[beq_iff_eq.mpr e];exact PySem.W.kat_yes (zw ta tb h)
  ·rw[Pj e] at h
   rw[NR.mpr e];refine PySem.W.kat_no ?_;cases q:(b&&i == 0) with
   |true=>exact oneLt_int h
   |false=>exact PySem.W.kat_one _ _ (lt_int h)
end
section
variable {X:Cx}{pq:List (Addr×Obj)}{σ:L2.St}{H:Hp}{s:Shared}{ρ:List Addr}
inductive RowsAt (h:Heap):List (List Int)->List Value->Prop where
 |nil:RowsAt h [] []
 |cons {r:List Int} {rs:List (List Int)} {vs:List Value} {a:Addr} {o:Obj} {us:List Value} {m:Nat} (ho:h.get? a=some o) (hc:o.cls=.type "tuple") (hd:o.data=.seq us.toArray m) (hv:Vals (r.map V.int) us) (t:RowsAt h rs vs):RowsAt h (r::rs) (.ref a::vs)
theorem UY:∀{ks:List D}{k:List Int},Ev.U2 ks=some k->ks=k.map D.int
 |[],k,h=>by cases h;rfl
 |.int n::ks,k,h=>by
  have h':(Ev.U2 ks).map (n :: ·)=some k:=h
  cases q:Ev.U2 ks with
  |none=>rw[q] at h';cases h'
  |some k'=>
   rw[q] at h';have e:n::k'=k:=Pb h';rw[<-e,UY q];rfl
 |.non::_,_,h | .bl _::_,_,h | .str _::_,_,h | .tup _::_,_,h | .loc _::_,_,h=>by cases h
theorem vN {d:D}{r:List Int}(h:Jh d=some r):d=V7 r:=by
 cases d with
 |tup ks=>exact congrArg D.tup (UY h)
 |_=>cases h
theorem Rq.intsV:∀{r:List Int}{xs:List V},Rq ρ H (r.map D.int) xs->xs=r.map V.int
 |[],xs,h=>by unfold Rq at h;exact h
 |n::r,xs,h=>by
  have h':Rq ρ H (D.int n::r.map D.int) xs:=h;unfold Rq at h';obtain⟨v,vs,rfl,a,b⟩:=h';rw[a.int',Rq.intsV b];rfl
theorem wa (I:Inv X pq σ H s):∀{ds:List D}{rs:List (List Int)}{xs:List V}{its:List Value},Y6 ds=some rs->Rq ρ H ds xs->Vals xs its->RowsAt s.heap rs its/\ds=rs.map V7
 |[],rs,xs,its,h,r,v=>by
  unfold Rq at r;subst r;cases v;cases h;exact⟨.nil,rfl⟩
 |d::ds,rs,xs,its,h,r,v=>by
  unfold Rq at r;obtain⟨x,xs',rfl,r1,r2⟩:=r;cases v with
  |cons v1 v2=>
   unfold Y6 at h;cases q1:Jh d with
   |none=>rw[q1] at h;cases h
   |some a=>
    cases q2:Y6 ds with
    |none=>rw[q1,q2] at h;cases h
    |some b=>
     rw[q1,q2] at h;cases h;obtain⟨t,e⟩:=wa I q2 r2 v2;have ed:=vN q1;subst ed;obtain⟨p,ys,rfl,hp,ry⟩:=r1.tup';have ey:=Rq.intsV ry;subst ey;cases v1;obtain⟨us,rv,⟨o,ho,hc,m,hd⟩,_⟩:=I.tuple (SqT.of hp);exact⟨.cons ho hc hd rv t,by rw[e];rfl⟩
theorem RowsAt.length {h:Heap}:∀{rs:List (List Int)}{vs:List Value},RowsAt h rs vs->rs.length=vs.length
 |_,_,.nil=>rfl
 |_,_,.cons _ _ _ _ t=>by rw[PC,PC,RowsAt.length t]
theorem RowsAt.at {h:Heap}:∀{rs:List (List Int)}{vs:List Value}(i:Nat),RowsAt h rs vs->i<vs.length->∃a o us m,vs.getD i Value.none=.ref a/\h.get? a=some o/\o.data=.seq us.toArray m/\Vals ((rs.getD i []).map V.int) us
 |_,_,_,.nil,hi=>by simp at hi
 |_,_,0,.cons ho hc hd hv t,_=>⟨_,_,_,_,rfl,ho,hd,hv⟩
 |_,_,i+1,.cons ho hc hd hv t,hi=>by
  obtain⟨a,o,us,m,e1,e2,e3,e4⟩:=RowsAt.at i t (by simpa using hi)
  exact⟨a,o,us,m,by simpa using e1,e2,e3,by simpa using e4⟩
theorem RowsAt.tups {h h':Heap}(k:Sq.Lat h h'):∀{rs:List (List Int)}{vs:List Value},RowsAt h rs vs->(∀r∈rs,r≠[])->∃fs,PySem.W.KatTups h' vs fs/\fs.length=vs.length/\∀v∈fs,∃n t,v=Value.int n t
 |_,_,.nil,_=>⟨[],.nil,rfl,λv hv=>by cases hv⟩
 |_,_,.cons (r:=r) (us:=us) ho hc hd hv t,hn=>by
  obtain⟨fs,t1,t2,t3⟩:=RowsAt.tups k t λr hr=>hn r (Pc _ hr)
  have hr:=hn r (Pe ..);cases r with
  |nil=>exact absurd rfl hr
  |cons n r=>
   obtain⟨u,g,rel⟩:=hv.get (i:=0) (x:=V.int n) rfl;refine⟨u::fs,.cons (k _ _ ho) hc hd (by simpa using g) t1,by rw[PC,PC,t2],λv hv=>?_⟩
   rcases Po.mp hv with rfl | hv
   ·obtain⟨tk,e⟩:=rel
    exact⟨n,tk,e⟩
   ·exact t3 v hv
theorem wY {prog:Program}{w:World}{A:Around}{h:Heap}{rs:List (List Int)}{vs:List Value}(R:RowsAt h rs vs) (hn:∀r∈rs,r≠[]):Sq.Asks prog w A h vs (tuples' true) (λi j=>ltI (rs.getD i []) (rs.getD j [])):=by
 refine⟨λh2 s' E Q k q=>?_,λi j hi hj s' C E k q=>?_⟩
 ·obtain⟨fs,t1,t2,t3⟩:=R.tups k hn
  exact PySem.W.kat_kind (T:=.type "int") t1 (by omega) (λv hv=>by obtain⟨n,t,rfl⟩:=t3 v hv;exact PySem.W.Looks.of_pure rfl) rfl q
 ·obtain⟨a,o,us,m,e1,e2,e3,e4⟩:=R.at i hi
  obtain⟨a',o',us',m',f1,f2,f3,f4⟩:=R.at j hj;rw[e1,f1];refine PySem.W.kat_lt (k _ _ e2) e3 (k _ _ f2) f3 (zw e4 f4 ?_);have l1:us.toArray.size=(rs.getD i []).length:=by rw[Pg,<-e4.length,Pl]
  have l2:us'.toArray.size=(rs.getD j []).length:=by rw[Pg,<-f4.length,Pl]
  rw[l1,l2,wH];exact q
theorem qg {rs:List (List Int)}{n:Nat}(hn:rs.Nodup) (hl:rs.length=n):Sq.Ord n (λi j=>ltI (rs.getD i []) (rs.getD j [])):=by
 have hd:∀i j,i<n->j<n->i≠j->rs.getD i []≠rs.getD j []:=λi j hi hj ne e=>by
  simp only[Pu] at e;have hi':i<rs.length:=by omega
  have hj':j<rs.length:=by omega
  refine ne ((List.getElem?_inj hi' hn).mp ?_);rw[Pd hi',Pd hj'] at e ⊢;exact congrArg some e
 exact⟨λi j hi hj ne e=>J4 (hd i j hi hj ne) e,λi j _ _ e=>UB e,λi j k _ _ _ e f=>yc e f⟩
theorem U7 {α β:Type}(b:Bool) (f:α->β) (l:List α):PySem.W.katRev b (l.map f)=(PySem.W.katRev b l).map f:=by
 cases b
 ·rfl
 ·exact Ko.symm
theorem zM {α:Type}(b:Bool) (l:List α):(PySem.W.katRev b l).Perm l:=by
 cases b
 ·exact NZ _
 ·exact List.reverse_perm l
theorem Ur {α:Type}{d:α}{b:Bool}{vs:List α}{i:Nat}(hi:i<vs.length):(PySem.W.katRev b vs).getD i d=vs.getD (if b=true then vs.length-1-i else i) d:=by
 cases b
 ·rfl
 ·show vs.reverse.getD i d=vs.getD (vs.length-1-i) d
  simp only[Pu];rw[Kk hi]
theorem qH {rs:List (List Int)}{b:Bool}{p:Array Nat}(hn:rs.Nodup) (h1:Sq.Pm rs.length p) (h2:Sq.Up (Sq.ltR b rs.length λi j=>ltI (rs.getD i []) (rs.getD j [])) p rs.length) :
  (p.toList.map λi=>(PySem.W.katRev b rs).getD i [])=ZS rs:=by
 have hp:p.toList.Perm (List.range rs.length):=by simpa using NY.mp h1
 have hl:p.toList.length=rs.length:=by rw[hp.length_eq,PU]
 refine Wq ?_ ?_ (XU hn)
 ·refine ((hp.map _).trans ?_).trans (Xi rs).symm
  have e:(List.range rs.length).map (λi=>(PySem.W.katRev b rs).getD i [])=PySem.W.katRev b rs:=by
   apply List.ext_getElem?
   intro i;rw[PM];by_cases h:i<rs.length
   ·have:i<(PySem.W.katRev b rs).length:=by rw[Ku];exact h
    rw[Kc h];simp[this]
   ·have:(PySem.W.katRev b rs).length<=i:=by rw[Ku];omega
    simp[KL h,this]
  rw[e];exact zM b rs
 ·rw[NQ,N5]
  intro i j hi hj hij;have g1:p.toList[i]=Sq.g p i:=by
   have:=Sq.qY (p:=p) (i:=i) (by simpa using hi)
   rw[<-N4,Pd hi] at this;exact Pb this
  have g2:p.toList[j]=Sq.g p j:=by
   have:=Sq.qY (p:=p) (i:=j) (by simpa using hj)
   rw[<-N4,Pd hj] at this;exact Pb this
  rw[g1,g2,Ur (h1.lt (by omega)),Ur (h1.lt (by omega))]
  have:=h2 i j hij (by omega)
  unfold Sq.ltR at this;cases b
  ·exact this
  ·exact this
theorem jb {F:List Nat}{xs:List V}{rs:List (List Int)}(h:Rq ρ H (rs.map V7) xs) (hF:∀i∈F,i<rs.length):Rq ρ H ((F.map λi=>rs.getD i []).map V7) (F.map λi=>xs.getD i V.non):=by
 induction F with
 |nil=>exact Rq.nil
 |cons i F ih=>
  refine Rq.cons ?_ (ih λj hj=>hF j (Pc _ hj))
  have hi:=hF i (Pe ..);obtain⟨v,g,r⟩:=h.get (i:=i) (d:=V7 rs[i]) (by rw[PM,Pd hi];rfl)
  show Rep ρ H (V7 (rs.getD i [])) (xs.getD i V.non);rw[Pu,Pu,g,Pd hi];exact r
theorem ur {F:List Nat}{xs:List V}{us:List Value}(h:Vals xs us) (hF:∀i∈F,i<xs.length):Vals (F.map λi=>xs.getD i V.non) (F.map λi=>us.getD i Value.none):=by
 induction F with
 |nil=>exact .nil
 |cons i F ih=>
  refine .cons ?_ (ih λj hj=>hF j (Pc _ hj))
  have hi:=hF i (Pe ..);obtain⟨u,g,r⟩:=h.get (Pd hi);show ZI (xs.getD i V.non) (us.getD i Value.none);rw[Pu,Pu,g,Pd hi];exact r
theorem zD {b:Bool}{ds:List D}{xs:List V}(h:Rq ρ H ds xs):Rq ρ H (PySem.W.katRev b ds) (PySem.W.katRev b xs):=by
 cases b
 ·exact h
 ·exact h.reverse
theorem zi {b:Bool}:∀{xs:List V}{us:List Value},Vals xs us->Vals (PySem.W.katRev b xs) (PySem.W.katRev b us):=by
 cases b
 ·exact λh=>h
 ·have snoc:∀{xs:List V} {us:List Value} {x:V} {u:Value},Vals xs us->ZI x u->Vals (xs++[x]) (us++[u]):=by
   intro xs us x u h r
   induction h with
   |nil=>exact .cons r .nil
   |cons a _ ih=>exact .cons a ih
  intro xs us h;show Vals xs.reverse us.reverse
  induction h with
  |nil=>exact .nil
  |cons r t ih=>rw[NE,NE];exact snoc ih r
end
section
variable {X:Cx}{xw:Nat->Hp->Prop}{C:Calls}{e a b c:Expr}{i j k:E}{pos p p' p2 p3:Pos}
noncomputable def ZbD (K:PySem.W.Frag) (xw:Nat->Hp->Prop) (b:Bool):List V->Hp->VK->Prop:=λvs H Q=>∃ρ S n,St3 K ρ S H/\Rq ρ H [.loc n] vs/\End K xw Rep ρ H Q (Ev.sorted b n S)
theorem vQ {pq:List (Addr×Obj)}{s:Shared}{σ:L2.St}{H:Hp}{vs:List V}{us:List Value}{Q:VK}{b:Bool}(I:Inv X pq σ H s) (r:Vals vs us) (h:ZbD X.K xw b vs H Q) :
  ∃(l:Addr) (its:List Value) (rs:List (List Int)),us=[.ref l]/\s.heap.IsList l its.toArray/\its.length<64/\rs.length=its.length/\Sq.Ord its.length (λi j=>ltI (rs.getD i []) (rs.getD j []))/\(∀A,Sq.Asks X.prog X.w A s.heap its (tuples' true) (λi j=>ltI (rs.getD i []) (rs.getD j [])))/\
   ∀p,Sq.Pm its.length p->Sq.Up (Sq.ltR b its.length λi j=>ltI (rs.getD i []) (rs.getD j [])) p its.length->
    EP X pq σ Q (.ref (s.heap.objs.size+1)) { s with heap:=sortedAll s.heap its (List.toArray (PySem.W.katRev b (p.toList.map λi=>(PySem.W.katRev b its).getD i Value.none))) }:=by
 obtain⟨ρ,S,n,st,rs,h⟩:=h;obtain⟨ds,hl,h1⟩:=End.ob (show End X.K xw Rep ρ H Q ((Ev.ob (Ev.Zj S n) S).bind λxs S=>(Ev.ob (Y6 xs) S).bind λrs S=>if YX rs=true then .ok (.loc S.length) (S++[.lst ((if b then (ZS rs).reverse else ZS rs).map V7)]) else .no) from h)
 obtain⟨rws,hrw,h2⟩:=End.ob h1;obtain⟨hok,h3⟩:=h2.guard;obtain⟨v,rfl,r1⟩:=YZ rs;obtain⟨_,l,xs,q1,hx,rx⟩:=st.lst hl;obtain⟨l',rfl,t⟩:=r1.loc';rw[q1] at t;cases t;obtain⟨u,rfl,ru⟩:=Uo r;cases ru;obtain⟨its,rv,pl,hz⟩:=I.list (SqL.of hx);obtain⟨RA,ed⟩:=wa I hrw rx rv;obtain⟨hok1,hok3⟩:=(Pp _ _).mp hok;obtain⟨hok1,hok2⟩:=(Pp _ _).mp hok1;have h64:=PF hok1;have hnd:=PF hok2;have hne:∀r∈rws,r≠[]:=λr hr e=>by
  have:=Pw.mp hok3 r hr;rw[e] at this;cases this
 have hlen:=RA.length;refine⟨l,its,rws,rfl,pl.isList,by omega,hlen,qg hnd hlen,λA=>wY RA hne,λp hp hu=>?_⟩
 rw[<-hlen] at hp hu;have out:=qH hnd hp hu;have hmem:∀i∈p.toList,i<rws.length:=λi hi=>by
  have hp':p.toList.Perm (List.range rws.length):=by simpa using NY.mp hp
  exact PH.mp (hp'.mem_iff.mp hi)
 subst ed;have xl:xs.length=rws.length:=by rw[rx.length,Pl]
 have rx1:Rq ρ H ((PySem.W.katRev b rws).map V7) (PySem.W.katRev b xs):=by rw[<-U7];exact zD rx
 have rx2:=jb (F:=p.toList) rx1 (by rw[Ku];exact hmem)
 rw[out] at rx2;have rx3:=zD (b:=b) rx2;have rv2:=zi (b:=b) (ur (F:=p.toList) (zi (b:=b) rv) (by rw[Ku,xl];exact hmem))
 have eb:(if b=true then (ZS rws).reverse else ZS rws)=PySem.W.katRev b (ZS rws):=rfl
 rw[eb,<-U7] at h3;obtain⟨ep,he⟩:=sortedAll_at s.heap its (List.toArray (PySem.W.katRev b (p.toList.map λi=>(PySem.W.katRev b its).getD i Value.none)))
 refine⟨.ref (s.heap.objs.size+1),_,I.laid (t':=s.toks) (o:=.lst (PySem.W.katRev b (p.toList.map λi=>(PySem.W.katRev b xs).getD i V.non))) (λb ob q=>sortedAll_old q) (Nat.le_succ _) ?_,rfl,h3.newL st rx3 _ (I.hok.fresh (Nat.le_succ _))⟩
 refine⟨?_,_,ep,rv2,he⟩;rw[Ku,Pl,NG,hp.size,NJ];omega
theorem Zax (b:Bool):∀(as:List D) (S:Zc),(∃n,as=[.loc n])\/Ev.YQ (if b then .sortedR else .sorted) as S=.no
 |[.loc n],_=>.inl ⟨n,rfl⟩
 |x::_::_,_=>.inr (by cases b <;> cases x <;> rfl)
 |[],_ | [.non],_ | [.str _],_ | [.bl _],_ | [.int _],_ | [.tup _],_=>.inr (by cases b <;> rfl)
theorem W8 {kp kp2:Pos}{q0}(hm:X.mg "sorted" = none) (ha:CA X xw C [e] [i]) (hg:Gl X "sorted":=by rfl)
  (he:backTo pos (starEach [e] X.env)=(false,eval e X.env)::backTo pos (starEach [] X.env):=by rfl) (hpl:(backTo pos (starEach [e] X.env)).any (·.1)=false:=by rfl) :
  CE X xw C (.Call (.Name "sorted" p) [e] [⟨some "reverse",.Constant (.bool true) q0 kp,kp2⟩] pos) (.blt .sortedR [i]):=by
 intro pq s σ H Q I hq;obtain⟨ρ,l,S,st,lr,h⟩:=hq;refine Kv (YF I hg hm (show bootBuiltins "sorted" = some (.builtin "sorted") from rfl) ?_ (by decide) (by decide))
 refine callWith_kw (thn (ha pos pq s σ H (λvs H1=>ZbD X.K xw true vs H1 Q) I ?_) λus s1 ⟨vs,H1,I1,r1,q1⟩=>?_) he hpl rfl rfl
 ·refine⟨ρ,l,S,st,lr,End.bind (show End X.K xw Rep ρ H Q ((evs C [i] l S).bind λxs S=>Ev.YQ .sortedR xs S) from h) λxs S1 ρ1 H1 vs f1 st1 r1 h1=>?_⟩
  rcases Zax true xs S1 with ⟨n,rfl⟩ | e
  ·exact⟨ρ1,S1,n,st1,r1,h1⟩
  ·exact (show End X.K xw Rep ρ1 H1 Q (.no:R D) from e▸h1).elim
 ·refine kws_cons (thn (ZbC pq s1 σ H1 (λv H2=>v=.bl true/\H2=H1) I1 ⟨rfl,rfl⟩) λu s2 ⟨x,H2,I2,r2,e1,e2⟩=>kws_nil ?_)
  subst e1 e2;cases r2;obtain⟨l,its,rs,rfl,h1,h2,h3,h4,h5,h6⟩:=vQ I2 r1 q1;exact Sq.xc (b:=true) h1 h2 h4 (h5 _) λp a b=>h6 p a b
end
end Sd
namespace Sd
open PySem PySem.Spec PyProof.Rows L2
open Ev (D Ob Zc Lc R E Sm Calls Walk Fl Fn Bop Cop Ty Bf Mf ev evs)
theorem Ux:isSubtype (.type "range_iterator") (.type "reversed")=pure false:=by rw[isSubtype_type];kernel_rfl
section
variable {prog:Program}{w:World}{A:Around}{E:Value->Shared->Prop}{s:Shared}
noncomputable abbrev jm (lo:Int) (n:Nat):Obj:={ cls:=.type "range_iterator",data:=.fields #[rawInt (lo+n-1),rawInt n,rawInt (-1)] }
theorem WV {r:Addr}{lo hi:Int}{t u v:Tok}{Q:Value->Shared->Prop}(hr:IsRange s.heap r lo hi 1 t u v) (h1:-(2^62)<=lo) (h2:lo<2^62) (h3:-(2^62)<=hi) (h4:hi<2^62)
  (h:Q (.ref s.heap.objs.size) { s with heap:=s.heap.push (jm lo (hi-lo).toNat) }):wpAny (model prog w) A (call (.builtin "range.__reversed__") [.ref r]) Q E s:=by
 refine Nt F.slot_range_reversed ⟨_,hr,rfl⟩ F.entry_range_reversed ?_ (F.args_range_reversed_1 _);unfold Builtin.«range.__reversed__»;refine Pa (Nk (a:=Value.ref r) rfl ?_);unfold Builtin.Range.rangeFields;refine Pa (Pa (P6 hr rfl (x:=.int lo t) rfl ?_));refine Pa (Nk (a:=some lo) rfl ?_);refine Pa (P6 hr rfl (x:=.int hi u) rfl ?_);refine Pa (Nk (a:=some hi) rfl ?_);refine Pa (P6 hr rfl (x:=.int 1 v) rfl ?_);refine Pa (Nk (a:=some 1) rfl ?_);refine Pi ?_
 have hn:Builtin.Range.rangeSize lo hi 1=((hi-lo).toNat:Int):=by rw[rangeSize_one];split <;> omega
 have hs:(Builtin.Range.rangeFitsLong lo&&Builtin.Range.rangeFitsLong hi&&Builtin.Range.rangeFitsLong 1&&Builtin.Range.rangeFitsLong (-1)&&Builtin.Range.rangeFitsLong (lo-1)&&Builtin.Range.rangeFitsLong (Builtin.Range.rangeSize lo hi 1))=true:=by
  rw[hn];simp only[Builtin.Range.rangeFitsLong,Pp,Nz];omega
 simp only[hs,Bool.not_true,Np,ND,N3];refine Pa (PV (Pi ⟨_,rfl,?_⟩));rw[hn];have e:lo+(((hi-lo).toNat:Int)-1)*1=lo+((hi-lo).toNat:Int)-1:=by omega
 simp only[e];exact h
theorem WW {r:Addr}{lo hi:Int}{t u v:Tok}{Q₁:Value->Shared->Prop}(hr:IsRange s.heap r lo hi 1 t u v) (h1:-(2^62)<=lo) (h2:lo<2^62) (h3:-(2^62)<=hi) (h4:hi<2^62)
  (h:Q₁ (.ref s.heap.objs.size) { s with heap:=s.heap.push (jm lo (hi-lo).toNat) }) :
  codeAny (model prog w) A (.call (.builtin "reversed.__new__") ⟨[.type "reversed",.ref r],[]⟩) (wants Q₁ E) s:=by
 refine codeAny_of_tree ?_;show wpAny _ A.in1 (do checkBuiltinCall "reversed.__new__" ⟨[.type "reversed",.ref r],[]⟩;again (.builtin "reversed.__new__" ⟨[.type "reversed",.ref r],[]⟩)) _ _ s;refine Pa (Nk (F.newCall_reversed_1 _) (Pi ⟨plainId_quiet F.plain_reversed_new _,codeAny_builtin F.entry_reversed_new ?_⟩));rw[Around.under_plainId F.plain_reversed_new _];unfold Builtin.«reversed.__new__»;refine Pa (Nk (newClass_reversed _) ?_)
 try dsimp only
 refine Pa (Nk (a:=()) (by first | rfl | kernel_rfl) ?_)
 refine Pa (Nk (a:=()) (by first | rfl | kernel_rfl) ?_)
 try dsimp only
 refine Pa (wpAny_specialOf ⟨_,hr,rfl⟩ F.slot_range_reversed.lookup ?_)
 try dsimp only
 refine Pa (Nk (F.slot_range_reversed.bind _) ?_)
 try dsimp only
 first
 |rw[Pj (show ¬((Value.builtin "range.__reversed__" == Value.none)=true) from Px)]
 |(show wpAny _ _ (if (Value.builtin "range.__reversed__" == Value.none)=true then _ else _) _ _ _;rw[Pj (show ¬((Value.builtin "range.__reversed__" == Value.none)=true) from Px)])
 refine Pa (Kg ?_);refine Pa (m:=runValue (.call (.builtin "range.__reversed__") ⟨[.ref r],[]⟩)) (show wpAny _ _ (call (.builtin "range.__reversed__") [.ref r]) _ _ _ from WV hr h1 h2 h3 h4 ?_)
 first
 |exact Pi h
 |exact Pa (Pi (Pi h))
theorem WX {r:Addr}{lo hi:Int}{t u v:Tok}{Q:Value->Shared->Prop}(hr:IsRange s.heap r lo hi 1 t u v) (h1:-(2^62)<=lo) (h2:lo<2^62) (h3:-(2^62)<=hi) (h4:hi<2^62)
  (h:Q (.ref s.heap.objs.size) { s with heap:=s.heap.push (jm lo (hi-lo).toNat) }):wpAny (model prog w) A (call (.type "reversed") [.ref r]) Q E s:=by
 refine callType_other (U:="range_iterator") (Q₁:=λobj s₁=>obj=.ref s.heap.objs.size/\s₁={ s with heap:=s.heap.push (jm lo (hi-lo).toNat) }) (by decide +kernel) F.create_reversed ⟨_,_,F.mro_reversed⟩ F.made_reversed Ux (F.typeCall_reversed_1 _) (WW hr h1 h2 h3 h4 ⟨rfl,rfl⟩) ?_
 rintro obj s₁ ⟨rfl,rfl⟩
 exact⟨⟨_,Pq _ rfl,rfl⟩,h⟩
end
noncomputable def Itrv (lo:Int) (n:Nat):It:=⟨λi _=>i<n,λi H x H'=>H'=H/\x=.int (lo+n-1-i),λi _=>n<=i⟩
theorem zb {P:Program}{w:World}{K:PySem.W.Frag}{tg:Expr}(it:Addr) (lo:Int) (n:Nat):Turn P w K tg (Itrv lo n) [it] it (λi h=>IsRangeIter h it (lo+n-1+(i:Nat)*(-1)) ((n:Int)-(i:Nat)) (-1)) where
 mem:=by simp
 obj:=λi h st b hb=>by
  have e:b=it:=by simpa using hb
  subst e;exact⟨_,st,λv z=>by
   have z':Data.fields _=Data.cell v:=z;cases z'⟩
 keep:=λi h h' st k=>k it (by simp) _ st
 item:=by
  intro X hP hw hK hc i pq s σ H E I hf st hg;subst hP hw hK;obtain⟨f0,f1,f2,f3,f4,f5⟩:=hf it (by simp)
  have W:=Walks.range (prog:=X.prog) (w:=X.w) (I.ok.hd hc) it (lo+n-1) (-1) n;refine W.item i s _ _ hg st λv h' tk hv st' kk=>?_
  obtain⟨t,rfl⟩:=hv;have I1:Inv X pq σ H { s with heap:=h',toks:=tk }:=I.turned (λb o hb e=>kk b o (by simpa using hb) e) f0 f1 f3 f4 f5
  refine⟨_,rfl,zd (s:={ s with heap:=h',toks:=tk }) (n:="range_iterator") st' rfl rfl (by decide) ⟨.int (lo+n-1-i),H,I1,⟨t,?_⟩,⟨rfl,rfl⟩,st',λb hb=>(hf b hb).1⟩⟩
  have e:lo+n-1+(i:Int) * -1=lo+n-1-i:=by omega
  rw[e]
 done:=by
  intro X hP hw hK hc i pq s σ H E I hf st hg;subst hP hw hK;obtain⟨f0,f1,f2,f3,f4,f5⟩:=hf it (by simp)
  exact wpAny_pyNext_range_end (I.ok.hd hc) st (by have:n<=i:=hg;omega) λh' eb=>⟨rfl,I.turned (t':=s.toks) (λb o hb e=>eb b o hb e) f0 f1 f3 f4 f5⟩
 self:=λ_ _ _ _ _ st h=>KB st h
section
variable {X:Cx}{xw:Nat->Hp->Prop}{C:Calls}{a b tg:Expr}{i j:E}{pos p p2 p3:Pos}
def ZdA (ta:TA):TI:=λσ H R=>ta σ H λvs H1=>∃i j:Int,vs=[.int i,.int j]/\(-(2^62)<=i/\i<2^62/\-(2^62)<=j/\j<2^62)/\R (Itrv i (j-i).toNat) H1
theorem vq {ta:TA}(hgr:Gl X "reversed") (hmr:X.mg "reversed" = none) (hg:Gl X "range") (hm:X.mg "range" = none) (ha:PA X [a,b] ta) (hs:starEach [a,b] X.env=[(false,eval a X.env),(false,eval b X.env)]) (hs2:starEach [b] X.env=[(false,eval b X.env)]) :
  PI X tg (.Call (.Name "reversed" p) [.Call (.Name "range" p2) [a,b] [] p3] [] pos) (ZdA ta):=by
 intro pq s σ H R I h;refine Call_ (YF I hgr hmr (show bootBuiltins "reversed" = some (.type "reversed") from rfl) (PZ (Calls.spliced_cons ?_) rfl rfl))
 refine Call_ (YF I hg hm boot_range (PZ (thn (ha p3 pq s σ H _ I h) λus s1 ⟨vs,H1,I1,r1,q1⟩=>?_) (by rw[hs,hs2]) (by rw[hs2];rfl)))
 obtain⟨lo,hi,e,⟨q1,q2,q3,q4⟩,q⟩:=q1;subst e;cases r1 with
 |cons r rr=>
  cases rr with
  |cons r' rr=>
   cases rr;obtain⟨t,rfl⟩:=r;obtain⟨t',rfl⟩:=r';refine call_range_2 (Calls.spliced_nil ?_);refine WX (IsRange.new ..) q1 q2 q3 q4 ?_;have I2:Inv X pq σ H1 { s1 with heap:=s1.heap.push { cls:=.type "range",data:=.fields #[.int lo t,.int hi t',.int 1 s1.toks] },toks:=s1.toks+1 }:=I1.kept λb o e=>Pf _ e
   have I3:=I2.kept (t':=s1.toks+1) (h':=(s1.heap.push { cls:=.type "range",data:=.fields #[.int lo t,.int hi t',.int 1 s1.toks] }).push (jm lo (hi-lo).toNat)) λb o e=>Pf _ e
   refine KB (Pq _ rfl) ?_;refine⟨_,[(s1.heap.push { cls:=.type "range",data:=.fields #[.int lo t,.int hi t',.int 1 s1.toks] }).objs.size],_,_,H1,rfl,I3,zb _ lo (hi-lo).toNat,?_,λb hb=>?_,q⟩
   ·show IsRangeIter _ _ (lo+((hi-lo).toNat:Int)-1+((0:Nat):Int)*(-1)) ((((hi-lo).toNat:Nat):Int)-((0:Nat):Int)) (-1)
    rw[show lo+((hi-lo).toNat:Int)-1+((0:Nat):Int)*(-1)=lo+((hi-lo).toNat:Int)-1 by omega,show (((hi-lo).toNat:Nat):Int)-((0:Nat):Int)=((hi-lo).toNat:Int) by omega]
    exact Pq _ rfl
   ·have e:b=(s1.heap.push { cls:=.type "range",data:=.fields #[.int lo t,.int hi t',.int 1 s1.toks] }).objs.size:=by simpa using hb
    subst e;exact I2.fpOk (Pk _) (I2.hok.fresh (Pk _))
theorem y4 {lo:Int}{n i:Nat}(h:i<n):(Ev.Zq lo n).reverse[i]? = some (.int (lo+n-1-i)):=by
 unfold Ev.Zq;rw[<-Ko,PM,Kk (by simpa using h),PU,Kc (by omega)]
 simp only[Option.map_some]
 congr 2
 omega
theorem vP {K:PySem.W.Frag}{ρ:List Addr}{H:Hp}{lo:Int}{n:Nat}:WRel K ρ H ⟨(Ev.Zq lo n).reverse,[]⟩ (Itrv lo n) where
 go:=λi ρ' S' H' f st hs hi=>by
  have hi':i<n:=by simpa [Ev.Zq] using hi
  refine⟨hi',λx H'' ⟨e,hx⟩=>?_⟩
  subst e hx;refine⟨Fut.refl _ _,st,λd hd=>?_⟩
  have hd':(Ev.Zq lo n).reverse[i]? = some d:=hd;rw[y4 hi'] at hd';cases hd';exact Zp _
 stop:=λρ' S' H' f st hs=>by show n<=((Ev.Zq lo n).reverse).length;simp[Ev.Zq]
noncomputable def Zbr (x y:D) (S:Zc):R Walk:=match x,y with
 |.int i,.int j=>if (Ev.small i&&Ev.small j)=true then .ok ⟨(Ev.Zq i (j-i).toNat).reverse,[]⟩ S else .no
 |_,_=>.no
theorem JW (hmr:X.mg "reversed" = none) (hm:X.mg "range" = none) (ha:CA X xw C [a,b] [i,j]) (hgr:Gl X "reversed":=by rfl) (hg:Gl X "range":=by rfl) (hs:starEach [a,b] X.env=[(false,eval a X.env),(false,eval b X.env)]:=by rfl) (hs2:starEach [b] X.env=[(false,eval b X.env)]:=by rfl) :
  CW X xw C tg (.Call (.Name "reversed" p) [.Call (.Name "range" p2) [a,b] [] p3] [] pos) (.rrng i j):=
 PI.imp (vq hgr hmr hg hm ha hs hs2) λσ H Q ⟨ρ,l,S,st,lr,h⟩=>by
  refine⟨ρ,l,S,st,lr,?_⟩;show End X.K xw Rq ρ H _ ((ev C i l S).bind λx S=>((ev C j l S).bind λy S=>(Ev.R.ok [] S).bind λxs S=>.ok (y::xs) S).bind λxs S=>.ok (x::xs) S)
  have h':End X.K xw (WRel X.K) ρ H Q ((ev C i l S).bind λx S=>(ev C j l S).bind λy S=>Zbr x y S):=h
  cases q:ev C i l S with
  |no=>rw[q] at h';exact h'
  |ex c S1=>rw[q] at h';exact h'
  |ok x S1=>
   rw[q] at h';have h2:End X.K xw (WRel X.K) ρ H Q ((ev C j l S1).bind λy S=>Zbr x y S):=h'
   show End X.K xw Rq ρ H _ (((ev C j l S1).bind λy S=>(Ev.R.ok [] S).bind λxs S=>.ok (y::xs) S).bind λxs S=>.ok (x::xs) S)
   cases q2:ev C j l S1 with
   |no=>rw[q2] at h2;exact h2
   |ex c S2=>rw[q2] at h2;exact h2
   |ok y S2=>
    rw[q2] at h2;intro ρ1 H1 vs f1 st1 r1;obtain⟨v,u,rfl,rv,ru⟩:=Js r1;cases x with
    |int n=>cases y with
     |int m=>
      obtain⟨hs,h3⟩:=End.guard (End.mono f1 (show End X.K xw (WRel X.K) ρ H Q (if (Ev.small n&&Ev.small m)=true then .ok ⟨(Ev.Zq n (m-n).toNat).reverse,[]⟩ S2 else .no) from h2))
      obtain⟨s1,s2⟩:=(Pp _ _).mp hs;have s1':=PF (show decide (-(2^62)<=n/\n<2^62)=true from s1)
      have s2':=PF (show decide (-(2^62)<=m/\m<2^62)=true from s2)
      exact⟨n,m,by rw[rv.int',ru.int'],⟨s1'.1,s1'.2,s2'.1,s2'.2⟩,End.ok (rep:=WRel X.K) h3 st1 vP⟩
     |_=>exact False.elim h2
    |_=>exact False.elim h2
end
section
variable {X:Cx}{xw:Nat->Hp->Prop}{C:Calls}{e:Expr}{pos px py:Pos}
theorem Zcu {tg tg2:Expr}{te:TE}{g g2:TG}(he:PE X e te) (hg:PG X tg g) (hg2:PG X tg2 g2) (hs:swapsWithSole [tg,tg2] e pos.line X.env=pure false) (hw:swappedStores [tg,tg2] e X.env=pure none)
  (h1:(assignEach [tg,tg2] X.env).map (·.2)=[PySem.assign tg X.env,PySem.assign tg2 X.env]):PS X (.Assign [tg,tg2] e pos) (λD σ H=>te σ H λx H1=>g x σ H1 λσ' H2=>g2 x σ' H2 D.nx):=by
 intro pq s σ H D I h;refine wpAny_Assign_stores (thn (he pq s σ H _ I h) λv s1 ⟨x,H1,I1,r1,q1⟩=>?_) hs hw
 rw[h1];refine Pa (Nn (thn (hg pq s1 σ H1 x v _ I1 r1 q1) λ_ s2 ⟨σ',H2,I2,q2⟩=>?_))
 exact thn (hg2 pq s2 σ' H2 x v _ I2 r1 q2) λ_ s3 q=>q
theorem yR {n m:Nat}{x y:Str}{k:Int}{q:Nat}{pk:Pos}(hN:X.N.Nodup) (hi:X.N[n]? = some x:=by rfl) (hj:X.N[m]? = some y:=by rfl)
  (hx:X.env.scope.names.lookup x=some .local:=by rfl) (hy:X.env.scope.names.lookup y=some .local:=by rfl)
  (hs:swapsWithSole [.Name x px,.Name y py] (.Constant (.int k) q pk) pos.line X.env=pure false:=by rfl) (hw:swappedStores [.Name x px,.Name y py] (.Constant (.int k) q pk) X.env=pure none:=by rfl)
  (h1:(assignEach [.Name x px,.Name y py] X.env).map (·.2)=[PySem.assign (.Name x px) X.env,PySem.assign (.Name y py) X.env]:=by rfl) :
  CS X xw C (.Assign [.Name x px,.Name y py] (.Constant (.int k) q pk) pos) (.par [n,m] [.c (.int k),.c (.int k)]):=
 PS.imp (Zcu (GP (X:=X) (xw:=xw) (C:=C)) (UF (i:=n) hN hi (Or.inl hx) (hf:=.inr hx)) (UF (i:=m) hN hj (Or.inl hy) (hf:=.inr hy)) hs hw h1) λD σ H ⟨ρ,l,S,st,lr,h⟩=>by
  refine⟨ρ,l,S,st,lr,?_⟩;rw[Ev.ev];intro ρ1 H1 v f1 st1 r1;have h2:Zy X.K xw ρ H D (.ok (.nx ((l.set n (some (.int k))).set m (some (.int k)))) S):=h;exact Zy.nx (h2.mono f1) st1 (((lr.mono f1).set n r1).set m r1)
end
theorem UZ:typeLookup (.type "tuple") "__reversed__" = pure none:=by rw[typeLookup_type,builtinLookup_eq_fast];kernel_rfl
theorem Gb:isSubtype (.type "tuple") (.type "dict")=pure false:=by rw[isSubtype_type];kernel_rfl
theorem Gj:Slot "reversed" "__init__" "object.__init__":=
 .of (owner:="object") (n:="__init__") (by rw[typeLookup_type,builtinLookup_eq_fast];kernel_rfl) (by decide +kernel) (by decide +kernel) (by decide +kernel)
  (by first | exact .inl (by decide +kernel) | exact .inr (by decide +kernel)) (by rw[isSubtype_type];kernel_rfl)
theorem Uu:TypeCalled "reversed" "reversed.__new__" "object.__init__":=
 ⟨by decide +kernel,by decide +kernel,⟨_,_,F.mro_reversed⟩,F.made_reversed,by decide +kernel,F.sub_reversed_self,Gj⟩
theorem Yy:Slot "reversed" "__next__" "reversed.__next__":=
 .of (owner:="reversed") (n:="__next__") (by rw[typeLookup_type,builtinLookup_eq_fast];kernel_rfl) (by decide +kernel) (by decide +kernel) (by decide +kernel)
  (by first | exact .inl (by decide +kernel) | exact .inr (by decide +kernel)) (by rw[isSubtype_type];kernel_rfl)
theorem W5:entryFor table "reversed.__next__" = some Builtin.«reversed.__next__»:=entryFor_of_tree (by kernel_rfl)
theorem zJ:Manifest.owners.lookup (String.ofList ['d','e','s','r','e','v','e','r'].reverse)=some Manifest.sig_reversed:=by kernel_rfl
theorem Vh (a:Value):argsOk "reversed.__next__" ⟨[a],[]⟩:=by
 unfold argsOk;rw[signature?_of (id:="reversed.__next__") (n:=['_','_','t','x','e','n','_','_']) (o:=['d','e','s','r','e','v','e','r']) (by kernel_rfl) zJ];kernel_rfl
theorem VF:Slot "reversed" "__iter__" "reversed.__iter__":=
 .of (owner:="reversed") (n:="__iter__") (by rw[typeLookup_type,builtinLookup_eq_fast];kernel_rfl) (by decide +kernel) (by decide +kernel) (by decide +kernel)
  (by first | exact .inl (by decide +kernel) | exact .inr (by decide +kernel)) (by rw[isSubtype_type];kernel_rfl)
theorem GG (a:Value):argsOk "reversed.__iter__" ⟨[a],[]⟩:=by
 unfold argsOk;rw[signature?_of (id:="reversed.__iter__") (n:=['_','_','r','e','t','i','_','_']) (o:=['d','e','s','r','e','v','e','r']) (by kernel_rfl) zJ];kernel_rfl
theorem QN:entryFor table "reversed.__iter__" = some Builtin.«dict_keyiterator.__iter__»:=
 entryFor_alias (id':="dict_keyiterator.__iter__") (by kernel_rfl) (by first | rfl | decide +kernel | (unfold String.splitOn;simp +decide [String.splitOnAux])) (by decide +kernel) (by kernel_rfl)
section
variable {prog:Program}{w:World}{A:Around}{E:Value->Shared->Prop}{s:Shared}
def Wc (h:Heap) (a t:Addr) (i:Int):Prop:=∃o,h.get? a=some o/\o.cls=.type "reversed"/\o.data=.fields #[.ref t,rawInt i]
theorem Wc.typeIs {a l:Addr}{i:Int}(x:Wc s.heap a l i):s.TypeIs (.ref a) "reversed":=let ⟨o,ho,hc,_⟩:=x;⟨o,ho,hc⟩
theorem Wc.at {h h':Heap}{a l:Addr}{i:Int}(x:Wc h a l i) (e:∀o,h.get? a=some o->h'.get? a=some o):Wc h' a l i:=let ⟨o,ho,r⟩:=x;⟨o,e _ ho,r⟩
noncomputable abbrev emL:Obj:={ cls:=.type "list",data:=.seq ([]:List Value).toArray }
noncomputable abbrev rvO (t:Addr) (i:Int):Obj:={ cls:=.type "reversed",data:=.fields #[.ref t,rawInt i] }
theorem ZcA (t:Addr) (items:Array Value) (hfit:(items.size:Int)<2^63):Meets (Builtin.«reversed.__new__» ⟨[.type "reversed",.ref t],[]⟩)
  (λ_ R s=>IsTup s.heap t items/\∀tk,R (.ok (.ret (.ref s.heap.objs.size))) { s with heap:=s.heap.push (rvO t ((items.size:Int)-1)),toks:=tk }):=
 .of_wp λprog w A R s h=>by
  obtain⟨ht,h⟩:=h;unfold Builtin.«reversed.__new__»;refine Pa (Nk (newClass_reversed _) ?_)
  try dsimp only
  refine Pa (Nk (a:=()) (by first | rfl | kernel_rfl) ?_)
  refine Pa (Nk (a:=()) (by first | rfl | kernel_rfl) ?_)
  try dsimp only
  refine Pa (wpAny_specialOf ht.typeIs UZ ?_)
  try dsimp only
  refine Pa (show wpAny _ _ (isInstance (.ref t) (.type "dict") >>= _) _ _ s from Pa (wpAny_isInstance ht.typeIs Gb ?_))
  rw[Pj (by decide)]
  refine Pa (wpAny_specialOf ht.typeIs F.slot_tuple_getitem.lookup ?_)
  dsimp only
  rw[Ph (by decide)]
  refine Pi ?_;rw[Pj (by decide)]
  refine Pa (len_tuple ht hfit ?_);refine Pa (Nk (a:=some (items.size:Int)) rfl ?_);show wpAny _ _ (newObj (.type "reversed") (.fields #[.ref t,rawInt ((items.size:Int)-1)]) >>= _) _ _ _;exact Pa (PV (Pi ⟨_,rfl,h _⟩))
theorem WT {t:Addr}{items:Array Value}{Q:Value->Shared->Prop}(ht:IsTup s.heap t items) (hfit:(items.size:Int)<2^63)
  (h:∀tk,Q (.ref s.heap.objs.size) { s with heap:=s.heap.push (rvO t ((items.size:Int)-1)),toks:=tk }):wpAny (model prog w) A (call (.type "reversed") [.ref t]) Q E s:=
 callType_new Uu (by decide) (F.typeCall_reversed_1 _) (F.newCall_reversed_1 _) (λobj=>F.args_object_init_2 obj _) F.entry_reversed_new (ZcA t items hfit) ⟨ht,λtk=>⟨⟨_,Pq _ rfl,rfl⟩,h tk⟩⟩
theorem QO {it l:Addr}{i:Nat}{items:Array Value}{x:Value}{Q:Option Value->Shared->Prop}(hit:Wc s.heap it l (i:Int)) (hl:IsTup s.heap l items) (hne:l≠it) (hz:(items.size:Int)<2^63) (hx:items[i]? = some x)
  (hQ:∀h' tk,Wc h' it l ((i:Int)-1)->Heap.SameBut it s.heap h'->Q (some x) { s with heap:=h',toks:=tk }):wpAny (model prog w) A (pyNext (.ref it)) Q E s:=by
 obtain⟨o,ho,hc,hd⟩:=id hit;have hi:i<items.size:=(Array.getElem?_eq_some_iff.mp hx).1;unfold pyNext;refine Pa (wpAny_attempt (Nh (name:=Str.ofString "__next__") hit.typeIs Yy
  (Nt Yy hit.typeIs W5 ?_ (Vh _))))
 unfold Builtin.«reversed.__next__»;refine Pa (Nk (a:=(Value.ref it,[])) rfl ?_)
 try dsimp only
 refine Pa (P6 ho hd (x:=.ref l) rfl ?_);refine Pa (P6 ho hd (x:=rawInt (i:Int)) rfl ?_);show wpAny _ _ (if (i:Int)<0 then _ else _) _ _ s
 rw[Pj (by omega)]
 refine Pa (wpAny_specialOf hl.typeIs F.slot_tuple_getitem.lookup ?_);rw[Pj (by simp)]
 refine Pa (wpAny_mkInt ?_);have hl':IsTup ({ s with toks:=s.toks+1 }:Shared).heap l items:=hl
 refine Pa (wpAny_attempt (getItem_tuple (j:=i) hl' (by omega) (by omega) ?_ hx ?_))
 ·unfold seqIndex?
  simp;omega
 dsimp only
 refine Pa (P6 (s:={ s with toks:=s.toks+1 }) ho hd (x:=rawInt (i:Int)) rfl ?_)
 show wpAny _ _ (setField (.ref it) 1 (rawInt ((i:Int)-1)) >>= _) _ _ _;refine Pa (wpAny_setField (s:={ s with toks:=s.toks+1 }) ho hd (by simp) ?_)
 refine Pi ⟨x,rfl,Pi (hQ _ _ ?_ (Heap.SameBut.update ..))⟩;exact⟨_,Heap.get?_update_self _ ho (Obj.isFreed_of_fields (Obj.data_mapFields hd _)),(Obj.cls_mapFields ..).trans hc,by
  rw[Obj.data_mapFields hd];simp[rawInt]⟩
theorem JO {it l:Addr}{Q:Option Value->Shared->Prop}(hh:A.handled=none) (hit:Wc s.heap it l (-1))
  (hQ:∀h',Heap.ExtBut it s.heap h'->Q none { s with heap:=h' }):wpAny (model prog w) A (pyNext (.ref it)) Q E s:=by
 obtain⟨o,ho,hc,hd⟩:=id hit;unfold pyNext;refine Pa (wpAny_attempt (Nh (name:=Str.ofString "__next__") hit.typeIs Yy
  (Nt Yy hit.typeIs W5 ?_ (Vh _))))
 unfold Builtin.«reversed.__next__»;refine Pa (Nk (a:=(Value.ref it,[])) rfl ?_)
 try dsimp only
 refine Pa (P6 ho hd (x:=.ref l) rfl ?_);refine Pa (P6 ho hd (x:=rawInt (-1)) rfl ?_);show wpAny _ _ (if (-1:Int)<0 then _ else _) _ _ s
 rw[Ph (by decide)]
 refine Pa (Kg ?_);refine Pa (show wpAny _ _ (setField (.ref it) 1 (rawInt (-1)) >>= λ_=>setField (.ref it) 0 .none) _ _ _ from Pa (wpAny_setField ho hd (by simp) ?_))
 have g1:=Heap.get?_update_self (a:=it) (h:=s.heap) _ ho (Obj.isFreed_of_fields (Obj.data_mapFields hd (λvs=>vs.setIfInBounds 1 (rawInt (-1)))))
 refine wpAny_setField g1 (Obj.data_mapFields hd _) (by simp) ?_
 refine Pa ?_;show wpAny _ _ (newExc (.type "StopIteration") [] >>= _) _ _ _;refine Pa ?_;simp only[newExc,newTuple];refine Pa (PV ?_ (by size_fits))
 refine Pa (m:=firstArgMember _ _) (Nk (a:=Value.none) (by first | rfl | (simp only[firstArgMember];rfl)) ?_)
 refine PV ?_ (by size_fits)
 simp only[raiseNew];refine Pa (wpAny_handled ?_)
 first | rw[show A.in1.handled=none from hh] | rw[hh]
 refine Pa (Pi (wpAny_throw ?_));refine Pa (wpAny_isInstance (T:="StopIteration") (b:=true) ⟨_,Pq _ rfl,rfl⟩ isSubtype_stop ?_);exact Pi (hQ _ ((((Heap.SameBut.update ..).trans (Heap.SameBut.update ..)).extBut.push _).push _))
theorem zG {it l:Addr}{i:Int}{Q:Value->Shared->Prop}(hit:Wc s.heap it l i) (h:Q (.ref it) s):wpAny (model prog w) A (pyIter (.ref it)) Q E s:=by
 refine wpAny_pyIter_slot hit.typeIs VF (Nt VF hit.typeIs QN ?_ (GG _));show wpAny _ _ (ret (.ref it)) _ _ s;exact Pi ⟨_,rfl,"reversed",_,hit.typeIs,Yy.lookup,h⟩
abbrev upI (i:Nat) (v:Value):Prop:=∃t,v=.int (0+i*1) t
theorem QV {r:Addr}{b:Int}{t u v:Tok}{n:Nat}{Q:List Value->Shared->Prop}(hh:A.handled=none) (hr:IsRange s.heap r 0 b 1 t u v) (hsmall:Builtin.Range.small 0 b 1=true) (hn:Builtin.Range.rangeSize 0 b 1=n) (hlen:n<=2^24)
  (hQ:∀h' tk acc,(∀b o',s.heap.get? b=some o'->h'.get? b=some o')->ItemsOf upI acc n->Q acc.toList { s with heap:=h',toks:=tk }) :
  wpAny (model prog w) A (collect (.ref r)) Q E s:=by
 unfold collect;refine Pa (wpAny_runValue (codeAny_builtin F.entry_proto_collect ?_));rw[Around.under_plainId F.plain_proto_collect _];show wpAny _ A.in1 (newList [] >>= λl=>again (.builtin "list.__iadd__" ⟨[l,.ref r],[]⟩)) _ _ s
 refine Pa (PV ?_);refine Pi ⟨plainId_quiet F.plain_list_iadd _,codeAny_builtin F.entry_list_iadd ?_⟩;rw[Around.under_plainId F.plain_list_iadd _];show wpAny _ A.in1 (Builtin.List.listExtendWith (.ref s.heap.objs.size) (.ref r) (.ref s.heap.objs.size)) _ _ _;have hS:(s.heap.push emL).get? s.heap.objs.size=some { cls:=.type "list",data:=.seq #[] 0 }:=Pq _ rfl;have hr':IsRange (s.heap.push emL) r 0 b 1 t u v:=Pf _ hr;have fin':∀h' tk acc' c',(∀b o,b≠s.heap.objs.size->(s.heap.push emL).get? b=some o->h'.get? b=some o)->h'.get? s.heap.objs.size=some { cls:=.type "list",dict:=none,data:=.seq acc' c',slots:=#[] }->ItemsOf upI acc' n->
   wpAny (model prog w) A (match Value.ref s.heap.objs.size with
   |Value.ref a=>do
    match (<-load a).data with
     |Data.seq xs _=>pure xs.toList
     |_=>unsupported "internal:collect"
   |_=>unsupported "internal:collect") Q E { s with heap:=h',toks:=tk }:=λh' tk acc' c' k1 k2 k3=>by
  show wpAny _ A (load s.heap.objs.size >>= _) _ _ _;refine Pa (wpAny_load k2 ?_);refine Pi ?_;exact hQ _ _ _ (λb o' hb=>k1 b o' (P3 (Pz hb)) (Pf _ hb)) k3
 refine Nv (wpAny_extend_range (A:=A) (s:={ s with heap:=s.heap.push emL }) (R:=λr s'=>∃h' tk acc' c',r=.ok (.ret (.ref s.heap.objs.size))/\s'={ s with heap:=h',toks:=tk }/\(∀b o,b≠s.heap.objs.size->(s.heap.push emL).get? b=some o->h'.get? b=some o)/\h'.get? s.heap.objs.size=some { cls:=.type "list",dict:=none,data:=.seq acc' c',slots:=#[] }/\ItemsOf upI acc' n)
  hh hr' hsmall hn hlen s.heap.objs.size _ 0 hS (λh' tk acc' c' k1 k2 k3=>⟨h',tk,acc',c',rfl,rfl,k1,k2,k3⟩)) (λfin s' h=>?_) (λe s' h=>?_)
 ·cases fin with
  |done f=>
   obtain⟨h',tk,acc',c',e,rfl,k1,k2,k3⟩:=h;cases e;exact fin' _ _ _ _ k1 k2 k3
  |again c'=>exact⟨h.1,codeAny_mono h.2 λr s'' hr=>by obtain⟨h',tk,acc',c',rfl,rfl,k1,k2,k3⟩:=hr;exact fin' _ _ _ _ k1 k2 k3⟩
 ·obtain⟨h',tk,acc',c',e,_⟩:=h
  exact absurd e (by simp)
theorem VZ {r:Addr}{b:Int}{t u v:Tok}{n:Nat}{Q:Value->Shared->Prop}(hh:A.handled=none) (hr:IsRange s.heap r 0 b 1 t u v) (hsmall:Builtin.Range.small 0 b 1=true) (hn:Builtin.Range.rangeSize 0 b 1=n) (hlen:n<=1000)
  (h:∀(h':Heap) tk acc,(∀b o',s.heap.get? b=some o'->h'.get? b=some o')->ItemsOf upI acc n->Q (.ref h'.objs.size) { s with heap:=h'.push { cls:=.type "tuple",data:=.seq acc },toks:=tk }) :
  wpAny (model prog w) A (call (.type "tuple") [.ref r]) Q E s:=by
 refine callType_codes (Q₁:=λobj s₁=>s₁.TypeIs obj "tuple"/\Q obj s₁) F.called_tuple (F.typeCall_tuple_1 _) F.entry_object_init ?_ λobj s₁ h₁=>?_
 ·refine codeAny_of_tree ?_
  show wpAny _ _ (do checkBuiltinCall "tuple.__new__" ⟨[.type "tuple",.ref r],[]⟩;again (.builtin "tuple.__new__" ⟨[.type "tuple",.ref r],[]⟩)) _ _ s;refine Pa (Nk (F.newCall_tuple_1 _) (Pi ⟨plainId_quiet F.plain_tuple_new _,codeAny_builtin F.entry_tuple_new ?_⟩));rw[Around.under_plainId F.plain_tuple_new _];have hsub:=sub_tuple_self;have hinit:=init_tuple_lookup;have hmh:=madeHere_tuple;have hTI:s.TypeIs (.ref r) "range":=⟨_,hr,rfl⟩
  wp_walk using wpAny_typeOf hTI,QV (A:=A.in1.in1) hh hr hsmall hn (by omega)
  intro h' tk acc hk hacc;show wpAny _ _ (Builtin.Tuple.tupleExact acc.toList.toArray >>= λv=>ret v) _ _ _
  unfold Builtin.Tuple.tupleExact;refine Pa (PV ?_ (by show acc.toList.toArray.size<=sizeLine;simp only[Array.toArray_toList];rw[hacc.1,NJ];omega))
  refine Pi ?_;have e:acc.toList.toArray=acc:=by simp
  rw[e];exact⟨⟨_,Pq _ rfl,rfl⟩,h h' tk acc hk hacc⟩
 ·exact⟨h₁.1,F.args_object_init_2 obj _,object_init_meets F.called_tuple.init.lookup F.called_tuple.made (by decide) prog w A.in1 _ s₁ ⟨h₁.1,rfl,h₁.2⟩⟩
end
noncomputable def Itrt (K:PySem.W.Frag) (a:Addr) (n:Nat):It:=⟨λi H=>i<n/\∃xs,SqT K H a xs/\xs.length=n,λi H x H'=>H'=H/\∀xs,SqT K H a xs->xs.reverse[i]? = some x,λi _=>n<=i⟩
theorem vf {P:Program}{w:World}{K:PySem.W.Frag}{tg:Expr}(a it:Addr) (n:Nat) (hne:a≠it):Turn P w K tg (Itrt K a n) [it] it (λi h=>i<=n/\Wc h it a ((n:Int)-1-(i:Nat))) where
 mem:=by simp
 obj:=λi h st b hb=>by
  have e:b=it:=by simpa using hb
  subst e;obtain⟨_,o,e,c,d⟩:=st;exact⟨o,e,λv z=>by rw[d] at z;cases z⟩
 keep:=λi h h' st k=>⟨st.1,st.2.at λo e=>k it (by simp) o e⟩
 item:=by
  intro X hP hw hK hc i pq s σ H E I hf st hg;subst hP hw hK;obtain⟨hi,xs,hq,hx⟩:=hg;obtain⟨its,rv,p,hz⟩:=I.tuple hq;have hl:=rv.length;obtain⟨x,hx1⟩:∃x,xs[n-1-i]? = some x:=⟨_,Pd (by omega)⟩
  obtain⟨u,hu,ru⟩:=rv.get hx1;obtain⟨f0,f1,f2,f3,f4,f5⟩:=hf it (by simp)
  have st2:Wc s.heap it a ((n-1-i:Nat):Int):=by
   have:=st.2;rw[show (n:Int)-1-(i:Nat)=((n-1-i:Nat):Int) by omega] at this
   exact this
  have hsz:(its.toArray.size:Int)<2^63:=by
   have:xs.length<=16777216:=hz;simp only[Pg];omega
  refine QO st2 p hne hsz (x:=u) (by simpa using hu) λh' tk st' sb=>?_
  have I1:Inv X pq σ H { s with heap:=h',toks:=tk }:=I.turned (t':=tk) (λb o hb e=>(sb.2 b hb).trans e) f0 f1 f3 f4 f5
  obtain⟨o,e,c,d⟩:=id st';refine⟨u,rfl,zd (s:={ s with heap:=h',toks:=tk }) e c d (by decide) ⟨x,H,I1,ru,⟨rfl,λys hy=>?_⟩,⟨by omega,?_⟩,λb hb=>(hf b hb).1⟩⟩
  ·rw[I.tuple_inj hy hq,Kk (by omega),hx]
   exact hx1
  ·rw[show (n:Int)-1-((i+1:Nat):Int)=((n-1-i:Nat):Int)-1 by omega]
   exact st'
 done:=by
  intro X hP hw hK hc i pq s σ H E I hf st hg;subst hP hw hK;have hg:n<=i:=hg;obtain⟨f0,f1,f2,f3,f4,f5⟩:=hf it (by simp)
  have st2:=st.2;rw[show (n:Int)-1-(i:Nat) = -1 by have:=st.1;omega] at st2
  exact JO (I.ok.hd hc) st2 λh' eb=>⟨rfl,I.turned (t':=s.toks) (λb o hb e=>eb b o hb e) f0 f1 f3 f4 f5⟩
 self:=λ_ _ _ _ _ st h=>zG st.2 h
section
variable {X:Cx}{xw:Nat->Hp->Prop}{C:Calls}{a tg:Expr}{i:E}{pos p p2 p3:Pos}
def iRt (K:PySem.W.Frag) (ta:TA):TI:=λσ H R=>ta σ H λvs H1=>∃l xs,vs=[.ref l]/\SqT K H1 l xs/\R (Itrt K l xs.length) H1
theorem jE {ta:TA}(hgr:Gl X "reversed") (hmr:X.mg "reversed" = none) (ha:PA X [a] ta) (hs:starEach [a] X.env=[(false,eval a X.env)]):PI X tg (.Call (.Name "reversed" p) [a] [] pos) (iRt X.K ta):=by
 intro pq s σ H R I h;refine Call_ (YF I hgr hmr (show bootBuiltins "reversed" = some (.type "reversed") from rfl) (PZ (thn (ha pos pq s σ H _ I h) λus s1 ⟨vs,H1,I1,r1,q1⟩=>?_) hs rfl))
 obtain⟨l,xs,e,hq,q⟩:=q1;subst e;cases r1 with
 |cons r rr=>
  cases rr;cases r;obtain⟨its,rv,pl,hz⟩:=I1.tuple hq;have hl:=rv.length;refine WT pl (by have:xs.length<=16777216:=hz;simp only[Pg];omega) λtk=>?_
  have I2:=I1.kept (t':=tk) (h':=s1.heap.push (rvO l ((its.toArray.size:Int)-1))) λb o e=>Pf _ e
  have hit:Wc (s1.heap.push (rvO l ((its.toArray.size:Int)-1))) s1.heap.objs.size l ((xs.length:Int)-1-(0:Nat)):=
   ⟨_,Pq _ rfl,rfl,by rw[show (xs.length:Int)-1-((0:Nat):Int)=(its.toArray.size:Int)-1 by simp only[Pg];omega]⟩
  refine zG hit ?_;refine⟨_,[s1.heap.objs.size],_,_,H1,rfl,I2,vf l _ xs.length (P3 pl.lt),⟨Ka _,hit⟩,λb hb=>?_,q⟩
  have e:b=s1.heap.objs.size:=by simpa using hb
  subst e;exact I1.fpOk (Pk _) (I1.hok.fresh (Pk _))
theorem vD {K:PySem.W.Frag}{ρ:List Addr}{H:Hp}{ds:List D}{a:Addr}{xs:List V}(hp:H a=some (.tup xs)) (r:Rq ρ H ds xs):WRel K ρ H ⟨ds.reverse,[]⟩ (Itrt K a xs.length) where
 go:=λi ρ' S' H' f st _ hi=>by
  have hi':i<ds.reverse.length:=hi;have hl:=r.length;refine⟨⟨by simp at hi';omega,xs,SqT.of (f.tup a xs hp),rfl⟩,λx H'' y=>?_⟩
  obtain⟨rfl,y⟩:=y;refine⟨Fut.refl _ _,st,λd hd=>?_⟩
  obtain⟨v',g',r'⟩:=(r.mono f).reverse.get hd;have:=y xs (SqT.of (f.tup a xs hp));rw[g'] at this;cases this;exact r'
 stop:=λρ' S' H' f st _=>by show xs.length<=ds.reverse.length;rw[List.length_reverse,r.length];exact Pk _
theorem J8 (hmr:X.mg "reversed" = none) (ha:CA X xw C [a] [i]) (hgr:Gl X "reversed":=by rfl) (hs:starEach [a] X.env=[(false,eval a X.env)]:=by rfl):CW X xw C tg (.Call (.Name "reversed" p) [a] [] pos) (.rtup i):=
 PI.imp (jE hgr hmr ha hs) λσ H Q ⟨ρ,l,S,st,lr,h⟩=>by
  refine⟨ρ,l,S,st,lr,?_⟩;show End X.K xw Rq ρ H _ ((ev C i l S).bind λx S=>(Ev.R.ok [] S).bind λxs S=>.ok (x::xs) S)
  have h':End X.K xw (WRel X.K) ρ H Q ((ev C i l S).bind λx S=>match x with
   |.tup xs=>.ok ⟨xs.reverse,[]⟩ S
   |_=>.no):=h
  cases q:ev C i l S with
  |no=>rw[q] at h';exact h'
  |ex c S1=>rw[q] at h';exact h'
  |ok x S1=>
   rw[q] at h';intro ρ1 H1 vs f1 st1 r1;obtain⟨v,rfl,r⟩:=YZ r1;cases x with
   |tup ds=>
    obtain⟨b,xs,rfl,hp,r2⟩:=r.tup';exact⟨b,xs,rfl,SqT.of hp,End.ok (rep:=WRel X.K) (End.mono f1 (show End X.K xw (WRel X.K) ρ H Q (.ok ⟨ds.reverse,[]⟩ S1) from h')) st1 (vD hp r2)⟩
   |_=>exact False.elim h'
theorem wy:∀(us:List Value) (a:Int),(∀(j:Nat) v,us[j]? = some v->∃t,v=.int (a+j) t)->Vals ((List.range us.length).map λ(k:Nat)=>V.int (a+(k:Int))) us
 |[],_,_=>.nil
 |u::us,a,h=>by
  rw[PC,List.range_succ_eq_map,PP,P7];obtain⟨t,e⟩:=h 0 u rfl;refine .cons ⟨t,e⟩ ?_;have:=wy us (a+1) λj v hj=>by
   obtain⟨t,e⟩:=h (j+1) v (by simpa using hj)
   exact⟨t,by rw[e];congr 1;omega⟩
  refine Eq.mp ?_ this
  congr 2
  funext k
  show V.int (a+1+(k:Int))=V.int (a+((k+1:Nat):Int))
  congr 1;omega
theorem j4 {acc:Array Value}{n:Nat}(h:ItemsOf upI acc n):Vals ((List.range n).map λ(k:Nat)=>V.int (0+(k:Int))) acc.toList:=by
 have:=wy acc.toList 0 λj v hj=>by
  obtain⟨t,e⟩:=h.2 j v (by simpa using hj)
  exact⟨t,by rw[e];congr 1;omega⟩
 rw[NG,h.1] at this;exact this
theorem vy {ta:TA}(hgt:Gl X "tuple") (hmt:X.mg "tuple" = none) (hg:Gl X "range") (hm:X.mg "range" = none) (hc:X.calm=true) (ha:PA X [a] ta) (hs:starEach [a] X.env=[(false,eval a X.env)]) :
  PE X (.Call (.Name "tuple" p) [.Call (.Name "range" p2) [a] [] p3] [] pos) (λσ H Q=>ta σ H λvs H1=>∃j:Int,vs=[.int j]/\0<=j/\j<=1000/\∀l,H1 l=none->Q (.ref l) (upd H1 l (.tup ((List.range j.toNat).map λ(k:Nat)=>V.int (0+(k:Int)))))):=by
 intro pq s σ H Q I h;refine Call_ (YF I hgt hmt (show bootBuiltins "tuple" = some (.type "tuple") from rfl) (PZ (Calls.spliced_cons ?_) rfl rfl))
 refine Call_ (YF I hg hm boot_range (PZ (thn (ha p3 pq s σ H _ I h) λus s1 ⟨vs,H1,I1,r1,q1⟩=>?_) hs rfl))
 obtain⟨j,e,q1,q2,q⟩:=q1;subst e;cases r1 with
 |cons r rr=>
  cases rr;obtain⟨t,rfl⟩:=r;refine call_range_1 (Calls.spliced_nil ?_);have hn:Builtin.Range.rangeSize 0 j 1=(j.toNat:Int):=by rw[rangeSize_one];split <;> omega
  refine VZ (I1.ok.hd hc) (IsRange.new ..) (small_one (by omega) (by omega) (by omega) (by omega)) hn (by omega) λh' tk acc kp hacc=>?_
  have I2:Inv X pq σ H1 { s1 with heap:=h',toks:=tk }:=I1.kept (t':=tk) λb o e=>kp b o (Pf _ e)
  have I3:Inv X pq σ (upd H1 h'.objs.size (.tup ((List.range j.toNat).map λ(k:Nat)=>V.int (0+(k:Int))))) { s1 with heap:=h'.push { cls:=.type "tuple",data:=.seq acc },toks:=tk }:=
   I2.laid (t':=tk) (λb o e=>Pf _ e) (Pk _) (show Z2 X.prog X.w _ _ _ (.tup _) from ⟨by rw[Pl,PU,NJ];omega,acc.toList,j4 hacc,by
    have:=Kz h' acc
    simpa using this⟩)
  exact⟨.ref h'.objs.size,_,I3,rfl,q _ (I2.hok.fresh (Pk _))⟩
theorem VR (hmt:X.mg "tuple" = none) (hm:X.mg "range" = none) (ha:CA X xw C [a] [i]) (hgt:Gl X "tuple":=by rfl) (hg:Gl X "range":=by rfl) (hc:X.calm=true:=by rfl) (hs:starEach [a] X.env=[(false,eval a X.env)]:=by rfl) :
  CE X xw C (.Call (.Name "tuple" p) [.Call (.Name "range" p2) [a] [] p3] [] pos) (.blt .rangeT [i]):=
 PE.imp (vy hgt hmt hg hm hc ha hs) λσ H Q ⟨ρ,l,S,st,lr,h⟩=>by
  refine⟨ρ,l,S,st,lr,?_⟩;show End X.K xw Rq ρ H _ ((ev C i l S).bind λx S=>(Ev.R.ok [] S).bind λxs S=>.ok (x::xs) S)
  have h':End X.K xw Rep ρ H Q (((ev C i l S).bind λx S=>(Ev.R.ok [] S).bind λxs S=>.ok (x::xs) S).bind λxs S=>Ev.YQ .rangeT xs S):=h
  cases q:ev C i l S with
  |no=>rw[q] at h';exact h'
  |ex c S1=>rw[q] at h';exact h'
  |ok x S1=>
   rw[q] at h';have h':End X.K xw Rep ρ H Q (Ev.YQ .rangeT [x] S1):=h';intro ρ1 H1 vs f1 st1 r1;obtain⟨v,rfl,r⟩:=YZ r1;cases x with
   |int n=>
    obtain⟨hs,h2⟩:=End.guard (End.mono f1 (show End X.K xw Rep ρ H Q (if Ev.few n=true then .ok (.tup (Ev.Zq 0 n.toNat)) S1 else .no) from h'))
    have hs':=PF (show decide (0<=n/\n<=1000)=true from hs)
    refine⟨n,by rw[r.int'],hs'.1,hs'.2,?_⟩
    exact End.newT h2 st1 (by
     have:=Rq.ints (ρ:=ρ1) (H:=H1) ((List.range n.toNat).map λ(k:Nat)=>0+(k:Int))
     simpa [Ev.Zq,P7,Function.comp_def] using this)
   |_=>exact False.elim h'
theorem je {ρ:List Addr}{H:Hp}{Q:Bool->Hp->Prop}{r:R D}(hr:∀z S',r=.ok z S'->∃b,z=.bl b) (h:End X.K xw XH ρ H Q (r.bind λx S=>Ev.ob (Ev.ZM S x) S)):End X.K xw Rep ρ H (λx H'=>∃k,x=V.bl k/\Q k H') r:=by
 cases r with
 |no=>exact h
 |ex _ _=>exact h
 |ok z S3=>
  obtain⟨b,rfl⟩:=hr z S3 rfl;exact λρ3 H3 w f3 st3 r3=>⟨b,r3.bl',h ρ3 H3 b f3 st3 rfl⟩
theorem Ql {op op':CmpOp}{o o':Cop}{b d:Expr}{j k:E}(hc:Y0 X xw op o) (hc':Y0 X xw op' o') (ha:CE X xw C a i) (hb:CE X xw C b j) (hd:CE X xw C d k)
  (hm:lastMarks [op,op'] [b,d]=false:=by with_unfolding_all rfl):CT X xw C (.Compare a [op,op'] [b,d] pos) (.chain o o' i j k):=
 PT.imp (jz hc hc' ha hb hd hm) λσ H Q ⟨ρ,l,S,st,lr,h⟩=>by
  have h':End X.K xw XH ρ H Q (((ev C i l S).bind λx S=>(ev C j l S).bind λy S=>(Ev.YB o x y S).bind λz S=>match z with
   |.bl c=>if c then (ev C k l S).bind λw S=>Ev.YB o' y w S else .ok (.bl false) S
   |_=>.no).bind λx S=>Ev.ob (Ev.ZM S x) S):=h
  simp only[Yr] at h';refine⟨ρ,l,S,st,lr,h'.bind λx S1 ρ1 H1 v f1 st1 r1 h1=>⟨ρ1,l,S1,st1,lr.mono f1,h1.bind λy S2 ρ2 H2 u f2 st2 r2 h2=>⟨ρ2,S2,x,y,st2,r1.mono f2,r2,h2.bind λz S3 ρ3 H3 w f3 st3 r3 h3=>?_⟩⟩⟩
  cases z with
  |bl n=>
   refine⟨n,r3.bl',?_⟩;cases n with
   |true=>
    have h4:End X.K xw XH ρ3 H3 Q (((ev C k l S3).bind λw S=>Ev.YB o' y w S).bind λx S=>Ev.ob (Ev.ZM S x) S):=h3
    simp only[Yr] at h4;exact⟨ρ3,l,S3,st3,((lr.mono f1).mono f2).mono f3,h4.bind λt S4 ρ4 H4 t' f4 st4 r4 h5=>⟨ρ4,S4,y,t,st4,(r2.mono f3).mono f4,r4,je (λz S' e=>G0 e) h5⟩⟩
   |false=>exact⟨false,rfl,(show End X.K xw XH ρ3 H3 Q (.ok false S3) from h3) ρ3 H3 false (Fut.refl _ _) st3 rfl⟩
  |_=>exact False.elim h3
end
end Sd
structure Bx (P:Prop):Prop where
 h:P
namespace Wr
theorem bx3 {P Q R:Prop}(h:Bx P/\Bx Q/\Bx R):P/\Q/\R:=⟨h.1.h,h.2.1.h,h.2.2.h⟩
theorem bx6 {P Q R S T U:Prop}(h:Bx P/\Bx Q/\Bx R/\Bx S/\Bx T/\Bx U):P/\Q/\R/\S/\T/\U:=⟨h.1.h,h.2.1.h,h.2.2.1.h,h.2.2.2.1.h,h.2.2.2.2.1.h,h.2.2.2.2.2.h⟩
def GP {X xw C pos n q}:=Bx.mk (@Sd.GP X xw C pos n q)
def uX {X xw C pos n q}:=Bx.mk (@Sd.uX X xw C pos n q)
def y8 {X xw C pos q}:=Bx.mk (@Sd.y8 X xw C pos q)
def ZbR {X xw C pos} (n) {x} (hN hv hd hcd):=Bx.mk (@Sd.ZbR X xw C pos n x hN hv hd hcd)
def yn {X xw C pos es is q} (h):=Bx.mk (@Sd.yn X xw C pos es is q (Bx.h h))
def yy {X xw C pos es is} (h):=Bx.mk (@Sd.yy X xw C pos es is (Bx.h h))
def yO {X xw C a b i j pos} (ha hb):=Bx.mk (@Sd.yO X xw C a b i j pos (Bx.h ha) (Bx.h hb))
def xj {X xw C a b i j pos} (ha hb):=Bx.mk (@Sd.xj X xw C a b i j pos (Bx.h ha) (Bx.h hb))
def yY {X xw C a b i j pos} (ha hb):=Bx.mk (@Sd.yY X xw C a b i j pos (Bx.h ha) (Bx.h hb))
def Gz {X xw C a b i j pos} (ha hb):=Bx.mk (@Sd.Gz X xw C a b i j pos (Bx.h ha) (Bx.h hb))
def yj {X xw C a b i j pos} (ha hb):=Bx.mk (@Sd.yj X xw C a b i j pos (Bx.h ha) (Bx.h hb))
def yp {X xw C a b i j pos} (ha hb):=Bx.mk (@Sd.yp X xw C a b i j pos (Bx.h ha) (Bx.h hb))
def yZ {X xw C a i pos} (ha):=Bx.mk (@Sd.yZ X xw C a i pos (Bx.h ha))
def yr {X xw C a i pos} (ha):=Bx.mk (@Sd.yr X xw C a i pos (Bx.h ha))
def yB {X xw C a b i j pos rest} (ha hb):=Bx.mk (@Sd.yB X xw C a b i j pos rest (Bx.h ha) (Bx.h hb))
def uR {X xw C a b i j pos rest} (ha hb):=Bx.mk (@Sd.uR X xw C a b i j pos rest (Bx.h ha) (Bx.h hb))
def xp {X xw C a b c i j k pos} (hc ha hb):=Bx.mk (@Sd.xp X xw C a b c i j k pos (Bx.h hc) (Bx.h ha) (Bx.h hb))
def YV {X xw C a b i j pos op o} (hc ha hb) (hm):=Bx.mk (@Sd.YV X xw C a b i j pos op o hc (Bx.h ha) (Bx.h hb) hm)
def VP {X xw C a b i j pos op op' o o' d k} (hc hc' ha hb hd) (hm):=Bx.mk (@Sd.VP X xw C a b i j pos op op' o o' d k hc hc' (Bx.h ha) (Bx.h hb) (Bx.h hd) hm)
def yQ {X xw C a i pos p2 e1} (ha h1):=Bx.mk (@Sd.yQ X xw C a i pos p2 e1 (Bx.h ha) (Bx.h h1))
def u5 {X xw C a i pos p2 lo hi il ih} (ha hl hh):=Bx.mk (@Sd.u5 X xw C a i pos p2 lo hi il ih (Bx.h ha) (Bx.h hl) (Bx.h hh))
def uy {X xw C a b i j pos} (ha hb) (hs):=Bx.mk (@Sd.uy X xw C a b i j pos (Bx.h ha) (Bx.h hb) hs)
def Ue {X xw C a i pos p p2 T t} (ht hm hmT ha) (hg hgT hvT hnT hdT hs1 hs2 hpl):=Bx.mk (@Sd.Ue X xw C a i pos p p2 T t ht hm hmT (Bx.h ha) hg hgT hvT hnT hdT hs1 hs2 hpl)
def X9 {X xw C e pos p f id x es is} (hc hm ha) (hg hv hn hdb he hpl):=Bx.mk (@Sd.X9 X xw C e pos p f id x es is hc hm (Bx.h ha) hg hv hn hdb he hpl)
def VA {X xw C e pos p f id x es is} (hc hm ha) (hg hv hn hdb he hpl):=Bx.mk (@Sd.VA X xw C e pos p f id x es is hc hm (Bx.h ha) hg hv hn hdb he hpl)
def VY {X xw C e i o io apos cpos} (ho ha) (hbase hfew hline hs hplain):=Bx.mk (@Sd.VY X xw C e i o io apos cpos (Bx.h ho) (Bx.h ha) hbase hfew hline hs hplain)
def yk {X xw C}:=Bx.mk (@Sd.yk X xw C)
def Gf {X xw C e i es is} (ha hr) (hs):=Bx.mk (@Sd.Gf X xw C e i es is (Bx.h ha) (Bx.h hr) hs)
def Gk {X xw C}:=Bx.mk (@Sd.Gk X xw C)
def Gr {X xw C e i} (h):=Bx.mk (@Sd.Gr X xw C e i (Bx.h h))
def xk {X xw C a i pos} (ha):=Bx.mk (@Sd.xk X xw C a i pos (Bx.h ha))
def YU {X xw C a b i j pos op o} (hc ha hb) (hm):=Bx.mk (@Sd.YU X xw C a b i j pos op o hc (Bx.h ha) (Bx.h hb) hm)
def yE {X xw C a i} (ha) (he):=Bx.mk (@Sd.yE X xw C a i (Bx.h ha) he)
def xY {X xw C a b i j pos rest} (ha hb):=Bx.mk (@Sd.xY X xw C a b i j pos rest (Bx.h ha) (Bx.h hb))
def yG {X xw C a i pos} (ha):=Bx.mk (@Sd.yG X xw C a i pos (Bx.h ha))
def GE {X xw C}:=Bx.mk (@Sd.GE X xw C)
def Gh {X xw C c i} (h):=Bx.mk (@Sd.Gh X xw C c i (Bx.h h))
def qi {X xw C e tg i} (he):=Bx.mk (@Sd.qi X xw C e tg i (Bx.h he))
def JI {X xw C a tg i pos p} (hm ha) (hg hs):=Bx.mk (@Sd.JI X xw C a tg i pos p hm (Bx.h ha) hg hs)
def Gq {X xw C a b tg i j pos p} (hm ha) (hg hs hs2):=Bx.mk (@Sd.Gq X xw C a b tg i j pos p hm (Bx.h ha) hg hs hs2)
def JM {X pos n x} (hN) (hi hx hf):=Bx.mk (@Sd.JM X pos n x hN hi hx hf)
def yd {X pos tgs q2 n m r} (hc h) (hn hst):=Bx.mk (@Sd.yd X pos tgs q2 n m r hc (Bx.h h) hn hst)
def J0 {X}:=Bx.mk (@Sd.J0 X)
def QA {X pos tgs n t x} (hN h2) (hi hx hf hs):=Bx.mk (@Sd.QA X pos tgs n t x hN (Bx.h h2) hi hx hf hs)
def yx {X xw C}:=Bx.mk (@Sd.yx X xw C)
def GJ {X xw C s0 ss m0 ms} (h1 h2):=Bx.mk (@Sd.GJ X xw C s0 ss m0 ms (Bx.h h1) (Bx.h h2))
def yg {X xw C e i pos tg t} (he hg) (hs hw h1):=Bx.mk (@Sd.yg X xw C e i pos tg t (Bx.h he) (Bx.h hg) hs hw h1)
def yM {X xw C e i pos p o ix io ii} (ho hi he) (ha hs hw h1):=Bx.mk (@Sd.yM X xw C e i pos p o ix io ii (Bx.h ho) (Bx.h hi) (Bx.h he) ha hs hw h1)
def y9 {X xw C e i pos} (he):=Bx.mk (@Sd.y9 X xw C e i pos (Bx.h he))
def JJ {X xw C e i pos} (he) (hs):=Bx.mk (@Sd.JJ X xw C e i pos (Bx.h he) hs)
def qZ {X xw C c k pos ms ms' sa sb} (hc ha hb):=Bx.mk (@Sd.qZ X xw C c k pos ms ms' sa sb (Bx.h hc) (Bx.h ha) (Bx.h hb))
def ye {X xw C tg it pos body ms w t} (hp hc hw hg hb) (hs):=Bx.mk (@Sd.ye X xw C tg it pos body ms w t hp hc (Bx.h hw) (Bx.h hg) (Bx.h hb) hs)
def QI {X C s0 n}:=Bx.mk (@Sd.QI X C s0 n)
def Gx {X xw C e i pos p op o n x} (ho hN he) (hi hx hf):=Bx.mk (@Sd.Gx X xw C e i pos p op o n x ho hN (Bx.h he) hi hx hf)
def Qk {X xw C c k pos ms body} (hp hc hb):=Bx.mk (@Sd.Qk X xw C c k pos ms body hp (Bx.h hc) (Bx.h hb))
def yJ {X xw C a b i j pos p tp elts kk} (hm ha) (hg hs hs2):=Bx.mk (@Sd.yJ X xw C a b i j pos p tp elts kk hm (Bx.h ha) hg hs hs2)
def JL {X xw C a i pos p tp elts kk} (hm ha) (hg hs):=Bx.mk (@Sd.JL X xw C a i pos p tp elts kk hm (Bx.h ha) hg hs)
def V3 {X xw C e i o io apos cpos} (ho ha) (hbase hfew hline hs hplain):=Bx.mk (@Sd.V3 X xw C e i o io apos cpos (Bx.h ho) (Bx.h ha) hbase hfew hline hs hplain)
def yt {X xw C a b i j pos n m x y px py pt kt k2 pt2} (hc hN ha) (hnm hi hj hx hy hw hs):=Bx.mk (@Sd.yt X xw C a b i j pos n m x y px py pt kt k2 pt2 hc hN (Bx.h ha) hnm hi hj hx hy hw hs)
def JQ {X xw C a i pos p p2 p3 T U t u k0 p4} (ht hu hm hmT hmU ha) (hg hgT hgU hvT hvU hnT hdT hnU hdU hs0 hs00 hs1 hs2 hpl):=Bx.mk (@Sd.JQ X xw C a i pos p p2 p3 T U t u k0 p4 ht hu hm hmT hmU (Bx.h ha) hg hgT hgU hvT hvU hnT hdT hnU hdU hs0 hs00 hs1 hs2 hpl)
def W8 {X xw C e i pos p kp kp2 q0} (hm ha) (hg he hpl):=Bx.mk (@Sd.W8 X xw C e i pos p kp kp2 q0 hm (Bx.h ha) hg he hpl)
def JW {X xw C a b tg i j pos p p2 p3} (hmr hm ha) (hgr hg hs hs2):=Bx.mk (@Sd.JW X xw C a b tg i j pos p p2 p3 hmr hm (Bx.h ha) hgr hg hs hs2)
def QM {X xw C tg it pos elt ifs is ie scope N cap nl w t} (hc hN CS hi) (hb:∀c s H p,Bx _/\Bx _/\Bx _) (hs):=Bx.mk (@Sd.QM X xw C tg it pos elt ifs is ie scope N cap nl w t hc hN CS (Bx.h hi) (λc s H p=>bx3 (hb c s H p)) hs)
def Qv {X xw C tg it pos elt ifs is ie scope N cap nl w t n y spos py} (hc hN CSc hi) (hb:∀c s H p,Bx _/\Bx _/\Bx _) (hsw hy hx hf hs):=Bx.mk (@Sd.Qv X xw C tg it pos elt ifs is ie scope N cap nl w t n y spos py hc hN CSc (Bx.h hi) (λc s H p=>bx3 (hb c s H p)) hsw hy hx hf hs)
def V9 {X xw C pos elt t1 i1 t2 i2 f1' f2' is js ie scope N cap nl w w2 t u n y spos py} (hc hN CSc hi) (hb:∀c s H p,Bx _/\Bx _/\Bx _/\Bx _/\Bx _/\Bx _) (hsw hy hx hf hs hs2):=Bx.mk (@Sd.V9 X xw C pos elt t1 i1 t2 i2 f1' f2' is js ie scope N cap nl w w2 t u n y spos py hc hN CSc (Bx.h hi) (λc s H p=>bx6 (hb c s H p)) hsw hy hx hf hs hs2)
def ZbK {X xw C e i} (h):=Bx.mk (@Sd.CWh.ct X xw C e i (Bx.h h))
def yR {X xw C pos px py n m x y k q pk} (hN) (hi hj hx hy hs hw h1):=Bx.mk (@Sd.yR X xw C pos px py n m x y k q pk hN hi hj hx hy hs hw h1)
def J8 {X xw C a tg i pos p} (hmr ha) (hgr hs):=Bx.mk (@Sd.J8 X xw C a tg i pos p hmr (Bx.h ha) hgr hs)
def VR {X xw C a i pos p p2 p3} (hmt hm ha) (hgt hg hc hs):=Bx.mk (@Sd.VR X xw C a i pos p p2 p3 hmt hm (Bx.h ha) hgt hg hc hs)
def Ql {X xw C a i pos op op' o o' b d j k} (hc hc' ha hb hd) (hm):=Bx.mk (@Sd.Ql X xw C a i pos op op' o o' b d j k hc hc' (Bx.h ha) (Bx.h hb) (Bx.h hd) hm)
end Wr
namespace Gn
open PySem PySem.Spec PyProof.Rows L2
open Ev (D Ob Zc Lc R E Sm Calls Walk Fl Fn Bop Cop Ty Bf Mf)
open Sd (spF CompScope cxC hu7 xB jw)
structure FR where
 x:Str
 st:Stmt
 N:List Str
 k:Nat
noncomputable def FR.ps (r:FR):List Str:=r.N.take r.k
noncomputable def scB (N:List Str) (k:Nat) (sc:Scope):Bool:=
 (match sc.kind with | .function=>true | _=>false)&&(!sc.isCoroutine&&(!sc.isGenerator&&(decide N.Nodup&&((N.take k).all (λx=>decide (sc.names.lookup x=some .local)||decide (sc.names.lookup x=some .cell))&&sc.names.all λy=>decide (y.2≠.free)))))
theorem Zb0 {N:List Str}{k:Nat}{sc:Scope}(h:scB N k sc=true):FnScope N (N.take k) sc:=by
 unfold scB at h;simp only[Pp,Bool.not_eq_true',Nz,Pw,Bool.or_eq_true] at h;obtain⟨h1,h2,h3,h4,h5,h6⟩:=h;refine⟨?_,h2,h3,h4,?_,h5,h6⟩
 ·cases e:sc.kind <;> rw[e] at h1 <;> first | rfl | cases h1
 ·rw[NA]
  by_cases hk:k<=N.length
  ·rw[Nat.min_eq_left hk]
  ·rw[Nat.min_eq_right (by omega),List.take_length,KG (by omega)]
inductive Gv where
 |int (n:Int) | tab (t:List (Int×Int))
 deriving DecidableEq
def Zdr (K:PySem.W.Frag) (mg:Str->Option Value) (x:Str):Gv->Prop
 |.int n=>∃t:Tok,mg x=some (.int n t)
 |.tab t=>∃tb:Addr,(∀P w,Sd.jW P w K tb t)/\mg x=some (.ref tb)
structure Top (K:PySem.W.Frag) (mg:Str->Option Value) (fs:List FR) (zs:List Str) (gs:List (Str×Gv)) (f:Nat->Addr) (fd:Nat->FuncData):Prop where
 d:∀i r,fs[i]? = some r->Fun K r.x r.x r.st (f i) (fd i)
 b:∀i r,fs[i]? = some r->QG K (fd i) r.ps []
 m:∀i r,fs[i]? = some r->mg r.x=some (.ref (f i))
 z:∀x∈zs,mg x=none
 g:∀y∈gs,Zdr K mg y.1 y.2
def All (P:Program) (w:World) (K:PySem.W.Frag) (mg:Str->Option Value) (base:Heap) (fs:List FR) (F:List Fn) (f:Nat->Addr) (fd:Nat->FuncData) (d:Nat):Prop:=
 ∀i r,fs[i]? = some r->FnOk P w K mg base CX0 d (f i) (fd i) r.ps (spF K (Ev.ZH F d) i)
def Bd (fs:List FR) (zs:List Str) (gs:List (Str×Gv)) (F:List Fn) (i:Nat) (r:FR) (fn:Fn):Prop:=
 ∀(P:Program) (w:World) (K:PySem.W.Frag) (mg:Str->Option Value) (base:Heap) (f:Nat->Addr) (fd:Nat->FuncData) (d:Nat),Top K mg fs zs gs f fd->All P w K mg base fs F f fd d->r.N.Nodup->
  ∀(cdv:Value) (A:Around) (outer:List Env) (s:Shared) (H:Hp) (E:XK),Room d (A.deeper (envOfC r.x (ZG r.st) s.heap.objs.size (f i) cdv))->(A.deeper (envOfC r.x (ZG r.st) s.heap.objs.size (f i) cdv)).units+7<cLine->
   Bx (Sd.CSs (GX CX0 P w K mg base r.N r.x (ZG r.st) (f i) cdv A outer s H E).nox (λ_ _=>False) (Ev.ZH F d) (Yv r.st) fn.body)
def OkL (fs:List FR) (zs:List Str) (gs:List (Str×Gv)) (F:List Fn):Nat->List FR->List Fn->Prop
 |_,[],[]=>True
 |i,r::rs,fn::fns=>(fn.ns=r.N.length/\fn.ps=r.ps.length/\scB r.N r.k (ZG r.st)=true/\Bd fs zs gs F i r fn)/\OkL fs zs gs F (i+1) rs fns
 |_,_,_=>False
theorem OkL.get {fs:List FR}{zs:List Str}{gs:List (Str×Gv)}{F:List Fn}:∀{rs:List FR}{fns:List Fn}{i0:Nat},OkL fs zs gs F i0 rs fns->∀i r,rs[i]? = some r->∃fn,fns[i]? = some fn/\fn.ns=r.N.length/\fn.ps=r.ps.length/\scB r.N r.k (ZG r.st)=true/\Bd fs zs gs F (i0+i) r fn
 |[],_,_,_,i,r,e=>by simp at e
 |_::_,[],_,h,_,_,_=>h.elim
 |r::rs,fn::fns,i0,h,0,r',e=>by
  simp at e;subst e;exact⟨fn,rfl,h.1.1,h.1.2.1,h.1.2.2.1,h.1.2.2.2⟩
 |r::rs,fn::fns,i0,h,i+1,r',e=>by
  obtain⟨g,a,b,c,d,q⟩:=OkL.get h.2 i r' (by simpa using e)
  exact⟨g,by simpa using a,b,c,d,by rw[Nat.add_assoc,Nat.add_comm 1 i] at q;exact q⟩
theorem qG {P:Program}{w:World}{K:PySem.W.Frag}{mg:Str->Option Value}{base:Heap}{fs:List FR}{zs:List Str}{gs:List (Str×Gv)}{F:List Fn}{f:Nat->Addr}{fd:Nat->FuncData}(O:OkL fs zs gs F 0 fs F) (T:Top K mg fs zs gs f fd):∀d,All P w K mg base fs F f fd d
 |0=>λi r h=>xB
 |d+1=>λi r h=>by
  obtain⟨fn,a,b,c,e,q⟩:=O.get i r h;rw[Nat.zero_add] at q;have S:=Zb0 e;exact Sd.Zac a b c (T.d i r h) S λcdv A outer s H E hr=>(q P w K mg base f fd d T (qG O T d) S.nd cdv A outer s H E hr (hu7 hr)).h
def Jw (r:FR):Prop:=∀(kV doc pm:Value) (an:Option Addr) (cdv ct:Value) (us:List Value),us.length=r.ps.length->bindArgs (PySem.W.fnOf r.x r.x (Xo r.st) (Yv r.st) (ZG r.st) .none kV doc pm an cdv ct) ⟨us,[]⟩=pure (r.ps.zip us)
section
variable {x:Str}{st:Stmt}
noncomputable abbrev bA (x:Str) (st:Stmt) (kV doc pm:Value) (an:Option Addr) (cdv ct:Value) (us:List Value):=bindArgs (PySem.W.fnOf x x (Xo st) (Yv st) (ZG st) .none kV doc pm an cdv ct) ⟨us,[]⟩
theorem bd1 {N:List Str}{n:Nat}(h:∀kV doc pm an cdv ct a0,bA x st kV doc pm an cdv ct [a0]=pure ((N.take n).zip [a0])) (hl:(N.take n).length=1:=by rfl):Jw ⟨x,st,N,n⟩:=λkV doc pm an cdv ct us e=>match us,e.trans hl with | [a0],_=>h kV doc pm an cdv ct a0
theorem bd2 {N:List Str}{n:Nat}(h:∀kV doc pm an cdv ct a0 a1,bA x st kV doc pm an cdv ct [a0,a1]=pure ((N.take n).zip [a0,a1])) (hl:(N.take n).length=2:=by rfl):Jw ⟨x,st,N,n⟩:=λkV doc pm an cdv ct us e=>match us,e.trans hl with | [a0,a1],_=>h kV doc pm an cdv ct a0 a1
theorem bd3 {N:List Str}{n:Nat}(h:∀kV doc pm an cdv ct a0 a1 a2,bA x st kV doc pm an cdv ct [a0,a1,a2]=pure ((N.take n).zip [a0,a1,a2])) (hl:(N.take n).length=3:=by rfl):Jw ⟨x,st,N,n⟩:=λkV doc pm an cdv ct us e=>match us,e.trans hl with | [a0,a1,a2],_=>h kV doc pm an cdv ct a0 a1 a2
theorem bd4 {N:List Str}{n:Nat}(h:∀kV doc pm an cdv ct a0 a1 a2 a3,bA x st kV doc pm an cdv ct [a0,a1,a2,a3]=pure ((N.take n).zip [a0,a1,a2,a3])) (hl:(N.take n).length=4:=by rfl):Jw ⟨x,st,N,n⟩:=λkV doc pm an cdv ct us e=>match us,e.trans hl with | [a0,a1,a2,a3],_=>h kV doc pm an cdv ct a0 a1 a2 a3
end
inductive FnsAt (K:PySem.W.Frag):List FR->List Addr->List FuncData->Prop
 |nil:FnsAt K [] [] []
 |cons {x:Str} {st:Stmt} {N:List Str} {n:Nat} {a:Addr} {rs:List FR} {as:List Addr} {fds:List FuncData} {oc kV dc pm cd ct:Value} {od an:Option Addr} {sl:Array (Option Value)}
   (h1:PySem.W.nsIn K mainGlobals x=some (some (.ref a))) (h2:K.lookup a=some ⟨oc,od,.func (PySem.W.fnOf x x (Xo st) (Yv st) (ZG st) .none kV dc pm an cd ct),sl⟩)
   (h3:PySem.W.codeIn K cd x=true) (h4:PySem.W.keepIn K (.ref a)=true) (h5:Jw ⟨x,st,N,n⟩) (t:FnsAt K rs as fds) :
   FnsAt K (⟨x,st,N,n⟩::rs) (a::as) (PySem.W.fnOf x x (Xo st) (Yv st) (ZG st) .none kV dc pm an cd ct::fds)
inductive ZsAt (K:PySem.W.Frag):List Str->Prop
 |nil:ZsAt K []
 |cons {x:Str} {zs:List Str} (h:PySem.W.nsIn K mainGlobals x=some none) (t:ZsAt K zs):ZsAt K (x::zs)
inductive GsAt (K:PySem.W.Frag):List (Str×Gv)->Prop
 |nil:GsAt K []
 |cons {x:Str} {n:Int} {u:Tok} {gs:List (Str×Gv)} (h:PySem.W.nsIn K mainGlobals x=some (some (.int n u))) (t:GsAt K gs):GsAt K ((x,.int n)::gs)
 |tab {x:Str} {a:Addr} {es:Array DictEntry} {n:Nat} {tb:List (Int×Int)} {gs:List (Str×Gv)} (h:PySem.W.nsIn K mainGlobals x=some (some (.ref a))) (h2:K.lookup a=some ⟨.type "dict",none,.dict es n,#[]⟩) (h3:Sd.Xz es.toList tb) (h4:(a == sysModules)=false) (t:GsAt K gs):GsAt K ((x,.tab tb)::gs)
theorem GsAt.get {K:PySem.W.Frag}{h:Heap}{mg:Str->Option Value}(X:K.In h) (G:h.Ns mainGlobals mg):∀{gs:List (Str×Gv)},GsAt K gs->∀y∈gs,Zdr K mg y.1 y.2
 |_,.nil,x,h=>by simp at h
 |_,.cons h t,x,m=>by
  rcases Po.mp m with rfl | m
  ·exact⟨_,PySem.W.mg_of X G h⟩
  ·exact t.get X G x m
 |_,.tab h h2 h3 h4 t,x,m=>by
  rcases Po.mp m with rfl | m
  ·exact⟨_,λP w=>Sd.ZaU h2 h3 h4,PySem.W.mg_of X G h⟩
  ·exact t.get X G x m
theorem FnsAt.get {K:PySem.W.Frag}{fd0:FuncData}:∀{fs:List FR}{as:List Addr}{fds:List FuncData},FnsAt K fs as fds->∀i r,fs[i]? = some r->
  PySem.W.nsIn K mainGlobals r.x=some (some (.ref (as.getD i 0)))/\Fun K r.x r.x r.st (as.getD i 0) (fds.getD i fd0)/\Jw r
 |_,_,_,.nil,i,r,e=>by simp at e
 |_,_,_,.cons h1 h2 h3 h4 h5 t,0,r,e=>by
  simp at e;subst e;exact⟨h1,ZcG h2 h3 h4,h5⟩
 |_,_,_,.cons h1 h2 h3 h4 h5 t,i+1,r,e=>by
  obtain⟨a,b,c⟩:=t.get i r (by simpa using e)
  exact⟨by simpa using a,by simpa using b,c⟩
theorem ZsAt.get {K:PySem.W.Frag}:∀{zs:List Str},ZsAt K zs->∀x∈zs,PySem.W.nsIn K mainGlobals x=some none
 |_,.nil,x,h=>by simp at h
 |_,.cons h t,x,m=>by
  rcases Po.mp m with rfl | m
  ·exact h
  ·exact t.get x m
theorem Zb2 {l:PySem.W.OpenLaw}{w:World}{K:PySem.W.Frag}{h:Heap}{mg:Str->Option Value}{fa:Addr}{fs:List FR}{zs:List Str}{gs:List (Str×Gv)}{F:List Fn}{L:Nat}{st:Stmt}{N:List Str}{as:List Addr}{fds:List FuncData}
  (X:K.In h) (G:h.Ns mainGlobals mg) (hfa:mg "law" = some (.ref fa)) (hL:fs[L]? = some ⟨"law",st,"_law_script" :: N,1⟩) (O:OkL fs zs gs F 0 fs F) (A:FnsAt K fs as fds) (Z:ZsAt K zs) (Y:GsAt K gs) :
  ∃fd:FuncData,(∀(s:Shared) (v:Value),BindsTo s fd ⟨[v],[]⟩ [("_law_script",v)])/\∀base:Heap,K.In base->base.Ns mainGlobals mg->FnOk l.prog w K mg base CX0 65 fa fd ["_law_script"] (spF K (Ev.ZH F 65) L):=by
 cases fds with
 |nil=>cases A;simp at hL
 |cons fd0 fds'=>
 have T:Top K mg fs zs gs (λi=>as.getD i 0) (λi=>(fd0::fds').getD i fd0):=
  ⟨λi r e=>(A.get i r e).2.1,λi r e=>by
   obtain⟨_,F,B⟩:=A.get (fd0:=fd0) i r e;exact F.binds B,λi r e=>PySem.W.mg_of X G (A.get (fd0:=fd0) i r e).1,λx hx=>PySem.W.mg_none_of X G (Z.get x hx),λy hy=>Y.get X G y hy⟩
 have e:=hfa.symm.trans (T.m L _ hL);obtain⟨_,Fu,B⟩:=A.get (fd0:=fd0) L _ hL;cases e;refine⟨(fd0::fds').getD L fd0,λs v=>?_,λbase _ _=>qG O T 65 L _ hL⟩
 obtain⟨oc,od,kV,doc,pm,an,cdv,ct,osl,e,lk,hcd⟩:=Fu.ex;rw[e];exact .of_eq (B kV doc pm an cdv ct [v] rfl)
theorem walk {l:PySem.W.OpenLaw}{q:Program}{loose:List Str}{XP:(Str->Option Value)->Heap->Prop}{YP:World->Heap->Prop}{d:DefRec}{K:Params->PySem.W.Frag}{F:List Fn}{L:Nat}(hok:∀ns:List Int,∃S,Ev.ZH F 65 L [.loc 0] [.scr ns]=.ok (.bl true) S) (hn:l.most=some 63) (hdf:d.params.defaults=[])
  (hY:∀(w:World) (h:Heap),YP w h->(K w.params).In h)
  (hF:∀(w:World) (mg:Str->Option Value) (fa:Addr) (h:Heap),(K w.params).In h->h.Ns mainGlobals mg->mg d.name=some (.ref fa)->
   ∃fd:FuncData,(∀(s:Shared) (u:Value),BindsTo s fd ⟨[u],[]⟩ [("_law_script",u)])/\∀base:Heap,(K w.params).In base->base.Ns mainGlobals mg->FnOk l.prog w (K w.params) mg base CX0 65 fa fd ["_law_script"] (spF (K w.params) (Ev.ZH F 65) L)) :
  PySem.W.WalkO q loose XP YP l.row.toRowW d [] (λf vs=>PySem.call f vs):=
 L2.jS (n:=63) (k:=65) (x:="_law_script") (CX:=λ_=>CX0) (sp:=λw=>spF (K w.params) (Ev.ZH F 65) L) hn (by decide) hdf ⟨rfl,by decide,by decide⟩ hY hF (λw H a ns hl hO hS=>jw hO hS (hok ns)) λ_ _ _ _ _ z=>z
section
variable {X:Cx}{xw:Nat->Hp->Prop}{C:Calls}{e a b:Expr}{i j:E}{es:List Expr}{is:List E}{pos p p2 p3:Pos}{fs:List FR}{zs:List Str}{gs:List (Str×Gv)}{F:List Fn}{f:Nat->Addr}{fd:Nat->FuncData}{d:Nat}
theorem Top.no {K:PySem.W.Frag}{mg:Str->Option Value}{x:Str}(T:Top K mg fs zs gs f fd) (h:zs.contains x=true):mg x=none:=T.z x (by simpa using h)
theorem Zdw {n:Nat}{x:Str}(T:Top X.K X.mg fs zs gs f fd) (h:All X.prog X.w X.K X.mg X.base fs F f fd d) (hr:Room d X.A) (ha:Bx (Sd.CA X (λ_ _=>False) (Ev.ZH F d) (e::es) is)) (hx:(fs[n]?).map FR.x=some x) (hg:Gl X x) (hdb:(x == ("__debug__" : Str))=false)
  (he:starEach (e::es) X.env=(false,eval e X.env)::starEach es X.env) (hpl:(backTo pos (starEach es X.env)).any (·.1)=false):Bx (Sd.CE X (λ_ _=>False) (Ev.ZH F d) (.Call (.Name x p) (e::es) [] pos) (.call n is)):=by
 cases e0:fs[n]? with
 |none=>rw[e0] at hx;cases hx
 |some r=>
  rw[e0] at hx;obtain rfl:r.x=x:=Pb hx;exact⟨Sd.ZaE (h n r e0) hr (T.m n r e0) (T.d n r e0).kp (T.b n r e0) ha.h hg hdb he hpl⟩
theorem ZdF {n:Int}{x:Str}(T:Top X.K X.mg fs zs gs f fd) (h:gs.contains (x,.int n)=true) (hg:Gl X x) (hd:(x == ("__debug__" : Str))=false):Bx (Sd.CE X xw C (.Name x p) (.c (.int n))):=by
 obtain⟨t,e⟩:=T.g (x,.int n) (by simpa using h)
 exact⟨Sd.ZaO e hg hd⟩
theorem Zdh {tb:List (Int×Int)}{x:Str}(T:Top X.K X.mg fs zs gs f fd) (ha:Bx (Sd.CE X xw C a i)) (h:gs.contains (x,.tab tb)=true) (hg:Gl X x) (hd:(x == ("__debug__" : Str))=false) (hmk:behindInMarks .In (.Name x p)=false):Bx (Sd.CE X xw C (.Compare a [.In] [.Name x p] pos) (.inT i tb)):=by
 obtain⟨t,k,e⟩:=T.g (x,.tab tb) (by simpa using h)
 exact⟨Sd.Zcq (k _ _) e ha.h hg hd hmk⟩
noncomputable def csB (sc:Scope) (N0:List Str) (scope:Scope) (N:List Str) (cap:List Nat) (nl:Nat):Bool:=
 ((N.take nl).all (λx=>decide (scope.names.lookup x=some .local))&&(decide (N.length=nl+cap.length)&&(cap.zipIdx.all (λp=>decide (N[nl+p.2]? = N0[p.1]?)&&decide ((N0[p.1]?).map (λx=>decide ((x,NameKind.free)∈scope.names))=some true)) &&
  ((match scope.kind with | .function=>true | _=>false)&&scope.names.all λy=>decide (y.2≠.cell)&&((!decide (y.2=.local)||decide (scope.names.lookup y.1=some .local))&&(!decide (y.2=.free)||((decide (sc.names.lookup y.1=some .cell)||decide (sc.names.lookup y.1=some .free))&&decide (scope.names.lookup y.1≠some .local))))))))
theorem Zw {sc:Scope}{N0:List Str}{scope:Scope}{N:List Str}{cap:List Nat}{nl:Nat}(h:csB sc N0 scope N cap nl=true):CompScope sc N0 scope N cap nl:=by
 unfold csB at h;simp only[Pp,Bool.or_eq_true,Bool.not_eq_true',Nz,decide_eq_false_iff_not,Pw] at h;obtain⟨_,h1,h2,h3,h4⟩:=h;refine⟨?_,λy hy=>(h4 y hy).1,λy hy z=>?_,λy hy z=>?_,λy hy z=>?_,h1,h2⟩
 ·cases e:scope.kind <;> rw[e] at h3 <;> first | rfl | cases h3
 ·rcases (h4 y hy).2.1 with q | q
  ·exact absurd z q
  ·exact q
 ·rcases (h4 y hy).2.2 with q | q
  ·exact absurd z q
  ·exact q.1
 ·rcases (h4 y hy).2.2 with q | q
  ·exact absurd z q
  ·exact q.2
end
end Gn
namespace Pv
open Ev
open PySem (Str)
inductive V where
 |non | bl (b:Bool) | int (i:Int) | str (x:Str) | tup (xs:List V) | lst (xs:List V) | drw
 deriving Inhabited
noncomputable abbrev DS:=Int×Bool
inductive PR (α:Type) where
 |ok (a:α) (s:DS) | ex (c:Nat) (s:DS) | no
noncomputable def PR.bind {α β:Type} (r:PR α) (f:α->DS->PR β):PR β:=match r with
 |.ok a s=>f a s
 |.ex c s=>.ex c s
 |.no=>.no
noncomputable def po {α:Type} (o:Option α) (s:DS):PR α:=match o with
 |some a=>.ok a s
 |none=>.no
noncomputable abbrev Env:=List (Option V)
mutual
noncomputable def V.flat:V->Bool
 |.tup xs=>ZB xs
 |.lst _=>false
 |.drw=>false
 |_=>true
noncomputable def ZB:List V->Bool
 |[]=>true
 |x::xs=>x.flat&&ZB xs
end
mutual
noncomputable def toD:V->D
 |.non=>.non
 |.bl b=>.bl b
 |.int i=>.int i
 |.str x=>.str x
 |.tup xs=>.tup (YG xs)
 |_=>.non
noncomputable def YG:List V->List D
 |[]=>[]
 |x::xs=>toD x::YG xs
end
mutual
noncomputable def ofD:D->Option V
 |.non=>some .non
 |.bl b=>some (.bl b)
 |.int i=>some (.int i)
 |.str x=>some (.str x)
 |.tup xs=>(vB xs).map .tup
 |_=>none
noncomputable def vB:List D->Option (List V)
 |[]=>some []
 |x::xs=>match ofD x,vB xs with
  |some a,some b=>some (a::b)
  |_,_=>none
end
noncomputable def Z6:V->Option Bool
 |.non=>some false
 |.bl b=>some b
 |.int i=>some (decide (i≠0))
 |.tup xs=>some (!xs.isEmpty)
 |.lst xs=>some (!xs.isEmpty)
 |_=>none
noncomputable def Vk (f:V->V->Option Bool):List V->List V->Option Bool
 |[],[]=>some true
 |x::xs,y::ys=>match f x y,Vk f xs ys with
  |some a,some b=>some (a&&b)
  |_,_=>none
 |_,_=>some false
noncomputable def eqV:Nat->V->V->Option Bool
 |0,_,_=>none
 |k+1,x,y=>match x,y with
  |.non,.non=>some true
  |.bl a,.bl b=>some (decide (a=b))
  |.int a,.int b=>some (decide (a=b))
  |.bl a,.int b=>some (decide (b2i a=b))
  |.int a,.bl b=>some (decide (a=b2i b))
  |.str a,.str b=>some (decide (a=b))
  |.tup xs,.tup ys=>Vk (eqV k) xs ys
  |.lst xs,.lst ys=>if xs.length=ys.length then Vk (eqV k) xs ys else some false
  |.non,.bl _ | .non,.int _ | .non,.str _ | .bl _,.non | .int _,.non | .str _,.non=>some false
  |.bl _,.str _ | .int _,.str _ | .str _,.bl _ | .str _,.int _=>some false
  |_,_=>none
noncomputable def QU (x:V):List V->Option Bool
 |[]=>some false
 |y::ys=>match eqV Zo y x,QU x ys with
  |some a,some b=>some (a||b)
  |_,_=>none
noncomputable def GU:V->Ty->Option Bool
 |.non,_=>some false
 |.bl _,t=>some (decide (t=.bool\/t=.int))
 |.int _,t=>some (decide (t=.int))
 |.str _,t=>some (decide (t=.str))
 |.tup _,t=>some (decide (t=.tuple))
 |.lst _,t=>some (decide (t=.list))
 |_,_=>none
noncomputable def XX (x:V):List Ty->Option Bool
 |[]=>some false
 |t::ts=>match GU x t with
  |some true=>some true
  |some false=>XX x ts
  |none=>none
noncomputable def Xk (xs:List V) (lo hi:Option Int):List V:=(xs.drop (sIx xs.length 0 lo)).take (sIx xs.length xs.length hi-sIx xs.length 0 lo)
noncomputable def Ut (op:Bop) (x y:V) (s:DS):PR V:=match op,x,y with
 |.add,.int a,.int b=>.ok (.int (a+b)) s
 |.sub,.int a,.int b=>.ok (.int (a-b)) s
 |.mul,.int a,.int b=>if (fits a&&fits b)=true then .ok (.int (a*b)) s else .no
 |.fdiv,.int a,.int b=>if 0<b/\b<1073741824 then .ok (.int (a / b)) s else .no
 |.mod,.int a,.int b=>if 0<b then .ok (.int (a%b)) s else .no
 |.pow,.int a,.int b=>if 0<=b/\b<=1000/\a.natAbs<2^64 then .ok (.int (a^b.toNat)) s else .no
 |.add,.tup a,.tup b=>if a.length+b.length<=lim then .ok (.tup (a++b)) s else .no
 |.mul,.tup a,.int b=>if 0<=b/\b<1000/\a.length<=1000 then .ok (.tup (List.replicate b.toNat a).flatten) s else .no
 |.mul,.lst a,.int b=>if 0<=b/\b<1000/\a.length<=1000 then .ok (.lst (List.replicate b.toNat a).flatten) s else .no
 |.add,.lst a,.lst b=>if a.length+b.length<=lim then .ok (.lst (a++b)) s else .no
 |_,_,_=>.no
noncomputable def yW (op:Bop) (x y:V) (s:DS):PR V:=match x,y with
 |.int _,.int _=>Ut op x y s
 |_,_=>.no
noncomputable def Wk (x y:V):Option Bool:=match y with
 |.tup ys=>QU x ys
 |.lst ys=>QU x ys
 |_=>none
noncomputable def XI:V->Bool
 |.non=>true
 |_=>false
noncomputable def intsV:List V->Option (List Int)
 |[]=>some []
 |.int i::r=>(intsV r).map (i :: ·)
 |_::_=>none
noncomputable def Ze (r:List Int):V:=.tup (r.map .int)
noncomputable def W6:List V->Option (List (List Int))
 |[]=>some []
 |.tup x::r=>match intsV x,W6 r with
  |some a,some b=>some (a::b)
  |_,_=>none
 |_::_=>none
noncomputable def Wv (op:Cop) (x y:V):Option V:=match op with
 |.eq=>(eqV Zo x y).map .bl
 |.ne=>(eqV Zo x y).map λb=>.bl !b
 |.lt=>match x,y with
  |.int a,.int b=>some (.bl (decide (a<b)))
  |_,_=>none
 |.gt=>match x,y with
  |.int a,.int b=>some (.bl (decide (b<a)))
  |_,_=>none
 |.le=>match x,y with
  |.int a,.int b=>some (.bl (decide (a<=b)))
  |_,_=>none
 |.ge=>match x,y with
  |.int a,.int b=>some (.bl (decide (b<=a)))
  |_,_=>none
 |.is=>match x,y with
  |_,.non=>some (.bl (XI x))
  |.bl a,.bl b=>some (.bl (decide (a=b)))
  |_,_=>none
 |.isn=>match x,y with
  |_,.non=>some (.bl !(XI x))
  |.bl a,.bl b=>some (.bl (decide (a≠b)))
  |_,_=>none
 |.inn=>(Wk x y).map .bl
 |.nin=>(Wk x y).map λb=>.bl !b
noncomputable def ixV (x y:V):Option V:=match x,y with
 |.tup xs,.int i=>at' xs i
 |.lst xs,.int i=>at' xs i
 |_,_=>none
noncomputable def slV (x:V) (lo hi:Option Int):Option V:=match x with
 |.tup xs=>some (.tup (Xk xs lo hi))
 |.lst xs=>some (.lst (Xk xs lo hi))
 |_=>none
noncomputable def Zd7:V->Option V
 |.tup xs=>some (.tup xs.reverse)
 |_=>none
noncomputable def JR:V->Option Bool
 |.non=>some false
 |.bl b=>some b
 |.int i=>some (decide (i≠0))
 |_=>none
noncomputable def Z3:List V->Option (List Bool)
 |[]=>some []
 |x::xs=>match JR x,Z3 xs with
  |some b,some bs=>some (b::bs)
  |_,_=>none
noncomputable def Za (P:List (List Int)):V:=.tup (P.map Ze)
noncomputable def Z5:V->Option (List V)
 |.tup xs=>some xs
 |.lst xs=>some xs
 |_=>none
noncomputable def Yj (lo:Int) (n:Nat):List V:=(List.range n).map λ(k:Nat)=>.int (lo+(k:Int))
noncomputable def QB (f:Bf) (as:List V):Option V:=match f,as with
 |.len,[x]=>(Z5 x).map λxs=>.int xs.length
 |.max2,[.int a,.int b]=>some (.int (if b>a then b else a))
 |.min2,[.int a,.int b]=>some (.int (if b<a then b else a))
 |.toInt,[.int a]=>some (.int a)
 |.toInt,[.bl b]=>some (.int (b2i b))
 |.tuple,[x]=>(Z5 x).map .tup
 |.list,[x]=>(Z5 x).map .lst
 |.all,[.lst xs]=>(Z3 xs).map λbs=>.bl (bs.all id)
 |.any,[x]=>(Z5 x).bind λxs=>(Z3 xs).map λbs=>.bl (bs.any id)
 |.sum,[.lst xs]=>(intsV xs).bind λis=>if Xc is=true then some (.int is.sum) else none
 |.sortedR,[.lst xs]=>(W6 xs).bind λrs=>if YX rs=true then some (.lst ((ZS rs).reverse.map Ze)) else none
 |.rangeT,[.int i]=>if few i then some (.tup (Yj 0 i.toNat)) else none
 |_,_=>none
noncomputable def YS:List Nat->List V->Env->Option Env
 |[],[],ρ=>some ρ
 |i::t,x::xs,ρ=>YS t xs (ρ.set i (some x))
 |_,_,_=>none
noncomputable def Zs (t:List Nat) (x:V) (ρ:Env):Option Env:=match t with
 |[i]=>some (ρ.set i (some x))
 |t=>match Z5 x with
  |some xs=>YS t xs ρ
  |none=>none
noncomputable abbrev Zu:=Nat->List V->DS->PR V
noncomputable def Z9 (cap:List Nat) (nl:Nat) (ρ:Env):Env:=List.replicate nl none++cap.map λi=>(ρ[i]?).join
noncomputable def mapP (f:V->DS->PR (List V)):List V->DS->PR (List V)
 |[],s=>.ok [] s
 |x::xs,s=>match f x s with
  |.ok ys s=>match mapP f xs s with
   |.ok zs s=>.ok (ys++zs) s
   |_=>.no
  |_=>.no
noncomputable def own (nl:Nat) (t:List Nat):Bool:=t.all λi=>decide (i<nl)
noncomputable def own2 (nl:Nat) (t u:List Nat):Bool:=own nl t&&u.all λi=>decide (i<nl) && !t.contains i
mutual
noncomputable def pv (C:Zu):E->Env->DS->PR V
 |.c d,_,s=>po (ofD d) s
 |.v i,ρ,s=>po (ρ[i]?).join s
 |.tup es,ρ,s=>(pvs C es ρ s).bind λxs s=>if xs.length<=lim then .ok (.tup xs) s else .no
 |.lst es,ρ,s=>(pvs C es ρ s).bind λxs s=>if xs.length<=lim then .ok (.lst xs) s else .no
 |.bin op a b,ρ,s=>(pv C a ρ s).bind λx s=>(pv C b ρ s).bind λy s=>Ut op x y s
 |.neg a,ρ,s=>(pv C a ρ s).bind λx s=>match x with
  |.int i=>.ok (.int (-i)) s
  |_=>.no
 |.not a,ρ,s=>(pv C a ρ s).bind λx s=>(po (Z6 x) s).bind λb s=>.ok (.bl !b) s
 |.and a b,ρ,s=>(pv C a ρ s).bind λx s=>match x with
  |.bl c=>if c then pv C b ρ s else .ok (.bl false) s
  |_=>.no
 |.or a b,ρ,s=>(pv C a ρ s).bind λx s=>match x with
  |.bl c=>if c then .ok (.bl true) s else pv C b ρ s
  |_=>.no
 |.ite t a b,ρ,s=>(pv C t ρ s).bind λx s=>(po (Z6 x) s).bind λc s=>if c then pv C a ρ s else pv C b ρ s
 |.cmp op a b,ρ,s=>(pv C a ρ s).bind λx s=>(pv C b ρ s).bind λy s=>po (Wv op x y) s
 |.chain o p a b d,ρ,s=>(pv C a ρ s).bind λx s=>(pv C b ρ s).bind λy s=>(po (Wv o x y) s).bind λz s=>match z with
  |.bl c=>if c then (pv C d ρ s).bind λw s=>po (Wv p y w) s else .ok (.bl false) s
  |_=>.no
 |.ix a i,ρ,s=>(pv C a ρ s).bind λx s=>(pv C i ρ s).bind λy s=>po (ixV x y) s
 |.sl a lo hi,ρ,s=>(pv C a ρ s).bind λx s=>(pvo C lo ρ s).bind λl s=>(pvo C hi ρ s).bind λh s=>po (slV x l h) s
 |.rev a,ρ,s=>(pv C a ρ s).bind λx s=>po (Zd7 x) s
 |.call f as,ρ,s=>(pvs C as ρ s).bind λxs s=>C f xs s
 |.blt f as,ρ,s=>(pvs C as ρ s).bind λxs s=>po (QB f xs) s
 |.mt _ _ _,_,_=>.no
 |.isi a ts,ρ,s=>(pv C a ρ s).bind λx s=>(po (XX x ts) s).bind λb s=>.ok (.bl b) s
 |.inT a tab,ρ,s=>(pv C a ρ s).bind λx s=>match x with
  |.int i=>.ok (.bl ((tab.map (·.1)).contains i)) s
  |_=>.no
 |.comp1 cap nl t it ifs elt,ρ,s=>if own nl t=true then (pvw C it ρ s).bind λw s=>
   (mapP (λx s=>(po (Zs t x (Z9 cap nl ρ)) s).bind λσ s=>(pvt C ifs σ s).bind λb s=>if b then (pv C elt σ s).bind λy s=>.ok [y] s else .ok [] s) w s).bind
    λys s=>if ys.length<=lim then .ok (.lst ys) s else .no
  else .no
 |.comp2 cap nl t it ifs u jt jfs elt,ρ,s=>if own2 nl t u=true then (pvw C it ρ s).bind λw s=>
   (mapP (λx s=>(po (Zs t x (Z9 cap nl ρ)) s).bind λσ s=>(pvt C ifs σ s).bind λb s=>if b then
    (pvw C jt σ s).bind λw2 s=>mapP (λx s=>(po (Zs u x σ) s).bind λσ s=>(pvt C jfs σ s).bind λb s=>if b then (pv C elt σ s).bind λy s=>.ok [y] s else .ok [] s) w2 s
    else .ok [] s) w s).bind
    λys s=>if ys.length<=lim then .ok (.lst ys) s else .no
  else .no
noncomputable def pvs (C:Zu):List E->Env->DS->PR (List V)
 |[],_,s=>.ok [] s
 |e::es,ρ,s=>(pv C e ρ s).bind λx s=>(pvs C es ρ s).bind λxs s=>.ok (x::xs) s
noncomputable def pvo (C:Zu):Option E->Env->DS->PR (Option Int)
 |none,_,s=>.ok none s
 |some e,ρ,s=>(pv C e ρ s).bind λx s=>match x with
  |.int i=>.ok (some i) s
  |_=>.no
noncomputable def pvt (C:Zu):List E->Env->DS->PR Bool
 |[],_,s=>.ok true s
 |e::es,ρ,s=>(pv C e ρ s).bind λx s=>(po (Z6 x) s).bind λb s=>if b then pvt C es ρ s else .ok false s
noncomputable def pvw (C:Zu):W->Env->DS->PR (List V)
 |.rng1 a,ρ,s=>(pv C a ρ s).bind λx s=>match x with
  |.int i=>if small i then .ok (Yj 0 i.toNat) s else .no
  |_=>.no
 |.rng2 a b,ρ,s=>(pv C a ρ s).bind λx s=>(pv C b ρ s).bind λy s=>match x,y with
  |.int i,.int j=>if (small i&&small j)=true then .ok (Yj i (j-i).toNat) s else .no
  |_,_=>.no
 |.rrng a b,ρ,s=>(pv C a ρ s).bind λx s=>(pv C b ρ s).bind λy s=>match x,y with
  |.int i,.int j=>if (small i&&small j)=true then .ok (Yj i (j-i).toNat).reverse s else .no
  |_,_=>.no
 |.rtup a,ρ,s=>(pv C a ρ s).bind λx s=>match x with
  |.tup xs=>.ok xs.reverse s
  |_=>.no
 |.zip a b,ρ,s=>(pv C a ρ s).bind λx s=>(pv C b ρ s).bind λy s=>match Z5 x,Z5 y with
  |some v,some w=>.ok ((v.zip w).map λp=>.tup [p.1,p.2]) s
  |_,_=>.no
 |.enum a,ρ,s=>(pv C a ρ s).bind λx s=>match Z5 x with
  |some w=>.ok (((Yj 0 w.length).zip w).map λp=>.tup [p.1,p.2]) s
  |none=>.no
 |.of e,ρ,s=>(pv C e ρ s).bind λx s=>po (Z5 x) s
end
inductive FlV where | nx (ρ:Env) (os:List Nat) | ret (v:V) | brk (ρ:Env) (os:List Nat) | cnt (ρ:Env) (os:List Nat)
noncomputable def hide (os:List Nat) (ρ:Env):Env:=ρ.mapIdx λi o=>if os.contains i then none else o
noncomputable def fresh:E->Bool
 |.lst _=>true
 |.comp1 .. => true
 |.comp2 .. => true
 |.bin .mul (.lst _) _=>true
 |.blt .list _=>true
 |_=>false
noncomputable def pvA (C:Zu) (e:E) (ρ:Env) (os:List Nat) (s:DS):PR V:=match os with
 |[]=>pv C e ρ s
 |os=>match pv C e (hide os ρ) s with
  |.ok v s=>.ok v s
  |.ex c s=>.ex c s
  |.no=>(pv C e ρ s).bind λv s=>if v.flat then .ok v s else .no
noncomputable def Zds (C:Zu) (es:List E) (ρ:Env) (os:List Nat) (s:DS):PR (List V):=match os with
 |[]=>pvs C es ρ s
 |_=>(pvs C es ρ s).bind λv s=>if ZB v then .ok v s else .no
noncomputable def V2 (C:Zu) (e:E) (ρ:Env) (s:DS):PR Bool:=(pv C e ρ s).bind λx s=>po (Z6 x) s
noncomputable def VI (body:V->Env->List Nat->DS->PR FlV):List V->Env->List Nat->DS->PR FlV
 |[],ρ,os,s=>.ok (.nx ρ os) s
 |x::xs,ρ,os,s=>(body x ρ os s).bind λf s=>match f with
  |.nx ρ os=>VI body xs ρ os s
  |.cnt ρ os=>VI body xs ρ os s
  |.brk ρ os=>.ok (.nx ρ os) s
  |.ret v=>.ok (.ret v) s
noncomputable def XA (test:Env->DS->PR Bool) (body:Env->List Nat->DS->PR FlV):Nat->Env->List Nat->DS->PR FlV
 |0,_,_,_=>.no
 |n+1,ρ,os,s=>(test ρ s).bind λb s=>if b then (body ρ os s).bind λf s=>match f with
  |.nx ρ os=>XA test body n ρ os s
  |.cnt ρ os=>XA test body n ρ os s
  |.brk ρ os=>.ok (.nx ρ os) s
  |.ret v=>.ok (.ret v) s
  else .ok (.nx ρ os) s
noncomputable def W3:Option (Option V)->Option (List V)
 |some (some (.lst xs))=>some xs
 |_=>none
mutual
noncomputable def rv (C:Zu) (ms:List Nat):Sm->Env->List Nat->DS->PR FlV
 |.asg [i] e,ρ,os,s=>(pvA C e ρ os s).bind λv s=>if (ms.contains i&&fresh e)=true then match v with
   |.lst xs=>if ZB xs=true/\i<ρ.length then .ok (.nx (ρ.set i (some v)) (i::os.filter (· != i))) s else .no
   |_=>.no
  else .ok (.nx (ρ.set i (some v)) (os.filter (· != i))) s
 |.asg t e,ρ,os,s=>(pvA C e ρ os s).bind λv s=>if (t.any os.contains)=true then .no else (po (Zs t v ρ) s).bind λρ s=>.ok (.nx ρ os) s
 |.par t es,ρ,os,s=>(Zds C es ρ os s).bind λvs s=>if (t.any os.contains)=true then .no else (po (YS t vs ρ) s).bind λρ s=>.ok (.nx ρ os) s
 |.aug i op e,ρ,os,s=>if os.contains i then .no else (po (ρ[i]?).join s).bind λx s=>(pv C e ρ s).bind λy s=>(yW op x y s).bind λz s=>.ok (.nx (ρ.set i (some z)) os) s
 |.put (.v i) k e,ρ,os,s=>if os.contains i then (pv C e ρ s).bind λv s=>if v.flat then (po (W3 ρ[i]?) s).bind λxs s=>(pv C k ρ s).bind λy s=>match y with
   |.int n=>(po (ixN xs.length n) s).bind λj s=>.ok (.nx (ρ.set i (some (.lst (xs.set j v)))) os) s
   |_=>.no
  else .no else .no
 |.put _ _ _,_,_,_=>.no
 |.ret e,ρ,os,s=>(pv C e ρ s).bind λv s=>.ok (.ret v) s
 |.ex (.mt .append (.v i) [e]),ρ,os,s=>if os.contains i then (po (W3 ρ[i]?) s).bind λxs s=>(pv C e ρ s).bind λv s=>if v.flat=true/\xs.length<lim then .ok (.nx (ρ.set i (some (.lst (xs++[v])))) os) s else .no else .no
 |.ex (.mt .extend (.v i) [e]),ρ,os,s=>if os.contains i then (po (W3 ρ[i]?) s).bind λxs s=>(pv C e (hide os ρ) s).bind λv s=>match v with
   |.lst ys=>if ZB ys=true/\xs.length+ys.length<=lim then .ok (.nx (ρ.set i (some (.lst (xs++ys)))) os) s else .no
   |_=>.no
  else .no
 |.ex e,ρ,os,s=>(pv C e ρ s).bind λ_ s=>.ok (.nx ρ os) s
 |.ite t a b,ρ,os,s=>(V2 C t ρ s).bind λc s=>if c then rvs C ms a ρ os s else rvs C ms b ρ os s
 |.forr t it b,ρ,os,s=>(pvw C it (hide os ρ) s).bind λw s=>VI (λx ρ os s=>if (t.any os.contains)=true then .no else if (os.isEmpty||x.flat)=true then (po (Zs t x ρ) s).bind λρ s=>rvs C ms b ρ os s else .no) w ρ os s
 |.whl t b,ρ,os,s=>XA (V2 C t) (rvs C ms b) Vw ρ os s
 |.raise c as,ρ,os,s=>(pvs C as ρ s).bind λ_ s=>.ex c s
 |.pas,ρ,os,s=>.ok (.nx ρ os) s
 |.brk,ρ,os,s=>.ok (.brk ρ os) s
 |.cnt,ρ,os,s=>.ok (.cnt ρ os) s
noncomputable def rvs (C:Zu) (ms:List Nat):List Sm->Env->List Nat->DS->PR FlV
 |[],ρ,os,s=>.ok (.nx ρ os) s
 |m::ss,ρ,os,s=>(rv C ms m ρ os s).bind λf s=>match f with
  |.nx ρ os=>rvs C ms ss ρ os s
  |f=>.ok f s
end
mutual
noncomputable def Zc9:Sm->List Nat
 |.put (.v i) _ _=>[i]
 |.ex (.mt .append (.v i) _)=>[i]
 |.ex (.mt .extend (.v i) _)=>[i]
 |.ite _ a b=>muts a++muts b
 |.forr _ _ b=>muts b
 |.whl _ b=>muts b
 |_=>[]
noncomputable def muts:List Sm->List Nat
 |[]=>[]
 |m::ss=>Zc9 m++muts ss
end
noncomputable def XR (n:Nat) (xs:List V):Env:=xs.map some++List.replicate (n-xs.length) none
noncomputable def YC (s:DS) (m:Int):Int×DS:=
 if s.2 then (s.1%m,(s.1 / m,true)) else
  let x:=(s.1*48271+29)%2147483647
  let y:=(x*x+39373*x+7)%2147483629
  let z:=(y*y+16807*y)%2147483587
  (z / 8%m,(x,false))
noncomputable def v3 (vs:List V) (s:DS):PR V:=match vs with
 |[.drw,.int m]=>if 0<m/\m<1073741824 then .ok (.int (YC s m).1) (YC s m).2 else .no
 |_=>.no
noncomputable def ZT (F:List Fn) (tk:Nat):Nat->Zu
 |0,_,_,_=>.no
 |d+1,f,xs,s=>if f=tk then v3 xs s else match F[f]? with
  |some fn=>if xs.length=fn.ps then (rvs (ZT F tk d) (muts fn.body) fn.body (XR fn.ns xs) [] s).bind λf s=>match f with
    |.ret v=>.ok v s
    |.nx _ _=>.ok .non s
    |_=>.no
   else .no
  |none=>.no
end Pv
namespace Pv
open Ev
mutual
def Rep (S:Zc) (X:Nat->Prop) (n0:Nat):V->D->Prop
 |.non,d=>d=.non
 |.bl b,d=>d=.bl b
 |.int i,d=>d=.int i
 |.str x,d=>d=.str x
 |.tup vs,d=>∃ds,d=.tup ds/\Rq S X n0 vs ds
 |.lst vs,d=>∃n ds,d=.loc n/\S[n]? = some (.lst ds)/\¬X n/\Rq S X n0 vs ds
 |.drw,d=>d=.loc n0
def Rq (S:Zc) (X:Nat->Prop) (n0:Nat):List V->List D->Prop
 |[],ds=>ds=[]
 |v::vs,ds=>∃d es,ds=d::es/\Rep S X n0 v d/\Rq S X n0 vs es
end
section
variable {S S':Zc}{X X':Nat->Prop}{n0:Nat}
theorem Xw {n:Nat}{o:Ob}(h:S[n]? = some o):n<S.length:=(Pr.mp h).1
mutual
theorem Rep.mono (k:∀n o,¬X n->S[n]? = some o->S'[n]? = some o) (x:∀n,n<S.length->X' n->X n):∀{v:V}{d:D},Rep S X n0 v d->Rep S' X' n0 v d
 |.non,_,h | .bl _,_,h | .int _,_,h | .str _,_,h | .drw,_,h=>by unfold Rep at h ⊢;exact h
 |.tup vs,d,h=>by
  unfold Rep at h ⊢;obtain⟨ds,e,r⟩:=h;exact⟨ds,e,Rq.mono k x r⟩
 |.lst vs,d,h=>by
  unfold Rep at h ⊢;obtain⟨n,ds,e,hs,hx,r⟩:=h;exact⟨n,ds,e,k n _ hx hs,λz=>hx (x n (Xw hs) z),Rq.mono k x r⟩
theorem Rq.mono (k:∀n o,¬X n->S[n]? = some o->S'[n]? = some o) (x:∀n,n<S.length->X' n->X n):∀{vs:List V}{ds:List D},Rq S X n0 vs ds->Rq S' X' n0 vs ds
 |[],_,h=>by unfold Rq at h ⊢;exact h
 |v::vs,ds,h=>by
  unfold Rq at h ⊢;obtain⟨d,es,e,r,rs⟩:=h;exact⟨d,es,e,Rep.mono k x r,Rq.mono k x rs⟩
end
theorem Rq.nil:Rq S X n0 [] []:=by unfold Rq;rfl
theorem Rq.cons {v:V}{d:D}{vs:List V}{ds:List D}(r:Rep S X n0 v d) (rs:Rq S X n0 vs ds):Rq S X n0 (v::vs) (d::ds):=by unfold Rq;exact⟨d,ds,rfl,r,rs⟩
theorem Rq.nil' {ds:List D}(h:Rq S X n0 [] ds):ds=[]:=by unfold Rq at h;exact h
theorem Rq.cons' {v:V}{vs:List V}{ds:List D}(h:Rq S X n0 (v::vs) ds):∃d es,ds=d::es/\Rep S X n0 v d/\Rq S X n0 vs es:=by unfold Rq at h;exact h
theorem Rq.length:∀{vs:List V}{ds:List D},Rq S X n0 vs ds->ds.length=vs.length
 |[],_,h=>by rw[h.nil'];rfl
 |v::vs,_,h=>by obtain⟨d,es,rfl,_,t⟩:=h.cons';rw[PC,PC,Rq.length t]
theorem Rq.append:∀{vs ws:List V}{ds es:List D},Rq S X n0 vs ds->Rq S X n0 ws es->Rq S X n0 (vs++ws) (ds++es)
 |[],_,_,_,h,r=>by rw[h.nil'];exact r
 |v::vs,_,_,_,h,r=>by obtain⟨d,es,rfl,a,t⟩:=h.cons';exact Rq.cons a (Rq.append t r)
theorem Rq.take:∀{vs:List V}{ds:List D}(k:Nat),Rq S X n0 vs ds->Rq S X n0 (vs.take k) (ds.take k)
 |_,_,0,_=>Rq.nil
 |[],_,k+1,h=>by rw[h.nil'];exact Rq.nil
 |v::vs,_,k+1,h=>by obtain⟨d,es,rfl,a,t⟩:=h.cons';exact Rq.cons a (Rq.take k t)
theorem Rq.drop:∀{vs:List V}{ds:List D}(k:Nat),Rq S X n0 vs ds->Rq S X n0 (vs.drop k) (ds.drop k)
 |_,_,0,h=>h
 |[],_,k+1,h=>by rw[h.nil'];exact Rq.nil
 |v::vs,_,k+1,h=>by obtain⟨d,es,rfl,a,t⟩:=h.cons';exact Rq.drop k t
theorem Rq.get:∀{vs:List V}{ds:List D}{i:Nat}{v:V},Rq S X n0 vs ds->vs[i]? = some v->∃d,ds[i]? = some d/\Rep S X n0 v d
 |[],_,_,_,_,e=>by simp at e
 |v::vs,_,0,_,h,e=>by
  obtain⟨d,es,rfl,a,t⟩:=h.cons';simp at e;subst e;exact⟨d,rfl,a⟩
 |v::vs,_,i+1,_,h,e=>by
  obtain⟨d,es,rfl,a,t⟩:=h.cons';obtain⟨u,q,r⟩:=Rq.get (i:=i) t (by simpa using e)
  exact⟨u,by simpa using q,r⟩
theorem Rq.reverse:∀{vs:List V}{ds:List D},Rq S X n0 vs ds->Rq S X n0 vs.reverse ds.reverse
 |[],_,h=>by rw[h.nil'];exact Rq.nil
 |v::vs,_,h=>by
  obtain⟨d,es,rfl,a,t⟩:=h.cons';rw[NE,NE];exact Rq.append (Rq.reverse t) (Rq.cons a Rq.nil)
theorem Rq.rep {vs:List V}{ds:List D}(h:Rq S X n0 vs ds):∀k:Nat,Rq S X n0 (List.replicate k vs).flatten (List.replicate k ds).flatten
 |0=>Rq.nil
 |k+1=>by rw[P5,P5,Ng,Ng];exact Rq.append h (Rq.rep h k)
theorem Rq.empty:∀{vs:List V}{ds:List D},Rq S X n0 vs ds->ds.isEmpty=vs.isEmpty
 |[],_,h=>by rw[h.nil'];rfl
 |v::vs,_,h=>by obtain⟨d,es,rfl,_,_⟩:=h.cons';rfl
mutual
theorem Wh:∀{v:V}{d:D},v.flat=true->Rep S X n0 v d->d=toD v
 |.non,_,_,h | .bl _,_,_,h | .int _,_,_,h | .str _,_,_,h=>by unfold Rep at h;exact h
 |.tup vs,d,hf,h=>by
  unfold Rep at h;obtain⟨ds,rfl,r⟩:=h;exact congrArg D.tup (XG hf r)
 |.lst _,_,hf,_=>by cases hf
 |.drw,_,hf,_=>by cases hf
theorem XG:∀{vs:List V}{ds:List D},ZB vs=true->Rq S X n0 vs ds->ds=YG vs
 |[],_,_,h=>h.nil'
 |v::vs,_,hf,h=>by
  obtain⟨d,es,rfl,a,t⟩:=h.cons';unfold ZB at hf;obtain⟨h1,h2⟩:=(Pp _ _).mp hf;rw[Wh h1 a,XG h2 t];rfl
end
mutual
theorem Qc:∀{v:V},v.flat=true->Rep S X n0 v (toD v)
 |.non,_ | .bl _,_ | .int _,_ | .str _,_=>by unfold Rep;rfl
 |.tup vs,hf=>by unfold Rep;exact⟨YG vs,rfl,WA hf⟩
 |.lst _,hf=>by cases hf
 |.drw,hf=>by cases hf
theorem WA:∀{vs:List V},ZB vs=true->Rq S X n0 vs (YG vs)
 |[],_=>Rq.nil
 |v::vs,hf=>by
  unfold ZB at hf;obtain⟨h1,h2⟩:=(Pp _ _).mp hf;exact Rq.cons (Qc h1) (WA h2)
end
theorem Rep.int' {i:Int}{d:D}(h:Rep S X n0 (.int i) d):d=.int i:=by unfold Rep at h;exact h
theorem Rep.bl' {i:Bool}{d:D}(h:Rep S X n0 (.bl i) d):d=.bl i:=by unfold Rep at h;exact h
theorem Rep.non' {d:D}(h:Rep S X n0 .non d):d=.non:=by unfold Rep at h;exact h
theorem Rep.str' {x:PySem.Str}{d:D}(h:Rep S X n0 (.str x) d):d=.str x:=by unfold Rep at h;exact h
theorem Rep.tup' {vs:List V}{d:D}(h:Rep S X n0 (.tup vs) d):∃ds,d=.tup ds/\Rq S X n0 vs ds:=by unfold Rep at h;exact h
theorem Rep.lst' {vs:List V}{d:D}(h:Rep S X n0 (.lst vs) d):∃n ds,d=.loc n/\S[n]? = some (.lst ds)/\¬X n/\Rq S X n0 vs ds:=by unfold Rep at h;exact h
theorem Rep.drw' {d:D}(h:Rep S X n0 .drw d):d=.loc n0:=by unfold Rep at h;exact h
theorem Zp (i:Int):Rep S X n0 (.int i) (.int i):=by unfold Rep;rfl
theorem Zr (i:Bool):Rep S X n0 (.bl i) (.bl i):=by unfold Rep;rfl
theorem WC:Rep S X n0 .non .non:=by unfold Rep;rfl
theorem ZQ {vs:List V}{ds:List D}(h:Rq S X n0 vs ds):Rep S X n0 (.tup vs) (.tup ds):=by unfold Rep;exact⟨ds,rfl,h⟩
theorem GR {vs:List V}{n:Nat}{ds:List D}(hs:S[n]? = some (.lst ds)) (hx:¬X n) (h:Rq S X n0 vs ds):Rep S X n0 (.lst vs) (.loc n):=by unfold Rep;exact⟨n,ds,rfl,hs,hx,h⟩
theorem ZF {n:Nat}{ds:List D}(h:S[n]? = some (.lst ds)):Zj S n=some ds:=by unfold Zj;rw[h]
theorem Qr {n:Nat}{ds:List D}(h:S[n]? = some (.lst ds)):Z7 S n=some ds:=by unfold Z7;rw[h]
mutual
theorem wL:∀{d:D}{v:V},ofD d=some v->Rep S X n0 v d
 |.non,v,h | .bl _,v,h | .int _,v,h | .str _,v,h=>by cases h;unfold Rep;rfl
 |.tup ds,v,h=>by
  unfold ofD at h;cases q:vB ds with
  |none=>rw[q] at h;cases h
  |some vs=>rw[q] at h;cases h;exact ZQ (zf q)
 |.loc _,_,h=>by cases h
theorem zf:∀{ds:List D}{vs:List V},vB ds=some vs->Rq S X n0 vs ds
 |[],vs,h=>by cases h;exact Rq.nil
 |d::ds,vs,h=>by
  unfold vB at h;cases q:ofD d with
  |none=>rw[q] at h;cases h
  |some a=>
   cases q2:vB ds with
   |none=>rw[q,q2] at h;cases h
   |some b=>rw[q,q2] at h;cases h;exact Rq.cons (wL q) (zf q2)
end
theorem Xe {v:V}{d:D}{b:Bool}(r:Rep S X n0 v d) (h:Z6 v=some b):ZM S d=some b:=by
 cases v with
 |non=>cases r.non';exact h
 |bl x=>cases r.bl';exact h
 |int x=>cases r.int';exact h
 |str x=>cases h
 |drw=>cases h
 |tup vs=>
  obtain⟨ds,rfl,rs⟩:=r.tup';show some (!ds.isEmpty)=some b;rw[rs.empty];exact h
 |lst vs=>
  obtain⟨n,ds,rfl,hs,_,rs⟩:=r.lst';show (Z7 S n).map _=some b;rw[Qr hs];show some (!ds.isEmpty)=some b;rw[rs.empty];exact h
theorem yC {f:V->V->Option Bool}{g:D->D->Option Bool}(hf:∀v w d e b,Rep S X n0 v d->Rep S X n0 w e->f v w=some b->g d e=some b):∀{vs ws:List V}{ds es:List D}{b:Bool},Rq S X n0 vs ds->Rq S X n0 ws es->Vk f vs ws=some b->eqL g ds es=some b
 |[],[],_,_,b,h1,h2,h=>by rw[h1.nil',h2.nil'];exact h
 |[],w::ws,_,_,b,h1,h2,h=>by rw[h1.nil'];obtain⟨d,es,rfl,_,_⟩:=h2.cons';exact h
 |v::vs,[],_,_,b,h1,h2,h=>by rw[h2.nil'];obtain⟨d,es,rfl,_,_⟩:=h1.cons';exact h
 |v::vs,w::ws,_,_,b,h1,h2,h=>by
  obtain⟨d,ds,rfl,a1,t1⟩:=h1.cons';obtain⟨e,es,rfl,a2,t2⟩:=h2.cons';unfold Vk at h;cases q1:f v w with
  |none=>rw[q1] at h;cases h
  |some x=>
   cases q2:Vk f vs ws with
   |none=>rw[q1,q2] at h;cases h
   |some y=>
    rw[q1,q2] at h;unfold eqL;rw[hf v w d e x a1 a2 q1,yC hf t1 t2 q2];exact h
theorem Qp:∀(k:Nat) (v w:V) (d e:D) (b:Bool),Rep S X n0 v d->Rep S X n0 w e->eqV k v w=some b->eqD S k d e=some b
 |0,_,_,_,_,_,_,_,h=>by cases h
 |k+1,v,w,d,e,b,r1,r2,h=>by
  cases v with
  |tup vs=>cases w with
   |tup ws=>
    obtain⟨ds,rfl,t1⟩:=r1.tup';obtain⟨es,rfl,t2⟩:=r2.tup';exact yC (Qp k) t1 t2 h
   |_=>cases h
  |lst vs=>cases w with
   |lst ws=>
    obtain⟨m,ds,rfl,hs1,_,t1⟩:=r1.lst';obtain⟨n,es,rfl,hs2,_,t2⟩:=r2.lst';have h':(if vs.length=ws.length then Vk (eqV k) vs ws else some false)=some b:=h
    show (match Zj S m,Zj S n with
     |some xs,some ys=>if xs.length=ys.length then eqL (eqD S k) xs ys else some false
     |_,_=>none)=some b
    rw[ZF hs1,ZF hs2];show (if ds.length=es.length then eqL (eqD S k) ds es else some false)=some b
    rw[t1.length,t2.length];by_cases c:vs.length=ws.length
    ·rw[Ph c] at h' ⊢;exact yC (Qp k) t1 t2 h'
    ·rw[Pj c] at h' ⊢;exact h'
   |_=>cases h
  |drw=>cases w <;> cases h
  |non=>cases r1.non';cases w with
   |non=>cases r2.non';exact h
   |bl _=>cases r2.bl';exact h
   |int _=>cases r2.int';exact h
   |str _=>cases r2.str';exact h
   |_=>cases h
  |bl x=>cases r1.bl';cases w with
   |non=>cases r2.non';exact h
   |bl _=>cases r2.bl';exact h
   |int _=>cases r2.int';exact h
   |str _=>cases r2.str';exact h
   |_=>cases h
  |int x=>cases r1.int';cases w with
   |non=>cases r2.non';exact h
   |bl _=>cases r2.bl';exact h
   |int _=>cases r2.int';exact h
   |str _=>cases r2.str';exact h
   |_=>cases h
  |str x=>cases r1.str';cases w with
   |non=>cases r2.non';exact h
   |bl _=>cases r2.bl';exact h
   |int _=>cases r2.int';exact h
   |str _=>cases r2.str';exact h
   |_=>cases h
theorem yV {x:V}{dx:D}(rx:Rep S X n0 x dx):∀{vs:List V}{ds:List D}{b:Bool},Rq S X n0 vs ds->QU x vs=some b->inL S dx ds=some b
 |[],_,b,h,e=>by rw[h.nil'];exact e
 |v::vs,_,b,h,e=>by
  obtain⟨d,ds,rfl,a,t⟩:=h.cons';unfold QU at e;cases q1:eqV Zo v x with
  |none=>rw[q1] at e;cases e
  |some y=>
   cases q2:QU x vs with
   |none=>rw[q1,q2] at e;cases e
   |some z=>
    rw[q1,q2] at e;unfold inL;rw[Qp _ _ _ _ _ _ a rx q1,yV rx t q2];exact e
theorem jR {v:V}{d:D}{t:Ty}{b:Bool}(r:Rep S X n0 v d) (h:GU v t=some b):G8 S d t=some b:=by
 cases v with
 |non=>cases r.non';exact h
 |bl x=>cases r.bl';exact h
 |int x=>cases r.int';exact h
 |str x=>cases r.str';exact h
 |drw=>cases h
 |tup vs=>obtain⟨ds,rfl,rs⟩:=r.tup';exact h
 |lst vs=>
  obtain⟨n,ds,rfl,hs,_,rs⟩:=r.lst';show (match S[n]? with
   |some (.lst _)=>some (decide (t=.list))
   |_=>none)=some b
  rw[hs];exact h
theorem G4 {v:V}{d:D}(r:Rep S X n0 v d):∀{ts:List Ty}{b:Bool},XX v ts=some b->Qu S d ts=some b
 |[],b,h=>h
 |t::ts,b,h=>by
  unfold XX at h;unfold Qu;cases q:GU v t with
  |none=>rw[q] at h;cases h
  |some x=>
   rw[q] at h;rw[jR r q];cases x with
   |true=>exact h
   |false=>exact G4 r h
theorem Zbw {vs:List V}{ds:List D}{i:Int}{v:V}(r:Rq S X n0 vs ds) (h:at' vs i=some v):∃d,at' ds i=some d/\Rep S X n0 v d:=by
 unfold at' at h ⊢;rw[r.length];cases q:ixN vs.length i with
 |none=>rw[q] at h;cases h
 |some j=>rw[q] at h;exact r.get h
theorem qp {vs:List V}{ds:List D}{lo hi:Option Int}(r:Rq S X n0 vs ds):Rq S X n0 (Xk vs lo hi) (cut ds lo hi):=by
 unfold Xk cut;rw[r.length];exact (r.drop _).take _
theorem VU:∀{vs:List V}{ds:List D}{is:List Int},Rq S X n0 vs ds->intsV vs=some is->XC ds=some is/\U2 ds=some is
 |[],_,is,r,h=>by rw[r.nil'];cases h;exact⟨rfl,rfl⟩
 |v::vs,_,is,r,h=>by
  obtain⟨d,ds,rfl,a,t⟩:=r.cons';cases v with
  |int i=>
   cases a.int';have h':(intsV vs).map (i :: ·)=some is:=h
   cases q:intsV vs with
   |none=>rw[q] at h';cases h'
   |some js=>
    rw[q] at h';obtain⟨e1,e2⟩:=VU t q;refine⟨?_,?_⟩
    ·show (XC ds).map (i :: ·)=some is;rw[e1];exact h'
    ·show (U2 ds).map (i :: ·)=some is;rw[e2];exact h'
  |_=>cases h
theorem Jl:∀{vs:List V}{ds:List D}{rs:List (List Int)},Rq S X n0 vs ds->W6 vs=some rs->Y6 ds=some rs
 |[],_,rs,r,h=>by rw[r.nil'];cases h;rfl
 |v::vs,_,rs,r,h=>by
  obtain⟨d,ds,rfl,a,t⟩:=r.cons';cases v with
  |tup xs=>
   obtain⟨es,rfl,r2⟩:=a.tup';unfold W6 at h;cases q1:intsV xs with
   |none=>rw[q1] at h;cases h
   |some x=>
    cases q2:W6 vs with
    |none=>rw[q1,q2] at h;cases h
    |some y=>
     rw[q1,q2] at h;unfold Y6;have:Jh (.tup es)=some x:=(VU r2 q1).2;rw[this,Jl t q2];exact h
  |_=>cases h
theorem zc:∀(is:List Int),Rq S X n0 (is.map V.int) (is.map D.int)
 |[]=>Rq.nil
 |i::is=>Rq.cons (Zp i) (zc is)
theorem GZ:∀(rs:List (List Int)),Rq S X n0 (rs.map Ze) (rs.map V7)
 |[]=>Rq.nil
 |r::rs=>Rq.cons (ZQ (zc r)) (GZ rs)
theorem vp {v:V}{d:D}{b:Bool}(r:Rep S X n0 v d) (h:JR v=some b):U3 d=some b:=by
 cases v with
 |non=>cases r.non';exact h
 |bl x=>cases r.bl';exact h
 |int x=>cases r.int';exact h
 |_=>cases h
theorem V1:∀{vs:List V}{ds:List D}{bs:List Bool},Rq S X n0 vs ds->Z3 vs=some bs->YW ds=some bs
 |[],_,bs,r,h=>by rw[r.nil'];exact h
 |v::vs,_,bs,r,h=>by
  obtain⟨d,ds,rfl,a,t⟩:=r.cons';unfold Z3 at h;cases q1:JR v with
  |none=>rw[q1] at h;cases h
  |some x=>
   cases q2:Z3 vs with
   |none=>rw[q1,q2] at h;cases h
   |some y=>
    rw[q1,q2] at h;unfold YW;rw[vp a q1,V1 t q2];exact h
theorem ym {v:V}{d:D}{vs:List V}(r:Rep S X n0 v d) (h:Z5 v=some vs):∃ds,Xu S d=some ds/\Rq S X n0 vs ds:=by
 cases v with
 |tup xs=>obtain⟨ds,rfl,rs⟩:=r.tup';cases h;exact⟨ds,rfl,rs⟩
 |lst xs=>obtain⟨n,ds,rfl,hs,_,rs⟩:=r.lst';cases h;exact⟨ds,Qr hs,rs⟩
 |_=>cases h
end
structure Ext (n0:Nat) (S S':Zc):Prop where
 len:S.length<=S'.length
 keep:∀n o,n≠n0->S[n]? = some o->S'[n]? = some o
theorem Ext.refl {n0:Nat}{S:Zc}:Ext n0 S S:=⟨Pk _,λ_ _ _ h=>h⟩
theorem Ext.trans {n0:Nat}{S S1 S2:Zc}(a:Ext n0 S S1) (b:Ext n0 S1 S2):Ext n0 S S2:=⟨P4 a.len b.len,λn o h e=>b.keep n o h (a.keep n o h e)⟩
theorem Ext.app {n0:Nat}{S T:Zc}:Ext n0 S (S++T):=⟨by simp,λn o _ e=>by rw[PB (Xw e)];exact e⟩
def Dw (n0:Nat) (S:Zc) (s:DS):Prop:=S[n0]? = some (.lst [.int s.1,.bl s.2])/\0<=s.1/\(s.2=false->s.1<2147483647)
theorem Dw.app {n0:Nat}{S T:Zc}{s:DS}(h:Dw n0 S s):Dw n0 (S++T) s:=⟨by rw[PB (Xw h.1)];exact h.1,h.2⟩
structure Xok (X:Nat->Prop) (n0:Nat) (S:Zc):Prop where
 z:X n0
 lt:∀n,X n->n<S.length
theorem Xok.ext {X:Nat->Prop}{n0:Nat}{S S':Zc}(h:Xok X n0 S) (e:Ext n0 S S'):Xok X n0 S':=⟨h.z,λn x=>PN (h.lt n x) e.len⟩
theorem Rep.ext {X:Nat->Prop}{n0:Nat}{S S':Zc}{v:V}{d:D}(x:Xok X n0 S) (e:Ext n0 S S') (h:Rep S X n0 v d):Rep S' X n0 v d:=
 h.mono (λn o nx hs=>e.keep n o (λz=>nx (z▸x.z)) hs) λ_ _ h=>h
theorem Rq.ext {X:Nat->Prop}{n0:Nat}{S S':Zc}{v:List V}{d:List D}(x:Xok X n0 S) (e:Ext n0 S S') (h:Rq S X n0 v d):Rq S' X n0 v d:=
 h.mono (λn o nx hs=>e.keep n o (λz=>nx (z▸x.z)) hs) λ_ _ h=>h
def Sim {α β:Type} (n0:Nat) (S:Zc) (Rl:Zc->β->α->Prop) (r:R α) (q:PR β):Prop:=match q with
 |.no=>True
 |.ok b s'=>∃a S',r=.ok a S'/\Ext n0 S S'/\Dw n0 S' s'/\Rl S' b a
 |.ex c s'=>∃S',r=.ex c S'/\Ext n0 S S'/\Dw n0 S' s'
section
variable {α β γ δ:Type}{n0:Nat}{S:Zc}{X:Nat->Prop}
theorem Sim.bind {Rl:Zc->β->α->Prop}{Rm:Zc->δ->γ->Prop}{r:R α}{q:PR β}{f:α->Zc->R γ}{g:β->DS->PR δ}(h:Sim n0 S Rl r q)
  (k:∀a b S' s',Ext n0 S S'->Dw n0 S' s'->Rl S' b a->Sim n0 S' Rm (f a S') (g b s')):Sim n0 S Rm (r.bind f) (q.bind g):=by
 cases q with
 |no=>exact True.intro
 |ex c s'=>
  obtain⟨S',e,x,w⟩:=h;rw[e];exact⟨S',rfl,x,w⟩
 |ok b s'=>
  obtain⟨a,S',e,x,w,rl⟩:=h;rw[e];have k':=k a b S' s' x w rl;show Sim n0 S Rm (f a S') (g b s');cases q2:g b s' with
  |no=>exact True.intro
  |ex c s2=>
   rw[q2] at k';obtain⟨S2,e2,x2,w2⟩:=k';exact⟨S2,e2,x.trans x2,w2⟩
  |ok b2 s2=>
   rw[q2] at k';obtain⟨a2,S2,e2,x2,w2,r2⟩:=k';exact⟨a2,S2,e2,x.trans x2,w2,r2⟩
theorem Sim.ok {Rl:Zc->β->α->Prop}{a:α}{b:β}{s:DS}(w:Dw n0 S s) (r:Rl S b a):Sim n0 S Rl (.ok a S) (.ok b s):=⟨a,S,rfl,Ext.refl,w,r⟩
theorem Sim.app {Rl:Zc->β->α->Prop}{a:α}{b:β}{s:DS}{T:Zc}(w:Dw n0 S s) (r:Rl (S++T) b a):Sim n0 S Rl (.ok a (S++T)) (.ok b s):=⟨a,S++T,rfl,Ext.app,w.app,r⟩
theorem Sim.po {Rl:Zc->β->α->Prop}{r:R α}{o:Option β}{s:DS}(h:∀b,o=some b->Sim n0 S Rl r (.ok b s)):Sim n0 S Rl r (po o s):=by
 cases o with
 |none=>exact True.intro
 |some b=>exact h b rfl
theorem Sim.obp {Rl:Zc->β->α->Prop}{o':Option α}{o:Option β}{s:DS}(w:Dw n0 S s) (h:∀b,o=some b->∃a,o'=some a/\Rl S b a):Sim n0 S Rl (ob o' S) (Pv.po o s):=by
 cases o with
 |none=>exact True.intro
 |some b=>
  obtain⟨a,e,r⟩:=h b rfl;rw[e];exact Sim.ok w r
theorem Sim.guard {Rl:Zc->β->α->Prop}{r r':R α}{q:PR β}{P:Prop}[Decidable P] (h:P->Sim n0 S Rl r q):Sim n0 S Rl (if P then r else r') (if P then q else .no):=by
 by_cases c:P
 ·rw[Ph c,Ph c];exact h c
 ·rw[Pj c,Pj c];exact True.intro
noncomputable abbrev RlV (X:Nat->Prop) (n0:Nat):Zc->V->D->Prop:=λS v d=>Rep S X n0 v d
noncomputable abbrev Za3 (X:Nat->Prop) (n0:Nat):Zc->List V->List D->Prop:=λS v d=>Rq S X n0 v d
noncomputable abbrev RlE {α:Type}:Zc->α->α->Prop:=λ_ a b=>b=a
theorem Sim.new {vs:List V}{ds:List D}{s:DS}(x:Xok X n0 S) (w:Dw n0 S s) (r:Rq S X n0 vs ds):Sim n0 S (RlV X n0) (.ok (.loc S.length) (S++[.lst ds])) (.ok (.lst vs) s):=
 Sim.app w (GR (by simp) (λz=>P2 _ (x.lt _ z)) (r.ext x Ext.app))
theorem wu {op:Bop}{x y:V}{a b:D}{s:DS}(xo:Xok X n0 S) (w:Dw n0 S s) (rx:Rep S X n0 x a) (ry:Rep S X n0 y b):Sim n0 S (RlV X n0) (Ys op a b S) (Ut op x y s):=by
 have bad:∀r:R D,Sim n0 S (RlV X n0) r .no:=λ_=>True.intro
 cases x with
 |int i=>
  cases rx.int';cases y with
  |int j=>
   cases ry.int';cases op with
   |add=>exact Sim.ok w (Zp _)
   |sub=>exact Sim.ok w (Zp _)
   |mul=>exact Sim.guard λ_=>Sim.ok w (Zp _)
   |fdiv=>exact Sim.guard λ_=>Sim.ok w (Zp _)
   |mod=>exact Sim.guard λ_=>Sim.ok w (Zp _)
   |pow=>exact Sim.guard λ_=>Sim.ok w (Zp _)
  |_=>cases op <;> exact bad _
 |tup us=>
  obtain⟨ds,rfl,r1⟩:=rx.tup';cases y with
  |tup ws=>
   obtain⟨es,rfl,r2⟩:=ry.tup';cases op with
   |add=>
    show Sim n0 S (RlV X n0) (if ds.length+es.length<=lim then .ok (.tup (ds++es)) S else .no) (if us.length+ws.length<=lim then .ok (.tup (us++ws)) s else .no)
    rw[r1.length,r2.length];exact Sim.guard λ_=>Sim.ok w (ZQ (r1.append r2))
   |_=>exact bad _
  |int j=>
   cases ry.int';cases op with
   |mul=>
    show Sim n0 S (RlV X n0) (if 0<=j/\j<1000/\ds.length<=1000 then .ok (.tup (List.replicate j.toNat ds).flatten) S else .no) (if 0<=j/\j<1000/\us.length<=1000 then .ok (.tup (List.replicate j.toNat us).flatten) s else .no)
    rw[r1.length];exact Sim.guard λ_=>Sim.ok w (ZQ (r1.rep _))
   |_=>exact bad _
  |_=>cases op <;> exact bad _
 |lst us=>
  obtain⟨n,ds,rfl,hs,_,r1⟩:=rx.lst';cases y with
  |lst ws=>
   obtain⟨m,es,rfl,hs2,_,r2⟩:=ry.lst';cases op with
   |add=>
    show Sim n0 S (RlV X n0) (match Zj S n,Zj S m with
     |some a,some b=>if a.length+b.length<=lim then .ok (.loc S.length) (S++[.lst (a++b)]) else .no
     |_,_=>.no) (if us.length+ws.length<=lim then .ok (.lst (us++ws)) s else .no)
    rw[ZF hs,ZF hs2];show Sim n0 S (RlV X n0) (if ds.length+es.length<=lim then .ok (.loc S.length) (S++[.lst (ds++es)]) else .no) _
    rw[r1.length,r2.length];exact Sim.guard λ_=>Sim.new xo w (r1.append r2)
   |_=>exact bad _
  |int j=>
   cases ry.int';cases op with
   |mul=>
    show Sim n0 S (RlV X n0) (match Zj S n with
     |some a=>if 0<=j/\j<1000/\a.length<=1000 then .ok (.loc S.length) (S++[.lst (List.replicate j.toNat a).flatten]) else .no
     |none=>.no) (if 0<=j/\j<1000/\us.length<=1000 then .ok (.lst (List.replicate j.toNat us).flatten) s else .no)
    rw[ZF hs];show Sim n0 S (RlV X n0) (if 0<=j/\j<1000/\ds.length<=1000 then .ok (.loc S.length) (S++[.lst (List.replicate j.toNat ds).flatten]) else .no) _
    rw[r1.length];exact Sim.guard λ_=>Sim.new xo w (r1.rep _)
   |_=>exact bad _
  |_=>cases op <;> exact bad _
 |_=>cases op <;> exact bad _
theorem Za6 {op:Bop}{x y:V}{a b:D}{s:DS}(xo:Xok X n0 S) (w:Dw n0 S s) (rx:Rep S X n0 x a) (ry:Rep S X n0 y b):Sim n0 S (RlV X n0) (xO op a b S) (yW op x y s):=by
 cases x with
 |int i=>cases y with
  |int j=>
   have h:=wu (op:=op) xo w rx ry;cases rx.int';cases ry.int';exact h
  |_=>exact True.intro
 |_=>exact True.intro
theorem GM {op:Cop}{x y:V}{a b:D}{s:DS}(w:Dw n0 S s) (rx:Rep S X n0 x a) (ry:Rep S X n0 y b):Sim n0 S (RlV X n0) (YB op a b S) (po (Wv op x y) s):=by
 have inn:∀z,Wk x y=some z->WU S a b=.ok z S:=by
  intro z h;cases y with
  |tup ys=>
   obtain⟨ds,rfl,rs⟩:=ry.tup';show ob (inL S a ds) S=_;rw[yV rx rs h];rfl
  |lst ys=>
   obtain⟨n,ds,rfl,hs,_,rs⟩:=ry.lst';show Zb5 S a S[n]? = _;rw[hs];show ob (inL S a ds) S=_;rw[yV rx rs h];rfl
  |_=>cases h
 refine Sim.po λv hv=>?_
 cases op with
 |eq=>
  have hv:(eqV Zo x y).map V.bl=some v:=hv;cases q:eqV Zo x y with
  |none=>rw[q] at hv;cases hv
  |some z=>
   rw[q] at hv;cases hv;show Sim n0 S (RlV X n0) ((ob (eqD S Zo a b) S).bind _) _;rw[Qp _ _ _ _ _ _ rx ry q];exact Sim.ok w (Zr z)
 |ne=>
  have hv:(eqV Zo x y).map (λb=>V.bl !b)=some v:=hv
  cases q:eqV Zo x y with
  |none=>rw[q] at hv;cases hv
  |some z=>
   rw[q] at hv;cases hv;show Sim n0 S (RlV X n0) ((ob (eqD S Zo a b) S).bind _) _;rw[Qp _ _ _ _ _ _ rx ry q];exact Sim.ok w (Zr _)
 |lt=>cases x <;> cases y <;> first | (cases hv;cases rx.int';cases ry.int';exact Sim.ok w (Zr _)) | cases hv
 |gt=>cases x <;> cases y <;> first | (cases hv;cases rx.int';cases ry.int';exact Sim.ok w (Zr _)) | cases hv
 |le=>cases x <;> cases y <;> first | (cases hv;cases rx.int';cases ry.int';exact Sim.ok w (Zr _)) | cases hv
 |ge=>cases x <;> cases y <;> first | (cases hv;cases rx.int';cases ry.int';exact Sim.ok w (Zr _)) | cases hv
 |is=>
  cases y with
  |non=>
   cases ry.non';have e:YB .is a .non S=.ok (.bl (XI x)) S:=by
    cases x with
    |non=>cases rx.non';rfl
    |bl _=>cases rx.bl';rfl
    |int _=>cases rx.int';rfl
    |str _=>cases rx.str';rfl
    |tup _=>obtain⟨_,rfl,_⟩:=rx.tup';rfl
    |lst _=>obtain⟨_,_,rfl,_⟩:=rx.lst';rfl
    |drw=>cases rx.drw';rfl
   rw[e];have hv:some (V.bl (XI x))=some v:=by cases x <;> exact hv
   cases hv;exact Sim.ok w (Zr _)
  |bl j=>cases x with
   |bl i=>cases rx.bl';cases ry.bl';cases hv;exact Sim.ok w (Zr _)
   |_=>cases hv
  |_=>cases x <;> cases hv
 |isn=>
  cases y with
  |non=>
   cases ry.non';have e:YB .isn a .non S=.ok (.bl !(XI x)) S:=by
    cases x with
    |non=>cases rx.non';rfl
    |bl _=>cases rx.bl';rfl
    |int _=>cases rx.int';rfl
    |str _=>cases rx.str';rfl
    |tup _=>obtain⟨_,rfl,_⟩:=rx.tup';rfl
    |lst _=>obtain⟨_,_,rfl,_⟩:=rx.lst';rfl
    |drw=>cases rx.drw';rfl
   rw[e];have hv:some (V.bl !(XI x))=some v:=by cases x <;> exact hv
   cases hv;exact Sim.ok w (Zr _)
  |bl j=>cases x with
   |bl i=>cases rx.bl';cases ry.bl';cases hv;exact Sim.ok w (Zr _)
   |_=>cases hv
  |_=>cases x <;> cases hv
 |inn=>
  have hv:(Wk x y).map V.bl=some v:=hv;cases q:Wk x y with
  |none=>rw[q] at hv;cases hv
  |some z=>
   rw[q] at hv;cases hv;show Sim n0 S (RlV X n0) ((WU S a b).bind _) _;rw[inn z q];exact Sim.ok w (Zr _)
 |nin=>
  have hv:(Wk x y).map (λb=>V.bl !b)=some v:=hv
  cases q:Wk x y with
  |none=>rw[q] at hv;cases hv
  |some z=>
   rw[q] at hv;cases hv;show Sim n0 S (RlV X n0) ((WU S a b).bind _) _;rw[inn z q];exact Sim.ok w (Zr _)
theorem ZbO {x y:V}{a b:D}{s:DS}(w:Dw n0 S s) (rx:Rep S X n0 x a) (ry:Rep S X n0 y b):Sim n0 S (RlV X n0) (wJ a b S) (po (ixV x y) s):=by
 refine Sim.po λv hv=>?_
 cases x with
 |tup xs=>cases y with
  |int i=>
   obtain⟨ds,rfl,rs⟩:=rx.tup';cases ry.int';obtain⟨d,e,r⟩:=Zbw rs hv;show Sim n0 S (RlV X n0) (ob (at' ds i) S) _;rw[e];exact Sim.ok w r
  |_=>cases hv
 |lst xs=>cases y with
  |int i=>
   obtain⟨n,ds,rfl,hs,_,rs⟩:=rx.lst';cases ry.int';obtain⟨d,e,r⟩:=Zbw rs hv;show Sim n0 S (RlV X n0) (match Z7 S n with
    |some xs=>ob (at' xs i) S
    |none=>.no) _
   rw[Qr hs];show Sim n0 S (RlV X n0) (ob (at' ds i) S) _;rw[e];exact Sim.ok w r
  |_=>cases hv
 |_=>cases y <;> cases hv
theorem Zcl {x:V}{a:D}{s:DS}{lo hi:Option Int}(xo:Xok X n0 S) (w:Dw n0 S s) (rx:Rep S X n0 x a):Sim n0 S (RlV X n0) (slice a lo hi S) (po (slV x lo hi) s):=by
 refine Sim.po λv hv=>?_
 cases x with
 |tup xs=>
  obtain⟨ds,rfl,rs⟩:=rx.tup';cases hv;exact Sim.ok w (ZQ (qp rs))
 |lst xs=>
  obtain⟨n,ds,rfl,hs,_,rs⟩:=rx.lst';cases hv;show Sim n0 S (RlV X n0) (match Zj S n with
    |some xs=>.ok (.loc S.length) (S++[.lst (cut xs lo hi)])
    |none=>.no) _
  rw[ZF hs];exact Sim.new xo w (qp rs)
 |_=>cases hv
theorem Vz (lo:Int) (n:Nat):Rq S X n0 (Yj lo n) (Zq lo n):=by
 unfold Yj Zq
 induction List.range n with
 |nil=>exact Rq.nil
 |cons k r ih=>exact Rq.cons (Zp _) ih
theorem j9 {f:Bf}{xs:List V}{ds:List D}{s:DS}(xo:Xok X n0 S) (w:Dw n0 S s) (rs:Rq S X n0 xs ds):Sim n0 S (RlV X n0) (YQ f ds S) (po (QB f xs) s):=by
 refine Sim.po λv hv=>?_
 have one:∀{x:V} {ds:List D},Rq S X n0 [x] ds->∃d,ds=[d]/\Rep S X n0 x d:=λ{x ds} h=>by
  obtain⟨d,es,rfl,a,t⟩:=h.cons';rw[t.nil'];exact⟨d,rfl,a⟩
 have two:∀{x y:V} {ds:List D},Rq S X n0 [x,y] ds->∃d e,ds=[d,e]/\Rep S X n0 x d/\Rep S X n0 y e:=λ{x y ds} h=>by
  obtain⟨d,es,rfl,a,t⟩:=h.cons';obtain⟨e,rfl,b⟩:=one t;exact⟨d,e,rfl,a,b⟩
 cases f with
 |len=>match xs,rs,hv with
  |[x],rs,hv=>
   obtain⟨d,rfl,r⟩:=one rs;have hv:(Z5 x).map (λxs=>V.int xs.length)=some v:=hv
   cases q:Z5 x with
   |none=>rw[q] at hv;cases hv
   |some ys=>
    rw[q] at hv;cases hv;obtain⟨es,e,r2⟩:=ym r q;show Sim n0 S (RlV X n0) ((ob (Xu S d) S).bind _) _;rw[e];show Sim n0 S (RlV X n0) (.ok (.int es.length) S) _;rw[r2.length];exact Sim.ok w (Zp _)
 |max2=>match xs,rs,hv with
  |[.int i,.int j],rs,hv=>
   obtain⟨d,e,rfl,r1,r2⟩:=two rs;cases r1.int';cases r2.int';cases hv;exact Sim.ok w (Zp _)
 |min2=>match xs,rs,hv with
  |[.int i,.int j],rs,hv=>
   obtain⟨d,e,rfl,r1,r2⟩:=two rs;cases r1.int';cases r2.int';cases hv;exact Sim.ok w (Zp _)
 |toInt=>match xs,rs,hv with
  |[.int i],rs,hv=>obtain⟨d,rfl,r⟩:=one rs;cases r.int';cases hv;exact Sim.ok w (Zp _)
  |[.bl i],rs,hv=>obtain⟨d,rfl,r⟩:=one rs;cases r.bl';cases hv;exact Sim.ok w (Zp _)
 |tuple=>match xs,rs,hv with
  |[x],rs,hv=>
   obtain⟨d,rfl,r⟩:=one rs;have hv:(Z5 x).map V.tup=some v:=hv;cases x with
   |tup ys=>
    obtain⟨es,rfl,r2⟩:=r.tup';cases hv;exact Sim.ok w (ZQ r2)
   |lst ys=>
    obtain⟨n,es,rfl,hs,_,r2⟩:=r.lst';cases hv;show Sim n0 S (RlV X n0) ((ob (Zj S n) S).bind _) _;rw[ZF hs];exact Sim.ok w (ZQ r2)
   |_=>cases hv
 |list=>match xs,rs,hv with
  |[x],rs,hv=>
   obtain⟨d,rfl,r⟩:=one rs;have hv:(Z5 x).map V.lst=some v:=hv;cases q:Z5 x with
   |none=>rw[q] at hv;cases hv
   |some ys=>
    rw[q] at hv;cases hv;obtain⟨es,e,r2⟩:=ym r q;show Sim n0 S (RlV X n0) ((ob (Xu S d) S).bind _) _;rw[e];exact Sim.new xo w r2
 |all=>match xs,rs,hv with
  |[.lst ys],rs,hv=>
   obtain⟨d,rfl,r⟩:=one rs;obtain⟨n,es,rfl,hs,_,r2⟩:=r.lst';have hv:(Z3 ys).map (λbs=>V.bl (bs.all id))=some v:=hv
   cases q:Z3 ys with
   |none=>rw[q] at hv;cases hv
   |some bs=>
    rw[q] at hv;cases hv;show Sim n0 S (RlV X n0) ((ob (Zj S n) S).bind _) _;rw[ZF hs];show Sim n0 S (RlV X n0) ((ob (YW es) S).bind _) _;rw[V1 r2 q];exact Sim.ok w (Zr _)
 |any=>match xs,rs,hv with
  |[x],rs,hv=>
   obtain⟨d,rfl,r⟩:=one rs;have hv:(Z5 x).bind (λxs=>(Z3 xs).map λbs=>V.bl (bs.any id))=some v:=hv
   cases q:Z5 x with
   |none=>rw[q] at hv;cases hv
   |some ys=>
    rw[q] at hv;have hv:(Z3 ys).map (λbs=>V.bl (bs.any id))=some v:=hv
    obtain⟨es,e,r2⟩:=ym r q;cases q2:Z3 ys with
    |none=>rw[q2] at hv;cases hv
    |some bs=>
     rw[q2] at hv;cases hv;show Sim n0 S (RlV X n0) ((ob (Xu S d) S).bind _) _;rw[e];show Sim n0 S (RlV X n0) ((ob (YW es) S).bind _) _;rw[V1 r2 q2];exact Sim.ok w (Zr _)
 |sum=>match xs,rs,hv with
  |[.lst ys],rs,hv=>
   obtain⟨d,rfl,r⟩:=one rs;obtain⟨n,es,rfl,hs,_,r2⟩:=r.lst';have hv:(intsV ys).bind (λis=>if Xc is=true then some (V.int is.sum) else none)=some v:=hv
   cases q:intsV ys with
   |none=>rw[q] at hv;cases hv
   |some is=>
    rw[q] at hv;have hv:(if Xc is=true then some (V.int is.sum) else none)=some v:=hv
    show Sim n0 S (RlV X n0) ((ob (Zj S n) S).bind _) _;rw[ZF hs];show Sim n0 S (RlV X n0) ((ob (XC es) S).bind _) _;rw[(VU r2 q).1];show Sim n0 S (RlV X n0) (if Xc is=true then .ok (.int is.sum) S else .no) _
    by_cases c:Xc is=true
    ·rw[Ph c] at hv ⊢;cases hv;exact Sim.ok w (Zp _)
    ·rw[Pj c] at hv;cases hv
 |sortedR=>match xs,rs,hv with
  |[.lst ys],rs,hv=>
   obtain⟨d,rfl,r⟩:=one rs;obtain⟨n,es,rfl,hs,_,r2⟩:=r.lst';have hv:(W6 ys).bind (λrs=>if YX rs=true then some (V.lst ((ZS rs).reverse.map Ze)) else none)=some v:=hv
   cases q:W6 ys with
   |none=>rw[q] at hv;cases hv
   |some ws=>
    rw[q] at hv;have hv:(if YX ws=true then some (V.lst ((ZS ws).reverse.map Ze)) else none)=some v:=hv
    show Sim n0 S (RlV X n0) ((ob (Zj S n) S).bind _) _;rw[ZF hs];show Sim n0 S (RlV X n0) ((ob (Y6 es) S).bind _) _;rw[Jl r2 q];show Sim n0 S (RlV X n0) (if YX ws=true then .ok (.loc S.length) (S++[.lst ((ZS ws).reverse.map V7)]) else .no) _
    by_cases c:YX ws=true
    ·rw[Ph c] at hv ⊢;cases hv;exact Sim.new xo w (GZ _)
    ·rw[Pj c] at hv;cases hv
 |rangeT=>match xs,rs,hv with
  |[.int i],rs,hv=>
   obtain⟨d,rfl,r⟩:=one rs;cases r.int';have hv:(if few i then some (V.tup (Yj 0 i.toNat)) else none)=some v:=hv
   show Sim n0 S (RlV X n0) (if few i then .ok (.tup (Zq 0 i.toNat)) S else .no) _
   by_cases c:few i=true
   ·rw[Ph c] at hv ⊢;cases hv;exact Sim.ok w (ZQ (Vz _ _))
   ·rw[Pj c] at hv;cases hv
 |_=>cases hv
end
structure Ew (S:Zc) (X:Nat->Prop) (n0:Nat) (ρ:Env) (σ:Lc):Prop where
 len:ρ.length=σ.length
 val:∀(i:Nat) (v:V),ρ[i]? = some (some v)->∃d,σ[i]? = some (some d)/\Rep S X n0 v d
section
variable {S S':Zc}{X X':Nat->Prop}{n0:Nat}{ρ ρ':Env}{σ σ':Lc}
theorem Ew.mono (k:∀n o,¬X n->S[n]? = some o->S'[n]? = some o) (x:∀n,n<S.length->X' n->X n) (h:Ew S X n0 ρ σ):Ew S' X' n0 ρ σ:=
 ⟨h.len,λi v e=>let ⟨d,a,b⟩:=h.val i v e;⟨d,a,b.mono k x⟩⟩
theorem Ew.ext (x:Xok X n0 S) (e:Ext n0 S S') (h:Ew S X n0 ρ σ):Ew S' X n0 ρ σ:=
 ⟨h.len,λi v q=>let ⟨d,a,b⟩:=h.val i v q;⟨d,a,b.ext x e⟩⟩
theorem Ew.weak (h:Ew S X n0 ρ σ) (hl:ρ'.length=ρ.length) (w:∀(i:Nat) (v:V),ρ'[i]? = some (some v)->ρ[i]? = some (some v)):Ew S X n0 ρ' σ:=⟨by rw[hl];exact h.len,λi v e=>h.val i v (w i v e)⟩
theorem Ew.set {v:V}{d:D}(h:Ew S X n0 ρ σ) (i:Nat) (r:Rep S X n0 v d):Ew S X n0 (ρ.set i (some v)) (σ.set i (some d)):=by
 refine⟨by rw[P0,P0];exact h.len,λj w e=>?_⟩
 rw[NF] at e ⊢;by_cases c:i=j
 ·rw[Ph c] at e ⊢
  by_cases l:i<ρ.length
  ·rw[Ph l] at e
   rw[Ph (by rw[<-h.len];exact l)]
   cases e;exact⟨d,rfl,r⟩
  ·rw[Pj l] at e;cases e
 ·rw[Pj c] at e ⊢
  exact h.val j w e
theorem J3:∀{t:List Nat}{vs:List V}{ds:List D}{ρ ρ':Env}{σ:Lc},Ew S X n0 ρ σ->Rq S X n0 vs ds->YS t vs ρ=some ρ'->∃σ',fill t ds σ=some σ'/\Ew S X n0 ρ' σ'
 |[],[],_,ρ,ρ',σ,h,r,e=>by rw[r.nil'];cases e;exact⟨σ,rfl,h⟩
 |[],_::_,_,_,_,_,_,_,e=>by cases e
 |_::_,[],_,_,_,_,_,_,e=>by cases e
 |i::t,v::vs,_,ρ,ρ',σ,h,r,e=>by
  obtain⟨d,ds,rfl,a,b⟩:=r.cons';exact J3 (t:=t) (vs:=vs) (h.set i a) b e
theorem Jr {t:List Nat}{v:V}{d:D}(h:Ew S X n0 ρ σ) (r:Rep S X n0 v d) (e:Zs t v ρ=some ρ'):∃σ',assign t d S σ=some σ'/\Ew S X n0 ρ' σ':=by
 have gen:∀t:List Nat,(∀i,t≠[i])->(match Z5 v with
   |some xs=>YS t xs ρ
   |none=>none)=some ρ'->∃σ',(match d with
   |.tup xs=>fill t xs σ
   |.loc n=>match Zj S n with
    |some xs=>fill t xs σ
    |none=>none
   |_=>none)=some σ'/\Ew S X n0 ρ' σ':=by
  intro t _ e;cases v with
  |tup vs=>obtain⟨ds,rfl,rs⟩:=r.tup';exact J3 h rs e
  |lst vs=>
   obtain⟨n,ds,rfl,hs,_,rs⟩:=r.lst';obtain⟨σ',a,b⟩:=J3 h rs e;refine⟨σ',?_,b⟩;show (match Zj S n with
    |some xs=>fill t xs σ
    |none=>none)=some σ'
   rw[ZF hs];exact a
  |_=>cases e
 match t,e with
 |[i],e=>cases e;exact⟨_,rfl,h.set i r⟩
 |[],e=>exact gen [] (by simp) e
 |i::j::t,e=>exact gen (i::j::t) (by simp) e
theorem Yq:∀{t:List Nat}{vs:List V}{ρ ρ':Env},YS t vs ρ=some ρ'->ρ'.length=ρ.length/\∀j,j∉t->ρ'[j]? = ρ[j]?
 |[],[],ρ,ρ',e=>by cases e;exact⟨rfl,λ_ _=>rfl⟩
 |[],_::_,_,_,e=>by cases e
 |_::_,[],_,_,e=>by cases e
 |i::t,v::vs,ρ,ρ',e=>by
  obtain⟨a,b⟩:=Yq (t:=t) (vs:=vs) (ρ:=ρ.set i (some v)) e;refine⟨by rw[a,P0],λj hj=>?_⟩
  have hij:i≠j:=λz=>hj (by rw[z];exact Pe ..)
  rw[b j (λz=>hj (Pc _ z)),PK hij]
theorem Us {t:List Nat}{v:V}(e:Zs t v ρ=some ρ'):ρ'.length=ρ.length/\∀j,j∉t->ρ'[j]? = ρ[j]?:=by
 match t,e with
 |[i],e=>cases e;exact⟨by simp,λj hj=>PK (λz:i=j=>hj (by rw[z];exact Pe ..))⟩
 |[],e=>
  have e:(match Z5 v with | some xs=>YS [] xs ρ | none=>none)=some ρ':=e
  cases q:Z5 v with
  |none=>rw[q] at e;cases e
  |some xs=>rw[q] at e;exact Yq e
 |i::j::t,e=>
  have e:(match Z5 v with | some xs=>YS (i::j::t) xs ρ | none=>none)=some ρ':=e
  cases q:Z5 v with
  |none=>rw[q] at e;cases e
  |some xs=>rw[q] at e;exact Yq e
noncomputable def WkR (X:Nat->Prop) (n0:Nat):Zc->List V->Walk->Prop:=λS vs w=>Rq S X n0 vs w.items/\∀p∈w.kept,S[p.1]? = some (.lst p.2)/\¬X p.1
theorem Vx {w:Walk}(h:∀p∈w.kept,S[p.1]? = some (.lst p.2)):w.still S=true:=by
 unfold Walk.still;rw[Pw];intro p hp;exact PJ (h p hp)
theorem WS {v:V}{d:D}{vs:List V}(r:Rep S X n0 v d) (h:Z5 v=some vs):∃w,Ym S d=some w/\WkR X n0 S vs w:=by
 cases v with
 |tup xs=>obtain⟨ds,rfl,rs⟩:=r.tup';cases h;exact⟨⟨ds,[]⟩,rfl,rs,λp hp=>by cases hp⟩
 |lst xs=>
  obtain⟨n,ds,rfl,hs,hx,rs⟩:=r.lst';cases h;refine⟨⟨ds,[(n,ds)]⟩,?_,rs,λp hp=>?_⟩
  ·unfold Ym;simp only[hs]
  ·rcases PL.mp hp with rfl
   exact⟨hs,hx⟩
 |_=>cases h
theorem JV:∀{vs ws:List V}{ds es:List D},Rq S X n0 vs ds->Rq S X n0 ws es->Rq S X n0 ((vs.zip ws).map λp=>V.tup [p.1,p.2]) ((ds.zip es).map λp=>D.tup [p.1,p.2])
 |[],_,_,_,a,_=>by rw[a.nil'];simp only[List.zip_nil_left,K1];exact Rq.nil
 |_::_,[],_,_,a,b=>by rw[b.nil'];simp only[List.zip_nil_right,K1];exact Rq.nil
 |v::vs,w::ws,_,_,a,b=>by
  obtain⟨d,ds,rfl,a1,a2⟩:=a.cons';obtain⟨e,es,rfl,b1,b2⟩:=b.cons';exact Rq.cons (ZQ (Rq.cons a1 (Rq.cons b1 Rq.nil))) (JV a2 b2)
end
structure Ext2 (n0 m:Nat) (S S':Zc):Prop where
 len:S.length<=S'.length
 keep:∀n o,n≠n0->n≠m->S[n]? = some o->S'[n]? = some o
theorem Ext2.trans {n0 m:Nat}{S S1 S2:Zc}(a:Ext2 n0 m S S1) (b:Ext2 n0 m S1 S2):Ext2 n0 m S S2:=⟨P4 a.len b.len,λn o h z e=>b.keep n o h z (a.keep n o h z e)⟩
theorem Ext2.refl {n0 m:Nat}{S:Zc}:Ext2 n0 m S S:=⟨Pk _,λ_ _ _ _ h=>h⟩
theorem Ext.two {n0 m:Nat}{S S':Zc}(h:Ext n0 S S'):Ext2 n0 m S S':=⟨h.len,λn o a _ e=>h.keep n o a e⟩
section
variable {n0 m:Nat}{X:Nat->Prop}
theorem Rq.ext2 {S S':Zc}{v:List V}{d:List D}(z:X n0) (zm:X m) (e:Ext2 n0 m S S') (h:Rq S X n0 v d):Rq S' X n0 v d:=
 h.mono (λn o nx hs=>e.keep n o (λq=>nx (q▸z)) (λq=>nx (q▸zm)) hs) λ_ _ h=>h
theorem Ew.ext2 {S S':Zc}{ρ:Env}{σ:Lc}(z:X n0) (zm:X m) (e:Ext2 n0 m S S') (h:Ew S X n0 ρ σ):Ew S' X n0 ρ σ:=
 h.mono (λn o nx hs=>e.keep n o (λq=>nx (q▸z)) (λq=>nx (q▸zm)) hs) λ_ _ h=>h
theorem Xok.ext2 {S S':Zc}(h:Xok X n0 S) (e:Ext2 n0 m S S'):Xok X n0 S':=⟨h.z,λn x=>PN (h.lt n x) e.len⟩
def Turn (n0 m:Nat) (X:Nat->Prop) (ρ:Env) (S:Zc) (ds:List D) (q:PR (List V)) (r:R Lc):Prop:=∀ys s',q=.ok ys s'->ds.length+ys.length<=lim->
 ∃σ' S' es,r=.ok σ' S'/\Ext2 n0 m S S'/\Ew S' X n0 ρ σ'/\Dw n0 S' s'/\S'[m]? = some (.lst (ds++es))/\Rq S' X n0 ys es
theorem QK {ρ:Env}{wk:Walk}{f:V->DS->PR (List V)}{turn:D->Lc->Zc->R Lc}(zm:X m) (hk:∀p∈wk.kept,¬X p.1)
  (ht:∀x d S s σ ds,Xok X n0 S->Rep S X n0 x d->Ew S X n0 ρ σ->Dw n0 S s->S[m]? = some (.lst ds)->Turn n0 m X ρ S ds (f x s) (turn d σ S)) :
  ∀(vs:List V) (es:List D) (S:Zc) (s:DS) (σ:Lc) (ds:List D),Xok X n0 S->Rq S X n0 vs es->Ew S X n0 ρ σ->Dw n0 S s->S[m]? = some (.lst ds)->(∀p∈wk.kept,S[p.1]? = some (.lst p.2))->Turn n0 m X ρ S ds (mapP f vs s) (Yt wk turn es σ S)
 |[],es,S,s,σ,ds,xo,rs,he,w,hm,hs=>by
  intro ys s' q _;cases q;rw[rs.nil'];exact⟨σ,S,[],by rw[Yt,Ph (Vx hs)],Ext2.refl,he,w,by rw[N7];exact hm,Rq.nil⟩
 |v::vs,es,S,s,σ,ds,xo,rs,he,w,hm,hs=>by
  intro ys s' q hl;obtain⟨d,es,rfl,r1,r2⟩:=rs.cons';unfold mapP at q;cases q1:f v s with
  |no=>rw[q1] at q;cases q
  |ex _ _=>rw[q1] at q;cases q
  |ok y1 s1=>
   rw[q1] at q;cases q2:mapP f vs s1 with
   |no=>simp only[q2] at q;cases q
   |ex _ _=>simp only[q2] at q;cases q
   |ok y2 s2=>
    simp only[q2] at q;cases q;rw[PD] at hl;obtain⟨σ1,S1,e1,a1,a2,a3,a4,a5,a6⟩:=ht v d S s σ ds xo r1 he w hm y1 s1 q1 (by omega)
    have xo1:=xo.ext2 a2;have hs1:∀p∈wk.kept,S1[p.1]? = some (.lst p.2):=λp hp=>a2.keep _ _ (λz=>hk p hp (z▸xo.z)) (λz=>hk p hp (z▸zm)) (hs p hp)
    obtain⟨σ2,S2,e2,b1,b2,b3,b4,b5,b6⟩:=QK zm hk ht vs es S1 s1 σ1 (ds++e1) xo1 (r2.ext2 xo.z zm a2) a3 a4 a5 hs1 y2 _ q2 (by rw[PD,a6.length];omega)
    refine⟨σ2,S2,e1++e2,?_,a2.trans b2,b3,b4,by rw[<-List.append_assoc];exact b5,(a6.ext2 xo.z zm b2).append b6⟩
    rw[Yt,Ph (Vx hs),a1];exact b1
theorem Zah {S:Zc}{y:D}{ds:List D}(hm:S[m]? = some (.lst ds)) (hl:ds.length<lim):push m y S=.ok () (S.set m (.lst (ds++[y]))):=by
 unfold push;rw[ZF hm];show (if ds.length<lim then _ else _)=_
 rw[Ph hl]
end
theorem jI {f:V->DS->PR (List V)}:∀{vs:List V}{s s':DS}{c:Nat},mapP f vs s≠.ex c s'
 |[],_,_,_,h=>by cases h
 |v::vs,s,s',c,h=>by
  unfold mapP at h;cases q1:f v s with
  |no=>rw[q1] at h;cases h
  |ex _ _=>rw[q1] at h;cases h
  |ok y s1=>
   rw[q1] at h;cases q2:mapP f vs s1 with
   |no=>simp only[q2] at h;cases h
   |ex _ _=>simp only[q2] at h;cases h
   |ok z s2=>simp only[q2] at h;cases h
section
variable {n0 m:Nat}{X:Nat->Prop}{C:Calls}{CV:Zu}
theorem ua {S:Zc}{o:Ob}:Ext2 n0 m S (S.set m o):=⟨by simp,λn o' _ z e=>by rw[PK (Ne.symm z)];exact e⟩
theorem Zby {α:Type}{o:Option α}{s s':DS}{a:α}(h:po o s=.ok a s'):o=some a/\s'=s:=by
 cases o with
 |none=>cases h
 |some b=>cases h;exact⟨rfl,rfl⟩
theorem Yf {α β:Type}{r:PR α}{f:α->DS->PR β}{b:β}{s':DS}(h:r.bind f=.ok b s'):∃a s1,r=.ok a s1/\f a s1=.ok b s':=by
 cases r with
 |no=>cases h
 |ex _ _=>cases h
 |ok a s1=>exact⟨a,s1,rfl,h⟩
theorem Sim.out {α β:Type}{S:Zc}{Rl:Zc->β->α->Prop}{r:R α}{q:PR β}{b:β}{s':DS}(h:Sim n0 S Rl r q) (e:q=.ok b s'):∃a S',r=.ok a S'/\Ext n0 S S'/\Dw n0 S' s'/\Rl S' b a:=by
 rw[e] at h;exact h
theorem zO {ρ ρ1:Env}{t:List Nat}{x:V}(e:Zs t x ρ=some ρ1) (hno:∀i∈t,∀v,ρ[i]?≠some (some v)):ρ.length=ρ1.length/\∀(i:Nat) (v:V),ρ[i]? = some (some v)->ρ1[i]? = some (some v):=by
 obtain⟨a,b⟩:=Us e;refine⟨a.symm,λi v h=>?_⟩
 rw[b i λz=>hno i z v h];exact h
theorem ZbB {ρ:Env}{t:List Nat}{ifs:List E}{elt:E}{x:V}{d:D}{S:Zc}{s:DS}{σ:Lc}{ds:List D}(hmn:m≠n0) (zm:X m)
  (hT:∀{ρ:Env} {σ:Lc} {S:Zc} {s:DS},Xok X n0 S->Ew S X n0 ρ σ->Dw n0 S s->Sim n0 S RlE (evt C ifs σ S) (pvt CV ifs ρ s)) (hE:∀{ρ:Env} {σ:Lc} {S:Zc} {s:DS},Xok X n0 S->Ew S X n0 ρ σ->Dw n0 S s->Sim n0 S (RlV X n0) (ev C elt σ S) (pv CV elt ρ s))
  (hno:∀i∈t,∀v,ρ[i]?≠some (some v)) (xo:Xok X n0 S) (rx:Rep S X n0 x d) (he:Ew S X n0 ρ σ) (w:Dw n0 S s) (hm:S[m]? = some (.lst ds)) :
  Turn n0 m X ρ S ds ((po (Zs t x ρ) s).bind λσ s=>(pvt CV ifs σ s).bind λb s=>if b then (pv CV elt σ s).bind λy s=>.ok [y] s else .ok [] s)
   ((ob (assign t d S σ) S).bind λσ S1=>(evt C ifs σ S1).bind λb S1=>if b then (ev C elt σ S1).bind λy S1=>(push m y S1).bind λ_ S1=>.ok σ S1 else .ok σ S1):=by
 intro ys s' q hl;obtain⟨ρ1,s1,qa,qb⟩:=Yf q;clear q;obtain⟨q1,es1⟩:=Zby qa;subst es1;obtain⟨σ1,e1,he1⟩:=Jr he rx q1;obtain⟨b,s2,q2,q⟩:=Yf qb;clear qb;obtain⟨b',S2,e2,x2,w2,rfl⟩:=(hT xo he1 w).out q2;obtain⟨kl,kv⟩:=zO q1 hno;have xo2:=xo.ext x2;have he2:=he1.ext xo x2;have hm2:=x2.keep m _ hmn hm;cases b' with
 |false=>
  cases q;refine⟨σ1,S2,[],?_,x2.two,he2.weak kl kv,w2,by rw[N7];exact hm2,Rq.nil⟩
  rw[e1];show ((evt C ifs σ1 S).bind _)=_;rw[e2];rfl
 |true=>
  obtain⟨y,s3,q3,qe⟩:=Yf q;cases qe;obtain⟨dy,S3,e3,x3,w3,r3⟩:=(hE xo2 he2 w2).out q3;have hm3:=x3.keep m _ hmn hm2;have xo3:=xo2.ext x3;have hs:Ext2 n0 m S3 (S3.set m (.lst (ds++[dy]))):=ua;refine⟨σ1,S3.set m (.lst (ds++[dy])),[dy],?_,(x2.two.trans x3.two).trans hs,((he2.ext xo2 x3).ext2 xo.z zm hs).weak kl kv,⟨by rw[PK hmn];exact w3.1,w3.2⟩,No (Xw hm3),Rq.ext2 xo.z zm hs (Rq.cons r3 Rq.nil)⟩
  rw[e1];show ((evt C ifs σ1 S).bind _)=_;rw[e2];show ((ev C elt σ1 S2).bind _)=_;rw[e3];show ((push m dy S3).bind _)=_;rw[Zah hm3 (by simp at hl;omega)];rfl
theorem ZdC {ρ:Env}{t u:List Nat}{ifs jfs:List E}{elt:E}{jt:W}{x:V}{d:D}{S:Zc}{s:DS}{σ:Lc}{ds:List D}(hmn:m≠n0) (zm:X m)
  (hT:∀{ρ:Env} {σ:Lc} {S:Zc} {s:DS},Xok X n0 S->Ew S X n0 ρ σ->Dw n0 S s->Sim n0 S RlE (evt C ifs σ S) (pvt CV ifs ρ s)) (hJ:∀{ρ:Env} {σ:Lc} {S:Zc} {s:DS},Xok X n0 S->Ew S X n0 ρ σ->Dw n0 S s->Sim n0 S RlE (evt C jfs σ S) (pvt CV jfs ρ s))
  (hW:∀{ρ:Env} {σ:Lc} {S:Zc} {s:DS},Xok X n0 S->Ew S X n0 ρ σ->Dw n0 S s->Sim n0 S (WkR X n0) (evw C jt σ S) (pvw CV jt ρ s)) (hE:∀{ρ:Env} {σ:Lc} {S:Zc} {s:DS},Xok X n0 S->Ew S X n0 ρ σ->Dw n0 S s->Sim n0 S (RlV X n0) (ev C elt σ S) (pv CV elt ρ s))
  (hno:∀i∈t,∀v,ρ[i]?≠some (some v)) (hnu:∀i∈u,i∉t/\∀v,ρ[i]?≠some (some v)) (xo:Xok X n0 S) (rx:Rep S X n0 x d) (he:Ew S X n0 ρ σ) (w:Dw n0 S s) (hm:S[m]? = some (.lst ds)) :
  Turn n0 m X ρ S ds ((po (Zs t x ρ) s).bind λσ s=>(pvt CV ifs σ s).bind λb s=>if b then
    (pvw CV jt σ s).bind λw2 s=>mapP (λx s=>(po (Zs u x σ) s).bind λσ s=>(pvt CV jfs σ s).bind λb s=>if b then (pv CV elt σ s).bind λy s=>.ok [y] s else .ok [] s) w2 s
    else .ok [] s)
   ((ob (assign t d S σ) S).bind λσ S1=>(evt C ifs σ S1).bind λb S1=>if b then
    (evw C jt σ S1).bind λw2 S1=>Yt w2 (λx σ S1=>(ob (assign u x S1 σ) S1).bind λσ S1=>(evt C jfs σ S1).bind λb S1=>if b then (ev C elt σ S1).bind λy S1=>(push m y S1).bind λ_ S1=>.ok σ S1 else .ok σ S1) w2.items σ S1
    else .ok σ S1):=by
 intro ys s' q hl;obtain⟨ρ1,s1,qa,qb⟩:=Yf q;clear q;obtain⟨q1,es1⟩:=Zby qa;subst es1;obtain⟨σ1,e1,he1⟩:=Jr he rx q1;obtain⟨b,s2,q2,q⟩:=Yf qb;clear qb;obtain⟨b',S2,e2,x2,w2,rfl⟩:=(hT xo he1 w).out q2;obtain⟨kl,kv⟩:=zO q1 hno;have xo2:=xo.ext x2;have he2:=he1.ext xo x2;have hm2:=x2.keep m _ hmn hm;cases b' with
 |false=>
  cases q;refine⟨σ1,S2,[],?_,x2.two,he2.weak kl kv,w2,by rw[N7];exact hm2,Rq.nil⟩
  rw[e1];show ((evt C ifs σ1 S).bind _)=_;rw[e2];rfl
 |true=>
  obtain⟨vs,s3,q3,qe⟩:=Yf q;obtain⟨wk,S3,e3,x3,w3,r3⟩:=(hW xo2 he2 w2).out q3;have hm3:=x3.keep m _ hmn hm2;have xo3:=xo2.ext x3;have he3:=he2.ext xo2 x3;have hnu1:∀i∈u,∀v,ρ1[i]?≠some (some v):=λi hi v z=>by
   rw[(Us q1).2 i (hnu i hi).1] at z;exact (hnu i hi).2 v z
  obtain⟨σ4,S4,es,a1,a2,a3,a4,a5,a6⟩:=QK (ρ:=ρ1) (wk:=wk) zm (λp hp=>(r3.2 p hp).2) (λx d S s σ ds xo rx he w hm=>ZbB hmn zm hJ hE hnu1 xo rx he w hm) vs wk.items S3 s3 σ1 ds xo3 r3.1 he3 w3 hm3 (λp hp=>(r3.2 p hp).1) ys s' qe hl
  refine⟨σ4,S4,es,?_,(x2.two.trans x3.two).trans a2,a3.weak kl kv,a4,a5,a6⟩;rw[e1];show ((evt C ifs σ1 S).bind _)=_;rw[e2];show ((evw C jt σ1 S2).bind _)=_;rw[e3];exact a1
theorem Jz {S:Zc}{ρ:Env}{σ:Lc}{cap:List Nat}{nl:Nat}(he:Ew S X n0 ρ σ):Ew S X n0 (Z9 cap nl ρ) (caught cap nl σ):=by
 refine⟨by simp[Z9,caught],λi v h=>?_⟩
 unfold Z9 at h;unfold caught;by_cases c:i<nl
 ·rw[PB (by simpa using c)] at h
  simp[c] at h
 ·rw[PQ (by simp;omega)] at h ⊢
  rw[Nu] at h ⊢;rw[PM] at h ⊢;cases q:cap[i-nl]? with
  |none=>rw[q] at h;cases h
  |some j=>
   rw[q] at h;have h':(ρ[j]?).join=some v:=Pb h;cases q2:ρ[j]? with
   |none=>rw[q2] at h';cases h'
   |some o=>
    rw[q2] at h';have h'':o=some v:=h';subst h'';obtain⟨d,e,r⟩:=he.val j v q2;exact⟨d,by show some ((σ[j]?).join)=_;rw[e];rfl,r⟩
theorem Ua {ρ:Env}{cap:List Nat}{nl i:Nat}(h:i<nl) (v:V):(Z9 cap nl ρ)[i]?≠some (some v):=by
 unfold Z9;rw[PB (by simpa using h)]
 simp[h]
theorem zZ {S:Zc}{vs:List V}{s:DS}{ρ0:Env}{σ0:Lc}{wk:Walk}{f:V->DS->PR (List V)}{turn:D->Lc->Zc->R Lc}(xo:Xok X n0 S) (w:Dw n0 S s) (rw':WkR X n0 S vs wk) (he:Ew S X n0 ρ0 σ0)
  (ht:∀x d S1 s σ ds,Xok (λn=>X n\/n=S.length) n0 S1->Rep S1 (λn=>X n\/n=S.length) n0 x d->Ew S1 (λn=>X n\/n=S.length) n0 ρ0 σ->Dw n0 S1 s->S1[S.length]? = some (.lst ds)->Turn n0 S.length (λn=>X n\/n=S.length) ρ0 S1 ds (f x s) (turn d σ S1)) :
  Sim n0 S (RlV X n0) ((Yt wk turn wk.items σ0 (S++[.lst []])).bind λ_ S1=>.ok (.loc S.length) S1) ((mapP f vs s).bind λys s=>if ys.length<=lim then .ok (.lst ys) s else .no):=by
 cases q:mapP f vs s with
 |no=>exact True.intro
 |ex c s'=>exact absurd q jI
 |ok ys s'=>
  show Sim n0 S _ _ (if ys.length<=lim then PR.ok (V.lst ys) s' else .no)
  by_cases c:ys.length<=lim
  ·rw[Ph c]
   have hX:∀n,n<S.length->(X n\/n=S.length)->X n:=λn h z=>z.elim id λe=>absurd (e▸h) (P2 _)
   have hk:∀n o,¬X n->S[n]? = some o->(S++[Ob.lst []])[n]? = some o:=λn o _ e=>by rw[PB (Xw e)];exact e
   have xo1:Xok (λn=>X n\/n=S.length) n0 (S++[.lst []]):=⟨.inl xo.z,λn h=>by
    rw[PD,P1];rcases h with h | h
    ·have:=xo.lt n h;omega
    ·omega⟩
   obtain⟨σ',S',es,a1,a2,a3,a4,a5,a6⟩:=QK (m:=S.length) (ρ:=ρ0) (wk:=wk) (.inr rfl) (λp hp z=>(rw'.2 p hp).2 (hX _ (Xw (rw'.2 p hp).1) z)) ht vs wk.items (S++[.lst []]) s σ0 [] xo1 (rw'.1.mono hk hX) (he.mono hk hX) w.app (by simp) (λp hp=>hk _ _ (rw'.2 p hp).2 (rw'.2 p hp).1) ys s' q (by simpa using c)
   refine⟨.loc S.length,S',by rw[a1];rfl,⟨P4 (by simp) a2.len,λn o hn e=>a2.keep n o hn (λz=>absurd (Xw e) (by omega)) (by rw[PB (Xw e)];exact e)⟩,a4,?_⟩
   exact GR a5 (λz=>P2 _ (xo.lt _ z)) (a6.mono (λn o nx e=>e) λn _ h=>.inl h)
  ·rw[Pj c];exact True.intro
end
def ZV (n0:Nat) (C:Calls) (CV:Zu):Prop:=∀(f:Nat) (vs:List V) (ds:List D) (S:Zc) (s:DS) (X:Nat->Prop),Xok X n0 S->Dw n0 S s->Rq S X n0 vs ds->Sim n0 S (RlV X n0) (C f ds S) (CV f vs s)
section
variable {n0:Nat}{C:Calls}{CV:Zu}
mutual
theorem ZP (H:ZV n0 C CV):∀(e:E) {X:Nat->Prop}{ρ:Env}{σ:Lc}{S:Zc}{s:DS},Xok X n0 S->Ew S X n0 ρ σ->Dw n0 S s->Sim n0 S (RlV X n0) (ev C e σ S) (pv CV e ρ s)
 |.c d,X,ρ,σ,S,s,xo,he,w=>by
  rw[ev,pv];exact Sim.po λv hv=>Sim.ok w (wL hv)
 |.v i,X,ρ,σ,S,s,xo,he,w=>by
  rw[ev,pv];refine Sim.obp w λv hv=>?_
  cases q:ρ[i]? with
  |none=>rw[q] at hv;cases hv
  |some o=>
   rw[q] at hv;have hv:o=some v:=hv;subst hv;obtain⟨d,e,r⟩:=he.val i v q;exact⟨d,by rw[e];rfl,r⟩
 |.tup es,X,ρ,σ,S,s,xo,he,w=>by
  rw[ev,pv];refine (WZ H es xo he w).bind λds vs S1 s1 x1 w1 r1=>?_
  rw[Rq.length r1];exact Sim.guard λ_=>Sim.ok w1 (ZQ r1)
 |.lst es,X,ρ,σ,S,s,xo,he,w=>by
  rw[ev,pv];refine (WZ H es xo he w).bind λds vs S1 s1 x1 w1 r1=>?_
  rw[Rq.length r1];exact Sim.guard λ_=>Sim.new (xo.ext x1) w1 r1
 |.mt _ _ _,X,ρ,σ,S,s,xo,he,w=>by rw[pv];exact True.intro
 |.bin op a b,X,ρ,σ,S,s,xo,he,w=>by
  rw[ev,pv];exact (ZP H a xo he w).bind λd v S1 s1 x1 w1 r1=>(ZP H b (xo.ext x1) (he.ext xo x1) w1).bind λe u S2 s2 x2 w2 r2=>wu ((xo.ext x1).ext x2) w2 (Rep.ext (xo.ext x1) x2 r1) r2
 |.neg a,X,ρ,σ,S,s,xo,he,w=>by
  rw[ev,pv];refine (ZP H a xo he w).bind λd v S1 s1 x1 w1 r1=>?_
  cases v with
  |int i=>cases Rep.int' r1;exact Sim.ok w1 (Zp _)
  |_=>exact True.intro
 |.not a,X,ρ,σ,S,s,xo,he,w=>by
  rw[ev,pv];refine (ZP H a xo he w).bind λd v S1 s1 x1 w1 r1=>?_
  cases q:Z6 v with
  |none=>exact True.intro
  |some b=>
   rw[Xe r1 q];exact Sim.ok w1 (Zr _)
 |.and a b,X,ρ,σ,S,s,xo,he,w=>by
  rw[ev,pv];refine (ZP H a xo he w).bind λd v S1 s1 x1 w1 r1=>?_
  cases v with
  |bl c=>
   cases Rep.bl' r1;cases c with
   |true=>exact ZP H b (xo.ext x1) (he.ext xo x1) w1
   |false=>exact Sim.ok w1 (Zr _)
  |_=>exact True.intro
 |.or a b,X,ρ,σ,S,s,xo,he,w=>by
  rw[ev,pv];refine (ZP H a xo he w).bind λd v S1 s1 x1 w1 r1=>?_
  cases v with
  |bl c=>
   cases Rep.bl' r1;cases c with
   |true=>exact Sim.ok w1 (Zr _)
   |false=>exact ZP H b (xo.ext x1) (he.ext xo x1) w1
  |_=>exact True.intro
 |.ite t a b,X,ρ,σ,S,s,xo,he,w=>by
  rw[ev,pv];refine (ZP H t xo he w).bind λd v S1 s1 x1 w1 r1=>?_
  cases q:Z6 v with
  |none=>exact True.intro
  |some c=>
   rw[Xe r1 q];cases c with
   |true=>exact ZP H a (xo.ext x1) (he.ext xo x1) w1
   |false=>exact ZP H b (xo.ext x1) (he.ext xo x1) w1
 |.cmp op a b,X,ρ,σ,S,s,xo,he,w=>by
  rw[ev,pv];exact (ZP H a xo he w).bind λd v S1 s1 x1 w1 r1=>(ZP H b (xo.ext x1) (he.ext xo x1) w1).bind λe u S2 s2 x2 w2 r2=>GM w2 (Rep.ext (xo.ext x1) x2 r1) r2
 |.chain o p a b d,X,ρ,σ,S,s,xo,he,w=>by
  rw[ev,pv];refine (ZP H a xo he w).bind λda va S1 s1 x1 w1 r1=>(ZP H b (xo.ext x1) (he.ext xo x1) w1).bind λdb vb S2 s2 x2 w2 r2=>(GM w2 (Rep.ext (xo.ext x1) x2 r1) r2).bind λdz vz S3 s3 x3 w3 r3=>?_
  cases vz with
  |bl c=>
   cases Rep.bl' r3;cases c with
   |true=>
    refine (ZP H d (((xo.ext x1).ext x2).ext x3) (((he.ext xo x1).ext (xo.ext x1) x2).ext ((xo.ext x1).ext x2) x3) w3).bind λdd vd S4 s4 x4 w4 r4=>GM w4 (Rep.ext (((xo.ext x1).ext x2).ext x3) x4 (Rep.ext ((xo.ext x1).ext x2) x3 r2)) r4
   |false=>exact Sim.ok w3 (Zr _)
  |_=>exact True.intro
 |.ix a i,X,ρ,σ,S,s,xo,he,w=>by
  rw[ev,pv];exact (ZP H a xo he w).bind λd v S1 s1 x1 w1 r1=>(ZP H i (xo.ext x1) (he.ext xo x1) w1).bind λe u S2 s2 x2 w2 r2=>ZbO w2 (Rep.ext (xo.ext x1) x2 r1) r2
 |.sl a lo hi,X,ρ,σ,S,s,xo,he,w=>by
  rw[ev,pv];refine (ZP H a xo he w).bind λd v S1 s1 x1 w1 r1=>(Zdu H lo (xo.ext x1) (he.ext xo x1) w1).bind λl' l S2 s2 x2 w2 r2=>?_
  have r2:l'=l:=r2;subst r2;refine (Zdu H hi ((xo.ext x1).ext x2) ((he.ext xo x1).ext (xo.ext x1) x2) w2).bind λh' h S3 s3 x3 w3 r3=>?_
  have r3:h'=h:=r3;subst r3;exact Zcl (((xo.ext x1).ext x2).ext x3) w3 (Rep.ext ((xo.ext x1).ext x2) x3 (Rep.ext (xo.ext x1) x2 r1))
 |.rev a,X,ρ,σ,S,s,xo,he,w=>by
  rw[ev,pv];refine (ZP H a xo he w).bind λd v S1 s1 x1 w1 r1=>?_
  cases v with
  |tup vs=>obtain⟨ds,rfl,rs⟩:=Rep.tup' r1;exact Sim.ok w1 (ZQ rs.reverse)
  |_=>exact True.intro
 |.call f as,X,ρ,σ,S,s,xo,he,w=>by
  rw[ev,pv];exact (WZ H as xo he w).bind λds vs S1 s1 x1 w1 r1=>H f vs ds S1 s1 X (xo.ext x1) w1 r1
 |.blt f as,X,ρ,σ,S,s,xo,he,w=>by
  rw[ev,pv];exact (WZ H as xo he w).bind λds vs S1 s1 x1 w1 r1=>j9 (xo.ext x1) w1 r1
 |.isi a ts,X,ρ,σ,S,s,xo,he,w=>by
  rw[ev,pv];refine (ZP H a xo he w).bind λd v S1 s1 x1 w1 r1=>?_
  cases q:XX v ts with
  |none=>exact True.intro
  |some b=>
   rw[G4 r1 q];exact Sim.ok w1 (Zr _)
 |.inT a tab,X,ρ,σ,S,s,xo,he,w=>by
  rw[ev,pv];refine (ZP H a xo he w).bind λd v S1 s1 x1 w1 r1=>?_
  cases v with
  |int i=>cases Rep.int' r1;exact Sim.ok w1 (Zr _)
  |_=>exact True.intro
 |.comp1 cap nl t it ifs elt,X,ρ,σ,S,s,xo,he,w=>by
  rw[ev,pv];by_cases c:own nl t=true
  ·rw[Ph c]
   refine (wQ H it xo he w).bind λwk vs S1 s1 x1 w1 r1=>?_
   have hn:∀i∈t,i<nl:=λi hi=>PF (Pw.mp c i hi)
   have xo1:=xo.ext x1;exact zZ xo1 w1 r1 (Jz (he.ext xo x1)) λx d S2 s σ ds xo2 rx he2 w2 hm=>ZbB (λz=>absurd (xo1.lt _ xo1.z) (by omega)) (.inr rfl) (ZaB H ifs) (ZP H elt) (λi hi v=>Ua (hn i hi) v) xo2 rx he2 w2 hm
  ·rw[Pj c];exact True.intro
 |.comp2 cap nl t it ifs u jt jfs elt,X,ρ,σ,S,s,xo,he,w=>by
  rw[ev,pv];by_cases c:own2 nl t u=true
  ·rw[Ph c]
   refine (wQ H it xo he w).bind λwk vs S1 s1 x1 w1 r1=>?_
   obtain⟨c1,c2⟩:=(Pp _ _).mp c;have hn:∀i∈t,i<nl:=λi hi=>PF (Pw.mp c1 i hi)
   have hn2:∀i∈u,i<nl/\i∉t:=λi hi=>by
    obtain⟨a,b⟩:=(Pp _ _).mp (Pw.mp c2 i hi);exact⟨PF a,by simpa using b⟩
   have xo1:=xo.ext x1;exact zZ xo1 w1 r1 (Jz (he.ext xo x1)) λx d S2 s σ ds xo2 rx he2 w2 hm=>ZdC (λz=>absurd (xo1.lt _ xo1.z) (by omega)) (.inr rfl) (ZaB H ifs) (ZaB H jfs) (wQ H jt) (ZP H elt) (λi hi v=>Ua (hn i hi) v) (λi hi=>⟨(hn2 i hi).2,λv=>Ua (hn2 i hi).1 v⟩) xo2 rx he2 w2 hm
  ·rw[Pj c];exact True.intro
theorem WZ (H:ZV n0 C CV):∀(es:List E) {X:Nat->Prop}{ρ:Env}{σ:Lc}{S:Zc}{s:DS},Xok X n0 S->Ew S X n0 ρ σ->Dw n0 S s->Sim n0 S (Za3 X n0) (evs C es σ S) (pvs CV es ρ s)
 |[],X,ρ,σ,S,s,xo,he,w=>by rw[evs,pvs];exact Sim.ok w Rq.nil
 |e::es,X,ρ,σ,S,s,xo,he,w=>by
  rw[evs,pvs];exact (ZP H e xo he w).bind λd v S1 s1 x1 w1 r1=>(WZ H es (xo.ext x1) (he.ext xo x1) w1).bind λds vs S2 s2 x2 w2 r2=>Sim.ok w2 (Rq.cons (Rep.ext (xo.ext x1) x2 r1) r2)
theorem Zdu (H:ZV n0 C CV):∀(e:Option E) {X:Nat->Prop}{ρ:Env}{σ:Lc}{S:Zc}{s:DS},Xok X n0 S->Ew S X n0 ρ σ->Dw n0 S s->Sim n0 S RlE (evo C e σ S) (pvo CV e ρ s)
 |none,X,ρ,σ,S,s,xo,he,w=>by rw[evo,pvo];exact Sim.ok w rfl
 |some e,X,ρ,σ,S,s,xo,he,w=>by
  rw[evo,pvo];refine (ZP H e xo he w).bind λd v S1 s1 x1 w1 r1=>?_
  cases v with
  |int i=>cases Rep.int' r1;exact Sim.ok w1 rfl
  |_=>exact True.intro
theorem ZaB (H:ZV n0 C CV):∀(es:List E) {X:Nat->Prop}{ρ:Env}{σ:Lc}{S:Zc}{s:DS},Xok X n0 S->Ew S X n0 ρ σ->Dw n0 S s->Sim n0 S RlE (evt C es σ S) (pvt CV es ρ s)
 |[],X,ρ,σ,S,s,xo,he,w=>by rw[evt,pvt];exact Sim.ok w rfl
 |e::es,X,ρ,σ,S,s,xo,he,w=>by
  rw[evt,pvt];refine (ZP H e xo he w).bind λd v S1 s1 x1 w1 r1=>?_
  cases q:Z6 v with
  |none=>exact True.intro
  |some b=>
   rw[Xe r1 q];cases b with
   |true=>exact ZaB H es (xo.ext x1) (he.ext xo x1) w1
   |false=>exact Sim.ok w1 rfl
theorem wQ (H:ZV n0 C CV):∀(wk:W) {X:Nat->Prop}{ρ:Env}{σ:Lc}{S:Zc}{s:DS},Xok X n0 S->Ew S X n0 ρ σ->Dw n0 S s->Sim n0 S (WkR X n0) (evw C wk σ S) (pvw CV wk ρ s)
 |.rng1 a,X,ρ,σ,S,s,xo,he,w=>by
  rw[evw,pvw];refine (ZP H a xo he w).bind λd v S1 s1 x1 w1 r1=>?_
  cases v with
  |int i=>
   cases Rep.int' r1;exact Sim.guard λ_=>Sim.ok w1 ⟨Vz _ _,λp hp=>by cases hp⟩
  |_=>exact True.intro
 |.rng2 a b,X,ρ,σ,S,s,xo,he,w=>by
  rw[evw,pvw];refine (ZP H a xo he w).bind λd v S1 s1 x1 w1 r1=>(ZP H b (xo.ext x1) (he.ext xo x1) w1).bind λe u S2 s2 x2 w2 r2=>?_
  cases v with
  |int i=>cases u with
   |int j=>
    cases Rep.int' r1;cases Rep.int' r2;exact Sim.guard λ_=>Sim.ok w2 ⟨Vz _ _,λp hp=>by cases hp⟩
   |_=>exact True.intro
  |_=>exact True.intro
 |.rrng a b,X,ρ,σ,S,s,xo,he,w=>by
  rw[evw,pvw];refine (ZP H a xo he w).bind λd v S1 s1 x1 w1 r1=>(ZP H b (xo.ext x1) (he.ext xo x1) w1).bind λe u S2 s2 x2 w2 r2=>?_
  cases v with
  |int i=>cases u with
   |int j=>
    cases Rep.int' r1;cases Rep.int' r2;exact Sim.guard λ_=>Sim.ok w2 ⟨Rq.reverse (Vz _ _),λp hp=>by cases hp⟩
   |_=>exact True.intro
  |_=>exact True.intro
 |.rtup a,X,ρ,σ,S,s,xo,he,w=>by
  rw[evw,pvw];refine (ZP H a xo he w).bind λd v S1 s1 x1 w1 r1=>?_
  cases v with
  |tup xs=>
   obtain⟨es,rfl,r2⟩:=Rep.tup' r1;exact Sim.ok w1 ⟨Rq.reverse r2,λp hp=>by cases hp⟩
  |_=>exact True.intro
 |.zip a b,X,ρ,σ,S,s,xo,he,w=>by
  rw[evw,pvw];refine (ZP H a xo he w).bind λd v S1 s1 x1 w1 r1=>(ZP H b (xo.ext x1) (he.ext xo x1) w1).bind λe u S2 s2 x2 w2 r2=>?_
  cases q1:Z5 v with
  |none=>exact True.intro
  |some vs=>
   cases q2:Z5 u with
   |none=>exact True.intro
   |some us=>
    obtain⟨k1,e1,k2,k3⟩:=WS (Rep.ext (xo.ext x1) x2 r1) q1;obtain⟨l1,f1,l2,l3⟩:=WS r2 q2;rw[e1,f1];refine Sim.ok w2 ⟨JV k2 l2,λp hp=>?_⟩
    rcases Nd.mp hp with hp | hp
    ·exact k3 p hp
    ·exact l3 p hp
 |.enum a,X,ρ,σ,S,s,xo,he,w=>by
  rw[evw,pvw];refine (ZP H a xo he w).bind λd v S1 s1 x1 w1 r1=>?_
  cases q1:Z5 v with
  |none=>exact True.intro
  |some vs=>
   obtain⟨k1,e1,k2,k3⟩:=WS r1 q1;rw[e1];refine Sim.ok w1 ⟨?_,k3⟩;show Rq S1 X n0 (((Yj 0 vs.length).zip vs).map _) (((Zq 0 k1.items.length).zip k1.items).map _);rw[k2.length];exact JV (Vz _ _) k2
 |.of e,X,ρ,σ,S,s,xo,he,w=>by
  rw[evw,pvw];refine (ZP H e xo he w).bind λd v S1 s1 x1 w1 r1=>Sim.obp w1 λvs q=>WS r1 q
end
end
abbrev Own:=Nat->Option Nat
noncomputable def XW (X:Nat->Prop) (W:Own):Nat->Prop:=λn=>X n\/∃i,W i=some n
structure Eu (S:Zc) (X:Nat->Prop) (n0 base:Nat) (W:Own) (ρ:Env) (os:List Nat) (σ:Lc):Prop where
 xz:X n0
 xb:∀n,X n->n<base
 bs:base<=S.length
 len:ρ.length=σ.length
 osW:∀i,os.contains i=(W i).isSome
 inj:∀i j n,W i=some n->W j=some n->i=j
 pl:∀i n,W i=some n->base<=n
 own:∀i n,W i=some n->∃xs,ρ[i]? = some (some (.lst xs))/\ZB xs=true/\σ[i]? = some (some (.loc n))/\S[n]? = some (.lst (YG xs))
 val:∀(i:Nat) (v:V),ρ[i]? = some (some v)->W i=none->∃d,σ[i]? = some (some d)/\Rep S (XW X W) n0 v d
section
variable {S S':Zc}{X:Nat->Prop}{n0 base:Nat}{W W':Own}{ρ:Env}{os:List Nat}{σ:Lc}
theorem Eu.xok (h:Eu S X n0 base W ρ os σ):Xok X n0 S:=⟨h.xz,λn x=>PN (h.xb n x) h.bs⟩
theorem Eu.xokW (h:Eu S X n0 base W ρ os σ):Xok (XW X W) n0 S:=⟨.inl h.xz,λn x=>by
 rcases x with x | ⟨i,x⟩
 ·exact h.xok.lt n x
 ·obtain⟨xs,_,_,_,e⟩:=h.own i n x;exact Xw e⟩
theorem Eu.nx (h:Eu S X n0 base W ρ os σ) {i n:Nat}(e:W i=some n):¬X n:=λz=>by have:=h.xb n z;have:=h.pl i n e;omega
theorem Eu.ne (h:Eu S X n0 base W ρ os σ) {i n:Nat}(e:W i=some n):n≠n0:=λz=>h.nx e (z▸h.xz)
theorem Eu.all (h:Eu S X n0 base W ρ os σ):Ew S X n0 ρ σ:=⟨h.len,λi v e=>by
 cases q:W i with
 |none=>
  obtain⟨d,a,b⟩:=h.val i v e q;exact⟨d,a,b.mono (λ_ _ _ z=>z) λn _ z=>.inl z⟩
 |some n=>
  obtain⟨xs,a,b,c,d⟩:=h.own i n q;rw[a] at e;cases e;exact⟨_,c,GR d (h.nx q) (WA b)⟩⟩
theorem qK {i:Nat}{v:V}(e:(hide os ρ)[i]? = some (some v)):ρ[i]? = some (some v)/\os.contains i=false:=by
 unfold hide at e;rw[List.getElem?_mapIdx] at e;cases q:ρ[i]? with
 |none=>rw[q] at e;cases e
 |some o=>
  rw[q] at e;have e':(if os.contains i=true then none else o)=some v:=Pb e
  by_cases c:os.contains i=true
  ·rw[Ph c] at e';cases e'
  ·rw[Pj c] at e';exact⟨by rw[e'],by simpa using c⟩
theorem Eu.hid (h:Eu S X n0 base W ρ os σ):Ew S (XW X W) n0 (hide os ρ) σ:=⟨by unfold hide;rw[List.length_mapIdx];exact h.len,λi v e=>by
 obtain⟨a,b⟩:=qK e;rw[h.osW] at b;exact h.val i v a (by cases q:W i with | none=>rfl | some _=>rw[q] at b;cases b)⟩
theorem Eu.ext (h:Eu S X n0 base W ρ os σ) (e:Ext n0 S S'):Eu S' X n0 base W ρ os σ:=
 ⟨h.xz,h.xb,P4 h.bs e.len,h.len,h.osW,h.inj,h.pl,λi n q=>by
  obtain⟨xs,a,b,c,d⟩:=h.own i n q;exact⟨xs,a,b,c,e.keep n _ (h.ne q) d⟩,λi v a b=>by
  obtain⟨d,c,r⟩:=h.val i v a b;exact⟨d,c,r.ext h.xokW e⟩⟩
theorem Eu.noW (h:Eu S X n0 base W ρ [] σ):∀i,W i=none:=λi=>by
 have:=h.osW i;cases q:W i with
 |none=>rfl
 |some n=>rw[q] at this;cases this
theorem Eu.set {i:Nat}{v:V}{d:D}(h:Eu S X n0 base W ρ os σ) (hi:os.contains i=false) (r:Rep S (XW X W) n0 v d):Eu S X n0 base W (ρ.set i (some v)) os (σ.set i (some d)):=by
 have hw:W i=.none:=by have:=h.osW i;rw[hi] at this;cases q:W i with | none=>rfl | some _=>rw[q] at this;cases this
 refine⟨h.xz,h.xb,h.bs,by rw[P0,P0];exact h.len,h.osW,h.inj,h.pl,λj n q=>?_,λj w e q=>?_⟩
 ·obtain⟨xs,a,b,c,e⟩:=h.own j n q
  have ij:i≠j:=λz=>by rw[z,q] at hw;cases hw
  exact⟨xs,by rw[PK ij];exact a,b,by rw[PK ij];exact c,e⟩
 ·rw[NF] at e ⊢
  by_cases c:i=j
  ·rw[Ph c] at e ⊢
   by_cases l:i<ρ.length
   ·rw[Ph l] at e
    rw[Ph (by rw[<-h.len];exact l)]
    cases e;exact⟨d,rfl,r⟩
   ·rw[Pj l] at e;cases e
  ·rw[Pj c] at e ⊢
   exact h.val j w e q
theorem Eu.fill:∀{t:List Nat}{vs:List V}{ds:List D}{ρ ρ':Env}{σ:Lc},Eu S X n0 base W ρ os σ->(t.any os.contains)=false->Rq S (XW X W) n0 vs ds->YS t vs ρ=some ρ'->∃σ',Ev.fill t ds σ=some σ'/\Eu S X n0 base W ρ' os σ'
 |[],[],_,ρ,ρ',σ,h,_,r,e=>by rw[r.nil'];cases e;exact⟨σ,rfl,h⟩
 |[],_::_,_,_,_,_,_,_,_,e=>by cases e
 |_::_,[],_,_,_,_,_,_,_,e=>by cases e
 |i::t,v::vs,_,ρ,ρ',σ,h,ht,r,e=>by
  obtain⟨d,ds,rfl,a,b⟩:=r.cons';rw[List.any_cons,Bool.or_eq_false_iff] at ht;exact Eu.fill (t:=t) (vs:=vs) (h.set ht.1 a) ht.2 b e
theorem Eu.assign {t:List Nat}{v:V}{d:D}{ρ':Env}(h:Eu S X n0 base W ρ os σ) (ht:(t.any os.contains)=false) (r:Rep S (XW X W) n0 v d) (e:Zs t v ρ=some ρ'):∃σ',Ev.assign t d S σ=some σ'/\Eu S X n0 base W ρ' os σ':=by
 have gen:∀t:List Nat,(t.any os.contains)=false->(match Z5 v with
   |some xs=>YS t xs ρ
   |none=>none)=some ρ'->∃σ',(match d with
   |.tup xs=>Ev.fill t xs σ
   |.loc n=>match Zj S n with
    |some xs=>Ev.fill t xs σ
    |none=>none
   |_=>none)=some σ'/\Eu S X n0 base W ρ' os σ':=by
  intro t ht e;cases v with
  |tup vs=>obtain⟨ds,rfl,rs⟩:=r.tup';exact h.fill ht rs e
  |lst vs=>
   obtain⟨n,ds,rfl,hs,_,rs⟩:=r.lst';obtain⟨σ',a,b⟩:=h.fill ht rs e;refine⟨σ',?_,b⟩;show (match Zj S n with
    |some xs=>Ev.fill t xs σ
    |.none=>.none)=some σ'
   rw[ZF hs];exact a
  |_=>cases e
 match t,ht,e with
 |[i],ht,e=>
  cases e;exact⟨_,rfl,h.set (by simpa using ht) r⟩
 |[],ht,e=>exact gen [] ht e
 |i::j::t,ht,e=>exact gen (i::j::t) ht e
theorem Eu.drop {i:Nat}{v:V}{d:D}(h:Eu S X n0 base W ρ os σ) (r:Rep S (XW X W) n0 v d):Eu S X n0 base (λj=>if j=i then .none else W j) (ρ.set i (some v)) (os.filter (· != i)) (σ.set i (some d)):=by
 have sub:∀n,XW X (λj=>if j=i then none else W j) n->XW X W n:=λn z=>by
  rcases z with z | ⟨j,z⟩
  ·exact .inl z
  ·by_cases c:j=i
   ·simp only[c,N3] at z;cases z
   ·simp only[c,ND] at z;exact .inr ⟨j,z⟩
 have get:∀{j n:Nat},(if j=i then Option.none else W j)=some n->j≠i/\W j=some n:=λ{j n} z=>by
  by_cases c:j=i
  ·rw[Ph c] at z;cases z
  ·rw[Pj c] at z;exact⟨c,z⟩
 refine⟨h.xz,h.xb,h.bs,by rw[P0,P0];exact h.len,λj=>?_,λa b n x y=>h.inj a b n (get x).2 (get y).2,λj n z=>h.pl j n (get z).2,λj n z=>?_,λj w e z=>?_⟩
 ·by_cases c:j=i
  ·simp[c]
  ·simp only[c,ND]
   rw[<-h.osW j,Nf,Nl,Nl,Na];simp[c]
 ·obtain⟨xs,a,b,c,e⟩:=h.own j n (get z).2
  have ij:i≠j:=Ne.symm (get z).1;exact⟨xs,by rw[PK ij];exact a,b,by rw[PK ij];exact c,e⟩
 ·rw[NF] at e ⊢
  by_cases c:i=j
  ·rw[Ph c] at e ⊢
   by_cases l:i<ρ.length
   ·rw[Ph l] at e
    rw[Ph (by rw[<-h.len];exact l)]
    cases e;exact⟨d,rfl,r.mono (λ_ _ _ q=>q) λn _ q=>sub n q⟩
   ·rw[Pj l] at e;cases e
  ·rw[Pj c] at e ⊢
   rw[Pj (Ne.symm c)] at z;obtain⟨d',a,b⟩:=h.val j w e z;exact⟨d',a,b.mono (λ_ _ _ q=>q) λn _ q=>sub n q⟩
theorem Eu.take {S0:Zc}{i n:Nat}{xs:List V}(h:Eu S0 X n0 base W ρ os σ) (e:Ext n0 S0 S) (hn:S0.length<=n) (hf:ZB xs=true) (r:Rep S (XW X W) n0 (.lst xs) (.loc n)) (hi:i<ρ.length) :
  Eu S X n0 base (λj=>if j=i then some n else W j) (ρ.set i (some (.lst xs))) (i::os.filter (· != i)) (σ.set i (some (.loc n))):=by
 obtain⟨n',ds,en,hs,hx,rs⟩:=r.lst';cases en;have ed:=XG hf rs;subst ed;have h1:=h.ext e;have sub:∀m,m<S0.length->XW X (λj=>if j=i then some n else W j) m->XW X W m:=λm hm z=>by
  rcases z with z | ⟨j,z⟩
  ·exact .inl z
  ·by_cases c:j=i
   ·simp only[c,N3] at z
    have:n=m:=Pb z;omega
   ·simp only[c,ND] at z;exact .inr ⟨j,z⟩
 have get:∀{j m:Nat},(if j=i then some n else W j)=some m->(j=i/\n=m)\/(j≠i/\W j=some m):=λ{j m} z=>by
  by_cases c:j=i
  ·rw[Ph c] at z;exact .inl ⟨c,Pb z⟩
  ·rw[Pj c] at z;exact .inr ⟨c,z⟩
 refine⟨h1.xz,h1.xb,h1.bs,by rw[P0,P0];exact h.len,λj=>?_,λa b m x y=>?_,λj m z=>?_,λj m z=>?_,λj w q z=>?_⟩
 ·by_cases c:j=i
  ·simp[c]
  ·simp only[c,ND]
   rw[<-h.osW j,Nf,Nl,Nl,Po,Na];simp[c]
 ·rcases get x with ⟨x1,x2⟩ | ⟨x1,x2⟩
  ·rcases get y with ⟨y1,y2⟩ | ⟨y1,y2⟩
   ·rw[x1,y1]
   ·exact absurd (.inr ⟨b,x2▸y2⟩) hx
  ·rcases get y with ⟨y1,y2⟩ | ⟨y1,y2⟩
   ·exact absurd (.inr ⟨a,y2▸x2⟩) hx
   ·exact h.inj a b m x2 y2
 ·rcases get z with ⟨z1,z2⟩ | ⟨z1,z2⟩
  ·have:=h.bs;omega
  ·exact h.pl j m z2
 ·rcases get z with ⟨z1,z2⟩ | ⟨z1,z2⟩
  ·subst z1 z2
   exact⟨xs,No hi,hf,No (by rw[<-h.len];exact hi),hs⟩
  ·obtain⟨ys,a,b,c,q⟩:=h1.own j m z2
   exact⟨ys,by rw[PK (Ne.symm z1)];exact a,b,by rw[PK (Ne.symm z1)];exact c,q⟩
 ·by_cases c:j=i
  ·rw[Ph c] at z;cases z
  ·rw[Pj c] at z
   rw[PK (Ne.symm c)] at q ⊢;obtain⟨d,a,b⟩:=h.val j w q z;exact⟨d,a,b.mono (λm o nx hs=>e.keep m o (λq=>nx (q▸.inl h.xz)) hs) sub⟩
theorem Eu.mut {i n:Nat}{ys:List V}(h:Eu S X n0 base W ρ os σ) (hw:W i=some n) (hf:ZB ys=true):Eu (S.set n (.lst (YG ys))) X n0 base W (ρ.set i (some (.lst ys))) os σ:=by
 obtain⟨xs,a,b,c,e⟩:=h.own i n hw;have hi:i<ρ.length:=(Pr.mp a).1;refine⟨h.xz,h.xb,by rw[P0];exact h.bs,by rw[P0];exact h.len,h.osW,h.inj,h.pl,λj m z=>?_,λj w q z=>?_⟩
 ·by_cases k:i=j
  ·subst k
   rw[hw] at z;cases z;exact⟨ys,No hi,hf,c,No (Xw e)⟩
  ·obtain⟨zs,a',b',c',e'⟩:=h.own j m z
   exact⟨zs,by rw[PK k];exact a',b',c',by rw[PK (λq:n=m=>k (h.inj i j n hw (by rw[q];exact z)))];exact e'⟩
 ·have k:i≠j:=λk=>by rw[<-k,hw] at z;cases z
  rw[PK k] at q;obtain⟨d,a',b'⟩:=h.val j w q z;exact⟨d,a',b'.mono (λm o nx hs=>by rw[PK (λq:n=m=>nx (.inr ⟨i,by rw[<-q];exact hw⟩))];exact hs) λ_ _ q=>q⟩
end
structure ExtS (n0:Nat) (W:Own) (S S':Zc):Prop where
 len:S.length<=S'.length
 keep:∀n o,n≠n0->(∀i,W i≠some n)->S[n]? = some o->S'[n]? = some o
def WExt (S:Zc) (W W':Own):Prop:=∀i n,W' i=some n->(∃j,W j=some n)\/S.length<=n
theorem Ext.s {n0:Nat}{W:Own}{S S':Zc}(h:Ext n0 S S'):ExtS n0 W S S':=⟨h.len,λn o a _ e=>h.keep n o a e⟩
theorem ExtS.trans {n0:Nat}{W W':Own}{S S1 S2:Zc}(a:ExtS n0 W S S1) (w:WExt S W W') (b:ExtS n0 W' S1 S2):ExtS n0 W S S2:=⟨P4 a.len b.len,λn o h z e=>b.keep n o h (λi q=>by
 rcases w i n q with ⟨j,q⟩ | q
 ·exact z j q
 ·exact absurd (Xw e) (by omega)) (a.keep n o h z e)⟩
theorem WExt.refl {S:Zc}{W:Own}:WExt S W W:=λi n h=>.inl ⟨i,h⟩
theorem WExt.trans {S S1:Zc}{W W1 W2:Own}(a:WExt S W W1) (l:S.length<=S1.length) (b:WExt S1 W1 W2):WExt S W W2:=λi n h=>by
 rcases b i n h with ⟨j,h⟩ | h
 ·exact a j n h
 ·exact .inr (P4 l h)
def FlR (X:Nat->Prop) (n0 base:Nat) (S:Zc) (W:Own) (S':Zc):FlV->Fl->Prop
 |.nx ρ os,.nx σ=>∃W',WExt S W W'/\Eu S' X n0 base W' ρ os σ
 |.brk ρ os,.brk σ=>∃W',WExt S W W'/\Eu S' X n0 base W' ρ os σ
 |.cnt ρ os,.cnt σ=>∃W',WExt S W W'/\Eu S' X n0 base W' ρ os σ
 |.ret v,.ret d=>Rep S' X n0 v d
 |_,_=>False
def ZD (X:Nat->Prop) (n0 base:Nat) (S:Zc) (W:Own) (r:R Fl) (q:PR FlV):Prop:=match q with
 |.no=>True
 |.ex c s'=>∃S',r=.ex c S'/\ExtS n0 W S S'/\Dw n0 S' s'
 |.ok f s'=>∃g S',r=.ok g S'/\ExtS n0 W S S'/\Dw n0 S' s'/\FlR X n0 base S W S' f g
section
variable {α β:Type}{S S':Zc}{X:Nat->Prop}{n0 base:Nat}{W W':Own}{ρ:Env}{os:List Nat}{σ:Lc}
theorem FlR.from {S1:Zc}{f:FlV}{g:Fl}(w:WExt S W W') (l:S.length<=S1.length) (h:FlR X n0 base S1 W' S' f g):FlR X n0 base S W S' f g:=by
 cases f with
 |nx ρ os=>cases g with
  |nx σ=>obtain⟨W2,a,b⟩:=h;exact⟨W2,w.trans l a,b⟩
  |_=>exact h.elim
 |brk ρ os=>cases g with
  |brk σ=>obtain⟨W2,a,b⟩:=h;exact⟨W2,w.trans l a,b⟩
  |_=>exact h.elim
 |cnt ρ os=>cases g with
  |cnt σ=>obtain⟨W2,a,b⟩:=h;exact⟨W2,w.trans l a,b⟩
  |_=>exact h.elim
 |ret v=>cases g with
  |ret d=>exact h
  |_=>exact h.elim
theorem ZD.from {S1:Zc}{r:R Fl}{q:PR FlV}(x:ExtS n0 W S S1) (w:WExt S W W') (h:ZD X n0 base S1 W' r q):ZD X n0 base S W r q:=by
 cases q with
 |no=>exact True.intro
 |ex c s'=>obtain⟨S2,a,b,c⟩:=h;exact⟨S2,a,x.trans w b,c⟩
 |ok f s'=>obtain⟨g,S2,a,b,c,d⟩:=h;exact⟨g,S2,a,x.trans w b,c,FlR.from w x.len d⟩
theorem ZD.bindE {Rl:Zc->β->α->Prop}{r:R α}{q:PR β}{f:α->Zc->R Fl}{g:β->DS->PR FlV}(h:Sim n0 S Rl r q)
  (k:∀a b S' s',Ext n0 S S'->Dw n0 S' s'->Rl S' b a->ZD X n0 base S' W (f a S') (g b s')):ZD X n0 base S W (r.bind f) (q.bind g):=by
 cases q with
 |no=>exact True.intro
 |ex c s'=>obtain⟨S',e,x,w⟩:=h;rw[e];exact⟨S',rfl,x.s,w⟩
 |ok b s'=>
  obtain⟨a,S',e,x,w,rl⟩:=h;rw[e];exact ZD.from x.s WExt.refl (k a b S' s' x w rl)
theorem ZD.nx {s:DS}{σ':Lc}{ρ':Env}{os':List Nat}(w:Dw n0 S s) (hw:WExt S W W') (h:Eu S X n0 base W' ρ' os' σ'):ZD X n0 base S W (.ok (.nx σ') S) (.ok (.nx ρ' os') s):=⟨_,S,rfl,Ext.refl.s,w,W',hw,h⟩
end
section
variable {n0:Nat}{C:Calls}{CV:Zu}{X:Nat->Prop}{base:Nat}
theorem Zdx (H:ZV n0 C CV) (e:E) {W:Own}{ρ:Env}{os:List Nat}{σ:Lc}{S:Zc}{s:DS}(he:Eu S X n0 base W ρ os σ) (w:Dw n0 S s):Sim n0 S (RlV (XW X W) n0) (ev C e σ S) (pvA CV e ρ os s):=by
 cases os with
 |nil=>
  have hh:Ew S (XW X W) n0 ρ σ:=⟨he.len,λi v q=>he.val i v q (he.noW i)⟩
  exact ZP H e he.xokW hh w
 |cons o os=>
  show Sim n0 S (RlV (XW X W) n0) (ev C e σ S) (match pv CV e (hide (o::os) ρ) s with
   |.ok v s=>.ok v s
   |.ex c s=>.ex c s
   |.no=>(pv CV e ρ s).bind λv s=>if v.flat then .ok v s else .no)
  have h1:=ZP H e he.xokW he.hid w;cases q:pv CV e (hide (o::os) ρ) s with
  |ok v s1=>rw[q] at h1;exact h1
  |ex c s1=>rw[q] at h1;exact h1
  |no=>
   have h2:=ZP H e he.xok he.all w;cases q2:pv CV e ρ s with
   |no=>exact True.intro
   |ex c s1=>rw[q2] at h2;exact h2
   |ok v s1=>
    rw[q2] at h2;show Sim n0 S (RlV (XW X W) n0) (ev C e σ S) (if v.flat=true then .ok v s1 else .no)
    by_cases c:v.flat=true
    ·rw[Ph c]
     obtain⟨d,S',a1,a2,a3,a4⟩:=h2;exact⟨d,S',a1,a2,a3,by rw[Wh c a4];exact Qc c⟩
    ·rw[Pj c];exact True.intro
theorem Zdf (H:ZV n0 C CV) (es:List E) {W:Own}{ρ:Env}{os:List Nat}{σ:Lc}{S:Zc}{s:DS}(he:Eu S X n0 base W ρ os σ) (w:Dw n0 S s):Sim n0 S (Za3 (XW X W) n0) (evs C es σ S) (Zds CV es ρ os s):=by
 cases os with
 |nil=>
  have hh:Ew S (XW X W) n0 ρ σ:=⟨he.len,λi v q=>he.val i v q (he.noW i)⟩
  exact WZ H es he.xokW hh w
 |cons o os=>
  show Sim n0 S (Za3 (XW X W) n0) (evs C es σ S) ((pvs CV es ρ s).bind λv s=>if ZB v=true then .ok v s else .no)
  have h2:=WZ H es he.xok he.all w;cases q2:pvs CV es ρ s with
  |no=>exact True.intro
  |ex c s1=>rw[q2] at h2;exact h2
  |ok v s1=>
   rw[q2] at h2;show Sim n0 S (Za3 (XW X W) n0) (evs C es σ S) (if ZB v=true then .ok v s1 else .no)
   by_cases c:ZB v=true
   ·rw[Ph c]
    obtain⟨d,S',a1,a2,a3,a4⟩:=h2;exact⟨d,S',a1,a2,a3,by rw[XG c a4];exact WA c⟩
   ·rw[Pj c];exact True.intro
theorem Jy (H:ZV n0 C CV) {e:E}(hf:fresh e=true) {ρ:Env}{σ:Lc}{S S':Zc}{s s':DS}{xs:List V}{d:D}(xo:Xok X n0 S) (he:Ew S X n0 ρ σ) (w:Dw n0 S s) (q:pv CV e ρ s=.ok (.lst xs) s') (r:ev C e σ S=.ok d S'):∃n,d=.loc n/\S.length<=n:=by
 have bo:∀{α β:Type} {r:R α} {f:α->Zc->R β} {b:β} {S':Zc},r.bind f=.ok b S'->∃a S1,r=.ok a S1/\f a S1=.ok b S':=λ{α β r f b S'} h=>by
  cases r with
  |no=>cases h
  |ex _ _=>cases h
  |ok a S1=>exact⟨a,S1,rfl,h⟩
 have ifo:∀{α:Type} {P:Prop} [Decidable P] {r:R α} {b:α} {S':Zc},(if P then r else .no)=.ok b S'->r=.ok b S':=λ{α P _ r b S'} h=>by
  by_cases c:P
  ·rw[Ph c] at h;exact h
  ·rw[Pj c] at h;cases h
 cases e with
 |lst es=>
  rw[pv] at q;obtain⟨vs,s1,q1,_⟩:=Yf q;obtain⟨ds,S1,e1,x1,_,_⟩:=(WZ H es xo he w).out q1;rw[ev,e1] at r;have r:=ifo (show (if ds.length<=lim then R.ok (D.loc S1.length) (S1++[.lst ds]) else .no)=.ok d S' from r)
  cases r;exact⟨_,rfl,x1.len⟩
 |comp1 cap nl t it ifs elt=>
  rw[pv] at q;by_cases c:own nl t=true
  ·rw[Ph c] at q
   obtain⟨vs,s1,q1,_⟩:=Yf q;obtain⟨wk,S1,e1,x1,_,_⟩:=(wQ H it xo he w).out q1;rw[ev,e1] at r;obtain⟨_,_,ea,r⟩:=bo r;cases ea;obtain⟨_,S2,_,r⟩:=bo r;cases r;exact⟨_,rfl,x1.len⟩
  ·rw[Pj c] at q;cases q
 |comp2 cap nl t it ifs u jt jfs elt=>
  rw[pv] at q;by_cases c:own2 nl t u=true
  ·rw[Ph c] at q
   obtain⟨vs,s1,q1,_⟩:=Yf q;obtain⟨wk,S1,e1,x1,_,_⟩:=(wQ H it xo he w).out q1;rw[ev,e1] at r;obtain⟨_,_,ea,r⟩:=bo r;cases ea;obtain⟨_,S2,_,r⟩:=bo r;cases r;exact⟨_,rfl,x1.len⟩
  ·rw[Pj c] at q;cases q
 |bin op a b=>
  cases op with
  |mul=>cases a with
   |lst es=>
    rw[pv] at q;obtain⟨x,s1,q1,q⟩:=Yf q;obtain⟨y,s2,q2,q⟩:=Yf q;obtain⟨dx,S1,e1,x1,w1,r1⟩:=(ZP H (.lst es) xo he w).out q1;obtain⟨dy,S2,e2,x2,w2,r2⟩:=(ZP H b (xo.ext x1) (he.ext xo x1) w1).out q2;rw[ev,e1] at r;have r:(ev C b σ S1).bind (λy S=>Ys .mul dx y S)=.ok d S':=r
    rw[e2] at r;have r:Ys .mul dx dy S2=.ok d S':=r;cases x with
    |lst us=>cases y with
     |int j=>
      obtain⟨n,ds,rfl,hs,_,_⟩:=Rep.lst' r1;cases Rep.int' r2;have hs2:=x2.keep n _ (λz=>?_) hs
      ·have r:(match Zj S2 n with
        |some a=>if 0<=j/\j<1000/\a.length<=1000 then R.ok (D.loc S2.length) (S2++[Ob.lst (List.replicate j.toNat a).flatten]) else .no
        |none=>.no)=.ok d S':=r
       rw[ZF hs2] at r;have r:=ifo (show (if 0<=j/\j<1000/\ds.length<=1000 then R.ok (D.loc S2.length) (S2++[Ob.lst (List.replicate j.toNat ds).flatten]) else .no)=.ok d S' from r)
       cases r;exact⟨_,rfl,P4 x1.len x2.len⟩
      ·obtain⟨n',_,en,_,nx,_⟩:=Rep.lst' r1
       cases en;exact nx (z▸xo.z)
     |_=>cases q
    |tup us=>cases y with
     |int j=>
      have q:(if 0<=j/\j<1000/\us.length<=1000 then PR.ok (V.tup (List.replicate j.toNat us).flatten) s2 else .no)=.ok (.lst xs) s':=q
      by_cases c:0<=j/\j<1000/\us.length<=1000
      ·rw[Ph c] at q;cases q
      ·rw[Pj c] at q;cases q
     |_=>cases q
    |int i=>cases y with
     |int j=>
      have q:(if (fits i&&fits j)=true then PR.ok (V.int (i*j)) s2 else .no)=.ok (.lst xs) s':=q
      by_cases c:(fits i&&fits j)=true
      ·rw[Ph c] at q;cases q
      ·rw[Pj c] at q;cases q
     |_=>cases q
    |_=>cases y <;> cases q
   |_=>cases hf
  |_=>cases hf
 |blt f as=>
  cases f with
  |list=>
   rw[pv] at q;obtain⟨vs,s1,q1,q⟩:=Yf q;obtain⟨ds,S1,e1,x1,w1,r1⟩:=(WZ H as xo he w).out q1;rw[ev,e1] at r;have r:YQ .list ds S1=.ok d S':=r
   match ds,r with
   |[z],r=>
    obtain⟨_,S2,r1,r⟩:=bo (show (ob (Xu S1 z) S1).bind (λxs S=>R.ok (D.loc S.length) (S++[.lst xs]))=.ok d S' from r)
    cases q:Xu S1 z with
    |none=>rw[q] at r1;cases r1
    |some _=>rw[q] at r1;cases r1;cases r;exact⟨_,rfl,x1.len⟩
  |_=>cases hf
 |_=>cases hf
end
theorem Wp:∀(a b:List V),YG (a++b)=YG a++YG b
 |[],b=>rfl
 |x::a,b=>by rw[List.cons_append];show toD x::YG (a++b)=_;rw[Wp a b];rfl
theorem X0:∀{a b:List V},ZB a=true->ZB b=true->ZB (a++b)=true
 |[],b,_,h=>h
 |x::a,b,h,h'=>by
  unfold ZB at h;obtain⟨h1,h2⟩:=(Pp _ _).mp h;show (x.flat&&ZB (a++b))=true;rw[h1,X0 h2 h'];rfl
theorem zF:∀(a:List V) (j:Nat) (v:V),YG (a.set j v)=(YG a).set j (toD v)
 |[],_,_=>rfl
 |x::a,0,v=>rfl
 |x::a,j+1,v=>by show toD x::YG (a.set j v)=toD x::(YG a).set j (toD v);rw[zF a j v]
theorem Jx:∀{a:List V}{j:Nat}{v:V},ZB a=true->v.flat=true->ZB (a.set j v)=true
 |[],_,_,h,_=>h
 |x::a,0,v,h,h'=>by
  unfold ZB at h;obtain⟨h1,h2⟩:=(Pp _ _).mp h;show (v.flat&&ZB a)=true;rw[h',h2];rfl
 |x::a,j+1,v,h,h'=>by
  unfold ZB at h;obtain⟨h1,h2⟩:=(Pp _ _).mp h;show (x.flat&&ZB (a.set j v))=true;rw[h1,Jx h2 h'];rfl
theorem YO:∀a:List V,(YG a).length=a.length
 |[]=>rfl
 |x::a=>by show (YG a).length+1=_;rw[YO a];rfl
theorem x8 {C:Calls}{e:E}{σ:Lc}{S:Zc}:evs C [e] σ S=(ev C e σ S).bind λx S=>.ok [x] S:=by
 rw[evs];rfl
section
variable {n0:Nat}{C:Calls}{CV:Zu}{X:Nat->Prop}{base:Nat}{W:Own}{ρ:Env}{os:List Nat}{σ:Lc}{S:Zc}{s:DS}
theorem Eu.at (h:Eu S X n0 base W ρ os σ) {i:Nat}(hi:os.contains i=true):∃n xs,W i=some n/\ρ[i]? = some (some (.lst xs))/\ZB xs=true/\σ[i]? = some (some (.loc n))/\S[n]? = some (.lst (YG xs)):=by
 rw[h.osW] at hi;obtain⟨n,hn⟩:=NP.mp hi;obtain⟨xs,a,b,c,d⟩:=h.own i n hn;exact⟨n,xs,hn,a,b,c,d⟩
theorem jK {n:Nat}{o:Ob}{i:Nat}(hw:W i=some n):ExtS n0 W S (S.set n o):=⟨by simp,λm o' _ z e=>by rw[PK (λq:n=m=>z i (by rw[<-q];exact hw))];exact e⟩
theorem ZD.mutd {i n:Nat}{ys:List V}(he:Eu S X n0 base W ρ os σ) (w:Dw n0 S s) (hw:W i=some n) (hf:ZB ys=true):ZD X n0 base S W (.ok (.nx σ) (S.set n (.lst (YG ys)))) (.ok (.nx (ρ.set i (some (.lst ys))) os) s):=
 ⟨_,_,rfl,jK hw,⟨by rw[PK (he.ne hw)];exact w.1,w.2⟩,W,WExt.refl,he.mut hw hf⟩
theorem Zab {op:Bop}{x y z:V}{s s':DS}(h:yW op x y s=.ok z s'):∃i,z=.int i:=by
 cases x with
 |int i=>cases y with
  |int j=>
   have ifo:∀{P:Prop} [Decidable P] {k:Int} ,(if P then PR.ok (V.int k) s else .no)=.ok z s'->∃i,z=.int i:=λ{P _ k} h=>by
    by_cases c:P
    ·rw[Ph c] at h;cases h;exact⟨_,rfl⟩
    ·rw[Pj c] at h;cases h
   cases op with
   |add=>cases h;exact⟨_,rfl⟩
   |sub=>cases h;exact⟨_,rfl⟩
   |mul=>exact ifo h
   |fdiv=>exact ifo h
   |mod=>exact ifo h
   |pow=>exact ifo h
  |_=>cases h
 |_=>cases h
theorem qf (H:ZV n0 C CV) (e:E) (he:Eu S X n0 base W ρ os σ) (w:Dw n0 S s):Sim n0 S RlE (tst C e σ S) (V2 CV e ρ s):=by
 refine (ZP H e he.xok he.all w).bind λd v S1 s1 x1 w1 r1=>?_
 cases q:Z6 v with
 |none=>exact True.intro
 |some b=>rw[Xe r1 q];exact Sim.ok w1 rfl
theorem Zbq (H:ZV n0 C CV) (e:E) (he:Eu S X n0 base W ρ os σ) (w:Dw n0 S s):ZD X n0 base S W ((ev C e σ S).bind λ_ S=>.ok (.nx σ) S) ((pv CV e ρ s).bind λ_ s=>.ok (.nx ρ os) s):=
 ZD.bindE (ZP H e he.xok he.all w) λd v S1 s1 x1 w1 r1=>ZD.nx w1 WExt.refl (he.ext x1)
theorem yL (H:ZV n0 C CV) (i:Nat) (e:E) (he:Eu S X n0 base W ρ os σ) (w:Dw n0 S s):ZD X n0 base S W ((ev C (.mt .append (.v i) [e]) σ S).bind λ_ S=>.ok (.nx σ) S)
  (if os.contains i=true then (po (W3 ρ[i]?) s).bind λxs s=>(pv CV e ρ s).bind λv s=>if v.flat=true/\xs.length<lim then .ok (.nx (ρ.set i (some (.lst (xs++[v])))) os) s else .no else .no):=by
 by_cases c:os.contains i=true
 ·rw[Ph c]
  obtain⟨n,xs,hw,a1,a2,a3,a4⟩:=he.at c;have e0:W3 ρ[i]? = some xs:=by rw[a1];rfl
  rw[e0];show ZD X n0 base S W _ ((pv CV e ρ s).bind _);have e1:(ev C (.mt .append (.v i) [e]) σ S).bind (λ_ S=>R.ok (Fl.nx σ) S)=(ev C e σ S).bind λd S=>(W9 .append (.loc n) [d] S).bind λ_ S=>.ok (.nx σ) S:=by
   rw[ev,ev,a3];show R.bind (if Qg S (.loc n)=true then _ else _) _=_
   rw[Ph (by show (Zj S n).isSome=true;rw[ZF a4];rfl),x8]
   cases ev C e σ S <;> rfl
  rw[e1];refine ZD.bindE (ZP H e he.xok he.all w) λd v S1 s1 x1 w1 r1=>?_
  have he1:=he.ext x1;have a5:=x1.keep n _ (he.ne hw) a4;by_cases c2:v.flat=true/\xs.length<lim
  ·rw[Ph c2]
   have hm:W9 .append (.loc n) [d] S1=.ok .non (S1.set n (.lst (YG xs++[d]))):=by
    show R.bind (ob (Zj S1 n) S1) _=_;rw[ZF a5];show (if (YG xs).length<lim then _ else _)=_
    rw[Ph (by rw[YO];exact c2.2)]
   rw[hm];have:=ZD.mutd (ys:=xs++[v]) he1 w1 hw (X0 a2 (by show (v.flat&&true)=true;rw[c2.1];rfl))
   rw[Wp] at this;rw[Wh c2.1 r1];exact this
  ·rw[Pj c2];exact True.intro
 ·rw[Pj c];exact True.intro
theorem yA (H:ZV n0 C CV) (i:Nat) (e:E) (he:Eu S X n0 base W ρ os σ) (w:Dw n0 S s):ZD X n0 base S W ((ev C (.mt .extend (.v i) [e]) σ S).bind λ_ S=>.ok (.nx σ) S)
  (if os.contains i=true then (po (W3 ρ[i]?) s).bind λxs s=>(pv CV e (hide os ρ) s).bind λv s=>match v with
   |.lst ys=>if ZB ys=true/\xs.length+ys.length<=lim then .ok (.nx (ρ.set i (some (.lst (xs++ys)))) os) s else .no
   |_=>.no
  else .no):=by
 by_cases c:os.contains i=true
 ·rw[Ph c]
  obtain⟨n,xs,hw,a1,a2,a3,a4⟩:=he.at c;have e0:W3 ρ[i]? = some xs:=by rw[a1];rfl
  rw[e0];show ZD X n0 base S W _ ((pv CV e (hide os ρ) s).bind _);have e1:(ev C (.mt .extend (.v i) [e]) σ S).bind (λ_ S=>R.ok (Fl.nx σ) S)=(ev C e σ S).bind λd S=>(W9 .extend (.loc n) [d] S).bind λ_ S=>.ok (.nx σ) S:=by
   rw[ev,ev,a3];show R.bind (if Qg S (.loc n)=true then _ else _) _=_
   rw[Ph (by show (Zj S n).isSome=true;rw[ZF a4];rfl),x8]
   cases ev C e σ S <;> rfl
  rw[e1];refine ZD.bindE (ZP H e he.xokW he.hid w) λd v S1 s1 x1 w1 r1=>?_
  have he1:=he.ext x1;have a5:=x1.keep n _ (he.ne hw) a4;cases v with
  |lst ys=>
   obtain⟨k,ds,rfl,hs,hx,rs⟩:=Rep.lst' r1;show ZD X n0 base S1 W _ (if ZB ys=true/\xs.length+ys.length<=lim then .ok (.nx (ρ.set i (some (.lst (xs++ys)))) os) s1 else .no)
   by_cases c2:ZB ys=true/\xs.length+ys.length<=lim
   ·rw[Ph c2]
    have ed:=XG c2.1 rs;subst ed;have hm:W9 .extend (.loc n) [.loc k] S1=.ok .non (S1.set n (.lst (YG xs++YG ys))):=by
     show (if n=k then R.no else (ob (Zj S1 n) S1).bind λxs S=>(ob (Zj S k) S).bind λys S=>if xs.length+ys.length<=lim then R.ok D.non (S.set n (.lst (xs++ys))) else .no)=_
     rw[Pj (λz:n=k=>hx (.inr ⟨i,by rw[<-z];exact hw⟩)),ZF a5]
     show R.bind (ob (Zj S1 k) S1) _=_;rw[ZF hs];show (if (YG xs).length+(YG ys).length<=lim then _ else _)=_
     rw[Ph (by rw[YO,YO];exact c2.2)]
    rw[hm];have:=ZD.mutd (ys:=xs++ys) he1 w1 hw (X0 a2 c2.1);rw[Wp] at this;exact this
   ·rw[Pj c2];exact True.intro
  |_=>exact True.intro
 ·rw[Pj c];exact True.intro
theorem ZaK (H:ZV n0 C CV) (i:Nat) (k e:E) (he:Eu S X n0 base W ρ os σ) (w:Dw n0 S s):ZD X n0 base S W ((ev C e σ S).bind λv S=>(ev C (.v i) σ S).bind λx S=>(ev C k σ S).bind λy S=>(Qe x y v S).bind λ_ S=>.ok (.nx σ) S)
  (if os.contains i then (pv CV e ρ s).bind λv s=>if v.flat then (po (W3 ρ[i]?) s).bind λxs s=>(pv CV k ρ s).bind λy s=>match y with
   |.int n=>(po (ixN xs.length n) s).bind λj s=>.ok (.nx (ρ.set i (some (.lst (xs.set j v)))) os) s
   |_=>.no
  else .no else .no):=by
 by_cases c:os.contains i=true
 ·rw[Ph c]
  obtain⟨n,xs,hw,a1,a2,a3,a4⟩:=he.at c;refine ZD.bindE (ZP H e he.xok he.all w) λd v S1 s1 x1 w1 r1=>?_
  have he1:=he.ext x1;have a5:=x1.keep n _ (he.ne hw) a4;by_cases c2:v.flat=true
  ·rw[Ph c2]
   have e0:W3 ρ[i]? = some xs:=by rw[a1];rfl
   rw[e0,ev,a3];show ZD X n0 base S1 W ((ev C k σ S1).bind λy S=>(Qe (.loc n) y d S).bind λ_ S=>.ok (.nx σ) S) ((pv CV k ρ s1).bind _)
   refine ZD.bindE (ZP H k he1.xok he1.all w1) λdk vk S2 s2 x2 w2 r2=>?_
   have he2:=he1.ext x2;have a6:=x2.keep n _ (he.ne hw) a5;cases vk with
   |int m=>
    cases Rep.int' r2;show ZD X n0 base S2 W ((Qe (.loc n) (.int m) d S2).bind _) ((po (ixN xs.length m) s2).bind _);cases q:ixN xs.length m with
    |none=>exact True.intro
    |some j=>
     have hm:Qe (.loc n) (.int m) d S2=.ok () (S2.set n (.lst ((YG xs).set j d))):=by
      show (match S2[n]? with
       |some (.lst xs)=>(ob (ixN xs.length m) S2).bind λj S=>R.ok () (S.set n (.lst (xs.set j d)))
       |_=>.no)=_
      rw[a6];show (ob (ixN (YG xs).length m) S2).bind _=_;rw[YO,q];rfl
     rw[hm];have:=ZD.mutd (ys:=xs.set j v) he2 w2 hw (Jx a2 c2);rw[zF] at this;rw[Wh c2 r1];exact this
   |_=>exact True.intro
  ·rw[Pj c2];exact True.intro
 ·rw[Pj c];exact True.intro
theorem jk (H:ZV n0 C CV) (ms:List Nat) (i:Nat) (e:E) (he:Eu S X n0 base W ρ os σ) (w:Dw n0 S s):ZD X n0 base S W ((ev C e σ S).bind λx S=>(ob (assign [i] x S σ) S).bind λσ S=>.ok (.nx σ) S)
  ((pvA CV e ρ os s).bind λv s=>if (ms.contains i&&fresh e)=true then match v with
   |.lst xs=>if ZB xs=true/\i<ρ.length then .ok (.nx (ρ.set i (some v)) (i::os.filter (· != i))) s else .no
   |_=>.no
  else .ok (.nx (ρ.set i (some v)) (os.filter (· != i))) s):=by
 have hA:=Zdx H e he w;cases q:pvA CV e ρ os s with
 |no=>exact True.intro
 |ex c s1=>rw[q] at hA;obtain⟨S1,e1,x1,w1⟩:=hA;rw[e1];exact⟨S1,rfl,x1.s,w1⟩
 |ok v s1=>
  rw[q] at hA;obtain⟨d,S1,e1,x1,w1,r1⟩:=hA;rw[e1];show ZD X n0 base S W (.ok (.nx (σ.set i (some d))) S1) (if (ms.contains i&&fresh e)=true then _ else _)
  by_cases c:(ms.contains i&&fresh e)=true
  ·rw[Ph c]
   cases v with
   |lst xs=>
    show ZD X n0 base S W _ (if ZB xs=true/\i<ρ.length then _ else _)
    by_cases c2:ZB xs=true/\i<ρ.length
    ·rw[Ph c2]
     obtain⟨c2,hi⟩:=c2;have hf:=((Pp _ _).mp c).2;have fl:∃n,d=.loc n/\S.length<=n:=by
      cases os with
      |nil=>
       have hh:Ew S (XW X W) n0 ρ σ:=⟨he.len,λi v q=>he.val i v q (he.noW i)⟩
       exact Jy H hf he.xokW hh w q e1
      |cons o os=>
       have q':(match pv CV e (hide (o::os) ρ) s with
        |.ok v s=>.ok v s
        |.ex c s=>.ex c s
        |.no=>(pv CV e ρ s).bind λv s=>if v.flat then .ok v s else .no)=PR.ok (V.lst xs) s1:=q
       cases q3:pv CV e (hide (o::os) ρ) s with
       |ok v s2=>rw[q3] at q';cases q';exact Jy H hf he.xokW he.hid w q3 e1
       |ex _ _=>rw[q3] at q';cases q'
       |no=>
        rw[q3] at q';obtain⟨v,s2,_,q5⟩:=Yf q';by_cases cf:v.flat=true
        ·rw[Ph cf] at q5;cases q5;cases cf
        ·rw[Pj cf] at q5;cases q5
     obtain⟨n,rfl,hn⟩:=fl;refine⟨_,S1,rfl,x1.s,w1,_,?_,he.take x1 hn c2 r1 hi⟩;intro j m z;by_cases cj:j=i
     ·simp only[cj,N3] at z;cases z;exact .inr hn
     ·simp only[cj,ND] at z;exact .inl ⟨j,z⟩
    ·rw[Pj c2];exact True.intro
   |_=>exact True.intro
  ·rw[Pj c]
   refine⟨_,S1,rfl,x1.s,w1,_,?_,(he.ext x1).drop r1⟩;intro j m z;by_cases cj:j=i
   ·simp only[cj,N3] at z;cases z
   ·simp only[cj,ND] at z;exact .inl ⟨j,z⟩
end
section
variable {n0:Nat}{C:Calls}{CV:Zu}{X:Nat->Prop}{base:Nat}
theorem yN {wk:Walk}{S0:Zc}{W0:Own}{body:D->Lc->Zc->R Fl}{bodyV:V->Env->List Nat->DS->PR FlV}
  (hk:∀p∈wk.kept,S0[p.1]? = some (.lst p.2)/\¬XW X W0 p.1) (z0:X n0)
  (hb:∀x d S W ρ os σ s,Eu S X n0 base W ρ os σ->Dw n0 S s->Rep S X n0 x d->ZD X n0 base S W (body d σ S) (bodyV x ρ os s)) :
  ∀(vs:List V) (ds:List D) (S:Zc) (W:Own) (ρ:Env) (os:List Nat) (σ:Lc) (s:DS),Rq S0 (XW X W0) n0 vs ds->ExtS n0 W0 S0 S->WExt S0 W0 W->Eu S X n0 base W ρ os σ->Dw n0 S s->ZD X n0 base S W (Vm wk body ds σ S) (VI bodyV vs ρ os s)
 |[],ds,S,W,ρ,os,σ,s,rs,x,wx,he,w=>by
  rw[rs.nil',Vm,VI,Ph (Vx λp hp=>x.keep _ _ (λz=>(hk p hp).2 (.inl (z▸z0))) (λi z=>(hk p hp).2 (.inr ⟨i,z⟩)) (hk p hp).1)]
  exact ZD.nx w WExt.refl he
 |v::vs,ds,S,W,ρ,os,σ,s,rs,x,wx,he,w=>by
  obtain⟨d,ds,rfl,r1,r2⟩:=rs.cons';rw[Vm,VI,Ph (Vx λp hp=>x.keep _ _ (λz=>(hk p hp).2 (.inl (z▸z0))) (λi z=>(hk p hp).2 (.inr ⟨i,z⟩)) (hk p hp).1)]
  have r1':Rep S X n0 v d:=r1.mono (λn o nx hs=>x.keep n o (λz=>nx (.inl (z▸z0))) (λi z=>nx (.inr ⟨i,z⟩)) hs) λn _ z=>.inl z
  have h1:=hb v d S W ρ os σ s he w r1';cases q:bodyV v ρ os s with
  |no=>exact True.intro
  |ex c s1=>rw[q] at h1;obtain⟨S1,e,x1,w1⟩:=h1;rw[e];exact⟨S1,rfl,x1,w1⟩
  |ok f s1=>
   rw[q] at h1;obtain⟨g,S1,e,x1,w1,fr⟩:=h1;rw[e];cases f with
   |nx ρ1 os1=>cases g with
    |nx σ1=>
     obtain⟨W1,wx1,he1⟩:=fr;exact ZD.from x1 wx1 (yN hk z0 hb vs ds S1 W1 ρ1 os1 σ1 s1 r2 (x.trans wx x1) (wx.trans x.len wx1) he1 w1)
    |_=>exact fr.elim
   |cnt ρ1 os1=>cases g with
    |cnt σ1=>
     obtain⟨W1,wx1,he1⟩:=fr;exact ZD.from x1 wx1 (yN hk z0 hb vs ds S1 W1 ρ1 os1 σ1 s1 r2 (x.trans wx x1) (wx.trans x.len wx1) he1 w1)
    |_=>exact fr.elim
   |brk ρ1 os1=>cases g with
    |brk σ1=>exact⟨_,S1,rfl,x1,w1,fr⟩
    |_=>exact fr.elim
   |ret v1=>cases g with
    |ret d1=>exact⟨_,S1,rfl,x1,w1,fr⟩
    |_=>exact fr.elim
theorem Qs {test:Lc->Zc->R Bool}{testV:Env->DS->PR Bool}{body:Lc->Zc->R Fl}{bodyV:Env->List Nat->DS->PR FlV}
  (ht:∀S W ρ os σ s,Eu S X n0 base W ρ os σ->Dw n0 S s->Sim n0 S RlE (test σ S) (testV ρ s))
  (hb:∀S W ρ os σ s,Eu S X n0 base W ρ os σ->Dw n0 S s->ZD X n0 base S W (body σ S) (bodyV ρ os s)) :
  ∀(n:Nat) (S:Zc) (W:Own) (ρ:Env) (os:List Nat) (σ:Lc) (s:DS),Eu S X n0 base W ρ os σ->Dw n0 S s->ZD X n0 base S W (Y9 test body n σ S) (XA testV bodyV n ρ os s)
 |0,S,W,ρ,os,σ,s,he,w=>by rw[XA];exact True.intro
 |n+1,S,W,ρ,os,σ,s,he,w=>by
  rw[Y9,XA];refine ZD.bindE (ht S W ρ os σ s he w) λb' b S1 s1 x1 w1 r1=>?_
  have r1:b'=b:=r1;subst r1;have he1:=he.ext x1;cases b' with
  |false=>exact ZD.nx w1 WExt.refl he1
  |true=>
   have h1:=hb S1 W ρ os σ s1 he1 w1;show ZD X n0 base S1 W (match body σ S1 with
    |.ok (.nx σ') S'=>Y9 test body n σ' S'
    |.ok (.cnt σ') S'=>Y9 test body n σ' S'
    |.ok (.brk σ') S'=>.ok (.nx σ') S'
    |.ok (.ret d) S'=>.ok (.ret d) S'
    |.ex c S'=>.ex c S'
    |.no=>.no) ((bodyV ρ os s1).bind _)
   cases q:bodyV ρ os s1 with
   |no=>exact True.intro
   |ex c s2=>rw[q] at h1;obtain⟨S2,e,x2,w2⟩:=h1;rw[e];exact⟨S2,rfl,x2,w2⟩
   |ok f s2=>
    rw[q] at h1;obtain⟨g,S2,e,x2,w2,fr⟩:=h1;rw[e];cases f with
    |nx ρ1 os1=>cases g with
     |nx σ1=>obtain⟨W1,wx1,he2⟩:=fr;exact ZD.from x2 wx1 (Qs ht hb n S2 W1 ρ1 os1 σ1 s2 he2 w2)
     |_=>exact fr.elim
    |cnt ρ1 os1=>cases g with
     |cnt σ1=>obtain⟨W1,wx1,he2⟩:=fr;exact ZD.from x2 wx1 (Qs ht hb n S2 W1 ρ1 os1 σ1 s2 he2 w2)
     |_=>exact fr.elim
    |brk ρ1 os1=>cases g with
     |brk σ1=>exact⟨_,S2,rfl,x2,w2,fr⟩
     |_=>exact fr.elim
    |ret v1=>cases g with
     |ret d1=>exact⟨_,S2,rfl,x2,w2,fr⟩
     |_=>exact fr.elim
mutual
theorem ZdS (H:ZV n0 C CV) (ms:List Nat):∀(m:Sm) {W:Own}{ρ:Env}{os:List Nat}{σ:Lc}{S:Zc}{s:DS},Eu S X n0 base W ρ os σ->Dw n0 S s->ZD X n0 base S W (run C m σ S) (rv CV ms m ρ os s)
 |.asg t e,W,ρ,os,σ,S,s,he,w=>by
  rw[run];have gen:∀t:List Nat,ZD X n0 base S W ((ev C e σ S).bind λx S=>(ob (assign t x S σ) S).bind λσ S=>.ok (.nx σ) S) ((pvA CV e ρ os s).bind λv s=>if (t.any os.contains)=true then .no else (po (Zs t v ρ) s).bind λρ s=>.ok (.nx ρ os) s):=by
   intro t;refine ZD.bindE (Zdx H e he w) λd v S1 s1 x1 w1 r1=>?_
   by_cases c:(t.any os.contains)=true
   ·rw[Ph c];exact True.intro
   ·rw[Pj c]
    cases q:Zs t v ρ with
    |none=>exact True.intro
    |some ρ1=>
     obtain⟨σ1,e1,he1⟩:=(he.ext x1).assign (by simpa using c) r1 q
     rw[e1];exact ZD.nx w1 WExt.refl he1
  match t with
  |[i]=>exact jk H ms i e he w
  |[]=>exact gen []
  |i::j::t=>exact gen (i::j::t)
 |.par t es,W,ρ,os,σ,S,s,he,w=>by
  rw[run,rv];refine ZD.bindE (Zdf H es he w) λds vs S1 s1 x1 w1 r1=>?_
  by_cases c:(t.any os.contains)=true
  ·rw[Ph c];exact True.intro
  ·rw[Pj c]
   cases q:YS t vs ρ with
   |none=>exact True.intro
   |some ρ1=>
    obtain⟨σ1,e1,he1⟩:=(he.ext x1).fill (by simpa using c) r1 q
    rw[e1];exact ZD.nx w1 WExt.refl he1
 |.aug i op e,W,ρ,os,σ,S,s,he,w=>by
  rw[run,rv];by_cases c:os.contains i=true
  ·rw[Ph c];exact True.intro
  ·rw[Pj c]
   cases q:(ρ[i]?).join with
   |none=>exact True.intro
   |some x=>
    have q':ρ[i]? = some (some x):=by
     cases q2:ρ[i]? with
     |none=>rw[q2] at q;cases q
     |some o=>rw[q2] at q;have q:o=some x:=q;rw[q]
    obtain⟨d,e1,r1⟩:=he.all.val i x q';rw[e1];show ZD X n0 base S W ((ev C e σ S).bind λy S=>(xO op d y S).bind λz S=>.ok (.nx (σ.set i (some z))) S) ((pv CV e ρ s).bind λy s=>(yW op x y s).bind λz s=>.ok (.nx (ρ.set i (some z)) os) s)
    refine ZD.bindE (ZP H e he.xok he.all w) λdy y S1 s1 x1 w1 r2=>?_
    have he1:=he.ext x1;have hs:=Za6 (op:=op) he1.xok w1 (r1.ext he.xok x1) r2;cases q3:yW op x y s1 with
    |no=>exact True.intro
    |ex c s2=>rw[q3] at hs;obtain⟨S2,e2,x2,w2⟩:=hs;rw[e2];exact⟨S2,rfl,x2.s,w2⟩
    |ok z s2=>
     rw[q3] at hs;obtain⟨dz,S2,e2,x2,w2,r3⟩:=hs;obtain⟨k,rfl⟩:=Zab q3;cases Rep.int' r3;rw[e2];exact ZD.from x2.s WExt.refl (ZD.nx w2 WExt.refl ((he1.ext x2).set (by simpa using c) (Zp k)))
 |.put o k e,W,ρ,os,σ,S,s,he,w=>by
  rw[run];cases o with
  |v i=>exact ZaK H i k e he w
  |_=>exact True.intro
 |.ret e,W,ρ,os,σ,S,s,he,w=>by
  rw[run,rv];exact ZD.bindE (ZP H e he.xok he.all w) λd v S1 s1 x1 w1 r1=>⟨_,S1,rfl,Ext.refl.s,w1,r1⟩
 |.ex e,W,ρ,os,σ,S,s,he,w=>by
  rw[run];cases e with
  |mt m o as=>
   have no:∀{q:PR FlV},q=(pv CV (.mt m o as) ρ s).bind (λ_ s=>.ok (.nx ρ os) s)->ZD X n0 base S W ((ev C (.mt m o as) σ S).bind λ_ S=>.ok (.nx σ) S) q:=λ{q} h=>by rw[h];exact Zbq H _ he w
   cases m with
   |append=>cases o with
    |v i=>match as with
     |[e]=>exact yL H i e he w
     |[]=>exact no rfl
     |_::_::_=>exact no rfl
    |_=>exact no rfl
   |extend=>cases o with
    |v i=>match as with
     |[e]=>exact yA H i e he w
     |[]=>exact no rfl
     |_::_::_=>exact no rfl
    |_=>exact no rfl
  |_=>exact Zbq H _ he w
 |.ite t a b,W,ρ,os,σ,S,s,he,w=>by
  rw[run,rv];refine ZD.bindE (qf H t he w) λc' c S1 s1 x1 w1 r1=>?_
  have r1:c'=c:=r1;subst r1;cases c' with
  |true=>exact Qb H ms a (he.ext x1) w1
  |false=>exact Qb H ms b (he.ext x1) w1
 |.forr t it b,W,ρ,os,σ,S,s,he,w=>by
  rw[run,rv];refine ZD.bindE (wQ H it he.xokW he.hid w) λwk vs S1 s1 x1 w1 r1=>?_
  have he1:=he.ext x1;refine yN (W0:=W) (S0:=S1) (λp hp=>r1.2 p hp) he.xz (λx d S W ρ os σ s he w r=>?_) vs wk.items S1 W ρ os σ s1 r1.1 Ext.refl.s WExt.refl he1 w1
  by_cases c:(t.any os.contains)=true
  ·rw[Ph c];exact True.intro
  ·rw[Pj c]
   by_cases c2:(os.isEmpty||x.flat)=true
   ·rw[Ph c2]
    have r':Rep S (XW X W) n0 x d:=by
     rcases (Bool.or_eq_true _ _).mp c2 with c3 | c3
     ·have:os=[]:=by simpa using c3
      subst this;exact r.mono (λ_ _ _ z=>z) λn _ z=>z.elim id λ⟨i,z⟩=>by rw[he.noW i] at z;cases z
     ·rw[Wh c3 r];exact Qc c3
    cases q:Zs t x ρ with
    |none=>exact True.intro
    |some ρ1=>
     obtain⟨σ1,e1,he2⟩:=he.assign (by simpa using c) r' q
     rw[e1];exact Qb H ms b he2 w
   ·rw[Pj c2];exact True.intro
 |.whl t b,W,ρ,os,σ,S,s,he,w=>by
  rw[run,rv];exact Qs (λS W ρ os σ s he w=>qf H t he w) (λS W ρ os σ s he w=>Qb H ms b he w) Vw S W ρ os σ s he w
 |.raise c as,W,ρ,os,σ,S,s,he,w=>by
  rw[run,rv];exact ZD.bindE (WZ H as he.xok he.all w) λd v S1 s1 x1 w1 r1=>⟨S1,rfl,Ext.refl.s,w1⟩
 |.pas,W,ρ,os,σ,S,s,he,w=>by rw[run,rv];exact ZD.nx w WExt.refl he
 |.brk,W,ρ,os,σ,S,s,he,w=>by rw[run,rv];exact⟨_,S,rfl,Ext.refl.s,w,W,WExt.refl,he⟩
 |.cnt,W,ρ,os,σ,S,s,he,w=>by rw[run,rv];exact⟨_,S,rfl,Ext.refl.s,w,W,WExt.refl,he⟩
theorem Qb (H:ZV n0 C CV) (ms:List Nat):∀(l:List Sm) {W:Own}{ρ:Env}{os:List Nat}{σ:Lc}{S:Zc}{s:DS},Eu S X n0 base W ρ os σ->Dw n0 S s->ZD X n0 base S W (runs C l σ S) (rvs CV ms l ρ os s)
 |[],W,ρ,os,σ,S,s,he,w=>by rw[runs,rvs];exact ZD.nx w WExt.refl he
 |m::l,W,ρ,os,σ,S,s,he,w=>by
  rw[runs,rvs];have h1:=ZdS H ms m he w;cases q:rv CV ms m ρ os s with
  |no=>exact True.intro
  |ex c s1=>rw[q] at h1;obtain⟨S1,e,x1,w1⟩:=h1;rw[e];exact⟨S1,rfl,x1,w1⟩
  |ok f s1=>
   rw[q] at h1;obtain⟨g,S1,e,x1,w1,fr⟩:=h1;rw[e];cases f with
   |nx ρ1 os1=>cases g with
    |nx σ1=>obtain⟨W1,wx1,he1⟩:=fr;exact ZD.from x1 wx1 (Qb H ms l he1 w1)
    |_=>exact fr.elim
   |cnt ρ1 os1=>cases g with
    |cnt σ1=>exact⟨_,S1,rfl,x1,w1,fr⟩
    |_=>exact fr.elim
   |brk ρ1 os1=>cases g with
    |brk σ1=>exact⟨_,S1,rfl,x1,w1,fr⟩
    |_=>exact fr.elim
   |ret v1=>cases g with
    |ret d1=>exact⟨_,S1,rfl,x1,w1,fr⟩
    |_=>exact fr.elim
end
end
noncomputable def V4:Fn:=⟨2,4,
 [.ite (.ix (.v 0) (.c (.int 1))) [.asg [2] (.bin .mod (.ix (.v 0) (.c (.int 0))) (.v 1)),
  .put (.v 0) (.c (.int 0)) (.bin .fdiv (.ix (.v 0) (.c (.int 0))) (.v 1)),
  .ret (.v 2)] [],
  .put (.v 0) (.c (.int 0)) (.bin .mod (.bin .add (.bin .mul (.ix (.v 0) (.c (.int 0))) (.c (.int 48271))) (.c (.int 29))) (.c (.int 2147483647))),
  .asg [3] (.bin .mod (.bin .add (.bin .add (.bin .mul (.ix (.v 0) (.c (.int 0))) (.ix (.v 0) (.c (.int 0)))) (.bin .mul (.c (.int 39373)) (.ix (.v 0) (.c (.int 0))))) (.c (.int 7))) (.c (.int 2147483629))),
  .asg [3] (.bin .mod (.bin .add (.bin .mul (.v 3) (.v 3)) (.bin .mul (.c (.int 16807)) (.v 3))) (.c (.int 2147483587))),
  .ret (.bin .mod (.bin .fdiv (.v 3) (.c (.int 8))) (.v 1))]⟩
theorem WM {a:Int}(h0:0<=a) (h:a<4294967296):fits a=true:=by
 unfold fits;refine PJ ?_;have h1:a.natAbs<2^32:=by omega
 exact PN h1 (Km (by decide) (by decide))
theorem evT:(∀a b S,Ys .add (.int a) (.int b) S=.ok (.int (a+b)) S)/\(∀a b S,Ys .mul (.int a) (.int b) S=if (fits a&&fits b)=true then .ok (.int (a*b)) S else .no)/\(∀a b S,Ys .fdiv (.int a) (.int b) S=if 0<b/\b<1073741824 then .ok (.int (a / b)) S else .no)/\(∀a b S,Ys .mod (.int a) (.int b) S=if 0<b then .ok (.int (a%b)) S else .no)/\(∀S b,ZM S (.bl b)=some b)/\(∀i x S σ,assign [i] x S σ=some (σ.set i (some x))):=
 ⟨λ_ _ _=>rfl,λ_ _ _=>rfl,λ_ _ _=>rfl,λ_ _ _=>rfl,λ_ _=>rfl,λ_ _ _ _=>rfl⟩
theorem UG {S:Zc}{n:Nat}{i:Int}{xs:List D}(h:S[n]? = some (.lst xs)):wJ (.loc n) (.int i) S=ob (at' xs i) S:=by
 have e:Z7 S n=some xs:=by unfold Z7;rw[h]
 show (match Z7 S n with | some xs=>ob (at' xs i) S | none=>.no)=_
 rw[e]
theorem xC {S:Zc}{n:Nat}{i:Int}{v:D}{xs:List D}(h:S[n]? = some (.lst xs)):Qe (.loc n) (.int i) v S=(ob (ixN xs.length i) S).bind λj S=>.ok () (S.set n (.lst (xs.set j v))):=by
 show (match S[n]? with | some (.lst xs)=>(ob (ixN xs.length i) S).bind λj S=>.ok () (S.set n (.lst (xs.set j v))) | _=>.no)=_
 rw[h]
theorem Zap {F:List Fn}{tk d:Nat}{n0:Nat}{S:Zc}{s:DS}{m:Int}(hF:F[tk]? = some V4) (h:Dw n0 S s) (m0:0<m) (m1:m<1073741824) :
  ∃S',ZH F (d+1) tk [.loc n0,.int m] S=.ok (.int (YC s m).1) S'/\Ext n0 S S'/\Dw n0 S' (YC s m).2:=by
 obtain⟨a,b⟩:=s;obtain⟨hs,ha,hb⟩:=h;simp only at hs ha hb;have hn:=Xw hs;have hx:∀o,Ext n0 S (S.set n0 o):=λo=>⟨by simp,λn o' z e=>by rw[PK (Ne.symm z)];exact e⟩
 have hset:∀o,(S.set n0 o)[n0]? = some o:=λo=>No hn
 rw[ZH,hF];cases b with
 |true=>
  refine⟨S.set n0 (.lst [.int (a / m),.bl true]),?_,hx _,hset _,?_,by simp[YC]⟩
  ·simp[V4,YC,Ev.runs,Ev.run,Ev.ev.eq_1,Ev.ev.eq_2,Ev.ev.eq_5,Ev.ev.eq_13,Ev.tst,Ev.R.bind,Ev.ob,evT,Ev.start,UG hs,xC hs,UG (hset _),hs,at',ixN,m0,m1]
  ·simp only[YC,N3]
   exact Int.ediv_nonneg ha (by omega)
 |false=>
  have hb:=hb rfl;have h1:=WM ha (by omega)
  have x0:0<=(a*48271+29)%2147483647:=by omega
  have x1:(a*48271+29)%2147483647<2147483647:=by omega
  generalize hxx:(a*48271+29)%2147483647=x at x0 x1;have y0:0<=(x*x+39373*x+7)%2147483629:=by omega
  have y1:(x*x+39373*x+7)%2147483629<2147483629:=by omega
  generalize hyy:(x*x+39373*x+7)%2147483629=y at y0 y1;refine⟨S.set n0 (.lst [.int x,.bl false]),?_,hx _,by simp only[YC,Np,ND,hxx];exact hset _,by simp only[YC,Np,ND,hxx];exact x0,by simp only[YC,Np,ND,hxx];exact λ_=>x1⟩
  have f1:=WM x0 (by omega)
  have f2:=WM y0 (by omega)
  have f3:fits 48271=true:=WM (by omega) (by omega)
  have f4:fits 39373=true:=WM (by omega) (by omega)
  have f5:fits 16807=true:=WM (by omega) (by omega)
  clear hn;simp[V4,YC,Ev.runs,Ev.run,Ev.ev.eq_1,Ev.ev.eq_2,Ev.ev.eq_5,Ev.ev.eq_13,Ev.tst,Ev.R.bind,Ev.ob,evT,Ev.start,UG hs,xC hs,UG (hset _),hs,at',ixN,m0,m1,h1,hxx,hyy,f1,f2,f3,f4,f5,hset]
theorem qo {S:Zc}{X:Nat->Prop}{n0:Nat}{vs:List V}{ds:List D}(n:Nat) (xo:Xok X n0 S) (rs:Rq S X n0 vs ds):Eu S X n0 S.length (λ_=>none) (XR n vs) [] (start n ds):=by
 refine⟨xo.z,xo.lt,Pk _,by unfold XR start;simp[rs.length],λi=>rfl,λi j n h=>(by cases h),λi n h=>(by cases h),λi n h=>(by cases h),λi v e _=>?_⟩
 unfold XR at e;unfold start;by_cases c:i<vs.length
 ·rw[PB (by simpa using c),PM] at e
  rw[PB (by simpa [rs.length] using c),PM]
  cases q:vs[i]? with
  |none=>rw[q] at e;cases e
  |some u=>
   rw[q] at e;have e:some u=some v:=Pb e;cases e;obtain⟨d,a,b⟩:=rs.get q;rw[a];exact⟨d,rfl,b.mono (λ_ _ _ z=>z) λn _ z=>z.elim id λ⟨_,z⟩=>by cases z⟩
 ·rw[PQ (by simpa using KL c),Nm] at e
  split at e <;> cases e
theorem za {F:List Fn}{tk n0:Nat}(hF:F[tk]? = some V4):∀d,ZV n0 (ZH F d) (ZT F tk d)
 |0,f,vs,ds,S,s,X,xo,w,rs=>by rw[ZT];exact True.intro
 |d+1,f,vs,ds,S,s,X,xo,w,rs=>by
  rw[ZT];by_cases c:f=tk
  ·rw[Ph c]
   subst c
   match vs,rs with
   |[.drw,.int m],rs=>
    show Sim n0 S (RlV X n0) _ (if 0<m/\m<1073741824 then .ok (.int (YC s m).1) (YC s m).2 else .no)
    by_cases c2:0<m/\m<1073741824
    ·rw[Ph c2]
     obtain⟨d1,es,rfl,r1,r2⟩:=rs.cons';obtain⟨d2,es2,rfl,r3,r4⟩:=r2.cons';cases r4.nil';cases r1.drw';cases r3.int';obtain⟨S',e,x,w'⟩:=Zap (d:=d) hF w c2.1 c2.2;exact⟨_,S',e,x,w',Zp _⟩
    ·rw[Pj c2];exact True.intro
   |[],_=>exact True.intro
   |[_],_=>unfold v3;split <;> first | exact True.intro | (rename_i h;cases h)
   |a::b::c::l,_=>unfold v3;split <;> first | exact True.intro | (rename_i h;cases h)
   |[.non,_],_ | [.bl _,_],_ | [.int _,_],_ | [.str _,_],_ | [.tup _,_],_ | [.lst _,_],_=>exact True.intro
   |[.drw,.non],_ | [.drw,.bl _],_ | [.drw,.str _],_ | [.drw,.tup _],_ | [.drw,.lst _],_ | [.drw,.drw],_=>exact True.intro
  ·rw[Pj c,ZH]
   cases q:F[f]? with
   |none=>exact True.intro
   |some fn=>
    show Sim n0 S (RlV X n0) (if ds.length=fn.ps then _ else .no) (if vs.length=fn.ps then _ else .no)
    rw[rs.length];refine Sim.guard λ_=>?_
    have h1:=Qb (za (n0:=n0) hF d) (muts fn.body) fn.body (qo fn.ns xo rs) w;have ex:∀{S':Zc},ExtS n0 (λ_=>none) S S'->Ext n0 S S':=λ{S'} x=>⟨x.len,λn o a b=>x.keep n o a (λi z=>by cases z) b⟩
    cases q2:rvs (ZT F tk d) (muts fn.body) fn.body (XR fn.ns vs) [] s with
    |no=>exact True.intro
    |ex c s1=>rw[q2] at h1;obtain⟨S1,e,x1,w1⟩:=h1;rw[e];exact⟨S1,rfl,ex x1,w1⟩
    |ok g s1=>
     rw[q2] at h1;obtain⟨g',S1,e,x1,w1,fr⟩:=h1;rw[e];cases g with
     |nx ρ1 os1=>cases g' with
      |nx σ1=>exact⟨.non,S1,rfl,ex x1,w1,WC⟩
      |_=>exact fr.elim
     |ret v1=>cases g' with
      |ret d1=>exact⟨d1,S1,rfl,ex x1,w1,fr⟩
      |_=>exact fr.elim
     |brk _ _=>exact True.intro
     |cnt _ _=>exact True.intro
end Pv
namespace La
variable {F:Type}[Lean.Grind.CommRing F]
noncomputable abbrev Vec (F:Type):=Nat->F
noncomputable abbrev Pt (F:Type):=List (Nat×Vec F)
noncomputable def pr:Pt F->Vec F->Vec F
 |[],_,_=>0
 |a::P,v,j=>v a.1*a.2 j+pr P v j
structure Rf (P:Pt F):Prop where
 inc:P.Pairwise λa b=>a.1<b.1
 low:∀a∈P,∀j,j<a.1->a.2 j=0
 one:∀a∈P,a.2 a.1=1
 zer:∀a∈P,∀b∈P,a.1≠b.1->b.2 a.1=0
def Mem (P:Pt F) (v:Vec F):Prop:=∀j,v j=pr P v j
theorem Zcw (P:Pt F) (u v:Vec F) (c:F) (j:Nat):pr P (λj=>u j+c*v j) j=pr P u j+c*pr P v j:=by
 induction P with
 |nil=>show (0:F)=0+c*0;grind
 |cons a P ih=>show (u a.1+c*v a.1)*a.2 j+pr P _ j=(u a.1*a.2 j+pr P u j)+c*(v a.1*a.2 j+pr P v j);grind
theorem Ga (P:Pt F) (u v:Vec F) (c:F) (j:Nat):pr P (λj=>u j-c*v j) j=pr P u j-c*pr P v j:=by
 induction P with
 |nil=>show (0:F)=0-c*0;grind
 |cons a P ih=>show (u a.1-c*v a.1)*a.2 j+pr P _ j=(u a.1*a.2 j+pr P u j)-c*(v a.1*a.2 j+pr P v j);grind
theorem uw {P:Pt F}{u v:Vec F}(h:∀b∈P,u b.1=v b.1) (j:Nat):pr P u j=pr P v j:=by
 induction P with
 |nil=>rfl
 |cons a P ih=>
  show u a.1*a.2 j+pr P u j=v a.1*a.2 j+pr P v j;rw[h a (Pe ..),ih λb hb=>h b (Pc _ hb)]
theorem X6 {P:Pt F}{v:Vec F}{j:Nat}(h:∀b∈P,v b.1*b.2 j=0):pr P v j=0:=by
 induction P with
 |nil=>rfl
 |cons a P ih=>
  show v a.1*a.2 j+pr P v j=0;rw[h a (Pe ..),ih λb hb=>h b (Pc _ hb)];grind
theorem xJ {P:Pt F}{v:Vec F}{j:Nat}{a:Nat×Vec F}(inc:P.Pairwise λa b=>a.1<b.1) (ha:a∈P) (h:∀b∈P,b.1≠a.1->v b.1*b.2 j=0):pr P v j=v a.1*a.2 j:=by
 induction P with
 |nil=>cases ha
 |cons b P ih=>
  rw[PY] at inc;show v b.1*b.2 j+pr P v j=_;rcases Po.mp ha with e | hm
  ·subst e
   rw[X6 λc hc=>h c (Pc _ hc) (by have:=inc.1 c hc;omega)];grind
  ·rw[ih inc.2 hm λc hc=>h c (Pc _ hc),h b (Pe ..) (by have:=inc.1 a hm;omega)];grind
theorem Rf.tail {a:Nat×Vec F}{P:Pt F}(h:Rf (a::P)):Rf P:=
 ⟨(PY.mp h.inc).2,λb hb=>h.low b (Pc _ hb),λb hb=>h.one b (Pc _ hb),λb hb c hc=>h.zer b (Pc _ hb) c (Pc _ hc)⟩
theorem Rf.nil:Rf ([]:Pt F):=⟨List.Pairwise.nil,λ_ h=>(by cases h),λ_ h=>(by cases h),λ_ h=>(by cases h)⟩
theorem JT {P:Pt F}(h:Rf P) {a:Nat×Vec F}(ha:a∈P) (v:Vec F):pr P v a.1=v a.1:=by
 rw[xJ h.inc ha λb hb ne=>by rw[h.zer a ha b hb (Ne.symm ne)];grind,h.one a ha];grind
theorem Wa {P:Pt F}(h:Rf P) {a:Nat×Vec F}(ha:a∈P):Mem P a.2:=λj=>by
 rw[xJ h.inc ha λb hb ne=>by rw[h.zer b hb a ha ne];grind,h.one a ha];grind
theorem WL {P:Pt F}{u v:Vec F}(c:F) (hu:Mem P u) (hv:Mem P v):Mem P λj=>u j+c*v j:=λj=>by
 show u j+c*v j=_;rw[Zcw,<-hu j,<-hv j]
theorem UD {P:Pt F}{u v:Vec F}(c:F) (hu:Mem P u) (hv:Mem P v):Mem P λj=>u j-c*v j:=λj=>by
 show u j-c*v j=_;rw[Ga,<-hu j,<-hv j]
theorem Wy {P:Pt F}:Mem P λ_=>0:=λj=>(X6 λb _=>by grind).symm
theorem y3 {P:Pt F}(h:Rf P) (v:Vec F):Mem P (pr P v):=λj=>uw (λb hb=>(JT h hb v).symm) j
theorem G3 {P:Pt F}{v:Vec F}(h:Mem P v) (z:∀b∈P,v b.1=0) (j:Nat):v j=0:=by
 rw[h j];exact X6 λb hb=>by rw[z b hb];grind
theorem qx {P:Pt F}(h:Rf P) {v:Vec F}(hv:Mem P v) {k:Nat}(hk:v k≠0) (hl:∀j,j<k->v j=0):∃a∈P,a.1=k:=by
 have inc:=h.inc;have low:=h.low;have gen:∀Q:Pt F,Q.Pairwise (λa b=>a.1<b.1)->(∀a∈Q,∀j,j<a.1->a.2 j=0)->(∀j,v j=pr Q v j)->∃a∈Q,v a.1≠0/\∀j,j<a.1->v j=0:=by
  intro Q
  induction Q with
  |nil=>intro _ _ e;exact absurd (e k) hk
  |cons a Q ih=>
   intro inc low e;rw[PY] at inc;by_cases c:v a.1=0
   ·obtain⟨b,hb,r⟩:=ih inc.2 (λb hb=>low b (Pc _ hb)) λj=>by
     have:v j=v a.1*a.2 j+pr Q v j:=e j;rw[c] at this;grind
    exact⟨b,Pc _ hb,r⟩
   ·refine⟨a,Pe ..,c,λj hj=>?_⟩
    have e1:v j=v a.1*a.2 j+pr Q v j:=e j;have e2:pr Q v j=0:=X6 λb hb=>by rw[low b (Pc _ hb) j (by have:=inc.1 b hb;omega)];grind
    rw[e1,e2,low a (Pe ..) j hj];grind
 obtain⟨a,ha,h1,h2⟩:=gen P inc low hv;refine⟨a,ha,?_⟩;by_cases c:a.1<k
 ·exact absurd (hl _ c) h1
 ·by_cases c2:k<a.1
  ·exact absurd (h2 _ c2) hk
  ·omega
theorem Uf {P Q:Pt F}(one0:(1:F)≠0) (hP:Rf P) (hQ:Rf Q) (h:∀v,Mem P v->Mem Q v):∀a∈P,∃b∈Q,b.1=a.1:=λa ha=>
 qx hQ (h _ (Wa hP ha)) (by rw[hP.one a ha];exact one0) (hP.low a ha)
theorem yD:∀{a b:List Nat},a.Pairwise (· < ·)->b.Pairwise (· < ·)->(∀x,x∈a↔x∈b)->a=b
 |[],[],_,_,_=>rfl
 |[],y::b,_,_,h=>by have:=(h y).mpr (Pe ..);cases this
 |x::a,[],_,_,h=>by have:=(h x).mp (Pe ..);cases this
 |x::a,y::b,ha,hb,h=>by
  rw[PY] at ha hb;have e:x=y:=by
   rcases Po.mp ((h x).mp (Pe ..)) with e | e
   ·exact e
   ·rcases Po.mp ((h y).mpr (Pe ..)) with e' | e'
    ·exact e'.symm
    ·have:=hb.1 x e;have:=ha.1 y e';omega
  subst e;rw[yD ha.2 hb.2 λz=>?_]
  constructor
  ·intro hz
   rcases Po.mp ((h z).mp (Pc _ hz)) with e | e
   ·have:=ha.1 z hz;omega
   ·exact e
  ·intro hz
   rcases Po.mp ((h z).mpr (Pc _ hz)) with e | e
   ·have:=hb.1 z hz;omega
   ·exact e
theorem JY:∀{a b:List Nat},a.Pairwise (· < ·)->b.Pairwise (· < ·)->(∀x∈a,x∈b)->a.length<=b.length/\(a.length=b.length->a=b)
 |[],b,_,_,_=>⟨Ka _,λe=>(NB.mp e.symm).symm⟩
 |x::a,[],_,_,h=>by have:=h x (Pe ..);cases this
 |x::a,y::b,ha,hb,h=>by
  have ha':=ha;rw[PY] at ha hb;by_cases e:x=y
  ·subst e
   obtain⟨h1,h2⟩:=JY ha.2 hb.2 λz hz=>by
    rcases Po.mp (h z (Pc _ hz)) with e | e
    ·have:=ha.1 z hz;omega
    ·exact e
   refine⟨by simp only[PC];omega,λe=>?_⟩
   rw[h2 (by simpa using e)]
  ·have hxb:x∈b:=by
    rcases Po.mp (h x (Pe ..)) with e' | e'
    ·exact absurd e' e
    ·exact e'
   have:=hb.1 x hxb;obtain⟨h1,h2⟩:=JY ha' hb.2 λz hz=>by
    rcases Po.mp (h z hz) with e' | e'
    ·rcases Po.mp hz with e2 | e2
     ·omega
     ·have:=ha.1 z e2;omega
    ·exact e'
   simp only[PC] at h1 ⊢;exact⟨by omega,λe=>by omega⟩
theorem Rf.heads {P:Pt F}(h:Rf P):(P.map (·.1)).Pairwise (· < ·):=NQ.mpr h.inc
theorem qc {P Q:Pt F}(one0:(1:F)≠0) (hP:Rf P) (hQ:Rf Q) (h:∀v,Mem P v->Mem Q v):P.length<=Q.length/\(P.length=Q.length->∀v,Mem Q v->Mem P v):=by
 obtain⟨h1,h2⟩:=JY hP.heads hQ.heads λx hx=>by
  obtain⟨a,ha,rfl⟩:=Py.mp hx;obtain⟨b,hb,e⟩:=Uf one0 hP hQ h a ha;exact Py.mpr ⟨b,hb,e⟩
 rw[Pl,Pl] at h1 h2;refine⟨h1,λe v hv=>?_⟩
 have eh:=h2 e;have hd:Mem Q λj=>v j-1*pr P v j:=UD 1 hv (h _ (y3 hP v))
 have z:∀j,v j-1*pr P v j=0:=λj=>G3 hd (λb hb=>by
  have:b.1∈P.map (·.1):=by rw[eh];exact Py.mpr ⟨b,hb,rfl⟩
  obtain⟨a,ha,ea⟩:=Py.mp this;show v b.1-1*pr P v b.1=0;rw[<-ea,JT hP ha v];grind) j
 intro j;have:=z j
 grind
theorem uniq {P Q:Pt F}(one0:(1:F)≠0) (hP:Rf P) (hQ:Rf Q) (h:∀v,Mem P v↔Mem Q v):P=Q:=by
 have eh:P.map (·.1)=Q.map (·.1):=yD hP.heads hQ.heads λx=>by
  constructor
  ·intro hx
   obtain⟨a,ha,rfl⟩:=Py.mp hx;obtain⟨b,hb,e⟩:=Uf one0 hP hQ (λv=>(h v).mp) a ha
   exact Py.mpr ⟨b,hb,e⟩
  ·intro hx
   obtain⟨a,ha,rfl⟩:=Py.mp hx;obtain⟨b,hb,e⟩:=Uf one0 hQ hP (λv=>(h v).mpr) a ha
   exact Py.mpr ⟨b,hb,e⟩
 have ev:∀a∈P,∀b∈Q,a.1=b.1->a.2=b.2:=by
  intro a ha b hb e;have hd:Mem P λj=>a.2 j-1*b.2 j:=UD 1 (Wa hP ha) ((h _).mpr (Wa hQ hb))
  funext j
  have:=G3 hd (λc hc=>by
   show a.2 c.1-1*b.2 c.1=0;have:c.1∈Q.map (·.1):=by rw[<-eh];exact Py.mpr ⟨c,hc,rfl⟩
   obtain⟨c',hc',ec⟩:=Py.mp this;by_cases z:c.1=a.1
   ·rw[z,hP.one a ha,e,hQ.one b hb];grind
   ·rw[hP.zer c hc a ha z,<-ec,hQ.zer c' hc' b hb (by omega)];grind) j
  grind
 clear h hP hQ
 induction P generalizing Q with
 |nil=>cases Q with
  |nil=>rfl
  |cons b Q=>cases eh
 |cons a P ih=>cases Q with
  |nil=>cases eh
  |cons b Q=>
   rw[PP,PP] at eh;injection eh with e1 e2
   have e3:=ev a (Pe ..) b (Pe ..) e1;rw[ih e2 λx hx y hy=>ev x (Pc _ hx) y (Pc _ hy)]
   rw[show a=b from Prod.ext e1 e3]
noncomputable def ins (x:Nat×Vec F):Pt F->Pt F
 |[]=>[x]
 |y::P=>if x.1<y.1 then x::y::P else y::ins x P
theorem YT (x:Nat×Vec F):∀P:Pt F,(ins x P).Perm (x::P)
 |[]=>NZ _
 |y::P=>by
  unfold ins;split
  ·exact NZ _
  ·exact ((YT x P).cons y).trans (List.Perm.swap x y P)
theorem we (x:Nat×Vec F):∀{P:Pt F},P.Pairwise (λa b=>a.1<b.1)->(∀a∈P,a.1≠x.1)->(ins x P).Pairwise λa b=>a.1<b.1
 |[],_,_=>by unfold ins;exact Kf ..
 |y::P,h,hn=>by
  have h':=PY.mp h;unfold ins;split
  ·rename_i c
   refine PY.mpr ⟨λz hz=>?_,h⟩
   rcases Po.mp hz with rfl | hz
   ·exact c
   ·have:=h'.1 z hz;omega
  ·rename_i c
   refine PY.mpr ⟨λz hz=>?_,we x h'.2 λa ha=>hn a (Pc _ ha)⟩
   rcases Po.mp ((YT x P).mem_iff.mp hz) with rfl | hz
   ·have:=hn y (Pe ..);omega
   ·exact h'.1 z hz
theorem uB (x:Nat×Vec F) (v:Vec F) (j:Nat):∀P:Pt F,pr (ins x P) v j=v x.1*x.2 j+pr P v j
 |[]=>rfl
 |y::P=>by
  unfold ins;split
  ·rfl
  ·show v y.1*y.2 j+pr (ins x P) v j=v x.1*x.2 j+(v y.1*y.2 j+pr P v j)
   rw[uB x v j P];grind
noncomputable def off (h:Nat) (l:Vec F) (a:Nat×Vec F):Nat×Vec F:=(a.1,λj=>a.2 j-a.2 h*l j)
noncomputable def wid (P:Pt F) (h:Nat) (l:Vec F):Pt F:=ins (h,l) (P.map (off h l))
theorem uG (h:Nat) (l v:Vec F) (j:Nat):∀P:Pt F,pr (P.map (off h l)) v j=pr P v j-pr P v h*l j
 |[]=>by show (0:F)=0-0*l j;grind
 |a::P=>by
  show v a.1*(a.2 j-a.2 h*l j)+pr (P.map (off h l)) v j=(v a.1*a.2 j+pr P v j)-(v a.1*a.2 h+pr P v h)*l j;rw[uG h l v j P];grind
structure Lead (P:Pt F) (h:Nat) (l:Vec F):Prop where
 one:l h=1
 low:∀j,j<h->l j=0
 zer:∀a∈P,l a.1=0
theorem Lead.ne {P:Pt F}{h:Nat}{l:Vec F}(one0:(1:F)≠0) (L:Lead P h l) {a:Nat×Vec F}(ha:a∈P):a.1≠h:=λe=>by
 have:=L.zer a ha;rw[e,L.one] at this;exact one0 this
theorem uA {P:Pt F}{h:Nat}{l:Vec F}(one0:(1:F)≠0) (hP:Rf P) (L:Lead P h l):Rf (wid P h l):=by
 have mem:∀{x},x∈wid P h l->x=(h,l)\/∃a∈P,x=off h l a:=λ{x} hx=>by
  rcases Po.mp ((YT _ _).mem_iff.mp hx) with e | e
  ·exact .inl e
  ·obtain⟨a,ha,e⟩:=Py.mp e
   exact .inr ⟨a,ha,e.symm⟩
 refine⟨we _ ?_ ?_,λx hx j hj=>?_,λx hx=>?_,λx hx y hy ne=>?_⟩
 ·exact NQ.mpr hP.inc
 ·intro a ha
  obtain⟨b,hb,rfl⟩:=Py.mp ha;exact L.ne (a:=b) one0 hb
 ·rcases mem hx with rfl | ⟨a,ha,rfl⟩
  ·exact L.low j hj
  ·show a.2 j-a.2 h*l j=0
   rw[hP.low a ha j hj];by_cases c:h<a.1
   ·rw[hP.low a ha h c];grind
   ·have:j<a.1:=hj
    rw[L.low j (by have:=L.ne one0 ha;omega)];grind
 ·rcases mem hx with rfl | ⟨a,ha,rfl⟩
  ·exact L.one
  ·show a.2 a.1-a.2 h*l a.1=1
   rw[hP.one a ha,L.zer a ha];grind
 ·rcases mem hx with rfl | ⟨a,ha,rfl⟩
  ·rcases mem hy with rfl | ⟨b,hb,rfl⟩
   ·exact absurd rfl ne
   ·show b.2 h-b.2 h*l h=0
    rw[L.one];grind
  ·rcases mem hy with rfl | ⟨b,hb,rfl⟩
   ·exact L.zer a ha
   ·show b.2 a.1-b.2 h*l a.1=0
    rw[hP.zer a ha b hb ne,L.zer a ha];grind
theorem GB (P:Pt F) (h:Nat) (l:Vec F):(wid P h l).length=P.length+1:=by
 have:=(YT (h,l) (P.map (off h l))).length_eq;rw[PC,Pl] at this;exact this
theorem ZaJ {P:Pt F}{h:Nat}{l:Vec F}(hP:Rf P) (L:Lead P h l) (u:Vec F):Mem (wid P h l) u↔∃c,Mem P λj=>u j-c*l j:=by
 have e:∀j,pr (wid P h l) u j=u h*l j+(pr P u j-pr P u h*l j):=λj=>by
  unfold wid;rw[uB,uG]
 have pl:∀j,pr P l j=0:=λj=>X6 λb hb=>by rw[L.zer b hb];grind
 constructor
 ·intro hu
  refine⟨u h-pr P u h,λj=>?_⟩
  rw[Ga,pl];have:=hu j;rw[e j] at this;show u j-(u h-pr P u h)*l j=_
  grind
 ·rintro ⟨c,hc⟩ j
  rw[e j];have h1:u j-c*l j=_:=hc j;have h2:u h-c*l h=_:=hc h;rw[Ga,pl] at h1 h2;rw[L.one] at h2
  grind
noncomputable def rest (P:Pt F) (v:Vec F):Vec F:=λj=>v j-pr P v j
theorem jr {P:Pt F}(hP:Rf P) (v:Vec F) {a:Nat×Vec F}(ha:a∈P):rest P v a.1=0:=by
 unfold rest;rw[JT hP ha];grind
theorem QJ {P:Pt F}{v:Vec F}:(∀j,rest P v j=0)↔Mem P v:=by
 constructor
 ·intro h j;have:=h j;unfold rest at this;grind
 ·intro h j;have:=h j;unfold rest;grind
theorem wF {P:Pt F}(hP:Rf P) {v:Vec F}{h:Nat}{i:F}(hi:i*rest P v h=1) (hl:∀j,j<h->rest P v j=0):Lead P h λj=>i*rest P v j:=
 ⟨hi,λj hj=>by show i*rest P v j=0;rw[hl j hj];grind,λa ha=>by show i*rest P v a.1=0;rw[jr hP v ha];grind⟩
theorem qL {P:Pt F}(hP:Rf P) {v:Vec F}{h:Nat}{i:F}(hi:i*rest P v h=1) (hl:∀j,j<h->rest P v j=0) (u:Vec F) :
  Mem (wid P h λj=>i*rest P v j) u↔∃c,Mem P λj=>u j-c*v j:=by
 rw[ZaJ hP (wF hP hi hl)]
 constructor
 ·rintro ⟨c,hc⟩
  refine⟨c*i,?_⟩;have:=UD (c*i) hc (y3 hP v);have e:(λj=>(u j-c*(i*rest P v j))-c*i*pr P v j)=λj=>u j-c*i*v j:=by funext j;unfold rest;grind
  rw[e] at this;exact this
 ·rintro ⟨c,hc⟩
  refine⟨c*rest P v h,?_⟩;have:=WL c hc (y3 hP v);have e:(λj=>(u j-c*v j)+c*pr P v j)=λj=>u j-c*rest P v h*(i*rest P v j):=by funext j;unfold rest at hi ⊢;grind
  rw[e] at this;exact this
theorem v4 {P:Pt F}{v:Vec F}(hv:Mem P v) (u:Vec F):Mem P u↔∃c,Mem P λj=>u j-c*v j:=by
 constructor
 ·intro h;exact⟨0,by have:=UD 0 h hv;exact this⟩
 ·rintro ⟨c,hc⟩
  have:=WL c hc hv;have e:(λj=>(u j-c*v j)+c*v j)=u:=by funext j;grind
  rw[e] at this;exact this
def QC (P:Pt F):List (Vec F)->Vec F->Prop
 |[],u=>Mem P u
 |v::vs,u=>∃c,QC P vs λj=>u j-c*v j
theorem VT {P P':Pt F}{v:Vec F}(h:∀u,Mem P' u↔∃c,Mem P λj=>u j-c*v j):∀(vs:List (Vec F)) (u:Vec F),QC P' vs u↔QC P (v::vs) u
 |[],u=>h u
 |w::vs,u=>by
  constructor
  ·rintro ⟨d,hd⟩
   obtain⟨c,hc⟩:=(VT h vs _).mp hd;refine⟨c,d,?_⟩;have e:(λj=>u j-c*v j-d*w j)=λj=>u j-d*w j-c*v j:=by funext j;grind
   show QC P vs λj=>u j-c*v j-d*w j
   rw[e];exact hc
  ·rintro ⟨c,d,hc⟩
   refine⟨d,(VT h vs _).mpr ⟨c,?_⟩⟩;have e:(λj=>u j-d*w j-c*v j)=λj=>u j-c*v j-d*w j:=by funext j;grind
   show QC P vs λj=>u j-d*w j-c*v j
   rw[e];exact hc
theorem wS {P Q:Pt F}(hQ:Rf Q) (u:Vec F):QC P (Q.map (·.2)) u↔∃q,Mem Q q/\Mem P λj=>u j-q j:=by
 constructor
 ·have gen:∀(ws:List (Vec F)) (u:Vec F),(∀w∈ws,Mem Q w)->QC P ws u->∃q,Mem Q q/\Mem P λj=>u j-q j:=by
   intro ws
   induction ws with
   |nil=>intro u _ h;exact⟨λ_=>0,Wy,by
    have e:(λj=>u j-0)=u:=by funext j;grind
    rw[e];exact h⟩
   |cons w ws ih=>
    rintro u hw ⟨c,h⟩
    obtain⟨q,hq,hp⟩:=ih _ (λx hx=>hw x (Pc _ hx)) h
    refine⟨λj=>q j+c*w j,WL c hq (hw w (Pe ..)),?_⟩
    have e:(λj=>u j-(q j+c*w j))=λj=>u j-c*w j-q j:=by funext j;grind
    rw[e];exact hp
  exact gen _ u λw hw=>by obtain⟨a,ha,rfl⟩:=Py.mp hw;exact Wa hQ ha
 ·rintro ⟨q,hq,hp⟩
  have gen:∀(R:Pt F) (u:Vec F),(Mem P λj=>u j-pr R q j)->QC P (R.map (·.2)) u:=by
   intro R
   induction R with
   |nil=>
    intro u h;have e:(λj=>u j-pr [] q j)=u:=by funext j;show u j-0=u j;grind
    rw[e] at h;exact h
   |cons a R ih=>
    intro u h;refine⟨q a.1,ih _ ?_⟩;have e:(λj=>u j-q a.1*a.2 j-pr R q j)=λj=>u j-pr (a::R) q j:=by funext j;show _=u j-(q a.1*a.2 j+pr R q j);grind
    show Mem P λj=>u j-q a.1*a.2 j-pr R q j
    rw[e];exact h
  refine gen Q u ?_;have e:(λj=>u j-pr Q q j)=λj=>u j-q j:=by funext j;rw[<-hq j]
  rw[e];exact hp
variable {F:Type}[Lean.Grind.CommRing F] [DecidableEq F]
def Supp (n:Nat) (v:Vec F):Prop:=∀j,n<=j->v j=0
structure Pn (n:Nat) (P:Pt F):Prop where
 rf:Rf P
 lt:∀a∈P,a.1<n
 sp:∀a∈P,Supp n a.2
theorem Pn.nil {n:Nat}:Pn n ([]:Pt F):=⟨Rf.nil,λ_ h=>(by cases h),λ_ h=>(by cases h)⟩
theorem xP {n:Nat}{P:Pt F}(h:Pn n P) (v:Vec F):Supp n (pr P v):=λj hj=>X6 λb hb=>by rw[h.sp b hb j hj];grind
theorem Qi {n:Nat}{P:Pt F}(h:Pn n P) {v:Vec F}(hv:Mem P v):Supp n v:=λj hj=>by rw[hv j];exact xP h v j hj
noncomputable def hdV (n:Nat) (v:Vec F):Option Nat:=(List.range n).find? λj=>decide (v j≠0)
theorem qF {n:Nat}{v:Vec F}(hs:Supp n v) (h:hdV n v=none) (j:Nat):v j=0:=by
 by_cases c:j<n
 ·have:=List.find?_eq_none.mp h j (PH.mpr c)
  simpa using this
 ·exact hs j (by omega)
theorem z6 {n:Nat}{v:Vec F}{k:Nat}(h:hdV n v=some k):k<n/\v k≠0/\∀j,j<k->v j=0:=by
 unfold hdV at h;rw[List.find?_range_eq_some] at h;obtain⟨h1,h2,h3⟩:=h;refine⟨PH.mp h2,by simpa using h1,λj hj=>?_⟩
 have:=h3 j hj
 simpa using this
theorem xa {n:Nat}{v:Vec F}{k:Nat}(hk:k<n) (h1:v k≠0) (h2:∀j,j<k->v j=0):hdV n v=some k:=by
 unfold hdV;rw[List.find?_range_eq_some];exact⟨by simpa using h1,PH.mpr hk,λj hj=>by simpa using h2 j hj⟩
structure Fld (inv:F->F):Prop where
 inv:∀a,a≠0->inv a*a=1
 one0:(1:F)≠0
section
variable {inv:F->F}{n:Nat}
noncomputable def more (inv:F->F) (n:Nat) (P:Pt F) (v:Vec F):Pt F:=match hdV n (rest P v) with
 |none=>P
 |some h=>wid P h λj=>inv (rest P v h)*rest P v j
structure Grow (n:Nat) (P:Pt F) (v:Vec F) (P':Pt F):Prop where
 pn:Pn n P'
 mem:∀u,Mem P' u↔∃c,Mem P λj=>u j-c*v j
 same:Mem P v->P'=P
 len:¬Mem P v->P'.length=P.length+1
theorem GQ (f:Fld inv) {P:Pt F}{v:Vec F}(hP:Pn n P) (hv:Supp n v):Grow n P v (more inv n P v):=by
 have hs:Supp n (rest P v):=λj hj=>by unfold rest;rw[hv j hj,xP hP v j hj];grind
 cases q:hdV n (rest P v) with
 |none=>
  have e:more inv n P v=P:=by unfold more;rw[q]
  have hm:Mem P v:=QJ.mp (qF hs q);rw[e];exact⟨hP,v4 hm,λ_=>rfl,λh=>absurd hm h⟩
 |some h=>
  have e:more inv n P v=wid P h λj=>inv (rest P v h)*rest P v j:=by unfold more;rw[q]
  obtain⟨h1,h2,h3⟩:=z6 q;have hi:=f.inv _ h2;have L:=wF hP.rf hi h3;rw[e];refine⟨⟨uA f.one0 hP.rf L,λa ha=>?_,λa ha=>?_⟩,qL hP.rf hi h3,λhm=>absurd (QJ.mpr hm h) h2,λ_=>GB ..⟩
  ·rcases Po.mp ((YT _ _).mem_iff.mp ha) with e | e
   ·rw[e];exact h1
   ·obtain⟨b,hb,rfl⟩:=Py.mp e
    exact hP.lt b hb
  ·rcases Po.mp ((YT _ _).mem_iff.mp ha) with e | e
   ·rw[e];intro j hj
    show inv (rest P v h)*rest P v j=0;rw[hs j hj];grind
   ·obtain⟨b,hb,rfl⟩:=Py.mp e
    intro j hj;show b.2 j-b.2 h*(inv (rest P v h)*rest P v j)=0;rw[hP.sp b hb j hj,hs j hj];grind
noncomputable def Qj (inv:F->F) (n:Nat) (P:Pt F) (vs:List (Vec F)):Pt F:=vs.foldl (more inv n) P
theorem Wo (f:Fld inv):∀(vs:List (Vec F)) {P:Pt F},Pn n P->(∀v∈vs,Supp n v)->Pn n (Qj inv n P vs)/\∀u,Mem (Qj inv n P vs) u↔QC P vs u
 |[],P,hP,_=>⟨hP,λu=>Iff.rfl⟩
 |v::vs,P,hP,hv=>by
  have g:=GQ f hP (hv v (Pe ..));obtain⟨a,b⟩:=Wo f vs g.pn λw hw=>hv w (Pc _ hw)
  exact⟨a,λu=>(b u).trans (VT g.mem vs u)⟩
noncomputable def join (inv:F->F) (n:Nat) (P Q:Pt F):Pt F:=Qj inv n P (Q.map (·.2))
theorem jH (f:Fld inv) {P Q:Pt F}(hP:Pn n P) (hQ:Pn n Q):Pn n (join inv n P Q):=(Wo f _ hP λv hv=>by obtain⟨a,ha,rfl⟩:=Py.mp hv;exact hQ.sp a ha).1
theorem Vp (f:Fld inv) {P Q:Pt F}(hP:Pn n P) (hQ:Pn n Q) (u:Vec F):Mem (join inv n P Q) u↔∃q,Mem Q q/\Mem P λj=>u j-q j:=
 ((Wo f _ hP λv hv=>by obtain⟨a,ha,rfl⟩:=Py.mp hv;exact hQ.sp a ha).2 u).trans (wS hQ.rf u)
theorem ZbA (f:Fld inv) {P Q:Pt F}(hP:Pn n P) (hQ:Pn n Q) (h:∀v,Mem P v↔Mem Q v):P=Q:=uniq f.one0 hP.rf hQ.rf h
theorem sub_self (u:Vec F):(λj=>u j-u j)=λ_=>0:=by funext j;grind
theorem Q9 (f:Fld inv) {P Q:Pt F}(hP:Pn n P) (hQ:Pn n Q) {u:Vec F}(h:Mem P u):Mem (join inv n P Q) u:=
 (Vp f hP hQ u).mpr ⟨λ_=>0,Wy,by
   have e:(λj=>u j-0)=u:=by funext j;grind
   rw[e];exact h⟩
theorem UR (f:Fld inv) {P Q:Pt F}(hP:Pn n P) (hQ:Pn n Q) {u:Vec F}(h:Mem Q u):Mem (join inv n P Q) u:=
 (Vp f hP hQ u).mpr ⟨u,h,by rw[sub_self];exact Wy⟩
theorem xm (f:Fld inv) {P Q R:Pt F}(hP:Pn n P) (hQ:Pn n Q) (h1:∀u,Mem P u->Mem R u) (h2:∀u,Mem Q u->Mem R u) {u:Vec F}(h:Mem (join inv n P Q) u):Mem R u:=by
 obtain⟨q,a,b⟩:=(Vp f hP hQ u).mp h;have:=WL 1 (h1 _ b) (h2 _ a);have e:(λj=>u j-q j+1*q j)=u:=by funext j;grind
 rw[e] at this;exact this
noncomputable def sl:List Nat->(Nat->F)->F
 |[],_=>0
 |k::L,g=>g k+sl L g
theorem XM {L:List Nat}{g g':Nat->F}(h:∀k∈L,g k=g' k):sl L g=sl L g':=by
 induction L with
 |nil=>rfl
 |cons k L ih=>show g k+sl L g=g' k+sl L g';rw[h k (Pe ..),ih λj hj=>h j (Pc _ hj)]
theorem qN (L:List Nat) (g g':Nat->F) (c:F):sl L (λj=>g j-c*g' j)=sl L g-c*sl L g':=by
 induction L with
 |nil=>show (0:F)=0-c*0;grind
 |cons k L ih=>show (g k-c*g' k)+sl L _=(g k+sl L g)-c*(g' k+sl L g');rw[ih];grind
theorem Vl {L:List Nat}{g:Nat->F}(h:∀k∈L,g k=0):sl L g=0:=by
 induction L with
 |nil=>rfl
 |cons k L ih=>show g k+sl L g=0;rw[h k (Pe ..),ih λj hj=>h j (Pc _ hj)];grind
theorem xn {L:List Nat}{g:Nat->F}{k:Nat}(hn:L.Nodup) (hk:k∈L) (h:∀j∈L,j≠k->g j=0):sl L g=g k:=by
 induction L with
 |nil=>cases hk
 |cons m L ih=>
  rw[N8] at hn;show g m+sl L g=_;rcases Po.mp hk with e | e
  ·subst e
   rw[Vl λj hj=>h j (Pc _ hj) λz=>hn.1 (z▸hj)];grind
  ·rw[ih hn.2 e λj hj=>h j (Pc _ hj),h m (Pe ..) λz=>hn.1 (z▸e)];grind
theorem Za7 (p:Nat->Bool) (L:List Nat) (g:Nat->F):sl L g=sl (L.filter p) g+sl (L.filter λk=>!p k) g:=by
 induction L with
 |nil=>show (0:F)=0+0;grind
 |cons k L ih=>
  rw[Kp,Kp];show g k+sl L g=_;cases p k with
  |true=>simp only[N3,Bool.not_true,Np,ND];show _=g k+sl _ g+_;rw[ih];grind
  |false=>simp only[Np,ND,Bool.not_false,N3];show _=_+(g k+sl _ g);rw[ih];grind
noncomputable def dot (n:Nat) (u w:Vec F):F:=sl (List.range n) λj=>u j*w j
theorem J7 (n:Nat) (a u v:Vec F) (c:F):dot n a (λj=>u j-c*v j)=dot n a u-c*dot n a v:=by
 unfold dot;rw[<-qN];exact XM λk _=>by grind
theorem VO (n:Nat) (u w:Vec F):dot n u w=dot n w u:=XM λk _=>by grind
noncomputable def ZR (P:Pt F) (j:Nat):Bool:=(P.map (·.1)).contains j
noncomputable def free (n:Nat) (P:Pt F):List Nat:=(List.range n).filter λj=>!ZR P j
noncomputable def av:Pt F->Nat->Vec F
 |[],f,j=>if j=f then 1 else 0
 |a::P,f,j=>if j=a.1 then-a.2 f else av P f j
theorem Yo {P:Pt F}{j:Nat}:ZR P j=true↔∃a∈P,a.1=j:=by
 unfold ZR;rw[Nl,Py]
theorem Wj {P:Pt F}{f j:Nat}(h:ZR P j=false):av P f j=if j=f then 1 else 0:=by
 induction P with
 |nil=>rfl
 |cons a P ih=>
  have h1:¬∃b∈a::P,b.1=j:=λz=>by rw[Yo.mpr z] at h;cases h
  show (if j=a.1 then-a.2 f else av P f j)=_
  rw[Pj λz=>h1 ⟨a,Pe ..,z.symm⟩]
  exact ih (by
   cases q:ZR P j with
   |false=>rfl
   |true=>obtain⟨b,hb,e⟩:=Yo.mp q;exact absurd ⟨b,Pc _ hb,e⟩ h1)
theorem wC {P:Pt F}(hP:P.Pairwise λa b=>a.1<b.1) {a:Nat×Vec F}(ha:a∈P) (f:Nat):av P f a.1 = - a.2 f:=by
 induction P with
 |nil=>cases ha
 |cons b P ih=>
  rw[PY] at hP;show (if a.1=b.1 then-b.2 f else av P f a.1)=_
  rcases Po.mp ha with e | e
  ·subst e;rw[Ph rfl]
  ·rw[Pj (by have:=hP.1 a e;omega)];exact ih hP.2 e
theorem Yc {P:Pt F}{j:Nat}:j∈free n P↔j<n/\ZR P j=false:=by
 unfold free;rw[Na,PH];simp
theorem Qm {P:Pt F}:(free n P).Nodup:=Kn _ KM
theorem UK {P:Pt F}(hP:Pn n P) {f:Nat}(hf:f<n):Supp n (av P f):=λj hj=>by
 rw[Wj (by
  cases q:ZR P j with
  |false=>rfl
  |true=>obtain⟨b,hb,e⟩:=Yo.mp q;have:=hP.lt b hb;omega),Pj (by omega)]
theorem Q7 {P:Pt F}(hP:Pn n P) {a:Nat×Vec F}(ha:a∈P) (u:Vec F):dot n a.2 u=sl (free n P) (λj=>a.2 j*u j)+u a.1:=by
 unfold dot;rw[Za7 (ZR P) (List.range n)];have e:sl ((List.range n).filter (ZR P)) (λj=>a.2 j*u j)=a.2 a.1*u a.1:=by
  refine xn (Kn _ KM) (Na.mpr ⟨PH.mpr (hP.lt a ha),Yo.mpr ⟨a,ha,rfl⟩⟩) λj hj ne=>?_
  obtain⟨b,hb,rfl⟩:=Yo.mp (Na.mp hj).2;rw[hP.rf.zer b hb a ha ne];grind
 rw[e,hP.rf.one a ha];show _=sl ((List.range n).filter λj=>!ZR P j) _+_
 grind
theorem Zcs {P:Pt F}(hP:Pn n P) {a:Nat×Vec F}(ha:a∈P) {f:Nat}(hf:f∈free n P):dot n a.2 (av P f)=0:=by
 obtain⟨f1,f2⟩:=Yc.mp hf;rw[Q7 hP ha,wC hP.rf.inc ha,xn (L:=free n P) (k:=f) Qm hf λj hj ne=>by
  rw[Wj (Yc.mp hj).2,Pj ne];grind]
 rw[Wj f2,Ph rfl];grind
noncomputable def perp (inv:F->F) (n:Nat) (P:Pt F):Pt F:=Qj inv n [] ((free n P).map (av P))
theorem UH (f:Fld inv) {P:Pt F}(hP:Pn n P):Pn n (perp inv n P):=(Wo f _ Pn.nil λv hv=>by
 obtain⟨k,hk,rfl⟩:=Py.mp hv;exact UK hP (Yc.mp hk).1).1
theorem zy {P:Pt F}(hP:Pn n P) {a:Nat×Vec F}(ha:a∈P):∀(L:List Nat) (u:Vec F),(∀k∈L,k∈free n P)->QC [] (L.map (av P)) u->dot n a.2 u=0
 |[],u,_,h=>Vl λk _=>by rw[h k];show a.2 k*0=0;grind
 |k::L,u,hL,⟨c,h⟩=>by
  have:=zy hP ha L _ (λj hj=>hL j (Pc _ hj)) h
  rw[J7,Zcs hP ha (hL k (Pe ..))] at this
  grind
theorem QY {P:Pt F}{u:Vec F}:∀(L:List Nat) (w:Vec F),(∀j,w j=sl L λf=>u f*av P f j)->QC [] (L.map (av P)) w
 |[],w,h=>h
 |k::L,w,h=>⟨u k,QY (u:=u) L _ λj=>by rw[h j];show u k*av P k j+sl L (λf=>u f*av P f j)-u k*av P k j=_;grind⟩
theorem u6 (f:Fld inv) {P:Pt F}(hP:Pn n P) (u:Vec F):Mem (perp inv n P) u↔Supp n u/\∀a∈P,dot n a.2 u=0:=by
 have ok:=Wo f ((free n P).map (av P)) (Pn.nil (n:=n)) λv hv=>by
  obtain⟨k,hk,rfl⟩:=Py.mp hv;exact UK hP (Yc.mp hk).1
 constructor
 ·intro h
  exact⟨Qi ok.1 h,λa ha=>zy hP ha _ u (λk hk=>hk) ((ok.2 u).mp h)⟩
 ·rintro ⟨hs,hd⟩
  refine (ok.2 u).mpr (QY (u:=u) _ u λj=>?_)
  by_cases c:n<=j
  ·rw[hs j c]
   exact (Vl λk hk=>by rw[UK hP (Yc.mp hk).1 j c];grind).symm
  ·cases q:ZR P j with
   |false=>
    rw[xn (L:=free n P) (k:=j) Qm (Yc.mpr ⟨by omega,q⟩) λk hk ne=>by
     rw[Wj q,Pj (Ne.symm ne)];grind]
    rw[Wj q,Ph rfl];grind
   |true=>
    obtain⟨a,ha,rfl⟩:=Yo.mp q;have h1:=hd a ha;rw[Q7 hP ha] at h1;have e:sl (free n P) (λf=>u f*av P f a.1) = - sl (free n P) λj=>a.2 j*u j:=by
     have:=qN (free n P) (λ_=>(0:F)) (λj=>a.2 j*u j) 1
     rw[Vl (g:=λ_=>(0:F)) λ_ _=>rfl] at this
     have e2:sl (free n P) (λf=>u f*av P f a.1)=sl (free n P) λj=>0-1*(a.2 j*u j):=XM λk _=>by rw[wC hP.rf.inc ha];grind
     rw[e2,this];grind
    rw[e];grind
theorem Yu (f:Fld inv) {P:Pt F}(hP:Pn n P) (u:Vec F):Mem (perp inv n P) u↔Supp n u/\∀v,Mem P v->dot n v u=0:=by
 rw[u6 f hP]
 constructor
 ·rintro ⟨hs,hd⟩
  refine⟨hs,λv hv=>?_⟩
  have e:dot n v u=dot n u (pr P v):=by rw[VO];exact XM λk _=>by rw[<-hv k]
  rw[e];have gen:∀Q:Pt F,(∀a∈Q,dot n a.2 u=0)->dot n u (pr Q v)=0:=by
   intro Q
   induction Q with
   |nil=>intro _;exact Vl λk _=>by show u k*0=0;grind
   |cons a Q ih=>
    intro h;have e2:dot n u (pr (a::Q) v)=dot n u (λj=>pr Q v j-(- v a.1)*a.2 j):=XM λk _=>by show u k*(v a.1*a.2 k+pr Q v k)=_;grind
    rw[e2,J7,ih λb hb=>h b (Pc _ hb),VO,h a (Pe ..)];grind
  exact gen P hd
 ·rintro ⟨hs,hd⟩
  exact⟨hs,λa ha=>hd _ (Wa hP.rf ha)⟩
theorem WR (f:Fld inv) {P:Pt F}(hP:Pn n P):(perp inv n P).length+P.length=n:=by
 have gen:∀(L:List Nat) (A:Pt F) (D:List Nat),Pn n A->(∀k∈L,k∈free n P)->L.Nodup->(∀k∈L,k∉D)->(∀u,Mem A u->∀k∈free n P,k∉D->u k=0)->(Qj inv n A (L.map (av P))).length=A.length+L.length:=by
  intro L
  induction L with
  |nil=>intro A D _ _ _ _ _;rfl
  |cons k L ih=>
   intro A D hA hL hn hD hz;rw[N8] at hn;have hk:=hL k (Pe ..);have g:=GQ f hA (UK hP (Yc.mp hk).1);have nm:¬Mem A (av P k):=λh=>by
    have:=hz _ h k hk (hD k (Pe ..));rw[Wj (Yc.mp hk).2,Ph rfl] at this;exact f.one0 this
   have:=ih (more inv n A (av P k)) (k::D) g.pn (λj hj=>hL j (Pc _ hj)) hn.2 (λj hj=>by
    rw[Po]
    rintro (z | z)
    ·exact hn.1 (z▸hj)
    ·exact hD j (Pc _ hj) z) λu hu j hj hjD=>by
     obtain⟨c,hc⟩:=(g.mem u).mp hu;rw[Po] at hjD;have h1:u j-c*av P k j=0:=hz _ hc j hj λz=>hjD (.inr z)
     rw[Wj (Yc.mp hj).2,Pj λz=>hjD (.inl z)] at h1
     grind
   show (Qj inv n (more inv n A (av P k)) (L.map (av P))).length=_;rw[this,g.len nm,PC];omega
 have h1:=gen (free n P) [] [] Pn.nil (λ_ h=>h) (Kn _ KM) (λ_ _ h=>by cases h) λu hu k _ _=>hu k
 have h2:(List.range n).filter (ZR P)=P.map (·.1):=yD (Kn _ List.pairwise_lt_range) hP.rf.heads λx=>by
  rw[Na,PH,Yo,Py]
  constructor
  ·rintro ⟨_,a,ha,e⟩;exact⟨a,ha,e⟩
  ·rintro ⟨a,ha,e⟩;exact⟨by rw[<-e];exact hP.lt a ha,a,ha,e⟩
 have h3:((List.range n).filter (ZR P)).length+(free n P).length=n:=by
  have gen:∀L:List Nat,(L.filter (ZR P)).length+(L.filter λj=>!ZR P j).length=L.length:=by
   intro L
   induction L with
   |nil=>rfl
   |cons k L ih=>
    rw[Kp,Kp];cases ZR P k <;> simp <;> omega
  have:=gen (List.range n);rw[PU] at this;exact this
 rw[h2,Pl] at h3;have h4:(perp inv n P).length=(free n P).length:=by
  have e:(perp inv n P).length=0+(free n P).length:=h1;omega
 omega
theorem Uc (f:Fld inv) {P:Pt F}(hP:Pn n P):perp inv n (perp inv n P)=P:=by
 have h1:=UH f hP;have h2:=UH f h1;have s1:=WR f hP;have s2:=WR f h1;have sub:∀v,Mem P v->Mem (perp inv n (perp inv n P)) v:=λv hv=>(Yu f h1 v).mpr ⟨Qi hP hv,λw hw=>by
  rw[VO];exact ((Yu f hP w).mp hw).2 v hv⟩
 refine (ZbA f hP h2 λv=>⟨sub v,(qc f.one0 hP.rf h2.rf sub).2 (by omega) v⟩).symm
noncomputable def meet (inv:F->F) (n:Nat) (P Q:Pt F):Pt F:=perp inv n (join inv n (perp inv n P) (perp inv n Q))
theorem uW (f:Fld inv) {P Q:Pt F}(hP:Pn n P) (hQ:Pn n Q) (u:Vec F):Mem (meet inv n P Q) u↔Mem P u/\Mem Q u:=by
 have hA:=UH f hP;have hB:=UH f hQ;unfold meet;rw[Yu f (jH f hA hB)]
 constructor
 ·rintro ⟨hs,h⟩
  refine⟨?_,?_⟩
  ·have:Mem (perp inv n (perp inv n P)) u:=(Yu f hA u).mpr ⟨hs,λv hv=>h v (Q9 f hA hB hv)⟩
   rw[Uc f hP] at this;exact this
  ·have:Mem (perp inv n (perp inv n Q)) u:=(Yu f hB u).mpr ⟨hs,λv hv=>h v (UR f hA hB hv)⟩
   rw[Uc f hQ] at this;exact this
 ·rintro ⟨h1,h2⟩
  refine⟨Qi hP h1,λv hv=>?_⟩
  obtain⟨q,hq,hp⟩:=(Vp f hA hB v).mp hv;have e1:=((Yu f hP _).mp hp).2 u h1;have e2:=((Yu f hQ _).mp hq).2 u h2;have e3:dot n u v=dot n u (λj=>(v j-q j)-(-1)*q j):=XM λk _=>by grind
  rw[VO,e3,J7,e1,e2];grind
end
end La
set_option maxRecDepth 10000
namespace Rw
open La
open Ev (ltI Wm ZS)
section
variable {p:Nat}[NeZero p]
noncomputable def ph (p:Nat) [NeZero p] (a:Int):Fin p:=Fin.ofNat p (a%p).toNat
theorem ppos:(0:Int)<p:=by have:=NeZero.ne p;omega
theorem Xa (a:Int):((ph p a).val:Int)=a%p:=by
 have h:=ppos (p:=p);have h0:=Kj a (by omega:(p:Int)≠0)
 have h1:=N2 a h;show ((((a%p).toNat)%p:Nat):Int)=a%p;rw[Nat.mod_eq_of_lt (by omega)]
 omega
theorem UL {x y:Fin p}(h:(x.val:Int)=y.val):x=y:=Fin.ext (by omega)
theorem ju (a b:Int):ph p (a+b)=ph p a+ph p b:=UL (by
 rw[Xa,Fin.val_add];show (a+b)%p=(((ph p a).val+(ph p b).val:Nat):Int)%p;rw[Int.natCast_add,Xa,Xa,<-Int.add_emod])
theorem uV (a b:Int):ph p (a*b)=ph p a*ph p b:=UL (by
 rw[Xa,Fin.val_mul];show (a*b)%p=(((ph p a).val*(ph p b).val:Nat):Int)%p;rw[Int.natCast_mul,Xa,Xa,<-Int.mul_emod])
theorem xh (a:Int):ph p (a%p)=ph p a:=UL (by rw[Xa,Xa,Int.emod_emod])
theorem VH:ph p 0=0:=UL (by rw[Xa];simp)
theorem jp (a:Int):ph p (-a) = - ph p a:=by
 have h:ph p (-a+a)=ph p (-a)+ph p a:=ju _ _;rw[show -a+a=0 by omega,VH] at h
 grind
theorem Gc {a b:Int}(ha:0<=a/\a<p) (hb:0<=b/\b<p) (h:ph p a=ph p b):a=b:=by
 have:=congrArg (λx:Fin p=>(x.val:Int)) h
 simp only[Xa] at this;rw[KI ha.1 ha.2,KI hb.1 hb.2] at this;exact this
theorem Zdo {a:Int}(ha:0<=a/\a<p):ph p a=0↔a=0:=by
 constructor
 ·intro h;exact Gc ha ⟨by omega,ppos⟩ (by rw[h,VH])
 ·rintro rfl;exact VH
end
noncomputable abbrev Row:=List Int
def Zm (p n:Nat) (r:Row):Prop:=r.length=n/\∀a∈r,0<=a/\a<(p:Int)
noncomputable def gt (r:Row) (j:Nat):Int:=r.getD j 0
theorem Xg {p n:Nat}(h0:(0:Int)<p) {r:Row}(h:Zm p n r) (j:Nat):0<=gt r j/\gt r j<p:=by
 unfold gt;rw[Pu];cases q:r[j]? with
 |none=>exact⟨Int.le_refl _,h0⟩
 |some a=>exact h.2 a (N9 q)
theorem yK {r:Row}{j:Nat}(h:r.length<=j):gt r j=0:=by unfold gt;rw[Pu,KJ h];rfl
theorem jx {r s:Row}(hl:r.length=s.length) (h:∀j,gt r j=gt s j):r=s:=by
 apply KZ hl;intro j h1 h2;have:=h j;unfold gt at this;rw[Pu,Pu,Pd h1,Pd h2] at this;exact this
noncomputable def hdI:Row->Option Nat
 |[]=>none
 |a::r=>if a≠0 then some 0 else (hdI r).map (· + 1)
theorem YM:∀{r:Row}{k:Nat},hdI r=some k->gt r k≠0/\k<r.length/\∀j,j<k->gt r j=0
 |[],k,h=>by cases h
 |a::r,k,h=>by
  unfold hdI at h;by_cases c:a≠0
  ·rw[Ph c] at h;cases h;exact⟨c,by simp,λj hj=>by omega⟩
  ·rw[Pj c] at h
   cases q:hdI r with
   |none=>rw[q] at h;cases h
   |some m=>
    rw[q] at h;have e:m+1=k:=Pb h;subst e;obtain⟨h1,h2,h3⟩:=YM q;refine⟨h1,by simp;omega,λj hj=>?_⟩
    cases j with
    |zero=>exact Classical.not_not.mp c
    |succ j=>exact h3 j (by omega)
theorem Wn:∀{r:Row},hdI r=none->∀j,gt r j=0
 |[],_,j=>yK (Ka _)
 |a::r,h,j=>by
  unfold hdI at h;by_cases c:a≠0
  ·rw[Ph c] at h;cases h
  ·rw[Pj c] at h
   have h':hdI r=none:=Option.map_eq_none_iff.mp h;cases j with
   |zero=>exact Classical.not_not.mp c
   |succ j=>exact Wn h' j
theorem ZbN {r:Row}{k:Nat}(h1:gt r k≠0) (h2:∀j,j<k->gt r j=0):hdI r=some k:=by
 cases q:hdI r with
 |none=>exact absurd (Wn q k) h1
 |some m=>
  obtain⟨a,_,c⟩:=YM q;have:¬k<m:=λz=>h1 (c k z)
  have:¬m<k:=λz=>a (h2 m z)
  rw[show m=k by omega]
section
variable {p n:Nat}[NeZero p]
noncomputable def toV (p:Nat) [NeZero p] (r:Row):Vec (Fin p):=λj=>ph p (gt r j)
theorem jN {r s:Row}(hr:Zm p n r) (hs:Zm p n s) (h:toV p r=toV p s):r=s:=
 jx (by rw[hr.1,hs.1]) λj=>Gc (Xg ppos hr j) (Xg ppos hs j) (congrFun h j)
theorem zQ {r:Row}(hr:Zm p n r):Supp n (toV p r):=λj hj=>by unfold toV;rw[yK (by rw[hr.1];exact hj),VH]
theorem Xd {r:Row}(hr:Zm p n r) {j:Nat}:toV p r j=0↔gt r j=0:=Zdo (Xg ppos hr j)
theorem Gm {r:Row}(hr:Zm p n r):hdV n (toV p r)=hdI r:=by
 cases q:hdI r with
 |none=>
  cases q2:hdV n (toV p r) with
  |none=>rfl
  |some k=>exact absurd ((Xd hr).mpr (Wn q k)) (z6 q2).2.1
 |some k=>
  obtain⟨a,b,c⟩:=YM q;exact xa (by rw[<-hr.1];exact b) (λz=>a ((Xd hr).mp z)) λj hj=>(Xd hr).mpr (c j hj)
noncomputable def Xt (p:Nat) (r o:Row) (k:Int):Row:=List.zipWith (λa b=>(a+k*b)%p) r o
noncomputable def XZ (p:Nat) (r:Row) (k:Int):Row:=r.map λa=>k*a%p
theorem ZcM {f:Int->Int->Int}{r o:Row}(hl:r.length=o.length) (h0:f 0 0=0) (j:Nat):gt (List.zipWith f r o) j=f (gt r j) (gt o j):=by
 unfold gt;simp only[Pu];rw[List.getElem?_zipWith];by_cases c:j<r.length
 ·rw[Pd c,Pd (by omega)];rfl
 ·rw[KJ (by omega),KJ (by omega)];exact h0.symm
theorem Yl {r o:Row}{k:Int}(hr:Zm p n r) (ho:Zm p n o):Zm p n (Xt p r o k):=by
 refine⟨by unfold Xt;rw[List.length_zipWith,hr.1,ho.1];simp,λa ha=>?_⟩
 unfold Xt at ha;rw[<-List.map_uncurry_zip_eq_zipWith] at ha;obtain⟨⟨x,y⟩,_,rfl⟩:=Py.mp ha;exact⟨Kj _ (by have:=ppos (p:=p);omega),N2 _ ppos⟩
theorem JU {r o:Row}{k:Int}(hr:Zm p n r) (ho:Zm p n o) (j:Nat):gt (Xt p r o k) j=(gt r j+k*gt o j)%p:=by
 unfold Xt;rw[ZcM (by rw[hr.1,ho.1]) (by simp)]
theorem uj {r o:Row}{k:Int}(hr:Zm p n r) (ho:Zm p n o):toV p (Xt p r o k)=λj=>toV p r j+ph p k*toV p o j:=by
 funext j
 unfold toV;rw[JU hr ho,xh,ju,uV]
theorem U1 {r:Row}{k:Int}(j:Nat):gt (XZ p r k) j=k*gt r j%p:=by
 unfold XZ gt;simp only[Pu,PM];cases r[j]? <;> simp
theorem XJ {r:Row}{k:Int}(hr:Zm p n r):Zm p n (XZ p r k):=by
 refine⟨by unfold XZ;rw[Pl,hr.1],λa ha=>?_⟩
 obtain⟨x,_,rfl⟩:=Py.mp ha;exact⟨Kj _ (by have:=ppos (p:=p);omega),N2 _ ppos⟩
theorem vF {r:Row}{k:Int}:toV p (XZ p r k)=λj=>ph p k*toV p r j:=by
 funext j
 unfold toV;rw[U1,xh,uV]
noncomputable def toP (p:Nat) [NeZero p] (P:List Row):Pt (Fin p):=P.map λr=>((hdI r).getD 0,toV p r)
structure pZ (p n:Nat) [NeZero p] (P:List Row):Prop where
 row:∀r∈P,Zm p n r
 pn:Pn n (toP p P)
theorem pZ.nil:pZ p n []:=⟨λ_ h=>(by cases h),Pn.nil⟩
theorem Z8 {P:List Row}{r:Row}(h:r∈P):((hdI r).getD 0,toV p r)∈toP p P:=Py.mpr ⟨r,h,rfl⟩
theorem pZ.head (one0:(1:Fin p)≠0) {P:List Row}(h:pZ p n P) {r:Row}(hr:r∈P):∃k,hdI r=some k/\k<n/\toV p r k=1:=by
 have h1:=h.pn.rf.one _ (Z8 (p:=p) hr);cases q:hdI r with
 |none=>
  rw[q] at h1;have:toV p r 0=1:=h1;have z:toV p r 0=0:=(Xd (h.row r hr)).mpr (Wn q 0);rw[z] at this;exact absurd this.symm one0
 |some k=>
  rw[q] at h1;have h2:=h.pn.lt _ (Z8 (p:=p) hr);rw[q] at h2;exact⟨k,rfl,h2,h1⟩
theorem xX {P Q:List Row}(hP:∀r∈P,Zm p n r) (hQ:∀r∈Q,Zm p n r) (h:toP p P=toP p Q):P=Q:=by
 induction P generalizing Q with
 |nil=>cases Q with
  |nil=>rfl
  |cons b Q=>cases h
 |cons a P ih=>cases Q with
  |nil=>cases h
  |cons b Q=>
   have h':((hdI a).getD 0,toV p a)::toP p P=((hdI b).getD 0,toV p b)::toP p Q:=h;injection h' with e1 e2
   have e3:toV p a=toV p b:=congrArg Prod.snd e1;rw[jN (hP a (Pe ..)) (hQ b (Pe ..)) e3,ih (λr hr=>hP r (Pc _ hr)) (λr hr=>hQ r (Pc _ hr)) e2]
theorem ZaY (P:List Row):(toP p P).map (·.2)=P.map (toV p):=by unfold toP;rw[P7];rfl
theorem Gs (P:List Row):(toP p P).length=P.length:=by unfold toP;rw[Pl]
noncomputable def clr (p:Nat) (r o:Row) (h:Nat):Row:=Xt p r o (-(gt r h))
noncomputable def Zl (p:Nat) (P:List Row) (r:Row):Row:=P.foldl (λs o=>clr p s o ((hdI o).getD 0)) r
theorem VD {r o:Row}{h:Nat}(hr:Zm p n r) (ho:Zm p n o):toV p (clr p r o h)=λj=>toV p r j-toV p r h*toV p o j:=by
 unfold clr;rw[uj hr ho]
 funext j
 rw[jp];show toV p r j+(- toV p r h)*toV p o j=_
 grind
theorem UA:∀{P:List Row}{r:Row},(∀o∈P,Zm p n o)->Rf (toP p P)->Zm p n r->Zm p n (Zl p P r)/\toV p (Zl p P r)=rest (toP p P) (toV p r)
 |[],r,_,_,hr=>⟨hr,by funext j;show toV p r j=toV p r j-0;grind⟩
 |o::P,r,hP,hf,hr=>by
  have ho:=hP o (Pe ..);have hc:Zm p n (clr p r o ((hdI o).getD 0)):=Yl hr ho;obtain⟨a,b⟩:=UA (P:=P) (λo h=>hP o (Pc _ h)) hf.tail hc
  refine⟨a,?_⟩;show toV p (Zl p P (clr p r o ((hdI o).getD 0)))=_;rw[b,VD hr ho];have z:∀j,pr (toP p P) (toV p o) j=0:=λj=>X6 λc hc=>by
   have:toV p o c.1=0:=by
    have h1:c∈toP p (o::P):=Pc _ hc;have h2:((hdI o).getD 0,toV p o)∈toP p (o::P):=Pe ..;have h3:=(PY.mp hf.inc).1 c hc;exact hf.zer c h1 _ h2 (by simp only at h3 ⊢;omega)
   rw[this];grind
  funext j
  unfold rest;rw[Ga,z];show toV p r j-toV p r ((hdI o).getD 0)*toV p o j-(pr (toP p P) (toV p r) j-_*0)=toV p r j-(toV p r ((hdI o).getD 0)*toV p o j+pr (toP p P) (toV p r) j)
  grind
theorem uf {P:List Row}{r:Row}(hP:pZ p n P) (hr:Zm p n r):hdI (Zl p P r)=none↔Mem (toP p P) (toV p r):=by
 obtain⟨a,b⟩:=UA hP.row hP.pn.rf hr;rw[<-QJ,<-b]
 constructor
 ·intro h j;exact (Xd a).mpr (Wn h j)
 ·intro h
  cases q:hdI (Zl p P r) with
  |none=>rfl
  |some k=>exact absurd ((Xd a).mp (h k)) (YM q).1
end
end Rw
set_option maxRecDepth 10000
namespace Rw
open La
open Ev (ltI Wm ZS)
noncomputable def Yn (p:Nat) (a:Int):Int:=if a=1 then 1 else if p=3 then 2 else if a=2 then 3 else if a=3 then 2 else 4
noncomputable def Uy (p:Nat) [NeZero p] (x:Fin p):Fin p:=ph p (Yn p x.val)
class Base (p:Nat):Prop where
 b:p=2\/p=3\/p=5
instance (p:Nat) [h:Base p]:NeZero p:=⟨by rcases h.b with e | e | e <;> omega⟩
section
variable {p n:Nat}[Base p]
theorem fld2:∀a:Fin 2,a≠0->Uy 2 a*a=1:=by decide
theorem fld3:∀a:Fin 3,a≠0->Uy 3 a*a=1:=by decide
theorem fld5:∀a:Fin 5,a≠0->Uy 5 a*a=1:=by decide
theorem one2:(1:Fin 2)≠0:=by decide
theorem one3:(1:Fin 3)≠0:=by decide
theorem one5:(1:Fin 5)≠0:=by decide
theorem fld:Fld (Uy p):=by
 rcases (inferInstance:Base p).b with e | e | e <;> subst e
 ·exact⟨fld2,one2⟩
 ·exact⟨fld3,one3⟩
 ·exact⟨fld5,one5⟩
theorem ZaZ {a:Int}(h:0<=a/\a<(p:Int)):((ph p a).val:Int)=a:=by rw[Xa,KI h.1 h.2]
noncomputable def lead (p:Nat) (s:Row) (h:Nat):Row:=XZ p s (Yn p (gt s h))
noncomputable def VN (p:Nat) (P:List Row) (r:Row):List Row:=match hdI (Zl p P r) with
 |none=>P
 |some h=>(ZS (P.map (λo=>clr p o (lead p (Zl p P r) h) h)++[lead p (Zl p P r) h])).reverse
noncomputable def zK (h:Nat) (x:Row):List Row->List Row
 |[]=>[x]
 |y::P=>if h<(hdI y).getD 0 then x::y::P else y::zK h x P
theorem V5 (h:Nat) (x:Row):∀P:List Row,(zK h x P).Perm (x::P)
 |[]=>NZ _
 |y::P=>by
  unfold zK;split
  ·exact NZ _
  ·exact ((V5 h x P).cons y).trans (List.Perm.swap x y P)
theorem zH {h:Nat}{x:Row}(hx:hdI x=some h):∀P:List Row,toP p (zK h x P)=ins (h,toV p x) (toP p P)
 |[]=>by show [((hdI x).getD 0,toV p x)]=_;rw[hx];rfl
 |y::P=>by
  unfold zK;show toP p (if h<(hdI y).getD 0 then _ else _)=(if h<(hdI y).getD 0 then _ else _)
  split
  ·show ((hdI x).getD 0,toV p x)::_=_;rw[hx];rfl
  ·show ((hdI y).getD 0,toV p y)::toP p (zK h x P)=_;rw[zH hx P];rfl
theorem jd:∀{a b:Row}{h:Nat},a.length=b.length->(∀j,j<h->gt a j=gt b j)->gt b h<gt a h->h<a.length->ltI b a=true
 |[],_,_,_,_,_,hl=>by simp at hl
 |x::a,[],_,e,_,_,_=>by simp at e
 |x::a,y::b,0,_,_,hlt,_=>by
  have:y<x:=hlt;unfold ltI;rw[Pj (by omega)]
  exact PJ this
 |x::a,y::b,h+1,e,hj,hlt,hl=>by
  have:x=y:=hj 0 (by omega)
  unfold ltI;rw[Ph this.symm];exact jd (by simpa using e) (λj h'=>hj (j+1) (by omega)) hlt (by simpa using hl)
theorem qV {a b:Row}{h k:Nat}(ha:Zm p n a) (hb:Zm p n b) (h1:hdI a=some h) (h2:hdI b=some k) (hk:h<k):ltI b a=true:=by
 obtain⟨a1,a2,a3⟩:=YM h1;obtain⟨b1,b2,b3⟩:=YM h2;refine jd (by rw[ha.1,hb.1]) (λj hj=>by rw[a3 j hj,b3 j (by omega)]) ?_ a2
 rw[b3 h hk];have:=(Xg ppos ha h).1;omega
theorem pZ.falls {P:List Row}(hP:pZ p n P):P.Pairwise λa b=>ltI b a=true:=by
 have inc:P.Pairwise λa b=>(hdI a).getD 0<(hdI b).getD 0:=by
  have:=hP.pn.rf.inc;unfold toP at this;rw[NQ] at this;exact this
 refine List.Pairwise.imp_of_mem (λ{a b} ha hb hab=>?_) inc
 obtain⟨h,e1,_⟩:=hP.head fld.one0 ha;obtain⟨k,e2,_⟩:=hP.head fld.one0 hb;rw[e1,e2] at hab;exact qV (hP.row a ha) (hP.row b hb) e1 e2 hab
theorem Uk {P:List Row}(h:P.Pairwise λa b=>ltI b a=true):P.Nodup:=List.Pairwise.imp (λ{a b} hab e=>by
 rw[e] at hab;have:=Sd.UB hab;rw[hab] at this;cases this) h
theorem ZaW {P Q:List Row}(hp:Q.Perm P) (h:Q.Pairwise λa b=>ltI b a=true):(ZS P).reverse=Q:=by
 have hn:P.Nodup:=(hp.nodup_iff).mp (Uk h);have e:ZS P=Q.reverse:=Sd.Wq ((Sd.Xi P).trans (hp.symm.trans (List.reverse_perm Q).symm)) (Sd.XU hn) (List.pairwise_reverse.mpr h);rw[e,List.reverse_reverse]
theorem yu {P:List Row}{r:Row}(hP:pZ p n P) (hr:Zm p n r):pZ p n (VN p P r)/\toP p (VN p P r)=more (Uy p) n (toP p P) (toV p r):=by
 obtain⟨s1,s2⟩:=UA hP.row hP.pn.rf hr;have eh:=Gm s1;rw[s2] at eh;have g:=GQ fld hP.pn (zQ hr);unfold VN;cases q:hdI (Zl p P r) with
 |none=>
  rw[q] at eh;exact⟨hP,by unfold more;rw[eh]⟩
 |some h=>
  rw[q] at eh;have em:more (Uy p) n (toP p P) (toV p r)=wid (toP p P) h (toV p (lead p (Zl p P r) h)):=by
   unfold more;rw[eh];show wid _ h _=_
   congr 1
   unfold lead;rw[vF,s2]
   funext j
   congr 1
   unfold Uy;rw[<-s2];show ph p (Yn p ((ph p (gt (Zl p P r) h)).val))=_;rw[ZaZ (Xg ppos s1 h)]
  have hl:Zm p n (lead p (Zl p P r) h):=XJ s1;rw[em] at g;have mem:∀x∈wid (toP p P) h (toV p (lead p (Zl p P r) h)),hdV n x.2=some x.1:=λx hx=>xa (g.pn.lt x hx) (by rw[g.pn.rf.one x hx];exact fld.one0) (g.pn.rf.low x hx)
  have hx:hdI (lead p (Zl p P r) h)=some h:=by
   rw[<-Gm hl];exact mem (h,toV p (lead p (Zl p P r) h)) ((YT _ _).mem_iff.mpr (Pe ..))
  have e1:toP p (P.map λo=>clr p o (lead p (Zl p P r) h) h)=(toP p P).map (off h (toV p (lead p (Zl p P r) h))):=by
   unfold toP;rw[P7,P7];refine NI λo ho=>?_
   have ho':=hP.row o ho;have hc:Zm p n (clr p o (lead p (Zl p P r) h) h):=Yl ho' hl;have ev:toV p (clr p o (lead p (Zl p P r) h) h)=(off h (toV p (lead p (Zl p P r) h)) ((hdI o).getD 0,toV p o)).2:=VD ho' hl;show ((hdI (clr p o (lead p (Zl p P r) h) h)).getD 0,toV p (clr p o (lead p (Zl p P r) h) h))=off h _ ((hdI o).getD 0,toV p o);have:=mem (off h (toV p (lead p (Zl p P r) h)) ((hdI o).getD 0,toV p o)) ((YT _ _).mem_iff.mpr (Pc _ (Py.mpr ⟨_,Z8 ho,rfl⟩)));rw[<-ev,Gm hc] at this;rw[this,ev];rfl
  have e2:toP p (zK h (lead p (Zl p P r) h) (P.map λo=>clr p o (lead p (Zl p P r) h) h))=wid (toP p P) h (toV p (lead p (Zl p P r) h)):=by
   rw[zH hx,e1];rfl
  have hQ:pZ p n (zK h (lead p (Zl p P r) h) (P.map λo=>clr p o (lead p (Zl p P r) h) h)):=by
   refine⟨λx hx=>?_,by rw[e2];exact g.pn⟩
   rcases Po.mp ((V5 _ _ _).mem_iff.mp hx) with e | e
   ·rw[e];exact hl
   ·obtain⟨o,ho,rfl⟩:=Py.mp e
    exact Yl (hP.row o ho) hl
  have e3:=ZaW ((V5 h (lead p (Zl p P r) h) (P.map λo=>clr p o (lead p (Zl p P r) h) h)).trans (List.perm_append_singleton _ _).symm) hQ.falls
  show pZ p n (ZS _).reverse/\toP p (ZS _).reverse=_;rw[e3];exact⟨hQ,by rw[e2,em]⟩
noncomputable def Wg (p:Nat) (P:List Row) (rs:List Row):List Row:=rs.foldl (VN p) P
theorem GL:∀{rs:List Row}{P:List Row},pZ p n P->(∀r∈rs,Zm p n r)->pZ p n (Wg p P rs)/\toP p (Wg p P rs)=Qj (Uy p) n (toP p P) (rs.map (toV p))
 |[],P,hP,_=>⟨hP,rfl⟩
 |r::rs,P,hP,hr=>by
  obtain⟨a,b⟩:=yu hP (hr r (Pe ..));obtain⟨c,d⟩:=GL (rs:=rs) a λx hx=>hr x (Pc _ hx)
  refine⟨c,?_⟩;show toP p (Wg p (VN p P r) rs)=_;rw[d,b];rfl
theorem XO {P Q:List Row}(hP:pZ p n P) (hQ:pZ p n Q):pZ p n (Wg p P Q)/\toP p (Wg p P Q)=join (Uy p) n (toP p P) (toP p Q):=by
 obtain⟨a,b⟩:=GL hP hQ.row;exact⟨a,by rw[b];unfold join;rw[ZaY]⟩
noncomputable def ZA (P:List Row):List Nat:=P.map λr=>(hdI r).getD 0
noncomputable def We (n:Nat) (P:List Row):List Nat:=(List.range n).filter λj=>!(ZA P).contains j
theorem WB (P:List Row):(toP p P).map (·.1)=ZA P:=by unfold toP ZA;rw[P7];rfl
theorem Qz (P:List Row):free n (toP p P)=We n P:=by unfold free We ZR;rw[WB]
noncomputable def avF (p:Nat) (P:List Row) (f:Nat) (s:Row):Row:=P.foldl (λs r=>s.set ((hdI r).getD 0) ((-(gt r f))%p)) s
noncomputable def avI (p n:Nat) (P:List Row) (f:Nat):Row:=avF p P f ((List.replicate n 0).set f 1)
theorem um {s:Row}{i j:Nat}{x:Int}(hi:i<s.length):gt (s.set i x) j=if j=i then x else gt s j:=by
 unfold gt;simp only[Pu];rw[NF];by_cases c:i=j
 ·rw[Ph c,Ph hi,Ph c.symm];rfl
 ·rw[Pj c,Pj (Ne.symm c)]
theorem xR:∀{P:List Row}{f:Nat}{s:Row},Zm p n s->Zm p n (avF p P f s)
 |[],_,_,h=>h
 |r::P,f,s,h=>by
  refine xR (P:=P) ⟨by rw[P0];exact h.1,λa ha=>?_⟩
  rcases List.mem_or_eq_of_mem_set ha with z | z
  ·exact h.2 a z
  ·rw[z];exact⟨Kj _ (by have:=ppos (p:=p);omega),N2 _ ppos⟩
theorem x6:∀{P:List Row}{f:Nat}{s:Row}(j:Nat),(∀r∈P,(hdI r).getD 0<n)->(ZA P).Pairwise (· < ·)->s.length=n->toV p (avF p P f s) j=if ZR (toP p P) j=true then av (toP p P) f j else toV p s j
 |[],_,_,j,_,_,_=>rfl
 |r::P,f,s,j,hb,hi,hl=>by
  have hi':=PY.mp hi;show toV p (avF p P f (s.set ((hdI r).getD 0) ((-(gt r f))%p))) j=_;rw[x6 j (λx hx=>hb x (Pc _ hx)) hi'.2 (by rw[P0];exact hl)]
  have e:av (toP p (r::P)) f j=if j=(hdI r).getD 0 then-toV p r f else av (toP p P) f j:=rfl
  have e0:ZR (toP p (r::P)) j=(decide (j=(hdI r).getD 0)||ZR (toP p P) j):=by
   unfold ZR;show (((hdI r).getD 0)::(toP p P).map (·.1)).contains j=_
   rw[Kx]
   congr 1
  cases q:ZR (toP p P) j with
  |true=>
   rw[Ph rfl,Ph (by rw[e0,q];simp),e,Pj]
   intro z;have:j∈ZA P:=by rw[<-WB (p:=p)];unfold ZR at q;exact Nl.mp q
   have h5:(hdI r).getD 0<j:=hi'.1 j this;omega
  |false=>
   rw[Pj (by simp)]
   unfold toV;rw[um (by rw[hl];exact hb r (Pe ..))]
   by_cases c:j=(hdI r).getD 0
   ·rw[Ph c,Ph (by rw[e0];simp[c]),e,Ph c,xh,jp];rfl
   ·rw[Pj c,Pj (by rw[e0,q];simp[c])]
theorem v8 {P:List Row}{f:Nat}(hP:pZ p n P) (hf:f∈We n P):Zm p n (avI p n P f)/\toV p (avI p n P f)=av (toP p P) f:=by
 rw[<-Qz (p:=p)] at hf;obtain⟨f1,f2⟩:=Yc.mp hf;have hone:(1:Int)<p:=by rcases (inferInstance:Base p).b with e | e | e <;> subst e <;> decide
 have hs:Zm p n ((List.replicate n (0:Int)).set f 1):=by
  refine⟨by simp,λa ha=>?_⟩
  rcases List.mem_or_eq_of_mem_set ha with z | z
  ·rw[(List.mem_replicate.mp z).2];exact⟨by omega,ppos⟩
  ·rw[z];exact⟨by omega,hone⟩
 refine⟨xR hs,?_⟩
 funext j
 unfold avI;rw[x6 (n:=n) j (λr hr=>hP.pn.lt _ (Z8 hr)) (by rw[<-WB (p:=p)];exact hP.pn.rf.heads) hs.1]
 cases q:ZR (toP p P) j with
 |true=>rw[Ph rfl]
 |false=>
  rw[Pj (by simp),Wj q]
  unfold toV;rw[um (by simpa using f1)]
  have one:ph p 1=1:=by rcases (inferInstance:Base p).b with e | e | e <;> subst e <;> rfl
  by_cases c:j=f
  ·rw[Ph c,Ph c,one]
  ·rw[Pj c,Pj c]
   have:gt (List.replicate n (0:Int)) j=0:=by
    unfold gt;rw[Pu,Nm];split <;> rfl
   rw[this,VH]
noncomputable def Z1 (p n:Nat) (P:List Row):List Row:=Wg p [] ((We n P).map (avI p n P))
theorem Yi {P:List Row}(hP:pZ p n P):pZ p n (Z1 p n P)/\toP p (Z1 p n P)=perp (Uy p) n (toP p P):=by
 obtain⟨a,b⟩:=GL (rs:=(We n P).map (avI p n P)) (pZ.nil (p:=p) (n:=n)) λr hr=>by
  obtain⟨f,hf,rfl⟩:=Py.mp hr;exact (v8 hP hf).1
 refine⟨a,?_⟩;unfold Z1;rw[b];unfold perp;rw[Qz,P7]
 congr 1
 exact NI λf hf=>(v8 hP hf).2
noncomputable def UU (p n:Nat) (P Q:List Row):List Row:=Z1 p n (Wg p (Z1 p n P) (Z1 p n Q))
theorem z8 {P Q:List Row}(hP:pZ p n P) (hQ:pZ p n Q):pZ p n (UU p n P Q)/\toP p (UU p n P Q)=meet (Uy p) n (toP p P) (toP p Q):=by
 obtain⟨a1,a2⟩:=Yi hP;obtain⟨b1,b2⟩:=Yi hQ;obtain⟨c1,c2⟩:=XO a1 b1;obtain⟨d1,d2⟩:=Yi c1;exact⟨d1,by unfold UU;rw[d2,c2,a2,b2];rfl⟩
theorem pZ.init {P:List Row}{o:Row}(h:pZ p n (P++[o])):pZ p n P:=by
 have mem:∀{x},x∈toP p P->x∈toP p (P++[o]):=λ{x} hx=>by unfold toP at hx ⊢;rw[Nq];exact Nc _ hx
 refine⟨λr hr=>h.row r (Nc _ hr),⟨⟨?_,λa ha=>h.pn.rf.low a (mem ha),λa ha=>h.pn.rf.one a (mem ha),λa ha b hb=>h.pn.rf.zer a (mem ha) b (mem hb)⟩,λa ha=>h.pn.lt a (mem ha),λa ha=>h.pn.sp a (mem ha)⟩⟩
 have:=h.pn.rf.inc;unfold toP at this ⊢;rw[Nq,List.pairwise_append] at this;exact this.1
end
end Rw
set_option maxRecDepth 10000
namespace Rw
open La
open Ev (ltI Wm ZS)
section
variable {p n:Nat}[Base p]
abbrev Mm (p:Nat) [NeZero p] (P:List Row) (u:Vec (Fin p)):Prop:=Mem (toP p P) u
theorem eqP {A B:List Row}(hA:pZ p n A) (hB:pZ p n B) (h:∀u,Mm p A u↔Mm p B u):A=B:=xX hA.row hB.row (ZbA fld hA.pn hB.pn h)
theorem j5 {P Q:List Row}(hP:pZ p n P) (hQ:pZ p n Q) {u:Vec (Fin p)}(h:Mm p P u):Mm p (Wg p P Q) u:=by
 unfold Mm;rw[(XO hP hQ).2];exact Q9 fld hP.pn hQ.pn h
theorem u8 {P Q:List Row}(hP:pZ p n P) (hQ:pZ p n Q) {u:Vec (Fin p)}(h:Mm p Q u):Mm p (Wg p P Q) u:=by
 unfold Mm;rw[(XO hP hQ).2];exact UR fld hP.pn hQ.pn h
theorem uD {P Q R:List Row}(hP:pZ p n P) (hQ:pZ p n Q) (h1:∀u,Mm p P u->Mm p R u) (h2:∀u,Mm p Q u->Mm p R u) {u:Vec (Fin p)}(h:Mm p (Wg p P Q) u):Mm p R u:=by
 unfold Mm at h;rw[(XO hP hQ).2] at h;exact xm fld hP.pn hQ.pn h1 h2 h
theorem Zao {P Q:List Row}(hP:pZ p n P) (hQ:pZ p n Q) (u:Vec (Fin p)):Mm p (UU p n P Q) u↔Mm p P u/\Mm p Q u:=by
 unfold Mm;rw[(z8 hP hQ).2];exact uW fld hP.pn hQ.pn u
theorem pJ {P Q:List Row}(hP:pZ p n P) (hQ:pZ p n Q):pZ p n (Wg p P Q):=(XO hP hQ).1
theorem pM {P Q:List Row}(hP:pZ p n P) (hQ:pZ p n Q):pZ p n (UU p n P Q):=(z8 hP hQ).1
theorem qB {P Q:List Row}(hP:pZ p n P) (hQ:pZ p n Q) (h:∀u,Mm p P u->Mm p Q u):Wg p P Q=Q:=eqP (pJ hP hQ) hQ λu=>
 ⟨uD hP hQ h λ_ h=>h,u8 hP hQ⟩
noncomputable def YD (p:Nat) (P:List Row) (r:Row):Bool:=(hdI (Zl p P r)).isNone
theorem Xj {P:List Row}{r:Row}(hP:pZ p n P) (hr:Zm p n r):YD p P r=true↔Mm p P (toV p r):=by
 unfold Mm;rw[<-uf hP hr];unfold YD;cases hdI (Zl p P r) <;> simp
theorem YR {P Q:List Row}(hP:pZ p n P) (hQ:pZ p n Q):P.all (YD p Q)=true↔∀u,Mm p P u->Mm p Q u:=by
 rw[Pw]
 constructor
 ·intro h u hu
  have gen:∀R:Pt (Fin p),(∀a∈R,Mm p Q a.2)->Mm p Q (pr R u):=by
   intro R
   induction R with
   |nil=>intro _;exact Wy
   |cons a R ih=>
    intro hR;have:=WL (u a.1) (ih λb hb=>hR b (Pc _ hb)) (hR a (Pe ..))
    have e:(λj=>pr R u j+u a.1*a.2 j)=pr (a::R) u:=by funext j;show _=u a.1*a.2 j+pr R u j;grind
    rw[e] at this;exact this
  have:=gen (toP p P) λa ha=>by
   unfold toP at ha;obtain⟨r,hr,rfl⟩:=Py.mp ha;exact (Xj hQ (hP.row r hr)).mp (h r hr)
  have e:pr (toP p P) u=u:=funext λj=>(hu j).symm
  rw[e] at this;exact this
 ·intro h r hr
  exact (Xj hQ (hP.row r hr)).mpr (h _ (Wa hP.pn.rf (Z8 hr)))
theorem wv {F:Type}[Lean.Grind.CommRing F]{x:Nat×Vec F}:∀{P:Pt F},(∀a∈P,a.1<x.1)->ins x P=P++[x]
 |[],_=>rfl
 |y::P,h=>by
  unfold ins;rw[Pj (by have:=h y (Pe ..);omega),wv λa ha=>h a (Pc _ ha)];rfl
theorem Q8 {P:List Row}{l:Row}{j:Nat}(hP:pZ p n P) (hl:Zm p n l) (hj:j<n) (h1:gt l j=1) (h0:∀i,i<j->gt l i=0) (hh:∀r∈P,(hdI r).getD 0<j):pZ p n (P.map (λo=>clr p o l j)++[l])/\∀r∈P.map (λo=>clr p o l j)++[l],(hdI r).getD 0<j+1:=by
 have one:ph p 1=1:=by rcases (inferInstance:Base p).b with e | e | e <;> subst e <;> rfl
 have hlt:∀a∈toP p P,a.1<j:=λa ha=>by
  unfold toP at ha;obtain⟨r,hr,rfl⟩:=Py.mp ha;exact hh r hr
 have L:Lead (toP p P) j (toV p l):=⟨by unfold toV;rw[h1,one],λi hi=>(Xd hl).mpr (h0 i hi),λa ha=>(Xd hl).mpr (h0 _ (hlt a ha))⟩
 have rf:=uA fld.one0 hP.pn.rf L;have ew:wid (toP p P) j (toV p l)=(toP p P).map (off j (toV p l))++[(j,toV p l)]:=wv λa ha=>by
  obtain⟨b,hb,rfl⟩:=Py.mp ha;exact hlt b hb
 have hx:hdI l=some j:=ZbN (by rw[h1];decide) h0
 have hmem:∀o∈P,off j (toV p l) ((hdI o).getD 0,toV p o)∈wid (toP p P) j (toV p l):=λo ho=>by
  rw[ew];exact Nc _ (Py.mpr ⟨_,Z8 ho,rfl⟩)
 have eh:∀o∈P,hdI (clr p o l j)=some ((hdI o).getD 0):=λo ho=>by
  have ho':=hP.row o ho;have hc:Zm p n (clr p o l j):=Yl ho' hl;have ev:toV p (clr p o l j)=(off j (toV p l) ((hdI o).getD 0,toV p o)).2:=VD ho' hl;rw[<-Gm hc,ev];exact xa (hP.pn.lt _ (Z8 ho)) (λz=>fld.one0 ((rf.one _ (hmem o ho)).symm.trans z)) (rf.low _ (hmem o ho))
 have eP:toP p (P.map (λo=>clr p o l j)++[l])=wid (toP p P) j (toV p l):=by
  rw[ew];unfold toP;rw[Nq,P7,P7]
  congr 1
  ·refine NI λo ho=>?_
   show ((hdI (clr p o l j)).getD 0,toV p (clr p o l j))=off j _ ((hdI o).getD 0,toV p o);rw[eh o ho,VD (hP.row o ho) hl];rfl
  ·show [((hdI l).getD 0,toV p l)]=_
   rw[hx];rfl
 have hrow:∀r∈P.map (λo=>clr p o l j)++[l],Zm p n r:=λr hr=>by
  rcases Nd.mp hr with z | z
  ·obtain⟨o,ho,rfl⟩:=Py.mp z
   exact Yl (hP.row o ho) hl
  ·rw[PL.mp z];exact hl
 refine⟨⟨hrow,⟨by rw[eP];exact rf,λa ha=>?_,λa ha=>?_⟩⟩,λr hr=>?_⟩
 ·unfold toP at ha
  obtain⟨r,hr,rfl⟩:=Py.mp ha;rcases Nd.mp hr with z | z
  ·obtain⟨o,ho,rfl⟩:=Py.mp z
   show (hdI _).getD 0<n;rw[eh o ho];exact hP.pn.lt _ (Z8 ho)
  ·rw[PL.mp z];show (hdI l).getD 0<n;rw[hx];exact hj
 ·unfold toP at ha
  obtain⟨r,hr,rfl⟩:=Py.mp ha;exact zQ (hrow r hr)
 ·rcases Nd.mp hr with z | z
  ·obtain⟨o,ho,rfl⟩:=Py.mp z
   rw[eh o ho];have:=hh o ho;show (hdI o).getD 0<j+1;omega
  ·rw[PL.mp z,hx];show j<j+1;omega
theorem ZaS {a:Int}(h0:0<a) (h1:a<p):Yn p a*a%p=1:=by
 rcases (inferInstance:Base p).b with e | e | e <;> subst e
 ·have:a=1:=by omega
  subst this;rfl
 ·have:a=1\/a=2:=by omega
  rcases this with e | e <;> subst e <;> rfl
 ·have:a=1\/a=2\/a=3\/a=4:=by omega
  rcases this with e | e | e | e <;> subst e <;> rfl
theorem jf {a:Int}(h0:0<a) (h1:a<p):(List.range p).filter (λk:Nat=>decide ((k:Int)*a%p=1))=[(Yn p a).toNat]/\((Yn p a).toNat:Int)=Yn p a:=by
 rcases (inferInstance:Base p).b with e | e | e <;> subst e
 ·have:a=1:=by omega
  subst this;exact⟨rfl,rfl⟩
 ·have:a=1\/a=2:=by omega
  rcases this with e | e <;> subst e <;> exact⟨rfl,rfl⟩
 ·have:a=1\/a=2\/a=3\/a=4:=by omega
  rcases this with e | e | e | e <;> subst e <;> exact⟨rfl,rfl⟩
structure Red (p n:Nat) [NeZero p] (j:Nat) (rest found:List Row):Prop where
 row:∀r∈rest,Zm p n r
 low:∀r∈rest,∀i,i<j->gt r i=0
 part:pZ p n found
 head:∀r∈found,(hdI r).getD 0<j
theorem uc {j:Nat}{rest found:List Row}(h:Red p n j rest found) (hz:∀r∈rest,gt r j=0):Red p n (j+1) rest found:=
 ⟨h.row,λr hr i hi=>by
   by_cases c:i=j
   ·rw[c];exact hz r hr
   ·exact h.low r hr i (by omega),h.part,λr hr=>by have:=h.head r hr;omega⟩
theorem qM {j:Nat}{rest found:List Row}{f:Row}(h:Red p n j rest found) (hj:j<n) (hf:f∈rest) (hz:gt f j≠0):Red p n (j+1) (rest.map λr=>clr p r (lead p f j) j) (found.map (λr=>clr p r (lead p f j) j)++[lead p f j]):=by
 have hfr:=h.row f hf;have hg:=Xg ppos hfr j;have hl:Zm p n (lead p f j):=XJ hfr;have h1:gt (lead p f j) j=1:=by unfold lead;rw[U1];exact ZaS (by omega) hg.2
 have h0:∀i,i<j->gt (lead p f j) i=0:=λi hi=>by unfold lead;rw[U1,h.low f hf i hi];simp
 obtain⟨a,b⟩:=Q8 h.part hl hj h1 h0 h.head;refine⟨λr hr=>?_,λr hr i hi=>?_,a,b⟩
 ·obtain⟨o,ho,rfl⟩:=Py.mp hr
  exact Yl (h.row o ho) hl
 ·obtain⟨o,ho,rfl⟩:=Py.mp hr
  unfold clr;rw[JU (h.row o ho) hl];by_cases c:i=j
  ·rw[c,h1]
   rw[show gt o j + -(gt o j)*1=0 by omega];rfl
  ·rw[h.low o ho i (by omega),h0 i (by omega)];simp
end
end Rw
namespace Pv
open Ev
open Rw
theorem Zb {α β:Type}{a:α}{s:DS}{f:α->DS->PR β}:(PR.ok a s).bind f=f a s:=rfl
theorem QD {F:List Fn}{tk d f:Nat}{vs:List V}{s:DS}{fn:Fn}(hf:F[f]? = some fn) (hne:f≠tk) (hl:vs.length=fn.ps):ZT F tk (d+1) f vs s=(rvs (ZT F tk d) (muts fn.body) fn.body (XR fn.ns vs) [] s).bind λg s=>match g with
  |.ret v=>.ok v s
  |.nx _ _=>.ok .non s
  |_=>.no:=by
 rw[ZT,Pj hne,hf];show (if vs.length=fn.ps then _ else _)=_
 rw[Ph hl]
 all_goals rfl
theorem uF (s:DS) {m:Int}(h:0<m):0<=(YC s m).1/\(YC s m).1<m:=by
 unfold YC;split
 ·exact⟨Kj _ (by omega),N2 _ h⟩
 ·exact⟨Kj _ (by omega),N2 _ h⟩
theorem UP {F:List Fn}{tk d:Nat}{m:Int}(s:DS) (h0:0<m) (h1:m<1073741824):∃v s',ZT F tk (d+1) tk [.drw,.int m] s=.ok (.int v) s'/\0<=v/\v<m:=by
 refine⟨(YC s m).1,(YC s m).2,?_,uF s h0⟩;rw[ZT,Ph rfl];show (if 0<m/\m<1073741824 then _ else _)=_
 rw[Ph ⟨h0,h1⟩]
theorem US {α:Type}{f:V->DS->PR (List V)}{s:DS}{e:α->V}{g:α->V}:∀{l:List α},(∀x∈l,f (e x) s=.ok [g x] s)->mapP f (l.map e) s=.ok (l.map g) s
 |[],_=>rfl
 |x::l,h=>by
  rw[PP,mapP,h x (Pe ..)];show (match mapP f (l.map e) s with | .ok zs s=>PR.ok ([g x]++zs) s | _=>.no)=_
  rw[US λy hy=>h y (Pc _ hy)];rfl
theorem Ul {α:Type}{f:V->DS->PR (List V)}{s:DS}{e:α->V}{g:α->V}{q:α->Bool}:∀{l:List α},(∀x∈l,f (e x) s=.ok (if q x=true then [g x] else []) s)->mapP f (l.map e) s=.ok ((l.filter q).map g) s
 |[],_=>rfl
 |x::l,h=>by
  rw[PP,mapP,h x (Pe ..)];show (match mapP f (l.map e) s with | .ok zs s=>PR.ok ((if q x=true then [g x] else [])++zs) s | _=>.no)=_
  rw[Ul λy hy=>h y (Pc _ hy),Kp]
  show PR.ok _ s=_;cases q x <;> rfl
theorem Q3 {α:Type}{f:V->DS->PR (List V)}{s:DS}{e:α->V}{g:α->List V}:∀{l:List α},(∀x∈l,f (e x) s=.ok (g x) s)->mapP f (l.map e) s=.ok (l.flatMap g) s
 |[],_=>rfl
 |x::l,h=>by
  rw[PP,mapP,h x (Pe ..)];show (match mapP f (l.map e) s with | .ok zs s=>PR.ok (g x++zs) s | _=>.no)=_
  rw[Q3 λy hy=>h y (Pc _ hy)];rfl
theorem Jd {f:V->DS->PR (List V)}{Q:V->Prop}(h:∀x s,∃y s',f x s=.ok [y] s'/\Q y):∀(l:List V) (s:DS),∃ys s',mapP f l s=.ok ys s'/\ys.length=l.length/\∀y∈ys,Q y
 |[],s=>⟨[],s,rfl,rfl,λ_ h=>by cases h⟩
 |x::l,s=>by
  obtain⟨y,s1,e1,q1⟩:=h x s;obtain⟨ys,s2,e2,l2,q2⟩:=Jd h l s1;refine⟨y::ys,s2,?_,by rw[PC,PC,l2],λz hz=>?_⟩
  ·rw[mapP,e1]
   show (match mapP f l s1 with | .ok zs s=>PR.ok ([y]++zs) s | _=>.no)=_
   rw[e2];rfl
  ·rcases Po.mp hz with rfl | hz
   ·exact q1
   ·exact q2 z hz
theorem Q2 {σ α:Type}{body:V->Env->List Nat->DS->PR FlV}{s:DS}{os:List Nat}{ρ:σ->Option V->Env}{step:σ->α->σ}{e:α->V}(I:σ->Prop):∀{l:List α}{st:σ}{o:Option V},I st->(∀x∈l,∀st o,I st->I (step st x)/\∃o',body (e x) (ρ st o) os s=.ok (.nx (ρ (step st x) o') os) s)->∃o',I (l.foldl step st)/\VI body (l.map e) (ρ st o) os s=.ok (.nx (ρ (l.foldl step st) o') os) s
 |[],st,o,hI,_=>⟨o,hI,rfl⟩
 |x::l,st,o,hI,h=>by
  obtain⟨h1,o1,e1⟩:=h x (Pe ..) st o hI;obtain⟨o2,h2,e2⟩:=Q2 I (l:=l) (st:=step st x) (o:=o1) h1 λy hy=>h y (Pc _ hy)
  refine⟨o2,h2,?_⟩;rw[PP,VI,e1];exact e2
noncomputable def UV:Option Nat->V
 |none=>.non
 |some k=>.int k
noncomputable def spV (p n:Nat):V:=.tup [.int p,.int n]
theorem Zx {a:Int}(h:-4294967296<a) (h':a<4294967296):fits a=true:=by
 unfold fits;refine PJ ?_;have h1:a.natAbs<2^32:=by omega
 exact PN h1 (Km (by decide) (by decide))
theorem JX {α:Type}{xs:List α}{k:Nat}{x:α}(h:xs[k]? = some x):at' xs (k:Int)=some x:=by
 have hk:k<xs.length:=(Pr.mp h).1;unfold at' ixN;rw[Ph (by omega),Ph (by omega)]
 show xs[(k:Int).toNat]? = _;rw[show (k:Int).toNat=k by omega];exact h
theorem XV {r:Row}{k:Nat}(hk:k<r.length):at' (r.map V.int) (k:Int)=some (.int (gt r k)):=by
 refine JX ?_;rw[PM,Pd hk];unfold gt;rw[Pu,Pd hk];rfl
theorem Yd {α:Type}{g:α->Bool}:∀l:List α,Z3 (l.map λx=>.bl (g x))=some (l.map g)
 |[]=>rfl
 |x::l=>by rw[PP,Z3,Yd l];rfl
theorem Qw {α:Type}{f:V->V->Option Bool}{e:α->V}{d:α->α->Bool}(hd:∀a b,d a b=true↔a=b) (h:∀a b,f (e a) (e b)=some (d a b)):∀a b:List α,∃c,Vk f (a.map e) (b.map e)=some c/\(c=true↔a=b)
 |[],[]=>⟨true,rfl,by simp⟩
 |[],_::_=>⟨false,rfl,by simp⟩
 |_::_,[]=>⟨false,rfl,by simp⟩
 |x::a,y::b=>by
  obtain⟨c,e1,e2⟩:=Qw hd h a b;refine⟨d x y&&c,?_,?_⟩
  ·rw[PP,PP,Vk,h,e1]
  ·rw[Pp,hd,e2];simp
theorem ZaR (k:Nat) (a b:Row):eqV (k+2) (Ze a) (Ze b)=some (decide (a=b)):=by
 show Vk (eqV (k+1)) (a.map .int) (b.map .int)=_;obtain⟨c,e1,e2⟩:=Qw (f:=eqV (k+1)) (e:=V.int) (d:=λa b=>decide (a=b)) (λa b=>by simp) (λa b=>rfl) a b
 rw[e1,show c=decide (a=b) by rw[Nf,e2];simp]
theorem uI (k:Nat) (a b:List Row):eqV (k+3) (Za a) (Za b)=some (decide (a=b)):=by
 show Vk (eqV (k+2)) (a.map Ze) (b.map Ze)=_;obtain⟨c,e1,e2⟩:=Qw (f:=eqV (k+2)) (e:=Ze) (d:=λa b=>decide (a=b)) (λa b=>by simp) (λa b=>ZaR k a b) a b
 rw[e1,show c=decide (a=b) by rw[Nf,e2];simp]
theorem QH:∀(r o:Row),((r.map V.int).zip (o.map V.int)).map (λq=>V.tup [q.1,q.2])=(r.zip o).map λq=>V.tup [.int q.1,.int q.2]
 |[],_=>rfl
 |_::_,[]=>rfl
 |a::r,b::o=>by rw[PP,PP,N1,PP,N1,PP,QH r o]
theorem VS:∀r:Row,intsV (r.map V.int)=some r
 |[]=>rfl
 |a::r=>by show (intsV (r.map V.int)).map (a :: ·)=_;rw[VS r];rfl
theorem Q5:∀P:List Row,W6 (P.map Ze)=some P
 |[]=>rfl
 |r::P=>by
  show (match intsV (r.map V.int),W6 (P.map Ze) with | some a,some b=>some (a::b) | _,_=>none)=_
  rw[VS,Q5 P]
theorem XT:∀r:Row,ZB (r.map V.int)=true
 |[]=>rfl
 |a::r=>XT r
theorem Zbh (n:Nat):Yj 0 n=(List.range n).map λ(k:Nat)=>V.int (k:Int):=by
 unfold Yj;refine NI λk _=>?_
 simp
theorem ZY {α:Type}{a:α}{s:DS}:po (some a) s=.ok a s:=rfl
section
variable {C:Zu}{cap:List Nat}{nl:Nat}{t:List Nat}{it:W}{elt tst:E}{ρ:Env}{s:DS}{α:Type}
theorem Zt {l:List α}{e g:α->V}(hw:pvw C it ρ s=.ok (l.map e) s) (hl:l.length<=lim) (h:∀x∈l,∃σ,Zs t (e x) (Z9 cap nl ρ)=some σ/\pv C elt σ s=.ok (g x) s) (ho:own nl t=true:=by rfl):pv C (.comp1 cap nl t it [] elt) ρ s=.ok (.lst (l.map g)) s:=by
 rw[pv,Ph ho,hw,Zb,US (g:=g) λx hx=>by
  obtain⟨σ,e1,e2⟩:=h x hx;rw[e1,ZY,Zb,pvt,Zb];show (pv C elt σ s).bind _=_;rw[e2];rfl]
 rw[Zb,Ph (by rw[Pl];exact hl)]
theorem Yb {l:List α}{e g:α->V}{q:α->Bool}(hw:pvw C it ρ s=.ok (l.map e) s) (hl:l.length<=lim) (h:∀x∈l,∃σ v,Zs t (e x) (Z9 cap nl ρ)=some σ/\pv C tst σ s=.ok v s/\Z6 v=some (q x)/\(q x=true->pv C elt σ s=.ok (g x) s)) (ho:own nl t=true:=by rfl):pv C (.comp1 cap nl t it [tst] elt) ρ s=.ok (.lst ((l.filter q).map g)) s:=by
 rw[pv,Ph ho,hw,Zb,Ul (g:=g) (q:=q) λx hx=>by
  obtain⟨σ,v,e1,e2,e3,e4⟩:=h x hx;rw[e1,ZY,Zb,pvt,e2,Zb,e3,ZY,Zb];cases c:q x with
  |true=>
   rw[Ph rfl,pvt,Zb,Ph rfl,Ph rfl,e4 c];rfl
  |false=>rw[Pj (by simp),Zb,Pj (by simp),Pj (by simp)]]
 rw[Zb,Ph (by rw[Pl];exact P4 (NM ..) hl)]
theorem yb {β:Type}{u:List Nat}{jt:W}{l:List α}{e:α->V}{m:α->List β}{e2:β->V}{g:α->β->V}(hw:pvw C it ρ s=.ok (l.map e) s) (hl:(l.flatMap λx=>(m x).map (g x)).length<=lim)
  (h:∀x∈l,∃σ,Zs t (e x) (Z9 cap nl ρ)=some σ/\pvw C jt σ s=.ok ((m x).map e2) s/\∀y∈m x,∃σ',Zs u (e2 y) σ=some σ'/\pv C elt σ' s=.ok (g x y) s) (ho:own2 nl t u=true:=by rfl):pv C (.comp2 cap nl t it [] u jt [] elt) ρ s=.ok (.lst (l.flatMap λx=>(m x).map (g x))) s:=by
 rw[pv,Ph ho,hw,Zb,Q3 (g:=λx=>(m x).map (g x)) λx hx=>by
  obtain⟨σ,e1,e3,e4⟩:=h x hx;rw[e1,ZY,Zb,pvt,Zb,Ph rfl,e3,Zb];exact US λy hy=>by
   obtain⟨σ',f1,f2⟩:=e4 y hy;rw[f1,ZY,Zb,pvt,Zb];show (pv C elt σ' s).bind _=_;rw[f2];rfl]
 rw[Zb,Ph hl]
theorem Jb {k:Nat}{Q:V->Prop}(hw:pvw C it ρ s=.ok (Yj 0 k) s) (hl:k<=lim) (h:∀(x:V) (s:DS),∃σ y s',Zs t x (Z9 cap nl ρ)=some σ/\pv C elt σ s=.ok y s'/\Q y) (ho:own nl t=true:=by rfl) :
  ∃ys s',pv C (.comp1 cap nl t it [] elt) ρ s=.ok (.lst ys) s'/\ys.length=k/\∀y∈ys,Q y:=by
 obtain⟨ys,s',e1,e2,e3⟩:=Jd (Q:=Q) (f:=λx s=>(po (Zs t x (Z9 cap nl ρ)) s).bind λσ s=>(pvt C [] σ s).bind λb s=>if b then (pv C elt σ s).bind λy s=>.ok [y] s else .ok [] s) (λx s=>by
  obtain⟨σ,y,s',f1,f2,f3⟩:=h x s;refine⟨y,s',?_,f3⟩;rw[f1,ZY,Zb,pvt,Zb];show (pv C elt σ s).bind _=_;rw[f2];rfl) (Yj 0 k) s
 have hk:(Yj 0 k).length=k:=by unfold Yj;simp
 refine⟨ys,s',?_,by rw[e2,hk],e3⟩
 rw[pv,Ph ho,hw,Zb,e1,Zb,Ph (by rw[e2,hk];exact hl)]
end
theorem uL {xs:List V}{k:Nat}(h:k<=xs.length):Xk xs none (some (k:Int))=xs.take k:=by
 show (xs.drop 0).take ((if (k:Int)<0 then ((k:Int)+xs.length).toNat else min (k:Int).toNat xs.length)-0)=_
 rw[Pj (by omega),show min (k:Int).toNat xs.length-0=k by omega];rfl
theorem U5 {xs:List V}{i:Int}{k:Nat}(hi:i=k) (h:k<=xs.length):Xk xs (some i) none=xs.drop k:=by
 subst hi;show (xs.drop (if (k:Int)<0 then ((k:Int)+xs.length).toNat else min (k:Int).toNat xs.length)).take (xs.length-(if (k:Int)<0 then ((k:Int)+xs.length).toNat else min (k:Int).toNat xs.length))=_
 rw[Pj (by omega),show min (k:Int).toNat xs.length=k by omega]
 exact KG (by rw[Nr];omega)
theorem z9 {xs:List V}:Xk xs (some 1) none=xs.tail:=by
 cases xs with
 |nil=>rfl
 |cons x xs=>exact U5 (k:=1) rfl (by simp)
noncomputable def Zh (k:Nat):V:=.int k
theorem JN (n:Nat):Yj 0 n=(List.range n).map Zh:=by rw[Zbh];rfl
theorem XE {i:Int}(h0:0<=i) (h1:i<1000000):small i=true:=by
 unfold small;have e:(2:Int)^62=4611686018427387904:=by decide
 rw[e];exact PJ ⟨by omega,by omega⟩
theorem Zn {F:List Fn}{tk d f:Nat}{vs:List V}{s s':DS}{fn:Fn}{v:V}(hf:F[f]? = some fn) (hne:f≠tk) (hl:vs.length=fn.ps) (h:rvs (ZT F tk d) (muts fn.body) fn.body (XR fn.ns vs) [] s=.ok (.ret v) s'):ZT F tk (d+1) f vs s=.ok v s':=by
 rw[QD hf hne hl,h];rfl
theorem UE {F:List Fn}{tk d f:Nat}{vs:List V}{s s':DS}{fn:Fn}{ρ:Env}{os:List Nat}(hf:F[f]? = some fn) (hne:f≠tk) (hl:vs.length=fn.ps) (h:rvs (ZT F tk d) (muts fn.body) fn.body (XR fn.ns vs) [] s=.ok (.nx ρ os) s'):ZT F tk (d+1) f vs s=.ok .non s':=by
 rw[QD hf hne hl,h];rfl
section
variable {C:Zu}{ms:List Nat}{m:Sm}{l:List Sm}{ρ ρ':Env}{os os':List Nat}{s s':DS}
theorem Zg (h:rv C ms m ρ os s=.ok (.nx ρ' os') s'):rvs C ms (m::l) ρ os s=rvs C ms l ρ' os' s':=by rw[rvs,h];rfl
theorem Zv {v:V}(h:rv C ms m ρ os s=.ok (.ret v) s'):rvs C ms (m::l) ρ os s=.ok (.ret v) s':=by rw[rvs,h];rfl
theorem ZL {v:V}{e:E}(h:pv C e ρ s=.ok v s'):rv C ms (.ret e) ρ os s=.ok (.ret v) s':=by rw[rv,h];rfl
theorem Uq {v:V}{f:Nat}{as:List E}(h:pv C (.call f as) ρ s=.ok v s'):rv C ms (.ex (.call f as)) ρ os s=.ok (.nx ρ os) s':=by
 have:rv C ms (.ex (.call f as)) ρ os s=(pv C (.call f as) ρ s).bind λ_ s=>.ok (.nx ρ os) s:=by
  rw[rv]
  all_goals (intro _ _ z;cases z)
 rw[this,h];rfl
theorem Wl {b:Bool}{t:E}{x y:List Sm}(h:V2 C t ρ s=.ok b s'):rv C ms (.ite t x y) ρ os s=if b=true then rvs C ms x ρ os s' else rvs C ms y ρ os s':=by rw[rv,h];rfl
theorem XD {v:V}{b:Bool}{t:E}(h:pv C t ρ s=.ok v s') (hb:Z6 v=some b):V2 C t ρ s=.ok b s':=by unfold V2;rw[h,Zb,hb];rfl
theorem Zk {f:Nat}{as:List E}{vs:List V}{v:V}{s1:DS}(h:pvs C as ρ s=.ok vs s1) (hc:C f vs s1=.ok v s'):pv C (.call f as) ρ s=.ok v s':=by rw[pv,h];exact hc
theorem Zi:pvs C [] ρ s=.ok [] s:=by rw[pvs]
theorem Zd {e:E}{es:List E}{v:V}{vs:List V}{s1:DS}(h:pv C e ρ s=.ok v s1) (h2:pvs C es ρ s1=.ok vs s'):pvs C (e::es) ρ s=.ok (v::vs) s':=by rw[pvs,h,Zb,h2];rfl
theorem Zf {i:Nat}{v:V}(h:ρ[i]? = some (some v)):pv C (.v i) ρ s=.ok v s:=by rw[pv,h];rfl
theorem ZN {i:Nat}{e:E}{v:V}(h:pv C e ρ s=.ok v s') (hm:(ms.contains i&&fresh e)=false):rv C ms (.asg [i] e) ρ [] s=.ok (.nx (ρ.set i (some v)) []) s':=by
 rw[rv];show (pv C e ρ s).bind _=_;rw[h,Zb,Pj (by rw[hm];simp)];rfl
theorem Ge {σ α:Type}{t:List Nat}{it:W}{b:List Sm}{L:List α}{e:α->V}{step:σ->α->σ}{ρ:σ->Option V->Env}{st:σ}{o:Option V}(I:σ->Prop) (hw:pvw C it (hide os (ρ st o)) s=.ok (L.map e) s) (hI:I st) (ht:(t.any os.contains)=false)
  (h:∀x∈L,∀st o,I st->I (step st x)/\(os.isEmpty||(e x).flat)=true/\∃ρ1 o',Zs t (e x) (ρ st o)=some ρ1/\rvs C ms b ρ1 os s=.ok (.nx (ρ (step st x) o') os) s) :
  ∃o',I (L.foldl step st)/\rv C ms (.forr t it b) (ρ st o) os s=.ok (.nx (ρ (L.foldl step st) o') os) s:=by
 obtain⟨o',h1,h2⟩:=Q2 (body:=λx ρ os s=>if (t.any os.contains)=true then .no else if (os.isEmpty||x.flat)=true then (po (Zs t x ρ) s).bind λρ s=>rvs C ms b ρ os s else .no) (s:=s) (os:=os) (ρ:=ρ) (step:=step) (e:=e) I (l:=L) (st:=st) (o:=o) hI (λx hx st o hI=>by
  obtain⟨a,f,ρ1,o',b1,b2⟩:=h x hx st o hI;refine⟨a,o',?_⟩;rw[Pj (by rw[ht];simp),Ph f,b1,ZY,Zb,b2])
 refine⟨o',h1,?_⟩;rw[rv,hw,Zb];exact h2
theorem Yz {e:E}{n:Nat}(h:pv C e ρ s=.ok (.int n) s') (hn:n<1000000):pvw C (.rng1 e) ρ s=.ok ((List.range n).map Zh) s':=by
 rw[pvw,h,Zb];show (if small (n:Int)=true then PR.ok (Yj 0 (n:Int).toNat) s' else .no)=_
 rw[Ph (XE (by omega) (by omega)),Int.toNat_natCast,JN]
theorem GA {α:Type}{t:List Nat}{it:W}{b:List Sm}{L:List α}{e:α->V}(I:List α->Env->Prop) (hw:pvw C it (hide os ρ) s=.ok (L.map e) s) (hI:I L ρ) (ht:(t.any os.contains)=false)
  (h:∀x l ρ,I (x::l) ρ->(os.isEmpty||(e x).flat)=true/\∃ρ1 ρ',Zs t (e x) ρ=some ρ1/\rvs C ms b ρ1 os s=.ok (.nx ρ' os) s/\I l ρ') :
  ∃ρ',I [] ρ'/\rv C ms (.forr t it b) ρ os s=.ok (.nx ρ' os) s:=by
 rw[rv,hw,Zb];clear hw
 induction L generalizing ρ with
 |nil=>exact⟨ρ,hI,rfl⟩
 |cons x L ih=>
  obtain⟨f,ρ1,ρ',b1,b2,b3⟩:=h x L ρ hI;obtain⟨ρ2,c1,c2⟩:=ih b3;refine⟨ρ2,c1,?_⟩;rw[PP,VI,Pj (by rw[ht];simp),Ph f,b1,ZY,Zb,b2,Zb]
  exact c2
theorem X2 {σ α:Type}{t:List Nat}{it:W}{b:List Sm}{L:List α}{e:α->V}{step:σ->α->σ}{ρ:σ->Option V->Env}{st:σ}{o:Option V}(I:List α->σ->Prop) (hw:pvw C it (hide os (ρ st o)) s=.ok (L.map e) s) (hI:I L st) (ht:(t.any os.contains)=false)
  (h:∀x l st o,I (x::l) st->I l (step st x)/\(os.isEmpty||(e x).flat)=true/\∃ρ1 o',Zs t (e x) (ρ st o)=some ρ1/\rvs C ms b ρ1 os s=.ok (.nx (ρ (step st x) o') os) s) :
  ∃o',I [] (L.foldl step st)/\rv C ms (.forr t it b) (ρ st o) os s=.ok (.nx (ρ (L.foldl step st) o') os) s:=by
 rw[rv,hw,Zb];clear hw
 induction L generalizing st o with
 |nil=>exact⟨o,hI,rfl⟩
 |cons x L ih=>
  obtain⟨a,f,ρ1,o',b1,b2⟩:=h x L st o hI;obtain⟨o2,c1,c2⟩:=ih (st:=step st x) (o:=o') a;refine⟨o2,c1,?_⟩;rw[PP,VI,Pj (by rw[ht];simp),Ph f,b1,ZY,Zb,b2,Zb]
  exact c2
end
theorem pvF:(∀a,fresh (.lst a)=true)/\(∀a b,fresh (.bin .mul (.lst a) b)=true)/\(∀b,Z6 (.bl b)=some b)/\(∀i,Z6 (.int i)=some (decide (i≠0)))/\(∀xs,Z6 (.tup xs)=some (!xs.isEmpty))/\(∀xs,Z6 (.lst xs)=some (!xs.isEmpty))/\(Z6 .non=some false)/\(∀xs i,ixV (.tup xs) (.int i)=at' xs i)/\(∀xs i,ixV (.lst xs) (.int i)=at' xs i)/\(∀xs,Z5 (.tup xs)=some xs)/\(∀xs,Z5 (.lst xs)=some xs)/\(∀x,QB .len [x]=(Z5 x).map λxs=>.int xs.length)/\(∀x,QB .tuple [x]=(Z5 x).map .tup)/\(∀x,QB .list [x]=(Z5 x).map .lst)/\(∀xs,QB .all [.lst xs]=(Z3 xs).map λbs=>.bl (bs.all id))/\(∀a b,QB .max2 [.int a,.int b]=some (.int (if b>a then b else a)))/\(∀a b,QB .min2 [.int a,.int b]=some (.int (if b<a then b else a)))/\(∀a,QB .toInt [.int a]=some (.int a))/\(∀a,QB .toInt [.bl a]=some (.int (b2i a)))/\(∀xs,QB .sortedR [.lst xs]=(W6 xs).bind λrs=>if YX rs=true then some (.lst ((ZS rs).reverse.map Ze)) else none)/\(∀a b s,Ut .add (.int a) (.int b) s=.ok (.int (a+b)) s)/\(∀a b s,Ut .sub (.int a) (.int b) s=.ok (.int (a-b)) s)/\(∀a b s,Ut .mul (.int a) (.int b) s=if (fits a&&fits b)=true then .ok (.int (a*b)) s else .no)/\(∀a b s,Ut .mod (.int a) (.int b) s=if 0<b then .ok (.int (a%b)) s else .no)/\(∀a b s,Ut .add (.tup a) (.tup b) s=if a.length+b.length<=lim then .ok (.tup (a++b)) s else .no)/\(∀a b s,Ut .mul (.tup a) (.int b) s=if 0<=b/\b<1000/\a.length<=1000 then .ok (.tup (List.replicate b.toNat a).flatten) s else .no)/\(∀a b s,Ut .mul (.lst a) (.int b) s=if 0<=b/\b<1000/\a.length<=1000 then .ok (.lst (List.replicate b.toNat a).flatten) s else .no)/\(∀a b s,Ut .add (.lst a) (.lst b) s=if a.length+b.length<=lim then .ok (.lst (a++b)) s else .no)/\(∀x y,Wv .eq x y=(eqV Zo x y).map .bl)/\(∀x y,Wv .ne x y=(eqV Zo x y).map λb=>.bl !b)/\(∀a b,Wv .lt (.int a) (.int b)=some (.bl (decide (a<b))))/\(∀a b,Wv .gt (.int a) (.int b)=some (.bl (decide (b<a))))/\(∀a b,Wv .le (.int a) (.int b)=some (.bl (decide (a<=b))))/\(∀a b,Wv .ge (.int a) (.int b)=some (.bl (decide (b<=a))))/\(∀x,Wv .is x .non=some (.bl (XI x)))/\(∀x,Wv .isn x .non=some (.bl !(XI x)))/\(∀a b,Wv .is (.bl a) (.bl b)=some (.bl (decide (a=b))))/\(∀a b,Wv .isn (.bl a) (.bl b)=some (.bl (decide (a≠b))))/\(∀x y,Wv .inn x y=(Wk x y).map .bl)/\(∀x y,Wv .nin x y=(Wk x y).map λb=>.bl !b)/\(XI .non=true)/\(∀b,XI (.bl b)=false)/\(∀b,XI (.int b)=false)/\(∀b,XI (.tup b)=false)/\(∀b,XI (.lst b)=false)/\(ofD .non=some .non)/\(∀b,ofD (.bl b)=some (.bl b))/\(∀b,ofD (.int b)=some (.int b))/\(∀ρ,YS [] [] ρ=some ρ)/\(∀i t x xs ρ,YS (i::t) (x::xs) ρ=YS t xs (ρ.set i (some x)))/\(∀i x ρ,Zs [i] x ρ=some (ρ.set i (some x)))/\(∀i j t xs ρ,Zs (i::j::t) (.tup xs) ρ=YS (i::j::t) xs ρ)/\(∀i j t xs ρ,Zs (i::j::t) (.lst xs) ρ=YS (i::j::t) xs ρ)/\(∀k a b,eqV (k+1) (.int a) (.int b)=some (decide (a=b)))/\(∀k a b,eqV (k+1) (.bl a) (.bl b)=some (decide (a=b)))/\(∀k a b,eqV (k+1) (.tup a) (.tup b)=Vk (eqV k) a b)/\(∀k a b,eqV (k+1) (.lst a) (.lst b)=if a.length=b.length then Vk (eqV k) a b else some false):=
 ⟨λ_=>rfl,λ_ _=>rfl,λ_=>rfl,λ_=>rfl,λ_=>rfl,λ_=>rfl,rfl,λ_ _=>rfl,λ_ _=>rfl,λ_=>rfl,λ_=>rfl,λ_=>rfl,λ_=>rfl,λ_=>rfl,λ_=>rfl,λ_ _=>rfl,λ_ _=>rfl,λ_=>rfl,λ_=>rfl,λ_=>rfl,λ_ _ _=>rfl,λ_ _ _=>rfl,λ_ _ _=>rfl,λ_ _ _=>rfl,λ_ _ _=>rfl,λ_ _ _=>rfl,λ_ _ _=>rfl,λ_ _ _=>rfl,λ_ _=>rfl,λ_ _=>rfl,λ_ _=>rfl,λ_ _=>rfl,λ_ _=>rfl,λ_ _=>rfl,λ_=>rfl,λ_=>rfl,λ_ _=>rfl,λ_ _=>rfl,λ_ _=>rfl,λ_ _=>rfl,rfl,λ_=>rfl,λ_=>rfl,λ_=>rfl,λ_=>rfl,rfl,λ_=>rfl,λ_=>rfl,λ_=>rfl,λ_ _ _ _ _=>rfl,λ_ _ _=>rfl,λ_ _ _ _ _=>rfl,λ_ _ _ _ _=>rfl,λ_ _ _=>rfl,λ_ _ _=>rfl,λ_ _ _=>rfl,λ_ _ _=>rfl⟩
def pvE:=And.intro (And.intro (And.intro (And.intro (And.intro pvF (And.intro @Zb @ZY)) (And.intro (And.intro @V2.eq_1 @XR.eq_1) (And.intro @hide.eq_1 @Z9.eq_1))) (And.intro (And.intro (And.intro @Option.join.eq_1.{0} @lim.eq_1) (And.intro @rvs.eq_1 @rvs.eq_2)) (And.intro (And.intro @rv.eq_1 @rv.eq_2) (And.intro @rv.eq_3 @rv.eq_4)))) (And.intro (And.intro (And.intro (And.intro @rv.eq_5 @rv.eq_6) (And.intro @rv.eq_7 @rv.eq_8)) (And.intro (And.intro @rv.eq_9 @rv.eq_10) (And.intro @rv.eq_11 @rv.eq_12))) (And.intro (And.intro (And.intro @rv.eq_13 @rv.eq_14) (And.intro @rv.eq_15 @rv.eq_16)) (And.intro (And.intro @rv.eq_17 @pvA.eq_1) (And.intro @pvA.eq_2 @pvs.eq_1))))) (And.intro (And.intro (And.intro (And.intro (And.intro @pvs.eq_2 @pvo.eq_1) (And.intro @pvo.eq_2 @pvt.eq_1)) (And.intro (And.intro @pvt.eq_2 @pvw.eq_1) (And.intro @pvw.eq_2 @pvw.eq_3))) (And.intro (And.intro (And.intro @pvw.eq_4 @pvw.eq_5) (And.intro @pvw.eq_6 @pvw.eq_7)) (And.intro (And.intro @pv.eq_1 @pv.eq_2) (And.intro @pv.eq_3 @pv.eq_4)))) (And.intro (And.intro (And.intro (And.intro @pv.eq_5 @pv.eq_6) (And.intro @pv.eq_7 @pv.eq_8)) (And.intro (And.intro @pv.eq_9 @pv.eq_10) (And.intro @pv.eq_11 @pv.eq_12))) (And.intro (And.intro (And.intro @pv.eq_13 @pv.eq_14) (And.intro @pv.eq_15 @pv.eq_16)) (And.intro (And.intro @pv.eq_17 @pv.eq_18) (And.intro @pv.eq_19 @pv.eq_20)))))
end Pv
set_option maxRecDepth 10000
namespace Rw
open La
open Ev (ltI Wm ZS)
section
variable {p n:Nat}[Base p]
theorem pP {P:List Row}(hP:pZ p n P):pZ p n (Z1 p n P):=(Yi hP).1
theorem Vn {P:List Row}(hP:pZ p n P):Z1 p n (Z1 p n P)=P:=by
 refine xX (pP (pP hP)).row hP.row ?_;rw[(Yi (pP hP)).2,(Yi hP).2,Uc fld hP.pn]
theorem Qa {P:List Row}(hP:pZ p n P):(Z1 p n P).length+P.length=n:=by
 have:=WR (inv:=Uy p) fld hP.pn;rw[<-(Yi hP).2,Gs,Gs] at this;exact this
theorem xF {P:List Row}(hP:pZ p n P) (u:Vec (Fin p)):Mm p (Z1 p n P) u↔Supp n u/\∀v,Mm p P v->dot n v u=0:=by
 unfold Mm;rw[(Yi hP).2];exact Yu fld hP.pn u
theorem QX {P Q:List Row}(hP:pZ p n P) (hQ:pZ p n Q):P.all (YD p Q)=(Z1 p n Q).all (YD p (Z1 p n P)):=by
 rw[Nf,YR hP hQ,YR (pP hQ) (pP hP)];have key:∀{A B:List Row},pZ p n A->pZ p n B->(∀u,Mm p A u->Mm p B u)->∀u,Mm p (Z1 p n B) u->Mm p (Z1 p n A) u:=λhA hB h u hu=>by
  rw[xF hB] at hu;rw[xF hA];exact⟨hu.1,λv hv=>hu.2 v (h v hv)⟩
 refine⟨key hP hQ,λh=>?_⟩
 have:=key (pP hQ) (pP hP) h;rw[Vn hP,Vn hQ] at this;exact this
theorem Ja:∀l:List Row,(ZS l).length=l.length
 |[]=>rfl
 |x::r=>by
  show (Wm x (ZS r)).length=_;have:∀l:List Row,(Wm x l).length=l.length+1:=λl=>by
   induction l with
   |nil=>rfl
   |cons y l ih=>
    unfold Wm;split
    ·rfl
    ·rw[PC,ih];rfl
  rw[this,Ja r];rfl
theorem GB (P:List Row) (r:Row):P.length<=(VN p P r).length:=by
 unfold VN;split
 ·exact Pk _
 ·rw[List.length_reverse,Ja,PD,Pl];simp
theorem zh:∀(rs P:List Row),P.length<=(Wg p P rs).length
 |[],P=>Pk _
 |r::rs,P=>P4 (GB P r) (zh rs (VN p P r))
theorem wo {P Q:List Row}(hP:pZ p n P) (hQ:pZ p n Q) (h:P.all (YD p Q)=true):P.length<=Q.length:=by
 have e:=qB hP hQ ((YR hP hQ).mp h);have:=zh (p:=p) Q P;rw[e] at this;exact this
noncomputable def Y1 (p:Nat) (rs:List Row):List Row:=rs.flatMap λr=>(List.range p).map λ(k:Nat)=>r++[(k:Int)]
noncomputable def ZJ (p n h:Nat):List Row:=(List.range (n-(h+1))).foldl (λrs _=>Y1 p rs) [List.replicate h 0++[1]]
noncomputable def Z0 (P:List Row):Nat:=match P.getLast? with
 |some r=>(hdI r).getD 0+1
 |none=>0
noncomputable def Vf (n f:Nat):List Nat:=((List.range (n-f)).map (f + ·)).reverse
noncomputable def Uw (p n:Nat) (P:List Row) (st:List Row) (h:Nat):List Row:=if (P.all λr=>decide (gt r h=0))=true then st++ZJ p n h else st
noncomputable def UW (p n:Nat) (P:List Row):List Row:=(Vf n (Z0 P)).foldl (Uw p n P) []
noncomputable def zV (p n:Nat) (Ps:List (List Row)):List (List Row):=Ps.flatMap λP=>(UW p n P).map λr=>P++[r]
noncomputable def Z4 (p n:Nat):Nat->List (List Row)
 |0=>[[]]
 |k+1=>zV p n (Z4 p n k)
def Zba (p h m:Nat) (r:Row):Prop:=∃t:Row,r=List.replicate h 0++1::t/\t.length=m/\∀a∈t,0<=a/\a<(p:Int)
theorem Zbb {h m:Nat}{rs:List Row}(H:∀r∈rs,Zba p h m r):∀r∈Y1 p rs,Zba p h (m+1) r:=λr hr=>by
 obtain⟨q,hq,hr⟩:=NU.mp hr;obtain⟨k,hk,rfl⟩:=Py.mp hr;obtain⟨t,rfl,ht,hb⟩:=H q hq;have hk':=PH.mp hk;refine⟨t++[(k:Int)],by simp,by simp[ht],λa ha=>?_⟩
 rcases Nd.mp ha with z | z
 ·exact hb a z
 ·rw[PL.mp z];exact⟨by omega,by omega⟩
theorem ya (rs:List Row):(Y1 p rs).length=rs.length*p:=by
 unfold Y1;rw[List.length_flatMap];simp only[Pl,PU];rw[List.map_const',List.sum_replicate_nat]
theorem G2 {h:Nat}:∀(L:List Nat) {m:Nat}{rs:List Row},(∀r∈rs,Zba p h m r)->(∀r∈L.foldl (λrs _=>Y1 p rs) rs,Zba p h (m+L.length) r)/\(L.foldl (λrs _=>Y1 p rs) rs).length=rs.length*p^L.length
 |[],m,rs,H=>⟨H,by simp⟩
 |_::L,m,rs,H=>by
  obtain⟨a,b⟩:=G2 L (Zbb H);refine⟨λr hr=>?_,?_⟩
  ·have:=a r hr
   rw[show m+1+L.length=m+(L.length+1) by omega] at this
   exact this
  ·rw[List.foldl_cons,b,ya,PC,Nat.pow_succ,Nat.mul_assoc,Nat.mul_comm p]
theorem Jc {h:Nat}(hh:h<n):(∀r∈ZJ p n h,Zm p n r/\gt r h=1/\∀i,i<h->gt r i=0)/\(ZJ p n h).length=p^(n-(h+1)):=by
 have hone:(1:Int)<p:=by rcases (inferInstance:Base p).b with e | e | e <;> subst e <;> decide
 obtain⟨a,b⟩:=G2 (p:=p) (h:=h) (List.range (n-(h+1))) (m:=0) (rs:=[List.replicate h 0++[1]]) λr hr=>⟨[],by rw[PL.mp hr],rfl,λa ha=>by cases ha⟩
 refine⟨λr hr=>?_,by unfold ZJ;rw[b];simp⟩
 obtain⟨t,rfl,ht,hb⟩:=a r hr;rw[PU] at ht;refine⟨⟨by simp[ht];omega,λx hx=>?_⟩,?_,λi hi=>?_⟩
 ·rcases Nd.mp hx with z | z
  ·rw[(List.mem_replicate.mp z).2];exact⟨by omega,by omega⟩
  ·rcases Po.mp z with rfl | z
   ·exact⟨by omega,hone⟩
   ·exact hb x z
 ·unfold gt;rw[Pu,PQ (by simp)];simp
 ·unfold gt;rw[Pu,PB (by simpa using hi),Nm];simp[hi]
theorem zt {P:List Row}{r:Row}:∀(L:List Nat) (st:List Row),r∈L.foldl (Uw p n P) st->r∈st\/∃h∈L,(∀q∈P,gt q h=0)/\r∈ZJ p n h
 |[],st,hr=>.inl hr
 |h::L,st,hr=>by
  rcases zt L (Uw p n P st h) hr with z | ⟨k,hk,z⟩
  ·unfold Uw at z
   split at z
   ·rename_i c
    rcases Nd.mp z with z | z
    ·exact .inl z
    ·exact .inr ⟨h,Pe ..,λq hq=>PF (Pw.mp c q hq),z⟩
   ·exact .inl z
  ·exact .inr ⟨k,Pc _ hk,z⟩
theorem W7 {f h:Nat}:h∈Vf n f↔f<=h/\h<n:=by
 unfold Vf;rw[List.mem_reverse,Py]
 constructor
 ·rintro ⟨k,hk,rfl⟩
  have:=PH.mp hk;omega
 ·rintro ⟨a,b⟩
  exact⟨h-f,PH.mpr (by omega),by omega⟩
theorem vR {P:List Row}{r:Row}(hr:r∈UW p n P):∃h,Z0 P<=h/\h<n/\(∀q∈P,gt q h=0)/\r∈ZJ p n h:=by
 rcases zt _ _ hr with z | ⟨h,hh,a,b⟩
 ·cases z
 ·obtain⟨x,y⟩:=W7.mp hh
  exact⟨h,x,y,a,b⟩
theorem qy {P:List Row}(hP:pZ p n P) {r:Row}(hr:r∈P):(hdI r).getD 0<Z0 P:=by
 have hi:=hP.pn.rf.inc;unfold toP at hi;rw[NQ] at hi;unfold Z0;cases e:P.getLast? with
 |none=>rw[List.getLast?_eq_none_iff] at e;rw[e] at hr;cases hr
 |some q=>
  obtain⟨P',rfl⟩:=Kq.mp e;show _<(hdI q).getD 0+1;rcases Nd.mp hr with z | z
  ·have:=(List.pairwise_append.mp hi).2.2 r z q (PL.mpr rfl)
   simp only at this;omega
  ·rw[PL.mp z];omega
theorem ut {o l:Row}{j:Nat}(ho:Zm p n o) (hl:Zm p n l) (h:gt o j=0):clr p o l j=o:=by
 refine jx ?_ λk=>?_
 ·exact (Yl (k:=-(gt o j)) ho hl).1.trans ho.1.symm
 ·unfold clr
  rw[JU ho hl,h];have:=Xg ppos ho k;simp only[Int.neg_zero,Int.zero_mul,Int.add_zero];exact KI this.1 this.2
theorem ZaV {P:List Row}{r:Row}(hP:pZ p n P) (hr:r∈UW p n P):pZ p n (P++[r]):=by
 obtain⟨h,h1,h2,h3,h4⟩:=vR hr;obtain⟨hrow,hone,hzero⟩:=(Jc h2).1 r h4;have:=Q8 hP hrow h2 hone hzero λq hq=>PN (qy hP hq) h1
 have e:P.map (λo=>clr p o r h)=P:=by
  conv=>rhs;rw[<-List.map_id P]
  exact NI λo ho=>ut (hP.row o ho) hrow (h3 o ho)
 rw[e] at this;exact this.1
theorem Xf:∀(k:Nat),∀P∈Z4 p n k,pZ p n P/\P.length=k
 |0,P,hP=>by rw[PL.mp hP];exact⟨pZ.nil,rfl⟩
 |k+1,P,hP=>by
  obtain⟨Q,hQ,hP⟩:=NU.mp hP;obtain⟨r,hr,rfl⟩:=Py.mp hP;obtain⟨a,b⟩:=Xf k Q hQ;exact⟨ZaV a hr,by simp[b]⟩
end
end Rw
namespace Rw
noncomputable def ZdD (p n:Nat):Bool:=(List.range (n+1)).all λk=>decide ((Z4 p n k).length<=1395)
noncomputable def ZaG:List (Nat×Nat):=[(2,1),(2,2),(2,3),(2,4),(3,1),(3,2),(3,3),(5,1),(5,2)]
noncomputable def jT:List (Nat×Nat):=[(2,5),(2,6),(3,4),(5,3)]
theorem uE:((ZaG++jT).all λs=>ZdD s.1 s.2)=true:=by decide +kernel
end Rw
namespace Rw
open La
section
variable {p n:Nat}[Base p]
theorem v5 {t:Row}{a:Int}{rs:List Row}(h:t∈rs) (ha:0<=a/\a<(p:Int)):t++[a]∈Y1 p rs:=by
 unfold Y1;refine NU.mpr ⟨t,h,Py.mpr ⟨a.toNat,PH.mpr (by omega),?_⟩⟩
 rw[show ((a.toNat:Nat):Int)=a by omega]
theorem Jt {b:Row}:∀(m:Nat) {t:Row},t.length=m->(∀a∈t,0<=a/\a<(p:Int))->b++t∈(List.range m).foldl (λrs _=>Y1 p rs) [b]
 |0,t,hl,_=>by
  rw[NB.mp hl];simp
 |m+1,t,hl,ha=>by
  rw[List.range_succ,List.foldl_append];show b++t∈Y1 p ((List.range m).foldl (λrs _=>Y1 p rs) [b])
  obtain⟨u,a,rfl⟩:∃u a,t=u++[a]:=by
   rcases List.eq_nil_or_concat t with e | ⟨u,a,e⟩
   ·rw[e] at hl;simp at hl
   ·exact⟨u,a,by simpa using e⟩
  rw[<-List.append_assoc];refine v5 (Jt m (by simpa using hl) λx hx=>ha x (Nc _ hx)) (ha a (by simp))
theorem yU {r:Row}{h:Nat}(hr:Zm p n r) (hh:h<n) (h1:gt r h=1) (h0:∀i,i<h->gt r i=0):r∈ZJ p n h:=by
 have e:r=(List.replicate h 0++[1])++r.drop (h+1):=by
  apply KZ
  ·rw[PD,PD,Nu,P1,Nr,hr.1];omega
  ·intro i a b
   have g:gt r i=r[i]:=by unfold gt;rw[Pu,Pd a];rfl
   rw[<-g];rcases Nat.lt_trichotomy i h with c | c | c
   ·rw[h0 i c,List.getElem_append_left (by simp;omega),List.getElem_append_left (by simp;omega),List.getElem_replicate]
   ·subst c
    rw[h1,List.getElem_append_left (by simp),List.getElem_append_right (by simp)]
    simp
   ·rw[List.getElem_append_right (by simp;omega),List.getElem_drop,g]
    congr 1
    simp;omega
 rw[e];unfold ZJ;exact Jt _ (by rw[Nr,hr.1]) λa ha=>hr.2 a (List.mem_of_mem_drop ha)
theorem zk {P:List Row}{r:Row}{h:Nat}(hz:∀q∈P,gt q h=0) (hr:r∈ZJ p n h):∀(L:List Nat) (st:List Row),r∈st\/h∈L->r∈L.foldl (Uw p n P) st
 |[],st,z=>by
  rcases z with z | z
  ·exact z
  ·cases z
 |k::L,st,z=>by
  show r∈L.foldl (Uw p n P) (Uw p n P st k);refine zk hz hr L _ ?_;rcases z with z | z
  ·left
   unfold Uw;split
   ·exact Nc _ z
   ·exact z
  ·rcases Po.mp z with rfl | z
   ·left
    unfold Uw;rw[Ph (Pw.mpr λq hq=>PJ (hz q hq))]
    exact P8 _ hr
   ·exact .inr z
theorem pZ.snoc {P:List Row}{r:Row}(h:pZ p n (P++[r])):r∈UW p n P:=by
 obtain⟨k,h1,h2,h3⟩:=h.head fld.one0 (r:=r) (by simp)
 have hr:=h.row r (by simp)
 have one:ph p 1=1:=by rcases (inferInstance:Base p).b with e | e | e <;> subst e <;> rfl
 have hp2:(1:Int)<p:=by rcases (inferInstance:Base p).b with e | e | e <;> subst e <;> decide
 have g1:gt r k=1:=Gc (Xg ppos hr k) ⟨by omega,hp2⟩ (by rw[one];exact h3)
 have hin:r∈ZJ p n k:=yU hr h2 g1 (YM h1).2.2;have inc:=h.pn.rf.inc;have am:(k,toV p r)∈toP p (P++[r]):=by have:=Z8 (p:=p) (P:=P++[r]) (r:=r) (by simp);rw[h1] at this;exact this
 have lt:∀q∈P,(hdI q).getD 0<k:=λq hq=>by
  unfold toP at inc;rw[Nq,List.pairwise_append] at inc;have:=inc.2.2 _ (Py.mpr ⟨q,hq,rfl⟩) _ (Py.mpr ⟨r,PL.mpr rfl,rfl⟩);rw[h1] at this;exact this
 have hz:∀q∈P,gt q k=0:=λq hq=>by
  have qm:=Z8 (p:=p) (P:=P++[r]) (r:=q) (Nc _ hq);have:=h.pn.rf.zer _ am _ qm (by have:=lt q hq;simp only;omega)
  exact (Xd (h.row q (Nc _ hq))).mp this
 have hf:Z0 P<=k:=by
  unfold Z0;cases e:P.getLast? with
  |none=>exact Ka _
  |some q=>
   have:=lt q (List.mem_of_getLast? e);exact this
 exact zk hz hin _ _ (.inr (W7.mpr ⟨hf,h2⟩))
theorem VB:∀(k:Nat) {P:List Row},P.length=k->pZ p n P->P∈Z4 p n k
 |0,P,hl,_=>by rw[NB.mp hl];exact PL.mpr rfl
 |k+1,P,hl,hP=>by
  obtain⟨Q,r,rfl⟩:∃u a,P=u++[a]:=by
   rcases List.eq_nil_or_concat P with e | ⟨u,a,e⟩
   ·rw[e] at hl;simp at hl
   ·exact⟨u,a,by simpa using e⟩
  exact NU.mpr ⟨Q,VB k (by simpa using hl) hP.init,Py.mpr ⟨r,hP.snoc,rfl⟩⟩
end
noncomputable def Xm (p:Nat):Nat->Nat->Nat
 |_,0=>1
 |0,_+1=>0
 |m+1,k+1=>Xm p m k+p^(k+1)*Xm p m (k+1)
noncomputable def inB (p:Nat) (P Q:List Row):Bool:=P.all (YD p Q)
noncomputable def Vc (p n:Nat) (P Q:List Row):List (List Row):=(List.range (Q.length+1-P.length)).flatMap λi=>((Z4 p n (P.length+i)).filter λX=>inB p P X).filter λX=>inB p X Q
noncomputable def muS (p:Nat) (z:Int×Int):Int×Int:=(-z.1*z.2,z.2*p)
noncomputable def muI (p:Nat):Nat->Int×Int
 |0=>(1,1)
 |d+1=>muS p (muI p d)
noncomputable def YY:List (Nat×Nat):=[(2,1),(2,2),(2,3),(2,4),(3,1),(3,2),(5,1)]
noncomputable def jY (p n:Nat):List (List Row):=(List.range (n+1)).flatMap (Z4 p n)
noncomputable def vU (p a b z:Nat):Nat:=if a<=z/\z<=b then Xm p (b-a) (z-a) else 0
noncomputable def okB (p n a b:Nat) (B:List (List Row)):Bool:=
 ((List.range (n+1)).all λz=>decide ((B.filter λX=>decide (X.length=z)).length=vU p a b z))&&((decide ((B.map λX=>(muI p (X.length-a)).1).sum=if b-a=0 then 1 else 0)&&Ev.Xc (B.map λX=>(muI p (X.length-a)).1))&&(decide ((B.map λX=>(muI p (b-X.length)).1).sum=if b-a=0 then 1 else 0)&&Ev.Xc (B.map λX=>(muI p (b-X.length)).1)))
noncomputable def ZdX (p n:Nat):Bool:=(jY p n).all λP=>(jY p n).all λQ=>!inB p P Q||okB p n P.length Q.length (Vc p n P Q)
theorem qs:(YY.all λs=>ZdX s.1 s.2)=true:=by decide +kernel
section
variable {p n:Nat}[Base p]
theorem G6 {W:List Row}{r l:Row}{j:Nat}(hW:pZ p n W) (hr:Zm p n r) (hl:Zm p n l) (h1:YD p W l=true) (h2:YD p W (clr p r l j)=true):YD p W r=true:=by
 rw[Xj hW hr];have a:=(Xj hW hl).mp h1;have b:=(Xj hW (Yl hr hl)).mp h2;rw[show toV p (Xt p r l (-gt r j))=_ from VD hr hl] at b
 have c:=WL (toV p r j) b a;have e:(λk=>(toV p r k-toV p r j*toV p l k)+toV p r j*toV p l k)=toV p r:=by funext k;grind
 rw[e] at c;exact c
theorem jM {W:List Row}{r:Row}(hW:pZ p n W) (hr:Zm p n r) (h:∀i,gt r i=0):YD p W r=true:=by
 rw[Xj hW hr];have e:toV p r=λ_=>0:=by funext k;exact (Xd hr).mpr (h k)
 show Mem _ _;rw[e];exact Wy
theorem xQ {W:List Row}{r:Row}(hW:pZ p n W) (hr:r∈W):YD p W r=true:=by
 rw[Xj hW (hW.row r hr)];exact Wa hW.pn.rf (Z8 hr)
def Bk (p n:Nat) [NeZero p] (R rest found:List Row):Prop:=∀W,pZ p n W->(∀r∈rest,YD p W r=true)->(∀r∈found,YD p W r=true)->∀r∈R,YD p W r=true
theorem Bk.take {R rest found:List Row}{j:Nat}{f:Row}(B:Bk p n R rest found) (h:Red p n j rest found) (hf:f∈rest):Bk p n R (rest.map λr=>clr p r (lead p f j) j) (found.map (λr=>clr p r (lead p f j) j)++[lead p f j]):=λW hW h1 h2=>by
 have hl:Zm p n (lead p f j):=XJ (h.row f hf);have l1:=h2 _ (P8 _ (PL.mpr rfl));exact B W hW (λr hr=>G6 hW (h.row r hr) hl l1 (h1 _ (Py.mpr ⟨r,hr,rfl⟩))) λr hr=>G6 hW (h.part.row r hr) hl l1 (h2 _ (Nc _ (Py.mpr ⟨r,hr,rfl⟩)))
theorem Bk.fin {R rest found:List Row}{j:Nat}(B:Bk p n R rest found) (h:Red p n j rest found) (hj:n<=j):∀r∈R,YD p found r=true:=
 B found h.part (λr hr=>jM h.part (h.row r hr) λi=>by
  by_cases c:i<j
  ·exact h.low r hr i c
  ·exact yK (by rw[(h.row r hr).1];omega)) λr hr=>xQ h.part hr
theorem XY {P:List Row}(hP:pZ p n P):P.length<=n:=by have:=Qa hP;omega
theorem yo {P:List Row}(hP:pZ p n P):P∈jY p n:=NU.mpr ⟨P.length,PH.mpr (by have:=XY hP;omega),VB _ rfl hP⟩
theorem ZcK (h:(p,n)∈YY) {P Q:List Row}(hP:pZ p n P) (hQ:pZ p n Q) (hi:inB p P Q=true):okB p n P.length Q.length (Vc p n P Q)=true:=by
 have a:=Pw.mp (Pw.mp (Pw.mp qs (p,n) h) P (yo hP)) Q (yo hQ);rw[hi] at a
 simpa using a
theorem j8 (h:(p,n)∈YY) {P Q:List Row}(hP:pZ p n P) (hQ:pZ p n Q) (hi:inB p P Q=true):(∀z,z<=n->((Vc p n P Q).filter λX=>decide (X.length=z)).length=vU p P.length Q.length z)/\(((Vc p n P Q).map λX=>(muI p (X.length-P.length)).1).sum=if Q.length-P.length=0 then 1 else 0)/\Ev.Xc ((Vc p n P Q).map λX=>(muI p (X.length-P.length)).1)=true/\(((Vc p n P Q).map λX=>(muI p (Q.length-X.length)).1).sum=if Q.length-P.length=0 then 1 else 0)/\Ev.Xc ((Vc p n P Q).map λX=>(muI p (Q.length-X.length)).1)=true:=by
 have a:=ZcK h hP hQ hi;unfold okB at a;simp only[Pp,Nz,Pw,PH] at a;exact⟨λz hz=>a.1 z (by omega),a.2.1.1,a.2.1.2,a.2.2.1,a.2.2.2⟩
theorem vn {P Q R:List Row}(hP:pZ p n P) (hQ:pZ p n Q) (hR:pZ p n R) (h1:inB p P Q=true) (h2:inB p Q R=true):inB p P R=true:=
 (YR hP hR).mpr λu hu=>(YR hQ hR).mp h2 u ((YR hP hQ).mp h1 u hu)
theorem Zal {P Q:List Row}(hP:pZ p n P) (hQ:pZ p n Q):inB p P (Wg p P Q)=true:=(YR hP (pJ hP hQ)).mpr λu hu=>j5 hP hQ hu
theorem jA {P Q:List Row}(hP:pZ p n P) (hQ:pZ p n Q):inB p (UU p n P Q) Q=true:=(YR (pM hP hQ) hQ).mpr λu hu=>((Zao hP hQ u).mp hu).2
def Up (p:Nat) (L:List (List Row)):Prop:=L.Pairwise λa b=>a≠b/\inB p a b=true
theorem jQ {L:List (List Row)}(hL:∀P∈L,pZ p n P) (h:Up p L):Up p (L.reverse.map (Z1 p n)):=by
 unfold Up at h ⊢;rw[NQ,List.pairwise_reverse];refine List.Pairwise.imp_of_mem (λ{a b} ha hb hab=>?_) h
 refine⟨λe=>hab.1 ?_,?_⟩
 ·rw[<-Vn (hL a ha),<-Vn (hL b hb),e]
 ·have:=QX (hL a ha) (hL b hb)
  unfold inB;rw[<-this];exact hab.2
theorem ZcC {L:List (List Row)}(h:Up p L):((L.zip L.tail).all λx=>!decide (x.1=x.2)&&inB p x.1 x.2)=true:=by
 rw[Pw];intro q hq;obtain⟨i,hi,e⟩:=NH hq;rw[List.getElem_zip] at e;rw[<-e];rw[NK,List.length_tail] at hi;simp only[List.getElem_tail];have:=N5.mp h i (i+1) (by omega) (by omega) (by omega)
 rw[PX this.1,this.2];rfl
theorem ZaT {P Q X:List Row}(hX:X∈Vc p n P Q):pZ p n X/\inB p P X=true/\inB p X Q=true:=by
 obtain⟨i,_,h⟩:=NU.mp hX;rw[Na,Na] at h;exact⟨(Xf _ _ h.1.1).1,h.1.2,h.2⟩
end
noncomputable def Xb (p n:Nat):List Row:=(Z4 p n n).headD []
noncomputable def ZaN (p n:Nat):Bool:=(List.range (n+1)).all λa=>decide ((Z4 p n a).length=Xm p n a)&&((List.range (n+1)).all λb=>decide (b<=a)||decide ((((Z4 p n a).map λP=>((Vc p n P (Xb p n)).filter λX=>decide (X.length=b)).length).sum)=Xm p n b*Xm p b a))
theorem GY:(YY.all λs=>ZaN s.1 s.2)=true:=by decide +kernel
theorem wV:(YY.all λs=>decide (Z4 s.1 s.2 s.2=[Xb s.1 s.2])&&(jY s.1 s.2).all λP=>inB s.1 P (Xb s.1 s.2))=true:=by decide +kernel
end Rw
namespace Lw
def evE:=And.intro (And.intro (And.intro (And.intro @Ev.ev.eq_1 @Ev.ev.eq_2) (And.intro @Ev.ev.eq_3 (And.intro @Ev.ev.eq_4 @Ev.ev.eq_5))) (And.intro (And.intro @Ev.ev.eq_6 @Ev.ev.eq_7) (And.intro @Ev.ev.eq_8 (And.intro @Ev.ev.eq_9 @Ev.ev.eq_10)))) (And.intro (And.intro (And.intro @Ev.ev.eq_11 @Ev.ev.eq_12) (And.intro @Ev.ev.eq_13 (And.intro @Ev.ev.eq_14 @Ev.ev.eq_15))) (And.intro (And.intro @Ev.ev.eq_16 @Ev.ev.eq_17) (And.intro @Ev.ev.eq_18 (And.intro @Ev.ev.eq_19 @Ev.ev.eq_20))))
open Ev Pv
section
theorem evF:(∀x S,YQ .len [x] S=(ob (Xu S x) S).bind λxs S=>.ok (.int xs.length) S)/\(∀a b S,YQ .max2 [.int a,.int b] S=.ok (.int (if b>a then b else a)) S)/\(∀a b S,YQ .min2 [.int a,.int b] S=.ok (.int (if b<a then b else a)) S)/\(∀a b S,YB .lt (.int a) (.int b) S=.ok (.bl (decide (a<b))) S)/\(∀a b S,YB .ge (.int a) (.int b) S=.ok (.bl (decide (b<=a))) S)/\(∀a b S,Ys .sub (.int a) (.int b) S=.ok (.int (a-b)) S)/\(∀a b S,Ys .mod (.int a) (.int b) S=if 0<b then .ok (.int (a%b)) S else .no)/\(∀a b S,Ys .pow (.int a) (.int b) S=if 0<=b/\b<=1000/\a.natAbs<2^64 then .ok (.int (a^b.toNat)) S else .no)/\(∀S b,ZM S (.bl b)=some b)/\(∀n S,Xu S (.loc n)=Z7 S n)/\(∀i x S σ,assign [i] x S σ=some (σ.set i (some x))):=
 ⟨λ_ _=>rfl,λ_ _ _=>rfl,λ_ _ _=>rfl,λ_ _ _=>rfl,λ_ _ _=>rfl,λ_ _ _=>rfl,λ_ _ _=>rfl,λ_ _ _=>rfl,λ_ _=>rfl,λ_ _=>rfl,λ_ _ _ _=>rfl⟩
theorem Zan {S:Zc}{n:Nat}{i:Int}{xs:List D}(h:Z7 S n=some xs):wJ (.loc n) (.int i) S=ob (at' xs i) S:=by
 show (match Z7 S n with | some xs=>ob (at' xs i) S | none=>.no)=_
 rw[h]
theorem Za1 {C:Calls}{es:List E}{σ:Lc}{S S1:Zc}{xs:List D}{f:Nat}(h1:evs C es σ S=.ok xs S1):ev C (.call f es) σ S=C f xs S1:=by
 rw[ev,h1];rfl
theorem vH {C:Calls}{e:E}{ss:List Sm}{σ:Lc}{S S':Zc}{x:D}{k:Nat}(h:ev C e σ S=.ok x S'):runs C (.asg [k] e::ss) σ S=runs C ss (σ.set k (some x)) S':=by
 rw[runs,run,h];rfl
theorem uM {C:Calls}{e:E}{ss:List Sm}{σ:Lc}{S S':Zc}{x:D}(h:ev C e σ S=.ok x S'):runs C (.ret e::ss) σ S=.ok (.ret x) S':=by
 rw[runs,run,h];rfl
theorem Zam {C:Calls}{s:Sm}{ss:List Sm}{σ σ':Lc}{S S':Zc}(h:run C s σ S=.ok (.nx σ') S'):runs C (s::ss) σ S=runs C ss σ' S':=by rw[runs,h];rfl
theorem xW {S:Zc}{o:Ob}:(S++[o])[S.length]? = some o:=by rw[PQ (Pk _),Nat.sub_self];rfl
noncomputable def VW:Fn:=⟨2,2,[.ite (.cmp .lt (.v 1) (.blt .len [(.v 0)])) [.ret (.ix (.v 0) (.v 1))] [],.ret (.c (.int 0))]⟩
noncomputable def Vt (c:Nat):Fn:=⟨2,3,[.asg [2] (.call c [(.v 0),(.v 1)]),.ite (.cmp .ge (.v 2) (.bin .pow (.c (.int 10)) (.c (.int 18)))) [.ret (.lst [(.bin .sub (.v 2) (.bin .pow (.c (.int 10)) (.c (.int 18)))),(.c (.bl true))])] [],.ret (.lst [(.bin .mod (.v 2) (.c (.int 2147483647))),(.c (.bl false))])]⟩
noncomputable def Zc1 (nn:Nat) (M:Int) (st:Nat) (B:List Sm):Fn:=⟨1,nn,[.forr [1] (.rng1 (.blt .max2 [(.c (.int 1)),(.blt .min2 [(.blt .len [(.v 0)]),(.c (.int M))])])) (.asg [2] (.call st [(.v 0),(.v 1)])::B),.ret (.c (.bl true))]⟩
variable {F:List Fn}{tk ca st L nn:Nat}{M:Int}{B:List Sm}
theorem Zbg (hC:F[ca]? = some VW) {S:Zc}{ns:List Int}{k:Int}(d:Nat) (hs:S[0]? = some (.scr ns)) (k0:0<=k):∃c,ZH F (d+1) ca [.loc 0,.int k] S=.ok (.int c) S:=by
 have h1:Z7 S 0=some (ns.map .int):=by unfold Z7;rw[hs]
 by_cases c:k<ns.length
 ·have hk:k.toNat<ns.length:=by omega
  refine⟨ns[k.toNat],?_⟩;simp[Ev.ZH,Ev.runs,Ev.run,evE,Ev.evs,Ev.evo,Ev.evt,Ev.tst,Ev.R.bind,Ev.ob,Ev.start,Ev.lim,hC,VW,evF,h1,c,Zan h1,at',ixN,k0,hk]
 ·refine⟨0,?_⟩
  simp[Ev.ZH,Ev.runs,Ev.run,evE,Ev.evs,Ev.evo,Ev.evt,Ev.tst,Ev.R.bind,Ev.ob,Ev.start,Ev.lim,hC,VW,evF,h1,c]
theorem ug (hC:F[ca]? = some VW) (hS:F[st]? = some (Vt ca)) {S:Zc}{ns:List Int}{k:Int}(d:Nat) (hs:S[0]? = some (.scr ns)) (k0:0<=k):∃o s,Dw S.length (S++[o]) s/\ZH F (d+2) st [.loc 0,.int k] S=.ok (.loc S.length) (S++[o]):=by
 obtain⟨c,e⟩:=Zbg hC d hs k0;rw[show d+2=(d+1)+1 from rfl,ZH]
 generalize ZH F (d+1)=C at e ⊢;by_cases h:10^18<=c
 ·refine⟨.lst [.int (c-10^18),.bl true],(c-10^18,true),⟨xW,by show 0<=c-10^18;omega,by simp⟩,?_⟩
  have h':(1000000000000000000:Int)<=c:=by simpa using h
  simp[Ev.ZH,Ev.runs,Ev.run,evE,Ev.evs,Ev.evo,Ev.evt,Ev.tst,Ev.R.bind,Ev.ob,Ev.start,Ev.lim,hS,Vt,e,evF,h']
 ·refine⟨.lst [.int (c%2147483647),.bl false],(c%2147483647,false),⟨xW,by show 0<=c%2147483647;omega,λ_=>by show c%2147483647<_;omega⟩,?_⟩
  have h':¬(1000000000000000000:Int)<=c:=by simpa using h
  simp[Ev.ZH,Ev.runs,Ev.run,evE,Ev.evs,Ev.evo,Ev.evt,Ev.tst,Ev.R.bind,Ev.ob,Ev.start,Ev.lim,hS,Vt,e,evF,h']
theorem zu {w:Walk}{body:D->Lc->Zc->R Fl}(P:Lc->Zc->Prop) (hst:∀σ S,P σ S->w.still S=true):∀(xs:List D),(∀x∈xs,∀σ S,P σ S->∃σ' S',P σ' S'/\body x σ S=.ok (.nx σ') S')->∀σ S,P σ S->∃σ' S',P σ' S'/\Vm w body xs σ S=.ok (.nx σ') S'
 |[],_,σ,S,h=>⟨σ,S,h,by rw[Vm,Ph (hst σ S h)]⟩
 |x::xs,hb,σ,S,h=>by
  obtain⟨σ1,S1,h1,e1⟩:=hb x (Pe ..) σ S h;obtain⟨σ2,S2,h2,e2⟩:=zu P hst xs (λy hy=>hb y (Pc _ hy)) σ1 S1 h1
  refine⟨σ2,S2,h2,?_⟩;rw[Vm,Ph (hst σ S h),e1];exact e2
theorem vc {lo:Int}{k:Nat}{x:D}(h:x∈Zq lo k):∃i,x=.int i/\lo<=i:=by
 unfold Zq at h;obtain⟨j,_,e⟩:=Py.mp h;exact⟨_,e.symm,by omega⟩
def Kept (σ σ':Lc):Prop:=σ'[0]? = σ[0]?/\σ'.length=σ.length
theorem Kept.trans {σ σ1 σ2:Lc}(h:Kept σ σ1) (h2:Kept σ1 σ2):Kept σ σ2:=⟨h2.1.trans h.1,h2.2.trans h.2⟩
theorem Kept.set {σ:Lc}{i:Nat}{x:Option D}(h:i≠0):Kept σ (σ.set i x):=⟨PK h,P0 ..⟩
theorem Yq:∀{t:List Nat}{xs:List D}{σ σ':Lc},fill t xs σ=some σ'->¬0∈t->Kept σ σ'
 |[],[],σ,σ',h,_=>by cases h;exact⟨rfl,rfl⟩
 |i::t,x::xs,σ,σ',h,h0=>(Kept.set (λz=>h0 (by rw[z];exact Pe ..))).trans (Yq (t:=t) (xs:=xs) h λz=>h0 (Pc _ z))
 |[],_::_,_,_,h,_=>by cases h
 |_::_,[],_,_,h,_=>by cases h
theorem qv {C:Calls}{m:Sm}{l:List Sm}{σ σ':Lc}{S S':Zc}(h:runs C (m::l) σ S=.ok (.nx σ') S'):∃σ1 S1,run C m σ S=.ok (.nx σ1) S1/\runs C l σ1 S1=.ok (.nx σ') S':=by
 rw[runs] at h;cases q:run C m σ S with
 |no=>rw[q] at h;cases h
 |ex c S1=>rw[q] at h;cases h
 |ok f S1=>
  rw[q] at h;cases f with
  |nx σ1=>exact⟨σ1,S1,rfl,h⟩
  |ret v=>cases h
  |brk v=>cases h
  |cnt v=>cases h
theorem u4 {C:Calls}{t:List Nat}{e:E}{σ σ':Lc}{S S':Zc}(h:run C (.asg t e) σ S=.ok (.nx σ') S') (h0:¬0∈t):Kept σ σ':=by
 rw[run] at h;cases q:ev C e σ S with
 |no=>rw[q] at h;cases h
 |ex c S1=>rw[q] at h;cases h
 |ok x S1=>
  rw[q] at h;replace h:((ob (assign t x S1 σ) S1).bind λσ S=>R.ok (Fl.nx σ) S)=.ok (.nx σ') S':=h
  cases q2:assign t x S1 σ with
  |none=>rw[q2] at h;cases h
  |some σ1=>
   rw[q2] at h;cases h;unfold assign at q2;split at q2
   ·cases q2
    exact Kept.set λz=>h0 (by simp[z])
   ·split at q2
    ·exact Yq q2 h0
    ·split at q2
     ·exact Yq q2 h0
     ·cases q2
    ·cases q2
mutual
noncomputable def kp:Sm->Bool
 |.asg t _=>!t.contains 0
 |.par t _=>!t.contains 0
 |.ite _ a b=>kps a&&kps b
 |.ret _=>true
 |.ex _=>true
 |_=>false
noncomputable def kps:List Sm->Bool
 |[]=>true
 |m::l=>kp m&&kps l
end
theorem Kept.refl (σ:Lc):Kept σ σ:=⟨rfl,rfl⟩
mutual
theorem Zdp {C:Calls}:∀(m:Sm) {σ σ':Lc}{S S':Zc},kp m=true->run C m σ S=.ok (.nx σ') S'->Kept σ σ'
 |.asg t e,σ,σ',S,S',h,r=>u4 r (by unfold kp at h;simpa using h)
 |.par t es,σ,σ',S,S',h,r=>by
  unfold kp at h;rw[run] at r;cases q:evs C es σ S with
  |no=>rw[q] at r;cases r
  |ex c S1=>rw[q] at r;cases r
  |ok x S1=>
   rw[q] at r;replace r:((ob (fill t x σ) S1).bind λσ S=>R.ok (Fl.nx σ) S)=.ok (.nx σ') S':=r
   cases q2:fill t x σ with
   |none=>rw[q2] at r;cases r
   |some σ1=>rw[q2] at r;cases r;exact Yq q2 (by simpa using h)
 |.ite t a b,σ,σ',S,S',h,r=>by
  unfold kp at h;obtain⟨h1,h2⟩:=(Pp _ _).mp h;rw[run] at r;cases q:tst C t σ S with
  |no=>rw[q] at r;cases r
  |ex c S1=>rw[q] at r;cases r
  |ok c S1=>
   rw[q] at r;cases c with
   |false=>exact GS b h2 (show runs C b σ S1=_ from r)
   |true=>exact GS a h1 (show runs C a σ S1=_ from r)
 |.ret e,σ,σ',S,S',h,r=>by
  rw[run] at r;cases q:ev C e σ S with
  |no=>rw[q] at r;cases r
  |ex c S1=>rw[q] at r;cases r
  |ok x S1=>rw[q] at r;cases r
 |.ex e,σ,σ',S,S',h,r=>by
  rw[run] at r;cases q:ev C e σ S with
  |no=>rw[q] at r;cases r
  |ex c S1=>rw[q] at r;cases r
  |ok x S1=>rw[q] at r;cases r;exact Kept.refl _
 |.aug ..,_,_,_,_,h,_ | .put ..,_,_,_,_,h,_ | .forr ..,_,_,_,_,h,_ | .whl ..,_,_,_,_,h,_ | .raise ..,_,_,_,_,h,_ | .pas,_,_,_,_,h,_ | .brk,_,_,_,_,h,_ | .cnt,_,_,_,_,h,_=>by unfold kp at h;cases h
theorem GS {C:Calls}:∀(l:List Sm) {σ σ':Lc}{S S':Zc},kps l=true->runs C l σ S=.ok (.nx σ') S'->Kept σ σ'
 |[],σ,σ',S,S',h,r=>by rw[runs] at r;cases r;exact Kept.refl _
 |m::l,σ,σ',S,S',h,r=>by
  unfold kps at h;obtain⟨h1,h2⟩:=(Pp _ _).mp h;obtain⟨σ1,S1,r1,r2⟩:=qv r;exact (Zdp m h1 r1).trans (GS l h2 r2)
end
def Q0 (m:Nat) (ns:List Int) (σ:Lc) (S:Zc):Prop:=∃a1 a2 as,σ=some (.loc 0)::a1::a2::as/\as.length=m/\S[0]? = some (.scr ns)
theorem ZaM {m d:Nat}(hT:F[tk]? = some V4) (hC:F[ca]? = some VW) (hS:F[st]? = some (Vt ca)) (hk:kps B=true)
  (hv:∀(k:Nat) (s:DS),∃ρ' os' s',rvs (ZT F tk (d+2)) [] B (none::some (.int k)::some .drw::List.replicate m none) [] s=.ok (.nx ρ' os') s')
  {ns:List Int} {x:D} {σ:Lc} {S:Zc} (hx:∃i,x=.int i/\0<=i) (hq:Q0 m ns σ S):∃σ' S',Q0 m ns σ' S'/\(ob (assign [1] x S σ) S).bind (λσ S=>runs (ZH F (d+2)) (.asg [2] (.call st [(.v 0),(.v 1)])::B) σ S)=.ok (.nx σ') S':=by
 obtain⟨i,rfl,i0⟩:=hx;obtain⟨k,rfl⟩:∃k:Nat,i=k:=⟨i.toNat,by omega⟩
 obtain⟨a1,a2,as,rfl,hm,hs⟩:=hq;show ∃σ' S',Q0 m ns σ' S'/\runs (ZH F (d+2)) _ (some (.loc 0)::some (.int k)::a2::as) S=.ok (.nx σ') S';obtain⟨o,s,h1,e1⟩:=ug hC hS d hs i0;have n0:S.length≠0:=by have:=Xw hs;omega
 have s1:(S++[o])[0]? = some (.scr ns):=by rw[PB (Xw hs)];exact hs
 rw[vH (x:=.loc S.length) (S':=S++[o]) (by rw[Za1 (xs:=[.loc 0,.int k]) (S1:=S) rfl];exact e1)]
 show ∃σ' S',Q0 m ns σ' S'/\runs (ZH F (d+2)) _ (some (.loc 0)::some (.int k)::some (.loc S.length)::as) (S++[o])=.ok (.nx σ') S';obtain⟨ρ',os',s',e2⟩:=hv k s;have hE:Eu (S++[o]) (· = S.length) S.length (S.length+1) (λ_=>none) (none::some (.int k)::some .drw::List.replicate m none) [] (some (.loc 0)::some (.int k)::some (.loc S.length)::as):={
  xz:=rfl
  xb:=λn h=>by omega
  bs:=by simp
  len:=by simp[hm]
  osW:=λi=>rfl
  inj:=λi j n h=>by cases h
  pl:=λi n h=>by cases h
  own:=λi n h=>by cases h
  val:=λi v h _=>by
   match i,h with
   |0,h=>cases h
   |1,h=>cases h;exact⟨_,rfl,by unfold Rep;rfl⟩
   |2,h=>cases h;exact⟨_,rfl,by unfold Rep;rfl⟩
   |i+3,h=>
    have h:(List.replicate m (none:Option V))[i]? = some (some v):=h;rw[Nm] at h;split at h <;> cases h }
 have hS:=Qb (za (F:=F) (tk:=tk) (n0:=S.length) hT (d+2)) [] B hE h1;rw[e2] at hS;obtain⟨g,S',e3,x3,w3,f3⟩:=hS;cases g with
 |nx σ'=>
  refine⟨σ',S',?_,e3⟩;have hl:=GS B hk e3;have hlen:σ'.length=m+3:=by rw[hl.2];simp[hm]
  replace hl:σ'[0]? = some (some (.loc 0)):=hl.1
  match σ',hlen,hl with
  |b0::b1::b2::bs,hlen,hl=>
   cases hl;exact⟨b1,b2,bs,rfl,by simpa using hlen,x3.keep 0 _ (Ne.symm n0) (λi h=>by cases h) s1⟩
 |ret v=>exact f3.elim
 |brk v=>exact f3.elim
 |cnt v=>exact f3.elim
theorem Zco {m d:Nat}(hT:F[tk]? = some V4) (hC:F[ca]? = some VW) (hS:F[st]? = some (Vt ca)) (hL:F[L]? = some (Zc1 (m+3) M st B)) (hk:kps B=true) (hM:1<=M/\M<1000)
  (hv:∀(k:Nat) (s:DS),∃ρ' os' s',rvs (ZT F tk (d+2)) [] B (none::some (.int k)::some .drw::List.replicate m none) [] s=.ok (.nx ρ' os') s')
  {ns:List Int} {S:Zc} (hs:S[0]? = some (.scr ns)):∃S',ZH F (d+3) L [.loc 0] S=.ok (.bl true) S':=by
 have h1:Z7 S 0=some (ns.map .int):=by unfold Z7;rw[hs]
 let k:Int:=if (if M<(ns.length:Int) then M else ns.length)>1 then (if M<(ns.length:Int) then M else ns.length) else 1
 have hk2:small k=true:=XE (by simp only[k];split <;> split <;> omega) (by simp only[k];split <;> split <;> omega)
 obtain⟨σ1,S1,hq1,e1⟩:=zu (w:=⟨Zq 0 k.toNat,[]⟩) (Q0 m ns) (λ_ _ _=>rfl) (Zq 0 k.toNat) (λx hx σ S hq=>ZaM hT hC hS hk hv (vc hx) hq) (some (.loc 0)::none::none::List.replicate m none) S ⟨_,_,_,rfl,by simp,hs⟩
 refine⟨S1,?_⟩;rw[show d+3=(d+2)+1 from rfl,ZH,hL]
 show (runs (ZH F (d+2)) (.forr [1] (.rng1 (.blt .max2 [(.c (.int 1)),(.blt .min2 [(.blt .len [(.v 0)]),(.c (.int M))])])) _ :: .ret (.c (.bl true))::[]) (some (.loc 0)::List.replicate (m+3-1) none) S).bind _=_;rw[show List.replicate (m+3-1) (none:Option D)=none::none::List.replicate m none from rfl]
 have er:ev (ZH F (d+2)) (.blt .max2 [(.c (.int 1)),(.blt .min2 [(.blt .len [(.v 0)]),(.c (.int M))])]) (some (.loc 0)::none::none::List.replicate m none) S=.ok (.int k) S:=by
  simp[Ev.ZH,Ev.runs,Ev.run,evE,Ev.evs,Ev.evo,Ev.evt,Ev.tst,Ev.R.bind,Ev.ob,Ev.start,Ev.lim,evF,h1,k]
 have ew:evw (ZH F (d+2)) (.rng1 (.blt .max2 [(.c (.int 1)),(.blt .min2 [(.blt .len [(.v 0)]),(.c (.int M))])])) (some (.loc 0)::none::none::List.replicate m none) S=.ok ⟨Zq 0 k.toNat,[]⟩ S:=by
  rw[evw,er];show (if small k=true then _ else _)=_
  rw[Ph hk2]
 rw[Zam (σ':=σ1) (S':=S1) (by rw[run,ew];exact e1)]
 rw[uM (x:=.bl true) (S':=S1) (by rw[ev])];rfl
end
end Lw
namespace K65
open Ev
noncomputable def UN:Fn:=⟨2,2,
 [.ite (.cmp .lt (.v 1) (.blt .len [(.v 0)])) [.ret (.ix (.v 0) (.v 1))] [],
  .ret (.c (.int 0))]⟩
noncomputable def Gg:Fn:=⟨2,3,
 [.asg [2] (.call 0 [(.v 0),(.v 1)]),
  .ite (.cmp .ge (.v 2) (.bin .pow (.c (.int 10)) (.c (.int 18)))) [.ret (.lst [(.bin .sub (.v 2) (.bin .pow (.c (.int 10)) (.c (.int 18)))),(.c (.bl true))])] [],
  .ret (.lst [(.bin .mod (.v 2) (.c (.int 2147483647))),(.c (.bl false))])]⟩
noncomputable def zx:Fn:=⟨2,4,
 [.ite (.ix (.v 0) (.c (.int 1))) [.asg [2] (.bin .mod (.ix (.v 0) (.c (.int 0))) (.v 1)),
  .put (.v 0) (.c (.int 0)) (.bin .fdiv (.ix (.v 0) (.c (.int 0))) (.v 1)),
  .ret (.v 2)] [],
  .put (.v 0) (.c (.int 0)) (.bin .mod (.bin .add (.bin .mul (.ix (.v 0) (.c (.int 0))) (.c (.int 48271))) (.c (.int 29))) (.c (.int 2147483647))),
  .asg [3] (.bin .mod (.bin .add (.bin .add (.bin .mul (.ix (.v 0) (.c (.int 0))) (.ix (.v 0) (.c (.int 0)))) (.bin .mul (.c (.int 39373)) (.ix (.v 0) (.c (.int 0))))) (.c (.int 7))) (.c (.int 2147483629))),
  .asg [3] (.bin .mod (.bin .add (.bin .mul (.v 3) (.v 3)) (.bin .mul (.c (.int 16807)) (.v 3))) (.c (.int 2147483587))),
  .ret (.bin .mod (.bin .fdiv (.v 3) (.c (.int 8))) (.v 1))]⟩
noncomputable def Y2:Fn:=⟨2,3,
 [.asg [2] (.lst [(.tup [(.c (.int 2)),(.tup [(.c (.int 2)),(.c (.int 1))])]),(.tup [(.c (.int 4)),(.tup [(.c (.int 2)),(.c (.int 2))])]),(.tup [(.c (.int 8)),(.tup [(.c (.int 2)),(.c (.int 3))])]),(.tup [(.c (.int 16)),(.tup [(.c (.int 2)),(.c (.int 4))])]),(.tup [(.c (.int 32)),(.tup [(.c (.int 2)),(.c (.int 5))])]),(.tup [(.c (.int 64)),(.tup [(.c (.int 2)),(.c (.int 6))])]),(.tup [(.c (.int 3)),(.tup [(.c (.int 3)),(.c (.int 1))])]),(.tup [(.c (.int 9)),(.tup [(.c (.int 3)),(.c (.int 2))])])]),
  .asg [2] (.bin .add (.v 2) (.lst [(.tup [(.c (.int 27)),(.tup [(.c (.int 3)),(.c (.int 3))])]),(.tup [(.c (.int 81)),(.tup [(.c (.int 3)),(.c (.int 4))])]),(.tup [(.c (.int 5)),(.tup [(.c (.int 5)),(.c (.int 1))])]),(.tup [(.c (.int 25)),(.tup [(.c (.int 5)),(.c (.int 2))])]),(.tup [(.c (.int 125)),(.tup [(.c (.int 5)),(.c (.int 3))])])])),
  .asg [2] (.comp1 [1] 2 [0,1] (.of (.v 2)) [(.cmp .le (.v 0) (.v 2))] (.v 1)),
  .ret (.ix (.v 2) (.call 2 [(.v 0),(.blt .len [(.v 2)])]))]⟩
noncomputable def Xp:Fn:=⟨4,4,
 [.ret (.blt .tuple [(.comp1 [3,0] 2 [0,1] (.zip (.v 1) (.v 2)) [] (.bin .mod (.bin .add (.v 0) (.bin .mul (.v 2) (.v 1))) (.ix (.v 3) (.c (.int 0)))))])]⟩
noncomputable def Yx:Fn:=⟨2,8,
 [.asg [2] (.blt .list [(.v 1)]),
  .asg [3] (.lst []),
  .forr [4] (.rng1 (.ix (.v 0) (.c (.int 1)))) [.asg [5] (.comp1 [4] 1 [0] (.of (.v 2)) [(.cmp .ne (.ix (.v 0) (.v 1)) (.c (.int 0)))] (.v 0)),
  .ite (.cmp .ne (.v 5) (.lst [])) [.asg [6] (.ix (.comp1 [5,4,0] 1 [0] (.rng1 (.ix (.v 0) (.c (.int 0)))) [(.cmp .eq (.bin .mod (.bin .mul (.v 0) (.ix (.ix (.v 1) (.c (.int 0))) (.v 2))) (.ix (.v 3) (.c (.int 0)))) (.c (.int 1)))] (.v 0)) (.c (.int 0))),
  .asg [7] (.blt .tuple [(.comp1 [6,0] 1 [0] (.of (.ix (.v 5) (.c (.int 0)))) [] (.bin .mod (.bin .mul (.v 1) (.v 0)) (.ix (.v 2) (.c (.int 0)))))]),
  .asg [2] (.comp1 [0,7,4] 1 [0] (.of (.v 2)) [] (.call 4 [(.v 1),(.v 0),(.v 2),(.neg (.ix (.v 0) (.v 3)))])),
  .asg [3] (.bin .add (.comp1 [0,7,4] 1 [0] (.of (.v 3)) [] (.call 4 [(.v 1),(.v 0),(.v 2),(.neg (.ix (.v 0) (.v 3)))])) (.lst [(.v 7)]))] []],
  .ret (.blt .tuple [(.v 3)])]⟩
noncomputable def YJ:Fn:=⟨2,2,
 [.ret (.blt .tuple [(.comp1 [0,1] 1 [0] (.rng1 (.ix (.v 1) (.c (.int 1)))) [] (.call 2 [(.v 1),(.ix (.v 2) (.c (.int 0)))]))])]⟩
noncomputable def Xr:Fn:=⟨2,3,
 [.asg [2] (.call 2 [(.v 0),(.bin .add (.ix (.v 1) (.c (.int 1))) (.c (.int 1)))]),
  .ret (.call 5 [(.v 1),(.comp1 [0,1] 1 [0] (.rng1 (.v 2)) [] (.call 6 [(.v 1),(.v 2)]))])]⟩
noncomputable def JD:Fn:=⟨1,3,
 [.forr [1,2] (.enum (.v 0)) [.ite (.cmp .ne (.v 2) (.c (.int 0))) [.ret (.v 1)] []],
  .ret (.c .non)]⟩
noncomputable def Wx:Fn:=⟨1,1,
 [.ret (.blt .all [(.comp1 [] 2 [0,1] (.zip (.v 0) (.sl (.v 0) (some (.c (.int 1))) none)) [] (.cmp .lt (.v 0) (.v 1)))])]⟩
noncomputable def Yw:Fn:=⟨2,2,
 [.ret (.blt .all [(.comp1 [1] 1 [0] (.of (.v 0)) [] (.cmp .eq (.ix (.v 0) (.v 1)) (.c (.int 0))))])]⟩
noncomputable def Y8:Fn:=⟨3,3,
 [.ret (.and (.cmp .eq (.ix (.ix (.v 0) (.v 1)) (.v 2)) (.c (.int 1))) (.call 10 [(.bin .add (.sl (.v 0) none (some (.v 1))) (.sl (.v 0) (some (.bin .add (.v 1) (.c (.int 1)))) none)),(.v 2)]))]⟩
noncomputable def Va:Fn:=⟨3,3,
 [.ret (.and (.isi (.v 0) [.int]) (.and (.not (.isi (.v 0) [.bool])) (.chain .le .le (.v 1) (.v 0) (.v 2))))]⟩
noncomputable def VL:Fn:=⟨2,4,
 [.asg [2,3] (.v 0),
  .ite (.or (.not (.isi (.v 1) [.tuple])) (.cmp .ne (.blt .len [(.v 1)]) (.v 3))) [.ret (.c (.bl false))] [],
  .ret (.blt .all [(.comp1 [2] 1 [0] (.of (.v 1)) [] (.call 12 [(.v 0),(.c (.int 0)),(.bin .sub (.v 1) (.c (.int 1)))]))])]⟩
noncomputable def WG:Fn:=⟨2,3,
 [.ite (.or (.not (.isi (.v 1) [.tuple])) (.not (.blt .all [(.comp1 [0] 1 [0] (.of (.v 1)) [] (.call 13 [(.v 1),(.v 0)]))]))) [.ret (.c (.bl false))] [],
  .asg [2] (.comp1 [] 1 [0] (.of (.v 1)) [] (.call 8 [(.v 0)])),
  .ite (.or (.cmp .inn (.c .non) (.v 2)) (.not (.call 9 [(.v 2)]))) [.ret (.c (.bl false))] [],
  .ret (.blt .all [(.comp1 [1] 2 [0,1] (.enum (.v 2)) [] (.call 11 [(.v 2),(.v 0),(.v 1)]))])]⟩
noncomputable def Wz:Fn:=⟨2,2,
 [.ite (.not (.call 14 [(.v 0),(.v 1)])) [.raise 2 []] []]⟩
noncomputable def XS:Fn:=⟨3,3,
 [.ex (.call 15 [(.v 0),(.v 1)]),
  .ex (.call 15 [(.v 0),(.v 2)])]⟩
noncomputable def X1:Fn:=⟨4,4,
 [.ret (.blt .tuple [(.comp1 [3,0] 2 [0,1] (.zip (.v 1) (.v 2)) [] (.bin .mod (.bin .add (.v 0) (.bin .mul (.v 2) (.v 1))) (.v 3)))])]⟩
noncomputable def V0:Fn:=⟨4,4,
 [.ret (.call 17 [(.v 0),(.v 1),(.v 2),(.neg (.ix (.v 1) (.v 3)))])]⟩
noncomputable def Xs:Fn:=⟨3,7,
 [.asg [3,4] (.v 0),
  .asg [5] (.v 2),
  .forr [6] (.of (.v 1)) [.asg [5] (.call 18 [(.v 3),(.v 5),(.v 6),(.call 8 [(.v 6)])])],
  .ret (.v 5)]⟩
noncomputable def WH:Fn:=⟨3,3,
 [.ret (.cmp .is (.call 8 [(.call 19 [(.v 0),(.v 1),(.v 2)])]) (.c .non))]⟩
noncomputable def Xn:Fn:=⟨3,3,
 [.ret (.blt .all [(.comp1 [0,2] 1 [0] (.of (.v 1)) [] (.call 20 [(.v 1),(.v 2),(.v 0)]))])]⟩
noncomputable def X8:Fn:=⟨3,3,
 [.ite (.not (.call 12 [(.v 0),(.v 1),(.v 2)])) [.raise 3 []] []]⟩
noncomputable def YH:Fn:=⟨2,6,
 [.asg [2,3] (.v 0),
  .asg [4] (.lst [(.bin .add (.bin .mul (.tup [(.c (.int 0))]) (.v 1)) (.tup [(.c (.int 1))]))]),
  .forr [5] (.rng2 (.bin .add (.v 1) (.c (.int 1))) (.v 3)) [.asg [4] (.comp2 [2] 2 [0] (.of (.v 4)) [] [1] (.rng1 (.v 2)) [] (.bin .add (.v 0) (.tup [(.v 1)])))],
  .ret (.v 4)]⟩
noncomputable def YL:Fn:=⟨2,5,
 [.asg [2] (.ite (.v 1) (.bin .add (.call 8 [(.ix (.v 1) (.neg (.c (.int 1))))]) (.c (.int 1))) (.c (.int 0))),
  .asg [3] (.lst []),
  .forr [4] (.rrng (.v 2) (.blt .len [(.v 0)])) [.ite (.call 10 [(.v 1),(.v 4)]) [.ex (.mt .extend (.v 3) [(.ix (.v 0) (.v 4))])] []],
  .ret (.v 3)]⟩
noncomputable def Xv:Fn:=⟨2,7,
 [.asg [2,3] (.v 0),
  .ex (.call 22 [(.v 1),(.c (.int 0)),(.v 3)]),
  .asg [4] (.comp1 [0] 1 [0] (.rng1 (.v 3)) [] (.call 23 [(.v 1),(.v 0)])),
  .asg [5] (.lst [(.tup [])]),
  .forr [6] (.rng1 (.v 1)) [.asg [5] (.comp2 [4] 2 [0] (.of (.v 5)) [] [1] (.of (.call 24 [(.v 2),(.v 0)])) [] (.bin .add (.v 0) (.tup [(.v 1)])))],
  .ret (.v 5)]⟩
noncomputable def WK:Fn:=⟨3,6,
 [.ex (.call 16 [(.v 0),(.v 1),(.v 2)]),
  .ite (.not (.call 21 [(.v 0),(.v 1),(.v 2)])) [.raise 4 []] [],
  .asg [3] (.lst []),
  .forr [4] (.rng2 (.blt .len [(.v 1)]) (.bin .add (.blt .len [(.v 2)]) (.c (.int 1)))) [.asg [5] (.comp1 [0,1] 1 [0] (.of (.call 25 [(.v 0),(.v 4)])) [(.call 21 [(.v 1),(.v 2),(.v 0)])] (.v 0)),
  .ex (.mt .extend (.v 3) [(.comp1 [0,2] 1 [0] (.of (.v 5)) [(.call 21 [(.v 1),(.v 0),(.v 2)])] (.v 0))])],
  .ret (.v 3)]⟩
noncomputable def Gu:Fn:=⟨3,8,
 [.ex (.call 16 [(.v 0),(.v 1),(.v 2)]),
  .ite (.not (.call 21 [(.v 0),(.v 1),(.v 2)])) [.ret (.c (.int 0))] [],
  .asg [3,4] (.v 0),
  .par [5,6] [(.c (.int 1)),(.c (.int 1))],
  .forr [7] (.rng2 (.blt .len [(.v 1)]) (.blt .len [(.v 2)])) [.asg [5] (.bin .mul (.neg (.v 5)) (.v 6)),
  .aug 6 .mul (.v 3)],
  .ret (.v 5)]⟩
noncomputable def vo:Fn:=⟨1,1,
 [.ret (.and (.call 12 [(.v 0),(.c (.int 2)),(.c (.int 5))]) (.inT (.v 0) [(2,6),(3,4),(5,3)]))]⟩
noncomputable def JF:Fn:=⟨2,5,
 [.asg [2] (.lst [(.c (.int 1))]),
  .asg [3] (.c (.int 1)),
  .forr [4] (.rng2 (.c (.int 1)) (.blt .len [(.v 1)])) [.aug 3 .mul (.v 0),
  .ex (.mt .append (.v 2) [(.bin .add (.ix (.v 1) (.bin .sub (.v 4) (.c (.int 1)))) (.bin .mul (.v 3) (.ix (.v 1) (.v 4))))])],
  .ex (.mt .append (.v 2) [(.c (.int 1))]),
  .ret (.v 2)]⟩
noncomputable def Zdi:Fn:=⟨3,5,
 [.ite (.not (.call 28 [(.v 0)])) [.raise 3 []] [],
  .ex (.call 22 [(.v 1),(.c (.int 0)),(.c (.int 40))]),
  .ex (.call 22 [(.v 2),(.c (.int 0)),(.v 1)]),
  .asg [3] (.lst [(.c (.int 1))]),
  .forr [4] (.rng1 (.v 1)) [.asg [3] (.call 29 [(.v 0),(.v 3)])],
  .ret (.ix (.v 3) (.v 2))]⟩
noncomputable def GN:Fn:=⟨3,3,
 [.ret (.blt .tuple [(.comp1 [2,0] 1 [0] (.of (.v 1)) [] (.bin .mod (.bin .mul (.v 1) (.v 0)) (.v 2)))])]⟩
noncomputable def Jg:Fn:=⟨2,3,
 [.asg [2] (.c (.int 1)),
  .whl (.cmp .ne (.bin .mod (.bin .mul (.v 2) (.v 1)) (.v 0)) (.c (.int 1))) [.aug 2 .add (.c (.int 1))],
  .ret (.v 2)]⟩
noncomputable def WE:Fn:=⟨3,9,
 [.asg [3,4] (.v 0),
  .asg [5] (.call 19 [(.v 0),(.v 1),(.v 2)]),
  .asg [6] (.call 8 [(.v 5)]),
  .ite (.cmp .is (.v 6) (.c .non)) [.ret (.v 1)] [],
  .asg [7] (.call 31 [(.v 3),(.v 5),(.call 32 [(.v 3),(.ix (.v 5) (.v 6))])]),
  .asg [8] (.comp1 [3,7,6] 1 [0] (.of (.v 1)) [] (.call 18 [(.v 1),(.v 0),(.v 2),(.v 3)])),
  .ret (.blt .tuple [(.blt .sortedR [(.bin .add (.v 8) (.lst [(.v 7)]))])])]⟩
noncomputable def Ye:Fn:=⟨3,5,
 [.asg [3] (.v 1),
  .forr [4] (.of (.v 2)) [.asg [3] (.call 33 [(.v 0),(.v 3),(.v 4)])],
  .ret (.v 3)]⟩
noncomputable def Ve:Fn:=⟨2,2,
 [.ite (.not (.call 13 [(.v 0),(.v 1)])) [.raise 1 []] []]⟩
noncomputable def WF:Fn:=⟨2,3,
 [.ite (.not (.isi (.v 1) [.tuple,.list])) [.raise 1 []] [],
  .forr [2] (.of (.v 1)) [.ex (.call 35 [(.v 0),(.v 2)])],
  .ret (.call 34 [(.v 0),(.tup []),(.v 1)])]⟩
noncomputable def YK:Fn:=⟨3,7,
 [.asg [3,4] (.v 0),
  .asg [5] (.bin .mul (.lst [(.c (.int 0))]) (.v 4)),
  .put (.v 5) (.v 2) (.c (.int 1)),
  .forr [6] (.of (.v 1)) [.put (.v 5) (.call 8 [(.v 6)]) (.bin .mod (.neg (.ix (.v 6) (.v 2))) (.v 3))],
  .ret (.blt .tuple [(.v 5)])]⟩
noncomputable def WN:Fn:=⟨2,6,
 [.ex (.call 15 [(.v 0),(.v 1)]),
  .asg [2,3] (.v 0),
  .asg [4] (.comp1 [] 1 [0] (.of (.v 1)) [] (.call 8 [(.v 0)])),
  .asg [5] (.comp1 [4] 1 [0] (.rng1 (.v 3)) [(.cmp .nin (.v 0) (.v 1))] (.v 0)),
  .ret (.call 36 [(.v 0),(.comp1 [0,1] 1 [0] (.of (.v 5)) [] (.call 37 [(.v 1),(.v 2),(.v 0)]))])]⟩
noncomputable def WD:Fn:=⟨3,3,
 [.ex (.call 16 [(.v 0),(.v 1),(.v 2)]),
  .ret (.call 21 [(.v 0),(.v 1),(.v 2)])]⟩
noncomputable def ZX:Fn:=⟨3,7,
 [.asg [3] (.call 26 [(.v 0),(.v 1),(.v 2)]),
  .asg [4] (.bin .sub (.blt .len [(.v 2)]) (.blt .len [(.v 1)])),
  .forr [5] (.rng1 (.bin .add (.ix (.v 0) (.c (.int 1))) (.c (.int 1)))) [.asg [6] (.ite (.chain .le .le (.blt .len [(.v 1)]) (.v 5) (.blt .len [(.v 2)])) (.call 30 [(.ix (.v 0) (.c (.int 0))),(.v 4),(.bin .sub (.v 5) (.blt .len [(.v 1)]))]) (.c (.int 0))),
  .ite (.cmp .ne (.blt .len [(.comp1 [5] 1 [0] (.of (.v 3)) [(.cmp .eq (.blt .len [(.v 0)]) (.v 1))] (.v 0))]) (.v 6)) [.ret (.c (.bl false))] []],
  .ite (.not (.blt .all [(.comp1 [0,1,2] 1 [0] (.of (.v 3)) [] (.and (.call 39 [(.v 1),(.v 2),(.v 0)]) (.call 39 [(.v 1),(.v 0),(.v 3)])))])) [.ret (.c (.bl false))] [],
  .ite (.cmp .ne (.blt .sum [(.comp1 [0,1] 1 [0] (.of (.v 3)) [] (.call 27 [(.v 1),(.v 2),(.v 0)]))]) (.blt .toInt [(.cmp .eq (.v 4) (.c (.int 0)))])) [.ret (.c (.bl false))] [],
  .ite (.cmp .ne (.blt .sum [(.comp1 [0,2] 1 [0] (.of (.v 3)) [] (.call 27 [(.v 1),(.v 0),(.v 2)]))]) (.blt .toInt [(.cmp .eq (.v 4) (.c (.int 0)))])) [.ret (.c (.bl false))] [],
  .ret (.cmp .eq (.call 27 [(.v 0),(.call 38 [(.v 0),(.v 2)]),(.call 38 [(.v 0),(.v 1)])]) (.call 27 [(.v 0),(.v 1),(.v 2)]))]⟩
noncomputable def VG:Fn:=⟨2,2,
 [.ite (.not (.isi (.v 0) [.tuple])) [.ret (.c (.bl false))] [],
  .ret (.and (.blt .all [(.comp1 [1] 1 [0] (.of (.v 0)) [] (.call 12 [(.v 0),(.c (.int 0)),(.v 1)]))]) (.call 9 [(.v 0)]))]⟩
noncomputable def QP:Fn:=⟨2,7,
 [.asg [2,3] (.v 0),
  .ite (.not (.call 41 [(.v 1),(.v 3)])) [.raise 3 []] [],
  .asg [4] (.c (.int 1)),
  .asg [5] (.v 3),
  .forr [6] (.rtup (.v 1)) [.aug 4 .mul (.call 30 [(.v 2),(.v 5),(.v 6)]),
  .asg [5] (.v 6)],
  .ret (.v 4)]⟩
noncomputable def X5:Fn:=⟨2,2,
 [.ite (.or (.not (.isi (.v 1) [.tuple])) (.not (.blt .all [(.comp1 [0] 1 [0] (.of (.v 1)) [] (.call 14 [(.v 1),(.v 0)]))]))) [.ret (.c (.bl false))] [],
  .ret (.blt .all [(.comp1 [0] 2 [0,1] (.zip (.v 1) (.sl (.v 1) (some (.c (.int 1))) none)) [] (.and (.cmp .ne (.v 0) (.v 1)) (.call 21 [(.v 2),(.v 0),(.v 1)])))])]⟩
noncomputable def ZZ:Fn:=⟨4,12,
 [.forr [4] (.rng1 (.bin .add (.blt .len [(.v 1)]) (.c (.int 1)))) [.ite (.or (.cmp .isn (.call 43 [(.v 0),(.sl (.v 1) none (some (.v 4)))]) (.c (.bl true))) (.cmp .isn (.call 43 [(.v 0),(.sl (.v 1) (some (.v 4)) none)]) (.c (.bl true)))) [.ret (.c (.bl false))] []],
  .asg [5] (.blt .tuple [(.comp1 [0] 1 [0] (.of (.rev (.v 1))) [] (.call 38 [(.v 1),(.v 0)]))]),
  .ite (.cmp .isn (.call 43 [(.v 0),(.v 5)]) (.c (.bl true))) [.ret (.c (.bl false))] [],
  .ite (.cmp .ne (.call 42 [(.v 0),(.tup [(.v 2)])]) (.blt .len [(.call 25 [(.v 0),(.v 2)])])) [.ret (.c (.bl false))] [],
  .asg [6] (.call 42 [(.v 0),(.blt .rangeT [(.bin .add (.ix (.v 0) (.c (.int 1))) (.c (.int 1)))])]),
  .asg [7] (.c (.int 1)),
  .forr [8] (.rng2 (.c (.int 1)) (.bin .add (.ix (.v 0) (.c (.int 1))) (.c (.int 1)))) [.asg [7] (.bin .mul (.v 7) (.call 30 [(.ix (.v 0) (.c (.int 0))),(.v 8),(.c (.int 1))]))],
  .ite (.cmp .ne (.v 6) (.v 7)) [.ret (.c (.bl false))] [],
  .asg [9] (.c (.int 0)),
  .asg [10] (.ix (.call 25 [(.v 0),(.ix (.v 0) (.c (.int 1)))]) (.c (.int 0))),
  .forr [11] (.of (.call 25 [(.v 0),(.v 2)])) [.asg [9] (.bin .add (.v 9) (.blt .len [(.comp1 [3] 1 [0] (.of (.call 26 [(.v 0),(.v 11),(.v 10)])) [(.cmp .eq (.blt .len [(.v 0)]) (.v 1))] (.v 0))]))],
  .ret (.or (.cmp .le (.v 3) (.v 2)) (.cmp .eq (.call 42 [(.v 0),(.tup [(.v 2),(.v 3)])]) (.v 9)))]⟩
noncomputable def Vi:Fn:=⟨3,3,
 [.ex (.call 16 [(.v 0),(.v 1),(.v 2)]),
  .ret (.call 34 [(.v 0),(.v 1),(.v 2)])]⟩
noncomputable def ww:Fn:=⟨3,3,
 [.ex (.call 16 [(.v 0),(.v 1),(.v 2)]),
  .ret (.call 38 [(.v 0),(.call 45 [(.v 0),(.call 38 [(.v 0),(.v 1)]),(.call 38 [(.v 0),(.v 2)])])])]⟩
noncomputable def Y3:Fn:=⟨2,6,
 [.asg [2] (.tup []),
  .asg [3] (.bin .mul (.lst [(.tup [])]) (.call 2 [(.v 0),(.c (.int 2))])),
  .forr [4] (.rng1 (.bin .mul (.c (.int 2)) (.ix (.v 1) (.c (.int 1))))) [.asg [5] (.call 5 [(.v 1),(.bin .add (.v 2) (.tup [(.call 6 [(.v 0),(.v 1)])]))]),
  .ite (.cmp .gt (.blt .len [(.v 5)]) (.blt .len [(.v 2)])) [.asg [2] (.v 5),
  .ite (.cmp .gt (.call 2 [(.v 0),(.c (.int 3))]) (.c (.int 0))) [.ex (.mt .append (.v 3) [(.v 2)])] []] []],
  .ret (.blt .tuple [(.v 3)])]⟩
noncomputable def ZcU:Fn:=⟨1,8,
 [.forr [1] (.rng1 (.blt .max2 [(.c (.int 1)),(.blt .min2 [(.blt .len [(.v 0)]),(.c (.int 4))])])) [.asg [2] (.call 1 [(.v 0),(.v 1)]),
  .asg [3] (.call 3 [(.v 2),(.c (.int 16))]),
  .par [4,5] [(.call 7 [(.v 2),(.v 3)]),(.call 7 [(.v 2),(.v 3)])],
  .ite (.not (.call 40 [(.v 3),(.v 4),(.call 45 [(.v 3),(.v 4),(.v 5)])])) [.ret (.c (.bl false))] [],
  .ite (.not (.call 40 [(.v 3),(.call 46 [(.v 3),(.v 4),(.v 5)]),(.v 5)])) [.ret (.c (.bl false))] [],
  .par [6,7] [(.call 2 [(.v 2),(.bin .add (.ix (.v 3) (.c (.int 1))) (.c (.int 1)))]),(.call 2 [(.v 2),(.bin .add (.ix (.v 3) (.c (.int 1))) (.c (.int 1)))])],
  .ite (.not (.call 44 [(.v 3),(.call 47 [(.v 2),(.v 3)]),(.v 6),(.v 7)])) [.ret (.c (.bl false))] []],
  .ret (.c (.bl true))]⟩
noncomputable def fns:List Fn:=[UN,Gg,zx,Y2,Xp,Yx,YJ,Xr,JD,Wx,Yw,Y8,Va,VL,WG,Wz,XS,X1,V0,Xs,WH,Xn,X8,YH,YL,Xv,WK,Gu,vo,JF,Zdi,GN,Jg,WE,Ye,Ve,WF,YK,WN,WD,ZX,VG,QP,X5,ZZ,Vi,ww,Y3,ZcU]
end K65
namespace K65
open Ev Pv Rw La
noncomputable abbrev CV (d:Nat):Zu:=ZT fns 2 d
theorem Jo (C:Zu) (s:DS) (v:V):∀(r:Row) (k:Nat) (a b:Option V),∃a' b',VI (λx ρ os s=>if (([1,2]:List Nat).any os.contains)=true then .no else if (os.isEmpty||x.flat)=true then (po (Zs [1,2] x ρ) s).bind λρ s=>rvs C [] [.ite (.cmp .ne (.v 2) (.c (.int 0))) [.ret (.v 1)] []] ρ os s else .no)
   (((Yj k r.length).zip (r.map V.int)).map λp=>V.tup [p.1,p.2]) [some v,a,b] [] s=match hdI r with
    |some m=>.ok (.ret (.int (k+m:Nat))) s
    |none=>.ok (.nx [some v,a',b'] []) s
 |[],k,a,b=>⟨a,b,rfl⟩
 |x::r,k,a,b=>by
  have er:Yj k (x::r).length=.int k::Yj (k+1:Nat) r.length:=by
   unfold Yj;rw[PC,List.range_succ_eq_map,PP,P7];refine List.cons_eq_cons.mpr ⟨by simp,?_⟩
   ·refine NI λj _=>?_
    show V.int ((k:Int)+((j+1:Nat):Int))=V.int (((k+1:Nat):Int)+(j:Int))
    congr 1
    omega
  obtain⟨a',b',ih⟩:=Jo C s v r (k+1) (some (.int k)) (some (.int x));refine⟨a',b',?_⟩;rw[er,PP,N1,PP,VI];by_cases c:x=0
  ·subst c
   have e0:hdI (0::r)=(hdI r).map (· + 1):=by rw[hdI,Pj (by simp)]
   have e1:(if (([1,2]:List Nat).any ([]:List Nat).contains)=true then (.no:PR FlV) else if (([]:List Nat).isEmpty||(V.tup [V.int k,V.int 0]).flat)=true then (po (Zs [1,2] (V.tup [.int k,.int 0]) [some v,a,b]) s).bind λρ s=>rvs C [] [.ite (.cmp .ne (.v 2) (.c (.int 0))) [.ret (.v 1)] []] ρ [] s else .no)=.ok (.nx [some v,some (.int k),some (.int 0)] []) s:=by
    simp[pvE,Zo]
   rw[e1,Zb,e0];show VI _ _ [some v,some (.int k),some (.int 0)] [] s=_;rw[ih];cases hdI r with
   |none=>rfl
   |some m=>show PR.ok (FlV.ret (.int ((k+1+m:Nat):Int))) s=PR.ok (FlV.ret (.int ((k+(m+1):Nat):Int))) s;congr 3;omega
  ·have e0:hdI (x::r)=some 0:=by rw[hdI,Ph c]
   have e1:(if (([1,2]:List Nat).any ([]:List Nat).contains)=true then (.no:PR FlV) else if (([]:List Nat).isEmpty||(V.tup [V.int k,V.int x]).flat)=true then (po (Zs [1,2] (V.tup [.int k,.int x]) [some v,a,b]) s).bind λρ s=>rvs C [] [.ite (.cmp .ne (.v 2) (.c (.int 0))) [.ret (.v 1)] []] ρ [] s else .no)=.ok (.ret (.int k)) s:=by
    simp[pvE,Zo,c]
   rw[e1,Zb,e0];rfl
theorem XQ (d:Nat) (r:Row) (s:DS):CV (d+1) 8 [Ze r] s=.ok (UV (hdI r)) s:=by
 rw[CV,QD (fn:=JD) rfl (by decide) rfl]
 obtain⟨a,b,e⟩:=Jo (ZT fns 2 d) s (Ze r) r 0 none none;show ((rv _ [] (.forr [1,2] (.enum (.v 0)) _) [some (Ze r),none,none] [] s).bind _).bind _=_;have e2:rv (ZT fns 2 d) [] (.forr [1,2] (.enum (.v 0)) [.ite (.cmp .ne (.v 2) (.c (.int 0))) [.ret (.v 1)] []]) [some (Ze r),none,none] [] s=match hdI r with
    |some m=>.ok (.ret (.int (m:Nat))) s
    |none=>.ok (.nx [some (Ze r),a,b] []) s:=by
  rw[rv];have ew:pvw (ZT fns 2 d) (.enum (.v 0)) (hide [] [some (Ze r),none,none]) s=.ok (((Yj 0 r.length).zip (r.map V.int)).map λp=>V.tup [p.1,p.2]) s:=by
   simp[pvE,Ze]
  rw[ew,Zb];simp only[Nat.zero_add,Int.natCast_zero] at e;exact e
 rw[e2];cases hdI r with
 |none=>rfl
 |some m=>rfl
section
variable {p n:Nat}[Base p]
theorem Ub:(p:Int)<=5/\(2:Int)<=p:=by rcases (inferInstance:Base p).b with e | e | e <;> subst e <;> decide
theorem xi (d:Nat) {r o:Row}{k:Int}(s:DS) (hn:n<=6) (hr:Zm p n r) (ho:Zm p n o) (hk:-1000<k/\k<1000):CV (d+1) 17 [.int p,Ze r,Ze o,.int k] s=.ok (Ze (Xt p r o k)) s:=by
 rw[CV,QD (fn:=X1) rfl (by decide) rfl]
 have hp:=Ub (p:=p);have hc:=Zt (C:=ZT fns 2 d) (cap:=[3,0]) (nl:=2) (t:=[0,1]) (it:=.zip (.v 1) (.v 2)) (elt:=.bin .mod (.bin .add (.v 0) (.bin .mul (.v 2) (.v 1))) (.v 3)) (ρ:=[some (.int p),some (Ze r),some (Ze o),some (.int k)]) (s:=s) (l:=r.zip o) (e:=λq=>V.tup [.int q.1,.int q.2]) (g:=λq=>V.int ((q.1+k*q.2)%p))
  (by simp[pvE,Ze,QH]) (by rw[NK,hr.1,ho.1];unfold lim;omega) (λq hq=>by
   have h2:=ho.2 q.2 (Kh hq).2;refine⟨_,rfl,?_⟩;have f1:=Zx (a:=k) (by omega) (by omega)
   have f2:=Zx (a:=q.2) (by omega) (by omega)
   have hp0:0<p:=by omega
   simp[pvE,f1,f2,hp0])
 have e:(r.zip o).map (λq=>V.int ((q.1+k*q.2)%p))=(Xt p r o k).map V.int:=by
  unfold Xt;rw[<-List.map_uncurry_zip_eq_zipWith,P7];rfl
 simp[X1,pvE,hc,e];rfl
theorem xG (d:Nat) {r o:Row}{h:Nat}(s:DS) (hn:n<=6) (hr:Zm p n r) (ho:Zm p n o) (hh:h<n):CV (d+2) 18 [.int p,Ze r,Ze o,.int h] s=.ok (Ze (clr p r o h)) s:=by
 rw[CV,QD (fn:=V0) rfl (by decide) rfl]
 have hg:=Xg ppos hr h;have hp:=Ub (p:=p);have e:=xi (p:=p) d (k:=-(gt r h)) s hn hr ho ⟨by omega,by omega⟩
 have e2:=XV (r:=r) (k:=h) (by rw[hr.1];exact hh)
 simp only[CV] at e;simp[V0,pvE,Ze,e2];simp only[Ze] at e;rw[e];simp[pvE,clr]
theorem Zc7 (d:Nat) {r:Row}{k:Int}(s:DS) (hn:n<=6) (hr:Zm p n r) (hk:-1000<k/\k<1000):CV (d+1) 31 [.int p,Ze r,.int k] s=.ok (Ze (XZ p r k)) s:=by
 rw[CV,QD (fn:=GN) rfl (by decide) rfl]
 have hp:=Ub (p:=p);have hc:=Zt (C:=ZT fns 2 d) (cap:=[2,0]) (nl:=1) (t:=[0]) (it:=.of (.v 1)) (elt:=.bin .mod (.bin .mul (.v 1) (.v 0)) (.v 2)) (ρ:=[some (.int p),some (Ze r),some (.int k)]) (s:=s) (l:=r) (e:=V.int) (g:=λq=>V.int (k*q%p))
  (by simp[pvE,Ze]) (by rw[hr.1];unfold lim;omega) (λq hq=>by
   have h2:=hr.2 q hq;refine⟨_,rfl,?_⟩;have f1:=Zx (a:=k) (by omega) (by omega)
   have f2:=Zx (a:=q) (by omega) (by omega)
   have hp0:0<p:=by omega
   simp[pvE,f1,f2,hp0])
 simp[GN,pvE,hc];simp[Ze,XZ]
theorem Gp (C:Zu) (m:Nat) {q a k:Int}(s:DS) (hq:0<q) (f1:fits a=true) (f2:fits k=true):XA (V2 C (.cmp .ne (.bin .mod (.bin .mul (.v 2) (.v 1)) (.v 0)) (.c (.int 1)))) (rvs C [] [.aug 2 .add (.c (.int 1))]) (m+1) [some (.int q),some (.int a),some (.int k)] [] s =
  if k*a%q=1 then .ok (.nx [some (.int q),some (.int a),some (.int k)] []) s else XA (V2 C (.cmp .ne (.bin .mod (.bin .mul (.v 2) (.v 1)) (.v 0)) (.c (.int 1)))) (rvs C [] [.aug 2 .add (.c (.int 1))]) m [some (.int q),some (.int a),some (.int (k+1))] [] s:=by
 rw[XA];by_cases c:k*a%q=1 <;> simp[pvE,f1,f2,hq,Zo,c,yW]
theorem Za0 (d:Nat) {a:Int}(s:DS) (ha:0<a/\a<p):CV (d+1) 32 [.int p,.int a] s=.ok (.int (Yn p a)) s:=by
 rw[CV,QD (fn:=Jg) rfl (by decide) rfl]
 generalize ZT fns 2 d=C;have fs:∀k:Int,0<=k->k<=5->fits k=true:=λk h0 h1=>Zx (by omega) (by omega)
 have hp:=Ub (p:=p);have fa:=fs a (by omega) (by omega)
 have key:XA (V2 C (.cmp .ne (.bin .mod (.bin .mul (.v 2) (.v 1)) (.v 0)) (.c (.int 1)))) (rvs C [] [.aug 2 .add (.c (.int 1))]) (996+1+1+1+1) [some (.int p),some (.int a),some (.int 1)] [] s=.ok (.nx [some (.int p),some (.int a),some (.int (Yn p a))] []) s:=by
  rw[Gp C _ s (by omega) fa (fs 1 (by omega) (by omega)),Gp C _ s (by omega) fa (fs (1+1) (by omega) (by omega)),Gp C _ s (by omega) fa (fs (1+1+1) (by omega) (by omega)),Gp C _ s (by omega) fa (fs (1+1+1+1) (by omega) (by omega))]
  rcases (inferInstance:Base p).b with e | e | e <;> subst e
  ·have:a=1:=by omega
   subst this;rfl
  ·have:a=1\/a=2:=by omega
   rcases this with e | e <;> subst e <;> rfl
  ·have:a=1\/a=2\/a=3\/a=4:=by omega
   rcases this with e | e | e | e <;> subst e <;> rfl
 have e:rv C [] (.whl (.cmp .ne (.bin .mod (.bin .mul (.v 2) (.v 1)) (.v 0)) (.c (.int 1))) [.aug 2 .add (.c (.int 1))]) [some (.int p),some (.int a),some (.int 1)] [] s=.ok (.nx [some (.int p),some (.int a),some (.int (Yn p a))] []) s:=by
  rw[rv];exact key
 show ((rvs C [] (.asg [2] (.c (.int 1)) :: .whl _ _ :: .ret (.v 2)::[]) [some (.int p),some (.int a),none] [] s).bind _)=_;have e1:rv C [] (.asg [2] (.c (.int 1))) [some (.int p),some (.int a),none] [] s=.ok (.nx [some (.int p),some (.int a),some (.int 1)] []) s:=by simp[pvE]
 rw[rvs,e1,Zb];show ((rvs C [] (.whl _ _ :: .ret (.v 2)::[]) [some (.int p),some (.int a),some (.int 1)] [] s).bind _)=_;rw[rvs,e,Zb];simp[pvE]
end
section
variable {p n:Nat}[Base p]
theorem Yp (C:Zu) (ms:List Nat) {i j:Nat}{ρ:Env}{os:List Nat}{s:DS}{e:E}(h:pvA C e ρ os s=.ok (spV p n) s) (ho:os.contains i=false/\os.contains j=false):rv C ms (.asg [i,j] e) ρ os s=.ok (.nx ((ρ.set i (some (.int p))).set j (some (.int n))) os) s:=by
 rw[rv,h,Zb,Pj (by simpa using ho)]
 ·rfl
 ·simp
theorem JB (d:Nat) {P:List Row}{r:Row}(s:DS) (hn:n<=6) (hP:pZ p n P) (hr:Zm p n r):CV (d+3) 19 [spV p n,Za P,Ze r] s=.ok (Ze (Zl p P r)) s:=by
 refine Zn (fn:=Xs) rfl (by decide) rfl ?_
 show rvs (CV (d+2)) [] Xs.body [some (spV p n),some (Za P),some (Ze r),none,none,none,none] [] s=_
 dsimp only[Xs]
 rw[Zg (Yp (p:=p) (n:=n) _ _ (by simp[pvE]) (by simp))]
 rw[Zg (ρ':=[some (spV p n),some (Za P),some (Ze r),some (.int p),some (.int n),some (Ze r),none]) (os':=[]) (s':=s) (by simp[pvE])]
 obtain⟨o',hI,e⟩:=Ge (C:=CV (d+2)) (ms:=[]) (t:=[6]) (it:=.of (.v 1)) (b:=[.asg [5] (.call 18 [(.v 3),(.v 5),(.v 6),(.call 8 [(.v 6)])])]) (L:=P) (e:=Ze) (step:=λst o=>clr p st o ((hdI o).getD 0)) (ρ:=λst o=>[some (spV p n),some (Za P),some (Ze r),some (.int p),some (.int n),some (Ze st),o]) (st:=r) (o:=none) (os:=[]) (s:=s) (Zm p n) (by simp[pvE,Za]) hr rfl (λx hx st o hst=>by
  have hx':=hP.row x hx;obtain⟨k,hk,hkn,_⟩:=hP.head fld.one0 hx;refine⟨Yl hst hx',rfl,_,some (Ze x),rfl,?_⟩;have e1:=XQ (d+1) x s;have e2:=xG d (h:=k) s hn hst hx' hkn;rw[hk] at e1;simp only[UV] at e1;have e3:CV (d+2) 8 [Ze x] s=.ok (.int k) s:=e1;simp[pvE,e3,e2,hk])
 rw[Zg e];exact Zv (ZL (by simp[pvE,Zl]))
theorem dsum {P:List Row}(hP:pZ p n P):P.length<=n:=by
 have:=WR fld hP.pn;rw[Gs] at this;omega
theorem ZaC (d:Nat) {P:List Row}{r:Row}(s:DS) (hn:n<=6) (hP:pZ p n P) (hr:Zm p n r):CV (d+4) 33 [spV p n,Za P,Ze r] s=.ok (Za (VN p P r)) s:=by
 refine Zn (fn:=WE) rfl (by decide) rfl ?_
 show rvs (CV (d+3)) [] WE.body [some (spV p n),some (Za P),some (Ze r),none,none,none,none,none,none] [] s=_
 dsimp only[WE]
 obtain⟨l1,l2⟩:=UA hP.row hP.pn.rf hr;have hw:=(yu hP hr).1;rw[Zg (Yp (p:=p) (n:=n) _ _ (by simp[pvE]) (by simp))]
 have e1:=JB d s hn hP hr;rw[Zg (ρ':=[some (spV p n),some (Za P),some (Ze r),some (.int p),some (.int n),some (Ze (Zl p P r)),none,none,none]) (os':=[]) (s':=s) (by simp[pvE,e1])]
 have e2:=XQ (d+2) (Zl p P r) s;rw[Zg (ρ':=[some (spV p n),some (Za P),some (Ze r),some (.int p),some (.int n),some (Ze (Zl p P r)),some (UV (hdI (Zl p P r))),none,none]) (os':=[]) (s':=s) (by simp[pvE,e2])]
 cases q:hdI (Zl p P r) with
 |none=>
  refine Zv ?_;have:VN p P r=P:=by unfold VN;rw[q]
  simp[pvE,UV,this]
 |some h=>
  obtain⟨h1,h2,h3⟩:=YM q;rw[l1.1] at h2;have hg:=Xg ppos l1 h;have hp:=Ub (p:=p);have hwid:VN p P r=(ZS (P.map (λo=>clr p o (lead p (Zl p P r) h) h)++[lead p (Zl p P r) h])).reverse:=by unfold VN;rw[q]
  rw[Zg (ρ':=[some (spV p n),some (Za P),some (Ze r),some (.int p),some (.int n),some (Ze (Zl p P r)),some (.int h),none,none]) (os':=[]) (s':=s) (by simp[pvE,UV])]
  have e3:=Za0 (p:=p) (d+2) (a:=gt (Zl p P r) h) s ⟨by omega,hg.2⟩
  have hi:-1000<Yn p (gt (Zl p P r) h)/\Yn p (gt (Zl p P r) h)<1000:=by
   unfold Yn
   repeat' split
   all_goals omega
  have e4:=Zc7 (p:=p) (d+2) s hn l1 hi;have e5:=XV (r:=Zl p P r) (k:=h) (by rw[l1.1];exact h2)
  have hl:Zm p n (lead p (Zl p P r) h):=XJ l1;rw[Zg (ρ':=[some (spV p n),some (Za P),some (Ze r),some (.int p),some (.int n),some (Ze (Zl p P r)),some (.int h),some (Ze (lead p (Zl p P r) h)),none]) (os':=[]) (s':=s) (by
   have e6:pv (CV (d+3)) (.call 31 [(.v 3),(.v 5),(.call 32 [(.v 3),(.ix (.v 5) (.v 6))])]) [some (spV p n),some (Za P),some (Ze r),some (.int p),some (.int n),some (Ze (Zl p P r)),some (.int h),none,none] s=.ok (Ze (lead p (Zl p P r) h)) s:=by
    refine Zk (vs:=[.int p,Ze (Zl p P r),.int (Yn p (gt (Zl p P r) h))]) (s1:=s) ?_ e4;have e7:pv (CV (d+3)) (.call 32 [(.v 3),(.ix (.v 5) (.v 6))]) [some (spV p n),some (Za P),some (Ze r),some (.int p),some (.int n),some (Ze (Zl p P r)),some (.int h),none,none] s=.ok (.int (Yn p (gt (Zl p P r) h))) s:=by
     refine Zk (vs:=[.int p,.int (gt (Zl p P r) h)]) (s1:=s) ?_ e3;simp[pvE,Ze,e5]
    exact Zd (Zf rfl) (Zd (Zf rfl) (Zd e7 Zi))
   rw[rv];show (pv _ _ _ _).bind _=_;rw[e6];rfl)]
  have hc:=Zt (C:=CV (d+3)) (cap:=[3,7,6]) (nl:=1) (t:=[0]) (it:=.of (.v 1)) (elt:=.call 18 [(.v 1),(.v 0),(.v 2),(.v 3)]) (ρ:=[some (spV p n),some (Za P),some (Ze r),some (.int p),some (.int n),some (Ze (Zl p P r)),some (.int h),some (Ze (lead p (Zl p P r) h)),none]) (s:=s) (l:=P) (e:=Ze) (g:=λo=>Ze (clr p o (lead p (Zl p P r) h) h))
   (by simp[pvE,Za]) (by have:=dsum hP;unfold lim;omega) (λo ho=>⟨_,rfl,by
    have:=xG (p:=p) (d+1) (h:=h) s hn (hP.row o ho) hl h2;simp[pvE,this]⟩)
  rw[Zg (ρ':=[some (spV p n),some (Za P),some (Ze r),some (.int p),some (.int n),some (Ze (Zl p P r)),some (.int h),some (Ze (lead p (Zl p P r) h)),some (.lst (P.map λo=>Ze (clr p o (lead p (Zl p P r) h) h)))]) (os':=[]) (s':=s) (by simp[pvE,hc])]
  refine Zv (ZL ?_);have ea:(P.map λo=>Ze (clr p o (lead p (Zl p P r) h) h))++[Ze (lead p (Zl p P r) h)]=((P.map λo=>clr p o (lead p (Zl p P r) h) h)++[lead p (Zl p P r) h]).map Ze:=by rw[Nq,P7];rfl
  have hs:YX ((P.map λo=>clr p o (lead p (Zl p P r) h) h)++[lead p (Zl p P r) h])=true:=by
   have hlen:((P.map λo=>clr p o (lead p (Zl p P r) h) h)++[lead p (Zl p P r) h]).length=P.length+1:=by simp
   have hnd:((P.map λo=>clr p o (lead p (Zl p P r) h) h)++[lead p (Zl p P r) h]).Nodup:=by
    have h5:=Uk hw.falls;rw[hwid] at h5;exact ((Sd.Xi _).nodup_iff).mp (((List.reverse_perm _).nodup_iff).mp h5)
   have hd:=dsum hP;unfold YX;rw[PJ (by rw[hlen];omega),PJ hnd]
   rw[Pp];refine⟨rfl,Pw.mpr λx hx=>?_⟩
   have:x.length=n:=by
    rcases Nd.mp hx with z | z
    ·obtain⟨o,ho,rfl⟩:=Py.mp z
     exact (Yl (hP.row o ho) hl).1
    ·rw[PL.mp z];exact hl.1
   cases x with
   |nil=>simp at this;omega
   |cons _ _=>rfl
  have hlen2:P.length+1<=16777216:=by have:=dsum hP;omega
  simp[pvE,hlen2];rw[ea,Q5];simp[pvE,hs,hwid,Za,Ko]
theorem Wu (d:Nat) {P R:List Row}{v:V}(s:DS) (hn:n<=6) (hP:pZ p n P) (hR:∀r∈R,Zm p n r) (hv:Z5 v=some (R.map Ze)):CV (d+5) 34 [spV p n,Za P,v] s=.ok (Za (Wg p P R)) s:=by
 refine Zn (fn:=Ye) rfl (by decide) rfl ?_
 show rvs (CV (d+4)) [] Ye.body [some (spV p n),some (Za P),some v,none,none] [] s=_
 dsimp only[Ye]
 rw[Zg (ρ':=[some (spV p n),some (Za P),some v,some (Za P),none]) (os':=[]) (s':=s) (by simp[pvE])]
 obtain⟨o',hI,e⟩:=Ge (C:=CV (d+4)) (ms:=[]) (t:=[4]) (it:=.of (.v 2)) (b:=[.asg [3] (.call 33 [(.v 0),(.v 3),(.v 4)])]) (L:=R) (e:=Ze) (step:=VN p) (ρ:=λst o=>[some (spV p n),some (Za P),some v,some (Za st),o]) (st:=P) (o:=none) (os:=[]) (s:=s) (pZ p n) (by show pvw (CV (d+4)) (.of (.v 2)) [some (spV p n),some (Za P),some v,some (Za P),none] s=_;rw[pvw,pv];show po (Z5 v) s=_;rw[hv];rfl) hP rfl (λx hx st o hst=>by
  have hx':=hR x hx;refine⟨(yu hst hx').1,rfl,_,some (Ze x),rfl,?_⟩;have e2:=ZaC d s hn hst hx';simp[pvE,e2])
 rw[Zg e];exact Zv (ZL (by simp[pvE,Wg]))
end
section
variable {p n:Nat}[Base p]
theorem zS (d:Nat) (i lo hi:Int) (s:DS):CV (d+1) 12 [.int i,.int lo,.int hi] s=.ok (.bl (decide (lo<=i)&&decide (i<=hi))) s:=by
 refine Zn (fn:=Va) rfl (by decide) rfl ?_
 by_cases c:lo<=i <;> simp[Va,pvE,XX,GU,c]
theorem ul (d:Nat) {r:Row}(s:DS) (hn:n<=6) (hr:Zm p n r):CV (d+2) 13 [spV p n,Ze r] s=.ok (.bl true) s:=by
 refine Zn (fn:=VL) rfl (by decide) rfl ?_
 show rvs (CV (d+1)) [] VL.body [some (spV p n),some (Ze r),none,none] [] s=_
 dsimp only[VL]
 rw[Zg (Yp (p:=p) (n:=n) _ _ (by simp[pvE]) (by simp))]
 rw[Zg (ρ':=[some (spV p n),some (Ze r),some (.int p),some (.int n)]) (os':=[]) (s':=s) (by
  have hl:=hr.1;simp[pvE,XX,GU,Ze,Zo,hl])]
 refine Zv (ZL ?_);have hc:=Zt (C:=CV (d+1)) (cap:=[2]) (nl:=1) (t:=[0]) (it:=.of (.v 1)) (elt:=.call 12 [(.v 0),(.c (.int 0)),(.bin .sub (.v 1) (.c (.int 1)))]) (ρ:=[some (spV p n),some (Ze r),some (.int p),some (.int n)]) (s:=s) (l:=r) (e:=V.int) (g:=λ_=>V.bl true)
  (by simp[pvE,Ze]) (by rw[hr.1];unfold lim;omega) (λx hx=>⟨_,rfl,by
   have h:=hr.2 x hx;have e:=zS d x 0 (p-1) s;have h1:x<=p-1:=by omega
   simp[pvE,e,h.1,h1]⟩)
 have ht:=Yd (g:=λ_:Int=>true) r
 simp[pvE,hc,ht]
theorem qD (d:Nat) {r:Row}(s:DS) (hn:n<=6) (hr:Zm p n r):CV (d+3) 35 [spV p n,Ze r] s=.ok .non s:=by
 have e:=ul d s hn hr;refine UE (fn:=Ve) (ρ:=[some (spV p n),some (Ze r)]) (os:=[]) rfl (by decide) rfl ?_
 show rvs (CV (d+2)) [] _ [some (spV p n),some (Ze r)] [] s=_;simp[Ve,pvE,e]
theorem vT (d:Nat) {hs:List Nat}(s:DS) (hl:hs.length<=1000) (h:hs.Pairwise (· < ·)):CV (d+1) 9 [.lst (hs.map Zh)] s=.ok (.bl true) s:=by
 refine Zn (fn:=Wx) rfl (by decide) rfl ?_
 have ez:∀(a b:List Nat),((a.map Zh).zip (b.map Zh)).map (λq=>V.tup [q.1,q.2])=(a.zip b).map λq=>V.tup [Zh q.1,Zh q.2]:=by
  intro a
  induction a with
  |nil=>intro b;rfl
  |cons x a ih=>intro b;cases b with
   |nil=>rfl
   |cons y b=>simp only[PP,N1];rw[ih]
 have hc:=Zt (C:=CV d) (cap:=[]) (nl:=2) (t:=[0,1]) (it:=.zip (.v 0) (.sl (.v 0) (some (.c (.int 1))) none)) (elt:=.cmp .lt (.v 0) (.v 1)) (ρ:=[some (.lst (hs.map Zh))]) (s:=s) (l:=hs.zip hs.tail) (e:=λq=>V.tup [Zh q.1,Zh q.2]) (g:=λ_=>V.bl true)
  (by
   have e1:Xk (hs.map Zh) (some 1) none=hs.tail.map Zh:=by rw[z9,List.map_tail]
   simp[pvE,slV,e1];rw[<-List.map_tail,ez]) (by rw[NK];unfold lim;omega) (λq hq=>⟨_,rfl,by
   have:q.1<q.2:=by
    obtain⟨i,hi,e⟩:=NH hq;rw[List.getElem_zip] at e;rw[<-e];rw[NK,List.length_tail] at hi;simp only[List.getElem_tail];exact N5.mp h i (i+1) (by omega) (by omega) (by omega)
   simp[pvE,Zh,this]⟩)
 have ht:=Yd (g:=λ_:Nat×Nat=>true) (hs.zip hs.tail)
 simp[Wx,pvE,hc,ht]
theorem xg (d:Nat) {R:List Row}{k:Nat}(s:DS) (hl:R.length<=1000) (hk:∀r∈R,k<r.length/\gt r k=0):CV (d+1) 10 [Za R,.int k] s=.ok (.bl true) s:=by
 refine Zn (fn:=Yw) rfl (by decide) rfl ?_
 have hc:=Zt (C:=CV d) (cap:=[1]) (nl:=1) (t:=[0]) (it:=.of (.v 0)) (elt:=.cmp .eq (.ix (.v 0) (.v 1)) (.c (.int 0))) (ρ:=[some (Za R),some (.int k)]) (s:=s) (l:=R) (e:=Ze) (g:=λ_=>V.bl true)
  (by simp[pvE,Za]) (by unfold lim;omega) (λr hr=>⟨_,rfl,by
   obtain⟨h1,h2⟩:=hk r hr;have:=XV h1;simp[pvE,Ze,this,h2,Zo]⟩)
 have ht:=Yd (g:=λ_:Row=>true) R
 simp[Yw,pvE,hc,ht]
theorem GW {P:List Row}(hP:pZ p n P):P.map (λr=>UV (hdI r))=(ZA P).map Zh:=by
 unfold ZA;rw[P7];refine NI λr hr=>?_
 obtain⟨k,hk,_⟩:=hP.head fld.one0 hr;show UV (hdI r)=Zh ((hdI r).getD 0);rw[hk];rfl
theorem Zcd {P:List Row}(hP:pZ p n P) {i:Nat}(hi:i<P.length):∃k,hdI P[i]=some k/\k<n/\gt P[i] k=1/\∀j (hj:j<P.length),j≠i->gt P[j] k=0:=by
 have hm:=Ny hi;obtain⟨k,h1,h2,h3⟩:=hP.head fld.one0 hm;have one:ph p 1=1:=by rcases (inferInstance:Base p).b with e | e | e <;> subst e <;> rfl
 refine⟨k,h1,h2,Gc (Xg ppos (hP.row _ hm) k) ⟨by omega,by have:=Ub (p:=p);omega⟩ (by rw[one];exact h3),λj hj ne=>?_⟩
 have hm2:=Ny hj;obtain⟨k2,g1,g2,g3⟩:=hP.head fld.one0 hm2;have inc:=hP.pn.rf.heads;have a1:=Z8 (p:=p) hm;have a2:=Z8 (p:=p) hm2;rw[h1] at a1;rw[g1] at a2;refine (Xd (hP.row _ hm2)).mp (hP.pn.rf.zer _ a1 _ a2 ?_);have hinc:=hP.pn.rf.inc;unfold toP at hinc;rw[NQ,N5] at hinc;show k≠k2;rcases Nat.lt_or_gt_of_ne ne with c | c
 ·have:=hinc j i hj hi c
  simp only[h1,g1] at this;simp at this;omega
 ·have:=hinc i j hi hj c
  simp only[h1,g1] at this;simp at this;omega
theorem JK (d:Nat) {P:List Row}{i:Nat}(s:DS) (hn:n<=6) (hP:pZ p n P) (hi:i<P.length):∃k,hdI P[i]=some k/\CV (d+2) 11 [Za P,.int i,.int k] s=.ok (.bl true) s:=by
 obtain⟨k,h1,h2,h3,h4⟩:=Zcd hP hi;refine⟨k,h1,Zn (fn:=Y8) rfl (by decide) rfl ?_⟩
 have hd:=dsum hP;have hrow:=hP.row _ (Ny hi);have e1:at' (P.map Ze) (i:Int)=some (Ze P[i]):=JX (by rw[PM,Pd hi];rfl)
 have e2:=XV (r:=P[i]) (k:=k) (by rw[hrow.1];exact h2)
 have e3:=xg d (R:=P.take i++P.drop (i+1)) (k:=k) s (by rw[PD,NA,Nr];omega) (λr hr=>by
  have hmem:∃j,∃(hj:j<P.length),j≠i/\P[j]=r:=by
   rcases Nd.mp hr with z | z
   ·obtain⟨j,hj,e⟩:=NH z
    rw[NA] at hj;exact⟨j,by omega,by omega,by rw[<-e,List.getElem_take]⟩
   ·obtain⟨j,hj,e⟩:=NH z
    rw[Nr] at hj;exact⟨i+1+j,by omega,by omega,by rw[<-e,List.getElem_drop]⟩
  obtain⟨j,hj,ne,rfl⟩:=hmem;exact⟨by rw[(hP.row _ (Ny hj)).1];exact h2,h4 j hj ne⟩)
 have c1:Xk (P.map Ze) none (some (i:Int))=(P.take i).map Ze:=by rw[uL (by rw[Pl];omega),List.map_take]
 have c2:Xk (P.map Ze) (some ((i:Int)+1)) none=(P.drop (i+1)).map Ze:=by rw[U5 (k:=i+1) (by omega) (by rw[Pl];omega),List.map_drop]
 have c3:(P.take i).length+(P.drop (i+1)).length<=16777216:=by rw[NA,Nr];omega
 rw[NA,Nr] at c3;have e4:CV (d+1) 10 [V.tup ((P.map Ze).take i++(P.map Ze).drop (i+1)),.int k] s=.ok (.bl true) s:=by
  rw[<-List.map_take,<-List.map_drop,<-Nq];exact e3
 simp[Y8,pvE,Za,slV,e1,c1,c2,c3,e4];simp[Ze,e2,h3,Zo,pvE,e4]
theorem xM:∀hs:List Nat,QU .non (hs.map Zh)=some false
 |[]=>rfl
 |h::hs=>by
  show (match eqV Zo (Zh h) .non,QU .non (hs.map Zh) with | some a,some b=>some (a||b) | _,_=>none)=_
  rw[xM hs];rfl
theorem wG (d:Nat) {P:List Row}(s:DS) (hn:n<=6) (hP:pZ p n P):CV (d+3) 14 [spV p n,Za P] s=.ok (.bl true) s:=by
 refine Zn (fn:=WG) rfl (by decide) rfl ?_
 show rvs (CV (d+2)) [] WG.body [some (spV p n),some (Za P),none] [] s=_
 dsimp only[WG]
 have hd:=dsum hP;have hc1:=Zt (C:=CV (d+2)) (cap:=[0]) (nl:=1) (t:=[0]) (it:=.of (.v 1)) (elt:=.call 13 [(.v 1),(.v 0)]) (ρ:=[some (spV p n),some (Za P),none]) (s:=s) (l:=P) (e:=Ze) (g:=λ_=>V.bl true)
  (by simp[pvE,Za]) (by unfold lim;omega) (λx hx=>⟨_,rfl,by
   have e:=ul d s hn (hP.row x hx);simp[pvE,e]⟩)
 have ht:=Yd (g:=λ_:Row=>true) P
 have hpt:XX (Za P) [.tuple]=some true:=rfl;rw[Zg (ρ':=[some (spV p n),some (Za P),none]) (os':=[]) (s':=s) (by simp[pvE,hpt,hc1,ht])]
 have hc2:=Zt (C:=CV (d+2)) (cap:=[]) (nl:=1) (t:=[0]) (it:=.of (.v 1)) (elt:=.call 8 [(.v 0)]) (ρ:=[some (spV p n),some (Za P),none]) (s:=s) (l:=P) (e:=Ze) (g:=λr=>UV (hdI r))
  (by simp[pvE,Za]) (by unfold lim;omega) (λx hx=>⟨_,rfl,by
   have e:=XQ (d+1) x s;simp[pvE,e]⟩)
 rw[GW hP] at hc2;rw[Zg (ρ':=[some (spV p n),some (Za P),some (.lst ((ZA P).map Zh))]) (os':=[]) (s':=s) (by simp[pvE,hc2])]
 have hrs:(ZA P).Pairwise (· < ·):=by rw[<-WB (p:=p)];exact hP.pn.rf.heads
 have hln:(ZA P).length=P.length:=by unfold ZA;rw[Pl]
 have e3:=vT (d+1) s (by omega) hrs
 have hin:=xM (ZA P);rw[Zg (ρ':=[some (spV p n),some (Za P),some (.lst ((ZA P).map Zh))]) (os':=[]) (s':=s) (by simp[pvE,Wk,hin,e3])]
 refine Zv (ZL ?_);have ew:((Yj 0 (ZA P).length).zip ((ZA P).map Zh)).map (λq=>V.tup [q.1,q.2])=(List.range P.length).map λi=>V.tup [Zh i,Zh ((ZA P).getD i 0)]:=by
  apply KZ
  ·simp[Yj,hln]
  ·intro i h1 h2
   have h3:i<P.length:=by simpa using h2
   have h4:i<(ZA P).length:=by omega
   simp[Yj,Zh,h4]
 have hc3:=Zt (C:=CV (d+2)) (cap:=[1]) (nl:=2) (t:=[0,1]) (it:=.enum (.v 2)) (elt:=.call 11 [(.v 2),(.v 0),(.v 1)]) (ρ:=[some (spV p n),some (Za P),some (.lst ((ZA P).map Zh))]) (s:=s) (l:=List.range P.length) (e:=λi=>V.tup [Zh i,Zh ((ZA P).getD i 0)]) (g:=λ_=>V.bl true)
  (by
   have:pvw (CV (d+2)) (.enum (.v 2)) [some (spV p n),some (Za P),some (.lst ((ZA P).map Zh))] s=.ok (((Yj 0 ((ZA P).map Zh).length).zip ((ZA P).map Zh)).map λq=>V.tup [q.1,q.2]) s:=by simp[pvE]
   rw[this,Pl,ew]) (by rw[PU];unfold lim;omega) (λi hi=>⟨_,rfl,by
   have hi':=PH.mp hi;obtain⟨k,hk,e⟩:=JK d s hn hP hi';have:(ZA P).getD i 0=k:=by
    unfold ZA;rw[Pu,PM,Pd hi'];show ((hdI P[i]).getD 0)=k;rw[hk];rfl
   have e':CV (d+2) 11 [Za P,Zh i,Zh ((ZA P).getD i 0)] s=.ok (.bl true) s:=by rw[this];exact e
   simp[pvE] at e' ⊢;exact e'⟩)
 have ht3:=Yd (g:=λ_:Nat=>true) (List.range P.length)
 simp[pvE,hc3,ht3]
theorem VV (d:Nat) {P:List Row}(s:DS) (hn:n<=6) (hP:pZ p n P):CV (d+4) 15 [spV p n,Za P] s=.ok .non s:=by
 have e:=wG d s hn hP;refine UE (fn:=Wz) (ρ:=[some (spV p n),some (Za P)]) (os:=[]) rfl (by decide) rfl ?_
 show rvs (CV (d+3)) [] _ [some (spV p n),some (Za P)] [] s=_;simp[Wz,pvE,e]
theorem Y7 (d:Nat) {P Q:List Row}(s:DS) (hn:n<=6) (hP:pZ p n P) (hQ:pZ p n Q):CV (d+5) 16 [spV p n,Za P,Za Q] s=.ok .non s:=by
 have e1:=VV d s hn hP;have e2:=VV d s hn hQ;refine UE (fn:=XS) (ρ:=[some (spV p n),some (Za P),some (Za Q)]) (os:=[]) rfl (by decide) rfl ?_
 show rvs (CV (d+4)) [] _ [some (spV p n),some (Za P),some (Za Q)] [] s=_;simp[XS,pvE,e1,e2]
end
section
variable {p n:Nat}[Base p]
theorem jP (d:Nat) {R:List Row}{v:V}(s:DS) (hn:n<=6) (hR:∀r∈R,Zm p n r) (hv:Z5 v=some (R.map Ze)) (ht:XX v [.tuple,.list]=some true):CV (d+6) 36 [spV p n,v] s=.ok (Za (Wg p [] R)) s:=by
 refine Zn (fn:=WF) rfl (by decide) rfl ?_
 show rvs (CV (d+5)) [] WF.body [some (spV p n),some v,none] [] s=_
 dsimp only[WF]
 rw[Zg (ρ':=[some (spV p n),some v,none]) (os':=[]) (s':=s) (by simp[pvE,ht])]
 obtain⟨o',hI,e⟩:=Ge (C:=CV (d+5)) (ms:=[]) (t:=[2]) (it:=.of (.v 1)) (b:=[.ex (.call 35 [(.v 0),(.v 2)])]) (L:=R) (e:=Ze) (step:=λ(st:Unit) _=>st) (ρ:=λ_ o=>[some (spV p n),some v,o]) (st:=()) (o:=none) (os:=[]) (s:=s) (λ_=>True) (by show pvw (CV (d+5)) (.of (.v 1)) [some (spV p n),some v,none] s=_;rw[pvw,pv];show po (Z5 v) s=_;rw[hv];rfl) True.intro rfl (λx hx st o hst=>by
  refine⟨True.intro,rfl,_,some (Ze x),rfl,?_⟩;have e2:=qD (d+2) s hn (hR x hx);show rvs (CV (d+5)) [] _ [some (spV p n),some v,some (Ze x)] [] s=_;rw[Zg (Uq (v:=.non) (s':=s) (Zk (vs:=[spV p n,Ze x]) (s1:=s) (Zd (Zf rfl) (Zd (Zf rfl) Zi)) e2)),rvs])
 rw[Zg e];refine Zv (ZL (Zk (vs:=[spV p n,Za [],v]) (s1:=s) (Zd (Zf rfl) (Zd (by simp[pvE,Za]) (Zd (Zf rfl) Zi))) (Wu d s hn pZ.nil hR hv)))
theorem joined (d:Nat) {P Q:List Row}(s:DS) (hn:n<=6) (hP:pZ p n P) (hQ:pZ p n Q):CV (d+6) 45 [spV p n,Za P,Za Q] s=.ok (Za (Wg p P Q)) s:=by
 refine Zn (fn:=Vi) rfl (by decide) rfl ?_
 show rvs (CV (d+5)) [] Vi.body [some (spV p n),some (Za P),some (Za Q)] [] s=_
 dsimp only[Vi]
 have ha:pvs (CV (d+5)) [(.v 0),(.v 1),(.v 2)] [some (spV p n),some (Za P),some (Za Q)] s=.ok [spV p n,Za P,Za Q] s:=Zd (Zf rfl) (Zd (Zf rfl) (Zd (Zf rfl) Zi));rw[Zg (Uq (Zk ha (Y7 d s hn hP hQ)))];exact Zv (ZL (Zk ha (Wu d s hn hP hQ.row rfl)))
theorem zX {r:Row}{k:Nat}{x:Int}:(r.map V.int).set k (.int x)=(r.set k x).map V.int:=by rw[List.map_set]
theorem zA (d:Nat) {P:List Row}{f:Nat}(s:DS) (hn:n<=6) (hP:pZ p n P) (hf:f<n):CV (d+2) 37 [spV p n,Za P,.int f] s=.ok (Ze (avI p n P f)) s:=by
 refine Zn (fn:=YK) rfl (by decide) rfl ?_
 show rvs (CV (d+1)) [5,5] YK.body [some (spV p n),some (Za P),some (.int f),none,none,none,none] [] s=_
 dsimp only[YK]
 rw[Zg (Yp (p:=p) (n:=n) _ _ (by simp[pvE]) (by simp))]
 have er:(List.replicate n [V.int 0]).flatten=(List.replicate n (0:Int)).map V.int:=by
  rw[KY];clear hf hP hn
  induction n with
  |zero=>rfl
  |succ k ih=>rw[P5,Ng,ih];rfl
 have hp:=Ub (p:=p);have e1:rv (CV (d+1)) [5,5] (.asg [5] (.bin .mul (.lst [(.c (.int 0))]) (.v 4))) [some (spV p n),some (Za P),some (.int f),some (.int p),some (.int n),none,none] [] s=.ok (.nx [some (spV p n),some (Za P),some (.int f),some (.int p),some (.int n),some (.lst ((List.replicate n (0:Int)).map V.int)),none] [5]) s:=by
  have h1:n<1000:=by omega
  have hfl:=XT (List.replicate n (0:Int));rw[KY] at hfl er;have h2:(n:Int)<1000:=by omega
  simp[pvE,h2,er,hfl]
 rw[show (([some (spV p n),some (Za P),some (.int f),none,none,none,none]:Env).set 3 (some (.int p))).set 4 (some (.int n))=[some (spV p n),some (Za P),some (.int f),some (.int p),some (.int n),none,none] from rfl,Zg e1]
 have ix:∀(r:Row) (k:Nat),k<r.length->ixN (r.map V.int).length (k:Int)=some k:=λr k h=>by
  unfold ixN;rw[Ph (by omega),Ph (by rw[Pl];omega)];rfl
 have e2:rv (CV (d+1)) [5,5] (.put (.v 5) (.v 2) (.c (.int 1))) [some (spV p n),some (Za P),some (.int f),some (.int p),some (.int n),some (.lst ((List.replicate n (0:Int)).map V.int)),none] [5] s=.ok (.nx [some (spV p n),some (Za P),some (.int f),some (.int p),some (.int n),some (.lst (((List.replicate n (0:Int)).set f 1).map V.int)),none] [5]) s:=by
  have h1:=ix (List.replicate n 0) f (by simpa using hf)
  rw[rv];simp only[pvE,W3,V.flat];simp only[Kx,BEq.rfl,Bool.true_or,N3,List.getElem?_cons_succ,List.getElem?_cons_zero,Option.bind,id,pvE];rw[h1,ZY,Zb,zX];rfl
 rw[Zg e2];obtain⟨o',hI,e⟩:=Ge (C:=CV (d+1)) (ms:=[5,5]) (t:=[6]) (it:=.of (.v 1)) (b:=[.put (.v 5) (.call 8 [(.v 6)]) (.bin .mod (.neg (.ix (.v 6) (.v 2))) (.v 3))]) (L:=P) (e:=Ze) (step:=λ(s:Row) r=>s.set ((hdI r).getD 0) ((-(gt r f))%p)) (ρ:=λst o=>[some (spV p n),some (Za P),some (.int f),some (.int p),some (.int n),some (.lst (st.map V.int)),o]) (st:=(List.replicate n (0:Int)).set f 1) (o:=none) (os:=[5]) (s:=s) (λst=>st.length=n) (by simp[pvE,Za]) (by simp) (by simp) (λx hx st o hst=>by
  have hx':=hP.row x hx;obtain⟨k,hk,hkn,_⟩:=hP.head fld.one0 hx;refine⟨by rw[P0];exact hst,by simp[Ze,V.flat,XT],_,some (Ze x),rfl,?_⟩
  show rvs (CV (d+1)) [5,5] _ [some (spV p n),some (Za P),some (.int f),some (.int p),some (.int n),some (.lst (st.map V.int)),some (Ze x)] [5] s=_;have e3:=XQ d x s;rw[hk] at e3;have e3':CV (d+1) 8 [Ze x] s=.ok (.int k) s:=e3;have e4:=XV (r:=x) (k:=f) (by rw[hx'.1];exact hf)
  have ev:pv (CV (d+1)) (.bin .mod (.neg (.ix (.v 6) (.v 2))) (.v 3)) [some (spV p n),some (Za P),some (.int f),some (.int p),some (.int n),some (.lst (st.map V.int)),some (Ze x)] s=.ok (.int ((-(gt x f))%p)) s:=by
   have hp0:0<p:=by omega
   simp[pvE,Ze,e4,hp0]
  have ek:pv (CV (d+1)) (.call 8 [(.v 6)]) [some (spV p n),some (Za P),some (.int f),some (.int p),some (.int n),some (.lst (st.map V.int)),some (Ze x)] s=.ok (.int k) s:=Zk (Zd (Zf rfl) Zi) e3';have h1:=ix st k (by rw[hst];exact hkn)
  rw[hk];rw[Zg (ρ':=[some (spV p n),some (Za P),some (.int f),some (.int p),some (.int n),some (.lst ((st.set k ((-(gt x f))%p)).map V.int)),some (Ze x)]) (os':=[5]) (s':=s) (by
   rw[rv,Ph (by simp),ev,Zb,Ph (by rfl)]
   show (po (some (st.map V.int)) s).bind _=_;rw[ZY,Zb,ek,Zb];show (po (ixN (st.map V.int).length (k:Int)) s).bind _=_;rw[h1,ZY,Zb,zX];rfl),rvs]
  rfl)
 rw[Zg e];refine Zv (ZL ?_);simp[pvE,Ze,avI,avF]
theorem qX (j:Nat):∀hs:List Nat,QU (Zh j) (hs.map Zh)=some (hs.contains j)
 |[]=>rfl
 |h::hs=>by
  show (match eqV Zo (Zh h) (Zh j),QU (Zh j) (hs.map Zh) with | some a,some b=>some (a||b) | _,_=>none)=_
  rw[qX j hs,Kx];show some (decide ((h:Int)=(j:Int))||hs.contains j)=_
  congr 2
  rw[Nf];simp;omega
theorem WQ (d:Nat) {P:List Row}(s:DS) (hn:n<=6) (hP:pZ p n P):CV (d+7) 38 [spV p n,Za P] s=.ok (Za (Z1 p n P)) s:=by
 refine Zn (fn:=WN) rfl (by decide) rfl ?_
 show rvs (CV (d+6)) [] WN.body [some (spV p n),some (Za P),none,none,none,none] [] s=_
 dsimp only[WN]
 have hd:=dsum hP;rw[Zg (Uq (Zk (Zd (Zf rfl) (Zd (Zf rfl) Zi)) (VV (d+2) s hn hP)))];rw[Zg (Yp (p:=p) (n:=n) _ _ (by simp[pvE]) (by simp))]
 have hc2:=Zt (C:=CV (d+6)) (cap:=[]) (nl:=1) (t:=[0]) (it:=.of (.v 1)) (elt:=.call 8 [(.v 0)]) (ρ:=[some (spV p n),some (Za P),some (.int p),some (.int n),none,none]) (s:=s) (l:=P) (e:=Ze) (g:=λr=>UV (hdI r))
  (by simp[pvE,Za]) (by unfold lim;omega) (λx hx=>⟨_,rfl,by
   have e:=XQ (d+5) x s;simp[pvE,e]⟩)
 rw[GW hP] at hc2;rw[Zg (ρ':=[some (spV p n),some (Za P),some (.int p),some (.int n),some (.lst ((ZA P).map Zh)),none]) (os':=[]) (s':=s) (by simp[pvE,hc2])]
 have hc3:=Yb (C:=CV (d+6)) (cap:=[4]) (nl:=1) (t:=[0]) (it:=.rng1 (.v 3)) (tst:=.cmp .nin (.v 0) (.v 1)) (elt:=.v 0) (ρ:=[some (spV p n),some (Za P),some (.int p),some (.int n),some (.lst ((ZA P).map Zh)),none]) (s:=s) (l:=List.range n) (e:=Zh) (g:=Zh) (q:=λj=>!(ZA P).contains j)
  (Yz (Zf rfl) (by omega)) (by rw[PU];unfold lim;omega) (λj hj=>⟨_,.bl (!(ZA P).contains j),rfl,by
   have:=qX j (ZA P);simp[pvE,Wk,this],rfl,λ_=>by simp[pvE]⟩)
 rw[Zg (ρ':=[some (spV p n),some (Za P),some (.int p),some (.int n),some (.lst ((ZA P).map Zh)),some (.lst ((We n P).map Zh))]) (os':=[]) (s':=s) (by
  refine (ZN hc3 rfl).trans ?_;rfl)]
 have hc4:=Zt (C:=CV (d+6)) (cap:=[0,1]) (nl:=1) (t:=[0]) (it:=.of (.v 5)) (elt:=.call 37 [(.v 1),(.v 2),(.v 0)]) (ρ:=[some (spV p n),some (Za P),some (.int p),some (.int n),some (.lst ((ZA P).map Zh)),some (.lst ((We n P).map Zh))]) (s:=s) (l:=We n P) (e:=Zh) (g:=λf=>Ze (avI p n P f))
  (by simp[pvE]) (by
   have:(We n P).length<=n:=by unfold We;exact P4 (NM ..) (by rw[PU];exact Pk _)
   unfold lim;omega) (λf hf=>⟨_,rfl,by
   have hf':f<n:=by rw[<-Qz (p:=p)] at hf;exact (Yc.mp hf).1
   have e:=zA (d+4) s hn hP hf';exact Zk (Zd (Zf rfl) (Zd (Zf rfl) (Zd (Zf rfl) Zi))) e⟩)
 have e5:=jP (p:=p) (n:=n) d (R:=(We n P).map (avI p n P)) (v:=.lst ((We n P).map λf=>Ze (avI p n P f))) s hn (λr hr=>by obtain⟨f,hf,rfl⟩:=Py.mp hr;exact (v8 hP hf).1) (by rw[P7];rfl) rfl
 exact Zv (ZL (Zk (Zd (Zf rfl) (Zd hc4 Zi)) e5))
theorem met (d:Nat) {P Q:List Row}(s:DS) (hn:n<=6) (hP:pZ p n P) (hQ:pZ p n Q):CV (d+8) 46 [spV p n,Za P,Za Q] s=.ok (Za (UU p n P Q)) s:=by
 refine Zn (fn:=ww) rfl (by decide) rfl ?_
 show rvs (CV (d+7)) [] ww.body [some (spV p n),some (Za P),some (Za Q)] [] s=_
 dsimp only[ww]
 rw[Zg (Uq (Zk (Zd (Zf rfl) (Zd (Zf rfl) (Zd (Zf rfl) Zi))) (Y7 (d+2) s hn hP hQ)))];have a1:=(Yi hP).1;have a2:=(Yi hQ).1;have a3:=(XO a1 a2).1;exact Zv (ZL (Zk (Zd (Zf rfl) (Zd (Zk (Zd (Zf rfl) (Zd (Zk (Zd (Zf rfl) (Zd (Zf rfl) Zi)) (WQ d s hn hP)) (Zd (Zk (Zd (Zf rfl) (Zd (Zf rfl) Zi)) (WQ d s hn hQ)) Zi))) (joined (d+1) s hn a1 a2)) Zi)) (WQ d s hn a3)))
theorem ZaL (d:Nat) {P:List Row}{r:Row}(s:DS) (hn:n<=6) (hP:pZ p n P) (hr:Zm p n r):CV (d+4) 20 [spV p n,Za P,Ze r] s=.ok (.bl (YD p P r)) s:=by
 refine Zn (fn:=WH) rfl (by decide) rfl ?_
 show rvs (CV (d+3)) [] WH.body [some (spV p n),some (Za P),some (Ze r)] [] s=_
 dsimp only[WH]
 have e1:pv (CV (d+3)) (.call 8 [(.call 19 [(.v 0),(.v 1),(.v 2)])]) [some (spV p n),some (Za P),some (Ze r)] s=.ok (UV (hdI (Zl p P r))) s:=
  Zk (Zd (Zk (Zd (Zf rfl) (Zd (Zf rfl) (Zd (Zf rfl) Zi))) (JB d s hn hP hr)) Zi) (XQ (d+2) _ s)
 refine Zv (ZL ?_);rw[pv,e1,Zb];unfold YD;cases hdI (Zl p P r) <;> simp[pvE,UV]
theorem Y4 (d:Nat) {P Q:List Row}(s:DS) (hn:n<=6) (hP:pZ p n P) (hQ:pZ p n Q):CV (d+5) 21 [spV p n,Za P,Za Q] s=.ok (.bl (P.all (YD p Q))) s:=by
 refine Zn (fn:=Xn) rfl (by decide) rfl ?_
 show rvs (CV (d+4)) [] Xn.body [some (spV p n),some (Za P),some (Za Q)] [] s=_
 dsimp only[Xn]
 have hd:=dsum hP;have hc:=Zt (C:=CV (d+4)) (cap:=[0,2]) (nl:=1) (t:=[0]) (it:=.of (.v 1)) (elt:=.call 20 [(.v 1),(.v 2),(.v 0)]) (ρ:=[some (spV p n),some (Za P),some (Za Q)]) (s:=s) (l:=P) (e:=Ze) (g:=λr=>V.bl (YD p Q r))
  (by simp[pvE,Za]) (by unfold lim;omega) (λx hx=>⟨_,rfl,Zk (Zd (Zf rfl) (Zd (Zf rfl) (Zd (Zf rfl) Zi))) (ZaL d s hn hQ (hP.row x hx))⟩)
 have ht:=Yd (g:=YD p Q) P;refine Zv (ZL ?_);rw[pv,Zd hc Zi,Zb];simp[pvE,ht,K2,Function.comp]
theorem xK (d:Nat) {P Q:List Row}(s:DS) (hn:n<=6) (hP:pZ p n P) (hQ:pZ p n Q):CV (d+6) 39 [spV p n,Za P,Za Q] s=.ok (.bl (P.all (YD p Q))) s:=by
 refine Zn (fn:=WD) rfl (by decide) rfl ?_
 show rvs (CV (d+5)) [] WD.body [some (spV p n),some (Za P),some (Za Q)] [] s=_
 dsimp only[WD]
 rw[Zg (Uq (Zk (Zd (Zf rfl) (Zd (Zf rfl) (Zd (Zf rfl) Zi))) (Y7 d s hn hP hQ)))];exact Zv (ZL (Zk (Zd (Zf rfl) (Zd (Zf rfl) (Zd (Zf rfl) Zi))) (Y4 d s hn hP hQ)))
end
section
variable {p n:Nat}[Base p]
theorem ix0 {C:Zu}{i:Nat}{ρ:Env}{s:DS}(h:ρ[i]? = some (some (spV p n))):pv C (.ix (.v i) (.c (.int 0))) ρ s=.ok (.int p) s:=by
 rw[pv,Zf h,Zb,pv];rfl
theorem ix1 {C:Zu}{i:Nat}{ρ:Env}{s:DS}(h:ρ[i]? = some (some (spV p n))):pv C (.ix (.v i) (.c (.int 1))) ρ s=.ok (.int n) s:=by
 rw[pv,Zf h,Zb,pv];rfl
theorem Vv {C:Zu}{e:E}{x:V}{xs:List V}{ρ:Env}{s:DS}(h:pv C e ρ s=.ok (.lst (x::xs)) s):pv C (.ix e (.c (.int 0))) ρ s=.ok x s:=by
 rw[pv,h,Zb,pv];show po (at' (x::xs) 0) s=_;simp[at',ixN,po]
theorem qJ (d:Nat) {r o:Row}{k:Int}(s:DS) (hn:n<=6) (hr:Zm p n r) (ho:Zm p n o) (hk:-1000<k/\k<1000):CV (d+1) 4 [spV p n,Ze r,Ze o,.int k] s=.ok (Ze (Xt p r o k)) s:=by
 refine Zn (fn:=Xp) rfl (by decide) rfl ?_
 show rvs (CV d) [] Xp.body [some (spV p n),some (Ze r),some (Ze o),some (.int k)] [] s=_
 dsimp only[Xp]
 have hp:=Ub (p:=p);have hc:=Zt (C:=CV d) (cap:=[3,0]) (nl:=2) (t:=[0,1]) (it:=.zip (.v 1) (.v 2)) (elt:=.bin .mod (.bin .add (.v 0) (.bin .mul (.v 2) (.v 1))) (.ix (.v 3) (.c (.int 0)))) (ρ:=[some (spV p n),some (Ze r),some (Ze o),some (.int k)]) (s:=s) (l:=r.zip o) (e:=λq=>V.tup [.int q.1,.int q.2]) (g:=λq=>V.int ((q.1+k*q.2)%p))
  (by simp[pvE,Ze,QH]) (by rw[NK,hr.1,ho.1];unfold lim;omega) (λq hq=>by
   have h2:=ho.2 q.2 (Kh hq).2;refine⟨_,rfl,?_⟩;have f1:=Zx (a:=k) (by omega) (by omega)
   have f2:=Zx (a:=q.2) (by omega) (by omega)
   have hp0:0<p:=by omega
   have e0:=ix0 (p:=p) (n:=n) (C:=CV d) (i:=3) (ρ:=[some (.int q.1),some (.int q.2),some (.int k),some (spV p n)]) (s:=s) rfl;show pv (CV d) _ [some (.int q.1),some (.int q.2),some (.int k),some (spV p n)] s=_;have g:pv (CV d) (.bin .add (.v 0) (.bin .mul (.v 2) (.v 1))) [some (.int q.1),some (.int q.2),some (.int k),some (spV p n)] s=.ok (.int (q.1+k*q.2)) s:=by simp[pvE,f1,f2]
   rw[pv,g,Zb,e0,Zb];simp[pvF,hp0])
 have e:(r.zip o).map (λq=>V.int ((q.1+k*q.2)%p))=(Xt p r o k).map V.int:=by
  unfold Xt;rw[<-List.map_uncurry_zip_eq_zipWith,P7];rfl
 refine Zv (ZL ?_);rw[pv,Zd hc Zi,e];rfl
theorem UQ (d:Nat) (s:DS) (hn:n<=6):∃r s',CV (d+2) 6 [.drw,spV p n] s=.ok (Ze r) s'/\Zm p n r:=by
 have hp:=Ub (p:=p);obtain⟨ys,s',e1,e2,e3⟩:=Jb (C:=CV (d+1)) (cap:=[0,1]) (nl:=1) (t:=[0]) (it:=.rng1 (.ix (.v 1) (.c (.int 1)))) (elt:=.call 2 [(.v 1),(.ix (.v 2) (.c (.int 0)))]) (ρ:=[some .drw,some (spV p n)]) (s:=s) (k:=n) (Q:=λy=>∃a:Int,y=.int a/\0<=a/\a<p)
  (by rw[JN];exact Yz (ix1 rfl) (by omega)) (by unfold lim;omega) (λx s=>by
   obtain⟨v,s',f1,f2,f3⟩:=UP (F:=fns) (tk:=2) (d:=d) (m:=p) s (by omega) (by omega)
   refine⟨[some x,some .drw,some (spV p n)],.int v,s',rfl,Zk (Zd (Zf rfl) (Zd (ix0 (p:=p) (n:=n) rfl) Zi)) f1,v,rfl,f2,f3⟩)
 have:∃r:Row,ys=r.map V.int/\∀a∈r,0<=a/\a<(p:Int):=by
  clear e1 e2
  induction ys with
  |nil=>exact⟨[],rfl,λ_ h=>by cases h⟩
  |cons y ys ih=>
   obtain⟨r,h1,h2⟩:=ih λz hz=>e3 z (Pc _ hz)
   obtain⟨a,rfl,h3⟩:=e3 y (Pe ..);refine⟨a::r,by rw[h1];rfl,λx hx=>?_⟩
   rcases Po.mp hx with rfl | hx
   ·exact h3
   ·exact h2 x hx
 obtain⟨r,rfl,h2⟩:=this;refine⟨r,s',Zn (fn:=YJ) rfl (by decide) rfl ?_,by simpa using e2,h2⟩
 show rvs (CV (d+1)) [] YJ.body [some .drw,some (spV p n)] [] s=_
 dsimp only[YJ]
 refine Zv (ZL ?_);rw[pv,Zd e1 Zi];rfl
noncomputable def Za8:List Sm:=[.asg [5] (.comp1 [4] 1 [0] (.of (.v 2)) [(.cmp .ne (.ix (.v 0) (.v 1)) (.c (.int 0)))] (.v 0)),
  .ite (.cmp .ne (.v 5) (.lst [])) [.asg [6] (.ix (.comp1 [5,4,0] 1 [0] (.rng1 (.ix (.v 0) (.c (.int 0)))) [(.cmp .eq (.bin .mod (.bin .mul (.v 0) (.ix (.ix (.v 1) (.c (.int 0))) (.v 2))) (.ix (.v 3) (.c (.int 0)))) (.c (.int 1)))] (.v 0)) (.c (.int 0))),
  .asg [7] (.blt .tuple [(.comp1 [6,0] 1 [0] (.of (.ix (.v 5) (.c (.int 0)))) [] (.bin .mod (.bin .mul (.v 1) (.v 0)) (.ix (.v 2) (.c (.int 0)))))]),
  .asg [2] (.comp1 [0,7,4] 1 [0] (.of (.v 2)) [] (.call 4 [(.v 1),(.v 0),(.v 2),(.neg (.ix (.v 0) (.v 3)))])),
  .asg [3] (.bin .add (.comp1 [0,7,4] 1 [0] (.of (.v 3)) [] (.call 4 [(.v 1),(.v 0),(.v 2),(.neg (.ix (.v 0) (.v 3)))])) (.lst [(.v 7)]))] []]
theorem jv (d:Nat) {rest found:List Row}{j:Nat}{v:V}{a5 a6 a7:Option V}(s:DS) (hn:n<=6) (hj:j<n) {R:List Row}(hR:Red p n j rest found) (hB:Bk p n R rest found) (hl:rest.length<=1000) (hl2:found.length<=1000):∃rest' found' b5 b6 b7,rvs (CV (d+1)) [] Za8 [some (spV p n),some v,some (.lst (rest.map Ze)),some (.lst (found.map Ze)),some (Zh j),a5,a6,a7] [] s=.ok (.nx [some (spV p n),some v,some (.lst (rest'.map Ze)),some (.lst (found'.map Ze)),some (Zh j),b5,b6,b7] []) s/\Red p n (j+1) rest' found'/\rest'.length=rest.length/\found'.length<=found.length+1/\Bk p n R rest' found':=by
 have hp:=Ub (p:=p);have hatj:∀r∈rest,at' (r.map V.int) (j:Int)=some (.int (gt r j)):=λr hr=>XV (by rw[(hR.row r hr).1];exact hj)
 have hc1:=Yb (C:=CV (d+1)) (cap:=[4]) (nl:=1) (t:=[0]) (it:=.of (.v 2)) (tst:=.cmp .ne (.ix (.v 0) (.v 1)) (.c (.int 0))) (elt:=.v 0) (ρ:=[some (spV p n),some v,some (.lst (rest.map Ze)),some (.lst (found.map Ze)),some (Zh j),a5,a6,a7]) (s:=s) (l:=rest) (e:=Ze) (g:=Ze) (q:=λr=>decide (gt r j≠0))
  (by simp[pvE]) (by unfold lim;omega) (λr hr=>⟨[some (Ze r),some (Zh j)],.bl (decide (gt r j≠0)),rfl,by
   have:=hatj r hr;simp[pvE,Ze,Zh,this,Zo],rfl,λ_=>Zf rfl⟩)
 unfold Za8;rw[Zg (ZN hc1 rfl)];show ∃rest' found' b5 b6 b7,rvs (CV (d+1)) [] _ [some (spV p n),some v,some (.lst (rest.map Ze)),some (.lst (found.map Ze)),some (Zh j),some (.lst ((rest.filter λr=>decide (gt r j≠0)).map Ze)),_,_] [] s=_/\_
 cases q:rest.filter λr=>decide (gt r j≠0) with
 |nil=>
  refine⟨rest,found,some (.lst ([].map Ze)),a6,a7,?_,uc hR λr hr=>?_,rfl,by omega,hB⟩
  ·have e1:V2 (CV (d+1)) (.cmp .ne (.v 5) (.lst [])) [some (spV p n),some v,some (.lst (rest.map Ze)),some (.lst (found.map Ze)),some (Zh j),some (.lst ([].map Ze)),a6,a7] s=.ok false s:=by
    refine XD (v:=.bl false) ?_ rfl;rw[pv,Zf (v:=.lst []) rfl];simp[pvE,Zo,Vk]
   rw[Zg ((Wl e1).trans (by rw[Pj (by simp),rvs])),rvs]
  ·have:=List.filter_eq_nil_iff.mp q r hr
   simpa using this
 |cons f fs=>
  have hf:f∈rest/\gt f j≠0:=by
   have:f∈rest.filter λr=>decide (gt r j≠0):=by rw[q];exact Pe ..
   rw[Na] at this;exact⟨this.1,by simpa using this.2⟩
  have hfr:=hR.row f hf.1;have hg:=Xg ppos hfr j;obtain⟨io1,io2⟩:=jf (p:=p) (a:=gt f j) (by omega) hg.2
  have hl1:Zm p n (lead p f j):=XJ hfr;have hi:0<=Yn p (gt f j)/\Yn p (gt f j)<1000:=by
   unfold Yn
   repeat' split
   all_goals omega
  let ρ0:Env:=[some (spV p n),some v,some (.lst (rest.map Ze)),some (.lst (found.map Ze)),some (Zh j),some (.lst ((f::fs).map Ze)),a6,a7]
  have e1:V2 (CV (d+1)) (.cmp .ne (.v 5) (.lst [])) ρ0 s=.ok true s:=by
   refine XD (v:=.bl true) ?_ rfl;rw[pv,Zf (v:=.lst ((f::fs).map Ze)) rfl];simp[pvE,Zo]
  have ef:pv (CV (d+1)) (.ix (.v 5) (.c (.int 0))) ρ0 s=.ok (Ze f) s:=by
   exact Vv (Zf rfl)
  have hatf:=XV (r:=f) (k:=j) (by rw[hfr.1];exact hj)
  have hc2:=Yb (C:=CV (d+1)) (cap:=[5,4,0]) (nl:=1) (t:=[0]) (it:=.rng1 (.ix (.v 0) (.c (.int 0)))) (tst:=.cmp .eq (.bin .mod (.bin .mul (.v 0) (.ix (.ix (.v 1) (.c (.int 0))) (.v 2))) (.ix (.v 3) (.c (.int 0)))) (.c (.int 1))) (elt:=.v 0) (ρ:=ρ0) (s:=s) (l:=List.range p) (e:=Zh) (g:=Zh) (q:=λk=>decide ((k:Int)*gt f j%p=1))
   (Yz (ix0 rfl) (by omega)) (by rw[PU];unfold lim;omega) (λk hk=>⟨[some (Zh k),some (.lst ((f::fs).map Ze)),some (Zh j),some (spV p n)],.bl (decide ((k:Int)*gt f j%p=1)),rfl,by
    have hk':=PH.mp hk;have f1:=Zx (a:=(k:Int)) (by omega) (by omega)
    have f2:=Zx (a:=gt f j) (by omega) (by omega)
    have g1:pv (CV (d+1)) (.ix (.ix (.v 1) (.c (.int 0))) (.v 2)) [some (Zh k),some (.lst ((f::fs).map Ze)),some (Zh j),some (spV p n)] s=.ok (.int (gt f j)) s:=by
     have g0:pv (CV (d+1)) (.ix (.v 1) (.c (.int 0))) [some (Zh k),some (.lst ((f::fs).map Ze)),some (Zh j),some (spV p n)] s=.ok (Ze f) s:=by
      exact Vv (Zf rfl)
     rw[pv,g0,Zb,Zf (v:=Zh j) rfl,Zb];show po (at' (f.map V.int) (j:Int)) s=_;rw[hatf];rfl
    have g2:=ix0 (p:=p) (n:=n) (C:=CV (d+1)) (i:=3) (ρ:=[some (Zh k),some (.lst ((f::fs).map Ze)),some (Zh j),some (spV p n)]) (s:=s) rfl;have g3:pv (CV (d+1)) (.bin .mul (.v 0) (.ix (.ix (.v 1) (.c (.int 0))) (.v 2))) [some (Zh k),some (.lst ((f::fs).map Ze)),some (Zh j),some (spV p n)] s=.ok (.int ((k:Int)*gt f j)) s:=by
     rw[pv,Zf (v:=Zh k) rfl,Zb,g1,Zb];simp[Zh,Ut,f1,f2]
    have hp0:0<p:=by omega
    rw[pv,pv,g3,Zb,g2,Zb];simp[pvE,Zo,hp0],rfl,λ_=>Zf rfl⟩)
  rw[io1] at hc2;have e6:pv (CV (d+1)) (.ix (.comp1 [5,4,0] 1 [0] (.rng1 (.ix (.v 0) (.c (.int 0)))) [(.cmp .eq (.bin .mod (.bin .mul (.v 0) (.ix (.ix (.v 1) (.c (.int 0))) (.v 2))) (.ix (.v 3) (.c (.int 0)))) (.c (.int 1)))] (.v 0)) (.c (.int 0))) ρ0 s=.ok (.int (Yn p (gt f j))) s:=by
   have:=Vv hc2;rw[Zh,io2] at this;exact this
  let ρ1:Env:=[some (spV p n),some v,some (.lst (rest.map Ze)),some (.lst (found.map Ze)),some (Zh j),some (.lst ((f::fs).map Ze)),some (.int (Yn p (gt f j))),a7]
  have ef1:pv (CV (d+1)) (.ix (.v 5) (.c (.int 0))) ρ1 s=.ok (Ze f) s:=by
   exact Vv (Zf rfl)
  have hc3:=Zt (C:=CV (d+1)) (cap:=[6,0]) (nl:=1) (t:=[0]) (it:=.of (.ix (.v 5) (.c (.int 0)))) (elt:=.bin .mod (.bin .mul (.v 1) (.v 0)) (.ix (.v 2) (.c (.int 0)))) (ρ:=ρ1) (s:=s) (l:=f) (e:=V.int) (g:=λa=>V.int (Yn p (gt f j)*a%p))
   (by rw[pvw,ef1];rfl) (by rw[hfr.1];unfold lim;omega) (λa ha=>⟨[some (.int a),some (.int (Yn p (gt f j))),some (spV p n)],rfl,by
    have h2:=hfr.2 a ha;have f1:=Zx (a:=Yn p (gt f j)) (by omega) (by omega)
    have f2:=Zx (a:=a) (by omega) (by omega)
    have g2:=ix0 (p:=p) (n:=n) (C:=CV (d+1)) (i:=2) (ρ:=[some (.int a),some (.int (Yn p (gt f j))),some (spV p n)]) (s:=s) rfl;have hp0:0<p:=by omega
    have g:pv (CV (d+1)) (.bin .mul (.v 1) (.v 0)) [some (.int a),some (.int (Yn p (gt f j))),some (spV p n)] s=.ok (.int (Yn p (gt f j)*a)) s:=by simp[pvE,f1,f2]
    rw[pv,g,Zb,g2,Zb];simp[pvF,hp0]⟩)
  have el:f.map (λa=>V.int (Yn p (gt f j)*a%p))=(lead p f j).map V.int:=by unfold lead XZ;rw[P7];rfl
  rw[el] at hc3;have e7:pv (CV (d+1)) (.blt .tuple [(.comp1 [6,0] 1 [0] (.of (.ix (.v 5) (.c (.int 0)))) [] (.bin .mod (.bin .mul (.v 1) (.v 0)) (.ix (.v 2) (.c (.int 0)))))]) ρ1 s=.ok (Ze (lead p f j)) s:=by
   rw[pv,Zd hc3 Zi];rfl
  let ρ2:Env:=[some (spV p n),some v,some (.lst (rest.map Ze)),some (.lst (found.map Ze)),some (Zh j),some (.lst ((f::fs).map Ze)),some (.int (Yn p (gt f j))),some (Ze (lead p f j))]
  have elt:∀r:Row,Zm p n r->pv (CV (d+1)) (.call 4 [(.v 1),(.v 0),(.v 2),(.neg (.ix (.v 0) (.v 3)))]) [some (Ze r),some (spV p n),some (Ze (lead p f j)),some (Zh j)] s=.ok (Ze (clr p r (lead p f j) j)) s:=λr hr=>by
   have hgr:=Xg ppos hr j;have h3:=XV (r:=r) (k:=j) (by rw[hr.1];exact hj)
   have g1:pv (CV (d+1)) (.neg (.ix (.v 0) (.v 3))) [some (Ze r),some (spV p n),some (Ze (lead p f j)),some (Zh j)] s=.ok (.int (-(gt r j))) s:=by
    simp[pvE,Ze,Zh,h3]
   exact Zk (Zd (Zf rfl) (Zd (Zf rfl) (Zd (Zf rfl) (Zd g1 Zi)))) (qJ d s hn hr hl1 ⟨by omega,by omega⟩)
  have hc4:=Zt (C:=CV (d+1)) (cap:=[0,7,4]) (nl:=1) (t:=[0]) (it:=.of (.v 2)) (elt:=.call 4 [(.v 1),(.v 0),(.v 2),(.neg (.ix (.v 0) (.v 3)))]) (ρ:=ρ2) (s:=s) (l:=rest) (e:=Ze) (g:=λr=>Ze (clr p r (lead p f j) j))
   (by rw[pvw,Zf (v:=.lst (rest.map Ze)) rfl];rfl) (by unfold lim;omega) (λr hr=>⟨_,rfl,elt r (hR.row r hr)⟩)
  let ρ3:Env:=[some (spV p n),some v,some (.lst (rest.map λr=>Ze (clr p r (lead p f j) j))),some (.lst (found.map Ze)),some (Zh j),some (.lst ((f::fs).map Ze)),some (.int (Yn p (gt f j))),some (Ze (lead p f j))]
  have hc5:=Zt (C:=CV (d+1)) (cap:=[0,7,4]) (nl:=1) (t:=[0]) (it:=.of (.v 3)) (elt:=.call 4 [(.v 1),(.v 0),(.v 2),(.neg (.ix (.v 0) (.v 3)))]) (ρ:=ρ3) (s:=s) (l:=found) (e:=Ze) (g:=λr=>Ze (clr p r (lead p f j) j))
   (by rw[pvw,Zf (v:=.lst (found.map Ze)) rfl];rfl) (by unfold lim;omega) (λr hr=>⟨_,rfl,elt r (hR.part.row r hr)⟩)
  have e9:pv (CV (d+1)) (.bin .add (.comp1 [0,7,4] 1 [0] (.of (.v 3)) [] (.call 4 [(.v 1),(.v 0),(.v 2),(.neg (.ix (.v 0) (.v 3)))])) (.lst [(.v 7)])) ρ3 s=.ok (.lst ((found.map λr=>Ze (clr p r (lead p f j) j))++[Ze (lead p f j)])) s:=by
   have hll:pv (CV (d+1)) (.lst [(.v 7)]) ρ3 s=.ok (.lst [Ze (lead p f j)]) s:=by
    rw[pv,Zd (Zf (v:=Ze (lead p f j)) rfl) Zi,Zb,Ph (by simp[lim])]
   rw[pv,hc5,Zb,hll,Zb];show (if (found.map λr=>Ze (clr p r (lead p f j) j)).length+[Ze (lead p f j)].length<=lim then _ else _)=_
   rw[Ph (by rw[Pl,P1];unfold lim;omega)]
  refine⟨rest.map λr=>clr p r (lead p f j) j,found.map (λr=>clr p r (lead p f j) j)++[lead p f j],some (.lst ((f::fs).map Ze)),some (.int (Yn p (gt f j))),some (Ze (lead p f j)),?_,qM hR hj hf.1 hf.2,by rw[Pl],by simp,hB.take hR hf.1⟩
  rw[Zg (ρ':=[some (spV p n),some v,some (.lst (rest.map λr=>Ze (clr p r (lead p f j) j))),some (.lst ((found.map λr=>Ze (clr p r (lead p f j) j))++[Ze (lead p f j)])),some (Zh j),some (.lst ((f::fs).map Ze)),some (.int (Yn p (gt f j))),some (Ze (lead p f j))]) (os':=[]) (s':=s) ((Wl e1).trans (by
   rw[Ph rfl,Zg (ZN e6 rfl)];show rvs _ _ _ ρ1 [] s=_;rw[Zg (ZN e7 rfl)];show rvs _ _ _ ρ2 [] s=_;rw[Zg (ZN hc4 rfl)];show rvs _ _ _ ρ3 [] s=_;rw[Zg (ZN e9 rfl),rvs];rfl)),rvs]
  rw[P7,Nq,P7];rfl
theorem QL {n j:Nat}{x:Nat}{l:List Nat}(h:x::l=(List.range n).drop j):x=j/\j<n/\l=(List.range n).drop (j+1):=by
 have hj:j<n:=by
  by_cases c:j<n
  ·exact c
  ·rw[List.drop_eq_nil_of_le (by rw[PU];omega)] at h;cases h
 rw[NL (by rw[PU];exact hj)] at h
 injection h with h1 h2
 exact⟨by rw[h1,List.getElem_range],hj,h2⟩
theorem Uh (d:Nat) {R:List Row}{v:V}(s:DS) (hn:n<=6) (hR:∀r∈R,Zm p n r) (hl:R.length<=1000) (hv:Z5 v=some (R.map Ze)):∃P,CV (d+2) 5 [spV p n,v] s=.ok (Za P) s/\pZ p n P/\∀r∈R,YD p P r=true:=by
 let I:List Nat->Env->Prop:=λl ρ=>∃rest found j a4 a5 a6 a7,ρ=[some (spV p n),some v,some (.lst (rest.map Ze)),some (.lst (found.map Ze)),a4,a5,a6,a7]/\l=(List.range n).drop j/\Red p n j rest found/\rest.length<=1000/\found.length<=j/\Bk p n R rest found
 obtain⟨ρ',hI,e⟩:=GA (C:=CV (d+1)) (ms:=[]) (t:=[4]) (it:=.rng1 (.ix (.v 0) (.c (.int 1)))) (b:=Za8) (L:=List.range n) (e:=Zh) (os:=[]) (s:=s) (ρ:=[some (spV p n),some v,some (.lst (R.map Ze)),some (.lst []),none,none,none,none]) I
  (Yz (ix1 rfl) (by omega)) ⟨R,[],0,none,none,none,none,rfl,rfl,⟨hR,λr _ i hi=>by omega,pZ.nil,λr hr=>by cases hr⟩,hl,Pk _,λW hW h _=>h⟩ rfl (λx l ρ hx=>by
   obtain⟨rest,found,j,a4,a5,a6,a7,rfl,hl',hred,h1,h2,h3⟩:=hx;obtain⟨rfl,hj,hl2⟩:=QL hl';obtain⟨rest',found',b5,b6,b7,e1,e2,e3,e4,e5⟩:=jv (p:=p) (n:=n) d (rest:=rest) (found:=found) (j:=x) (v:=v) (a5:=a5) (a6:=a6) (a7:=a7) s hn hj hred h3 h1 (by omega)
   exact⟨rfl,_,_,rfl,e1,rest',found',x+1,_,_,_,_,rfl,hl2,e2,by omega,by omega,e5⟩)
 obtain⟨rest,found,j,a4,a5,a6,a7,rfl,hz,hred,_,_,hB⟩:=hI;have hj:n<=j:=by
  have:=congrArg List.length hz;rw[Nr,PU,List.length_nil] at this;omega
 refine⟨found,Zn (fn:=Yx) rfl (by decide) rfl ?_,hred.part,hB.fin hred hj⟩
 show rvs (CV (d+1)) [] Yx.body [some (spV p n),some v,none,none,none,none,none,none] [] s=_
 dsimp only[Yx]
 have hlst:pv (CV (d+1)) (.blt .list [(.v 1)]) [some (spV p n),some v,none,none,none,none,none,none] s=.ok (.lst (R.map Ze)) s:=by
  rw[pv,Zd (Zf (v:=v) rfl) Zi,Zb];show po ((Z5 v).map V.lst) s=_;rw[hv];rfl
 rw[Zg (ZN hlst rfl)];show rvs _ _ _ [some (spV p n),some v,some (.lst (R.map Ze)),none,none,none,none,none] _ _=_;rw[Zg (ρ':=[some (spV p n),some v,some (.lst (R.map Ze)),some (.lst []),none,none,none,none]) (os':=[]) (s':=s) (by simp[pvE])]
 show rvs _ _ (.forr [4] (.rng1 (.ix (.v 0) (.c (.int 1)))) Za8::_) _ _ _=_;rw[Zg e];exact Zv (ZL (by simp[pvE,Za]))
theorem zC (d:Nat) (s:DS) (hn:n<=6):∃P s',CV (d+3) 7 [.drw,spV p n] s=.ok (Za P) s'/\pZ p n P:=by
 obtain⟨v,s1,f1,f2,f3⟩:=UP (F:=fns) (tk:=2) (d:=d+1) (m:=(n:Int)+1) s (by omega) (by omega)
 obtain⟨k,rfl⟩:∃k:Nat,v=k:=⟨v.toNat,by omega⟩
 obtain⟨ys,s2,e1,e2,e3⟩:=Jb (C:=CV (d+2)) (cap:=[0,1]) (nl:=1) (t:=[0]) (it:=.rng1 (.v 2)) (elt:=.call 6 [(.v 1),(.v 2)]) (ρ:=[some .drw,some (spV p n),some (.int k)]) (s:=s1) (k:=k) (Q:=λy=>∃r:Row,y=Ze r/\Zm p n r)
  (by rw[JN];exact Yz (Zf rfl) (by omega)) (by unfold lim;omega) (λx s=>by
   obtain⟨r,s',g1,g2⟩:=UQ (p:=p) (n:=n) d s hn;exact⟨[some x,some .drw,some (spV p n)],Ze r,s',rfl,Zk (Zd (Zf rfl) (Zd (Zf rfl) Zi)) g1,r,rfl,g2⟩)
 have:∃R:List Row,ys=R.map Ze/\∀r∈R,Zm p n r:=by
  clear e1 e2
  induction ys with
  |nil=>exact⟨[],rfl,λ_ h=>by cases h⟩
  |cons y ys ih=>
   obtain⟨r,h1,h2⟩:=ih λz hz=>e3 z (Pc _ hz)
   obtain⟨a,rfl,h3⟩:=e3 y (Pe ..);refine⟨a::r,by rw[h1];rfl,λx hx=>?_⟩
   rcases Po.mp hx with rfl | hx
   ·exact h3
   ·exact h2 x hx
 obtain⟨R,rfl,hR⟩:=this;rw[Pl] at e2;obtain⟨P,e4,hP,_⟩:=Uh (p:=p) (n:=n) d (v:=.lst (R.map Ze)) s2 hn hR (by omega) rfl
 refine⟨P,s2,Zn (fn:=Xr) rfl (by decide) rfl ?_,hP⟩
 show rvs (CV (d+2)) [] Xr.body [some .drw,some (spV p n),none] [] s=_
 dsimp only[Xr]
 have g1:pv (CV (d+2)) (.bin .add (.ix (.v 1) (.c (.int 1))) (.c (.int 1))) [some .drw,some (spV p n),none] s=.ok (.int ((n:Int)+1)) s:=by
  rw[pv,ix1 (p:=p) (n:=n) rfl];simp[pvE]
 rw[Zg (ZN (Zk (Zd (Zf rfl) (Zd g1 Zi)) f1) rfl)];exact Zv (ZL (Zk (Zd (Zf rfl) (Zd e1 Zi)) e4))
end
section
variable {C:Zu}{ρ:Env}{s:DS}{a b:E}
theorem Zbv {c:Bool}(h1:pv C a ρ s=.ok (.bl false) s) (h2:pv C b ρ s=.ok (.bl c) s):pv C (.or a b) ρ s=.ok (.bl c) s:=by rw[pv,h1];exact h2
theorem uS {c c':Bool}(h1:pv C a ρ s=.ok (.bl c) s) (h2:pv C b ρ s=.ok (.bl c') s):pv C (.and a b) ρ s=.ok (.bl (c&&c')) s:=by
 rw[pv,h1];cases c
 ·rfl
 ·exact h2
theorem Vd {c:Bool}(h1:pv C a ρ s=.ok (.bl c) s):pv C (.not a) ρ s=.ok (.bl !c) s:=by rw[pv,h1];rfl
theorem Zag {P Q:List Row}(h1:pv C a ρ s=.ok (Za P) s) (h2:pv C b ρ s=.ok (Za Q) s):pv C (.cmp .ne a b) ρ s=.ok (.bl !decide (P=Q)) s:=by
 rw[pv,h1,Zb,h2,Zb];show po ((eqV Zo (Za P) (Za Q)).map λb=>V.bl !b) s=_
 rw[Zo,uI];rfl
theorem UX (h1:pv C a ρ s=.ok (.bl true) s):pv C (.cmp .isn a (.c (.bl true))) ρ s=.ok (.bl false) s:=by
 rw[pv,h1,Zb,pv];rfl
theorem Xx {f:Nat}{x y:E}{v w r:V}(h1:pv C x ρ s=.ok v s) (h2:pv C y ρ s=.ok w s) (h:C f [v,w] s=.ok r s):pv C (.call f [x,y]) ρ s=.ok r s:=Zk (Zd h1 (Zd h2 Zi)) h
theorem Yk {f:Nat}{x y z:E}{v w u r:V}(h1:pv C x ρ s=.ok v s) (h2:pv C y ρ s=.ok w s) (h3:pv C z ρ s=.ok u s) (h:C f [v,w,u] s=.ok r s):pv C (.call f [x,y,z]) ρ s=.ok r s:=Zk (Zd h1 (Zd h2 (Zd h3 Zi))) h
theorem guard {ms:List Nat}{t:E}{x l:List Sm}(h:pv C t ρ s=.ok (.bl false) s):rvs C ms (.ite t x []::l) ρ [] s=rvs C ms l ρ [] s:=by
 rw[Zg ((Wl (XD h rfl)).trans (by rw[Pj (by simp),rvs]))]
theorem Ya {P:List Row}(h1:pv C a ρ s=.ok (Za P) s):pv C (.blt .len [a]) ρ s=.ok (.int P.length) s:=by
 rw[pv,Zd h1 Zi,Zb];show po (some (V.int (P.map Ze).length)) s=_;rw[Pl];rfl
theorem Xh {x y:Int}(h1:pv C a ρ s=.ok (.int x) s) (h2:pv C b ρ s=.ok (.int y) s):pv C (.bin .add a b) ρ s=.ok (.int (x+y)) s:=by
 rw[pv,h1,Zb,h2,Zb];rfl
theorem ne_int {x y:Int}(h1:pv C a ρ s=.ok (.int x) s) (h2:pv C b ρ s=.ok (.int y) s) (h:x=y):pv C (.cmp .ne a b) ρ s=.ok (.bl false) s:=by
 rw[pv,h1,Zb,h2,Zb];show PR.ok (V.bl !decide (x=y)) s=_;rw[PJ h];rfl
end
noncomputable def menu:List (Nat×Nat×Nat):=[(2,2,1),(4,2,2),(8,2,3),(16,2,4),(32,2,5),(64,2,6),(3,3,1),(9,3,2),(27,3,3),(81,3,4),(5,5,1),(25,5,2),(125,5,3)]
theorem ZaF:∀q∈menu,(q.2.1=2\/q.2.1=3\/q.2.1=5)/\1<=q.2.2/\q.2.2<=6/\q.2∈ZaG++jT:=by decide
theorem uQ:∀q∈menu,(q.1:Int)<=16->q.2∈YY:=by decide
theorem wO (d:Nat) {m:Int}(s:DS) (hm:2<=m):∃p n s',CV (d+2) 3 [.drw,.int m] s=.ok (spV p n) s'/\(p=2\/p=3\/p=5)/\1<=n/\n<=6/\(p,n)∈ZaG++jT/\(m<=16->(p,n)∈YY):=by
 let L:=menu.filter λq=>decide ((q.1:Int)<=m)
 have hL:0<L.length:=List.length_pos_of_mem (a:=(2,2,1)) (Na.mpr ⟨Pe ..,PJ hm⟩);have hL2:L.length<=13:=NM ..;have hc:=Yb (C:=CV (d+1)) (cap:=[1]) (nl:=2) (t:=[0,1]) (it:=.of (.v 2)) (tst:=.cmp .le (.v 0) (.v 2)) (elt:=.v 1) (ρ:=[some .drw,some (.int m),some (.lst (menu.map λq=>.tup [.int q.1,spV q.2.1 q.2.2]))]) (s:=s) (l:=menu) (e:=λq=>.tup [.int q.1,spV q.2.1 q.2.2]) (g:=λq=>spV q.2.1 q.2.2) (q:=λq=>decide ((q.1:Int)<=m))
  (by rw[pvw,Zf (v:=.lst (menu.map λq=>.tup [.int q.1,spV q.2.1 q.2.2])) rfl];rfl) (by decide) (λq _=>⟨[some (.int q.1),some (spV q.2.1 q.2.2),some (.int m)],.bl (decide ((q.1:Int)<=m)),rfl,by
   rw[pv,Zf (v:=.int q.1) rfl,Zb,Zf (v:=.int m) rfl];rfl,rfl,λ_=>Zf rfl⟩)
 obtain⟨v,s',f1,f2,f3⟩:=UP (F:=fns) (tk:=2) (d:=d) (m:=L.length) s (by omega) (by omega)
 obtain⟨k,rfl⟩:∃k:Nat,v=k:=⟨v.toNat,by omega⟩
 have hk:k<L.length:=by omega
 have hq:=ZaF _ (Na.mp (Ny hk)).1;have hf:=uQ _ (Na.mp (Ny hk)).1;have hle:=PF (Na.mp (Ny hk)).2;refine⟨L[k].2.1,L[k].2.2,s',Zn (fn:=Y2) rfl (by decide) rfl ?_,hq.1,hq.2.1,hq.2.2.1,hq.2.2.2,λh=>hf (by omega)⟩
 show rvs (CV (d+1)) [] Y2.body [some .drw,some (.int m),none] [] s=_
 dsimp only[Y2]
 rw[Zg (ρ':=[some .drw,some (.int m),some (.lst ((menu.take 8).map λq=>.tup [.int q.1,spV q.2.1 q.2.2]))]) (os':=[]) (s':=s) (by simp[pvE,menu,spV])]
 rw[Zg (ρ':=[some .drw,some (.int m),some (.lst (menu.map λq=>.tup [.int q.1,spV q.2.1 q.2.2]))]) (os':=[]) (s':=s) (by simp[pvE,menu,spV])]
 rw[Zg (ZN hc rfl)];show rvs _ _ _ [some .drw,some (.int m),some (.lst (L.map λq=>spV q.2.1 q.2.2))] _ _=_
 refine Zv (ZL ?_);have e1:pv (CV (d+1)) (.blt .len [(.v 2)]) [some .drw,some (.int m),some (.lst (L.map λq=>spV q.2.1 q.2.2))] s=.ok (.int L.length) s:=by
  rw[pv,Zd (Zf (v:=.lst (L.map λq=>spV q.2.1 q.2.2)) rfl) Zi,Zb]
  show po (some (V.int (L.map λq=>spV q.2.1 q.2.2).length)) s=_
  rw[Pl];rfl
 rw[pv,Zf (v:=.lst (L.map λq=>spV q.2.1 q.2.2)) rfl,Zb,Zk (Zd (Zf rfl) (Zd e1 Zi)) f1,Zb]
 show po (at' (L.map λq=>spV q.2.1 q.2.2) (k:Int)) s'=_
 rw[JX (x:=spV L[k].2.1 L[k].2.2) (by rw[PM,Pd hk];rfl)];rfl
section
variable {p n:Nat}[Base p]
theorem zP (d:Nat) {P:List Row}{h:Nat}(s:DS) (hP:∀r∈P,Zm p n r) (hl:P.length<=1000) (hh:h<n):CV (d+1) 10 [Za P,Zh h] s=.ok (.bl (P.all λr=>decide (gt r h=0))) s:=by
 refine Zn (fn:=Yw) rfl (by decide) rfl ?_
 have hc:=Zt (C:=CV d) (cap:=[1]) (nl:=1) (t:=[0]) (it:=.of (.v 0)) (elt:=.cmp .eq (.ix (.v 0) (.v 1)) (.c (.int 0))) (ρ:=[some (Za P),some (Zh h)]) (s:=s) (l:=P) (e:=Ze) (g:=λr=>V.bl (decide (gt r h=0)))
  (by simp[pvE,Za]) (by unfold lim;omega) (λr hr=>⟨_,rfl,by
   have:=XV (r:=r) (k:=h) (by rw[(hP r hr).1];exact hh)
   simp[pvE,Ze,Zh,this,Zo]⟩)
 have ht:=Yd (g:=λr:Row=>decide (gt r h=0)) P
 simp[Yw,pvE,hc,ht,K2,Function.comp]
theorem yI (d:Nat) {i lo hi:Int}(s:DS) (h1:lo<=i) (h2:i<=hi):CV (d+2) 22 [.int i,.int lo,.int hi] s=.ok .non s:=by
 have e:=zS d i lo hi s;refine UE (fn:=X8) (ρ:=[some (.int i),some (.int lo),some (.int hi)]) (os:=[]) rfl (by decide) rfl ?_
 show rvs (CV (d+1)) [] _ [some (.int i),some (.int lo),some (.int hi)] [] s=_;simp[X8,pvE,e,h1,h2]
theorem ZcY (h:Nat):(List.replicate h [V.int 0]).flatten=(List.replicate h (0:Int)).map V.int:=by
 induction h with
 |zero=>rfl
 |succ k ih=>rw[P5,Ng,ih];rfl
theorem Vj {C:Zu}{ρ:Env}{s:DS}{a b:E}{i j:Nat}(h1:pv C a ρ s=.ok (.int i) s) (h2:pv C b ρ s=.ok (.int j) s) (hi:i<1000000) (hj:j<1000000):pvw C (.rng2 a b) ρ s=.ok ((List.range (j-i)).map λk=>Zh (i+k)) s:=by
 rw[pvw,h1,Zb,h2,Zb];show (if (small (i:Int)&&small (j:Int))=true then PR.ok (Yj i ((j:Int)-i).toNat) s else .no)=_
 rw[XE (by omega) (by omega),XE (by omega) (by omega),Ph (show (true&&true)=true from rfl),show ((j:Int)-i).toNat=j-i by omega]
 rfl
theorem zg (d:Nat) {h:Nat}(s:DS) (hn:n<=6) (hh:h<n):CV (d+1) 23 [spV p n,Zh h] s=.ok (.lst ((ZJ p n h).map Ze)) s:=by
 refine Zn (fn:=YH) rfl (by decide) rfl ?_
 show rvs (CV d) [] YH.body [some (spV p n),some (Zh h),none,none,none,none] [] s=_
 dsimp only[YH]
 have hp:=Ub (p:=p);rw[Zg (Yp (p:=p) (n:=n) _ _ (by simp[pvE]) (by simp))]
 have er:=ZcY h;rw[Zg (ρ':=[some (spV p n),some (Zh h),some (.int p),some (.int n),some (.lst ([List.replicate h (0:Int)++[1]].map Ze)),none]) (os':=[]) (s':=s) (by
  have h1:(h:Int)<1000:=by omega
  have h2:h+1<=lim:=by unfold lim;omega
  have h3:(List.replicate h (V.int 0)).length+1<=16777216:=by rw[Nu];omega
  rw[KY] at er;have h4:h<=16777215:=by omega
  simp[pvE,Zh,h1,er,Ze,h4])]
 obtain⟨o',hI,e⟩:=X2 (C:=CV d) (ms:=[]) (t:=[5]) (it:=.rng2 (.bin .add (.v 1) (.c (.int 1))) (.v 3)) (b:=[.asg [4] (.comp2 [2] 2 [0] (.of (.v 4)) [] [1] (.rng1 (.v 2)) [] (.bin .add (.v 0) (.tup [(.v 1)])))]) (L:=List.range (n-(h+1))) (e:=λk=>Zh (h+1+k)) (step:=λrs _=>Y1 p rs) (ρ:=λst o=>[some (spV p n),some (Zh h),some (.int p),some (.int n),some (.lst (st.map Ze)),o]) (st:=[List.replicate h (0:Int)++[1]]) (o:=none) (os:=[]) (s:=s) (λl st=>st.length*5^l.length<=15625/\∀r∈st,r.length+l.length<=1000)
  (Vj (by simp[pvE,Zh]) (by simp[pvE]) (by omega) (by omega)) ⟨by
   have:5^(n-(h+1))<=5^6:=Km (by omega) (by omega)
   simp only[P1,PU];omega,λr hr=>by rw[PL.mp hr];simp;omega⟩ rfl (λx l st o hst=>by
  obtain⟨h3,h4⟩:=hst;have hsl:(Y1 p st).length=st.length*p:=ya st;have hb:st.length*p*5^l.length<=15625:=by
   have:st.length*p<=st.length*5:=Nat.mul_le_mul_left _ (by omega)
   have h4:st.length*p*5^l.length<=st.length*5*5^l.length:=Nat.mul_le_mul_right _ this;rw[PC,Nat.pow_succ] at h3;have h5:st.length*5*5^l.length=st.length*(5^l.length*5):=by rw[Nat.mul_assoc,Nat.mul_comm 5]
   omega
  have hlim:st.length*p<=15625:=P4 (Nat.le_mul_of_pos_right _ (Nat.pow_pos (by omega))) hb
  refine⟨⟨by rw[hsl];exact hb,λr hr=>?_⟩,rfl,_,some (Zh (h+1+x)),rfl,?_⟩
  ·unfold Y1 at hr
   obtain⟨q,hq,hr⟩:=NU.mp hr;obtain⟨k,_,rfl⟩:=Py.mp hr;have:=h4 q hq;rw[PC] at this;rw[PD,P1];omega
  ·show rvs (CV d) [] _ [some (spV p n),some (Zh h),some (.int p),some (.int n),some (.lst (st.map Ze)),some (Zh (h+1+x))] [] s=_
   have hc:=yb (C:=CV d) (cap:=[2]) (nl:=2) (t:=[0]) (u:=[1]) (it:=.of (.v 4)) (jt:=.rng1 (.v 2)) (elt:=.bin .add (.v 0) (.tup [(.v 1)])) (ρ:=[some (spV p n),some (Zh h),some (.int p),some (.int n),some (.lst (st.map Ze)),some (Zh (h+1+x))]) (s:=s) (l:=st) (e:=Ze) (m:=λ_=>List.range p) (e2:=Zh) (g:=λr k=>Ze (r++[(k:Int)]))
    (by simp[pvE]) (by rw[List.length_flatMap];simp only[Pl,PU];rw[List.map_const',List.sum_replicate_nat];unfold lim;omega) (λr hr=>⟨_,rfl,by
     exact Yz (n:=p) (Zf rfl) (by omega),λk hk=>⟨_,rfl,by
     have hr':=h4 r hr;have h6:r.length+1<=16777216:=by omega
     simp[pvE,Ze,Zh,h6]⟩⟩)
   have ef:(st.flatMap λr=>(List.range p).map λ(k:Nat)=>Ze (r++[(k:Int)]))=(Y1 p st).map Ze:=by
    unfold Y1;rw[List.map_flatMap];exact congrArg (λf=>st.flatMap f) (funext λr=>by rw[P7];rfl)
   rw[ef] at hc;rw[Zg (ZN hc rfl),rvs];rfl)
 rw[Zg e];exact Zv (ZL (Zf rfl))
theorem qw {C:Zu}{ρ:Env}{s:DS}{a b:E}{i j:Nat}(h1:pv C a ρ s=.ok (.int i) s) (h2:pv C b ρ s=.ok (.int j) s) (hi:i<1000000) (hj:j<1000000):pvw C (.rrng a b) ρ s=.ok ((Vf j i).map Zh) s:=by
 rw[pvw,h1,Zb,h2,Zb];show (if (small (i:Int)&&small (j:Int))=true then PR.ok (Yj i ((j:Int)-i).toNat).reverse s else .no)=_
 rw[XE (by omega) (by omega),XE (by omega) (by omega),Ph (show (true&&true)=true from rfl),show ((j:Int)-i).toNat=j-i by omega]
 unfold Vf Yj;rw[Ko,P7];rfl
theorem Za4 {r:Row}{P:List Row}:at' ((P++[r]).map Ze) (-1)=some (Ze r):=by
 have e:ixN ((P++[r]).map Ze).length (-1)=some P.length:=by
  rw[Pl,PD,P1];unfold ixN;rw[Pj (by omega),Ph (by omega),show (-1+((P.length+1:Nat):Int)).toNat=P.length by omega]
 unfold at';rw[e];show ((P++[r]).map Ze)[P.length]? = _;rw[PM,PQ (Pk _),Nat.sub_self];rfl
theorem jg (d:Nat) {P:List Row}{v:V}{a2 a3 a4:Option V}(s:DS) (hP:pZ p n P):pv (CV (d+1)) (.ite (.v 1) (.bin .add (.call 8 [(.ix (.v 1) (.neg (.c (.int 1))))]) (.c (.int 1))) (.c (.int 0))) [some v,some (Za P),a2,a3,a4] s=.ok (Zh (Z0 P)) s:=by
 unfold Z0;cases e:P.getLast? with
 |none=>
  rw[List.getLast?_eq_none_iff] at e;subst e;simp[pvE,Za,Zh]
 |some r=>
  obtain⟨P',rfl⟩:=Kq.mp e;obtain⟨k,h1,h2,h3⟩:=hP.head fld.one0 (r:=r) (by simp)
  have e1:=XQ d r s;rw[h1] at e1;have e2:pv (CV (d+1)) (.ix (.v 1) (.neg (.c (.int 1)))) [some v,some (Za (P'++[r])),a2,a3,a4] s=.ok (Ze r) s:=by
   have:=Za4 (r:=r) (P:=P');simp only[Nq,PP,K1] at this;simp[pvE,Za,this]
  have e3:pv (CV (d+1)) (.call 8 [(.ix (.v 1) (.neg (.c (.int 1))))]) [some v,some (Za (P'++[r])),a2,a3,a4] s=.ok (.int k) s:=Zk (Zd e2 Zi) e1;have e4:pv (CV (d+1)) (.v 1) [some v,some (Za (P'++[r])),a2,a3,a4] s=.ok (Za (P'++[r])) s:=Zf rfl;rw[pv,e4,Zb];show (po (some (!((P'++[r]).map Ze).isEmpty)) s).bind _=_;have:((P'++[r]).map Ze).isEmpty=false:=by cases P' <;> rfl
  rw[this,ZY,Zb];show pv (CV (d+1)) (.bin .add _ _) _ s=_;rw[pv,e3,Zb,pv];simp[h1,pvE,Zh]
theorem Xq:∀L:List Row,ZB (L.map Ze)=true
 |[]=>rfl
 |r::L=>by
  show (V.flat (Ze r)&&ZB (L.map Ze))=true;rw[Xq L,Bool.and_true];exact XT r
theorem zI (d:Nat) {P:List Row}(s:DS) (hn:n<=6) (hP:pZ p n P):CV (d+2) 24 [.lst ((List.range n).map λh=>.lst ((ZJ p n h).map Ze)),Za P] s=.ok (.lst ((UW p n P).map Ze)) s:=by
 refine Zn (fn:=YL) rfl (by decide) rfl ?_
 have hd:=dsum hP;have hp:=Ub (p:=p)
 let v:V:=.lst ((List.range n).map λh=>.lst ((ZJ p n h).map Ze))
 show rvs (CV (d+1)) [3] YL.body [some v,some (Za P),none,none,none] [] s=_
 dsimp only[YL]
 rw[Zg (ZN (jg d s hP) rfl)];show rvs (CV (d+1)) [3] _ [some v,some (Za P),some (Zh (Z0 P)),none,none] [] s=_;rw[Zg (ρ':=[some v,some (Za P),some (Zh (Z0 P)),some (.lst (([]:List Row).map Ze)),none]) (os':=[3]) (s':=s) (by
  rw[rv];simp[pvE];rfl)]
 have hf:Z0 P<=n:=by
  unfold Z0;cases e:P.getLast? with
  |none=>exact Ka _
  |some r=>
   obtain⟨P',rfl⟩:=Kq.mp e;have:=hP.pn.lt _ (Z8 (p:=p) (show r∈P'++[r] by simp))
   exact this
 obtain⟨o',hI,e⟩:=X2 (C:=CV (d+1)) (ms:=[3]) (t:=[4]) (it:=.rrng (.v 2) (.blt .len [(.v 0)])) (b:=[.ite (.call 10 [(.v 1),(.v 4)]) [.ex (.mt .extend (.v 3) [(.ix (.v 0) (.v 4))])] []]) (L:=Vf n (Z0 P)) (e:=Zh) (step:=Uw p n P) (ρ:=λst o=>[some v,some (Za P),some (Zh (Z0 P)),some (.lst (st.map Ze)),o]) (st:=[]) (o:=none) (os:=[3]) (s:=s) (λl st=>(∀h∈l,h<n)/\st.length+15625*l.length<=100000)
  (by
   have e1:pv (CV (d+1)) (.blt .len [(.v 0)]) (hide [3] [some v,some (Za P),some (Zh (Z0 P)),some (.lst (([]:List Row).map Ze)),none]) s=.ok (.int n) s:=by
    simp[pvE,v]
   exact qw (by simp[pvE,Zh]) e1 (by omega) (by omega)) ⟨λh hh=>(W7.mp hh).2,by
   unfold Vf;simp;omega⟩ rfl (λx l st o hst=>by
  obtain⟨h1,h2⟩:=hst;have hx:=h1 x (Pe ..);have hl:(ZJ p n x).length<=15625:=by
   rw[(Jc hx).2];have a1:p^(n-(x+1))<=5^(n-(x+1)):=Nat.pow_le_pow_left (by omega) _
   have a2:5^(n-(x+1))<=5^6:=Km (by omega) (by omega)
   omega
  have e2:=zP (p:=p) d (h:=x) s hP.row (by omega) hx
  rw[PC] at h2;refine⟨⟨λh hh=>h1 h (Pc _ hh),?_⟩,rfl,_,some (Zh x),rfl,?_⟩
  ·unfold Uw
   split
   ·rw[PD];omega
   ·omega
  ·show rvs (CV (d+1)) [3] _ [some v,some (Za P),some (Zh (Z0 P)),some (.lst (st.map Ze)),some (Zh x)] [3] s=_
   have e3:V2 (CV (d+1)) (.call 10 [(.v 1),(.v 4)]) [some v,some (Za P),some (Zh (Z0 P)),some (.lst (st.map Ze)),some (Zh x)] s=.ok (P.all λr=>decide (gt r x=0)) s:=XD (Zk (Zd (Zf rfl) (Zd (Zf rfl) Zi)) e2) rfl
   unfold Uw;by_cases c:(P.all λr=>decide (gt r x=0))=true
   ·rw[Ph c]
    have e4:at' ((List.range n).map λh=>V.lst ((ZJ p n h).map Ze)) (x:Int)=some (.lst ((ZJ p n x).map Ze)):=JX (by rw[PM,Kc hx];rfl)
    have e5:rv (CV (d+1)) [3] (.ex (.mt .extend (.v 3) [(.ix (.v 0) (.v 4))])) [some v,some (Za P),some (Zh (Z0 P)),some (.lst (st.map Ze)),some (Zh x)] [3] s=.ok (.nx [some v,some (Za P),some (Zh (Z0 P)),some (.lst ((st++ZJ p n x).map Ze)),some (Zh x)] [3]) s:=by
     have e6:pv (CV (d+1)) (.ix (.v 0) (.v 4)) (hide [3] [some v,some (Za P),some (Zh (Z0 P)),some (.lst (st.map Ze)),some (Zh x)]) s=.ok (.lst ((ZJ p n x).map Ze)) s:=by
      simp[pvE,v,Zh,e4]
     rw[rv,Ph (by rfl)]
     show (PR.ok (st.map Ze) s).bind _=_;rw[Zb,e6,Zb];show (if ZB ((ZJ p n x).map Ze)=true/\(st.map Ze).length+((ZJ p n x).map Ze).length<=lim then _ else _)=_
     rw[Ph ⟨Xq _,by rw[Pl,Pl];unfold lim;omega⟩,Nq]
     rfl
    rw[Zg ((Wl e3).trans (by rw[Ph c,Zg e5,rvs])),rvs]
   ·rw[Pj c]
    rw[Zg ((Wl e3).trans (by rw[Pj c,rvs])),rvs])
 rw[Zg e];exact Zv (ZL (Zf rfl))
theorem WI (d:Nat) {k:Nat}(s:DS) (hn:n<=6) (hk:k<=n) (hl:∀j,j<=n->(Z4 p n j).length<=1395):CV (d+3) 25 [spV p n,Zh k] s=.ok (.lst ((Z4 p n k).map Za)) s:=by
 refine Zn (fn:=Xv) rfl (by decide) rfl ?_
 show rvs (CV (d+2)) [] Xv.body [some (spV p n),some (Zh k),none,none,none,none,none] [] s=_
 dsimp only[Xv]
 rw[Zg (Yp (p:=p) (n:=n) _ _ (by simp[pvE]) (by simp))]
 show rvs (CV (d+2)) [] _ [some (spV p n),some (Zh k),some (.int p),some (.int n),none,none,none] [] s=_;rw[Zg (Uq (Zk (Zd (Zf rfl) (Zd (by rw[pv];rfl) (Zd (Zf rfl) Zi))) (yI d (i:=k) (lo:=0) (hi:=n) s (by omega) (by omega))))]
 have hc:=Zt (C:=CV (d+2)) (cap:=[0]) (nl:=1) (t:=[0]) (it:=.rng1 (.v 3)) (elt:=.call 23 [(.v 1),(.v 0)]) (ρ:=[some (spV p n),some (Zh k),some (.int p),some (.int n),none,none,none]) (s:=s) (l:=List.range n) (e:=Zh) (g:=λh=>V.lst ((ZJ p n h).map Ze))
  (Yz (n:=n) (Zf rfl) (by omega)) (by rw[PU];unfold lim;omega) (λh hh=>⟨_,rfl,Zk (Zd (Zf rfl) (Zd (Zf rfl) Zi)) (zg (d+1) s hn (PH.mp hh))⟩)
 rw[Zg (ZN hc rfl)]
 let v:V:=.lst ((List.range n).map λh=>.lst ((ZJ p n h).map Ze))
 show rvs (CV (d+2)) [] _ [some (spV p n),some (Zh k),some (.int p),some (.int n),some v,none,none] [] s=_;rw[Zg (ρ':=[some (spV p n),some (Zh k),some (.int p),some (.int n),some v,some (.lst ((Z4 p n 0).map Za)),none]) (os':=[]) (s':=s) (by simp[pvE,Z4,Za])]
 obtain⟨o',hI,e⟩:=X2 (C:=CV (d+2)) (ms:=[]) (t:=[6]) (it:=.rng1 (.v 1)) (b:=[.asg [5] (.comp2 [4] 2 [0] (.of (.v 5)) [] [1] (.of (.call 24 [(.v 2),(.v 0)])) [] (.bin .add (.v 0) (.tup [(.v 1)])))]) (L:=List.range k) (e:=Zh) (step:=λPs _=>zV p n Ps) (ρ:=λst o=>[some (spV p n),some (Zh k),some (.int p),some (.int n),some v,some (.lst (st.map Za)),o]) (st:=Z4 p n 0) (o:=none) (os:=[]) (s:=s) (λl st=>∃j,j+l.length=k/\st=Z4 p n j)
  (Yz (n:=k) (Zf rfl) (by omega)) ⟨0,by simp,rfl⟩ rfl (λx l st o hst=>by
  obtain⟨j,hj,rfl⟩:=hst;rw[PC] at hj;refine⟨⟨j+1,by omega,rfl⟩,rfl,_,some (Zh x),rfl,?_⟩
  show rvs (CV (d+2)) [] _ [some (spV p n),some (Zh k),some (.int p),some (.int n),some v,some (.lst ((Z4 p n j).map Za)),some (Zh x)] [] s=_;have ef:((Z4 p n j).flatMap λP=>(UW p n P).map λr=>Za (P++[r]))=(Z4 p n (j+1)).map Za:=by
   show _=(zV p n (Z4 p n j)).map Za;unfold zV;rw[List.map_flatMap];exact congrArg (λf=>(Z4 p n j).flatMap f) (funext λP=>by rw[P7];rfl)
  have hc:=yb (C:=CV (d+2)) (cap:=[4]) (nl:=2) (t:=[0]) (u:=[1]) (it:=.of (.v 5)) (jt:=.of (.call 24 [(.v 2),(.v 0)])) (elt:=.bin .add (.v 0) (.tup [(.v 1)])) (ρ:=[some (spV p n),some (Zh k),some (.int p),some (.int n),some v,some (.lst ((Z4 p n j).map Za)),some (Zh x)]) (s:=s) (l:=Z4 p n j) (e:=Za) (m:=UW p n) (e2:=Ze) (g:=λP r=>Za (P++[r]))
   (by simp[pvE]) (by rw[ef,Pl];have:=hl (j+1) (by omega);unfold lim;omega) (λP hP=>by
    obtain⟨h1,h2⟩:=Xf j P hP;refine⟨_,rfl,?_,λr hr=>⟨_,rfl,?_⟩⟩
    ·rw[pvw,Zk (Zd (Zf (v:=v) rfl) (Zd (Zf (v:=Za P) rfl) Zi)) (zI d s hn h1)]
     rfl
    ·have h3:P.length+1<=16777216:=by omega
     simp[pvE,Za,h3])
  rw[ef] at hc;rw[Zg (ZN hc rfl),rvs];rfl)
 have ek:(List.range k).foldl (λPs _=>zV p n Ps) (Z4 p n 0)=Z4 p n k:=by
  obtain⟨j,h1,h2⟩:=hI;rw[h2];rw[List.length_nil] at h1;rw[show j=k by omega]
 rw[ek] at e;rw[Zg e];exact Zv (ZL (Zf rfl))
end
noncomputable abbrev bte (p n:Nat) (P Q:List Row) (f:List (List Row)) (a b:Option V):Env:=[some (spV p n),some (Za P),some (Za Q),some (.lst (f.map Za)),a,b]
noncomputable abbrev mke (p n:Nat) (P Q:List Row) (a b:Int) (o:Option V):Env:=[some (spV p n),some (Za P),some (Za Q),some (.int p),some (.int n),some (.int a),some (.int b),o]
noncomputable abbrev X4 (L:List (List Row)):V:=.tup (L.map Za)
section
variable {p n:Nat}[Base p]
theorem Ws:∀L:List (List Row),ZB (L.map Za)=true
 |[]=>rfl
 |P::L=>by
  show (V.flat (Za P)&&ZB (L.map Za))=true;rw[Ws L,Bool.and_true];exact Xq P
theorem Uz {C:Zu}{ms:List Nat}{ρ:Env}{s s':DS}{i o:Nat}{e:E}{v:V}(h:pv C e (hide [o] ρ) s=.ok v s') (hm:(ms.contains i&&fresh e)=false) (hi:([o].filter (· != i))=[o]):rv C ms (.asg [i] e) ρ [o] s=.ok (.nx (ρ.set i (some v)) [o]) s':=by
 rw[rv];show (match pv C e (hide [o] ρ) s with
  |.ok v s=>PR.ok v s
  |.ex c s=>.ex c s
  |.no=>(pv C e ρ s).bind λv s=>if v.flat then .ok v s else .no).bind _=_
 rw[h];show (if (ms.contains i&&fresh e)=true then _ else PR.ok (FlV.nx (ρ.set i (some v)) ([o].filter (· != i))) s')=_
 rw[Pj (by rw[hm];simp),hi]
theorem ZdK {P Q:List Row}(i:Nat) (hl:(Z4 p n (P.length+i)).length<=1395):(((Z4 p n (P.length+i)).filter λX=>inB p P X).filter λX=>inB p X Q).length<=1395:=
 P4 (P4 (NM ..) (NM ..)) hl
theorem wf (d:Nat) {P Q:List Row}(s:DS) (hn:n<=6) (hl:∀j,j<=n->(Z4 p n j).length<=1395) (hP:pZ p n P) (hQ:pZ p n Q) (hi:inB p P Q=true):CV (d+6) 26 [spV p n,Za P,Za Q] s=.ok (.lst ((Vc p n P Q).map Za)) s:=by
 refine Zn (fn:=WK) rfl (by decide) rfl ?_
 show rvs (CV (d+5)) [3] WK.body [some (spV p n),some (Za P),some (Za Q),none,none,none] [] s=_
 dsimp only[WK]
 have hz:Q.length<=n:=XY hQ;have hz2:P.length<=n:=XY hP;rw[Zg (Uq (Yk (Zf rfl) (Zf rfl) (Zf rfl) (Y7 d s hn hP hQ)))];rw[guard (by
  have e:=Y4 (p:=p) d s hn hP hQ;rw[show P.all (YD p Q)=true from hi] at e
  exact Vd (Yk (Zf rfl) (Zf rfl) (Zf rfl) e))]
 rw[Zg (ρ':=[some (spV p n),some (Za P),some (Za Q),some (.lst (([]:List (List Row)).map Za)),none,none]) (os':=[3]) (s':=s) (by
  rw[rv];simp[pvE];rfl)]
 let up:Nat->List (List Row):=λi=>(Z4 p n (P.length+i)).filter λX=>inB p P X
 let sub:Nat->List (List Row):=λi=>(up i).filter λX=>inB p X Q
 obtain⟨o',hI,e⟩:=X2 (C:=CV (d+5)) (ms:=[3]) (t:=[4]) (it:=.rng2 (.blt .len [(.v 1)]) (.bin .add (.blt .len [(.v 2)]) (.c (.int 1)))) (b:=[.asg [5] (.comp1 [0,1] 1 [0] (.of (.call 25 [(.v 0),(.v 4)])) [(.call 21 [(.v 1),(.v 2),(.v 0)])] (.v 0)),.ex (.mt .extend (.v 3) [(.comp1 [0,2] 1 [0] (.of (.v 5)) [(.call 21 [(.v 1),(.v 0),(.v 2)])] (.v 0))])]) (L:=List.range (Q.length+1-P.length)) (e:=λk=>Zh (P.length+k)) (step:=λ(st:List (List Row)×Option V) k=>(st.1++sub k,some (.lst ((up k).map Za)))) (ρ:=λst o=>(bte p n P Q st.1 o st.2)) (st:=([],none)) (o:=none) (os:=[3]) (s:=s) (λl st=>(∀k∈l,P.length+k<=Q.length)/\st.1.length+1395*l.length<=100000)
  (by
   refine Vj (Ya (P:=P) (Zf rfl)) (j:=Q.length+1) ?_ (by omega) (by omega)
   exact Xh (x:=Q.length) (y:=1) (Ya (P:=Q) (Zf rfl)) (by rw[pv];rfl)) ⟨λk hk=>by have:=PH.mp hk;omega,by simp;omega⟩ rfl (λk l st o hst=>by
  obtain⟨h1,h2⟩:=hst;have hk:=h1 k (Pe ..);rw[PC] at h2;have hs:=ZdK (p:=p) (n:=n) (P:=P) (Q:=Q) k (hl _ (by omega))
  refine⟨⟨λj hj=>h1 j (Pc _ hj),?_⟩,rfl,_,some (Zh (P.length+k)),rfl,?_⟩
  ·show (st.1++sub k).length+_<=_
   rw[PD];have:(sub k).length<=1395:=hs;omega
  ·show rvs (CV (d+5)) [3] _ (bte p n P Q st.1 (some (Zh (P.length+k))) st.2) [3] s=_
   have c1:=Yb (C:=CV (d+5)) (cap:=[0,1]) (nl:=1) (t:=[0]) (it:=.of (.call 25 [(.v 0),(.v 4)])) (tst:=.call 21 [(.v 1),(.v 2),(.v 0)]) (elt:=.v 0) (ρ:=hide [3] (bte p n P Q st.1 (some (Zh (P.length+k))) st.2)) (s:=s) (l:=Z4 p n (P.length+k)) (e:=Za) (g:=Za) (q:=λX=>inB p P X)
    (by
     rw[pvw,Xx (v:=spV p n) (w:=Zh (P.length+k)) (Zf rfl) (Zf rfl) (WI (d+2) s hn (by omega) hl)]
     rfl) (by have:=hl (P.length+k) (by omega);unfold lim;omega) (λX hX=>⟨[some (Za X),some (spV p n),some (Za P)],.bl (inB p P X),rfl,Yk (Zf rfl) (Zf rfl) (Zf rfl) (Y4 d s hn hP (Xf _ X hX).1),rfl,λ_=>Zf rfl⟩)
   rw[Zg (Uz c1 rfl rfl)];show rvs (CV (d+5)) [3] _ (bte p n P Q st.1 (some (Zh (P.length+k))) (some (.lst ((up k).map Za)))) [3] s=_;have c2:=Yb (C:=CV (d+5)) (cap:=[0,2]) (nl:=1) (t:=[0]) (it:=.of (.v 5)) (tst:=.call 21 [(.v 1),(.v 0),(.v 2)]) (elt:=.v 0) (ρ:=hide [3] (bte p n P Q st.1 (some (Zh (P.length+k))) (some (.lst ((up k).map Za))))) (s:=s) (l:=up k) (e:=Za) (g:=Za) (q:=λX=>inB p X Q)
    (by rw[pvw,Zf (v:=.lst ((up k).map Za)) rfl];rfl) (by have:=hl (P.length+k) (by omega);have h3:(up k).length<=(Z4 p n (P.length+k)).length:=NM ..;unfold lim;omega) (λX hX=>⟨[some (Za X),some (spV p n),some (Za Q)],.bl (inB p X Q),rfl,Yk (Zf rfl) (Zf rfl) (Zf rfl) (Y4 d s hn (Xf _ X (Na.mp hX).1).1 hQ),rfl,λ_=>Zf rfl⟩)
   have e5:rv (CV (d+5)) [3] (.ex (.mt .extend (.v 3) [(.comp1 [0,2] 1 [0] (.of (.v 5)) [(.call 21 [(.v 1),(.v 0),(.v 2)])] (.v 0))])) (bte p n P Q st.1 (some (Zh (P.length+k))) (some (.lst ((up k).map Za)))) [3] s=.ok (.nx (bte p n P Q (st.1++sub k) (some (Zh (P.length+k))) (some (.lst ((up k).map Za)))) [3]) s:=by
    rw[rv,Ph (by rfl)]
    show (PR.ok (st.1.map Za) s).bind _=_;rw[Zb,c2,Zb];show (if ZB ((sub k).map Za)=true/\(st.1.map Za).length+((sub k).map Za).length<=lim then _ else _)=_
    rw[Ph ⟨Ws _,by rw[Pl,Pl];have:(sub k).length<=1395:=hs;unfold lim;omega⟩,<-Nq]
    rfl
   rw[Zg e5,rvs])
 have ef:∀(L:List Nat) (a:List (List Row)) (b:Option V),(L.foldl (λ(st:List (List Row)×Option V) k=>(st.1++sub k,some (V.lst ((up k).map Za)))) (a,b)).1=a++L.flatMap sub:=λL=>by
  induction L with
  |nil=>intro a b;simp
  |cons x L ih=>intro a b;rw[List.foldl_cons,ih,List.flatMap_cons,List.append_assoc]
 rw[Zg e];refine Zv (ZL ?_);rw[Zf rfl,ef];rfl
theorem vL:∀a,a<=6->∀q∈[2,3,5],fits (muI q a).1=true/\fits (-(muI q a).1)=true/\fits (muI q a).2=true:=by decide +kernel
theorem mark (d:Nat) {P Q:List Row}(s:DS) (hn:n<=6) (hP:pZ p n P) (hQ:pZ p n Q) (hi:inB p P Q=true):CV (d+6) 27 [spV p n,Za P,Za Q] s=.ok (.int (muI p (Q.length-P.length)).1) s:=by
 refine Zn (fn:=Gu) rfl (by decide) rfl ?_
 show rvs (CV (d+5)) [] Gu.body [some (spV p n),some (Za P),some (Za Q),none,none,none,none,none] [] s=_
 dsimp only[Gu]
 have hz:Q.length<=n:=XY hQ;have hz2:P.length<=n:=XY hP;have hb:p∈[2,3,5]:=by rcases (inferInstance:Base p).b with e | e | e <;> subst e <;> decide
 rw[Zg (Uq (Yk (Zf rfl) (Zf rfl) (Zf rfl) (Y7 d s hn hP hQ)))];rw[guard (by
  have e:=Y4 (p:=p) d s hn hP hQ;rw[show P.all (YD p Q)=true from hi] at e
  exact Vd (Yk (Zf rfl) (Zf rfl) (Zf rfl) e))]
 rw[Zg (Yp (p:=p) (n:=n) _ _ (by simp[pvE]) (by simp))]
 show rvs (CV (d+5)) [] _ [some (spV p n),some (Za P),some (Za Q),some (.int p),some (.int n),none,none,none] [] s=_;rw[Zg (ρ':=(mke p n P Q (muI p 0).1 (muI p 0).2 none)) (os':=[]) (s':=s) rfl];obtain⟨o',hI,e⟩:=X2 (C:=CV (d+5)) (ms:=[]) (t:=[7]) (it:=.rng2 (.blt .len [(.v 1)]) (.blt .len [(.v 2)])) (b:=[.asg [5] (.bin .mul (.neg (.v 5)) (.v 6)),.aug 6 .mul (.v 3)]) (L:=List.range (Q.length-P.length)) (e:=λk=>Zh (P.length+k)) (step:=λz _=>muS p z) (ρ:=λst o=>(mke p n P Q st.1 st.2 o)) (st:=muI p 0) (o:=none) (os:=[]) (s:=s) (λl st=>∃a,a+l.length=Q.length-P.length/\st=muI p a)
  (Vj (Ya (P:=P) (Zf rfl)) (Ya (P:=Q) (Zf rfl)) (by omega) (by omega)) ⟨0,by simp,rfl⟩ rfl (λk l st o hst=>by
  obtain⟨a,h1,rfl⟩:=hst;rw[PC] at h1;obtain⟨f1,f2,f3⟩:=vL a (by omega) p hb
  have hp:=Ub (p:=p);have f4:=Zx (a:=(p:Int)) (by omega) (by omega)
  refine⟨⟨a+1,by omega,rfl⟩,rfl,_,some (Zh (P.length+k)),rfl,?_⟩
  show rvs (CV (d+5)) [] _ (mke p n P Q (muI p a).1 (muI p a).2 (some (Zh (P.length+k)))) [] s=_;have e1:pv (CV (d+5)) (.bin .mul (.neg (.v 5)) (.v 6)) (mke p n P Q (muI p a).1 (muI p a).2 (some (Zh (P.length+k)))) s=.ok (.int (-(muI p a).1*(muI p a).2)) s:=by
   simp[pvE,f2,f3]
  rw[Zg (ZN e1 rfl)];show rvs (CV (d+5)) [] _ (mke p n P Q (-(muI p a).1*(muI p a).2) (muI p a).2 (some (Zh (P.length+k)))) [] s=_;rw[Zg (ρ':=(mke p n P Q (muS p (muI p a)).1 (muS p (muI p a)).2 (some (Zh (P.length+k))))) (os':=[]) (s':=s) (by
   simp[pvE,yW,f3,f4,muS]),rvs])
 have ek:(List.range (Q.length-P.length)).foldl (λz _=>muS p z) (muI p 0)=muI p (Q.length-P.length):=by
  obtain⟨a,h1,h2⟩:=hI;rw[h2];rw[List.length_nil] at h1;rw[show a=Q.length-P.length by omega]
 rw[ek] at e;rw[Zg e];exact Zv (ZL (Zf rfl))
end
noncomputable abbrev ZcX:List (Nat×Nat×Nat):=[(2,0,0),(2,1,0),(2,1,1),(2,2,0),(2,2,1),(2,2,2),(2,3,0),(2,3,1),(2,3,2),(2,3,3),(2,4,0),(2,4,1),(2,4,2),(2,4,3),(2,4,4),(3,0,0),(3,1,0),(3,1,1),(3,2,0),(3,2,1),(3,2,2),(5,0,0),(5,1,0),(5,1,1)]
noncomputable abbrev Zdb:List (Nat×Nat×Nat):=[(2,1,0),(2,1,1),(2,2,0),(2,2,1),(2,2,2),(2,3,0),(2,3,1),(2,3,2),(2,3,3),(2,4,0),(2,4,1),(2,4,2),(2,4,3),(2,4,4),(3,1,0),(3,1,1),(3,2,0),(3,2,1),(3,2,2),(5,1,0),(5,1,1)]
noncomputable abbrev Zdt:List (Nat×Nat×Nat×Nat):=[(2,1,0,1),(2,2,0,1),(2,2,0,2),(2,2,1,2),(2,3,0,1),(2,3,0,2),(2,3,0,3),(2,3,1,2),(2,3,1,3),(2,3,2,3),(2,4,0,1),(2,4,0,2),(2,4,0,3),(2,4,0,4),(2,4,1,2),(2,4,1,3),(2,4,1,4),(2,4,2,3),(2,4,2,4),(2,4,3,4),(3,1,0,1),(3,2,0,1),(3,2,0,2),(3,2,1,2),(5,1,0,1)]
theorem Zc8:∀q∈ZcX,∀(d:Nat) (s:DS),CV (d+3) 30 [.int q.1,.int q.2.1,.int q.2.2] s=.ok (.int (Xm q.1 q.2.1 q.2.2)) s:=by
 repeat' (first | exact λd s=>rfl | exact List.forall_mem_nil _ | refine List.forall_mem_cons.mpr ⟨?_,?_⟩)
set_option maxHeartbeats 0 in
theorem ZbY:∀q∈Zdb,∀(d:Nat) (s:DS),CV (d+4) 42 [spV q.1 q.2.1,.tup [Zh q.2.2]] s=.ok (.int (Xm q.1 q.2.1 q.2.2)) s:=by
 repeat' (first | exact λd s=>rfl | exact List.forall_mem_nil _ | refine List.forall_mem_cons.mpr ⟨?_,?_⟩)
set_option maxHeartbeats 0 in
theorem Zb6:∀q∈Zdt,∀(d:Nat) (s:DS),CV (d+4) 42 [spV q.1 q.2.1,.tup [Zh q.2.2.1,Zh q.2.2.2]] s=.ok (.int ((Xm q.1 q.2.1 q.2.2.2*Xm q.1 q.2.2.2 q.2.2.1:Nat):Int)) s:=by
 repeat' (first | exact λd s=>rfl | exact List.forall_mem_nil _ | refine List.forall_mem_cons.mpr ⟨?_,?_⟩)
noncomputable def Xl (p n:Nat):Nat:=(List.range n).foldl (λa i=>a*Xm p (1+i) 1) 1
set_option maxHeartbeats 0 in
theorem ZbM:∀q∈YY,∀(d:Nat) (s:DS),CV (d+4) 42 [spV q.1 q.2,.tup (Yj 0 (q.2+1))] s=.ok (.int (Xl q.1 q.2)) s:=by
 unfold YY
 repeat' (first | exact λd s=>rfl | exact List.forall_mem_nil _ | refine List.forall_mem_cons.mpr ⟨?_,?_⟩)
theorem ZcI:(YY.all λq=>(List.range (q.2+1)).all λm=>((List.range (m+1)).all λk=>(ZcX.contains (q.1,m,k)))&&((Zdb.contains (q.1,q.2,m))&&(List.range m).all λk=>(Zdt.contains (q.1,q.2,k,m))))=true:=by decide +kernel
noncomputable abbrev che (p n:Nat) (c:List Row) (f:List (List Row)) (a b:Option V):Env:=[some .drw,some (spV p n),some (Za c),some (.lst (f.map Za)),a,b]
section
variable {p n:Nat}[Base p]
theorem xx (d:Nat) {m k:Nat}(s:DS) (h:(p,n)∈YY) (hm:m<=n) (hk:k<=m):CV (d+3) 30 [.int p,.int m,.int k] s=.ok (.int (Xm p m k)) s:=by
 have a:=Pw.mp (Pw.mp ZcI (p,n) h) m (PH.mpr (show m<n+1 by omega))
 rw[Pp,Pp] at a;exact Zc8 (p,m,k) (by simpa only[Nl] using Pw.mp a.1 k (PH.mpr (by omega))) d s
theorem ue (d:Nat) {a:Nat}(s:DS) (h:(p,n)∈YY) (ha:a<=n):CV (d+4) 42 [spV p n,.tup [Zh a]] s=.ok (.int (Xm p n a)) s:=by
 have b:=Pw.mp (Pw.mp ZcI (p,n) h) a (PH.mpr (show a<n+1 by omega))
 rw[Pp,Pp] at b;exact ZbY (p,n,a) (by simpa only[Nl] using b.2.1) d s
theorem uq (d:Nat) {a b:Nat}(s:DS) (h:(p,n)∈YY) (ha:a<b) (hb:b<=n):CV (d+4) 42 [spV p n,.tup [Zh a,Zh b]] s=.ok (.int ((Xm p n b*Xm p b a:Nat):Int)) s:=by
 have c:=Pw.mp (Pw.mp ZcI (p,n) h) b (PH.mpr (show b<n+1 by omega))
 rw[Pp,Pp] at c;exact Zb6 (p,n,a,b) (by simpa only[Nl] using Pw.mp c.2.2 a (PH.mpr ha)) d s
theorem Ju:∀(a b:List (List Row)),((a.map Za).zip (b.map Za)).map (λq=>V.tup [q.1,q.2])=(a.zip b).map λq=>V.tup [Za q.1,Za q.2]
 |[],_=>rfl
 |_::_,[]=>rfl
 |x::a,y::b=>by simp only[PP,N1];rw[Ju a b]
theorem GO {C:Zu}{ρ:Env}{s:DS}{α:Type}{x:E}{l:List α}{g:α->Bool}(h:pv C x ρ s=.ok (.lst (l.map λa=>.bl (g a))) s):pv C (.blt .all [x]) ρ s=.ok (.bl (l.all g)) s:=by
 rw[pv,Zd h Zi,Zb];show po ((Z3 (l.map λa=>V.bl (g a))).map λbs=>V.bl (bs.all id)) s=_
 rw[Yd];show PR.ok (V.bl ((l.map g).all id)) s=_;rw[K2];rfl
theorem Qf (d:Nat) {L:List (List Row)}(s:DS) (hn:n<=6) (hL:∀P∈L,pZ p n P) (hc:Up p L) (hl:L.length<=3000):CV (d+6) 43 [spV p n,X4 L] s=.ok (.bl true) s:=by
 refine Zn (fn:=X5) rfl (by decide) rfl ?_
 show rvs (CV (d+5)) [] X5.body [some (spV p n),some (X4 L)] [] s=_
 dsimp only[X5]
 have c1:=Zt (C:=CV (d+5)) (cap:=[0]) (nl:=1) (t:=[0]) (it:=.of (.v 1)) (elt:=.call 14 [(.v 1),(.v 0)]) (ρ:=[some (spV p n),some (X4 L)]) (s:=s) (l:=L) (e:=Za) (g:=λ_=>V.bl true)
  (by rw[pvw,Zf (v:=X4 L) rfl];rfl) (by unfold lim;omega) (λx hx=>⟨_,rfl,Xx (Zf rfl) (Zf rfl) (wG (d+2) s hn (hL x hx))⟩)
 have b1:=GO (g:=λ_:List Row=>true) c1
 rw[show (L.all λ_=>true)=true by simp] at b1
 have t1:pv (CV (d+5)) (.isi (.v 1) [.tuple]) [some (spV p n),some (X4 L)] s=.ok (.bl true) s:=by
  rw[pv,Zf (v:=X4 L) rfl];rfl
 rw[guard (Zbv (Vd t1) (Vd b1))];have c2:=Zt (C:=CV (d+5)) (cap:=[0]) (nl:=2) (t:=[0,1]) (it:=.zip (.v 1) (.sl (.v 1) (some (.c (.int 1))) none)) (elt:=.and (.cmp .ne (.v 0) (.v 1)) (.call 21 [(.v 2),(.v 0),(.v 1)])) (ρ:=[some (spV p n),some (X4 L)]) (s:=s) (l:=L.zip L.tail) (e:=λq=>V.tup [Za q.1,Za q.2]) (g:=λq=>V.bl (!decide (q.1=q.2)&&inB p q.1 q.2))
  (by
   have e1:Xk (L.map Za) (some 1) none=L.tail.map Za:=by rw[z9,List.map_tail]
   simp[pvE,slV,e1];rw[<-List.map_tail,Ju]) (by rw[NK];unfold lim;omega) (λq hq=>by
   have hq1:=Kh hq;exact⟨_,rfl,uS (Zag (Zf rfl) (Zf rfl)) (Yk (Zf rfl) (Zf rfl) (Zf rfl) (Y4 d s hn (hL _ hq1.1) (hL _ (List.mem_of_mem_tail hq1.2))))⟩)
 have b2:=GO (g:=λq:List Row×List Row=>!decide (q.1=q.2)&&inB p q.1 q.2) c2
 rw[ZcC hc] at b2;exact Zv (ZL b2)
theorem gt_int {C:Zu}{ρ:Env}{s s1 s2:DS}{a b:E}{x y:Int}(h1:pv C a ρ s=.ok (.int x) s1) (h2:pv C b ρ s1=.ok (.int y) s2):pv C (.cmp .gt a b) ρ s=.ok (.bl (decide (y<x))) s2:=by
 rw[pv,h1,Zb,h2,Zb];rfl
theorem ZaX {C:Zu}{ms os:List Nat}{ρ:Env}{s:DS}{α:Type}{t:List Nat}{it:W}{b:List Sm}{L:List α}{e:α->V}(I:List α->Env->Prop) (hw:pvw C it (hide os ρ) s=.ok (L.map e) s) (hI:I L ρ) (ht:(t.any os.contains)=false)
  (h:∀x l ρ s,I (x::l) ρ->(os.isEmpty||(e x).flat)=true/\∃ρ1 ρ' s',Zs t (e x) ρ=some ρ1/\rvs C ms b ρ1 os s=.ok (.nx ρ' os) s'/\I l ρ') :
  ∃ρ' s',I [] ρ'/\rv C ms (.forr t it b) ρ os s=.ok (.nx ρ' os) s':=by
 rw[rv,hw,Zb];clear hw
 induction L generalizing ρ s with
 |nil=>exact⟨ρ,s,hI,rfl⟩
 |cons x L ih=>
  obtain⟨f,ρ1,ρ',s',b1,b2,b3⟩:=h x L ρ s hI;obtain⟨ρ2,s2,c1,c2⟩:=ih (s:=s') b3;refine⟨ρ2,s2,c1,?_⟩;rw[PP,VI,Pj (by rw[ht];simp),Ph f,b1,ZY,Zb,b2,Zb]
  exact c2
structure Ch (p n:Nat) [NeZero p] (cur:List Row) (found:List (List Row)):Prop where
 part:pZ p n cur
 parts:∀X∈found,pZ p n X
 ins:∀X∈found,inB p X cur=true
 up:Up p found
theorem Ch.more {cur more:List Row}{found:List (List Row)}(h:Ch p n cur found) (hm:pZ p n more) (hi:inB p cur more=true):Ch p n more found:=
 ⟨hm,h.parts,λX hX=>vn (h.parts X hX) h.part hm (h.ins X hX) hi,h.up⟩
theorem Ch.put {cur more:List Row}{found:List (List Row)}(h:Ch p n cur found) (hm:pZ p n more) (hi:inB p cur more=true) (hl:cur.length<more.length):Ch p n more (found++[more]):=by
 have h2:=h.more hm hi;refine⟨hm,λX hX=>?_,λX hX=>?_,?_⟩
 ·rcases Nd.mp hX with hX | hX
  ·exact h.parts X hX
  ·rw[PL.mp hX];exact hm
 ·rcases Nd.mp hX with hX | hX
  ·exact h2.ins X hX
  ·rw[PL.mp hX];exact Pw.mpr λr hr=>xQ hm hr
 ·unfold Up
  rw[List.pairwise_append];refine⟨h.up,Kf ..,λa ha b hb=>?_⟩
  rw[PL.mp hb];refine⟨λe=>?_,h2.ins a ha⟩
  have:=wo (h.parts a ha) h.part (h.ins a ha);rw[e] at this;omega
theorem vw (d:Nat) (s:DS) (hn:n<=6):∃L s',CV (d+3) 47 [.drw,spV p n] s=.ok (X4 L) s'/\(∀P∈L,pZ p n P)/\Up p L/\L.length<=1000:=by
 obtain⟨v,s1,f1,f2,f3⟩:=UP (F:=fns) (tk:=2) (d:=d+1) (m:=2) s (by omega) (by omega)
 have h0:∃L0:List (List Row),(L0=[]\/L0=[[]])/\pv (CV (d+2)) (.bin .mul (.lst [(.tup [])]) (.call 2 [(.v 0),(.c (.int 2))])) [some .drw,some (spV p n),some (Za []),none,none,none] s=.ok (.lst (L0.map Za)) s1:=by
  have e0:pv (CV (d+2)) (.lst [(.tup [])]) [some .drw,some (spV p n),some (Za []),none,none,none] s=.ok (.lst [.tup []]) s:=by simp[pvE]
  have e1:pv (CV (d+2)) (.call 2 [(.v 0),(.c (.int 2))]) [some .drw,some (spV p n),some (Za []),none,none,none] s=.ok (.int v) s1:=Zk (Zd (Zf rfl) (Zd (by rw[pv];rfl) Zi)) f1
  have hv:v=0\/v=1:=by omega
  rcases hv with rfl | rfl
  ·exact⟨[],.inl rfl,by rw[pv,e0,Zb,e1];rfl⟩
  ·exact⟨[[]],.inr rfl,by rw[pv,e0,Zb,e1];rfl⟩
 obtain⟨L0,h0,e3⟩:=h0
 let I:List Nat->Env->Prop:=λl ρ=>∃cur found a4 a5,ρ=(che p n cur found a4 a5)/\Ch p n cur found/\found.length+l.length<=20
 have c0:Ch p n [] L0:=by
  rcases h0 with rfl | rfl
  ·exact⟨pZ.nil,λ_ h=>(by cases h),λ_ h=>(by cases h),List.Pairwise.nil⟩
  ·exact⟨pZ.nil,λX h=>(by rw[PL.mp h];exact pZ.nil),λX h=>(by rw[PL.mp h];rfl),Kf ..⟩
 have g2:pv (CV (d+2)) (.bin .mul (.c (.int 2)) (.ix (.v 1) (.c (.int 1)))) (hide [3] (che p n [] L0 none none)) s1=.ok (.int ((2*n:Nat):Int)) s1:=by
  have q1:pv (CV (d+2)) (.ix (.v 1) (.c (.int 1))) (hide [3] (che p n [] L0 none none)) s1=.ok (.int n) s1:=ix1 rfl;have q0:pv (CV (d+2)) (.c (.int 2)) (hide [3] (che p n [] L0 none none)) s1=.ok (.int 2) s1:=by rw[pv];rfl
  have u1:=Zx (a:=(2:Int)) (by omega) (by omega)
  have u2:=Zx (a:=(n:Int)) (by omega) (by omega)
  rw[pv,q0,Zb,q1,Zb];show (if (fits 2&&fits (n:Int))=true then PR.ok (V.int (2*n)) s1 else .no)=_
  rw[u1,u2];show PR.ok (V.int (2*(n:Int))) s1=.ok (V.int ((2*n:Nat):Int)) s1;rw[show ((2*n:Nat):Int)=2*(n:Int) by omega]
 obtain⟨ρ',s',hI,e⟩:=ZaX (C:=CV (d+2)) (ms:=[3]) (os:=[3]) (t:=[4]) (it:=.rng1 (.bin .mul (.c (.int 2)) (.ix (.v 1) (.c (.int 1))))) (b:=[.asg [5] (.call 5 [(.v 1),(.bin .add (.v 2) (.tup [(.call 6 [(.v 0),(.v 1)])]))]),
  .ite (.cmp .gt (.blt .len [(.v 5)]) (.blt .len [(.v 2)])) [.asg [2] (.v 5),
  .ite (.cmp .gt (.call 2 [(.v 0),(.c (.int 3))]) (.c (.int 0))) [.ex (.mt .append (.v 3) [(.v 2)])] []] []]) (L:=List.range (2*n)) (e:=Zh) (s:=s1) (ρ:=(che p n [] L0 none none)) I
  (Yz g2 (by omega)) ⟨[],L0,none,none,rfl,c0,by rw[PU];rcases h0 with rfl | rfl <;> simp <;> omega⟩ rfl (λx l ρ s hx=>by
   obtain⟨cur,found,a4,a5,rfl,hC,hl⟩:=hx;rw[PC] at hl;have hcl:=XY hC.part;obtain⟨r,s2,r1,r2⟩:=UQ (p:=p) (n:=n) d s hn;obtain⟨more,m1,m2,m3⟩:=Uh (p:=p) (n:=n) d (R:=cur++[r]) (v:=.tup ((cur++[r]).map Ze)) s2 hn (λq hq=>by
    rcases Nd.mp hq with hq | hq
    ·exact hC.part.row q hq
    ·rw[PL.mp hq];exact r2) (by rw[PD,P1];omega) rfl
   have hi:inB p cur more=true:=Pw.mpr λq hq=>m3 q (Nc _ hq)
   refine⟨rfl,(che p n cur found (some (Zh x)) a5),?_⟩;have e5:pv (CV (d+2)) (.call 5 [(.v 1),(.bin .add (.v 2) (.tup [(.call 6 [(.v 0),(.v 1)])]))]) (hide [3] (che p n cur found (some (Zh x)) a5)) s=.ok (Za more) s2:=by
    have t1:pv (CV (d+2)) (.tup [(.call 6 [(.v 0),(.v 1)])]) (hide [3] (che p n cur found (some (Zh x)) a5)) s=.ok (.tup [Ze r]) s2:=by
     rw[pv,Zd (Zk (Zd (Zf (v:=.drw) rfl) (Zd (Zf (v:=spV p n) rfl) Zi)) r1) Zi];rfl
    have t2:pv (CV (d+2)) (.bin .add (.v 2) (.tup [(.call 6 [(.v 0),(.v 1)])])) (hide [3] (che p n cur found (some (Zh x)) a5)) s=.ok (.tup ((cur++[r]).map Ze)) s2:=by
     rw[pv,Zf (v:=Za cur) rfl,Zb,t1,Zb];show (if (cur.map Ze).length+[Ze r].length<=lim then PR.ok (V.tup (cur.map Ze++[Ze r])) s2 else .no)=_
     rw[Ph (by rw[Pl,P1];unfold lim;omega),Nq];rfl
    exact Zk (Zd (Zf rfl) (Zd t2 Zi)) m1
   rw[Zg (Uz e5 rfl rfl)];show ∃ρ' s',_/\rvs (CV (d+2)) [3] _ (che p n cur found (some (Zh x)) (some (Za more))) [3] s2=_/\_;have t3:pv (CV (d+2)) (.cmp .gt (.blt .len [(.v 5)]) (.blt .len [(.v 2)])) (che p n cur found (some (Zh x)) (some (Za more))) s2=.ok (.bl (decide ((cur.length:Int)<more.length))) s2:=gt_int (Ya (Zf rfl)) (Ya (Zf rfl));by_cases c:cur.length<more.length
   ·rw[PJ (by omega)] at t3
    obtain⟨w,s3,w1,w2,w3⟩:=UP (F:=fns) (tk:=2) (d:=d+1) (m:=3) s2 (by omega) (by omega)
    have e2:pv (CV (d+2)) (.v 5) (hide [3] (che p n cur found (some (Zh x)) (some (Za more)))) s2=.ok (Za more) s2:=Zf rfl;have t4:pv (CV (d+2)) (.cmp .gt (.call 2 [(.v 0),(.c (.int 3))]) (.c (.int 0))) (che p n more found (some (Zh x)) (some (Za more))) s2=.ok (.bl (decide (0<w))) s3:=
     gt_int (Zk (Zd (Zf rfl) (Zd (by rw[pv];rfl) Zi)) w1) (by rw[pv];rfl)
    by_cases c2:0<w
    ·rw[PJ c2] at t4
     have e6:rv (CV (d+2)) [3] (.ex (.mt .append (.v 3) [(.v 2)])) (che p n more found (some (Zh x)) (some (Za more))) [3] s3=.ok (.nx (che p n more (found++[more]) (some (Zh x)) (some (Za more))) [3]) s3:=by
      rw[rv,Ph (by rfl)]
      show (PR.ok (found.map Za) s3).bind _=_;rw[Zb,Zf (v:=Za more) rfl,Zb];show (if V.flat (Za more)=true/\(found.map Za).length<lim then _ else _)=_
      rw[Ph ⟨Xq more,by rw[Pl];unfold lim;omega⟩]
      simp only[che,Nq];rfl
     refine⟨(che p n more (found++[more]) (some (Zh x)) (some (Za more))),s3,rfl,?_,more,found++[more],_,_,rfl,hC.put m2 hi c,by rw[PD,P1];omega⟩
     rw[Zg ((Wl (XD t3 rfl)).trans (by
      rw[Ph rfl,Zg (Uz e2 rfl rfl)];show rvs (CV (d+2)) [3] _ (che p n more found (some (Zh x)) (some (Za more))) [3] s2=_;rw[Zg ((Wl (XD t4 rfl)).trans (by rw[Ph rfl,Zg e6,rvs])),rvs])),rvs]
    ·rw[PX c2] at t4
     refine⟨(che p n more found (some (Zh x)) (some (Za more))),s3,rfl,?_,more,found,_,_,rfl,hC.more m2 hi,by omega⟩
     rw[Zg ((Wl (XD t3 rfl)).trans (by
      rw[Ph rfl,Zg (Uz e2 rfl rfl)];show rvs (CV (d+2)) [3] _ (che p n more found (some (Zh x)) (some (Za more))) [3] s2=_;rw[Zg ((Wl (XD t4 rfl)).trans (by rw[Pj (by simp),rvs])),rvs])),rvs]
   ·rw[PX (by omega)] at t3
    refine⟨(che p n cur found (some (Zh x)) (some (Za more))),s2,rfl,?_,cur,found,_,_,rfl,hC,by omega⟩
    rw[Zg ((Wl (XD t3 rfl)).trans (by rw[Pj (by simp),rvs])),rvs])
 obtain⟨cur,found,a4,a5,rfl,hC,hl⟩:=hI;refine⟨found,s',Zn (fn:=Y3) rfl (by decide) rfl ?_,hC.parts,hC.up,by rw[List.length_nil] at hl;omega⟩
 show rvs (CV (d+2)) [3] Y3.body [some .drw,some (spV p n),none,none,none,none] [] s=_
 dsimp only[Y3]
 rw[Zg (ρ':=[some .drw,some (spV p n),some (Za []),none,none,none]) (os':=[]) (s':=s) (by simp[pvE,Za])]
 rw[Zg (ρ':=(che p n [] L0 none none)) (os':=[3]) (s':=s1) (by
  rw[rv];show (pv (CV (d+2)) _ _ s).bind _=_;rw[e3,Zb,Ph (by rfl)]
  show (if ZB (L0.map Za)=true/\3<6 then _ else _)=_
  rw[Ph ⟨Ws L0,by omega⟩];rfl)]
 rw[Zg e];exact Zv (ZL (by rw[pv,Zd (Zf (v:=.lst (found.map Za)) rfl) Zi];rfl))
end
section
variable {C:Zu}{ρ:Env}{s:DS}{a b x:E}
theorem zz {u v:Int}(h1:pv C a ρ s=.ok (.int u) s) (h2:pv C b ρ s=.ok (.int v) s):pv C (.bin .sub a b) ρ s=.ok (.int (u-v)) s:=by
 rw[pv,h1,Zb,h2,Zb];rfl
theorem JP {u v:Int}(h1:pv C a ρ s=.ok (.int u) s) (h2:pv C b ρ s=.ok (.int v) s):pv C (.cmp .eq a b) ρ s=.ok (.bl (decide (u=v))) s:=by
 rw[pv,h1,Zb,h2,Zb];rfl
theorem zR {α:Type}{e:α->V}{A:List α}(h1:pv C x ρ s=.ok (.lst (A.map e)) s):pv C (.blt .len [x]) ρ s=.ok (.int A.length) s:=by
 rw[pv,Zd h1 Zi,Zb];show po (some (V.int (A.map e).length)) s=_;rw[Pl];rfl
theorem ZaI {A:List (List Row)}(h1:pv C x ρ s=.ok (X4 A) s):pv C (.blt .len [x]) ρ s=.ok (.int A.length) s:=by
 rw[pv,Zd h1 Zi,Zb];show po (some (V.int (A.map Za).length)) s=_;rw[Pl];rfl
theorem jJ {A:List (List Row)}(h1:pv C x ρ s=.ok (.lst (A.map Za)) s):pv C (.blt .tuple [x]) ρ s=.ok (X4 A) s:=by
 rw[pv,Zd h1 Zi];rfl
theorem xU {α:Type}{l:List α}{g:α->Int}(h:pv C x ρ s=.ok (.lst (l.map λa=>.int (g a))) s) (hs:Xc (l.map g)=true):pv C (.blt .sum [x]) ρ s=.ok (.int (l.map g).sum) s:=by
 rw[pv,Zd h Zi,Zb];have e:(l.map λa=>V.int (g a))=(l.map g).map V.int:=by rw[P7];rfl
 rw[e];show po ((intsV ((l.map g).map V.int)).bind λis=>if Xc is=true then some (V.int is.sum) else none) s=_
 rw[VS];show po (if Xc (l.map g)=true then some (V.int (l.map g).sum) else none) s=_
 rw[Ph hs];rfl
theorem Zav {u v:Nat}(h1:pv C a ρ s=.ok (Zh u) s) (h2:pv C b ρ s=.ok (Zh v) s):pv C (.cmp .le a b) ρ s=.ok (.bl (decide (u<=v))) s:=by
 rw[pv,h1,Zb,h2,Zb];show PR.ok (V.bl (decide ((u:Int)<=v))) s=_;rw[show decide ((u:Int)<=v)=decide (u<=v) from K0.mpr ⟨λh=>by omega,λh=>by omega⟩]
theorem Zct {c:Bool}(h1:pv C a ρ s=.ok (.bl c) s) (h2:c=false->pv C b ρ s=.ok (.bl true) s):pv C (.or a b) ρ s=.ok (.bl true) s:=by
 rw[pv,h1];cases c
 ·exact h2 rfl
 ·rfl
theorem wD {u v:Int}(h1:pv C a ρ s=.ok (.int u) s) (h2:pv C b ρ s=.ok (.int v) s) (h:u=v):pv C (.cmp .eq a b) ρ s=.ok (.bl true) s:=by
 rw[JP h1 h2,PJ h]
theorem jF {u v:Nat}(f1:fits (u:Int)=true) (f2:fits (v:Int)=true) (h1:pv C a ρ s=.ok (.int u) s) (h2:pv C b ρ s=.ok (.int v) s):pv C (.bin .mul a b) ρ s=.ok (.int ((u*v:Nat):Int)) s:=by
 rw[pv,h1,Zb,h2,Zb];show (if (fits (u:Int)&&fits (v:Int))=true then PR.ok (V.int ((u:Int)*v)) s else .no)=_
 rw[f1,f2,Int.natCast_mul];rfl
theorem Za5 {u v:Nat}(h1:pv C a ρ s=.ok (.int u) s) (h2:pv C b ρ s=.ok (.int v) s):pv C (.bin .add a b) ρ s=.ok (.int ((u+v:Nat):Int)) s:=by
 rw[Xh h1 h2,Int.natCast_add]
theorem Zdy {u:Nat}(hu:u<=6) (h1:pv C a ρ s=.ok (.int ((u:Int)+1)) s):pv C (.blt .rangeT [a]) ρ s=.ok (.tup (Yj 0 (u+1))) s:=by
 rw[pv,Zd h1 Zi,Zb];show po (if few ((u:Int)+1)=true then some (V.tup (Yj 0 ((u:Int)+1).toNat)) else none) s=_
 rw[Ph (show few ((u:Int)+1)=true from PJ (by omega))]
 rfl
theorem tup1 {u:V}(h1:pv C a ρ s=.ok u s):pv C (.tup [a]) ρ s=.ok (.tup [u]) s:=by
 rw[pv,Zd h1 Zi];rfl
theorem tup2 {u v:V}(h1:pv C a ρ s=.ok u s) (h2:pv C b ρ s=.ok v s):pv C (.tup [a,b]) ρ s=.ok (.tup [u,v]) s:=by
 rw[pv,Zd h1 (Zd h2 Zi)];rfl
theorem Wb {i:Int}:pv C (.c (.int i)) ρ s=.ok (.int i) s:=by rw[pv];rfl
theorem Zaw {z:Nat}{X:List Row}(h1:pv C x ρ s=.ok (Za X) s) (h2:pv C b ρ s=.ok (Zh z) s):pv C (.cmp .eq (.blt .len [x]) b) ρ s=.ok (.bl (decide (X.length=z))) s:=by
 rw[JP (Ya h1) h2]
 congr 2
 exact K0.mpr ⟨λh=>by omega,λh=>by omega⟩
end
section
variable {p n:Nat}[Base p]
theorem wB {C:Zu}{ρ:Env}{s:DS}{x:E}{i:Nat}{B:List (List Row)}{z:Nat}(h1:pv C x ρ s=.ok (.lst (B.map Za)) s) (hc:Z9 [i] 1 ρ=[none,some (Zh z)]) (hB:B.length<=100000):pv C (.blt .len [(.comp1 [i] 1 [0] (.of x) [(.cmp .eq (.blt .len [(.v 0)]) (.v 1))] (.v 0))]) ρ s=.ok (.int (B.filter λX=>decide (X.length=z)).length) s:=by
 have c1:=Yb (C:=C) (cap:=[i]) (nl:=1) (t:=[0]) (it:=.of x) (tst:=.cmp .eq (.blt .len [(.v 0)]) (.v 1)) (elt:=.v 0) (ρ:=ρ) (s:=s) (l:=B) (e:=Za) (g:=Za) (q:=λX=>decide (X.length=z))
  (by rw[pvw,h1];rfl) (by unfold lim;omega) (λX hX=>⟨[some (Za X),some (Zh z)],.bl (decide (X.length=z)),by rw[hc];rfl,Zaw (Zf rfl) (Zf rfl),rfl,λ_=>Zf rfl⟩)
 exact zR c1
theorem wg {P Q:List Row}(hl:∀j,j<=n->(Z4 p n j).length<=1395) (hn:n<=6) (hQ:Q.length<=n):(Vc p n P Q).length<=100000:=by
 have:∀L:List Nat,(∀i∈L,P.length+i<=n)->(L.flatMap λi=>((Z4 p n (P.length+i)).filter λX=>inB p P X).filter λX=>inB p X Q).length<=1395*L.length:=λL=>by
  induction L with
  |nil=>intro _;simp
  |cons x L ih=>
   intro h;rw[List.flatMap_cons,PD,PC];have h1:=ih λi hi=>h i (Pc _ hi)
   have h2:=ZdK (p:=p) (n:=n) (P:=P) (Q:=Q) x (hl _ (h x (Pe ..)));omega
 have h:=this (List.range (Q.length+1-P.length)) λi hi=>by have:=PH.mp hi;omega
 rw[PU] at h;show (List.flatMap _ _).length<=_;exact P4 h (by omega)
theorem W4 (d:Nat) {P Q:List Row}(s:DS) (ht:(p,n)∈YY) (hn:n<=6) (hl:∀j,j<=n->(Z4 p n j).length<=1395) (hP:pZ p n P) (hQ:pZ p n Q) (hi:inB p P Q=true):CV (d+8) 40 [spV p n,Za P,Za Q] s=.ok (.bl true) s:=by
 refine Zn (fn:=ZX) rfl (by decide) rfl ?_
 show rvs (CV (d+7)) [] ZX.body [some (spV p n),some (Za P),some (Za Q),none,none,none,none] [] s=_
 dsimp only[ZX]
 have hz:Q.length<=n:=XY hQ;have hz2:P.length<=n:=XY hP;have hz3:P.length<=Q.length:=wo hP hQ hi;obtain⟨k1,k2,k3,k4,k5⟩:=j8 ht hP hQ hi;have hB:=wg (p:=p) (n:=n) (P:=P) (Q:=Q) hl hn hz;have hm:∀X∈Vc p n P Q,pZ p n X/\inB p P X=true/\inB p X Q=true:=λX hX=>ZaT hX
 rw[Zg (ZN (Yk (Zf rfl) (Zf rfl) (Zf rfl) (wf (d+1) s hn hl hP hQ hi)) rfl)];show rvs (CV (d+7)) [] _ [some (spV p n),some (Za P),some (Za Q),some (.lst ((Vc p n P Q).map Za)),none,none,none] [] s=_;generalize Vc p n P Q=B at k1 k2 k3 k4 k5 hB hm ⊢;rw[Zg (ZN (zz (Ya (P:=Q) (Zf rfl)) (Ya (P:=P) (Zf rfl))) rfl)]
 let ρ:Option V->Option V->Env:=λa5 a6=>[some (spV p n),some (Za P),some (Za Q),some (.lst (B.map Za)),some (.int ((Q.length:Int)-P.length)),a5,a6]
 show rvs (CV (d+7)) [] _ (ρ none none) [] s=_;obtain⟨ρ',hI,e⟩:=GA (C:=CV (d+7)) (ms:=[]) (t:=[5]) (it:=.rng1 (.bin .add (.ix (.v 0) (.c (.int 1))) (.c (.int 1)))) (b:=[.asg [6] (.ite (.chain .le .le (.blt .len [(.v 1)]) (.v 5) (.blt .len [(.v 2)])) (.call 30 [(.ix (.v 0) (.c (.int 0))),(.v 4),(.bin .sub (.v 5) (.blt .len [(.v 1)]))]) (.c (.int 0))),
  .ite (.cmp .ne (.blt .len [(.comp1 [5] 1 [0] (.of (.v 3)) [(.cmp .eq (.blt .len [(.v 0)]) (.v 1))] (.v 0))]) (.v 6)) [.ret (.c (.bl false))] []]) (L:=List.range (n+1)) (e:=Zh) (os:=[]) (s:=s) (ρ:=ρ none none) (λl r=>(∃a5 a6,r=ρ a5 a6)/\∀z∈l,z<=n)
  (Yz (n:=n+1) (Xh (x:=n) (y:=1) (ix1 rfl) Wb) (by omega)) ⟨⟨none,none,rfl⟩,λz hz=>by have:=PH.mp hz;omega⟩ rfl (λz l r hx=>by
   obtain⟨⟨a5,a6,rfl⟩,hl'⟩:=hx;have hzn:=hl' z (Pe ..);refine⟨rfl,ρ (some (Zh z)) a6,ρ (some (Zh z)) (some (.int (vU p P.length Q.length z))),rfl,?_,⟨_,_,rfl⟩,λy hy=>hl' y (Pc _ hy)⟩
   have e6:pv (CV (d+7)) (.ite (.chain .le .le (.blt .len [(.v 1)]) (.v 5) (.blt .len [(.v 2)])) (.call 30 [(.ix (.v 0) (.c (.int 0))),(.v 4),(.bin .sub (.v 5) (.blt .len [(.v 1)]))]) (.c (.int 0))) (ρ (some (Zh z)) a6) s=.ok (.int (vU p P.length Q.length z)) s:=by
    have q1:pv (CV (d+7)) (.blt .len [(.v 1)]) (ρ (some (Zh z)) a6) s=.ok (.int P.length) s:=Ya (Zf rfl);have q2:pv (CV (d+7)) (.blt .len [(.v 2)]) (ρ (some (Zh z)) a6) s=.ok (.int Q.length) s:=Ya (Zf rfl);have q3:pv (CV (d+7)) (.v 5) (ρ (some (Zh z)) a6) s=.ok (.int z) s:=Zf rfl;have q4:pv (CV (d+7)) (.chain .le .le (.blt .len [(.v 1)]) (.v 5) (.blt .len [(.v 2)])) (ρ (some (Zh z)) a6) s=.ok (.bl (decide (P.length<=z/\z<=Q.length))) s:=by
     rw[pv,q1,Zb,q3,Zb,show po (Wv .le (.int P.length) (.int z)) s=.ok (.bl (decide ((P.length:Int)<=z))) s from rfl,Zb]
     by_cases c1:P.length<=z
     ·rw[PJ (by omega:(P.length:Int)<=z)]
      dsimp only
      rw[Ph rfl,q2,Zb];show PR.ok (V.bl (decide ((z:Int)<=Q.length))) s=_
      congr 2
      exact K0.mpr ⟨λh=>⟨c1,by omega⟩,λh=>by omega⟩
     ·rw[PX (by omega:¬(P.length:Int)<=z),PX (λh=>c1 h.1)]
      rfl
    rw[pv,q4,Zb];unfold vU;by_cases c:P.length<=z/\z<=Q.length
    ·rw[PJ c,Ph c,show po (Z6 (V.bl true)) s=PR.ok true s from rfl,Zb,Ph rfl]
     refine Yk (v:=.int p) (w:=.int ((Q.length-P.length:Nat):Int)) (u:=.int ((z-P.length:Nat):Int)) (ix0 rfl) ?_ ?_ (xx (d+4) s ht (by omega) (by omega))
     ·rw[show ((Q.length-P.length:Nat):Int)=(Q.length:Int)-P.length by omega];exact Zf rfl
     ·rw[show ((z-P.length:Nat):Int)=(z:Int)-P.length by omega];exact zz q3 q1
    ·rw[PX c,Pj c,show po (Z6 (V.bl false)) s=PR.ok false s from rfl,Zb,Pj (by simp)]
     exact Wb
   rw[Zg (ZN e6 rfl)];show rvs (CV (d+7)) [] _ (ρ (some (Zh z)) (some (.int (vU p P.length Q.length z)))) [] s=_;rw[guard (ne_int (wB (B:=B) (z:=z) (Zf rfl) rfl hB) (Zf rfl) (by rw[k1 z hzn])),rvs])
 obtain⟨⟨a5,a6,rfl⟩,_⟩:=hI;rw[Zg e];have c1:=Zt (C:=CV (d+7)) (cap:=[0,1,2]) (nl:=1) (t:=[0]) (it:=.of (.v 3)) (elt:=.and (.call 39 [(.v 1),(.v 2),(.v 0)]) (.call 39 [(.v 1),(.v 0),(.v 3)])) (ρ:=ρ a5 a6) (s:=s) (l:=B) (e:=Za) (g:=λ_=>V.bl true)
  (by rw[pvw,Zf (v:=.lst (B.map Za)) rfl];rfl) (by unfold lim;omega) (λX hX=>⟨[some (Za X),some (spV p n),some (Za P),some (Za Q)],rfl,by
   obtain⟨x1,x2,x3⟩:=hm X hX;have y1:=xK (p:=p) (d+1) s hn hP x1;have y2:=xK (p:=p) (d+1) s hn x1 hQ;rw[show P.all (YD p X)=true from x2] at y1
   rw[show X.all (YD p Q)=true from x3] at y2
   exact uS (Yk (Zf rfl) (Zf rfl) (Zf rfl) y1) (Yk (Zf rfl) (Zf rfl) (Zf rfl) y2)⟩)
 have b1:=GO (g:=λ_:List Row=>true) c1
 rw[show (B.all λ_=>true)=true by simp] at b1
 rw[guard (Vd b1)];have t4:pv (CV (d+7)) (.blt .toInt [(.cmp .eq (.v 4) (.c (.int 0)))]) (ρ a5 a6) s=.ok (.int (if Q.length-P.length=0 then 1 else 0)) s:=by
  have u1:pv (CV (d+7)) (.cmp .eq (.v 4) (.c (.int 0))) (ρ a5 a6) s=.ok (.bl (decide ((Q.length:Int)-P.length=0))) s:=JP (Zf rfl) Wb;rw[pv,Zd u1 Zi,Zb];show PR.ok (V.int (b2i (decide ((Q.length:Int)-P.length=0)))) s=_;by_cases c:Q.length-P.length=0
  ·rw[PJ (by omega),Ph c];rfl
  ·rw[PX (by omega),Pj c];rfl
 have c2:=Zt (C:=CV (d+7)) (cap:=[0,1]) (nl:=1) (t:=[0]) (it:=.of (.v 3)) (elt:=.call 27 [(.v 1),(.v 2),(.v 0)]) (ρ:=ρ a5 a6) (s:=s) (l:=B) (e:=Za) (g:=λX=>V.int (muI p (X.length-P.length)).1)
  (by rw[pvw,Zf (v:=.lst (B.map Za)) rfl];rfl) (by unfold lim;omega) (λX hX=>⟨[some (Za X),some (spV p n),some (Za P)],rfl,Yk (Zf rfl) (Zf rfl) (Zf rfl) (mark (d+1) s hn hP (hm X hX).1 (hm X hX).2.1)⟩)
 rw[guard (ne_int (xU c2 k3) t4 k2)];have c3:=Zt (C:=CV (d+7)) (cap:=[0,2]) (nl:=1) (t:=[0]) (it:=.of (.v 3)) (elt:=.call 27 [(.v 1),(.v 0),(.v 2)]) (ρ:=ρ a5 a6) (s:=s) (l:=B) (e:=Za) (g:=λX=>V.int (muI p (Q.length-X.length)).1)
  (by rw[pvw,Zf (v:=.lst (B.map Za)) rfl];rfl) (by unfold lim;omega) (λX hX=>⟨[some (Za X),some (spV p n),some (Za Q)],rfl,Yk (Zf rfl) (Zf rfl) (Zf rfl) (mark (d+1) s hn (hm X hX).1 hQ (hm X hX).2.2)⟩)
 rw[guard (ne_int (xU c3 k5) t4 k4)];have hj:inB p (Z1 p n Q) (Z1 p n P)=true:=by
  unfold inB;rw[<-QX hP hQ];exact hi
 exact Zv (ZL (wD (Yk (Zf rfl) (Xx (Zf rfl) (Zf rfl) (WQ d s hn hQ)) (Xx (Zf rfl) (Zf rfl) (WQ d s hn hP)) (mark (d+1) s hn (pP hQ) (pP hP) hj)) (Yk (Zf rfl) (Zf rfl) (Zf rfl) (mark (d+1) s hn hP hQ hi)) (by
  rw[show (Z1 p n P).length-(Z1 p n Q).length=Q.length-P.length by have:=Qa hP;have:=Qa hQ;omega])))
theorem JA {α:Type}(f:α->Nat):∀(l:List α) (a:Nat),l.foldl (λst x=>st+f x) a=a+(l.map f).sum
 |[],a=>by simp
 |x::l,a=>by rw[List.foldl_cons,JA f l,PP,List.sum_cons,Nat.add_assoc]
theorem vi:(YY.all λq=>(List.range (q.2+1)).all λi=>decide (Xl q.1 i<1000000)&&decide (Xm q.1 (1+i) 1<1000000))=true:=by decide +kernel
theorem GC (d:Nat) {L:List (List Row)}{a b:Nat}(s:DS) (ht:(p,n)∈YY) (hn:n<=6) (hl:∀j,j<=n->(Z4 p n j).length<=1395) (hL:∀P∈L,pZ p n P) (hU:Up p L) (hz:L.length<=1000) (ha:a<=n) (hb:b<=n):CV (d+8) 44 [spV p n,X4 L,Zh a,Zh b] s=.ok (.bl true) s:=by
 refine Zn (fn:=ZZ) rfl (by decide) rfl ?_
 show rvs (CV (d+7)) [] ZZ.body [some (spV p n),some (X4 L),some (Zh a),some (Zh b),none,none,none,none,none,none,none,none] [] s=_
 dsimp only[ZZ]
 have hW:=Pw.mp wV (p,n) ht;rw[Pp,Nz,Pw] at hW;have hC:=Pw.mp (Pw.mp GY (p,n) ht) a (PH.mpr (show a<n+1 by omega))
 rw[Pp,Nz] at hC;have hWp:pZ p n (Xb p n):=(Xf n _ (by rw[show Z4 p n n=[Xb p n] from hW.1];exact PL.mpr rfl)).1
 let ρ:Option V->Option V->Option V->Option V->Option V->Option V->Option V->Option V->Env:=λa4 a5 a6 a7 a8 a9 a10 a11=>[some (spV p n),some (X4 L),some (Zh a),some (Zh b),a4,a5,a6,a7,a8,a9,a10,a11]
 show rvs (CV (d+7)) [] _ (ρ none none none none none none none none) [] s=_;obtain⟨ρ',hI,e⟩:=GA (C:=CV (d+7)) (ms:=[]) (t:=[4]) (it:=.rng1 (.bin .add (.blt .len [(.v 1)]) (.c (.int 1)))) (b:=[.ite (.or (.cmp .isn (.call 43 [(.v 0),(.sl (.v 1) none (some (.v 4)))]) (.c (.bl true))) (.cmp .isn (.call 43 [(.v 0),(.sl (.v 1) (some (.v 4)) none)]) (.c (.bl true)))) [.ret (.c (.bl false))] []]) (L:=List.range (L.length+1)) (e:=Zh) (os:=[]) (s:=s) (ρ:=ρ none none none none none none none none) (λl r=>(∃a4,r=ρ a4 none none none none none none none)/\∀z∈l,z<=L.length)
  (Yz (n:=L.length+1) (Xh (x:=L.length) (y:=1) (ZaI (Zf rfl)) Wb) (by omega)) ⟨⟨none,rfl⟩,λz hz=>by have:=PH.mp hz;omega⟩ rfl (λz l r hx=>by
   obtain⟨⟨a4,rfl⟩,hl'⟩:=hx;have hzn:=hl' z (Pe ..);refine⟨rfl,ρ (some (Zh z)) none none none none none none none,ρ (some (Zh z)) none none none none none none none,rfl,?_,⟨_,rfl⟩,λy hy=>hl' y (Pc _ hy)⟩
   have e1:Xk (L.map Za) none (some (z:Int))=(L.take z).map Za:=by rw[uL (by rw[Pl];omega),List.map_take]
   have e2:Xk (L.map Za) (some (z:Int)) none=(L.drop z).map Za:=by rw[U5 rfl (by rw[Pl];omega),List.map_drop]
   have g1:pv (CV (d+7)) (.sl (.v 1) none (some (.v 4))) (ρ (some (Zh z)) none none none none none none none) s=.ok (X4 (L.take z)) s:=by simp[pvE,ρ,slV,e1,Zh]
   have g2:pv (CV (d+7)) (.sl (.v 1) (some (.v 4)) none) (ρ (some (Zh z)) none none none none none none none) s=.ok (X4 (L.drop z)) s:=by simp[pvE,ρ,slV,e2,Zh]
   rw[guard (Zbv (UX (Xx (Zf rfl) g1 (Qf (d+1) s hn (λP hP=>hL P (List.mem_of_mem_take hP)) (hU.sublist (List.take_sublist ..)) (by rw[NA];omega)))) (UX (Xx (Zf rfl) g2 (Qf (d+1) s hn (λP hP=>hL P (List.mem_of_mem_drop hP)) (hU.sublist (List.drop_sublist ..)) (by rw[Nr];omega))))),rvs])
 obtain⟨⟨a4,rfl⟩,_⟩:=hI;rw[Zg e];have hr:pv (CV (d+7)) (.rev (.v 1)) (ρ a4 none none none none none none none) s=.ok (X4 L.reverse) s:=by
  rw[pv,Zf (v:=X4 L) rfl,Zb];show PR.ok (V.tup (L.map Za).reverse) s=_;rw[<-Ko]
 have c5:=Zt (C:=CV (d+7)) (cap:=[0]) (nl:=1) (t:=[0]) (it:=.of (.rev (.v 1))) (elt:=.call 38 [(.v 1),(.v 0)]) (ρ:=ρ a4 none none none none none none none) (s:=s) (l:=L.reverse) (e:=Za) (g:=λP=>Za (Z1 p n P))
  (by rw[pvw,hr];rfl) (by rw[List.length_reverse];unfold lim;omega) (λP hP=>⟨[some (Za P),some (spV p n)],rfl,Xx (Zf rfl) (Zf rfl) (WQ d s hn (hL P (List.mem_reverse.mp hP)))⟩)
 rw[show (L.reverse.map λP=>Za (Z1 p n P))=(L.reverse.map (Z1 p n)).map Za by rw[P7];rfl] at c5
 rw[Zg (ZN (jJ c5) rfl)];show rvs (CV (d+7)) [] _ (ρ a4 (some (X4 (L.reverse.map (Z1 p n)))) none none none none none none) [] s=_;rw[guard (UX (Xx (Zf rfl) (Zf rfl) (Qf (d+1) s hn (λP hP=>by
  obtain⟨Q,hQ,rfl⟩:=Py.mp hP;exact pP (hL Q (List.mem_reverse.mp hQ))) (jQ hL hU) (by rw[Pl,List.length_reverse];omega))))]
 generalize some (X4 (L.reverse.map (Z1 p n)))=a5;rw[guard (ne_int (x:=Xm p n a) (Xx (Zf rfl) (tup1 (Zf rfl)) (ue (d+3) s ht ha)) (zR (Xx (Zf rfl) (Zf rfl) (WI (d+4) s hn ha hl))) (by rw[hC.1]))]
 rw[Zg (ZN (Xx (Zf rfl) (Zdy (by omega) (Xh (x:=n) (y:=1) (ix1 rfl) Wb)) (ZbM _ ht (d+3) s)) rfl)]
 show rvs (CV (d+7)) [] _ (ρ a4 a5 (some (.int (Xl p n))) none none none none none) [] s=_;rw[Zg (ZN Wb rfl)];show rvs (CV (d+7)) [] _ (ρ a4 a5 (some (.int (Xl p n))) (some (.int (Xl p 0))) none none none none) [] s=_;obtain⟨o8,hI,e⟩:=X2 (C:=CV (d+7)) (ms:=[]) (t:=[8]) (it:=.rng2 (.c (.int 1)) (.bin .add (.ix (.v 0) (.c (.int 1))) (.c (.int 1)))) (b:=[.asg [7] (.bin .mul (.v 7) (.call 30 [(.ix (.v 0) (.c (.int 0))),(.v 8),(.c (.int 1))]))]) (L:=List.range n) (e:=λk=>Zh (1+k)) (step:=λ(w:Nat) k=>w*Xm p (1+k) 1) (ρ:=λw o=>ρ a4 a5 (some (.int (Xl p n))) (some (.int w)) o none none none) (st:=Xl p 0) (o:=none) (os:=[]) (s:=s) (λl w=>∃i,l=(List.range n).drop i/\i<=n/\w=Xl p i)
  (Vj (i:=1) (j:=n+1) Wb (Xh (x:=n) (y:=1) (ix1 rfl) Wb) (by omega) (by omega)) ⟨0,rfl,by omega,rfl⟩ rfl (λk l w o hst=>by
  obtain⟨i,h1,h2,rfl⟩:=hst;obtain⟨rfl,hj,h3⟩:=QL h1;have hd:=Pw.mp (Pw.mp vi (p,n) ht) k (PH.mpr (show k<n+1 by omega))
  rw[Pp,Nz,Nz] at hd;have hd1:Xl p k<1000000:=hd.1;have hd2:Xm p (1+k) 1<1000000:=hd.2;have f1:=Zx (a:=(Xl p k:Int)) (by omega) (by omega)
  have f2:=Zx (a:=(Xm p (1+k) 1:Int)) (by omega) (by omega)
  have hs:Xl p k*Xm p (1+k) 1=Xl p (k+1):=by
   unfold Xl;rw[List.range_succ,List.foldl_append];rfl
  refine⟨⟨k+1,h3,by omega,hs⟩,rfl,_,some (Zh (1+k)),rfl,?_⟩
  show rvs _ _ _ (ρ a4 a5 (some (.int (Xl p n))) (some (.int (Xl p k))) (some (Zh (1+k))) none none none) [] s=_;rw[Zg (ZN (jF f1 f2 (Zf rfl) (Yk (ix0 rfl) (Zf rfl) (show pv _ (.c (.int 1)) _ _=_ from Wb) (xx (d+4) (m:=1+k) (k:=1) s ht (by omega) (by omega)))) rfl),rvs];rfl)
 have e7:(List.range n).foldl (λ(w:Nat) k=>w*Xm p (1+k) 1) (Xl p 0)=Xl p n:=rfl
 rw[e7] at e;rw[Zg e];rw[guard (ne_int (x:=Xl p n) (y:=Xl p n) (Zf rfl) (Zf rfl) rfl)];rw[Zg (ZN Wb rfl)];show rvs (CV (d+7)) [] _ (ρ a4 a5 (some (.int (Xl p n))) (some (.int (Xl p n))) o8 (some (.int ((0:Nat):Int))) none none) [] s=_;generalize some (V.int (Xl p n))=a6;have g3:=WI (p:=p) (n:=n) (k:=n) (d+4) s hn (by omega) hl
 rw[show Z4 p n n=[Xb p n] from hW.1] at g3
 rw[Zg (ZN (Vv (Xx (Zf rfl) (ix1 rfl) g3)) rfl)];show rvs (CV (d+7)) [] _ (ρ a4 a5 a6 a6 o8 (some (.int ((0:Nat):Int))) (some (Za (Xb p n))) none) [] s=_;obtain⟨o11,hI,e⟩:=X2 (C:=CV (d+7)) (ms:=[]) (t:=[11]) (it:=.of (.call 25 [(.v 0),(.v 2)])) (b:=[.asg [9] (.bin .add (.v 9) (.blt .len [(.comp1 [3] 1 [0] (.of (.call 26 [(.v 0),(.v 11),(.v 10)])) [(.cmp .eq (.blt .len [(.v 0)]) (.v 1))] (.v 0))]))]) (L:=Z4 p n a) (e:=Za) (step:=λ(w:Nat) P=>w+((Vc p n P (Xb p n)).filter λX=>decide (X.length=b)).length) (ρ:=λw o=>ρ a4 a5 a6 a6 o8 (some (.int w)) (some (Za (Xb p n))) o) (st:=0) (o:=none) (os:=[]) (s:=s) (λl w=>∀P∈l,pZ p n P)
  (by rw[pvw,Xx (v:=spV p n) (w:=Zh a) (Zf rfl) (Zf rfl) (WI (d+4) s hn ha hl)];rfl) (λP hP=>(Xf a P hP).1) rfl (λP l w o hst=>by
  have hP:=hst P (Pe ..);refine⟨λQ hQ=>hst Q (Pc _ hQ),rfl,_,some (Za P),rfl,?_⟩
  have hi:inB p P (Xb p n)=true:=hW.2 P (yo hP);show rvs _ _ _ (ρ a4 a5 a6 a6 o8 (some (.int w)) (some (Za (Xb p n))) (some (Za P))) [] s=_;rw[Zg (ZN (Za5 (Zf rfl) (wB (i:=3) (z:=b) (Yk (Zf rfl) (Zf rfl) (Zf rfl) (wf (d+1) s hn hl hP hWp hi)) rfl (wg hl hn (XY hWp)))) rfl),rvs];rfl)
 rw[JA,Nat.zero_add] at e;rw[Zg e];refine Zv (ZL (Zct (Zav (Zf rfl) (Zf rfl)) λc=>?_))
 have hS:=Pw.mp hC.2 b (PH.mpr (show b<n+1 by omega))
 rw[c,Bool.false_or,Nz] at hS;exact wD (Xx (Zf rfl) (tup2 (Zf rfl) (Zf rfl)) (uq (d+3) s ht (by have:=of_decide_eq_false c;omega) hb)) (Zf rfl) (congrArg Int.ofNat hS.symm)
end
theorem Zbc {p n:Nat}(h:(p,n)∈ZaG++jT):∀j,j<=n->(Z4 p n j).length<=1395:=λj hj=>by
 have a:=Pw.mp (Pw.mp uE (p,n) h) j (PH.mpr (by show j<n+1;omega))
 simpa using a
noncomputable def uK:List Sm:=[.asg [3] (.call 3 [(.v 2),(.c (.int 16))]),
  .par [4,5] [(.call 7 [(.v 2),(.v 3)]),(.call 7 [(.v 2),(.v 3)])],
  .ite (.not (.call 40 [(.v 3),(.v 4),(.call 45 [(.v 3),(.v 4),(.v 5)])])) [.ret (.c (.bl false))] [],
  .ite (.not (.call 40 [(.v 3),(.call 46 [(.v 3),(.v 4),(.v 5)]),(.v 5)])) [.ret (.c (.bl false))] [],
  .par [6,7] [(.call 2 [(.v 2),(.bin .add (.ix (.v 3) (.c (.int 1))) (.c (.int 1)))]),(.call 2 [(.v 2),(.bin .add (.ix (.v 3) (.c (.int 1))) (.c (.int 1)))])],
  .ite (.not (.call 44 [(.v 3),(.call 47 [(.v 2),(.v 3)]),(.v 6),(.v 7)])) [.ret (.c (.bl false))] []]
theorem xZ {C:Zu}{ms:List Nat}{ρ ρ':Env}{s s1 s2:DS}{i j:Nat}{e f:E}{u v:V}(h1:pv C e ρ s=.ok u s1) (h2:pv C f ρ s1=.ok v s2) (hf:YS [i,j] [u,v] ρ=some ρ'):rv C ms (.par [i,j] [e,f]) ρ [] s=.ok (.nx ρ' []) s2:=by
 rw[rv];show (pvs C [e,f] ρ s).bind _=_;rw[Zd h1 (Zd h2 Zi),Zb,Pj (by simp),hf];rfl
theorem jn (d:Nat) (k:Nat) (s:DS):∃ρ' os' s',rvs (CV (d+8)) [] uK (none::some (.int k)::some .drw::List.replicate 5 none) [] s=.ok (.nx ρ' os') s':=by
 unfold uK;show ∃ρ' os' s',rvs (CV (d+8)) [] _ [none,some (.int k),some .drw,none,none,none,none,none] [] s=.ok (.nx ρ' os') s';obtain⟨p,n,s1,f1,f2,f3,f4,f5,f6⟩:=wO (d+6) (m:=16) s (by omega)
 have ht:=f6 (by omega)
 have hB:Base p:=⟨f2⟩;have hl:=Zbc f5;rw[Zg (ZN (Zk (Zd (Zf rfl) (Zd Wb Zi)) f1) rfl)];show ∃ρ' os' s',rvs _ _ _ [none,some (.int k),some .drw,some (spV p n),none,none,none,none] [] s1=.ok (.nx ρ' os') s';obtain⟨P,s2,p1,hP⟩:=zC (p:=p) (n:=n) (d+5) s1 f4;obtain⟨Q,s3,p2,hQ⟩:=zC (p:=p) (n:=n) (d+5) s2 f4;rw[Zg (xZ (Zk (Zd (Zf rfl) (Zd (Zf rfl) Zi)) p1) (Zk (Zd (Zf rfl) (Zd (Zf rfl) Zi)) p2) rfl)];show ∃ρ' os' s',rvs _ _ _ [none,some (.int k),some .drw,some (spV p n),some (Za P),some (Za Q),none,none] [] s3=.ok (.nx ρ' os') s'
 rw[guard (Vd (Yk (Zf rfl) (Zf rfl) (Yk (Zf rfl) (Zf rfl) (Zf rfl) (joined (d+2) s3 f4 hP hQ)) (W4 d s3 ht f4 hl hP (pJ hP hQ) (Zal hP hQ))))];rw[guard (Vd (Yk (Zf rfl) (Yk (Zf rfl) (Zf rfl) (Zf rfl) (met d s3 f4 hP hQ)) (Zf rfl) (W4 d s3 ht f4 hl (pM hP hQ) hQ (jA hP hQ))))];obtain⟨u,s4,u1,u2,u3⟩:=UP (F:=fns) (tk:=2) (d:=d+7) (m:=(n:Int)+1) s3 (by omega) (by omega)
 obtain⟨w,s5,w1,w2,w3⟩:=UP (F:=fns) (tk:=2) (d:=d+7) (m:=(n:Int)+1) s4 (by omega) (by omega)
 obtain⟨a,rfl⟩:∃a:Nat,u=a:=⟨u.toNat,by omega⟩
 obtain⟨b,rfl⟩:∃b:Nat,w=b:=⟨w.toNat,by omega⟩
 have g:∀s,pv (CV (d+8)) (.bin .add (.ix (.v 3) (.c (.int 1))) (.c (.int 1))) [none,some (.int k),some .drw,some (spV p n),some (Za P),some (Za Q),none,none] s=.ok (.int ((n:Int)+1)) s:=λs=>Xh (ix1 rfl) Wb
 rw[Zg (xZ (Zk (Zd (Zf rfl) (Zd (g _) Zi)) u1) (Zk (Zd (Zf rfl) (Zd (g _) Zi)) w1) rfl)];show ∃ρ' os' s',rvs _ _ _ [none,some (.int k),some .drw,some (spV p n),some (Za P),some (Za Q),some (Zh a),some (Zh b)] [] s5=.ok (.nx ρ' os') s';obtain⟨L,s6,l1,l2,l3,l4⟩:=vw (p:=p) (n:=n) (d+5) s5 f4;have e9:pv (CV (d+8)) (.not (.call 44 [(.v 3),(.call 47 [(.v 2),(.v 3)]),(.v 6),(.v 7)])) [none,some (.int k),some .drw,some (spV p n),some (Za P),some (Za Q),some (Zh a),some (Zh b)] s5=.ok (.bl false) s6:=by
  rw[pv,Zk (Zd (Zf rfl) (Zd (Zk (Zd (Zf rfl) (Zd (Zf rfl) Zi)) l1) (Zd (Zf rfl) (Zd (Zf rfl) Zi)))) (GC d s6 ht f4 hl l2 l3 l4 (by omega) (by omega))]
  rfl
 rw[Zg ((Wl (XD e9 rfl)).trans (by rw[Pj (by simp),rvs])),rvs]
 exact⟨_,_,_,rfl⟩
theorem law_ok {ns:List Int}{S:Zc}(d:Nat) (hs:S[0]? = some (.scr ns)):∃S',ZH fns (d+9) 48 [.loc 0] S=.ok (.bl true) S':=
 Lw.Zco (F:=fns) (tk:=2) (ca:=0) (st:=1) (L:=48) (M:=4) (B:=uK) (m:=5) (d:=d+6) rfl rfl rfl rfl rfl (by omega) (jn d) hs
end K65
namespace K65
open PySem PySem.Spec PyProof.Rows L2 Wr Gn
open Sd (zr wb uH ja Zbl v9 qR wz wl qP ub wI Ui uN uo qh yw uU yh xH wK wq wE QZ zU wc xI qd ql)
noncomputable def top (i:Nat):Stmt:=PySem.Challenge.pw_fewspaces_k65_whole_chains_between_and_m.main.body.getD i (.Pass ⟨0,0,0,0⟩)
noncomputable abbrev r0:FR:=⟨"_law_cell_at",top 52,["_law_script","_law_k"],2⟩
noncomputable abbrev r1:FR:=⟨"_law_state",top 53,["_law_script","_law_k","_law_cell"],2⟩
noncomputable abbrev r2:FR:=⟨"_law_take",top 54,["_law_state_here","_law_many","_law_found","_law_mixed"],2⟩
noncomputable abbrev r3:FR:=⟨"_law_space",top 55,["_law_state_here","_law_most","_law_some"],2⟩
noncomputable abbrev r4:FR:=⟨"_law_plus",top 57,["_law_space_here","_law_one","_law_other","_law_often"],4⟩
noncomputable abbrev r5:FR:=⟨"_law_reduced",top 58,["_law_space_here","_law_rows","_law_rest","_law_found","_law_place","_law_fit","_law_often","_law_one"],2⟩
noncomputable abbrev r6:FR:=⟨"_law_row_of",top 56,["_law_state_here","_law_space_here"],2⟩
noncomputable abbrev r7:FR:=⟨"_law_part",top 59,["_law_state_here","_law_space_here","_law_many"],2⟩
noncomputable abbrev r8:FR:=⟨"head_of",top 10,["row","place","number"],1⟩
noncomputable abbrev r9:FR:=⟨"is_rising",top 8,["things"],1⟩
noncomputable abbrev r10:FR:=⟨"noughts_at",top 15,["rows","place"],2⟩
noncomputable abbrev r11:FR:=⟨"stands_alone",top 21,["rows","at","place"],3⟩
noncomputable abbrev r12:FR:=⟨"is_whole",top 7,["thing","least","greatest"],3⟩
noncomputable abbrev r13:FR:=⟨"is_row",top 19,["space","thing","p","n"],2⟩
noncomputable abbrev r14:FR:=⟨"is_part",top 20,["space","thing","places"],2⟩
noncomputable abbrev r15:FR:=⟨"need_part",top 23,["space","thing"],2⟩
noncomputable abbrev r16:FR:=⟨"need_parts",top 24,["space","one","other"],3⟩
noncomputable abbrev r17:FR:=⟨"plus_times",top 12,["p","row","other","number"],4⟩
noncomputable abbrev r18:FR:=⟨"cleared",top 14,["p","row","other","head"],4⟩
noncomputable abbrev r19:FR:=⟨"left_over",top 28,["space","part","row","p","n","rest","other"],3⟩
noncomputable abbrev r20:FR:=⟨"has_row",top 29,["space","part","row"],3⟩
noncomputable abbrev r21:FR:=⟨"is_within",top 45,["space","one","other"],3⟩
noncomputable abbrev r22:FR:=⟨"need_whole",top 32,["thing","least","greatest"],3⟩
noncomputable abbrev r23:FR:=⟨"rows_headed",top 36,["space","head","p","n","rows","place"],2⟩
noncomputable abbrev r24:FR:=⟨"rows_behind",top 37,["headed","part","first","rows","head"],2⟩
noncomputable abbrev r25:FR:=⟨"all_parts",top 35,["space","size","p","n","headed","parts","many"],2⟩
noncomputable abbrev r26:FR:=⟨"between",top 49,["space","one","other","found","size","parts"],3⟩
noncomputable abbrev r27:FR:=⟨"mark",top 50,["space","one","other","p","n","found","power","size"],3⟩
noncomputable abbrev r28:FR:=⟨"is_base",top 18,["thing"],1⟩
noncomputable abbrev r29:FR:=⟨"next_boxes",top 34,["p","boxes","more","power","k"],2⟩
noncomputable abbrev r30:FR:=⟨"box",top 33,["p","n","k","boxes","places"],3⟩
noncomputable abbrev r31:FR:=⟨"times",top 11,["p","row","number"],3⟩
noncomputable abbrev r32:FR:=⟨"inverse",top 13,["p","number","found"],2⟩
noncomputable abbrev r33:FR:=⟨"widened",top 27,["space","part","row","p","n","rest","head","lead","rows"],3⟩
noncomputable abbrev r34:FR:=⟨"widened_by_all",top 26,["space","part","rows","wider","row"],3⟩
noncomputable abbrev r35:FR:=⟨"need_row",top 22,["space","thing"],2⟩
noncomputable abbrev r36:FR:=⟨"spanned",top 25,["space","rows","row"],2⟩
noncomputable abbrev r37:FR:=⟨"row_against",top 40,["space","part","free","p","n","numbers","row"],3⟩
noncomputable abbrev r38:FR:=⟨"against",top 39,["space","part","p","n","places","free"],2⟩
noncomputable abbrev r39:FR:=⟨"lies_in",top 44,["space","one","other"],3⟩
noncomputable abbrev r40:FR:=⟨"_law_between_right",top 61,["_law_space_here","_law_one","_law_other","_law_some","_law_far","_law_size","_law_due"],3⟩
noncomputable abbrev r41:FR:=⟨"is_rising_tuple",top 9,["thing","greatest"],2⟩
noncomputable abbrev r42:FR:=⟨"many_chains",top 48,["space","sizes","p","n","many","places","size"],2⟩
noncomputable abbrev r43:FR:=⟨"is_chain",top 47,["space","thing"],2⟩
noncomputable abbrev r44:FR:=⟨"_law_chains_right",top 62,["_law_space_here","_law_chain_here","_law_low","_law_high","_law_at","_law_turned","_law_every","_law_due","_law_size","_law_pairs","_law_whole","_law_part_here"],4⟩
noncomputable abbrev r45:FR:=⟨"joined",top 42,["space","one","other"],3⟩
noncomputable abbrev r46:FR:=⟨"met",top 43,["space","one","other"],3⟩
noncomputable abbrev r47:FR:=⟨"_law_chain",top 60,["_law_state_here","_law_space_here","_law_part_here","_law_found","_law_turn","_law_more"],2⟩
noncomputable abbrev r48:FR:=⟨"law",top 63,["_law_script","_law_k","_law_state_here","_law_space_here","_law_one","_law_third","_law_low","_law_high"],1⟩
noncomputable abbrev fs:List FR:=[r0,r1,r2,r3,r4,r5,r6,r7,r8,r9,r10,r11,r12,r13,r14,r15,r16,r17,r18,r19,r20,r21,r22,r23,r24,r25,r26,r27,r28,r29,r30,r31,r32,r33,r34,r35,r36,r37,r38,r39,r40,r41,r42,r43,r44,r45,r46,r47,r48]
abbrev zs:List Str:=["all","bool","enumerate","int","isinstance","len","list","max","min","range","reversed","sorted","sum","tuple","zip"]
abbrev gs:List (Str×Gv):=[("MOST_PLACES",.tab [(2,6),(3,4),(5,3)]),("MOST_BOX_PLACES",.int 40)]
abbrev n0:List Str:=["_law_rows","_law_space_here","_law_most"]
abbrev n1:List Str:=["_law_first","_law_second","_law_often","_law_space_here"]
abbrev n2:List Str:=["_law_row","_law_place"]
abbrev n3:List Str:=["_law_row","_law_space_here","_law_one","_law_place"]
abbrev n4:List Str:=["_law_number","_law_fit","_law_place","_law_space_here"]
abbrev n5:List Str:=["_law_number","_law_often","_law_space_here"]
abbrev n6:List Str:=["_law_place","_law_state_here","_law_space_here"]
abbrev n7:List Str:=["_law_turn","_law_state_here","_law_space_here"]
abbrev n8:List Str:=["one","other"]
abbrev n9:List Str:=["row","place"]
abbrev n10:List Str:=["number","p"]
abbrev n11:List Str:=["row"]
abbrev n12:List Str:=["at","place","thing"]
abbrev n13:List Str:=["row","space"]
abbrev n14:List Str:=["mine","its","number","p"]
abbrev n15:List Str:=["row","space","other"]
abbrev n16:List Str:=["row","number","p"]
abbrev n17:List Str:=["head","space"]
abbrev n18:List Str:=["part","row","headed"]
abbrev n19:List Str:=["part","space","one"]
abbrev n20:List Str:=["part","space","other"]
abbrev n21:List Str:=["mine","number","p"]
abbrev n22:List Str:=["other","p","lead","head"]
abbrev n23:List Str:=["place","places"]
abbrev n24:List Str:=["place","space","part"]
abbrev n25:List Str:=["_law_part_here","_law_space_here","_law_one","_law_other"]
abbrev n26:List Str:=["_law_part_here","_law_space_here","_law_one"]
abbrev n27:List Str:=["_law_part_here","_law_space_here","_law_other"]
abbrev n28:List Str:=["_law_part_here","_law_size"]
abbrev n29:List Str:=["number","greatest"]
abbrev n30:List Str:=["one","other","space"]
abbrev n31:List Str:=["part","space"]
abbrev n32:List Str:=["_law_part_here","_law_space_here"]
abbrev n33:List Str:=["_law_wide","_law_high"]
local macro_rules | `(tactic| walk_at "n") => `(tactic| first|exact Zw (N:=n0) (by kernel_rfl!)|exact Zw (N:=n1) (by kernel_rfl!)|exact Zw (N:=n2) (by kernel_rfl!)|exact Zw (N:=n3) (by kernel_rfl!)|exact Zw (N:=n4) (by kernel_rfl!)|exact Zw (N:=n5) (by kernel_rfl!)|exact Zw (N:=n6) (by kernel_rfl!)|exact Zw (N:=n7) (by kernel_rfl!)|exact Zw (N:=n8) (by kernel_rfl!)|exact Zw (N:=n9) (by kernel_rfl!)|exact Zw (N:=n10) (by kernel_rfl!)|exact Zw (N:=n11) (by kernel_rfl!)|exact Zw (N:=n12) (by kernel_rfl!)|exact Zw (N:=n13) (by kernel_rfl!)|exact Zw (N:=n14) (by kernel_rfl!)|exact Zw (N:=n15) (by kernel_rfl!)|exact Zw (N:=n16) (by kernel_rfl!)|exact Zw (N:=n17) (by kernel_rfl!)|exact Zw (N:=n18) (by kernel_rfl!)|exact Zw (N:=n19) (by kernel_rfl!)|exact Zw (N:=n20) (by kernel_rfl!)|exact Zw (N:=n21) (by kernel_rfl!)|exact Zw (N:=n22) (by kernel_rfl!)|exact Zw (N:=n23) (by kernel_rfl!)|exact Zw (N:=n24) (by kernel_rfl!)|exact Zw (N:=n25) (by kernel_rfl!)|exact Zw (N:=n26) (by kernel_rfl!)|exact Zw (N:=n27) (by kernel_rfl!)|exact Zw (N:=n28) (by kernel_rfl!)|exact Zw (N:=n29) (by kernel_rfl!)|exact Zw (N:=n30) (by kernel_rfl!)|exact Zw (N:=n31) (by kernel_rfl!)|exact Zw (N:=n32) (by kernel_rfl!)|exact Zw (N:=n33) (by kernel_rfl!))
local macro_rules | `(tactic| walk_at "e") => `(tactic| first|exact wb|exact zr|exact wz|exact qR|exact uH|exact ja|exact wl|exact Zbl|exact v9)
local macro_rules | `(tactic| walk_at "z") => `(tactic| exact Top.no (by assumption) (by kernel_rfl!))
local macro_rules | `(tactic| walk_at "v") => `(tactic| first|exact Or.inl (by kernel_rfl!)|exact Or.inr (by kernel_rfl!)|exact Or.inr (Or.inl (by kernel_rfl!))|exact Or.inr (Or.inr (by kernel_rfl!)))
theorem okl:OkL fs zs gs fns 0 fs fns:=by
 repeat' (first | exact True.intro | refine⟨⟨rfl,rfl,by decide +kernel,?_⟩,?_⟩ | fail)
 all_goals
 (intro P w K mg base f fd d T h hn cdv A outer s H E hr hu;repeat' (first
 |(with_reducible show Bx (Sd.CSs _ _ _ _ _));first | exact yx | refine GJ ?_ ?_
 |(with_reducible show Bx (Sd.CA _ _ _ _ _));first | exact yk | refine Gf ?_ ?_ (by walk_at "e")
 |(with_reducible show Bx (Sd.CE _ _ _ _ (.v _)));exact ZbR _ (hN:=by kernel_rfl!) (hv:=by walk_at "v") (hd:=by kernel_rfl!) (hcd:=by kernel_rfl!)
 |(with_reducible show Bx (Sd.CE _ _ _ _ (.c _)));first | exact GP | exact ZdF (by assumption) (by kernel_rfl!) rfl rfl | exact uX | exact y8
 |(with_reducible show Bx (Sd.CE _ _ _ _ (.call _ _)));refine Zdw (by assumption) (by assumption) (by assumption) ?_ (by kernel_rfl!) rfl (by kernel_rfl!) (by walk_at "e") rfl
 |(with_reducible show Bx (Sd.CE _ _ _ _ (.ix _ _)));refine uy ?_ ?_ (hs:=by intro _ _;kernel_rfl!)
 |(with_reducible show Bx (Sd.CE _ _ _ _ (.blt .len _)));refine X9 (x:="len") (f:=.len) xH (by walk_at "z") ?_ (he:=(by walk_at "e")) (hg:=show _=_ from by kernel_rfl!) (hv:=by kernel_rfl!) (hn:=by decide) (hdb:=by kernel_rfl!) (hpl:=by kernel_rfl!)
 |(with_reducible show Bx (Sd.CE _ _ _ _ (.blt .tuple _)));refine VA (x:="tuple") (f:=.tuple) QZ (by walk_at "z") ?_ (he:=(by walk_at "e")) (hg:=show _=_ from by kernel_rfl!) (hv:=by kernel_rfl!) (hn:=by decide) (hdb:=by kernel_rfl!) (hpl:=by kernel_rfl!)
 |(with_reducible show Bx (Sd.CE _ _ _ _ (.blt .all _)));refine X9 (x:="all") (f:=.all) (wc rfl) (by walk_at "z") ?_ (he:=(by walk_at "e")) (hg:=show _=_ from by kernel_rfl!) (hv:=by kernel_rfl!) (hn:=by decide) (hdb:=by kernel_rfl!) (hpl:=by kernel_rfl!)
 |(with_reducible show Bx (Sd.CE _ _ _ _ (.blt .list _)));refine VA (x:="list") (f:=.list) zU (by walk_at "z") ?_ (he:=(by walk_at "e")) (hg:=show _=_ from by kernel_rfl!) (hv:=by kernel_rfl!) (hn:=by decide) (hdb:=by kernel_rfl!) (hpl:=by kernel_rfl!)
 |(with_reducible show Bx (Sd.CE _ _ _ _ (.blt .toInt _)));refine VA (x:="int") (f:=.toInt) wE (by walk_at "z") ?_ (he:=(by walk_at "e")) (hg:=show _=_ from by kernel_rfl!) (hv:=by kernel_rfl!) (hn:=by decide) (hdb:=by kernel_rfl!) (hpl:=by kernel_rfl!)
 |(with_reducible show Bx (Sd.CE _ _ _ _ (.blt .max2 _)));refine X9 (x:="max") (f:=.max2) (wK rfl) (by walk_at "z") ?_ (he:=(by walk_at "e")) (hg:=show _=_ from by kernel_rfl!) (hv:=by kernel_rfl!) (hn:=by decide) (hdb:=by kernel_rfl!) (hpl:=by kernel_rfl!)
 |(with_reducible show Bx (Sd.CE _ _ _ _ (.blt .min2 _)));refine X9 (x:="min") (f:=.min2) (wq rfl) (by walk_at "z") ?_ (he:=(by walk_at "e")) (hg:=show _=_ from by kernel_rfl!) (hv:=by kernel_rfl!) (hn:=by decide) (hdb:=by kernel_rfl!) (hpl:=by kernel_rfl!)
 |(with_reducible show Bx (Sd.CE _ _ _ _ (.blt .sum _)));refine X9 (x:="sum") (f:=.sum) (xI rfl) (by walk_at "z") ?_ (he:=(by walk_at "e")) (hg:=show _=_ from by kernel_rfl!) (hv:=by kernel_rfl!) (hn:=by decide) (hdb:=by kernel_rfl!) (hpl:=by kernel_rfl!)
 |(with_reducible show Bx (Sd.CE _ _ _ _ (.blt _ _)));first | refine W8 (by walk_at "z") ?_ (hg:=show _=_ from by kernel_rfl!) (he:=by kernel_rfl!) (hpl:=by kernel_rfl!) | refine VR (by walk_at "z") (by walk_at "z") ?_ (hgt:=show _=_ from by kernel_rfl!) (hg:=show _=_ from by kernel_rfl!) (hc:=by kernel_rfl!) (hs:=by kernel_rfl!)
 |(with_reducible show Bx (Sd.CE _ _ _ _ (.inT _ _)));refine Zdh (by assumption) ?_ (by kernel_rfl!) rfl rfl (by first | rfl | (with_unfolding_all rfl))
 |(with_reducible show Bx (Sd.CE _ _ _ _ (.bin _ _ _)));first | refine yO ?_ ?_ | refine yj ?_ ?_ | refine xj ?_ ?_ | refine yY ?_ ?_ | refine Gz ?_ ?_ | refine yp ?_ ?_
 |(with_reducible show Bx (Sd.CE _ _ _ _ (.tup _)));refine yn ?_
 |(with_reducible show Bx (Sd.CE _ _ _ _ (.lst _)));refine yy ?_
 |(with_reducible show Bx (Sd.CE _ _ _ _ (.neg _)));refine yZ ?_
 |(with_reducible show Bx (Sd.CE _ _ _ _ (.not _)));refine yr ?_
 |(with_reducible show Bx (Sd.CE _ _ _ _ (.cmp .eq _ _)));refine YV (op:=.Eq) (o:=.eq) (qP (by assumption)) ?_ ?_ (hm:=by first | exact ZU _ | kernel_rfl!)
 |(with_reducible show Bx (Sd.CE _ _ _ _ (.cmp .ne _ _)));refine YV (op:=.NotEq) (o:=.ne) (ub (by assumption)) ?_ ?_ (hm:=by first | exact ZU _ | kernel_rfl!)
 |(with_reducible show Bx (Sd.CE _ _ _ _ (.cmp .lt _ _)));refine YV (op:=.Lt) (o:=.lt) (wI (by assumption)) ?_ ?_ (hm:=by first | exact ZU _ | kernel_rfl!)
 |(with_reducible show Bx (Sd.CE _ _ _ _ (.cmp .le _ _)));refine YV (op:=.LtE) (o:=.le) (Ui (by assumption)) ?_ ?_ (hm:=by first | exact ZU _ | kernel_rfl!)
 |(with_reducible show Bx (Sd.CE _ _ _ _ (.cmp .gt _ _)));refine YV (op:=.Gt) (o:=.gt) (uN (by assumption)) ?_ ?_ (hm:=by first | exact ZU _ | kernel_rfl!)
 |(with_reducible show Bx (Sd.CE _ _ _ _ (.cmp .ge _ _)));refine YV (op:=.GtE) (o:=.ge) (uo (by assumption)) ?_ ?_ (hm:=by first | exact ZU _ | kernel_rfl!)
 |(with_reducible show Bx (Sd.CE _ _ _ _ (.cmp .is _ _)));refine YV (op:=.Is) (o:=.is) (qh (by assumption)) ?_ ?_ (hm:=by first | exact ZU _ | kernel_rfl!)
 |(with_reducible show Bx (Sd.CE _ _ _ _ (.cmp .isn _ _)));refine YV (op:=.IsNot) (o:=.isn) (yw (by assumption)) ?_ ?_ (hm:=by first | exact ZU _ | kernel_rfl!)
 |(with_reducible show Bx (Sd.CE _ _ _ _ (.cmp .inn _ _)));refine YV (op:=.In) (o:=.inn) (uU (by assumption)) ?_ ?_ (hm:=by first | exact ZU _ | kernel_rfl!)
 |(with_reducible show Bx (Sd.CE _ _ _ _ (.cmp .nin _ _)));refine YV (op:=.NotIn) (o:=.nin) (yh (by assumption)) ?_ ?_ (hm:=by first | exact ZU _ | kernel_rfl!)
 |(with_reducible show Bx (Sd.CE _ _ _ _ (.chain _ _ _ _ _)));first | refine VP (op:=.LtE) (o:=.le) (op':=.LtE) (o':=.le) (Ui (by assumption)) (Ui (by assumption)) ?_ ?_ ?_ (hm:=by kernel_rfl!) | refine VP (op:=.LtE) (o:=.le) (op':=.Lt) (o':=.lt) (Ui (by assumption)) (wI (by assumption)) ?_ ?_ ?_ (hm:=by kernel_rfl!)
 |(with_reducible show Bx (Sd.CE _ _ _ _ (.ite _ _ _)));refine xp ?_ ?_ ?_
 |(with_reducible show Bx (Sd.CE _ _ _ _ (.sl _ _ _)));refine u5 ?_ ?_ ?_
 |(with_reducible show Bx (Sd.CE _ _ _ _ (.rev _)));refine yQ ?_ ?_
 |(with_reducible show Bx (Sd.CE _ _ _ _ (.isi _ _)));first | refine Ue (T:="int") (t:=.int) (by intro m h;cases h) (by walk_at "z") (by walk_at "z") ?_ (hg:=show _=_ from by kernel_rfl!) (hgT:=show _=_ from by kernel_rfl!) (hvT:=by kernel_rfl!) (hnT:=by decide) (hdT:=by kernel_rfl!) (hs1:=by kernel_rfl!) (hs2:=by kernel_rfl!) (hpl:=by kernel_rfl!) | refine Ue (T:="bool") (t:=.bool) (by intro m h;cases h) (by walk_at "z") (by walk_at "z") ?_ (hg:=show _=_ from by kernel_rfl!) (hgT:=show _=_ from by kernel_rfl!) (hvT:=by kernel_rfl!) (hnT:=by decide) (hdT:=by kernel_rfl!) (hs1:=by kernel_rfl!) (hs2:=by kernel_rfl!) (hpl:=by kernel_rfl!) | refine Ue (T:="tuple") (t:=.tuple) (by intro m h;cases h) (by walk_at "z") (by walk_at "z") ?_ (hg:=show _=_ from by kernel_rfl!) (hgT:=show _=_ from by kernel_rfl!) (hvT:=by kernel_rfl!) (hnT:=by decide) (hdT:=by kernel_rfl!) (hs1:=by kernel_rfl!) (hs2:=by kernel_rfl!) (hpl:=by kernel_rfl!) | refine Ue (T:="list") (t:=.list) (by intro m h;cases h) (by walk_at "z") (by walk_at "z") ?_ (hg:=show _=_ from by kernel_rfl!) (hgT:=show _=_ from by kernel_rfl!) (hvT:=by kernel_rfl!) (hnT:=by decide) (hdT:=by kernel_rfl!) (hs1:=by kernel_rfl!) (hs2:=by kernel_rfl!) (hpl:=by kernel_rfl!) | refine JQ (T:="tuple") (U:="list") (t:=.tuple) (u:=.list) (by intro m h;cases h) (by intro m h;cases h) (by walk_at "z") (by walk_at "z") (by walk_at "z") ?_ (hg:=show _=_ from by kernel_rfl!) (hgT:=show _=_ from by kernel_rfl!) (hgU:=show _=_ from by kernel_rfl!) (hvT:=by kernel_rfl!) (hvU:=by kernel_rfl!) (hnT:=by decide) (hdT:=by kernel_rfl!) (hnU:=by decide) (hdU:=by kernel_rfl!) (hs0:=by kernel_rfl!) (hs00:=by kernel_rfl!) (hs1:=by kernel_rfl!) (hs2:=by kernel_rfl!) (hpl:=by kernel_rfl!)
 |(with_reducible show Bx (Sd.CE _ _ _ _ (.mt _ _ _)));first | refine VY ?_ ?_ (hbase:=by kernel_rfl!) (hfew:=by kernel_rfl!) (hline:=by kernel_rfl!) (hs:=by kernel_rfl!) (hplain:=by kernel_rfl!) | refine V3 ?_ ?_ (hbase:=by kernel_rfl!) (hfew:=by kernel_rfl!) (hline:=by kernel_rfl!) (hs:=by kernel_rfl!) (hplain:=by kernel_rfl!)
 |(with_reducible show Bx (Sd.CE _ _ _ _ (.comp1 _ _ _ _ _ _)));refine QM rfl (by assumption) (by walk_at "n") ?_ (λ_ _ _ _=>⟨?_,?_,?_⟩) (hs:=by intro _;kernel_rfl!)
 |(with_reducible show Bx (Sd.CE _ _ _ _ _));first | refine yB ?_ ?_ | refine uR ?_ ?_
 |(with_reducible show Bx (Sd.CO _ _ _ _ _));first | exact Gk | refine Gr ?_
 |(with_reducible show Bx (Sd.CS _ _ _ _ (.ret _)));refine y9 ?_
 |(with_reducible show Bx (Sd.CS _ _ _ _ (.par _ _)));first | refine yt rfl (by assumption) ?_ (hnm:=by decide) (hi:=by kernel_rfl!) (hj:=by kernel_rfl!) (hx:=by kernel_rfl!) (hy:=by kernel_rfl!) (hw:=by kernel_rfl!) (hs:=by kernel_rfl!) | exact yR (by assumption) (hi:=by kernel_rfl!) (hj:=by kernel_rfl!) (hx:=by kernel_rfl!) (hy:=by kernel_rfl!) (hs:=by kernel_rfl!) (hw:=by kernel_rfl!) (h1:=by kernel_rfl!)
 |(with_reducible show Bx (Sd.CS _ _ _ _ (.put _ _ _)));refine yM ?_ ?_ ?_ (ha:=by intro _;kernel_rfl!) (hs:=by kernel_rfl!) (hw:=by kernel_rfl!) (h1:=by kernel_rfl!)
 |(with_reducible show Bx (Sd.CS _ _ _ _ (.asg _ (.comp1 _ _ _ _ _ _))));refine Qv rfl (by assumption) (by walk_at "n") ?_ (λ_ _ _ _=>⟨?_,?_,?_⟩) (hsw:=by kernel_rfl!) (hy:=by kernel_rfl!) (hx:=by walk_at "v") (hf:=by first | exact .inl rfl | exact .inr (by kernel_rfl!)) (hs:=by intro _;kernel_rfl!)
 |(with_reducible show Bx (Sd.CS _ _ _ _ (.asg _ (.comp2 _ _ _ _ _ _ _ _ _))));refine V9 rfl (by assumption) (by walk_at "n") ?_ (λ_ _ _ _=>⟨?_,?_,?_,?_,?_,?_⟩) (hsw:=by kernel_rfl!) (hy:=by kernel_rfl!) (hx:=by walk_at "v") (hf:=by first | exact .inl rfl | exact .inr (by kernel_rfl!)) (hs:=by intro _;kernel_rfl!) (hs2:=by intro _ _;kernel_rfl!)
 |(with_reducible show Bx (Sd.CS _ _ _ _ (.asg _ _)));refine yg ?_ ?_ (hs:=by kernel_rfl!) (hw:=by kernel_rfl!) (h1:=by kernel_rfl!)
 |(with_reducible show Bx (Sd.CS _ _ _ _ (.ex _)));refine JJ ?_ (hs:=by kernel_rfl!)
 |(with_reducible show Bx (Sd.CS _ _ _ _ (.ite _ _ _)));refine qZ ?_ ?_ ?_
 |(with_reducible show Bx (Sd.CS _ _ _ _ (.forr _ _ _)));refine ye PassesOwn.never rfl ?_ ?_ ?_ (hs:=by intro _;kernel_rfl!)
 |(with_reducible show Bx (Sd.CS _ _ _ _ (.whl _ _)));refine Qk PassesOwn.never ?_ ?_
 |(with_reducible show Bx (Sd.CS _ _ _ _ (.aug _ _ _)));first | refine Gx (op:=.Add) qd (by assumption) ?_ (hi:=by kernel_rfl!) (hx:=by walk_at "v") (hf:=by first | exact .inl rfl | exact .inr (by kernel_rfl!)) | refine Gx (op:=.Mult) ql (by assumption) ?_ (hi:=by kernel_rfl!) (hx:=by walk_at "v") (hf:=by first | exact .inl rfl | exact .inr (by kernel_rfl!))
 |(with_reducible show Bx (Sd.CS _ _ _ _ _));exact QI
 |(with_reducible show Bx (Sd.CT _ _ _ _ (.not _)));refine xk ?_
 |(with_reducible show Bx (Sd.CT _ _ _ _ (.cmp .eq _ _)));refine YU (op:=.Eq) (o:=.eq) (qP (by assumption)) ?_ ?_ (hm:=by first | exact ZU _ | kernel_rfl!)
 |(with_reducible show Bx (Sd.CT _ _ _ _ (.cmp .ne _ _)));refine YU (op:=.NotEq) (o:=.ne) (ub (by assumption)) ?_ ?_ (hm:=by first | exact ZU _ | kernel_rfl!)
 |(with_reducible show Bx (Sd.CT _ _ _ _ (.cmp .lt _ _)));refine YU (op:=.Lt) (o:=.lt) (wI (by assumption)) ?_ ?_ (hm:=by first | exact ZU _ | kernel_rfl!)
 |(with_reducible show Bx (Sd.CT _ _ _ _ (.cmp .le _ _)));refine YU (op:=.LtE) (o:=.le) (Ui (by assumption)) ?_ ?_ (hm:=by first | exact ZU _ | kernel_rfl!)
 |(with_reducible show Bx (Sd.CT _ _ _ _ (.cmp .gt _ _)));refine YU (op:=.Gt) (o:=.gt) (uN (by assumption)) ?_ ?_ (hm:=by first | exact ZU _ | kernel_rfl!)
 |(with_reducible show Bx (Sd.CT _ _ _ _ (.cmp .ge _ _)));refine YU (op:=.GtE) (o:=.ge) (uo (by assumption)) ?_ ?_ (hm:=by first | exact ZU _ | kernel_rfl!)
 |(with_reducible show Bx (Sd.CT _ _ _ _ (.cmp .is _ _)));refine YU (op:=.Is) (o:=.is) (qh (by assumption)) ?_ ?_ (hm:=by first | exact ZU _ | kernel_rfl!)
 |(with_reducible show Bx (Sd.CT _ _ _ _ (.cmp .isn _ _)));refine YU (op:=.IsNot) (o:=.isn) (yw (by assumption)) ?_ ?_ (hm:=by first | exact ZU _ | kernel_rfl!)
 |(with_reducible show Bx (Sd.CT _ _ _ _ (.cmp .inn _ _)));refine YU (op:=.In) (o:=.inn) (uU (by assumption)) ?_ ?_ (hm:=by first | exact ZU _ | kernel_rfl!)
 |(with_reducible show Bx (Sd.CT _ _ _ _ (.cmp .nin _ _)));refine YU (op:=.NotIn) (o:=.nin) (yh (by assumption)) ?_ ?_ (hm:=by first | exact ZU _ | kernel_rfl!)
 |(with_reducible show Bx (Sd.CT _ _ _ _ (.or _ _)));refine ZbK (xY ?_ ?_)
 |(with_reducible show Bx (Sd.CT _ _ _ _ (.chain _ _ _ _ _)));refine Ql (op:=.LtE) (o:=.le) (op':=.LtE) (o':=.le) (Ui (by assumption)) (Ui (by assumption)) ?_ ?_ ?_ (hm:=by kernel_rfl!)
 |(with_reducible show Bx (Sd.CT _ _ _ _ _));refine yE ?_ (he:=by intro _;kernel_rfl!)
 |(with_reducible show Bx (Sd.CWh _ _ _ _ _));first | refine xY ?_ ?_ | refine yG ?_
 |(with_reducible show Bx (Sd.CTs _ _ _ _ _));first | exact GE | refine Gh ?_
 |(with_reducible show Bx (Sd.CW _ _ _ _ _ _));first | refine JI (by walk_at "z") ?_ (hg:=show _=_ from by kernel_rfl!) (hs:=by kernel_rfl!) | refine Gq (by walk_at "z") ?_ (hg:=show _=_ from by kernel_rfl!) (hs:=by kernel_rfl!) (hs2:=by kernel_rfl!) | refine JW (by walk_at "z") (by walk_at "z") ?_ (hgr:=show _=_ from by kernel_rfl!) (hg:=show _=_ from by kernel_rfl!) (hs:=by kernel_rfl!) (hs2:=by kernel_rfl!) | refine J8 (by walk_at "z") ?_ (hgr:=show _=_ from by kernel_rfl!) (hs:=by kernel_rfl!) | refine yJ (by walk_at "z") ?_ (hg:=show _=_ from by kernel_rfl!) (hs:=by kernel_rfl!) (hs2:=by kernel_rfl!) | refine JL (by walk_at "z") ?_ (hg:=show _=_ from by kernel_rfl!) (hs:=by kernel_rfl!) | refine qi ?_
 |(with_reducible show Bx (Sd.CG _ _ _));first | exact JM (by first | assumption | exact PF (by kernel_rfl!)) (hi:=by kernel_rfl!) (hx:=by walk_at "v") (hf:=by first | exact .inl rfl | exact .inr (by kernel_rfl!)) | refine yd rfl ?_ (hn:=by kernel_rfl!) (hst:=by kernel_rfl!)
 |(with_reducible show Bx (Sd.CGs _ _ _));first | exact J0 | refine QA (by first | assumption | exact PF (by kernel_rfl!)) ?_ (hi:=by kernel_rfl!) (hx:=by walk_at "v") (hf:=by first | exact .inl rfl | exact .inr (by kernel_rfl!)) (hs:=by kernel_rfl!)))
end K65
namespace PySem.W.Fast
def tw2302962894394104781:=0
def tw2070291483528894710:=0
def tw5057356778250473691:=0
def tw16482908293713569361:=0
def tw15972006118122528125:=0
def tw15642053865030772880:=0
def tw8649447845218334213:=0
def tw3172571972451444428:=0
def tw3326079216070268741:=0
def tw17838752939333173768:=0
def tw17196590186127343169:=0
def tw898150396327689853:=0
def tw16354318850461021956:=0
def tw9560362477903122005:=0
def tw15435977325158961264:=0
def tw12230179551655793006:=0
def tw14288068330776256432:=0
def tw6397897782956213472:=0
def tw13145009962253986259:=0
def tw3642960183788377219:=0
def tw6859194554199827979:=0
def tw17137274230522094525:=0
def tw15989809192109692951:=0
def tw16427153647890402660:=0
def tw10687660207012831763:=0
def tw13969135273126968488:=0
def tw10925812712525333812:=0
def tw17441127769380221659:=0
def tw8275526985568144106:=0
def tw3187358770450673278:=0
def tw16558662361469512121:=0
def tw5563310124641607085:=0
def tw14775326133400746807:=0
def tw995881888639956118:=0
def tw8204831415282980592:=0
def tw11410571497316093341:=0
def tw5710701980765804758:=0
def tw4204448600512003078:=0
def tw9017926987472487101:=0
def tw3472893500401104971:=0
def tw9706229774477858249:=0
def tw6678368494805703672:=0
def tw12844229720990135261:=0
def tw5527091484788337410:=0
def tw4106619359319086205:=0
def tw8273704983828311903:=0
def tw3814016770721775209:=0
def tw10005132739141070106:=0
def tw3271381794497313720:=0
def tw2202343576299464853:=0
def tw12312679554712942450:=0
def tw14542465421716636775:=0
def tw10414005037736176658:=0
def tw12995886537565439380:=0
def tw17539424827832439642:=0
def tw5349690255739305261:=0
def tw4642608081521036104:=0
def tw6352293504247869688:=0
def tw8686510198812986164:=0
def tw7097492904570491535:=0
def tw12036484454396297539:=0
def tw8477703206806627506:=0
def tw6520086039846027864:=0
def tw6203014237208930385:=0
def tw8012241161428577355:=0
def tw2465629768826845176:=0
def tw12823215571819151604:=0
def tw8297400792977503223:=0
def tw15371134786516408030:=0
def tw16358131207987517158:=0
def tw17175603832284062958:=0
def tw7157572957335410571:=0
def tw14317872036375229829:=0
def tw2251502745252214780:=0
def tw14383384124181087095:=0
def tw7561139800809795706:=0
def tw1772822037366071926:=0
def tw13235114970312397411:=0
def tw18421829588668608896:=0
def tw5706556729736396802:=0
def tw15406192772796828432:=0
def tw17119547576297053269:=0
def tw12482312036867009396:=0
def tw13126496891773162237:=0
def tw1572320059990584646:=0
def tw2248267273443451582:=0
def tw5018837370838565855:=0
def tw5742739210250873835:=0
def tw2799209236596624765:=0
def tw16809989121737812009:=0
def tw15196826589464048769:=0
def tw5115691187041042384:=0
def tw17454449830320821355:=0
def tw1358980872661826869:=0
def tw10181516862318369225:=0
def tw15177546430799978049:=0
def tw6952183244359744978:=0
def tw1422515502410026946:=0
def tw13645341921267757944:=0
def tw1904961447460958212:=0
def tw13928894551866356395:=0
def tw2021126219047640853:=0
def tw1498827437765088628:=0
def tw17070147366781137191:=0
def tw1448295922453572035:=0
def tw4643270076910717541:=0
def tw10696652723964528787:=0
def tw7332790998347883288:=0
def tw17962251021877821726:=0
def tw4847350595993557116:=0
def tw16276256489328566069:=0
def tw16838215675281192377:=0
def tw2858966779099675277:=0
def tw6257546771180072450:=0
def tw7569818078197978500:=0
def tw17760733706505449115:=0
def tw5303262638511459013:=0
def tw3283935672053022292:=0
def tw6290002158484007820:=0
def tw669679886036241350:=0
def tw6116649619601426977:=0
def tw11011292831118509123:=0
def tw15134658603314012120:=0
def tw8427928959827467343:=0
def tw14198147212842467255:=0
def tw6623767540134535614:=0
def tw3004073414666513827:=0
def tw14826480467709048098:=0
def tw12732972697185634950:=0
def tw157354133296814606:=0
def tw8753993800954727922:=0
def tw11440978576930598336:=0
def tw10564469656854253504:=0
def tw17868875227170198077:=0
def tw9566895097613608314:=0
def tw7849049063130428602:=0
def tw2928197181469574141:=0
def tw15112735411173310867:=0
def tw3377504778367402698:=0
def tw2464663354602427800:=0
def tw3559293488127117303:=0
def tw3970899920078692128:=0
def tw6106995498754695439:=0
def tw11446943790020549759:=0
def tw10721080258814548283:=0
def tw17249669298912416806:=0
def tw1909053707249288013:=0
def tw6410580437994979002:=0
def tw2235008114372889387:=0
def tw10624955811981125607:=0
def tw2614431610649838391:=0
def tw1045977280462817631:=0
def tw711925084488288225:=0
def tw6809710561103299595:=0
def tw7317632904876331585:=0
def tw12688683598593019148:=0
def tw18022613114506053910:=0
def tw17131696139259648075:=0
def tw17974015523501357715:=0
def tw2079252987953572134:=0
end PySem.W.Fast
open PySem PySem.W PyProof.Rows Gn
set_option maxRecDepth 100000 in
set_option maxHeartbeats 0 in
theorem PySem.Challenge.cw_fewspaces_k65_whole_chains_between_and_m_holds : PySem.Challenge.rw_fewspaces_k65_whole_chains_between_and_m.Holds := by
  w_on; o_law; k_head; (case hw => w_witness2)
  k_fill
  refine Gn.walk (l := PySem.Challenge.rw_fewspaces_k65_whole_chains_between_and_m) (F := K65.fns) (L := 48) (fun ns => K65.law_ok (ns := ns) (S := [.scr ns]) 56 rfl) rfl rfl (fun w h Y => PySem.W.kIn_of Y) ?F
  case F =>
    intro w mg fa h KX G hmg;refine' Gn.Zb2 (fs := K65.fs) (zs := K65.zs) (gs := K65.gs) KX G hmg rfl K65.okl ?A ?Z ?Y
    case A => repeat' (first | exact FnsAt.nil | refine' FnsAt.cons ?h1 ?h2 ?h3 ?h4 ?h5 ?_; (case h1 => k_is); (case h2 => k_is); (case h3 => k_is); (case h4 => k_is); (case h5 => first | exact bd1 fun _ _ _ _ _ _ _ => rfl | exact bd2 fun _ _ _ _ _ _ _ _ => rfl | exact bd3 fun _ _ _ _ _ _ _ _ _ => rfl | exact bd4 fun _ _ _ _ _ _ _ _ _ _ => rfl | exact bd5 fun _ _ _ _ _ _ _ _ _ _ _ => rfl | exact bd6 fun _ _ _ _ _ _ _ _ _ _ _ _ => rfl))
    case Z => repeat' (first | exact ZsAt.nil | refine' ZsAt.cons ?h1 ?_; (case h1 => k_is))
    case Y => repeat' (first | exact GsAt.nil | refine' GsAt.cons ?h1 ?_; (case h1 => k_is) | refine' GsAt.tab ?h1 ?h2 ?h3 ?h4 ?_; (case h1 => k_is); (case h2 => k_is); (case h3 => exact ⟨⟨_, rfl⟩, rfl, ⟨_, rfl⟩, ⟨_, rfl⟩, rfl, ⟨_, rfl⟩, ⟨_, rfl⟩, rfl, ⟨_, rfl⟩, trivial⟩); (case h4 => rfl))
