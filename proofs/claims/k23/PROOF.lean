import PyProof.Rows.All
import Wide.All
import OpenK.AllK
import Wide.FinOn
import Lean
import PyProof.EqAt
import PyProof.EqKinds
import PyProof.TupleCall
import KE.KNestM
import PyProof.IsiH_list
import PyProof.RaisesAny
import KE.KDictOf
import PyProof.CollectWalk
import PyProof.CompFree
import KE.KDictList
import PyProof.NeKinds
import PyProof.ConsumeWalk
import PyProof.StrBlockI
import PyProof.EnumFor
import PyProof.TupleIter
import PyProof.EnumMake
import KE.KLam
import PyProof.DictUpdate
import PyProof.SeqI3
import PyProof.DictWalks
import PyProof.ConsumeS
import PyProof.Rows.CallKwBuiltin
import KE.KDictLaws
import PyProof.AutoListH
import PyProof.ZipIter
import PyProof.ListNew
import KE.KRevSl
import PyProof.StrOps
import PyProof.StrOps2
import KE.KSortKey
import PyProof.Rows.SetFrom
import PyProof.MinMaxWalk
import PyProof.Rows.StrMeet
import PySem.Challenge.RW_wright_k23_begins_checked
set_option Elab.async false
set_option linter.all false
set_option maxRecDepth 100000
local macro_rules | `(tactic| omega) => `(tactic| first | lia | omega (config := {}))
local macro_rules | `(∅) => `(by omega)
local macro_rules | `(nofun) => `(by first | decide +kernel | kernel_rfl)
noncomputable section
def aZ:=@Or.inl
abbrev bp:=PySem.W.Frag
def yB:0<=PySem.sizeLine:=by decide
def Ox:1<=PySem.sizeLine:=by decide
def qW:2<=PySem.sizeLine:=by decide
def Ow:3<=PySem.sizeLine:=by decide
def zl4:4<=PySem.sizeLine:=by decide
def Tg:5<=PySem.sizeLine:=by decide
def au.{u,v}:=@List.length_map.{u,v}
def bf.{u}:=@List.getElem?_eq_some_iff.{u}
def a9.{u,v}:=@List.getElem?_map.{u,v}
def b_.{u,v}:=@Option.map_eq_some_iff.{u,v}
def b9.{u}:=@List.mem_of_getElem?.{u}
def cJ:=@PySem.Heap.get?_push_of_some
def bW.{u}:=@List.length_append.{u}
def bA.{u,v}:=@List.map_append.{u,v}
def dI.{u}:=@List.getElem?_eq_getElem.{u}
def aN:=@PySem.wpAny_bind
def bH.{u}:=@List.mem_singleton.{u}
def aU:=@Nat.le_refl
def bc:=@PySem.Paired.length
def cY.{u}:=@List.mem_cons_of_mem.{u}
def cw:=@of_decide_eq_true
def cS.{u}:=@List.mem_cons_self.{u}
def bX:=@PySem.PassesOwn.never
def cH.{u}:=@List.size_toArray.{u}
def cv.{u}:=@List.take_length.{u}
def cK.{u}:=@List.take_add_one.{u}
def cg.{u}:=@List.mem_append.{u}
def cf:=@decide_eq_true
def ba:=@PySem.wpAny_pure
def bR:=@PySem.Heap.lt_size
def b8.{u}:=@List.mem_cons.{u}
def ax.{u}:=@if_pos.{u}
def az.{u}:=@if_neg.{u}
def dr.{u}:=@List.length_take.{u}
def d8:=@PySem.Heap.get?_push_size
def d5:=@Bool.false_ne_true
def cE.{u,v}:=@List.map_cons.{u,v}
def fj.{u}:=@List.getElem?_of_mem.{u}
def cu:=@Nat.ne_of_lt
def dN.{u}:=@List.all_eq_true.{u}
def cx.{u,v}:=@List.mem_map.{u,v}
def d0:=@decide_eq_false
def gH.{u}:=@List.mem_append_right.{u}
def fc.{u}:=@List.length_cons.{u}
def gP.{u}:=@List.length_singleton.{u}
def dZ:=@PySem.boot_len
def iw:=@PySem.F.type_list_append
def iu:=@PySem.F.slot_list_append
def ir:=@PySem.F.plainAttrs_list
def gk:=@Nat.lt_of_lt_of_le
def hX:=@PySem.W.mg_none_of
def iq.{u,v}:=@List.mem_map_of_mem.{u,v}
def gi:=@Bool.eq_iff_iff
def gO.{u}:=@Option.some.inj.{u}
def jo:=@Bool.and_eq_true_iff
def dY:=@PySem.wpAny_mono
def iJ:=@Int.toNat_natCast
def jn.{u}:=@beq_eq_false_iff_ne.{u}
def f_:=@Nat.le_trans
def j8.{u}:=@List.mem_append_left.{u}
def nj.{u}:=@List.getElem?_append_right.{u}
def ni.{u}:=@List.getD_eq_getElem?_getD.{u}
def il.{u}:=@List.append_nil.{u}
def ng.{u}:=@Option.isSome_iff_exists.{u}
def iI.{u}:=@List.nodup_cons.{u}
def jm.{u}:=@List.nodup_append.{u}
def l7.{u}:=@List.length_filter_le.{u}
def qI.{u}:=@List.take_append_of_le_length.{u}
def i0.{u}:=@List.mem_filter.{u}
def pI.{u}:=@List.getElem?_append_left.{u}
def gG:=@Nat.zero_le
def gF:=@PySem.Paired.snoc
def jl.{u}:=@List.length_nil.{u}
def iZ.{u}:=@List.nodup_nil.{u}
def iY:=@Bool.false_and
def tY:=@PyProof.Rows.slot_tuple_getitem
def ik.{u,v,w}:=@List.map_map.{u,v,w}
def iX:=@Bool.true_and
def kr:=@Bool.and_eq_true
def lZ.{u}:=@List.append_assoc.{u}
def iW:=@Int.zero_add
def m_:=@PySem.wpAny_truthy_bool
def mZ:=@PySem.wpAny_newObj_type
def tX.{u}:=@List.getElem?_take_of_lt.{u}
def mY:=@Nat.lt_succ_self
def mX.{u}:=@List.length_drop.{u}
def qH.{u}:=@List.mem_of_mem_take.{u}
def qG.{u}:=@List.mem_iff_getElem.{u}
def kq.{u}:=@List.sum_cons.{u}
def pH.{u,v}:=@Option.isSome_map.{u,v}
def tW.{u}:=@List.take_of_length_le.{u}
def tV:=@PySem.wpAny_callSpecial?_slot
def jk:=@PySem.wpAny_field
def tU.{u}:=@List.getElem?_eq_none.{u}
def qF.{u}:=@List.filter_append.{u}
def mW.{u}:=@List.drop_zero.{u}
def j7:=@Int.le_refl
def qE:=@PySem.wpAny_Call_Name_kw
def pG.{u}:=@List.nil_append.{u}
def lY:=@Nat.ne_of_gt
def kj:=@Nat.le_succ
def qD:=@PySem.wpAny_pyIter_list
def qC.{u}:=@beq_self_eq_true.{u}
def qB.{u,v}:=@List.mem_flatMap.{u,v}
def AM:=@PyProof.Rows.boot_isinstance
def tT:=@Nat.lt_of_le_of_lt
def oO.{u,v}:=@List.map_singleton.{u,v}
def vq:=@PyProof.Rows.callWith_type1
def qV.{u}:=@List.take_eq_take_min.{u}
def kJ:=@Nat.lt_irrefl
def kI.{u,v}:=@List.map_take.{u,v}
def oN:=@Bool.eq_false_iff
def oM:=@PySem.tupleKind_room_in1
def oK:=@PySem.Calls.spliced_cons
def jK:=@PySem.wpAny_typeOf
def mr:=@PySem.wpAny_passesOwn
def mq:=@List.mem_range
def oJ.{u,v}:=@List.getElem_map.{u,v}
def oI.{u}:=@List.filter_cons.{u}
def ky:=@PySem.wpAny_holding
def jJ.{u,v}:=@Sum.inr.inj.{u,v}
def qU:=@PySem.mem_of_lookup
def fO.{u}:=@Ne.symm.{u}
def qT.{u}:=@Array.length_toList.{u}
def kx:=@Nat.lt_trans
def ku:=@Nat.le_of_lt
def vo:=@PySem.F.slot_tuple_iterator_next
def qS:=@PySem.Around.under_plainId
def oH.{u}:=@List.find?_cons.{u}
def mn:=@PySem.Heap.size_push
def oG:=@PySem.wpAny_call_entry
def oF:=@PySem.Around.in1_units
def vm:=@PySem.F.slot_list_getattribute
def qR:=@Nat.lt_succ_of_lt
def qQ:=@PySem.wpAny_setField_rec
def vk:=@PySem.wpAny_loadPart'
def vh:=@PyProof.Rows.boot_sum
def ml:=@Nat.sub_zero
def mj.{u,v}:=@List.map_nil.{u,v}
def qP.{u}:=@List.getElem_mem.{u}
def qO.{u}:=@List.drop_length.{u}
def vf:=@PySem.Calls.callWith_builtin
def oE:=@PySem.W.mg_of
def oC.{u}:=@List.any_cons.{u}
def ve:=@PySem.wpAny_pyNext_list_end
def qN.{u,v}:=@Option.map_some.{u,v}
def vd:=@PySem.F.slot_enumerate_next
def vc.{u}:=@Array.toList_append.{u}
def vb:=@PySem.wpAny_loadName_local
def oB:=@Nat.zero_add
def oA:=@Int.le_trans
def u_:=@PySem.Calls.evalArgs_plain
def oz:=@PySem.plainId_quiet
def qM:=@PySem.codeAny_builtin
def yU:=@PySem.F.slot_dict_update
def yT:=@PySem.F.args_tuple_add_2
def u9:=@List.length_range
def yS.{u}:=@List.length_erase_of_mem.{u}
def u7.{u,v}:=@List.foldl_append.{u,v}
def yR:=@PySem.F.plainAttrs_dict
def yQ:=@PySem.F.entry_tuple_add
def yP:=@PyProof.Rows.boot_tuple
def qL.{u,v}:=@Prod.mk.injEq.{u,v}
def jI.{u,v}:=@Prod.ext.{u,v}
def qK:=@Bool.false_or
def u6:=@PySem.wpAny_pyIter_tuple
def oy:=@PySem.codeAny_mono
def u5.{u}:=@List.getElem_inj.{u}
def qJ:=@PySem.wpAny_seqItems
def yO:=@PySem.F.slot_tuple_add
def yN:=@PyProof.Rows.boot_bool
def yM.{u}:=@List.length_pos_of_mem.{u}
namespace L2
open PySem PySem.Spec PyProof.Rows
abbrev aT:=Sum Int Str
def rW:aT->Value->Bool
 | .inl k,v=>Value.isInt k v
 | .inr x,v=>Value.isStrOf x v
def U2 (w:World):aT->Int
 | .inl k=>hashInt k
 | .inr x=>hashStr w x
def dO:∀{k:aT}{v:Value},rW k v=true->(∃i t,k=Sum.inl i/\v=Value.int i t)\/(∃x t,k=Sum.inr x/\v=Value.str x t)
 | .inl i,v,h=>by
  obtain⟨t,e⟩:=Value.isInt_shape (k:=i) (v:=v) h;exact .inl ⟨i,t,rfl,e⟩
 | .inr x,v,h=>by
  obtain⟨t,e⟩:=Value.isStrOf_shape (x:=x) (v:=v) h;exact .inr ⟨x,t,rfl,e⟩
def CL (i:Int)(t:Tok):rW (.inl i) (.int i t)=true:=by simp [rW,Value.isInt]
def CK (x:Str)(t:Tok):rW (.inr x) (.str x t)=true:=by simp [rW,Value.isStrOf]
def Mn (a b:Int):decide ((Sum.inl a:aT)=Sum.inl b)=(a == b):=by
 by_cases e:a=b
 .subst e;simp
 have h:¬(Sum.inl a:aT)=Sum.inl b:=λq=>e (Sum.inl.inj q);rw [d0 h];exact(jn.mpr e).symm
def Mj (a b:Str):decide ((Sum.inr a:aT)=Sum.inr b)=decide (a=b):=by
 by_cases e:a=b
 .subst e;simp
 have h:¬(Sum.inr a:aT)=Sum.inr b:=λq=>e (jJ q);rw [d0 h,d0 e]
def Mm (a:Int)(b:Str):decide ((Sum.inl a:aT)=Sum.inr b)=false:=d0 (λq=>nomatch q)
def Ml (a:Str) (b:Int):decide ((Sum.inr a:aT)=Sum.inl b)=false:=d0 (λq=>nomatch q)
noncomputable def bB (prog:Program)(w:World):PySem.KeyKind prog w aT where
 is:=rW
 hash:=U2 w
 inj:=λv a b ha hb=>by
  rcases dO ha with ⟨i,t,rfl,rfl⟩ | ⟨x,t,rfl,rfl⟩
  .rcases dO hb with ⟨j,u,rfl,e⟩ | ⟨y,u,rfl,e⟩
   .injection e with e1 _;rw [e1]
   exact nomatch e
  rcases dO hb with ⟨j,u,rfl,e⟩ | ⟨y,u,rfl,e⟩
  .exact nomatch e
  injection e with e1 _;rw [e1]
 byValue:=λk v h=>by
  rcases dO h with ⟨i,t,rfl,rfl⟩ | ⟨x,t,rfl,rfl⟩ <;> rfl
 pyHash:=λhv h=>by
  rcases dO hv with ⟨i,t,rfl,rfl⟩ | ⟨x,t,rfl,rfl⟩
  .exact wpAny_pyHash_int h
  exact wpAny_pyHash_str h
 eqBool:=λhu hv h=>by
  rcases dO hu with ⟨i,t,rfl,rfl⟩ | ⟨x,t,rfl,rfl⟩
  .rcases dO hv with ⟨j,u,rfl,rfl⟩ | ⟨y,u,rfl,rfl⟩
   .rw [Mn] at h;exact wpAny_eqBool_int h
   rw [Mm] at h;exact SeqAt.EqAt.int_str i t y u _ _ _ _ h
  rcases dO hv with ⟨j,u,rfl,rfl⟩ | ⟨y,u,rfl,rfl⟩
  .rw [Ml] at h;exact SeqAt.EqAt.str_int x t j u _ _ _ _ h
  rw [Mj] at h;exact wpAny_eqBool_str h
 «strs»:=λk x t v h=>by
  rcases dO h with ⟨i,u,rfl,e⟩ | ⟨y,u,rfl,e⟩
  .exact nomatch e
  injection e with e1 _;subst e1;cases v <;> rfl
def xQ (prog:Program)(w:World) (i:Int)(t:Tok):(bB prog w).is (.inl i) (.int i t)=true:=CL i t
def xP (prog:Program)(w:World)(x:Str)(t:Tok):(bB prog w).is (.inr x) (.str x t)=true:=CK x t
inductive V where
 | eZ | bl (b:Bool) | int (i:Int) | str (x:Str) | AE (b:Array UInt8) | MX (b:UInt64) | ref (a:Addr) | ty (n:String)
 deriving DecidableEq
def RelV:V->Value->Prop
 | .eZ,u=>u=Value.none
 | .bl b,u=>u=Value.bool b
 | .int i,u=>∃t,u=Value.int i t
 | .str x,u=>∃t,u=Value.str x t
 | .AE b,u=>∃t,u=Value.bytes b t
 | .MX b,u=>∃t,u=Value.float b t
 | .ref a,u=>u=Value.ref a
 | .ty n,u=>u=Value.type n
abbrev bw:List V->List Value->Prop:=Paired RelV
theorem bw.length {xs:List V}{us:List Value}(r:bw xs us):xs.length=us.length:=bc r
theorem bw.get:∀{xs:List V}{us:List Value}{i:Nat}{x:V},bw xs us->xs[i]?=some x->∃u,us[i]?=some u/\RelV x u
 | _,_,_,_,.nil,e=>by simp at e
 | _,_,0,_,.cons r _,e=>by simp at e;subst e;exact⟨_,rfl,r⟩
 | _,_,i+1,x,.cons _ t,e=>by
  obtain⟨u,h1,h2⟩:=bw.get (i:=i) (x:=x) t (by simpa using e);exact⟨u,by simpa using h1,h2⟩
theorem bw.set {x:V}{u:Value}(r:RelV x u):∀{xs:List V}{us:List Value}(i:Nat),bw xs us->bw (xs.set i x) (us.set i u)
 | _,_,_,.nil=>.nil
 | _,_,0,.cons _ t=>.cons r t
 | _,_,i+1,.cons q t=>.cons q (bw.set r i t)
theorem bw.append:∀{xs ys:List V}{us ws:List Value},bw xs us->bw ys ws->bw (xs++ys) (us++ws)
 | _,_,_,_,.nil,s=>s
 | _,_,_,_,.cons r t,s=>.cons r (bw.append t s)
theorem bw.take:∀{xs:List V}{us:List Value}(n:Nat),bw xs us->bw (xs.take n) (us.take n)
 | _,_,0,_=>.nil
 | _,_,_+1,.nil=>.nil
 | _,_,n+1,.cons r t=>.cons r (bw.take n t)
theorem bw.drop:∀{xs:List V}{us:List Value}(n:Nat),bw xs us->bw (xs.drop n) (us.drop n)
 | _,_,0,r=>r
 | _,_,_+1,.nil=>.nil
 | _,_,n+1,.cons _ t=>bw.drop n t
def bw.none_of:∀{xs:List V}{us:List Value}{i:Nat},bw xs us->xs[i]?=none->us[i]?=none:=λ{xs us i} r e=>by
 have h1:=r.length;have h2:xs.length<=i:=List.getElem?_eq_none_iff.mp e;exact List.getElem?_eq_none_iff.mpr ∅
def j5:Option V->Option Value->Prop
 | some v,some u=>RelV v u
 | none,none=>True
 | _,_=>False
def KV {κ:Type}:List (κ×V)->List (κ×Value)->Prop:=Paired λ(p:κ×V)(q:κ×Value)=>p.1=q.1/\RelV p.2 q.2
noncomputable def kV:aT->V
 | .inl i=>.int i
 | .inr x=>.str x
inductive HO where
 | lst (xs:List V)
 | tup (xs:List V)
 | dK (kvs:List (aT×V)) | dT (kvs:List (List aT×V))
 | set (S:Int->Bool) (n:Nat)
 | ins (C dx:Addr)(fs:List (Str×V))
 | own (x:Addr)
 | xd (fs:List (Str×V))
 | met (f x:Addr)
 | Bk (lo hi:Int)
 | ki (o:Obj)(u:HO)
 | tI (ps:Array Value)
 | ext (φ:Heap->Prop)
abbrev Hp:=Addr->Option HO
def upd (H:Hp)(a:Addr)(o:HO):Hp:=λb=>if b=a then some o else H b
def ae {H:Hp}{a:Addr}{o:HO}:upd H a o a=some o:=by unfold upd;rw [ax rfl]
def ak {H:Hp}{a b:Addr}{o:HO}(h:b≠a):upd H a o b=H b:=by unfold upd;rw [az h]
def nq {H:Hp}{a:Addr}{o u:HO}:upd (upd H a o) a u=upd H a u:=by
 funext b;unfold upd;split <;> rfl
def Pp {H:Hp}{a b:Addr}{o u:HO}(h:H a=some o)(h':H b=some u)(d:o≠u):a≠b:=by
 intro e;subst e;rw [h] at h';exact d (gO h')
def aB {H:Hp}{a b:Addr}{o:HO}(h:H a=some o)(h':H b=none):a≠b:=by
 intro e;subst e;rw [h] at h';cases h'
section
variable (P:Program)(w:World)
def cW (H:Hp)(h:Heap)(a:Addr):HO->Prop
 | .lst xs=>xs.length<=sizeLine/\∃(aW:List Value) (n:Nat),bw xs aW/\h.get? a=some { cls:=.type "list",data:=.seq aW.toArray n }
 | .tup xs=>xs.length<=sizeLine/\∃aW:List Value,bw xs aW/\IsTup h a aW.toArray
 | .dK kvs=>kvs.length<=sizeLine/\(a == sysModules)=false/\∃vs,KV kvs vs/\h.DictOf (bB P w) a vs
 | .dT kvs=>kvs.length<=sizeLine/\(a == sysModules)=false/\∃xs:List (List aT×Addr×Value),
   Paired (λ(p:List aT×V)(q:List aT×Addr×Value)=>p.1=q.1/\H q.2.1=some (.tup (p.1.map kV))/\RelV p.2 q.2.2) kvs xs /\
   ∃o es ep,h.get? a=some o/\o.ExactDict/\o.data=.dict es ep/\es.toList=xs.map (entryOfKey (tupleKind (bB P w)))/\(xs.map (·.1)).Nodup
 | .set S n=>h.SetOf (intKind P w) a S n
 | .ins C dx fs=>H dx=some (.own a)/\fs.length<=1000/\dx≠a/\h.get? a=some (PySem.W.instObj C dx) /\
   ∃mA,h.Ns1 dx mA/\(∀f,j5 (fs.lookup f) (mA f))/\PySem.Within mA (fs.map (·.1))
 | .own _=>∃o,h.get? a=some o
 | .xd fs=>∃mA,h.Ns1 a mA/\∀f,j5 (fs.lookup f) (mA f)
 | .Bk lo hi=>∃t u v,h.get? a=some { cls:=.type "range",data:=.fields #[.int lo t,.int hi u,.int 1 v] }
 | .ki o u=>h.get? a=some o/\cW H h a u
 | .tI ps=>h.get? a=some { cls:=.none,data:=.fields ps }
 | .met f x=>h.get? a=some (PySem.W.methodObj (.ref f) (.ref x))
 | .ext φ=>φ h/\(∃o,h.get? a=some o)/\∀h1 h2:Heap,φ h1->(∀o,h1.get? a=some o->h2.get? a=some o)->φ h2
def mi (H:Hp)(h:Heap):Prop:=∀a o,H a=some o->cW P w H h a o
end
section
variable {P:Program}{w:World}{H H':Hp}{h h':Heap}{a:Addr}{o:HO}
theorem cW.lt (x:cW P w H h a o):a < h.objs.size:=by
 cases o with
 | lst xs=>obtain⟨_,_,_,_,e⟩:=x;exact bR e
 | tup xs=>obtain⟨_,_,_,p⟩:=x;exact p.lt
 | dK kvs=>obtain⟨_,_,_,_,o,_,_,e,_⟩:=x;exact bR e
 | dT kvs=>obtain⟨_,_,_,_,o,_,_,e,_⟩:=x;exact bR e
 | set S n=>obtain⟨o,_,_,_,e,_⟩:=x;exact bR e
 | ins C dx fs=>obtain⟨_,_,_,e,_⟩:=x;exact bR e
 | own y=>obtain⟨_,e⟩:=x;exact bR e
 | xd fs=>obtain⟨_,⟨_,_,_,e,_⟩,_⟩:=x;exact bR e
 | Bk lo hi=>obtain⟨_,_,_,e⟩:=x;exact bR e
 | ki ob u=>obtain⟨e,_⟩:=x;exact bR e
 | tI ps=>exact bR (show h.get? a=some _ from x)
 | met f y=>exact bR (show h.get? a=some _ from x)
 | ext φ=>obtain⟨_,⟨_,e⟩,_⟩:=x;exact bR e
theorem Paired.dH {α β:Type}{F G:α->β->Prop}:∀{l₁:List α}{l₂:List β},Paired F l₁ l₂->(∀a b,F a b->G a b)->Paired G l₁ l₂
 | _,_,.nil,_=>.nil
 | _,_,.cons r t,f=>.cons (f _ _ r) (Paired.dH t f)
def cW.kO (x:cW P w H h a o)(k:∀b u,(b=a\/H b=some (.own a))->h.get? b=some u->h'.get? b=some u)
  (ho:∀b,H b=some (.own a)->H' b=some (.own a))(ht:∀b xs,H b=some (.tup xs)->H' b=some (.tup xs)):cW P w H' h' a o:=by
 induction o with
 | lst xs=>obtain⟨z,aW,n,r,e⟩:=x;exact⟨z,aW,n,r,k _ _ (.inl rfl) e⟩
 | tup xs=>obtain⟨z,aW,r,ob,e,c⟩:=x;exact⟨z,aW,r,ob,k _ _ (.inl rfl) e,c⟩
 | dK kvs=>obtain⟨z,y,vs,r,ob,es,ep,e,c⟩:=x;exact⟨z,y,vs,r,ob,es,ep,k _ _ (.inl rfl) e,c⟩
 | dT kvs =>
  obtain⟨z,y,xs,r,ob,es,ep,e,c⟩:=x;exact⟨z,y,xs,Paired.dH r λp q z=>⟨z.1,ht _ _ z.2.1,z.2.2⟩,ob,es,ep,k _ _ (.inl rfl) e,c⟩
 | set S n=>obtain⟨ob,es,ep,t,e,c⟩:=x;exact⟨ob,es,ep,t,k _ _ (.inl rfl) e,c⟩
 | ins C dx fs =>
  obtain⟨d,z,ne,e,mA,⟨od,es,ep,e2,c⟩,r⟩:=x;exact⟨ho _ d,z,ne,k _ _ (.inl rfl) e,mA,⟨od,es,ep,k _ _ (.inr d) e2,c⟩,r⟩
 | own y=>obtain⟨ob,e⟩:=x;exact⟨ob,k _ _ (.inl rfl) e⟩
 | xd fs=>obtain⟨mA,⟨od,es,ep,e,c⟩,r⟩:=x;exact⟨mA,⟨od,es,ep,k _ _ (.inl rfl) e,c⟩,r⟩
 | Bk lo hi=>obtain⟨t,u,v,e⟩:=x;exact⟨t,u,v,k _ _ (.inl rfl) e⟩
 | ki ob u ih=>obtain⟨e,q⟩:=x;exact⟨k _ _ (.inl rfl) e,ih q⟩
 | tI ps =>
  have e:h.get? a=some { cls:=.none,data:=.fields ps }:=x;show h'.get? a=some { cls:=.none,data:=.fields ps };exact k a _ (.inl rfl) e
 | met f y =>
  have e:h.get? a=some (PySem.W.methodObj (.ref f) (.ref y)):=x;show h'.get? a=some (PySem.W.methodObj (.ref f) (.ref y));exact k a _ (.inl rfl) e
 | ext φ=>obtain⟨p,⟨o,e⟩,st⟩:=x;exact⟨st _ _ p λo q=>k _ _ (.inl rfl) q,⟨o,k _ _ (.inl rfl) e⟩,st⟩
theorem mi.lt (x:mi P w H h)(e:H a=some o):a < h.objs.size:=(x a o e).lt
def mi.fresh (x:mi P w H h)(e:h.objs.size<=a):H a=none:=by
 cases q:H a with
 | none=>rfl
 | some u=>exact absurd (gk (x.lt q) e) (kJ _)
def mi.kept (x:mi P w H h)(k:∀b u,h.get? b=some u->h'.get? b=some u):mi P w H h':=λa o e =>
 (x a o e).kO (λb u _ q=>k b u q) (λ_ q=>q) λ_ _ q=>q
def mi.laid (x:mi P w H h)(k:∀b u,h.get? b=some u->h'.get? b=some u)(hp:h.objs.size<=a)(new:cW P w (upd H a o) h' a o):mi P w (upd H a o) h':=λb u e=>by
 have hn:=x.fresh hp;by_cases hb:b=a
 .subst hb;rw [ae] at e;cases e;exact new
 rw [ak hb] at e;exact(x b u e).kO (λc v _ q=>k c v q) (λc q=>by rw [ak (aB q hn)];exact q) λc xs q=>by rw [ak (aB q hn)];exact q
end
def Rd (H:Hp)(a:Addr)(u:HO):Prop:=H a=some u\/∃o,H a=some (.ki o u)
def Rd.of {H:Hp}{a:Addr}{u:HO}(h:H a=some u):Rd H a u:=.inl h
def Rd.ok {P:Program}{w:World}{H:Hp}{h:Heap}{a:Addr}{u:HO}(r:Rd H a u)(x:mi P w H h):cW P w H h a u:=by
 rcases r with r | ⟨o,r⟩
 .exact x a u r
 obtain⟨_,q⟩:=x a _ r;exact q
def Ru:Option HO->Prop
 | some (.lst _)=>True
 | some (.dK _)=>True
 | some (.dT _)=>True
 | some (.set _ _)=>True
 | some (.ins _ _ _)=>True
 | some (.ext _)=>True
 | _=>False
section
variable {P:Program}{w:World}{H:Hp}{h h':Heap}{x e:Addr}{o':HO}
def mi.write (ok:mi P w H h)(mu:Ru (H x))(he:e=x\/H e=some (.own x))(k:∀b u,b≠e->h.get? b=some u->h'.get? b=some u)(N1:∃u,h'.get? e=some u)
  (new:cW P w (upd H x o') h' x o'):mi P w (upd H x o') h':=λb u q=>by
 have Pk:∀c y,H c=some (.own y)->c≠x:=λc y r z=>by subst z;rw [r] at mu;exact mu
 have Uq:∀c xs,H c=some (.tup xs)->c≠x:=λc xs r z=>by subst z;rw [r] at mu;exact mu
 by_cases hb:b=x
 .subst hb;rw [ae] at q;cases q;exact new
 rw [ak hb] at q;by_cases MH:b=e
 .have q':H b=some (.own x):=by
   rcases he with z | z
   .exact absurd (MH.trans z) hb
   rw [MH];exact z
  rw [q] at q';cases q';obtain⟨v,hv⟩:=N1;exact⟨v,by rw [MH];exact hv⟩
 refine(ok b u q).kO (λc v hc r=>k c v ?_ r) (λc r=>by rw [ak (Pk c b r)];exact r) λc xs r=>by rw [ak (Uq c xs r)];exact r
 rcases hc with rfl | hc
 .exact MH
 rintro rfl;rcases he with z | z
 .exact Pk c b hc z
 rw [hc] at z;cases z;exact hb rfl
end
structure Un (fs ex:List Addr)(H H':Hp)(h h':Heap):Prop where
 keep:∀b o,h.get? b=some o->H b=none->b∉fs->b∉ex->h'.get? b=some o
 slot:∀b o,h.get? b=some o->H b=none->b∈fs->b∉ex->∃sl,h'.get? b=some { o with slots:=sl }
 free:∀b o,h.get? b=some o->H b=none->b∉ex->H' b=none
 there:∀b o,h.get? b=some o->b∉ex->∃o',h'.get? b=some o'
 oR:∀b xs,H b=some (.tup xs)->H' b=some (.tup xs)
 mT:∀b o u,H b=some (.ki o u)->H' b=some (.ki o u)
 nr:∀b ps,H b=some (.tI ps)->∃more,H' b=some (.tI (ps++more))
section
variable {fs HM ex ZC:List Addr}{H H1 H2:Hp}{h h1 h2 h':Heap}{a x e:Addr}{o:HO}
def Un.any (u:Un fs ex H H1 h h1){b:Addr}{ob:Obj}(q:h.get? b=some ob)(n:H b=none)(hx:b∉ex):∃sl,h1.get? b=some { ob with slots:=sl }:=by
 by_cases hb:b∈fs
 .exact u.slot b ob q n hb hx
 exact⟨ob.slots,u.keep b ob q n hb hx⟩
def Un.trans (a:Un fs ex H H1 h h1)(b:Un fs ex H1 H2 h1 h2):Un fs ex H H2 h h2 where
 keep:=λc ob q n hc hx=>b.keep c ob (a.keep c ob q n hc hx) (a.free c ob q n hx) hc hx
 slot:=λc ob q n hc hx=>by
  obtain⟨sl,e1⟩:=a.slot c ob q n hc hx;obtain⟨TV,e2⟩:=b.slot c _ e1 (a.free c ob q n hx) hc hx;exact⟨TV,e2⟩
 free:=λc ob q n hx=>by
  obtain⟨o',e1⟩:=a.there c ob q hx;exact b.free c o' e1 (a.free c ob q n hx) hx
 there:=λc ob q hx=>by
  obtain⟨o',e1⟩:=a.there c ob q hx;exact b.there c o' e1 hx
 oR:=λc xs q=>b.oR c xs (a.oR c xs q)
 mT:=λc ob xs q=>b.mT c ob xs (a.mT c ob xs q)
 nr:=λc ps q=>by
  obtain⟨m1,e1⟩:=a.nr c ps q;obtain⟨m2,e2⟩:=b.nr c _ e1;exact⟨m1++m2,by rw [e2,Array.append_assoc]⟩
def Un.kept (k:∀b u,h.get? b=some u->h'.get? b=some u):Un fs ex H H h h' :=
 ⟨λb ob q _ _ _=>k b ob q,λb ob q _ _ _=>⟨ob.slots,k b ob q⟩,λ_ _ _ n _=>n,λb ob q _=>⟨ob,k b ob q⟩,λ_ _ q=>q,λ_ _ _ q=>q,λ_ ps q=>⟨#[],by rw [q];simp⟩⟩
def Un.refl:Un fs ex H H h h:=Un.kept λ_ _ q=>q
def Un.laid (k:∀b u,h.get? b=some u->h'.get? b=some u)(hp:h.objs.size<=a)(hn:H a=none):Un fs ex H (upd H a o) h h' where
 keep:=λb u q _ _ _=>k b u q
 slot:=λb u q _ _ _=>⟨u.slots,k b u q⟩
 free:=λb u q n _=>by rw [ak (cu (gk (bR q) hp))];exact n
 there:=λb u q _=>⟨u,k b u q⟩
 oR:=λb xs q=>by rw [ak (aB q hn)];exact q
 mT:=λb u xs q=>by rw [ak (aB q hn)];exact q
 nr:=λb ps q=>⟨#[],by rw [ak (aB q hn),q];simp⟩
def Un.write (mu:Ru (H x))(he:e=x\/H e=some (.own x))(k:∀b u,b≠e->h.get? b=some u->h'.get? b=some u)(N1:∃u,h'.get? e=some u):Un fs ex H (upd H x o) h h':=by
 have hx:∀b,H b=none->b≠x:=λb n z=>by subst z;rw [n] at mu;exact mu
 have hb:∀b,H b=none->b≠e:=λb n z=>by
  subst z;rcases he with r | r
  .exact hx b n r
  rw [n] at r;cases r
 have hm:∀b u,H b=some u->¬Ru (some u)->b≠x:=λb u q nm z=>by subst z;rw [q] at mu;exact nm mu
 refine⟨λb u q n _ _=>k b u (hb b n) q,λb u q n _ _=>⟨u.slots,k b u (hb b n) q⟩,λb u q n _=>by rw [ak (hx b n)];exact n,λb u q _=>?_,
  λb xs q=>by rw [ak (hm b _ q λz=>z)];exact q,λb u xs q=>by rw [ak (hm b _ q λz=>z)];exact q,λb ps q=>⟨#[],by rw [ak (hm b _ q λz=>z),q];simp⟩⟩
 by_cases MH:b=e
 .subst MH;exact N1
 exact⟨u,k b u MH q⟩
def Un.mono (u:Un fs ex H H1 h h1)(hs:∀b∈fs,b∈HM)(hx:∀b∈ex,b∈ZC):Un HM ZC H H1 h h1 :=
 ⟨λb ob q n hb he=>u.keep b ob q n (λz=>hb (hs b z)) λz=>he (hx b z),λ_ _ q n _ he=>u.any q n λz=>he (hx _ z),λb ob q n he=>u.free b ob q n λz=>he (hx b z),λb ob q he=>u.there b ob q λz=>he (hx b z),u.oR,u.mT,u.nr⟩
end
noncomputable def Hl (h:Heap)(H:Hp):List Addr:=(List.range h.objs.size).filter λa=>(H a).isSome
def mR (h:Heap)(H:Hp):Heap:=PySem.W.hideAll h (Hl h H)
def uF (h:Heap)(H:Hp):(mR h H).objs.size=h.objs.size:=PySem.W.hideAll_size _ _
def xZ {h:Heap}{H:Hp}{b:Addr}{o:Obj}(e:h.get? b=some o)(n:H b=none):(mR h H).get? b=some o :=
 PySem.W.hideAll_get _ e λhm=>by
  have q:(H b).isSome=true:=(i0.mp hm).2;rw [n] at q;simp at q
def Br {h:Heap}{H:Hp}{b:Addr}{o:Obj}(e:(mR h H).get? b=some o):h.get? b=some o/\H b=none:=by
 have e':h.get? b=some o:=PySem.W.of_hideAll (Hl h H) e;refine⟨e',?_⟩;cases q:H b with
 | none=>rfl
 | some x =>
  have hm:b∈Hl h H:=i0.mpr ⟨mq.mpr (bR e'),by simp [q]⟩;have z:(mR h H).get? b=none:=PySem.W.hideAll_none (Hl h H) hm;rw [z] at e;cases e
noncomputable def JF (g h:Heap)(L:Addr):List (Addr×Obj):=(List.range h.objs.size).filterMap λa=>if a=L\/(g.get? a).isSome=true then none else (h.get? a).map λo=>(a,o)
noncomputable def rest (g h:Heap)(L d:Addr):List (Addr×Obj):=(JF g h L).filter λp=>decide (p.1≠d)
structure Mod (K:bp)(mg:Str->Option Value)(base:Heap):Prop where
 PY:K.In base
 glob:base.Ns mainGlobals mg
 blt:∃mb,base.Ns builtinsNs mb/\∀x:Str,x ≠ "__name__" -> mb x=bootBuiltins x
 nolimit:base.NoLimit
structure Cx where
 prog:Program
 w:World
 K:bp
 mg:Str->Option Value
 base:Heap
 A:Around
 N:List Str
 s₀:Shared
 H₀:Hp
 env:Env
 outer:List Env
 stack:List Env
 ex:List Addr
 fn:Str->Bool
 calm:Bool
 pn:List (Addr×Obj)
 xe:Value->Shared->Prop
noncomputable def CV (l:List Env):List Addr:=l.filterMap (·.frame)
abbrev Cx.fs (X:Cx):List Addr:=CV X.outer
def SW (sc:Scope)(x:Str):Prop:=sc.names.lookup x=some .local\/sc.names.lookup x=some .cell\/sc.names.lookup x=some .free
def Loc (sc:Scope)(x:Str):Prop:=sc.names.lookup x=some .local\/sc.names.lookup x=some .cell
def Look (env:Env)(h:Heap)(m:Str->Option Value)(x:Str)(u:Value):Prop :=
 (env.kindOf x=some .local/\m x=some u)\/((env.kindOf x=some .cell\/env.kindOf x=some .free)/\∃c,env.cells.lookup x=some c/\h.IsCell c (some u))
structure Cx.Ok (X:Cx):Prop where
 mod:Mod X.K X.mg X.base
 kind:X.env.scope.kind=.function
 glob:X.env.globals=mainGlobals
 blt:X.env.builtins=builtinsNs
 above:X.s₀.heap.objs.size<=X.env.locals
 inj:∀x y c,X.env.cells.lookup x=some c->X.env.cells.lookup y=some c->x=y
 has:∀x,(X.env.kindOf x=some .cell\/X.env.kindOf x=some .free)->∃c,X.env.cells.lookup x=some c
 Ra:∀x c,X.fn x=true->X.env.cells.lookup x=some c->X.s₀.heap.objs.size<=c
 hd:X.calm=true->X.A.handled=none
 frames:X.A.frames=some X.stack
 RR:X.stack=X.outer\/(X.stack=X.env::X.outer/\X.env.frame=some X.env.locals)
 N6:∀b∈X.ex,b≠X.env.locals/\∀x c,X.env.cells.lookup x=some c->c≠b
 bs:∀b o,X.base.get? b=some o->X.s₀.heap.get? b=some o/\X.H₀ b=none
 HV:X.base.objs.size<=X.s₀.heap.objs.size
 FE:∀b o,X.base.get? b=some o->b∉X.ex
 CZ:∀b∈X.ex,b∉X.fs
 pj:X.s₀.heap.FunFrames X.base X.outer
 Ku:∀b∈X.fs,X.H₀ b=none
structure Inv (X:Cx)(aj:List (Addr×Obj))(σ:List (Option V))(H:Hp)(s:Shared):Prop where
 ok:X.Ok
 os:s.os=X.s₀.os
 bare:AllBare s.gens
 base:Un X.fs X.ex X.H₀ H X.s₀.heap s.heap
 loc:∃m,s.heap.Ns X.env.locals m/\∀(i:Nat)(x:Str)(v:V),X.N[i]?=some x->σ[i]?=some (some v)->SW X.env.scope x->∃u,RelV v u/\Look X.env s.heap m x u
 cell:∀x c,X.env.cells.lookup x=some c->∃v,s.heap.IsCell c v
 free:H X.env.locals=none
 k0:∀x c,X.env.cells.lookup x=some c->H c=none
 pin:∀p∈X.pn++aj,s.heap.get? p.1=some p.2/\H p.1=none/\p.1≠X.env.locals/\p.1∉X.fs/\∀v,p.2.data≠.cell v
 cC:mi X.prog X.w H s.heap
 len:σ.length=X.N.length
section
variable {X:Cx}{aj:List (Addr×Obj)}{σ:List (Option V)}{H H':Hp}{s:Shared}{h':Heap}
def Cx.Ok.Uu (ok:X.Ok){b:Addr}{o:Obj}(e:X.base.get? b=some o):b∉X.fs:=λhb=>by
 have:=(ok.pj.mem hb).1;rw [e] at this;cases this
theorem Inv.bs (I:Inv X aj σ H s):∀b o,X.base.get? b=some o->s.heap.get? b=some o/\H b=none:=λb o e =>
 ⟨I.base.keep b o (I.ok.bs b o e).1 (I.ok.bs b o e).2 (I.ok.Uu e) (I.ok.FE b o e),I.base.free b o (I.ok.bs b o e).1 (I.ok.bs b o e).2 (I.ok.FE b o e)⟩
def Inv.bk (I:Inv X aj σ H s):∀b o,X.base.get? b=some o->s.heap.get? b=some o:=λb o e=>(I.bs b o e).1
theorem Inv.mod (I:Inv X aj σ H s):Mod X.K X.mg X.base:=I.ok.mod
def Inv.wu (I:Inv X aj σ H s):X.K.In s.heap:=I.ok.mod.PY.keeps I.bk
theorem Inv.nolimit (I:Inv X aj σ H s):s.heap.NoLimit:=I.ok.mod.nolimit.keeps I.bk
def Inv.fr (I:Inv X aj σ H s):∃m,Fr X.base X.env.locals s.heap m :=
 let ⟨m,hn,_⟩:=I.loc
 ⟨m,hn,I.bk,f_ I.ok.HV I.ok.above⟩
theorem Inv.lt (I:Inv X aj σ H s):X.env.locals < s.heap.objs.size:=let ⟨_,hn,_⟩:=I.loc;hn.lt
def Inv.sz (I:Inv X aj σ H s):X.s₀.heap.objs.size<=s.heap.objs.size:=f_ I.ok.above (ku I.lt)
def Inv.Ut (I:Inv X aj σ H s){a:Addr}(h:s.heap.objs.size<=a):a∉X.fs:=λhb=>by
 obtain⟨_,o,ho,_⟩:=I.ok.pj.mem hb;exact absurd (gk (bR ho) (f_ I.sz h)) (kJ _)
def Inv.Ng (I:Inv X aj σ H s):∀x c,X.env.cells.lookup x=some c->c≠X.env.locals:=λx c e z=>by
 obtain⟨v,o,ho,hd⟩:=I.cell x c e;obtain⟨m,⟨o',es,ep,F6,CQ,_⟩,_⟩:=I.loc;rw [z,F6] at ho;cases ho;rw [CQ] at hd;cases hd
theorem Inv.pj (I:Inv X aj σ H s):s.heap.FunFrames X.base X.outer:=by
 have all:∀(l:List Env),(∀b∈CV l,b∈X.fs)->X.s₀.heap.FunFrames X.base l->s.heap.FunFrames X.base l:=by
  intro l
  induction l with
  | nil=>intro _ _;trivial
  | cons env r ih =>
   intro hs hl;obtain⟨hk,⟨L,o,hf,hn,ho,hd⟩,hr⟩:=hl;have hL:L∈X.fs:=hs L (by unfold CV;rw [List.filterMap_cons,hf];exact cS);obtain⟨sl,e⟩:=I.base.slot L o ho (I.ok.Ku L hL) hL λz=>I.ok.CZ L z hL;exact⟨hk,⟨L,_,hf,hn,e,hd⟩,ih (λb hb=>hs b (by unfold CV;rw [List.filterMap_cons,hf];exact cY _ hb)) hr⟩
 exact all X.outer (λ_ hb=>hb) I.ok.pj
theorem Inv.stack (I:Inv X aj σ H s):s.heap.FunFrames X.base X.stack:=by
 rcases I.ok.RR with e | ⟨e,hf⟩
 .rw [e];exact I.pj
 rw [e];obtain⟨m,hn,_⟩:=I.loc;refine .cons (by rw [I.ok.kind];decide) hf hn ?_ I.pj;exact Heap.get?_none_of_le (f_ I.ok.HV I.ok.above)
def Inv.zd (I:Inv X aj σ H s):∀b∈CV X.stack,b∈X.env.locals::X.fs:=λb hb=>by
 rcases I.ok.RR with e | ⟨e,hf⟩
 .rw [e] at hb;exact cY _ hb
 rw [e] at hb;unfold CV at hb;rw [List.filterMap_cons,hf] at hb;exact hb
def Inv.A2 (I:Inv X aj σ H s):∀b∈CV X.stack,H b=none:=λb hb=>by
 rcases b8.mp (I.zd b hb) with e | hb
 .rw [e];exact I.free
 obtain⟨_,o,ho,_⟩:=I.ok.pj.mem hb;exact I.base.free b o ho (I.ok.Ku b hb) λz=>I.ok.CZ b z hb
def Inv.step {g':Array GenState}{t':Nat}{d':Drawn}{ch:List Addr}(I:Inv X aj σ H s)
  (HG:∀b∈ch,(b∈X.ex\/X.s₀.heap.objs.size<=b)/\b≠X.env.locals/\(∀x c,X.env.cells.lookup x=some c->c≠b)/\∀p∈X.pn++aj,p.1≠b)
  (keep:∀b o,b≠X.env.locals->b∉X.fs->b∉ch->s.heap.get? b=some o->H b=none->h'.get? b=some o)
  (slot:∀b o,b≠X.env.locals->b∈X.fs->b∉ch->s.heap.get? b=some o->H b=none->∃sl,h'.get? b=some { o with slots:=sl })(free:∀b o,b∉ch->s.heap.get? b=some o->H b=none->H' b=none)
  (there:∀b o,b∉ch->s.heap.get? b=some o->∃o',h'.get? b=some o')
  (oR:∀b xs,H b=some (.tup xs)->H' b=some (.tup xs))(mT:∀b o u,H b=some (.ki o u)->H' b=some (.ki o u))(nr:∀b ps,H b=some (.tI ps)->∃more,H' b=some (.tI (ps++more)))
  (ns:∀m,s.heap.Ns X.env.locals m->h'.Ns X.env.locals m)(cC:mi X.prog X.w H' h')(hg:AllBare g') :
  Inv X aj σ H' { s with heap:=h',gens:=g',drawn:=d',toks:=t' }:=by
 have YC:∀b o,X.s₀.heap.get? b=some o->b≠X.env.locals:=λb o e=>cu (gk (bR e) I.ok.above);have NO:∀b o,X.s₀.heap.get? b=some o->b∉X.ex->b∉ch:=λb o e hx hb=>by
  rcases (HG b hb).1 with z | z
  .exact hx z
  exact absurd (gk (bR e) z) (kJ _)
 have cellK:∀x c,X.env.cells.lookup x=some c->∀v,s.heap.IsCell c v->h'.IsCell c v:=λx c e v ⟨o,ho,hd⟩=>by
  have Pq:c∉ch:=λz=>(HG c z).2.2.1 x c e rfl;by_cases hc:c∈X.fs
  .obtain⟨sl,q⟩:=slot c o (I.Ng x c e) hc Pq ho (I.k0 x c e);exact⟨_,q,hd⟩
  exact⟨o,keep c o (I.Ng x c e) hc Pq ho (I.k0 x c e),hd⟩
 refine⟨I.ok,I.os,hg,⟨λb o e n hb hx=>?_,λb o e n hb hx=>?_,λb o e n hx=>?_,λb o e hx=>?_,λb xs e=>oR b xs (I.base.oR b xs e),λb o xs e=>mT b o xs (I.base.mT b o xs e),λb ps e=>?_⟩,?_,λx c e=>?_,?_,λx c e=>?_,λp hp=>?_,cC,I.len⟩
 .exact keep b o (YC b o e) hb (NO b o e hx) (I.base.keep b o e n hb hx) (I.base.free b o e n hx)
 .obtain⟨sl,e1⟩:=I.base.slot b o e n hb hx;obtain⟨TV,e2⟩:=slot b _ (YC b o e) hb (NO b o e hx) e1 (I.base.free b o e n hx);exact⟨TV,e2⟩
 .obtain⟨o',e1⟩:=I.base.there b o e hx;exact free b o' (NO b o e hx) e1 (I.base.free b o e n hx)
 .obtain⟨o',e1⟩:=I.base.there b o e hx;exact there b o' (NO b o e hx) e1
 .obtain⟨m1,e1⟩:=I.base.nr b ps e;obtain⟨m2,e2⟩:=nr b _ e1;exact⟨m1++m2,by rw [e2,Array.append_assoc]⟩
 .obtain⟨m,hn,hl⟩:=I.loc;refine⟨m,ns m hn,λi x v e1 e2 e3=>?_⟩;obtain⟨u,r,l⟩:=hl i x v e1 e2 e3;refine⟨u,r,?_⟩;rcases l with l | ⟨k,c,e,z⟩
  .exact .inl l
  exact .inr ⟨k,c,e,cellK x c e _ z⟩
 .obtain⟨v,z⟩:=I.cell x c e;exact⟨v,cellK x c e v z⟩
 .obtain⟨m,⟨o,_,_,ho,_⟩,_⟩:=I.loc;exact free _ o (λz=>(HG _ z).2.1 rfl) ho I.free
 .obtain⟨v,o,ho,hd⟩:=I.cell x c e;exact free c o (λz=>(HG c z).2.2.1 x c e rfl) ho (I.k0 x c e)
 obtain⟨e,n,ne,nf,d⟩:=I.pin p hp;have Pq:p.1∉ch:=λz=>(HG p.1 z).2.2.2 p hp rfl;exact⟨keep p.1 p.2 ne nf Pq e n,free p.1 p.2 Pq e n,ne,nf,d⟩
def Inv.un {t':Nat}(I:Inv X aj σ H s)(u:Un X.fs [] H H' s.heap h')(cC:mi X.prog X.w H' h'):Inv X aj σ H' { s with heap:=h',toks:=t' }:=by
 obtain⟨m,⟨o,es,ep,ho,r⟩,_⟩:=id I.loc;obtain⟨sl,hL⟩:=u.any ho I.free (by simp);exact I.step (g':=s.gens) (d':=s.drawn) (ch:=[]) (λ_ z=>nomatch z) (λb o _ hb _ e n=>u.keep b o e n hb (by simp)) (λb o _ hb _ e n=>u.slot b o e n hb (by simp)) (λb o _ e n=>u.free b o e n (by simp)) (λb o _ e=>u.there b o e (by simp)) u.oR u.mT u.nr (λm' hm=>by
  obtain⟨o',wJ,Wd,F6,r'⟩:=hm;rw [ho] at F6;cases F6;exact⟨_,wJ,Wd,hL,r'⟩) cC I.bare
def Inv.call {g':Array GenState}{t':Nat}{d':Drawn}{ch:List Addr}(I:Inv X aj σ H s)(u:Un (CV X.stack) ch H H' s.heap h')(cC:mi X.prog X.w H' h')(hg:AllBare g')
  (HG:∀b∈ch,(b∈X.ex\/X.s₀.heap.objs.size<=b)/\b≠X.env.locals/\(∀x c,X.env.cells.lookup x=some c->c≠b)/\∀p∈X.pn++aj,p.1≠b) :
  Inv X aj σ H' { s with heap:=h',gens:=g',drawn:=d',toks:=t' }:=by
 obtain⟨m,⟨o,es,ep,ho,r⟩,_⟩:=id I.loc;obtain⟨sl,hL⟩:=u.any ho I.free λz=>(HG _ z).2.1 rfl;exact I.step (ch:=ch) HG (λb o hL hb hc e n=>u.keep b o e n (λz=>(b8.mp (I.zd b z)).elim hL hb) hc) (λb o _ _ hc e n=>u.any e n hc) (λb o hc e n=>u.free b o e n hc) (λb o hc e=>u.there b o e hc) u.oR u.mT u.nr (λm' hm=>by
  obtain⟨o',wJ,Wd,F6,r'⟩:=hm;rw [ho] at F6;cases F6;exact⟨_,wJ,Wd,hL,r'⟩) cC hg
def Inv.turned {t':Nat}{it:Addr}(I:Inv X aj σ H s)(k:∀b o,b≠it->s.heap.get? b=some o->h'.get? b=some o)(hn:H it=none)(hL:it≠X.env.locals)
  (h1:it∈X.ex\/X.s₀.heap.objs.size<=it)(h2:∀x c,X.env.cells.lookup x=some c->c≠it)(h3:∀p∈X.pn++aj,p.1≠it):Inv X aj σ H { s with heap:=h',toks:=t' }:=by
 have YA:∀b u,H b=some u->b≠it:=λb u e z=>by rw [z,hn] at e;cases e
 refine I.step (g':=s.gens) (d':=s.drawn) (ch:=[it]) (λb hb=>?_) (λb o _ _ hc e _=>k b o (λz=>hc (by simp [z])) e) (λb o _ _ hc e _=>⟨o.slots,k b o (λz=>hc (by simp [z])) e⟩) (λ_ _ _ _ n=>n)
  (λb o hc e=>⟨o,k b o (λz=>hc (by simp [z])) e⟩) (λ_ _ e=>e) (λ_ _ _ e=>e) (λb ps e=>⟨#[],by rw [e];simp⟩) (λm hm=>?_) (λb u e=>?_) I.bare
 .have e:b=it:=by simpa using hb
  subst e;exact⟨h1,hL,h2,h3⟩
 .obtain⟨o,es,ep,ho,r⟩:=hm;exact⟨o,es,ep,k _ o (fO hL) ho,r⟩
 refine(I.cC b u e).kO (λc v hc q=>k c v ?_ q) (λ_ q=>q) λ_ _ q=>q;rcases hc with z | z
 .rw [z];exact YA b u e
 exact YA c _ z
def Inv.tok (I:Inv X aj σ H s) (t:Nat):Inv X aj σ H { s with toks:=t }:=I.un (h':=s.heap) (t':=t) Un.refl I.cC
theorem Inv.kept {t':Nat}(I:Inv X aj σ H s)(k:∀b u,s.heap.get? b=some u->h'.get? b=some u):Inv X aj σ H { s with heap:=h',toks:=t' }:=I.un (Un.kept k) (I.cC.kept k)
theorem Inv.laid {a:Addr}{o:HO}{t':Nat}(I:Inv X aj σ H s)(k:∀b u,s.heap.get? b=some u->h'.get? b=some u)(hp:s.heap.objs.size<=a)(new:cW X.prog X.w (upd H a o) h' a o) :
  Inv X aj σ (upd H a o) { s with heap:=h',toks:=t' }:=I.un (Un.laid k hp (I.cC.fresh hp)) (I.cC.laid k hp new)
theorem Inv.write {x e:Addr}{o:HO}{t':Nat}(I:Inv X aj σ H s)(mu:Ru (H x))(he:e=x\/H e=some (.own x))(k:∀b u,b≠e->s.heap.get? b=some u->h'.get? b=some u)(N1:∃u,h'.get? e=some u)
  (new:cW X.prog X.w (upd H x o) h' x o):Inv X aj σ (upd H x o) { s with heap:=h',toks:=t' }:=I.un (Un.write mu he k N1) (I.cC.write mu he k N1 new)
def Inv.Bm {ka:List (Addr×Obj)}(I:Inv X aj σ H s)(h:∀p∈ka,s.heap.get? p.1=some p.2/\H p.1=none/\p.1≠X.env.locals/\p.1∉X.fs/\∀v,p.2.data≠.cell v):Inv X ka σ H s :=
 ⟨I.ok,I.os,I.bare,I.base,I.loc,I.cell,I.free,I.k0,λp hp=>(cg.mp hp).elim (λz=>I.pin p (j8 _ z)) (h p),I.cC,I.len⟩
def xK {N:List Str}(hN:N.Nodup){i j:Nat}{x:Str}(a:N[i]?=some x)(b:N[j]?=some x):i=j:=by
 obtain⟨h1,e1⟩:=bf.mp a;obtain⟨h2,e2⟩:=bf.mp b;exact(u5 hN).mp (e1.trans e2.symm)
noncomputable def uf {M:Model}{A:Around}{E:Value->Shared->Prop}{i:Nat}{x:Str}{v:V}{u:Value}{Q:Unit->Shared->Prop}(I:Inv X aj σ H s)(hN:X.N.Nodup)(hi:X.N[i]?=some x)(hx:Loc X.env.scope x)(r:RelV v u)
  (h:∀s',Inv X aj (σ.set i (some v)) H s'->(∃a,Heap.SameBut a s.heap s'.heap/\(a=X.env.locals\/X.env.cells.lookup x=some a))->Q () s')(hf:X.fn x=true\/X.env.scope.names.lookup x=some .local:=by first | exact .inl rfl | exact .inr rfl | assumption):wpAny M A (storeName X.env x u) Q E s:=by
 obtain⟨m,hn,hl⟩:=id I.loc;have VO:(X.env.scope.kind == .class || (X.env.scope.kind == .module && X.env.locals != X.env.globals))=false:=by rw [I.ok.kind];rfl
 have Zi:i < σ.length:=by rw [I.len];exact(bf.mp hi).1
 have Ng:=I.Ng;have tracked:∀{a:Addr}{h':Heap},(∃o,s.heap.get? a=some o/\H a=none)->Heap.SameBut a s.heap h'->mi X.prog X.w H h':=λ{a h'} ha hs b ob e=>by
  obtain⟨_,_,nW⟩:=ha;refine(I.cC b ob e).kO (λc w' hc q=>(hs.2 c ?_).trans q) (λ_ q=>q) λ_ _ q=>q;rintro rfl;rcases hc with rfl | hc
  .rw [nW] at e;cases e
  rw [nW] at hc;cases hc
 rcases hx with hk | hk
 .refine wpAny_storeName_local hk hn (λh' Ga hs=>?_) VO;obtain⟨oL,_,_,hoL,_⟩:=id hn;refine h _ ⟨I.ok,I.os,I.bare,⟨λb o e n hb hx=>?_,λb o e n hb hx=>?_,I.base.free,λb o e hx=>?_,I.base.oR,I.base.mT,I.base.nr⟩,⟨_,Ga,λj y v' e1 e2 e3=>?_⟩,λy c e=>?_,I.free,I.k0,λp hp=>?_,tracked ⟨oL,hoL,I.free⟩ hs,by simpa using I.len⟩ ⟨_,hs,.inl rfl⟩
  .exact(hs.2 b (cu (gk (bR e) I.ok.above))).trans (I.base.keep b o e n hb hx)
  .obtain⟨sl,e1⟩:=I.base.slot b o e n hb hx;exact⟨sl,(hs.2 b (cu (gk (bR e) I.ok.above))).trans e1⟩
  .obtain⟨o',e1⟩:=I.base.there b o e hx;exact⟨o',(hs.2 b (cu (gk (bR e) I.ok.above))).trans e1⟩
  .by_cases hj:j=i
   .subst hj;rw [hi] at e1;cases e1;rw [List.getElem?_set_self Zi] at e2;cases e2;exact⟨u,r,.inl ⟨hk,by simp⟩⟩
   rw [List.getElem?_set_ne (fO hj)] at e2;obtain⟨u',r',q⟩:=hl j y v' e1 e2 e3;refine⟨u',r',?_⟩;rcases q with ⟨k,e⟩ | ⟨k,c,e,z⟩
   .refine .inl ⟨k,?_⟩;have:y≠x:=λe=>hj (xK hN e1 (e ▸ hi));simp [this,e]
   exact .inr ⟨k,c,e,z.sameBut hs (Ng y c e)⟩
  .obtain⟨w',z⟩:=I.cell y c e;exact⟨w',z.sameBut hs (Ng y c e)⟩
  obtain⟨e,n,ne,nf,d⟩:=I.pin p hp;exact⟨(hs.2 p.1 ne).trans e,n,ne,nf,d⟩
 have VF:X.fn x=true:=by
  rcases hf with z | z
  .exact z
  rw [z] at hk;cases hk
 obtain⟨c,hc⟩:=I.ok.has x (.inl hk);obtain⟨w',z⟩:=I.cell x c hc;refine wpAny_storeName_cell I.ok.kind hk hc z (λh' mS hs=>?_);obtain⟨oc,yH,Vo⟩:=id z;refine h { s with heap:=h' } ⟨I.ok,I.os,I.bare,⟨λb o e n hb hx=>?_,λb o e n hb hx=>?_,I.base.free,λb o e hx=>?_,I.base.oR,I.base.mT,I.base.nr⟩,⟨m,hn.sameBut hs (fO (Ng x c hc)),λj y v' e1 e2 e3=>?_⟩,λy c' e=>?_,I.free,I.k0,λp hp=>?_,tracked ⟨oc,yH,I.k0 x c hc⟩ hs,by simpa using I.len⟩ ⟨c,hs,.inr hc⟩
 .exact(hs.2 b (cu (gk (bR e) (I.ok.Ra x c VF hc)))).trans (I.base.keep b o e n hb hx)
 .obtain⟨sl,e1⟩:=I.base.slot b o e n hb hx;exact⟨sl,(hs.2 b (cu (gk (bR e) (I.ok.Ra x c VF hc)))).trans e1⟩
 .obtain⟨o',e1⟩:=I.base.there b o e hx;exact⟨o',(hs.2 b (cu (gk (bR e) (I.ok.Ra x c VF hc)))).trans e1⟩
 .by_cases hj:j=i
  .subst hj;rw [hi] at e1;cases e1;rw [List.getElem?_set_self Zi] at e2;cases e2;exact⟨u,r,.inr ⟨.inl hk,c,hc,mS⟩⟩
  rw [List.getElem?_set_ne (fO hj)] at e2;obtain⟨u',r',q⟩:=hl j y v' e1 e2 e3;refine⟨u',r',?_⟩;rcases q with q | ⟨k,c',e,z'⟩
  .exact .inl q
  refine .inr ⟨k,c',e,z'.sameBut hs ?_⟩;rintro rfl;exact hj (xK hN e1 (I.ok.inj _ _ _ e hc ▸ hi))
 .by_cases Zn:c'=c
  .subst Zn;exact⟨_,mS⟩
  obtain⟨w2,z2⟩:=I.cell y c' e;exact⟨w2,z2.sameBut hs Zn⟩
 obtain⟨e,n,ne,nf,d⟩:=I.pin p hp;refine⟨(hs.2 p.1 ?_).trans e,n,ne,nf,d⟩;intro q;rw [q,yH] at e;have q':oc=p.2:=gO e;exact d w' (by rw [<-q'];exact Vo)
def rh {M:Model}{A:Around}{E:Value->Shared->Prop}{i:Nat}{x:Str}{v:V}{u:Value}{Q:Unit->Shared->Prop}(I:Inv X aj σ H s)(hN:X.N.Nodup)(hi:X.N[i]?=some x)(hx:Loc X.env.scope x)(r:RelV v u)
  (h:∀s',Inv X aj (σ.set i (some v)) H s'->Q () s')(hf:X.fn x=true\/X.env.scope.names.lookup x=some .local:=by first | exact .inl rfl | exact .inr rfl | assumption):wpAny M A (storeName X.env x u) Q E s :=
 uf I hN hi hx r (λs' I' _=>h s' I') hf
def Inv.KJ {s':Shared}{ch:List Addr}(I:Inv X aj σ H s)(ho:s'.os=s.os)(u:Un (CV X.stack) ch H H' s.heap s'.heap)(cC:mi X.prog X.w H' s'.heap)(hg:AllBare s'.gens)
  (HG:∀b∈ch,(b∈X.ex\/X.s₀.heap.objs.size<=b)/\b≠X.env.locals/\(∀x c,X.env.cells.lookup x=some c->c≠b)/\∀p∈X.pn++aj,p.1≠b):Inv X aj σ H' s':=by
 obtain⟨h',g',d',t',o'⟩:=s';have e:o'=s.os:=ho;subst e;exact I.call (g':=g') (t':=t') (d':=d') u cC hg HG
end
abbrev XK:=Value->Option Addr->Hp->Prop
abbrev St:=List (Option V)
abbrev aD (a:Addr):Option V:=some (.ref a)
abbrev VK:=V->Hp->Prop
abbrev TE:=St->Hp->VK->Prop
abbrev TT:=St->Hp->(Bool->Hp->Prop)->Prop
abbrev TA:=St->Hp->(List V->Hp->Prop)->Prop
structure Ends where
 nx:St->Hp->Prop
 rt:VK
 bk:St->Hp->Prop:=λ_ _=>False
 ct:St->Hp->Prop:=λ_ _=>False
abbrev TS:=Ends->St->Hp->Prop
def EP (X:Cx)(aj:List (Addr×Obj))(σ:St)(Q:VK)(u:Value)(s':Shared):Prop:=∃v H',Inv X aj σ H' s'/\RelV v u/\Q v H'
def TP (X:Cx)(aj:List (Addr×Obj))(σ:St)(Q:Bool->Hp->Prop)(b:Bool)(s':Shared):Prop:=∃H',Inv X aj σ H' s'/\Q b H'
def AP (X:Cx)(aj:List (Addr×Obj))(σ:St)(Q:List V->Hp->Prop)(us:List Value)(s':Shared):Prop:=∃vs H',Inv X aj σ H' s'/\bw vs us/\Q vs H'
def SP (X:Cx)(aj:List (Addr×Obj))(D:Ends)(f:Flow)(s':Shared):Prop :=
 match f with
 | .next=>∃σ' H',Inv X aj σ' H' s'/\D.nx σ' H'
 | .brk=>∃σ' H',Inv X aj σ' H' s'/\D.bk σ' H'
 | .cont=>∃σ' H',Inv X aj σ' H' s'/\D.ct σ' H'
 | .ret u=>∃v σ' H',Inv X aj σ' H' s'/\RelV v u/\D.rt v H'
def PE (X:Cx)(e:Expr)(t:TE):Prop :=
 ∀(aj:List (Addr×Obj))(s:Shared)(σ:St)(H:Hp)(Q:VK),Inv X aj σ H s->t σ H Q->wpAny (model X.prog X.w) X.A (eval e X.env) (EP X aj σ Q) X.xe s
def PT (X:Cx)(e:Expr)(t:TT):Prop :=
 ∀(aj:List (Addr×Obj))(s:Shared)(σ:St)(H:Hp)(Q:Bool->Hp->Prop),Inv X aj σ H s->t σ H Q->wpAny (model X.prog X.w) X.A (isTrue e X.env (eval e X.env)) (TP X aj σ Q) X.xe s
def PW (X:Cx)(e:Expr)(t:TT):Prop :=
 ∀(whole:Sem Value)(aj:List (Addr×Obj))(s:Shared)(σ:St)(H:Hp)(Q:Bool->Hp->Prop),Inv X aj σ H s->t σ H Q->wpAny (model X.prog X.w) X.A (isTrue e X.env whole) (TP X aj σ Q) X.xe s
def PW.pt {X:Cx}{e:Expr}{t:TT}(h:PW X e t):PT X e t:=h _
def PA (X:Cx)(es:List Expr)(t:TA):Prop :=
 ∀(pos:Pos)(aj:List (Addr×Obj))(s:Shared)(σ:St)(H:Hp)(Q:List V->Hp->Prop),Inv X aj σ H s->t σ H Q->wpAny (model X.prog X.w) X.A (spliced (backTo pos (starEach es X.env))) (AP X aj σ Q) X.xe s
def PS (X:Cx)(st:Stmt)(t:TS):Prop :=
 ∀(aj:List (Addr×Obj))(s:Shared)(σ:St)(H:Hp)(D:Ends),Inv X aj σ H s->t D σ H->wpAny (model X.prog X.w) X.A (exec st X.env) (SP X aj D) X.xe s
def AH (X:Cx)(st:List Stmt)(t:TS):Prop :=
 ∀(aj:List (Addr×Obj))(s:Shared)(σ:St)(H:Hp)(D:Ends),Inv X aj σ H s->t D σ H->wpAny (model X.prog X.w) X.A (execs st X.env) (SP X aj D) X.xe s
def dC {α:Type}{t:Sem α}{Q Q':α->Shared->Prop}{M:Model}{A:Around}{E:Value->Shared->Prop}{s:Shared}(h:wpAny M A t Q E s)(hQ:∀a s,Q a s->Q' a s):wpAny M A t Q' E s:=dY h hQ λ_ _ x=>x
section
variable {X:Cx}
def bin {a b:Expr}{ta tb:TE}(ha:PE X a ta)(hb:PE X b tb){aj:List (Addr×Obj)}{s:Shared}{σ:St}{H:Hp}{R:V->V->Hp->Prop}(I:Inv X aj σ H s)(h:ta σ H λx H1=>tb σ H1 λy H2=>R x y H2)
  {α:Type}{Q:α->Shared->Prop}{f:Value->Value->Sem α}
  (hf:∀v u s2 x y H2,Inv X aj σ H2 s2->RelV x v->RelV y u->R x y H2->wpAny (model X.prog X.w) X.A (f v u) Q X.xe s2) :
  wpAny (model X.prog X.w) X.A (eval a X.env) (λv s₁=>wpAny (model X.prog X.w) X.A (eval b X.env) (λu s₂=>wpAny (model X.prog X.w) X.A (f v u) Q X.xe s₂) X.xe s₁) X.xe s:=by
 refine dC (ha aj s σ H _ I h) λv s1 bN=>?_;obtain⟨x,H1,I1,r1,q1⟩:=bN;refine dC (hb aj s1 σ H1 _ I1 q1) λu s2 bN=>?_;obtain⟨y,H2,I2,r2,q2⟩:=bN;exact hf v u s2 x y H2 I2 r1 r2 q2
inductive Rj (o:Option (Option V))(R:V->Prop):Prop
|mk(v:V)(e:o=some (some v))(q:R v)
inductive XB (x:V)(R:Bool->Prop):Prop
|mk(c:Bool)(e:x=.bl c)(q:R c)
inductive Xm (x:V)(R:Int->Prop):Prop
|mk(i:Int)(e:x=.int i)(q:R i)
inductive XI0 (x y:V)(R:Int->Int->Prop):Prop
|mk(i j:Int)(e:x=.int i)(e2:y=.int j)(q:R i j)
inductive XI2 (x y:V)(C:Int->Int->Prop)(R:Int->Int->Prop):Prop
|mk(i j:Int)(e:x=.int i)(e2:y=.int j)(c:C i j)(q:R i j)
inductive KR (vs:List V)(R:V->List V->Prop):Prop
|mk(v:V)(r:List V)(e:vs=v::r)(q:R v r)
inductive Rk (v:V)(S:Addr->List V->Prop) (n:Nat)(R:List V->Prop):Prop
|mk(a:Addr)(xs:List V)(e:v=.ref a)(s:S a xs)(l:xs.length=n)(q:R xs)
inductive SV (x:V)(S:Addr->Prop)(R:Addr->Prop):Prop
|mk(a:Addr)(e:x=.ref a)(s:S a)(q:R a)
inductive Xk (x:V)(S:Addr->List V->Prop)(R:List V->Prop):Prop
|mk(a:Addr)(xs:List V)(e:x=.ref a)(s:S a xs)(q:R xs)
inductive Xp (S:Addr->List V->Prop)(x y:V)(R:List V->List V->Prop):Prop
|mk(a b:Addr)(xs ys:List V)(e:x=.ref a)(e2:y=.ref b)(s:S a xs)(s2:S b ys)(z:xs.length+ys.length<=sizeLine)(q:R xs ys)
inductive XRg (vs:List V)(R:Int->Prop):Prop
|mk(j:Int)(e:vs=[.int j])(l:-(2 ^ 62)<=j)(u:j < 2 ^ 62)(q:R j)
inductive Xn (vs:List V)(S:Addr->List V->Prop)(R:Addr->Prop):Prop
|mk(a:Addr)(xs:List V)(e:vs=[.ref a])(s:S a xs)(q:R a)
inductive Nn (xs:List V)(S:Addr->List V->Prop)(R:List V->Prop):Prop
|mk(p:Addr)(ys:List V)(e:xs=[.ref p])(s:S p ys)(q:R ys)
def fS (i:Nat):TE:=λσ H Q=>Rj σ[i]? λv=>Q v H
def tC (v:V):TE:=λ_ H Q=>Q v H
noncomputable def LI {i:Nat}{x:Str}{pos:Pos}(hN:X.N[i]?=some x)(hv:SW X.env.scope x)(hd:(x == ("__debug__":Str))=false:=by decide)(wF:(x == ("__classdict__":Str))=false:=by decide):PE X (.Name x pos) (fS i):=by
 intro aj s σ H Q I h;obtain⟨v,e,h⟩:=h;obtain⟨m,hn,hl⟩:=I.loc;obtain⟨u,r,l⟩:=hl i x v hN e hv;have fin:EP X aj σ Q u s:=⟨v,H,I,r,h⟩;rcases l with ⟨hk,hm⟩ | ⟨hk,c,hc,jB⟩
 .exact wpAny_Name (vb I.ok.kind hk hn hm fin) hd
 rcases hk with hk | hk
 .exact wpAny_Name (wpAny_loadName_cell I.ok.kind hk hc jB fin) hd
 exact wpAny_Name (wpAny_loadName_free I.ok.kind hk hc jB fin wF) hd
def ar {i j pos}:PE X (.Constant (.int i) j pos) (tC (.int i)):=λ_ _ _ H _ I h=>wpAny_Constant_int ⟨.int i,H,I.tok _,⟨_,rfl⟩,h⟩
def cI {b j pos}:PE X (.Constant (.bool b) j pos) (tC (.bl b)):=λ_ _ _ H _ I h=>Constant_bool ⟨.bl b,H,I,rfl,h⟩
def wa {j pos}:PE X (.Constant .none j pos) (tC .eZ):=λ_ _ _ H _ I h=>Constant_none ⟨.eZ,H,I,rfl,h⟩
def cU {x j pos}:PE X (.Constant (.str x) j pos) (tC (.str x)):=λ_ _ _ H _ I h=>Calls.Constant_str ⟨.str x,H,I.tok _,⟨_,rfl⟩,h⟩
def Gl (X:Cx)(x:Str):Prop:=X.env.kindOf x=some .globalImplicit
def wt {E:Value->Shared->Prop}{aj:List (Addr×Obj)}{s:Shared}{σ:St}{H:Hp}{x:Str}{u:Value}{pos:Pos}{Q:Value->Shared->Prop}(I:Inv X aj σ H s)(hg:Gl X x)(hm:X.mg x=some u)(h:Q u s)
  (hd:(x == ("__debug__":Str))=false:=by decide):wpAny (model X.prog X.w) X.A (eval (.Name x pos) X.env) Q E s :=
 Calls.Name_function_global I.ok.kind hg (Calls.loadGlobal_global (by rw [I.ok.glob];exact I.mod.glob.keeps I.bk) hm h) hd
def jX {E:Value->Shared->Prop}{aj:List (Addr×Obj)}{s:Shared}{σ:St}{H:Hp}{x:Str}{u:Value}{pos:Pos}{Q:Value->Shared->Prop}(I:Inv X aj σ H s)(hg:Gl X x)(hm:X.mg x=none)(hv:bootBuiltins x=some u)(h:Q u s)
  (hn:x ≠ "__name__" := by decide)(hd:(x == ("__debug__":Str))=false:=by decide):wpAny (model X.prog X.w) X.A (eval (.Name x pos) X.env) Q E s:=by
 obtain⟨mb,h1,h2⟩:=I.mod.blt;exact Calls.Name_function_global I.ok.kind hg (Calls.loadGlobal_builtin (by rw [I.ok.glob];exact I.mod.glob.keeps I.bk) hm (by rw [I.ok.blt];exact h1.keeps I.bk) ((h2 x hn).trans hv) h) hd
def ID {x:Str}{v:V}{u:Value}{pos:Pos}(hg:Gl X x)(hm:X.mg x=some u)(r:RelV v u)(hd:(x == ("__debug__":Str))=false:=by decide):PE X (.Name x pos) (tC v) :=
 λ_ _ _ H _ I h=>wt I hg hm ⟨v,H,I,r,h⟩ hd
def qr {x:Str}{v:V}{u:Value}{pos:Pos}(hg:Gl X x)(hm:X.mg x=none)(hv:bootBuiltins x=some u)(r:RelV v u)(hn:x ≠ "__name__" := by decide)(hd:(x == ("__debug__":Str))=false:=by decide):PE X (.Name x pos) (tC v) :=
 λ_ _ _ H _ I h=>jX I hg hm hv ⟨v,H,I,r,h⟩ hn hd
variable {a b:Expr}{ta tb:TE}{pos:Pos}
def PC (X:Cx)(op:CmpOp)(a b:Expr)(t:TE):Prop :=
 ∀(aj:List (Addr×Obj))(s:Shared)(σ:St)(H:Hp)(Q:VK),Inv X aj σ H s->t σ H Q ->
  wpAny (model X.prog X.w) X.A (eval a X.env) (λv s₁=>wpAny (model X.prog X.w) X.A (eval b X.env) (λu s₂=>wpAny (model X.prog X.w) X.A (compareOp op v u) (EP X aj σ Q) X.xe s₂) X.xe s₁) X.xe s
def xM (b:Expr){op:CmpOp}(h:op≠.In)(h2:op≠.NotIn):behindInMarks op b=false:=by
 have e1:(op == CmpOp.In)=false:=by cases op <;> first | rfl | exact absurd rfl h
 have e2:(op == CmpOp.NotIn)=false:=by cases op <;> first | rfl | exact absurd rfl h2
 cases b <;> simp [behindInMarks,e1,e2]
def TJ (ta:TE):TE:=λσ H Q=>ta σ H λx H1=>Q (.bl (decide (x=.eZ))) H1
def RelV.FD {x:V}{v:Value}(r:RelV x v):(v == Value.none)=decide (x=.eZ):=by
 cases x with
 | eZ=>cases r;rfl
 | bl _=>cases r;rfl
 | int _=>obtain⟨t,rfl⟩:=r;rfl
 | str _=>obtain⟨t,rfl⟩:=r;rfl
 | AE _=>obtain⟨t,rfl⟩:=r;rfl
 | MX _=>obtain⟨t,rfl⟩:=r;rfl
 | ref _=>cases r;rfl
 | ty _=>cases r;rfl
def LM {j pos'}(ha:PE X a ta):PC X .Is a (.Constant .none j pos') (TJ ta):=by
 intro aj s σ H Q I h;refine dC (ha aj s σ H _ I h) λv s1 bN=>?_;obtain⟨x,H1,I1,r1,q1⟩:=bN;exact Constant_none (is_none_gen ⟨.bl _,H1,I1,by rw [r1.FD];rfl,q1⟩)
def tB (t:TE):TT:=λσ H Q=>t σ H λx H1=>XB x λc=>Q c H1
noncomputable def mH {op:CmpOp}{t:TE}(h:PC X op a b t)(h1:behindInMarks op b=false:=by first | exact xM _ nofun nofun | rfl):PE X (.Compare a [op] [b] pos) t:=λaj s σ H Q I hw=>wpAny_Compare1 (h aj s σ H Q I hw) h1
def dP {op:CmpOp}{t:TE}(h:PC X op a b t)(h1:behindInMarks op b=false:=by first | exact xM _ nofun nofun | rfl):PT X (.Compare a [op] [b] pos) (tB t):=by
 intro aj s σ H Q I hw;refine wpAny_isTrue_Compare1 (dC (h aj s σ H _ I hw) λv s1 h1=>dC h1 λu s2 h2=>dC h2 λc s3 bN=>?_) h1;obtain⟨x,H1,I1,r1,q1⟩:=bN;obtain⟨d,rfl,q⟩:=q1;cases r1;exact m_ ⟨H1,I1,q⟩
noncomputable def dJ {e:Expr}{t:TE}(h:PE X e t)(he:∀whole,isTrue e X.env whole=(do let v <-whole;standAt e.pos;holding [v] (truthy v)):=by intro _;rfl):PT X e (tB t):=by
 intro aj s σ H Q I hw;refine isTrue_plain (dC (h aj s σ H _ I hw) λv s1 bN=>?_) (he _);obtain⟨x,H1,I1,r1,q1⟩:=bN;obtain⟨d,rfl,q⟩:=q1;cases r1;exact m_ ⟨H1,I1,q⟩
variable {tA RM:TT}{rest:List Expr}
def TQ (t u:TT):TT:=λσ H Q=>t σ H λc H1=>if c=true then u σ H1 Q else Q false H1
def tOr (t u:TT):TT:=λσ H Q=>t σ H λc H1=>if c=true then Q true H1 else u σ H1 Q
def TF (t:TT):TT:=λσ H Q=>t σ H λc H1=>Q (!c) H1
def gA (ha:PT X a tA):PW X (.BoolOp .And [a] pos) tA:=by
 intro wh aj s σ H Q I h;refine isTrue_and (dC (ha aj s σ H Q I h) λc s1 e=>?_);cases c with
 | true=>exact isTrue_and_nil e
 | false=>exact e
def jd (ha:PT X a tA):PW X (.BoolOp .Or [a] pos) tA:=by
 intro wh aj s σ H Q I h;refine isTrue_or (dC (ha aj s σ H Q I h) λc s1 e=>?_);cases c with
 | false=>exact isTrue_or_nil e
 | true=>exact e
def ig (ha:PT X a tA)(hb:PW X (.BoolOp .And (b::rest) pos) RM):PW X (.BoolOp .And (a::b::rest) pos) (TQ tA RM):=by
 intro wh aj s σ H Q I h;refine isTrue_and (dC (ha aj s σ H _ I h) λc s1 bN=>?_);obtain⟨H1,I1,q1⟩:=bN;cases c with
 | true=>exact hb wh aj s1 σ H1 Q I1 q1
 | false=>exact⟨H1,I1,q1⟩
def jv (ha:PT X a tA)(hb:PW X (.BoolOp .Or (b::rest) pos) RM):PW X (.BoolOp .Or (a::b::rest) pos) (tOr tA RM):=by
 intro wh aj s σ H Q I h;refine isTrue_or (dC (ha aj s σ H _ I h) λc s1 bN=>?_);obtain⟨H1,I1,q1⟩:=bN;cases c with
 | true=>exact⟨H1,I1,q1⟩
 | false=>exact hb wh aj s1 σ H1 Q I1 q1
def iN (ha:PT X a tA):PT X (.UnaryOp .Not a pos) (TF tA):=by
 intro aj s σ H Q I h;exact isTrue_not (ha aj s σ H (λc H1=>Q (!c) H1) I h)
def OR (ta tb:TE):TE:=λσ H Q=>ta σ H λx H1=>XB x λc=>if c=true then tb σ H1 Q else Q (.bl false) H1
def TC (ta tb:TE):TE:=λσ H Q=>ta σ H λx H1=>XB x λc=>if c=true then Q (.bl true) H1 else tb σ H1 Q
def OF (ta:TE):TE:=λσ H Q=>ta σ H λx H1=>XB x λc=>Q (.bl (!c)) H1
def jS {op}{t:TE}(h:PE X a t):PE X (.BoolOp op [a] pos) t:=λaj s σ H Q I hw=>BoolOp_one (h aj s σ H Q I hw)
def jT (ha:PE X a ta)(hb:PE X (.BoolOp .And (b::rest) pos) tb):PE X (.BoolOp .And (a::b::rest) pos) (OR ta tb):=by
 intro aj s σ H Q I h;refine BoolOp_and (dC (ha aj s σ H _ I h) λv s1 bN=>?_);obtain⟨x,H1,I1,r1,q1⟩:=bN;obtain⟨c,rfl,q1⟩:=q1;cases r1;refine m_ ?_;cases c with
 | true=>exact hb aj s1 σ H1 Q I1 q1
 | false=>exact⟨.bl false,H1,I1,rfl,q1⟩
def J3 (ha:PE X a ta)(hb:PE X (.BoolOp .Or (b::rest) pos) tb):PE X (.BoolOp .Or (a::b::rest) pos) (TC ta tb):=by
 intro aj s σ H Q I h;refine BoolOp_or (dC (ha aj s σ H _ I h) λv s1 bN=>?_);obtain⟨x,H1,I1,r1,q1⟩:=bN;obtain⟨c,rfl,q1⟩:=q1;cases r1;refine m_ ?_;cases c with
 | false=>exact hb aj s1 σ H1 Q I1 q1
 | true=>exact⟨.bl true,H1,I1,rfl,q1⟩
def LK (ha:PE X a ta):PE X (.UnaryOp .Not a pos) (OF ta):=by
 intro aj s σ H Q I h;refine UnaryOp_ (dC (ha aj s σ H _ I h) λv s1 bN=>?_);obtain⟨x,H1,I1,r1,q1⟩:=bN;obtain⟨c,rfl,q1⟩:=q1;cases r1;exact not_of (m_ ⟨.bl (!c),H1,I1,rfl,q1⟩)
def tIf (t:TT)(ta tb:TE):TE:=λσ H Q=>t σ H λc H1=>if c=true then ta σ H1 Q else tb σ H1 Q
def rL {c:Expr}(hc:PT X c tA)(ha:PE X a ta)(hb:PE X b tb):PE X (.IfExp c a b pos) (tIf tA ta tb):=by
 intro aj s σ H Q I h;refine wpAny_IfExp (dC (hc aj s σ H _ I h) λd s1 bN=>?_);obtain⟨H1,I1,q1⟩:=bN;cases d with
 | true=>exact ha aj s1 σ H1 Q I1 q1
 | false=>exact hb aj s1 σ H1 Q I1 q1
end
def aG (K:bp)(H:Hp)(a:Addr)(xs:List V):Prop :=
 Rd H a (.lst xs) \/
  ∃(o:Obj)(aW:Array Value) (n:Nat),K.lookup a=some o/\o.cls=.type "list" /\ o.dict=none/\o.data=.seq aW n/\aW.size<=sizeLine/\bw xs aW.toList
def a_ (K:bp)(H:Hp)(a:Addr)(xs:List V):Prop :=
 Rd H a (.tup xs) \/
  ∃(o:Obj)(aW:Array Value) (n:Nat),K.lookup a=some o/\o.cls=.type "tuple" /\ o.data=.seq aW n/\aW.size<=sizeLine/\bw xs aW.toList
noncomputable def Xi:Value->Option V
 | .none=>some .eZ
 | .bool b=>some (.bl b)
 | .int i _=>some (.int i)
 | .str x _=>some (.str x)
 | .bytes b _=>some (.AE b)
 | .float b _=>some (.MX b)
 | .ref a=>some (.ref a)
 | .type n=>some (.ty n)
 | _=>none
def RelV.abs {x:V}{u:Value}(r:RelV x u):Xi u=some x:=by
 cases x with
 | eZ=>cases r;rfl
 | bl _=>cases r;rfl
 | int _=>obtain⟨t,rfl⟩:=r;rfl
 | str _=>obtain⟨t,rfl⟩:=r;rfl
 | AE _=>obtain⟨t,rfl⟩:=r;rfl
 | MX _=>obtain⟨t,rfl⟩:=r;rfl
 | ref _=>cases r;rfl
 | ty _=>cases r;rfl
def RelV.inj {x y:V}{u:Value}(r:RelV x u)(q:RelV y u):x=y:=gO (r.abs.symm.trans q.abs)
theorem bw.inj:∀{xs ys:List V}{us:List Value},bw xs us->bw ys us->xs=ys
 | _,_,_,.nil,.nil=>rfl
 | _,_,_,.cons r t,.cons r' t'=>by rw [r.inj r',bw.inj t t']
section
variable {X:Cx}{aj:List (Addr×Obj)}{σ:St}{H:Hp}{s:Shared}{a:Addr}{xs ys:List V}
def aG.of {K:bp}(h:H a=some (.lst xs)):aG K H a xs:=.inl (.inl h)
def a_.of {K:bp}(h:H a=some (.tup xs)):a_ K H a xs:=.inl (.inl h)
def Inv.list (I:Inv X aj σ H s)(h:aG X.K H a xs):∃aW:List Value,bw xs aW/\PlainL s.heap a aW.toArray/\xs.length<=sizeLine:=by
 rcases h with h | ⟨o,aW,n,hk,hc,hd,hs,hz,r⟩
 .obtain⟨z,aW,n,r,e⟩:=h.ok I.cC;exact⟨aW,r,⟨_,n,e,rfl,rfl,rfl⟩,z⟩
 refine⟨aW.toList,r,⟨o,n,I.wu a o hk,hc,hd,by simpa using hs⟩,?_⟩;have e:=r.length;simp only [qT] at e;omega
def Inv.tuple (I:Inv X aj σ H s)(h:a_ X.K H a xs):∃aW:List Value,bw xs aW/\IsTup s.heap a aW.toArray/\xs.length<=sizeLine:=by
 rcases h with h | ⟨o,aW,n,hk,hc,hs,hz,r⟩
 .obtain⟨z,aW,r,p⟩:=h.ok I.cC;exact⟨aW,r,p,z⟩
 refine⟨aW.toList,r,⟨o,I.wu a o hk,hc,n,by simpa using hs⟩,?_⟩;have e:=r.length;simp only [qT] at e;omega
def Inv.rT (I:Inv X aj σ H s)(h:aG X.K H a xs)(h':aG X.K H a ys):xs=ys:=by
 obtain⟨aW,r,⟨o,n,e,_,_,d⟩,_⟩:=I.list h;obtain⟨wz,r',⟨o',n',e',_,_,d'⟩,_⟩:=I.list h';rw [e] at e';cases e';rw [d] at d';injection d' with d1 _;have:aW=wz:=by simpa using congrArg Array.toList d1
 subst this;exact r.inj r'
def Inv.iF (I:Inv X aj σ H s)(h:a_ X.K H a xs)(h':a_ X.K H a ys):xs=ys:=by
 obtain⟨aW,r,⟨o,e,_,n,d⟩,_⟩:=I.tuple h;obtain⟨wz,r',⟨o',e',_,n',d'⟩,_⟩:=I.tuple h';rw [e] at e';cases e';rw [d] at d';injection d' with d1 _;have:aW=wz:=by simpa using congrArg Array.toList d1
 subst this;exact r.inj r'
end
noncomputable abbrev Cx.pZ (X:Cx)(E:Value->Shared->Prop):Cx:={ X with xe:=E }
noncomputable abbrev Cx.CC (X:Cx):Cx:=X.pZ λ_ _=>False
theorem Cx.Ok.pZ {X:Cx}(ok:X.Ok)(E:Value->Shared->Prop):(X.pZ E).Ok :=
 ⟨ok.mod,ok.kind,ok.glob,ok.blt,ok.above,ok.inj,ok.has,ok.Ra,ok.hd,ok.frames,ok.RR,ok.N6,ok.bs,ok.HV,ok.FE,ok.CZ,ok.pj,ok.Ku⟩
def Cx.Ok.jb {X:Cx}{E:Value->Shared->Prop}(ok:(X.pZ E).Ok):X.Ok :=
 ⟨ok.mod,ok.kind,ok.glob,ok.blt,ok.above,ok.inj,ok.has,ok.Ra,ok.hd,ok.frames,ok.RR,ok.N6,ok.bs,ok.HV,ok.FE,ok.CZ,ok.pj,ok.Ku⟩
section
variable {X:Cx}{aj:List (Addr×Obj)}{σ:St}{H:Hp}{s:Shared}{E:Value->Shared->Prop}
theorem Inv.pZ (I:Inv X aj σ H s)(E:Value->Shared->Prop):Inv (X.pZ E) aj σ H s:=⟨I.ok.pZ E,I.os,I.bare,I.base,I.loc,I.cell,I.free,I.k0,I.pin,I.cC,I.len⟩
theorem Inv.jb (I:Inv (X.pZ E) aj σ H s):Inv X aj σ H s:=⟨I.ok.jb,I.os,I.bare,I.base,I.loc,I.cell,I.free,I.k0,I.pin,I.cC,I.len⟩
theorem SP.jb {D:Ends}{f:Flow}{s':Shared}(h:SP (X.pZ E) aj D f s'):SP X aj D f s':=by
 cases f with
 | next=>obtain⟨σ',H',I,q⟩:=h;exact⟨σ',H',I.jb,q⟩
 | brk=>obtain⟨σ',H',I,q⟩:=h;exact⟨σ',H',I.jb,q⟩
 | cont=>obtain⟨σ',H',I,q⟩:=h;exact⟨σ',H',I.jb,q⟩
 | ret u=>obtain⟨v,σ',H',I,r,q⟩:=h;exact⟨v,σ',H',I.jb,r,q⟩
theorem PE.CC {e:Expr}{t:TE}(h:PE X.CC e t):PE X e t:=λaj s σ H Q I hw =>
 dY (h aj s σ H Q (I.pZ _) hw) (λ_ _ ⟨v,H',I',r,q⟩=>⟨v,H',I'.jb,r,q⟩) λ_ _ z=>False.elim z
theorem PT.CC {e:Expr}{t:TT}(h:PT X.CC e t):PT X e t:=λaj s σ H Q I hw =>
 dY (h aj s σ H Q (I.pZ _) hw) (λ_ _ ⟨H',I',q⟩=>⟨H',I'.jb,q⟩) λ_ _ z=>False.elim z
theorem AH.CC {st:List Stmt}{t:TS}(h:AH X.CC st t):AH X st t:=λaj s σ H D I hw =>
 dY (h aj s σ H D (I.pZ _) hw) (λ_ _ q=>q.jb) λ_ _ z=>False.elim z
end
section
variable {X:Cx}{st:Stmt}{rest:List Stmt}{t u:TS}{e:Expr}{te:TE}{pos:Pos}
def OG:TS:=λD σ H=>D.nx σ H
def K8 (t u:TS):TS:=λD σ H=>t { D with nx:=u D } σ H
def aI:AH X [] OG:=λ_ _ σ H _ I h=>wpAny_execs_nil ⟨σ,H,I,h⟩
def ag (h1:PS X st t)(h2:AH X rest u):AH X (st::rest) (K8 t u):=by
 intro aj s σ H D I h;refine wpAny_execs_cons (dC (h1 aj s σ H { D with nx:=u D } I h) λf s1 q=>?_);cases f with
 | next =>
  obtain⟨σ',H',I',q⟩:=q;exact h2 aj s1 σ' H' D I' q
 | ret v=>exact q
 | brk=>exact q
 | cont=>exact q
def ao (h1:PS X st t):AH X [st] t:=by
 intro aj s σ H D I h;refine wpAny_execs_cons (dC (h1 aj s σ H D I h) λf s1 q=>?_);cases f with
 | next=>exact wpAny_execs_nil q
 | ret v=>exact q
 | brk=>exact q
 | cont=>exact q
def Lc:TS:=λD σ H=>D.bk σ H
def xB:PS X (.Break pos) Lc:=λ_ _ σ H _ I h=>wpAny_Break ⟨σ,H,I,h⟩
def Inv.quiet {aj:List (Addr×Obj)}{σ:St}{H:Hp}{s:Shared}(I:Inv X aj σ H s):interactive X.env=false:=by simp [interactive,I.ok.kind]
def OM (te:TE):TS:=λD σ H=>te σ H λ_ H1=>D.nx σ H1
def du (he:PE X e te)(hs:swapsWith e none pos.line X.env=pure false:=by rfl):PS X (.Expr e pos) (OM te):=by
 intro aj s σ H D I h;refine wpAny_Expr_any (dC (he aj s σ H _ I h) λv s1 bN=>?_) I.quiet hs;obtain⟨x,H1,I1,r1,q1⟩:=bN;exact⟨σ,H1,I1,q1⟩
def TB (te:TE):TS:=λD σ H=>te σ H D.rt
def aL (he:PE X e te):PS X (.Return (some e) pos) (TB te):=by
 intro aj s σ H D I h;refine wpAny_Return_some (dC (he aj s σ H _ I h) λv s1 bN=>?_);obtain⟨x,H1,I1,r1,q1⟩:=bN;exact⟨x,σ,H1,I1,r1,q1⟩
def TK (c:TT)(t u:TS):TS:=λD σ H=>c σ H λb H1=>if b=true then t D σ H1 else u D σ H1
def bz {c:Expr}{a b:List Stmt}{tc:TT}(hc:PT X c tc)(ha:AH X a t)(hb:AH X b u):PS X (.If c a b pos) (TK tc t u):=by
 intro aj s σ H D I h;refine wpAny_If (dC (hc aj s σ H _ I h) λd s1 bN=>?_);obtain⟨H1,I1,q1⟩:=bN;cases d with
 | true=>exact ha aj s1 σ H1 D I1 q1
 | false=>exact hb aj s1 σ H1 D I1 q1
def K9:TS:=λ_ _ _=>False
def iO:PS X st K9:=λ_ _ _ _ _ _ h=>h.elim
end
abbrev TG:=V->St->Hp->(St->Hp->Prop)->Prop
abbrev KS:=List V->St->Hp->(St->Hp->Prop)->Prop
def PG (X:Cx)(target:Expr)(t:TG):Prop :=
 ∀(aj:List (Addr×Obj))(s:Shared)(σ:St)(H:Hp)(v:V)(u:Value)(Q:St->Hp->Prop),Inv X aj σ H s->RelV v u->t v σ H Q ->
  wpAny (model X.prog X.w) X.A (assign target X.env u) (λ_ s'=>∃σ' H',Inv X aj σ' H' s'/\Q σ' H') X.xe s
def Rp (X:Cx)(ts:List Expr)(t:KS):Prop :=
 ∀(aj:List (Addr×Obj))(s:Shared)(σ:St)(H:Hp)(vs:List V)(us:List Value)(Q:St->Hp->Prop),Inv X aj σ H s->bw vs us->t vs σ H Q ->
  wpAny (model X.prog X.w) X.A (assignInOrder ((assignEach ts X.env).map (·.2)) us) (λ_ s'=>∃σ' H',Inv X aj σ' H' s'/\Q σ' H') X.xe s
abbrev SX:=V->V->Hp->VK->Prop
def PIp (X:Cx)(op:Operator)(t:SX):Prop :=
 ∀(aj:List (Addr×Obj))(s:Shared)(σ:St)(H:Hp)(x y:V)(v u:Value)(Q:VK),Inv X aj σ H s->RelV x v->RelV y u->t x y H Q ->
  wpAny (model X.prog X.w) X.A (inplaceOp op v u) (EP X aj σ Q) X.xe s
section
variable {X:Cx}{pos:Pos}
def dB (i:Nat):TG:=λv σ H Q=>Q (σ.set i (some v)) H
def aq {i:Nat}{x:Str}(hN:X.N.Nodup)(hi:X.N[i]?=some x)(hx:Loc X.env.scope x)(hf:X.fn x=true\/X.env.scope.names.lookup x=some .local:=by first | exact .inl rfl | exact .inr rfl | assumption):PG X (.Name x pos) (dB i):=by
 intro aj s σ H v u Q I r h;exact wpAny_assign_Name (rh I hN hi hx r (λs' I'=>⟨_,H,I',h⟩) hf)
def CU:KS:=λvs σ H Q=>vs=[]/\Q σ H
def jE (t:TG)(u:KS):KS:=λvs σ H Q=>KR vs λv r=>t v σ H λσ' H'=>u r σ' H' Q
def bo:Rp X [] CU:=by
 intro aj s σ H vs us Q I r h;obtain⟨e,h⟩:=h;subst e;cases r;exact assignInOrder_nil ⟨σ,H,I,h⟩
def av {e:Expr}{es:List Expr}{t:TG}{u:KS}(h1:PG X e t)(h2:Rp X es u)
  (hs:(assignEach (e::es) X.env).map (·.2)=assign e X.env::(assignEach es X.env).map (·.2):=by rfl):Rp X (e::es) (jE t u):=by
 intro aj s σ H vs us Q I r h;obtain⟨v,vr,e1,h⟩:=h;subst e1;cases r with
 | cons r rr =>
  rw [hs];refine assignInOrder_cons (dC (h1 aj s σ H _ _ _ I r h) λ_ s1 bN=>?_);obtain⟨σ1,H1,I1,q1⟩:=bN;exact h2 aj s1 σ1 H1 _ _ Q I1 rr q1
def Ap (K:bp) (n:Nat)(t:KS):TG:=λv σ H Q=>Rk v (a_ K H) n λxs=>t xs σ H Q
def dD {es:List Expr}{k:Nat}{t:KS}{n:Nat}(hc:X.calm=true)(h:Rp X es t)
  (hn:(assignEach es X.env).length=n:=by rfl)(yF:(assignEach es X.env).findIdx? (·.1)=none:=by rfl):PG X (.Tuple es k pos) (Ap X.K n t):=by
 intro aj s σ H v u Q I r hw;obtain⟨a,xs,e1,hq,hl,hw⟩:=hw;subst e1;cases r;obtain⟨aW,rv,ht,hz⟩:=I.tuple hq;refine assign_Tuple_tuple (I.ok.hd hc) ht (by simp [hn,<-hl,rv.length]) yF λh' hx=>?_;have I1:Inv X aj σ H { s with heap:=h' }:=I.kept (t':=s.toks) λb o e=>hx b o (cu (bR e)) e;exact h aj _ σ H xs _ Q I1 (by simpa using rv) hw
def Ld (te:TE)(g:TG):TS:=λD σ H=>te σ H λx H1=>g x σ H1 D.nx
def zF {tg e:Expr}{te:TE}{g:TG}(he:PE X e te)(hg:PG X tg g)(hs:swapsWithSole [tg] e pos.line X.env=pure false:=by rfl)(hw:swappedStores [tg] e X.env=pure none:=by rfl)
  (h1:(assignEach [tg] X.env).map (·.2)=[assign tg X.env]:=by rfl):PS X (.Assign [tg] e pos) (Ld te g):=by
 intro aj s σ H D I h;refine wpAny_Assign_stores (dC (he aj s σ H _ I h) λv s1 bN=>?_) hs hw;obtain⟨x,H1,I1,r1,q1⟩:=bN;rw [h1];exact dC (hg aj s1 σ H1 x v _ I1 r1 q1) λ_ s2 q=>q
def aA {i:Nat}{x:Str}{e:Expr}{te:TE}{pos':Pos}(hN:X.N.Nodup)(hi:X.N[i]?=some x)(hx:Loc X.env.scope x)(he:PE X e te)(hs:swapsWith e (some (.Name x pos')) pos.line X.env=pure false:=by rfl)(hf:X.fn x=true\/X.env.scope.names.lookup x=some .local:=by first | exact .inl rfl | exact .inr rfl | assumption) :
  PS X (.Assign [.Name x pos'] e pos) (Ld te (dB i)):=by
 intro aj s σ H D I h;refine wpAny_Assign_Name (dC (he aj s σ H _ I h) λv s1 bN=>?_) hs;obtain⟨y,H1,I1,r1,q1⟩:=bN;exact rh I1 hN hi hx r1 (λs2 I2=>⟨_,H1,I2,q1⟩) hf
def TN (i:Nat)(te:TE)(ti:SX):TS:=λD σ H=>∃x,σ[i]?=some (some x)/\te σ H λy H1=>ti x y H1 λz H2=>D.nx (σ.set i (some z)) H2
def LH {i:Nat}{x:Str}{e:Expr}{te:TE}{op:Operator}{ti:SX}{pos':Pos}(hN:X.N.Nodup)(hi:X.N[i]?=some x)(hx:Loc X.env.scope x)(he:PE X e te)(ho:PIp X op ti)(hf:X.fn x=true\/X.env.scope.names.lookup x=some .local:=by first | exact .inl rfl | exact .inr rfl | assumption) :
  PS X (.AugAssign (.Name x pos') op e pos) (TN i te ti):=by
 intro aj s σ H D I h;obtain⟨v,e1,h⟩:=h;obtain⟨m,hn,hl⟩:=I.loc;have vis:SW X.env.scope x:=by rcases hx with k | k;exact .inl k;exact .inr (.inl k)
 obtain⟨u,r,l⟩:=hl i x v hi e1 vis;refine wpAny_AugAssign_Name ?_;have go:wpAny (model X.prog X.w) X.A (eval e X.env) (λw s₂=>wpAny (model X.prog X.w) X.A (inplaceOp op u w) (λr s₃=>wpAny (model X.prog X.w) X.A (storeName X.env x r) (λ_=>SP X aj D .next) X.xe s₃) X.xe s₂) X.xe s:=by
  refine dC (he aj s σ H _ I h) λw s1 bN=>?_;obtain⟨y,H1,I1,r1,q1⟩:=bN;refine dC (ho aj s1 σ H1 v y u w _ I1 r r1 q1) λz s2 bN=>?_;obtain⟨zv,H2,I2,r2,q2⟩:=bN;exact rh I2 hN hi hx r2 (λs3 I3=>⟨_,H2,I3,q2⟩) hf
 rcases l with ⟨hk,hm⟩ | ⟨hk,c,hc,jB⟩
 .exact vb I.ok.kind hk hn hm go
 rcases hk with hk | hk
 .exact wpAny_loadName_cell I.ok.kind hk hc jB go
 rcases hx with k | k
 .have:X.env.scope.names.lookup x=some .free:=hk;rw [k] at this;cases this
 have:X.env.scope.names.lookup x=some .free:=hk;rw [k] at this;cases this
def ipI (f:Int->Int->Int):SX:=λx y H Q=>∃i j,x=.int i/\y=.int j/\Q (.int (f i j)) H
def Mo:PIp X .Add (ipI λi j=>i+j):=by
 intro aj s σ H x y v u Q I r1 r2 h;obtain⟨i,j,e1,e2,q⟩:=h;subst e1;subst e2;obtain⟨t,rfl⟩:=r1;obtain⟨t',rfl⟩:=r2;exact iadd_int ⟨.int _,H,I.tok _,⟨_,rfl⟩,q⟩
end
section
variable {X:Cx}{pos:Pos}
def K6 (c:TT)(tb:TS):TS:=λD σ H=>∃W:Nat->St->Hp->Prop,(∃m,W m σ H)/\∀m σ H,W m σ H ->
 c σ H λb H1=>if b=true then ∃N:St->Hp->Prop,(∀σ' H',N σ' H'->∃m',m' < m/\W m' σ' H')/\tb { D with nx:=N,ct:=N,bk:=D.nx } σ H1 else D.nx σ H1
def kT {c:Expr}{body:List Stmt}{tc:TT}{tb:TS}(hp:PassesOwn (model X.prog X.w) X.A X.env X.xe)(hc:PT X c tc)(hb:AH X body tb):PS X (.While c body [] pos) (K6 tc tb):=by
 intro aj s σ H D I h;obtain⟨W,⟨m0,w0⟩,turn⟩:=h;refine wpAny_While (codeAny_whileLoop (λn s'=>∃σ' H',Inv X aj σ' H' s'/\W n σ' H') ?_ m0 ⟨σ,H,I,w0⟩);rintro n s1 ⟨σ1,H1,I1,w1⟩;refine mr hp (dC (hc aj s1 σ1 H1 _ I1 (turn n σ1 H1 w1)) λb s2 bN=>?_);obtain⟨H2,I2,q2⟩:=bN;cases b with
 | true =>
  obtain⟨N,hN,q2⟩:=q2;rw [ax rfl];refine mr hp (dC (hb aj s2 σ1 H2 _ I2 q2) λf s3 q3=>?_);cases f with
  | next =>
   obtain⟨σ3,H3,I3,n3⟩:=q3;obtain⟨m',hm,w3⟩:=hN σ3 H3 n3;exact⟨m',hm,σ3,H3,I3,w3⟩
  | cont =>
   obtain⟨σ3,H3,I3,n3⟩:=q3;obtain⟨m',hm,w3⟩:=hN σ3 H3 n3;exact⟨m',hm,σ3,H3,I3,w3⟩
  | brk=>exact q3
  | ret v=>exact q3
 | false =>
  rw [az d5];exact wpAny_execs_nil ⟨σ1,H2,I2,q2⟩
end
structure It where
 go:Nat->Hp->Prop
 lR:Nat->Hp->V->Hp->Prop
 stop:Nat->Hp->Prop
def w5 (X:Cx)(aj:List (Addr×Obj))(H:Hp)(b:Addr):Prop :=
 H b=none/\b≠X.env.locals/\b∉X.fs/\(b∈X.ex\/X.s₀.heap.objs.size<=b)/\(∀x c,X.env.cells.lookup x=some c->c≠b)/\∀p∈X.pn++aj,p.1≠b
def Inv.wI {X:Cx}{aj:List (Addr×Obj)}{σ:St}{H H':Hp}{s:Shared}{b:Addr}(I:Inv X aj σ H s)(hb:s.heap.objs.size<=b)(hn:H' b=none):w5 X aj H' b:=by
 refine⟨hn,lY (gk I.lt hb),I.Ut hb,.inr (f_ I.sz hb),λx c e z=>?_,λp hp z=>?_⟩
 .obtain⟨v,q⟩:=I.cell x c e;exact absurd (gk q.lt (by rw [z];exact hb)) (kJ _)
 exact absurd (gk (bR (I.pin p hp).1) (by rw [z];exact hb)) (kJ _)
structure Turn (P:Program)(w:World)(K:bp)(tg:Expr)(J:It)(fp:List Addr)(it:Addr)(tn:Nat->Heap->Prop):Prop where
 mem:it∈fp
 obj:∀i h,tn i h->∀b∈fp,∃o,h.get? b=some o/\∀v,o.data≠.cell v
 keep:∀i h h',tn i h->(∀b∈fp,∀o,h.get? b=some o->h'.get? b=some o)->tn i h'
 item:∀(X:Cx),X.prog=P->X.w=w->X.K=K->X.calm=true->∀(i:Nat)(aj:List (Addr×Obj))(s:Shared)(σ:St)(H:Hp)(E:Value->Shared->Prop),Inv X aj σ H s->(∀b∈fp,w5 X aj H b)->tn i s.heap->J.go i H ->
  wpAny (model P w) X.A (pyNext (.ref it)) (λr s1=>∃u,r=some u /\
   wpAny (model P w) X.A (letOwnedTupleGo tg (.ref it) u) (λ_ s2=>∃x H',Inv X aj σ H' s2/\RelV x u/\J.lR i H x H'/\tn (i+1) s2.heap/\∀b∈fp,H' b=none) E s1) E s
 done:∀(X:Cx),X.prog=P->X.w=w->X.K=K->X.calm=true->∀(i:Nat)(aj:List (Addr×Obj))(s:Shared)(σ:St)(H:Hp)(E:Value->Shared->Prop),Inv X aj σ H s->(∀b∈fp,w5 X aj H b)->tn i s.heap->J.stop i H ->
  wpAny (model P w) X.A (pyNext (.ref it)) (λr s1=>r=none/\Inv X aj σ H s1) E s
 self:∀(A:Around) (i:Nat)(s:Shared)(Q:Value->Shared->Prop)(E:Value->Shared->Prop),tn i s.heap->Q (.ref it) s->wpAny (model P w) A (pyIter (.ref it)) Q E s
abbrev TI:=St->Hp->(It->Hp->Prop)->Prop
def PIE (X:Cx)(aj:List (Addr×Obj))(σ:St)(tg:Expr)(R:It->Hp->Prop)(Se:Value)(s2:Shared):Prop :=
 ∃(it:Addr)(fp:List Addr)(tn:Nat->Heap->Prop)(J:It)(H':Hp),Se=.ref it/\Inv X aj σ H' s2/\Turn X.prog X.w X.K tg J fp it tn/\tn 0 s2.heap/\(∀b∈fp,w5 X aj H' b)/\R J H'
def PI (X:Cx)(tg iter:Expr)(wi:TI):Prop :=
 ∀(aj:List (Addr×Obj))(s:Shared)(σ:St)(H:Hp)(R:It->Hp->Prop),Inv X aj σ H s->wi σ H R ->
  wpAny (model X.prog X.w) X.A (eval iter X.env) (λv s1=>wpAny (model X.prog X.w) X.A (pyIter v) (PIE X aj σ tg R) X.xe s1) X.xe s
def BA {M:Model}{A:Around}{E:Value->Shared->Prop}{s:Shared}{tg:Expr}{it:Addr}{u:Value}{o:Obj}{n:String}{vs:Array Value}{Q:Unit->Shared->Prop}(ho:s.heap.get? it=some o)(hc:o.cls=.type n)(hd:o.data=.fields vs)
  (hn:["enumerate","zip","dict_itemiterator","dict_reverseitemiterator","odict_iterator","itertools.zip_longest","itertools.pairwise"].contains n=false)(hQ:Q () s):wpAny M A (letOwnedTupleGo tg (.ref it) u) Q E s:=by
 unfold letOwnedTupleGo;cases tg <;> first
  | exact ba hQ
  | (cases u <;> first
    | exact ba hQ
    | (refine aN (wpAny_load ho ?_)
       rw [hc,hd];show wpAny M A (if (["enumerate","zip","dict_itemiterator","dict_reverseitemiterator","odict_iterator","itertools.zip_longest","itertools.pairwise"].contains n && vs[0]? == some (rawInt _))=true then _ else _) Q E s;rw [az (by intro h;rw [hn,iY] at h;cases h)];exact ba hQ))
def iU (K:bp)(a:Addr):It :=
 ⟨λi H=>∃xs x,aG K H a xs/\xs[i]?=some x,λi H x H'=>H'=H/\∀xs,aG K H a xs->xs[i]?=some x,λi H=>∃xs,aG K H a xs/\xs.length<=i⟩
def ot (K:bp)(a:Addr):It :=
 ⟨λi H=>∃xs x,a_ K H a xs/\xs[i]?=some x,λi H x H'=>H'=H/\∀xs,a_ K H a xs->xs[i]?=some x,λi H=>∃xs,a_ K H a xs/\xs.length<=i⟩
def Oq (lo:Int) (n:Nat):It:=⟨λi _=>i < n,λi H x H'=>H'=H/\x=.int (lo+i),λi _=>n<=i⟩
def B6 {P:Program}{w:World}{K:bp}{tg:Expr}(a it:Addr):Turn P w K tg (iU K a) [it] it (λi h=>h.IsListIter it a i) where
 mem:=by simp
 obj:=λi h st b hb=>by
  have e:b=it:=by simpa using hb
  subst e;obtain⟨o,e,c,d⟩:=st;exact⟨o,e,λv z=>by rw [d] at z;cases z⟩
 keep:=λi h h' st k=>st.at λo e=>k it (by simp) o e
 item:=by
  intro X hP hw hK hc i aj s σ H E I hf st hg;subst hP hw hK;obtain⟨xs,x,hq,hx⟩:=hg;obtain⟨aW,rv,p,hz⟩:=I.list hq;obtain⟨u,hu,ru⟩:=rv.get hx;obtain⟨f0,f1,f2,f3,f4,f5⟩:=hf it (by simp);refine wpAny_pyNext_list_item st p.isList (x:=u) (by simpa using hu) λh' w6 sb=>?_;have I1:Inv X aj σ H { s with heap:=h' }:=I.turned (t':=s.toks) (λb o hb e=>(sb.2 b hb).trans e) f0 f1 f3 f4 f5;obtain⟨o,e,c,d⟩:=id w6;exact⟨u,rfl,BA (s:={ s with heap:=h' }) e c d nofun ⟨x,H,I1,ru,⟨rfl,λys hy=>by rw [I.rT hy hq];exact hx⟩,w6,λb hb=>(hf b hb).1⟩⟩
 done:=by
  intro X hP hw hK hc i aj s σ H E I hf st hg;subst hP hw hK;obtain⟨xs,hq,hx⟩:=hg;obtain⟨aW,rv,p,hz⟩:=I.list hq;obtain⟨f0,f1,f2,f3,f4,f5⟩:=hf it (by simp);have hl:=rv.length;exact ve (I.ok.hd hc) st p.isList (by simp;omega) λh' eb=>⟨rfl,I.turned (t':=s.toks) (λb o hb e=>eb b o hb e) f0 f1 f3 f4 f5⟩
 self:=λ_ _ _ _ _ st h=>wpAny_pyIter_listiter st h
def yX {P:Program}{w:World}{K:bp}{tg:Expr}(a it:Addr):Turn P w K tg (ot K a) [it] it (λi h=>h.IsTupleIter it a i) where
 mem:=by simp
 obj:=λi h st b hb=>by
  have e:b=it:=by simpa using hb
  subst e;obtain⟨o,e,c,d⟩:=st;exact⟨o,e,λv z=>by rw [d] at z;cases z⟩
 keep:=λi h h' st k=>st.at λo e=>k it (by simp) o e
 item:=by
  intro X hP hw hK hc i aj s σ H E I hf st hg;subst hP hw hK;obtain⟨xs,x,hq,hx⟩:=hg;obtain⟨aW,rv,p,hz⟩:=I.tuple hq;obtain⟨u,hu,ru⟩:=rv.get hx;obtain⟨f0,f1,f2,f3,f4,f5⟩:=hf it (by simp);refine wpAny_pyNext_tuple_item st (show s.heap.IsTuple a aW.toArray from p) (x:=u) (by simpa using hu) λh' w6 sb=>?_;have I1:Inv X aj σ H { s with heap:=h' }:=I.turned (t':=s.toks) (λb o hb e=>(sb.2 b hb).trans e) f0 f1 f3 f4 f5;obtain⟨o,e,c,d⟩:=id w6;exact⟨u,rfl,BA (s:={ s with heap:=h' }) e c d nofun ⟨x,H,I1,ru,⟨rfl,λys hy=>by rw [I.iF hy hq];exact hx⟩,w6,λb hb=>(hf b hb).1⟩⟩
 done:=by
  intro X hP hw hK hc i aj s σ H E I hf st hg;subst hP hw hK;obtain⟨xs,hq,hx⟩:=hg;obtain⟨aW,rv,p,hz⟩:=I.tuple hq;obtain⟨f0,f1,f2,f3,f4,f5⟩:=hf it (by simp);have hl:=rv.length;exact wpAny_pyNext_tuple_end (I.ok.hd hc) st (show s.heap.IsTuple a aW.toArray from p) (by simp;omega) λh' eb=>⟨rfl,I.turned (t':=s.toks) (λb o hb e=>eb b o hb e) f0 f1 f3 f4 f5⟩
 self:=λ_ _ _ _ _ st h=>wpAny_pyIter_tupleiter st h
def yY {P:Program}{w:World}{K:bp}{tg:Expr}(it:Addr) (lo:Int) (n:Nat):Turn P w K tg (Oq lo n) [it] it (λi h=>IsRangeIter h it (lo+(i:Nat) * 1) ((n:Int) - (i:Nat)) 1) where
 mem:=by simp
 obj:=λi h st b hb=>by
  have e:b=it:=by simpa using hb
  subst e;exact⟨_,st,λv z=>by
   have z':Data.fields _=Data.cell v:=z;cases z'⟩
 keep:=λi h h' st k=>k it (by simp) _ st
 item:=by
  intro X hP hw hK hc i aj s σ H E I hf st hg;subst hP hw hK;obtain⟨f0,f1,f2,f3,f4,f5⟩:=hf it (by simp);have W:=Walks.range (prog:=X.prog) (w:=X.w) (I.ok.hd hc) it lo 1 n;refine W.item i s _ _ hg st λv h' tk hv w6 kk=>?_;obtain⟨t,rfl⟩:=hv;have I1:Inv X aj σ H { s with heap:=h',toks:=tk }:=I.turned (λb o hb e=>kk b o (by simpa using hb) e) f0 f1 f3 f4 f5;refine⟨_,rfl,BA (s:={ s with heap:=h',toks:=tk }) (n := "range_iterator") w6 rfl rfl nofun ⟨.int (lo+i),H,I1,⟨t,?_⟩,⟨rfl,rfl⟩,w6,λb hb=>(hf b hb).1⟩⟩;rw [Int.mul_one]
 done:=by
  intro X hP hw hK hc i aj s σ H E I hf st hg;subst hP hw hK;obtain⟨f0,f1,f2,f3,f4,f5⟩:=hf it (by simp);exact wpAny_pyNext_range_end (I.ok.hd hc) st (by have:n<=i:=hg;omega) λh' eb=>⟨rfl,I.turned (t':=s.toks) (λb o hb e=>eb b o hb e) f0 f1 f3 f4 f5⟩
 self:=λ_ _ _ _ _ st h=>wpAny_pyIter_rangeiter st h
section
variable {X:Cx}{tg:Expr}
def P4 (K:bp)(tl:TE):TI:=λσ H R=>tl σ H λx H1=>SV x (λa=>∃xs,aG K H1 a xs) λa=>R (iU K a) H1
def U5 (K:bp)(tl:TE):TI:=λσ H R=>tl σ H λx H1=>SV x (λa=>∃xs,a_ K H1 a xs) λa=>R (ot K a) H1
def aR {l:Expr}{tl:TE}(hl:PE X l tl):PI X tg l (P4 X.K tl):=by
 intro aj s σ H R I h;refine dC (hl aj s σ H _ I h) λv s1 bN=>?_;obtain⟨x,H1,I1,r1,q1⟩:=bN;obtain⟨a,e,⟨xs,hq⟩,q⟩:=q1;subst e;cases r1;obtain⟨aW,rv,p,hz⟩:=I1.list hq;refine qD p.isList ?_;refine⟨s1.heap.objs.size,[s1.heap.objs.size],_,_,H1,rfl,I1.kept (t':=s1.toks) λb o e=>cJ _ e,B6 a _,⟨_,d8 _ rfl,rfl,rfl⟩,λb hb=>?_,q⟩;have e:b=s1.heap.objs.size:=by simpa using hb
 subst e;exact I1.wI (aU _) (I1.cC.fresh (aU _))
def dQ {l:Expr}{tl:TE}(hl:PE X l tl):PI X tg l (U5 X.K tl):=by
 intro aj s σ H R I h;refine dC (hl aj s σ H _ I h) λv s1 bN=>?_;obtain⟨x,H1,I1,r1,q1⟩:=bN;obtain⟨a,e,⟨xs,hq⟩,q⟩:=q1;subst e;cases r1;obtain⟨aW,rv,p,hz⟩:=I1.tuple hq;refine u6 (show s1.heap.IsTuple a aW.toArray from p) ?_;refine⟨s1.heap.objs.size,[s1.heap.objs.size],_,_,H1,rfl,I1.kept (t':=s1.toks) λb o e=>cJ _ e,yX a _,⟨_,d8 _ rfl,rfl,rfl⟩,λb hb=>?_,q⟩;have e:b=s1.heap.objs.size:=by simpa using hb
 subst e;exact I1.wI (aU _) (I1.cC.fresh (aU _))
def EX {aj:List (Addr×Obj)}{σ:St}{H:Hp}{s:Shared}{R:It->Hp->Prop}{E:Value->Shared->Prop}{lo hi:Int}{t u v:Tok}{tk:Nat}(I:Inv X aj σ H s)(h1:-(2 ^ 62)<=lo)(h2:lo < 2 ^ 62)(h3:-(2 ^ 62)<=hi)(h4:hi < 2 ^ 62)
  (q:R (Oq lo (hi - lo).toNat) H):wpAny (model X.prog X.w) X.A (pyIter (.ref s.heap.objs.size)) (PIE X aj σ tg R) E { s with heap:=s.heap.push { cls:=.type "range",data:=.fields #[.int lo t,.int hi u,.int 1 v] },toks:=tk }:=by
 refine wpAny_pyIter_range (IsRange.new ..) (small_one h1 h2 h3 h4) ?_;have I1:Inv X aj σ H { s with heap:=s.heap.push { cls:=.type "range",data:=.fields #[.int lo t,.int hi u,.int 1 v] },toks:=tk }:=I.kept λb o e=>cJ _ e;refine⟨(s.heap.push { cls:=.type "range",data:=.fields #[.int lo t,.int hi u,.int 1 v] }).objs.size,[(s.heap.push { cls:=.type "range",data:=.fields #[.int lo t,.int hi u,.int 1 v] }).objs.size],_,_,H,rfl,
  I1.kept (t':=tk) λb o e=>cJ _ e,yY _ lo (hi - lo).toNat,?_,λb hb=>?_,q⟩
 .have e1:lo+((0:Nat):Int) * 1=lo:=by simp
  have e2:(((hi - lo).toNat:Nat):Int) - ((0:Nat):Int)=Builtin.Range.rangeSize lo hi 1:=by rw [rangeSize_one];split <;> omega
  show IsRangeIter _ _ (lo+((0:Nat):Int) * 1) ((((hi - lo).toNat:Nat):Int) - ((0:Nat):Int)) 1;rw [e1,e2];exact d8 _ rfl
 have e:b=(s.heap.push { cls:=.type "range",data:=.fields #[.int lo t,.int hi u,.int 1 v] }).objs.size:=by simpa using hb
 subst e;exact I1.wI (aU _) (I1.cC.fresh (aU _))
def P2 (ta:TA):TI:=λσ H R=>ta σ H λvs H1=>XRg vs λj=>R (Oq 0 j.toNat) H1
def fY {a:Expr}{ta:TA}{p pos:Pos}(hg:Gl X "range")(hm:X.mg "range"=none)(ha:PA X [a] ta)(hs:starEach [a] X.env=[(false,eval a X.env)]:=by rfl):PI X tg (.Call (.Name "range" p) [a] [] pos) (P2 ta):=by
 intro aj s σ H R I h;refine Call_ (jX I hg hm boot_range (vq (dC (ha pos aj s σ H _ I h) λus s1 bN=>?_) hs rfl));obtain⟨vs,H1,I1,r1,q1⟩:=bN;obtain⟨j,e,q1,q2,q⟩:=q1;subst e;cases r1 with
 | cons r rr =>
  cases rr;obtain⟨t,rfl⟩:=r;exact call_range_1 (EX I1 ∅ ∅ q1 q2 (by simpa using q))
def TL (wi:TI)(g:TG)(tb:TS):TS:=λD σ H=>wi σ H λJ H1=>∃W:Nat->Nat->St->Hp->Prop,(∃m,W 0 m σ H1)/\∀i m σ H,W i m σ H ->
 (J.stop i H/\D.nx σ H)\/(J.go i H/\∃N:St->Hp->Prop,(∀σ' H',N σ' H'->∃m',m' < m/\W (i+1) m' σ' H')/\∀x H',J.lR i H x H'->g x σ H' λσ2 H2=>tb { D with nx:=N,ct:=N,bk:=D.nx } σ2 H2)
def oY (fp:List Addr)(h:Heap):List (Addr×Obj):=fp.filterMap λb=>(h.get? b).map λo=>(b,o)
def g_ {fp:List Addr}{h:Heap}{b:Addr}{o:Obj}(hb:b∈fp)(e:h.get? b=some o):(b,o)∈oY fp h:=List.mem_filterMap.mpr ⟨b,hb,by rw [e];rfl⟩
def CA {fp:List Addr}{h:Heap}{p:Addr×Obj}(hp:p∈oY fp h):p.1∈fp/\h.get? p.1=some p.2:=by
 obtain⟨b,hb,e⟩:=List.mem_filterMap.mp hp;cases q:h.get? b with
 | none=>rw [q] at e;cases e
 | some o =>
  rw [q] at e;have e':(b,o)=p:=gO e;subst e';exact⟨hb,q⟩
def Inv.pinned {aj:List (Addr×Obj)}{σ:St}{H:Hp}{s:Shared}{fp:List Addr}(I:Inv X aj σ H s)(hf:∀b∈fp,w5 X aj H b)(ho:∀b∈fp,∃o,s.heap.get? b=some o/\∀v,o.data≠.cell v):Inv X (aj++oY fp s.heap) σ H s :=
 I.Bm λp hp=>(cg.mp hp).elim (λz=>I.pin p (gH _ z)) λz=>by
  obtain⟨hb,e⟩:=CA z;obtain⟨f0,f1,f2,_⟩:=hf p.1 hb;obtain⟨o,e',d⟩:=ho p.1 hb;rw [e] at e';cases e';exact⟨e,f0,f1,f2,d⟩
def Inv.kK {aj pl:List (Addr×Obj)}{σ:St}{H:Hp}{s:Shared}(I:Inv X (aj++pl) σ H s):Inv X aj σ H s:=I.Bm λp hp=>I.pin p (gH _ (j8 _ hp))
def bE {iter:Expr}{body:List Stmt}{wi:TI}{g:TG}{tb:TS}{pos:Pos}(hp:PassesOwn (model X.prog X.w) X.A X.env X.xe)(hc:X.calm=true)(hi:PI X tg iter wi)(hg:PG X tg g)(hb:AH X body tb)
  (hs:∀x,foldedSetIterable iter X.env x=pure x:=by intro _;rfl):PS X (.For tg iter body [] pos) (TL wi g tb):=by
 intro aj s σ H D I h;refine wpAny_For (dC (hi aj s σ H _ I h) λv s1 h1=>dC h1 λSe s2 h2=>?_) hs;obtain⟨it,fp,tn,J,H2,e,I2,T,Hm,f2,W,⟨m0,w0⟩,turn⟩:=h2;subst e;have rj:∀{H':Hp},(∀b∈fp,H' b=none)->∀b∈fp,w5 X aj H' b:=λhn b hb=>⟨hn b hb,(f2 b hb).2⟩;refine codeAny_forLoop_any (λn s'=>∃i σ' H',Inv X aj σ' H' s'/\tn i s'.heap/\(∀b∈fp,H' b=none)/\W i n σ' H') ?_ m0 ⟨0,σ,H2,I2,Hm,λb hb=>(f2 b hb).1,w0⟩;rintro n s3 ⟨i,σ3,H3,I3,OU,Zu,w3⟩;rcases turn i n σ3 H3 w3 with ⟨stop,qn⟩ | ⟨go,N,hN,step⟩
 .refine mr hp (dC (T.done X rfl rfl rfl hc i aj s3 σ3 H3 X.xe I3 (rj Zu) OU stop) λr s4 ⟨hr,I4⟩=>?_);subst hr;exact wpAny_execs_nil ⟨σ3,H3,I4,qn⟩
 refine mr hp (dC (T.item X rfl rfl rfl hc i aj s3 σ3 H3 X.xe I3 (rj Zu) OU go) λr s4 ⟨u,hr,h4⟩=>?_);subst hr;refine mr hp (dC h4 λ_ s5 bN=>?_);obtain⟨x,H5,I5,r5,y5,Cb,QN⟩:=bN;have I5':=I5.pinned (rj QN) (T.obj _ _ Cb);refine mr hp (dC (hg _ s5 σ3 H5 x u _ I5' r5 (step x H5 y5)) λ_ s6 bN=>?_);obtain⟨σ6,H6,I6,q6⟩:=bN;refine mr hp (dC (hb _ s6 σ6 H6 _ I6 q6) λf s7 q7=>?_);have again:∀{σ7:St}{H7:Hp},Inv X (aj++oY fp s5.heap) σ7 H7 s7->N σ7 H7->∃m,m < n/\∃i σ' H',Inv X aj σ' H' s7/\tn i s7.heap/\(∀b∈fp,H' b=none)/\W i m σ' H':=λ{σ7 H7} I7 n7=>by
  obtain⟨m',hm,w7⟩:=hN σ7 H7 n7;refine⟨m',hm,i+1,σ7,H7,I7.kK,T.keep _ _ _ Cb λb hb o e=>(I7.pin (b,o) (gH _ (gH _ (g_ hb e)))).1,λb hb=>?_,w7⟩;obtain⟨o,e,d⟩:=T.obj _ _ Cb b hb;exact(I7.pin (b,o) (gH _ (gH _ (g_ hb e)))).2.1
 cases f with
 | next=>obtain⟨σ7,H7,I7,n7⟩:=q7;exact again I7 n7
 | cont=>obtain⟨σ7,H7,I7,n7⟩:=q7;exact again I7 n7
 | brk=>obtain⟨σ7,H7,I7,q7⟩:=q7;exact⟨σ7,H7,I7.kK,q7⟩
 | ret v=>obtain⟨x7,σ7,H7,I7,r7,q7⟩:=q7;exact⟨x7,σ7,H7,I7.kK,r7,q7⟩
end
def cq {K:bp}{a:Addr}{xs:List V}{g:TG}{tb:TS}{D:Ends}{σ:St}{H:Hp}(Pv:Nat->St->Hp->Prop)(h0:Pv 0 σ H)(hl:∀i σ H,i<=xs.length->Pv i σ H->aG K H a xs)
  (hs:∀i x σ H,xs[i]?=some x->Pv i σ H->g x σ H λσ2 H2=>tb { D with nx:=Pv (i+1),ct:=Pv (i+1),bk:=D.nx } σ2 H2)(hd:∀σ H,Pv xs.length σ H->D.nx σ H) :
  ∃W:Nat->Nat->St->Hp->Prop,(∃m,W 0 m σ H)/\∀i m σ H,W i m σ H ->
   ((iU K a).stop i H/\D.nx σ H)\/((iU K a).go i H/\∃N:St->Hp->Prop,(∀σ' H',N σ' H'->∃m',m' < m/\W (i+1) m' σ' H')/\∀x H',(iU K a).lR i H x H'->g x σ H' λσ2 H2=>tb { D with nx:=N,ct:=N,bk:=D.nx } σ2 H2):=by
 refine⟨λi m σ H=>m=xs.length - i/\i<=xs.length/\Pv i σ H,⟨xs.length,by simp,gG _,h0⟩,?_⟩;rintro i m σ H ⟨rfl,hi,p⟩;have q:=hl i σ H hi p;by_cases ke:i < xs.length
 .refine .inr ⟨⟨xs,xs[i],q,by simp [ke]⟩,Pv (i+1),λσ' H' p'=>⟨xs.length - (i+1),∅,rfl,ke,p'⟩,λx H' y=>?_⟩;obtain⟨e,y⟩:=y;subst e;exact hs i x σ _ (y xs q) p
 have e:i=xs.length:=by omega
 subst e;exact .inl ⟨⟨xs,q,aU _⟩,hd σ H p⟩
def BG {K:bp}{a:Addr}{xs:List V}{g:TG}{tb:TS}{D:Ends}{σ:St}{H:Hp}(Pv:Nat->St->Hp->Prop)(h0:Pv 0 σ H)(hl:∀i σ H,i<=xs.length->Pv i σ H->a_ K H a xs)
  (hs:∀i x σ H,xs[i]?=some x->Pv i σ H->g x σ H λσ2 H2=>tb { D with nx:=Pv (i+1),ct:=Pv (i+1),bk:=D.nx } σ2 H2)(hd:∀σ H,Pv xs.length σ H->D.nx σ H) :
  ∃W:Nat->Nat->St->Hp->Prop,(∃m,W 0 m σ H)/\∀i m σ H,W i m σ H ->
   ((ot K a).stop i H/\D.nx σ H)\/((ot K a).go i H/\∃N:St->Hp->Prop,(∀σ' H',N σ' H'->∃m',m' < m/\W (i+1) m' σ' H')/\∀x H',(ot K a).lR i H x H'->g x σ H' λσ2 H2=>tb { D with nx:=N,ct:=N,bk:=D.nx } σ2 H2):=by
 refine⟨λi m σ H=>m=xs.length - i/\i<=xs.length/\Pv i σ H,⟨xs.length,by simp,gG _,h0⟩,?_⟩;rintro i m σ H ⟨rfl,hi,p⟩;have q:=hl i σ H hi p;by_cases ke:i < xs.length
 .refine .inr ⟨⟨xs,xs[i],q,by simp [ke]⟩,Pv (i+1),λσ' H' p'=>⟨xs.length - (i+1),∅,rfl,ke,p'⟩,λx H' y=>?_⟩;obtain⟨e,y⟩:=y;subst e;exact hs i x σ _ (y xs q) p
 have e:i=xs.length:=by omega
 subst e;exact .inl ⟨⟨xs,q,aU _⟩,hd σ H p⟩
def fZ {lo:Int}{n:Nat}{g:TG}{tb:TS}{D:Ends}{σ:St}{H:Hp}(Pv:Nat->St->Hp->Prop)(h0:Pv 0 σ H)
  (hs:∀i σ H,i < n->Pv i σ H->g (.int (lo+i)) σ H λσ2 H2=>tb { D with nx:=Pv (i+1),ct:=Pv (i+1),bk:=D.nx } σ2 H2)(hd:∀σ H,Pv n σ H->D.nx σ H) :
  ∃W:Nat->Nat->St->Hp->Prop,(∃m,W 0 m σ H)/\∀i m σ H,W i m σ H ->
   ((Oq lo n).stop i H/\D.nx σ H)\/((Oq lo n).go i H/\∃N:St->Hp->Prop,(∀σ' H',N σ' H'->∃m',m' < m/\W (i+1) m' σ' H')/\∀x H',(Oq lo n).lR i H x H'->g x σ H' λσ2 H2=>tb { D with nx:=N,ct:=N,bk:=D.nx } σ2 H2):=by
 refine⟨λi m σ H=>m=n - i/\i<=n/\Pv i σ H,⟨n,by simp,gG _,h0⟩,?_⟩;rintro i m σ H ⟨rfl,hi,p⟩;by_cases ke:i < n
 .refine .inr ⟨ke,Pv (i+1),λσ' H' p'=>⟨n - (i+1),∅,rfl,ke,p'⟩,λx H' y=>?_⟩;obtain⟨e,y⟩:=y;subst e y;exact hs i σ _ ke p
 have e:i=n:=by omega
 subst e;exact .inl ⟨aU _,hd σ H p⟩
abbrev R2:=V->V->Hp->VK->Prop
def jH (X:Cx)(f:Value->Value->Sem Value)(r:R2):Prop :=
 ∀(aj:List (Addr×Obj))(s:Shared)(σ:St)(H:Hp)(x y:V)(v u:Value)(Q:VK),Inv X aj σ H s->RelV x v->RelV y u->r x y H Q ->
  wpAny (model X.prog X.w) X.A (f v u) (EP X aj σ Q) X.xe s
def Xq (X:Cx)(f:Value->Sem Value)(r:V->Hp->VK->Prop):Prop :=
 ∀(aj:List (Addr×Obj))(s:Shared)(σ:St)(H:Hp)(x:V)(v:Value)(Q:VK),Inv X aj σ H s->RelV x v->r x H Q ->
  wpAny (model X.prog X.w) X.A (f v) (EP X aj σ Q) X.xe s
def gM (X:Cx)(f:Value)(r:List V->Hp->VK->Prop):Prop :=
 ∀(aj:List (Addr×Obj))(s:Shared)(σ:St)(H:Hp)(xs:List V)(us:List Value)(Q:VK),Inv X aj σ H s->bw xs us->r xs H Q ->
  wpAny (model X.prog X.w) X.A (call f us) (EP X aj σ Q) X.xe s
def Xr (X:Cx)(r:V->Hp->(Bool->Hp->Prop)->Prop):Prop :=
 ∀(aj:List (Addr×Obj))(s:Shared)(σ:St)(H:Hp)(x:V)(v:Value)(Q:Bool->Hp->Prop),Inv X aj σ H s->RelV x v->r x H Q ->
  wpAny (model X.prog X.w) X.A (truthy v) (TP X aj σ Q) X.xe s
def ND (r:R2)(ta tb:TE):TE:=λσ H Q=>ta σ H λx H1=>tb σ H1 λy H2=>r x y H2 Q
def tUn (r:V->Hp->VK->Prop)(ta:TE):TE:=λσ H Q=>ta σ H λx H1=>r x H1 Q
def rI (C:Int->Int->Prop)(g:Int->Int->V):R2:=λx y H Q=>XI2 x y C λi j=>Q (g i j) H
def Iw (g:Int->Int->V):R2:=λx y H Q=>XI0 x y λi j=>Q (g i j) H
def rU (g:Int->V):V->Hp->VK->Prop:=λx H Q=>Xm x λi=>Q (g i) H
section
variable {X:Cx}{a b c:Expr}{ta tb tc:TE}{pos:Pos}
def Nj (ha:PE X a ta)(hb:PE X b tb){aj:List (Addr×Obj)}{s:Shared}{σ:St}{H:Hp}{R:V->V->Hp->Prop}(I:Inv X aj σ H s)
  (h:ta σ H λx H1=>tb σ H1 λy H2=>R x y H2){Q:Value->Shared->Prop}{f:Value->Value->Sem Value}
  (hf:∀v u s2 x y H2,Inv X aj σ H2 s2->RelV x v->RelV y u->R x y H2->wpAny (model X.prog X.w) X.A (f v u) Q X.xe s2) :
  wpAny (model X.prog X.w) X.A (eval a X.env) (λv s₁=>wpAny (model X.prog X.w) X.A (eval b X.env) (λu s₂=>wpAny (model X.prog X.w) X.A (f v u) Q X.xe s₂) X.xe s₁) X.xe s:=by
 refine dC (ha aj s σ H _ I h) λv s1 bN=>?_;obtain⟨x,H1,I1,r1,q1⟩:=bN;refine dC (hb aj s1 σ H1 _ I1 q1) λu s2 bN=>?_;obtain⟨y,H2,I2,r2,q2⟩:=bN;exact hf v u s2 x y H2 I2 r1 r2 q2
def aH {op:Operator}{r:R2}(ho:jH X (binaryOp op) r)(ha:PE X a ta)(hb:PE X b tb):PE X (.BinOp a op b pos) (ND r ta tb):=by
 intro aj s σ H Q I h;exact wpAny_BinOp (Nj ha hb I h λv u s2 x y H2 I2 rx ry q=>ho aj s2 σ H2 x y v u Q I2 rx ry q)
def Bo {op:UnaryOp}{r:V->Hp->VK->Prop}(ho:Xq X (unaryOp op) r)(ha:PE X a ta):PE X (.UnaryOp op a pos) (tUn r ta):=by
 intro aj s σ H Q I h;refine UnaryOp_ (dC (ha aj s σ H _ I h) λv s1 bN=>?_);obtain⟨x,H1,I1,r1,q1⟩:=bN;exact ho aj s1 σ H1 x v Q I1 r1 q1
def Ug {f:Value->Value->Sem Value}{C:Int->Int->Prop}{g:Int->Int->Int}
  (rule:∀(i j:Int)(t u:Tok)(s:Shared)(Q:Value->Shared->Prop)(E:Value->Shared->Prop),C i j->Q (.int (g i j) s.toks) { s with toks:=s.toks+1 }->wpAny (model X.prog X.w) X.A (f (.int i t) (.int j u)) Q E s) :
  jH X f (rI C λi j=>.int (g i j)):=by
 intro aj s σ H x y v u Q I rx ry h;obtain⟨i,j,rfl,rfl,hc,q⟩:=h;obtain⟨t,rfl⟩:=rx;obtain⟨t',rfl⟩:=ry;exact rule i j t t' s _ _ hc ⟨.int (g i j),H,I.tok _,⟨_,rfl⟩,q⟩
def Ph {f:Value->Value->Sem Value}{g:Int->Int->Int}
  (rule:∀(i j:Int)(t u:Tok)(s:Shared)(Q:Value->Shared->Prop)(E:Value->Shared->Prop),Q (.int (g i j) s.toks) { s with toks:=s.toks+1 }->wpAny (model X.prog X.w) X.A (f (.int i t) (.int j u)) Q E s) :
  jH X f (Iw λi j=>.int (g i j)):=by
 intro aj s σ H x y v u Q I rx ry h;obtain⟨i,j,rfl,rfl,q⟩:=h;obtain⟨t,rfl⟩:=rx;obtain⟨t',rfl⟩:=ry;exact rule i j t t' s _ _ ⟨.int (g i j),H,I.tok _,⟨_,rfl⟩,q⟩
def IK {f:Value->Value->Sem Value}{g:Int->Int->Bool}
  (rule:∀(i j:Int)(t u:Tok)(s:Shared)(Q:Value->Shared->Prop)(E:Value->Shared->Prop),Q (.bool (g i j)) s->wpAny (model X.prog X.w) X.A (f (.int i t) (.int j u)) Q E s) :
  jH X f (Iw λi j=>.bl (g i j)):=by
 intro aj s σ H x y v u Q I rx ry h;obtain⟨i,j,rfl,rfl,q⟩:=h;obtain⟨t,rfl⟩:=rx;obtain⟨t',rfl⟩:=ry;exact rule i j t t' s _ _ ⟨.bl (g i j),H,I,rfl,q⟩
def XE (i j:Int):Prop:=0 < j/\j < 1073741824
def NA (i j:Int):Prop:=(-(2 ^ 64) < i/\i < 2 ^ 64)\/(-(2 ^ 64) < j/\j < 2 ^ 64)
def NA.ok {i j:Int}(h:NA i j):IntMulOk i j:=by
 rcases h with ⟨h1,h2⟩ | ⟨h1,h2⟩
 .exact .of_left (intBits_le_64 h1 h2)
 exact .of_right (intBits_le_64 h1 h2)
def dG:jH X (binaryOp .Add) (Iw λi j=>.int (i+j)):=Ph λ_ _ _ _ _ _ _ q=>add_int q
def rM:jH X (binaryOp .Sub) (Iw λi j=>.int (i - j)):=Ph λ_ _ _ _ _ _ _ q=>sub_int q
def LP:jH X (binaryOp .Mult) (rI NA λi j=>.int (i * j)):=Ug λ_ _ _ _ _ _ _ hc q=>mul_int q hc.ok
def dA:jH X (binaryOp .FloorDiv) (rI XE λi j=>.int (i / j)):=Ug λi j _ _ _ _ _ hc q=>by
 have h1:(0:Int) < j:=hc.1;have h2:j < 1073741824:=hc.2;exact floordiv_int ∅ (by rw [Int.fdiv_eq_ediv_of_nonneg i ∅];exact q) (.inl (PyProof.noPylong_small ∅))
def cD:jH X (binaryOp .Mod) (rI (λ_ j=>0 < j) λi j=>.int (i % j)):=Ug λi j _ _ _ _ _ hc q=>by
 have h1:(0:Int) < j:=hc;exact mod_int' ∅ (by rw [Int.fmod_eq_emod_of_nonneg i ∅];exact q)
def unI {f:Value->Sem Value}{g:Int->Int}
  (rule:∀(i:Int)(t:Tok)(s:Shared)(Q:Value->Shared->Prop)(E:Value->Shared->Prop),Q (.int (g i) s.toks) { s with toks:=s.toks+1 }->wpAny (model X.prog X.w) X.A (f (.int i t)) Q E s) :
  Xq X f (rU λi=>.int (g i)):=by
 intro aj s σ H x v Q I rx h;obtain⟨i,rfl,q⟩:=h;obtain⟨t,rfl⟩:=rx;exact rule i t s _ _ ⟨.int (g i),H,I.tok _,⟨_,rfl⟩,q⟩
def vy:Xq X (unaryOp .USub) (rU λi=>.int (-i)):=unI λ_ _ _ _ _ q=>neg_int q
end
noncomputable def OY:V->V->Bool
 | .eZ,.eZ=>true | .eZ,.int _=>true | .int _,.eZ=>true | .eZ,.bl _=>true | .bl _,.eZ=>true | .eZ,.str _=>true | .str _,.eZ=>true
 | .int _,.int _=>true | .bl _,.bl _=>true | .str _,.str _=>true | .AE _,.AE _=>true
 | .int _,.str _=>true | .str _,.int _=>true | .bl _,.str _=>true | .str _,.bl _=>true
 | _,_=>false
def rEq:R2:=λx y H Q=>OY x y=true/\Q (.bl (decide (x=y))) H
def rNe:R2:=λx y H Q=>OY x y=true/\Q (.bl (!decide (x=y))) H
def BM {i j:Int}:decide (V.int i=V.int j)=(i == j):=by
 rw [gi];simp
def GA {i j:Bool}:decide (V.bl i=V.bl j)=(i == j):=by
 rw [gi];simp
def BK {i j:Str}:decide (V.str i=V.str j)=(i == j):=by
 rw [gi];simp
def BN {i j:Array UInt8}:decide (V.AE i=V.AE j)=(i.toList == j.toList):=by
 rw [gi];cases i;cases j;simp
section
variable {X:Cx}{a b c:Expr}{ta tb tc:TE}{pos:Pos}
def cR {aj:List (Addr×Obj)}{σ:St}{H:Hp}{s:Shared}{Q:VK}{k k':Bool}(I:Inv X aj σ H s)(q:Q (.bl k) H)(e:k=k'):EP X aj σ Q (.bool k') s:=by
 subst e;exact⟨.bl k,H,I,rfl,q⟩
def gJ:jH X (compareOp .Eq) rEq:=by
 intro aj s σ H x y v u Q I rx ry h;obtain⟨hs,q⟩:=h;cases x with
 | eZ =>
  cases rx;cases y with
  | eZ=>cases ry;exact PySem.EqNone.eq_none_none (cR I q (by simp))
  | bl j=>cases ry;exact PySem.EqNone.eq_none_bool (cR I q (by simp))
  | int j=>obtain⟨t',rfl⟩:=ry;exact PySem.EqNone.eq_none_int (cR I q (by simp))
  | str j=>obtain⟨t',rfl⟩:=ry;exact PySem.EqNone.eq_none_str (cR I q (by simp))
  | _=>exact absurd (show false=true from hs) d5
 | bl i =>
  cases rx;cases y with
  | eZ=>cases ry;exact PySem.EqNone.eq_bool_none (cR I q (by simp))
  | bl j=>cases ry;exact eq_bool (cR I q GA)
  | str j=>obtain⟨t',rfl⟩:=ry;exact PySem.EqMixed.eq_bool_str (cR I q (by simp))
  | _=>exact absurd (show false=true from hs) d5
 | int i =>
  obtain⟨t,rfl⟩:=rx;cases y with
  | eZ=>cases ry;exact PySem.EqNone.eq_int_none (cR I q (by simp))
  | int j=>obtain⟨t',rfl⟩:=ry;exact eq_int (cR I q BM)
  | str j=>obtain⟨t',rfl⟩:=ry;exact PySem.EqMixed.eq_int_str (cR I q (by simp))
  | _=>exact absurd (show false=true from hs) d5
 | str i =>
  obtain⟨t,rfl⟩:=rx;cases y with
  | eZ=>cases ry;exact PySem.EqNone.eq_str_none (cR I q (by simp))
  | bl j=>cases ry;exact PySem.EqMixed.eq_str_bool (cR I q (by simp))
  | int j=>obtain⟨t',rfl⟩:=ry;exact PySem.EqMixed.eq_str_int (cR I q (by simp))
  | str j=>obtain⟨t',rfl⟩:=ry;exact eq_str (cR I q BK)
  | _=>exact absurd (show false=true from hs) d5
 | AE i =>
  obtain⟨t,rfl⟩:=rx;cases y with
  | AE j=>obtain⟨t',rfl⟩:=ry;exact PySem.W.eq_bytes (cR I q BN)
  | _=>exact absurd (show false=true from hs) d5
 | _=>cases y <;> exact absurd (show false=true from hs) d5
def rN:jH X (compareOp .NotEq) rNe:=by
 intro aj s σ H x y v u Q I rx ry h;obtain⟨hs,q⟩:=h;cases x with
 | eZ =>
  cases rx;cases y with
  | eZ=>cases ry;exact PySem.EqNone.ne_none_none (cR I q (by simp))
  | bl j=>cases ry;exact PySem.EqNone.ne_none_bool (cR I q (by simp))
  | int j=>obtain⟨t',rfl⟩:=ry;exact PySem.EqNone.ne_none_int (cR I q (by simp))
  | str j=>obtain⟨t',rfl⟩:=ry;exact PySem.EqNone.ne_none_str (cR I q (by simp))
  | _=>exact absurd (show false=true from hs) d5
 | bl i =>
  cases rx;cases y with
  | eZ=>cases ry;exact PySem.EqNone.ne_bool_none (cR I q (by simp))
  | bl j=>cases ry;exact ne_bool (cR I q (congrArg not GA))
  | str j=>obtain⟨t',rfl⟩:=ry;exact PySem.EqMixed.ne_bool_str (cR I q (by simp))
  | _=>exact absurd (show false=true from hs) d5
 | int i =>
  obtain⟨t,rfl⟩:=rx;cases y with
  | eZ=>cases ry;exact PySem.EqNone.ne_int_none (cR I q (by simp))
  | int j=>obtain⟨t',rfl⟩:=ry;exact ne_int (cR I q (congrArg not BM))
  | str j=>obtain⟨t',rfl⟩:=ry;exact PySem.EqMixed.ne_int_str (cR I q (by simp))
  | _=>exact absurd (show false=true from hs) d5
 | str i =>
  obtain⟨t,rfl⟩:=rx;cases y with
  | eZ=>cases ry;exact PySem.EqNone.ne_str_none (cR I q (by simp))
  | bl j=>cases ry;exact PySem.EqMixed.ne_str_bool (cR I q (by simp))
  | int j=>obtain⟨t',rfl⟩:=ry;exact PySem.EqMixed.ne_str_int (cR I q (by simp))
  | str j=>obtain⟨t',rfl⟩:=ry;exact ne_str (cR I q (congrArg not BK))
  | _=>exact absurd (show false=true from hs) d5
 | AE i =>
  obtain⟨t,rfl⟩:=rx;cases y with
  | AE j=>obtain⟨t',rfl⟩:=ry;exact PySem.W.ne_bytes (cR I q (congrArg not BN))
  | _=>exact absurd (show false=true from hs) d5
 | _=>cases y <;> exact absurd (show false=true from hs) d5
def kW:jH X (compareOp .Lt) (Iw λi j=>.bl (decide (i < j))):=IK λ_ _ _ _ _ _ _ q=>lt_int q
def Fg:jH X (compareOp .LtE) (Iw λi j=>.bl (decide (i<=j))):=IK λ_ _ _ _ _ _ _ q=>le_int q
def Fh:jH X (compareOp .Gt) (Iw λi j=>.bl (decide (j < i))):=IK λ_ _ _ _ _ _ _ q=>gt_int q
def Fi:jH X (compareOp .GtE) (Iw λi j=>.bl (decide (j<=i))):=IK λ_ _ _ _ _ _ _ q=>ge_int q
def jH.or {f:Value->Value->Sem Value}{r r':R2}(h:jH X f r)(h':jH X f r'):jH X f (λx y H Q=>r x y H Q\/r' x y H Q):=by
 intro aj s σ H x y v u Q I rx ry q;rcases q with q | q
 .exact h aj s σ H x y v u Q I rx ry q
 exact h' aj s σ H x y v u Q I rx ry q
def bx (b:Expr){op:CmpOp}(h:op≠.In:=by decide)(h2:op≠.NotIn:=by decide):behindInMarks op b=false:=by
 have e1:(op == CmpOp.In)=false:=by cases op <;> first | rfl | exact absurd rfl h
 have e2:(op == CmpOp.NotIn)=false:=by cases op <;> first | rfl | exact absurd rfl h2
 cases b <;> simp [behindInMarks,e1,e2]
def dw {op:CmpOp}{r:R2}(ho:jH X (compareOp op) r)(ha:PE X a ta)(hb:PE X b tb)(hm:behindInMarks op b=false):PE X (.Compare a [op] [b] pos) (ND r ta tb):=by
 intro aj s σ H Q I h;exact wpAny_Compare1 (Nj ha hb I h λv u s2 x y H2 I2 rx ry q=>ho aj s2 σ H2 x y v u Q I2 rx ry q) hm
def OE (t:TE):TT:=λσ H Q=>t σ H λx H'=>XB x λk=>Q k H'
def aQ {op:CmpOp}{r:R2}(ho:jH X (compareOp op) r)(ha:PE X a ta)(hb:PE X b tb)(hm:behindInMarks op b=false):PT X (.Compare a [op] [b] pos) (OE (ND r ta tb)):=by
 intro aj s σ H Q I h;refine wpAny_isTrue_Compare1 (dC (ha aj s σ H _ I h) λv s1 ⟨x,H1,I1,r1,q1⟩=>dC (hb aj s1 σ H1 _ I1 q1) λu s2 ⟨y,H2,I2,r2,q2⟩ =>
  dC (ho aj s2 σ H2 x y v u _ I2 r1 r2 q2) λc s3 ⟨z,H3,I3,r3,k,e,q3⟩=>?_) hm
 subst e;cases r3;exact m_ ⟨H3,I3,q3⟩
def Lb (r r':R2)(ta tb tc:TE):TE:=λσ H Q=>ta σ H λx H1=>tb σ H1 λy H2=>r x y H2 λz H3=>∃k,z=.bl k /\
 (if k=true then tc σ H3 λw' H4=>r' y w' H4 Q else Q (.bl false) H3)
noncomputable def Fd {op Ui:CmpOp}{r r':R2}(ho:jH X (compareOp op) r)(F6:jH X (compareOp Ui) r')(ha:PE X a ta)(hb:PE X b tb)(hc:PE X c tc)
  (hm:lastMarks [op,Ui] [b,c]=false:=by with_unfolding_all rfl):PE X (.Compare a [op,Ui] [b,c] pos) (Lb r r' ta tb tc):=by
 intro aj s σ H Q I h;refine Compare_chain (dC (ha aj s σ H _ I h) λv s1 ⟨x,H1,I1,r1,q1⟩=>chain_link (dC (hb aj s1 σ H1 _ I1 q1) λu s2 ⟨y,H2,I2,r2,q2⟩ =>
  dC (ho aj s2 σ H2 x y v u _ I2 r1 r2 q2) λd s3 ⟨z,H3,I3,r3,k,e,q3⟩=>?_)) hm
 subst e;cases r3;refine m_ ?_;cases k with
 | false=>exact ite_ff ⟨.bl false,H3,I3,rfl,q3⟩
 | true=>exact ite_tt (chain_last (dC (hc aj s3 σ H3 _ I3 q3) λw' s4 ⟨z',H4,I4,r4,q4⟩=>F6 aj s4 σ H4 y z' u w' Q I4 r2 r4 q4))
def Hc (K:bp)(x:V)(H:Hp)(k:Bool):Prop :=
 match x with
 | .eZ=>k=false
 | .bl b=>k=b
 | .int i=>k=(i != 0)
 | .str y=>y.length<=sizeLine/\k=((y.length:Int) != 0)
 | .AE y=>y.size<=sizeLine/\k=((y.size:Int) != 0)
 | .ref p=>(∃xs,aG K H p xs/\k=!xs.isEmpty)\/(∃xs,a_ K H p xs/\k=!xs.isEmpty)\/∃kvs,H p=some (.dK kvs)/\k=!kvs.isEmpty
 | _=>False
def Ae {κ:Type}{kvs:List (κ×V)}{vs:List (κ×Value)}(r:KV kvs vs):(!vs.isEmpty)=!kvs.isEmpty:=by
 cases r <;> rfl
def rX {xs:List V}{aW:List Value}(r:bw xs aW):(!aW.toArray.isEmpty)=!xs.isEmpty:=by
 cases r <;> simp
def wo:(sizeLine:Nat) < 2 ^ 63:=by rw [sizeLine_eq];decide
def K5:Xr X (λx H Q=>∃k,Hc X.K x H k/\Q k H):=by
 intro aj s σ H x v Q I rx h;obtain⟨k,e,q⟩:=h;have hl:=wo;have hs:sizeLine=16777216:=sizeLine_eq;cases x with
 | eZ =>
  cases rx;have e':k=false:=e;subst e';exact truthy_none ⟨H,I,q⟩
 | bl b =>
  cases rx;have e':k=b:=e;subst e';exact m_ ⟨H,I,q⟩
 | int i =>
  obtain⟨t,rfl⟩:=rx;have e':k=(i != 0):=e;subst e';exact PySem.P.truthy_int ⟨H,I,q⟩
 | str y =>
  obtain⟨t,rfl⟩:=rx;obtain⟨hy,e'⟩:y.length<=sizeLine/\k=((y.length:Int) != 0):=e;subst e';exact PySem.P.truthy_str ∅ ⟨H,I.tok _,q⟩
 | AE y =>
  obtain⟨t,rfl⟩:=rx;obtain⟨hy,e'⟩:y.size<=sizeLine/\k=((y.size:Int) != 0):=e;subst e';exact PySem.W.truthy_bytes ∅ ⟨H,I.tok _,q⟩
 | ref p =>
  cases rx;have e':(∃xs,aG X.K H p xs/\k=!xs.isEmpty)\/(∃xs,a_ X.K H p xs/\k=!xs.isEmpty)\/∃kvs,H p=some (.dK kvs)/\k=!kvs.isEmpty:=e;rcases e' with ⟨xs,hx,e'⟩ | ⟨xs,hx,e'⟩ | ⟨kvs,hx,e'⟩
  .subst e';obtain⟨aW,r,pl,hz⟩:=I.list hx;have bu:=r.length;exact wpAny_truthy_list pl.isList (by simp only [cH];omega) ⟨H,I.tok _,by rw [rX r];exact q⟩
  .subst e';obtain⟨aW,r,pl,hz⟩:=I.tuple hx;have bu:=r.length;exact truthy_tuple pl (by simp only [cH];omega) ⟨H,I.tok _,by rw [rX r];exact q⟩
  subst e';obtain⟨hz,hS,vs,r,m⟩:kvs.length<=sizeLine/\(p == sysModules)=false/\∃vs,KV kvs vs/\s.heap.DictOf (bB X.prog X.w) p vs:=I.cC p _ hx;have bu:kvs.length=vs.length:=bc r;exact wpAny_truthy_dict hS m ∅ ⟨H,I.tok _,by rw [Ae r];exact q⟩
 | _=>exact(show False from e).elim
def iM (ha:PE X a ta)(he:∀whole,isTrue a X.env whole=(do let v <-whole;standAt a.pos;holding [v] (truthy v))) :
  PT X a (λσ H Q=>ta σ H λx H'=>∃k,Hc X.K x H' k/\Q k H'):=by
 intro aj s σ H Q I h;refine isTrue_plain (dC (ha aj s σ H _ I h) λv s1 bN=>?_) (he _);obtain⟨x,H1,I1,r1,q1⟩:=bN;exact K5 aj s1 σ H1 x v Q I1 r1 q1
def zL:jH X (binaryOp .Add) (λx y H Q=>∃i j,x=.str i/\y=.str j/\i.length+j.length<=sizeLine/\Q (.str (i++j)) H):=by
 intro aj s σ H x y v u Q I rx ry h;obtain⟨i,j,rfl,rfl,hz,q⟩:=h;obtain⟨t,rfl⟩:=rx;obtain⟨t',rfl⟩:=ry;exact add_str (λt' tk=>⟨.str (i++j),H,I.tok _,⟨_,rfl⟩,q⟩) hz
def vals1 {x:V}{us:List Value}(r:bw [x] us):∃u,us=[u]/\RelV x u:=by
 cases r with
 | cons r1 r2=>cases r2;exact⟨_,rfl,r1⟩
def vals2 {x y:V}{us:List Value}(r:bw [x,y] us):∃u w',us=[u,w']/\RelV x u/\RelV y w':=by
 cases r with
 | cons r1 r2 =>
  cases r2 with
  | cons r3 r4=>cases r4;exact⟨_,_,rfl,r1,r3⟩
def pD (hc:X.calm=true):gM X (.builtin "max") (λxs H Q=>∃i j,xs=[.int i,.int j]/\Q (.int (if j > i then j else i)) H):=by
 intro aj s σ H xs us Q I r h;obtain⟨i,j,rfl,q⟩:=h;obtain⟨u,w',rfl,⟨t,rfl⟩,⟨t',rfl⟩⟩:=vals2 r;refine max_two_ints (I.ok.hd hc) λh' tk k=>⟨_,H,I.kept k,?_,q⟩;by_cases hj:j > i
 .rw [ax hj,ax hj];exact⟨_,rfl⟩
 rw [az hj,az hj];exact⟨_,rfl⟩
def uR (hc:X.calm=true):gM X (.builtin "min") (λxs H Q=>∃i j,xs=[.int i,.int j]/\Q (.int (if j < i then j else i)) H):=by
 intro aj s σ H xs us Q I r h;obtain⟨i,j,rfl,q⟩:=h;obtain⟨u,w',rfl,⟨t,rfl⟩,⟨t',rfl⟩⟩:=vals2 r;refine min_two_ints (I.ok.hd hc) λh' tk k=>⟨_,H,I.kept k,?_,q⟩;by_cases hj:j < i
 .rw [ax hj,ax hj];exact⟨_,rfl⟩
 rw [az hj,az hj];exact⟨_,rfl⟩
end
structure AI (h:Heap)(x dx C:Addr)(mA:Str->Option Value):Prop where
 obj:h.get? x=some (PySem.W.instObj C dx)
 ns:h.Ns1 dx mA
 ne:dx≠x
def CG {h:Heap}{dx:Addr}{mA:Str->Option Value}(n:h.Ns1 dx mA):∃od,h.get? dx=some od/\∀name,PySem.W.lookIn name od=some (mA name):=by
 obtain⟨o,es,ep,ho,hd,hk,_,hm⟩:=n;refine⟨o,ho,λname=>?_⟩;have e:=hm name;unfold nsFind findBy at e;rw [<-Array.find?_toList] at e;unfold PySem.W.lookIn;rw [hd];dsimp only
 split
 .rename_i y q
  rw [q] at e;exact congrArg some e
 rename_i q
 rw [q] at e;have a:es.toList.any (·.refKey)=false:=by
  rw [List.any_eq_false];intro y hy;obtain⟨z,t,Vz⟩:=hk y (Array.mem_toList_iff.mp hy);simp [DictEntry.refKey,Vz]
 have a':¬es.toList.any (·.refKey)=true:=by rw [a];exact d5
 rw [az a'];exact congrArg some e
def AI.look {h:Heap}{x dx C:Addr}{mA:Str->Option Value}(I:AI h x dx C mA):∃od,PySem.W.InstAt h x (PySem.W.instObj C dx) C (some od)/\∀name,PySem.W.lookIn name od=some (mA name) :=
 let ⟨od,ho,hl⟩:=CG I.ns
 ⟨od,⟨I.obj,rfl,rfl,ho⟩,hl⟩
section
variable {prog:Program}{w:World}{A:Around}{E:Value->Shared->Prop}{s:Shared}{K:bp}{x dx C f:Addr}{mA:Str->Option Value}{name:Str}{v:Value}
def get_map {expr:Bool}{Q:Value->Shared->Prop}(X:K.In s.heap)(I:AI s.heap x dx C mA)(hg:PySem.W.plainGet K C name=true)(hh:PySem.W.hasDictIn K C=true)
  (ha:PySem.W.findIn K (.ref C) name=some none)(hv:mA name=some v)(hv':PySem.W.handedIn v=true)(h:Q v { s with toks:=s.toks+1 }) :
  wpAny (model prog w) A (getAttr (.ref x) name expr) Q E s:=by
 obtain⟨od,J,hl⟩:=I.look;exact PySem.W.get_value X J (PySem.W.plainGet_of hg).1 (PySem.W.findObj_own hh ha rfl (by rw [hl,hv])) hv' h
def Gi {pl:Sem Bool}{Q:Value×List Value->Shared->Prop}(X:K.In s.heap)(I:AI s.heap x dx C mA)(hg:PySem.W.plainGet K C name=true)
  (hf:PySem.W.findIn K (.ref C) name=some (some (.ref f)))(ht:PySem.W.isFn K (.ref f)=true)(hv:mA name=none)(h:Q (.ref f,[.ref x]) s) :
  wpAny (model prog w) A (getMethod (.ref x) name pl) Q E s:=by
 obtain⟨od,J,hl⟩:=I.look;exact PySem.W.method_fn X J (PySem.W.plainGet_of hg).1 (PySem.W.plainGet_of hg).2 hf (beq_iff_eq.mp ht) (by show (PySem.W.lookIn name od).map (·.isSome)=some false;rw [hl,hv];rfl) h
def Ik {ns:List Str}{Q:Unit->Shared->Prop}(X:K.In s.heap)(I:AI s.heap x dx C mA)
  (hs:PySem.W.findIn K (.ref C) "__setattr__"=some (some (.builtin "object.__setattr__")))(hp:PySem.W.plainOver K C=true)(ht:PySem.W.takerIn K C name=some none)(hh:PySem.W.hasDictIn K C=true)
  (hw:PySem.Within mA ns)(hsz:ns.length<=sizeLine)
  (h:∀h',AI h' x dx C (λy=>if y=name then some v else mA y)->Heap.SameBut dx s.heap h'->Q () { s with heap:=h',toks:=s.toks+2 }) :
  wpAny (model prog w) A (setAttr (.ref x) name v) Q E s:=by
 obtain⟨od,J,hl⟩:=I.look;refine PySem.W.set_plain X J hs (PySem.W.osa_open (s:={ s with toks:=s.toks+1 }) (r:=none) X J hp ht λb=>?_);obtain⟨cd,hc,CQ⟩:=PySem.W.any_some hh;have hx:s.heap.get? x=some ⟨.ref C,some dx,.plain,#[]⟩:=I.obj;refine aN (ba (aN (aN (wpAny_loadPart hx (aN (PySem.W.Looks.here (s:={ s with toks:=s.toks+1 }) (PySem.W.looks_clsIn X hc) ?_))))));rw [CQ];refine ba (a:=some dx) (aN (ba (aN ?_)));refine wpAny_nsSet1 (s:={ s with toks:=s.toks+1 }) I.ns λh' F_ Y8=>?_;obtain⟨oD,esD,epD,hoD,hdD,hcD⟩:=F_.count (PySem.Within.cons name v hw);refine aN (wpAny_lookBehind hoD (by rw [hdD];exact pastItsLine_dict (f_ hcD (by rw [fc];omega))) ?_);exact ba (h _ ⟨(Y8.2 _ (fO I.ne)).trans I.obj,F_,I.ne⟩ Y8)
def FK {R:Result->Shared->Prop}{vs:List Value}{kw:List (Str×Value)}(X:K.In s.heap)(hm:PySem.W.makesIn K C=true)
  (hi:PySem.W.findIn K (.ref C) "__init__"=some (some (.ref f)))(hf:PySem.W.typeIn K (.ref f)=some (.type "function"))
  (h:codeAny (model prog w) (A.under (.builtin "type.__call__" ⟨.ref C::vs,kw⟩)) (.call (.ref f) ⟨.ref (s.heap.objs.size+1)::vs,kw⟩) (PySem.W.InitBack (s.heap.objs.size+1) R)
   { s with heap:=(s.heap.push PySem.W.emptyDict).push (PySem.W.instObj C s.heap.objs.size) }) :
  codeAny (model prog w) A (.call (.ref C) ⟨vs,kw⟩) R s:=by
 obtain⟨hh,g,d,t,os⟩:=s;exact PySem.W.make_core (PySem.W.makes_of X hm) (PySem.W.looks_findIn X hi) (λself=>PySem.W.bind_fn X self hf) (.inl rfl) h
end
noncomputable def eV (f:Str)(v:V):List (Str×V)->List (Str×V)
 | []=>[(f,v)]
 | (g,x)::r=>if g=f then (g,v)::r else (g,x)::eV f v r
theorem pR (f g:Str)(v:V):∀fs:List (Str×V),(eV f v fs).lookup g=if g=f then some v else fs.lookup g
 | []=>by
  show List.lookup g [(f,v)]=_;by_cases h:g=f
  .have hb:(g == f)=true:=beq_iff_eq.mpr h;simp only [List.lookup,hb,ax h]
  have hb:(g == f)=false:=jn.mpr h;simp only [List.lookup,hb,az h]
 | (k,x)::r=>by
  have ih:=pR f g v r;rw [show eV f v ((k,x)::r)=(if k=f then (k,v)::r else (k,x)::eV f v r) from rfl];by_cases hk:k=f
  .rw [ax hk];by_cases h:g=k
   .have hb:(g == k)=true:=beq_iff_eq.mpr h;simp only [List.lookup,hb,ax (h.trans hk)]
   have hb:(g == k)=false:=jn.mpr h;simp only [List.lookup,hb,az (λe:g=f=>h (e.trans hk.symm))]
  rw [az hk];by_cases h:g=k
  .have hb:(g == k)=true:=beq_iff_eq.mpr h;simp only [List.lookup,hb,az (λe:g=f=>hk (h.symm.trans e))]
  have hb:(g == k)=false:=jn.mpr h;simp only [List.lookup,hb];exact ih
theorem o5 (f:Str)(v:V):∀fs:List (Str×V),f∈(eV f v fs).map (·.1)/\∀g,g∈fs.map (·.1)->g∈(eV f v fs).map (·.1)
 | []=>⟨by simp [eV],λg h=>by simp at h⟩
 | (k,x)::r=>by
  obtain⟨i1,i2⟩:=o5 f v r;rw [show eV f v ((k,x)::r)=(if k=f then (k,v)::r else (k,x)::eV f v r) from rfl];by_cases hk:k=f
  .rw [ax hk];subst hk;exact⟨by simp,λg h=>by simpa using h⟩
  rw [az hk];refine⟨?_,λg h=>?_⟩
  .rw [cE];exact cY _ i1
  rw [cE] at h ⊢;rcases b8.mp h with e | e
  .exact b8.mpr (.inl e)
  exact cY _ (i2 g e)
theorem pS (f:Str)(v:V):∀fs:List (Str×V),(eV f v fs).length<=fs.length+1
 | []=>by simp [eV]
 | (k,x)::r=>by
  have ih:=pS f v r;rw [show eV f v ((k,x)::r)=(if k=f then (k,v)::r else (k,x)::eV f v r) from rfl];by_cases hk:k=f
  .rw [ax hk,fc,fc];omega
  rw [az hk,fc,fc];omega
def j5.some_of {v:V}{o:Option Value}(r:j5 (some v) o):∃u,o=some u/\RelV v u:=by
 cases o with
 | none=>exact(show False from r).elim
 | some u=>exact⟨u,rfl,r⟩
def j5.none_of {o:Option Value}(r:j5 none o):o=none:=by
 cases o with
 | none=>rfl
 | some u=>exact(show False from r).elim
def CS {v:V}{u:Value}(r:RelV v u):PySem.W.handedIn u=true:=by
 cases v with
 | eZ=>cases (show u=Value.none from r);rfl
 | bl b=>cases (show u=Value.bool b from r);rfl
 | int i=>obtain⟨t,e⟩:=(show ∃t,u=Value.int i t from r);cases e;rfl
 | str x=>obtain⟨t,e⟩:=(show ∃t,u=Value.str x t from r);cases e;rfl
 | AE b=>obtain⟨t,e⟩:=(show ∃t,u=Value.bytes b t from r);cases e;rfl
 | MX b=>obtain⟨t,e⟩:=(show ∃t,u=Value.float b t from r);cases e;rfl
 | ref a=>cases (show u=Value.ref a from r);rfl
 | ty n=>cases (show u=Value.type n from r);rfl
section
variable {P:Program}{w:World}{H H':Hp}{h h':Heap}{a C dx:Addr}{fs HM:List (Str×V)}
def wA (cC:mi P w H h)(e:H a=some (.ins C dx fs)):∃mA,AI h a dx C mA/\(∀f,j5 (fs.lookup f) (mA f))/\PySem.Within mA (fs.map (·.1))/\fs.length<=1000/\H dx=some (.own a):=by
 obtain⟨d,z,ne,ob,mA,n,r,q⟩:=(show cW P w H h a (.ins C dx fs) from cC a _ e);exact⟨mA,⟨ob,n,ne⟩,r,q,z,d⟩
end
structure Ds (K:bp)(C:Addr):Prop where
 pg:PySem.W.plainGet K C Str.empty=true
 hd:PySem.W.hasDictIn K C=true
 po:PySem.W.plainOver K C=true
 sa:PySem.W.findIn K (.ref C) "__setattr__"=some (some (.builtin "object.__setattr__"))
def Ds.get {K:bp}{C:Addr}(c:Ds K C)(f:Str):PySem.W.plainGet K C f=true:=c.pg
def eY (K:bp)(C:Addr)(f:Str):Prop:=PySem.W.findIn K (.ref C) f=some none
def eY.OC {K:bp}{C:Addr}{f:Str}(n:eY K C f):PySem.W.takerIn K C f=some none:=by
 unfold PySem.W.takerIn;rw [show PySem.W.findIn K (.ref C) f=some none from n];rfl
structure Con (K:bp)(C:Addr)(f:Str)(v:V)(u:Value):Prop where
 at_:PySem.W.findIn K (.ref C) f=some (some u)
 rel:RelV v u
 get:PySem.W.specialIn K u "__get__"=some none
 cp:PySem.W.copiedNames.contains f=false
structure Meth (K:bp)(C:Addr)(m:Str)(f:Addr):Prop where
 at_:PySem.W.findIn K (.ref C) m=some (some (.ref f))
 fn:PySem.W.isFn K (.ref f)=true
 kp:PySem.W.keepIn K (.ref f)=true
section
variable {X:Cx}{aj:List (Addr×Obj)}{σ:St}{H:Hp}{s:Shared}{a C dx:Addr}{fs:List (Str×V)}{f:Str}{v:V}{A:Around}{E:Value->Shared->Prop}
def Ao {b:Bool}{Q:Value->Shared->Prop}(I:Inv X aj σ H s)(e:H a=some (.ins C dx fs))(c:Ds X.K C)(n:eY X.K C f)(l:fs.lookup f=some v)
  (h:∀u s',Inv X aj σ H s'->RelV v u->Q u s'):wpAny (model X.prog X.w) A (getAttr (.ref a) f b) Q E s:=by
 obtain⟨mA,O,r,_,_,_⟩:=wA I.cC e;obtain⟨u,hu,ru⟩:=j5.some_of (v:=v) (o:=mA f) (by rw [<-l];exact r f);exact get_map I.wu O (c.get f) c.hd n hu (CS ru) (h u _ (I.tok _) ru)
def r_ {m:Str}{g:Addr}{pl:Sem Bool}{Q:Value×List Value->Shared->Prop}(I:Inv X aj σ H s)(e:H a=some (.ins C dx fs))(c:Ds X.K C)(k:Meth X.K C m g)(l:fs.lookup m=none)
  (h:Q (.ref g,[.ref a]) s):wpAny (model X.prog X.w) A (getMethod (.ref a) m pl) Q E s:=by
 obtain⟨mA,O,r,_,_,_⟩:=wA I.cC e;have hn:mA m=none:=j5.none_of (by rw [<-l];exact r m);exact Gi I.wu O (c.get m) k.at_ k.fn hn h
def ze {y:V}{u:Value}{Q:Unit->Shared->Prop}(I:Inv X aj σ H s)(e:H a=some (.ins C dx fs))(c:Ds X.K C)(n:eY X.K C f)(hl:fs.length < 1000)(ry:RelV y u)
  (h:∀s',Inv X aj σ (upd H a (.ins C dx (eV f y fs))) s'->Q () s'):wpAny (model X.prog X.w) A (setAttr (.ref a) f u) Q E s:=by
 obtain⟨mA,O,r,wi,_,ho⟩:=wA I.cC e;have hz:(fs.map (·.1)).length<=sizeLine:=by rw [au,sizeLine_eq];omega
 refine Ik I.wu O c.sa c.po n.OC c.hd wi hz λh' O' sb=>h _ ?_;have hd:∃o,h'.get? dx=some o:=let ⟨o,_,_,e',_⟩:=O'.ns;⟨o,e'⟩;refine I.write (x:=a) (e:=dx) (by rw [e];exact True.intro) (.inr ho) (λb q hb z=>(sb.2 b hb).trans z) hd ?_;refine⟨by rw [ak O.ne];exact ho,?_,O.ne,O'.obj,_,O'.ns,λg=>?_,λg hg=>?_⟩
 .have:=pS f y fs;omega
 .show j5 ((eV f y fs).lookup g) (if g=f then some u else mA g);rw [pR];by_cases q:g=f
  .rw [ax q,ax q];exact ry
  rw [az q,az q];exact r g
 by_cases q:g=f
 .rw [q];exact(o5 f y fs).1
 refine(o5 f y fs).2 g (wi g λz=>hg ?_);show (if g=f then some u else mA g)=none;rw [az q];exact z
def Inv.made (I:Inv X aj σ H s):Inv X aj σ (upd (upd H s.heap.objs.size (.own (s.heap.objs.size+1))) (s.heap.objs.size+1) (.ins C s.heap.objs.size []))
  { s with heap:=(s.heap.push PySem.W.emptyDict).push (PySem.W.instObj C s.heap.objs.size) }:=by
 have e1:(s.heap.push PySem.W.emptyDict).get? s.heap.objs.size=some PySem.W.emptyDict:=d8 s.heap rfl;have e2:((s.heap.push PySem.W.emptyDict).push (PySem.W.instObj C s.heap.objs.size)).get? (s.heap.objs.size+1)=some (PySem.W.instObj C s.heap.objs.size):=by
  have:=d8 (s.heap.push PySem.W.emptyDict) (o:=PySem.W.instObj C s.heap.objs.size) rfl;rwa [mn] at this
 have e3:(s.heap.push PySem.W.emptyDict).Ns s.heap.objs.size (λ_=>none):=⟨PySem.W.emptyDict,#[],_,e1,rfl,(λe he=>absurd he (by simp)),λ_=>rfl⟩;have I1:=I.laid (a:=s.heap.objs.size) (o:=.own (s.heap.objs.size+1)) (h':=s.heap.push PySem.W.emptyDict) (t':=s.toks) (λb u q=>cJ _ q) (aU _) ⟨_,e1⟩;refine I1.laid (a:=s.heap.objs.size+1) (o:=.ins C s.heap.objs.size []) (t':=s.toks) (λb u q=>cJ _ q) (Nat.le_of_eq (mn _ _)) ?_;have ne:s.heap.objs.size≠s.heap.objs.size+1:=cu (mY _);refine⟨by rw [ak ne,ae],gG _,ne,e2,λ_=>none,(Heap.Ns1.of_empty e3).at λo q=>cJ _ q,λ_=>True.intro,λy hy=>absurd rfl hy⟩
def JD {prog:Program}{w:World}{env:Env}{e:Expr}{f:Str}{pos:Pos}{s:Shared}{Q:Value->Shared->Prop}(hb:attributeBase e f env (eval e env)=eval e env)
  (h:wpAny (model prog w) A (eval e env) (λo s₁=>wpAny (model prog w) A (getAttr o f true) Q E s₁) E s):wpAny (model prog w) A (eval (.Attribute e f pos) env) Q E s :=
 Attribute_any_ h (by rw [arm_eval_Attribute,hb])
end
inductive Rl (K:bp)(H:Hp)(f:Str)(x:V)(R:V->Prop):Prop
|mk(a C dx:Addr)(fs:List (Str×V))(v:V)(e:x=.ref a)(h:H a=some (.ins C dx fs))(c:Ds K C)(n:eY K C f)(l:fs.lookup f=some v)(q:R v)
inductive XSf (K:bp)(H:Hp)(f:Str)(x:V)(R:Addr->Addr->Addr->List (Str×V)->Prop):Prop
|mk(a C dx:Addr)(fs:List (Str×V))(e:x=.ref a)(h:H a=some (.ins C dx fs))(c:Ds K C)(n:eY K C f)(l:fs.length < 1000)(q:R a C dx fs)
def TM (K:bp)(ta:TE)(f:Str):TE:=λσ H Q=>ta σ H λx H1=>Rl K H1 f x λv=>Q v H1
def T4 (K:bp)(ta tv:TE)(f:Str):TS:=λD σ H=>tv σ H λy H1=>ta σ H1 λx H2=>XSf K H2 f x λa C dx fs=>D.nx σ (upd H2 a (.ins C dx (eV f y fs)))
section
variable {X:Cx}{o e value:Expr}{f:Str}{pos pos' vB:Pos}{ta tv:TE}
def eI (he:PE X e ta)(hb:attributeBase e f X.env (eval e X.env)=eval e X.env):PE X (.Attribute e f pos) (TM X.K ta f):=by
 intro aj s σ H Q I h;refine JD hb (dC (he aj s σ H _ I h) λu s1 bN=>?_);obtain⟨x,H1,I1,rx,a,C,dx,fs,v,ex,ea,c,n,l,q⟩:=bN;subst ex;obtain rfl:u=Value.ref a:=rx;exact Ao I1 ea c n l λu' s2 I2 ru=>⟨v,H1,I2,ru,q⟩
def gT (ha:PE X o ta)(hv:PE X value tv)(hs:swapsWith value (some (.Attribute o f pos')) pos.line X.env=pure false):PS X (.Assign [.Attribute o f pos'] value pos) (T4 X.K ta tv f):=by
 intro aj s σ H D I h;refine plainObj_wpAny_Assign_Attribute (dC (hv aj s σ H _ I h) λu s1 bN=>?_) hs;obtain⟨y,H1,I1,ry,q⟩:=bN;refine dC (ha aj s1 σ H1 _ I1 q) λov s2 bN=>?_;obtain⟨x,H2,I2,rx,a,C,dx,fs,ex,ea,c,n,l,q2⟩:=bN;subst ex;obtain rfl:ov=Value.ref a:=rx;exact ze I2 ea c n l ry λs3 I3=>⟨σ,_,I3,q2⟩
def Kd {pl:Sem Bool}{m:Str}{apos:Pos}{args:List Expr}{aj:List (Addr×Obj)}{s:Shared}{σ:St}{H:Hp}{Q:Value->Shared->Prop}{te:TE}(he:PE X e te)(I:Inv X aj σ H s)
  (h:te σ H λx H1=>∃a C dx fs g,x=.ref a/\H1 a=some (.ins C dx fs)/\Ds X.K C/\Meth X.K C m g/\fs.lookup m=none /\
   ∀s1,Inv X aj σ H1 s1->wpAny (model X.prog X.w) X.A (callWith pos (.ref g) [.ref a] (backTo pos (starEach args X.env)) (backToKw pos (keywordEach [] X.env))) Q X.xe s1)
  (ht:eval (.Call (.Attribute e m apos) args [] pos) X.env=(do
   let ov <-eval e X.env
   standAt apos.atName
   let (f,first) <-holding [ov] (getMethod ov m pl)
   callWith pos f first (backTo pos (starEach args X.env)) (backToKw pos (keywordEach [] X.env)))) :
  wpAny (model X.prog X.w) X.A (eval (.Call (.Attribute e m apos) args [] pos) X.env) Q X.xe s:=by
 refine PySem.W.methodCall_KW (pl:=pl) (dC (he aj s σ H _ I h) λu s1 bN=>?_) ht;obtain⟨x,H1,I1,rx,a,C,dx,fs,g,ex,ea,c,k,l,q⟩:=bN;subst ex;obtain rfl:u=Value.ref a:=rx;exact r_ I1 ea c k l (q s1 I1)
end
section
variable {X:Cx}{aj:List (Addr×Obj)}{σ:St}{H:Hp}{s:Shared}{A:Around}{E:Value->Shared->Prop}{Q:Value->Shared->Prop}{c:Value}{b:Bool}
inductive tq (K:bp)(H:Hp):V->Value->Prop where
 | eZ:tq K H .eZ (.type "NoneType")
 | bl (x:Bool):tq K H (.bl x) (.type "bool")
 | int (i:Int):tq K H (.int i) (.type "int")
 | str (x:Str):tq K H (.str x) (.type "str")
 | MX (x:UInt64):tq K H (.MX x) (.type "float")
 | lst {a:Addr}{xs:List V}(e:H a=some (.lst xs)):tq K H (.ref a) (.type "list")
 | ki {a:Addr}{o:Obj}{xs:List V}(e:H a=some (.ki o (.lst xs))):tq K H (.ref a) (.type "list")
 | tup {a:Addr}{xs:List V}(e:H a=some (.tup xs)):tq K H (.ref a) (.type "tuple")
 | dK {a:Addr}{kvs:List (aT×V)}(e:H a=some (.dK kvs)):tq K H (.ref a) (.type "dict")
 | dT {a:Addr}{kvs:List (List aT×V)}(e:H a=some (.dT kvs)):tq K H (.ref a) (.type "dict")
 | ins {a C dx:Addr}{fs:List (Str×V)}(e:H a=some (.ins C dx fs))(cl:Ds K C)(ha:PySem.W.findIn K (.ref C) "__class__"=some (some (.builtin "object.__class__")))
   (hn:PySem.W.specialIn K (.builtin "object.__class__") "__get__"=some (some (.builtin "getset_descriptor.__get__")))(NU:PySem.W.takesIn K (.builtin "object.__class__")=some true)
   (hm:PySem.W.mroIn K C (.type "object")=some true):tq K H (.ref a) (.ref C)
end
structure fJ (k:Nat)(A:Around):Prop where
 hd:A.handled=none
 dp:A.depth+3 * k+5 < recursionLimit
 un:A.units+16 * k+200 < cLine
def fJ.mono {j k:Nat}{A:Around}(r:fJ k A)(h:j<=k):fJ j A:=⟨r.hd,by have:=r.dp;omega,by have:=r.un;omega⟩
theorem fJ.deeper {k:Nat}{A:Around}(r:fJ (k+1) A)(env:Env):fJ k (A.deeper env) :=
 ⟨r.hd,by have:=r.dp;show A.depth+1+3 * k+5 < _;omega,by have:=r.un;show A.units+3+16 * k+200 < _;omega⟩
theorem fJ.in1 {k:Nat}{A:Around}(r:fJ (k+1) A):fJ k A.in1 :=
 ⟨r.hd,by have:=r.dp;show A.depth+3 * k+5 < _;omega,by have:=r.un;show A.units+1+16 * k+200 < _;omega⟩
def zX {A:Around}{C:Addr}{us:List Value}{kw:List (Str×Value)}:(A.under (.builtin "type.__call__" ⟨.ref C::us,kw⟩)).depth=A.depth+1:=by
 first | rfl | simp [Around.under,Code.weight,Code.isCreation,Code.isGuard,Code.isCaller,Code.frames,Code.isFrame,guardIds]
def zW {A:Around}{C:Addr}{us:List Value}{kw:List (Str×Value)}:(A.under (.builtin "type.__call__" ⟨.ref C::us,kw⟩)).units=A.units+1:=by
 first | rfl | simp [Around.under,Code.cUnits,Code.frames,Code.isFrame]
def fJ.make {k:Nat}{A:Around}(r:fJ (k+1) A)(C:Addr)(us:List Value)(kw:List (Str×Value)):fJ k (A.under (.builtin "type.__call__" ⟨.ref C::us,kw⟩)) :=
 ⟨r.hd,by have:=r.dp;rw [zX];omega,by have:=r.un;rw [zW];omega⟩
theorem fJ.depth {k:Nat}{A:Around}(r:fJ k A):A.depth < recursionLimit:=by have:=r.dp;omega
theorem fJ.units {k:Nat}{A:Around}(r:fJ k A):A.units+64 < cLine:=by have:=r.un;omega
def p_:TA:=λ_ H Q=>Q [] H
def gp (ta:TE)(tr:TA):TA:=λσ H Q=>ta σ H λx H1=>tr σ H1 λxs H2=>Q (x::xs) H2
section
variable {X:Cx}{e:Expr}{es:List Expr}{te:TE}{t:TA}{pos:Pos}
def ai:PA X [] p_:=λ_ _ _ _ H Q I h=>Calls.spliced_nil ⟨[],H,I,.nil,h⟩
def ab (ha:PE X e te)(hr:PA X es t)(hs:starEach (e::es) X.env=(false,eval e X.env)::starEach es X.env:=by rfl):PA X (e::es) (gp te t):=by
 intro pos aj s σ H Q I h;rw [hs];show wpAny _ _ (spliced ((false,eval e X.env)::backTo pos (starEach es X.env))) _ _ s;refine oK (dC (ha aj s σ H _ I h) λu s1 bN=>?_);obtain⟨x,H1,I1,r1,q1⟩:=bN;refine dC (hr pos aj s1 σ H1 _ I1 q1) λus s2 bN=>?_;obtain⟨xs,H2,I2,r2,q2⟩:=bN;exact⟨x::xs,H2,I2,.cons r1 r2,q2⟩
def rf (t:TA):TE:=λσ H Q=>t σ H λxs H1=>xs.length<=sizeLine/\∀p,H1 p=none->Q (.ref p) (upd H1 p (.tup xs))
def OK (t:TA):TE:=λσ H Q=>t σ H λxs H1=>xs.length<=sizeLine/\∀p,H1 p=none->Q (.ref p) (upd H1 p (.lst xs))
def bC {x1}(h:PA X es t):PE X (.Tuple es x1 pos) (rf t):=by
 intro aj s σ H Q I hq;refine wpAny_Tuple_spliced (dC (h pos aj s σ H _ I hq) λus s1 bN=>?_);obtain⟨xs,H1,I1,r,z,q⟩:=bN;refine⟨by rw [<-r.length];exact z,?_⟩;have hf:H1 s1.heap.objs.size=none:=I1.cC.fresh (aU _);refine⟨.ref s1.heap.objs.size,upd H1 s1.heap.objs.size (.tup xs),I1.laid (t':=s1.toks) (λb u e=>cJ _ e) (aU _) ?_,rfl,q _ hf⟩;exact⟨z,us,r,⟨_,d8 _ rfl,rfl,_,rfl⟩⟩
def bL (h:PA X es t):PE X (.List es pos) (OK t):=by
 intro aj s σ H Q I hq;refine wpAny_List_spliced (dC (h pos aj s σ H _ I hq) λus s1 bN=>?_);obtain⟨xs,H1,I1,r,z,q⟩:=bN;refine⟨by rw [<-r.length];exact z,?_⟩;have hf:H1 s1.heap.objs.size=none:=I1.cC.fresh (aU _);refine⟨.ref s1.heap.objs.size,upd H1 s1.heap.objs.size (.lst xs),I1.laid (t':=s1.toks) (λb u e=>cJ _ e) (aU _) ?_,rfl,q _ hf⟩;exact⟨z,us,0,r,d8 _ rfl⟩
end
abbrev Sp:=List V->Hp->VK->XK->Prop
abbrev yL:=List Env->Hp->Shared->XK->Value->Shared->Prop
structure qh (P:Program)(w:World)(K:bp)(mg:Str->Option Value)(base:Heap)(A:Around)(outer:List Env)(s:Shared)(H:Hp):Prop where
 frames:A.frames=some outer
 mod:Mod K mg base
 bs:∀b o,base.get? b=some o->s.heap.get? b=some o/\H b=none
 HV:base.objs.size<=s.heap.objs.size
 pj:s.heap.FunFrames base outer
 Ku:∀b∈CV outer,H b=none
 cC:mi P w H s.heap
 bare:AllBare s.gens
def CE (outer:List Env)(P:Program)(w:World)(H:Hp)(s:Shared)(Q:VK)(u:Value)(s':Shared):Prop :=
 ∃v H',s'.os=s.os/\AllBare s'.gens/\Un (CV outer) [] H H' s.heap s'.heap/\mi P w H' s'.heap/\RelV v u/\Q v H'
def CR (CX:yL)(outer:List Env)(P:Program)(w:World)(H:Hp)(s:Shared)(Q:VK)(E:XK)(r:Result)(s':Shared):Prop :=
 match r with
 | .ok (.ret u)=>CE outer P w H s Q u s'
 | .ok _=>False
 | .error e=>CX outer H s E e s'
structure bV (P:Program)(w:World)(K:bp)(mg:Str->Option Value)(base:Heap)(CX:yL) (k:Nat)(f:Addr)(fd:FuncData) (ps:List Str)(sp:Sp):Prop where
 len:∀vs H Q E,sp vs H Q E->vs.length=ps.length
 run:∀(A:Around)(outer:List Env)(s:Shared)(H:Hp)(args:Args)(us:List Value)(vs:List V)(Q:VK)(E:XK),fJ k A->qh P w K mg base A outer s H->BindsTo s fd args (ps.zip us)->bw vs us->sp vs H Q E ->
  codeAny (model P w) A (.call (.ref f) args) (CR CX outer P w H s Q E) s
theorem bV.mono {P:Program}{w:World}{K:bp}{mg:Str->Option Value}{base:Heap}{CX:yL}{j k:Nat}{f:Addr}{fd:FuncData}{ps:List Str}{sp:Sp}(F:bV P w K mg base CX j f fd ps sp)(h:j<=k) :
  bV P w K mg base CX k f fd ps sp:=⟨F.len,λA outer s H args us vs Q E hr=>F.run A outer s H args us vs Q E (hr.mono h)⟩
def bV.imp {P:Program}{w:World}{K:bp}{mg:Str->Option Value}{base:Heap}{CX:yL}{k:Nat}{f:Addr}{fd:FuncData}{ps:List Str}{sp X6:Sp}(F:bV P w K mg base CX k f fd ps sp)
  (h:∀vs H Q E,X6 vs H Q E->sp vs H Q E):bV P w K mg base CX k f fd ps X6 :=
 ⟨λvs H Q E q=>F.len vs H Q E (h _ _ _ _ q),λA outer s H args us vs Q E hr he hb hv hs=>F.run A outer s H args us vs Q E hr he hb hv (h _ _ _ _ hs)⟩
def qh.make {P:Program}{w:World}{K:bp}{mg:Str->Option Value}{base:Heap}{A:Around}{outer:List Env}{s:Shared}{H:Hp}(e:qh P w K mg base A outer s H)(C:Addr)(us:List Value)(kw:List (Str×Value)) :
  qh P w K mg base (A.under (.builtin "type.__call__" ⟨.ref C::us,kw⟩)) outer s H:=⟨by first | exact e.frames | (simpa [Around.under,Code.envs,Code.isFrame,pushEnvs] using e.frames),e.mod,e.bs,e.HV,e.pj,e.Ku,e.cC,e.bare⟩
theorem qh.in1 {P:Program}{w:World}{K:bp}{mg:Str->Option Value}{base:Heap}{A:Around}{outer:List Env}{s:Shared}{H:Hp}(e:qh P w K mg base A outer s H) :
  qh P w K mg base A.in1 outer s H:=⟨e.frames,e.mod,e.bs,e.HV,e.pj,e.Ku,e.cC,e.bare⟩
section
variable {X:Cx}{aj:List (Addr×Obj)}{σ:St}{H:Hp}{s s':Shared}
def Inv.M4 (I:Inv X aj σ H s):qh X.prog X.w X.K X.mg X.base X.A X.stack s H :=
 ⟨I.ok.frames,I.ok.mod,I.bs,f_ I.ok.HV I.sz,I.stack,I.A2,I.cC,I.bare⟩
def Inv.after {Q:VK}{u:Value}(I:Inv X aj σ H s)(h:CE X.stack X.prog X.w H s Q u s'):EP X aj σ Q u s':=by
 obtain⟨v,H',os,bare,un,cC,r,q⟩:=h;obtain⟨hh,g,d,t,os'⟩:=s';obtain rfl:os'=s.os:=os;exact⟨v,H',I.call (h':=hh) (g':=g) (d':=d) (t':=t) (ch:=[]) un cC bare (λb z=>absurd z (by simp)),r,q⟩
end
def JR (sp:Sp)(dvs:List V)(E:XK)(t:TA):TE:=λσ H Q=>t σ H λvs H1=>sp (vs++dvs) H1 Q E
def OI (C:Addr)(m:Str)(sp:Sp)(dvs:List V)(E:XK)(ta:TE)(t:TA):TE:=λσ H Q=>ta σ H λx H1=>∃a dx fs,x=.ref a/\H1 a=some (.ins C dx fs)/\fs.lookup m=none /\
 t σ H1 λvs H2=>sp (x::(vs++dvs)) H2 Q E
def OJ (C:Addr)(sp:Sp)(dvs:List V)(E:XK)(t:TA):TE:=λσ H Q=>t σ H λvs H1=>∀x dx,H1 x=none->H1 dx=none->dx≠x ->
 sp (.ref x::(vs++dvs)) (upd (upd H1 dx (.own x)) x (.ins C dx [])) (λv H2=>v=.eZ/\Q (.ref x) H2) E
def Binds (K:bp)(fd:FuncData) (ps:List Str)(ds:List Value):Prop :=
 ∀(s:Shared)(us:List Value),K.In s.heap->(us++ds).length=ps.length->BindsTo s fd ⟨us,[]⟩ (ps.zip (us++ds))
def Binds.all {K:bp}{fd:FuncData}{ps:List Str}(h:∀us:List Value,us.length=ps.length->bindArgs fd ⟨us,[]⟩=pure (ps.zip us)):Binds K fd ps []:=λs us _ hl=>by
 rw [il] at hl ⊢;exact .of_eq (h us hl)
def Passes (CX:yL)(X:Cx)(E:XK):Prop:=∀(aj:List (Addr×Obj))(σ:St)(H:Hp)(s:Shared)(e:Value)(s':Shared),Inv X aj σ H s->CX X.stack H s E e s'->X.xe e s'
section
variable {X:Cx}{CX:yL}{k:Nat}{f C:Addr}{fd:FuncData}{ps:List Str}{sp:Sp}{dvs:List V}{ds:List Value}{E:XK}{x m:Str}{p pos apos:Pos}{e o:Expr}{es:List Expr}{ta:TE}{t:TA}
def ET {aj:List (Addr×Obj)}{σ:St}{H:Hp}{s:Shared}{Q:VK}{us:List Value}{vs:List V}(F:bV X.prog X.w X.K X.mg X.base CX k f fd ps sp)(hr:fJ k X.A)(hb:Binds X.K fd ps ds)(hd:bw dvs ds)(hx:Passes CX X E)
  (I:Inv X aj σ H s)(r:bw vs us)(h:sp (vs++dvs) H Q E):wpAny (model X.prog X.w) X.A (call (.ref f) us) (EP X aj σ Q) X.xe s:=by
 have r2:bw (vs++dvs) (us++ds):=r.append hd;have hl:(us++ds).length=ps.length:=by rw [<-r2.length];exact F.len _ _ _ _ h
 refine wpAny_call (oy (F.run X.A X.stack s H ⟨us,[]⟩ (us++ds) (vs++dvs) Q E hr I.M4 (hb s us I.wu hl) r2 h) λr s' hq=>?_);cases r with
 | error e=>exact hx aj σ H s e s' I hq
 | ok fl =>
  cases fl with
  | ret u=>exact I.after hq
  | next=>exact False.elim hq
  | brk=>exact False.elim hq
  | cont=>exact False.elim hq
def IG (F:bV X.prog X.w X.K X.mg X.base CX k f fd ps sp)(hr:fJ k X.A)(hg:Gl X x)(hm:X.mg x=some (.ref f))(hk:PySem.W.keepIn X.K (.ref f)=true)(hb:Binds X.K fd ps ds)(hd:bw dvs ds)(hx:Passes CX X E)
  (ha:PA X (e::es) t)(CP:(x == ("__debug__":Str))=false:=by decide)(he:starEach (e::es) X.env=(false,eval e X.env)::starEach es X.env:=by rfl)(wC:(backTo pos (starEach es X.env)).any (·.1)=false:=by rfl) :
  PE X (.Call (.Name x p) (e::es) [] pos) (JR sp dvs E t):=by
 intro aj s σ H Q I h;refine qE (wt I hg hm ?_ CP);refine PySem.W.callWith_K (h₀:=X.base) I.ok.mod.PY hk (dC (ha pos aj s σ H _ I h) λus s1 bN=>?_) he wC;obtain⟨vs,H1,I1,r,q⟩:=bN;refine⟨I1.wu,?_⟩;exact ET F hr hb hd hx I1 r q
def Bp {pl:Sem Bool}(he:PE X o ta)(c:Ds X.K C)(hm:Meth X.K C m f)(F:bV X.prog X.w X.K X.mg X.base CX k f fd ps sp)(hr:fJ k X.A)(hb:Binds X.K fd ps ds)(hd:bw dvs ds)(hx:Passes CX X E)(ha:PA X (e::es) t)
  (yF:starEach (e::es) X.env=(false,eval e X.env)::starEach es X.env:=by rfl)(wC:(backTo pos (starEach es X.env)).any (·.1)=false:=by rfl)
  (ht:eval (.Call (.Attribute o m apos) (e::es) [] pos) X.env=(do
   let ov <-eval o X.env
   standAt apos.atName
   let (f,first) <-holding [ov] (getMethod ov m pl)
   callWith pos f first (backTo pos (starEach (e::es) X.env)) (backToKw pos (keywordEach [] X.env))):=by rfl) :
  PE X (.Call (.Attribute o m apos) (e::es) [] pos) (OI C m sp dvs E ta t):=by
 intro aj s σ H Q I h;refine PySem.W.methodCall_KW (pl:=pl) (dC (he aj s σ H _ I h) λu s1 bN=>?_) ht;obtain⟨x,H1,I1,rx,a,dx,fs,ex,ea,l,q⟩:=bN;subst ex;obtain rfl:u=Value.ref a:=rx;refine r_ I1 ea c hm l ?_;refine PySem.W.callWith_K (first:=[.ref a]) (h₀:=X.base) I.ok.mod.PY hm.kp (dC (ha pos aj s1 σ H1 _ I1 q) λus s2 bN=>?_) yF wC;obtain⟨vs,H2,I2,r,q2⟩:=bN;refine⟨I2.wu,?_⟩;exact ET (us:=.ref a::us) (vs:=.ref a::vs) F hr hb hd hx I2 (.cons rfl r) q2
structure Mk (K:bp)(C f:Addr):Prop where
 makes:PySem.W.makesIn K C=true
 init:PySem.W.findIn K (.ref C) "__init__"=some (some (.ref f))
 fn:PySem.W.isFn K (.ref f)=true
 kp:PySem.W.keepIn K (.ref C)=true
def ES {aj:List (Addr×Obj)}{σ:St}{H:Hp}{s:Shared}{Q:VK}{us:List Value}{vs:List V}(M:Mk X.K C f)(F:bV X.prog X.w X.K X.mg X.base CX k f fd ps sp)(hr:fJ (k+1) X.A)(hb:Binds X.K fd ps ds)(hd:bw dvs ds)
  (hx:Passes CX X E)(I:Inv X aj σ H s)(r:bw vs us)
  (h:∀x dx,H x=none->H dx=none->dx≠x->sp (.ref x::(vs++dvs)) (upd (upd H dx (.own x)) x (.ins C dx [])) (λv H2=>v=.eZ/\Q (.ref x) H2) E) :
  wpAny (model X.prog X.w) X.A (call (.ref C) us) (EP X aj σ Q) X.xe s:=by
 have hq:=h (s.heap.objs.size+1) s.heap.objs.size (I.cC.fresh (kj _)) (I.cC.fresh (aU _)) (cu (mY _));have I2:=Inv.made (C:=C) I;have r2:bw (V.ref (s.heap.objs.size+1)::(vs++dvs)) (Value.ref (s.heap.objs.size+1)::(us++ds)):=.cons rfl (r.append hd);have hl:(Value.ref (s.heap.objs.size+1)::us++ds).length=ps.length:=by
  have e:=r2.length;rw [F.len _ _ _ _ hq] at e;exact e.symm
 refine wpAny_call (FK (f:=f) I.wu M.makes M.init (beq_iff_eq.mp M.fn) (oy (F.run _ X.stack _ _ ⟨Value.ref (s.heap.objs.size+1)::us,[]⟩ (Value.ref (s.heap.objs.size+1)::(us++ds)) _ _ E (hr.make C us [])
  (I2.M4.make C us []) (hb _ (Value.ref (s.heap.objs.size+1)::us) I2.wu hl) r2 hq) λr s' Qi=>?_))
 cases r with
 | error e=>exact hx aj σ _ _ e s' I2 Qi
 | ok fl =>
  cases fl with
  | ret u =>
   obtain⟨v,H',I3,rv,ev,q3⟩:=I2.after Qi;subst ev;exact⟨rv,⟨V.ref (s.heap.objs.size+1),H',I3,rfl,q3⟩⟩
  | next=>exact False.elim Qi
  | brk=>exact False.elim Qi
  | cont=>exact False.elim Qi
def wb (M:Mk X.K C f)(F:bV X.prog X.w X.K X.mg X.base CX k f fd ps sp)(hr:fJ (k+1) X.A)(hg:Gl X x)(hm:X.mg x=some (.ref C))(hb:Binds X.K fd ps ds)(hd:bw dvs ds)(hx:Passes CX X E)
  (ha:PA X (e::es) t)(CP:(x == ("__debug__":Str))=false:=by decide)(he:starEach (e::es) X.env=(false,eval e X.env)::starEach es X.env:=by rfl)(wC:(backTo pos (starEach es X.env)).any (·.1)=false:=by rfl) :
  PE X (.Call (.Name x p) (e::es) [] pos) (OJ C sp dvs E t):=by
 intro aj s σ H Q I h;refine qE (wt I hg hm ?_ CP);refine PySem.W.callWith_K (h₀:=X.base) I.ok.mod.PY M.kp (dC (ha pos aj s σ H _ I h) λus s1 bN=>?_) he wC;obtain⟨vs,H1,I1,r,q⟩:=bN;refine⟨I1.wu,?_⟩;exact ES M F hr hb hd hx I1 r q
end
section
variable {X:Cx}{CX:yL}{k:Nat}{f C:Addr}{fd:FuncData}{ps ks:List Str}{sp:Sp}{E:XK}{x m:Str}{p pos apos aai:Pos}{e o:Expr}{es:List Expr}{kws:List Keyword}{te ta:TE}{t tk:TA}{nm:Option Str}
structure Xv (K:bp)(fd:FuncData) (ps ks:List Str)(g:List Value->List Value->List Value)(gV:List V->List V->List V):Prop where
 to:∀(s:Shared)(us ws:List Value),K.In s.heap->(g us ws).length=ps.length->BindsTo s fd ⟨us,ks.zip ws⟩ (ps.zip (g us ws))
 rel:∀{vs:List V}{us:List Value}{zs:List V}{ws:List Value},bw vs us->bw zs ws->bw (gV vs zs) (g us ws)
variable {g:List Value->List Value->List Value}{gV:List V->List V->List V}
end
structure aK (N P:List Str)(sc:Scope):Prop where
 kind:sc.kind=.function
 co:sc.isCoroutine=false
 gen:sc.isGenerator=false
 nd:N.Nodup
 pre:N.take P.length=P
 par:∀x∈P,sc.names.lookup x=some .local\/sc.names.lookup x=some .cell
 LX:∀y∈sc.names,y.2≠.free
def iz {N P:List Str}{sc:Scope}(a:sc.kind=.function)(b:sc.isCoroutine=false)(c:sc.isGenerator=false)(d:N.take P.length=P)(e:N.Nodup/\(∀x∈P,sc.names.lookup x=some .local\/sc.names.lookup x=some .cell)/\∀y∈sc.names,y.2≠.free):aK N P sc:=⟨a,b,c,e.1,d,e.2.1,e.2.2⟩
theorem uU {kindOf:Str->Option NameKind}{x:Str}:∀{binds:List (Str×Value)}{m:Str->Option Value},(∀v,(x,v)∉binds)->bindL kindOf binds m x=m x
 | [],_,_=>rfl
 | (n,v)::r,m,h=>by
  unfold bindL;rw [uU λw hw=>h w (cY _ hw)]
  split
  .have:x≠n:=by rintro rfl;exact h v cS
   simp [this]
  rfl
theorem uW {kindOf:Str->Option NameKind}{x:Str}:∀{binds:List (Str×Value)}{m:Str->Option Value},(∀v,(x,v)∉binds)->bindC kindOf binds m x=m x
 | [],_,_=>rfl
 | (n,v)::r,m,h=>by
  unfold bindC;rw [uW λw hw=>h w (cY _ hw)]
  split
  .rfl
  have:x≠n:=by rintro rfl;exact h v cS
  simp [this]
theorem uV {kindOf:Str->Option NameKind}{x:Str}{v:Value}:∀{P:List Str}{vs:List Value}{i:Nat}{m:Str->Option Value},P.Nodup->P[i]?=some x->vs[i]?=some v->kindOf x=some .local ->
  bindL kindOf (P.zip vs) m x=some v
 | [],_,_,_,_,h,_,_=>by simp at h
 | _::_,[],_,_,_,_,h,_=>by simp at h
 | p::P,w::vs,0,m,nd,h1,h2,hk=>by
  simp at h1 h2;subst h1;subst h2;show bindL kindOf ((p,w)::P.zip vs) m p=_;unfold bindL;rw [uU λv hv=>(iI.mp nd).1 (List.of_mem_zip hv).1,ax hk];simp
 | p::P,w::vs,i+1,m,nd,h1,h2,hk=>by
  show bindL kindOf ((p,w)::P.zip vs) m x=_;unfold bindL;exact uV (i:=i) (iI.mp nd).2 (by simpa using h1) (by simpa using h2) hk
theorem uX {kindOf:Str->Option NameKind}{x:Str}{v:Value}:∀{P:List Str}{vs:List Value}{i:Nat}{m:Str->Option Value},P.Nodup->P[i]?=some x->vs[i]?=some v->kindOf x≠some .local ->
  bindC kindOf (P.zip vs) m x=some v
 | [],_,_,_,_,h,_,_=>by simp at h
 | _::_,[],_,_,_,_,h,_=>by simp at h
 | p::P,w::vs,0,m,nd,h1,h2,hk=>by
  simp at h1 h2;subst h1;subst h2;show bindC kindOf ((p,w)::P.zip vs) m p=_;unfold bindC;rw [uW λv hv=>(iI.mp nd).1 (List.of_mem_zip hv).1,az hk];simp
 | p::P,w::vs,i+1,m,nd,h1,h2,hk=>by
  show bindC kindOf ((p,w)::P.zip vs) m x=_;unfold bindC;exact uX (i:=i) (iI.mp nd).2 (by simpa using h1) (by simpa using h2) hk
noncomputable def start (N:List Str)(vs:List V):St:=vs.map some++List.replicate (N.length - vs.length) none
noncomputable def pC (CX:yL)(P:Program)(w:World)(K:bp)(mg:Str->Option Value)(base:Heap) (N:List Str)(qual:Str)(scope:Scope)(f:Addr)(cd:Value)(A:Around)(outer:List Env)(s:Shared)(H:Hp)(E:XK):Cx where
 prog:=P
 w:=w
 K:=K
 mg:=mg
 base:=base
 A:=A.deeper (envOfC qual scope s.heap.objs.size f cd)
 N:=N
 s₀:=s
 H₀:=H
 env:=envOfC qual scope s.heap.objs.size f cd
 outer:=outer
 stack:=envOfC qual scope s.heap.objs.size f cd::outer
 ex:=[]
 calm:=true
 fn:=λ_=>true
 pn:=[]
 xe:=λe s'=>wpAny (model P w) (A.deeper (envOfC qual scope s.heap.objs.size f cd)) (leaving (envOfC qual scope s.heap.objs.size f cd) e) (λ_ O3=>CX outer H s E e O3) (λe' O3=>CX outer H s E e' O3) s'
def yq {sc:Scope}{n:Nat}{x:Str}(h:sc.names.lookup x=some .cell):∃c,(cellsFrom n sc.names []).lookup x=some c:=by
 have q:=PySem.W.cellsFrom_some sc.names n [] (.inl h);exact ng.mp q
def uD {CX:yL}{P:Program}{w:World}{K:bp}{mg:Str->Option Value}{base:Heap}{N ps:List Str}{qual:Str}{scope:Scope}{f:Addr}{cd:Value}{A:Around}{outer:List Env}{s s1:Shared}{H:Hp}{E:XK}{us:List Value}{vs:List V}
  (S:aK N ps scope)(hd:A.handled=none)(e0:qh P w K mg base A outer s H)(hl:vs.length=ps.length)(r:bw vs us)
  (x:InCallC s s.heap.objs.size (bindL (envOfC qual scope s.heap.objs.size f cd).kindOf (ps.zip us) λ_=>none) (cellsFrom (s.heap.objs.size+1) scope.names []) (bindC (envOfC qual scope s.heap.objs.size f cd).kindOf (ps.zip us) λ_=>none) s1) :
  Inv (pC CX P w K mg base N qual scope f cd A outer s H E) [] (start N vs) H s1:=by
 have wC:ps.length<=N.length:=by have:=congrArg List.length S.pre;rw [dr] at this;omega
 obtain⟨h1,tk,rfl,hk⟩:=x.done;have Pn:∀b:Addr,b∉(pC CX P w K mg base N qual scope f cd A outer s H E).ex:=λb z=>absurd (show b∈([]:List Addr) from z) (by simp);refine⟨⟨e0.mod,S.kind,rfl,rfl,aU _,λy z c h1 h2=>?_,λy hy=>?_,λy c _ h=>?_,λ_=>hd,Around.frames_deeper e0.frames,.inr ⟨rfl,rfl⟩,λb z=>absurd z (Pn b),e0.bs,e0.HV,λb _ _=>Pn b,λb z=>absurd z (Pn b),e0.pj,e0.Ku⟩,
  rfl,e0.bare,Un.kept hk,⟨_,x.toInCall.ns,λi y v h1 h2 h3=>?_⟩,λy c h=>⟨_,x.cell y c h⟩,e0.cC.fresh (aU _),λy c h=>?_,λp hp=>absurd (show p∈([]:List (Addr×Obj)) from hp) (by simp),e0.cC.kept hk,?_⟩
 .exact name_of_addr x.apart (qU h1) (qU h2)
 .have hy:scope.names.lookup y=some .cell\/scope.names.lookup y=some .free:=hy;rcases hy with hy | hy
  .exact yq hy
  exact absurd rfl (S.LX _ (qU hy))
 .exact ku (x.above y c (qU h))
 .have hi:i < vs.length:=by
   unfold start at h2;by_cases hi:i < vs.length
   .exact hi
   rw [nj (by simpa using hi)] at h2;rw [List.getElem?_replicate] at h2
   split at h2 <;> cases h2
  have ha:vs[i]?=some v:=by
   unfold start at h2;rw [pI (by simpa using hi),a9] at h2;cases e:vs[i]? with
   | none=>rw [e] at h2;cases h2
   | some a=>rw [e] at h2;cases h2;rfl
  obtain⟨u,hu,rv⟩:=r.get ha;have hp:ps[i]?=some y:=by
   rw [<-S.pre,tX ∅];exact h1
  have YE:ps.Nodup:=by rw [<-S.pre];exact S.nd.sublist (List.take_sublist _ _)
  refine⟨u,rv,?_⟩;rcases S.par y (b9 hp) with k | k
  .exact .inl ⟨k,uV YE hp hu k⟩
  obtain⟨c,e⟩:=yq (n:=s.heap.objs.size+1) k;refine .inr ⟨.inl k,c,e,?_⟩;have q:=x.cell y c e;rw [uX YE hp hu (by show scope.names.lookup y≠_;rw [k];decide)] at q;exact q
 .exact e0.cC.fresh (ku (x.above y c (qU h)))
 unfold start;show _=N.length;rw [bW,au,List.length_replicate];omega
def Gn {CX:yL}{P:Program}{w:World}{K:bp}{mg:Str->Option Value}{base:Heap}{k:Nat}{f:Addr}{name qual:Str}{params:Arguments}{body:List Stmt}{scope:Scope}{dV kV doc pm eX ct oc:Value}{an od:Option Addr}
  {xF:Array (Option Value)}{N ps:List Str}{sp:Sp}(lk:K.lookup f=some ⟨oc,od,.func (PySem.W.fnOf name qual params body scope dV kV doc pm an eX ct),xF⟩)(wF:PySem.W.codeIn K eX qual=true)(S:aK N ps scope)
  (len:∀vs H Q E,sp vs H Q E->vs.length=ps.length)
  (jC:∀(A:Around)(outer:List Env)(s:Shared)(H:Hp)(vs:List V)(Q:VK)(E:XK),fJ k (A.deeper (envOfC qual scope s.heap.objs.size f eX))->sp vs H Q E ->
   ∃t,AH (pC CX P w K mg base N qual scope f eX A outer s H E) body t/\t { nx:=λ_ H'=>Q .eZ H',rt:=Q } (start N vs) H) :
  bV P w K mg base CX (k+1) f (PySem.W.fnOf name qual params body scope dV kV doc pm an eX ct) ps sp:=by
 refine⟨len,λA outer s H args us vs Q E hr e0 hb r yG=>?_⟩;have hl:=len _ _ _ _ yG;have KX:K.In s.heap:=e0.mod.PY.keeps λb o e=>(e0.bs b o e).1;have lim:s.heap.NoLimit:=e0.mod.nolimit.keeps λb o e=>(e0.bs b o e).1;have jA:∀y∈ps.zip us,scope.names.lookup y.1=some .local\/(scope.names.lookup y.1=some .cell/\((cellsFrom (s.heap.objs.size+1) scope.names []).lookup y.1).isSome=true):=λ⟨n,v⟩ hy=>by
  rcases S.par n (List.of_mem_zip hy).1 with q | q
  .exact .inl q
  exact .inr ⟨q,PySem.W.cellsFrom_some _ _ _ (.inl q)⟩
 refine codeAny_call_function hr.depth (KX _ _ lk) rfl S.co S.gen rfl (PySem.W.codeRec_of KX wF) (hb _ _ _ _ ?_);refine wpAny_newFunctionEnv_cells S.kind jA λenv he s1 x=>?_;subst he;refine⟨lim.keeps x.toInCall.keep,codeAny_func ?_⟩;obtain⟨t,ht,hq⟩:=jC A outer s H vs Q E (hr.deeper _) yG;have I:Inv (pC CX P w K mg base N qual scope f eX A outer s H E) [] (start N vs) H s1:=uD S hr.hd e0 hl r x;refine dY (ht [] s1 (start N vs) H _ I hq) (λfl s' hs=>?_) λe s' hs=>hs;have fin:∀{σ':St}{H':Hp}{v:V}{u:Value},Inv (pC CX P w K mg base N qual scope f eX A outer s H E) [] σ' H' s'->RelV v u->Q v H'->CE outer P w H s Q u s' :=
  λ{σ' H' v u} J rv q=>⟨v,H',J.os,J.bare,J.base,J.cC,rv,q⟩
 cases fl with
 | ret u =>
  obtain⟨v,σ',H',J,rv,q⟩:=hs;exact fin J rv q
 | next =>
  obtain⟨σ',H',J,q⟩:=hs;exact fin (v:=V.eZ) (u:=Value.none) J rfl q
 | brk =>
  obtain⟨_,_,_,q⟩:=hs;exact False.elim q
 | cont =>
  obtain⟨_,_,_,q⟩:=hs;exact False.elim q
section
variable {X:Cx}{x:Str}{p pos:Pos}{e:Expr}{es:List Expr}{t:TA}{id T:String}{r:List V->Hp->VK->Prop}
def XY (r:List V->Hp->VK->Prop)(t:TA):TE:=λσ H Q=>t σ H λvs H1=>r vs H1 Q
def aE (hc:gM X (.builtin id) r)(hg:Gl X x)(hm:X.mg x=none)(hv:bootBuiltins x=some (.builtin id))(ha:PA X (e::es) t)(hn:x ≠ "__name__" := by decide)(CP:(x == ("__debug__":Str))=false:=by decide)
  (he:starEach (e::es) X.env=(false,eval e X.env)::starEach es X.env:=by rfl)(wC:(backTo pos (starEach es X.env)).any (·.1)=false:=by rfl):PE X (.Call (.Name x p) (e::es) [] pos) (XY r t):=by
 intro aj s σ H Q I h;refine qE (jX I hg hm hv ?_ hn CP);refine PyProof.Rows.callWith_builtin1 (dC (ha pos aj s σ H _ I h) λus s1 bN=>?_) he wC;obtain⟨vs,H1,I1,r1,q1⟩:=bN;exact hc aj s1 σ H1 vs us Q I1 r1 q1
def aX (hc:gM X (.type T) r)(hg:Gl X x)(hm:X.mg x=none)(hv:bootBuiltins x=some (.type T))(ha:PA X (e::es) t)(hn:x ≠ "__name__" := by decide)(CP:(x == ("__debug__":Str))=false:=by decide)
  (he:starEach (e::es) X.env=(false,eval e X.env)::starEach es X.env:=by rfl)(wC:(backTo pos (starEach es X.env)).any (·.1)=false:=by rfl):PE X (.Call (.Name x p) (e::es) [] pos) (XY r t):=by
 intro aj s σ H Q I h;refine qE (jX I hg hm hv ?_ hn CP);refine vq (dC (ha pos aj s σ H _ I h) λus s1 bN=>?_) he wC;obtain⟨vs,H1,I1,r1,q1⟩:=bN;exact hc aj s1 σ H1 vs us Q I1 r1 q1
end
end L2
namespace HT
open PySem PyProof.Rows
section
open PySem.SeqAt
open PySem.AutoSeq1 (wpAny_loadPart')
open PySem.MeetsSeq PySem.MeetsSeq2 PySem.MeetsSeq3
end
section
variable {prog:Program}{w:World}{A:Around}{E:Value->Shared->Prop}{s:Shared}
def JC {t b:Addr}{vs ws:List Value}{Q:Value->Shared->Prop}(ht:IsTup s.heap t vs.toArray)(hb:IsTup s.heap b ws.toArray)(hv:vs≠[])
  (h1:ws=[]->Q (.ref t) s)(h2:ws≠[]->Q (.ref s.heap.objs.size) { s with heap:=s.heap.push { cls:=.type "tuple",data:=.seq (vs++ws).toArray } })
  (hsz:vs.length+ws.length<=sizeLine):wpAny (model prog w) A (binaryOp .Add (.ref t) (.ref b)) Q E s:=by
 obtain⟨⟨cls,dd,data,sl⟩,ho,hc,n,hd⟩:=id ht;obtain⟨⟨WO,Oi,data2,RS⟩,Hy,QE,n2,hd2⟩:=id hb;simp only at hc hd QE hd2;subst hc hd QE hd2;have e:vs.toArray++ws.toArray=(vs++ws).toArray:=by simp
 by_cases hw:ws=[]
 .exact concat_meets ⟨_,ho,rfl⟩ ⟨_,Hy,rfl⟩ noFill_tuple_add seq_tuple_add yO yQ (yT _ _)
   (tuple_addW1 t b vs.toArray ws.toArray n n2 dd Oi sl RS (by simpa using hv) (by simp [hw])) ⟨ho,Hy,h1 hw⟩
 refine concat_meets ⟨_,ho,rfl⟩ ⟨_,Hy,rfl⟩ noFill_tuple_add seq_tuple_add yO yQ (yT _ _)
  (tuple_addW2 t b vs.toArray ws.toArray n n2 dd Oi sl RS (by simpa using hv) (by simpa using hw) (by rw [cH,cH];exact hsz)) ⟨ho,Hy,?_⟩
 rw [e];exact h2 hw
noncomputable def fR (n d:Nat):Option Int->Nat
 | none=>d
 | some v=>if v < 0 then (v+(n:Int)).toNat else min v.toNat n
def nR (n d:Nat):fR n d none=d:=rfl
def jP (n d k:Nat):fR n d (some (k:Int))=min k n:=by
 show (if (k:Int) < 0 then ((k:Int)+(n:Int)).toNat else min (k:Int).toNat n)=min k n;rw [az ∅,iJ]
def Lr (n d:Nat)(hd:d<=n)(o:Option Int):fR n d o<=n:=by
 cases o with
 | none=>exact hd
 | some v =>
  show (if v < 0 then (v+(n:Int)).toNat else min v.toNat n)<=n;by_cases hv:v < 0
  .rw [ax hv];omega
  rw [az hv];exact Nat.min_le_right _ _
def BP (v:Int) (n d:Nat):(if v < 0 then max (v+(n:Int)) 0 else min v (n:Int))=((fR n d (some v):Nat):Int):=by
 show (if v < 0 then max (v+(n:Int)) 0 else min v (n:Int))=(((if v < 0 then (v+(n:Int)).toNat else min v.toNat n):Nat):Int);by_cases hv:v < 0
 .simp only [ax hv];omega
 simp only [az hv];omega
def AF (lo hi:Option Int) (n:Nat):Builtin.Slice.sliceAdjust lo hi 1 (n:Int)=(((fR n 0 lo:Nat):Int),((fR n n hi:Nat):Int)):=by
 have h1:¬((1:Int) < 0):=by omega
 unfold Builtin.Slice.sliceAdjust;simp only [h1,if_false];refine jI ?_ ?_
 .cases lo with
  | none=>rfl
  | some v=>exact BP v n 0
 cases hi with
 | none=>rfl
 | some v=>exact BP v n n
def zH (i j:Nat):Builtin.Slice.slicePlaces (i:Int) (j:Int) 1=j - i:=by
 unfold Builtin.Slice.slicePlaces;have h1:(1:Int) > 0:=by omega
 simp only [h1,if_true,Int.ediv_one]
 split <;> omega
def rC {v:Value}{o:Option Int}{Q:Option Int->Shared->Prop}(p:IsPart v o)(h:Q o s):wpAny (model prog w) A (Builtin.Slice.slicePartIndex v) Q E s:=by
 cases p with
 | none=>exact slicePart_none h
 | int i t=>exact slicePart_int h
def jr {sl:Addr}{vl vu:Value}{lo hi:Option Int}{n:Nat}{Q:Int×Int×Nat->Shared->Prop}(hs:s.heap.IsSliceOf sl vl vu .none)(pl:IsPart vl lo)(pu:IsPart vu hi)
  (h:Q (((fR n 0 lo:Nat):Int),1,fR n n hi - fR n 0 lo) s):wpAny (model prog w) A (Builtin.Slice.sliceApplied (.ref sl) (pure (n:Int))) Q E s:=by
 obtain⟨os,Mu,Sr,CO⟩:=id hs;unfold Builtin.Slice.sliceApplied Builtin.Slice.sliceFields;refine aN (aN (jk Mu CO (x:=vl) rfl (aN (jk Mu CO (x:=vu) rfl (aN (jk Mu CO (x:=.none) rfl (ba ?_)))))));refine aN (slicePart_none ?_);show wpAny _ _ (if ((1:Int) == 0)=true then _ else _) _ _ s;rw [az nofun];refine aN (rC pl (aN (rC pu (aN (ba ?_)))));show wpAny _ _ (match Builtin.Slice.sliceAdjust lo hi 1 (n:Int) with | (lo,hi)=>pure (lo,(1:Int),Builtin.Slice.slicePlaces lo hi 1)) _ _ s
 rw [AF lo hi n];show wpAny _ _ (pure (((fR n 0 lo:Nat):Int),(1:Int),Builtin.Slice.slicePlaces ((fR n 0 lo:Nat):Int) ((fR n n hi:Nat):Int) 1)) _ _ s;rw [zH];exact ba h
def E8 (xs:Array Value) (i k:Nat):((List.range k).filterMap λ(m:Nat)=>xs[((i:Int)+(m:Int) * 1).toNat]?).toArray=((xs.toList.drop i).take k).toArray:=by
 have e:(λ(m:Nat)=>xs[((i:Int)+(m:Int) * 1).toNat]?)=λm=>xs[i+m]?:=by
  funext m
  have:((i:Int)+(m:Int) * 1).toNat=i+m:=by omega
  rw [this]
 rw [e];have:=pick_run xs i k;rw [List.filterMap_map] at this;have e2:((λx=>xs[x]?) ∘ λx=>i+x)=λm=>xs[i+m]?:=rfl;rw [e2] at this;rw [this]
def nZ {t sl:Addr}{items:Array Value}{vl vu:Value}{lo hi:Option Int}{Q:Value->Shared->Prop}(ht:IsTup s.heap t items)(hs:s.heap.IsSliceOf sl vl vu .none)(pl:IsPart vl lo)(pu:IsPart vu hi)
  (hw:¬(fR items.size 0 lo=0/\fR items.size items.size hi=items.size))
  (h:Q (.ref s.heap.objs.size) { s with heap:=s.heap.push { cls:=.type "tuple",data:=.seq ((items.toList.drop (fR items.size 0 lo)).take (fR items.size items.size hi - fR items.size 0 lo)).toArray } })
  (hsz:items.size<=sizeLine):wpAny (model prog w) A (getItem (.ref t) (.ref sl)) Q E s:=by
 have Bw:sizeOk (.seq ((items.toList.drop (fR items.size 0 lo)).take (fR items.size items.size hi - fR items.size 0 lo)).toArray):=by
  show ((items.toList.drop (fR items.size 0 lo)).take (fR items.size items.size hi - fR items.size 0 lo)).toArray.size<=sizeLine;rw [cH,dr,mX,qT];omega
 have hj:fR items.size items.size hi<=items.size:=Lr _ _ (aU _) hi;obtain⟨os,Mu,Sr,CO⟩:=id hs;have VQ:s.TypeIs (.ref sl) "slice" := ⟨os,Mu,Sr⟩;unfold getItem
 try with_reducible refine ky ?_
 first | refine aN (ba ?_) | skip
 refine aN (wpAny_sequenceKey ht.typeIs nofun ?_);refine aN (tV (name:=Str.ofString "__getitem__") ht.typeIs tY
  (oG tY ht.typeIs entry_tuple_getitem ?_ (args_tuple_getitem _ _)))
 show wpAny _ _ (Builtin.Tuple.tupleItemsOf (.ref t) >>= _) _ _ s;refine aN (tupleItemsOf_ ht ?_);refine aN (jK VQ ?_);rw [ax nofun];refine aN (jr hs pl pu ?_);have hno:¬((((fR items.size 0 lo:Nat):Int) == 0 && (1:Int) == 1 && (fR items.size items.size hi - fR items.size 0 lo) == items.size)=true):=by
  intro q;rw [kr,kr] at q;have q1:((fR items.size 0 lo:Nat):Int)=0:=eq_of_beq q.1.1;have q2:fR items.size items.size hi - fR items.size 0 lo=items.size:=eq_of_beq q.2;exact hw ⟨∅,∅⟩
 show wpAny _ _ (if (((fR items.size 0 lo:Nat):Int) == 0 && (1:Int) == 1 && (fR items.size items.size hi - fR items.size 0 lo) == items.size)=true then _ else _) _ _ s;rw [az hno,E8]
 first
  | exact aN (m:=Builtin.Tuple.tupleExact _) (mZ (ba ⟨_,rfl,ba h⟩) Bw)
  | exact aN (m:=Builtin.Tuple.tupleExact _) (mZ (aN (ba (ba ⟨_,rfl,ba h⟩))) Bw)
  | exact aN (aN (m:=Builtin.Tuple.tupleExact _) (mZ (ba (ba ⟨_,rfl,ba h⟩)) Bw))
  | exact aN (aN (m:=Builtin.Tuple.tupleExact _) (mZ (ba ⟨_,rfl,ba h⟩) Bw))
end
end HT
namespace L2
open PySem PySem.Spec PyProof.Rows
abbrev TO:=St->Hp->(Option Int->Hp->Prop)->Prop
def PO (X:Cx)(e:Option Expr)(t:TO):Prop :=
 ∀(aj:List (Addr×Obj))(s:Shared)(σ:St)(H:Hp)(Q:Option Int->Hp->Prop),Inv X aj σ H s->t σ H Q ->
  wpAny (model X.prog X.w) X.A (evalPart e X.env) (λu s'=>∃o H',Inv X aj σ H' s'/\IsPart u o/\Q o H') X.xe s
def vF:TO:=λ_ H Q=>Q none H
def Ea (t:TE):TO:=λσ H Q=>t σ H λx H1=>Xm x λi=>Q (some i) H1
def intsAre_of {ns:List Int}:∀{us:List Value},bw (ns.map V.int) us->IntsAre us ns:=by
 induction ns with
 | nil=>intro us r;rw [mj] at r;cases r;exact .nil
 | cons n ns ih =>
  intro us r;rw [cE] at r;cases r with
  | cons r1 r2 =>
   obtain⟨t,e⟩:=r1;subst e;exact .cons n t (ih r2)
section
variable {X:Cx}{e:Expr}{te:TE}{lo hi:Option Expr}{tl th:TO}{pos p2:Pos}
def cO:PO X none vF:=by
 intro aj s σ H Q I h;rw [evalPart_none];exact ba ⟨none,H,I,.none,h⟩
def cN (h:PE X e te):PO X (some e) (Ea te):=by
 intro aj s σ H Q I hw;rw [evalPart_some];refine dC (h aj s σ H _ I hw) λu s1 bN=>?_;obtain⟨x,H1,I1,r1,q1⟩:=bN;obtain⟨i,rfl,q⟩:=q1;obtain⟨t,rfl⟩:=r1;exact⟨some i,H1,I1,.int i t,q⟩
def JH (X:Cx)(r:V->Option Int->Option Int->Hp->VK->Prop):Prop :=
 ∀(aj:List (Addr×Obj))(s:Shared)(σ:St)(H:Hp)(x:V)(v vl vu:Value)(lo hi:Option Int)(sl:Addr)(Q:VK),Inv X aj σ H s->RelV x v->s.heap.IsSliceOf sl vl vu .none->IsPart vl lo->IsPart vu hi->r x lo hi H Q ->
  ∃T id,typeLookup (.type T) "__getitem__"=pure (some (.builtin id))/\s.TypeIs v T/\wpAny (model X.prog X.w) X.A (getItem v (.ref sl)) (EP X aj σ Q) X.xe s
def JH.or {r r':V->Option Int->Option Int->Hp->VK->Prop}(h:JH X r)(h':JH X r'):JH X (λx lo hi H Q=>r x lo hi H Q\/r' x lo hi H Q):=by
 intro aj s σ H x v vl vu lo hi sl Q I rx hs pl pu q;rcases q with q | q
 .exact h aj s σ H x v vl vu lo hi sl Q I rx hs pl pu q
 exact h' aj s σ H x v vl vu lo hi sl Q I rx hs pl pu q
def Tz (r:V->Option Int->Option Int->Hp->VK->Prop)(te:TE)(tl th:TO):TE:=λσ H Q=>te σ H λx H1=>tl σ H1 λl H2=>th σ H2 λu H3=>r x l u H3 Q
def bY {r:V->Option Int->Option Int->Hp->VK->Prop}(hr:JH X r)(he:PE X e te)(hl:PO X lo tl)(hu:PO X hi th):PE X (.Subscript e (.Slice lo hi none p2) pos) (Tz r te tl th):=by
 intro aj s σ H Q I h;refine Subscript_ (dC (he aj s σ H _ I h) λv s1 bN=>?_);obtain⟨x,H1,I1,r1,q1⟩:=bN;refine wpAny_Slice (dC (hl aj s1 σ H1 _ I1 q1) λvl s2 bN=>?_);obtain⟨l,H2,I2,pl,q2⟩:=bN;refine dC (hu aj s2 σ H2 _ I2 q2) λvu s3 bN=>?_;obtain⟨u,H3,I3,pu,q3⟩:=bN;rw [evalPart_none];refine ba ?_;have I4:Inv X aj σ H3 { s3 with heap:=s3.heap.push { cls:=.type "slice",data:=.fields #[vl,vu,.none] } }:=I3.kept (t':=s3.toks) λb ob q=>cJ _ q;obtain⟨T,id,hT,ht,hg⟩:=hr aj { s3 with heap:=s3.heap.push { cls:=.type "slice",data:=.fields #[vl,vu,.none] } } σ H3 x v vl vu l u s3.heap.objs.size Q I4 r1 (Heap.IsSliceOf.new ..) pl pu q3;show wpAny (model X.prog X.w) X.A (subscriptTail e (.Slice lo hi none p2) v (.ref s3.heap.objs.size)) (EP X aj σ Q) X.xe { s3 with heap:=s3.heap.push { cls:=.type "slice",data:=.fields #[vl,vu,.none] } };exact tail_any (ops:=[.ref s3.heap.objs.size,v]) ht hT hg (by with_unfolding_all rfl)
noncomputable def fI (xs:List V)(lo hi:Option Int):List V:=(xs.drop (HT.fR xs.length 0 lo)).take (HT.fR xs.length xs.length hi - HT.fR xs.length 0 lo)
def pT (xs:List V)(lo hi:Option Int):(fI xs lo hi).length<=xs.length:=by
 unfold fI;rw [dr,mX];omega
def Ub (K:bp):V->Option Int->Option Int->Hp->VK->Prop:=λx lo hi H Q=>∃a xs,x=.ref a/\a_ K H a xs /\
 ¬(HT.fR xs.length 0 lo=0/\HT.fR xs.length xs.length hi=xs.length)/\∀p,H p=none->Q (.ref p) (upd H p (.tup (fI xs lo hi)))
def Lh:JH X (Ub X.K):=by
 intro aj s σ H x v vl vu lo hi sl Q I rx hs pl pu h;obtain⟨a,xs,rfl,hx,hw,q⟩:=h;cases rx;obtain⟨aW,r,ht,hz⟩:=I.tuple hx;have bu:aW.toArray.size=xs.length:=by rw [cH];exact r.length.symm
 refine⟨"tuple",_,tY.lookup,ht.typeIs,?_⟩;refine HT.nZ ht hs pl pu (by rw [bu];exact hw) ?_ (by rw [bu];exact hz);rw [bu];refine⟨.ref s.heap.objs.size,_,I.laid (t':=s.toks) (o:=.tup (fI xs lo hi)) (λb ob q=>cJ _ q) (aU _) ?_,rfl,q _ (I.cC.fresh (aU _))⟩;exact⟨f_ (pT xs lo hi) hz,_,(r.drop (HT.fR xs.length 0 lo)).take (HT.fR xs.length xs.length hi - HT.fR xs.length 0 lo),IsTup.new _ _⟩
def O_ (K:bp):R2:=λx y H Q=>∃a b xs ys,x=.ref a/\y=.ref b/\a_ K H a xs/\a_ K H b ys/\xs≠[]/\xs.length+ys.length<=sizeLine /\
 (ys=[]->Q (.ref a) H)/\(ys≠[]->∀p,H p=none->Q (.ref p) (upd H p (.tup (xs++ys))))
def bw.qt {xs:List V}{us:List Value}(r:bw xs us):us=[]↔xs=[]:=by
 cases r with
 | nil=>simp
 | cons _ _=>simp
def IJ:jH X (binaryOp .Add) (O_ X.K):=by
 intro aj s σ H x y v u Q I rx ry h;obtain⟨a,b,xs,ys,rfl,rfl,ha,hb,hx,hz,q1,q2⟩:=h;cases rx;cases ry;obtain⟨aW,r1,p1,_⟩:=I.tuple ha;obtain⟨dX,r2,p2,_⟩:=I.tuple hb;refine HT.JC p1 p2 (λz=>hx (r1.qt.mp z)) (λz=>⟨.ref a,H,I,rfl,q1 (r2.qt.mp z)⟩) (λz=>?_) (by rw [<-r1.length,<-r2.length];exact hz);refine⟨.ref s.heap.objs.size,_,I.laid (t':=s.toks) (o:=.tup (xs++ys)) (λb ob q=>cJ _ q) (aU _) ?_,rfl,q2 (λw=>z (r2.qt.mpr w)) _ (I.cC.fresh (aU _))⟩;exact⟨by rw [bW];exact hz,_,r1.append r2,IsTup.new _ _⟩
end
noncomputable def NQ (n:Nat) (i:Int):Option Nat:=if 0<=i then (if i < n then some i.toNat else none) else if -(n:Int)<=i then some (i+n).toNat else none
noncomputable def lV {α:Type}(xs:List α) (i:Int):Option α:=(NQ xs.length i).bind λj=>xs[j]?
def Je {n:Nat}{i:Int}{j:Nat}(h:NQ n i=some j):seqIndex? i n=some j/\j < n/\-(n:Int)<=i/\i < n:=by
 unfold NQ at h;by_cases h0:0<=i
 .rw [ax h0] at h;by_cases h1:i < n
  .rw [ax h1] at h;have e:i.toNat=j:=gO h;exact⟨by rw [seqIndex_of h0 h1,e],∅,∅,h1⟩
  rw [az h1] at h;cases h
 rw [az h0] at h;by_cases h1:-(n:Int)<=i
 .rw [ax h1] at h;have e:(i+n).toNat=j:=gO h;exact⟨by rw [seqIndex_neg ∅ h1,e],∅,h1,∅⟩
 rw [az h1] at h;cases h
def BS {α:Type}{xs:List α}{i:Int}{v:α}(h:lV xs i=some v):∃j,seqIndex? i xs.length=some j/\xs[j]?=some v/\j < xs.length/\-(xs.length:Int)<=i/\i < xs.length:=by
 unfold lV at h;cases e:NQ xs.length i with
 | none=>rw [e] at h;cases h
 | some j =>
  rw [e] at h;obtain⟨h1,h2,h3,h4⟩:=Je e;exact⟨j,h1,h,h2,h3,h4⟩
def bT {α:Type}{xs:List α}{j:Nat}{v:α}(h:xs[j]?=some v):lV xs (j:Int)=some v:=by
 have hj:j < xs.length:=(bf.mp h).1;have e:NQ xs.length (j:Int)=some j:=by
  unfold NQ;rw [ax ∅,ax ∅];simp
 unfold lV;rw [e];exact h
def JI (b:Expr):Prop:=∀o i,subscripted b false o i=operate [o,i] (getItem o i)
def JL (X:Cx)(r:R2):Prop :=
 ∀(value slice:Expr)(aj:List (Addr×Obj))(s:Shared)(σ:St)(H:Hp)(x y:V)(v u:Value)(Q:VK),Inv X aj σ H s->RelV x v->RelV y u->r x y H Q ->
  subscripted slice false v u=operate [v,u] (getItem v u)->wpAny (model X.prog X.w) X.A (subscriptTail value slice v u) (EP X aj σ Q) X.xe s
def Rv (X:Cx)(id:String)(r:V->List V->Hp->VK->Prop):Prop :=
 ∀(aj:List (Addr×Obj))(s:Shared)(σ:St)(H:Hp)(x:V)(xs:List V)(v:Value)(us:List Value)(Q:VK),Inv X aj σ H s->RelV x v->bw xs us->r x xs H Q ->
  wpAny (model X.prog X.w) X.A (call (.builtin id) (v::us)) (EP X aj σ Q) X.xe s
section
variable {X:Cx}{a b:Expr}{ta tb:TE}{pos:Pos}
def JL.or {r r':R2}(h:JL X r)(h':JL X r'):JL X (λx y H Q=>r x y H Q\/r' x y H Q):=by
 intro value slice aj s σ H x y v u Q I rx ry q hs;rcases q with q | q
 .exact h value slice aj s σ H x y v u Q I rx ry q hs
 exact h' value slice aj s σ H x y v u Q I rx ry q hs
def Rv.or {id:String}{r r':V->List V->Hp->VK->Prop}(h:Rv X id r)(h':Rv X id r'):Rv X id (λx xs H Q=>r x xs H Q\/r' x xs H Q):=by
 intro aj s σ H x xs v us Q I rx rs q;rcases q with q | q
 .exact h aj s σ H x xs v us Q I rx rs q
 exact h' aj s σ H x xs v us Q I rx rs q
def a7 {r:R2}(hr:JL X r)(ha:PE X a ta)(hb:PE X b tb)(hs:JI b):PE X (.Subscript a b pos) (ND r ta tb):=by
 intro aj s σ H Q I h;exact Subscript_ (Nj ha hb I h λv u s2 x y H2 I2 rx ry q=>hr a b aj s2 σ H2 x y v u Q I2 rx ry q (hs _ _))
inductive Xl (S:Addr->List V->Prop)(x y:V)(R:V->Prop):Prop
|mk(p:Addr)(xs:List V) (i:Int)(v:V)(e:x=.ref p)(e2:y=.int i)(s:S p xs)(a:lV xs i=some v)(q:R v)
def O9 (K:bp):R2:=λx y H Q=>Xl (aG K H) x y λv=>Q v H
def LA (K:bp):R2:=λx y H Q=>Xl (a_ K H) x y λv=>Q v H
def bZ:JL X (O9 X.K):=by
 intro value slice aj s σ H x y v u Q I rx ry h hs;obtain⟨p,xs,i,z,rfl,rfl,hq,he,q⟩:=h;cases rx;obtain⟨t,rfl⟩:=ry;obtain⟨aW,r,pl,hz⟩:=I.list hq;obtain⟨j,h1,h2,h3,h4,h5⟩:=BS he;obtain⟨w,ew,zD⟩:=r.get h2;have hl:=r.length;have hn:=wo;have fin:EP X aj σ Q w s:=⟨z,H,I,zD,q⟩;by_cases h0:0<=i
 .have hj:i.toNat=j:=by
   rw [seqIndex_of h0 h5] at h1;exact gO h1
  exact item_listR pl.isList h0 ∅ (by rw [hj];simpa using ew) fin hs
 have hj:(i+(aW.toArray.size:Int)).toNat=j:=by
  rw [seqIndex_neg ∅ h4] at h1;rw [cH,<-hl];exact gO h1
 exact subscriptTail_builtinR (x:=w) pl.isList.typeIs slot_list_getitem.lookup
  (wpAny_getItem_list_neg (Q:=λr s'=>r=w/\EP X aj σ Q r s') pl.isList ∅ (by rw [cH] <;> omega) ∅ (by rw [hj];simpa using ew) ⟨rfl,fin⟩) hs
def bI:JL X (LA X.K):=by
 intro value slice aj s σ H x y v u Q I rx ry h hs;obtain⟨p,xs,i,z,rfl,rfl,hq,he,q⟩:=h;cases rx;obtain⟨t,rfl⟩:=ry;obtain⟨aW,r,pl,hz⟩:=I.tuple hq;obtain⟨j,h1,h2,h3,h4,h5⟩:=BS he;obtain⟨w,ew,zD⟩:=r.get h2;have hl:=r.length;have hn:=wo;have fin:EP X aj σ Q w s:=⟨z,H,I,zD,q⟩;exact subscriptTail_builtinR (x:=w) pl.typeIs slot_tuple_getitem.lookup
  (getItem_tuple (j:=j) (Q:=λr s'=>r=w/\EP X aj σ Q r s') pl ∅ ∅ (by rw [cH,<-hl];exact h1) (by simpa using ew) ⟨rfl,fin⟩) hs
theorem Inv.lst {aj:List (Addr×Obj)}{σ:St}{H:Hp}{s:Shared}{p:Addr}{xs:List V}(I:Inv X aj σ H s)(h:H p=some (.lst xs)) :
  ∃(aW:List Value) (n:Nat),bw xs aW/\s.heap.get? p=some { cls:=.type "list",data:=.seq aW.toArray n }/\xs.length<=sizeLine:=by
 obtain⟨z,aW,n,r,e⟩:=I.cC p _ h;exact⟨aW,n,r,e,z⟩
def vK (lo hi:Option Int) (n:Nat):(sliceBounds lo hi none n).1=((HT.fR n 0 lo:Nat):Int)/\(sliceBounds lo hi none n).2.1=((HT.fR n n hi:Nat):Int)/\(sliceBounds lo hi none n).2.2=1:=by
 refine⟨?_,?_,rfl⟩
 .cases lo with
  | none=>simp [sliceBounds,HT.fR]
  | some i =>
   simp only [sliceBounds,HT.fR,Option.getD_none,show (1:Int) > 0 by decide,if_true];by_cases h:i < 0
   .simp only [h,if_true] <;> omega
   simp only [h,if_false] <;> omega
 cases hi with
 | none=>simp [sliceBounds,HT.fR]
 | some i =>
  simp only [sliceBounds,HT.fR,Option.getD_none,show (1:Int) > 0 by decide,if_true];by_cases h:i < 0
  .simp only [h,if_true] <;> omega
  simp only [h,if_false] <;> omega
def tO (aW:List Value)(lo hi:Option Int):slicePick aW.toArray lo hi none=((aW.drop (HT.fR aW.length 0 lo)).take (HT.fR aW.length aW.length hi - HT.fR aW.length 0 lo)).toArray:=by
 obtain⟨h1,h2,h3⟩:=vK lo hi aW.toArray.size;unfold slicePick;rw [h1,h2,h3];simp only [sliceRange_one,pick_run,cH] <;> rfl
def O8 (K:bp):V->Option Int->Option Int->Hp->VK->Prop:=λx lo hi H Q=>Xk x (aG K H) λxs=>∀p,H p=none->Q (.ref p) (upd H p (.lst (fI xs lo hi)))
def gy:JH X (O8 X.K):=by
 intro aj s σ H x v vl vu lo hi sl Q I rx hs pl pu h;obtain⟨a,xs,rfl,hx,q⟩:=h;cases rx;obtain⟨aW,r,ht,hz⟩:=I.list hx;have bu:=r.length;refine⟨"list",_,slot_list_getitem.lookup,ht.isList.typeIs,?_⟩;refine wpAny_getItem_list_slice ht.isList hs pl pu .none (by simp) ?_ (by rw [cH] <;> omega)
 rw [tO,<-bu];refine⟨.ref s.heap.objs.size,_,I.laid (t':=s.toks) (o:=.lst (fI xs lo hi)) (λb ob q=>cJ _ q) (aU _) ?_,rfl,q _ (I.cC.fresh (aU _))⟩;exact⟨f_ (pT xs lo hi) hz,_,0,(r.drop (HT.fR xs.length 0 lo)).take (HT.fR xs.length xs.length hi - HT.fR xs.length 0 lo),d8 _ rfl⟩
def iR:V->Bool
 | .eZ=>true
 | .bl _=>true
 | .int _=>true
 | .str _=>true
 | _=>false
noncomputable def qe:V->V->Bool
 | .eZ,.eZ=>true
 | .bl a,.bl b=>a == b
 | .bl a,.int b=>(if a then 1 else 0) == b
 | .int a,.bl b=>a == (if b then 1 else 0)
 | .int a,.int b=>a == b
 | .str a,.str b=>a == b
 | _,_=>false
def Au {A:Around}{s:Shared}{y x:V}{u v:Value}(ry:RelV y u)(rx:RelV x v)(fy:iR y=true)(fx:iR x=true):SeqAt.EqAt A s u v (qe y x):=by
 cases y with
 | eZ =>
  cases ry;cases x with
  | eZ=>cases rx;exact SeqAt.EqAt.same _
  | bl b=>cases rx;exact SeqAt.EqAt.none_bool b
  | int b=>obtain⟨t,rfl⟩:=rx;exact SeqAt.EqAt.none_int b t
  | str b=>obtain⟨t,rfl⟩:=rx;exact SeqAt.EqAt.none_str b t
  | _=>exact absurd (show false=true from fx) d5
 | bl a =>
  cases ry;cases x with
  | eZ=>cases rx;exact SeqAt.EqAt.bool_none a
  | bl b=>cases rx;exact SeqAt.EqAt.bool_bool a b
  | int b=>obtain⟨t,rfl⟩:=rx;exact SeqAt.EqAt.bool_int a b t
  | str b=>obtain⟨t,rfl⟩:=rx;exact SeqAt.EqAt.bool_str a b t
  | _=>exact absurd (show false=true from fx) d5
 | int a =>
  obtain⟨t',rfl⟩:=ry;cases x with
  | eZ=>cases rx;exact SeqAt.EqAt.int_none a t'
  | bl b=>cases rx;exact SeqAt.EqAt.int_bool a t' b
  | int b=>obtain⟨t,rfl⟩:=rx;exact SeqAt.EqAt.int_int a t' b t
  | str b=>obtain⟨t,rfl⟩:=rx;exact SeqAt.EqAt.int_str a t' b t
  | _=>exact absurd (show false=true from fx) d5
 | str a =>
  obtain⟨t',rfl⟩:=ry;cases x with
  | eZ=>cases rx;exact SeqAt.EqAt.str_none a t'
  | bl b=>cases rx;exact SeqAt.EqAt.str_bool a t' b
  | int b=>obtain⟨t,rfl⟩:=rx;exact SeqAt.EqAt.str_int a t' b t
  | str b=>obtain⟨t,rfl⟩:=rx;exact SeqAt.EqAt.str_str a t' b t
  | _=>exact absurd (show false=true from fx) d5
 | _=>exact absurd (show false=true from fy) d5
noncomputable def As (x:V)(u:Value):Bool:=match u with
 | .none=>qe .eZ x
 | .bool b=>qe (.bl b) x
 | .int i _=>qe (.int i) x
 | .str z _=>qe (.str z) x
 | _=>false
def Gr {x y:V}{u:Value}(r:RelV y u)(f:iR y=true):As x u=qe y x:=by
 cases y with
 | eZ=>cases r;rfl
 | bl b=>cases r;rfl
 | int i=>obtain⟨t,rfl⟩:=r;rfl
 | str z=>obtain⟨t,rfl⟩:=r;rfl
 | _=>exact absurd (show false=true from f) d5
theorem om {x:V}:∀{xs:List V}{us:List Value},bw xs us->xs.all iR=true->us.any (As x)=xs.any λy=>qe y x
 | _,_,.nil,_=>rfl
 | y::xs,u::us,.cons r t,f=>by
  rw [List.all_cons,kr] at f;rw [oC,oC,Gr r f.1,om t f.2]
theorem kX {A:Around}{s:Shared}{x:V}{v:Value}(rx:RelV x v)(fx:iR x=true):∀{xs:List V}{us:List Value},bw xs us->xs.all iR=true->∀u∈us,SeqAt.EqAt A s u v (As x u)
 | _,_,.nil,_=>λu hu=>by cases hu
 | y::xs,u::us,.cons r t,f=>λu' hu=>by
  rw [List.all_cons,kr] at f;rcases b8.mp hu with rfl | hu
  .rw [Gr r f.1];exact Au r rx f.1 fx
  exact kX rx fx t f.2 u' hu
noncomputable def Mp (x:V)(xs:List V):Bool:=xs.any λy=>qe y x
inductive XIn (S:Addr->List V->Prop)(x y:V)(R:List V->Prop):Prop
|mk(p:Addr)(xs:List V)(e:y=.ref p)(s:S p xs)(f:iR x=true)(g:xs.all iR=true)(q:R xs)
def RZ (K:bp)(neg:Bool):R2:=λx y H Q=>XIn (λp xs=>aG K H p xs\/a_ K H p xs) x y λxs=>Q (.bl (if neg then !Mp x xs else Mp x xs)) H
def iH:jH X (compareOp .In) (RZ X.K false):=by
 intro aj s σ H x y v u Q I rx ry h;obtain⟨p,xs,rfl,hq,fx,fs,q⟩:=h;cases ry;rcases hq with hq | hq
 .obtain⟨aW,r,pl,hz⟩:=I.list hq;refine SeqAt.in_listAt (As x) pl.isList (λw hw=>kX rx fx r fs w (by simpa using hw)) ⟨.bl _,H,I,rfl,?_⟩;rw [show aW.toArray.any (As x)=aW.any (As x) by simp,om r fs];exact q
 obtain⟨aW,r,pl,hz⟩:=I.tuple hq;refine SeqAt.in_tupleAt (As x) pl (λw hw=>kX rx fx r fs w (by simpa using hw)) ⟨.bl _,H,I,rfl,?_⟩;rw [show aW.toArray.any (As x)=aW.any (As x) by simp,om r fs];exact q
def iB:jH X (compareOp .NotIn) (RZ X.K true):=by
 intro aj s σ H x y v u Q I rx ry h;obtain⟨p,xs,rfl,hq,fx,fs,q⟩:=h;cases ry;rcases hq with hq | hq
 .obtain⟨aW,r,pl,hz⟩:=I.list hq;refine SeqAt.notIn_listAt (As x) pl.isList (λw hw=>kX rx fx r fs w (by simpa using hw)) ⟨.bl _,H,I,rfl,?_⟩;rw [show aW.toArray.any (As x)=aW.any (As x) by simp,om r fs];exact q
 obtain⟨aW,r,pl,hz⟩:=I.tuple hq;refine SeqAt.notIn_tupleAt (As x) pl (λw hw=>kX rx fx r fs w (by simpa using hw)) ⟨.bl _,H,I,rfl,?_⟩;rw [show aW.toArray.any (As x)=aW.any (As x) by simp,om r fs];exact q
def aS:gM X (.builtin "len") (λxs H Q=>Nn xs (λp ys=>aG X.K H p ys\/a_ X.K H p ys) λys=>Q (.int ys.length) H):=by
 intro aj s σ H xs us Q I r h;obtain⟨p,ys,rfl,hq,q⟩:=h;obtain⟨u,rfl,rx⟩:=vals1 r;cases rx;have hn:=wo;rcases hq with hq | hq
 .obtain⟨aW,r',pl,hz⟩:=I.list hq;have bu:=r'.length;exact Calls.call_len_list pl.isList (by simp only [cH] <;> omega) ⟨.int ys.length,H,I.tok _,⟨s.toks+1,by rw [cH,bu]⟩,q⟩
 obtain⟨aW,r',pl,hz⟩:=I.tuple hq;have bu:=r'.length;exact len_tuple pl (by simp only [cH] <;> omega) ⟨.int ys.length,H,I.tok _,⟨s.toks+1,by rw [cH,bu]⟩,q⟩
def gM.or {f:Value}{r r':List V->Hp->VK->Prop}(h:gM X f r)(h':gM X f r'):gM X f (λxs H Q=>r xs H Q\/r' xs H Q):=by
 intro aj s σ H xs us Q I rs q;rcases q with q | q
 .exact h aj s σ H xs us Q I rs q
 exact h' aj s σ H xs us Q I rs q
def dq:gM X (.type "list") (λxs H Q=>Nn xs (λp ys=>aG X.K H p ys\/a_ X.K H p ys) λys=>∀l,H l=none->Q (.ref l) (upd H l (.lst ys))):=by
 intro aj s σ H xs us Q I r h;obtain⟨p,ys,rfl,hq,q⟩:=h;obtain⟨u,rfl,rx⟩:=vals1 r;cases rx;have fin:∀(aW:List Value),bw ys aW->ys.length<=sizeLine->∀(h':Heap) (c':Nat),(∀b o',s.heap.get? b=some o'->h'.get? b=some o') ->
   h'.get? s.heap.objs.size=some { cls:=.type "list",dict:=none,data:=.seq aW.toArray c',slots:=#[] }->EP X aj σ Q (.ref s.heap.objs.size) { s with heap:=h' }:=λaW r' hz h' c' kp e =>
  ⟨.ref s.heap.objs.size,_,I.laid (t':=s.toks) kp (aU _) (show cW X.prog X.w _ h' _ (.lst ys) from ⟨hz,aW,c',r',e⟩),rfl,q _ (I.cC.fresh (aU _))⟩
 rcases hq with hq | hq
 .obtain⟨aW,r',pl,hz⟩:=I.list hq;have bu:=r'.length;obtain⟨o,ho,hc,n,hd⟩:=pl.isList;exact call_list_seq p (.inl rfl) ho hc hd (λh' c' kp e=>fin aW r' hz h' c' kp e) (by simp only [cH] <;> omega)
 obtain⟨aW,r',pl,hz⟩:=I.tuple hq;have bu:=r'.length;obtain⟨o,ho,hc,n,hd⟩:=pl;exact call_list_seq p (.inr rfl) ho hc hd (λh' c' kp e=>fin aW r' hz h' c' kp e) (by simp only [cH] <;> omega)
def jh:gM X (.type "tuple") (λxs H Q=>∃p ys,xs=[.ref p]/\((aG X.K H p ys/\∀l,H l=none->Q (.ref l) (upd H l (.tup ys)))\/(a_ X.K H p ys/\Q (.ref p) H))):=by
 intro aj s σ H xs us Q I r h;obtain⟨p,ys,rfl,h⟩:=h;obtain⟨u,rfl,rx⟩:=vals1 r;cases rx;rcases h with ⟨hq,q⟩ | ⟨hq,q⟩
 .obtain⟨aW,r',pl,hz⟩:=I.list hq;have bu:=r'.length;refine call_tuple_list pl.isList (λh' kp=>?_) (by simp only [cH] <;> omega)
  have I1:Inv X aj σ H { s with heap:=h' }:=I.kept (t':=s.toks) kp;have I2:Inv X aj σ (upd H h'.objs.size (.tup ys)) { s with heap:=h'.push { cls:=.type "tuple",data:=.seq aW.toArray } } :=
   I1.laid (t':=s.toks) (λb o e=>cJ _ e) (aU _) (show cW X.prog X.w _ _ _ (.tup ys) from ⟨hz,aW,r',IsTup.new _ _⟩)
  exact⟨.ref h'.objs.size,_,I2,rfl,q _ (I1.cC.fresh (aU _))⟩
 obtain⟨aW,r',pl,hz⟩:=I.tuple hq;exact call_tuple_same pl ⟨.ref p,H,I,rfl,q⟩
def XQ (K:bp)(T:String)(x:V)(H:Hp):Prop:=match x with
 | .str _=>T = "str"
 | .int _=>T = "int"
 | .ref p=>(T = "list" /\ ∃xs,aG K H p xs)\/(T = "tuple" /\ ∃o,K.lookup p=some o/\o.cls=.type "tuple" /\ o.dict=none) \/
   (T = "dict" /\ ((∃kvs,H p=some (.dK kvs))\/∃kvs,H p=some (.dT kvs)))\/(T = "set" /\ ∃S n,H p=some (.set S n))
 | _=>False
def K4 {aj:List (Addr×Obj)}{σ:St}{H:Hp}{s:Shared}{T:String}{x:V}{v:Value}(I:Inv X aj σ H s)(r:RelV x v)(ty:XQ X.K T x H) :
  s.TypeIs v T/\∀a,v=.ref a->∃ob,s.heap.get? a=some ob/\ob.dict=none:=by
 cases x with
 | str z =>
  obtain⟨t,rfl⟩:=r;cases (show T = "str" from ty);exact⟨typeIs_str s z t,λ_ e=>nomatch e⟩
 | int i =>
  obtain⟨t,rfl⟩:=r;cases (show T = "int" from ty);exact⟨typeIs_int s i t,λ_ e=>nomatch e⟩
 | ref p =>
  cases r;rcases ty with ⟨rfl,xs,hq⟩ | ⟨rfl,o,hk,hc,hd⟩ | ⟨rfl,hk⟩ | ⟨rfl,S,n,hk⟩
  .obtain⟨aW,_,pl,_⟩:=I.list hq;refine⟨pl.isList.typeIs,λa e=>?_⟩;cases e;obtain⟨o,n,e,c,hd,_⟩:=pl;exact⟨o,e,hd⟩
  .refine⟨⟨o,I.wu p o hk,hc⟩,λa e=>?_⟩;cases e;exact⟨o,I.wu _ o hk,hd⟩
  .have z:∃o,s.heap.get? p=some o/\o.ExactDict:=by
    rcases hk with ⟨kvs,hk⟩ | ⟨kvs,hk⟩
    .obtain⟨_,_,_,_,o,_,_,e,ex,_⟩:=I.cC p _ hk;exact⟨o,e,ex⟩
    obtain⟨_,_,_,_,o,_,_,e,ex,_⟩:=I.cC p _ hk;exact⟨o,e,ex⟩
   obtain⟨o,e,ex⟩:=z;refine⟨⟨o,e,ex.1⟩,λa e2=>?_⟩;cases e2;exact⟨o,e,ex.2.1⟩
  obtain⟨o,_,_,_,e,ex,_⟩:=I.cC p _ hk;refine⟨⟨o,e,ex.1⟩,λa e2=>?_⟩;cases e2;exact⟨o,e,ex.2.1⟩
 | _=>exact False.elim ty
def tBM (K:bp)(T:String)(r:V->List V->Hp->VK->Prop)(to:TE)(t:TA):TE:=λσ H Q=>to σ H λx H1=>XQ K T x H1/\t σ H1 λxs H2=>r x xs H2 Q
variable {o e:Expr}{es:List Expr}{to:TE}{t:TA}{name:Str}{apos ie:Pos}{T id:String}{r:V->List V->Hp->VK->Prop}
noncomputable def ix (pa:PlainAttrs T)(slot:Slot T name id)(hty:typeOf (.builtin id)=pure (.type "method_descriptor"))(hm:Rv X id r)(ho:PE X o to)(ha:PA X (e::es) t)
  (QG:attributeBase o name X.env (eval o X.env)=eval o X.env:=by rfl)
  (VG:((backTo ie (starEach (e::es) X.env)).all (λx=>!x.1) && (backToKw ie (keywordEach [] X.env)).all (λx=>x.1.isSome)
   && decide ((e::es).length+([]:List Keyword).length+(if ([]:List Keyword).isEmpty then 0 else 1) < 30))=true:=by rfl)
  (Qq:(apos.endLine == ie.line)=true:=by rfl)(hs:starEach (e::es) X.env=(false,eval e X.env)::starEach es X.env:=by rfl)(Mt:(backTo ie (starEach es X.env)).any (·.1)=false:=by rfl) :
  PE X (.Call (.Attribute o name apos) (e::es) [] ie) (tBM X.K T r to t):=by
 intro aj s σ H Q I h;refine wpAny_Call_method_late QG VG Qq rfl (dC (ho aj s σ H _ I h) λv s1 bN=>?_);obtain⟨x,H1,I1,r1,ty,q1⟩:=bN;obtain⟨h1,h2⟩:=K4 I1 r1 ty;refine⟨T,id,pa,slot,hty,h1,h2,?_⟩;have hA:=ha ie aj s1 σ H1 _ I1 q1;rw [hs] at hA ⊢;refine vf (by show (false || (backTo ie (starEach es X.env)).any (·.1))=false;rw [Mt] <;> rfl) (u_ ?_)
 refine dC hA λus s2 bN=>?_;obtain⟨vs,H2,I2,r2,q2⟩:=bN;exact hm aj s2 σ H2 x vs v us Q I2 r1 r2 q2
end
def MtM (X:Cx)(id:String)(r:V->List V->Hp->VK->Prop):Prop :=
 ∀(aj:List (Addr×Obj))(s:Shared)(σ:St)(H:Hp)(x:V)(xs:List V)(v:Value)(us:List Value)(Q:VK),Inv X aj σ H s->RelV x v->bw xs us->r x xs H Q ->
  wpAny (model X.prog X.w) X.A (call (.builtin id) (v::us)) (EP X aj σ Q) X.xe s
def bw.one:∀{x:V}{us:List Value},bw [x] us->∃u,us=[u]/\RelV x u
 | _,_,.cons r .nil=>⟨_,rfl,r⟩
def bw.two:∀{x y:V}{us:List Value},bw [x,y] us->∃u v,us=[u,v]/\RelV x u/\RelV y v
 | _,_,_,.cons r (.cons q .nil)=>⟨_,_,rfl,r,q⟩
def bw.zero:∀{us:List Value},bw [] us->us=[]
 | _,.nil=>rfl
theorem bw.reverse {xs:List V}{us:List Value}(h:bw xs us):bw xs.reverse us.reverse:=by
 induction h with
 | nil=>exact .nil
 | cons r t ih=>rw [List.reverse_cons,List.reverse_cons];exact bw.append ih (.cons r .nil)
section
variable {X:Cx}{aj:List (Addr×Obj)}{σ:St}{H:Hp}{s:Shared}{l b:Addr}{xs ys zs:List V}
def Inv.PD {aW wz:List Value}{n:Nat}{f:Array Value->Array Value}{t':Nat}(I:Inv X aj σ H s)(hH:H l=some (.lst xs))
  (e:s.heap.get? l=some { cls:=.type "list",data:=.seq aW.toArray n })(hf:f aW.toArray=wz.toArray)(hv:bw ys wz)(hz:ys.length<=sizeLine) :
  Inv X aj σ (upd H l (.lst ys)) { s with heap:=s.heap.update l (Obj.mapSeq f),toks:=t' }:=by
 have q:=PySem.IsL.update e f;rw [hf] at q;refine I.write (x:=l) (e:=l) (by rw [hH];exact trivial) (.inl rfl) (λb' u hb hu=>(Heap.get?_update_other s.heap (Obj.mapSeq f) (fO hb)).trans hu) ⟨_,q⟩ ?_;exact⟨hz,wz,_,hv,q⟩
def Inv.UO {aW:List Value}{t':Nat}(I:Inv X aj σ H s)(hv:bw ys aW)(hz:ys.length<=sizeLine) :
  Inv X aj σ (upd H s.heap.objs.size (.lst ys)) { s with heap:=s.heap.push { cls:=.type "list",data:=.seq aW.toArray },toks:=t' } :=
 I.laid (λ_ _ q=>cJ _ q) (aU _) ⟨hz,aW,0,hv,d8 _ rfl⟩
theorem Inv.fresh (I:Inv X aj σ H s):H s.heap.objs.size=none:=I.cC.fresh (aU _)
def Inv.FN (I:Inv X aj σ H s)(hH:H l=some (.lst xs)):xs.length<=sizeLine/\∃(aW:List Value) (n:Nat),bw xs aW/\xs.length=aW.length/\s.heap.get? l=some { cls:=.type "list",data:=.seq aW.toArray n }:=by
 obtain⟨z,aW,n,r,e⟩:=I.cC l _ hH;exact⟨z,aW,n,r,r.length,e⟩
def FC {n:Nat}(h:n<=sizeLine):Builtin.List.listTooLong n=false:=by
 unfold Builtin.List.listTooLong;exact d0 ∅
end
section
variable {X:Cx}
inductive Rm (H:Hp)(x:V)(vs:List V)(R:Addr->List V->V->Prop):Prop
|mk(l:Addr)(xs:List V)(y:V)(e:x=.ref l)(e2:vs=[y])(h:H l=some (.lst xs))(z:xs.length < sizeLine)(q:R l xs y)
def Iz:V->List V->Hp->VK->Prop:=λx vs H Q=>Rm H x vs λl xs y=>Q .eZ (upd H l (.lst (xs++[y])))
def cA:MtM X "list.append" Iz:=by
 intro aj s σ H x vs v us Q I rx rv h;obtain⟨l,xs,y,rfl,rfl,hH,hz,q⟩:=h;cases rx;obtain⟨u,rfl,ru⟩:=rv.one;obtain⟨z,aW,n,r,hl,e⟩:=I.FN hH;refine call_meets F.slot_list_append ⟨_,e,rfl⟩ F.entry_list_append (F.args_list_append_2 _ _) (PySem.list_append l aW.toArray n u (by rw [cH];omega)) ⟨e,?_⟩;refine⟨.eZ,_,I.PD (wz:=aW++[u]) hH e (by simp) (r.append (.cons ru .nil)) ?_,rfl,q⟩;rw [bW,gP];omega
def Iy:V->List V->Hp->VK->Prop:=λx vs H Q=>∃l b xs zs,x=.ref l/\vs=[.ref b]/\H l=some (.lst xs)/\H b=some (.lst zs)/\xs.length+zs.length<=sizeLine/\Q .eZ (upd H l (.lst (xs++zs)))
def NP:MtM X "list.extend" Iy:=by
 intro aj s σ H x vs v us Q I rx rv h;obtain⟨l,b,xs,zs,rfl,rfl,hH,hB,hz,q⟩:=h;cases rx;obtain⟨u,rfl,ru⟩:=rv.one;cases ru;obtain⟨z,aW,n,r,hl,e⟩:=I.FN hH;obtain⟨z2,dX,n2,r2,o_,e2⟩:=I.FN hB;have hsz:aW.toArray.size+dX.toArray.size<=sizeLine:=by rw [cH,cH];omega
 have Qo:¬(!aW.toArray.isEmpty && Builtin.List.listTooLong (aW.toArray.size+dX.toArray.size))=true:=by
  rw [FC hsz,Bool.and_false];exact d5
 refine call_meets F.slot_list_extend ⟨_,e,rfl⟩ F.entry_list_extend (F.args_list_extend_2 _ _)
  (AutoSeq1.list_extend_list_list_0 l aW.toArray n b dX.toArray n2 Qo (by rw [cH];omega) ∅) ⟨e,e2,?_⟩
 refine⟨.eZ,_,I.PD (wz:=aW++dX) hH e (by simp) (r.append r2) ?_,rfl,q⟩;rw [bW];omega
def LF:R2:=λx y H Q=>Xp (λl xs=>H l=some (.lst xs)) x y λxs zs=>∀p,H p=none->Q (.ref p) (upd H p (.lst (xs++zs)))
def gh:jH X (binaryOp .Add) LF:=by
 intro aj s σ H x y v u Q I rx ry h;obtain⟨l,b,xs,zs,rfl,rfl,hH,hB,hz,q⟩:=h;cases rx;cases ry;obtain⟨z,aW,n,r,hl,e⟩:=I.FN hH;obtain⟨z2,dX,n2,r2,o_,e2⟩:=I.FN hB;refine PySem.P.add_list e e2 ?_ (by rw [cH,cH];omega);have ea:aW.toArray++dX.toArray=(aW++dX).toArray:=by simp
 rw [ea];exact⟨.ref _,_,I.UO (t':=s.toks) (r.append r2) (by rw [bW];omega),rfl,q _ I.fresh⟩
end
section
variable {prog:Program}{w:World}{A:Around}{E:Value->Shared->Prop}{s:Shared}
set_option maxRecDepth 100000 in
end
section
variable {X:Cx}
end
end L2
namespace H_
open PySem PySem.W PySem.Calls PyProof.Rows
def qb {P:Params}{h:Heap}:∀(ns:List Int)(vs:List Value),WellAll P h vs (ns.map WData.int)->IntsAre vs ns:=by
 intro ns
 induction ns with
 | nil =>
  intro vs w;rw [mj] at w;cases w;exact .nil
 | cons n ns ih =>
  intro vs w;rw [cE] at w;cases w with
  | cons a b =>
   cases a;exact .cons _ _ (ih _ b)
def Cd {l:OpenLaw}{n:Nat}(hn:l.most=some n){P:Params}{h:Heap}{args:List WData}{vals:List Value}
  (Jg:l.row.toRowW.claim.pre args=true)(U9:WellAll P h vals args) :
  ∃a vs ns,vals=[Value.ref a]/\args=[WData.list (ns.map WData.int)]/\h.get? a=some { cls:=.type "list",data:=.seq vs.toArray }/\IntsAre vs ns/\ns.length<=n:=by
 have Sh:WShape.hasAll [] args [.list .int]=true:=(pre_splitW Jg).1;have hc:l.pre.holds [] { args:=args }=true:=(pre_splitW Jg).2;obtain⟨d,r,rfl,h1,h2⟩:=hasAllW_cons Sh;obtain rfl:=hasAllW_nil h2;obtain⟨xs,rfl,h3⟩:=hasW_list h1;obtain⟨ns,rfl⟩:=items_int h3;have bu:ns.length<=n:=by
  unfold OpenLaw.pre at hc;have h4:(WTm.not (.lt (.lit (.int (n:Int))) (.len (.arg 0)))).holds [] { args:=[.list (ns.map .int)] }=true:=by
   have h4:=(holds_andW hc).1;rw [hn] at h4;exact h4
  have h5:=condW_of h4 (w_not (w_lt w_lit (w_len_list (w_arg rfl))));rw [au] at h5;refine Nat.le_of_not_lt λq=>?_;have q':(n:Int) < ((ns.length:Nat):Int):=by omega
  first
   | (rw [cf q'] at h5;exact absurd h5 nofun)
   | (simp at h5;omega)
 cases U9 with
 | cons w1 w2 =>
  cases w2;cases w1 with
  | list ho qd=>exact⟨_,_,ns,rfl,rfl,ho,qb ns _ qd,bu⟩
def Cj (l:OpenLaw)(args:List WData):l.row.toRowW.claim.post args (.bool true) args=true :=
 postW_of (r:=l.row.toRowW) (X:=(true == true))
  (show WShape.has [] (.bool true) .bool=true by first | rfl | decide | simp [WShape.has,WShape.arms,WShape.armsAll])
  (show (WTm.eq .res (.lit (.bool true))).value [] { args:=args,res:=some (.bool true),after:=args }=some (.bool (true == true)) from w_eq_bool (w_res rfl) w_lit) rfl
def pX {l:OpenLaw}{n:Nat}{q:Program}{loose:List Str}{XP:(Str->Option Value)->Heap->Prop}{YP:World->Heap->Prop}{d:DefRec}
  (hn:l.most=some n)(MD:d.params.defaults=[])
  (call:∀(w:World)(s₀ s₁:Shared)(mg mb:Str->Option Value)(fa:Addr)(o:Obj)(pm cd doc:Value)(a:Addr)(vs:List Value)(ns:List Int),
   Ground q loose [] XP w s₀ mg mb s₁.heap->YP w s₁.heap ->
   s₁.heap.get? fa=some o->o.data=.func (docDef d.name d.params d.body d.scope pm cd doc)->s₁.heap.CodeRec cd d.name->mg d.name=some (.ref fa) ->
   s₁.heap.get? a=some { cls:=.type "list",data:=.seq vs.toArray }->IntsAre vs ns->ns.length<=n->s₁.gens=#[] ->
   codeAny (model l.prog w) callerA (.call (.ref fa) ⟨[.ref a],[]⟩) (λr s'=>r=.ok (.ret (.bool true))/\OldK s₁.heap s'.heap/\s'.os=s₁.os/\AllBare s'.gens) s₁) :
  WalkO q loose XP YP l.row.toRowW d [] (λf vs=>PySem.call f vs):=by
 intro w s₀ s₁ mg mb G Y fa o pm cd doc dV kV ho hd wF hD Mw hg args vals as Jg aam hrd U9 hlo;obtain rfl:dV=.none:=Dflts.none hD MD;obtain rfl:kV=.none:=Dflts.noKw hD;obtain⟨a,vs,ns,rfl,rfl,F5,hints,bu⟩:=Cd hn Jg U9;refine enter_call (oy (call w s₀ s₁ mg mb fa o pm cd doc a vs ns G Y ho (fd_plain hd) wF Mw F5 hints bu hg) λr s' hq=>?_);obtain⟨rfl,h2,h3,h4⟩:=hq;exact⟨.inl ⟨.bool true,.bool true,[],rfl,λ_=>rfl,.bool true,Cj l _,λ_=>⟨List.Pairwise.nil,λ_ hm=>(nomatch hm)⟩⟩,h2,h3,h4⟩
section
variable {prog:Program}{w:World}{A:Around}{E:Value->Shared->Prop}{s:Shared}{K:Frag}
noncomputable def rP (h:Heap):Heap:={ h with objs:=#[] }
def mI (h:Heap)(b:Addr):(rP h).get? b=none:=by
 cases e:(rP h).get? b with
 | none=>rfl
 | some o=>exact absurd (bR e) (Nat.not_lt_zero _)
noncomputable def ledger (h:Heap)(L d:Addr):List (Addr×Obj):=(List.range h.objs.size).filterMap λa=>if a=L\/a=d then none else (h.get? a).map λo=>(a,o)
def jV {h:Heap}{L d a:Addr}{o:Obj}:(a,o)∈ledger h L d↔a≠L/\a≠d/\h.get? a=some o:=by
 unfold ledger;rw [List.mem_filterMap];constructor
 .rintro⟨b,_,e⟩
  split at e
  .cases e
  rename_i hb
  obtain⟨o',ho,e'⟩:=b_.mp e;cases e';exact⟨λq=>hb (.inl q),λq=>hb (.inr q),ho⟩
 rintro⟨n1,n2,ho⟩;refine⟨a,mq.mpr (bR ho),?_⟩;rw [az (show ¬(a=L\/a=d) from λq=>q.elim n1 n2),ho] <;> rfl
def xO {h:Heap}{L d:Addr}{od:Obj}(DE:d≠L)(ho:h.get? d=some od):News (rP h) L h ([]++(d,od)::ledger h L d):=by
 rintro⟨a,o⟩ hp;rcases b8.mp hp with e | hp
 .cases e;exact⟨ho,DE,mI _ _⟩
 obtain⟨n1,n2,e⟩:=jV.mp hp;exact⟨e,n1,mI _ _⟩
def MS {h:Heap}{L:Addr}{m:Str->Option Value}(n:h.Ns L m):Fr (rP h) L h m :=
 ⟨n,λb o e=>(by rw [mI] at e;cases e),gG _⟩
end
end H_
namespace L2
open PySem PySem.Spec PyProof.Rows
theorem oQ:∀{vs:List Value}{ns:List Int},IntsAre vs ns->bw (ns.map V.int) vs
 | _,_,.nil=>.nil
 | _,_,.cons n t h=>.cons ⟨t,rfl⟩ (oQ h)
def Nt (H:Hp):Prop:=∀b,H b=none\/∃o xs,H b=some (.ki o (.lst xs))
def FR {P:Program}{w:World}{K:bp}{mg mb:Str->Option Value}{CX:yL}{k:Nat}{fa a:Addr}{fd:FuncData}{x:Str}{sp:Sp}{s₁:Shared}{vs:List Value}{ns:List Int}
  (KX:K.In s₁.heap)(xX:s₁.heap.Ns mainGlobals mg)(hb:s₁.heap.Ns builtinsNs mb)(MI:∀x:Str,x ≠ "__name__" -> mb x=bootBuiltins x)(Mx:s₁.heap.NoLimit)(hg:s₁.gens=#[])
  (ha:s₁.heap.get? a=some { cls:=.type "list",data:=.seq vs.toArray })(hi:IntsAre vs ns)(hl:ns.length<=sizeLine)(hr:fJ k callerA)
  (F:∀base:Heap,K.In base->base.Ns mainGlobals mg->bV P w K mg base CX k fa fd [x] sp)(nX:∀(s:Shared)(u:Value),BindsTo s fd ⟨[u],[]⟩ [(x,u)])
  (yG:∀H:Hp,Nt H->aG K H a (ns.map V.int)->sp [.ref a] H (λv _=>v=.bl true) λ_ _ _=>False)
  (MP:∀H e s',CX [] H s₁ (λ_ _ _=>False) e s'->False) :
  codeAny (model P w) callerA (.call (.ref fa) ⟨[.ref a],[]⟩) (λr s'=>r=.ok (.ret (.bool true))/\OldK s₁.heap s'.heap/\s'.os=s₁.os/\AllBare s'.gens) s₁:=by
 have rv:=oQ hi;have Mf:=hi.length;have core:∀H:Hp,Nt H->aG K H a (ns.map V.int)->mi P w H s₁.heap->(∀b,H b≠none->b=a)->(H a≠none->K.lookup a=none) ->
   codeAny (model P w) callerA (.call (.ref fa) ⟨[.ref a],[]⟩) (λr s'=>r=.ok (.ret (.bool true))/\OldK s₁.heap s'.heap/\s'.os=s₁.os/\AllBare s'.gens) s₁:=by
  intro H hO hS cC hA hK;have lP:∀{b:Addr}{o:Obj},s₁.heap.get? b=some o->H b=none->(mR s₁.heap H).get? b=some o:=λe n=>xZ e n;have Pn:∀{b:Addr}{o:Obj}{es:Array DictEntry}{ep:Nat},s₁.heap.get? b=some o->o.data=.dict es ep->H b=none:=λ{b o es ep} e d=>by
   cases q:H b with
   | none=>rfl
   | some u =>
    have e':b=a:=hA b (by rw [q];simp);subst e';rw [ha] at e;cases e;have d':Data.seq vs.toArray _=Data.dict es ep:=d;cases d'
  have IZ:∀{b:Addr}{m:Str->Option Value},s₁.heap.Ns b m->(mR s₁.heap H).Ns b m:=λ{b m} ⟨o,es,ep,e,d,r⟩=>⟨o,es,ep,lP e (Pn e d),d,r⟩;have QJ:K.In (mR s₁.heap H):=λb o e=>lP (KX b o e) (by
   cases q:H b with
   | none=>rfl
   | some u =>
    have e':b=a:=hA b (by rw [q];simp);subst e';rw [hK (by rw [q];simp)] at e;cases e)
  have hM:Mod K mg (mR s₁.heap H):=⟨QJ,IZ xX,⟨mb,IZ hb,MI⟩,let ⟨mc,h1,h2⟩:=Mx;⟨mc,IZ h1,h2⟩⟩;have e0:qh P w K mg (mR s₁.heap H) callerA [] s₁ H:=⟨rfl,hM,λb o e=>Br e,Nat.le_of_eq (uF _ _),trivial,λb hb=>absurd (show b∈([]:List Addr) from hb) (by simp),cC,.of_eq hg⟩;refine oy ((F _ QJ (IZ xX)).run callerA [] s₁ H ⟨[.ref a],[]⟩ [.ref a] [.ref a] _ _ hr e0 (nX s₁ (.ref a)) (.cons rfl .nil) (yG H hO hS)) λr s' h=>?_;cases r with
  | error e=>exact(MP H e s' h).elim
  | ok fl =>
   cases fl with
   | next=>exact False.elim h
   | brk=>exact False.elim h
   | cont=>exact False.elim h
   | ret u =>
    obtain⟨v,H',os,bare,un,Ji,r',q⟩:=h;have q':v=.bl true:=q;subst q';obtain rfl:u=Value.bool true:=r';refine⟨rfl,OldK.of_keep λb o e=>?_,os,bare⟩;cases q:H b with
    | none=>exact un.keep b o e q (by intro z;exact absurd (show b∈([]:List Addr) from z) (by simp)) (by simp)
    | some u =>
     rcases hO b with z | ⟨ob,xs,z⟩
     .rw [q] at z;cases z
     have z2:=un.mT b ob _ z;obtain⟨e1,_⟩:=cC b _ z;obtain⟨e2,_⟩:=Ji b _ z2;rw [e] at e1;cases e1;exact e2
 cases hk:K.lookup a with
 | some o =>
  have e:=KX a o hk;rw [ha] at e;cases e;refine core (λ_=>none) (λ_=>.inl rfl) (.inr ⟨_,vs.toArray,_,hk,rfl,rfl,rfl,by rw [cH,Mf];exact hl,by simpa using rv⟩) (λb u z=>by have z':(none:Option HO)=some u:=z;cases z') (λb z=>absurd rfl z) λz=>absurd rfl z
 | none =>
  refine core (λb=>if b=a then some (.ki { cls:=.type "list",data:=.seq vs.toArray } (.lst (ns.map V.int))) else none) (λb=>?_) (.inl (.inr ⟨{ cls:=.type "list",data:=.seq vs.toArray },ax rfl⟩)) (λb u z=>?_) (λb z=>?_) λ_=>hk
  .by_cases hb:b=a
   .exact .inr ⟨_,_,ax hb⟩
   exact .inl (az hb)
  .by_cases hb:b=a
   .have z':=(ax hb).symm.trans z;cases z';subst hb;exact⟨ha,by rw [au];exact hl,vs,_,rv,ha⟩
   have z':=(az hb).symm.trans z;cases z'
  by_cases hb:b=a
  .exact hb
  exact absurd (az hb) z
abbrev KOf {K:bp}{h:Heap}(_:K.In h):bp:=K
def RJ {l:PySem.W.OpenLaw}{n k:Nat}{q:Program}{loose:List Str}{XP:(Str->Option Value)->Heap->Prop}{YP:World->Heap->Prop}{d:DefRec}{K:Params->bp}{CX:World->yL}{sp:World->Sp}{x:Str}
  (hn:l.most=some n)(F_:n<=sizeLine)(MD:d.params.defaults=[])(hr:fJ k callerA)
  (hY:∀(w:World)(h:Heap),YP w h->(K w.params).In h)
  (F:∀(w:World)(mg:Str->Option Value)(fa:Addr)(h:Heap),(K w.params).In h->h.Ns mainGlobals mg->mg d.name=some (.ref fa) ->
   ∃fd:FuncData,(∀(s:Shared)(u:Value),BindsTo s fd ⟨[u],[]⟩ [(x,u)]) /\
    ∀base:Heap,(K w.params).In base->base.Ns mainGlobals mg->bV l.prog w (K w.params) mg base (CX w) k fa fd [x] (sp w))
  (yG:∀(w:World)(H:Hp)(a:Addr)(ns:List Int),ns.length<=n->Nt H->aG (K w.params) H a (ns.map V.int)->sp w [.ref a] H (λv _=>v=.bl true) λ_ _ _=>False)
  (MP:∀(w:World)(H:Hp)(s:Shared)(e:Value)(s':Shared),CX w [] H s (λ_ _ _=>False) e s'->False) :
  PySem.W.WalkO q loose XP YP l.row.toRowW d [] (λf vs=>PySem.call f vs):=by
 refine H_.pX hn MD λw s₀ s₁ mg mb fa o pm cd doc a vs ns G Y ho hd wF Mw F5 hints bu hg=>?_;have KX:=hY w _ Y;obtain⟨fd,hb,hF⟩:=F w mg fa _ KX G.T.g Mw;exact FR KX G.T.g G.T.b G.T.builtins G.T.nolimit hg F5 hints (f_ bu F_) hr hF hb (λH hO hS=>yG w H a ns bu hO hS) λH e s'=>MP w H s₁ e s'
noncomputable def dU (s:Stmt):Arguments:=match s with
 | .FunctionDef _ a _ _ _ _ _ _ _ _=>a
 | _=>{ posonlyargs:=[],args:=[],vararg:=none,kwonlyargs:=[],kw_defaults:=[],kwarg:=none,defaults:=[] }
def cQ (s:Stmt):List Stmt:=match s with
 | .FunctionDef _ _ b _ _ _ _ _ _ _=>b
 | _=>[]
noncomputable def ay (s:Stmt):Scope:=match s with
 | .FunctionDef _ _ _ _ _ _ sc _ _ _=>sc
 | _=>{ kind:=.function,names:=[],isGenerator:=false,isCoroutine:=false }
abbrev fK:yL:=λ_ _ _ _ _ _=>False
abbrev E0:XK:=λ_ _ _=>False
def uu {X:Cx}:Passes fK X E0:=λ_ _ _ _ _ _ _ h=>h.elim
structure hV (K:bp)(x qual:Str)(st:Stmt)(f:Addr)(fd:FuncData):Prop where
 ex:∃(oc:Value)(od:Option Addr)(kV doc pm:Value)(an:Option Addr)(eX ct:Value)(xF:Array (Option Value)),
  fd=PySem.W.fnOf x qual (dU st) (cQ st) (ay st) .none kV doc pm an eX ct/\K.lookup f=some ⟨oc,od,.func fd,xF⟩/\PySem.W.codeIn K eX qual=true
 kp:PySem.W.keepIn K (.ref f)=true
section
variable {P:Program}{w:World}{K:bp}{mg:Str->Option Value}{base:Heap}
def hV.ok {x qual:Str}{st:Stmt}{f:Addr}{fd:FuncData}{N ps:List Str}{k:Nat}{sp:Sp}(F:hV K x qual st f fd)(S:aK N ps (ay st))(len:∀vs H Q E,sp vs H Q E->vs.length=ps.length)
  (jC:∀(eX:Value)(A:Around)(outer:List Env)(s:Shared)(H:Hp)(vs:List V)(Q:VK)(E:XK),fJ k (A.deeper (envOfC qual (ay st) s.heap.objs.size f eX))->sp vs H Q E ->
   ∃t,AH (pC fK P w K mg base N qual (ay st) f eX A outer s H E).CC (cQ st) t/\t { nx:=λ_ H'=>Q .eZ H',rt:=Q } (start N vs) H):bV P w K mg base fK (k+1) f fd ps sp:=by
 obtain⟨oc,od,kV,doc,pm,an,eX,ct,xF,rfl,lk,wF⟩:=F.ex;refine Gn lk wF S len λA outer s H vs Q E hr yG=>?_;obtain⟨t,h,q⟩:=jC eX A outer s H vs Q E hr yG;exact⟨t,h.CC,q⟩
def hV.binds {x qual:Str}{st:Stmt}{f:Addr}{fd:FuncData}{ps:List Str}(F:hV K x qual st f fd)
  (h:∀(kV doc pm:Value)(an:Option Addr)(eX ct:Value)(us:List Value),us.length=ps.length->bindArgs (PySem.W.fnOf x qual (dU st) (cQ st) (ay st) .none kV doc pm an eX ct) ⟨us,[]⟩=pure (ps.zip us)):Binds K fd ps []:=by
 obtain⟨oc,od,kV,doc,pm,an,eX,ct,xF,rfl,lk,wF⟩:=F.ex;exact .all (h kV doc pm an eX ct)
def Gj {x qual:Str}{st:Stmt}{f:Addr}{oc:Value}{od an:Option Addr}{xF:Array (Option Value)}{kV doc pm eX ct:Value}(l:K.lookup f=some ⟨oc,od,.func (PySem.W.fnOf x qual (dU st) (cQ st) (ay st) .none kV doc pm an eX ct),xF⟩)
  (c:PySem.W.codeIn K eX qual=true)(k:PySem.W.keepIn K (.ref f)=true):hV K x qual st f (PySem.W.fnOf x qual (dU st) (cQ st) (ay st) .none kV doc pm an eX ct):=⟨⟨oc,od,kV,doc,pm,an,eX,ct,xF,rfl,l,c⟩,k⟩
end
def fu {A:Around}{k:Nat}(hr:fJ k A):A.units+1 < cLine:=tT (Nat.add_le_add_left (by decide:1<=64) _) hr.units
section
variable {X:Cx}
noncomputable def pv (i:Nat){x:Str}{pos:Pos}(hN:X.N[i]?=some x:=by rfl)(hv:SW X.env.scope x:=by first | exact Or.inl rfl | exact Or.inr (aZ rfl) | exact Or.inr (Or.inr rfl))(hd:(x == ("__debug__":Str))=false:=by decide)
  (wF:(x == ("__classdict__":Str))=false:=by decide):PE X (.Name x pos) (fS i):=LI hN hv hd wF
end
def dM {A B:Prop}(h:B):if false=true then A else B:=by
 rw [az d5];exact h
def fC {A B:Prop}(h:A):if true=true then A else B:=by
 rw [ax rfl];exact h
def bJ {c A B:Prop} [Decidable c] (h1:c->A)(h2:¬c->B):if c then A else B:=by
 by_cases h:c
 .rw [ax h];exact h1 h
 rw [az h];exact h2 h
def aC (H H':Hp):Prop:=∀b o,H b=some o->H' b=some o
def aC.refl (H:Hp):aC H H:=λ_ _ h=>h
def aC.trans {H H1 H2:Hp}(a:aC H H1)(b:aC H1 H2):aC H H2:=λc o h=>b c o (a c o h)
def aC.free {H H':Hp}(e:aC H H'){l:Addr}(h:H' l=Option.none):H l=Option.none:=by
 cases q:H l with
 | none=>rfl
 | some o =>
  rw [e l o q] at h;cases h
def aC.seq {K:bp}{H H':Hp}{a:Addr}{xs:List V}(e:aC H H')(h:aG K H a xs):aG K H' a xs:=by
 rcases h with (h | ⟨o,h⟩) | h
 .exact .inl (.inl (e _ _ h))
 .exact .inl (.inr ⟨o,e _ _ h⟩)
 exact .inr h
end L2
namespace HD
open PySem PySem.W
noncomputable def EU (st:SharedT->Thread->Option (SharedT×Thread))(ok:Thread->Bool):Nat->SharedT->Thread->Option SharedT
 | 0,_,_=>none
 | n+1,s,t=>match through t with
  | true=>some s
  | false=>match ok t with
   | false=>none
   | true=>match st s t with
    | some (s',t')=>EU st ok n s' t'
    | none=>none
theorem Bi {tb:String->Option Builtin}{p:Program}{w:World}{n₀:Nat}{ann:Option Value}:∀{n:Nat}{s s':SharedT}{t:Thread},EU (stepT (denote tb) p w) (stepOk n₀ ann) n s t=some s'->topRun tb p w n₀ ann n s.abs t=some s'.abs
 | 0,_,_,_,h=>by cases h
 | n+1,s,s',t,h=>by
  unfold EU at h;unfold topRun;cases he:through t with
  | true=>rw [he] at h;cases h;rfl
  | false =>
   rw [he] at h;cases hk:stepOk n₀ ann t with
   | false=>rw [hk] at h;cases h
   | true =>
    rw [hk] at h;cases hs:stepT (denote tb) p w s t with
    | none=>rw [hs] at h;cases h
    | some r=>obtain⟨s₂,t₂⟩:=r;rw [hs] at h;rw [stepT_spec hs];exact Bi h
def Yw:List Obj->Nat->BT->BT
 | [],_,t=>t
 | o::r,i,t=>Yw r (i+1) (t.ins i o)
noncomputable def BQ (P:Params):BT:=Yw (boot_heap P).objs.toList 0 .nil
def Df (P:Params):absHeap (BQ P) 11 {}=boot_heap P:=by kernel_rfl
def MU {β:Type}:Obj->(Obj->β)->β
 | ⟨c,d,t,s⟩,k=>k ⟨c,d,t,s⟩
noncomputable def qy {β:Type}:List Obj->(List Obj->β)->β
 | [],k=>k []
 | x::r,k=>MU x λy=>qy r λys=>k (y::ys)
theorem si {β:Type}:∀(l:List Obj)(k:List Obj->β),qy l k=k l
 | [],_=>rfl
 | ⟨c,d,t,s⟩::r,k=>by
  show qy r (λys=>k (⟨c,d,t,s⟩::ys))=_;rw [si r]
noncomputable def FO (p q:Program) (loose:List Str)(Xt:Shared->Bool){α:Type}(Yf:Shared->α)(g0:Bool)(h₀:Heap)(s:Shared) :=
 ((staticsOk (importedModules p.main.body) h₀ s.heap && namesBound p s.heap && gensDone s && laidKept h₀ s.heap),openSeen q loose (importedModules p.main.body) Xt g0 s,Yf s)
noncomputable def Ey {β:Type}(f:Shared->β)(s:SharedT):β:=qy (s.tree.list s.n) λl=>f ⟨⟨l.toArray,s.life⟩,s.gens,s.drawn,s.toks,s.os⟩
def Ex {β:Type}(f:Shared->β)(s:SharedT):Ey f s=f s.abs:=si _ _
def PJ {p q:Program}{loose:List Str}{Xt:Shared->Bool}{α:Type}{Yf:Shared->α}{Ya:World->α}{N:Nat}{g0:Bool}{ann:Option Value}{M:Nat}
  (Ff:∀w:World,(fencedOpening treeTable p w N).map (λs=>(s.heap,s.gens,s.drawn,s.toks))=some (boot_heap w.params,Array.mk [],boot_drawn,boot_toks))
  (size:∀w:World,((boot_heap w.params).isNs mainGlobals && (Array.mk []:Array GenState).size == 0,(boot_heap w.params).objs.size,(boot_heap w.params).nsMap mainGlobals "__annotations__")=(true,11,ann))
  (run:∀(w:World)(os:OsState),(EU (stepT (denote treeTable) p w) (stepOk 11 ann) M ⟨BQ w.params,11,{},Array.mk [],boot_drawn,boot_toks,os⟩ (topStub p)).map (Ey (FO p q loose Xt Yf g0 (boot_heap w.params)))=some (true,openGood q loose,Ya w))
  (le:Nat.ble M N=true):LeftO p q loose Xt Yf Ya N g0:=λw=>by
 obtain⟨⟨h,gs,d,k,os⟩,e,e'⟩:=b_.mp (Ff w);obtain⟨rfl,rfl,rfl,rfl⟩:h=boot_heap w.params/\gs=Array.mk []/\d=boot_drawn/\k=boot_toks:=by simpa using e'
 obtain⟨z1,z2,z3⟩:_/\_/\_:=by simpa only [qL] using size w
 obtain⟨s',r0,l0⟩:=b_.mp (run w os);rw [Ex] at l0;obtain⟨l1,l2,l3⟩:_/\_/\_:=by simpa only [FO,qL] using l0
 have r:=Bi r0;have ea:SharedT.abs ⟨BQ w.params,11,{},Array.mk [],boot_drawn,boot_toks,os⟩=⟨boot_heap w.params,Array.mk [],boot_drawn,boot_toks,os⟩:=by
  unfold SharedT.abs;rw [Df]
 rw [ea] at r;have r:=topRun_mono (N - M) _ _ _ _ r;rw [show M+(N - M)=N by have:=Nat.le_of_ble_eq_true le;omega] at r;have t:topFrom treeTable p w N ⟨boot_heap w.params,Array.mk [],boot_drawn,boot_toks,os⟩=some s'.abs:=by
  unfold topFrom;dsimp only;rw [z1,z2,z3,r];show (match staticsOk (importedModules p.main.body) (boot_heap w.params) s'.abs.heap && namesBound p s'.abs.heap && gensDone s'.abs && laidKept (boot_heap w.params) s'.abs.heap with | true=>_ | false=>_)=_
  rw [l1]
 unfold openEnds;rw [e];show (topFrom treeTable p w N _).map _=_;rw [t];exact congrArg some (jI l2 l3)
end HD
set_option maxHeartbeats 0
namespace HD
open PySem PySem.W L2 PySem.Challenge
def dE (P:Params)(x:Str)(t:Tok)(v:Value):DictEntry:=⟨PyData.keyHash P x,.str x t,v⟩
noncomputable def top (p:Program) (i:Nat):Stmt:=p.main.body.getD i (.Pass ⟨0,0,0,0⟩)
noncomputable def jw (p:Program) (i j:Nat):Stmt:=match top p i with
 | .ClassDef _ _ _ body _ _ _ _ _ _ _=>body.getD j (.Pass ⟨0,0,0,0⟩)
 | _=>.Pass ⟨0,0,0,0⟩
def posOf (s:Stmt):Pos:=match s with
 | .FunctionDef _ _ _ _ _ _ _ _ _ p=>p
 | _=>⟨0,0,0,0⟩
noncomputable def cF (a:Addr)(n q:Str)(i:Nat)(l m:Int)(x y:Addr)(u v s t:Value)(z:Int)(w:Nat):Addr×Obj:=(a,⟨.type "code",none,.fields #[.str n i,.str q (i+1),.str "/claim/cut.py" (i+2),.int l 0,.int m 0,.int 0 0,.int 0 0,.int 3 0,.ref x,.bool true,.int 181 0,.ref y,u,v,s,t,.int z 0,.int l 0,.str "/claim/cut.py" w],#[]⟩)
noncomputable def fF (a:Addr)(n q:Str)(s:Stmt)(m:Value):Addr×Obj:=(a,⟨.type "function",none,.func (fnOf n q (dU s) (cQ s) (ay s) .none .none .none m none (.ref (a-1)) .none),#[]⟩)
def dR (P:Params)(x:Str)(t:Tok)(a:Addr):DictEntry:=dE P x t (.ref a)
def m0:Value:=.str "__main__" 164
def m1:Value:=.str "wright.rules" 194
def m2:Value:=.str "wright.begin_checks" 243
def m3:Value:=.str "wright.begins" 275
def m4:Value:=.str "wright.begin_tables" 291
def m5:Value:=.str "wright.errors" 385
def m6:Value:=.str "wright.loops" 546
def m7:Value:=.str "wright.tree_sizes" 576
def m8:Value:=.str "wright.grammar_faults" 597
def m9:Value:=.str "wright.least_trees" 624
def m10:Value:=.str "wright.grammars" 710
def l_:Value:=.str "law_wright_k23_begins_checked" 753
noncomputable def K' (p:Program)(P:Params):Frag:=[
 (2,⟨.none,none,.dict #[] 0,#[]⟩),
 (3,⟨.type "dict",none,.dict #[dE P "__name__" 165 (.str "law_wright_k23_begins_checked" 753),dE P "__doc__" 166 (.none),dE P "__package__" 167 (.none),dE P "__loader__" 168 (.builtin "__main__.__loader__#opaque"),dE P "__spec__" 169 (.none),dR P "__annotations__" 170 6,dR P "__builtins__" 171 4,dE P "__file__" 173 (.str "/claim/cut.py" 172),dE P "__cached__" 174 (.none),dR P "_wall" 193 21,dR P "heads_of" 201 26,dR P "words_in" 207 31,dR P "numbers_by_name" 213 36,dR P "standings_by_part" 225 43,dR P "is_rule_of" 234 50,dR P "is_number_below" 242 57,dR P "empties_stand" 250 62,dR P "empties_lack" 256 67,dR P "begins_stand" 262 72,dR P "begins_lack" 268 77,dR P "words_told" 274 82,dR P "empties_of" 283 89,dR P "begins_of" 290 96,dR P "found_empties" 298 101,dR P "first_places" 309 108,dR P "BeginTable" 384 158,dR P "WrightError" 404 172,dR P "NoRules" 420 185,dR P "Twice" 445 204,dR P "Endless" 470 223,dR P "Unmet" 495 242,dR P "Loop" 520 261,dR P "Vast" 545 280,dR P "find_loop" 553 287,dR P "steps_with_like_rows" 559 292,dR P "way_back" 575 299,dR P "least_sizes" 583 304,dR P "greatest_empty_sizes" 590 311,dR P "settled_sizes" 596 316,dE P "MOST_RULES" 600 (.int (60) 599),dR P "refuse_faults" 606 321,dR P "refuse_twice" 617 328,dR P "names_met" 623 333,dR P "least_by_part" 631 338,dR P "rule_size" 637 343,dR P "empty_by_name" 643 348,dR P "LeastTrees" 709 391,dR P "Grammar" 752 420,dR P "_law_cell_at" 762 431,dR P "_law_names" 768 436,dR P "_law_words" 775 443,dR P "_law_digits" 787 450,dR P "_law_skeleton" 801 457,dR P "_law_more" 817 464,dR P "_law_ended" 823 469,dR P "_law_not_vast" 829 474,dR P "_law_good" 835 479,dR P "_law_grammar" 849 486,dR P "_law_empty_stands" 855 491,dR P "_law_empty_lacks" 861 496,dR P "_law_begin_stands" 867 501,dR P "_law_begin_lacks" 873 506,dR P "_law_bent" 886 513,dR P "law" 892 518] 64,#[]⟩),
 (cF 20 "_wall" "_wall" 187 1 1 15 16 .none (.ref 17) (.ref 18) (.ref 19) 191 192),
 (fF 21 "_wall" "_wall" (top p 0) m0),
 (cF 25 "heads_of" "heads_of" 196 5 1 22 23 .none .none .none (.ref 24) 199 200),
 (fF 26 "heads_of" "heads_of" (top p 2) m1),
 (cF 30 "words_in" "words_in" 202 7 1 27 28 .none .none .none (.ref 29) 205 206),
 (fF 31 "words_in" "words_in" (top p 3) m1),
 (cF 35 "numbers_by_name" "numbers_by_name" 208 15 1 32 33 .none .none .none (.ref 34) 211 212),
 (fF 36 "numbers_by_name" "numbers_by_name" (top p 4) m1),
 (cF 42 "standings_by_part" "standings_by_part" 214 20 1 37 38 .none (.ref 39) (.ref 40) (.ref 41) 223 224),
 (fF 43 "standings_by_part" "standings_by_part" (top p 5) m1),
 (cF 49 "is_rule_of" "is_rule_of" 226 26 3 44 45 .none (.ref 46) (.ref 47) (.ref 48) 232 233),
 (fF 50 "is_rule_of" "is_rule_of" (top p 6) m1),
 (cF 56 "is_number_below" "is_number_below" 235 28 2 51 52 .none (.ref 53) (.ref 54) (.ref 55) 240 241),
 (fF 57 "is_number_below" "is_number_below" (top p 7) m1),
 (cF 61 "empties_stand" "empties_stand" 245 31 2 58 59 .none .none .none (.ref 60) 248 249),
 (fF 62 "empties_stand" "empties_stand" (top p 9) m2),
 (cF 66 "empties_lack" "empties_lack" 251 40 2 63 64 .none .none .none (.ref 65) 254 255),
 (fF 67 "empties_lack" "empties_lack" (top p 10) m2),
 (cF 71 "begins_stand" "begins_stand" 257 46 3 68 69 .none .none .none (.ref 70) 260 261),
 (fF 72 "begins_stand" "begins_stand" (top p 11) m2),
 (cF 76 "begins_lack" "begins_lack" 263 61 3 73 74 .none .none .none (.ref 75) 266 267),
 (fF 77 "begins_lack" "begins_lack" (top p 12) m2),
 (cF 81 "words_told" "words_told" 269 73 2 78 79 .none .none .none (.ref 80) 272 273),
 (fF 82 "words_told" "words_told" (top p 13) m2),
 (cF 88 "empties_of" "empties_of" 277 80 1 83 84 .none (.ref 85) (.ref 86) (.ref 87) 281 282),
 (fF 89 "empties_of" "empties_of" (top p 15) m3),
 (cF 95 "begins_of" "begins_of" 284 82 1 90 91 .none (.ref 92) (.ref 93) (.ref 94) 288 289),
 (fF 96 "begins_of" "begins_of" (top p 16) m3),
 (cF 100 "found_empties" "found_empties" 293 85 1 97 98 .none .none .none (.ref 99) 296 297),
 (fF 101 "found_empties" "found_empties" (top p 18) m4),
 (cF 107 "first_places" "first_places" 299 96 2 102 103 .none (.ref 104) (.ref 105) (.ref 106) 307 308),
 (fF 108 "first_places" "first_places" (top p 19) m4),
 (cF 119 "__init__" "BeginTable.__init__" 322 105 2 116 117 .none .none .none (.ref 118) 325 326),
 (fF 120 "__init__" "BeginTable.__init__" (jw p 20 0) m4),
 (cF 126 "find_begins" "BeginTable.find_begins" 328 116 3 121 122 .none (.ref 123) (.ref 124) (.ref 125) 337 338),
 (fF 127 "find_begins" "BeginTable.find_begins" (jw p 20 1) m4),
 (cF 133 "words_of_part" "BeginTable.words_of_part" 340 124 2 128 129 .none (.ref 130) (.ref 131) (.ref 132) 345 346),
 (fF 134 "words_of_part" "BeginTable.words_of_part" (jw p 20 2) m4),
 (cF 140 "first_words" "BeginTable.first_words" 348 127 2 135 136 .none (.ref 137) (.ref 138) (.ref 139) 353 354),
 (fF 141 "first_words" "BeginTable.first_words" (jw p 20 3) m4),
 (cF 147 "all_empty" "BeginTable.all_empty" 356 130 2 142 143 .none (.ref 144) (.ref 145) (.ref 146) 361 362),
 (fF 148 "all_empty" "BeginTable.all_empty" (jw p 20 4) m4),
 (cF 154 "words_of_parts" "BeginTable.words_of_parts" 364 133 3 149 150 .none (.ref 151) (.ref 152) (.ref 153) 370 371),
 (fF 155 "words_of_parts" "BeginTable.words_of_parts" (jw p 20 5) m4),
 (157,⟨.type "dict",none,.dict #[dE P "__module__" 317 (.str "wright.begin_tables" 291),dE P "__firstlineno__" 321 (.int (103) 320),dR P "__init__" 327 120,dR P "find_begins" 339 127,dR P "words_of_part" 347 134,dR P "first_words" 355 141,dR P "all_empty" 363 148,dR P "words_of_parts" 372 155,dR P "__static_attributes__" 377 156,dR P "__dict__" 379 159,dR P "__weakref__" 381 160,dE P "__doc__" 382 (.none)] 4,#[]⟩),
 (158,⟨.type "type",none,.cls ⟨"BeginTable",[.type "object"],[.ref 158,.type "object"],157,"BeginTable",true,[],[],false,none,false⟩,#[none,none,some (.str "BeginTable" 310),some (.str "BeginTable" 318),some (.builtin "object.__new__"),some (.bool true)]⟩),
 (159,⟨.type "getset_descriptor",none,.fields #[.str "__dict__" 378,.ref 158,.builtin "function.__dict__",.builtin "function.__dict__#set"],#[]⟩),
 (160,⟨.type "getset_descriptor",none,.fields #[.str "__weakref__" 380,.ref 158,.builtin "ExceptionGroup.__weakref__",.none],#[]⟩),
 (171,⟨.type "dict",none,.dict #[dE P "__module__" 394 (.str "wright.errors" 385),dE P "__firstlineno__" 398 (.int (136) 397),dR P "__static_attributes__" 399 170,dR P "__weakref__" 401 173,dE P "__doc__" 402 (.none)] 3,#[]⟩),
 (172,⟨.type "type",none,.cls ⟨"WrightError",[.type "ValueError"],[.ref 172,.type "ValueError",.type "Exception",.type "BaseException",.type "object"],171,"WrightError",true,[],[.ref 185,.ref 204,.ref 223,.ref 242,.ref 261,.ref 280],false,none,false⟩,#[some (.ref 163),none,some (.str "WrightError" 387),some (.str "WrightError" 395),some (.builtin "ValueError.__new__"),some (.bool true)]⟩),
 (173,⟨.type "getset_descriptor",none,.fields #[.str "__weakref__" 400,.ref 172,.builtin "ExceptionGroup.__weakref__",.none],#[]⟩),
 (184,⟨.type "dict",none,.dict #[dE P "__module__" 412 (.str "wright.errors" 385),dE P "__firstlineno__" 416 (.int (138) 415),dR P "__static_attributes__" 417 183,dE P "__doc__" 418 (.none)] 2,#[]⟩),
 (185,⟨.type "type",none,.cls ⟨"NoRules",[.ref 172],[.ref 185,.ref 172,.type "ValueError",.type "Exception",.type "BaseException",.type "object"],184,"NoRules",true,[],[],false,none,false⟩,#[some (.ref 176),none,some (.str "NoRules" 405),some (.str "NoRules" 413),some (.builtin "ValueError.__new__"),some (.bool true)]⟩),
 (cF 200 "__init__" "Twice.__init__" 433 142 2 195 196 .none (.ref 197) (.ref 198) (.ref 199) 438 439),
 (fF 201 "__init__" "Twice.__init__" (jw p 24 0) m5),
 (203,⟨.type "dict",none,.dict #[dE P "__module__" 428 (.str "wright.errors" 385),dE P "__firstlineno__" 432 (.int (140) 431),dR P "__init__" 440 201,dR P "__static_attributes__" 442 202,dE P "__doc__" 443 (.none)] 2,#[]⟩),
 (204,⟨.type "type",none,.cls ⟨"Twice",[.ref 172],[.ref 204,.ref 172,.type "ValueError",.type "Exception",.type "BaseException",.type "object"],203,"Twice",true,[],[],false,none,false⟩,#[some (.ref 188),none,some (.str "Twice" 421),some (.str "Twice" 429),some (.builtin "ValueError.__new__"),some (.bool true)]⟩),
 (cF 219 "__init__" "Endless.__init__" 458 147 2 214 215 .none (.ref 216) (.ref 217) (.ref 218) 463 464),
 (fF 220 "__init__" "Endless.__init__" (jw p 25 0) m5),
 (222,⟨.type "dict",none,.dict #[dE P "__module__" 453 (.str "wright.errors" 385),dE P "__firstlineno__" 457 (.int (145) 456),dR P "__init__" 465 220,dR P "__static_attributes__" 467 221,dE P "__doc__" 468 (.none)] 2,#[]⟩),
 (223,⟨.type "type",none,.cls ⟨"Endless",[.ref 172],[.ref 223,.ref 172,.type "ValueError",.type "Exception",.type "BaseException",.type "object"],222,"Endless",true,[],[],false,none,false⟩,#[some (.ref 207),none,some (.str "Endless" 446),some (.str "Endless" 454),some (.builtin "ValueError.__new__"),some (.bool true)]⟩),
 (cF 238 "__init__" "Unmet.__init__" 483 152 2 233 234 .none (.ref 235) (.ref 236) (.ref 237) 488 489),
 (fF 239 "__init__" "Unmet.__init__" (jw p 26 0) m5),
 (241,⟨.type "dict",none,.dict #[dE P "__module__" 478 (.str "wright.errors" 385),dE P "__firstlineno__" 482 (.int (150) 481),dR P "__init__" 490 239,dR P "__static_attributes__" 492 240,dE P "__doc__" 493 (.none)] 2,#[]⟩),
 (242,⟨.type "type",none,.cls ⟨"Unmet",[.ref 172],[.ref 242,.ref 172,.type "ValueError",.type "Exception",.type "BaseException",.type "object"],241,"Unmet",true,[],[],false,none,false⟩,#[some (.ref 226),none,some (.str "Unmet" 471),some (.str "Unmet" 479),some (.builtin "ValueError.__new__"),some (.bool true)]⟩),
 (cF 257 "__init__" "Loop.__init__" 508 157 2 252 253 .none (.ref 254) (.ref 255) (.ref 256) 513 514),
 (fF 258 "__init__" "Loop.__init__" (jw p 27 0) m5),
 (260,⟨.type "dict",none,.dict #[dE P "__module__" 503 (.str "wright.errors" 385),dE P "__firstlineno__" 507 (.int (155) 506),dR P "__init__" 515 258,dR P "__static_attributes__" 517 259,dE P "__doc__" 518 (.none)] 2,#[]⟩),
 (261,⟨.type "type",none,.cls ⟨"Loop",[.ref 172],[.ref 261,.ref 172,.type "ValueError",.type "Exception",.type "BaseException",.type "object"],260,"Loop",true,[],[],false,none,false⟩,#[some (.ref 245),none,some (.str "Loop" 496),some (.str "Loop" 504),some (.builtin "ValueError.__new__"),some (.bool true)]⟩),
 (cF 276 "__init__" "Vast.__init__" 533 162 2 271 272 .none (.ref 273) (.ref 274) (.ref 275) 538 539),
 (fF 277 "__init__" "Vast.__init__" (jw p 28 0) m5),
 (279,⟨.type "dict",none,.dict #[dE P "__module__" 528 (.str "wright.errors" 385),dE P "__firstlineno__" 532 (.int (160) 531),dR P "__init__" 540 277,dR P "__static_attributes__" 542 278,dE P "__doc__" 543 (.none)] 2,#[]⟩),
 (280,⟨.type "type",none,.cls ⟨"Vast",[.ref 172],[.ref 280,.ref 172,.type "ValueError",.type "Exception",.type "BaseException",.type "object"],279,"Vast",true,[],[],false,none,false⟩,#[some (.ref 264),none,some (.str "Vast" 521),some (.str "Vast" 529),some (.builtin "ValueError.__new__"),some (.bool true)]⟩),
 (cF 286 "find_loop" "find_loop" 548 166 1 283 284 .none .none .none (.ref 285) 551 552),
 (fF 287 "find_loop" "find_loop" (top p 30) m6),
 (cF 291 "steps_with_like_rows" "steps_with_like_rows" 554 170 1 288 289 .none .none .none (.ref 290) 557 558),
 (fF 292 "steps_with_like_rows" "steps_with_like_rows" (top p 31) m6),
 (cF 298 "way_back" "way_back" 560 179 3 293 294 .none (.ref 295) (.ref 296) (.ref 297) 573 574),
 (fF 299 "way_back" "way_back" (top p 32) m6),
 (cF 303 "least_sizes" "least_sizes" 578 195 1 300 301 .none .none .none (.ref 302) 581 582),
 (fF 304 "least_sizes" "least_sizes" (top p 34) m7),
 (cF 310 "greatest_empty_sizes" "greatest_empty_sizes" 584 197 1 305 306 .none (.ref 307) (.ref 308) (.ref 309) 588 589),
 (fF 311 "greatest_empty_sizes" "greatest_empty_sizes" (top p 35) m7),
 (cF 315 "settled_sizes" "settled_sizes" 591 199 3 312 313 .none .none .none (.ref 314) 594 595),
 (fF 316 "settled_sizes" "settled_sizes" (top p 36) m7),
 (cF 320 "refuse_faults" "refuse_faults" 601 212 2 317 318 .none .none .none (.ref 319) 604 605),
 (fF 321 "refuse_faults" "refuse_faults" (top p 39) m8),
 (cF 327 "refuse_twice" "refuse_twice" 607 231 1 322 323 .none (.ref 324) (.ref 325) (.ref 326) 615 616),
 (fF 328 "refuse_twice" "refuse_twice" (top p 40) m8),
 (cF 332 "names_met" "names_met" 618 238 1 329 330 .none .none .none (.ref 331) 621 622),
 (fF 333 "names_met" "names_met" (top p 41) m8),
 (cF 337 "least_by_part" "least_by_part" 626 248 1 334 335 .none .none .none (.ref 336) 629 630),
 (fF 338 "least_by_part" "least_by_part" (top p 43) m9),
 (cF 342 "rule_size" "rule_size" 632 256 2 339 340 .none .none .none (.ref 341) 635 636),
 (fF 343 "rule_size" "rule_size" (top p 44) m9),
 (cF 347 "empty_by_name" "empty_by_name" 638 258 2 344 345 .none .none .none (.ref 346) 641 642),
 (fF 348 "empty_by_name" "empty_by_name" (top p 45) m9),
 (cF 359 "__init__" "LeastTrees.__init__" 656 265 3 356 357 .none .none .none (.ref 358) 659 660),
 (fF 360 "__init__" "LeastTrees.__init__" (jw p 46 0) m9),
 (cF 366 "least_of" "LeastTrees.least_of" 662 272 2 361 362 .none (.ref 363) (.ref 364) (.ref 365) 667 668),
 (fF 367 "least_of" "LeastTrees.least_of" (jw p 46 1) m9),
 (cF 373 "hollow_of" "LeastTrees.hollow_of" 670 275 2 368 369 .none (.ref 370) (.ref 371) (.ref 372) 675 676),
 (fF 374 "hollow_of" "LeastTrees.hollow_of" (jw p 46 2) m9),
 (cF 380 "begun_place" "LeastTrees.begun_place" 678 278 3 375 376 .none (.ref 377) (.ref 378) (.ref 379) 684 685),
 (fF 381 "begun_place" "LeastTrees.begun_place" (jw p 46 3) m9),
 (cF 387 "begun_of" "LeastTrees.begun_of" 687 281 4 382 383 .none (.ref 384) (.ref 385) (.ref 386) 694 695),
 (fF 388 "begun_of" "LeastTrees.begun_of" (jw p 46 4) m9),
 (390,⟨.type "dict",none,.dict #[dE P "__module__" 651 (.str "wright.least_trees" 624),dE P "__firstlineno__" 655 (.int (263) 654),dR P "__init__" 661 360,dR P "least_of" 669 367,dR P "hollow_of" 677 374,dR P "begun_place" 686 381,dR P "begun_of" 696 388,dR P "__static_attributes__" 702 389,dR P "__dict__" 704 392,dR P "__weakref__" 706 393,dE P "__doc__" 707 (.none)] 4,#[]⟩),
 (391,⟨.type "type",none,.cls ⟨"LeastTrees",[.type "object"],[.ref 391,.type "object"],390,"LeastTrees",true,[],[],false,none,false⟩,#[none,none,some (.str "LeastTrees" 644),some (.str "LeastTrees" 652),some (.builtin "object.__new__"),some (.bool true)]⟩),
 (392,⟨.type "getset_descriptor",none,.fields #[.str "__dict__" 703,.ref 391,.builtin "function.__dict__",.builtin "function.__dict__#set"],#[]⟩),
 (393,⟨.type "getset_descriptor",none,.fields #[.str "__weakref__" 705,.ref 391,.builtin "ExceptionGroup.__weakref__",.none],#[]⟩),
 (403,⟨.type "tuple",none,.seq #[.none] 0,#[]⟩),
 (cF 409 "__init__" "Grammar.__init__" 724 286 3 404 405 .none (.ref 406) (.ref 407) (.ref 408) 730 731),
 (410,⟨.type "function",none,.func (fnOf "__init__" "Grammar.__init__" (dU (jw p 48 0)) (cQ (jw p 48 0)) (ay (jw p 48 0)) (.ref 403) (.none) (.none) (.str "wright.grammars" 710) (none) (.ref 409) (.none)),#[]⟩),
 (cF 416 "start" "Grammar.start" 733 294 1 411 412 .none (.ref 413) (.ref 414) (.ref 415) 737 738),
 (fF 417 "start" "Grammar.start" (jw p 48 1) m10),
 (419,⟨.type "dict",none,.dict #[dE P "__module__" 719 (.str "wright.grammars" 710),dE P "__firstlineno__" 723 (.int (284) 722),dR P "__init__" 732 410,dR P "start" 739 417,dR P "__static_attributes__" 745 418,dR P "__dict__" 747 421,dR P "__weakref__" 749 422,dE P "__doc__" 750 (.none)] 4,#[]⟩),
 (420,⟨.type "type",none,.cls ⟨"Grammar",[.type "object"],[.ref 420,.type "object"],419,"Grammar",true,[],[],false,none,false⟩,#[none,none,some (.str "Grammar" 712),some (.str "Grammar" 720),some (.builtin "object.__new__"),some (.bool true)]⟩),
 (421,⟨.type "getset_descriptor",none,.fields #[.str "__dict__" 746,.ref 420,.builtin "function.__dict__",.builtin "function.__dict__#set"],#[]⟩),
 (422,⟨.type "getset_descriptor",none,.fields #[.str "__weakref__" 748,.ref 420,.builtin "ExceptionGroup.__weakref__",.none],#[]⟩),
 (cF 430 "_law_cell_at" "_law_cell_at" 755 297 2 425 426 .none (.ref 427) (.ref 428) (.ref 429) 760 761),
 (fF 431 "_law_cell_at" "_law_cell_at" (top p 50) l_),
 (cF 435 "_law_names" "_law_names" 763 301 1 432 433 .none .none .none (.ref 434) 766 767),
 (fF 436 "_law_names" "_law_names" (top p 51) l_),
 (cF 442 "_law_words" "_law_words" 769 307 1 437 438 .none (.ref 439) (.ref 440) (.ref 441) 773 774),
 (fF 443 "_law_words" "_law_words" (top p 52) l_),
 (cF 449 "_law_digits" "_law_digits" 776 309 3 444 445 .none (.ref 446) (.ref 447) (.ref 448) 785 786),
 (fF 450 "_law_digits" "_law_digits" (top p 53) l_),
 (cF 456 "_law_skeleton" "_law_skeleton" 788 320 4 451 452 .none (.ref 453) (.ref 454) (.ref 455) 799 800),
 (fF 457 "_law_skeleton" "_law_skeleton" (top p 54) l_),
 (cF 463 "_law_more" "_law_more" 802 331 5 458 459 .none (.ref 460) (.ref 461) (.ref 462) 815 816),
 (fF 464 "_law_more" "_law_more" (top p 55) l_),
 (cF 468 "_law_ended" "_law_ended" 818 341 2 465 466 .none .none .none (.ref 467) 821 822),
 (fF 469 "_law_ended" "_law_ended" (top p 56) l_),
 (cF 473 "_law_not_vast" "_law_not_vast" 824 350 2 470 471 .none .none .none (.ref 472) 827 828),
 (fF 474 "_law_not_vast" "_law_not_vast" (top p 57) l_),
 (cF 478 "_law_good" "_law_good" 830 363 1 475 476 .none .none .none (.ref 477) 833 834),
 (fF 479 "_law_good" "_law_good" (top p 58) l_),
 (cF 485 "_law_grammar" "_law_grammar" 836 385 2 480 481 .none (.ref 482) (.ref 483) (.ref 484) 847 848),
 (fF 486 "_law_grammar" "_law_grammar" (top p 59) l_),
 (cF 490 "_law_empty_stands" "_law_empty_stands" 850 398 2 487 488 .none .none .none (.ref 489) 853 854),
 (fF 491 "_law_empty_stands" "_law_empty_stands" (top p 60) l_),
 (cF 495 "_law_empty_lacks" "_law_empty_lacks" 856 407 2 492 493 .none .none .none (.ref 494) 859 860),
 (fF 496 "_law_empty_lacks" "_law_empty_lacks" (top p 61) l_),
 (cF 500 "_law_begin_stands" "_law_begin_stands" 862 413 3 497 498 .none .none .none (.ref 499) 865 866),
 (fF 501 "_law_begin_stands" "_law_begin_stands" (top p 62) l_),
 (cF 505 "_law_begin_lacks" "_law_begin_lacks" 868 431 3 502 503 .none .none .none (.ref 504) 871 872),
 (fF 506 "_law_begin_lacks" "_law_begin_lacks" (top p 63) l_),
 (cF 512 "_law_bent" "_law_bent" 874 444 3 507 508 .none (.ref 509) (.ref 510) (.ref 511) 884 885),
 (fF 513 "_law_bent" "_law_bent" (top p 64) l_),
 (cF 517 "law" "law" 887 466 1 514 515 .none .none .none (.ref 516) 890 891),
 (fF 518 "law" "law" (top p 65) l_)]
noncomputable def as:List Addr:=[2,3,20,21,25,26,30,31,35,36,42,43,49,50,56,57,61,62,66,67,71,72,76,77,81,82,88,89,95,96,100,101,107,108,119,120,126,127,133,134,140,141,147,148,154,155,157,158,159,160,171,172,173,184,185,200,201,203,204,219,220,222,223,238,239,241,242,257,258,260,261,276,277,279,280,286,287,291,292,298,299,303,304,310,311,315,316,320,321,327,328,332,333,337,338,342,343,347,348,359,360,366,367,373,374,380,381,387,388,390,391,392,393,403,409,410,416,417,419,420,421,422,430,431,435,436,442,443,449,450,456,457,463,464,468,469,473,474,478,479,485,486,490,491,495,496,500,501,505,506,512,513,517,518]
noncomputable def q' (p:Program):Program:=view p [0,2,3,4,5,6,7,9,10,11,12,13,15,16,18,19,20,22,23,24,25,26,27,28,30,31,32,34,35,36,38,39,40,41,43,44,45,46,48,50,51,52,53,54,55,56,57,58,59,60,61,62,63,64,65]
abbrev loose:List Str:=[]
abbrev steps:Nat:=4008
abbrev bound:Nat:=8996
abbrev CJ:OpenLaw:=rw_wright_k23_begins_checked
noncomputable abbrev K (P:Params):Frag:=K' pw_wright_k23_begins_checked P
theorem Rh (P:Params):as=(K P).map (·.1):=by kernel_rfl
noncomputable abbrev hook:Hook:=kmHook K as Rh [335,306,301]
def pre (h:CJ.row.wellSaid=true->CJ.row.Holds):CJ.Holds:=by
 o_law
 exact h (by assumption)
noncomputable abbrev Xt:Shared->Bool:=λs=>xlAt (q' pw_wright_k23_begins_checked) [] s && recOk (RowW.records (OpenRow.toRowW (OpenLaw.row rw_wright_k23_begins_checked))) s
def run (w:World)(os:OsState):(EU (stepT (denote treeTable) pw_wright_k23_begins_checked w) (stepOk 11 (some (.ref 6))) steps ⟨BQ w.params,11,{},Array.mk [],boot_drawn,boot_toks,os⟩ (topStub pw_wright_k23_begins_checked)).map
  (Ey (FO pw_wright_k23_begins_checked (q' pw_wright_k23_begins_checked) loose Xt (Hook.obs hook) true (boot_heap w.params)))=some (true,openGood (q' pw_wright_k23_begins_checked) loose,Hook.val hook w):=by
 rw [PySem.W.Fast.te10156331382660048174,PySem.W.Fast.te11892475500146522536,PySem.W.Fast.te14364793385576792824,PySem.W.Fast.te6613529449190102663,PySem.W.Fast.te17595544424943004215]
 kernel_rfl
theorem size (w:World):((boot_heap w.params).isNs mainGlobals && (Array.mk []:Array GenState).size == 0,(boot_heap w.params).objs.size,(boot_heap w.params).nsMap mainGlobals "__annotations__")=(true,11,some (.ref 6)):=by kernel_rfl
def Ff:∀w:World,(fencedOpening treeTable pw_wright_k23_begins_checked w bound).map (λs=>(s.heap,s.gens,s.drawn,s.toks))=some (boot_heap w.params,Array.mk [],boot_drawn,boot_toks) :=
 boot_open (nofun) nofun (λs=>by kernel_rfl)
def left:LeftO (OpenRow.toRowW CJ.row).prog (q' pw_wright_k23_begins_checked) loose Xt (Hook.obs hook) (Hook.val hook) bound:=PJ Ff size run nofun
noncomputable def kY:DefRec:={ name := "law",params:=dU (top pw_wright_k23_begins_checked 65),body:=cQ (top pw_wright_k23_begins_checked 65),scope:=ay (top pw_wright_k23_begins_checked 65),pos:=posOf (top pw_wright_k23_begins_checked 65) }
def ok1:defOf (q' pw_wright_k23_begins_checked) CJ.row.name=some (kY,[]):=by kernel_rfl
def ok2:CJ.row.prog.theDef CJ.row.name=some (kY.params,kY.body,kY.scope):=by kernel_rfl
def ok3:kwWritten? kY.params.kwonlyargs kY.params.kw_defaults=some []:=by kernel_rfl
def ok4:(chainsOk (q' pw_wright_k23_begins_checked) && opensWell CJ.row.prog && (frees CJ.row.toRowW && CJ.row.within.isEmpty))=true:=by kernel_rfl
def ok5:kY.params.defaults=[]:=by kernel_rfl
def hold (h:WalkO (q' pw_wright_k23_begins_checked) loose (XL (q' pw_wright_k23_begins_checked) []) (Hook.says hook) CJ.row.toRowW kY [] λf vs=>PySem.call f vs)(hw:CJ.row.toRowW.promised):CJ.Holds :=
 pre λTZ=>holds_open (q:=q' pw_wright_k23_begins_checked) (loose:=loose) (Xt:=Xt) (XP:=XL (q' pw_wright_k23_begins_checked) []) (Yf:=Hook.obs hook) (Ya:=Hook.val hook) (YP:=Hook.says hook) (N:=bound) left (Hook.of hook) (Hook.keeps hook) (λs e=>xl_of s (jo.mp e).1) XL.keeps ok1 ok2 ok3 (λs e=>recFacts_of (jo.mp e).2) rfl TZ ok4 ⟨rfl,rfl,rfl,rfl,rfl,nofun⟩ hw h
end HD
set_option maxHeartbeats 4000000
namespace L2
open PySem PySem.Spec PyProof.Rows
abbrev lW:=Nat->St->Hp->Prop
def GI {CX:yL}{P:Program}{w:World}{K:bp}{mg:Str->Option Value}{base:Heap}{N:List Str}{qual:Str}{scope:Scope}{f:Addr}{cd:Value}{A:Around}{outer:List Env}{s:Shared}{H:Hp}{E:XK}:(pC CX P w K mg base N qual scope f cd A outer s H E).CC.K=K:=rfl
def UT {t:TS}{D:Ends}{σ:St}{H:Hp}(h:let E:=D;t E σ H):t D σ H:=h
def UR {t u:TS}{D:Ends}{σ:St}{H:Hp}(h:let E:={ D with nx:=u D };t E σ H):K8 t u D σ H:=h
def PH {t u:TS}{D:Ends}{σ:St}{H:Hp}(h:let E:=D;let F:={ E with nx:=u E };t F σ H):K8 t u D σ H:=h
def US {g:TG}{x:V}{σ:St}{H:Hp}{t:TS}{D:Ends}(h:let E:=D;g x σ H λσ2 H2=>t E σ2 H2):g x σ H λσ2 H2=>t D σ2 H2:=h
end L2
local macro_rules | `(tactic| nofun) => `(tactic| (dsimp only [L2.GI];refine L2.UR ?_;intro _))
local macro_rules | `(tactic| ac_rfl) => `(tactic| (refine L2.PH ?_;intro _ _))
local macro_rules | `(tactic| ac_nf0) => `(tactic| (refine L2.US ?_;intro _))
local macro_rules | `(tactic| ac_nf) => `(tactic| (refine L2.UT ?_;intro _))
namespace L2
open PySem PySem.Spec PyProof.Rows
section
variable {κ:Type} [DecidableEq κ]
noncomputable def bh (kvs:List (κ×V))(k:κ):Option V:=(kvs.find? λkv=>decide (kv.1=k)).map (·.2)
noncomputable def bM (kvs:List (κ×V))(k:κ)(v:V):List (κ×V) :=
 if (kvs.any λkv=>decide (kv.1=k))=true then kvs.map (λkv=>if kv.1=k then (kv.1,v) else kv) else kvs++[(k,v)]
noncomputable def KD (kvs:List (κ×V))(k:κ):List (κ×V):=kvs.filter λkv=>decide (kv.1≠k)
def eQ {p:κ×V}{r:List (κ×V)}{k:κ}(e:p.1=k):bh (p::r) k=some p.2:=by simp [bh,oH,e]
def eU {p:κ×V}{r:List (κ×V)}{k:κ}(e:¬p.1=k):bh (p::r) k=bh r k:=by simp [bh,oH,e]
theorem jq (k:κ):∀kvs:List (κ×V),(kvs.any λkv=>decide (kv.1=k))=(bh kvs k).isSome
 | []=>rfl
 | p::r=>by
  rw [oC];by_cases e:p.1=k
  .simp only [eQ e,cf e,Bool.true_or,Option.isSome_some]
  rw [eU e,d0 e,qK];exact jq k r
theorem xi (k j:κ)(y:V):∀kvs:List (κ×V),bh (kvs.map λkv=>if kv.1=k then (kv.1,y) else kv) j=(bh kvs j).map λx=>if j=k then y else x
 | []=>rfl
 | p::r=>by
  have ih:=xi k j y r;rw [cE];by_cases h:p.1=k
  .rw [ax h];by_cases e:p.1=j
   .rw [eQ (p:=(p.1,y)) e,eQ e,qN,ax (e.symm.trans h)]
   rw [eU (p:=(p.1,y)) e,eU e,ih]
  rw [az h];by_cases e:p.1=j
  .rw [eQ (p:=p) e,eQ e,qN,az (λz=>h (e.trans z))]
  rw [eU (p:=p) e,eU e,ih]
theorem ua (k j:κ)(y:V):∀kvs:List (κ×V),bh kvs k=none->bh (kvs++[(k,y)]) j=if j=k then some y else bh kvs j
 | [],_=>by
  by_cases e:k=j
  .rw [ax e.symm];exact eQ (p:=(k,y)) e
  rw [az (λz=>e z.symm)];exact eU (p:=(k,y)) e
 | p::r,hn=>by
  rw [List.cons_append];have hk:¬p.1=k:=λz=>by rw [eQ z] at hn;cases hn
  rw [eU hk] at hn;have ih:=ua k j y r hn;by_cases e:p.1=j
  .rw [eQ e,eQ e,az (λz=>hk (e.trans z))]
  rw [eU e,eU e,ih]
def q_ (kvs:List (κ×V))(k j:κ)(y:V):bh (bM kvs k y) j=if j=k then some y else bh kvs j:=by
 unfold bM;by_cases a:(kvs.any λkv=>decide (kv.1=k))=true
 .rw [ax a,xi];rw [jq] at a;by_cases e:j=k
  .obtain⟨x,hx⟩:=ng.mp a;rw [ax e,e,hx,qN,ax rfl]
  rw [az e];cases bh kvs j with
  | none=>rfl
  | some x=>rw [qN,az e]
 rw [az a];refine ua k j y kvs ?_;rw [jq] at a;cases q:bh kvs k with
 | none=>rfl
 | some x=>rw [q] at a;exact(a rfl).elim
def fQ (kvs:List (κ×V))(k:κ)(v:V):(bM kvs k v).length<=kvs.length+1:=by
 unfold bM
 split
 .rw [au];omega
 rw [bW,fc,jl];omega
def rK {kvs:List (κ×V)}{k:κ}(v:V)(h:bh kvs k=none):bM kvs k v=kvs++[(k,v)]:=by
 unfold bM;rw [jq,h];exact az nofun
def j5.jz {o:Option V}{u:Option Value}(r:j5 o u):o.isSome=u.isSome:=by
 cases o with
 | none=>cases u with
  | none=>rfl
  | some _=>exact(show False from r).elim
 | some _=>cases u with
  | none=>exact(show False from r).elim
  | some _=>rfl
theorem j5.getD {o:Option V}{u:Option Value}{d:V}{d':Value}(r:j5 o u)(rd:RelV d d'):RelV (o.getD d) (u.getD d'):=by
 cases o with
 | none=>cases u with
  | none=>exact rd
  | some _=>exact(show False from r).elim
 | some _=>cases u with
  | none=>exact(show False from r).elim
  | some _=>exact r
def KV.val {kvs:List (κ×V)}{vs:List (κ×Value)}(r:KV kvs vs)(k:κ):j5 (bh kvs k) (valueAt vs k):=by
 unfold KV at r
 induction r with
 | nil=>exact True.intro
 | @cons p q ps qs h t ih =>
  obtain⟨h1,h2⟩:=h;by_cases e:p.1=k
  .have e':q.1=k:=h1.symm.trans e;have b:valueAt (q::qs) k=some q.2:=by simp [valueAt,oH,e']
   rw [eQ e,b];exact h2
  have e':¬q.1=k:=λz=>e (h1.trans z);have b:valueAt (q::qs) k=valueAt qs k:=by simp [valueAt,oH,e']
  rw [eU e,b];exact ih
theorem KV.any {kvs:List (κ×V)}{vs:List (κ×Value)}(r:KV kvs vs)(k:κ):(kvs.any λkv=>decide (kv.1=k))=vs.any λkv=>decide (kv.1=k):=by
 unfold KV at r
 induction r with
 | nil=>rfl
 | cons h t ih=>rw [oC,oC,ih,h.1]
def KV.Lz {kvs:List (κ×V)}{vs:List (κ×Value)}(r:KV kvs vs)(k:κ){y:V}{u:Value}(ry:RelV y u) :
  KV (kvs.map λkv=>if kv.1=k then (kv.1,y) else kv) (vs.map λkv=>if kv.1=k then (kv.1,u) else kv):=by
 unfold KV at r ⊢
 induction r with
 | nil=>exact .nil
 | @cons p q ps qs h t ih =>
  rw [cE,cE];refine .cons ?_ ih;obtain⟨h1,h2⟩:=h;by_cases e:p.1=k
  .rw [ax e,ax (h1.symm.trans e)];exact⟨h1,ry⟩
  rw [az e,az (λz=>e (h1.trans z))];exact⟨h1,h2⟩
def KV.put {kvs:List (κ×V)}{vs:List (κ×Value)}(r:KV kvs vs)(k:κ){y:V}{u:Value}(ry:RelV y u):KV (bM kvs k y) (stored vs k u):=by
 unfold bM stored;rw [r.any k];by_cases e:(vs.any λkv=>decide (kv.1=k))=true
 .rw [ax e,ax e];exact r.Lz k ry
 rw [az e,az e];exact gF r ⟨rfl,ry⟩
def KV.drop {kvs:List (κ×V)}{vs:List (κ×Value)}(r:KV kvs vs)(k:κ):KV (KD kvs k) (without vs k):=by
 unfold KV at r ⊢;unfold KD without
 induction r with
 | nil=>exact .nil
 | @cons p q ps qs h t ih =>
  obtain⟨h1,h2⟩:=h;rw [oI,oI];by_cases e:p.1=k
  .have a:¬decide (p.1≠k)=true:=by simp [e]
   have b:¬decide (q.1≠k)=true:=by simp [h1.symm.trans e]
   rw [az a,az b];exact ih
  have e':¬q.1=k:=λz=>e (h1.trans z);have a:decide (p.1≠k)=true:=by simp [e]
  have b:decide (q.1≠k)=true:=by simp [e']
  rw [ax a,ax b];exact .cons ⟨h1,h2⟩ ih
def KV.keys {kvs:List (κ×V)}{vs:List (κ×Value)}(r:KV kvs vs):kvs.map (·.1)=vs.map (·.1):=by
 unfold KV at r
 induction r with
 | nil=>rfl
 | cons h t ih=>rw [cE,cE,ih,h.1]
theorem KV.length {kvs:List (κ×V)}{vs:List (κ×Value)}(r:KV kvs vs):kvs.length=vs.length:=bc r
end
def mf {P:Program}{w:World}{k:aT}{u:Value}(r:RelV (kV k) u):(bB P w).is k u=true:=by
 cases k with
 | inl i=>obtain⟨t,e⟩:=(show ∃t,u=Value.int i t from r);subst e;exact xQ P w i t
 | inr x=>obtain⟨t,e⟩:=(show ∃t,u=Value.str x t from r);subst e;exact xP P w x t
theorem uC {P:Program}{w:World}:∀{ks:List aT}{us:List Value},bw (ks.map kV) us->ItemsAre (bB P w) ks us
 | [],_,r=>by rw [mj] at r;cases r;exact .nil
 | k::ks,_,r=>by
  rw [cE] at r;cases r with
  | cons h t=>exact .cons (mf h) (uC t)
abbrev KT (H:Hp):List (List aT×V)->List (List aT×Addr×Value)->Prop:=Paired λp q=>p.1=q.1/\H q.2.1=some (.tup (p.1.map kV))/\RelV p.2 q.2.2
def KT.val {H:Hp}{kvs:List (List aT×V)}{xs:List (List aT×Addr×Value)}(r:KT H kvs xs)(k:List aT):j5 (bh kvs k) ((atKey xs k).map (·.2)):=by
 induction r with
 | nil=>exact True.intro
 | @cons p q ps qs h t ih =>
  obtain⟨h1,_,h2⟩:=h;by_cases e:p.1=k
  .have e':q.1=k:=h1.symm.trans e;have b:atKey (q::qs) k=some q.2:=by simp [atKey,oH,e']
   rw [eQ e,b];exact h2
  have e':¬q.1=k:=λz=>e (h1.trans z);have b:atKey (q::qs) k=atKey qs k:=by simp [atKey,oH,e']
  rw [eU e,b];exact ih
def KT.Lz {H:Hp}{kvs:List (List aT×V)}{xs:List (List aT×Addr×Value)}(r:KT H kvs xs)(k:List aT){y:V}{u:Value}(ry:RelV y u) :
  KT H (kvs.map λkv=>if kv.1=k then (kv.1,y) else kv) (xs.map (putAt k u)):=by
 induction r with
 | nil=>exact .nil
 | @cons p q ps qs h t ih =>
  rw [cE,cE];refine .cons ?_ ih;obtain⟨h1,h2,h3⟩:=h;unfold putAt;by_cases e:p.1=k
  .rw [ax e,ax (h1.symm.trans e)];exact⟨h1,h2,ry⟩
  rw [az e,az (λz=>e (h1.trans z))];exact⟨h1,h2,h3⟩
def KT.put {H:Hp}{kvs:List (List aT×V)}{xs:List (List aT×Addr×Value)}(r:KT H kvs xs)(k:List aT){b:Addr}{y:V}{u:Value}(hb:H b=some (.tup (k.map kV)))(ry:RelV y u) :
  KT H (bM kvs k y) (storedH xs k b u):=by
 have e:(kvs.any λkv=>decide (kv.1=k))=(atKey xs k).isSome:=by
  rw [jq,(r.val k).jz,pH]
 unfold bM storedH;rw [e];by_cases q:(atKey xs k).isSome=true
 .rw [ax q,ax q];exact r.Lz k ry
 rw [az q,az q];exact gF r ⟨rfl,hb,ry⟩
def KT.keeps {H H':Hp}{kvs:List (List aT×V)}{xs:List (List aT×Addr×Value)}(r:KT H kvs xs)(ht:∀b ys,H b=some (.tup ys)->H' b=some (.tup ys)):KT H' kvs xs :=
 Paired.dH r λ_ _ z=>⟨z.1,ht _ _ z.2.1,z.2.2⟩
section
variable {P:Program}{w:World}{H:Hp}{h:Heap}{a:Addr}
def J2 {u:HO}(ok:mi P w H h)(e:Rd H a u):cW P w H h a u:=e.ok ok
def oj {kvs:List (aT×V)}(ok:mi P w H h)(e:Rd H a (.dK kvs)):kvs.length<=sizeLine/\(a == sysModules)=false/\∃vs,KV kvs vs/\h.DictOf (bB P w) a vs :=
 show cW P w H h a (.dK kvs) from J2 ok e
def yd {kvs:List (aT×V)}(ok:mi P w H h)(e:H a=some (.dK kvs)):kvs.length<=sizeLine/\(a == sysModules)=false/\∃vs,KV kvs vs/\h.DictOf (bB P w) a vs:=oj ok (.inl e)
def mP {ks:List aT}(ok:mi P w H h)(e:H a=some (.tup (ks.map kV))):(tupleKind (bB P w)).is h ks a:=by
 obtain⟨_,aW,r,o,h1,h2,n,h3⟩:=(show cW P w H h a (.tup (ks.map kV)) from ok a _ e);exact⟨o,aW.toArray,n,h1,h2,h3,by simpa using uC r⟩
def sL {kvs:List (List aT×V)}(ok:mi P w H h)(e:Rd H a (.dT kvs)):kvs.length<=sizeLine/\(a == sysModules)=false /\
  ∃xs,KT H kvs xs/\h.DictOfH (tupleKind (bB P w)) a xs:=by
 obtain⟨z,y,xs,r,o,es,ep,h1,h2,h3,h4,h5⟩:=(show cW P w H h a (.dT kvs) from J2 ok e);refine⟨z,y,xs,r,o,es,ep,h1,h2,h3,h4,λx hx=>?_,h5⟩;have all:∀{l:List (List aT×V)}{m:List (List aT×Addr×Value)},KT H l m->∀x∈m,(tupleKind (bB P w)).is h x.1 x.2.1:=by
  intro l m q
  induction q with
  | nil=>intro x hx;exact nomatch hx
  | @cons p q ps qs hq t ih =>
   intro x hx;rcases b8.mp hx with e | hx
   .subst e;exact mP ok (by rw [<-hq.1];exact hq.2.1)
   exact ih x hx
 exact all r x hx
def Q7 {kvs:List (List aT×V)}(ok:mi P w H h)(e:H a=some (.dT kvs)):kvs.length<=sizeLine/\(a == sysModules)=false /\
  ∃xs,KT H kvs xs/\h.DictOfH (tupleKind (bB P w)) a xs:=sL ok (.inl e)
end
def b0 (H:Hp)(a:Addr)(y:V)(r:Option V):Prop :=
 (∃kvs k,Rd H a (.dK kvs)/\y=kV k/\r=bh kvs k)\/∃kvs k b,Rd H a (.dT kvs)/\y=.ref b/\H b=some (.tup (k.map kV))/\r=bh kvs k
def j6 (H:Hp)(a:Addr)(y v:V)(H':Hp):Prop :=
 (∃kvs k,H a=some (.dK kvs)/\y=kV k/\kvs.length < sizeLine/\H'=upd H a (.dK (bM kvs k v))) \/
 ∃kvs k b,H a=some (.dT kvs)/\y=.ref b/\H b=some (.tup (k.map kV))/\kvs.length < sizeLine/\H'=upd H a (.dT (bM kvs k v))
theorem b0.k {H:Hp}{a:Addr}{kvs:List (aT×V)}{k:aT}(e:H a=some (.dK kvs)):b0 H a (kV k) (bh kvs k):=.inl ⟨kvs,k,.inl e,rfl,rfl⟩
def b0.t {H:Hp}{a b:Addr}{kvs:List (List aT×V)}{k:List aT}(e:H a=some (.dT kvs))(eb:H b=some (.tup (k.map kV))):b0 H a (.ref b) (bh kvs k):=.inr ⟨kvs,k,b,.inl e,rfl,eb,rfl⟩
theorem j6.k {H:Hp}{a:Addr}{kvs:List (aT×V)}{k:aT}{v:V}(e:H a=some (.dK kvs))(hl:kvs.length < sizeLine):j6 H a (kV k) v (upd H a (.dK (bM kvs k v))):=.inl ⟨kvs,k,e,rfl,hl,rfl⟩
def j6.t {H:Hp}{a b:Addr}{kvs:List (List aT×V)}{k:List aT}{v:V}(e:H a=some (.dT kvs))(eb:H b=some (.tup (k.map kV)))(hl:kvs.length < sizeLine) :
  j6 H a (.ref b) v (upd H a (.dT (bM kvs k v))):=.inr ⟨kvs,k,b,e,rfl,eb,hl,rfl⟩
section
variable {X:Cx}{aj:List (Addr×Obj)}{σ:St}{H:Hp}{s:Shared}{a:Addr}{y v:V}{u r:Value}{o:Option V}{A:Around}{E:Value->Shared->Prop}
def Inv.big (I:Inv X aj σ H s):sysModules < s.heap.objs.size:=by
 have h:mainGlobals < s.heap.objs.size:=(I.mod.glob.keeps I.bk).lt;exact kx nofun h
def C8 {Q:Value->Shared->Prop}(hu:A.units+1 < cLine)(I:Inv X aj σ H s)(g:b0 H a y (some v))(ry:RelV y u)(h:∀w' s',Inv X aj σ H s'->RelV v w'->Q w' s') :
  wpAny (model X.prog X.w) A (getItem (.ref a) u) Q E s:=by
 rcases g with ⟨kvs,k,e,ey,l⟩ | ⟨kvs,k,b,e,ey,eb,l⟩
 .subst ey;obtain⟨z,hd,vs,rel,dd⟩:=oj I.cC e;obtain⟨w',hw,zD⟩:=j5.some_of (v:=v) (o:=valueAt vs k) (by rw [l];exact rel.val k);exact wpAny_getItem_of (mf ry) dd.mapOf hw (h w' _ (I.tok _) zD)
 subst ey;cases (show u=Value.ref b from ry);obtain⟨z,hd,xs,rel,dd⟩:=sL I.cC e;obtain⟨w',hw,zD⟩:=j5.some_of (v:=v) (o:=(atKey xs k).map (·.2)) (by rw [l];exact rel.val k);obtain⟨p,hp,ou⟩:=b_.mp hw;refine wpAny_getItem_heap (oM hu) (mP I.cC eb) dd hp ?_;rw [ou];exact h w' _ (I.tok _) zD
def WJ {Q:Value->Shared->Prop}(hu:A.units+1 < cLine)(I:Inv X aj σ H s)(g:b0 H a y o)(ry:RelV y u)(h:∀s',Inv X aj σ H s'->Q (.bool o.isSome) s') :
  wpAny (model X.prog X.w) A (compareOp .In u (.ref a)) Q E s:=by
 rcases g with ⟨kvs,k,e,ey,l⟩ | ⟨kvs,k,b,e,ey,eb,l⟩
 .subst ey;obtain⟨z,hd,vs,rel,dd⟩:=oj I.cC e;refine wpAny_in_of (mf ry) hd dd.mapOf ?_;rw [<-(rel.val k).jz,<-l];exact h _ (I.tok _)
 subst ey;cases (show u=Value.ref b from ry);obtain⟨z,hd,xs,rel,dd⟩:=sL I.cC e;refine wpAny_in_heap (oM hu) (mP I.cC eb) hd dd ?_;have q:=(rel.val k).jz;rw [pH] at q;rw [<-q,<-l];exact h _ (I.tok _)
def Jz {Q:Value->Shared->Prop}(hu:A.units+1 < cLine)(I:Inv X aj σ H s)(g:b0 H a y o)(ry:RelV y u)(h:∀s',Inv X aj σ H s'->Q (.bool (!o.isSome)) s') :
  wpAny (model X.prog X.w) A (compareOp .NotIn u (.ref a)) Q E s:=by
 rcases g with ⟨kvs,k,e,ey,l⟩ | ⟨kvs,k,b,e,ey,eb,l⟩
 .subst ey;obtain⟨z,hd,vs,rel,dd⟩:=oj I.cC e;refine wpAny_notIn_of (mf ry) hd dd.mapOf ?_;rw [<-(rel.val k).jz,<-l];exact h _ (I.tok _)
 subst ey;cases (show u=Value.ref b from ry);obtain⟨z,hd,xs,rel,dd⟩:=sL I.cC e;refine wpAny_notIn_heap (oM hu) (mP I.cC eb) hd dd ?_;have q:=(rel.val k).jz;rw [pH] at q;rw [<-q,<-l];exact h _ (I.tok _)
def qA {h':Heap}{t':Nat}{ob:HO}(I:Inv X aj σ H s)(mu:Ru (H a))(hs:Heap.SameBut a s.heap h')(he:∃q,h'.get? a=some q)(new:cW X.prog X.w (upd H a ob) h' a ob) :
  Inv X aj σ (upd H a ob) { s with heap:=h',toks:=t' } :=
 I.write (x:=a) (e:=a) mu (.inl rfl) (λb q hb z=>(hs.2 b hb).trans z) he new
def sM {P:Program}{w:World}{H':Hp}{h':Heap}{kvs:List (aT×V)}{vs:List (aT×Value)}(z:kvs.length<=sizeLine)(hd:(a == sysModules)=false)(rel:KV kvs vs)(dd:h'.DictOf (bB P w) a vs) :
  cW P w H' h' a (.dK kvs):=⟨z,hd,vs,rel,dd⟩
def C7 {H':Hp}{Q:Unit->Shared->Prop}(hu:A.units+1 < cLine)(I:Inv X aj σ H s)(g:j6 H a y v H')(ry:RelV y u)(rv:RelV v r)(h:∀s',Inv X aj σ H' s'->Q () s') :
  wpAny (model X.prog X.w) A (setItem (.ref a) u r) Q E s:=by
 rcases g with ⟨kvs,k,e,ey,l,eH⟩ | ⟨kvs,k,b,e,ey,eb,l,eH⟩
 .subst ey eH;obtain⟨z,hd,vs,rel,dd⟩:=yd I.cC e;have hz:vs.length<=sizeLine:=by rw [<-rel.length];exact z
  have hl:(bM kvs k v).length<=sizeLine:=by have:=fQ kvs k v;omega
  refine wpAny_setItem_pairs (hsz:=hz) (mf ry) dd λh' HU hs=>h _ ?_;have he:∃q,h'.get? a=some q:=let ⟨q,_,_,hq,_⟩:=HU;⟨q,hq⟩;exact qA I (by rw [e];exact True.intro) hs he (sM hl hd (rel.put k rv) HU)
 subst ey eH;cases (show u=Value.ref b from ry);obtain⟨z,hd,xs,rel,dd⟩:=Q7 I.cC e;have hz:xs.length<=sizeLine:=by rw [<-bc rel];exact z
 have hl:(bM kvs k v).length<=sizeLine:=by have:=fQ kvs k v;omega
 refine wpAny_setItem_heap (hsz:=hz) (oM hu) (mP I.cC eb) dd λh' HU hs=>h _ ?_;obtain⟨q,es,ep,hq,h2,h3,h4,_,h5⟩:=HU;refine qA I (by rw [e];exact True.intro) hs ⟨q,hq⟩ ⟨hl,hd,_,(rel.put k eb rv).keeps λc ys ec=>?_,q,es,ep,hq,h2,h3,h4,h5⟩;rw [ak (Pp ec e (λz=>nomatch z))];exact ec
end
section
variable {X:Cx}{aj:List (Addr×Obj)}{σ:St}{H:Hp}{s:Shared}{a:Addr}{kvs:List (aT×V)}{k:aT}{u:Value}{A:Around}{E:Value->Shared->Prop}
def Q9 {Q:Value->Shared->Prop}(I:Inv X aj σ H s)(e:Rd H a (.dK kvs))(h:∀t s',Inv X aj σ H s'->Q (.int kvs.length t) s'):wpAny (model X.prog X.w) A (call (.builtin "len") [.ref a]) Q E s:=by
 obtain⟨z,hd,vs,rel,dd⟩:=oj I.cC e;refine call_len_dict hd dd (by rw [<-rel.length];rw [sizeLine_eq] at z;omega) ?_;rw [<-rel.length];exact h _ _ (I.tok _)
end
def Rr (i:Expr):Prop:=∀ov iv,subscripted i false ov iv=operate [ov,iv] (getItem ov iv)
def A0 {prog:Program}{w:World}{A:Around}{E:Value->Shared->Prop}{s:Shared}{env:Env}{value slice:Expr}{pos:Pos}{T id:String}{Q:Value->Shared->Prop}
  (hl:typeLookup (.type T) "__getitem__"=pure (some (.builtin id)))(hs:Rr slice)
  (h:wpAny (model prog w) A (eval value env) (λo s₁=>wpAny (model prog w) A (eval slice env) (λi s₂=>s₂.TypeIs o T/\wpAny (model prog w) A (getItem o i) Q E s₂) E s₁) E s) :
  wpAny (model prog w) A (eval (.Subscript value slice pos) env) Q E s:=by
 refine Subscript_ (dY h (λo s₁ h₁=>dY h₁ (λi s₂ h₂=>?_) λ_ _ x=>x) λ_ _ x=>x);obtain⟨hT,h₂⟩:=h₂;unfold subscriptTail;refine aN ?_;rw [getitemInPython_of_ne hT.not_modules];refine aN (wpAny_specialOf hT hl ?_);have fin:wpAny (model prog w) A (subscripted slice false o i) (λr s₃=>wpAny (model prog w) A (letTemporaryGo value o r >>= λ_=>pure r) Q E s₃) E s₂:=by
  rw [hs o i];exact wpAny_operating (dY h₂ (λr s₃ h₃=>aN (wpAny_letTemporaryGo (ba h₃))) λ_ _ x=>x)
 first
  | exact ba (aN fin)
  | exact aN (ba (aN fin))
  | exact aN fin
def yf {X:Cx}{aj:List (Addr×Obj)}{σ:St}{H:Hp}{s:Shared}{a:Addr}{y:V}{o:Option V}(I:Inv X aj σ H s)(g:b0 H a y o):s.TypeIs (.ref a) "dict" := by
 rcases g with ⟨kvs,k,e,_,_⟩ | ⟨kvs,k,b,e,_,_,_⟩
 .obtain⟨_,_,vs,_,dd⟩:=oj I.cC e;exact dd.typeIs
 obtain⟨_,_,xs,_,dd⟩:=sL I.cC e;exact dd.typeIs
inductive XDp (x:V)(S:Addr->Hp->Prop)(R:Hp->Prop):Prop
|mk(a:Addr)(H4:Hp)(e:x=.ref a)(s:S a H4)(q:R H4)
inductive XDo (S:Option V->Prop)(R:Option V->Prop):Prop
|mk(o:Option V)(s:S o)(q:R o)
inductive XDg (x:V)(S:Addr->V->Prop)(R:V->Prop):Prop
|mk(a:Addr)(v:V)(e:x=.ref a)(s:S a v)(q:R v)
inductive Xo (x:V)(S:Addr->Option V->Prop)(R:Option V->Prop):Prop
|mk(a:Addr)(o:Option V)(e:x=.ref a)(s:S a o)(q:R o)
def AW (td ty:TE):TE:=λσ H Q=>td σ H λx H1=>ty σ H1 λy H2=>XDg x (λa v=>b0 H2 a y (some v)) λv=>Q v H2
def OP (ty td:TE):TE:=λσ H Q=>ty σ H λy H1=>td σ H1 λx H2=>Xo x (λa o=>b0 H2 a y o) λo=>Q (.bl o.isSome) H2
def AV (ty td:TE):TE:=λσ H Q=>ty σ H λy H1=>td σ H1 λx H2=>Xo x (λa o=>b0 H2 a y o) λo=>Q (.bl (!o.isSome)) H2
def O0 (td ty tv:TE):TS:=λD σ H=>tv σ H λv H1=>td σ H1 λx H2=>ty σ H2 λy H3=>XDp x (λa H4=>j6 H3 a y v H4) λH4=>D.nx σ H4
section
variable {X:Cx}{o i e value:Expr}{pos pos' vB:Pos}{td ty tv:TE}
def eP (hu:X.A.units+1 < cLine)(ho:PE X o td)(hi:PE X i ty)(hs:Rr i):PE X (.Subscript o i pos) (AW td ty):=by
 intro aj s σ H Q I h;refine A0 PySem.F.slot_dict_getitem.lookup hs (dC (ho aj s σ H _ I h) λu s1 bN=>?_);obtain⟨x,H1,I1,rx,q1⟩:=bN;refine dC (hi aj s1 σ H1 _ I1 q1) λiv s2 bN=>?_;obtain⟨y,H2,I2,ry,a,v,ex,g,q2⟩:=bN;subst ex;obtain rfl:u=Value.ref a:=rx;exact⟨yf I2 g,C8 hu I2 g ry λw' s3 I3 zD=>⟨v,H2,I3,zD,q2⟩⟩
def gW (hu:X.A.units+1 < cLine)(hi:PE X i ty)(ho:PE X o td):PC X .In i o (OP ty td):=by
 intro aj s σ H Q I h;refine dC (hi aj s σ H _ I h) λiv s1 bN=>?_;obtain⟨y,H1,I1,ry,q1⟩:=bN;refine dC (ho aj s1 σ H1 _ I1 q1) λu s2 bN=>?_;obtain⟨x,H2,I2,rx,a,ov,ex,g,q2⟩:=bN;subst ex;obtain rfl:u=Value.ref a:=rx;exact WJ hu I2 g ry λs3 I3=>⟨.bl ov.isSome,H2,I3,rfl,q2⟩
def df (hu:X.A.units+1 < cLine)(hi:PE X i ty)(ho:PE X o td):PC X .NotIn i o (AV ty td):=by
 intro aj s σ H Q I h;refine dC (hi aj s σ H _ I h) λiv s1 bN=>?_;obtain⟨y,H1,I1,ry,q1⟩:=bN;refine dC (ho aj s1 σ H1 _ I1 q1) λu s2 bN=>?_;obtain⟨x,H2,I2,rx,a,ov,ex,g,q2⟩:=bN;subst ex;obtain rfl:u=Value.ref a:=rx;exact Jz hu I2 g ry λs3 I3=>⟨.bl (!ov.isSome),H2,I3,rfl,q2⟩
def fV (hu:X.A.units+1 < cLine)(ho:PE X o td)(hi:PE X i ty)(hv:PE X value tv)(hs:swapsWith value (some (.Subscript o i pos')) pos.line X.env=pure false) :
  PS X (.Assign [.Subscript o i pos'] value pos) (O0 td ty tv):=by
 intro aj s σ H D I h;refine wpAny_Assign_Subscript (dC (hv aj s σ H _ I h) λr s1 bN=>?_) hs;obtain⟨v,H1,I1,rv,q1⟩:=bN;refine dC (ho aj s1 σ H1 _ I1 q1) λu s2 bN=>?_;obtain⟨x,H2,I2,rx,q2⟩:=bN;refine dC (hi aj s2 σ H2 _ I2 q2) λiv s3 bN=>?_;obtain⟨y,H3,I3,ry,a,H4,ex,g,q3⟩:=bN;subst ex;obtain rfl:u=Value.ref a:=rx;exact C7 hu I3 g ry rv λs4 I4=>⟨σ,H4,I4,q3⟩
end
def ye {P:Program}{w:World}{H:Hp}(h:Heap)(hb:sysModules < h.objs.size):cW P w H (h.push { cls:=.type "dict",data:=.dict #[] }) h.objs.size (.dK []) :=
 ⟨gG _,jn.mpr (fO (cu hb)),[],.nil,Heap.DictOf.new h⟩
def Gy {P:Program}{w:World}{H:Hp}(h:Heap)(hb:sysModules < h.objs.size):cW P w H (h.push { cls:=.type "dict",data:=.dict #[] }) h.objs.size (.dT []) :=
 ⟨gG _,jn.mpr (fO (cu hb)),[],.nil,_,#[],0,d8 _ rfl,⟨rfl,rfl,rfl⟩,rfl,rfl,iZ⟩
def Ec:TE:=λ_ H Q=>∀p,H p=none->Q (.ref p) (upd H p (.dK []))
def La:TE:=λ_ H Q=>∀p,H p=none->Q (.ref p) (upd H p (.dT []))
section
variable {X:Cx}{pos:Pos}
def fk:PE X (.Dict [] [] pos) Ec:=λaj s σ H Q I h =>
 wpAny_Dict_empty ⟨.ref s.heap.objs.size,_,I.laid (a:=s.heap.objs.size) (o:=.dK []) (t':=s.toks) (λ_ _ q=>cJ _ q) (aU _) (ye s.heap I.big),rfl,h _ (I.cC.fresh (aU _))⟩
def Fc:PE X (.Dict [] [] pos) La:=λaj s σ H Q I h =>
 wpAny_Dict_empty ⟨.ref s.heap.objs.size,_,I.laid (a:=s.heap.objs.size) (o:=.dT []) (t':=s.toks) (λ_ _ q=>cJ _ q) (aU _) (Gy s.heap I.big),rfl,h _ (I.cC.fresh (aU _))⟩
end
def y_:List (TE×TE)->St->Hp->(List (V×V)->Hp->Prop)->Prop
 | [],_,H,Q=>Q [] H
 | (tk,tv)::r,σ,H,Q=>tk σ H λx H1=>tv σ H1 λy H2=>y_ r σ H2 λps H3=>Q ((x,y)::ps) H3
abbrev VV:List (V×V)->List (Value×Value)->Prop:=Paired λp q=>RelV p.1 q.1/\RelV p.2 q.2
def SY (X:Cx)(pos:Pos)(keys:List (Option Expr))(values:List Expr)(Ij:List (TE×TE)):Prop :=
 ∀(aj:List (Addr×Obj))(s:Shared)(σ:St)(H:Hp)(Q:List (V×V)->Hp->Prop),Inv X aj σ H s->y_ Ij σ H Q ->
  wpAny (model X.prog X.w) X.A (evalPairs (pairTrees keys values X.env pos)) (λvs s'=>∃ps H',Inv X aj σ H' s'/\VV ps vs/\Q ps H') X.xe s
def IA {X:Cx}{pos:Pos}:SY X pos [] [] []:=λaj s σ H Q I h=>pairTrees_nil_walk ⟨[],H,I,.nil,h⟩
def E7 {X:Cx}{pos:Pos}{k v:Expr}{ks:List (Option Expr)}{vs:List Expr}{tk tv:TE}{Ij:List (TE×TE)}(hk:PE X k tk)(hv:PE X v tv)(hr:SY X pos ks vs Ij) :
  SY X pos (some k::ks) (v::vs) ((tk,tv)::Ij):=λaj s σ H Q I h =>
 pairTrees_cons_walk (dC (hk aj s σ H _ I h) λu s1 ⟨x,H1,I1,rx,q1⟩=>dC (hv aj s1 σ H1 _ I1 q1) λw2 s2 ⟨y,H2,I2,ry,q2⟩ =>
  dC (hr aj s2 σ H2 _ I2 q2) λws s3 ⟨ps,H3,I3,rel,q3⟩=>⟨(x,y)::ps,H3,I3,.cons ⟨rx,ry⟩ rel,q3⟩)
noncomputable def mJ (kvs more:List (aT×V)):List (aT×V):=more.foldl (λbF kv=>bM bF kv.1 kv.2) kvs
def KV.merge:∀{more:List (aT×V)}{rs:List (aT×Value)}{kvs:List (aT×V)}{vs:List (aT×Value)},KV more rs->KV kvs vs->KV (mJ kvs more) (merged vs rs):=by
 intro more rs kvs vs r;unfold KV at r
 induction r generalizing kvs vs with
 | nil=>intro q;exact q
 | @cons p q ps qs h t ih =>
  intro r0;have e:KV (bM kvs p.1 p.2) (stored vs q.1 q.2):=by
   have:=r0.put p.1 h.2;rw [<-h.1];exact this
  exact ih e
theorem me:∀(more kvs:List (aT×V)),(mJ kvs more).length<=kvs.length+more.length
 | [],kvs=>by show kvs.length<=kvs.length+0;omega
 | p::r,kvs=>by
  have h1:=me r (bM kvs p.1 p.2);have h2:=fQ kvs p.1 p.2;show (mJ (bM kvs p.1 p.2) r).length<=_;rw [fc];omega
theorem sV {P:Program}{w:World}:∀{kvs:List (aT×V)}{ws:List (Value×Value)},VV (kvs.map λkv=>(kV kv.1,kv.2)) ws->∃rs,Carries (bB P w) ws rs/\KV kvs rs
 | [],_,r=>by rw [mj] at r;cases r;exact⟨[],True.intro,.nil⟩
 | p::kvs,_,r=>by
  rw [cE] at r;cases r with
  | @cons a b as bs h t =>
   obtain⟨rs,c,q⟩:=sV (P:=P) (w:=w) t;obtain⟨b1,b2⟩:=b;exact⟨(p.1,b2)::rs,⟨mf h.1,rfl,c⟩,.cons ⟨rfl,h.2⟩ q⟩
def ON (Ij:List (TE×TE)):TE:=λσ H Q=>∀p,H p=none->y_ Ij σ (upd H p (.dK [])) λps H2=>H2 p=some (.dK [])/\∃kvs:List (aT×V),ps=kvs.map (λkv=>(kV kv.1,kv.2))/\kvs.length<=15/\Q (.ref p) (upd H2 p (.dK (mJ [] kvs)))
def IF {X:Cx}{pos:Pos}{keys:List (Option Expr)}{values:List Expr}{Ij:List (TE×TE)}(h:SY X pos keys values Ij)(qd:keys.all (·.isSome)=true)(hl:keys.length=values.length)(h0:keys≠[])
  (V2:keys.length<=15):PE X (.Dict keys values pos) (ON Ij):=by
 intro aj s σ H Q I q;have hn:=I.cC.fresh (aU s.heap.objs.size);have I1:=I.laid (a:=s.heap.objs.size) (o:=.dK []) (h':=s.heap.push { cls:=.type "dict",data:=.dict #[] }) (t':=s.toks) (λ_ _ q=>cJ _ q) (aU _) (ye s.heap I.big);refine wpAny_Dict_walk (knd:=bB X.prog X.w) qd hl h0 V2 (dC (h aj _ σ _ _ I1 (q _ hn)) λws s2 bN=>?_);obtain⟨ps,H2,I2,rel,e,kvs,ep,lk,q2⟩:=bN;subst ep;obtain⟨rs,c,rk⟩:=sV (P:=X.prog) (w:=X.w) rel;obtain⟨z,hd,vs0,r0,dd⟩:=yd I2.cC e;cases r0;refine⟨rs,c,dd,λh' HU hs=>⟨.ref s.heap.objs.size,_,?_,rfl,q2⟩⟩;have hz:(mJ [] kvs).length<=sizeLine:=by
  have h1:=me kvs [];rw [jl] at h1;rw [sizeLine_eq];omega
 have he:∃q,h'.get? s.heap.objs.size=some q:=let ⟨q,_,_,hq,_⟩:=HU;⟨q,hq⟩;exact qA I2 (by rw [e];exact True.intro) hs he (sM hz hd (rk.merge .nil) HU)
structure M1 (X:Cx)(o:Expr)(m:Str)(apos:Pos)(e:Expr)(ie:Pos):Prop where
 base:attributeBase o m X.env (eval o X.env)=eval o X.env
 uL:((backTo ie (starEach [e] X.env)).all (λx=>!x.1) && (backToKw ie (keywordEach [] X.env)).all (λx=>x.1.isSome)
  && decide (([e]:List Expr).length+([]:List Keyword).length+(if ([]:List Keyword).isEmpty then 0 else 1) < 30))=true
 line:(apos.endLine == ie.line)=true
 trees:backTo ie (starEach [e] X.env)=[(false,eval e X.env)]
structure M2 (X:Cx)(o:Expr)(m:Str)(apos:Pos)(e f:Expr)(ie:Pos):Prop where
 base:attributeBase o m X.env (eval o X.env)=eval o X.env
 uL:((backTo ie (starEach [e,f] X.env)).all (λx=>!x.1) && (backToKw ie (keywordEach [] X.env)).all (λx=>x.1.isSome)
  && decide (([e,f]:List Expr).length+([]:List Keyword).length+(if ([]:List Keyword).isEmpty then 0 else 1) < 30))=true
 line:(apos.endLine == ie.line)=true
 trees:backTo ie (starEach [e,f] X.env)=[(false,eval e X.env),(false,eval f X.env)]
def S_ (H:Hp)(a:Addr):Prop:=(∃kvs,Rd H a (.dK kvs))\/∃kvs,Rd H a (.dT kvs)
def Af {X:Cx}{aj:List (Addr×Obj)}{σ:St}{H:Hp}{s:Shared}{a:Addr}(I:Inv X aj σ H s)(d:S_ H a) :
  s.TypeIs (.ref a) "dict" /\ (∀b,Value.ref a=.ref b->∃ob,s.heap.get? b=some ob/\ob.dict=none)/\(a == sysModules)=false:=by
 rcases d with ⟨kvs,e⟩ | ⟨kvs,e⟩
 .obtain⟨_,hd,vs,_,dd⟩:=oj I.cC e;refine⟨dd.typeIs,λb q=>?_,hd⟩;cases q;obtain⟨ob,_,_,h1,h2,_⟩:=dd;exact⟨ob,h1,h2.2.1⟩
 obtain⟨_,hd,xs,_,dd⟩:=sL I.cC e;refine⟨dd.typeIs,λb q=>?_,hd⟩;cases q;obtain⟨ob,_,_,h1,h2,_⟩:=dd;exact⟨ob,h1,h2.2.1⟩
section
variable {X:Cx}{aj:List (Addr×Obj)}{σ:St}{H:Hp}{s:Shared}{a:Addr}{y d:V}{u r:Value}{o:Option V}{A:Around}{E:Value->Shared->Prop}
def Nc {Q:Value->Shared->Prop}(hu:A.units+1 < cLine)(I:Inv X aj σ H s)(g:b0 H a y o)(ry:RelV y u)(rd:RelV d r)(h:∀w' s',Inv X aj σ H s'->RelV (o.getD d) w'->Q w' s') :
  wpAny (model X.prog X.w) A (call (.builtin "dict.get") [.ref a,u,r]) Q E s:=by
 rcases g with ⟨kvs,k,e,ey,l⟩ | ⟨kvs,k,b,e,ey,eb,l⟩
 .subst ey;obtain⟨z,hd,vs,rel,dd⟩:=oj I.cC e;refine call_meetsIn PySem.F.slot_dict_get dd.typeIs PySem.F.entry_dict_get (PySem.F.args_dict_get_3 _ _ _) (meets_dict_get_default (bB X.prog X.w) a (mf ry) hd r) ⟨_,dd.mapOf,h _ _ (I.tok _) ?_⟩;rw [l];exact(rel.val k).getD rd
 subst ey;cases (show u=Value.ref b from ry);obtain⟨z,hd,xs,rel,dd⟩:=sL I.cC e;refine call_meetsIn PySem.F.slot_dict_get dd.typeIs PySem.F.entry_dict_get (PySem.F.args_dict_get_3 _ _ _) (meetsH_dict_get_default (tupleKind (bB X.prog X.w)) a b hd r) ⟨oM hu,k,xs,mP I.cC eb,dd,h _ _ (I.tok _) ?_⟩;rw [l];exact(rel.val k).getD rd
end
def Ed (td ty tx:TE):TE:=λσ H Q=>td σ H λx H1=>SV x (S_ H1) λa=>ty σ H1 λy H2=>tx σ H2 λz H3=>XDo (b0 H3 a y) λo=>Q (o.getD z) H3
section
variable {X:Cx}{o e f:Expr}{apos ie:Pos}{td ty tx:TE}
def iP (hu:X.A.units+1 < cLine)(ho:PE X o td)(he:PE X e ty)(hf:PE X f tx)(m:M2 X o "get" apos e f ie):PE X (.Call (.Attribute o "get" apos) [e,f] [] ie) (Ed td ty tx):=by
 intro aj s σ H Q I h;refine wpAny_Call_method m.base m.uL m.line yR PySem.F.slot_dict_get PySem.F.type_dict_get (dC (ho aj s σ H _ I h) λu s1 bN=>?_);obtain⟨x,H1,I1,rx,a,ex,d,q1⟩:=bN;subst ex;obtain rfl:u=Value.ref a:=rx;obtain⟨t1,t2,_⟩:=Af I1 d;refine⟨t1,t2,?_⟩;rw [m.trees];refine vf rfl (u_ (oK (dC (he aj s1 σ H1 _ I1 q1) λiv s2 ⟨y,H2,I2,ry,q2⟩ =>
  oK (dC (hf aj s2 σ H2 _ I2 q2) λfv s3 ⟨z,H3,I3,rz,ov,g,q3⟩=>Calls.spliced_nil ?_))))
 exact Nc hu I3 g ry rz λw' s4 I4 zD=>⟨_,H3,I4,zD,q3⟩
end
section
variable {X:Cx}{aj:List (Addr×Obj)}{σ:St}{H:Hp}{s:Shared}{a:Addr}{kvs:List (aT×V)}{A:Around}{E:Value->Shared->Prop}
end
section
variable {X:Cx}{aj:List (Addr×Obj)}{σ:St}{H:Hp}{s:Shared}{a:Addr}{y:V}{u:Value}{A:Around}{E:Value->Shared->Prop}
end
open PySem
def wk:typeLookup (.type "list") "keys"=pure none:=by rw [typeLookup_type,builtinLookup_eq_fast];kernel_rfl
def wm:typeLookup (.type "list") "__getattr__"=pure none:=by rw [typeLookup_type,builtinLookup_eq_fast];kernel_rfl
section
variable {prog:Program}{w:World}{A:Around}{E:Value->Shared->Prop}{h:Heap}{g:Array GenState}{d:Drawn}{t:Nat}{os:OsState}{a:Addr}{o:Obj}
def Eg:isSubtype (.type "AttributeError") (.type "AttributeError")=pure true:=by rw [isSubtype_type];kernel_rfl
def LN {m:Str}{tk:Tok}:ownMembersOf (.type "AttributeError") [.str m tk]=#[unsetMember,unsetMember]:=by kernel_rfl
def Gp {m:Str}{tk:Tok}:firstArgMember (.type "AttributeError") [.str m tk]=pure .none:=by kernel_rfl
def zE {α:Type}{self:Value}{name msg:Str}{Q:α->Shared->Prop}(hm:msg.length<=sizeLine)(hh:A.handled=none)
  (hq:∀h' t' e oe,(∀b o,h.get? b=some o->h'.get? b=some o)->h'.get? e=some oe->oe.cls=.type "AttributeError" -> E (.ref e) ⟨h',g,d,t',os⟩) :
  wpAny (model prog w) A (raiseAttrError self name msg) Q E ⟨h,g,d,t,os⟩:=by
 have f1:=Eg;unfold raiseAttrError newExc;refine aN (wpAny_mkStr ?_ hm);have fe:=Gp (m:=msg) (tk:=t);rw [LN]
 repeat (any_goals (first | assumption | wp_step))
 unfold raiseNew;refine aN (wpAny_handled ?_);rw [hh];refine aN (ba ?_);refine wpAny_throw ?_;refine hq _ _ _ _ (λb o q=>?_) (Heap.get?_update_self _ (d8 _ rfl) rfl) rfl;have lt:=bR q;rw [Heap.get?_update_other _ _ (by rw [mn];exact lY (qR lt))];exact cJ _ (cJ _ q)
def Ac {tk:Tok}{aW:Array Value}{n:Nat}{Q:Fin->Shared->Prop}(hx:h.get? a=some { cls:=.type "list",data:=.seq aW n })(hh:A.handled=none)
  (hq:∀h' t' e oe,(∀b o,h.get? b=some o->h'.get? b=some o)->h'.get? e=some oe->oe.cls=.type "AttributeError" -> E (.ref e) ⟨h',g,d,t',os⟩) :
  wpAny (model prog w) A (Builtin.«object.__getattribute__» ⟨[.ref a,.str "keys" tk],[]⟩) Q E ⟨h,g,d,t,os⟩:=by
 have hT:(⟨h,g,d,t,os⟩:Shared).TypeIs (.ref a) "list" := ⟨_,hx,rfl⟩;have f4:=wk
 repeat (any_goals (first | assumption | wp_step))
 exact zE nofun hh hq
def o6 {aW:Array Value}{n:Nat}{Q:Option Value->Shared->Prop}(hx:h.get? a=some { cls:=.type "list",data:=.seq aW n })(hh:A.handled=none)
  (hq:∀h' t',(∀b o,h.get? b=some o->h'.get? b=some o)->Q none ⟨h',g,d,t',os⟩):wpAny (model prog w) A (getAttr? (.ref a) "keys") Q E ⟨h,g,d,t,os⟩:=by
 have hT:∀t',(⟨h,g,d,t',os⟩:Shared).TypeIs (.ref a) "list" := λt'=>⟨_,hx,rfl⟩;have f1:=Eg;have f2:=vm.lookup;have f3:=vm.bind (.ref a);have f4:=wm;unfold getAttr? getAttrBy? getAttrBy;refine aN (wpAny_mkText (aN (wpAny_attempt (ky (aN (jK (hT _) ?_))))));rw [f2];refine aN (ba ?_);show wpAny _ _ (getAttrByItsOwn _ _ _ _ _ _) _ _ _;unfold getAttrByItsOwn;refine aN (ba (a:=none) (aN (wpAny_attempt (ky ?_))));show wpAny _ _ (boundAndCalled _ _ _) _ _ _;unfold boundAndCalled;rw [f3];refine aN (ba (wpAny_call (codeAny_call_builtin vm.plain F.entry_list_ga (vm.check _ _ _ _ _ _ _ _ (hT _) (F.args_list_getattribute_2 _ _) (Ac hx hh λh' t' e oe k ee ec=>?_)))));have te:(⟨h',g,d,t',os⟩:Shared).TypeIs (.ref e) "AttributeError" := ⟨oe,ee,ec⟩;show wpAny _ _ (getattributeRaised _ _ _ _ _ _ _) _ _ _;unfold getattributeRaised;refine aN (wpAny_isInstance te f1 ?_);rw [ax rfl];show wpAny _ _ (typeLookup _ _ >>= _) _ _ _;rw [f4];refine aN (ba ?_);show wpAny _ _ (throw _) _ _ _;refine wpAny_throw ?_;refine aN (wpAny_isInstance te f1 ?_);rw [ax rfl];exact ba (hq h' t' k)
end
def fX:plainId "dict.update.loop"=true:=by decide +kernel
def lI:entryFor table "dict.update.loop"=some Builtin.«dict.update.loop»:=entryFor_of_tree (nofun)
section
variable {prog:Program}{w:World}{K:Type} [DecidableEq K] {knd:KeyKind prog w K}{A:Around}{E:Value->Shared->Prop}
def mU (knd:KeyKind prog w K)(h:Heap)(u:Value)(kv:K×Value):Prop :=
 ∃t key n o,u=.ref t/\knd.is kv.1 key=true/\h.get? t=some o/\o.cls=.type "tuple" /\ o.data=.seq #[key,kv.2] n
def mU.keep {h h':Heap}{u:Value}{kv:K×Value}(p:mU knd h u kv)(k:∀b o,o.cls=.type "tuple" -> h.get? b=some o->h'.get? b=some o):mU knd h' u kv :=
 let ⟨t,key,n,o,a,b,c,d,e⟩:=p;⟨t,key,n,o,a,b,k t o d c,d,e⟩
def Gx {R:Result->Shared->Prop}{d it l:Addr}{items:Array Value}(hh:A.handled=none):∀(more:List (K×Value)) (i:Nat)(s:Shared)(kvs:List (K×Value)) (j:Int)(tk:Tok),items.size=i+more.length ->
  s.heap.DictOf knd d kvs->s.heap.IsListIter it l i->s.heap.IsList l items->(∀m kv,more[m]?=some kv->∃u,items[i+m]?=some u/\mU knd s.heap u kv)->kvs.length+more.length<=sizeLine ->
  (∀h' t',h'.DictOf knd d (more.foldl (λa p=>stored a p.1 p.2) kvs)->(∀b o,b≠d->b≠it->s.heap.get? b=some o->h'.get? b=some o)->R (.ok (.ret .none)) { s with heap:=h',toks:=t' }) ->
  codeAny (model prog w) A (.builtin "dict.update.loop" ⟨[.ref d,.ref it,.int j tk,.none],[]⟩) R s:=by
 intro more
 induction more with
 | nil =>
  intro i s kvs j tk hi hd hit hl hp hz hR;refine qM lI ?_;rw [qS fX _];unfold Builtin.«dict.update.loop»;have hs:items[i]?=none:=Array.getElem?_eq_none (by rw [hi];exact aU _);refine aN (ve hh hit hl hs λh1 eb=>?_);have nd:d≠it:=λz=>by
   obtain⟨o,_,_,q,_,c,_⟩:=hd;obtain⟨o',q',_,c'⟩:=hit;rw [z,q'] at q;cases q;rw [c'] at c;cases c
  show wpAny _ _ (Builtin.Dict.addKeywords d [] >>= _) _ _ _;exact aN (ba (ba (hR h1 s.toks (hd.extBut eb nd) λb o n1 n2 q=>eb b o n2 q)))
 | cons kv more ih =>
  intro i s kvs j tk hi hd hit hl hp hz hR;refine qM lI ?_;rw [qS fX _];unfold Builtin.«dict.update.loop»;obtain⟨u,hu,t,key,n,o,rfl,hk,ho,hc,Bx⟩:=hp 0 kv rfl;refine aN (wpAny_pyNext_list_item hit hl hu λh1 U3 sb=>?_);have nd:d≠it:=λz=>by
   obtain⟨o,_,_,q,_,c,_⟩:=hd;obtain⟨o',q',_,c'⟩:=hit;rw [z,q'] at q;cases q;rw [c'] at c;cases c
  have n2:∀b o,(o.cls=.type "tuple" \/ o.cls=.type "list")->s.heap.get? b=some o->b≠d/\b≠it:=by
   intro b o c q;constructor
   .intro z;obtain⟨o',q',c'⟩:=hd.typeIs;rw [z,q'] at q;cases q;rw [c'] at c;rcases c with c | c <;> exact absurd c nofun
   intro z;obtain⟨o',q',c',_⟩:=hit;rw [z,q'] at q;cases q;rw [c'] at c;rcases c with c | c <;> exact absurd c nofun
  have nt:∀b o,o.cls=.type "tuple" -> s.heap.get? b=some o->b≠d/\b≠it:=λb o c q=>n2 b o (.inl c) q;have nl:l≠d/\l≠it:=by
   obtain⟨o,q,c,_⟩:=hl;exact n2 l o (.inr c) q
  have Qm:h1.get? t=some o:=(sb.2 t (nt t o hc ho).2).trans ho;have tP:h1.DictOf knd d kvs:=hd.sameBut sb nd;refine aN (ky (aN (wpAny_tryCatch ?_)));unfold Builtin.Dict.pairItems;refine aN (jK (T := "tuple") ⟨o,Qm,hc⟩ ?_);rw [ax nofun];refine aN (qJ Qm Bx (ba ?_));show wpAny _ _ (holding [key,kv.2] (dictSet d key kv.2)) _ _ _;rw [fc] at hz hi;refine ky (wpAny_dictSet_pairs (s:={ s with heap:=h1 }) hk tP (λh2 hd2 OZ=>?_) ∅);have kk:∀b o,b≠d->b≠it->s.heap.get? b=some o->h2.get? b=some o:=λb o n1 n2 q=>(OZ.2 b n1).trans ((sb.2 b n2).trans q);have ln:(stored kvs kv.1 kv.2).length<=kvs.length+1:=by
   unfold stored
   split
   .simp
   simp
  refine ba ⟨oz fX _,ih (i+1) _ _ _ _ ∅ hd2 (U3.at λo q=>(OZ.2 it (fO nd)).trans q) (hl.at λo q=>kk l o nl.1 nl.2 q) (λm UX e=>?_) ∅ λh3 t3 jf k3=>?_⟩
  .obtain⟨u',e1,e2⟩:=hp (m+1) UX e;exact⟨u',by rw [<-e1];congr 1;omega,e2.keep λb o c q=>kk b o (nt b o c q).1 (nt b o c q).2 q⟩
  exact hR h3 t3 jf λb o n1 n2 q=>k3 b o n1 n2 (kk b o n1 n2 q)
def zc:(Value.type "list" != Value.type "dict")=true:=by decide
def sW {s:Shared}{l:Addr}{items:Array Value}{n:Nat}{more:List (K×Value)}{Q:Value->Shared->Prop}(knd:KeyKind prog w K)(hh:A.handled=none)(hx:s.heap.get? l=some { cls:=.type "list",data:=.seq items n })
  (hi:items.size=more.length)(hp:∀(m:Nat) kv,more[m]?=some kv->∃u,items[m]?=some u/\mU knd s.heap u kv)(hz:more.length<=sizeLine)
  (h:∀h' t',h'.DictOf knd s.heap.objs.size (more.foldl (λa p=>stored a p.1 p.2) [])->(∀b o,s.heap.get? b=some o->h'.get? b=some o)->Q (.ref s.heap.objs.size) { s with heap:=h',toks:=t' }) :
  wpAny (model prog w) A (call (.type "dict") [.ref l]) Q E s:=by
 refine callType_codes (Q₁:=λobj s₁=>obj=.ref s.heap.objs.size/\s₁={ s with heap:=s.heap.push { cls:=.type "dict",data:=.dict #[] } }) F.kt_called_dict (F.kt_typeCall_dict_1 _) F.entry_dict_init (kt_code_dict_new _ ⟨rfl,rfl⟩) ?_;rintro obj s₁ ⟨rfl,rfl⟩;have zV:(s.heap.push { cls:=.type "dict",data:=.dict #[] }).DictOf knd s.heap.objs.size []:=Heap.DictOf.new s.heap;have l0:=cJ { cls:=.type "dict",data:=.dict #[] } hx;refine⟨zV.typeIs,F.args_dict_init_2 _ _,?_⟩;unfold Builtin.«dict.__init__» Builtin.Dict.selfAndRest;refine aN (aN (wpAny_notOrdered_dict zV.typeIs (ba ?_)));show wpAny _ _ (Builtin.Dict.updateFrom "dict.__init__" s.heap.objs.size (.ref l) [] .none) _ _ _;unfold Builtin.Dict.updateFrom;refine aN (jK (T := "list") ⟨_,l0,rfl⟩ ?_);rw [ax zc];refine aN (o6 l0 hh λh1 t1 k1=>?_);refine aN (wpAny_rule ?_);have l1:=k1 _ _ l0;refine aN (qD ⟨_,l1,rfl,_,rfl⟩ ?_);have k2:∀b o,s.heap.get? b=some o->(h1.push { cls:=.type "list_iterator",data:=.fields #[.ref l,.int 0 0] }).get? b=some o:=λb o q=>cJ _ (k1 _ _ (cJ _ q));refine ba ⟨oz fX _,Gx (knd:=knd) (A:=A.in1) (l:=l) (items:=items) (show A.in1.handled=none from hh) more 0 _ [] _ _ (by rw [hi,oB]) ?_ ⟨_,d8 _ rfl,rfl,rfl⟩ ⟨_,k2 _ _ hx,rfl,n,rfl⟩ (λm kv e=>?_) (by simpa using hz) λh' t' hd k3=>?_⟩
 .obtain⟨o,es,ep,q,r⟩:=zV;exact⟨o,es,ep,cJ _ (k1 _ _ q),r⟩
 .obtain⟨u,e1,e2⟩:=hp m kv e;exact⟨u,by rw [oB];exact e1,e2.keep λb o _ q=>k2 b o q⟩
 refine⟨rfl,h h' t' hd λb o q=>k3 b o (cu (bR q)) ?_ (k2 b o q)⟩;have:=bR (k1 _ _ (cJ { cls:=.type "dict",data:=.dict #[] } q));exact cu this
end
def Dm (X:Cx)(ifs:List Expr)(t:TT):Prop :=
 ∀(aj:List (Addr×Obj))(s:Shared)(σ:St)(H:Hp)(Q:Bool->Hp->Prop),Inv X aj σ H s->t σ H Q ->
  wpAny (model X.prog X.w) X.A (forIn ifs true λc r=>if r=true then do let ok <-isTrue c X.env (eval c X.env);pure (ForInStep.yield ok) else pure (ForInStep.yield r)) (TP X aj σ Q) X.xe s
def gI:TT:=λ_ H Q=>Q true H
def a0 {X:Cx}:Dm X [] gI:=λ_ _ _ H _ I h=>wpAny_tests_nil ⟨H,I,h⟩
def gC {X:Cx}{c:Expr}{t:TT}(h:PT X c t):Dm X [c] t:=λaj s σ H Q I hw=>wpAny_tests_one (h aj s σ H Q I hw)
def pW {prog:Program}{w:World}{A:Around}{R:Result->Shared->Prop}{s:Shared}{elt target iter:Expr}{ifs:List Expr}{scope:Scope}{pos:Pos}{it bF:Value}{env:Env}(I:Nat->Shared->Prop)
  (turn:∀n s,I n s->wpAny (model prog w) A (pyNext it) (λr s₁=>match r with
   | none=>R (.ok .next) s₁
   | some v=>wpAny (model prog w) A (letOwnedTupleGo target it v) (λ_ s₁=>wpAny (model prog w) A (assign target env v) (λ_ s₂ =>
     wpAny (model prog w) A (forIn ifs true λc r=>if r=true then do let ok <-isTrue c env (eval c env);pure (ForInStep.yield ok) else pure (ForInStep.yield r)) (λok s₃ =>
      if ok=true then wpAny (model prog w) A (eval elt env) (λx s₄ =>
       wpAny (model prog w) A (call (.builtin "list.append") [bF,x]) (λ_ s₅=>∃m,m < n/\I m s₅) (λ_ _=>False) s₄) (λ_ _=>False) s₃
      else ∃m,m < n/\I m s₃) (λ_ _=>False) s₂) (λ_ _=>False) s₁) (λ_ _=>False) s₁) (λ_ _=>False) s)
  (n:Nat)(h:I n s) :
  codeAny (model prog w) A (.compLoop (.ListComp elt [⟨target,iter,ifs,0⟩] scope pos) 0 it bF env) R s:=by
 refine codeAny_loop rfl I (λn s hI=>?_) n h;show wpAny _ A ((compTurn (.ListComp elt [⟨target,iter,ifs,0⟩] scope pos) 0 it bF env).onRaise (λx=>do noteFrame x env;theTreesLotGoes x)) _ _ s;refine wpAny_noted ?_;rw [compTurn_list];refine aN (wpAny_standAt (aN (dY (turn n s hI) (λr s₁ h₁=>?_) λ_ _ h'=>h'.elim)));cases r with
 | none=>exact ba h₁
 | some v =>
  refine aN (dY h₁ (λ_ s₂ h₂=>?_) λ_ _ h'=>h'.elim);refine aN (dY h₂ (λ_ s₂ h₂=>aN (dY h₂ (λok s₃ h₃=>?_) λ_ _ h'=>h'.elim)) λ_ _ h'=>h'.elim);cases ok with
  | false=>exact ba ⟨rfl,h₃⟩
  | true =>
   exact aN (aN (dY h₃ (λx s₄ h₄=>aN (dY h₄ (λ_ s₅ h₅=>ba (ba ⟨rfl,h₅⟩)) λ_ _ h'=>h'.elim)) λ_ _ h'=>h'.elim))
inductive yA (K:bp)(H:Hp):V->String->Prop where
 | bl (x:Bool):yA K H (.bl x) "bool"
 | int (i:Int):yA K H (.int i) "int"
 | str (x:Str):yA K H (.str x) "str"
 | tup {a:Addr}{xs:List V}(e:a_ K H a xs):yA K H (.ref a) "tuple"
inductive XIs (K:bp)(H:Hp)(xs:List V)(R:Bool->Prop):Prop
|mk(x:V)(T n:String)(b:Bool)(e:xs=[x,.ty n])(c:yA K H x T)(k:PySem.W.kitOne K (.type T) (.type n)=some b)(q:R b)
def ja {X:Cx}:gM X (.builtin "isinstance") (λxs H Q=>XIs X.K H xs λb=>Q (.bl b) H):=by
 intro aj s σ H xs us Q I r h;obtain⟨x,T,n,b,rfl,ty,e,q⟩:=h;obtain⟨u,w',rfl,rx,rn⟩:=vals2 r;cases (show w'=Value.type n from rn);have fin:∀tk,EP X aj σ Q (.bool b) { s with toks:=tk }:=λtk=>⟨.bl b,H,I.tok _,rfl,q⟩;cases ty with
 | bl y=>cases (show u=Value.bool y from rx);exact PySem.W.kia_one PySem.W.kitx_bool I.wu True.intro e (λz=>nomatch z) fin
 | int i=>obtain⟨t,z⟩:=(show ∃t,u=Value.int i t from rx);cases z;exact PySem.W.kia_one PySem.W.kitx_int I.wu True.intro e (λz=>nomatch z) fin
 | str y=>obtain⟨t,z⟩:=(show ∃t,u=Value.str y t from rx);cases z;exact PySem.W.kia_one PySem.W.kitx_str I.wu True.intro e (λz=>nomatch z) fin
 | @tup a ys hq =>
  cases (show u=Value.ref a from rx);obtain⟨aW,_,⟨o,h1,h2,_⟩,_⟩:=I.tuple hq;exact PySem.W.kia_one PySem.W.kitx_tuple I.wu ⟨o,h1,h2⟩ e (λz=>nomatch z) fin
def Ci {X:Cx}{a:Expr}{ta:TE}(K:bp)(ha:PE X a ta)(he:∀whole,isTrue a X.env whole=(do let v <-whole;standAt a.pos;holding [v] (truthy v)))(hK:X.K=K:=by rfl) :
  PT X a (λσ H Q=>ta σ H λx H'=>∃k,Hc K x H' k/\Q k H'):=by
 subst hK;exact iM ha he
def Cp {X:Cx}(hu:X.A.units < cLine):jH X (compareOp .Eq) (λx y H Q=>∃a b xs,x=.ref a/\y=.ref b/\aG X.K H a xs/\aG X.K H b []/\Q (.bl (xs.isEmpty)) H):=by
 intro aj s σ H x y v u Q I rx ry h;obtain⟨a,b,xs,rfl,rfl,ha,hb,q⟩:=h;cases rx;cases ry;obtain⟨aW,r,pl,hz⟩:=I.list ha;obtain⟨dX,r2,w_,NS⟩:=I.list hb;have e2:dX=[]:=bw.zero r2;subst e2;have bu:=r.length;cases xs with
 | nil =>
  have e:aW=[]:=bw.zero r;subst e;refine SeqAt.eq_listAt (e:=λ_=>true) pl.isList w_.isList rfl hu (λj h1 _=>absurd h1 (by simp)) ⟨.bl true,H,I,rfl,q⟩
 | cons y ys =>
  refine SeqAt.eq_list_lengthsAt pl.isList w_.isList ?_ hu ⟨.bl false,H,I,rfl,q⟩;rw [cH,cH,<-bu];simp
structure JN (env:Env)(scope:Scope)(cl:List (Str×Addr)):Prop where
 eq:closureFor scope env=pure cl
 sub:∀y c,cl.lookup y=some c->env.cells.lookup y=some c
 all:∀y,(y,NameKind.free)∈scope.names->∃c,cl.lookup y=some c
def jW {y n:Str}{c:Addr}{l:List (Str×Addr)}:((n,c)::l).lookup y=if y=n then some c else l.lookup y:=by
 by_cases h:y=n
 .rw [ax h];simp [List.lookup,h]
 rw [az h];simp [List.lookup,jn.mpr h]
def wQ {env:Env}{scope:Scope}(h:∀y,(y,NameKind.free)∈scope.names->∃c,env.cells.lookup y=some c):∃cl,JN env scope cl:=by
 have go:∀(names:List (Str×NameKind))(bF:List (Str×Addr)),(∀y,(y,NameKind.free)∈names->∃c,env.cells.lookup y=some c)->(∀y c,bF.lookup y=some c->env.cells.lookup y=some c) ->
   ∃cl,(forIn names bF λ(x:Str×NameKind)(cs:List (Str×Addr))=>(if x.2 == .free then do let c <-cellOf env x.1;pure (ForInStep.yield ((x.1,c)::cs)) else pure (ForInStep.yield cs):Sem (ForInStep (List (Str×Addr)))))=pure cl /\
    (∀y c,cl.lookup y=some c->env.cells.lookup y=some c)/\(∀y,(y,NameKind.free)∈names->∃c,cl.lookup y=some c)/\∀y c,bF.lookup y=some c->∃c',cl.lookup y=some c':=by
  intro names
  induction names with
  | nil=>intro bF _ hs;exact⟨bF,rfl,hs,λy hy=>absurd hy (by simp),λy c e=>⟨c,e⟩⟩
  | cons x r ih =>
   intro bF hf hs;obtain⟨n,k⟩:=x;rw [List.forIn_cons];by_cases hk:k=.free
   .subst hk;obtain⟨c0,e0⟩:=hf n cS;obtain⟨cl,e1,e2,e3,e4⟩:=ih ((n,c0)::bF) (λy hy=>hf y (cY _ hy)) (λy c e=>by
     rw [jW] at e;by_cases z:y=n
     .rw [ax z] at e;cases e;rw [z];exact e0
     rw [az z] at e;exact hs y c e)
    refine⟨cl,?_,e2,λy hy=>?_,λy c e=>?_⟩
    .rw [<-e1];have:cellOf env n=pure c0:=by unfold cellOf;rw [e0]
     simp only [this];rfl
    .rcases b8.mp hy with z | z
     .cases z;exact e4 n c0 (by rw [jW,ax rfl])
     exact e3 y z
    by_cases z:y=n
    .exact e4 y c0 (by rw [jW,ax z])
    exact e4 y c (by rw [jW,az z];exact e)
   obtain⟨cl,e1,e2,e3,e4⟩:=ih bF (λy hy=>hf y (cY _ hy)) hs;refine⟨cl,?_,e2,λy hy=>?_,e4⟩
   .rw [<-e1];have:(k == NameKind.free)=false:=by simpa using hk
    simp only [this];rfl
   rcases b8.mp hy with z | z
   .cases z;exact absurd rfl hk
   exact e3 y z
 obtain⟨cl,e1,e2,e3,_⟩:=go scope.names [] h (λy c e=>by simp at e);refine⟨cl,?_,e2,e3⟩;unfold closureFor;exact Eq.trans (congrArg (λt:Sem (List (Str×Addr))=>t >>= λcs=>pure cs) e1) rfl
def v7 {scope:Scope}{env:Env}{y:Str}(hk:env.scope.kind=.function)(hy:scope.names.lookup y=some .free)(he:env.kindOf y=some .cell):(relabel scope env).names.lookup y=some .cell:=by
 have go:∀l:List (Str×NameKind),l.lookup y=some .free->(l.map λ(x:Str×NameKind)=>if (x.2 == NameKind.free && env.scope.kind == .function && env.kindOf x.1 == some .cell) then (x.1,NameKind.cell) else (x.1,x.2)).lookup y=some .cell:=by
  intro l
  induction l with
  | nil=>intro z;cases z
  | cons x r ih =>
   obtain⟨n,k⟩:=x;intro hy;rw [cE];by_cases z:y=n
   .subst z;simp [List.lookup] at hy;subst hy;simp [List.lookup,hk,he]
   have zb:(y == n)=false:=jn.mpr z;simp only [List.lookup,zb] at hy;have:=ih hy;dsimp only
   split <;> simp only [List.lookup,zb] <;> exact this
 exact go _ hy
theorem wj {α:Type}{y:Str}{v:α}:∀{l:List (Str×α)},l.lookup y=some v->(y,v)∈l
 | [],h=>by cases h
 | (n,u)::r,h=>by
  by_cases z:y=n
  .subst z;simp [List.lookup] at h;subst h;exact cS
  have zb:(y == n)=false:=jn.mpr z;simp only [List.lookup,zb] at h;exact cY _ (wj h)
def nU {scope:Scope}{env:Env}{y:Str}{k:NameKind}(h:(relabel scope env).names.lookup y=some k)(hk:k=.cell\/k=.free)(hc:∀z∈scope.names,z.2≠.cell):(y,NameKind.free)∈scope.names:=by
 have m:=wj h;unfold relabel at m;obtain⟨⟨n,k'⟩,m1,m2⟩:=cx.mp m;dsimp only at m2
 split at m2
 .rename_i q
  cases m2;simp at q;obtain⟨⟨q,_⟩,_⟩:=q;subst q;exact m1
 cases m2;rcases hk with hk | hk
 .exact absurd hk (hc _ m1)
 rw [<-hk];exact m1
noncomputable def sN (X:Cx)(scope:Scope)(cl:List (Str×Addr))(C:Addr)(s1:Shared)(H1:Hp) (N:List Str)(fp:List Addr):Cx :=
 { X with N:=N,s₀:=s1,H₀:=H1,env:=compEnvC scope cl C X.env,outer:=X.stack,stack:=X.stack,ex:=fp,fn:=λ_=>false,pn:=[],xe:=λ_ _=>False }
structure JO (X:Cx)(scope:Scope)(js:List (Nat×Str)):Prop where
 at_:∀p∈js,X.N[p.1]?=some p.2/\X.env.scope.names.lookup p.2=some .cell/\scope.names.lookup p.2=some .free
 all:∀y,(y,NameKind.free)∈scope.names->X.env.scope.names.lookup y=some .cell
noncomputable def eh (ts:List Str)(js:List (Nat×Str))(σ:St):St:=ts.map (λ_=>none)++js.map λp=>(σ[p.1]?).join
def uE {X:Cx}{aj:List (Addr×Obj)}{σ:St}{H:Hp}{s1 s4:Shared}{scope:Scope}{ts:List Str}{js:List (Nat×Str)}{cl:List (Str×Addr)}{fp:List Addr}{C:Addr}{m:Str->Option Value}
  (I:Inv X aj σ H s1)(hf:∀b∈fp,w5 X aj H b)(Ge:∀b∈fp,b < s1.heap.objs.size)(jA:scope.kind=.function)(jB:∀y∈scope.names,y.2≠.cell)(cp:JO X scope js)(ph:JN X.env scope cl)
  (hC:s1.heap.objs.size < C)(ho:s4.os=s1.os)(hg:s4.gens=s1.gens)(old:∀b o,s1.heap.get? b=some o->s4.heap.get? b=some o)(hn:s4.heap.Ns C m)
  (hD:s4.heap.get? s1.heap.objs.size=some { cls:=.type "list",data:=.seq ([]:List Value).toArray 0 }) :
  Inv (sN X scope cl C s1 H (ts++js.map (·.2)) fp) [] (eh ts js σ) (upd H s1.heap.objs.size (.lst [])) s4:=by
 have xk:X.env.scope.kind=.function:=I.ok.kind;have has:∀y,((relabel scope X.env).names.lookup y=some .cell\/(relabel scope X.env).names.lookup y=some .free)->∃c,cl.lookup y=some c:=λy hy=>ph.all y (by
  rcases hy with hy | hy
  .exact nU hy (.inl rfl) jB
  exact nU hy (.inr rfl) jB)
 have lt:∀y c,cl.lookup y=some c->c < s1.heap.objs.size:=λy c e=>by
  obtain⟨v,o,ho,_⟩:=I.cell y c (ph.sub y c e);exact bR ho
 refine⟨⟨I.ok.mod,jA,I.ok.glob,I.ok.blt,ku hC,λy z c h1 h2=>I.ok.inj y z c (ph.sub _ _ h1) (ph.sub _ _ h2),has,λy c h _=>absurd (show false=true from h) d5,I.ok.hd,I.ok.frames,.inl rfl,
   λb hb=>⟨cu (kx (Ge b hb) hC),λy c h=>(hf b hb).2.2.2.2.1 y c (ph.sub _ _ h)⟩,I.bs,f_ I.ok.HV I.sz,λb o e hb=>?_,λb hb=>?_,I.stack,I.A2⟩,
  ho,?_,Un.laid old (aU _) I.fresh,⟨m,hn,λi y v e1 e2 _=>?_⟩,λy c h=>?_,?_,λy c h=>?_,λp hp=>absurd (show p∈([]:List (Addr×Obj)) from hp) (by simp),I.cC.laid old (aU _) ?_,?_⟩
 .obtain⟨_,_,_,h4,_⟩:=hf b hb;rcases h4 with h4 | h4
  .exact I.ok.FE b o e h4
  exact absurd (gk (bR (I.ok.bs b o e).1) h4) (kJ _)
 .intro HH;obtain⟨_,h2,h3,_⟩:=hf b hb;rcases b8.mp (I.zd b HH) with z | z
  .exact h2 z
  exact h3 z
 .rw [hg];exact I.bare
 .have Jx:(ts++js.map (·.2))[i]?=some y:=e1;have C6:(ts.map (λ_=>(none:Option V))++js.map λp=>(σ[p.1]?).join)[i]?=some (some v):=e2;by_cases hi:i < ts.length
  .rw [pI (by simpa using hi)] at C6;simp [hi] at C6
  rw [nj ∅] at Jx;rw [nj (by simpa using Nat.le_of_not_lt hi)] at C6;rw [au] at C6;rw [a9] at Jx C6;cases hj:js[i - ts.length]? with
  | none=>rw [hj] at Jx;cases Jx
  | some p =>
   rw [hj] at Jx C6;simp only [qN,Option.some.injEq] at Jx C6;obtain⟨a1,a2,a3⟩:=cp.at_ p (b9 hj);subst Jx;have es:σ[p.1]?=some (some v):=by
    cases q:σ[p.1]? with
    | none=>rw [q] at C6;cases C6
    | some z=>rw [q] at C6;exact congrArg some C6
   obtain⟨m0,Sl,lk⟩:=I.loc;obtain⟨u,ru,l⟩:=lk p.1 p.2 v a1 es (.inr (.inl a2));rcases l with l | ⟨_,c,ec,o,hc,hd⟩
   .have l1:X.env.scope.names.lookup p.2=some .local:=l.1;rw [a2] at l1;cases l1
   obtain⟨c',ZZ⟩:=ph.all p.2 (wj a3);have e3:=ph.sub _ _ ZZ;rw [ec] at e3;cases e3;exact⟨u,ru,.inr ⟨.inl (v7 xk a3 a2),c,ZZ,o,old _ _ hc,hd⟩⟩
 .obtain⟨v,o,h1,h2⟩:=I.cell y c (ph.sub y c h);exact⟨v,o,old _ _ h1,h2⟩
 .show upd H s1.heap.objs.size (.lst []) C=none;rw [ak (lY hC)];exact I.cC.fresh (ku hC)
 .show upd H s1.heap.objs.size (.lst []) c=none;rw [ak (cu (lt y c h))];exact I.k0 y c (ph.sub y c h)
 .exact⟨by show 0<=sizeLine;decide,[],0,.nil,hD⟩
 show (eh ts js σ).length=(ts++js.map (·.2)).length;simp [eh]
def Ee (wi:TI) (ts:List Str)(js:List (Nat×Str))(g:TG)(tif:TT)(te:TE):TE:=λσ H Q=>wi σ H λJ H1=>∀D,H1 D=none->∃W:Nat->Nat->List V->St->Hp->Prop,(∃m,W 0 m [] (eh ts js σ) (upd H1 D (.lst []))) /\
 ∀i m ys σ' H,W i m ys σ' H->(J.stop i H/\Q (.ref D) H)\/(J.go i H/\∃m',m' < m/\∀x H',J.lR i H x H'->g x σ' H' λσ2 H2=>tif σ2 H2 λb H3 =>
  if b=true then te σ2 H3 λy H4=>H4 D=some (.lst ys)/\ys.length < sizeLine/\W (i+1) m' (ys++[y]) σ2 (upd H4 D (.lst (ys++[y]))) else W (i+1) m' ys σ2 H3)
def aV {X:Cx}{elt iter tg:Expr}{ifs:List Expr}{scope:Scope}{pos:Pos}{wi:TI}{g:TG}{tif:TT}{te:TE}(ts:List Str)(js:List (Nat×Str))(hc:X.calm=true)(hi:PI X tg iter wi)
  (cp:JO X scope js)(jB:∀y∈scope.names,y.2≠.cell)(jA:scope.kind=.function)
  (Ak:∀y∈scope.names,y.2=.local->scope.names.lookup y.1=some .local)
  (hg:∀cl C s1 H1 fp,PG (sN X scope cl C s1 H1 (ts++js.map (·.2)) fp) tg g)
  (VC:∀cl C s1 H1 fp,Dm (sN X scope cl C s1 H1 (ts++js.map (·.2)) fp) ifs tif)(he:∀cl C s1 H1 fp,PE (sN X scope cl C s1 H1 (ts++js.map (·.2)) fp) elt te)
  (hs:∀x,foldedSetIterable iter X.env x=pure x:=by intro _;rfl) :
  PE X (.ListComp elt [⟨tg,iter,ifs,0⟩] scope pos) (Ee wi ts js g tif te):=by
 intro aj s σ H Q I h;rw [eval_ListComp];obtain⟨cl,ph⟩:=wQ (env:=X.env) (scope:=scope) λy hy=>I.ok.has y (.inl (cp.all y hy));refine wpAny_comprehension_free (use:=none) rfl hs ph.eq jA Ak (dC (hi aj s σ H _ I h) λv s1 h1=>dC h1 λSe s2 h2=>?_);obtain⟨it,fp,tn,J,H2,e,I2,T,Hm,f2,h2⟩:=h2;subst e;obtain⟨W,⟨m0,w0⟩,turn⟩:=h2 s2.heap.objs.size I2.fresh;have Ge:∀b∈fp,b < s2.heap.objs.size:=λb hb=>by obtain⟨o,e,_⟩:=T.obj _ _ Hm b hb;exact bR e
 refine mZ (wpAny_newFunctionEnv jB (by intro y hy;simp at hy) (λh₁ Aj wB=>?_) jA);dsimp only at Aj wB ⊢;generalize MM:s2.heap.push { cls:=.type "list",dict:=none,data:=.seq ([]:List Value).toArray }=G2 at Aj wB ⊢;have Js:G2.objs.size=s2.heap.objs.size+1:=by rw [<-MM,mn]
 have N3:s2.heap.objs.size≠G2.objs.size:=by rw [Js];exact cu (mY _)
 have old:∀b o,s2.heap.get? b=some o->h₁.get? b=some o:=λb o e =>
  wB.extBut b o (by rw [Js];exact cu (qR (bR e))) (cJ _ (MM ▸ cJ _ e))
 have CT:h₁.get? s2.heap.objs.size=some { cls:=.type "list",data:=.seq ([]:List Value).toArray 0 }:=wB.extBut _ _ N3 (cJ _ (MM ▸ d8 _ rfl));generalize nY:sN X scope cl G2.objs.size s2 H2 (ts++js.map (·.2)) fp=X2;have I4:Inv X2 [] (eh ts js σ) (upd H2 s2.heap.objs.size (.lst [])) { s2 with heap:=h₁,toks:=s2.toks+([]:List (Str×Value)).length }:=by
  rw [<-nY];exact uE I2 f2 Ge jA jB cp ph (by rw [Js];exact mY _) rfl rfl old Aj CT
 have x1:X2.prog=X.prog:=by rw [<-nY];rfl
 have x2:X2.w=X.w:=by rw [<-nY];rfl
 have x3:X2.K=X.K:=by rw [<-nY];rfl
 have x4:X2.calm=true:=by rw [<-nY];exact hc
 have x5:X2.A=X.A:=by rw [<-nY];rfl
 have x6:X2.env=compEnvC scope cl G2.objs.size X.env:=by rw [<-nY];rfl
 have x7:X2.xe=λ_ _=>False:=by rw [<-nY];rfl
 have VE:PG X2 tg g:=by rw [<-nY];exact hg _ _ _ _ _
 have Mz:Dm X2 ifs tif:=by rw [<-nY];exact VC _ _ _ _ _
 have Hz:PE X2 elt te:=by rw [<-nY];exact he _ _ _ _ _
 have OT:tn 0 h₁:=T.keep _ _ _ Hm λb _ o e=>old b o e;have rj:∀{H':Hp}{ka:List (Addr×Obj)},(∀b∈fp,H' b=none)->(∀p∈ka,p.1∉fp)->∀b∈fp,w5 X2 ka H' b:=λ{H' ka} hn hp b hb=>by
  have o4:=I4.ok;subst nY;exact⟨hn b hb,(o4.N6 b hb).1,o4.CZ b hb,.inl hb,(o4.N6 b hb).2,λp o8=>by
   have ou:p∈([]:List (Addr×Obj))++ka:=o8;rw [pG] at ou;intro z;exact hp p ou (by rw [z];exact hb)⟩
 have fin:∀{s':Shared}{σ':St}{H':Hp},Inv X2 [] σ' H' s'->Q (.ref s2.heap.objs.size) H' ->
   compPost (model X.prog X.w) X.A X.xe none (EP X aj σ Q) (.ref s2.heap.objs.size) G2.objs.size (.ok .next) s':=λ{s' σ' H'} J' q=>by
  subst nY;obtain⟨m',Ga,_⟩:=J'.loc;refine⟨m',Ga,λh' NV=>?_⟩;have u:Un (CV X.stack) fp H2 H' s2.heap s'.heap:=J'.base;have nC:∀b o,s2.heap.get? b=some o->b≠G2.objs.size:=λb o e=>by rw [Js];exact cu (qR (bR e))
  have u':Un (CV X.stack) fp H2 H' s2.heap h':=⟨λb o e n hb hx=>(NV.2 b (nC b o e)).trans (u.keep b o e n hb hx),λb o e n hb hx=>by
    obtain⟨sl,z⟩:=u.slot b o e n hb hx;exact⟨sl,(NV.2 b (nC b o e)).trans z⟩,u.free,λb o e hx=>by
    obtain⟨o',z⟩:=u.there b o e hx;exact⟨o',(NV.2 b (nC b o e)).trans z⟩,u.oR,u.mT,u.nr⟩
  have cC:mi X.prog X.w H' h':=λb ob e=>by
   refine(J'.cC b ob e).kO (λc w' mS q'=>(NV.2 c ?_).trans q') (λ_ q=>q) λ_ _ q=>q;intro z;have fr:H' G2.objs.size=none:=J'.free;rcases mS with z' | z'
   .rw [<-z'] at e;rw [z,fr] at e;cases e
   rw [z,fr] at z';cases z'
  have I5:Inv X aj σ H' { s' with heap:=h' }:=I2.KJ (s':={ s' with heap:=h' }) J'.os u' cC J'.bare λb hb=>by
   obtain⟨_,f1,_,f3,f4,f5⟩:=f2 b hb;exact⟨f3,f1,f4,f5⟩
  exact⟨.ref s2.heap.objs.size,H',I5,rfl,q⟩
 have loop:∀s₃:Shared,s₃={ s2 with heap:=h₁,toks:=s2.toks+([]:List (Str×Value)).length } ->
   codeAny (model X.prog X.w) X.A (.compLoop (.ListComp elt [⟨tg,iter,ifs,0⟩] scope pos) 0 (.ref it) (.ref s2.heap.objs.size) (compEnvC scope cl G2.objs.size X.env))
    (compPost (model X.prog X.w) X.A X.xe none (EP X aj σ Q) (.ref s2.heap.objs.size) G2.objs.size) s₃:=by
  rintro s₃ rfl;subst nY;refine pW (λn s'=>∃i ys σ' H',Inv (sN X scope cl G2.objs.size s2 H2 (ts++js.map (·.2)) fp) [] σ' H' s'/\tn i s'.heap/\(∀b∈fp,H' b=none)/\W i n ys σ' H') ?_ m0
   ⟨0,[],_,_,I4,OT,λb hb=>by rw [ak (cu (Ge b hb))];exact(f2 b hb).1,w0⟩
  rintro n s' ⟨i,ys,σ0,H',J',w6,QO,w'⟩;rcases turn i n ys σ0 H' w' with ⟨stop,q⟩ | ⟨go,m',hm,step⟩
  .refine dY (T.done (sN X scope cl G2.objs.size s2 H2 (ts++js.map (·.2)) fp) rfl rfl rfl hc i [] s' _ H' (λ_ _=>False) J' (rj QO (by simp)) w6 stop) (λr s4 ⟨hr,J4⟩=>?_) λ_ _ z=>z;subst hr;exact fin J4 q
  refine dY (T.item (sN X scope cl G2.objs.size s2 H2 (ts++js.map (·.2)) fp) rfl rfl rfl hc i [] s' _ H' (λ_ _=>False) J' (rj QO (by simp)) w6 go) (λr s4 ⟨u,hr,h4⟩=>?_) λ_ _ z=>z;subst hr;refine dY h4 (λ_ s5 bN=>?_) λ_ _ z=>z;obtain⟨xv,H5,J5,r5,y5,Cb,QN⟩:=bN;have Xw:=J5.pinned (rj QN (by simp)) (T.obj _ _ Cb);have back:∀{s7:Shared}{σ7:St}{H7:Hp},Inv (sN X scope cl G2.objs.size s2 H2 (ts++js.map (·.2)) fp) ([]++oY fp s5.heap) σ7 H7 s7->Inv (sN X scope cl G2.objs.size s2 H2 (ts++js.map (·.2)) fp) [] σ7 H7 s7/\tn (i+1) s7.heap/\∀b∈fp,H7 b=none:=λ{s7 σ7 H7} J7=>by
   refine⟨J7.kK,T.keep _ _ _ Cb λb hb o e=>(J7.pin (b,o) (gH _ (gH _ (g_ hb e)))).1,λb hb=>?_⟩;obtain⟨o,e,d⟩:=T.obj _ _ Cb b hb;exact(J7.pin (b,o) (gH _ (gH _ (g_ hb e)))).2.1
  show wpAny _ _ (assign tg (sN X scope cl G2.objs.size s2 H2 (ts++js.map (·.2)) fp).env u) _ _ s5;refine dY (VE _ s5 _ H5 xv u _ Xw r5 (step xv H5 y5)) (λ_ s6 bN=>?_) λ_ _ z=>z;obtain⟨σ6,H6,J6,q6⟩:=bN;refine dY (Mz _ s6 _ H6 _ J6 q6) (λb s7 bN=>?_) λ_ _ z=>z;obtain⟨H7,J7,q7⟩:=bN;cases b with
  | false =>
   rw [az d5] at q7 ⊢;obtain⟨J8,TU,V4⟩:=back J7;exact⟨m',hm,i+1,ys,σ6,H7,J8,TU,V4,q7⟩
  | true =>
   rw [ax rfl] at q7 ⊢;refine dY (Hz _ s7 _ H7 _ J7 q7) (λyv s8 bN=>?_) λ_ _ z=>z;obtain⟨y,H8,J8,r8,VU,U6,w8⟩:=bN;refine dY (cA (X:=sN X scope cl G2.objs.size s2 H2 (ts++js.map (·.2)) fp) _ s8 _ H8 (.ref s2.heap.objs.size) [y] (.ref s2.heap.objs.size) [yv] (λv H'=>W (i+1) m' (ys++[y]) σ6 H') J8 rfl (.cons r8 .nil) ⟨s2.heap.objs.size,ys,y,rfl,rfl,VU,U6,w8⟩)
    (λ_ s9 ⟨_,H9,J9,_,w9⟩=>?_) λ_ _ z=>z
   obtain⟨Xx,Lg,MT⟩:=back J9;exact⟨m',hm,i+1,ys++[y],σ6,H9,Xx,Lg,MT,w9⟩
 exact codeAny_compStart_list (loop _ rfl) (T.self _ _ _ _ _ OT (loop _ rfl))
def Rw (K:bp)(a:Addr):It :=
 ⟨λi H=>∃xs x,aG K H a xs/\xs[i]?=some x,λi H x H'=>∃t y,x=.ref t/\H t=none/\H'=upd H t (.tup [.int (i:Int),y])/\∀xs,aG K H a xs->xs[i]?=some y,λi H=>∃xs,aG K H a xs/\xs.length<=i⟩
def B7 {P:Program}{w:World}{K:bp}{elts:List Expr}{k:Nat}{vB:Pos}(a e it:Addr)(Qz:e≠it) :
  Turn P w K (.Tuple elts k vB) (Rw K a) [e,it] e (λi h=>(∃old,IsEnum h e it i old)/\h.IsListIter it a i) where
 mem:=by simp
 obj:=λi h st b hb=>by
  obtain⟨⟨old,he⟩,o,e1,c,d⟩:=st;rcases b8.mp hb with rfl | hb
  .exact⟨_,he,λv z=>by cases z⟩
  obtain rfl:b=it:=by simpa using hb
  exact⟨o,e1,λv z=>by rw [d] at z;cases z⟩
 keep:=λi h h' st k=>⟨⟨st.1.choose,k e (by simp) _ st.1.choose_spec⟩,st.2.at λo q=>k it (by simp) o q⟩
 item:=by
  intro X hP hw hK hc i aj s σ H E I hf st hg;subst hP hw hK;obtain⟨xs,x,hq,hx⟩:=hg;obtain⟨aW,rv,p,hz⟩:=I.list hq;obtain⟨u,hu,ru⟩:=rv.get hx;obtain⟨⟨old,he⟩,hit⟩:=st;refine wpAny_pyNext_enum_item he hit p.isList (x:=u) (by simpa using hu) Qz λh1 ho My hT hsz hk=>?_;refine⟨_,rfl,wpAny_letOwnedTupleGo_enum ho λh2 VJ sb=>?_⟩;have ne:s.heap.objs.size≠e:=lY (bR he);have kk:∀b o,b≠e->b≠it->s.heap.get? b=some o->h2.get? b=some o:=λb o n1 n2 q=>(sb.2 b n1).trans (hk b o n1 n2 q);have T2:h2.get? s.heap.objs.size=some { cls:=.type "tuple",data:=.seq #[.int i s.toks,u] }:=(sb.2 _ ne).trans hT;have fe:=hf e (by simp);have fi:=hf it (by simp);have fT:H s.heap.objs.size=none:=I.cC.fresh (aU _);have tr:∀b v,H b=some v->b≠e/\b≠it:=λb v q=>⟨λz=>(by rw [z,fe.1] at q;cases q),λz=>(by rw [z,fi.1] at q;cases q)⟩;have nc:∀b,b∉[e,it]->b≠e/\b≠it:=λb z=>⟨λq=>z (by simp [q]),λq=>z (by simp [q])⟩;have lt:∀b o,s.heap.get? b=some o->b≠s.heap.objs.size:=λb o q=>cu (bR q);have I2:Inv X aj σ (upd H s.heap.objs.size (.tup [.int (i:Int),x])) { s with heap:=h2,toks:=s.toks+1 }:=by
   refine I.call (g':=s.gens) (t':=s.toks+1) (d':=s.drawn) (ch:=[e,it]) ⟨λb o q _ _ c=>kk b o (nc b c).1 (nc b c).2 q,λb o q _ _ c=>⟨o.slots,kk b o (nc b c).1 (nc b c).2 q⟩,
    λb o q n _=>by rw [ak (lt b o q)];exact n,λb o q c=>⟨o,kk b o (nc b c).1 (nc b c).2 q⟩,λb ys q=>by rw [ak (aB q fT)];exact q,λb o v q=>by rw [ak (aB q fT)];exact q,
    λb ps q=>⟨#[],by rw [ak (aB q fT),q];simp⟩⟩ (λb v q=>?_) I.bare (λb hb=>?_)
   .by_cases hb:b=s.heap.objs.size
    .subst hb;rw [ae] at q;cases q;exact⟨by show 2<=sizeLine;decide,[.int i s.toks,u],.cons ⟨_,rfl⟩ (.cons ru .nil),_,T2,rfl,_,rfl⟩
    rw [ak hb] at q;refine(I.cC b v q).kO (λc o mS z=>?_) (λc q'=>by rw [ak (aB q' fT)];exact q') λc ys q'=>by rw [ak (aB q' fT)];exact q'
    rcases mS with rfl | mS
    .exact kk c o (tr c _ q).1 (tr c _ q).2 z
    exact kk c o (tr c _ mS).1 (tr c _ mS).2 z
   rcases b8.mp hb with rfl | hb
   .exact⟨fe.2.2.2.1,fe.2.1,fe.2.2.2.2.1,fe.2.2.2.2.2⟩
   obtain rfl:b=it:=by simpa using hb
   exact⟨fi.2.2.2.1,fi.2.1,fi.2.2.2.2.1,fi.2.2.2.2.2⟩
  refine⟨.ref s.heap.objs.size,_,I2,rfl,⟨_,x,rfl,fT,rfl,λys hy=>by rw [I.rT hy hq];exact hx⟩,⟨⟨_,VJ⟩,My.at λo q=>(sb.2 it Qz.symm).trans q⟩,λb hb=>?_⟩;have HH:H b=none/\∃o,s.heap.get? b=some o:=by
   rcases b8.mp hb with rfl | hb
   .exact⟨fe.1,_,he⟩
   obtain rfl:b=it:=by simpa using hb
   obtain⟨o,q,_⟩:=hit;exact⟨fi.1,o,q⟩
  obtain⟨n,o,q⟩:=HH;rw [ak (lt b o q)];exact n
 done:=by
  intro X hP hw hK hc i aj s σ H E I hf st hg;subst hP hw hK;obtain⟨xs,hq,hx⟩:=hg;obtain⟨aW,rv,p,hz⟩:=I.list hq;obtain⟨⟨old,he⟩,hit⟩:=st;obtain⟨f0,f1,f2,f3,f4,f5⟩:=hf it (by simp);have hl:=rv.length;exact wpAny_pyNext_enum_end (I.ok.hd hc) he hit p.isList (by simp;omega) λh' eb=>⟨rfl,I.turned (t':=s.toks) (λb o hb e=>eb b o hb e) f0 f1 f3 f4 f5⟩
 self:=λ_ _ _ _ _ st h=>wpAny_pyIter_enum st.1.choose_spec h
def uT:bootBuiltins "enumerate"=some (.type "enumerate"):=by decide +kernel
def P5 (K:bp)(ta:TA):TI:=λσ H R=>ta σ H λvs H1=>Xn vs (aG K H1) λa=>R (Rw K a) H1
def jR {X:Cx}{elts:List Expr}{k:Nat}{vB:Pos}{l:Expr}{ta:TA}{p pos:Pos}(hg:Gl X "enumerate")(hm:X.mg "enumerate"=none)(ha:PA X [l] ta)(hs:starEach [l] X.env=[(false,eval l X.env)]:=by rfl) :
  PI X (.Tuple elts k vB) (.Call (.Name "enumerate" p) [l] [] pos) (P5 X.K ta):=by
 intro aj s σ H R I h;refine Call_ (jX I hg hm uT (vq (dC (ha pos aj s σ H _ I h) λus s1 bN=>?_) hs rfl));obtain⟨vs,H1,I1,r1,q1⟩:=bN;obtain⟨a,xs,e,hq,q⟩:=q1;subst e;obtain⟨u,rfl,rx⟩:=r1.one;cases rx;obtain⟨aW,rv,pl,hz⟩:=I1.list hq;refine call_enumerate_list pl.isList λh1 he hit hsz hk=>wpAny_pyIter_enum he ?_;refine⟨s1.heap.objs.size+1,[s1.heap.objs.size+1,s1.heap.objs.size],_,_,H1,rfl,I1.kept (t':=s1.toks) λb o e=>hk b o e,B7 a _ _ (lY (mY _)),⟨⟨_,he⟩,hit⟩,λb hb=>?_,q⟩;rcases b8.mp hb with rfl | hb
 .exact I1.wI (kj _) (I1.cC.fresh (kj _))
 obtain rfl:b=s1.heap.objs.size:=by simpa using hb
 exact I1.wI (aU _) (I1.cC.fresh (aU _))
def cM (kvs bF:List (aT×V)):List (aT×V):=kvs.foldl (λa p=>bM a p.1 p.2) bF
theorem su:∀{kvs:List (aT×V)}{vs:List (aT×Value)}{bF:List (aT×V)}{G6:List (aT×Value)},KV kvs vs->KV bF G6->KV (cM kvs bF) (vs.foldl (λa p=>stored a p.1 p.2) G6)
 | _,_,_,_,.nil,h=>h
 | _,_,_,_,.cons (a:=p) (b:=q) r t,h=>by
  obtain⟨e,rv⟩:=r;show KV (cM _ (bM _ p.1 p.2)) (List.foldl _ (stored _ q.1 q.2) _);rw [<-e];exact su t (h.put p.1 rv)
theorem sE:∀(kvs bF:List (aT×V)),(cM kvs bF).length<=bF.length+kvs.length
 | [],bF=>by simp [cM]
 | p::r,bF=>by
  have:=sE r (bM bF p.1 p.2);have:=fQ bF p.1 p.2;show (cM r (bM bF p.1 p.2)).length<=_;rw [fc];omega
section
variable {X:Cx}{aj:List (Addr×Obj)}{σ:St}{H:Hp}{s:Shared}
theorem pairs_at (I:Inv X aj σ H s):∀{ts:List Addr}{kvs:List (aT×V)}{aW:List Value},Paired (λt kv=>a_ X.K H t [kV kv.1,kv.2]) ts kvs->bw (ts.map V.ref) aW ->
  ∃vs:List (aT×Value),KV kvs vs/\Paired (λu kv=>mU (bB X.prog X.w) s.heap u kv) aW vs
 | [],_,_,.nil,r=>by
  rw [mj] at r;cases r;exact⟨[],.nil,.nil⟩
 | t::ts,kv::kvs,_,.cons h p,r=>by
  rw [cE] at r;cases r with
  | cons r1 r2 =>
   obtain⟨vs,e1,e2⟩:=pairs_at I p r2;obtain⟨aW,rv,⟨o,h1,h2,n,h3⟩,_⟩:=I.tuple h;obtain⟨u1,u2,rfl,q1,q2⟩:=vals2 rv;exact⟨(kv.1,u2)::vs,.cons ⟨rfl,q2⟩ e1,.cons ⟨t,u1,n,o,r1,mf q1,h1,h2,h3⟩ e2⟩
theorem Paired.at_ {α β:Type}{F:α->β->Prop}:∀{xs:List α}{ys:List β},Paired F xs ys->∀(m:Nat)(y:β),ys[m]?=some y->∃x,xs[m]?=some x/\F x y
 | _,_,.nil,m,y,e=>by cases m <;> cases e
 | _,_,.cons h t,0,y,e=>by cases e;exact⟨_,rfl,h⟩
 | _,_,.cons h t,m+1,y,e=>Paired.at_ t m y e
def cV (hc:X.calm=true):gM X (.type "dict") (λxs H Q=>∃a ts kvs,xs=[.ref a]/\H a=some (.lst (ts.map V.ref))/\Paired (λt kv=>a_ X.K H t [kV kv.1,kv.2]) ts kvs/\∀d,H d=none->Q (.ref d) (upd H d (.dK (cM kvs [])))):=by
 intro aj s σ H xs us Q I r h;obtain⟨a,ts,kvs,rfl,e,p,q⟩:=h;obtain⟨u,rfl,rx⟩:=vals1 r;cases (show u=Value.ref a from rx);obtain⟨z,aW,n,rv,ho⟩:=(show cW X.prog X.w H s.heap a (.lst _) from I.cC a _ e);obtain⟨vs,r1,r2⟩:=pairs_at I p rv;have l1:=bc r2;have l2:=r1.length;have l3:=bc p;rw [au] at z;refine sW (bB X.prog X.w) (I.ok.hd hc) ho (by simpa using l1) (λm kv em=>?_) ∅ λh' t' hd kk=>?_
 .obtain⟨u,e1,e2⟩:=Paired.at_ r2 m kv em;exact⟨u,by simpa using e1,e2⟩
 have new:cW X.prog X.w (upd H s.heap.objs.size (.dK (cM kvs []))) h' s.heap.objs.size (.dK (cM kvs [])):=by
  refine sM ?_ ?_ (su r1 .nil) hd
  .have:=sE kvs [];simp at this;omega
  have:=I.big;exact jn.mpr (lY this)
 exact⟨.ref s.heap.objs.size,_,I.laid (t':=t') kk (aU _) new,rfl,q _ (I.cC.fresh (aU _))⟩
theorem uw {α β:Type}{F:α->β->Prop}:∀{xs:List α}{ys:List β},xs.length=ys.length->(∀(j:Nat) x y,xs[j]?=some x->ys[j]?=some y->F x y)->Paired F xs ys
 | [],[],_,_=>.nil
 | [],_::_,e,_=>by cases e
 | _::_,[],e,_=>by cases e
 | x::xs,y::ys,e,h=>.cons (h 0 x y rfl rfl) (uw (Nat.succ.inj e) λj a b e1 e2=>h (j+1) a b e1 e2)
def Km {P:Program}{w:World}{k:aT}{u:Value}(h:(bB P w).is k u=true):RelV (kV k) u:=by
 rcases dO (show rW k u=true from h) with ⟨i,t,rfl,rfl⟩ | ⟨x,t,rfl,rfl⟩
 .exact⟨t,rfl⟩
 exact⟨t,rfl⟩
def j4 (hc:X.calm=true):gM X (.type "list") (λxs H Q=>∃a kvs,xs=[.ref a]/\H a=some (.dK kvs)/\∀D,H D=none->Q (.ref D) (upd H D (.lst (kvs.map λp=>kV p.1)))):=by
 intro aj s σ H xs us Q I r h;obtain⟨a,kvs,rfl,e,q⟩:=h;obtain⟨u,rfl,rx⟩:=vals1 r;cases (show u=Value.ref a from rx);obtain⟨z,hs,vs,rel,dd⟩:=yd I.cC e;obtain⟨o,es,ep,d1,d2,d3,d4⟩:=dd;have l1:=rel.length;refine PySem.W.kdl_call (PySem.W.kdl_dict (knd:=bB X.prog X.w) (kvs:=vs) (ep:=ep) hs) (I.ok.hd hc) ⟨o,es,d1,d2,d3,d4⟩ ∅ λh' tk bF c kk hD CT=>?_;have keys:=rel.keys;have vals:bw (kvs.map λp=>kV p.1) bF.toList:=by
  refine uw (by have h1:=CT.1;simp only [au,qT];omega) λj x y e1 e2=>?_;rw [Array.getElem?_toList] at e2;obtain⟨k,v,e3,e4⟩:=CT.2 j y e2;rw [a9] at e1;obtain⟨p,e5,rfl⟩:=b_.mp e1;have e6:(kvs.map (·.1))[j]?=some p.1:=by rw [a9,e5];rfl
  rw [keys,a9,e3] at e6;cases e6;exact Km e4
 have new:cW X.prog X.w (upd H s.heap.objs.size (.lst (kvs.map λp=>kV p.1))) h' s.heap.objs.size (.lst (kvs.map λp=>kV p.1)):=⟨by rw [au];exact z,bF.toList,c,vals,by simpa using hD⟩;exact⟨.ref s.heap.objs.size,_,I.laid (t':=tk) kk (aU _) new,rfl,q _ (I.cC.fresh (aU _))⟩
end
def lB (v:V):Prop:=iR v=true\/∃r,v=.ref r
def og {x:V}(h:iR x=true):qe x x=true:=by
 cases x with
 | eZ=>rfl
 | bl b=>exact qC b
 | int i=>exact qC i
 | str z=>exact qC z
 | _=>cases h
def sI {A:Around}{s:Shared}{x:V}{u v:Value}(h:lB x)(ru:RelV x u)(rv:RelV x v):SeqAt.EqAt A s u v true:=by
 rcases h with h | ⟨r,rfl⟩
 .have q:=Au (A:=A) (s:=s) ru rv h h;rw [og h] at q;exact q
 cases (show u=Value.ref r from ru);cases (show v=Value.ref r from rv);exact .same _
section
variable {K:bp}{a D:Addr}{xs:List V}{ts:List Str}{js:List (Nat×Str)}{g:TG}{tif:TT}{te:TE}{R:Hp->Prop}{σ:St}{H:Hp}
def bS (Pv:Nat->List V->St->Hp->Prop)(h0:Pv 0 [] (eh ts js σ) (upd H D (.lst [])))(hl:∀i ys σ H,i<=xs.length->Pv i ys σ H->aG K H a xs)
  (hs:∀i x ys σ H,xs[i]?=some x->Pv i ys σ H->g x σ H λσ2 H2=>tif σ2 H2 λb H3=>if b=true then te σ2 H3 λy H4=>H4 D=some (.lst ys)/\ys.length < sizeLine/\Pv (i+1) (ys++[y]) σ2 (upd H4 D (.lst (ys++[y]))) else Pv (i+1) ys σ2 H3)
  (hd:∀ys σ H,Pv xs.length ys σ H->R H) :
  ∃W:Nat->Nat->List V->St->Hp->Prop,(∃m,W 0 m [] (eh ts js σ) (upd H D (.lst []))) /\
 ∀i m ys σ' H,W i m ys σ' H->((iU K a).stop i H/\R H)\/((iU K a).go i H/\∃m',m' < m/\∀x H',(iU K a).lR i H x H'->g x σ' H' λσ2 H2=>tif σ2 H2 λb H3 =>
  if b=true then te σ2 H3 λy H4=>H4 D=some (.lst ys)/\ys.length < sizeLine/\W (i+1) m' (ys++[y]) σ2 (upd H4 D (.lst (ys++[y]))) else W (i+1) m' ys σ2 H3):=by
 refine⟨λi m ys σ H=>m=xs.length - i/\i<=xs.length/\Pv i ys σ H,⟨xs.length,by simp,gG _,h0⟩,?_⟩;rintro i m ys σ' H ⟨rfl,hi,p⟩;have q:=hl i ys σ' H hi p;by_cases ke:i < xs.length
 .refine .inr ⟨⟨xs,xs[i],q,by simp [ke]⟩,xs.length - (i+1),∅,λx H' y=>?_⟩;obtain⟨e,y⟩:=y;subst e;have z:=hs i x ys σ' _ (y xs q) p;have h1:(i+1<=xs.length)=True:=eq_true ke;simp only [h1,true_and];exact z
 have e:i=xs.length:=by omega
 subst e;exact .inl ⟨⟨xs,q,aU _⟩,hd ys σ' H p⟩
end
def rV {K:bp}{t:Value}:PySem.W.kitOne K t t=some true:=by unfold PySem.W.kitOne;rw [ax (qC t)]
def OQ (t:TS):TS:=λD σ H=>∃R:St->Hp->Prop,t { D with nx:=R } σ H/\∀σ' H',R σ' H'->D.nx σ' H'
def gU {X:Cx}{st:Stmt}{t:TS}(h:PS X st t):PS X st (OQ t):=by
 intro aj s σ H D I ⟨R,q,m⟩;refine dC (h aj s σ H _ I q) λf s1 z=>?_;cases f with
 | next=>obtain⟨σ',H',I',r⟩:=z;exact⟨σ',H',I',m _ _ r⟩
 | ret v=>exact z
 | brk=>exact z
 | cont=>exact z
def aF (P:Program)(w:World)(K:bp)(mg:Str->Option Value)(base:Heap) (k:Nat)(x:Str) (ps:List Str)(sp:Sp):Prop :=
 ∃f fd,bV P w K mg base fK k f fd ps sp/\Binds K fd ps []/\PySem.W.keepIn K (.ref f)=true/\mg x=some (.ref f)
theorem aF.mono {P:Program}{w:World}{K:bp}{mg:Str->Option Value}{base:Heap}{j k:Nat}{x:Str}{ps:List Str}{sp:Sp}(c:aF P w K mg base j x ps sp)(h:j<=k):aF P w K mg base k x ps sp :=
 let ⟨f,fd,a,b⟩:=c;⟨f,fd,a.mono h,b⟩
def bq {X:Cx}{k:Nat}{x:Str}{ps:List Str}{sp:Sp}{e:Expr}{es:List Expr}{t:TA}{p pos:Pos}(c:aF X.prog X.w X.K X.mg X.base k x ps sp)(hr:fJ k X.A)(hg:Gl X x)(ha:PA X (e::es) t)
  (CP:(x == ("__debug__":Str))=false:=by decide)(he:starEach (e::es) X.env=(false,eval e X.env)::starEach es X.env:=by rfl)(wC:(backTo pos (starEach es X.env)).any (·.1)=false:=by rfl) :
  PE X (.Call (.Name x p) (e::es) [] pos) (JR sp [] E0 t):=by
 obtain⟨f,fd,G,b,kp,m⟩:=c;exact IG G hr hg m kp b .nil uu ha CP he wC
def fits {n:Nat}(h:n<=1000000):n<=sizeLine:=f_ h nofun
def bD {n:Nat}(h:n<=1000000):n < sizeLine:=tT h nofun
def af {H:Hp}{p:Addr}(h:H p=none)(o:HO):aC H (upd H p o):=λb u q=>by rw [ak (aB q h)];exact q
def aC.tup {K:bp}{H H':Hp}{a:Addr}{xs:List V}(e:aC H H')(h:a_ K H a xs):a_ K H' a xs:=by
 rcases h with (h | ⟨o,h⟩) | h
 .exact .inl (.inl (e _ _ h))
 .exact .inl (.inr ⟨o,e _ _ h⟩)
 exact .inr h
def cX {X:Cx}(hc:X.calm=true):gM X (.builtin "all") (λxs H Q=>∃(a:Addr)(bs:List Bool),xs=[.ref a]/\aG X.K H a (bs.map V.bl)/\Q (.bl (bs.all id)) H):=by
 intro aj s σ H xs us Q I r h;obtain⟨a,bs,rfl,hq,q⟩:=h;obtain⟨u,rfl,rx⟩:=vals1 r;cases (show u=Value.ref a from rx);obtain⟨aW,rv,pl,hz⟩:=I.list hq;obtain⟨o,h1,h2,m,h3⟩:=id pl.isList;have la:a < s.heap.objs.size:=bR h1;have ln:=rv.length;rw [au] at ln;have isB:∀(i:Nat) v,aW.toArray[i]?=some v->v=.bool (bs.getD i true):=λi v e=>by
  have e':aW[i]?=some v:=by simpa using e
  obtain⟨x,e2,e3⟩:=Paired.at_ rv i v e';rw [a9] at e2;obtain⟨b,e4,rfl⟩:=b_.mp e2;rw [ni,e4];exact e3
 refine call_all_walk (qD pl.isList ?_);refine⟨s.heap.objs.size,_,_,_,_,_,λi=>bs.getD i true,rfl,Walks.list (A:=X.A.in1) (show X.A.in1.handled=none from I.ok.hd hc) s.heap.objs.size a (cu la) aW.toArray,⟨⟨_,d8 _ rfl,rfl,rfl⟩,⟨o,cJ _ h1,h2,m,h3⟩⟩,?_,λh' tk kk=>?_⟩
 .intro i v s1 Q1 E1 hP hQ1;rw [isB i v hP];exact m_ hQ1
 have e:((List.range aW.toArray.size).all λi=>bs.getD i true)=bs.all id:=by
  rw [cH,<-ln,gi,dN,dN];constructor
  .intro h b hb;obtain⟨i,hi,e⟩:=qG.mp hb;have:=h i (mq.mpr hi);rw [ni,dI hi,e] at this;exact this
  intro h i hi;have Zj:=mq.mp hi;rw [ni,dI Zj];exact h _ (qP Zj)
 rw [e];exact⟨.bl _,H,I.kept (t':=tk) λb o' e'=>kk b o' (by simp;exact cu (bR e')) (cJ _ e'),rfl,q⟩
section
variable {prog:Program}{w:World}{A:Around}{E:Value->Shared->Prop}{s:Shared}
def zU {it l:Addr}{i:Nat}{items:Array Value}{x:Value}{Q:Value->Shared->Prop}(hit:s.heap.IsTupleIter it l i)(hl:s.heap.IsTuple l items)(hx:items[i]?=some x)
  (hQ:∀h',h'.IsTupleIter it l (i+1)->Heap.SameBut it s.heap h'->Q x { s with heap:=h' }):wpAny (model prog w) A (Builtin.SmallTypes.nextOf (.ref it)) Q E s:=by
 obtain⟨o,ho,hc,hd⟩:=id hit;obtain⟨ol,Vn,_,nl,By⟩:=hl;unfold Builtin.SmallTypes.nextOf;refine aN (tV (name:=Str.ofString "__next__") hit.typeIs vo (oG vo hit.typeIs F.entry_tuple_iterator_next ?_ (F.args_tuple_iterator_next_1 _)));show wpAny _ _ (field (.ref it) 0 >>= λv=>_) _ _ s;refine aN (jk ho hd (x:=.ref l) (by rfl) ?_);show wpAny _ _ (if (Value.ref l == .none)=true then _ else _) _ _ s;rw [az (by exact d5)];show wpAny _ _ (field (.ref it) 1 >>= λv=>_) _ _ s;refine aN (jk ho hd (x:=.int i 0) (by rfl) ?_);show wpAny _ _ (seqItems? (.ref l) >>= λv=>_) _ _ s;refine aN (qJ Vn By (by
  simp only [iJ,hx];refine aN (wpAny_setField ho hd (by simp) (ba ⟨x,rfl,ba (hQ _ ⟨_,Heap.get?_update_self _ ho (Obj.isFreed_of_fields (Obj.data_mapFields hd _)),(Obj.cls_mapFields ..).trans hc,?_⟩ (Heap.SameBut.update ..))⟩));rw [Obj.data_mapFields hd];simp [rawInt]))
def Av {e it l:Addr}{i:Nat}{items:Array Value}{x old:Value}{Q:Option Value->Shared->Prop}(he:IsEnum s.heap e it i old)(hit:s.heap.IsTupleIter it l i)(hl:s.heap.IsTuple l items)(hx:items[i]?=some x)(DE:e≠it)
  (hQ:∀h',IsEnumOut h' e it ((i:Int)+1) x s.heap.objs.size->h'.IsTupleIter it l (i+1)->h'.get? s.heap.objs.size=some { cls:=.type "tuple",data:=.seq #[.int i s.toks,x] } ->
   (∀b o,b≠e->b≠it->s.heap.get? b=some o->h'.get? b=some o)->Q (some (.ref s.heap.objs.size)) { s with heap:=h',toks:=s.toks+1 }) :
  wpAny (model prog w) A (pyNext (.ref e)) Q E s:=by
 have hT:s.TypeIs (.ref e) "enumerate" := ⟨_,he,rfl⟩;unfold pyNext;refine aN (wpAny_attempt (tV (name:=Str.ofString "__next__") hT vd (oG vd hT F.entry_enumerate_next ?_ (F.args_enumerate_next_1 _))));obtain⟨hp,g,d,tk,os⟩:=s;show wpAny _ _ (field (.ref e) 2 >>= λv=>_) _ _ _;refine aN (jk he rfl (x:=.ref it) (by rfl) (aN (zU hit hl hx λh₁ VA Qd=>?_)));replace Qd:Heap.SameBut it hp h₁:=Qd;have VI:IsEnum h₁ e it i old:=(Qd.2 e DE).trans he;show wpAny _ _ (field (.ref e) 3 >>= λv=>_) _ _ ⟨h₁,g,d,tk,os⟩;refine aN (jk VI rfl (x:=rawInt i) (by rfl) ?_);show wpAny _ _ (field (.ref e) 4 >>= λv=>_) _ _ ⟨h₁,g,d,tk,os⟩;refine aN (jk VI rfl (x:=.none) (by rfl) ?_);show wpAny _ _ (mkInt i >>= λv=>_) _ _ ⟨h₁,g,d,tk,os⟩;refine aN (wpAny_mkInt ?_);show wpAny _ _ (setField (.ref e) 3 (rawInt ((i:Int)+1)) >>= λv=>_) _ _ ⟨h₁,g,d,tk+1,os⟩;refine aN (qQ VI (by simp) λh₂ f₂ hs₂=>?_);have he₂:IsEnum h₂ e it ((i:Int)+1) old:=f₂;have k₂:Heap.SameBut e h₁ h₂:=hs₂;show wpAny _ _ (setField (.ref e) 4 .none >>= λv=>_) _ _ ⟨h₂,g,d,tk+1,os⟩;refine aN (qQ he₂ (by simp) λh₃ f₃ hs₃=>?_);have he₃:IsEnum h₃ e it ((i:Int)+1) old:=f₃;have k₃:Heap.SameBut e h₂ h₃:=hs₃;show wpAny _ _ (newTuple [.int i tk,x] >>= λv=>_) _ _ ⟨h₃,g,d,tk+1,os⟩;refine aN (wpAny_newTuple ?_);have Sq:IsEnum (h₃.push { cls:=.type "tuple",data:=.seq #[.int i tk,x] }) e it ((i:Int)+1) old:=cJ _ he₃;have hsz:h₃.objs.size=hp.objs.size:=by rw [k₃.1,k₂.1,Qd.1]
 have Qx:e < hp.objs.size:=bR he;have Y5:(h₃.push { cls:=.type "tuple",data:=.seq #[.int i tk,x] }).get? hp.objs.size=some { cls:=.type "tuple",data:=.seq #[.int i tk,x] }:=by rw [<-hsz];exact d8 _ rfl
 have Ze:∀b o,b≠e->b≠it->hp.get? b=some o->(h₃.push { cls:=.type "tuple",data:=.seq #[.int i tk,x] }).get? b=some o:=λb o n1 n2 hb=>cJ _ (k₃.extBut b o n1 (k₂.extBut b o n1 (Qd.extBut b o n2 hb)));have Qt:(h₃.push { cls:=.type "tuple",data:=.seq #[.int i tk,x] }).IsTupleIter it l (i+1):=VA.at λo q=>cJ _ (k₃.extBut it o (fO DE) (k₂.extBut it o (fO DE) q));generalize h₃.push { cls:=.type "tuple",data:=.seq #[.int i tk,x] }=h₄ at Sq Y5 Ze Qt ⊢;rw [hsz];show wpAny _ _ (Builtin.SmallTypes.ownedTupleIsFree (.ref e) >>= λv=>_) _ _ ⟨h₄,g,d,tk+1,os⟩;refine aN (by
  unfold Builtin.SmallTypes.ownedTupleIsFree;refine aN (jk Sq rfl (x:=.none) (by rfl) (ba (by
   simp only [if_true];refine aN (wpAny_rule (aN (jk Sq rfl (x:=old) (by rfl) (aN (qQ Sq (by simp) λh₅ f₅ hs₅=>?_)))));have he₅:IsEnum h₅ e it ((i:Int)+1) x:=f₅;have k₅:Heap.SameBut e h₄ h₅:=hs₅;show wpAny _ _ (Builtin.SmallTypes.ownedTupleHandOut (.ref e) (.ref hp.objs.size) >>= λv=>_) _ _ ⟨h₅,g,d,tk+1,os⟩;refine aN (by
    unfold Builtin.SmallTypes.ownedTupleHandOut;refine aN (qQ he₅ (by simp) λh₆ f₆ hs₆=>?_);have he₆:IsEnumOut h₆ e it ((i:Int)+1) x hp.objs.size:=f₆;have k₆:Heap.SameBut e h₅ h₆:=hs₆;refine qQ he₆ (by simp) λh₇ f₇ hs₇=>?_;have he₇:IsEnumOut h₇ e it ((i:Int)+1) x hp.objs.size:=f₇;have k₇:Heap.SameBut e h₆ h₇:=hs₇;have up:∀b o,b≠e->h₄.get? b=some o->h₇.get? b=some o:=λb o n q=>k₇.extBut b o n (k₆.extBut b o n (k₅.extBut b o n q));exact aN (wpAny_letGo (ba ⟨_,rfl,ba (hQ h₇ he₇ (Qt.at λo q=>up it o (fO DE) q) (up _ _ (lY Qx) Y5) λb o n1 n2 q=>up b o n1 (Ze b o n1 n2 q))⟩)))))))
def rQ {it l:Addr}{i:Nat}{items:Array Value}{Q:Value->Shared->Prop}(hh:A.handled=none)(hit:s.heap.IsTupleIter it l i)(hl:s.heap.IsTuple l items)(hx:items[i]?=none)
  (hE:∀h' e,Heap.ExtBut it s.heap h'->(∃o,h'.get? e=some o/\o.cls=.type "StopIteration")->E (.ref e) { s with heap:=h' }):wpAny (model prog w) A (Builtin.SmallTypes.nextOf (.ref it)) Q E s:=by
 obtain⟨o,ho,hc,hd⟩:=id hit;obtain⟨ol,Vn,_,nl,By⟩:=hl;unfold Builtin.SmallTypes.nextOf;refine aN (tV (name:=Str.ofString "__next__") hit.typeIs vo (oG vo hit.typeIs F.entry_tuple_iterator_next ?_ (F.args_tuple_iterator_next_1 _)));show wpAny _ _ (field (.ref it) 0 >>= λv=>_) _ _ s;refine aN (jk ho hd (x:=.ref l) (by rfl) ?_);show wpAny _ _ (if (Value.ref l == .none)=true then _ else _) _ _ s;rw [az (by exact d5)];show wpAny _ _ (field (.ref it) 1 >>= λv=>_) _ _ s;refine aN (jk ho hd (x:=.int i 0) (by rfl) ?_);show wpAny _ _ (seqItems? (.ref l) >>= λv=>_) _ _ s;refine aN (qJ Vn By ?_);simp only [iJ,hx];refine aN (wpAny_rule (aN (wpAny_setField ho hd (by simp) (aN ?_))));simp only [newExc,newTuple];refine aN (mZ ?_ (by size_fits));refine aN (m:=firstArgMember _ _) (wpAny_of_eq (a:=Value.none) (by first | rfl | (simp only [firstArgMember];rfl)) ?_)
 refine mZ ?_ (by size_fits);simp only [raiseNew];refine aN (wpAny_handled ?_)
 first | rw [show A.in1.handled=none from hh] | rw [hh]
 refine aN (ba (wpAny_throw (hE _ _ (((Heap.SameBut.update ..).extBut.push _).push _) ⟨_,d8 _ rfl,rfl⟩)))
def C1 {e it l:Addr}{i:Nat}{items:Array Value}{old:Value}{Q:Option Value->Shared->Prop}(hh:A.handled=none)(he:IsEnum s.heap e it i old)(hit:s.heap.IsTupleIter it l i)(hl:s.heap.IsTuple l items)(hx:items[i]?=none)
  (hQ:∀h',Heap.ExtBut it s.heap h'->Q none { s with heap:=h' }):wpAny (model prog w) A (pyNext (.ref e)) Q E s:=by
 have hT:s.TypeIs (.ref e) "enumerate" := ⟨_,he,rfl⟩;unfold pyNext;refine aN (wpAny_attempt (tV (name:=Str.ofString "__next__") hT vd (oG vd hT F.entry_enumerate_next ?_ (F.args_enumerate_next_1 _))));show wpAny _ _ (field (.ref e) 2 >>= λv=>_) _ _ _;refine aN (jk he rfl (x:=.ref it) (by rfl) (aN (rQ hh hit hl hx λh' x Hz U8=>?_)));obtain⟨o,ho,hc⟩:=U8;exact aN (wpAny_isInstance (T := "StopIteration") (b:=true) ⟨o,ho,hc⟩ isSubtype_stop (ba (hQ _ Hz)))
end
def xR (l:Addr)(items:Array Value) (n:Nat)(wO:Option Addr)(sl:Array (Option Value)) :
  Meets (Builtin.«enumerate.__new__» ⟨[.type "enumerate",.ref l],[]⟩) (λ_ R s=>s.heap.get? l=some { cls:=.type "tuple",dict:=wO,data:=.seq items n,slots:=sl } /\
   R (.ok (.ret (.ref (s.heap.push { cls:=.type "tuple_iterator",data:=.fields #[.ref l,.int 0 0] }).objs.size)))
    { s with heap:=(s.heap.push { cls:=.type "tuple_iterator",data:=.fields #[.ref l,.int 0 0] }).push { cls:=.type "enumerate",data:=.fields #[.none,.bool false,.ref s.heap.objs.size,rawInt 0,.none,.none] } }) :=
 .of_wp λprog w A R s h=>by
  obtain⟨hp,g,d,tk,os⟩:=s;obtain⟨hl,h⟩:=h;have aak:=sub_enumerate;have hT:Heap.IsTuple (Shared.heap ⟨hp,g,d,tk,os⟩) l items:=⟨_,hl,rfl,n,rfl⟩
  wp_walk using vk hl
  refine wpAny_stack_any λst=>ba ?_;split
  .rename_i c _ _ _ _ _
   cases (c == Value.type "enumerate")
   .wp_walk using vk hl,u6 hT;exact⟨_,rfl,h⟩
   wp_walk using vk hl,u6 hT;exact⟨_,rfl,h⟩
  wp_walk using vk hl,u6 hT;exact⟨_,rfl,h⟩
section
variable {prog:Program}{w:World}{A:Around}{E:Value->Shared->Prop}{s:Shared}
def AD {l:Addr}{items:Array Value}{Q:Value->Shared->Prop}(hL:s.heap.IsTuple l items)
  (h:∀h',IsEnum h' (s.heap.objs.size+1) s.heap.objs.size 0 .none->h'.IsTupleIter s.heap.objs.size l 0->(∀b o,s.heap.get? b=some o->h'.get? b=some o)->Q (.ref (s.heap.objs.size+1)) { s with heap:=h' }) :
  wpAny (model prog w) A (call (.type "enumerate") [.ref l]) Q E s:=by
 obtain⟨⟨c,wO,dt,sl⟩,hl,hc,n,hd⟩:=hL;replace hc:c=.type "tuple" := hc;replace hd:dt=.seq items n:=hd;subst hc hd;refine callType_new F.called_enumerate nofun (F.typeCall_enumerate_1 _) (F.newCall_enumerate_1 _) (λobj=>F.args_object_init_2 obj _) F.entry_enumerate_new (xR l items n wO sl) ⟨hl,?_⟩;have hz:(s.heap.push { cls:=.type "tuple_iterator",data:=.fields #[.ref l,.int 0 0] }).objs.size=s.heap.objs.size+1:=mn ..;show _/\_;rw [hz];have he:IsEnum ((s.heap.push { cls:=.type "tuple_iterator",data:=.fields #[.ref l,.int 0 0] }).push { cls:=.type "enumerate",data:=.fields #[.none,.bool false,.ref s.heap.objs.size,rawInt 0,.none,.none] }) (s.heap.objs.size+1) s.heap.objs.size 0 .none:=by
  have:=d8 (s.heap.push { cls:=.type "tuple_iterator",data:=.fields #[.ref l,.int 0 0] }) (o:={ cls:=.type "enumerate",data:=.fields #[.none,.bool false,.ref s.heap.objs.size,rawInt 0,.none,.none] }) rfl;rw [hz] at this;exact this
 exact⟨⟨_,he,rfl⟩,h _ he ⟨_,cJ _ (d8 _ rfl),rfl,rfl⟩ λb o x=>cJ _ (cJ _ x)⟩
end
def tD (K:bp)(a:Addr):It :=
 ⟨λi H=>∃xs x,a_ K H a xs/\xs[i]?=some x,λi H x H'=>∃t y,x=.ref t/\H t=none/\H'=upd H t (.tup [.int (i:Int),y])/\∀xs,a_ K H a xs->xs[i]?=some y,λi H=>∃xs,a_ K H a xs/\xs.length<=i⟩
def yZ {P:Program}{w:World}{K:bp}{elts:List Expr}{k:Nat}{vB:Pos}(a e it:Addr)(Qz:e≠it) :
  Turn P w K (.Tuple elts k vB) (tD K a) [e,it] e (λi h=>(∃old,IsEnum h e it i old)/\h.IsTupleIter it a i) where
 mem:=by simp
 obj:=λi h st b hb=>by
  obtain⟨⟨old,he⟩,o,e1,c,d⟩:=st;rcases b8.mp hb with rfl | hb
  .exact⟨_,he,λv z=>by cases z⟩
  obtain rfl:b=it:=by simpa using hb
  exact⟨o,e1,λv z=>by rw [d] at z;cases z⟩
 keep:=λi h h' st k=>⟨⟨st.1.choose,k e (by simp) _ st.1.choose_spec⟩,st.2.at λo q=>k it (by simp) o q⟩
 item:=by
  intro X hP hw hK hc i aj s σ H E I hf st hg;subst hP hw hK;obtain⟨xs,x,hq,hx⟩:=hg;obtain⟨aW,rv,p,hz⟩:=I.tuple hq;obtain⟨u,hu,ru⟩:=rv.get hx;obtain⟨⟨old,he⟩,hit⟩:=st;refine Av he hit (show s.heap.IsTuple a aW.toArray from p) (x:=u) (by simpa using hu) Qz λh1 ho My hT hk=>?_;refine⟨_,rfl,wpAny_letOwnedTupleGo_enum ho λh2 VJ sb=>?_⟩;have ne:s.heap.objs.size≠e:=lY (bR he);have kk:∀b o,b≠e->b≠it->s.heap.get? b=some o->h2.get? b=some o:=λb o n1 n2 q=>(sb.2 b n1).trans (hk b o n1 n2 q);have T2:h2.get? s.heap.objs.size=some { cls:=.type "tuple",data:=.seq #[.int i s.toks,u] }:=(sb.2 _ ne).trans hT;have fe:=hf e (by simp);have fi:=hf it (by simp);have fT:H s.heap.objs.size=none:=I.cC.fresh (aU _);have tr:∀b v,H b=some v->b≠e/\b≠it:=λb v q=>⟨λz=>(by rw [z,fe.1] at q;cases q),λz=>(by rw [z,fi.1] at q;cases q)⟩;have nc:∀b,b∉[e,it]->b≠e/\b≠it:=λb z=>⟨λq=>z (by simp [q]),λq=>z (by simp [q])⟩;have lt:∀b o,s.heap.get? b=some o->b≠s.heap.objs.size:=λb o q=>cu (bR q);have I2:Inv X aj σ (upd H s.heap.objs.size (.tup [.int (i:Int),x])) { s with heap:=h2,toks:=s.toks+1 }:=by
   refine I.call (g':=s.gens) (t':=s.toks+1) (d':=s.drawn) (ch:=[e,it]) ⟨λb o q _ _ c=>kk b o (nc b c).1 (nc b c).2 q,λb o q _ _ c=>⟨o.slots,kk b o (nc b c).1 (nc b c).2 q⟩,
    λb o q n _=>by rw [ak (lt b o q)];exact n,λb o q c=>⟨o,kk b o (nc b c).1 (nc b c).2 q⟩,λb ys q=>by rw [ak (aB q fT)];exact q,λb o v q=>by rw [ak (aB q fT)];exact q,
    λb ps q=>⟨#[],by rw [ak (aB q fT),q];simp⟩⟩ (λb v q=>?_) I.bare (λb hb=>?_)
   .by_cases hb:b=s.heap.objs.size
    .subst hb;rw [ae] at q;cases q;exact⟨by show 2<=sizeLine;decide,[.int i s.toks,u],.cons ⟨_,rfl⟩ (.cons ru .nil),_,T2,rfl,_,rfl⟩
    rw [ak hb] at q;refine(I.cC b v q).kO (λc o mS z=>?_) (λc q'=>by rw [ak (aB q' fT)];exact q') λc ys q'=>by rw [ak (aB q' fT)];exact q'
    rcases mS with rfl | mS
    .exact kk c o (tr c _ q).1 (tr c _ q).2 z
    exact kk c o (tr c _ mS).1 (tr c _ mS).2 z
   rcases b8.mp hb with rfl | hb
   .exact⟨fe.2.2.2.1,fe.2.1,fe.2.2.2.2.1,fe.2.2.2.2.2⟩
   obtain rfl:b=it:=by simpa using hb
   exact⟨fi.2.2.2.1,fi.2.1,fi.2.2.2.2.1,fi.2.2.2.2.2⟩
  refine⟨.ref s.heap.objs.size,_,I2,rfl,⟨_,x,rfl,fT,rfl,λys hy=>by rw [I.iF hy hq];exact hx⟩,⟨⟨_,VJ⟩,My.at λo q=>(sb.2 it Qz.symm).trans q⟩,λb hb=>?_⟩;have HH:H b=none/\∃o,s.heap.get? b=some o:=by
   rcases b8.mp hb with rfl | hb
   .exact⟨fe.1,_,he⟩
   obtain rfl:b=it:=by simpa using hb
   obtain⟨o,q,_⟩:=hit;exact⟨fi.1,o,q⟩
  obtain⟨n,o,q⟩:=HH;rw [ak (lt b o q)];exact n
 done:=by
  intro X hP hw hK hc i aj s σ H E I hf st hg;subst hP hw hK;obtain⟨xs,hq,hx⟩:=hg;obtain⟨aW,rv,p,hz⟩:=I.tuple hq;obtain⟨⟨old,he⟩,hit⟩:=st;obtain⟨f0,f1,f2,f3,f4,f5⟩:=hf it (by simp);have hl:=rv.length;exact C1 (I.ok.hd hc) he hit (show s.heap.IsTuple a aW.toArray from p) (by simp;omega) λh' eb=>⟨rfl,I.turned (t':=s.toks) (λb o hb e=>eb b o hb e) f0 f1 f3 f4 f5⟩
 self:=λ_ _ _ _ _ st h=>wpAny_pyIter_enum st.1.choose_spec h
def Mq (K:bp)(ta:TA):TI:=λσ H R=>ta σ H λvs H1=>Xn vs (a_ K H1) λa=>R (tD K a) H1
def kU {X:Cx}{elts:List Expr}{k:Nat}{vB:Pos}{l:Expr}{ta:TA}{p pos:Pos}(hg:Gl X "enumerate")(hm:X.mg "enumerate"=none)(ha:PA X [l] ta)(hs:starEach [l] X.env=[(false,eval l X.env)]:=by rfl) :
  PI X (.Tuple elts k vB) (.Call (.Name "enumerate" p) [l] [] pos) (Mq X.K ta):=by
 intro aj s σ H R I h;refine Call_ (jX I hg hm uT (vq (dC (ha pos aj s σ H _ I h) λus s1 bN=>?_) hs rfl));obtain⟨vs,H1,I1,r1,q1⟩:=bN;obtain⟨a,xs,e,hq,q⟩:=q1;subst e;obtain⟨u,rfl,rx⟩:=r1.one;cases rx;obtain⟨aW,rv,pl,hz⟩:=I1.tuple hq;refine AD (show s1.heap.IsTuple a aW.toArray from pl) λh1 he hit hk=>wpAny_pyIter_enum he ?_;refine⟨s1.heap.objs.size+1,[s1.heap.objs.size+1,s1.heap.objs.size],_,_,H1,rfl,I1.kept (t':=s1.toks) λb o e=>hk b o e,yZ a _ _ (lY (mY _)),⟨⟨_,he⟩,hit⟩,λb hb=>?_,q⟩;rcases b8.mp hb with rfl | hb
 .exact I1.wI (kj _) (I1.cC.fresh (kj _))
 obtain rfl:b=s1.heap.objs.size:=by simpa using hb
 exact I1.wI (aU _) (I1.cC.fresh (aU _))
open PySem PySem.Spec PyProof.Rows PySem.W
def kb (c':Addr)(qual:Str):HO:=.ext λh=>h.CodeRec (.ref c') qual
def oZ (f:Addr)(o:Obj):HO:=.ext λh=>h.get? f=some o
def yn {P:Program}{w:World}{H:Hp}{h:Heap}{c':Addr}{qual:Str}(hr:h.CodeRec (.ref c') qual):cW P w H h c' (kb c' qual):=by
 obtain⟨c2,oc,vs,t,e,yH,hd,hv⟩:=id hr;cases e;exact⟨hr,⟨oc,yH⟩,λh1 h2 ⟨c3,oc3,vs3,t3,e3,Vp,jf,NT⟩ k=>by cases e3;exact⟨_,oc3,vs3,t3,rfl,k _ Vp,jf,NT⟩⟩
def qw {P:Program}{w:World}{H:Hp}{h:Heap}{f:Addr}{o:Obj}(e:h.get? f=some o):cW P w H h f (oZ f o):=⟨e,⟨o,e⟩,λ_ _ q k=>k _ q⟩
def Tab (T:Addr)(pos:Pos)(qual:Str)(H:Hp):Prop :=
 ∃ps,H T=some (.tI ps)/\TriplesOk ps.toList/\(codeAmong pos ps.toList=none\/∃c',codeAmong pos ps.toList=some (.ref c')/\H c'=some (kb c' qual))
def gu (T:Addr)(H H':Hp):Prop:=∀b o,b≠T->H b=some o->H' b=some o
def tG (mg:Str->Option Value)(base:Heap):Prop :=
 ∃bm o,mg "__builtins__"=some (.ref bm)/\bm≠builtinsNs/\bm≠mainGlobals/\base.get? bm=some o/\o.cls=.type "module" /\ o.dict=some builtinsNs/\o.data=.plain
theorem jL {a b:Int}{ta tb:Tok}{c:Value}:∀l:List Value,TriplesOk l->TriplesOk (l++[.int a ta,.int b tb,c])
 | [],_=>trivial
 | [x],h=>by cases x <;> exact h.elim
 | [x,y],h=>by cases x <;> cases y <;> exact h.elim
 | x::y::z::r,h=>by
  cases x with
  | int i ti =>
   cases y with
   | int j tj=>exact jL r h
   | _=>exact h.elim
  | _=>exact h.elim
section
variable {X:Cx}{params:Arguments}{body:Expr}{scope:Scope}{pos:Pos}{c T:Addr}
noncomputable abbrev mK (X:Cx)(params:Arguments)(body:Expr)(scope:Scope)(c':Addr)(gN:Value):Obj:=kla_obj "<lambda>" (X.env.qual ++ "<lambda>") params body scope [] ((X.mg "__name__").getD .none) c' gN
def TH (X:Cx)(params:Arguments)(body:Expr)(scope:Scope)(pos:Pos)(T:Addr):TE:=λσ H Q=>Tab T pos (X.env.qual ++ "<lambda>") H /\
 ∀f c' gN H',gu T H H'->Tab T pos (X.env.qual ++ "<lambda>") H'->H f=none->H' f=some (oZ f (mK X params body scope c' gN))->H' c'=some (kb c' (X.env.qual ++ "<lambda>"))->Q (.ref f) H'
def E_ (rZ:X.env.code=.ref c)(hC:codeHdIn X.K c T=true)(hB:tG X.mg X.base)(nW:∀y∈scope.names,y.2≠.free)(Gf:defaultsOf params X.env=([],[]):=by rfl):PE X (.Lambda params body scope pos) (TH X params body scope pos T):=by
 intro aj s σ H Q I h;obtain⟨⟨ps,hT,ht,Gg⟩,q⟩:=h;refine kla_eval Gf ?_;have MJ:s.heap.get? T=some (tabObj ps):=(show cW X.prog X.w H s.heap T (.tI ps) from I.cC T _ hT);have hg:=I.mod.glob.keeps I.bk;have C:=codeHd_of_K I.wu hC;obtain⟨bm,ob,b1,b2,b3,b4,b5,b6,b7⟩:=hB;have Xd:=I.bk _ _ b4;have UA:bm≠T:=λz=>by
  have:=(I.bs _ _ b4).2;rw [z,hT] at this;cases this
 have Ux:mainGlobals≠T:=λz=>by
  obtain⟨o,es,ep,e,d,_⟩:=hg;rw [z,MJ] at e;cases e;cases d
 have QL:s.heap.BuiltinsAt X.mg T:=⟨bm,ob,b1,b2,b3,UA,Xd,b5,b6,b7⟩;have Hl:∀b v,H b=some v->b < s.heap.objs.size:=λb v e=>I.cC.lt e;rcases Gg with Qn | ⟨c',hf,mS⟩
 .refine kla_makeFunction (closureFor_none nW) I.ok.glob hg rZ C MJ ht Qn Ux QL λc' gN h' tk hx MC ke F3 F1=>?_;have hcr:∃oc,h'.get? c'=some oc:=by
   obtain⟨c2,oc,vs,t,e,yH,_⟩:=F3;cases e;exact⟨oc,yH⟩
  have rY:h'.objs.size > s.heap.objs.size:=tT MC ke;have keep:∀b o,b≠T->s.heap.get? b=some o->(h'.push (mK X params body scope c' gN)).get? b=some o:=λb o n e=>cJ _ (hx b o n e)
  let H':Hp:=upd (upd (upd H T (.tI (ps++#[rawInt pos.line,rawInt pos.col,.ref c']))) c' (kb c' (X.env.qual ++ "<lambda>"))) h'.objs.size (oZ h'.objs.size (mK X params body scope c' gN))
  have zY:∀b v,H b=some v->b≠c'/\b≠h'.objs.size:=λb v e=>⟨cu (gk (Hl b v e) MC),cu (kx (Hl b v e) rY)⟩;have Uz:c'≠h'.objs.size:=cu ke;have Pr:=zY T _ hT;have eT:H' T=some (.tI (ps++#[rawInt pos.line,rawInt pos.col,.ref c'])):=by
   show upd (upd (upd H T _) c' _) h'.objs.size _ T=_;rw [ak Pr.2,ak Pr.1,ae]
  have ec:H' c'=some (kb c' (X.env.qual ++ "<lambda>")):=by
   show upd (upd (upd H T _) c' _) h'.objs.size _ c'=_;rw [ak Uz,ae]
  have ef:H' h'.objs.size=some (oZ h'.objs.size (mK X params body scope c' gN)):=ae;have eo:∀b,b≠T->b≠c'->b≠h'.objs.size->H' b=H b:=λb n1 n2 n3=>by
   show upd (upd (upd H T _) c' _) h'.objs.size _ b=_;rw [ak n3,ak n2,ak n1]
  have sT:gu T H H':=λb o n e=>by rw [eo b n (zY b o e).1 (zY b o e).2];exact e
  have I2:Inv X aj σ H' { s with heap:=h'.push (mK X params body scope c' gN),toks:=tk }:=by
   refine I.call (g':=s.gens) (t':=tk) (d':=s.drawn) (ch:=[]) ⟨λb o e n _ _=>keep b o (λz=>by rw [z,hT] at n;cases n) e,λb o e n _ _=>⟨o.slots,keep b o (λz=>by rw [z,hT] at n;cases n) e⟩,λb o e n _=>?_,λb o e _=>?_,λb xs e=>?_,λb o u e=>?_,λb Ud e=>?_⟩ (λb v e=>?_) I.bare (λb hb=>nomatch hb)
   .have lb:=bR e;rw [eo b (λz=>by rw [z,hT] at n;cases n) (cu (gk lb MC)) (cu (kx lb rY))];exact n
   .by_cases z:b=T
    .exact⟨_,by rw [z];exact cJ _ F1⟩
    exact⟨o,keep b o z e⟩
   .exact sT b _ (λz=>by rw [z,hT] at e;cases e) e
   .exact sT b _ (λz=>by rw [z,hT] at e;cases e) e
   .by_cases z:b=T
    .subst z;rw [hT] at e;cases e;exact⟨_,eT⟩
    exact⟨#[],by rw [Array.append_empty];exact sT b _ z e⟩
   by_cases z1:b=h'.objs.size
   .subst z1;rw [ef] at e;cases e;exact qw (d8 _ rfl)
   by_cases z2:b=c'
   .subst z2;rw [ec] at e;cases e;refine yn ?_;obtain⟨c2,oc,vs,t,e',yH,hd,hv⟩:=F3;cases e';exact⟨_,oc,vs,t,rfl,cJ _ yH,hd,hv⟩
   by_cases z3:b=T
   .subst z3;rw [eT] at e;cases e;exact cJ _ F1
   rw [eo b z3 z2 z1] at e;refine(I.cC b v e).kO (λd o CQ e'=>?_) (λd e'=>sT d _ (λz=>by rw [z,hT] at e';cases e') e') λd ys e'=>sT d _ (λz=>by rw [z,hT] at e';cases e') e';rcases CQ with rfl | CQ
   .exact keep d o z3 e'
   exact keep d o (λz=>by rw [z,hT] at CQ;cases CQ) e'
  have fresh:H h'.objs.size=none:=I.cC.fresh (ku rY);exact⟨.ref h'.objs.size,H',I2,rfl,q _ c' gN H' sT ⟨_,eT,by rw [vc];exact jL _ ht,.inr ⟨c',by rw [vc];exact codeAmong_snoc _ ht Qn,ec⟩⟩ fresh ef ec⟩
 refine kla_makeFunctionHit (closureFor_none nW) I.ok.glob hg rZ C MJ ht hf QL λgN h' tk hk hsz=>?_;have keep:∀b o,s.heap.get? b=some o->(h'.push (mK X params body scope c' gN)).get? b=some o:=λb o e=>cJ _ (hk b o e);have fresh:H h'.objs.size=none:=I.cC.fresh hsz;refine⟨.ref h'.objs.size,_,I.laid (a:=h'.objs.size) (o:=oZ h'.objs.size (mK X params body scope c' gN)) (t':=tk) keep hsz (qw (d8 _ rfl)),rfl,?_⟩;refine q _ c' gN _ (λb o _ e=>by rw [ak (aB e fresh)];exact e) ⟨ps,by rw [ak (aB hT fresh)];exact hT,ht,.inr ⟨c',hf,by rw [ak (aB mS fresh)];exact mS⟩⟩ fresh ae (by rw [ak (aB mS fresh)];exact mS)
end
section
variable {P:Program}{w:World}{K:Frag}{mg:Str->Option Value}{base:Heap}{f c':Addr}{q:Str}{params:Arguments}{body:Expr}{scope:Scope}{pm gN:Value}{N ps:List Str}{k:Nat}{te:TE}
def Ja (S:aK N ps scope)(nX:∀us:List Value,us.length=ps.length->bindArgs (kla_fn "<lambda>" q params body scope [] pm (.ref c') gN) ⟨us,[]⟩=pure (ps.zip us))
  (jC:∀(A:Around)(outer:List Env)(s:Shared)(H:Hp),PE (pC fK P w K mg base N q scope f (.ref c') A outer s H λ_ _ _=>False) body te)
  (A:Around)(outer:List Env)(s:Shared)(H:Hp)(us:List Value)(vs:List V)(Q:VK)(hr:fJ (k+1) A)(e0:qh P w K mg base A outer s H)(hf:H f=some (oZ f (kla_obj "<lambda>" q params body scope [] pm c' gN)))
  (hc:H c'=some (kb c' q))(rv:bw vs us)(hl:vs.length=ps.length)(h:te (start N vs) H Q):codeAny (model P w) A (.call (.ref f) ⟨us,[]⟩) (CR fK outer P w H s Q λ_ _ _=>False) s:=by
 obtain⟨ef,_⟩:=e0.cC f _ hf;obtain⟨ec,_⟩:=e0.cC c' _ hc;have lu:us.length=ps.length:=by rw [<-rv.length];exact hl
 have lim:s.heap.NoLimit:=e0.mod.nolimit.keeps λb o e=>(e0.bs b o e).1;have jA:∀y∈ps.zip us,scope.names.lookup y.1=some .local\/(scope.names.lookup y.1=some .cell/\((cellsFrom (s.heap.objs.size+1) scope.names []).lookup y.1).isSome=true):=λ⟨n,v⟩ hy=>by
  rcases S.par n (List.of_mem_zip hy).1 with z | z
  .exact .inl z
  exact .inr ⟨z,cellsFrom_some _ _ _ (.inl z)⟩
 refine kla_callFunE hr.depth ef rfl S.co S.gen rfl ec ?_;rw [nX us lu];refine ba (wpAny_newFunctionEnv_cells S.kind jA λenv he s1 x=>?_);subst he;refine⟨lim.keeps x.toInCall.keep,kla_codeExpr ?_⟩;have I:Inv (pC fK P w K mg base N q scope f (.ref c') A outer s H λ_ _ _=>False) [] (start N vs) H s1:=uD S hr.hd e0 hl rv x;refine dY (jC A outer s H [] s1 (start N vs) H _ I h) (λv s' bN=>?_) λe s' z=>z;obtain⟨y,H',J,r,z⟩:=bN;exact⟨y,H',J.os,J.bare,J.base,J.cC,r,z⟩
end
section
variable {X:Cx}{i:Nat}{x:Str}{e:Expr}{es:List Expr}{t:TA}{p pos:Pos}{q:Str}{params:Arguments}{body:Expr}{scope:Scope}{N ps:List Str}{k:Nat}{te:TE}
def Eb (i:Nat)(q:Str)(params:Arguments)(body:Expr)(scope:Scope) (N ps:List Str)(t:TA)(te:TE):TE:=λσ H Q=>∃f pm c' gN,σ[i]?=some (some (.ref f)) /\
 t σ H λvs H1=>H1 f=some (oZ f (kla_obj "<lambda>" q params body scope [] pm c' gN))/\H1 c'=some (kb c' q)/\vs.length=ps.length/\te (start N vs) H1 Q
def zJ (hN:X.N[i]?=some x)(hx:X.env.scope.names.lookup x=some .local)(S:aK N ps scope)(hr:fJ (k+1) X.A)
  (nX:∀(pm gN:Value)(c':Addr)(us:List Value),us.length=ps.length->bindArgs (kla_fn "<lambda>" q params body scope [] pm (.ref c') gN) ⟨us,[]⟩=pure (ps.zip us))
  (jC:∀(f c':Addr)(A:Around)(outer:List Env)(s:Shared)(H:Hp),PE (pC fK X.prog X.w X.K X.mg X.base N q scope f (.ref c') A outer s H λ_ _ _=>False) body te)(ha:PA X (e::es) t)
  (CP:(x == ("__debug__":Str))=false:=by decide)(he:starEach (e::es) X.env=(false,eval e X.env)::starEach es X.env:=by rfl)(wC:(backTo pos (starEach es X.env)).any (·.1)=false:=by rfl) :
  PE X (.Call (.Name x p) (e::es) [] pos) (Eb i q params body scope N ps t te):=by
 intro aj s σ H Q I h;obtain⟨f,pm,c',gN,hσ,h⟩:=h;obtain⟨m,hn,hl⟩:=I.loc;obtain⟨u,ru,lk⟩:=hl i x (.ref f) hN hσ (.inl hx);cases (show u=Value.ref f from ru);have hm:m x=some (.ref f):=by
  rcases lk with l | ⟨l,_⟩
  .exact l.2
  have l':X.env.scope.names.lookup x=some .cell\/X.env.scope.names.lookup x=some .free:=l;rw [hx] at l';rcases l' with l' | l' <;> cases l'
 refine qE (wpAny_Name (vb I.ok.kind hx hn hm ?_) CP);refine callWith_def (o:=kla_obj "<lambda>" q params body scope [] pm c' gN) rfl (dC (ha pos aj s σ H _ I h) λus s1 bN=>?_) he;obtain⟨vs,H1,I1,r,z1,z2,z3,z4⟩:=bN;obtain⟨ef,_⟩:=I1.cC f _ z1;refine⟨ef,wpAny_call (oy (Ja (k:=k) S (λus hl=>nX pm gN c' us hl) (jC f c') X.A X.stack s1 H1 us vs Q hr I1.M4 z1 z2 r z3 z4) λr' s' z=>?_)⟩;cases r' with
 | error e=>exact z.elim
 | ok fl =>
  cases fl with
  | ret u=>exact I1.after z
  | next=>exact z.elim
  | brk=>exact z.elim
  | cont=>exact z.elim
end
def He (ts:List Addr)(H:Hp):Prop:=∀b,H b=none\/(∃o xs,H b=some (.ki o (.lst xs)))\/(b∈ts/\H b=some (.tI #[]))
def CI {P:Program}{w:World}{K:Frag}{mg mb:Str->Option Value}{CX:yL}{k:Nat}{fa a:Addr}{fd:FuncData}{x:Str}{sp:Sp}{s₁:Shared}{vs:List Value}{ns:List Int}{ts:List Addr}
  (KX:K.In s₁.heap)(xX:s₁.heap.Ns mainGlobals mg)(hb:s₁.heap.Ns builtinsNs mb)(MI:∀x:Str,x ≠ "__name__" -> mb x=bootBuiltins x)(Mx:s₁.heap.NoLimit)
  (hbm:∃bm ob,mg "__builtins__"=some (.ref bm)/\bm≠builtinsNs/\s₁.heap.get? bm=some ob/\ob.cls=.type "module" /\ ob.dict=some builtinsNs/\ob.data=.plain)(hg:s₁.gens=#[])
  (xc:∀T∈ts,s₁.heap.get? T=some (tabObj #[])/\K.lookup T=none/\∃c,codeHdIn K c T=true)
  (ha:s₁.heap.get? a=some { cls:=.type "list",data:=.seq vs.toArray })(hi:IntsAre vs ns)(hl:ns.length<=sizeLine)(hr:fJ k callerA)
  (F:∀base:Heap,K.In base->base.Ns mainGlobals mg->tG mg base->bV P w K mg base CX k fa fd [x] sp)(nX:∀(s:Shared)(u:Value),BindsTo s fd ⟨[u],[]⟩ [(x,u)])
  (yG:∀H:Hp,He ts H->(∀T∈ts,H T=some (.tI #[]))->aG K H a (ns.map V.int)->sp [.ref a] H (λv _=>v=.bl true) λ_ _ _=>False)
  (MP:∀H e s',CX [] H s₁ (λ_ _ _=>False) e s'->False) :
  codeAny (model P w) callerA (.call (.ref fa) ⟨[.ref a],[]⟩) (λr s'=>r=.ok (.ret (.bool true))/\OldK s₁.heap s'.heap/\s'.os=s₁.os/\AllBare s'.gens) s₁:=by
 have rv:=oQ hi;have Mf:=hi.length;have core:∀H:Hp,He ts H->(∀T∈ts,H T=some (.tI #[]))->aG K H a (ns.map V.int)->mi P w H s₁.heap->(∀b,H b≠none->b=a\/b∈ts)->(H a≠none->K.lookup a=none) ->
   codeAny (model P w) callerA (.call (.ref fa) ⟨[.ref a],[]⟩) (λr s'=>r=.ok (.ret (.bool true))/\OldK s₁.heap s'.heap/\s'.os=s₁.os/\AllBare s'.gens) s₁:=by
  intro H hO hT hS cC hA hK;have lP:∀{b:Addr}{o:Obj},s₁.heap.get? b=some o->H b=none->(mR s₁.heap H).get? b=some o:=λe n=>xZ e n;have off:∀{b:Addr}{o:Obj},s₁.heap.get? b=some o->(∀aW n,o.data≠.seq aW n)->(∀fs,o.data≠.fields fs)->H b=none:=λ{b o} e d1 d2=>by
   cases q:H b with
   | none=>rfl
   | some u =>
    rcases hA b (by rw [q];simp) with e' | e'
    .subst e';rw [ha] at e;cases e;exact(d1 _ _ rfl).elim
    rw [(xc b e').1] at e;cases e;exact(d2 _ rfl).elim
  have IZ:∀{b:Addr}{m:Str->Option Value},s₁.heap.Ns b m->(mR s₁.heap H).Ns b m:=λ{b m} ⟨o,es,ep,e,d,r⟩=>⟨o,es,ep,lP e (off e (λ_ _ z=>by rw [d] at z;cases z) λ_ z=>by rw [d] at z;cases z),d,r⟩;have QJ:K.In (mR s₁.heap H):=λb o e=>lP (KX b o e) (by
   cases q:H b with
   | none=>rfl
   | some u =>
    rcases hA b (by rw [q];simp) with e' | e'
    .subst e';rw [hK (by rw [q];simp)] at e;cases e
    rw [(xc b e').2.1] at e;cases e)
  have hM:Mod K mg (mR s₁.heap H):=⟨QJ,IZ xX,⟨mb,IZ hb,MI⟩,let ⟨mc,h1,h2⟩:=Mx;⟨mc,IZ h1,h2⟩⟩;have QK:tG mg (mR s₁.heap H):=by
   obtain⟨bm,ob,b1,b2,b3,b4,b5,b6⟩:=hbm;refine⟨bm,ob,b1,b2,λz=>?_,lP b3 (off b3 (λ_ _ z=>by rw [b6] at z;cases z) λ_ z=>by rw [b6] at z;cases z),b4,b5,b6⟩;obtain⟨o,es,ep,e,d,_⟩:=xX;rw [<-z,b3] at e;cases e;rw [b6] at d;cases d
  have e0:qh P w K mg (mR s₁.heap H) callerA [] s₁ H:=⟨rfl,hM,λb o e=>Br e,Nat.le_of_eq (uF _ _),trivial,λb hb=>absurd (show b∈([]:List Addr) from hb) (by simp),cC,.of_eq hg⟩;refine oy ((F _ QJ (IZ xX) QK).run callerA [] s₁ H ⟨[.ref a],[]⟩ [.ref a] [.ref a] _ _ hr e0 (nX s₁ (.ref a)) (.cons rfl .nil) (yG H hO hT hS)) λr s' h=>?_;cases r with
  | error e=>exact(MP H e s' h).elim
  | ok fl =>
   cases fl with
   | next=>exact False.elim h
   | brk=>exact False.elim h
   | cont=>exact False.elim h
   | ret u =>
    obtain⟨v,H',os,bare,un,Ji,r',q⟩:=h;have q':v=.bl true:=q;subst q';obtain rfl:u=Value.bool true:=r';have each:∀b o,s₁.heap.get? b=some o->asItWas s₁.heap s'.heap b o/\∃o',s'.heap.get? b=some o':=λb o e=>by
     cases q:H b with
     | none =>
      have z:=un.keep b o e q (by intro z;exact absurd (show b∈([]:List Addr) from z) (by simp)) (by simp);exact⟨.inl z,o,z⟩
     | some u =>
      rcases hO b with z | ⟨ob,xs,z⟩ | ⟨HH,z⟩
      .rw [q] at z;cases z
      .have z2:=un.mT b ob _ z;obtain⟨e1,_⟩:=cC b _ z;obtain⟨e2,_⟩:=Ji b _ z2;rw [e] at e1;cases e1;exact⟨.inl e2,_,e2⟩
      obtain⟨more,z2⟩:=un.nr b _ z;have e2:s'.heap.get? b=some (tabObj (#[]++more)):=Ji b _ z2;rw [(xc b HH).1] at e;cases e;obtain⟨c,hc⟩:=(xc b HH).2.2;obtain⟨oc,vs',file,tf,flags,tg,inF,text,tt,d1,d2,d3,d4,_⟩:=codeHd_of_K KX hc;exact⟨.inr (.inl ⟨⟨c,oc,vs',d1,d2,d3,d4⟩,rfl,#[],more,rfl,e2⟩),_,e2⟩
    exact⟨rfl,⟨λb o e=>(each b o e).1,λb o e=>(each b o e).2⟩,os,bare⟩
 have na:a∉ts:=λz=>by
  have:=(xc a z).1;rw [ha] at this;cases this
 cases hk:K.lookup a with
 | some o =>
  have e:=KX a o hk;rw [ha] at e;cases e;refine core (λb=>if b∈ts then some (.tI #[]) else none) (λb=>?_) (λT h=>ax h) (.inr ⟨_,vs.toArray,_,hk,rfl,rfl,rfl,by rw [cH,Mf];exact hl,by simpa using rv⟩) (λb u z=>?_) (λb z=>?_) λz=>absurd (az na) z
  .by_cases h:b∈ts
   .exact .inr (.inr ⟨h,ax h⟩)
   exact .inl (az h)
  .by_cases h:b∈ts
   .have z':=(ax h).symm.trans z;cases z';exact(xc b h).1
   have z':=(az h).symm.trans z;cases z'
  by_cases h:b∈ts
  .exact .inr h
  exact absurd (az h) z
 | none =>
  refine core (λb=>if b=a then some (.ki { cls:=.type "list",data:=.seq vs.toArray } (.lst (ns.map V.int))) else if b∈ts then some (.tI #[]) else none) (λb=>?_) (λT h=>?_) (.inl (.inr ⟨{ cls:=.type "list",data:=.seq vs.toArray },ax rfl⟩)) (λb u z=>?_) (λb z=>?_) λ_=>hk
  .by_cases hb:b=a
   .exact .inr (.inl ⟨_,_,ax hb⟩)
   by_cases h:b∈ts
   .exact .inr (.inr ⟨h,(az hb).trans (ax h)⟩)
   exact .inl ((az hb).trans (az h))
  .exact(az (λz:T=a=>na (z ▸ h))).trans (ax h)
  .by_cases hb:b=a
   .have z':=(ax hb).symm.trans z;cases z';subst hb;exact⟨ha,by rw [au];exact hl,vs,_,rv,ha⟩
   by_cases h:b∈ts
   .have z':=((az hb).trans (ax h)).symm.trans z;cases z';exact(xc b h).1
   have z':=((az hb).trans (az h)).symm.trans z;cases z'
  by_cases hb:b=a
  .exact .inl hb
  by_cases h:b∈ts
  .exact .inr h
  exact absurd ((az hb).trans (az h)) z
def DU {l:OpenLaw}{n k:Nat}{q:Program}{loose:List Str}{XP:(Str->Option Value)->Heap->Prop}{YP:World->Heap->Prop}{d:DefRec}{K:Params->Frag}{CX:World->yL}{sp:World->Sp}{x:Str}{ts:List Addr}
  (hn:l.most=some n)(F_:n<=sizeLine)(MD:d.params.defaults=[])(hr:fJ k callerA)
  (hY:∀(w:World)(h:Heap),YP w h->(K w.params).In h/\∀T∈ts,h.get? T=some (tabObj #[]))
  (hK:∀w:World,∀T∈ts,(K w.params).lookup T=none/\∃c,codeHdIn (K w.params) c T=true)
  (F:∀(w:World)(mg:Str->Option Value)(fa:Addr)(h:Heap),(K w.params).In h->h.Ns mainGlobals mg->mg d.name=some (.ref fa) ->
   ∃fd:FuncData,(∀(s:Shared)(u:Value),BindsTo s fd ⟨[u],[]⟩ [(x,u)]) /\
    ∀base:Heap,(K w.params).In base->base.Ns mainGlobals mg->tG mg base->bV l.prog w (K w.params) mg base (CX w) k fa fd [x] (sp w))
  (yG:∀(w:World)(H:Hp)(a:Addr)(ns:List Int),ns.length<=n->He ts H->(∀T∈ts,H T=some (.tI #[]))->aG (K w.params) H a (ns.map V.int)->sp w [.ref a] H (λv _=>v=.bl true) λ_ _ _=>False)
  (MP:∀(w:World)(H:Hp)(s:Shared)(e:Value)(s':Shared),CX w [] H s (λ_ _ _=>False) e s'->False) :
  WalkO q loose XP YP l.row.toRowW d [] (λf vs=>PySem.call f vs):=by
 refine H_.pX hn MD λw s₀ s₁ mg mb fa o pm cd doc a vs ns G Y ho hd wF Mw F5 hints bu hg=>?_;obtain⟨KX,TX⟩:=hY w _ Y;obtain⟨fd,hb,hF⟩:=F w mg fa _ KX G.T.g Mw;exact CI KX G.T.g G.T.b G.T.builtins G.T.nolimit G.T.bmain hg (λT hT=>⟨TX T hT,hK w T hT⟩) F5 hints (f_ bu F_) hr hF hb (λH hO hT hS=>yG w H a ns bu hO hT hS) λH e s'=>MP w H s₁ e s'
def aP {X:Cx}{scope:Scope}{js:List (Nat×Str)}(h:(js.all λp=>X.N[p.1]? == some p.2 && X.env.scope.names.lookup p.2 == some .cell && scope.names.lookup p.2 == some .free)=true)
  (h2:(scope.names.all λy=>y.2 != .free || X.env.scope.names.lookup y.1 == some .cell)=true):JO X scope js:=by
 refine⟨λp hp=>?_,λy hy=>?_⟩
 .have:=dN.mp h p hp;simp only [kr,beq_iff_eq] at this;exact⟨this.1.1,this.1.2,this.2⟩
 have:=dN.mp h2 _ hy;simpa using this
def uH {σ:St}{H:Hp}{A B:Hp->Prop}(h:A H):gI σ H λb H3=>if b=true then A H3 else B H3:=by
 show if true=true then A H else B H;exact fC h
def goN {i:Nat}{v:V}{σ:St}{H:Hp}{Q:St->Hp->Prop}(h:Q (σ.set i (some v)) H):dB i v σ H Q:=h
def FX {X:Cx}(K:bp)(hK:X.K=K:=by rfl):JL X (O9 K):=by
 subst hK;exact bZ
def wy {X:Cx}(K:bp)(hK:X.K=K:=by rfl):JL X (LA K):=by
 subst hK;exact bI
def d_ {X:Cx}{es:List Expr}{k:Nat}{t:KS}{n:Nat}{pos:Pos}(K:bp)(hc:X.calm=true)(h:Rp X es t)(hK:X.K=K:=by rfl)
  (hn:(assignEach es X.env).length=n:=by rfl)(yF:(assignEach es X.env).findIdx? (·.1)=none:=by rfl):PG X (.Tuple es k pos) (Ap K n t):=by
 subst hK;exact dD hc h hn yF
end L2
section
variable {P:PySem.Program}{w:PySem.World}{K:bp}{mg:PySem.Str->Option PySem.Value}{base:PySem.Heap}{f:PySem.Addr}{fd:PySem.FuncData}
namespace gY
open PySem L2
def top (i:Nat):Stmt:=PySem.Challenge.pw_wright_k23_begins_checked.main.body.getD i (.Pass ⟨0,0,0,0⟩)
abbrev zr:Stmt:=top 2
abbrev zi:Stmt:=top 3
abbrev rJ:Stmt:=top 18
abbrev vR:Stmt:=top 19
abbrev zx:Stmt:=top 20
abbrev EG:Stmt:=top 30
abbrev zk:Stmt:=top 31
abbrev Ln:Stmt:=top 32
abbrev rE:Stmt:=top 34
abbrev vU:Stmt:=top 35
abbrev nP:Stmt:=top 36
abbrev vQ:Stmt:=top 39
abbrev zj:Stmt:=top 40
abbrev Lp:Stmt:=top 41
abbrev EH:Stmt:=top 48
abbrev EE:Stmt:=top 4
abbrev Lo:Stmt:=top 5
abbrev nQ:Stmt:=top 43
abbrev oU:Stmt:=top 44
abbrev rH:Stmt:=top 45
abbrev sLT:Stmt:=top 46
structure Txt (mg:Str->Option Value):Prop where
 len:mg "len"=none
 Bk:mg "range"=none
 Sf:mg "isinstance"=none
 tup:mg "tuple"=none
 lst:mg "list"=none
 wO:mg "dict"=none
 all:mg "all"=none
 any:mg "any"=none
 str:mg "str"=none
 int:mg "int"=none
 WW:mg "bool"=none
 DG:mg "enumerate"=none
 sum:mg "sum"=none
 max:mg "max"=none
 min:mg "min"=none
section
def boot_all:bootBuiltins "all"=some (.builtin "all"):=by decide +kernel
def eG:bootBuiltins "list"=some (.type "list"):=by decide +kernel
def dS:bootBuiltins "dict"=some (.type "dict"):=by decide +kernel
def Mi:PySem.W.kitOne K (.type "int") (.type "bool")=some false:=by kernel_rfl
def zG (zs:List Str):∀v∈zs.map V.str,lB v:=λv hv=>by
 obtain⟨z,_,rfl⟩:=cx.mp hv;exact .inl rfl
end
end gY
namespace L2
open PySem
def bj {K:bp}{H:Hp}{D a:Addr}{xs ys:List V}{o:HO}(hD:H D=some (.lst ys))(h:a_ K H a xs):a_ K (upd H D o) a xs:=by
 rcases h with (h | ⟨u,h⟩) | h
 .exact .inl (.inl (by rw [ak (λz=>by rw [z,hD] at h;cases h)];exact h))
 .exact .inl (.inr ⟨u,by rw [ak (λz=>by rw [z,hD] at h;cases h)];exact h⟩)
 exact .inr h
def wU (kvs:List (aT×V))(k:aT):(kvs.any λkv=>decide (kv.1=k))=true↔k∈kvs.map (·.1):=by
 rw [List.any_eq_true,cx];constructor
 .rintro⟨x,h1,h2⟩;exact⟨x,h1,cw h2⟩
 rintro⟨x,h1,h2⟩;exact⟨x,h1,cf h2⟩
def v9 {kvs:List (aT×V)}{k:aT}{v:V}(h:k∈kvs.map (·.1)):(bM kvs k v).map (·.1)=kvs.map (·.1):=by
 unfold bM;rw [ax ((wU kvs k).mpr h),ik];refine List.map_congr_left λx hx=>?_;show (if x.1=k then (x.1,v) else x).1=x.1
 split <;> rfl
def gS {kvs:List (aT×V)}{k:aT}{v:V}(h:¬k∈kvs.map (·.1)):(bM kvs k v).map (·.1)=kvs.map (·.1)++[k]:=by
 unfold bM;rw [az (λz=>h ((wU kvs k).mp z)),bA];rfl
def eK (kvs:List (aT×V))(k:aT):(bh kvs k).isSome=true↔k∈kvs.map (·.1):=by
 rw [<-jq];exact wU kvs k
theorem cZ {α β γ:Type}{F:α->β->Prop}{G:α->γ->Prop}{φ:β->γ}:∀{xs:List α}{ys:List β},Paired F xs ys->(∀a b,F a b->G a (φ b))->Paired G xs (ys.map φ)
 | _,_,.nil,_=>.nil
 | _,_,.cons h t,k=>.cons (k _ _ h) (cZ t k)
def cP {z:Str}{l:List Str}:(Sum.inr z:aT)∈l.map Sum.inr↔z∈l:=by
 rw [cx];constructor
 .rintro⟨x,h1,h2⟩;rw [<-jJ h2];exact h1
 intro h;exact⟨z,h,rfl⟩
end L2
namespace M11
abbrev aw:=PySem.Str×List PySem.Str
noncomputable def gr (a:List PySem.Str)(h:PySem.Str):List PySem.Str:=if h∈a then a else a++[h]
def lU (bF hs:List PySem.Str):List PySem.Str:=hs.foldl gr bF
def addW (br a:List PySem.Str)(p:PySem.Str):List PySem.Str:=if p∈br then a else gr a p
noncomputable def tH (br bF ps:List PySem.Str):List PySem.Str:=ps.foldl (addW br) bF
noncomputable def NR (aa:List aw)(name:PySem.Str) (k:Nat):Bool:=decide ((aa[k]?.map (·.1))=some name)
noncomputable def nums (aa:List aw)(name:PySem.Str) (i:Nat):List Int:=((List.range i).filter (NR aa name)).map λk:Nat=>(k:Int)
def CB (aa:List aw)(name:PySem.Str) (i:Nat):nums aa name (i+1)=nums aa name i++(if NR aa name i=true then [(i:Int)] else []):=by
 unfold nums;rw [List.range_succ,qF,bA]
 congr 1
 by_cases h:NR aa name i=true
 .rw [ax h];simp [h]
 rw [az h];simp [h]
def xJ (aa:List aw)(name:PySem.Str) (i:Nat):(nums aa name i).length<=i:=by
 unfold nums;rw [au];have:=l7 (NR aa name) (List.range i);rw [u9] at this;exact this
def yu (a:List PySem.Str)(h:PySem.Str):(gr a h).length<=a.length+1:=by
 unfold gr;split <;> simp
theorem hU:∀(hs bF:List PySem.Str),(lU bF hs).length<=bF.length+hs.length
 | [],bF=>by simp [lU]
 | h::r,bF=>by
  have:=hU r (gr bF h);have:=yu bF h;show (lU (gr bF h) r).length<=_;rw [fc];omega
def G5 (br a:List PySem.Str)(p:PySem.Str):(addW br a p).length<=a.length+1:=by
 unfold addW;split
 .omega
 exact yu a p
theorem vv (br:List PySem.Str):∀(ps bF:List PySem.Str),(tH br bF ps).length<=bF.length+ps.length
 | [],bF=>by simp [tH]
 | p::r,bF=>by
  have:=vv br r (addW br bF p);have:=G5 br bF p;show (tH br (addW br bF p) r).length<=_;rw [fc];omega
end M11
namespace gY
open PySem L2 M11
def jy {bF:List (aT×V)}{as:List Str}(e:bF.map (·.1)=as.map Sum.inr)(h:Str){v:V}:(bM bF (Sum.inr h) v).map (·.1)=(gr as h).map Sum.inr:=by
 unfold gr;by_cases q:h∈as
 .rw [ax q,v9 (by rw [e];exact cP.mpr q),e]
 rw [az q,gS (by rw [e];exact λz=>q (cP.mp z)),e,bA];rfl
theorem ic:∀(hs:List Str)(bF:List (aT×V)) (as:List Str),bF.map (·.1)=as.map Sum.inr->(cM (hs.map λh=>((Sum.inr h:aT),V.bl true)) bF).map (·.1)=(lU as hs).map Sum.inr
 | [],bF,as,e=>e
 | h::r,bF,as,e=>by
  refine ic r (bM bF (Sum.inr h) (.bl true)) (gr as h) ?_;exact jy e h
def keys_str {kvs:List (aT×V)}{zs:List Str}(e:kvs.map (·.1)=zs.map Sum.inr):(kvs.map λp=>kV p.1)=zs.map V.str:=by
 have e2:(kvs.map λp=>kV p.1)=(kvs.map (·.1)).map kV:=by rw [ik];rfl
 rw [e2,e,ik];rfl
section
def B0 (K:bp)(H:Hp)(r:Addr)(ru:aw):Prop:=∃p,a_ K H r [.str ru.1,.ref p]/\a_ K H p (ru.2.map V.str)
def bQ (K:bp)(H:Hp)(rs:List Addr)(aa:List aw):Prop:=Paired (λr ru=>B0 K H r ru) rs aa
def bQ.keep {H H':Hp}{rs:List Addr}{aa:List aw}(h:bQ K H rs aa)(k:∀a xs,a_ K H a xs->a_ K H' a xs):bQ K H' rs aa:=Paired.dH h λr ru ⟨p,a,b⟩=>⟨p,k _ _ a,k _ _ b⟩
def bQ.same {H H':Hp}{rs:List Addr}{aa:List aw}(h:bQ K H rs aa)(s:aC H H'):bQ K H' rs aa:=h.keep λ_ _ z=>s.tup z
def bQ.get {H:Hp}{rs:List Addr}{aa:List aw}(h:bQ K H rs aa){i:Nat}{r:Addr}(e:rs[i]?=some r):∃ru,aa[i]?=some ru/\B0 K H r ru:=by
 have l:=bc h;have li:=(bf.mp e).1;have e2:aa[i]?=some (aa[i]'∅):=dI ∅;obtain⟨x,e3,e4⟩:=Paired.at_ h i _ e2;rw [e] at e3;cases e3;exact⟨_,e2,e4⟩
def sR {H:Hp}{R D:Addr}{rs:List Addr}{aa:List aw}{σ:St}{Qp:Hp->Prop}(hR:aG K H R (rs.map V.ref))(cy:bQ K H rs aa)(bu:aa.length<=1000)(hD:H D=none)
  (q:∀ts H2,aC H H2->H2 D=some (.lst (ts.map V.ref))->Paired (λt h=>a_ K H2 t [.str h,.bl true]) ts (aa.map (·.1))->Qp H2) :
  ∃W:Nat->Nat->List V->St->Hp->Prop,(∃m,W 0 m [] (eh ["head","parts"] [] σ) (upd H D (.lst []))) /\
 ∀i m ys σ' H,W i m ys σ' H->((iU K R).stop i H/\Qp H)\/((iU K R).go i H/\∃m',m' < m/\∀x H',(iU K R).lR i H x H'->Ap K 2 (jE (dB 0) (jE (dB 1) CU)) x σ' H' λσ2 H2=>gI σ2 H2 λb H3 =>
  if b=true then rf (gp (fS 0) (gp (tC (.bl true)) p_)) σ2 H3 λy H4=>H4 D=some (.lst ys)/\ys.length < sizeLine/\W (i+1) m' (ys++[y]) σ2 (upd H4 D (.lst (ys++[y]))) else W (i+1) m' ys σ2 H3):=by
 have ll:=bc cy;refine bS (xs:=rs.map V.ref) (λi ys σ2 H2=>∃ts:List Addr,ys=ts.map V.ref/\ts.length=i/\Paired (λt h=>a_ K H2 t [.str h,.bl true]) ts ((aa.take i).map (·.1))/\(∃y0 y1,σ2=[y0,y1])/\aC H H2/\H2 D=some (.lst ys))
  ⟨[],rfl,rfl,.nil,⟨none,none,rfl⟩,af hD _,ae⟩ (λi ys σ2 H2 _ h=>?_) (λi x ys σ2 H2 ex h=>?_) (λys σ2 H2 h=>?_)
 .obtain⟨_,_,_,_,_,sm,_⟩:=h;exact sm.seq hR
 .obtain⟨ts,rfl,ht,hp,⟨y0,y1,rfl⟩,sm,hd⟩:=h;rw [a9] at ex;obtain⟨r,er,rfl⟩:=b_.mp ex;obtain⟨ru,e1,p,v1,v2⟩:=cy.get er;have li:=(bf.mp e1).1;refine⟨r,_,rfl,sm.tup v1,rfl,_,_,rfl,_,_,rfl,rfl,?_⟩;refine uH ?_;refine⟨_,rfl,qW,λt ji=>⟨?_,bD (by rw [au];omega),ts++[t],?_,?_,?_,⟨_,_,rfl⟩,?_,ae⟩⟩
  .rw [ak (aB hd ji)];exact hd
  .rw [bA];rfl
  .rw [bW,ht];rfl
  .rw [cK,e1,bA];have jf:upd H2 t (.tup [.str ru.1,.bl true]) D=some (.lst (ts.map V.ref)):=by rw [ak (aB hd ji)];exact hd
   exact gF (Paired.dH hp λt' h' z=>bj jf ((af ji _).tup z)) (bj jf (a_.of ae))
  intro b o hb;rw [ak (λz=>by rw [z,hD] at hb;cases hb)];exact af ji _ _ _ (sm b o hb)
 obtain⟨ts,rfl,ht,hp,_,sm,hd⟩:=h;rw [au,ll,cv] at hp;exact q ts H2 sm hd hp
def i5 (K:bp):Sp:=λvs H Q _=>∃(R:Addr)(rs:List Addr)(aa:List aw),vs=[.ref R]/\aG K H R (rs.map V.ref)/\bQ K H rs aa/\aa.length<=1000 /\
 ∀D H',H D=none->aC H H'->H' D=some (.lst ((lU [] (aa.map (·.1))).map V.str))->Q (.ref D) H'
def Ip:aK ["rules"] ["rules"] (ay zr):=iz rfl rfl rfl rfl nofun
def Ft (F:hV K "heads_of" "heads_of" zr f fd)(T:Txt mg):bV P w K mg base fK 1 f fd ["rules"] (i5 K):=by
 refine F.ok Ip (λvs H Q E h=>?_) (λeX A outer s H vs Q E hr h=>?_)
 .obtain⟨R,rs,aa,rfl,_⟩:=h;rfl
 obtain⟨R,rs,aa,rfl,hR,cy,bu,q⟩:=h;refine⟨_,ao (aL (aX (j4 rfl) rfl T.lst eG (ab (aX (cV rfl) rfl T.wO dS (ab
  (aV ["head","parts"] [] rfl (aR (pv 0)) (aP rfl rfl) nofun rfl nofun
   (λ_ _ _ _ _=>d_ (n:=2) K rfl (av (aq (i:=0) (show (["head","parts"]:List Str).Nodup by decide +kernel) rfl (aZ rfl)) (av (aq (i:=1) (show (["head","parts"]:List Str).Nodup by decide +kernel) rfl (aZ rfl)) bo))) (λ_ _ _ _ _=>a0)
   (λ_ _ _ _ _=>bC (ab (pv 0) (ab cI ai)))) ai)) ai))),?_⟩
 dsimp only [GI];refine⟨_,rfl,R,rfl,⟨_,hR⟩,λD hD=>sR hR cy bu hD λts H2 sm hd hp=>?_⟩;have kp:Paired (λt (kv:aT×V)=>a_ K H2 t [kV kv.1,kv.2]) ts ((aa.map (·.1)).map λh=>((Sum.inr h:aT),V.bl true)):=cZ hp λ_ _ z=>z;refine⟨D,ts,_,rfl,hd,kp,λd hd2=>?_⟩;refine⟨d,_,rfl,ae,λD2 jD=>?_⟩;rw [keys_str (ic (aa.map (·.1)) [] [] rfl)];have nd:D2≠d:=λz=>by rw [z,ae] at jD;cases jD
 exact q D2 _ (sm.free (by rw [ak nd] at jD;exact jD)) (sm.trans ((af hd2 _).trans (af jD _))) ae
theorem jF:∀(aa:List aw) (n:Nat),aa.length<=n->(∀ru∈aa,ru.2.length<=8)->(aa.flatMap (·.2)).length<=8 * n
 | [],n,_,_=>by simp
 | ru::r,n,hl,h=>by
  rw [fc] at hl;have:=jF r (n - 1) ∅ λx hx=>h x (cY _ hx);have:=h ru cS;rw [List.flatMap_cons,bW];omega
def hd (aa:List aw):List Str:=lU [] (aa.map (·.1))
def A3 (K:bp):Sp:=λvs H Q _=>∃(R:Addr)(rs:List Addr)(aa:List aw),vs=[.ref R]/\aG K H R (rs.map V.ref)/\bQ K H rs aa/\aa.length<=1000/\(∀ru∈aa,ru.2.length<=8) /\
 ∀D H',H D=none->aC H H'->H' D=some (.lst ((tH (hd aa) [] (aa.flatMap (·.2))).map V.str))->Q (.ref D) H'
def lD:aK ["rules","heads","words","head","parts","part"] ["rules"] (ay zi):=iz rfl rfl rfl rfl nofun
def Fj (F:hV K "words_in" "words_in" zi f fd)(T:Txt mg):bV P w K mg base fK 1 f fd ["rules"] (A3 K):=by
 refine F.ok lD (λvs H Q E h=>?_) (λeX A outer s H vs Q E hr h=>?_)
 .obtain⟨R,rs,aa,rfl,_⟩:=h;rfl
 obtain⟨R,rs,aa,rfl,hR,cy,bu,h8,q⟩:=h;have hu:=fu hr;refine⟨_,ag (aA (i:=1) lD.nd rfl (aZ rfl) (aX (cV rfl) rfl T.wO dS (ab
  (aV ["head","parts"] [] rfl (aR (pv 0)) (aP rfl rfl) nofun rfl nofun
   (λ_ _ _ _ _=>d_ (n:=2) K rfl (av (aq (i:=0) (show (["head","parts"]:List Str).Nodup by decide +kernel) rfl (aZ rfl)) (av (aq (i:=1) (show (["head","parts"]:List Str).Nodup by decide +kernel) rfl (aZ rfl)) bo))) (λ_ _ _ _ _=>a0)
   (λ_ _ _ _ _=>bC (ab (pv 0) (ab cI ai)))) ai)))
  (ag (aA (i:=2) lD.nd rfl (aZ rfl) fk)
  (ag (bE bX rfl (aR (pv 0)) (dD rfl (av (aq (i:=3) lD.nd rfl (aZ rfl)) (av (aq (i:=4) lD.nd rfl (aZ rfl)) bo)))
   (ao (bE bX rfl (dQ (pv 4)) (aq (i:=5) lD.nd rfl (aZ rfl))
    (ao (bz (dP (df hu (pv 5) (pv 1))) (ao (fV hu (pv 2) (pv 5) cI rfl)) aI)))))
  (ao (aL (aX (j4 rfl) rfl T.lst eG (ab (pv 2) ai)))))),?_⟩
 nofun
 refine⟨_,rfl,R,rfl,⟨_,hR⟩,λD hD=>sR hR cy bu hD λts H2 sm hd2 hp=>?_⟩;have kp:Paired (λt (kv:aT×V)=>a_ K H2 t [kV kv.1,kv.2]) ts ((aa.map (·.1)).map λh=>((Sum.inr h:aT),V.bl true)):=cZ hp λ_ _ z=>z;refine⟨D,ts,_,rfl,hd2,kp,λd hdd=>?_⟩;have Kj:(cM ((aa.map (·.1)).map λh=>((Sum.inr h:aT),V.bl true)) []).map (·.1)=(hd aa).map Sum.inr:=ic (aa.map (·.1)) [] [] rfl;generalize cM ((aa.map (·.1)).map λh=>((Sum.inr h:aT),V.bl true)) []=kH at Kj ⊢;have NH:=sm.trans (af hdd (.dK kH));have jf:upd H2 d (.dK kH) d=some (.dK kH):=ae;generalize upd H2 d (.dK kH)=H3 at NH jf;intro e he;have hde:∀o,upd H3 e o d=some (.dK kH):=λo=>by rw [ak (aB jf he)];exact jf
 have Bd:∀o,aC H (upd H3 e o):=λo=>NH.trans (af he o);have ll:=bc cy
 let oo:lW:=λi σ H5=>∃(kvs:List (aT×V))(y3 y4 y5:Option V),σ=[aD R,aD d,aD e,y3,y4,y5]/\H5=upd H3 e (.dK kvs) /\
  kvs.map (·.1)=(tH (hd aa) [] ((aa.take i).flatMap (·.2))).map Sum.inr
 refine⟨_,rfl,R,rfl,⟨_,(Bd _).seq hR⟩,cq (xs:=rs.map V.ref) oo ⟨[],none,none,none,rfl,rfl,rfl⟩ ?_ ?_ ?_⟩
 .rintro i σ H5 _ ⟨kvs,y3,y4,y5,rfl,rfl,_⟩;exact(Bd _).seq hR
 .rintro i x σ H5 ex ⟨kvs,y3,y4,y5,rfl,rfl,hk⟩
  ac_nf0
  rw [a9] at ex;obtain⟨r,er,rfl⟩:=b_.mp ex;obtain⟨ru,e1,p,v1,v2⟩:=cy.get er;have li:=(bf.mp e1).1;have HJ:=h8 ru (b9 e1);have eT:(aa.take (i+1)).flatMap (·.2)=(aa.take i).flatMap (·.2)++ru.2:=by
   rw [cK,e1,List.flatMap_append];simp
  have lA:((aa.take i).flatMap (·.2)).length<=8 * i:=jF (aa.take i) i (by rw [dr];omega) λru gX=>h8 ru (qH gX);refine⟨r,_,rfl,(Bd _).tup v1,rfl,_,_,rfl,_,_,rfl,rfl,?_⟩
  let wZ:lW:=λj σ H6=>∃(kvs:List (aT×V))(y5:Option V),σ=[aD R,aD d,aD e,some (.str ru.1),aD p,y5]/\H6=upd H3 e (.dK kvs) /\
   kvs.map (·.1)=(tH (hd aa) [] ((aa.take i).flatMap (·.2)++ru.2.take j)).map Sum.inr
  refine⟨_,rfl,p,rfl,⟨_,(Bd _).tup v2⟩,BG (xs:=ru.2.map V.str) wZ ⟨kvs,_,rfl,rfl,by rw [List.take_zero,il];exact hk⟩ ?_ ?_ ?_⟩
  .rintro j σ H6 _ ⟨kvs,y5,rfl,rfl,_⟩;exact(Bd _).tup v2
  .rintro j x σ H6 lS ⟨kvs,y5,rfl,rfl,yI⟩
   ac_nf0
   rw [a9] at lS;obtain⟨z,ez,rfl⟩:=b_.mp lS;have lj:=(bf.mp ez).1;have eS:tH (hd aa) [] ((aa.take i).flatMap (·.2)++ru.2.take (j+1))=addW (hd aa) (tH (hd aa) [] ((aa.take i).flatMap (·.2)++ru.2.take j)) z:=by
    rw [cK,ez,<-lZ];exact u7
   have lk:kvs.length<=8 * i+8:=by
    have h1:kvs.length=(tH (hd aa) [] ((aa.take i).flatMap (·.2)++ru.2.take j)).length:=by
     have:=congrArg List.length yI;rw [au,au] at this;exact this
    have h2:=vv (hd aa) ((aa.take i).flatMap (·.2)++ru.2.take j) [];rw [bW,dr] at h2;simp only [jl] at h2;omega
   have mem:(bh kH (Sum.inr z)).isSome=true↔z∈hd aa:=by rw [eK,Kj];exact cP
   refine⟨_,rfl,_,rfl,d,_,rfl,b0.k (k:=Sum.inr z) (hde _),_,rfl,?_⟩;refine bJ (λc=>?_) (λc=>?_)
   .have nm:z∉hd aa:=λh=>by rw [mem.mpr h] at c;exact absurd c nofun
    refine⟨_,rfl,_,rfl,e,_,rfl,j6.k (k:=Sum.inr z) ae (bD ∅),?_⟩;refine⟨bM kvs (Sum.inr z) (.bl true),_,rfl,by rw [nq],?_⟩;rw [eS];unfold addW;rw [az nm];exact jy yI z
   have im:z∈hd aa:=mem.mp (by
    cases h:(bh kH (Sum.inr z)).isSome with
    | true=>rfl
    | false=>exact absurd (by rw [h];rfl) c)
   refine⟨kvs,_,rfl,rfl,?_⟩;rw [eS];unfold addW;rw [ax im];exact yI
  rintro σ H6 ⟨kvs,y5,rfl,rfl,yI⟩;rw [au,cv,<-eT] at yI;exact⟨kvs,_,_,_,rfl,rfl,yI⟩
 rintro σ H5 ⟨kvs,y3,y4,y5,rfl,rfl,hk⟩;rw [au,ll,cv] at hk;refine⟨_,rfl,e,_,rfl,ae,λD2 jD=>?_⟩;rw [keys_str hk];exact q D2 _ ((Bd _).free jD) ((Bd _).trans (af jD _)) ae
end
end gY
namespace L2
open PySem
section
variable {K:bp}{a D:Addr}{xs:List V}{ts:List Str}{js:List (Nat×Str)}{g:TG}{tif:TT}{te:TE}{R:Hp->Prop}{σ:St}{H:Hp}
def gL (Pv:Nat->List V->St->Hp->Prop)(h0:Pv 0 [] (eh ts js σ) (upd H D (.lst [])))(hl:∀i ys σ H,i<=xs.length->Pv i ys σ H->a_ K H a xs)
  (hs:∀i x ys σ H,xs[i]?=some x->Pv i ys σ H->g x σ H λσ2 H2=>tif σ2 H2 λb H3=>if b=true then te σ2 H3 λy H4=>H4 D=some (.lst ys)/\ys.length < sizeLine/\Pv (i+1) (ys++[y]) σ2 (upd H4 D (.lst (ys++[y]))) else Pv (i+1) ys σ2 H3)
  (hd:∀ys σ H,Pv xs.length ys σ H->R H) :
  ∃W:Nat->Nat->List V->St->Hp->Prop,(∃m,W 0 m [] (eh ts js σ) (upd H D (.lst []))) /\
 ∀i m ys σ' H,W i m ys σ' H->((ot K a).stop i H/\R H)\/((ot K a).go i H/\∃m',m' < m/\∀x H',(ot K a).lR i H x H'->g x σ' H' λσ2 H2=>tif σ2 H2 λb H3 =>
  if b=true then te σ2 H3 λy H4=>H4 D=some (.lst ys)/\ys.length < sizeLine/\W (i+1) m' (ys++[y]) σ2 (upd H4 D (.lst (ys++[y]))) else W (i+1) m' ys σ2 H3):=by
 refine⟨λi m ys σ H=>m=xs.length - i/\i<=xs.length/\Pv i ys σ H,⟨xs.length,by simp,gG _,h0⟩,?_⟩;rintro i m ys σ' H ⟨rfl,hi,p⟩;have q:=hl i ys σ' H hi p;by_cases ke:i < xs.length
 .refine .inr ⟨⟨xs,xs[i],q,by simp [ke]⟩,xs.length - (i+1),∅,λx H' y=>?_⟩;obtain⟨e,y⟩:=y;subst e;have z:=hs i x ys σ' _ (y xs q) p;have h1:(i+1<=xs.length)=True:=eq_true ke;simp only [h1,true_and];exact z
 have e:i=xs.length:=by omega
 subst e;exact .inl ⟨⟨xs,q,aU _⟩,hd ys σ' H p⟩
def ym (Pv:Nat->List V->St->Hp->Prop)(h0:Pv 0 [] (eh ts js σ) (upd H D (.lst [])))(hl:∀i ys σ H,i<=xs.length->Pv i ys σ H->a_ K H a xs)
  (hs:∀i x ys σ H t,xs[i]?=some x->Pv i ys σ H->H t=none->g (.ref t) σ (upd H t (.tup [.int (i:Int),x])) λσ2 H2=>tif σ2 H2 λb H3=>if b=true then te σ2 H3 λy H4=>H4 D=some (.lst ys)/\ys.length < sizeLine/\Pv (i+1) (ys++[y]) σ2 (upd H4 D (.lst (ys++[y]))) else Pv (i+1) ys σ2 H3)
  (hd:∀ys σ H,Pv xs.length ys σ H->R H) :
  ∃W:Nat->Nat->List V->St->Hp->Prop,(∃m,W 0 m [] (eh ts js σ) (upd H D (.lst []))) /\
 ∀i m ys σ' H,W i m ys σ' H->((tD K a).stop i H/\R H)\/((tD K a).go i H/\∃m',m' < m/\∀x H',(tD K a).lR i H x H'->g x σ' H' λσ2 H2=>tif σ2 H2 λb H3 =>
  if b=true then te σ2 H3 λy H4=>H4 D=some (.lst ys)/\ys.length < sizeLine/\W (i+1) m' (ys++[y]) σ2 (upd H4 D (.lst (ys++[y]))) else W (i+1) m' ys σ2 H3):=by
 refine⟨λi m ys σ H=>m=xs.length - i/\i<=xs.length/\Pv i ys σ H,⟨xs.length,by simp,gG _,h0⟩,?_⟩;rintro i m ys σ' H ⟨rfl,hi,p⟩;have q:=hl i ys σ' H hi p;by_cases ke:i < xs.length
 .refine .inr ⟨⟨xs,xs[i],q,by simp [ke]⟩,xs.length - (i+1),∅,λx H' y=>?_⟩;obtain⟨t,y0,rfl,ht,rfl,y⟩:=y;have z:=hs i y0 ys σ' _ t (y xs q) p ht;have h1:(i+1<=xs.length)=True:=eq_true ke;simp only [h1,true_and];exact z
 have e:i=xs.length:=by omega
 subst e;exact .inl ⟨⟨xs,q,aU _⟩,hd ys σ' H p⟩
end
def iQ {K:bp}{a:Addr}{xs:List V}{g:TG}{tb:TS}{D:Ends}{σ:St}{H:Hp}(Pv:Nat->St->Hp->Prop)(h0:Pv 0 σ H)(hl:∀i σ H,i<=xs.length->Pv i σ H->aG K H a xs)
  (hs:∀i x σ H t,xs[i]?=some x->Pv i σ H->H t=none->g (.ref t) σ (upd H t (.tup [.int (i:Int),x])) λσ2 H2=>tb { D with nx:=Pv (i+1),ct:=Pv (i+1),bk:=D.nx } σ2 H2)(hd:∀σ H,Pv xs.length σ H->D.nx σ H) :
  ∃W:Nat->Nat->St->Hp->Prop,(∃m,W 0 m σ H)/\∀i m σ H,W i m σ H ->
   ((Rw K a).stop i H/\D.nx σ H)\/((Rw K a).go i H/\∃N:St->Hp->Prop,(∀σ' H',N σ' H'->∃m',m' < m/\W (i+1) m' σ' H')/\∀x H',(Rw K a).lR i H x H'->g x σ H' λσ2 H2=>tb { D with nx:=N,ct:=N,bk:=D.nx } σ2 H2):=by
 refine⟨λi m σ H=>m=xs.length - i/\i<=xs.length/\Pv i σ H,⟨xs.length,by simp,gG _,h0⟩,?_⟩;rintro i m σ H ⟨rfl,hi,p⟩;have q:=hl i σ H hi p;by_cases ke:i < xs.length
 .refine .inr ⟨⟨xs,xs[i],q,by simp [ke]⟩,Pv (i+1),λσ' H' p'=>⟨xs.length - (i+1),∅,rfl,ke,p'⟩,λx H' y=>?_⟩;obtain⟨t,y0,rfl,ht,rfl,y⟩:=y;exact hs i y0 σ _ t (y xs q) p ht
 have e:i=xs.length:=by omega
 subst e;exact .inl ⟨⟨xs,q,aU _⟩,hd σ H p⟩
def lH {K:bp}{a:Addr}{xs:List V}{g:TG}{tb:TS}{D:Ends}{σ:St}{H:Hp}(Pv:Nat->St->Hp->Prop)(h0:Pv 0 σ H)(hl:∀i σ H,i<=xs.length->Pv i σ H->a_ K H a xs)
  (hs:∀i x σ H t,xs[i]?=some x->Pv i σ H->H t=none->g (.ref t) σ (upd H t (.tup [.int (i:Int),x])) λσ2 H2=>tb { D with nx:=Pv (i+1),ct:=Pv (i+1),bk:=D.nx } σ2 H2)(hd:∀σ H,Pv xs.length σ H->D.nx σ H) :
  ∃W:Nat->Nat->St->Hp->Prop,(∃m,W 0 m σ H)/\∀i m σ H,W i m σ H ->
   ((tD K a).stop i H/\D.nx σ H)\/((tD K a).go i H/\∃N:St->Hp->Prop,(∀σ' H',N σ' H'->∃m',m' < m/\W (i+1) m' σ' H')/\∀x H',(tD K a).lR i H x H'->g x σ H' λσ2 H2=>tb { D with nx:=N,ct:=N,bk:=D.nx } σ2 H2):=by
 refine⟨λi m σ H=>m=xs.length - i/\i<=xs.length/\Pv i σ H,⟨xs.length,by simp,gG _,h0⟩,?_⟩;rintro i m σ H ⟨rfl,hi,p⟩;have q:=hl i σ H hi p;by_cases ke:i < xs.length
 .refine .inr ⟨⟨xs,xs[i],q,by simp [ke]⟩,Pv (i+1),λσ' H' p'=>⟨xs.length - (i+1),∅,rfl,ke,p'⟩,λx H' y=>?_⟩;obtain⟨t,y0,rfl,ht,rfl,y⟩:=y;exact hs i y0 σ _ t (y xs q) p ht
 have e:i=xs.length:=by omega
 subst e;exact .inl ⟨⟨xs,q,aU _⟩,hd σ H p⟩
def jG {K:bp}{H:Hp}{p D d:Addr}{zs:List Str}{kvs:List (aT×V)}{σ:St}{js:List (Nat×Str)}{Qp:Hp->Prop}(hσ:eh ["part"] js σ=[none,aD d])(hp:a_ K H p (zs.map V.str))(hz:zs.length<=1000)
  (hd:H d=some (.dK kvs))(hD:H D=none)(q:∀H2,aC H H2->H2 D=some (.lst ((zs.map λz=>(bh kvs (Sum.inr z)).isSome).map V.bl))->Qp H2) :
  ∃W:Nat->Nat->List V->St->Hp->Prop,(∃m,W 0 m [] (eh ["part"] js σ) (upd H D (.lst []))) /\
 ∀i m ys σ' H,W i m ys σ' H->((ot K p).stop i H/\Qp H)\/((ot K p).go i H/\∃m',m' < m/\∀x H',(ot K p).lR i H x H'->dB 0 x σ' H' λσ2 H2=>gI σ2 H2 λb H3 =>
  if b=true then OP (fS 0) (fS 1) σ2 H3 λy H4=>H4 D=some (.lst ys)/\ys.length < sizeLine/\W (i+1) m' (ys++[y]) σ2 (upd H4 D (.lst (ys++[y]))) else W (i+1) m' ys σ2 H3):=by
 refine gL (xs:=zs.map V.str) (λi ys σ2 H2=>ys=(((zs.take i).map λz=>(bh kvs (Sum.inr z)).isSome).map V.bl)/\(∃y0,σ2=[y0,aD d])/\aC H H2/\H2 D=some (.lst ys))
  ⟨rfl,⟨none,hσ⟩,af hD _,ae⟩ (λi ys σ2 H2 _ h=>h.2.2.1.tup hp) (λi x ys σ2 H2 ex h=>?_) (λys σ2 H2 h=>?_)
 .obtain⟨rfl,⟨y0,rfl⟩,sm,hd2⟩:=h;rw [a9] at ex;obtain⟨z,ez,rfl⟩:=b_.mp ex;have li:=(bf.mp ez).1;refine goN (uH ?_);refine⟨_,rfl,_,rfl,d,_,rfl,b0.k (k:=Sum.inr z) (sm _ _ hd),hd2,bD (by rw [au,au,dr];omega),?_,⟨_,rfl⟩,?_,ae⟩
  .rw [cK,ez,bA,bA];rfl
  intro b o hb;rw [ak (λz=>by rw [z,hD] at hb;cases hb)];exact sm b o hb
 obtain⟨rfl,_,sm,hd2⟩:=h;rw [au,cv] at hd2;exact q H2 sm hd2
def hZ {K:bp}{H:Hp}{D a:Addr}{xs:List V}{ys:List (aT×V)}{o:HO}(hD:H D=some (.dK ys))(h:a_ K H a xs):a_ K (upd H D o) a xs:=by
 rcases h with (h | ⟨u,h⟩) | h
 .exact .inl (.inl (by rw [ak (λz=>by rw [z,hD] at h;cases h)];exact h))
 .exact .inl (.inr ⟨u,by rw [ak (λz=>by rw [z,hD] at h;cases h)];exact h⟩)
 exact .inr h
theorem gK {α:Type} [DecidableEq α]:∀(l m:List α),l.Nodup->(∀x∈l,x∈m)->l.length<=m.length
 | [],m,_,_=>gG _
 | a::l,m,hn,h=>by
  have hm:=h a cS;have:=gK l (m.erase a) (iI.mp hn).2 λx hx=>(List.mem_erase_of_ne (λz:x=a=>(iI.mp hn).1 (by rw [<-z];exact hx))).mpr (h x (cY _ hx));rw [yS hm] at this;have:=yM hm;rw [fc];omega
end L2
namespace M11
open PySem L2
inductive tL (aa:List aw):List (Str×Nat)->Prop
 | nil:tL aa []
 | snoc {aY:List (Str×Nat)}{k:Nat}{ru:aw}:tL aa aY->aa[k]?=some ru->ru.1∉aY.map (·.1)->(∀p∈ru.2,p∈aY.map (·.1))->tL aa (aY++[(ru.1,k)])
def tE (aa:List aw) (n:Nat)(aY:List (Str×Nat)):Prop:=∀ru∈aa.take n,(∀p∈ru.2,p∈aY.map (·.1))->ru.1∈aY.map (·.1)
def tL.nd {aa:List aw}{aY:List (Str×Nat)}(h:tL aa aY):(aY.map (·.1)).Nodup:=by
 induction h with
 | nil=>exact iZ
 | snoc h e n p ih =>
  rw [bA];refine jm.mpr ⟨ih,by simp,λa ha b hb=>?_⟩;rw [oO,bH] at hb;exact λz=>n (by rw [<-hb,<-z];exact ha)
def tL.head {aa:List aw}{aY:List (Str×Nat)}(h:tL aa aY):∀x∈aY.map (·.1),x∈aa.map (·.1):=by
 induction h with
 | nil=>simp
 | snoc h e n p ih =>
  intro x hx;rw [bA] at hx;rcases cg.mp hx with hx | hx
  .exact ih x hx
  rw [oO,bH] at hx;rw [hx];exact iq (b9 e)
def tL.len {aa:List aw}{aY:List (Str×Nat)}(h:tL aa aY):aY.length<=aa.length:=by
 have:=gK _ _ h.nd h.head;rw [au,au] at this;exact this
end M11
namespace gY
open PySem L2 M11
section
def lX (K:bp)(H:Hp)(ts:List Addr)(aY:List (Str×Nat)):Prop:=Paired (λt (e:Str×Nat)=>a_ K H t [.str e.1,.int (e.2:Int)]) ts aY
def lX.keep {H H':Hp}{ts:List Addr}{aY:List (Str×Nat)}(h:lX K H ts aY)(k:∀a xs,a_ K H a xs->a_ K H' a xs):lX K H' ts aY:=Paired.dH h λt e z=>k _ _ z
structure B5 (K:bp)(aa:List aw)(H H5:Hp)(D d:Addr)(ts:List Addr)(aY:List (Str×Nat))(kvs:List (aT×V)):Prop where
 sm:aC H H5
 hD:H5 D=some (.lst (ts.map V.ref))
 hd:H5 d=some (.dK kvs)
 keys:kvs.map (·.1)=(aY.map (·.1)).map Sum.inr
 ev:lX K H5 ts aY
 emp:tL aa aY
def B5.same {aa:List aw}{H H5 H6:Hp}{D d:Addr}{ts:List Addr}{aY:List (Str×Nat)}{kvs:List (aT×V)}(h:B5 K aa H H5 D d ts aY kvs)(s:aC H5 H6):B5 K aa H H6 D d ts aY kvs :=
 ⟨h.sm.trans s,s _ _ h.hD,s _ _ h.hd,h.keys,h.ev.keep λ_ _ z=>s.tup z,h.emp⟩
def B5.mem {aa:List aw}{H H5:Hp}{D d:Addr}{ts:List Addr}{aY:List (Str×Nat)}{kvs:List (aT×V)}(h:B5 K aa H H5 D d ts aY kvs)(z:Str):(bh kvs (Sum.inr z)).isSome=true↔z∈aY.map (·.1):=by
 rw [eK,h.keys];exact cP
def B5.len {aa:List aw}{H H5:Hp}{D d:Addr}{ts:List Addr}{aY:List (Str×Nat)}{kvs:List (aT×V)}(h:B5 K aa H H5 D d ts aY kvs):ts.length=aY.length/\kvs.length=aY.length:=by
 refine⟨bc h.ev,?_⟩;have:=congrArg List.length h.keys;simpa using this
def B5.more {aa:List aw}{H H5:Hp}{D d t:Addr}{ts:List Addr}{aY:List (Str×Nat)}{kvs:List (aT×V)}(h:B5 K aa H H5 D d ts aY kvs)(fD:H D=none)(fd:H d=none){k:Nat}{ru:aw}(e:aa[k]?=some ru)
  (n:ru.1∉aY.map (·.1))(p:∀x∈ru.2,x∈aY.map (·.1))(ht:upd H5 d (.dK (bM kvs (Sum.inr ru.1) (.bl true))) t=none) :
  B5 K aa H (upd (upd (upd H5 d (.dK (bM kvs (Sum.inr ru.1) (.bl true)))) t (.tup [.str ru.1,.int (k:Int)])) D (.lst (ts.map V.ref++[.ref t]))) D d (ts++[t]) (aY++[(ru.1,k)]) (bM kvs (Sum.inr ru.1) (.bl true)):=by
 have YH:D≠d:=λz=>by have:=h.hD;rw [z,h.hd] at this;cases this
 have nt:t≠d:=λz=>by rw [z,ae] at ht;cases ht
 have Qc:H5 t=none:=by rw [ak nt] at ht;exact ht
 have nDt:D≠t:=λz=>by rw [<-z,h.hD] at Qc;cases Qc
 have jD:upd (upd H5 d (.dK (bM kvs (Sum.inr ru.1) (.bl true)))) t (.tup [.str ru.1,.int (k:Int)]) D=some (.lst (ts.map V.ref)):=by rw [ak nDt,ak YH];exact h.hD
 have kp:∀a xs,a_ K H5 a xs->a_ K (upd (upd (upd H5 d (.dK (bM kvs (Sum.inr ru.1) (.bl true)))) t (.tup [.str ru.1,.int (k:Int)])) D (.lst (ts.map V.ref++[.ref t]))) a xs:=λa xs z =>
  bj jD ((af ht _).tup (hZ h.hd z))
 refine⟨λb o hb=>?_,by rw [ae,bA];rfl,by rw [ak YH.symm,ak nt.symm,ae],?_,gF (h.ev.keep kp) (bj jD (a_.of ae)),.snoc h.emp e n p⟩
 .have:=h.sm b o hb;rw [ak (λz=>by rw [z,fD] at hb;cases hb),ak (λz=>by rw [z,Qc] at this;cases this),ak (λz=>by rw [z,fd] at hb;cases hb)];exact this
 rw [gS (by rw [h.keys];exact λz=>n (cP.mp z)),h.keys,bA,bA];rfl
def oT (K:bp):Sp:=λvs H Q _=>∃(R:Addr)(rs:List Addr)(aa:List aw),vs=[.ref R]/\aG K H R (rs.map V.ref)/\bQ K H rs aa/\aa.length<=1000/\(∀ru∈aa,ru.2.length<=8) /\
 ∀D ts aY H',H D=none->aC H H'->H' D=some (.lst (ts.map V.ref))->lX K H' ts aY->tL aa aY->tE aa aa.length aY->Q (.ref D) H'
def g8:aK ["rules","told","empty","many","number","rule"] ["rules"] (ay rJ):=iz rfl rfl rfl rfl nofun
def zS (F:hV K "found_empties" "found_empties" rJ f fd)(T:Txt mg):bV P w K mg base fK 1 f fd ["rules"] (oT K):=by
 refine F.ok g8 (λvs H Q E h=>?_) (λeX A outer s H vs Q E hr h=>?_)
 .obtain⟨R,rs,aa,rfl,_⟩:=h;rfl
 obtain⟨R,rs,aa,rfl,hR,cy,bu,h8,q⟩:=h;have hu:=fu hr;refine⟨_,ag (aA (i:=1) g8.nd rfl (aZ rfl) (bL ai))
  (ag (aA (i:=2) g8.nd rfl (Or.inr rfl) fk)
  (ag (aA (i:=3) g8.nd rfl (aZ rfl) (Bo vy ar))
  (ag (kT bX (aQ kW (pv 3) (aE aS rfl T.len dZ (ab (pv 1) ai)) (bx _))
   (ag (aA (i:=3) g8.nd rfl (aZ rfl) (aE aS rfl T.len dZ (ab (pv 1) ai)))
   (ao (bE bX rfl (jR rfl T.DG (ab (pv 0) ai)) (dD rfl (av (aq (i:=4) g8.nd rfl (aZ rfl)) (av (aq (i:=5) g8.nd rfl (aZ rfl)) bo)))
    (ao (bz (PW.pt (ig (dP (df hu (a7 bI (pv 5) ar (λ_ _=>rfl)) (pv 2)))
      (gA (dJ (aE (cX rfl) rfl T.all boot_all (ab (aV ["part"] [(2,"empty")] rfl (dQ (a7 bI (pv 5) ar (λ_ _=>rfl))) (aP rfl rfl) nofun rfl nofun
       (λ_ _ _ _ _=>aq (i:=0) (show (["part","empty"]:List Str).Nodup by decide +kernel) rfl (aZ rfl)) (λ_ _ _ _ _=>a0) (λ_ _ _ _ _=>mH (gW hu (pv 0) (pv 1)))) ai))))))
     (ag (fV hu (pv 2) (a7 bI (pv 5) ar (λ_ _=>rfl)) cI rfl)
     (ao (du (ix ir iu iw cA (pv 1) (ab (bC (ab (a7 bI (pv 5) ar (λ_ _=>rfl)) (ab (pv 4) ai))) ai))))) aI))))))
  (ao (aL (pv 1)))))),?_⟩
 nofun
 refine⟨yB,λD hD d hd=>?_⟩;have YF:d≠D:=λz=>by rw [z,ae] at hd;cases hd
 have pd:H d=none:=by rw [ak YF] at hd;exact hd
 have e0:B5 K aa H (upd (upd H D (.lst [])) d (.dK [])) D d [] [] []:=⟨(af hD _).trans (af hd _),by rw [ak YF.symm,ae];rfl,ae,rfl,.nil,.nil⟩;generalize upd (upd H D (.lst [])) d (.dK [])=H0 at e0;refine⟨1,rfl,?_⟩;refine⟨λm σ H5=>∃(ts:List Addr)(aY:List (Str×Nat))(kvs:List (aT×V)) (many:Int)(y4 y5:Option V),σ=[aD R,aD D,aD d,some (.int many),y4,y5]/\B5 K aa H H5 D d ts aY kvs/\-1<=many/\many<=aY.length/\(many=aY.length->tE aa aa.length aY)/\(m:Int)=aa.length+1 - many,
  ⟨aa.length+2,[],[],[],-1,none,none,rfl,e0,∅,by simp,by simp,by simp;omega⟩,?_⟩
 rintro m σ H5 ⟨ts,aY,kvs,many,y4,y5,rfl,S,b1,b2,cl,em⟩;obtain⟨lt,lk⟩:=S.len;refine⟨_,rfl,_,rfl,D,_,rfl,.inl (aG.of S.hD),_,_,rfl,rfl,_,rfl,?_⟩;refine bJ (λc=>?_) (λc=>?_)
 .have c':=cw c;rw [au,lt] at c';refine⟨λσ H5=>∃(xm:List Addr)(iD:List (Str×Nat))(fq:List (aT×V))(y4 y5:Option V),σ=[aD R,aD D,aD d,some (.int (aY.length:Int)),y4,y5]/\B5 K aa H H5 D d xm iD fq/\aY.length<=iD.length/\(iD.length=aY.length->tE aa aa.length iD),?_,?_⟩
  .rintro σ H6 ⟨xm,iD,fq,y4,y5,rfl,S2,l2,c2⟩;have:=S2.emp.len;exact⟨(aa.length+1 - aY.length:Int).toNat,∅,xm,iD,fq,_,_,_,rfl,S2,∅,∅,λz=>c2 ∅,∅⟩
  refine⟨_,rfl,D,_,rfl,.inl (aG.of S.hD),?_⟩;rw [au,lt];refine⟨_,rfl,R,_,rfl,S.sm.seq hR,?_⟩;refine iQ (xs:=rs.map V.ref) (λi σ H6=>∃(xm:List Addr)(iD:List (Str×Nat))(fq:List (aT×V))(y4 y5:Option V),σ=[aD R,aD D,aD d,some (.int (aY.length:Int)),y4,y5]/\B5 K aa H H6 D d xm iD fq/\aY.length<=iD.length/\(iD.length=aY.length->tE aa i iD))
   ⟨ts,aY,kvs,_,_,rfl,S,aU _,λ_ ru gX=>by simp at gX⟩ ?_ ?_ ?_
  .rintro i σ H6 _ ⟨xm,iD,fq,y4,y5,rfl,S2,_⟩;exact S2.sm.seq hR
  .rintro i x σ H6 t ex ⟨xm,iD,fq,y4,y5,rfl,S2,l2,c2⟩ ht
   ac_nf0
   rw [a9] at ex;obtain⟨r,er,rfl⟩:=b_.mp ex;obtain⟨ru,e1,p,v1,v2⟩:=cy.get er;have HJ:=h8 ru (b9 e1);have S3:=S2.same (af ht (.tup [.int (i:Int),.ref r]));have NT:a_ K (upd H6 t (.tup [.int (i:Int),.ref r])) t [.int (i:Int),.ref r]:=a_.of ae;generalize upd H6 t (.tup [.int (i:Int),.ref r])=H7 at S3 NT;obtain⟨lt2,Sa⟩:=S3.len;have el2:=S3.emp.len;have tk:aa.take (i+1)=aa.take i++[ru]:=by rw [cK,e1];rfl
   have kO:(¬((∀p∈ru.2,p∈iD.map (·.1))/\ru.1∉iD.map (·.1)))->(iD.length=aY.length->tE aa (i+1) iD):=λhn z Bj xV hp=>by
    rw [tk] at xV;rcases cg.mp xV with h | h
    .exact c2 z Bj h hp
    rw [bH.mp h] at hp ⊢;exact Classical.byContradiction λhc=>hn ⟨hp,hc⟩
   refine⟨t,_,rfl,NT,rfl,_,_,rfl,_,_,rfl,rfl,?_⟩;refine⟨_,rfl,r,_,_,_,rfl,rfl,S3.sm.tup v1,rfl,?_⟩;refine⟨_,rfl,d,_,rfl,b0.k (k:=Sum.inr ru.1) S3.hd,_,rfl,?_⟩;refine bJ (λc3=>?_) (λc3=>?_)
   .have nm:ru.1∉iD.map (·.1):=λh=>by rw [(S3.mem _).mpr h] at c3;exact absurd c3 nofun
    refine⟨_,rfl,r,_,_,_,rfl,rfl,S3.sm.tup v1,rfl,p,rfl,⟨_,S3.sm.tup v2⟩,λD2 jD=>jG rfl (S3.sm.tup v2) ∅ S3.hd jD λH8 NF QC=>?_⟩;have S4:=S3.same NF;refine⟨D2,_,rfl,aG.of QC,_,rfl,?_⟩;refine bJ (λc4=>?_) (λc4=>?_)
    .have al:∀x∈ru.2,x∈iD.map (·.1):=λx hx=>(S4.mem x).mp (dN.mp c4 _ (iq hx));refine⟨_,rfl,_,rfl,r,_,_,_,rfl,rfl,S4.sm.tup v1,rfl,d,_,rfl,j6.k (k:=Sum.inr ru.1) S4.hd (bD ∅),?_⟩;have v1':a_ K (upd H8 d (.dK (bM fq (Sum.inr ru.1) (.bl true)))) r [.str ru.1,.ref p]:=hZ S4.hd (S4.sm.tup v1);have MN:upd H8 d (.dK (bM fq (Sum.inr ru.1) (.bl true))) D=some (.lst (xm.map V.ref)):=by rw [ak (λz=>by have:=S4.hD;rw [z,S4.hd] at this;cases this)];exact S4.hD
     refine⟨_,rfl,.inl ⟨rfl,_,aG.of MN⟩,_,rfl,r,_,_,_,rfl,rfl,v1',rfl,_,rfl,qW,λt2 ji=>?_⟩;refine⟨D,_,_,rfl,rfl,(by rw [ak (aB MN ji)];exact MN),bD (by rw [au];omega),?_⟩;have S5:=S4.more hD pd e1 nm al ji;exact⟨xm++[t2],iD++[(ru.1,i)],_,_,_,rfl,S5,by rw [bW];omega,λz=>by rw [bW] at z;simp at z;omega⟩
    refine⟨xm,iD,fq,_,_,rfl,S4,l2,kO λ⟨ha,_⟩=>c4 (dN.mpr λb hb=>?_)⟩;obtain⟨x,hx,rfl⟩:=cx.mp hb;exact(S4.mem x).mpr (ha x hx)
   refine⟨xm,iD,fq,_,_,rfl,S3,l2,kO λ⟨_,hn⟩=>c3 ?_⟩;cases hq:(bh fq (Sum.inr ru.1)).isSome with
   | true=>exact absurd ((S3.mem _).mp hq) hn
   | false=>rfl
  rintro σ H6 ⟨xm,iD,fq,y4,y5,rfl,S2,l2,c2⟩;rw [au,bc cy] at c2;exact⟨xm,iD,fq,_,_,rfl,S2,l2,c2⟩
 have c':=of_decide_eq_false (oN.mpr c);rw [au,lt] at c';exact⟨_,rfl,q D ts aY H5 hD S.sm S.hD S.ev S.emp (cl ∅)⟩
end
end gY
namespace M11
open PySem L2
noncomputable def CW (b:Str->Bool):List Str->Nat
 | []=>0
 | z::r=>if b z=true then CW b r+1 else 1
theorem BE (b:Str->Bool):∀zs:List Str,(∀z∈zs,b z=true)->CW b zs=zs.length
 | [],_=>rfl
 | z::r,h=>by
  unfold CW;rw [ax (h z cS),BE b r λx hx=>h x (cY _ hx)];rfl
theorem Gm (b:Str->Bool):∀(zs:List Str) (i:Nat)(z:Str),(∀x∈zs.take i,b x=true)->zs[i]?=some z->¬b z=true->CW b zs=i+1
 | y::r,0,z,_,e,n=>by
  cases e;unfold CW;rw [az n]
 | y::r,i+1,z,h,e,n=>by
  unfold CW;rw [ax (h y (by rw [List.take_succ_cons];exact cS)),Gm b r i z (λx hx=>h x (by rw [List.take_succ_cons];exact cY _ hx)) e n]
theorem Gk (b:Str->Bool):∀zs:List Str,CW b zs<=zs.length
 | []=>aU _
 | z::r=>by
  have:=Gk b r;unfold CW;rw [fc]
  split <;> omega
noncomputable def cnt (n:Nat):List V:=(List.range n).map λk:Nat=>V.int (k:Int)
end M11
namespace gY
open PySem L2 M11
section
def A4 (K:bp):Sp:=λvs H Q _=>∃(R:Addr)(rs:List Addr)(aa:List aw),vs=[.ref R]/\aG K H R (rs.map V.ref)/\bQ K H rs aa/\aa.length<=1000/\(∀ru∈aa,ru.2.length<=8)/\(aa.flatMap (·.2)).Nodup /\
 ∀H',aC H H'->Q .eZ H'
def nI:aK ["strengths","met","way","words","word"] ["strengths"] (ay zj):=iz rfl rfl rfl rfl nofun
def Fl (F:hV K "refuse_twice" "refuse_twice" zj f fd)(T:Txt mg):bV P w K mg base fK 1 f fd ["strengths"] (A4 K):=by
 refine F.ok nI (λvs H Q E h=>?_) (λeX A outer s H vs Q E hr h=>?_)
 .obtain⟨R,rs,aa,rfl,_⟩:=h;rfl
 obtain⟨R,rs,aa,rfl,hR,cy,bu,h8,Sk,q⟩:=h;have hu:=fu hr;refine⟨_,ag (aA (i:=1) nI.nd rfl (aZ rfl) fk)
  (ao (bE bX rfl (aR (pv 0)) (dD rfl (av (aq (i:=2) nI.nd rfl (aZ rfl)) (av (aq (i:=3) nI.nd rfl (aZ rfl)) bo)))
   (ao (bE bX rfl (dQ (pv 3)) (aq (i:=4) nI.nd rfl (aZ rfl))
    (ag (bz (dP (gW hu (pv 4) (pv 1))) (ao iO) aI) (ao (fV hu (pv 1) (pv 4) cI rfl))))))),?_⟩
 nofun
 intro e he;have Bd:∀o,aC H (upd H e o):=λo=>af he o;have ll:=bc cy
 let oo:lW:=λi σ H5=>∃(kvs:List (aT×V))(y3 y4 y5:Option V),σ=[aD R,aD e,y3,y4,y5]/\H5=upd H e (.dK kvs) /\
  kvs.map (·.1)=((aa.take i).flatMap (·.2)).map Sum.inr
 refine⟨_,rfl,R,rfl,⟨_,(Bd _).seq hR⟩,cq (xs:=rs.map V.ref) oo ⟨[],none,none,none,rfl,rfl,rfl⟩ ?_ ?_ ?_⟩
 .rintro i σ H5 _ ⟨kvs,y3,y4,y5,rfl,rfl,_⟩;exact(Bd _).seq hR
 .rintro i x σ H5 ex ⟨kvs,y3,y4,y5,rfl,rfl,hk⟩
  ac_nf0
  rw [a9] at ex;obtain⟨r,er,rfl⟩:=b_.mp ex;obtain⟨ru,e1,p,v1,v2⟩:=cy.get er;have li:=(bf.mp e1).1;have HJ:=h8 ru (b9 e1);have eT:(aa.take (i+1)).flatMap (·.2)=(aa.take i).flatMap (·.2)++ru.2:=by
   rw [cK,e1,List.flatMap_append];simp
  have lA:((aa.take i).flatMap (·.2)).length<=8 * i:=jF (aa.take i) i (by rw [dr];omega) λru gX=>h8 ru (qH gX);have CD:((aa.take i).flatMap (·.2)++ru.2).Nodup:=by
   have e2:aa.flatMap (·.2)=((aa.take i).flatMap (·.2)++ru.2)++(aa.drop (i+1)).flatMap (·.2):=by
    rw [<-eT,<-List.flatMap_append,List.take_append_drop]
   rw [e2] at Sk;exact(jm.mp Sk).1
  refine⟨r,_,rfl,(Bd _).tup v1,rfl,_,_,rfl,_,_,rfl,rfl,?_⟩
  let wZ:lW:=λj σ H6=>∃(kvs:List (aT×V))(y5:Option V),σ=[aD R,aD e,some (.str ru.1),aD p,y5]/\H6=upd H e (.dK kvs) /\
   kvs.map (·.1)=((aa.take i).flatMap (·.2)++ru.2.take j).map Sum.inr
  refine⟨_,rfl,p,rfl,⟨_,(Bd _).tup v2⟩,BG (xs:=ru.2.map V.str) wZ ⟨kvs,_,rfl,rfl,by rw [List.take_zero,il];exact hk⟩ ?_ ?_ ?_⟩
  .rintro j σ H6 _ ⟨kvs,y5,rfl,rfl,_⟩;exact(Bd _).tup v2
  .rintro j x σ H6 lS ⟨kvs,y5,rfl,rfl,yI⟩
   ac_nf0
   rw [a9] at lS;obtain⟨z,ez,rfl⟩:=b_.mp lS;have lj:=(bf.mp ez).1;have eS:ru.2.take (j+1)=ru.2.take j++[z]:=by rw [cK,ez];rfl
   have lk:kvs.length<=8 * i+8:=by
    have h1:=congrArg List.length yI;rw [au,au,bW,dr] at h1;omega
   have nz:z∉(aa.take i).flatMap (·.2)++ru.2.take j:=λhz=>by
    have e3:(aa.take i).flatMap (·.2)++ru.2=((aa.take i).flatMap (·.2)++ru.2.take j)++([z]++ru.2.drop (j+1)):=by
     rw [lZ,<-lZ (ru.2.take j),<-eS,List.take_append_drop]
    rw [e3] at CD;exact(jm.mp CD).2.2 z hz z (by simp) rfl
   have nk:¬(Sum.inr z:aT)∈kvs.map (·.1):=by rw [yI];exact λh=>nz (cP.mp h)
   refine⟨_,rfl,_,rfl,e,_,rfl,b0.k (k:=Sum.inr z) ae,_,rfl,?_⟩;refine bJ (λc=>absurd ((eK kvs _).mp c) nk) (λ_=>?_);refine⟨_,rfl,_,rfl,e,_,rfl,j6.k (k:=Sum.inr z) ae (bD ∅),?_⟩;refine⟨bM kvs (Sum.inr z) (.bl true),_,rfl,by rw [nq],?_⟩;rw [gS nk,yI,eS,<-lZ];simp only [bA,cE,mj]
  rintro σ H6 ⟨kvs,y5,rfl,rfl,yI⟩;rw [au,cv,<-eT] at yI;exact⟨kvs,_,_,_,rfl,rfl,yI⟩
 rintro σ H5 ⟨kvs,y3,y4,y5,rfl,rfl,hk⟩;exact q _ (Bd _)
def xq (K:bp):Sp:=λvs H Q _=>∃(p d:Addr) (zs:List Str)(kvs:List (aT×V)),vs=[.ref p,.ref d]/\a_ K H p (zs.map V.str)/\zs.length<=1000/\H d=some (.dK kvs) /\
 ∀D H',H D=none->aC H H'->H' D=some (.lst (cnt (CW (λz=>(bh kvs (Sum.inr z)).isSome) zs)))->Q (.ref D) H'
def nJ:aK ["parts","empty","places","place","part"] ["parts","empty"] (ay vR):=iz rfl rfl rfl rfl nofun
def Ct (F:hV K "first_places" "first_places" vR f fd)(T:Txt mg):bV P w K mg base fK 1 f fd ["parts","empty"] (xq K):=by
 refine F.ok nJ (λvs H Q E h=>?_) (λeX A outer s H vs Q E hr h=>?_)
 .obtain⟨p,d,zs,kvs,rfl,_⟩:=h;rfl
 obtain⟨p,d,zs,kvs,rfl,hp,hz,hd,q⟩:=h;have hu:=fu hr;refine⟨_,ag (aA (i:=2) nJ.nd rfl (aZ rfl) (bL ai))
  (ag (bE bX rfl (kU rfl T.DG (ab (pv 0) ai)) (dD rfl (av (aq (i:=3) nJ.nd rfl (aZ rfl)) (av (aq (i:=4) nJ.nd rfl (aZ rfl)) bo)))
   (ag (du (ix ir iu iw cA (pv 2) (ab (pv 3) ai)))
   (ao (bz (dP (df hu (pv 4) (pv 1))) (ao xB) aI))))
  (ao (aL (pv 2)))),?_⟩
 nofun
 refine⟨yB,λD hD=>?_⟩;have up1:∀n,cnt n++[V.int (n:Int)]=cnt (n+1):=λn=>by
  unfold cnt;rw [List.range_succ,bA];rfl
 refine⟨_,rfl,p,_,rfl,(af hD _).tup hp,?_⟩
 let Nv:lW:=λi σ H5=>∃(y3 y4:Option V),σ=[aD p,aD d,aD D,y3,y4]/\aC H H5/\H5 D=some (.lst (cnt i))/\∀z∈zs.take i,(bh kvs (Sum.inr z)).isSome=true
 refine lH (xs:=zs.map V.str) Nv
  ⟨none,none,rfl,af hD _,ae,by simp⟩ ?_ ?_ ?_
 .rintro i σ H5 _ ⟨y3,y4,rfl,sm,_⟩;exact sm.tup hp
 .rintro i x σ H5 t ex ⟨y3,y4,rfl,sm,QD,qd⟩ ht
  ac_nf0
  rw [a9] at ex;obtain⟨z,ez,rfl⟩:=b_.mp ex;have li:=(bf.mp ez).1;have vJ:=sm.trans (af ht (.tup [.int (i:Int),.str z]));have jD:upd H5 t (.tup [.int (i:Int),.str z]) D=some (.lst (cnt i)):=by rw [ak (aB QD ht)];exact QD
  have hv:a_ K (upd H5 t (.tup [.int (i:Int),.str z])) t [.int (i:Int),.str z]:=a_.of ae;generalize upd H5 t (.tup [.int (i:Int),.str z])=H6 at vJ jD hv;have NH:aC H (upd H6 D (.lst (cnt i++[V.int (i:Int)]))):=λb o hb=>by
   rw [ak (λz=>by rw [z,hD] at hb;cases hb)];exact vJ b o hb
  refine⟨t,_,rfl,hv,rfl,_,_,rfl,_,_,rfl,rfl,?_⟩;refine⟨_,rfl,.inl ⟨rfl,_,aG.of jD⟩,_,rfl,D,_,_,rfl,rfl,jD,bD (by unfold cnt;rw [au,u9];omega),?_⟩;refine⟨_,rfl,_,rfl,d,_,rfl,b0.k (k:=Sum.inr z) (NH _ _ hd),_,rfl,?_⟩;refine bJ (λc=>?_) (λc=>?_)
  .refine⟨_,rfl,q D _ hD NH ?_⟩;rw [ae,up1,Gm _ zs i z qd ez (λh=>by rw [h] at c;exact absurd c nofun)]
  refine⟨_,_,rfl,NH,by rw [ae,up1],λx hx=>?_⟩;rw [cK,ez] at hx;rcases cg.mp hx with h | h
  .exact qd x h
  rw [Option.toList_some,bH] at h;subst h;cases hq:(bh kvs (Sum.inr x)).isSome with
  | true=>rfl
  | false=>exact absurd (by rw [hq];rfl) c
 rintro σ H5 ⟨y3,y4,rfl,sm,QD,qd⟩;rw [au] at QD qd;rw [cv] at qd;exact⟨_,rfl,q D _ hD sm (by rw [BE _ zs qd];exact QD)⟩
end
end gY
namespace L2
open PySem
section
variable {prog:Program}{w:World}{K:Type} [DecidableEq K] {knd:KeyKind prog w K}{A:Around}{E:Value->Shared->Prop}
def tQ {s:Shared}{d l:Addr}{items:Array Value}{n:Nat}{kvs more:List (K×Value)}{Q:Value->Shared->Prop}(hh:A.handled=none)(pd:s.heap.DictOf knd d kvs)(hx:s.heap.get? l=some { cls:=.type "list",data:=.seq items n })
  (hi:items.size=more.length)(hp:∀(m:Nat) kv,more[m]?=some kv->∃u,items[m]?=some u/\mU knd s.heap u kv)(hz:kvs.length+more.length<=sizeLine)
  (h:∀h' t',h'.DictOf knd d (more.foldl (λa p=>stored a p.1 p.2) kvs)->(∀b o,b≠d->s.heap.get? b=some o->h'.get? b=some o)->Q .none { s with heap:=h',toks:=t' }) :
  wpAny (model prog w) A (call (.builtin "dict.update") [.ref d,.ref l]) Q E s:=by
 refine wpAny_call (codeAny_call_builtin yU.plain PySem.F.entry_dict_update (yU.check _ _ _ _ _ _ _ _ pd.typeIs (PySem.F.args_dict_update_2 _ _) ?_));unfold Builtin.«dict.update»;refine aN ?_;unfold Builtin.Dict.selfAndRest;refine aN (wpAny_notOrdered_dict pd.typeIs ?_);show wpAny _ _ (pure (d,[Value.ref l])) _ _ s;refine ba ?_;show wpAny _ _ (Builtin.Dict.updateFrom "dict.update" d (.ref l) [] .none) _ _ s;unfold Builtin.Dict.updateFrom;refine aN (jK (T := "list") ⟨_,hx,rfl⟩ ?_);rw [ax zc];refine aN (o6 hx hh λh1 t1 k1=>?_);refine aN (wpAny_rule ?_);have l1:=k1 _ _ hx;refine aN (qD ⟨_,l1,rfl,_,rfl⟩ ?_);have k2:∀b o,s.heap.get? b=some o->(h1.push { cls:=.type "list_iterator",data:=.fields #[.ref l,.int 0 0] }).get? b=some o:=λb o q=>cJ _ (k1 _ _ q);refine ba ⟨oz fX _,Gx (knd:=knd) (A:=A) (l:=l) (items:=items) hh more 0 _ kvs _ _ (by rw [hi,oB]) ?_ ⟨_,d8 _ rfl,rfl,rfl⟩ ⟨_,k2 _ _ hx,rfl,n,rfl⟩ (λm kv e=>?_) hz λh' t' hd k3=>?_⟩
 .obtain⟨o,es,ep,q,r⟩:=pd;exact⟨o,es,ep,k2 _ _ q,r⟩
 .obtain⟨u,e1,e2⟩:=hp m kv e;exact⟨u,by rw [oB];exact e1,e2.keep λb o _ q=>k2 b o q⟩
 exact h h' t' hd λb o n q=>k3 b o n (cu (bR (k1 _ _ q))) (k2 b o q)
end
section
variable {X:Cx}{o e:Expr}{apos ie:Pos}{td ty:TE}
def OO (K:bp)(td ty:TE):TE:=λσ H Q=>td σ H λx H1=>∃a,x=.ref a/\S_ H1 a/\ty σ H1 λy H2=>∃l ts kvs more,y=.ref l/\H2 a=some (.dK kvs)/\H2 l=some (.lst (ts.map V.ref)) /\
 Paired (λt kv=>a_ K H2 t [kV kv.1,kv.2]) ts more/\kvs.length+more.length<=sizeLine/\Q .eZ (upd H2 a (.dK (cM more kvs)))
def IE (hc:X.calm=true)(ho:PE X o td)(he:PE X e ty)(m:M1 X o "update" apos e ie):PE X (.Call (.Attribute o "update" apos) [e] [] ie) (OO X.K td ty):=by
 intro aj s σ H Q I h;refine wpAny_Call_method m.base m.uL m.line yR yU PySem.F.type_dict_update (dC (ho aj s σ H _ I h) λu s1 bN=>?_);obtain⟨x,H1,I1,rx,a,ex,d,q1⟩:=bN;subst ex;obtain rfl:u=Value.ref a:=rx;obtain⟨t1,t2,_⟩:=Af I1 d;refine⟨t1,t2,?_⟩;rw [m.trees];refine vf rfl (u_ (oK (dC (he aj s1 σ H1 _ I1 q1) λiv s2 bN=>?_)));obtain⟨y,H2,I2,ry,l,ts,kvs,more,ey,ea,el,p,hz,q2⟩:=bN;refine Calls.spliced_nil ?_;subst ey;cases (show iv=Value.ref l from ry);obtain⟨z,jj,vs,rel,dd⟩:=yd I2.cC ea;obtain⟨z2,aW,n,rv,hl⟩:=(show cW X.prog X.w H2 s2.heap l (.lst _) from I2.cC l _ el);obtain⟨ms,r1,r2⟩:=pairs_at I2 p rv;have l1:=bc r2;have l2:=r1.length;have l3:=bc p;refine tQ (I2.ok.hd hc) dd hl (by simpa using l1) (λm kv em=>?_) (by rw [<-rel.length,<-l2];exact hz) λh' t' hd kk=>?_
 .obtain⟨u,e1,e2⟩:=Paired.at_ r2 m kv em;exact⟨u,by simpa using e1,e2⟩
 have hn:(cM more kvs).length<=sizeLine:=f_ (sE more kvs) hz;have he:∃q,h'.get? a=some q:=let ⟨q,_,_,hq,_⟩:=hd;⟨q,hq⟩;exact⟨.eZ,_,I2.write (x:=a) (e:=a) (by rw [ea];exact True.intro) (.inl rfl) (λb q hb z=>kk b q hb z) he (sM hn jj (su r1 rel) hd),rfl,q2⟩
def uS {X:Cx}:gM X (.builtin "len") (λxs H Q=>∃a kvs,xs=[.ref a]/\H a=some (.dK kvs)/\Q (.int kvs.length) H):=by
 intro aj s σ H xs us Q I r h;obtain⟨a,kvs,rfl,e,q⟩:=h;obtain⟨u,rfl,rx⟩:=vals1 r;cases (show u=Value.ref a from rx);exact Q9 I (.inl e) λt s' I'=>⟨.int _,H,I',⟨_,rfl⟩,q⟩
end
theorem xT:∀{us:List Value}{ns:List Int},PyProof.Rows.IntsAre us ns->∀ys:List (Int×Tok),us=ys.map (λp=>Value.int p.1 p.2)->ys.map (·.1)=ns
 | _,_,.nil,ys,e=>by
  cases ys with
  | nil=>rfl
  | cons _ _=>cases e
 | _,_,.cons n t h,ys,e=>by
  cases ys with
  | nil=>cases e
  | cons y r =>
   rw [cE] at e;injection e with e1 e2;injection e1 with e3 e4;rw [cE,xT h r e2,e3]
def lK {X:Cx}(hc:X.calm=true):gM X (.builtin "sum") (λxs H Q=>∃a ns,xs=[.ref a]/\aG X.K H a (List.map V.int ns)/\Q (.int ns.sum) H):=by
 intro aj s σ H xs us Q I r h;obtain⟨a,ns,rfl,hq,q⟩:=h;obtain⟨u,rfl,rx⟩:=vals1 r;cases rx;obtain⟨aW,rv,pl,hz⟩:=I.list hq;have hi:=intsAre_of rv;have qd:AllInts aW.toArray:=hi.allInts;obtain⟨xs,e⟩:=qd.items;have hl:=pl.isList;rw [e] at hl;refine sum_intListG (I.ok.hd hc) hl λh' tk t' hk=>⟨.int _,H,I.kept hk,⟨_,rfl⟩,?_⟩;have e5:xs.toList.map (·.1)=ns:=xT hi xs.toList (by
  have:=congrArg Array.toList e;simpa [intItems] using this)
 have e6:preSum (numAt xs) xs.size=ns.sum:=by
  rw [preSum_eq,e5,tW (by rw [<-e5];simp)]
 rw [e6];exact q
def yh {K:bp}{H:Hp}{p D:Addr}{zs:List Str}{σ:St}{v:V}{x:Str}{Qp:Hp->Prop}(hp:a_ K H p (zs.map V.str))(hz:zs.length<=1000)(hD:H D=none)
  (q:∀ts H2,aC H H2->H2 D=some (.lst (ts.map V.ref))->Paired (λt h=>a_ K H2 t [.str h,v]) ts zs->Qp H2) :
  ∃W:Nat->Nat->List V->St->Hp->Prop,(∃m,W 0 m [] (eh [x] [] σ) (upd H D (.lst []))) /\
 ∀i m ys σ' H,W i m ys σ' H->((ot K p).stop i H/\Qp H)\/((ot K p).go i H/\∃m',m' < m/\∀x H',(ot K p).lR i H x H'->dB 0 x σ' H' λσ2 H2=>gI σ2 H2 λb H3 =>
  if b=true then rf (gp (fS 0) (gp (tC v) p_)) σ2 H3 λy H4=>H4 D=some (.lst ys)/\ys.length < sizeLine/\W (i+1) m' (ys++[y]) σ2 (upd H4 D (.lst (ys++[y]))) else W (i+1) m' ys σ2 H3):=by
 refine gL (xs:=zs.map V.str) (λi ys σ2 H2=>∃ts:List Addr,ys=ts.map V.ref/\ts.length=i/\Paired (λt h=>a_ K H2 t [.str h,v]) ts (zs.take i)/\(∃y0,σ2=[y0])/\aC H H2/\H2 D=some (.lst ys))
  ⟨[],rfl,rfl,.nil,⟨none,rfl⟩,af hD _,ae⟩ (λi ys σ2 H2 _ h=>?_) (λi x ys σ2 H2 ex h=>?_) (λys σ2 H2 h=>?_)
 .obtain⟨_,_,_,_,_,sm,_⟩:=h;exact sm.tup hp
 .obtain⟨ts,rfl,ht,jZ,⟨y0,rfl⟩,sm,hd⟩:=h;rw [a9] at ex;obtain⟨z,ez,rfl⟩:=b_.mp ex;have li:=(bf.mp ez).1;refine goN (uH ?_);refine⟨_,rfl,qW,λt ji=>⟨?_,bD (by rw [au];omega),ts++[t],?_,?_,?_,⟨_,rfl⟩,?_,ae⟩⟩
  .rw [ak (aB hd ji)];exact hd
  .rw [bA];rfl
  .rw [bW,ht];rfl
  .rw [cK,ez];have jf:upd H2 t (.tup [.str z,v]) D=some (.lst (ts.map V.ref)):=by rw [ak (aB hd ji)];exact hd
   exact gF (Paired.dH jZ λt' h' z=>bj jf ((af ji _).tup z)) (bj jf (a_.of ae))
  intro b o hb;rw [ak (λz=>by rw [z,hD] at hb;cases hb)];exact af ji _ _ _ (sm b o hb)
 obtain⟨ts,rfl,ht,jZ,_,sm,hd⟩:=h;rw [au,cv] at jZ;exact q ts H2 sm hd jZ
end L2
namespace M11
open PySem L2
def lh (a:List Str)(h x:Str):x∈gr a h↔x∈a\/x=h:=by
 unfold gr;split
 .constructor
  .exact .inl
  rintro(z | rfl) <;> assumption
 simp
def wV {a:List Str}(h:Str)(n:a.Nodup):(gr a h).Nodup:=by
 unfold gr;split
 .exact n
 rename_i q
 refine jm.mpr ⟨n,by simp,λx hx y hy=>?_⟩;rw [bH.mp hy];exact λz=>q (z ▸ hx)
def BV (a:List Str)(h:Str):a.length<=(gr a h).length:=by
 unfold gr;split <;> simp
def JG {a:List Str}{h:Str}(e:(gr a h).length=a.length):gr a h=a:=by
 unfold gr at e ⊢;split
 .rfl
 rename_i q
 rw [az q,bW] at e;simp at e
theorem hJ:∀(hs bF:List Str)(x:Str),x∈lU bF hs↔x∈bF\/x∈hs
 | [],bF,x=>by simp [lU]
 | h::r,bF,x=>by
  show x∈lU (gr bF h) r↔_;rw [hJ r,lh,b8,or_assoc]
theorem pz:∀(hs:List Str){bF:List Str},bF.Nodup->(lU bF hs).Nodup
 | [],_,n=>n
 | h::r,_,n=>pz r (wV h n)
theorem Az:∀(hs bF:List Str),bF.length<=(lU bF hs).length
 | [],_=>aU _
 | h::r,bF=>f_ (BV bF h) (Az r _)
theorem Gz:∀(hs bF:List Str),(lU bF hs).length=bF.length->lU bF hs=bF
 | [],_,_=>rfl
 | h::r,bF,e=>by
  have h1:=BV bF h;have h2:=Az r (gr bF h);have e':(lU (gr bF h) r).length=bF.length:=e;show lU (gr bF h) r=bF;rw [Gz r _ ∅];exact JG ∅
inductive Nr (aa:List aw)(s:Str):Str->Prop
 | start:Nr aa s s
 | step {ru:aw}{x:Str}:Nr aa s ru.1->ru∈aa->x∈ru.2->Nr aa s x
def Dn (aa:List aw) (n:Nat) (ms:List Str):Prop:=∀ru∈aa.take n,ru.1∈ms->∀x∈ru.2,x∈ms
def Nr.among {aa:List aw}{s x:Str}(h:Nr aa s x):x∈s::aa.flatMap (·.2):=by
 cases h with
 | start=>exact cS
 | step _ h1 h2=>exact cY _ (qB.mpr ⟨_,h1,h2⟩)
end M11
namespace gY
open PySem L2 M11
section
def JU (K:bp):Sp:=λvs H Q _=>∃(R:Addr)(rs:List Addr)(aa:List aw)(jc:aw),vs=[.ref R]/\aG K H R (rs.map V.ref)/\bQ K H rs aa/\aa[0]?=some jc/\aa.length<=1000/\(∀ru∈aa,ru.2.length<=8) /\
 ∀d kvs ms H',H d=none->aC H H'->H' d=some (.dK kvs)->kvs.map (·.1)=ms.map Sum.inr->jc.1∈ms->(∀x∈ms,Nr aa jc.1 x)->Dn aa aa.length ms->Q (.ref d) H'
def um:aK ["rules","met","many","head","parts"] ["rules"] (ay Lp):=iz rfl rfl rfl rfl nofun
structure Oo (K:bp)(aa:List aw)(s0:Str)(H H5:Hp)(d:Addr) (ms:List Str)(kvs:List (aT×V)):Prop where
 sm:aC H H5
 hd:H5 d=some (.dK kvs)
 keys:kvs.map (·.1)=ms.map Sum.inr
 nd:ms.Nodup
 st:s0∈ms
 RY:∀x∈ms,Nr aa s0 x
def Oo.len {aa:List aw}{s0:Str}{H H5:Hp}{d:Addr}{ms:List Str}{kvs:List (aT×V)}(h:Oo K aa s0 H H5 d ms kvs)(hl:aa.length<=1000)(h8:∀ru∈aa,ru.2.length<=8):kvs.length=ms.length/\ms.length<=8001:=by
 refine⟨?_,?_⟩
 .have:=congrArg List.length h.keys;simpa using this
 have h1:=gK ms _ h.nd λx hx=>(h.RY x hx).among;have h2:=jF aa 1000 hl h8;rw [fc] at h1;omega
def LV (F:hV K "names_met" "names_met" Lp f fd)(T:Txt mg):bV P w K mg base fK 1 f fd ["rules"] (JU K):=by
 refine F.ok um (λvs H Q E h=>?_) (λeX A outer s H vs Q E hr h=>?_)
 .obtain⟨R,rs,aa,jc,rfl,_⟩:=h;rfl
 obtain⟨R,rs,aa,jc,rfl,hR,cy,NW,bu,h8,q⟩:=h;have hu:=fu hr;refine⟨_,ag (aA (i:=1) um.nd rfl (aZ rfl) (IF (E7 (a7 bI (a7 bZ (pv 0) ar (λ_ _=>rfl)) ar (λ_ _=>rfl)) cI IA) rfl rfl (by simp) (show 1<=15 by decide)))
  (ag (aA (i:=2) um.nd rfl (aZ rfl) ar)
  (ag (kT bX (aQ kW (pv 2) (aE uS rfl T.len dZ (ab (pv 1) ai)) (bx _))
   (ag (aA (i:=2) um.nd rfl (aZ rfl) (aE uS rfl T.len dZ (ab (pv 1) ai)))
   (ao (bE bX rfl (aR (pv 0)) (dD rfl (av (aq (i:=3) um.nd rfl (aZ rfl)) (av (aq (i:=4) um.nd rfl (aZ rfl)) bo)))
    (ao (bz (dP (gW hu (pv 3) (pv 1)))
     (ao (du (IE rfl (pv 1) (aV ["part"] [] rfl (dQ (pv 4)) (aP rfl rfl) nofun rfl nofun
       (λ_ _ _ _ _=>aq (i:=0) (show (["part"]:List Str).Nodup by decide +kernel) rfl (aZ rfl)) (λ_ _ _ _ _=>a0) (λ_ _ _ _ _=>bC (ab (pv 0) (ab cI ai)))) ⟨rfl,rfl,rfl,rfl⟩))) aI))))))
  (ao (aL (pv 1))))),?_⟩
 nofun
 intro d hd;have ll:=bc cy;have l0:=(bf.mp NW).1;obtain⟨r0,ZM⟩:∃r,rs[0]?=some r:=⟨rs[0]'∅,dI ∅⟩;obtain⟨aaa,e0,p0,w1,w2⟩:=cy.get ZM;rw [NW] at e0;cases e0;have X9:=af hd (.dK []);refine⟨_,rfl,R,_,_,.ref r0,rfl,rfl,X9.seq hR,?_,r0,_,_,_,rfl,rfl,X9.tup w1,rfl,?_⟩
 .have e7:(rs.map V.ref)[0]?=some (.ref r0):=by rw [a9,ZM];rfl
  exact bT (j:=0) e7
 refine⟨ae,[((Sum.inr jc.1:aT),.bl true)],rfl,(by show 1<=15;decide),?_⟩;have S0:Oo K aa jc.1 H (upd (upd H d (.dK [])) d (.dK (mJ [] [((Sum.inr jc.1:aT),.bl true)]))) d [jc.1] [((Sum.inr jc.1:aT),.bl true)]:=by
  rw [nq];exact⟨af hd _,ae,rfl,by simp,by simp,λx hx=>by rw [bH.mp hx];exact .start⟩
 generalize upd (upd H d (.dK [])) d (.dK (mJ [] [((Sum.inr jc.1:aT),.bl true)]))=H0 at S0;refine⟨λm σ H5=>∃(ms:List Str)(kvs:List (aT×V)) (many:Int)(y3 y4:Option V),σ=[aD R,aD d,some (.int many),y3,y4]/\Oo K aa jc.1 H H5 d ms kvs/\0<=many/\many<=ms.length/\(many=ms.length->Dn aa aa.length ms)/\(m:Int)=8002 - many,
  ⟨8002,[jc.1],_,0,none,none,rfl,S0,∅,by simp,by simp,∅⟩,?_⟩
 rintro m σ H5 ⟨ms,kvs,many,y3,y4,rfl,S,b1,b2,cl,em⟩;obtain⟨lk,lm⟩:=S.len bu h8;refine⟨_,rfl,_,rfl,d,_,rfl,S.hd,_,_,rfl,rfl,_,rfl,?_⟩;refine bJ (λc=>?_) (λc=>?_)
 .have c':=cw c;rw [lk] at c';refine⟨λσ H5=>∃(qv:List Str)(fq:List (aT×V))(y3 y4:Option V),σ=[aD R,aD d,some (.int (ms.length:Int)),y3,y4]/\Oo K aa jc.1 H H5 d qv fq/\ms.length<=qv.length/\(qv.length=ms.length->Dn aa aa.length qv),?_,?_⟩
  .rintro σ H6 ⟨qv,fq,y3,y4,rfl,S2,l2,c2⟩;exact⟨(8002 - ms.length:Int).toNat,∅,qv,fq,_,_,_,rfl,S2,∅,∅,λz=>c2 ∅,∅⟩
  refine⟨_,rfl,d,_,rfl,S.hd,?_⟩;rw [lk];refine⟨_,rfl,R,rfl,⟨_,S.sm.seq hR⟩,?_⟩;refine cq (xs:=rs.map V.ref) (λi σ H6=>∃(qv:List Str)(fq:List (aT×V))(y3 y4:Option V),σ=[aD R,aD d,some (.int (ms.length:Int)),y3,y4]/\Oo K aa jc.1 H H6 d qv fq/\ms.length<=qv.length/\(qv.length=ms.length->Dn aa i qv))
   ⟨ms,kvs,_,_,rfl,S,aU _,λ_ ru gX=>by simp at gX⟩ ?_ ?_ ?_
  .rintro i σ H6 _ ⟨qv,fq,y3,y4,rfl,S2,_⟩;exact S2.sm.seq hR
  .rintro i x σ H6 ex ⟨qv,fq,y3,y4,rfl,S2,l2,c2⟩
   ac_nf0
   rw [a9] at ex;obtain⟨r,er,rfl⟩:=b_.mp ex;obtain⟨ru,e1,p,v1,v2⟩:=cy.get er;have HJ:=h8 ru (b9 e1);have tk:aa.take (i+1)=aa.take i++[ru]:=by rw [cK,e1];rfl
   obtain⟨Sa,YM⟩:=S2.len bu h8;have mem:(bh fq (Sum.inr ru.1)).isSome=true↔ru.1∈qv:=by rw [eK,S2.keys];exact cP
   refine⟨r,_,rfl,S2.sm.tup v1,rfl,_,_,rfl,_,_,rfl,rfl,?_⟩;refine⟨_,rfl,_,rfl,d,_,rfl,b0.k (k:=Sum.inr ru.1) S2.hd,_,rfl,?_⟩;refine bJ (λc3=>?_) (λc3=>?_)
   .have im:=mem.mp c3;refine⟨_,rfl,d,rfl,.inl ⟨_,.inl S2.hd⟩,_,rfl,p,rfl,⟨_,S2.sm.tup v2⟩,λD2 jD=>yh (S2.sm.tup v2) ∅ jD λts H8 NF QC Y9=>?_⟩;have kp:Paired (λt (kv:aT×V)=>a_ K H8 t [kV kv.1,kv.2]) ts (ru.2.map λh=>((Sum.inr h:aT),V.bl true)):=cZ Y9 λ_ _ z=>z;refine⟨D2,ts,fq,_,rfl,NF _ _ S2.hd,QC,kp,fits (by rw [au];omega),?_⟩;have aan:=Az ru.2 qv;refine⟨lU qv ru.2,cM (ru.2.map λh=>((Sum.inr h:aT),V.bl true)) fq,_,_,rfl,⟨λb o hb=>?_,ae,ic ru.2 fq qv S2.keys,pz ru.2 S2.nd,(hJ ru.2 qv _).mpr (.inl S2.st),λx hx=>?_⟩,∅,λz Bj xV hh=>?_⟩
    .rw [ak (λz=>by rw [z,hd] at hb;cases hb)];exact NF _ _ (S2.sm b o hb)
    .rcases (hJ ru.2 qv x).mp hx with h | h
     .exact S2.RY x h
     exact .step (S2.RY _ im) (b9 e1) h
    have e9:=Gz ru.2 qv ∅;rw [e9] at hh ⊢;rw [tk] at xV;rcases cg.mp xV with h | h
    .exact c2 ∅ Bj h hh
    rw [bH.mp h];intro x hx;rw [<-e9];exact(hJ ru.2 qv x).mpr (.inr hx)
   refine⟨qv,fq,_,_,rfl,S2,l2,λz Bj xV hh=>?_⟩;rw [tk] at xV;rcases cg.mp xV with h | h
   .exact c2 z Bj h hh
   rw [bH.mp h] at hh;exact absurd (mem.mpr hh) c3
  rintro σ H6 ⟨qv,fq,y3,y4,rfl,S2,l2,c2⟩;rw [au,ll] at c2;exact⟨qv,fq,_,_,rfl,S2,l2,c2⟩
 have c':=of_decide_eq_false (oN.mpr c);rw [lk] at c';exact⟨_,rfl,q d kvs ms H5 hd S.sm S.hd S.keys S.st S.RY (cl ∅)⟩
end
end gY
namespace M11
open PySem L2
abbrev G:=Str->Option Int
noncomputable def dW (g:G)(h:Str) (n:Int):G:=λz=>if z=h then some n else g z
noncomputable def aM (g:G)(ru:aw):Int:=1+(ru.2.map λp=>(g p).getD 0).sum
noncomputable def kc (g:G)(ru:aw):Bool:=ru.2.all λp=>(g p).isSome
noncomputable def c_ (bt:Int->Int->Bool)(g:G)(ru:aw):Bool:=kc g ru && (!(g ru.1).isSome || bt (aM g ru) ((g ru.1).getD 0))
noncomputable def sstep (bt:Int->Int->Bool)(a:G×Bool)(ru:aw):G×Bool:=if c_ bt a.1 ru=true then (dW a.1 ru.1 (aM a.1 ru),true) else a
noncomputable def tN (bt:Int->Int->Bool)(aa:List aw)(g:G):G×Bool:=aa.foldl (sstep bt) (g,false)
inductive eJ (bt:Int->Int->Bool)(aa:List aw):G->G->Prop
 | refl {g:G}:eJ bt aa g g
 | step {g g1:G}{ru:aw}:eJ bt aa g g1->ru∈aa->c_ bt g1 ru=true->eJ bt aa g (dW g1 ru.1 (aM g1 ru))
def iE (bt:Int->Int->Bool)(aa:List aw)(g:G):Prop:=∀ru∈aa,c_ bt g ru=false
def pF (bt:Int->Int->Bool)(aa:List aw):Nat->G->Prop
 | 0,g=>(tN bt aa g).2=false
 | n+1,g=>(tN bt aa g).2=false\/pF bt aa n (tN bt aa g).1
def eJ.trans {bt:Int->Int->Bool}{aa:List aw}{g g1 g2:G}(h:eJ bt aa g g1)(k:eJ bt aa g1 g2):eJ bt aa g g2:=by
 induction k with
 | refl=>exact h
 | step _ a b ih=>exact .step ih a b
theorem sj (bt:Int->Int->Bool)(aa:List aw):∀(l:List aw)(a:G×Bool),(∀ru∈l,ru∈aa)->eJ bt aa a.1 (l.foldl (sstep bt) a).1
 | [],a,_=>.refl
 | ru::l,a,h=>by
  have ih:=sj bt aa l (sstep bt a ru) λx hx=>h x (cY _ hx);refine eJ.trans ?_ ih;unfold sstep;by_cases c:c_ bt a.1 ru=true
  .rw [ax c];exact .step .refl (h ru cS) c
  rw [az c];exact .refl
theorem uI (bt:Int->Int->Bool):∀(l:List aw)(a:G×Bool),a.2=true->(l.foldl (sstep bt) a).2=true
 | [],a,h=>h
 | ru::l,a,h=>by
  refine uI bt l (sstep bt a ru) ?_;unfold sstep
  split
  .rfl
  exact h
theorem sq (bt:Int->Int->Bool):∀(l:List aw)(a:G×Bool),(l.foldl (sstep bt) a).2=false->(l.foldl (sstep bt) a).1=a.1/\∀ru∈l,c_ bt a.1 ru=false
 | [],a,_=>⟨rfl,λ_ h=>nomatch h⟩
 | ru::l,a,h=>by
  by_cases c:c_ bt a.1 ru=true
  .have e:sstep bt a ru=(dW a.1 ru.1 (aM a.1 ru),true):=ax c;have h':(l.foldl (sstep bt) (sstep bt a ru)).2=false:=h;rw [e,uI bt l _ rfl] at h';cases h'
  have e:sstep bt a ru=a:=az c;have h':(l.foldl (sstep bt) (sstep bt a ru)).2=false:=h;rw [e] at h';obtain⟨i1,i2⟩:=sq bt l a h';refine⟨by rw [List.foldl_cons,e];exact i1,λBj hr=>?_⟩;rcases b8.mp hr with z | z
  .rw [z];exact oN.mpr c
  exact i2 Bj z
end M11
namespace L2
open PySem M11
def gu.tup {K:bp}{H H':Hp}{d a:Addr}{kvs:List (aT×V)}{xs:List V}(s:gu d H H')(hd:H d=some (.dK kvs))(h:a_ K H a xs):a_ K H' a xs:=by
 rcases h with (h | ⟨u,h⟩) | h
 .exact .inl (.inl (s _ _ (λz=>by rw [z,hd] at h;cases h) h))
 .exact .inl (.inr ⟨u,s _ _ (λz=>by rw [z,hd] at h;cases h) h⟩)
 exact .inr h
def gu.seq {K:bp}{H H':Hp}{d a:Addr}{kvs:List (aT×V)}{xs:List V}(s:gu d H H')(hd:H d=some (.dK kvs))(h:aG K H a xs):aG K H' a xs:=by
 rcases h with (h | ⟨u,h⟩) | h
 .exact .inl (.inl (s _ _ (λz=>by rw [z,hd] at h;cases h) h))
 .exact .inl (.inr ⟨u,s _ _ (λz=>by rw [z,hd] at h;cases h) h⟩)
 exact .inr h
def C_ {K:bp}{H:Hp}{p D d:Addr}{zs:List Str}{kvs:List (aT×V)}{g:G}{σ:St}{js:List (Nat×Str)}{Qp:Hp->Prop}(hσ:eh ["part"] js σ=[none,aD d])(hp:a_ K H p (zs.map V.str))(hz:zs.length<=1000)
  (hd:H d=some (.dK kvs))(hv:∀z,bh kvs (Sum.inr z)=(g z).map V.int)(ha:∀z∈zs,(g z).isSome=true)(hD:H D=none)(q:∀H2,aC H H2->H2 D=some (.lst ((zs.map λz=>(g z).getD 0).map V.int))->Qp H2) :
  ∃W:Nat->Nat->List V->St->Hp->Prop,(∃m,W 0 m [] (eh ["part"] js σ) (upd H D (.lst []))) /\
 ∀i m ys σ' H,W i m ys σ' H->((ot K p).stop i H/\Qp H)\/((ot K p).go i H/\∃m',m' < m/\∀x H',(ot K p).lR i H x H'->dB 0 x σ' H' λσ2 H2=>gI σ2 H2 λb H3 =>
  if b=true then AW (fS 1) (fS 0) σ2 H3 λy H4=>H4 D=some (.lst ys)/\ys.length < sizeLine/\W (i+1) m' (ys++[y]) σ2 (upd H4 D (.lst (ys++[y]))) else W (i+1) m' ys σ2 H3):=by
 refine gL (xs:=zs.map V.str) (λi ys σ2 H2=>ys=(((zs.take i).map λz=>(g z).getD 0).map V.int)/\(∃y0,σ2=[y0,aD d])/\aC H H2/\H2 D=some (.lst ys))
  ⟨rfl,⟨none,hσ⟩,af hD _,ae⟩ (λi ys σ2 H2 _ h=>h.2.2.1.tup hp) (λi x ys σ2 H2 ex h=>?_) (λys σ2 H2 h=>?_)
 .obtain⟨rfl,⟨y0,rfl⟩,sm,hd2⟩:=h;rw [a9] at ex;obtain⟨z,ez,rfl⟩:=b_.mp ex;have li:=(bf.mp ez).1;obtain⟨n,en⟩:=ng.mp (ha z (b9 ez));have hg:b0 H2 d (.str z) (some (.int n)):=by
   have:=b0.k (k:=Sum.inr z) (sm _ _ hd);rw [hv,en] at this;exact this
  refine goN (uH ?_);refine⟨_,rfl,_,rfl,d,_,rfl,hg,hd2,bD (by rw [au,au,dr];omega),?_,⟨_,rfl⟩,?_,ae⟩
  .rw [cK,ez,bA,bA];show _=_++[V.int ((g z).getD 0)];rw [en];rfl
  intro b o hb;rw [ak (λz=>by rw [z,hD] at hb;cases hb)];exact sm b o hb
 obtain⟨rfl,_,sm,hd2⟩:=h;rw [au,cv] at hd2;exact q H2 sm hd2
end L2
namespace gY
open PySem L2 M11
section
def iK (K:bp)(q:Str)(params:Arguments)(body:Expr)(scope:Scope)(bt:Int->Int->Bool):Sp:=λvs H Q _=>∃(R:Addr)(rs:List Addr)(aa:List aw)(d fl c':Addr)(pm gN:Value)(kvs:List (aT×V)) (ks:List Str)(g:G),
 vs=[.ref R,.ref d,.ref fl]/\aG K H R (rs.map V.ref)/\bQ K H rs aa/\aa.length<=1000/\(∀ru∈aa,ru.2.length<=8)/\H d=some (.dK kvs)/\kvs.map (·.1)=ks.map Sum.inr/\ks.Nodup/\ks.length<=10000 /\
 (∀z,bh kvs (Sum.inr z)=(g z).map V.int)/\(∃n,pF bt aa n g)/\H fl=some (oZ fl (PySem.W.kla_obj "<lambda>" q params body scope [] pm c' gN))/\H c'=some (kb c' q) /\
 ∀(mN:List (aT×V)) (PR:List Str)(g':G)(H':Hp),gu d H H'->H' d=some (.dK mN)->mN.map (·.1)=PR.map Sum.inr->(∀z,bh mN (Sum.inr z)=(g' z).map V.int)->eJ bt aa g g'->iE bt aa g'->mN.length<=20000->Q (.ref d) H'
def iL:aK ["rules","sizes","better","changed","head","parts","size"] ["rules","sizes","better"] (ay nP):=iz rfl rfl rfl rfl nofun
structure yK (K:bp)(aa:List aw) (Hu:List Str)(H H5:Hp)(d:Addr)(kvs:List (aT×V)) (ks:List Str)(g:G):Prop where
 sm:gu d H H5
 hd:H5 d=some (.dK kvs)
 keys:kvs.map (·.1)=ks.map Sum.inr
 nd:ks.Nodup
 sub:∀x∈ks,x∈Hu++aa.map (·.1)
 val:∀z,bh kvs (Sum.inr z)=(g z).map V.int
def yK.len {aa:List aw}{Hu:List Str}{H H5:Hp}{d:Addr}{kvs:List (aT×V)}{ks:List Str}{g:G}(h:yK K aa Hu H H5 d kvs ks g):kvs.length<=Hu.length+aa.length:=by
 have h1:=congrArg List.length h.keys;have h2:=gK ks _ h.nd h.sub;rw [bW,au] at h2;rw [au,au] at h1;omega
def yK.same {aa:List aw}{Hu:List Str}{H H5 H6:Hp}{d:Addr}{kvs:List (aT×V)}{ks:List Str}{g:G}(h:yK K aa Hu H H5 d kvs ks g)(s:aC H5 H6):yK K aa Hu H H6 d kvs ks g :=
 ⟨λb o n e=>s _ _ (h.sm b o n e),s _ _ h.hd,h.keys,h.nd,h.sub,h.val⟩
def yK.put {aa:List aw}{Hu:List Str}{H H5:Hp}{d:Addr}{kvs:List (aT×V)}{ks:List Str}{g:G}(h:yK K aa Hu H H5 d kvs ks g){ru:aw}(hr:ru∈aa) (n:Int) :
  yK K aa Hu H (upd H5 d (.dK (bM kvs (Sum.inr ru.1) (.int n)))) d (bM kvs (Sum.inr ru.1) (.int n)) (gr ks ru.1) (dW g ru.1 n):=by
 refine⟨λb o nb e=>by rw [ak nb];exact h.sm b o nb e,ae,jy h.keys ru.1,wV ru.1 h.nd,λx hx=>?_,λz=>?_⟩
 .rcases (lh ks ru.1 x).mp hx with z | z
  .exact h.sub x z
  rw [z];exact gH _ (iq hr)
 rw [q_];unfold dW;by_cases c:z=ru.1
 .rw [ax c,ax (by rw [c])];rfl
 rw [az c,az (λe=>c (jJ e)),h.val]
def uy (F:hV K "settled_sizes" "settled_sizes" nP f fd)(T:Txt mg){q:Str}{params:Arguments}{body:Expr}{scope:Scope}{bt:Int->Int->Bool}{te:TE}(S:aK ["size","known"] ["size","known"] scope)
  (nX:∀(pm gN:Value)(c':Addr)(us:List Value),us.length=(["size","known"]:List Str).length->bindArgs (PySem.W.kla_fn "<lambda>" q params body scope [] pm (.ref c') gN) ⟨us,[]⟩=pure ((["size","known"]:List Str).zip us))
  (jC:∀(f c':Addr)(A:Around)(outer:List Env)(s:Shared)(H:Hp),PE (pC fK P w K mg base ["size","known"] q scope f (.ref c') A outer s H λ_ _ _=>False) body te)
  (Qb:∀a b H Q,Q (.bl (bt a b)) H->te [some (.int a),some (.int b)] H Q):bV P w K mg base fK 2 f fd ["rules","sizes","better"] (iK K q params body scope bt):=by
 refine F.ok iL (λvs H Q E h=>?_) (λeX A outer s H vs Q E hr h=>?_)
 .obtain⟨R,rs,aa,d,fl,c',pm,gN,kvs,ks,g,rfl,_⟩:=h;rfl
 obtain⟨R,rs,aa,d,fl,c',pm,gN,kvs,ks,g,rfl,hR,cy,bu,h8,hd,hk,Sk,Zf,hv,⟨n0,Sl⟩,Ge,mS,qq⟩:=h;have hu:=fu hr;refine⟨_,ag (aA (i:=3) iL.nd rfl (aZ rfl) cI)
  (ag (kT bX (dJ (pv 3))
   (ag (aA (i:=3) iL.nd rfl (aZ rfl) cI)
   (ao (bE bX rfl (aR (pv 0)) (dD rfl (av (aq (i:=4) iL.nd rfl (aZ rfl)) (av (aq (i:=5) iL.nd rfl (aZ rfl)) bo)))
    (ao (bz (dJ (aE (cX rfl) rfl T.all boot_all (ab (aV ["part"] [(1,"sizes")] rfl (dQ (pv 5)) (aP rfl rfl) nofun rfl nofun
       (λ_ _ _ _ _=>aq (i:=0) (show (["part","sizes"]:List Str).Nodup by decide +kernel) rfl (aZ rfl)) (λ_ _ _ _ _=>a0) (λ_ _ _ _ _=>mH (gW hu (pv 0) (pv 1)))) ai)))
     (ag (aA (i:=6) iL.nd rfl (aZ rfl) (aH dG ar (aE (lK rfl) rfl T.sum vh (ab (aV ["part"] [(1,"sizes")] rfl (dQ (pv 5)) (aP rfl rfl) nofun rfl nofun
       (λ_ _ _ _ _=>aq (i:=0) (show (["part","sizes"]:List Str).Nodup by decide +kernel) rfl (aZ rfl)) (λ_ _ _ _ _=>a0) (λ_ _ _ _ _=>eP hu (pv 1) (pv 0) (λ_ _=>rfl))) ai))))
     (ao (bz (PW.pt (jv (dP (df hu (pv 4) (pv 1))) (jd (dJ (zJ (i:=2) (k:=0) rfl rfl S hr nX jC (ab (pv 6) (ab (eP hu (pv 1) (pv 4) (λ_ _=>rfl)) ai)))))))
      (ag (fV hu (pv 1) (pv 4) (pv 6) rfl) (ao (aA (i:=3) iL.nd rfl (aZ rfl) cI))) aI))) aI))))))
  (ao (aL (pv 1)))),?_⟩
 nofun
 have ll:=bc cy;have S0:yK K aa ks H H d kvs ks g:=⟨λ_ _ _ e=>e,hd,hk,Sk,λx hx=>j8 _ hx,hv⟩;refine⟨λm σ H5=>∃(fq:List (aT×V)) (Sb:List Str)(g2:G)(ch:Bool)(y4 y5 y6:Option V),σ=[aD R,aD d,aD fl,some (.bl ch),y4,y5,y6]/\yK K aa ks H H5 d fq Sb g2/\eJ bt aa g g2 /\
  ((ch=true/\∃n,m=n+1/\pF bt aa n g2)\/(ch=false/\iE bt aa g2)),⟨n0+1,kvs,ks,g,true,none,none,none,rfl,S0,.refl,.inl ⟨rfl,n0,rfl,Sl⟩⟩,?_⟩
 rintro m σ H5 ⟨fq,Sb,g2,ch,y4,y5,y6,rfl,S2,Hm,cs⟩;refine⟨_,rfl,ch,rfl,?_⟩;refine bJ (λc=>?_) (λc=>?_)
 .rcases cs with ⟨_,n,em,en⟩ | ⟨c',_⟩
  case inr=>rw [c'] at c;cases c
  refine⟨λσ H6=>∃(mM:List (aT×V)) (Dz:List Str)(g3:G)(yp:Bool)(y4 y5 y6:Option V),σ=[aD R,aD d,aD fl,some (.bl yp),y4,y5,y6]/\yK K aa ks H H6 d mM Dz g3/\(g3,yp)=tN bt aa g2,?_,?_⟩
  .rintro σ H6 ⟨mM,Dz,g3,yp,y4,y5,y6,rfl,S3,e3⟩;have WI:g3=(tN bt aa g2).1:=congrArg Prod.fst e3;have Na:yp=(tN bt aa g2).2:=congrArg Prod.snd e3;have OU:eJ bt aa g g3:=by
    rw [WI];exact Hm.trans (sj bt aa aa (g2,false) λ_ h=>h)
   cases h3:yp with
   | false =>
    rw [h3] at Na;obtain⟨f1,f2⟩:=sq bt aa (g2,false) Na.symm;refine⟨0,∅,mM,Dz,g3,false,_,_,_,rfl,S3,OU,.inr ⟨rfl,?_⟩⟩;have e33:g3=g2:=WI.trans f1;rw [e33];exact f2
   | true =>
    rw [h3] at Na;cases n with
    | zero=>rw [show (tN bt aa g2).2=false from en] at Na;cases Na
    | succ n' =>
     rcases en with en | en
     .rw [en] at Na;cases Na
     exact⟨n'+1,∅,mM,Dz,g3,true,_,_,_,rfl,S3,OU,.inl ⟨rfl,n',rfl,by rw [WI];exact en⟩⟩
  refine⟨_,rfl,R,rfl,⟨_,S2.sm.seq hd hR⟩,?_⟩;refine cq (xs:=rs.map V.ref) (λi σ H6=>∃(mM:List (aT×V)) (Dz:List Str)(g3:G)(yp:Bool)(y4 y5 y6:Option V),σ=[aD R,aD d,aD fl,some (.bl yp),y4,y5,y6]/\yK K aa ks H H6 d mM Dz g3/\(g3,yp)=(aa.take i).foldl (sstep bt) (g2,false))
   ⟨fq,Sb,g2,false,_,_,_,rfl,S2,rfl⟩ ?_ ?_ ?_
  .rintro i σ H6 _ ⟨mM,Dz,g3,yp,y4,y5,y6,rfl,S3,_⟩;exact S3.sm.seq hd hR
  .rintro i x σ H6 ex ⟨mM,Dz,g3,yp,y4,y5,y6,rfl,S3,e3⟩;rw [a9] at ex;obtain⟨r,er,rfl⟩:=b_.mp ex;obtain⟨ru,e1,p,v1,v2⟩:=cy.get er;have o9:=b9 e1;have HJ:=h8 ru o9;have fo:(aa.take (i+1)).foldl (sstep bt) (g2,false)=sstep bt (g3,yp) ru:=by
    rw [cK,e1,u7,<-e3];rfl
   rw [fo];have Tt:=S3.sm.tup hd v2;refine⟨r,_,rfl,S3.sm.tup hd v1,rfl,_,_,rfl,_,_,rfl,rfl,?_⟩;refine⟨_,rfl,p,rfl,⟨_,Tt⟩,λD2 jD=>jG rfl Tt ∅ S3.hd jD λH7 X7 hd7=>?_⟩;have S4:=S3.same X7;have v4:=X7.tup Tt;have eb:(ru.2.map λz=>(bh mM (Sum.inr z)).isSome).all id=kc g3 ru:=by
    unfold kc;rw [List.all_map];refine List.all_congr rfl λz=>?_;show (bh mM (Sum.inr z)).isSome=_;rw [S3.val,pH]
   refine⟨D2,_,rfl,aG.of hd7,_,rfl,?_⟩;rw [eb];refine bJ (λc4=>?_) (λc4=>?_)
   .have al:∀z∈ru.2,(g3 z).isSome=true:=λz hz=>dN.mp c4 z hz;refine⟨_,rfl,p,rfl,⟨_,v4⟩,λD3 Jr=>C_ (g:=g3) rfl v4 ∅ S4.hd S4.val al Jr λH8 NF QC=>?_⟩;have S5:=S4.same NF;have esz:1+(ru.2.map λz=>(g3 z).getD 0).sum=aM g3 ru:=rfl;refine⟨D3,_,rfl,aG.of QC,_,_,rfl,rfl,?_⟩;have mem:(bh mM (Sum.inr ru.1)).isSome=(g3 ru.1).isSome:=by rw [S5.val,pH]
    have fl5:=S5.sm fl _ (λz=>by rw [z,hd] at Ge;cases Ge) Ge;have c5':=S5.sm c' _ (λz=>by rw [z,hd] at mS;cases mS) mS;have l5:=S5.len;refine⟨_,rfl,_,rfl,d,_,rfl,b0.k (k:=Sum.inr ru.1) S5.hd,_,rfl,?_⟩;refine bJ (λc5=>?_) (λc5=>?_)
    .have fr:c_ bt g3 ru=true:=by
      unfold c_;rw [<-mem,c4,c5];rfl
     refine⟨_,rfl,_,rfl,_,rfl,d,_,rfl,j6.k (k:=Sum.inr ru.1) S5.hd (bD ∅),?_⟩;exact⟨_,_,dW g3 ru.1 (aM g3 ru),true,_,_,_,rfl,S5.put o9 (aM g3 ru),(ax fr).symm⟩
    have isS:(g3 ru.1).isSome=true:=by
     rw [mem] at c5;cases hq:(g3 ru.1).isSome with
     | true=>rfl
     | false=>rw [hq] at c5;exact absurd rfl c5
    obtain⟨k,ek⟩:=ng.mp isS;have hg:b0 H8 d (.str ru.1) (some (.int k)):=by
     have:=b0.k (k:=Sum.inr ru.1) S5.hd;rw [S5.val,ek] at this;exact this
    refine⟨fl,pm,c',gN,rfl,_,rfl,_,rfl,_,rfl,d,_,rfl,hg,fl5,c5',rfl,Qb (aM g3 ru) k _ _ ⟨_,rfl,?_⟩⟩;refine bJ (λc6=>?_) (λc6=>?_)
    .have fr:c_ bt g3 ru=true:=by
      unfold c_;rw [c4,ek];show (true && (false || bt (aM g3 ru) k))=true
      rw [c6];rfl
     refine⟨_,rfl,_,rfl,_,rfl,d,_,rfl,j6.k (k:=Sum.inr ru.1) S5.hd (bD ∅),?_⟩;exact⟨_,_,dW g3 ru.1 (aM g3 ru),true,_,_,_,rfl,S5.put o9 (aM g3 ru),(ax fr).symm⟩
    have fr:¬c_ bt g3 ru=true:=by
     unfold c_;rw [c4,ek];show ¬(true && (false || bt (aM g3 ru) k))=true
     rw [oN.mpr c6];exact nofun
    exact⟨mM,Dz,g3,yp,_,_,_,rfl,S5,(az fr).symm⟩
   have e5:sstep bt (g3,yp) ru=(g3,yp):=az (λz=>c4 (by unfold c_ at z;exact(jo.mp z).1));exact⟨mM,Dz,g3,yp,_,_,_,rfl,S4,e5.symm⟩
  rintro σ H6 ⟨mM,Dz,g3,yp,y4,y5,y6,rfl,S3,e3⟩;rw [au,ll,cv] at e3;exact⟨mM,Dz,g3,yp,_,_,_,rfl,S3,e3⟩
 rcases cs with ⟨c',_⟩ | ⟨_,se⟩
 .rw [c'] at c;exact absurd rfl c
 exact⟨_,rfl,qq fq Sb g2 H5 S2.sm S2.hd S2.keys S2.val Hm se (by have:=S2.len;omega)⟩
end
end gY
namespace M11
open PySem L2
theorem fold_lt {bt:Int->Int->Bool}{aa:List aw}{J:G->Prop}{r:G->G->Prop}(tr:∀a b c,r a b->r b c->r a c)
  (yF:∀g ru,J g->ru∈aa->c_ bt g ru=true->J (dW g ru.1 (aM g ru))/\r (dW g ru.1 (aM g ru)) g) :
  ∀(l:List aw)(a:G×Bool),(∀ru∈l,ru∈aa)->J a.1->J (l.foldl (sstep bt) a).1/\(l.foldl (sstep bt) a=a\/r (l.foldl (sstep bt) a).1 a.1)
 | [],a,_,j=>⟨j,.inl rfl⟩
 | ru::l,a,h,j=>by
  by_cases c:c_ bt a.1 ru=true
  .have e:sstep bt a ru=(dW a.1 ru.1 (aM a.1 ru),true):=ax c;obtain⟨j1,r1⟩:=yF a.1 ru j (h ru cS) c;obtain⟨j2,r2⟩:=fold_lt tr yF l (dW a.1 ru.1 (aM a.1 ru),true) (λx hx=>h x (cY _ hx)) j1;rw [List.foldl_cons,e];refine⟨j2,.inr ?_⟩;rcases r2 with r2 | r2
   .rw [r2];exact r1
   exact tr _ _ _ r2 r1
  have e:sstep bt a ru=a:=az c;rw [List.foldl_cons,e];exact fold_lt tr yF l a (λx hx=>h x (cY _ hx)) j
def yc {bt:Int->Int->Bool}{aa:List aw}{J:G->Prop}{r:G->G->Prop}(tr:∀a b c,r a b->r b c->r a c)
  (yF:∀g ru,J g->ru∈aa->c_ bt g ru=true->J (dW g ru.1 (aM g ru))/\r (dW g ru.1 (aM g ru)) g){g:G}(h:Acc r g)(j:J g):∃n,pF bt aa n g:=by
 induction h with
 | intro g _ ih =>
  cases c:(tN bt aa g).2 with
  | false=>exact⟨0,c⟩
  | true =>
   obtain⟨j2,r2⟩:=fold_lt tr yF aa (g,false) (λ_ h=>h) j;have r3:r (tN bt aa g).1 g:=by
    rcases r2 with r2 | r2
    .have e:(tN bt aa g)=(g,false):=r2;rw [e] at c;cases c
    exact r2
   obtain⟨n,hn⟩:=ih _ r3 j2;exact⟨n+1,.inr hn⟩
def eJ.keep {bt:Int->Int->Bool}{aa:List aw}{J:G->Prop}(yF:∀g ru,J g->ru∈aa->c_ bt g ru=true->J (dW g ru.1 (aM g ru))){g g':G}(h:eJ bt aa g g')(j:J g):J g':=by
 induction h with
 | refl=>exact j
 | step _ a b ih=>exact yF _ _ ih a b
noncomputable def fP (f:Str->Nat) (hs:List Str):Nat:=(hs.map f).sum
theorem xo {f k:Str->Nat}:∀{hs:List Str},(∀x∈hs,f x<=k x)->fP f hs<=fP k hs
 | [],_=>aU _
 | h::r,q=>by
  have h1:=q h cS;have h2:=xo (hs:=r) λx hx=>q x (cY _ hx);show f h+fP f r<=k h+fP k r;omega
theorem ny {f k:Str->Nat}:∀{hs:List Str}{h:Str},(∀x∈hs,f x<=k x)->h∈hs->f h < k h->fP f hs < fP k hs
 | a::r,h,q,m,l=>by
  have h1:=q a cS;have h2:∀x∈r,f x<=k x:=λx hx=>q x (cY _ hx);show f a+fP f r < k a+fP k r;rcases b8.mp m with z | z
  .have:=xo h2;rw [z] at l;omega
  have:=ny h2 z l;omega
theorem jM (g:G)(J:∀z n,g z=some n->(0:Int)<=n):∀ps:List Str,0<=(ps.map λp=>(g p).getD 0).sum
 | []=>by simp
 | p::r=>by
  have h1:=jM g J r;have h2:0<=(g p).getD 0:=by
   cases e:g p with
   | none=>exact j7 _
   | some n=>exact J p n e
  rw [cE,kq];omega
def NN (g:G):Prop:=∀z n,g z=some n->(0:Int)<=n
def wg {g:G}(j:NN g)(ru:aw):NN (dW g ru.1 (aM g ru)):=λz n e=>by
 unfold dW at e;by_cases c:z=ru.1
 .rw [ax c] at e;cases e;have:=jM g j ru.2;unfold aM;omega
 rw [az c] at e;exact j z n e
def bl (a b:Int):Bool:=decide (a < b)
def bg (a b:Int):Bool:=decide (a > b)
def Aa (hs:List Str)(g' g:G):Prop :=
 fP (λh=>if (g' h).isSome then 0 else 1) hs < fP (λh=>if (g h).isSome then 0 else 1) hs \/
 (fP (λh=>if (g' h).isSome then 0 else 1) hs=fP (λh=>if (g h).isSome then 0 else 1) hs/\fP (λh=>((g' h).getD 0).toNat) hs < fP (λh=>((g h).getD 0).toNat) hs)
def I_ (hs:List Str)(g:G):Acc (Aa hs) g:=by
 have wf:=(Prod.lex (β:=Nat) (α:=Nat) ⟨(· < ·),Nat.lt_wfRel.wf⟩ ⟨(· < ·),Nat.lt_wfRel.wf⟩).wf;have key:∀p:Nat×Nat,∀g:G,(fP (λh=>if (g h).isSome then 0 else 1) hs,fP (λh=>((g h).getD 0).toNat) hs)=p->Acc (Aa hs) g:=λp=>by
  induction p using wf.induction with
  | _ p ih =>
   intro g e;refine⟨g,λg' r=>ih _ ?_ g' rfl⟩;rw [<-e];rcases r with r | ⟨r1,r2⟩
   .exact Prod.Lex.left _ _ r
   show Prod.Lex _ _ (fP (λh=>if (g' h).isSome then 0 else 1) hs,_) _;rw [r1];exact Prod.Lex.right _ r2
 exact key _ g rfl
def Me (hs:List Str)(a b c:G)(h:Aa hs a b)(k:Aa hs b c):Aa hs a c:=by
 unfold Aa at *;omega
def FP {aa:List aw}(g:G)(ru:aw)(j:NN g)(m:ru∈aa)(f:c_ bl g ru=true):NN (dW g ru.1 (aM g ru))/\Aa (aa.map (·.1)) (dW g ru.1 (aM g ru)) g:=by
 refine⟨wg j ru,?_⟩;have hm:ru.1∈aa.map (·.1):=iq m;have nn:=wg j ru;have Di:dW g ru.1 (aM g ru) ru.1=some (aM g ru):=ax rfl;have ne:∀z,z≠ru.1->dW g ru.1 (aM g ru) z=g z:=λz n=>az n;unfold c_ at f;have f2:=(jo.mp f).2;cases e:g ru.1 with
 | none =>
  refine .inl (ny (λx _=>?_) hm ?_)
  .by_cases c:x=ru.1
   .show (if (dW g ru.1 (aM g ru) x).isSome then 0 else 1)<=_;rw [c,Di];exact gG _
   show (if (dW g ru.1 (aM g ru) x).isSome then 0 else 1)<=_;rw [ne x c];exact aU _
  show (if (dW g ru.1 (aM g ru) ru.1).isSome then 0 else 1) < (if (g ru.1).isSome then 0 else 1);rw [Di,e];show 0 < 1;exact Nat.one_pos
 | some k =>
  rw [e] at f2;have lt:aM g ru < k:=cw (by simpa [bl] using f2);have h0:=nn ru.1 _ Di;refine .inr ⟨?_,ny (λx _=>?_) hm ?_⟩
  .unfold fP
   congr 1
   refine List.map_congr_left λx _=>?_;by_cases c:x=ru.1
   .show (if (dW g ru.1 (aM g ru) x).isSome then 0 else 1)=(if (g x).isSome then 0 else 1);rw [c,Di,e];rfl
   show (if (dW g ru.1 (aM g ru) x).isSome then 0 else 1)=(if (g x).isSome then 0 else 1);rw [ne x c]
  .by_cases c:x=ru.1
   .show ((dW g ru.1 (aM g ru) x).getD 0).toNat<=((g x).getD 0).toNat;rw [c,Di,e];show (aM g ru).toNat<=k.toNat;omega
   show ((dW g ru.1 (aM g ru) x).getD 0).toNat<=((g x).getD 0).toNat;rw [ne x c];exact aU _
  show ((dW g ru.1 (aM g ru) ru.1).getD 0).toNat < ((g ru.1).getD 0).toNat;rw [Di,e];show (aM g ru).toNat < k.toNat;omega
def Ab (aa:List aw)(g:G)(j:NN g):∃n,pF bl aa n g:=yc (Me (aa.map (·.1))) (λg ru=>FP g ru) (I_ _ g) j
inductive Em (aa:List aw):Str->Prop
 | mk {ru:aw}:ru∈aa->(∀p∈ru.2,Em aa p)->Em aa ru.1
def tF (aa:List aw)(b:Str->Int):Prop:=(∀z,0<=b z)/\∀ru∈aa,(∀p∈ru.2,Em aa p)->1+(ru.2.map b).sum<=b ru.1
def GJ (aa:List aw)(b:Str->Int)(g:G):Prop:=∀z n,g z=some n->0<=n/\n<=b z/\Em aa z
theorem AZ {aa:List aw}{b:Str->Int}{g:G}(j:GJ aa b g)(hb:∀z,0<=b z):∀ps:List Str,(ps.map λp=>(g p).getD 0).sum<=(ps.map b).sum
 | []=>by simp
 | p::r=>by
  have h1:=AZ j hb r;have h2:(g p).getD 0<=b p:=by
   cases e:g p with
   | none=>exact hb p
   | some n=>exact(j p n e).2.1
  rw [cE,kq,cE,kq];omega
noncomputable def gm (b:Str->Int)(g:G)(h:Str):Nat:=if (g h).isSome then (b h - (g h).getD 0).toNat else (b h).toNat+1
def r9 {aa:List aw}{b:Str->Int}(B:tF aa b)(g:G)(ru:aw)(j:GJ aa b g)(m:ru∈aa)(f:c_ bg g ru=true) :
  GJ aa b (dW g ru.1 (aM g ru))/\fP (gm b (dW g ru.1 (aM g ru))) (aa.map (·.1)) < fP (gm b g) (aa.map (·.1)):=by
 have hm:ru.1∈aa.map (·.1):=iq m;have Di:dW g ru.1 (aM g ru) ru.1=some (aM g ru):=ax rfl;have ne:∀z,z≠ru.1->dW g ru.1 (aM g ru) z=g z:=λz n=>az n;unfold c_ at f;obtain⟨f1,f2⟩:=jo.mp f;have em:∀p∈ru.2,Em aa p:=λp hp=>by
  obtain⟨n,en⟩:=ng.mp (dN.mp f1 p hp);exact(j p n en).2.2
 have bd:=B.2 ru m em;have sb:=AZ j B.1 ru.2;have s0:=jM g (λz n e=>(j z n e).1) ru.2;have sz:0<=aM g ru/\aM g ru<=b ru.1:=by unfold aM;omega
 refine⟨λz n e=>?_,ny (λx _=>?_) hm ?_⟩
 .by_cases c:z=ru.1
  .rw [c,Di] at e;cases e;rw [c];exact⟨sz.1,sz.2,.mk m em⟩
  rw [ne z c] at e;exact j z n e
 .by_cases c:x=ru.1
  .rw [c];unfold gm;rw [Di];show (b ru.1 - aM g ru).toNat<=_;cases e:g ru.1 with
   | none=>show _<=(b ru.1).toNat+1;omega
   | some k =>
    rw [e] at f2;have lt:aM g ru > k:=cw (by simpa [bg] using f2);show _<=(b ru.1 - k).toNat;omega
  unfold gm;rw [ne x c];exact aU _
 unfold gm;rw [Di];show (b ru.1 - aM g ru).toNat < _;cases e:g ru.1 with
 | none=>show _ < (b ru.1).toNat+1;omega
 | some k =>
  rw [e] at f2;have lt:aM g ru > k:=cw (by simpa [bg] using f2);show _ < (b ru.1 - k).toNat;omega
def An {aa:List aw}{b:Str->Int}(B:tF aa b)(g:G)(j:GJ aa b g):∃n,pF bg aa n g :=
 yc (r:=λg' g=>fP (gm b g') (aa.map (·.1)) < fP (gm b g) (aa.map (·.1))) (λ_ _ _ h k=>kx h k) (r9 B) ((InvImage.wf (λg:G=>fP (gm b g) (aa.map λx:aw=>x.1)) Nat.lt_wfRel.wf).apply g) j
def x8 {aa:List aw}{b:Str->Int}(B:tF aa b){g g':G}(h:eJ bg aa g g')(j:GJ aa b g):GJ aa b g':=h.keep (λg ru a m f=>(r9 B g ru a m f).1) j
end M11
namespace L2
open PySem
def yi {K:bp}{H:Hp}{p D:Addr}{zs:List Str}{σ:St}{v:V}{x:Str}{Qp:Hp->Prop}(hp:aG K H p (zs.map V.str))(hz:zs.length<=10000)(hD:H D=none)
  (q:∀ts H2,aC H H2->H2 D=some (.lst (ts.map V.ref))->Paired (λt h=>a_ K H2 t [.str h,v]) ts zs->Qp H2) :
  ∃W:Nat->Nat->List V->St->Hp->Prop,(∃m,W 0 m [] (eh [x] [] σ) (upd H D (.lst []))) /\
 ∀i m ys σ' H,W i m ys σ' H->((iU K p).stop i H/\Qp H)\/((iU K p).go i H/\∃m',m' < m/\∀x H',(iU K p).lR i H x H'->dB 0 x σ' H' λσ2 H2=>gI σ2 H2 λb H3 =>
  if b=true then rf (gp (fS 0) (gp (tC v) p_)) σ2 H3 λy H4=>H4 D=some (.lst ys)/\ys.length < sizeLine/\W (i+1) m' (ys++[y]) σ2 (upd H4 D (.lst (ys++[y]))) else W (i+1) m' ys σ2 H3):=by
 refine bS (xs:=zs.map V.str) (λi ys σ2 H2=>∃ts:List Addr,ys=ts.map V.ref/\ts.length=i/\Paired (λt h=>a_ K H2 t [.str h,v]) ts (zs.take i)/\(∃y0,σ2=[y0])/\aC H H2/\H2 D=some (.lst ys))
  ⟨[],rfl,rfl,.nil,⟨none,rfl⟩,af hD _,ae⟩ (λi ys σ2 H2 _ h=>?_) (λi x ys σ2 H2 ex h=>?_) (λys σ2 H2 h=>?_)
 .obtain⟨_,_,_,_,_,sm,_⟩:=h;exact sm.seq hp
 .obtain⟨ts,rfl,ht,jZ,⟨y0,rfl⟩,sm,hd⟩:=h;rw [a9] at ex;obtain⟨z,ez,rfl⟩:=b_.mp ex;have li:=(bf.mp ez).1;refine goN (uH ?_);refine⟨_,rfl,qW,λt ji=>⟨?_,bD (by rw [au];omega),ts++[t],?_,?_,?_,⟨_,rfl⟩,?_,ae⟩⟩
  .rw [ak (aB hd ji)];exact hd
  .rw [bA];rfl
  .rw [bW,ht];rfl
  .rw [cK,ez];have jf:upd H2 t (.tup [.str z,v]) D=some (.lst (ts.map V.ref)):=by rw [ak (aB hd ji)];exact hd
   exact gF (Paired.dH jZ λt' h' z=>bj jf ((af ji _).tup z)) (bj jf (a_.of ae))
  intro b o hb;rw [ak (λz=>by rw [z,hD] at hb;cases hb)];exact af ji _ _ _ (sm b o hb)
 obtain⟨ts,rfl,ht,jZ,_,sm,hd⟩:=h;rw [au,cv] at jZ;exact q ts H2 sm hd jZ
def Tab.same {T:Addr}{pos:Pos}{qual:Str}{H H':Hp}(h:Tab T pos qual H)(s:aC H H'):Tab T pos qual H':=by
 obtain⟨ps,a,b,c⟩:=h;refine⟨ps,s _ _ a,b,c.imp id ?_⟩;rintro⟨c',e,g⟩;exact⟨c',e,s _ _ g⟩
def Tab.JW {T d:Addr}{pos:Pos}{qual:Str}{H H':Hp}{kvs:List (aT×V)}(h:Tab T pos qual H)(s:gu d H H')(hd:H d=some (.dK kvs)):Tab T pos qual H':=by
 obtain⟨ps,a,b,c⟩:=h;refine⟨ps,s _ _ (λz=>by rw [z,hd] at a;cases a) a,b,c.imp id ?_⟩;rintro⟨c',e,g⟩;exact⟨c',e,s _ _ (λz=>by rw [z,hd] at g;cases g) g⟩
structure yy (K:bp)(x qual:Str)(st:Stmt)(f:Addr)(fd:FuncData)(T:Addr):Prop where
 ex:∃(oc:Value)(od:Option Addr)(kV doc pm:Value)(an:Option Addr)(c:Addr)(ct:Value)(xF:Array (Option Value)),
  fd=PySem.W.fnOf x qual (dU st) (cQ st) (ay st) .none kV doc pm an (.ref c) ct/\K.lookup f=some ⟨oc,od,.func fd,xF⟩/\PySem.W.codeIn K (.ref c) qual=true/\PySem.W.codeHdIn K c T=true
 kp:PySem.W.keepIn K (.ref f)=true
def yy.ok {P:Program}{w:World}{K:bp}{mg:Str->Option Value}{base:Heap}{x qual:Str}{st:Stmt}{f:Addr}{fd:FuncData}{T:Addr}{N ps:List Str}{k:Nat}{sp:Sp}(F:yy K x qual st f fd T)(S:aK N ps (ay st))(len:∀vs H Q E,sp vs H Q E->vs.length=ps.length)
  (jC:∀(c:Addr)(A:Around)(outer:List Env)(s:Shared)(H:Hp)(vs:List V)(Q:VK)(E:XK),PySem.W.codeHdIn K c T=true->fJ k (A.deeper (PyProof.Rows.envOfC qual (ay st) s.heap.objs.size f (.ref c)))->sp vs H Q E ->
   ∃t,AH (pC fK P w K mg base N qual (ay st) f (.ref c) A outer s H E).CC (cQ st) t/\t { nx:=λ_ H'=>Q .eZ H',rt:=Q } (start N vs) H):bV P w K mg base fK (k+1) f fd ps sp:=by
 obtain⟨oc,od,kV,doc,pm,an,c,ct,xF,rfl,lk,wF,hC⟩:=F.ex;refine Gn lk wF S len λA outer s H vs Q E hr yG=>?_;obtain⟨t,h,q⟩:=jC c A outer s H vs Q E hC hr yG;exact⟨t,h.CC,q⟩
theorem uB {v:V}:∀(hs:List Str)(bF:List (aT×V)) (as:List Str),bF.map (·.1)=as.map Sum.inr->(cM (hs.map λh=>((Sum.inr h:aT),v)) bF).map (·.1)=(M11.lU as hs).map Sum.inr
 | [],bF,as,e=>e
 | h::r,bF,as,e=>uB r (bM bF (Sum.inr h) v) (M11.gr as h) (gY.jy e h)
theorem q0 {v:V}:∀(hs:List Str)(bF:List (aT×V))(z:Str),bh (cM (hs.map λh=>((Sum.inr h:aT),v)) bF) (Sum.inr z)=if z∈hs then some v else bh bF (Sum.inr z)
 | [],bF,z=>by simp [cM]
 | h::r,bF,z=>by
  have ih:=q0 (v:=v) r (bM bF (Sum.inr h) v) z;show bh (cM (r.map λh=>((Sum.inr h:aT),v)) (bM bF (Sum.inr h) v)) (Sum.inr z)=_;rw [ih,q_];by_cases c:z∈r
  .rw [ax c,ax (cY _ c)]
  rw [az c];by_cases c2:z=h
  .rw [ax (by rw [c2]),ax (by rw [c2];exact cS)]
  rw [az (λe=>c2 (jJ e)),az (λe=>(b8.mp e).elim c2 c)]
end L2
namespace gY
open PySem L2 M11
noncomputable def PK:List Stmt->Arguments×Expr×Scope×Pos
 | [.Return (some (.Call _ [_,_,.Lambda p b s pos] _ _)) _]=>(p,b,s,pos)
 | _=>(⟨[],[],none,[],[],none,[]⟩,.Constant .none 0 ⟨0,0,0,0⟩,ay rE,⟨0,0,0,0⟩)
abbrev rS:=PK (cQ rE)
abbrev z_:=PK (cQ vU)
noncomputable abbrev yE:Str := "least_sizes" ++ ".<locals>." ++ "<lambda>"
noncomputable abbrev Kf:Str := "greatest_empty_sizes" ++ ".<locals>." ++ "<lambda>"
def Lj:aK ["size","known"] ["size","known"] rS.2.2.1:=iz rfl rfl rfl rfl nofun
def Ll:aK ["size","known"] ["size","known"] z_.2.2.1:=iz rfl rfl rfl rfl nofun
section
def zM (F:hV K "settled_sizes" "settled_sizes" nP f fd)(T:Txt mg):bV P w K mg base fK 2 f fd ["rules","sizes","better"] (iK K yE rS.1 rS.2.1 rS.2.2.1 M11.bl) :=
 uy F T Lj (λpm gN c' us hl=>match us,hl with | [_,_],_=>rfl) (λ_ _ _ _ _ _=>dw kW (pv 0) (pv 1) (bx _)) (λa b H Q h=>⟨_,rfl,_,rfl,_,_,rfl,rfl,h⟩)
def zN (F:hV K "settled_sizes" "settled_sizes" nP f fd)(T:Txt mg):bV P w K mg base fK 2 f fd ["rules","sizes","better"] (iK K Kf z_.1 z_.2.1 z_.2.2.1 M11.bg) :=
 uy F T Ll (λpm gN c' us hl=>match us,hl with | [_,_],_=>rfl) (λ_ _ _ _ _ _=>dw Fh (pv 0) (pv 1) (bx _)) (λa b H Q h=>⟨_,rfl,_,rfl,_,_,rfl,rfl,h⟩)
noncomputable def wG (aa:List aw):G:=λz=>if z∈tH (hd aa) [] (aa.flatMap (·.2)) then some 0 else none
def ql (K:bp)(T1:Addr):Sp:=λvs H Q _=>∃(R:Addr)(rs:List Addr)(aa:List aw),vs=[.ref R]/\aG K H R (rs.map V.ref)/\bQ K H rs aa/\aa.length<=1000/\(∀ru∈aa,ru.2.length<=8)/\Tab T1 rS.2.2.2 yE H /\
 ∀(d:Addr)(kvs:List (aT×V)) (ks:List Str)(g:G)(H':Hp),H d=none->gu T1 H H'->Tab T1 rS.2.2.2 yE H'->H' d=some (.dK kvs)->kvs.map (·.1)=ks.map Sum.inr->(∀z,bh kvs (Sum.inr z)=(g z).map V.int)->eJ M11.bl aa (wG aa) g->iE M11.bl aa g->kvs.length<=20000->Q (.ref d) H'
def Im:aK ["rules"] ["rules"] (ay rE):=iz rfl rfl rfl rfl nofun
def Fs {T1:Addr}(F:yy K "least_sizes" "least_sizes" rE f fd T1)(T:Txt mg)(hB:tG mg base)(GW:aF P w K mg base 1 "words_in" ["rules"] (A3 K))
  (GS:aF P w K mg base 2 "settled_sizes" ["rules","sizes","better"] (iK K yE rS.1 rS.2.1 rS.2.2.1 M11.bl)):bV P w K mg base fK 3 f fd ["rules"] (ql K T1):=by
 refine F.ok Im (λvs H Q E h=>?_) (λc A outer s H vs Q E hC hr h=>?_)
 .obtain⟨R,rs,aa,rfl,_⟩:=h;rfl
 obtain⟨R,rs,aa,rfl,hR,cy,bu,h8,hT,q⟩:=h;refine⟨_,ao (aL (bq GS hr rfl (ab (pv 0) (ab (aX (cV rfl) rfl T.wO dS (ab
  (aV ["word"] [] rfl (aR (bq (GW.mono (by decide:1<=2)) hr rfl (ab (pv 0) ai))) (aP rfl rfl) nofun rfl nofun
   (λ_ _ _ _ _=>aq (i:=0) (show (["word"]:List Str).Nodup by decide +kernel) rfl (aZ rfl)) (λ_ _ _ _ _=>a0)
   (λ_ _ _ _ _=>bC (ab (pv 0) (ab ar ai)))) ai)) (ab (E_ (T:=T1) rfl hC hB nofun) ai))))),?_⟩
 dsimp only [GI];refine⟨_,rfl,_,rfl,R,rs,aa,rfl,hR,cy,bu,h8,λD1 H1 f1 s1 e1=>?_⟩;have lw:(tH (hd aa) [] (aa.flatMap (·.2))).length<=8000:=by
  have h1:=vv (hd aa) (aa.flatMap (·.2)) [];have h2:=jF aa 1000 bu h8;simp only [jl] at h1;omega
 refine⟨D1,rfl,⟨_,aG.of e1⟩,λD2 jD=>yi (aG.of e1) ∅ jD λts H2 s2 e2 p2=>?_⟩;have kp:Paired (λt (kv:aT×V)=>a_ K H2 t [kV kv.1,kv.2]) ts ((tH (hd aa) [] (aa.flatMap (·.2))).map λh=>((Sum.inr h:aT),V.int 0)):=cZ p2 λ_ _ z=>z;refine⟨D2,ts,_,rfl,e2,kp,λd hd2=>?_⟩;have k1:=uB (v:=.int 0) (tH (hd aa) [] (aa.flatMap (·.2))) [] [] rfl;have k2:∀z,bh (cM ((tH (hd aa) [] (aa.flatMap (·.2))).map λh=>((Sum.inr h:aT),V.int 0)) []) (Sum.inr z)=(wG aa z).map V.int:=λz=>by
  rw [q0];unfold wG
  split <;> rfl
 have lk:=hU (tH (hd aa) [] (aa.flatMap (·.2))) [];simp only [jl] at lk;generalize cM ((tH (hd aa) [] (aa.flatMap (·.2))).map λh=>((Sum.inr h:aT),V.int 0)) []=PQ at k1 k2;have s3:=(s1.trans s2).trans (af hd2 (.dK PQ));have e3:upd H2 d (.dK PQ) d=some (.dK PQ):=ae;have uM:H d=none:=(s1.trans s2).free hd2;generalize upd H2 d (.dK PQ)=H3 at s3 e3;refine⟨hT.same s3,λfl c' gN H4 s4 t4 ffl e4 Wo=>?_⟩;have nT:d≠T1:=λz=>by
  obtain⟨ps,a,_⟩:=hT.same s3;rw [<-z,e3] at a;cases a
 have Bz:=s4 d _ nT e3;have UC:∀{a xs},a_ K H a xs->a_ K H4 a xs:=λ{a xs} h=>by
  obtain⟨ps,b,_⟩:=hT;rcases h with (h | ⟨u,h⟩) | h
  .exact .inl (.inl (s4 _ _ (λz=>by rw [z,b] at h;cases h) (s3 _ _ h)))
  .exact .inl (.inr ⟨u,s4 _ _ (λz=>by rw [z,b] at h;cases h) (s3 _ _ h)⟩)
  exact .inr h
 have UD:∀{a xs},aG K H a xs->aG K H4 a xs:=λ{a xs} h=>by
  obtain⟨ps,b,_⟩:=hT;rcases h with (h | ⟨u,h⟩) | h
  .exact .inl (.inl (s4 _ _ (λz=>by rw [z,b] at h;cases h) (s3 _ _ h)))
  .exact .inl (.inr ⟨u,s4 _ _ (λz=>by rw [z,b] at h;cases h) (s3 _ _ h)⟩)
  exact .inr h
 refine⟨R,rs,aa,d,fl,c',_,gN,PQ,_,wG aa,rfl,UD hR,cy.keep λ_ _ z=>UC z,bu,h8,Bz,k1,pz _ iZ,∅,k2,Ab aa _ λz n e=>?_,e4,Wo,λmN PR g' H5 s5 e5 k5 v5 st se YO=>?_⟩
 .unfold wG at e
  split at e
  .cases e;exact j7 _
  cases e
 refine q d mN PR g' H5 uM (λb o n hb=>s5 b o (λz=>?_) (s4 b o n (s3 b o hb))) (t4.JW s5 Bz) e5 k5 v5 st se YO;rw [z,uM] at hb;cases hb
def vG (K:bp)(T2:Addr):Sp:=λvs H Q _=>∃(R:Addr)(rs:List Addr)(aa:List aw)(b:Str->Int),vs=[.ref R]/\aG K H R (rs.map V.ref)/\bQ K H rs aa/\aa.length<=1000/\(∀ru∈aa,ru.2.length<=8)/\tF aa b/\Tab T2 z_.2.2.2 Kf H /\
 ∀(d:Addr)(kvs:List (aT×V)) (ks:List Str)(g:G)(H':Hp),H d=none->gu T2 H H'->Tab T2 z_.2.2.2 Kf H'->H' d=some (.dK kvs)->kvs.map (·.1)=ks.map Sum.inr->(∀z,bh kvs (Sum.inr z)=(g z).map V.int)->GJ aa b g->eJ M11.bg aa (λ_=>none) g->iE M11.bg aa g->Q (.ref d) H'
def Iq:aK ["rules"] ["rules"] (ay vU):=iz rfl rfl rfl rfl nofun
def Fu {T2:Addr}(F:yy K "greatest_empty_sizes" "greatest_empty_sizes" vU f fd T2)(hB:tG mg base)
  (GS:aF P w K mg base 2 "settled_sizes" ["rules","sizes","better"] (iK K Kf z_.1 z_.2.1 z_.2.2.1 M11.bg)):bV P w K mg base fK 3 f fd ["rules"] (vG K T2):=by
 refine F.ok Iq (λvs H Q E h=>?_) (λc A outer s H vs Q E hC hr h=>?_)
 .obtain⟨R,rs,aa,b,rfl,_⟩:=h;rfl
 obtain⟨R,rs,aa,b,rfl,hR,cy,bu,h8,Zs,hT,q⟩:=h;refine⟨_,ao (aL (bq GS hr rfl (ab (pv 0) (ab fk (ab (E_ (T:=T2) rfl hC hB nofun) ai))))),?_⟩;refine⟨_,rfl,λd uM=>?_⟩;have s3:=af uM (.dK []);have e3:upd H d (.dK []) d=some (.dK []):=ae;generalize upd H d (.dK [])=H3 at s3 e3;refine⟨hT.same s3,λfl c' gN H4 s4 t4 ffl e4 Wo=>?_⟩;have nT:d≠T2:=λz=>by
  obtain⟨ps,a,_⟩:=hT.same s3;rw [<-z,e3] at a;cases a
 have Bz:=s4 d _ nT e3;have UC:∀{a xs},a_ K H a xs->a_ K H4 a xs:=λ{a xs} h=>by
  obtain⟨ps,b,_⟩:=hT;rcases h with (h | ⟨u,h⟩) | h
  .exact .inl (.inl (s4 _ _ (λz=>by rw [z,b] at h;cases h) (s3 _ _ h)))
  .exact .inl (.inr ⟨u,s4 _ _ (λz=>by rw [z,b] at h;cases h) (s3 _ _ h)⟩)
  exact .inr h
 have UD:∀{a xs},aG K H a xs->aG K H4 a xs:=λ{a xs} h=>by
  obtain⟨ps,b,_⟩:=hT;rcases h with (h | ⟨u,h⟩) | h
  .exact .inl (.inl (s4 _ _ (λz=>by rw [z,b] at h;cases h) (s3 _ _ h)))
  .exact .inl (.inr ⟨u,s4 _ _ (λz=>by rw [z,b] at h;cases h) (s3 _ _ h)⟩)
  exact .inr h
 have j0:GJ aa b (λ_=>none):=λz n e=>nomatch e;refine⟨R,rs,aa,d,fl,c',_,gN,[],[],λ_=>none,rfl,UD hR,cy.keep λ_ _ z=>UC z,bu,h8,Bz,rfl,iZ,gG _,λ_=>rfl,An Zs _ j0,e4,Wo,λmN PR g' H5 s5 e5 k5 v5 st se YO=>?_⟩;refine q d mN PR g' H5 uM (λb o n hb=>s5 b o (λz=>?_) (s4 b o n (s3 b o hb))) (t4.JW s5 Bz) e5 k5 v5 (x8 Zs st j0) st se;rw [z,uM] at hb;cases hb
end
end gY
namespace L2
open PySem PySem.Spec PyProof.Rows
def MZ (o:Obj):Nat:=match o.data with
 | .dict _ ep=>ep
 | _=>0
def Rx (d:Addr)(o:Obj)(kvs:List (aT×V)):It :=
 ⟨λi H=>H d=some (.ki o (.dK kvs))/\i < kvs.length,λi H x H'=>H'=H/\∃kv,kvs[i]?=some kv/\x=kV kv.1,λi H=>H d=some (.ki o (.dK kvs))/\kvs.length<=i⟩
def Ar {X:Cx}{aj:List (Addr×Obj)}{σ:St}{H:Hp}{s:Shared}{d:Addr}{o:Obj}{kvs:List (aT×V)}(I:Inv X aj σ H s)(e:H d=some (.ki o (.dK kvs))) :
  (d == sysModules)=false/\∃vs,KV kvs vs/\s.heap.DictAt (bB X.prog X.w) d vs (MZ o):=by
 obtain⟨ho,hz,hs,vs,r,o',es,ep,h1,h2,h3,h4⟩:=(show cW X.prog X.w H s.heap d (.ki o (.dK kvs)) from I.cC d _ e);rw [ho] at h1;cases h1;refine⟨hs,vs,r,o,es,ho,h2,?_,h4⟩;unfold MZ;rw [h3]
def B9 {P:Program}{w:World}{K:bp}{tg:Expr}(d it:Addr)(o:Obj)(kvs:List (aT×V)):Turn P w K tg (Rx d o kvs) [it] it (λi h=>h.IsKeyIter it d i kvs.length (MZ o)) where
 mem:=by simp
 obj:=λi h st b hb=>by
  have e:b=it:=by simpa using hb
  subst e;obtain⟨o,e,c,d⟩:=st;exact⟨o,e,λv z=>by rw [d] at z;cases z⟩
 keep:=λi h h' st k=>let ⟨o,e,r⟩:=st;⟨o,k it (by simp) o e,r⟩
 item:=by
  intro X hP hw hK hc i aj s σ H E I hf st hg;subst hP hw hK;obtain⟨hq,hi⟩:=hg;obtain⟨hs,vs,r,da⟩:=Ar I hq;have l:=r.length;obtain⟨kv,Sz⟩:∃kv,kvs[i]?=some kv:=⟨kvs[i],dI hi⟩;obtain⟨q,eq⟩:∃q,vs[i]?=some q:=⟨vs[i]'∅,dI ∅⟩;have ek:kv.1=q.1:=by
   have:=congrArg (λl:List aT=>l[i]?) r.keys;simp only [a9,Sz,eq] at this;exact gO this
  obtain⟨f0,f1,f2,f3,f4,f5⟩:=hf it (by simp);rw [l] at st;refine wpAny_pyNext_dict_item (k:=q.1) (v:=q.2) st da eq λkey h' hk w6 sb=>?_;have I1:Inv X aj σ H { s with heap:=h' }:=I.turned (t':=s.toks) (λb o hb e=>(sb.2 b hb).trans e) f0 f1 f3 f4 f5;obtain⟨o2,e,c,dd⟩:=id w6;rw [<-l] at w6;exact⟨key,rfl,BA (s:={ s with heap:=h' }) e c dd nofun ⟨kV kv.1,H,I1,by rw [ek];exact Km hk,⟨rfl,kv,Sz,rfl⟩,w6,λb hb=>(hf b hb).1⟩⟩
 done:=by
  intro X hP hw hK hc i aj s σ H E I hf st hg;subst hP hw hK;obtain⟨hq,hi⟩:=hg;obtain⟨hs,vs,r,da⟩:=Ar I hq;have l:=r.length;obtain⟨f0,f1,f2,f3,f4,f5⟩:=hf it (by simp);rw [l] at st;exact wpAny_pyNext_dict_end (I.ok.hd hc) st da (tU ∅) λh' eb=>⟨rfl,I.turned (t':=s.toks) (λb o hb e=>eb b o hb e) f0 f1 f3 f4 f5⟩
 self:=λ_ _ _ _ _ st h=>wpAny_pyIter_keyiter st h
def P6 (tl:TE):TI:=λσ H R=>tl σ H λx H1=>∃d kvs,x=.ref d/\H1 d=some (.dK kvs)/\∀o,R (Rx d o kvs) (upd H1 d (.ki o (.dK kvs)))
def Bn {X:Cx}{tg l:Expr}{tl:TE}(hl:PE X l tl):PI X tg l (P6 tl):=by
 intro aj s σ H R I h;refine dC (hl aj s σ H _ I h) λv s1 bN=>?_;obtain⟨x,H1,I1,r1,q1⟩:=bN;obtain⟨d,kvs,e,hd,q⟩:=q1;subst e;cases r1;obtain⟨hz,hs,vs,r,o,es,ep,h1,h2⟩:=(show cW X.prog X.w H1 s1.heap d (.dK kvs) from I1.cC d _ hd);have I2:Inv X aj σ (upd H1 d (.ki o (.dK kvs))) { s1 with heap:=s1.heap,toks:=s1.toks }:=I1.write (x:=d) (e:=d) (by rw [hd];exact True.intro) (.inl rfl) (λb u _ e=>e) ⟨o,h1⟩ ⟨h1,hz,hs,vs,r,o,es,ep,h1,h2⟩;have e2:upd H1 d (.ki o (.dK kvs)) d=some (.ki o (.dK kvs)):=ae;obtain⟨_,XN,r2,da⟩:=Ar I2 e2;have q2:=q o;generalize upd H1 d (.ki o (.dK kvs))=H2 at I2 e2 q2;refine wpAny_pyIter_dict hs da ?_;refine⟨s1.heap.objs.size,[s1.heap.objs.size],_,_,H2,rfl,I2.kept (t':=s1.toks) λb o e=>cJ _ e,B9 d _ o kvs,⟨_,d8 _ rfl,rfl,by rw [r2.length];rfl⟩,λb hb=>?_,q2⟩;have e:b=s1.heap.objs.size:=by simpa using hb
 subst e;exact I2.wI (aU _) (I2.cC.fresh (aU _))
section
variable {d D:Addr}{o:Obj}{kvs:List (aT×V)}{ts:List Str}{js:List (Nat×Str)}{g:TG}{tif:TT}{te:TE}{R:Hp->Prop}{σ:St}{H:Hp}
def sU (Pv:Nat->List V->St->Hp->Prop)(h0:Pv 0 [] (eh ts js σ) (upd H D (.lst [])))(hl:∀i ys σ H,i<=kvs.length->Pv i ys σ H->H d=some (.ki o (.dK kvs)))
  (hs:∀i kv ys σ H,kvs[i]?=some kv->Pv i ys σ H->g (kV kv.1) σ H λσ2 H2=>tif σ2 H2 λb H3=>if b=true then te σ2 H3 λy H4=>H4 D=some (.lst ys)/\ys.length < sizeLine/\Pv (i+1) (ys++[y]) σ2 (upd H4 D (.lst (ys++[y]))) else Pv (i+1) ys σ2 H3)
  (hd:∀ys σ H,Pv kvs.length ys σ H->R H) :
  ∃W:Nat->Nat->List V->St->Hp->Prop,(∃m,W 0 m [] (eh ts js σ) (upd H D (.lst []))) /\
 ∀i m ys σ' H,W i m ys σ' H->((Rx d o kvs).stop i H/\R H)\/((Rx d o kvs).go i H/\∃m',m' < m/\∀x H',(Rx d o kvs).lR i H x H'->g x σ' H' λσ2 H2=>tif σ2 H2 λb H3 =>
  if b=true then te σ2 H3 λy H4=>H4 D=some (.lst ys)/\ys.length < sizeLine/\W (i+1) m' (ys++[y]) σ2 (upd H4 D (.lst (ys++[y]))) else W (i+1) m' ys σ2 H3):=by
 refine⟨λi m ys σ H=>m=kvs.length - i/\i<=kvs.length/\Pv i ys σ H,⟨kvs.length,by simp,gG _,h0⟩,?_⟩;rintro i m ys σ' H ⟨rfl,hi,p⟩;have q:=hl i ys σ' H hi p;by_cases ke:i < kvs.length
 .refine .inr ⟨⟨q,ke⟩,kvs.length - (i+1),∅,λx H' y=>?_⟩;obtain⟨e,kv,Sz,rfl⟩:=y;subst e;have z:=hs i kv ys σ' _ Sz p;have h1:(i+1<=kvs.length)=True:=eq_true ke;simp only [h1,true_and];exact z
 have e:i=kvs.length:=by omega
 subst e;exact .inl ⟨⟨q,aU _⟩,hd ys σ' H p⟩
end
def uO {A:Around}{s:Shared}{l b:Addr}{ys xs:List Int}{aW dX:List Value}(r:bw (ys.map V.int) aW)(r2:bw (xs.map V.int) dX)(hl:s.heap.IsList l aW.toArray)(hb:s.heap.IsList b dX.toArray)(ne:l≠b)(hu:A.units < cLine) :
  SeqAt.EqAt A s (.ref l) (.ref b) (decide (ys=xs)):=by
 have l1:=r.length;have l2:=r2.length;rw [au] at l1 l2;by_cases bu:ys.length=xs.length
 .have h:=SeqAt.RcAt.lists (A:=A) (e:=λj=>decide (ys[j]?=xs[j]?)) hl hb (by simp only [cH];omega) hu λj h1 h2=>?_
  .have e:((List.range aW.toArray.size).all λj=>decide (ys[j]?=xs[j]?))=decide (ys=xs):=by
    rw [gi,dN,decide_eq_true_iff];constructor
    .intro h;refine List.ext_getElem? λj=>?_;by_cases c:j < ys.length
     .exact cw (h j (mq.mpr (by simp only [cH];omega)))
     rw [tU ∅,tU ∅]
    intro h j _;rw [h];exact cf rfl
   rw [e] at h;exact .of_refs ne h
  have k1:j < aW.length:=by simpa using h1
  have k2:j < dX.length:=by simpa using h2
  have e1:ys[j]?=some (ys[j]'∅):=dI ∅;have e2:xs[j]?=some (xs[j]'∅):=dI ∅;obtain⟨u1,f1,q1⟩:=r.get (show (ys.map V.int)[j]?=some (.int (ys[j]'∅)) by rw [a9,e1];rfl);obtain⟨u2,f2,q2⟩:=r2.get (show (xs.map V.int)[j]?=some (.int (xs[j]'∅)) by rw [a9,e2];rfl);have g1:aW.toArray[j]=u1:=by
   have:=(bf.mp f1).2;simpa using this
  have g2:dX.toArray[j]=u2:=by
   have:=(bf.mp f2).2;simpa using this
  rw [g1,g2,e1,e2];obtain⟨t1,rfl⟩:=q1;obtain⟨t2,rfl⟩:=q2;have:=SeqAt.EqAt.int_int (A:=A.in1) (s:=s) (ys[j]'∅) t1 (xs[j]'∅) t2;have e3:(ys[j]'∅ == xs[j]'∅)=decide (some (ys[j]'∅)=some (xs[j]'∅)):=by
   rw [gi,beq_iff_eq,decide_eq_true_iff,Option.some.injEq]
  rw [e3] at this;exact this
 have h:=SeqAt.RcAt.lists_lengths (A:=A) hl hb (by simp only [cH,bne_iff_ne];omega) hu;rw [d0 (λz=>bu (by rw [z]))];exact .of_refs ne h
def Co {X:Cx}(hu:X.A.units+1 < cLine):jH X (compareOp .In) (λx y H Q=>∃t a l1 l2 xs ys zs,x=.ref a/\y=.ref t/\a_ X.K H t [.ref l1,.ref l2]/\aG X.K H a (List.map V.int xs)/\aG X.K H l1 (List.map V.int ys)/\aG X.K H l2 (List.map V.int zs)/\l1≠a/\l2≠a /\
  Q (.bl (decide (ys=xs) || decide (zs=xs))) H):=by
 intro aj s σ H x y v u Q I rx ry h;obtain⟨t,a,l1,l2,xs,ys,zs,rfl,rfl,ht,ha,h1,h2,n1,n2,q⟩:=h;cases rx;cases ry;obtain⟨aW,r,pl,hz⟩:=I.tuple ht;obtain⟨u1,u2,rfl,q1,q2⟩:=vals2 r;cases (show u1=Value.ref l1 from q1);cases (show u2=Value.ref l2 from q2);obtain⟨xa,ra,pa,za⟩:=I.list ha;obtain⟨x1,r1,p1,z1⟩:=I.list h1;obtain⟨x2,r2,p2,z2⟩:=I.list h2;have e1:=uO (A:=X.A.in1) (s:=s) r1 ra p1.isList pa.isList n1 hu;have e2:=uO (A:=X.A.in1) (s:=s) r2 ra p2.isList pa.isList n2 hu;refine SeqAt.in_tupleAt (λy=>if y == .ref l1 then decide (ys=xs) else decide (zs=xs)) (show s.heap.IsTuple t #[.ref l1,.ref l2] from pl) (λy hy=>?_) ?_
 .have hy':y=.ref l1\/y=.ref l2:=by simpa using hy
  by_cases c:y=.ref l1
  .subst c;rw [ax (qC _)];exact e1
  rcases hy' with z | z
  .exact absurd z c
  subst z;rw [az (λq=>c (eq_of_beq q))];exact e2
 refine⟨.bl (decide (ys=xs) || decide (zs=xs)),H,I,?_,q⟩
 show Value.bool _=Value.bool _
 congr 1
 by_cases c:l2=l1
 .subst c;have e3:=I.rT h1 h2;have e4:ys=zs:=by
   have:=congrArg (List.map λv:V=>match v with | .int n=>n | _=>0) e3
   simpa [ik,Function.comp_def] using this
  subst e4;simp
 simp [c]
end L2
namespace M11
open PySem L2
noncomputable def CY (b:Str->Bool) (zs:List Str) (i:Nat):List Int:=((List.range i).filter λj=>!(zs[j]?.elim true b)).map λj:Nat=>(j:Int)
def x_ (b:Str->Bool) (zs:List Str) (i:Nat){z:Str}(e:zs[i]?=some z):CY b zs (i+1)=CY b zs i++(if b z=true then [] else [(i:Int)]):=by
 unfold CY;rw [List.range_succ,qF,bA]
 congr 1
 by_cases h:b z=true
 .rw [ax h];simp [e,h]
 rw [az h];simp [e,h]
def Ju (b:Str->Bool) (zs:List Str) (i:Nat):(CY b zs i).length<=i:=by
 unfold CY;rw [au];have:=l7 (λj=>!(zs[j]?.elim true b)) (List.range i);rw [u9] at this;exact this
noncomputable def I9 (b:Str->Bool) (zs:List Str) (j:Nat):Bool:=decide ([]=CY b zs zs.length) || decide ([(j:Int)]=CY b zs zs.length)
def Ot (aa:List aw) (names:List Str)(b:Str->Bool)(n:Str) (k j:Nat):Prop:=∃ru z,aa[k]?=some ru/\ru.1=n/\ru.2[j]?=some z/\z∈names/\I9 b ru.2 j=true
end M11
namespace L2
open PySem M11
noncomputable def ij (p:Str×Addr):aT×V:=(Sum.inr p.1,.ref p.2)
theorem i_:∀(ps bF:List (aT×V)),((bF++ps).map (·.1)).Nodup->cM ps bF=bF++ps
 | [],bF,_=>by simp [cM]
 | p::r,bF,h=>by
  have n:bh bF p.1=none:=by
   cases e:bh bF p.1 with
   | none=>rfl
   | some v =>
    have hm:=(eK bF p.1).mp (by rw [e];rfl);rw [bA,cE] at h;exact absurd rfl ((jm.mp h).2.2 p.1 hm p.1 cS)
  show cM r (bM bF p.1 p.2)=_;rw [rK p.2 n,i_ r (bF++[(p.1,p.2)]) (by rw [lZ];exact h),lZ];rfl
theorem fw:∀(ps:List (Str×Addr)),(ps.map (·.1)).Nodup->∀p∈ps,bh (ps.map ij) (Sum.inr p.1)=some (.ref p.2)
 | q::r,h,p,hp=>by
  rw [cE] at h ⊢;rcases b8.mp hp with z | z
  .rw [z];exact eQ rfl
  rw [eU,fw r (iI.mp h).2 p z];intro e;have e':q.1=p.1:=jJ e;exact(iI.mp h).1 (by rw [e'];exact iq z)
def iC (ps:List (Str×Addr)):(ps.map ij).map (·.1)=(ps.map (·.1)).map Sum.inr:=by
 rw [ik,ik];rfl
def sS {K:bp}{H:Hp}{p D:Addr}{zs:List Str}{σ:St}{x:Str}{Qp:Hp->Prop}(hp:aG K H p (zs.map V.str))(hz:zs.length<=10000)(hD:H D=none)
  (q:∀ts (ps:List (Str×Addr)) H2,aC H H2->H2 D=some (.lst (ts.map V.ref))->ps.map (·.1)=zs->Paired (λt (p:Str×Addr)=>a_ K H2 t [.str p.1,.ref p.2]) ts ps->(∀p∈ps,H2 p.2=some (.lst [])/\H p.2=none/\p.2≠D)->(ps.map (·.2)).Nodup->Qp H2) :
  ∃W:Nat->Nat->List V->St->Hp->Prop,(∃m,W 0 m [] (eh [x] [] σ) (upd H D (.lst []))) /\
 ∀i m ys σ' H,W i m ys σ' H->((iU K p).stop i H/\Qp H)\/((iU K p).go i H/\∃m',m' < m/\∀x H',(iU K p).lR i H x H'->dB 0 x σ' H' λσ2 H2=>gI σ2 H2 λb H3 =>
  if b=true then rf (gp (fS 0) (gp (OK p_) p_)) σ2 H3 λy H4=>H4 D=some (.lst ys)/\ys.length < sizeLine/\W (i+1) m' (ys++[y]) σ2 (upd H4 D (.lst (ys++[y]))) else W (i+1) m' ys σ2 H3):=by
 refine bS (xs:=zs.map V.str) (λi ys σ2 H2=>∃(ts:List Addr)(ps:List (Str×Addr)),ys=ts.map V.ref/\ts.length=i/\ps.map (·.1)=zs.take i/\Paired (λt (p:Str×Addr)=>a_ K H2 t [.str p.1,.ref p.2]) ts ps /\
   (∀p∈ps,H2 p.2=some (.lst [])/\H p.2=none/\p.2≠D)/\(ps.map (·.2)).Nodup/\(∃y0,σ2=[y0])/\aC H H2/\H2 D=some (.lst ys))
  ⟨[],[],rfl,rfl,rfl,.nil,by simp,by simp,⟨none,rfl⟩,af hD _,ae⟩ (λi ys σ2 H2 _ h=>?_) (λi x ys σ2 H2 ex h=>?_) (λys σ2 H2 h=>?_)
 .obtain⟨_,_,_,_,_,_,_,_,_,sm,_⟩:=h;exact sm.seq hp
 .obtain⟨ts,ps,rfl,ht,hm,jZ,hl,hn,⟨y0,rfl⟩,sm,hd⟩:=h;rw [a9] at ex;obtain⟨z,ez,rfl⟩:=b_.mp ex;have li:=(bf.mp ez).1;refine goN (uH ?_);refine⟨_,rfl,yB,λl o_=>⟨qW,λt ji=>?_⟩⟩;have L0:l≠D:=(aB hd o_).symm;have nt:t≠l:=λe=>by rw [e,ae] at ji;cases ji
  have F2:H2 t=none:=by rw [ak nt] at ji;exact ji
  have ntD:t≠D:=(aB hd F2).symm;have vJ:aC H2 (upd (upd H2 l (.lst [])) t (.tup [.str z,.ref l])):=(af o_ _).trans (af ji _);have jf:=vJ _ _ hd;have el:upd (upd H2 l (.lst [])) t (.tup [.str z,.ref l]) l=some (.lst []):=by rw [ak nt.symm,ae]
  have et:a_ K (upd (upd H2 l (.lst [])) t (.tup [.str z,.ref l])) t [.str z,.ref l]:=a_.of ae;generalize upd (upd H2 l (.lst [])) t (.tup [.str z,.ref l])=H4 at vJ jf el et;refine⟨jf,bD (by rw [au];omega),ts++[t],ps++[(z,l)],by rw [bA];rfl,by rw [bW,ht];rfl,by rw [bA,hm,cK,ez];rfl,?_,?_,?_,⟨_,rfl⟩,?_,ae⟩
  .exact gF (Paired.dH jZ λt' h' z=>bj jf (vJ.tup z)) (bj jf et)
  .intro p' o8;rcases cg.mp o8 with h | h
   .obtain⟨a1,a2,a3⟩:=hl p' h;exact⟨by rw [ak a3];exact vJ _ _ a1,a2,a3⟩
   rw [bH.mp h];exact⟨by rw [ak L0];exact el,sm.free o_,L0⟩
  .rw [bA];refine jm.mpr ⟨hn,by simp,λa ha b hb e=>?_⟩;rw [oO,bH] at hb;obtain⟨p',o8,rfl⟩:=cx.mp ha;have:=(hl p' o8).1;rw [e,hb] at this;rw [show H2 l=none from o_] at this;cases this
  intro b o hb;rw [ak (λz=>by rw [z,hD] at hb;cases hb)];exact vJ _ _ (sm b o hb)
 obtain⟨ts,ps,rfl,ht,hm,jZ,hl,hn,_,sm,hd⟩:=h;rw [au,cv] at hm;exact q ts ps H2 sm hd hm jZ hl hn
def yl {K:bp}{H:Hp}{p D d:Addr}{zs:List Str}{kvs:List (aT×V)}{σ:St}{js:List (Nat×Str)}{Qp:Hp->Prop}(hσ:eh ["place","part"] js σ=[none,none,aD d])(hp:a_ K H p (zs.map V.str))(hz:zs.length<=1000)
  (hd:H d=some (.dK kvs))(hD:H D=none)(q:∀H2,aC H H2->H2 D=some (.lst ((CY (λz=>(bh kvs (Sum.inr z)).isSome) zs zs.length).map V.int))->Qp H2) :
  ∃W:Nat->Nat->List V->St->Hp->Prop,(∃m,W 0 m [] (eh ["place","part"] js σ) (upd H D (.lst []))) /\
 ∀i m ys σ' H,W i m ys σ' H->((tD K p).stop i H/\Qp H)\/((tD K p).go i H/\∃m',m' < m/\∀x H',(tD K p).lR i H x H'->Ap K 2 (jE (dB 0) (jE (dB 1) CU)) x σ' H' λσ2 H2=>tB (AV (fS 1) (fS 2)) σ2 H2 λb H3 =>
  if b=true then fS 0 σ2 H3 λy H4=>H4 D=some (.lst ys)/\ys.length < sizeLine/\W (i+1) m' (ys++[y]) σ2 (upd H4 D (.lst (ys++[y]))) else W (i+1) m' ys σ2 H3):=by
 refine ym (xs:=zs.map V.str) (λi ys σ2 H2=>ys=(CY (λz=>(bh kvs (Sum.inr z)).isSome) zs i).map V.int/\(∃y0 y1,σ2=[y0,y1,aD d])/\aC H H2/\H2 D=some (.lst ys))
  ⟨rfl,⟨none,none,hσ⟩,af hD _,ae⟩ (λi ys σ2 H2 _ h=>h.2.2.1.tup hp) (λi x ys σ2 H2 t ex h ht=>?_) (λys σ2 H2 h=>?_)
 .obtain⟨rfl,⟨y0,y1,rfl⟩,sm,hd2⟩:=h;rw [a9] at ex;obtain⟨z,ez,rfl⟩:=b_.mp ex;have li:=(bf.mp ez).1;have vJ:=sm.trans (af ht (.tup [.int (i:Int),.str z]));have jf:upd H2 t (.tup [.int (i:Int),.str z]) D=some (.lst ((CY (λz=>(bh kvs (Sum.inr z)).isSome) zs i).map V.int)):=by rw [ak (aB hd2 ht)];exact hd2
  have hv:a_ K (upd H2 t (.tup [.int (i:Int),.str z])) t [.int (i:Int),.str z]:=a_.of ae;generalize upd H2 t (.tup [.int (i:Int),.str z])=H3 at vJ jf hv;have fl:=Ju (λz=>(bh kvs (Sum.inr z)).isSome) zs i;refine⟨t,_,rfl,hv,rfl,_,_,rfl,_,_,rfl,rfl,?_⟩;refine⟨_,rfl,_,rfl,d,_,rfl,b0.k (k:=Sum.inr z) (vJ _ _ hd),_,rfl,?_⟩;refine bJ (λc=>?_) (λc=>?_)
  .refine⟨_,rfl,jf,bD (by rw [au];omega),?_,⟨_,_,rfl⟩,?_,ae⟩
   .rw [x_ _ zs i ez,az (λe=>by rw [e] at c;exact absurd c nofun),bA];rfl
   intro b o hb;rw [ak (λz=>by rw [z,hD] at hb;cases hb)];exact vJ b o hb
  refine⟨?_,⟨_,_,rfl⟩,vJ,jf⟩;rw [x_ _ zs i ez,ax,il];cases hq:(bh kvs (Sum.inr z)).isSome with
  | true=>rfl
  | false=>exact absurd (by rw [hq];rfl) c
 obtain⟨rfl,_,sm,hd2⟩:=h;rw [au] at hd2;exact q H2 sm hd2
open PySem PySem.Spec PyProof.Rows
def gB {X:Cx}{elt iter tg:Expr}{iy:Nat}{y:Str}{py OV:Pos}{ifs:List Expr}{scope:Scope}{pos:Pos}{wi:TI}{g:TG}{tif:TT}{te:TE}(ts:List Str)(js:List (Nat×Str))(hN:X.N.Nodup)(hiy:X.N[iy]?=some y)(hy:X.env.scope.names.lookup y=some .local)(hc:X.calm=true)(hi:PI X tg iter wi)
  (cp:JO X scope js)(jB:∀y∈scope.names,y.2≠.cell)(jA:scope.kind=.function)
  (Ak:∀y∈scope.names,y.2=.local->scope.names.lookup y.1=some .local)
  (hg:∀cl C s1 H1 fp,PG (sN X scope cl C s1 H1 (ts++js.map (·.2)) fp) tg g)
  (VC:∀cl C s1 H1 fp,Dm (sN X scope cl C s1 H1 (ts++js.map (·.2)) fp) ifs tif)(he:∀cl C s1 H1 fp,PE (sN X scope cl C s1 H1 (ts++js.map (·.2)) fp) elt te)
  (hsw:swapsWith (.ListComp elt [⟨tg,iter,ifs,0⟩] scope pos) (some (.Name y py)) OV.line X.env=pure true:=by rfl)(hs:∀x,foldedSetIterable iter X.env x=pure x:=by intro _;rfl) :
  PS X (.Assign [.Name y py] (.ListComp elt [⟨tg,iter,ifs,0⟩] scope pos) OV) (Ld (Ee wi ts js g tif te) (dB iy)):=by
 intro aj s σ H DD I h;rw [exec_Assign_Name_used _ _ _ _ hsw];refine aN (wpAny_standAt (aN ?_));show wpAny _ _ (do let _ <-comprehension (.ListComp elt [⟨tg,iter,ifs,0⟩] scope pos) scope X.env _ (newList []) false (eval iter X.env) (some (assign (.Name y py) X.env))) _ _ s;obtain⟨cl,ph⟩:=wQ (env:=X.env) (scope:=scope) λy hy=>I.ok.has y (.inl (cp.all y hy));refine aN (dY (wpAny_comprehension_free (use:=some (assign (.Name y py) X.env)) (Q:=λ_ s'=>SP X aj DD .next s') rfl hs ph.eq jA Ak (dC (hi aj s σ H _ I h) λv s1 h1=>dC h1 λSe s2 h2=>?_)) (λ_ s' hq=>ba (ba hq)) λ_ _ e=>e);obtain⟨it,fp,tn,J,H2,e,I2,T,Hm,f2,h2⟩:=h2;subst e;obtain⟨W,⟨m0,w0⟩,turn⟩:=h2 s2.heap.objs.size I2.fresh;have Ge:∀b∈fp,b < s2.heap.objs.size:=λb hb=>by obtain⟨o,e,_⟩:=T.obj _ _ Hm b hb;exact bR e
 refine mZ (wpAny_newFunctionEnv jB (by intro y hy;simp at hy) (λh₁ Aj wB=>?_) jA);dsimp only at Aj wB ⊢;generalize MM:s2.heap.push { cls:=.type "list",dict:=none,data:=.seq ([]:List Value).toArray }=G2 at Aj wB ⊢;have Js:G2.objs.size=s2.heap.objs.size+1:=by rw [<-MM,mn]
 have N3:s2.heap.objs.size≠G2.objs.size:=by rw [Js];exact cu (mY _)
 have old:∀b o,s2.heap.get? b=some o->h₁.get? b=some o:=λb o e =>
  wB.extBut b o (by rw [Js];exact cu (qR (bR e))) (cJ _ (MM ▸ cJ _ e))
 have CT:h₁.get? s2.heap.objs.size=some { cls:=.type "list",data:=.seq ([]:List Value).toArray 0 }:=wB.extBut _ _ N3 (cJ _ (MM ▸ d8 _ rfl));generalize nY:sN X scope cl G2.objs.size s2 H2 (ts++js.map (·.2)) fp=X2;have I4:Inv X2 [] (eh ts js σ) (upd H2 s2.heap.objs.size (.lst [])) { s2 with heap:=h₁,toks:=s2.toks+([]:List (Str×Value)).length }:=by
  rw [<-nY];exact uE I2 f2 Ge jA jB cp ph (by rw [Js];exact mY _) rfl rfl old Aj CT
 have x1:X2.prog=X.prog:=by rw [<-nY];rfl
 have x2:X2.w=X.w:=by rw [<-nY];rfl
 have x3:X2.K=X.K:=by rw [<-nY];rfl
 have x4:X2.calm=true:=by rw [<-nY];exact hc
 have x5:X2.A=X.A:=by rw [<-nY];rfl
 have x6:X2.env=compEnvC scope cl G2.objs.size X.env:=by rw [<-nY];rfl
 have x7:X2.xe=λ_ _=>False:=by rw [<-nY];rfl
 have VE:PG X2 tg g:=by rw [<-nY];exact hg _ _ _ _ _
 have Mz:Dm X2 ifs tif:=by rw [<-nY];exact VC _ _ _ _ _
 have Hz:PE X2 elt te:=by rw [<-nY];exact he _ _ _ _ _
 have OT:tn 0 h₁:=T.keep _ _ _ Hm λb _ o e=>old b o e;have rj:∀{H':Hp}{ka:List (Addr×Obj)},(∀b∈fp,H' b=none)->(∀p∈ka,p.1∉fp)->∀b∈fp,w5 X2 ka H' b:=λ{H' ka} hn hp b hb=>by
  have o4:=I4.ok;subst nY;exact⟨hn b hb,(o4.N6 b hb).1,o4.CZ b hb,.inl hb,(o4.N6 b hb).2,λp o8=>by
   have ou:p∈([]:List (Addr×Obj))++ka:=o8;rw [pG] at ou;intro z;exact hp p ou (by rw [z];exact hb)⟩
 have fin:∀{s':Shared}{σ':St}{H':Hp},Inv X2 [] σ' H' s'->DD.nx (σ.set iy (some (.ref s2.heap.objs.size))) H' ->
   compPost (model X.prog X.w) X.A X.xe (some (assign (.Name y py) X.env)) (λ_ s'=>SP X aj DD .next s') (.ref s2.heap.objs.size) G2.objs.size (.ok .next) s':=λ{s' σ' H'} J' q=>by
  subst nY;obtain⟨m',Ga,_⟩:=J'.loc;have I5:Inv X aj σ H' s':=I2.KJ (s':=s') J'.os J'.base J'.cC J'.bare λb hb=>by
   obtain⟨_,f1,_,f3,f4,f5⟩:=f2 b hb;exact⟨f3,f1,f4,f5⟩
  obtain⟨f0,f1,_,f3,f4,f5⟩:=I2.wI (H':=H') (b:=G2.objs.size) (by rw [Js];exact kj _) J'.free;show wpAny _ _ (assign (.Name y py) X.env (.ref s2.heap.objs.size)) _ _ s';refine wpAny_assign_Name (uf I5 hN hiy (.inl hy) (v:=.ref s2.heap.objs.size) rfl (λO3 I6 bN=>?_) (.inr hy));obtain⟨a,sb,ha⟩:=bN;have nCa:G2.objs.size≠a:=by
   rcases ha with ha | ha
   .rw [ha];exact f1
   exact(f4 _ _ ha).symm
  refine⟨m',Ga.sameBut sb nCa,λh' NV=>?_⟩;exact⟨_,H',I6.turned (t':=O3.toks) (λb o hb e=>(NV.2 b hb).trans e) f0 f1 f3 f4 f5,q⟩
 have loop:∀s₃:Shared,s₃={ s2 with heap:=h₁,toks:=s2.toks+([]:List (Str×Value)).length } ->
   codeAny (model X.prog X.w) X.A (.compLoop (.ListComp elt [⟨tg,iter,ifs,0⟩] scope pos) 0 (.ref it) (.ref s2.heap.objs.size) (compEnvC scope cl G2.objs.size X.env))
    (compPost (model X.prog X.w) X.A X.xe (some (assign (.Name y py) X.env)) (λ_ s'=>SP X aj DD .next s') (.ref s2.heap.objs.size) G2.objs.size) s₃:=by
  rintro s₃ rfl;subst nY;refine pW (λn s'=>∃i ys σ' H',Inv (sN X scope cl G2.objs.size s2 H2 (ts++js.map (·.2)) fp) [] σ' H' s'/\tn i s'.heap/\(∀b∈fp,H' b=none)/\W i n ys σ' H') ?_ m0
   ⟨0,[],_,_,I4,OT,λb hb=>by rw [ak (cu (Ge b hb))];exact(f2 b hb).1,w0⟩
  rintro n s' ⟨i,ys,σ0,H',J',w6,QO,w'⟩;rcases turn i n ys σ0 H' w' with ⟨stop,q⟩ | ⟨go,m',hm,step⟩
  .refine dY (T.done (sN X scope cl G2.objs.size s2 H2 (ts++js.map (·.2)) fp) rfl rfl rfl hc i [] s' _ H' (λ_ _=>False) J' (rj QO (by simp)) w6 stop) (λr s4 ⟨hr,J4⟩=>?_) λ_ _ z=>z;subst hr;exact fin J4 q
  refine dY (T.item (sN X scope cl G2.objs.size s2 H2 (ts++js.map (·.2)) fp) rfl rfl rfl hc i [] s' _ H' (λ_ _=>False) J' (rj QO (by simp)) w6 go) (λr s4 ⟨u,hr,h4⟩=>?_) λ_ _ z=>z;subst hr;refine dY h4 (λ_ s5 bN=>?_) λ_ _ z=>z;obtain⟨xv,H5,J5,r5,y5,Cb,QN⟩:=bN;have Xw:=J5.pinned (rj QN (by simp)) (T.obj _ _ Cb);have back:∀{s7:Shared}{σ7:St}{H7:Hp},Inv (sN X scope cl G2.objs.size s2 H2 (ts++js.map (·.2)) fp) ([]++oY fp s5.heap) σ7 H7 s7->Inv (sN X scope cl G2.objs.size s2 H2 (ts++js.map (·.2)) fp) [] σ7 H7 s7/\tn (i+1) s7.heap/\∀b∈fp,H7 b=none:=λ{s7 σ7 H7} J7=>by
   refine⟨J7.kK,T.keep _ _ _ Cb λb hb o e=>(J7.pin (b,o) (gH _ (gH _ (g_ hb e)))).1,λb hb=>?_⟩;obtain⟨o,e,d⟩:=T.obj _ _ Cb b hb;exact(J7.pin (b,o) (gH _ (gH _ (g_ hb e)))).2.1
  show wpAny _ _ (assign tg (sN X scope cl G2.objs.size s2 H2 (ts++js.map (·.2)) fp).env u) _ _ s5;refine dY (VE _ s5 _ H5 xv u _ Xw r5 (step xv H5 y5)) (λ_ s6 bN=>?_) λ_ _ z=>z;obtain⟨σ6,H6,J6,q6⟩:=bN;refine dY (Mz _ s6 _ H6 _ J6 q6) (λb s7 bN=>?_) λ_ _ z=>z;obtain⟨H7,J7,q7⟩:=bN;cases b with
  | false =>
   rw [az d5] at q7 ⊢;obtain⟨J8,TU,V4⟩:=back J7;exact⟨m',hm,i+1,ys,σ6,H7,J8,TU,V4,q7⟩
  | true =>
   rw [ax rfl] at q7 ⊢;refine dY (Hz _ s7 _ H7 _ J7 q7) (λyv s8 bN=>?_) λ_ _ z=>z;obtain⟨y,H8,J8,r8,VU,U6,w8⟩:=bN;refine dY (cA (X:=sN X scope cl G2.objs.size s2 H2 (ts++js.map (·.2)) fp) _ s8 _ H8 (.ref s2.heap.objs.size) [y] (.ref s2.heap.objs.size) [yv] (λv H'=>W (i+1) m' (ys++[y]) σ6 H') J8 rfl (.cons r8 .nil) ⟨s2.heap.objs.size,ys,y,rfl,rfl,VU,U6,w8⟩)
    (λ_ s9 ⟨_,H9,J9,_,w9⟩=>?_) λ_ _ z=>z
   obtain⟨Xx,Lg,MT⟩:=back J9;exact⟨m',hm,i+1,ys++[y],σ6,H9,Xx,Lg,MT,w9⟩
 exact codeAny_compStart_list (loop _ rfl) (T.self _ _ _ _ _ OT (loop _ rfl))
end L2
namespace gY
open PySem L2 M11
section
def rR {l:List Str}(h:l.Nodup):(l.map (Sum.inr:Str->aT)).Nodup:=List.Pairwise.map _ (λa b hab e=>hab (jJ e)) h
structure DO (K:bp)(ps:List (Str×Addr))(st:Str->List (Nat×Nat))(H:Hp)(d:Addr):Prop where
 hd:Rd H d (.dK (ps.map ij))
 n1:(ps.map (·.1)).Nodup
 n2:(ps.map (·.2)).Nodup
 lst:∀p∈ps,∃ts,H p.2=some (.lst (ts.map V.ref))/\Paired (λt (e:Nat×Nat)=>a_ K H t [.int (e.1:Int),.int (e.2:Int)]) ts (st p.1)
def Rd.same {H H':Hp}{a:Addr}{u:HO}(h:Rd H a u)(s:aC H H'):Rd H' a u:=h.elim (λz=>.inl (s _ _ z)) λ⟨o,z⟩=>.inr ⟨o,s _ _ z⟩
theorem DO.same {ps:List (Str×Addr)}{st:Str->List (Nat×Nat)}{H H':Hp}{d:Addr}(h:DO K ps st H d)(s:aC H H'):DO K ps st H' d :=
 ⟨Rd.same h.hd s,h.n1,h.n2,λp hp=>let ⟨ts,a,b⟩:=h.lst p hp;⟨ts,s _ _ a,Paired.dH b λ_ _ z=>s.tup z⟩⟩
noncomputable def uZ (st:Str->List (Nat×Nat))(n:Str)(e:Nat×Nat):Str->List (Nat×Nat):=λz=>if z=n then st z++[e] else st z
def DO.more {ps:List (Str×Addr)}{st:Str->List (Nat×Nat)}{H:Hp}{d:Addr}(h:DO K ps st H d){p:Str×Addr}(hp:p∈ps){ts:List Addr}{t:Addr}{e:Nat×Nat}(a:H p.2=some (.lst (ts.map V.ref)))
  (b:Paired (λt (e:Nat×Nat)=>a_ K H t [.int (e.1:Int),.int (e.2:Int)]) ts (st p.1))(c:a_ K H t [.int (e.1:Int),.int (e.2:Int)]) :
  DO K ps (uZ st p.1 e) (upd H p.2 (.lst (ts.map V.ref++[.ref t]))) d:=by
 have nd:d≠p.2:=λz=>by
  rcases h.hd with q | ⟨o,q⟩
  .rw [z,a] at q;cases q
  rw [z,a] at q;cases q
 refine⟨?_,h.n1,h.n2,λp' o8=>?_⟩
 .rcases h.hd with q | ⟨o,q⟩
  .exact .inl (by rw [ak nd];exact q)
  exact .inr ⟨o,by rw [ak nd];exact q⟩
 by_cases z:p'=p
 .rw [z];refine⟨ts++[t],by rw [ae,bA];rfl,?_⟩;have e1:uZ st p.1 e p.1=st p.1++[e]:=ax rfl;rw [e1];exact gF (Paired.dH b λ_ _ z=>bj a z) (bj a c)
 have n1:p'.1≠p.1:=λq=>z (by
  have w1:=fw ps h.n1 p' o8;have w2:=fw ps h.n1 p hp;rw [q,w2] at w1;injection w1 with w3;injection w3 with w4;exact jI q w4.symm)
 have n2:p'.2≠p.2:=λq=>by
  obtain⟨i,hi,ei⟩:=qG.mp o8;obtain⟨j,hj,ej⟩:=qG.mp hp;have Jl:i=j:=by
   refine(u5 (xs:=ps.map (·.2)) (h₀:=by simpa using hi) (h₁:=by simpa using hj) h.n2).mp ?_;rw [oJ,oJ,ei,ej];exact q
  subst Jl;exact z (ei.symm.trans ej)
 obtain⟨Hk,a',b'⟩:=h.lst p' o8;refine⟨Hk,by rw [ak n2];exact a',?_⟩;have e1:uZ st p.1 e p'.1=st p'.1:=az n1;rw [e1];exact Paired.dH b' λ_ _ z=>bj a z
def A5 (K:bp):Sp:=λvs H Q _=>∃(R:Addr)(rs:List Addr)(aa:List aw),vs=[.ref R]/\aG K H R (rs.map V.ref)/\bQ K H rs aa/\aa.length<=1000/\(∀ru∈aa,ru.2.length<=8) /\
 ∀(d:Addr)(ps:List (Str×Addr))(st:Str->List (Nat×Nat))(aY:List (Str×Nat))(H':Hp),H d=none->aC H H'->H' d=some (.dK (ps.map ij))->DO K ps st H' d->ps.map (·.1)=hd aa->(∀p∈ps,H p.2=none)->tL aa aY->tE aa aa.length aY ->
  (∀n k j,n∈hd aa->((k,j)∈st n↔Ot aa (hd aa) (λz=>decide (z∈aY.map (·.1))) n k j))->Q (.ref d) H'
def i7:aK ["rules","empty","steps","number","rule","place","part","filled"] ["rules"] (ay zk):=iz rfl rfl rfl rfl nofun
def Fn (F:hV K "steps_with_like_rows" "steps_with_like_rows" zk f fd)(T:Txt mg)(GE:aF P w K mg base 1 "found_empties" ["rules"] (oT K))(GH:aF P w K mg base 1 "heads_of" ["rules"] (i5 K)):bV P w K mg base fK 2 f fd ["rules"] (A5 K):=by
 refine F.ok i7 (λvs H Q E h=>?_) (λeX A outer s H vs Q E hr h=>?_)
 .obtain⟨R,rs,aa,rfl,_⟩:=h;rfl
 obtain⟨R,rs,aa,rfl,hR,cy,bu,h8,q⟩:=h;have hu:=fu hr;refine⟨_,ag (aA (i:=1) i7.nd rfl (Or.inr rfl) (aX (cV rfl) rfl T.wO dS (ab (bq GE hr rfl (ab (pv 0) ai)) ai)))
  (ag (aA (i:=2) i7.nd rfl (aZ rfl) (aX (cV rfl) rfl T.wO dS (ab
   (aV ["name"] [] rfl (aR (bq GH hr rfl (ab (pv 0) ai))) (aP rfl rfl) nofun rfl nofun
    (λ_ _ _ _ _=>aq (i:=0) (show (["name"]:List Str).Nodup by decide +kernel) rfl (aZ rfl)) (λ_ _ _ _ _=>a0)
    (λ_ _ _ _ _=>bC (ab (pv 0) (ab (bL ai) ai)))) ai)))
  (ag (bE bX rfl (jR rfl T.DG (ab (pv 0) ai)) (dD rfl (av (aq (i:=3) i7.nd rfl (aZ rfl)) (av (aq (i:=4) i7.nd rfl (aZ rfl)) bo)))
   (ag (gB (iy:=7) ["place","part"] [(1,"empty")] i7.nd rfl rfl rfl (kU rfl T.DG (ab (a7 bI (pv 4) ar (λ_ _=>rfl)) ai)) (aP rfl rfl) nofun rfl nofun
    (λ_ _ _ _ _=>d_ (n:=2) K rfl (av (aq (i:=0) (show (["place","part","empty"]:List Str).Nodup by decide +kernel) rfl (aZ rfl)) (av (aq (i:=1) (show (["place","part","empty"]:List Str).Nodup by decide +kernel) rfl (aZ rfl)) bo)))
    (λ_ _ _ _ _=>gC (dP (df hu (pv 1) (pv 2)))) (λ_ _ _ _ _=>pv 0))
   (ao (bE bX rfl (kU rfl T.DG (ab (a7 bI (pv 4) ar (λ_ _=>rfl)) ai)) (dD rfl (av (aq (i:=5) i7.nd rfl (aZ rfl)) (av (aq (i:=6) i7.nd rfl (aZ rfl)) bo)))
    (ao (bz (PW.pt (ig (dP (gW hu (pv 6) (pv 2))) (gA (aQ (Co hu) (pv 7) (bC (ab (bL ai) (ab (bL (ab (pv 5) ai)) ai))) rfl))))
     (ao (du (ix ir iu iw cA (eP hu (pv 2) (a7 bI (pv 4) ar (λ_ _=>rfl)) (λ_ _=>rfl)) (ab (bC (ab (pv 3) (ab (pv 5) ai))) ai)))) aI)))))
   )
  (ao (aL (pv 2))))),?_⟩
 nofun
 have ll:=bc cy;refine⟨_,rfl,R,rs,aa,rfl,hR,cy,bu,h8,λD1 B_ aY H1 f1 s1 e1 w1 emp oh=>?_⟩;have U0:Paired (λt (kv:aT×V)=>a_ K H1 t [kV kv.1,kv.2]) B_ (aY.map λp=>((Sum.inr p.1:aT),V.int (p.2:Int))):=cZ w1 λ_ _ z=>z;refine⟨D1,B_,_,rfl,e1,U0,λe he=>?_⟩;have ekE:cM (aY.map λp=>((Sum.inr p.1:aT),V.int (p.2:Int))) []=aY.map λp=>((Sum.inr p.1:aT),V.int (p.2:Int)):=i_ _ [] (by
  rw [pG,ik];have:=rR emp.nd;rw [ik] at this;exact this)
 rw [ekE];have CF:∀z,(bh (aY.map λp=>((Sum.inr p.1:aT),V.int (p.2:Int))) (Sum.inr z)).isSome=decide (z∈aY.map (·.1)):=λz=>by
  rw [gi,eK,decide_eq_true_iff,ik];have:(aY.map λp:Str×Nat=>(Sum.inr p.1:aT))=(aY.map (·.1)).map Sum.inr:=by rw [ik];rfl
  show _∈(aY.map λp:Str×Nat=>(Sum.inr p.1:aT))↔_;rw [this];exact cP
 generalize (aY.map λp=>((Sum.inr p.1:aT),V.int (p.2:Int)))=kE at CF ⊢;have s2:=s1.trans (af he (.dK kE));have e2:upd H1 e (.dK kE) e=some (.dK kE):=ae;generalize upd H1 e (.dK kE)=H2 at s2 e2;refine⟨_,rfl,R,rs,aa,rfl,s2.seq hR,cy.same s2,bu,λD2 H3 f3 s3 e3=>?_⟩;have Md:=hU (aa.map (·.1)) [];simp only [jl,au] at Md;refine⟨D2,rfl,⟨_,aG.of e3⟩,λD3 Jr=>sS (aG.of e3) ∅ Jr λts ps H4 s4 e4 m4 p4 l4 n4=>?_⟩;have n1:(ps.map (·.1)).Nodup:=by rw [m4];exact pz _ iZ
 have FT:Paired (λt (kv:aT×V)=>a_ K H4 t [kV kv.1,kv.2]) ts (ps.map ij):=cZ p4 λ_ _ z=>z;refine⟨D3,ts,_,rfl,e4,FT,λd pd=>?_⟩;have QX:cM (ps.map ij) []=ps.map ij:=i_ _ [] (by
  rw [pG,iC];exact rR n1)
 rw [QX];have s5:=((s2.trans s3).trans s4).trans (af pd (.dK (ps.map ij)));have xx:=af pd (.dK (ps.map ij));have e5:upd H4 d (.dK (ps.map ij)) d=some (.dK (ps.map ij)):=ae;have QZ:=xx _ _ (s4 _ _ (s3 _ _ e2));have uM:H d=none:=((s2.trans s3).trans s4).free pd;have S5:DO K ps (λ_=>[]) (upd H4 d (.dK (ps.map ij))) d:=⟨.inl e5,n1,n4,λp hp=>⟨[],xx _ _ (l4 p hp).1,.nil⟩⟩;have HN:∀p∈ps,H p.2=none:=λp hp=>(s2.trans s3).free (l4 p hp).2.1;generalize upd H4 d (.dK (ps.map ij))=H5 at s5 e5 QZ S5;clear xx;have eb:(λz=>(bh kE (Sum.inr z)).isSome)=λz=>decide (z∈aY.map (·.1)):=funext CF;refine⟨_,rfl,R,_,rfl,s5.seq hR,?_⟩
 let oo:lW:=λi σ H6=>∃(st:Str->List (Nat×Nat))(y3 y4 y5 y6 y7:Option V),σ=[aD R,aD e,aD d,y3,y4,y5,y6,y7]/\aC H H6/\H6 e=some (.dK kE)/\H6 d=some (.dK (ps.map ij))/\DO K ps st H6 d /\
  (∀n,(st n).length<=8 * i)/\∀n k j,n∈hd aa->((k,j)∈st n↔k < i/\Ot aa (hd aa) (λz=>decide (z∈aY.map (·.1))) n k j)
 refine iQ (xs:=rs.map V.ref) oo
  ⟨λ_=>[],none,none,none,none,none,rfl,s5,QZ,e5,S5,by simp,by simp⟩ ?_ ?_ ?_
 .rintro i σ H6 _ ⟨st,y3,y4,y5,y6,y7,rfl,s6,_⟩;exact s6.seq hR
 .rintro i x σ H6 t ex ⟨st,y3,y4,y5,y6,y7,rfl,s6,M7,KA,S6,l6,c6⟩ ht
  ac_nf0
  rw [a9] at ex;obtain⟨r,er,rfl⟩:=b_.mp ex;obtain⟨ru,sH,p,v1,v2⟩:=cy.get er;have o9:=b9 sH;have HJ:=h8 ru o9;have li:=(bf.mp sH).1;have pL:=af ht (.tup [.int (i:Int),.ref r]);have Ko:a_ K (upd H6 t (.tup [.int (i:Int),.ref r])) t [.int (i:Int),.ref r]:=a_.of ae;have s7:=s6.trans pL;have M6:=pL _ _ M7;have ZV:=pL _ _ KA;have S7:=S6.same pL;generalize upd H6 t (.tup [.int (i:Int),.ref r])=H7 at Ko s7 M6 ZV S7;refine⟨t,_,rfl,Ko,rfl,_,_,rfl,_,_,rfl,rfl,?_⟩;refine⟨_,rfl,r,_,_,_,rfl,rfl,s7.tup v1,rfl,p,_,rfl,s7.tup v2,λD5 N4=>yl rfl (s7.tup v2) ∅ M6 N4 λH8 EN e8=>?_⟩;rw [eb] at e8;have s8:=s7.trans EN;have ee8:=EN _ _ M6;have Wm:=EN _ _ ZV;have S8:=S7.same EN;have nD5:∀p∈ps,p.2≠D5:=λp hp z=>by
   obtain⟨Hk,a,_⟩:=S7.lst p hp;rw [z,N4] at a;cases a
  obtain⟨pn,xW,tK⟩:∃pn∈ps,pn.1=ru.1:=by
   have:ru.1∈ps.map (·.1):=by rw [m4];exact(hJ _ _ _).mpr (.inr (iq o9))
   obtain⟨pn,a,b⟩:=cx.mp this;exact⟨pn,a,b⟩
  refine⟨_,rfl,r,_,_,_,rfl,rfl,s8.tup v1,rfl,p,_,rfl,s8.tup v2,?_⟩
  let wZ:lW:=λj σ H9=>∃(st:Str->List (Nat×Nat))(y5 y6:Option V),σ=[aD R,aD e,aD d,some (.int (i:Int)),aD r,y5,y6,aD D5]/\aC H H9/\H9 e=some (.dK kE)/\H9 d=some (.dK (ps.map ij))/\DO K ps st H9 d /\
   H9 D5=some (.lst ((CY (λz=>decide (z∈aY.map (·.1))) ru.2 ru.2.length).map V.int))/\(∀n,(st n).length<=8 * i+j)/\∀n k j',n∈hd aa->((k,j')∈st n↔(k < i\/(k=i/\j' < j))/\Ot aa (hd aa) (λz=>decide (z∈aY.map (·.1))) n k j')
  refine lH (xs:=ru.2.map V.str) wZ
   ⟨st,_,_,rfl,s8,ee8,Wm,S8,e8,λn=>l6 n,λn k j' hn=>by rw [c6 n k j' hn];simp⟩ ?_ ?_ ?_
  .rintro j σ H9 _ ⟨st,y5,y6,rfl,s9,_⟩;exact s9.tup v2
  .rintro j x σ H9 t2 lS ⟨st,y5,y6,rfl,s9,Wk,Jw,S9,e9,l9,c9⟩ ji
   ac_nf0
   rw [a9] at lS;obtain⟨z,ez,rfl⟩:=b_.mp lS;have lj:=(bf.mp ez).1;have xw:=af ji (.tup [.int (j:Int),.str z]);have FZ:a_ K (upd H9 t2 (.tup [.int (j:Int),.str z])) t2 [.int (j:Int),.str z]:=a_.of ae;have vZ:=s9.trans xw;have wL:=xw _ _ Wk;have qf:=xw _ _ Jw;have DL:=xw _ _ e9;have KU:=S9.same xw;generalize upd H9 t2 (.tup [.int (j:Int),.str z])=AL at FZ vZ wL qf DL KU;have mem:(bh (ps.map ij) (Sum.inr z)).isSome=true↔z∈hd aa:=by rw [eK,iC,m4];exact cP
   have kO:¬(z∈hd aa/\I9 (λz=>decide (z∈aY.map (·.1))) ru.2 j=true)->∀n k j',n∈hd aa->((k,j')∈st n↔(k < i\/(k=i/\j' < j+1))/\Ot aa (hd aa) (λz=>decide (z∈aY.map (·.1))) n k j'):=λhn n k j' Vr=>by
    rw [c9 n k j' Vr];constructor
    .rintro⟨h1,h3⟩;exact⟨∅,h3⟩
    rintro⟨h1,h3⟩;refine⟨?_,h3⟩;by_cases c:k=i/\j'=j
    .obtain⟨Bj,z',a1,a2,a3,a4,a5⟩:=h3;rw [c.1,sH] at a1;cases a1;rw [c.2] at a5;rw [c.2,ez] at a3;cases a3;exact absurd ⟨a4,a5⟩ hn
    omega
   have YR:∀n,(st n).length<=8 * i+(j+1):=λn=>by have:=l9 n;omega
   refine⟨t2,_,rfl,FZ,rfl,_,_,rfl,_,_,rfl,rfl,?_⟩;refine⟨_,rfl,_,rfl,d,_,rfl,b0.k (k:=Sum.inr z) qf,_,rfl,?_⟩;refine bJ (λc=>?_) (λc=>?_)
   .have hz:=mem.mp c;refine⟨_,rfl,yB,λl1 N0=>?_⟩;have Iv:=af N0 (.lst []);have HS:upd AL l1 (.lst []) l1=some (.lst []):=ae;have nl1:l1≠D5:=(aB DL N0).symm;generalize upd AL l1 (.lst [])=Dr at Iv HS;refine⟨_,rfl,Ox,λl2 o_=>?_⟩;have JZ:=af o_ (.lst [.int (j:Int)]);have HR:upd Dr l2 (.lst [.int (j:Int)]) l2=some (.lst [.int (j:Int)]):=ae;have Uw:l2≠D5:=(aB (Iv _ _ DL) o_).symm;generalize upd Dr l2 (.lst [.int (j:Int)])=yx at JZ HR;refine⟨qW,λt3 F2=>?_⟩;have RV:=af F2 (.tup [.ref l1,.ref l2]);have e13:a_ K (upd yx t3 (.tup [.ref l1,.ref l2])) t3 [.ref l1,.ref l2]:=a_.of ae;generalize upd yx t3 (.tup [.ref l1,.ref l2])=B2 at RV e13;have qa:=(Iv.trans JZ).trans RV;refine⟨t3,D5,l1,l2,_,[],[(j:Int)],rfl,rfl,e13,aG.of (qa _ _ DL),aG.of (RV _ _ (JZ _ _ HS)),aG.of (RV _ _ HR),nl1,Uw,_,rfl,?_⟩;have Hd:=KU.same qa;have Lv:=vZ.trans qa;refine bJ (λc2=>?_) (λc2=>?_)
    .obtain⟨XU,an,bn⟩:=Hd.lst pn xW;have vn:=fw ps n1 pn xW;rw [tK] at vn;have hg:b0 B2 d (.str ru.1) (some (.ref pn.2)):=by
      have:=b0.k (k:=Sum.inr ru.1) (qa _ _ qf);rw [vn] at this;exact this
     have ltn:=bc bn;have l9n:=l9 pn.1;refine⟨_,rfl,_,rfl,r,_,_,_,rfl,rfl,Lv.tup v1,rfl,d,_,rfl,hg,.inl ⟨rfl,_,aG.of an⟩,_,rfl,_,rfl,qW,λt4 Ai=>?_⟩;have zC:=af Ai (.tup [.int (i:Int),.int (j:Int)]);have e14:a_ K (upd B2 t4 (.tup [.int (i:Int),.int (j:Int)])) t4 [.int (i:Int),.int (j:Int)]:=a_.of ae;generalize upd B2 t4 (.tup [.int (i:Int),.int (j:Int)])=H14 at zC e14;have Ro:=Hd.same zC;have JE:=zC _ _ an;have WX:=Paired.dH bn λt' (e':Nat×Nat)(z:a_ K B2 t' [.int (e'.1:Int),.int (e'.2:Int)])=>zC.tup z;refine⟨pn.2,_,_,rfl,rfl,JE,bD (by rw [au];omega),?_⟩;have Xu:=Ro.more (e:=(i,j)) xW JE WX e14;have ne1:e≠pn.2:=λz=>by have:=zC _ _ (qa _ _ wL);rw [z,JE] at this;cases this
     have ne2:d≠pn.2:=λz=>by have:=zC _ _ (qa _ _ qf);rw [z,JE] at this;cases this
     refine⟨uZ st pn.1 (i,j),_,_,rfl,λb o hb=>?_,by rw [ak ne1];exact zC _ _ (qa _ _ wL),by rw [ak ne2];exact zC _ _ (qa _ _ qf),Xu,by rw [ak (nD5 pn xW).symm];exact zC _ _ (qa _ _ DL),λn=>?_,λn k j' Vr=>?_⟩
     .rw [ak (λz=>by rw [z,HN pn xW] at hb;cases hb)];exact zC _ _ (Lv b o hb)
     .have:=l9 n;unfold uZ
      split
      .rw [bW];simp;omega
      omega
     have hit:Ot aa (hd aa) (λz=>decide (z∈aY.map (·.1))) ru.1 i j:=⟨ru,z,sH,rfl,ez,hz,c2⟩;have KO:=c9 n k j' Vr;unfold uZ;by_cases cn:n=pn.1
     .rw [ax cn,cg,bH,KO];constructor
      .rintro(⟨h1,h3⟩ | h1)
       .exact⟨∅,h3⟩
       cases h1;exact⟨∅,by rw [cn,tK];exact hit⟩
      rintro⟨h1,h3⟩;by_cases cc:k=i/\j'=j
      .exact .inr (by rw [cc.1,cc.2])
      exact .inl ⟨∅,h3⟩
     rw [az cn,KO];constructor
     .rintro⟨h1,h3⟩;exact⟨∅,h3⟩
     rintro⟨h1,h3⟩;refine⟨?_,h3⟩;by_cases cc:k=i/\j'=j
     .obtain⟨Bj,z',a1,a2,_⟩:=h3;rw [cc.1,sH] at a1;cases a1;exact absurd (a2.symm.trans tK.symm) cn
     omega
    exact⟨st,_,_,rfl,Lv,qa _ _ wL,qa _ _ qf,Hd,qa _ _ DL,YR,kO λ⟨_,h⟩=>c2 h⟩
   exact⟨st,_,_,rfl,vZ,wL,qf,KU,DL,YR,kO λ⟨h,_⟩=>c (mem.mpr h)⟩
  rintro σ H9 ⟨st,y5,y6,rfl,s9,Wk,Jw,S9,e9,l9,c9⟩;rw [au] at l9 c9;refine⟨st,_,_,_,_,_,rfl,s9,Wk,Jw,S9,λn=>?_,λn k j' hn=>?_⟩
  .have:=l9 n;omega
  rw [c9 n k j' hn];constructor
  .rintro⟨h1 | ⟨h1,h2⟩,h3⟩
   .exact⟨∅,h3⟩
   exact⟨∅,h3⟩
  rintro⟨h1,h3⟩;refine⟨?_,h3⟩;by_cases c:k < i
  .exact .inl c
  refine .inr ⟨∅,?_⟩;obtain⟨Bj,z',a1,_,a3,_⟩:=h3;have:k=i:=by omega
  rw [this,sH] at a1;cases a1;exact(bf.mp a3).1
 rintro σ H6 ⟨st,y3,y4,y5,y6,y7,rfl,s6,M7,KA,S6,l6,c6⟩;rw [au,ll] at c6;refine⟨_,rfl,q d ps st aY H6 uM s6 KA S6 m4 HN emp oh λn k j hn=>?_⟩;rw [c6 n k j hn];constructor
 .exact λh=>h.2
 intro h;obtain⟨Bj,_,a1,_⟩:=id h;exact⟨(bf.mp a1).1,h⟩
end
end gY
namespace L2
open PySem
def b0.r {H:Hp}{a:Addr}{kvs:List (aT×V)}{k:aT}(e:Rd H a (.dK kvs)):b0 H a (kV k) (bh kvs k):=.inl ⟨kvs,k,e,rfl,rfl⟩
end L2
namespace gY
open PySem L2 M11
section
def Down (aa:List aw) (names:List Str)(st:Str->List (Nat×Nat))(rk:Str->Nat):Prop:=∀n∈names,∀e∈st n,∃ru z,aa[e.1]?=some ru/\ru.2[e.2]?=some z/\z∈names/\rk z < rk n
def JS (K:bp):Sp:=λvs H Q _=>∃(R d:Addr)(rs:List Addr)(aa:List aw)(ps:List (Str×Addr))(st:Str->List (Nat×Nat))(name:Str)(rk:Str->Nat),vs=[.ref R,.ref d,.str name]/\aG K H R (rs.map V.ref)/\bQ K H rs aa/\aa.length<=1000 /\
 DO K ps st H d/\ps.length<=1000/\name∈ps.map (·.1)/\Down aa (ps.map (·.1)) st rk/\∀(D:Addr)(H':Hp),H D=none->aC H H'->H' D=some (.lst [])->Q (.ref D) H'
structure DN (K:bp) (names:List Str)(rk:Str->Nat)(name:Str)(H H5:Hp)(D m:Addr)(mx:List Addr)(j9:List (Str×Addr)) (ms:List Str)(kvs:List (aT×V)):Prop where
 sm:aC H H5
 hD:H5 D=some (.lst (mx.map V.ref))
 hm:H5 m=some (.dK kvs)
 keys:kvs.map (·.1)=ms.map Sum.inr
 nd:ms.Nodup
 sub:∀x∈ms,x∈names
 wl:j9.length=ms.length+1
 wv:Paired (λt (e:Str×Addr)=>a_ K H5 t [.str e.1,.ref e.2]) mx j9
 we:∀e∈j9,e.1∈names/\rk e.1<=rk name/\∃xs,H5 e.2=some (.lst xs)/\xs.length<=j9.length/\e.2≠D
def DN.same {names:List Str}{rk:Str->Nat}{name:Str}{H H5 H6:Hp}{D m:Addr}{mx:List Addr}{j9:List (Str×Addr)}{ms:List Str}{kvs:List (aT×V)}(h:DN K names rk name H H5 D m mx j9 ms kvs)(s:aC H5 H6):DN K names rk name H H6 D m mx j9 ms kvs :=
 ⟨h.sm.trans s,s _ _ h.hD,s _ _ h.hm,h.keys,h.nd,h.sub,h.wl,Paired.dH h.wv λ_ _ z=>s.tup z,λe he=>let ⟨a,b,xs,c,d⟩:=h.we e he;⟨a,b,xs,s _ _ c,d⟩⟩
def DN.len {names:List Str}{rk:Str->Nat}{name:Str}{H H5:Hp}{D m:Addr}{mx:List Addr}{j9:List (Str×Addr)}{ms:List Str}{kvs:List (aT×V)}(h:DN K names rk name H H5 D m mx j9 ms kvs):mx.length=j9.length/\kvs.length=ms.length/\ms.length<=names.length:=by
 refine⟨bc h.wv,?_,gK _ _ h.nd h.sub⟩;have:=congrArg List.length h.keys;simpa using this
def DN.more {names:List Str}{rk:Str->Nat}{name z:Str}{H H5 H9:Hp}{D m t c:Addr}{mx:List Addr}{j9:List (Str×Addr)}{ms:List Str}{kvs:List (aT×V)}{xs:List V}(h:DN K names rk name H H5 D m mx j9 ms kvs)(fD:H D=none)(fm:H m=none)
  (hz:z∈names)(hr:rk z<=rk name)(hn:z∉ms)(s:aC (upd H5 m (.dK (bM kvs (Sum.inr z) (.bl true)))) H9)(ht:a_ K H9 t [.str z,.ref c])(hc:H9 c=some (.lst xs))(hx:xs.length<=j9.length+1)(nc:c≠D) :
  DN K names rk name H (upd H9 D (.lst (mx.map V.ref++[.ref t]))) D m (mx++[t]) (j9++[(z,c)]) (ms++[z]) (bM kvs (Sum.inr z) (.bl true)):=by
 have R9:D≠m:=λe=>by have:=h.hD;rw [e,h.hm] at this;cases this
 have ow:H9 D=some (.lst (mx.map V.ref)):=s _ _ (by rw [ak R9];exact h.hD);have hm9:H9 m=some (.dK (bM kvs (Sum.inr z) (.bl true))):=s _ _ ae;refine⟨λb o hb=>?_,by rw [ae,bA];rfl,by rw [ak R9.symm];exact hm9,?_,?_,?_,?_,?_,?_⟩
 .rw [ak (λe=>by rw [e,fD] at hb;cases hb)];exact s _ _ (by rw [ak (λe=>by rw [e,fm] at hb;cases hb)];exact h.sm b o hb)
 .rw [gS (by rw [h.keys];exact λe=>hn (cP.mp e)),h.keys,bA];rfl
 .refine jm.mpr ⟨h.nd,by simp,λa ha b hb e=>?_⟩;rw [bH.mp hb] at e;exact hn (e ▸ ha)
 .intro x U8;rcases cg.mp U8 with e | e
  .exact h.sub x e
  rw [bH.mp e];exact hz
 .rw [bW,bW,h.wl];rfl
 .exact gF (Paired.dH h.wv λ_ _ e=>bj ow (s.tup (hZ h.hm e))) (bj ow ht)
 intro e he;rw [bW];rcases cg.mp he with e' | e'
 .obtain⟨a,b,ys,c1,d1,n1⟩:=h.we e e';exact⟨a,b,ys,by rw [ak n1];exact s _ _ (by rw [ak (λq=>by rw [q,h.hm] at c1;cases c1)];exact c1),∅,n1⟩
 rw [bH.mp e'];exact⟨hz,hr,xs,by rw [ak nc];exact hc,hx,nc⟩
def nH:aK ["rules","steps","name","ways","met","at","way","number","place","part"] ["rules","steps","name"] (ay Ln):=iz rfl rfl rfl rfl nofun
def LS (F:hV K "way_back" "way_back" Ln f fd)(T:Txt mg):bV P w K mg base fK 1 f fd ["rules","steps","name"] (JS K):=by
 refine F.ok nH (λvs H Q E h=>?_) (λeX A outer s H vs Q E hr h=>?_)
 .obtain⟨R,d,rs,aa,ps,st,name,rk,rfl,_⟩:=h;rfl
 obtain⟨R,d,rs,aa,ps,st,name,rk,rfl,hR,cy,bu,S,Sj,F8,VM,q⟩:=h;have hu:=fu hr;refine⟨_,ag (aA (i:=3) nH.nd rfl (aZ rfl) (bL (ab (bC (ab (pv 2) (ab (bL ai) ai))) ai)))
  (ag (aA (i:=4) nH.nd rfl (aZ rfl) fk)
  (ag (aA (i:=5) nH.nd rfl (aZ rfl) ar)
  (ag (kT bX (aQ kW (pv 5) (aE aS rfl T.len dZ (ab (pv 3) ai)) (bx _))
   (ag (aA (i:=6) nH.nd rfl (aZ rfl) (a7 bI (a7 bZ (pv 3) (pv 5) (λ_ _=>rfl)) ar (λ_ _=>rfl)))
   (ag (bE bX rfl (aR (eP hu (pv 1) (a7 bI (a7 bZ (pv 3) (pv 5) (λ_ _=>rfl)) ar (λ_ _=>rfl)) (λ_ _=>rfl))) (dD rfl (av (aq (i:=7) nH.nd rfl (aZ rfl)) (av (aq (i:=8) nH.nd rfl (aZ rfl)) bo)))
    (ag (aA (i:=9) nH.nd rfl (aZ rfl) (a7 bI (a7 bI (a7 bZ (pv 0) (pv 7) (λ_ _=>rfl)) ar (λ_ _=>rfl)) (pv 8) (λ_ _=>rfl)))
    (ag (bz (aQ gJ (pv 9) (pv 2) (bx _)) (ao iO) aI)
    (ao (bz (dP (df hu (pv 9) (pv 4)))
     (ag (fV hu (pv 4) (pv 9) cI rfl) (ao (du (ix ir iu iw cA (pv 3) (ab (bC (ab (pv 9) (ab (aH gh (pv 6) (bL (ab (bC (ab (pv 7) (ab (pv 8) ai))) ai))) ai))) ai))))) aI)))))
   (ao (LH (i:=5) nH.nd rfl (aZ rfl) ar Mo)))))
  (ao (aL (bL ai)))))),?_⟩
 nofun
 have wC:(ps.map (·.1)).length=ps.length:=au _;refine⟨_,rfl,yB,λl0 Jj=>?_⟩;have s1:=af Jj (.lst []);have e1:upd H l0 (.lst []) l0=some (.lst []):=ae;generalize upd H l0 (.lst [])=H1 at s1 e1;refine⟨qW,λt0 ht0=>?_⟩;have s2:=af ht0 (.tup [.str name,.ref l0]);have e2:a_ K (upd H1 t0 (.tup [.str name,.ref l0])) t0 [.str name,.ref l0]:=a_.of ae;generalize upd H1 t0 (.tup [.str name,.ref l0])=H2 at s2 e2;refine⟨Ox,λD hD=>?_⟩;have s3:=af hD (.lst [.ref t0]);have e3:upd H2 D (.lst [.ref t0]) D=some (.lst ([t0].map V.ref)):=ae;have nl0:l0≠D:=aB (s2 _ _ e1) hD;generalize upd H2 D (.lst [.ref t0])=H3 at s3 e3;intro m hm;have s4:=af hm (.dK []);have e4:upd H3 m (.dK []) m=some (.dK []):=ae;generalize upd H3 m (.dK [])=H4 at s4 e4;have fD:H D=none:=(s1.trans s2).free hD;have fm:H m=none:=((s1.trans s2).trans s3).free hm;have W0:DN K (ps.map (·.1)) rk name H H4 D m [t0] [(name,l0)] [] []:=⟨((s1.trans s2).trans s3).trans s4,s4 _ _ e3,e4,rfl,iZ,by simp,rfl,.cons ((s3.trans s4).tup e2) .nil,λe he=>by
  rw [bH.mp he];exact⟨F8,aU _,[],s4 _ _ (s3 _ _ (s2 _ _ e1)),by simp,nl0⟩⟩
 refine⟨λmm σ H5=>∃(mx:List Addr)(j9:List (Str×Addr)) (ms:List Str)(kvs:List (aT×V)) (at_:Nat)(y6 y7 y8 y9:Option V),σ=[aD R,aD d,some (.str name),aD D,aD m,some (.int (at_:Int)),y6,y7,y8,y9]/\DN K (ps.map (·.1)) rk name H H5 D m mx j9 ms kvs /\
  at_<=j9.length/\mm=1002 - at_,⟨1002,[t0],[(name,l0)],[],[],0,none,none,none,none,rfl,W0,by simp,rfl⟩,?_⟩
 rintro mm σ H5 ⟨mx,j9,ms,kvs,at_,y6,y7,y8,y9,rfl,W,hat,rfl⟩;obtain⟨lw,lk,lm⟩:=W.len;have aad:=W.wl;refine⟨_,rfl,_,rfl,D,_,rfl,.inl (aG.of W.hD),_,_,rfl,rfl,_,rfl,?_⟩;refine bJ (λc=>?_) (λc=>?_)
 .have c':=cw c;rw [au,lw] at c';have ke:at_ < j9.length:=by omega
  obtain⟨n,l,en⟩:∃n l,j9[at_]?=some (n,l):=⟨(j9[at_]).1,(j9[at_]).2,dI ke⟩;obtain⟨t1,et1,Y6⟩:=Paired.at_ W.wv at_ (n,l) en;have at1:lV (mx.map V.ref) (at_:Int)=some (.ref t1):=bT (by rw [a9,et1];rfl);obtain⟨hn,hrn,xs,hl,hxl,L0⟩:=W.we (n,l) (b9 en);dsimp only at hn hrn hl L0;obtain⟨pn,xW,tK⟩:=cx.mp hn;have vn:=fw ps S.n1 pn xW;rw [tK] at vn;obtain⟨XU,an,bn⟩:=S.lst pn xW;rw [tK] at bn;refine⟨λσ H5=>∃(mx:List Addr)(j9:List (Str×Addr)) (ms:List Str)(kvs:List (aT×V))(y6 y7 y8 y9:Option V),σ=[aD R,aD d,some (.str name),aD D,aD m,some (.int ((at_+1:Nat):Int)),y6,y7,y8,y9]/\DN K (ps.map (·.1)) rk name H H5 D m mx j9 ms kvs/\at_+1<=j9.length,?_,?_⟩
  .rintro σ H6 ⟨mx,j9,ms,kvs,y6,y7,y8,y9,rfl,W2,h2⟩;exact⟨1002 - (at_+1),∅,mx,j9,ms,kvs,at_+1,_,_,_,_,rfl,W2,h2,rfl⟩
  refine⟨_,rfl,_,rfl,D,_,_,_,rfl,rfl,aG.of W.hD,at1,t1,_,_,_,rfl,rfl,Y6,rfl,?_⟩;have hg:b0 H5 d (.str n) (some (.ref pn.2)):=by
   have:=b0.r (k:=Sum.inr n) (Rd.same S.hd W.sm);rw [vn] at this;exact this
  refine⟨_,rfl,_,rfl,_,rfl,D,_,_,_,rfl,rfl,aG.of W.hD,at1,t1,_,_,_,rfl,rfl,Y6,rfl,d,_,rfl,hg,pn.2,rfl,⟨_,aG.of (W.sm _ _ an)⟩,?_⟩
  let oo:lW:=λi σ H6=>∃(mx:List Addr)(j9:List (Str×Addr)) (ms:List Str)(kvs:List (aT×V))(y7 y8 y9:Option V),σ=[aD R,aD d,some (.str name),aD D,aD m,some (.int (at_:Int)),aD l,y7,y8,y9]/\DN K (ps.map (·.1)) rk name H H6 D m mx j9 ms kvs /\
   at_+1<=j9.length/\∃e∈j9,e.2=l
  refine cq (xs:=XU.map V.ref) oo ⟨mx,j9,ms,kvs,_,_,_,rfl,W,ke,(n,l),b9 en,rfl⟩ ?_ ?_ ?_
  .rintro i σ H6 _ ⟨mx,j9,ms,kvs,y7,y8,y9,rfl,W2,_⟩;exact aG.of (W2.sm _ _ an)
  .rintro i x σ H6 ex ⟨mx,j9,ms,kvs,y7,y8,y9,rfl,W2,h2,e0,VL,Wl⟩
   ac_nf0
   rw [a9] at ex;obtain⟨ti,ZF,rfl⟩:=b_.mp ex;have lbn:=bc bn;have lti:=(bf.mp ZF).1;obtain⟨⟨k,j⟩,ZR⟩:∃e,(st n)[i]?=some e:=⟨(st n)[i]'∅,dI ∅⟩;obtain⟨ti',QT,hti⟩:=Paired.at_ bn i (k,j) ZR;rw [ZF] at QT;cases QT;obtain⟨ru,z,er,ez,hz,hrk⟩:=VM n hn (k,j) (b9 ZR);obtain⟨r,N7,p,v1,v2⟩:=Paired.at_ cy k ru er;have atr:lV (rs.map V.ref) (k:Int)=some (.ref r):=bT (by rw [a9,N7];rfl);have Xe:lV (ru.2.map V.str) (j:Int)=some (.str z):=bT (by rw [a9,ez];rfl);obtain⟨lw2,Sa,YM⟩:=W2.len;have YK:=W2.wl;refine⟨ti,_,rfl,W2.sm.tup hti,rfl,_,_,rfl,_,_,rfl,rfl,?_⟩;refine⟨_,rfl,_,rfl,R,_,_,_,rfl,rfl,W2.sm.seq hR,atr,r,_,_,_,rfl,rfl,W2.sm.tup v1,rfl,_,rfl,p,_,_,_,rfl,rfl,W2.sm.tup v2,Xe,?_⟩;refine⟨_,rfl,_,rfl,rfl,_,rfl,?_⟩;have nz:z≠name:=λe=>by rw [e] at hrk;omega
   refine bJ (λc=>absurd (cw c) (λe=>nz (by injection e))) (λ_=>?_);have mem:(bh kvs (Sum.inr z)).isSome=true↔z∈ms:=by rw [eK,W2.keys];exact cP
   refine⟨_,rfl,_,rfl,m,_,rfl,b0.k (k:=Sum.inr z) W2.hm,_,rfl,?_⟩;refine bJ (λc=>?_) (λc=>?_)
   .have nm:z∉ms:=λh=>by rw [mem.mpr h] at c;exact absurd c nofun
    refine⟨_,rfl,_,rfl,m,_,rfl,j6.k (k:=Sum.inr z) W2.hm (bD ∅),?_⟩;obtain⟨_,_,Ib,o_,aaj,Uw⟩:=W2.we e0 VL;rw [Wl] at o_ Uw;have R9:D≠m:=λe=>by have:=W2.hD;rw [e,W2.hm] at this;cases this
    have nlm:l≠m:=λe=>by rw [e,W2.hm] at o_;cases o_
    have MN:upd H6 m (.dK (bM kvs (Sum.inr z) (.bl true))) D=some (.lst (mx.map V.ref)):=by rw [ak R9];exact W2.hD
    have hlu:upd H6 m (.dK (bM kvs (Sum.inr z) (.bl true))) l=some (.lst Ib):=by rw [ak nlm];exact o_
    refine⟨_,rfl,.inl ⟨rfl,_,aG.of MN⟩,_,rfl,_,rfl,_,rfl,_,rfl,qW,λt4 Ai=>?_⟩;have Yh:=af Ai (.tup [.int (k:Int),.int (j:Int)]);generalize upd (upd H6 m (.dK (bM kvs (Sum.inr z) (.bl true)))) t4 (.tup [.int (k:Int),.int (j:Int)])=H7 at Yh;refine⟨Ox,λl4 Vv=>?_⟩;have Yg:=af Vv (.lst [.ref t4]);have e5':upd H7 l4 (.lst [.ref t4]) l4=some (.lst [.ref t4]):=ae;generalize upd H7 l4 (.lst [.ref t4])=H8 at Yg e5';have NK:=Yh.trans Yg;refine⟨l,l4,Ib,[.ref t4],rfl,rfl,NK _ _ hlu,e5',fits (by simp;omega),λc0 Zo=>?_⟩;have Yd:=af Zo (.lst (Ib++[.ref t4]));have e6':upd H8 c0 (.lst (Ib++[.ref t4])) c0=some (.lst (Ib++[.ref t4])):=ae;have nc0:c0≠D:=(aB (NK _ _ MN) Zo).symm;generalize upd H8 c0 (.lst (Ib++[.ref t4]))=H9 at Yd e6';refine⟨qW,λt5 Qc=>?_⟩;have T7:=af Qc (.tup [.str z,.ref c0]);have e7':a_ K (upd H9 t5 (.tup [.str z,.ref c0])) t5 [.str z,.ref c0]:=a_.of ae;generalize upd H9 t5 (.tup [.str z,.ref c0])=AL at T7 e7';have sA:=(NK.trans Yd).trans T7;refine⟨D,_,_,rfl,rfl,sA _ _ MN,bD (by rw [au];omega),?_⟩;exact⟨mx++[t5],j9++[(z,c0)],ms++[z],_,_,_,_,rfl,W2.more fD fm hz ∅ nm sA e7' (T7 _ _ e6') (by rw [bW];simp;omega) nc0,by rw [bW];omega,e0,j8 _ VL,Wl⟩
   exact⟨mx,j9,ms,kvs,_,_,_,rfl,W2,h2,e0,VL,Wl⟩
  rintro σ H6 ⟨mx,j9,ms,kvs,y7,y8,y9,rfl,W2,h2,_⟩;exact⟨_,rfl,_,_,rfl,rfl,mx,j9,ms,kvs,_,_,_,_,rfl,W2,h2⟩
 refine⟨yB,λD9 ow=>q D9 _ (W.sm.free ow) (W.sm.trans (af ow _)) ae⟩
end
end gY
namespace L2
open PySem PySem.Spec PyProof.Rows
section
variable {prog:Program}{w:World}{A:Around}{E:Value->Shared->Prop}{s:Shared}
def yt (a b c:Value):argsOk "min" ⟨[a],[("key",b),("default",c)]⟩:=by unfold argsOk;kernel_rfl
def tR {l:Addr}{kf dv:Value}{Q:Value->Shared->Prop}(hh:A.handled=none)(hl:s.heap.IsList l #[])(h:∀h' tk,(∀b o,s.heap.get? b=some o->h'.get? b=some o)->Q dv { s with heap:=h',toks:=tk }) :
  wpAny (model prog w) A (call (.builtin "min") [.ref l] [("key",kf),("default",dv)]) Q E s:=by
 have F8:(toString "min" ++ toString ".loop":String) = "min.loop" := by decide
 refine wpAny_call (codeAny_call_builtin F.plain_min F.entry_min ?_);have core:wpAny (model prog w) A.in1 (Builtin.«min» ⟨[.ref l],[("key",kf),("default",dv)]⟩) (λfin s'=>match fin with
   | .done f=>(match (Except.ok f:Result) with | .ok (.ret v)=>Q v s' | .ok _=>False | .error e=>E e s')
   | .again c'=>c'.quiet=true/\codeAny (model prog w) A c' (λr s'=>match r with | .ok (.ret v)=>Q v s' | .ok _=>False | .error e=>E e s') s') E s:=by
  show wpAny _ A.in1 (Builtin.Builtins.bindParams "min" ["key","default"] 0 ⟨[],[("key",kf),("default",dv)]⟩ >>= _) _ _ s;refine aN (wpAny_of_eq (show Builtin.Builtins.bindParams "min" ["key","default"] 0 ⟨[],[("key",kf),("default",dv)]⟩=pure [some kf,some dv] from rfl) ?_);refine aN (ba ?_);refine aN (qD hl ?_);refine aN (mZ ?_);rw [F8];obtain⟨ol,h1,h2⟩:=id hl;generalize hG:s.heap.push { cls:=.type "list_iterator",data:=.fields #[.ref l,.int 0 0] }=G;have k1:∀b o,s.heap.get? b=some o->G.get? b=some o:=λb o e=>by rw [<-hG];exact cJ _ e
  have hi:G.get? s.heap.objs.size=some { cls:=.type "list_iterator",data:=.fields #[.ref l,.int 0 0] }:=by rw [<-hG];exact d8 _ rfl
  refine ba ⟨oz F.plain_min_loop _,qM F.entry_min_loop ?_⟩;rw [qS F.plain_min_loop _];show wpAny _ A.in1 (seqItems? (.ref G.objs.size) >>= _) _ _ _;refine aN (qJ (d8 _ rfl) rfl ?_);show wpAny _ A.in1 (tryCatch (pyNext (.ref s.heap.objs.size)) _ >>= _) _ _ _;refine aN (wpAny_tryCatch (ve (show A.in1.handled=none from hh) ⟨_,cJ _ hi,rfl,rfl⟩ ⟨ol,cJ _ (k1 _ _ h1),h2⟩ (by simp) λh' eb=>?_));refine aN (wpAny_rule (ba ?_));exact h h' _ λb o e=>eb b o (cu (bR e)) (cJ _ (k1 b o e))
 simp only [checkBuiltinCall,F.kind_min];cases Vd:Manifest.signature? "min" with
 | none=>exact ba core
 | some sig =>
  have ha':Bind.checkArgs "min" sig ⟨[.ref l],[("key",kf),("default",dv)]⟩=pure ():=by have:=yt (.ref l) kf dv;simpa only [argsOk,Vd] using this
  simp only [ha'];exact ba core
end
def OH (K:bp)(t:TA)(td:TE):TE:=λσ H Q=>t σ H λvs H1=>td σ H1 λdv H2=>∃a,vs=[.ref a]/\aG K H2 a []/\Q dv H2
def IB {X:Cx}{p pos lp U0 FT:Pos}{e e2:Expr}{t:TA}{td:TE}(hc:X.calm=true)(hg:Gl X "min")(hm:X.mg "min"=none)(VD:Gl X "len")(NX:X.mg "len"=none)(ha:PA X [e] t)(hd:PE X e2 td)
  (he:backTo pos (starEach [e] X.env)=(false,eval e X.env)::backTo pos (starEach [] X.env):=by rfl)(hp:(backTo pos (starEach [e] X.env)).any (·.1)=false:=by rfl) :
  PE X (.Call (.Name "min" p) [e] [⟨some "key",.Name "len" lp,U0⟩,⟨some "default",e2,FT⟩] pos) (OH X.K t td):=by
 intro aj s σ H Q I h;refine qE (jX I hg hm boot_min ?_);refine callWith_kw (dC (ha pos aj s σ H _ I h) λus s1 bN=>?_) he hp rfl rfl;obtain⟨vs,H1,I1,r1,q1⟩:=bN;refine kws_cons (jX I1 VD NX dZ (kws_cons (dC (hd aj s1 σ H1 _ I1 q1) λu2 s2 bN=>?_)));obtain⟨dv,H2,I2,r2,a,ev,hs,q⟩:=bN;refine kws_nil ?_;subst ev;obtain⟨u,rfl,rx⟩:=vals1 r1;cases (show u=Value.ref a from rx);obtain⟨aW,rv,pl,hz⟩:=I2.list hs;cases rv;exact tR (I2.ok.hd hc) pl.isList λh' tk kk=>⟨dv,H2,I2.kept (t':=tk) kk,r2,q⟩
open PySem
def Dc {K:bp}{H:Hp}{p D:Addr}{ls:List Addr}{σ:St}{x:Str}{Qp:Hp->Prop}(hp:H p=some (.lst (ls.map V.ref)))(hl:∀l∈ls,H l=some (.lst []))(hD:H D=none)(q:∀H2,aC H H2->H2 D=some (.lst [])->Qp H2) :
  ∃W:Nat->Nat->List V->St->Hp->Prop,(∃m,W 0 m [] (eh [x] [] σ) (upd H D (.lst []))) /\
 ∀i m ys σ' H,W i m ys σ' H->((iU K p).stop i H/\Qp H)\/((iU K p).go i H/\∃m',m' < m/\∀x H',(iU K p).lR i H x H'->dB 0 x σ' H' λσ2 H2=>fS 0 σ2 H2 λx H'=>∃k,Hc K x H' k/\(λb H3 =>
  if b=true then fS 0 σ2 H3 λy H4=>H4 D=some (.lst ys)/\ys.length < sizeLine/\W (i+1) m' (ys++[y]) σ2 (upd H4 D (.lst (ys++[y]))) else W (i+1) m' ys σ2 H3) k H'):=by
 refine bS (tif:=λσ H Q=>fS 0 σ H λx H'=>∃k,Hc K x H' k/\Q k H') (xs:=ls.map V.ref) (λi ys σ2 H5=>ys=[]/\(∃y0,σ2=[y0])/\aC H H5/\H5 D=some (.lst [])) ⟨rfl,⟨none,rfl⟩,af hD _,ae⟩ (λi ys σ2 H5 _ h=>aG.of (h.2.2.1 _ _ hp)) (λi x ys σ2 H5 ex h=>?_) (λys σ2 H5 h=>?_)
 .obtain⟨rfl,⟨y0,rfl⟩,s5,e5⟩:=h;rw [a9] at ex;obtain⟨l,el,rfl⟩:=b_.mp ex;refine goN ?_;refine⟨_,rfl,false,.inl ⟨[],aG.of (s5 _ _ (hl l (b9 el))),rfl⟩,?_⟩;refine dM ?_;exact⟨rfl,⟨_,rfl⟩,s5,e5⟩
 obtain⟨rfl,_,s5,e5⟩:=h;exact q H5 s5 e5
end L2
namespace gY
open PySem L2 M11
section
def AJ (aa:List aw)(rk:Str->Nat):Prop:=∀aY,tL aa aY->tE aa aa.length aY->∀n k j,Ot aa (hd aa) (λz=>decide (z∈aY.map (·.1))) n k j->∀ru z,aa[k]?=some ru->ru.2[j]?=some z->rk z < rk n
def Eo (K:bp):Sp:=λvs H Q _=>∃(R:Addr)(rs:List Addr)(aa:List aw)(rk:Str->Nat),vs=[.ref R]/\aG K H R (rs.map V.ref)/\bQ K H rs aa/\aa.length<=1000/\(∀ru∈aa,ru.2.length<=8)/\AJ aa rk /\
 ∀(D:Addr)(H':Hp),H D=none->aC H H'->H' D=some (.lst [])->Q (.ref D) H'
def zg:aK ["rules","steps","loops"] ["rules"] (ay EG):=iz rfl rfl rfl rfl nofun
def IT (F:hV K "find_loop" "find_loop" EG f fd)(T:Txt mg)(GS:aF P w K mg base 2 "steps_with_like_rows" ["rules"] (A5 K))(GW:aF P w K mg base 1 "way_back" ["rules","steps","name"] (JS K)):bV P w K mg base fK 3 f fd ["rules"] (Eo K):=by
 refine F.ok zg (λvs H Q E h=>?_) (λeX A outer s H vs Q E hr h=>?_)
 .obtain⟨R,rs,aa,rk,rfl,_⟩:=h;rfl
 obtain⟨R,rs,aa,rk,rfl,hR,cy,bu,h8,F7,q⟩:=h;refine⟨_,ag (aA (i:=1) zg.nd rfl (Or.inr rfl) (bq GS hr rfl (ab (pv 0) ai)))
  (ag (gB (iy:=2) ["name"] [(0,"rules"),(1,"steps")] zg.nd rfl rfl rfl (Bn (pv 1)) (aP rfl rfl) nofun rfl nofun
   (λ_ _ _ _ _=>aq (i:=0) (show (["name","rules","steps"]:List Str).Nodup by decide +kernel) rfl (aZ rfl)) (λ_ _ _ _ _=>a0)
   (λ_ _ _ _ _=>bq (GW.mono (by decide:1<=2)) hr rfl (ab (pv 1) (ab (pv 2) (ab (pv 0) ai)))))
  (ao (aL (IB rfl rfl T.min rfl T.len (ab (aV ["loop"] [] rfl (aR (pv 2)) (aP rfl rfl) nofun rfl nofun
   (λ_ _ _ _ _=>aq (i:=0) (show (["loop"]:List Str).Nodup by decide +kernel) rfl (aZ rfl)) (λ_ _ _ _ _=>gC (Ci K (pv 0) (λ_=>rfl))) (λ_ _ _ _ _=>pv 0)) ai) (bL ai))))),?_⟩
 nofun
 refine⟨_,rfl,R,rs,aa,rfl,hR,cy,bu,h8,λd ps st aY H1 fd1 s1 e1 S1 m1 HN emp oh hits=>?_⟩;have lps:ps.length<=1000:=by
  have h1:=congrArg List.length m1;have h2:=hU (aa.map (·.1)) [];simp only [jl,au] at h2;rw [au] at h1;have h3:(hd aa).length=(lU [] (aa.map (·.1))).length:=rfl;omega
 have VM:Down aa (ps.map (·.1)) st rk:=λn hn e he=>by
  rw [m1] at hn ⊢;have hit:=(hits n e.1 e.2 hn).mp he;obtain⟨ru,z,er,_,ez,hz,_⟩:=id hit;exact⟨ru,z,er,ez,hz,F7 aY emp oh n e.1 e.2 hit ru z er ez⟩
 refine⟨_,rfl,d,_,rfl,e1,λo D hD=>?_⟩;have Ur:∀p∈ps,p.2≠d:=λp hp z=>by
  obtain⟨ts,a,_⟩:=S1.lst p hp;rw [z,e1] at a;cases a
 have s2:aC H (upd H1 d (.ki o (.dK (ps.map ij)))):=λb u hb=>by
  rw [ak (λz=>by rw [z,fd1] at hb;cases hb)];exact s1 b u hb
 have S2:DO K ps st (upd H1 d (.ki o (.dK (ps.map ij)))) d:=⟨.inr ⟨o,ae⟩,S1.n1,S1.n2,λp hp=>by
  obtain⟨ts,a,b⟩:=S1.lst p hp;exact⟨ts,by rw [ak (Ur p hp)];exact a,Paired.dH b λ_ _ z=>hZ e1 z⟩⟩
 have e2:upd H1 d (.ki o (.dK (ps.map ij))) d=some (.ki o (.dK (ps.map ij))):=ae;generalize upd H1 d (.ki o (.dK (ps.map ij)))=H2 at hD s2 S2 e2 ⊢;refine sU (λi ys σ2 H3=>∃ls:List Addr,ys=ls.map V.ref/\ls.length=i/\(∀l∈ls,H3 l=some (.lst [])/\l≠D)/\(∃y0,σ2=[y0,aD R,aD d])/\aC H2 H3/\H3 D=some (.lst ys))
  ⟨[],rfl,rfl,by simp,⟨none,rfl⟩,af hD _,ae⟩ (λi ys σ2 H3 _ h=>?_) (λi kv ys σ2 H3 ex h=>?_) (λys σ2 H3 h=>?_)
 .obtain⟨_,_,_,_,_,sm,_⟩:=h;exact sm _ _ e2
 .obtain⟨ls,rfl,Zd,hl,⟨y0,rfl⟩,sm,jf⟩:=h;rw [a9] at ex;obtain⟨p,ep,rfl⟩:=b_.mp ex;have hp:=b9 ep;have li:=(bf.mp ep).1;refine goN (uH ?_);have s3:=s2.trans sm;refine⟨_,rfl,_,rfl,_,rfl,R,d,rs,aa,ps,st,p.1,rk,rfl,s3.seq hR,cy.same s3,bu,S2.same sm,lps,iq hp,VM,λD4 H4 f4 s4 e4=>?_⟩;have Bz:=s4 _ _ jf;have YI:D4≠D:=λz=>by rw [z,jf] at f4;cases f4
  refine⟨Bz,bD (by rw [au];omega),ls++[D4],by rw [bA];rfl,by rw [bW,Zd];rfl,λl Vw=>?_,⟨_,rfl⟩,λb u hb=>?_,ae⟩
  .rcases cg.mp Vw with h | h
   .obtain⟨a1,a2⟩:=hl l h;exact⟨by rw [ak a2];exact s4 _ _ a1,a2⟩
   rw [bH.mp h];exact⟨by rw [ak YI];exact e4,YI⟩
  rw [ak (λz=>by rw [z,hD] at hb;cases hb)];exact s4 _ _ (sm b u hb)
 obtain⟨ls,rfl,Zd,hl,_,sm,jf⟩:=h;have s3:=s2.trans sm;refine⟨_,rfl,D,rfl,⟨_,aG.of jf⟩,λD5 N4=>?_⟩;refine Dc jf (λl Vw=>(hl l Vw).1) N4 λH5 s5 e5=>?_;refine⟨yB,λD6 VX=>⟨D5,rfl,aG.of (af VX _ _ _ e5),?_⟩⟩;exact q D6 _ ((s3.trans s5).free VX) ((s3.trans s5).trans (af VX _)) ae
end
end gY
namespace L2
open PySem
def AR {K:bp}{T:Addr}{pos:Pos}{qu:Str}{H H':Hp}{a:Addr}{xs:List V}(s:gu T H H')(t:Tab T pos qu H)(h:a_ K H a xs):a_ K H' a xs:=by
 obtain⟨ps,b,_⟩:=t;rcases h with (h | ⟨u,h⟩) | h
 .exact .inl (.inl (s _ _ (λz=>by rw [z,b] at h;cases h) h))
 .exact .inl (.inr ⟨u,s _ _ (λz=>by rw [z,b] at h;cases h) h⟩)
 exact .inr h
def Bf {K:bp}{T:Addr}{pos:Pos}{qu:Str}{H H':Hp}{a:Addr}{xs:List V}(s:gu T H H')(t:Tab T pos qu H)(h:aG K H a xs):aG K H' a xs:=by
 obtain⟨ps,b,_⟩:=t;rcases h with (h | ⟨u,h⟩) | h
 .exact .inl (.inl (s _ _ (λz=>by rw [z,b] at h;cases h) h))
 .exact .inl (.inr ⟨u,s _ _ (λz=>by rw [z,b] at h;cases h) h⟩)
 exact .inr h
def AU {T T':Addr}{pos pos':Pos}{qu Ho:Str}{H H':Hp}(s:gu T H H')(t:Tab T pos qu H)(h:Tab T' pos' Ho H)(n:T'≠T):Tab T' pos' Ho H':=by
 obtain⟨ps,b,_⟩:=t;obtain⟨Ud,a,o,c⟩:=h;refine⟨Ud,s _ _ n a,o,c.imp id ?_⟩;rintro⟨c',e,g⟩;exact⟨c',e,s _ _ (λz=>by rw [z,b] at g;cases g) g⟩
def sQ {K:bp}{H:Hp}{p D:Addr}{zs:List Str}{σ:St}{js:List (Nat×Str)}{cs:List (Option V)}{tif:TT}{te:TE}{Qp:Hp->Prop}(hσ:eh ["name"] js σ=none::cs)(hp:aG K H p (zs.map V.str))(hD:H D=none)
  (ht:∀z∈zs,∀H2 Q,aC H H2->Q false H2->tif (some (.str z)::cs) H2 Q)(q:∀H2,aC H H2->H2 D=some (.lst [])->Qp H2) :
  ∃W:Nat->Nat->List V->St->Hp->Prop,(∃m,W 0 m [] (eh ["name"] js σ) (upd H D (.lst []))) /\
 ∀i m ys σ' H,W i m ys σ' H->((iU K p).stop i H/\Qp H)\/((iU K p).go i H/\∃m',m' < m/\∀x H',(iU K p).lR i H x H'->dB 0 x σ' H' λσ2 H2=>tif σ2 H2 λb H3 =>
  if b=true then te σ2 H3 λy H4=>H4 D=some (.lst ys)/\ys.length < sizeLine/\W (i+1) m' (ys++[y]) σ2 (upd H4 D (.lst (ys++[y]))) else W (i+1) m' ys σ2 H3):=by
 refine bS (xs:=zs.map V.str) (λi ys σ2 H5=>ys=[]/\(∃y0,σ2=y0::cs)/\aC H H5/\H5 D=some (.lst [])) ⟨rfl,⟨none,hσ⟩,af hD _,ae⟩ (λi ys σ2 H5 _ h=>h.2.2.1.seq hp) (λi x ys σ2 H5 ex h=>?_) (λys σ2 H5 h=>?_)
 .obtain⟨rfl,⟨y0,rfl⟩,s5,e5⟩:=h;rw [a9] at ex;obtain⟨z,ez,rfl⟩:=b_.mp ex;refine goN ?_;refine ht z (b9 ez) H5 _ s5 ?_;refine dM ?_;exact⟨rfl,⟨_,rfl⟩,s5,e5⟩
 obtain⟨rfl,_,s5,e5⟩:=h;exact q H5 s5 e5
end L2
namespace gY
open PySem L2 M11
section
structure Good (aa:List aw)(rk:Str->Nat)(b:Str->Int):Prop where
 least:∀g,eJ M11.bl aa (wG aa) g->iE M11.bl aa g->∀h∈hd aa,∃n,g h=some n/\n<=60
 met:∀jc ms,aa[0]?=some jc->jc.1∈ms->Dn aa aa.length ms->∀h∈hd aa,h∈ms
 loop:AJ aa rk
 bnd:tF aa b
 most:∀h∈hd aa,b h<=60
def mh (T1 T2:Addr)(H H':Hp):Prop:=∀b o,b≠T1->b≠T2->H b=some o->H' b=some o
def rp (K:bp)(T1 T2:Addr):Sp:=λvs H Q _=>∃(R S:Addr)(rs ss:List Addr)(aa str:List aw)(rk:Str->Nat)(b:Str->Int),vs=[.ref R,.ref S]/\aG K H R (rs.map V.ref)/\bQ K H rs aa/\aa.length<=1000/\(∀ru∈aa,ru.2.length<=8)/\aa≠[] /\
 aG K H S (ss.map V.ref)/\bQ K H ss str/\str.length<=1000/\(∀ru∈str,ru.2.length<=8)/\(str.flatMap (·.2)).Nodup/\Good aa rk b/\Tab T1 rS.2.2.2 yE H/\Tab T2 z_.2.2.2 Kf H/\T1≠T2 /\
 ∀H',mh T1 T2 H H'->Tab T1 rS.2.2.2 yE H'->Tab T2 z_.2.2.2 Kf H'->Q .eZ H'
def h_:aK ["rules","strengths","least","endless","met","unmet","steps","greatest","vast"] ["rules","strengths"] (ay vQ):=iz rfl rfl rfl rfl nofun
def Cs {T1 T2:Addr}{tm:Tok}(F:hV K "refuse_faults" "refuse_faults" vQ f fd)(T:Txt mg)(hM:mg "MOST_RULES"=some (.int 60 tm))(GT:aF P w K mg base 1 "refuse_twice" ["strengths"] (A4 K))(GL:aF P w K mg base 3 "least_sizes" ["rules"] (ql K T1))
  (GH:aF P w K mg base 1 "heads_of" ["rules"] (i5 K))(GM:aF P w K mg base 1 "names_met" ["rules"] (JU K))(GF:aF P w K mg base 3 "find_loop" ["rules"] (Eo K))(GG:aF P w K mg base 3 "greatest_empty_sizes" ["rules"] (vG K T2)) :
  bV P w K mg base fK 4 f fd ["rules","strengths"] (rp K T1 T2):=by
 refine F.ok h_ (λvs H Q E h=>?_) (λeX A outer s H vs Q E hr h=>?_)
 .obtain⟨R,S,rs,ss,aa,str,rk,b,rfl,_⟩:=h;rfl
 obtain⟨R,S,rs,ss,aa,str,rk,b,rfl,hR,cy,bu,h8,DE,hS,Sg,Va,Vg,Vf,gd,Jo,Sv,nT,q⟩:=h;have hu:=fu hr;refine⟨_,ag (bz (iN (iM (pv 0) (λ_=>rfl))) (ao iO) aI)
  (ag (du (bq (GT.mono (by decide:1<=3)) hr rfl (ab (pv 1) ai)))
  (ag (aA (i:=2) h_.nd rfl (Or.inr rfl) (bq GL hr rfl (ab (pv 0) ai)))
  (ag (gB (iy:=3) ["name"] [(2,"least")] h_.nd rfl rfl rfl (aR (bq (GH.mono (by decide:1<=3)) hr rfl (ab (pv 0) ai))) (aP rfl rfl) nofun rfl nofun
   (λ_ _ _ _ _=>aq (i:=0) (show (["name","least"]:List Str).Nodup by decide +kernel) rfl (aZ rfl)) (λ_ _ _ _ _=>gC (dP (df hu (pv 0) (pv 1)))) (λ_ _ _ _ _=>pv 0))
  (ag (bz (iM (pv 3) (λ_=>rfl)) (ao iO) aI)
  (ag (aA (i:=4) h_.nd rfl (Or.inr rfl) (bq (GM.mono (by decide:1<=3)) hr rfl (ab (pv 0) ai)))
  (ag (gB (iy:=5) ["name"] [(4,"met")] h_.nd rfl rfl rfl (aR (bq (GH.mono (by decide:1<=3)) hr rfl (ab (pv 0) ai))) (aP rfl rfl) nofun rfl nofun
   (λ_ _ _ _ _=>aq (i:=0) (show (["name","met"]:List Str).Nodup by decide +kernel) rfl (aZ rfl)) (λ_ _ _ _ _=>gC (dP (df hu (pv 0) (pv 1)))) (λ_ _ _ _ _=>pv 0))
  (ag (bz (iM (pv 5) (λ_=>rfl)) (ao iO) aI)
  (ag (aA (i:=6) h_.nd rfl (aZ rfl) (bq GF hr rfl (ab (pv 0) ai)))
  (ag (bz (iM (pv 6) (λ_=>rfl)) (ao iO) aI)
  (ag (aA (i:=7) h_.nd rfl (Or.inr rfl) (bq GG hr rfl (ab (pv 0) ai)))
  (ag (gB (iy:=8) ["name"] [(2,"least"),(7,"greatest")] h_.nd rfl rfl rfl (aR (bq (GH.mono (by decide:1<=3)) hr rfl (ab (pv 0) ai))) (aP rfl rfl) nofun rfl nofun
   (λ_ _ _ _ _=>aq (i:=0) (show (["name","least","greatest"]:List Str).Nodup by decide +kernel) rfl (aZ rfl)) (λ_ _ _ _ _=>gC (aQ Fh (aE (pD rfl) rfl T.max PyProof.Rows.boot_max (ab (eP hu (pv 1) (pv 0) (λ_ _=>rfl)) (ab (iP hu (pv 2) (pv 0) ar ⟨rfl,rfl,rfl,rfl⟩) ai))) (ID (v:=.int 60) rfl hM ⟨tm,rfl⟩) (bx _))) (λ_ _ _ _ _=>pv 0))
  (ao (bz (iM (pv 8) (λ_=>rfl)) (ao iO) aI))))))))))))),?_⟩
 nofun
 have ll:=bc cy;obtain⟨jc,NW⟩:∃jc,aa[0]?=some jc:=by
  cases aa with
  | nil=>exact absurd rfl DE
  | cons a r=>exact⟨a,rfl⟩
 have eR:(rs.map V.ref).isEmpty=false:=by
  have l0:=(bf.mp NW).1;cases rs with
  | nil=>simp at ll;omega
  | cons a r=>rfl
 refine⟨_,rfl,true,.inl ⟨_,hR,by rw [eR];rfl⟩,?_⟩;refine dM ?_;refine⟨_,rfl,S,ss,str,rfl,hS,Sg,Va,Vg,Vf,λH1 s1=>?_⟩;have RN:=Jo.same s1;have t21:=Sv.same s1;refine⟨_,rfl,R,rs,aa,rfl,s1.seq hR,cy.same s1,bu,h8,RN,λdl kl ksl gl H2 fl s2 t12 el kkl vl stl sel _=>?_⟩;have HI:=Bf s2 RN (s1.seq hR);have CN:=(cy.same s1).keep λ_ _ z=>AR s2 RN z;have t22:=AU s2 RN t21 nT.symm;have hl:=gd.least gl stl sel;have S02:mh T1 T2 H H2:=λb o n1 _ hb=>s2 b o n1 (s1 b o hb);refine⟨_,rfl,R,rs,aa,rfl,HI,CN,bu,λD3 H3 f3 s3 e3=>⟨D3,rfl,⟨_,aG.of e3⟩,λD4 hD4=>sQ rfl (aG.of e3) hD4 (λz hz H' Q' s' hQ=>?_) λH4 s4 e4=>?_⟩⟩
 .obtain⟨n,en,_⟩:=hl z hz;have hg:b0 H' dl (.str z) (some (.int n)):=by
   have:=b0.k (k:=Sum.inr z) (s' _ _ (s3 _ _ el));rw [vl,en] at this;exact this
  exact⟨_,rfl,_,rfl,dl,_,rfl,hg,_,rfl,hQ⟩
 refine⟨_,rfl,false,.inl ⟨[],aG.of e4,rfl⟩,?_⟩;refine dM ?_;have Lu:=s3.trans s4;refine⟨_,rfl,R,rs,aa,jc,rfl,Lu.seq HI,CN.same Lu,NW,bu,h8,λdm km ms H5 f5 s5 em kkm Cb _ mc5=>?_⟩;have T9:=Lu.trans s5;refine⟨_,rfl,R,rs,aa,rfl,T9.seq HI,CN.same T9,bu,λD6 H6 f6 s6 e6=>⟨D6,rfl,⟨_,aG.of e6⟩,λD7 VW=>sQ rfl (aG.of e6) VW (λz hz H' Q' s' hQ=>?_) λH7 s7 e7=>?_⟩⟩
 .have hm:=gd.met jc ms NW Cb mc5 z hz;have hv:(bh km (Sum.inr z)).isSome=true:=by rw [eK,kkm];exact cP.mpr hm
  refine⟨_,rfl,_,rfl,dm,_,rfl,b0.k (k:=Sum.inr z) (s' _ _ (s6 _ _ em)),_,rfl,?_⟩;rw [hv];exact hQ
 refine⟨_,rfl,false,.inl ⟨[],aG.of e7,rfl⟩,?_⟩;refine dM ?_;have T8:=(T9.trans s6).trans s7;refine⟨_,rfl,R,rs,aa,rk,rfl,T8.seq HI,CN.same T8,bu,h8,gd.loop,λD8 H8 f8 s8 e8=>?_⟩;refine⟨_,rfl,false,.inl ⟨[],aG.of e8,rfl⟩,?_⟩;refine dM ?_;have JY:=T8.trans s8;have t18:=t12.same JY;have OS:=t22.same JY;refine⟨_,rfl,R,rs,aa,b,rfl,JY.seq HI,CN.same JY,bu,h8,gd.bnd,OS,λdg kg ksg gg H9 f9 s9 t29 eg kkg vg jg _ _=>?_⟩;have hR9:=Bf s9 OS (JY.seq HI);have Vh:=(CN.same JY).keep λ_ _ z=>AR s9 OS z;have TR:=AU s9 OS t18 nT;have ZQ:=JY _ _ el;have el9:=s9 _ _ (λz=>by obtain⟨ps,a,_⟩:=OS;rw [<-z,ZQ] at a;cases a) ZQ;refine⟨_,rfl,R,rs,aa,rfl,hR9,Vh,bu,λXC AL f10 vZ DL=>⟨XC,rfl,⟨_,aG.of DL⟩,λD11 VY=>sQ rfl (aG.of DL) VY (λz hz H' Q' s' hQ=>?_) λDr Iv HS=>?_⟩⟩
 .obtain⟨n,en,aal⟩:=hl z hz;have Jm:b0 H' dl (.str z) (some (.int n)):=by
   have:=b0.k (k:=Sum.inr z) (s' _ _ (vZ _ _ el9));rw [vl,en] at this;exact this
  have ZU:=s' _ _ (vZ _ _ eg);obtain⟨v,hv1,U_⟩:∃v:Int,((gg z).map V.int).getD (.int 0)=.int v/\v<=60:=by
   cases e:gg z with
   | none=>exact⟨0,rfl,nofun⟩
   | some v=>exact⟨v,rfl,oA (jg z v e).2.1 (gd.most z hz)⟩
  have VD:b0 H' dg (.str z) ((gg z).map V.int):=by
   have:=b0.k (k:=Sum.inr z) ZU;rw [vg] at this;exact this
  refine⟨_,rfl,_,rfl,dl,_,rfl,Jm,_,rfl,dg,rfl,.inl ⟨_,.inl ZU⟩,_,rfl,_,VD,?_⟩;rw [hv1];refine⟨n,v,rfl,_,_,rfl,rfl,_,rfl,?_⟩;rw [d0 (by split <;> omega)]
  exact hQ
 refine⟨_,rfl,false,.inl ⟨[],aG.of HS,rfl⟩,?_⟩;refine dM ?_;have Ls:=vZ.trans Iv;exact q Dr (λc o n1 n2 hc=>Ls c o (s9 c o n2 (JY c o (S02 c o n1 n2 hc)))) (TR.same Ls) (t29.same Ls)
end
end gY
namespace M11
open PySem L2
abbrev Be:=Str×Str×Nat×Nat
noncomputable def bU (bK:List Be):List (Str×Str):=bK.map λb=>(b.1,b.2.1)
noncomputable def n8 (bK:List Be)(n:Str):List Str:=(bK.filter λb=>decide (b.1=n)).map (·.2.1)
def oP (names:List Str)(bK:List Be)(z:Str):List Str:=if z∈names then n8 bK z else [z]
inductive tM (aa:List aw) (names:List Str)(b:Str->Bool):List Be->Prop
 | nil:tM aa names b []
 | snoc {bK:List Be}{k j:Nat}{ru:aw}{z w:Str}:tM aa names b bK->aa[k]?=some ru->ru.2[j]?=some z->j < CW b ru.2->w∈oP names bK z->(ru.1,w)∉bU bK->tM aa names b (bK++[(ru.1,w,k,j)])
def wH {bK:List Be}{n w:Str}:w∈n8 bK n↔(n,w)∈bU bK:=by
 unfold n8 bU;rw [cx,cx];constructor
 .rintro⟨b,hb,rfl⟩;obtain⟨h1,h2⟩:=i0.mp hb;exact⟨b,h1,by rw [cw h2]⟩
 rintro⟨b,hb,e⟩;cases e;exact⟨b,i0.mpr ⟨hb,cf rfl⟩,rfl⟩
def BD (bK:List Be)(b:Be)(n:Str):n8 (bK++[b]) n=n8 bK n++(if b.1=n then [b.2.1] else []):=by
 unfold n8;rw [qF,bA];by_cases c:b.1=n
 .rw [ax c];simp [c]
 rw [az c];simp [c]
end M11
namespace gY
open PySem L2 M11
def JB:Stmt->List Stmt
 | .ClassDef _ _ _ b _ _ _ _ _ _ _=>b
 | _=>[]
abbrev Pz (st:Stmt) (i:Nat):Stmt:=(JB st).getD i (.Pass ⟨0,0,0,0⟩)
abbrev zz:Stmt:=Pz zx 0
abbrev EK:Stmt:=Pz zx 1
abbrev zo:Stmt:=Pz zx 2
abbrev vV:Stmt:=Pz EH 0
section
structure BC (K:bp)(C:Addr):Prop where
 cls:Ds K C
 a1:eY K C "empties"
 a2:eY K C "empty"
 a3:eY K C "begins"
 a4:eY K C "firsts"
structure qi (K:bp)(C:Addr)(H0 H:Hp)(a e d bg:Addr)(kE:List (aT×V))(aY:List (Str×Nat))(ps:List (Str×Addr))(bK:List Be):Prop where
 sm:aC H0 H
 ia:∃dx fs,H a=some (.ins C dx fs)/\fs.lookup ("empty":Str)=some (.ref e)/\fs.lookup ("begins":Str)=some (.ref bg)/\fs.lookup ("firsts":Str)=some (.ref d)/\fs.lookup ("find_begins":Str)=none/\(fs.lookup ("words_of_part":Str)=none/\fs.lookup ("first_words":Str)=none/\fs.lookup ("all_empty":Str)=none/\fs.lookup ("words_of_parts":Str)=none)
 he:H e=some (.dK kE)
 hd:H d=some (.dK (ps.map ij))
 n1:(ps.map (·.1)).Nodup
 n2:(ps.map (·.2)).Nodup
 dk:∀p∈ps,(∃kvs,H p.2=some (.dK kvs)/\kvs.map (·.1)=(n8 bK p.1).map Sum.inr)/\H0 p.2=none/\p.2≠e/\p.2≠d
 lb:∃ts,H bg=some (.lst (ts.map V.ref))/\Paired (λt (b:Be)=>a_ K H t [.str b.1,.str b.2.1,.int (b.2.2.1:Int),.int (b.2.2.2:Int)]) ts bK
 fb:H0 bg=none
 em:∃e1 ts,(∃dx fs,H a=some (.ins C dx fs)/\fs.lookup ("empties":Str)=some (.ref e1))/\H e1=some (.lst (ts.map V.ref))/\lX K H ts aY/\e1≠bg
def qi.same {C:Addr}{H0 H H':Hp}{a e d bg:Addr}{kE:List (aT×V)}{aY:List (Str×Nat)}{ps:List (Str×Addr)}{bK:List Be}(h:qi K C H0 H a e d bg kE aY ps bK)(s:aC H H'):qi K C H0 H' a e d bg kE aY ps bK:=by
 refine⟨h.sm.trans s,?_,s _ _ h.he,s _ _ h.hd,h.n1,h.n2,λp hp=>?_,?_,h.fb,?_⟩
 .obtain⟨dx,fs,q,r⟩:=h.ia;exact⟨dx,fs,s _ _ q,r⟩
 .obtain⟨⟨kvs,q,r⟩,t⟩:=h.dk p hp;exact⟨⟨kvs,s _ _ q,r⟩,t⟩
 .obtain⟨ts,q,r⟩:=h.lb;exact⟨ts,s _ _ q,Paired.dH r λ_ _ z=>s.tup z⟩
 obtain⟨e1,ts,⟨dx,fs,q1,q2⟩,q3,q4,q5⟩:=h.em;exact⟨e1,ts,⟨dx,fs,s _ _ q1,q2⟩,s _ _ q3,q4.keep λ_ _ z=>s.tup z,q5⟩
def A6 (K:bp)(C:Addr):Sp:=λvs H Q _=>∃(H0:Hp)(a e d bg:Addr)(kE:List (aT×V))(aY:List (Str×Nat))(ps:List (Str×Addr))(bK:List Be)(z:Str),vs=[.ref a,.str z]/\qi K C H0 H a e d bg kE aY ps bK /\
 ∀(D:Addr)(H':Hp),H D=none->aC H H'->H' D=some (.lst ((oP (ps.map (·.1)) bK z).map V.str))->Q (.ref D) H'
def Il:aK ["self","part"] ["self","part"] (ay zo):=iz rfl rfl rfl rfl nofun
def Fo {C:Addr}(F:hV K "words_of_part" "BeginTable.words_of_part" zo f fd)(T:Txt mg)(B:BC K C):bV P w K mg base fK 1 f fd ["self","part"] (A6 K C):=by
 refine F.ok Il (λvs H Q E h=>?_) (λeX A outer s H vs Q E hr h=>?_)
 .obtain⟨H0,a,e,d,bg,kE,aY,ps,bK,z,rfl,_⟩:=h;rfl
 obtain⟨H0,a,e,d,bg,kE,aY,ps,bK,z,rfl,S,q⟩:=h;have hu:=fu hr;obtain⟨dx,fs,ea,f1,f2,f3,f4,f5⟩:=S.ia;refine⟨_,ao (aL (rL (dP (gW hu (pv 1) (eI (pv 0) rfl))) (aX (j4 rfl) rfl T.lst eG (ab (eP hu (eI (pv 0) rfl) (pv 1) (λ_ _=>rfl)) ai)) (bL (ab (pv 1) ai)))),?_⟩;dsimp only [GI];have mem:(bh (ps.map ij) (Sum.inr z)).isSome=true↔z∈ps.map (·.1):=by rw [eK,iC];exact cP
 refine⟨_,rfl,_,rfl,a,C,dx,fs,_,rfl,ea,B.cls,B.a4,f3,d,_,rfl,b0.k (k:=Sum.inr z) S.hd,_,rfl,?_⟩;refine bJ (λc=>?_) (λc=>?_)
 .have hz:=mem.mp c;obtain⟨p,hp,ep⟩:=cx.mp hz;obtain⟨⟨kvs,hk,kk⟩,_⟩:=S.dk p hp;have vn:=fw ps S.n1 p hp;rw [ep] at vn;have hg:b0 H d (.str z) (some (.ref p.2)):=by
   have:=b0.k (k:=Sum.inr z) S.hd;rw [vn] at this;exact this
  refine⟨_,rfl,a,C,dx,fs,_,rfl,ea,B.cls,B.a4,f3,_,rfl,d,_,rfl,hg,p.2,kvs,rfl,hk,λD hD=>?_⟩;refine q D _ hD (af hD _) ?_;rw [ae,keys_str kk,ep];unfold oP;rw [ax hz]
 refine⟨_,rfl,Ox,λD hD=>?_⟩;refine q D _ hD (af hD _) ?_;rw [ae];unfold oP;rw [az (λh=>c (mem.mpr h))];rfl
def qi.more {C:Addr}{H0 H H2:Hp}{a e d bg t:Addr}{kE kvs:List (aT×V)}{aY:List (Str×Nat)}{ps:List (Str×Addr)}{bK:List Be}{p:Str×Addr}{wd:Str}{k j:Nat}{ts:List Addr}(h:qi K C H0 H a e d bg kE aY ps bK)(hp:p∈ps)(hk:H p.2=some (.dK kvs))(kk:kvs.map (·.1)=(n8 bK p.1).map Sum.inr)
  (hn:(p.1,wd)∉bU bK)(hb:H bg=some (.lst (ts.map V.ref)))(N2:Paired (λt (b:Be)=>a_ K H t [.str b.1,.str b.2.1,.int (b.2.2.1:Int),.int (b.2.2.2:Int)]) ts bK)
  (s:aC (upd H p.2 (.dK (bM kvs (Sum.inr wd) (.bl true)))) H2)(ht:a_ K H2 t [.str p.1,.str wd,.int (k:Int),.int (j:Int)]) :
  qi K C H0 (upd H2 bg (.lst (ts.map V.ref++[.ref t]))) a e d bg kE aY ps (bK++[(p.1,wd,k,j)]):=by
 have R8:bg≠p.2:=λz=>by rw [z,hk] at hb;cases hb
 have Jn:H2 bg=some (.lst (ts.map V.ref)):=s _ _ (by rw [ak R8];exact hb);obtain⟨_,fp,Yy,NM⟩:=h.dk p hp;have up:∀c o,c≠bg->c≠p.2->H c=some o->upd H2 bg (.lst (ts.map V.ref++[.ref t])) c=some o:=λc o n1 n2 q=>by
  rw [ak n1];exact s _ _ (by rw [ak n2];exact q)
 refine⟨λc o hc=>up c o (λz=>by rw [z,h.fb] at hc;cases hc) (λz=>by rw [z,fp] at hc;cases hc) (h.sm c o hc),?_,up _ _ (λz=>by have:=h.he;rw [z,hb] at this;cases this) Yy.symm h.he,up _ _ (λz=>by have:=h.hd;rw [z,hb] at this;cases this) NM.symm h.hd,h.n1,h.n2,λp' o8=>?_,⟨ts++[t],by rw [ae,bA];rfl,?_⟩,h.fb,?_⟩
 .obtain⟨dx,fs,q,r⟩:=h.ia;exact⟨dx,fs,up _ _ (λz=>by rw [z,hb] at q;cases q) (λz=>by rw [z,hk] at q;cases q) q,r⟩
 .obtain⟨⟨mN,q,r⟩,t'⟩:=h.dk p' o8;refine⟨?_,t'⟩;by_cases z:p'=p
  .rw [z];refine⟨bM kvs (Sum.inr wd) (.bl true),by rw [ak R8.symm];exact s _ _ ae,?_⟩;rw [gS (by rw [kk];exact λq=>hn (wH.mp (cP.mp q))),kk,BD,ax rfl,bA];rfl
  have n1:p'.1≠p.1:=λq'=>z (by
   have w1:=fw ps h.n1 p' o8;have w2:=fw ps h.n1 p hp;rw [q',w2] at w1;injection w1 with w3;injection w3 with w4;exact jI q' w4.symm)
  have n2:p'.2≠p.2:=λq'=>by
   obtain⟨i,hi,ei⟩:=qG.mp o8;obtain⟨j',hj,ej⟩:=qG.mp hp;have Jl:i=j':=by
    refine(u5 (xs:=ps.map (·.2)) (h₀:=by simpa using hi) (h₁:=by simpa using hj) h.n2).mp ?_;rw [oJ,oJ,ei,ej];exact q'
   subst Jl;exact z (ei.symm.trans ej)
  refine⟨mN,up _ _ (λz=>by rw [z,hb] at q;cases q) n2 q,?_⟩;rw [r,BD,az (λq'=>n1 q'.symm),il]
 .exact gF (Paired.dH N2 λ_ _ z=>bj Jn (s.tup (hZ hk z))) (bj Jn ht)
 obtain⟨e1,te,⟨dx,fs,q1,q2⟩,q3,q4,q5⟩:=h.em;exact⟨e1,te,⟨dx,fs,up _ _ (λz=>by rw [z,hb] at q1;cases q1) (λz=>by rw [z,hk] at q1;cases q1) q1,q2⟩,up _ _ q5 (λz=>by rw [z,hk] at q3;cases q3) q3,q4.keep λ_ _ z=>bj Jn (s.tup (hZ hk z)),q5⟩
def MR (l m:List Be)(n:Str):n8 (l++m) n=n8 l n++n8 m n:=by
 unfold n8;rw [qF,bA]
def Ie {names:List Str}(l m:List Be){z x:Str}(h:x∈oP names l z):x∈oP names (l++m) z:=by
 unfold oP at h ⊢
 split
 .rename_i c
  rw [ax c] at h;rw [MR];exact j8 _ h
 rename_i c
 rw [az c] at h;exact h
def MQ (bK:List Be)(n:Str):(n8 bK n).length<=bK.length:=by
 unfold n8;rw [au];exact l7 _ _
def Nf {n i:Nat}(h:i < n):(cnt n)[i]?=some (.int (i:Int)):=by
 unfold cnt;rw [a9,List.getElem?_range h];rfl
def BO (n:Nat):(cnt n).length=n:=by unfold cnt;rw [au,u9]
def Es (K:bp)(C:Addr):Sp:=λvs H Q _=>∃(H0:Hp)(a e d bg r:Addr)(kE:List (aT×V))(aY:List (Str×Nat))(ps:List (Str×Addr))(bK:List Be) (k:Nat)(ru:aw)(aa:List aw),vs=[.ref a,.int (k:Int),.ref r]/\qi K C H0 H a e d bg kE aY ps bK/\B0 K H0 r ru/\aa[k]?=some ru/\ru.2.length<=8 /\
 ru.1∈ps.map (·.1)/\(∀wR:List Be,tM aa (ps.map (·.1)) (λz=>(bh kE (Sum.inr z)).isSome) wR->wR.length<=900000)/\tM aa (ps.map (·.1)) (λz=>(bh kE (Sum.inr z)).isSome) bK /\
 ∀(wR:List Be)(H':Hp),qi K C H0 H' a e d bg kE aY ps wR->tM aa (ps.map (·.1)) (λz=>(bh kE (Sum.inr z)).isSome) wR->bK.length<=wR.length->(wR.length=bK.length->wR=bK/\∀j z,j < CW (λz=>(bh kE (Sum.inr z)).isSome) ru.2->ru.2[j]?=some z->∀wd∈oP (ps.map (·.1)) bK z,(ru.1,wd)∈bU bK)->Q .eZ H'
def vN:aK ["self","number","rule","own","place","word"] ["self","number","rule"] (ay EK):=iz rfl rfl rfl rfl nofun
def IW {C fW:Addr}{Zw:FuncData}(F:hV K "find_begins" "BeginTable.find_begins" EK f fd)(T:Txt mg)(B:BC K C)(GP:aF P w K mg base 1 "first_places" ["parts","empty"] (xq K))(FW:bV P w K mg base fK 1 fW Zw ["self","part"] (A6 K C))(MW:Meth K C "words_of_part" fW)(BW:Binds K Zw ["self","part"] []) :
  bV P w K mg base fK 2 f fd ["self","number","rule"] (Es K C):=by
 refine F.ok vN (λvs H Q E h=>?_) (λeX A outer s H vs Q E hr h=>?_)
 .obtain⟨H0,a,e,d,bg,r,kE,aY,ps,bK,k,ru,aa,rfl,_⟩:=h;rfl
 obtain⟨H0,a,e,d,bg,r,kE,aY,ps,bK,k,ru,aa,rfl,S,⟨p,v1,v2⟩,er,h8,hh,hbd,VP,q⟩:=h;have hu:=fu hr;refine⟨_,ag (aA (i:=3) vN.nd rfl (aZ rfl) (eP hu (eI (pv 0) rfl) (a7 bI (pv 2) ar (λ_ _=>rfl)) (λ_ _=>rfl)))
  (ao (bE bX rfl (aR (bq GP hr rfl (ab (a7 bI (pv 2) ar (λ_ _=>rfl)) (ab (eI (pv 0) rfl) ai)))) (aq (i:=4) vN.nd rfl (aZ rfl))
   (ao (bE bX rfl (aR (Bp (pv 0) B.cls MW FW hr BW .nil uu (ab (a7 bI (a7 bI (pv 2) ar (λ_ _=>rfl)) (pv 4) (λ_ _=>rfl)) ai))) (aq (i:=5) vN.nd rfl (aZ rfl))
    (ao (bz (dP (df hu (pv 5) (pv 3)))
     (ag (fV hu (pv 3) (pv 5) cI rfl)
     (ao (du (ix ir iu iw cA (eI (pv 0) rfl) (ab (bC (ab (a7 bI (pv 2) ar (λ_ _=>rfl)) (ab (pv 5) (ab (pv 1) (ab (pv 4) ai))))) ai))))) aI)))))),?_⟩
 nofun
 obtain⟨pn,xW,tK⟩:=cx.mp hh;have vn:=fw ps S.n1 pn xW;rw [tK] at vn;obtain⟨dx,fs,ea,f1,f2,f3,f4,f5⟩:=S.ia;have hg:b0 H d (.str ru.1) (some (.ref pn.2)):=by
  have:=b0.k (k:=Sum.inr ru.1) S.hd;rw [vn] at this;exact this
 refine⟨_,rfl,a,C,dx,fs,_,rfl,ea,B.cls,B.a4,f3,_,rfl,r,_,_,_,rfl,rfl,S.sm.tup v1,rfl,d,_,rfl,hg,?_⟩;refine⟨_,rfl,r,_,_,_,rfl,rfl,S.sm.tup v1,rfl,_,rfl,a,C,dx,fs,_,rfl,ea,B.cls,B.a2,f1,p,e,ru.2,kE,rfl,S.sm.tup v2,∅,S.he,λD5 H5 f6 s5 e5=>⟨D5,rfl,⟨_,aG.of e5⟩,?_⟩⟩;obtain⟨ts0,hb0,_⟩:=S.lb;have nDb:D5≠bg:=λz=>by rw [z,hb0] at f6;cases f6
 have fle:=Gk (λz=>(bh kE (Sum.inr z)).isSome) ru.2;generalize hb:(λz=>(bh kE (Sum.inr z)).isSome)=b at *;generalize hn:CW b ru.2=n at *
 let oo:lW:=λi σ H6=>∃(e_:List Be)(y4 y5:Option V),σ=[aD a,some (.int (k:Int)),aD r,some (.ref pn.2),y4,y5]/\qi K C H0 H6 a e d bg kE aY ps e_/\H6 D5=some (.lst (cnt n))/\tM aa (ps.map (·.1)) b e_/\bK.length<=e_.length /\
  (e_.length=bK.length->e_=bK/\∀j z,j < i->ru.2[j]?=some z->∀wd∈oP (ps.map (·.1)) bK z,(ru.1,wd)∈bU bK)
 refine cq (xs:=cnt n) oo ⟨bK,none,none,rfl,S.same s5,e5,VP,aU _,λ_=>⟨rfl,λj z hj=>by omega⟩⟩ ?_ ?_ ?_
 .rintro i σ H6 _ ⟨e_,y4,y5,rfl,S2,e6,_⟩;exact aG.of e6
 .intro i x σ H6 ex iV
  ac_nf0
  obtain⟨e_,y4,y5,rfl,S2,e6,WY,l2,c2⟩:=iV;have li:i < n:=by have:=(bf.mp ex).1;rw [BO] at this;exact this
  rw [Nf li] at ex;cases ex;have lz:i < ru.2.length:=by omega
  obtain⟨z,ez⟩:∃z,ru.2[i]?=some z:=⟨ru.2[i],dI lz⟩;have Xe:lV (ru.2.map V.str) (i:Int)=some (.str z):=bT (by rw [a9,ez];rfl);obtain⟨Q6,tJ,Q3,g1,g2,g3,g4,g5⟩:=S2.ia;refine goN ?_
  ac_nf
  refine⟨_,rfl,a,Q6,tJ,rfl,Q3,g5.1,_,rfl,r,_,_,_,rfl,rfl,S2.sm.tup v1,rfl,_,rfl,p,_,_,_,rfl,rfl,S2.sm.tup v2,Xe,H0,a,e,d,bg,kE,aY,ps,e_,z,rfl,S2,λD6 H7 f7 s7 e7=>⟨D6,rfl,⟨_,aG.of e7⟩,?_⟩⟩;obtain⟨xm,Jn,_⟩:=S2.lb;have nD6:D6≠bg:=λz=>by rw [z,Jn] at f7;cases f7
  generalize YY:oP (ps.map (·.1)) e_ z=ws at *
  let wZ:lW:=λm σ H8=>∃(l:List Be)(y5:Option V),σ=[aD a,some (.int (k:Int)),aD r,some (.ref pn.2),some (.int (i:Int)),y5]/\qi K C H0 H8 a e d bg kE aY ps (e_++l)/\H8 D5=some (.lst (cnt n))/\H8 D6=some (.lst (ws.map V.str))/\tM aa (ps.map (·.1)) b (e_++l) /\
   (l=[]->∀wd∈ws.take m,(ru.1,wd)∈bU e_)
  refine cq (xs:=ws.map V.str) wZ ⟨[],_,rfl,by rw [il];exact S2.same s7,s7 _ _ e6,e7,by rw [il];exact WY,λ_ wd h=>by simp at h⟩ ?_ ?_ ?_
  .rintro m σ H8 _ ⟨l,y5,rfl,S3,e8,e9,_⟩;exact aG.of e9
  .intro m x σ H8 ex iV
   ac_nf0
   obtain⟨l,y5,rfl,S3,e8,e9,Rf,c3⟩:=iV;rw [a9] at ex;obtain⟨wd,ew,rfl⟩:=b_.mp ex;obtain⟨⟨kvs,hk,kk⟩,fp,Yy,NM⟩:=S3.dk pn xW;obtain⟨XW,Ss,QF⟩:=S3.lb;have lim:=hbd _ Rf;have PB:kvs.length<=900000:=by
    have h1:=congrArg List.length kk;rw [au,au] at h1;have:=MQ (e_++l) pn.1;omega
   have ltt:=bc QF;have mem:(bh kvs (Sum.inr wd)).isSome=true↔(ru.1,wd)∈bU (e_++l):=by rw [eK,kk,cP,wH,tK]
   refine goN ?_
   ac_nf
   refine⟨_,rfl,_,rfl,pn.2,_,rfl,b0.k (k:=Sum.inr wd) hk,_,rfl,?_⟩;refine bJ (λc=>?_) (λc=>?_)
   .have nm:(ru.1,wd)∉bU (e_++l):=λh=>by rw [mem.mpr h] at c;exact absurd c nofun
    refine⟨_,rfl,_,rfl,_,_,rfl,j6.k (k:=Sum.inr wd) hk (bD ∅),?_⟩;obtain⟨dx3,HL,Wq,k1,k2,k3,k4,k5⟩:=S3.ia;have nap:a≠pn.2:=λz=>by rw [z,hk] at Wq;cases Wq
    have R8:bg≠pn.2:=λz=>by rw [z,hk] at Ss;cases Ss
    have M_:upd H8 pn.2 (.dK (bM kvs (Sum.inr wd) (.bl true))) a=some (.ins C dx3 HL):=by rw [ak nap];exact Wq
    have Zp:upd H8 pn.2 (.dK (bM kvs (Sum.inr wd) (.bl true))) bg=some (.lst (XW.map V.ref)):=by rw [ak R8];exact Ss
    refine⟨_,rfl,a,C,dx3,HL,_,rfl,M_,B.cls,B.a3,k2,.inl ⟨rfl,_,aG.of Zp⟩,_,rfl,r,_,_,_,rfl,rfl,hZ hk (S3.sm.tup v1),rfl,_,rfl,_,rfl,_,rfl,zl4,λt4 Ai=>?_⟩;have s4:=af Ai (.tup [.str ru.1,.str wd,.int (k:Int),.int (i:Int)]);have e4:a_ K (upd (upd H8 pn.2 (.dK (bM kvs (Sum.inr wd) (.bl true)))) t4 (.tup [.str ru.1,.str wd,.int (k:Int),.int (i:Int)])) t4 [.str ru.1,.str wd,.int (k:Int),.int (i:Int)]:=a_.of ae;generalize upd (upd H8 pn.2 (.dK (bM kvs (Sum.inr wd) (.bl true)))) t4 (.tup [.str ru.1,.str wd,.int (k:Int),.int (i:Int)])=H9 at s4 e4;refine⟨bg,_,_,rfl,rfl,s4 _ _ Zp,bD (by rw [au];omega),?_⟩;have nm':(pn.1,wd)∉bU (e_++l):=by rw [tK];exact nm
    have S4:=S3.more (k:=k) (j:=i) xW hk kk nm' Ss QF s4 (by rw [tK];exact e4);have Kl:∀D ys,H8 D=some (.lst ys)->D≠bg->upd H9 bg (.lst (XW.map V.ref++[.ref t4])) D=some (.lst ys):=λD ys hD nb=>by
     rw [ak nb];exact s4 _ _ (by rw [ak (λz=>by rw [z,hk] at hD;cases hD)];exact hD)
    rw [lZ,tK] at S4;refine⟨l++[(ru.1,wd,k,i)],_,rfl,S4,Kl _ _ e8 nDb,Kl _ _ e9 nD6,?_,λh=>by simp at h⟩;rw [<-lZ];refine .snoc Rf er ez (by rw [hn];exact li) (Ie e_ l (by rw [YY];exact b9 ew)) nm
   refine⟨l,_,rfl,S3,e8,e9,Rf,λhl x hx=>?_⟩;rw [cK,ew] at hx;rcases cg.mp hx with h | h
   .exact c3 hl x h
   rw [Option.toList_some,bH] at h;subst h;have hm:(ru.1,x)∈bU (e_++l):=mem.mp (by
    cases hq:(bh kvs (Sum.inr x)).isSome with
    | true=>rfl
    | false=>exact absurd (by rw [hq];rfl) c)
   rw [hl,il] at hm;exact hm
  rintro σ H8 ⟨l,y5,rfl,S3,e8,e9,Rf,c3⟩;rw [au,cv] at c3;refine⟨e_++l,_,_,rfl,S3,e8,Rf,by rw [bW];omega,λQr=>?_⟩;rw [bW] at Qr;have Jj:l=[]:=List.length_eq_zero_iff.mp ∅;obtain⟨MI,ph⟩:=c2 ∅;rw [Jj,il];refine⟨MI,λj z' hj V_ wd Y0=>?_⟩;by_cases cj:j < i
  .exact ph j z' cj V_ wd Y0
  have:j=i:=by omega
  subst this;rw [ez] at V_;cases V_;have:=c3 Jj wd (by rw [<-YY,MI];exact Y0);rw [MI] at this;exact this
 rintro σ H6 ⟨e_,y4,y5,rfl,S2,e6,WY,l2,c2⟩;rw [BO] at c2;exact q e_ H6 S2 WY l2 c2
end
end gY
namespace L2
open PySem M11
def pU {K:bp}{H:Hp}{p D:Addr}{zs:List Str}{σ:St}{x:Str}{Qp:Hp->Prop}(hp:aG K H p (zs.map V.str))(hz:zs.length<=10000)(hD:H D=none)
  (q:∀ts (ps:List (Str×Addr)) H2,aC H H2->H2 D=some (.lst (ts.map V.ref))->ps.map (·.1)=zs->Paired (λt (p:Str×Addr)=>a_ K H2 t [.str p.1,.ref p.2]) ts ps->(∀p∈ps,H2 p.2=some (.dK [])/\H p.2=none/\p.2≠D)->(ps.map (·.2)).Nodup->Qp H2) :
  ∃W:Nat->Nat->List V->St->Hp->Prop,(∃m,W 0 m [] (eh [x] [] σ) (upd H D (.lst []))) /\
 ∀i m ys σ' H,W i m ys σ' H->((iU K p).stop i H/\Qp H)\/((iU K p).go i H/\∃m',m' < m/\∀x H',(iU K p).lR i H x H'->dB 0 x σ' H' λσ2 H2=>gI σ2 H2 λb H3 =>
  if b=true then rf (gp (fS 0) (gp (Ec) p_)) σ2 H3 λy H4=>H4 D=some (.lst ys)/\ys.length < sizeLine/\W (i+1) m' (ys++[y]) σ2 (upd H4 D (.lst (ys++[y]))) else W (i+1) m' ys σ2 H3):=by
 refine bS (xs:=zs.map V.str) (λi ys σ2 H2=>∃(ts:List Addr)(ps:List (Str×Addr)),ys=ts.map V.ref/\ts.length=i/\ps.map (·.1)=zs.take i/\Paired (λt (p:Str×Addr)=>a_ K H2 t [.str p.1,.ref p.2]) ts ps /\
   (∀p∈ps,H2 p.2=some (.dK [])/\H p.2=none/\p.2≠D)/\(ps.map (·.2)).Nodup/\(∃y0,σ2=[y0])/\aC H H2/\H2 D=some (.lst ys))
  ⟨[],[],rfl,rfl,rfl,.nil,by simp,by simp,⟨none,rfl⟩,af hD _,ae⟩ (λi ys σ2 H2 _ h=>?_) (λi x ys σ2 H2 ex h=>?_) (λys σ2 H2 h=>?_)
 .obtain⟨_,_,_,_,_,_,_,_,_,sm,_⟩:=h;exact sm.seq hp
 .obtain⟨ts,ps,rfl,ht,hm,jZ,hl,hn,⟨y0,rfl⟩,sm,hd⟩:=h;rw [a9] at ex;obtain⟨z,ez,rfl⟩:=b_.mp ex;have li:=(bf.mp ez).1;refine goN (uH ?_);refine⟨_,rfl,λl o_=>⟨qW,λt ji=>?_⟩⟩;have L0:l≠D:=(aB hd o_).symm;have nt:t≠l:=λe=>by rw [e,ae] at ji;cases ji
  have F2:H2 t=none:=by rw [ak nt] at ji;exact ji
  have ntD:t≠D:=(aB hd F2).symm;have vJ:aC H2 (upd (upd H2 l (.dK [])) t (.tup [.str z,.ref l])):=(af o_ _).trans (af ji _);have jf:=vJ _ _ hd;have el:upd (upd H2 l (.dK [])) t (.tup [.str z,.ref l]) l=some (.dK []):=by rw [ak nt.symm,ae]
  have et:a_ K (upd (upd H2 l (.dK [])) t (.tup [.str z,.ref l])) t [.str z,.ref l]:=a_.of ae;generalize upd (upd H2 l (.dK [])) t (.tup [.str z,.ref l])=H4 at vJ jf el et;refine⟨jf,bD (by rw [au];omega),ts++[t],ps++[(z,l)],by rw [bA];rfl,by rw [bW,ht];rfl,by rw [bA,hm,cK,ez];rfl,?_,?_,?_,⟨_,rfl⟩,?_,ae⟩
  .exact gF (Paired.dH jZ λt' h' z=>bj jf (vJ.tup z)) (bj jf et)
  .intro p' o8;rcases cg.mp o8 with h | h
   .obtain⟨a1,a2,a3⟩:=hl p' h;exact⟨by rw [ak a3];exact vJ _ _ a1,a2,a3⟩
   rw [bH.mp h];exact⟨by rw [ak L0];exact el,sm.free o_,L0⟩
  .rw [bA];refine jm.mpr ⟨hn,by simp,λa ha b hb e=>?_⟩;rw [oO,bH] at hb;obtain⟨p',o8,rfl⟩:=cx.mp ha;have:=(hl p' o8).1;rw [e,hb] at this;rw [show H2 l=none from o_] at this;cases this
  intro b o hb;rw [ak (λz=>by rw [z,hD] at hb;cases hb)];exact vJ _ _ (sm b o hb)
 obtain⟨ts,ps,rfl,ht,hm,jZ,hl,hn,_,sm,hd⟩:=h;rw [au,cv] at hm;exact q ts ps H2 sm hd hm jZ hl hn
def gQ {K:bp}{H:Hp}{D a C dx:Addr}{xs:List V}{fs:List (Str×V)}{o:HO}(hD:H D=some (.ins C dx fs))(h:a_ K H a xs):a_ K (upd H D o) a xs:=by
 rcases h with (h | ⟨u,h⟩) | h
 .exact .inl (.inl (by rw [ak (λz=>by rw [z,hD] at h;cases h)];exact h))
 .exact .inl (.inr ⟨u,by rw [ak (λz=>by rw [z,hD] at h;cases h)];exact h⟩)
 exact .inr h
def yj {K:bp}{H:Hp}{R D:Addr}{rs:List Addr}{es:List (Str×Nat)}{σ:St}{x1 x2:Str}{Qp:Hp->Prop}(hR:aG K H R (rs.map V.ref))(cy:Paired (λt (e:Str×Nat)=>a_ K H t [.str e.1,.int (e.2:Int)]) rs es)(bu:es.length<=1000)(hD:H D=none)
  (q:∀ts H2,aC H H2->H2 D=some (.lst (ts.map V.ref))->Paired (λt h=>a_ K H2 t [.str h,.bl true]) ts (es.map (·.1))->Qp H2) :
  ∃W:Nat->Nat->List V->St->Hp->Prop,(∃m,W 0 m [] (eh [x1,x2] [] σ) (upd H D (.lst []))) /\
 ∀i m ys σ' H,W i m ys σ' H->((iU K R).stop i H/\Qp H)\/((iU K R).go i H/\∃m',m' < m/\∀x H',(iU K R).lR i H x H'->Ap K 2 (jE (dB 0) (jE (dB 1) CU)) x σ' H' λσ2 H2=>gI σ2 H2 λb H3 =>
  if b=true then rf (gp (fS 0) (gp (tC (.bl true)) p_)) σ2 H3 λy H4=>H4 D=some (.lst ys)/\ys.length < sizeLine/\W (i+1) m' (ys++[y]) σ2 (upd H4 D (.lst (ys++[y]))) else W (i+1) m' ys σ2 H3):=by
 have ll:=bc cy;refine bS (xs:=rs.map V.ref) (λi ys σ2 H2=>∃ts:List Addr,ys=ts.map V.ref/\ts.length=i/\Paired (λt h=>a_ K H2 t [.str h,.bl true]) ts ((es.take i).map (·.1))/\(∃y0 y1,σ2=[y0,y1])/\aC H H2/\H2 D=some (.lst ys))
  ⟨[],rfl,rfl,.nil,⟨none,none,rfl⟩,af hD _,ae⟩ (λi ys σ2 H2 _ h=>?_) (λi x ys σ2 H2 ex h=>?_) (λys σ2 H2 h=>?_)
 .obtain⟨_,_,_,_,_,sm,_⟩:=h;exact sm.seq hR
 .obtain⟨ts,rfl,ht,hp,⟨y0,y1,rfl⟩,sm,hd⟩:=h;rw [a9] at ex;obtain⟨r,er,rfl⟩:=b_.mp ex;have lr:=(bf.mp er).1;obtain⟨ru,e1⟩:∃ru,es[i]?=some ru:=⟨es[i]'∅,dI ∅⟩;obtain⟨r',QU,v1⟩:=Paired.at_ cy i ru e1;rw [er] at QU;cases QU;have li:=(bf.mp e1).1;refine⟨r,_,rfl,sm.tup v1,rfl,_,_,rfl,_,_,rfl,rfl,?_⟩;refine uH ?_;refine⟨_,rfl,qW,λt ji=>⟨?_,bD (by rw [au];omega),ts++[t],?_,?_,?_,⟨_,_,rfl⟩,?_,ae⟩⟩
  .rw [ak (aB hd ji)];exact hd
  .rw [bA];rfl
  .rw [bW,ht];rfl
  .rw [cK,e1,bA];have jf:upd H2 t (.tup [.str ru.1,.bl true]) D=some (.lst (ts.map V.ref)):=by rw [ak (aB hd ji)];exact hd
   exact gF (Paired.dH hp λt' h' z=>bj jf ((af ji _).tup z)) (bj jf (a_.of ae))
  intro b o hb;rw [ak (λz=>by rw [z,hD] at hb;cases hb)];exact af ji _ _ _ (sm b o hb)
 obtain⟨ts,rfl,ht,hp,_,sm,hd⟩:=h;rw [au,ll,cv] at hp;exact q ts H2 sm hd hp
end L2
namespace M11
open PySem L2
def tM.sub {aa:List aw}{names:List Str}{b:Str->Bool}{bK:List Be}(h:tM aa names b bK):∀q∈bU bK,q.1∈aa.map (·.1)/\q.2∈aa.flatMap (·.2):=by
 induction h with
 | nil=>intro q hq;cases hq
 | @snoc bK k j ru z wd hb er ez _ hw _ ih =>
  intro q hq;unfold bU at hq;rw [bA] at hq;rcases cg.mp hq with hq | hq
  .exact ih q hq
  rw [oO,bH] at hq;rw [hq];have hm:=b9 er;refine⟨iq hm,?_⟩;unfold oP at hw
  split at hw
  .exact(ih (z,wd) (wH.mp hw)).2
  rw [bH.mp hw];exact qB.mpr ⟨ru,hm,b9 ez⟩
def tM.nd {aa:List aw}{names:List Str}{b:Str->Bool}{bK:List Be}(h:tM aa names b bK):(bU bK).Nodup:=by
 induction h with
 | nil=>exact iZ
 | @snoc bK k j ru z wd hb er ez _ hw hn ih =>
  unfold bU;rw [bA];refine jm.mpr ⟨ih,by simp,λx hx y hy e=>?_⟩;rw [oO,bH] at hy;rw [e,hy] at hx;exact hn hx
theorem xC (m:List Str):∀l:List Str,(l.flatMap λn=>m.map λwd=>(n,wd)).length=l.length * m.length
 | []=>by simp
 | n::l=>by
  rw [List.flatMap_cons,bW,xC m l,au,fc,Nat.add_mul];omega
def tM.len {aa:List aw}{names:List Str}{b:Str->Bool}{bK:List Be}(h:tM aa names b bK)(hl:aa.length<=100)(h8:∀ru∈aa,ru.2.length<=8):bK.length<=80000:=by
 have h1:=gK (bU bK) ((aa.map (·.1)).flatMap λn=>(aa.flatMap (·.2)).map λwd=>(n,wd)) h.nd λq hq=>by
  obtain⟨a,c⟩:=h.sub q hq;exact qB.mpr ⟨q.1,a,cx.mpr ⟨q.2,c,rfl⟩⟩
 rw [xC] at h1;have h2:=gY.jF aa 100 hl h8;unfold bU at h1;rw [au,au] at h1;have h3:aa.length * (aa.flatMap (·.2)).length<=100 * 800:=Nat.mul_le_mul hl h2;omega
def Dx (aa:List aw) (names:List Str)(b:Str->Bool) (n:Nat)(bK:List Be):Prop:=∀k ru,k < n->aa[k]?=some ru->∀j z,j < CW b ru.2->ru.2[j]?=some z->∀wd∈oP names bK z,(ru.1,wd)∈bU bK
end M11
namespace gY
open PySem L2 M11
section
def Bc (K:bp)(C:Addr):Sp:=λvs H Q _=>∃(H0:Hp)(a dx R:Addr)(rs:List Addr)(aa:List aw),vs=[.ref a,.ref R]/\aC H0 H/\H0 a=none/\H a=some (.ins C dx [])/\aG K H0 R (rs.map V.ref)/\bQ K H0 rs aa/\aa.length<=100/\(∀ru∈aa,ru.2.length<=8) /\
 ∀(e d bg:Addr)(kE:List (aT×V))(aY:List (Str×Nat))(ps:List (Str×Addr))(bK:List Be)(H':Hp),qi K C H0 H' a e d bg kE aY ps bK->ps.map (·.1)=hd aa->tL aa aY->tE aa aa.length aY->(∀z,(bh kE (Sum.inr z)).isSome=decide (z∈aY.map (·.1))) ->
  tM aa (hd aa) (λz=>decide (z∈aY.map (·.1))) bK->Dx aa (hd aa) (λz=>decide (z∈aY.map (·.1))) aa.length bK->Q .eZ H'
def nO:aK ["self","rules","number","many","rule"] ["self","rules"] (ay zz):=iz rfl rfl rfl rfl nofun
def Fy {C fF:Addr}{Zz:FuncData}(F:hV K "__init__" "BeginTable.__init__" zz f fd)(T:Txt mg)(B:BC K C)(GE:aF P w K mg base 1 "found_empties" ["rules"] (oT K))(GH:aF P w K mg base 1 "heads_of" ["rules"] (i5 K))
  (FF:bV P w K mg base fK 2 fF Zz ["self","number","rule"] (Es K C))(MF:Meth K C "find_begins" fF)(BF:Binds K Zz ["self","number","rule"] []):bV P w K mg base fK 3 f fd ["self","rules"] (Bc K C):=by
 refine F.ok nO (λvs H Q E h=>?_) (λeX A outer s H vs Q E hr h=>?_)
 .obtain⟨H0,a,dx,R,rs,aa,rfl,_⟩:=h;rfl
 obtain⟨H0,a,dx,R,rs,aa,rfl,s0,f0,ea,hR,cy,bu,h8,q⟩:=h;refine⟨_,ag (gT (pv 0) (bq (GE.mono (by decide:1<=2)) hr rfl (ab (pv 1) ai)) rfl)
  (ag (gT (pv 0) (aX (cV rfl) rfl T.wO dS (ab (aV ["name","number"] [] rfl (aR (eI (pv 0) rfl)) (aP rfl rfl) nofun rfl nofun
   (λ_ _ _ _ _=>d_ (n:=2) K rfl (av (aq (i:=0) (show (["name","number"]:List Str).Nodup by decide +kernel) rfl (aZ rfl)) (av (aq (i:=1) (show (["name","number"]:List Str).Nodup by decide +kernel) rfl (aZ rfl)) bo))) (λ_ _ _ _ _=>a0)
   (λ_ _ _ _ _=>bC (ab (pv 0) (ab cI ai)))) ai)) rfl)
  (ag (gT (pv 0) (bL ai) rfl)
  (ag (gT (pv 0) (aX (cV rfl) rfl T.wO dS (ab (aV ["name"] [] rfl (aR (bq (GH.mono (by decide:1<=2)) hr rfl (ab (pv 1) ai))) (aP rfl rfl) nofun rfl nofun
   (λ_ _ _ _ _=>aq (i:=0) (show (["name"]:List Str).Nodup by decide +kernel) rfl (aZ rfl)) (λ_ _ _ _ _=>a0)
   (λ_ _ _ _ _=>bC (ab (pv 0) (ab fk ai)))) ai)) rfl)
  (ag (aA (i:=3) nO.nd rfl (aZ rfl) (Bo vy ar))
  (ao (kT bX (aQ kW (pv 3) (aE aS rfl T.len dZ (ab (eI (pv 0) rfl) ai)) (bx _))
   (ag (aA (i:=3) nO.nd rfl (aZ rfl) (aE aS rfl T.len dZ (ab (eI (pv 0) rfl) ai)))
   (ao (bE bX rfl (jR rfl T.DG (ab (pv 1) ai)) (dD rfl (av (aq (i:=2) nO.nd rfl (aZ rfl)) (av (aq (i:=4) nO.nd rfl (aZ rfl)) bo)))
    (ao (du (Bp (pv 0) B.cls MF FF hr BF .nil uu (ab (pv 2) (ab (pv 4) ai)))))))))))))),?_⟩
 nofun
 have ll:=bc cy;refine⟨_,rfl,R,rs,aa,rfl,s0.seq hR,cy.same s0,∅,h8,λD1 B_ aY H1 f1 s1 e1 w1 emp oh=>?_⟩;have Wr:=s1 _ _ ea;refine⟨_,rfl,a,C,dx,[],rfl,Wr,B.cls,B.a1,(by show 0 < 1000;decide),?_⟩;have e2:upd H1 a (.ins C dx (eV "empties" (.ref D1) [])) D1=some (.lst (B_.map V.ref)):=by rw [ak (λz=>by rw [z,Wr] at e1;cases e1)];exact e1
 have w2:lX K (upd H1 a (.ins C dx (eV "empties" (.ref D1) []))) B_ aY:=w1.keep λ_ _ z=>gQ Wr z;have ER:aC H0 (upd H1 a (.ins C dx (eV "empties" (.ref D1) []))):=λc o hc=>by rw [ak (λz=>by rw [z,f0] at hc;cases hc)];exact s1 _ _ (s0 c o hc)
 have Q3:upd H1 a (.ins C dx (eV "empties" (.ref D1) [])) a=some (.ins C dx (eV "empties" (.ref D1) [])):=ae;generalize upd H1 a (.ins C dx (eV "empties" (.ref D1) []))=H2 at e2 w2 ER Q3;have lets:=emp.len;refine⟨_,rfl,a,C,dx,_,_,rfl,Q3,B.cls,B.a1,rfl,D1,rfl,⟨_,aG.of e2⟩,λD2 jD=>yj (aG.of e2) w2 ∅ jD λxm H3 s3 e3 p3=>?_⟩;have kp:Paired (λt (kv:aT×V)=>a_ K H3 t [kV kv.1,kv.2]) xm ((aY.map (·.1)).map λh=>((Sum.inr h:aT),V.bl true)):=cZ p3 λ_ _ z=>z;refine⟨D2,xm,_,rfl,e3,kp,λe he=>?_⟩;have CF:∀z,(bh (cM ((aY.map (·.1)).map λh=>((Sum.inr h:aT),V.bl true)) []) (Sum.inr z)).isSome=decide (z∈aY.map (·.1)):=λz=>by
  rw [q0];by_cases c:z∈aY.map (·.1)
  .rw [ax c,cf c];rfl
  rw [az c,d0 c];rfl
 generalize cM ((aY.map (·.1)).map λh=>((Sum.inr h:aT),V.bl true)) []=kE at CF;have xy:=(ER.trans s3).trans (af he (.dK kE));have M_:=af he (.dK kE) _ _ (s3 _ _ Q3);have SG:upd H3 e (.dK kE) e=some (.dK kE):=ae;have Lu:aC H2 (upd H3 e (.dK kE)):=s3.trans (af he (.dK kE));generalize upd H3 e (.dK kE)=H4 at xy M_ SG Lu;have WM:=Lu _ _ e2;have wE4:lX K H4 B_ aY:=w2.keep λ_ _ z=>Lu.tup z;refine⟨_,rfl,a,C,dx,_,rfl,M_,B.cls,B.a2,(by show 1 < 1000;decide),?_⟩;generalize VH:eV "empty" (.ref e) (eV "empties" (.ref D1) [])=Kt;have QZ:upd H4 a (.ins C dx Kt) e=some (.dK kE):=by rw [ak (λz=>by rw [z,M_] at SG;cases SG)];exact SG
 have Bh:aC H0 (upd H4 a (.ins C dx Kt)):=λc o hc=>by rw [ak (λz=>by rw [z,f0] at hc;cases hc)];exact xy c o hc
 have Z2:upd H4 a (.ins C dx Kt) a=some (.ins C dx Kt):=ae;have WL:upd H4 a (.ins C dx Kt) D1=some (.lst (B_.map V.ref)):=by rw [ak (λz=>by rw [z,M_] at WM;cases WM)];exact WM
 have XJ:lX K (upd H4 a (.ins C dx Kt)) B_ aY:=wE4.keep λ_ _ z=>gQ M_ z;generalize upd H4 a (.ins C dx Kt)=H5 at QZ Bh Z2 WL XJ;refine⟨yB,λbg ME=>?_⟩;have fbg:H0 bg=none:=Bh.free ME;have SH:upd H5 bg (.lst []) bg=some (.lst []):=ae;have J0:=Bh.trans (af ME (.lst []));have M7:=af ME (.lst []) _ _ QZ;have N9:=af ME (.lst []) _ _ Z2;have UE:D1≠bg:=aB WL ME;have SQ:=af ME (.lst []) _ _ WL;have XI:lX K (upd H5 bg (.lst [])) B_ aY:=XJ.keep λ_ _ z=>(af ME (.lst [])).tup z;generalize upd H5 bg (.lst [])=H6 at SH J0 M7 N9 SQ XI;refine⟨_,rfl,a,C,dx,_,rfl,N9,B.cls,B.a3,(by rw [<-VH];show 2 < 1000;decide),?_⟩;generalize Zk:eV "begins" (.ref bg) Kt=Jt;have M6:upd H6 a (.ins C dx Jt) e=some (.dK kE):=by rw [ak (λz=>by rw [z,N9] at M7;cases M7)];exact M7
 have Z0:upd H6 a (.ins C dx Jt) bg=some (.lst []):=by rw [ak (λz=>by rw [z,N9] at SH;cases SH)];exact SH
 have Lw:aC H0 (upd H6 a (.ins C dx Jt)):=λc o hc=>by rw [ak (λz=>by rw [z,f0] at hc;cases hc)];exact J0 c o hc
 have Z1:upd H6 a (.ins C dx Jt) a=some (.ins C dx Jt):=ae;have dE7:upd H6 a (.ins C dx Jt) D1=some (.lst (B_.map V.ref)):=by rw [ak (λz=>by rw [z,N9] at SQ;cases SQ)];exact SQ
 have XH:lX K (upd H6 a (.ins C dx Jt)) B_ aY:=XI.keep λ_ _ z=>gQ N9 z;generalize upd H6 a (.ins C dx Jt)=H7 at M6 Z0 Lw Z1 dE7 XH;refine⟨_,rfl,R,rs,aa,rfl,Lw.seq hR,cy.same Lw,∅,λD4 H8 f8 s8 e8=>?_⟩;have Md:=hU (aa.map (·.1)) [];simp only [jl,au] at Md;refine⟨D4,rfl,⟨_,aG.of e8⟩,λD5 N4=>pU (aG.of e8) ∅ N4 λts ps H9 s9 e9 m9 p9 l9 n9=>?_⟩;have n1:(ps.map (·.1)).Nodup:=by rw [m9];exact pz _ iZ
 have FT:Paired (λt (kv:aT×V)=>a_ K H9 t [kV kv.1,kv.2]) ts (ps.map ij):=cZ p9 λ_ _ z=>z;refine⟨D5,ts,_,rfl,e9,FT,λd pd=>?_⟩;have QX:cM (ps.map ij) []=ps.map ij:=i_ _ [] (by
  rw [pG,iC];exact rR n1)
 rw [QX];have EN:=s8.trans s9;have sd:=af pd (.dK (ps.map ij));have zB:=EN.trans sd;have qf:upd H9 d (.dK (ps.map ij)) d=some (.dK (ps.map ij)):=ae;have Mc:∀p∈ps,upd H9 d (.dK (ps.map ij)) p.2=some (.dK [])/\p.2≠d:=λp hp=>⟨sd _ _ (l9 p hp).1,λz=>by have:=(l9 p hp).1;rw [z,pd] at this;cases this⟩;generalize upd H9 d (.dK (ps.map ij))=AL at zB qf Mc;have Ax:=zB _ _ Z1;have wL:=zB _ _ M6;have M9:=zB _ _ Z0;have Ua:=Lw.trans zB;have Nd:=zB _ _ dE7;have Tr:lX K AL B_ aY:=XH.keep λ_ _ z=>zB.tup z;refine⟨_,rfl,a,C,dx,_,rfl,Ax,B.cls,B.a4,(by rw [<-Zk,<-VH];show 3 < 1000;decide),?_⟩;have fp:∀p∈ps,H0 p.2=none/\p.2≠e:=λp hp=>by
  have Zt:H8 p.2=none:=(l9 p hp).2.1;refine⟨(Lw.trans s8).free Zt,λz=>?_⟩;have:=s8 _ _ M6;rw [<-z,Zt] at this;cases this
 have hfs:∃fs,eV "firsts" (.ref d) Jt=fs/\fs.lookup ("empty":Str)=some (.ref e)/\fs.lookup ("begins":Str)=some (.ref bg)/\fs.lookup ("firsts":Str)=some (.ref d)/\fs.lookup ("find_begins":Str)=none/\(fs.lookup ("words_of_part":Str)=none/\fs.lookup ("first_words":Str)=none/\fs.lookup ("all_empty":Str)=none/\fs.lookup ("words_of_parts":Str)=none)/\fs.lookup ("empties":Str)=some (.ref D1):=by
  refine⟨_,rfl,?_⟩;rw [<-Zk,<-VH];refine⟨?_,?_,?_,?_,⟨?_,?_,?_,?_⟩,?_⟩ <;> rfl
 obtain⟨fs,efs,k1,k2,k3,k4,k5,k6⟩:=hfs;rw [efs];have DQ:qi K C H0 (upd AL a (.ins C dx fs)) a e d bg kE aY ps []:=by
  refine⟨λc o hc=>by rw [ak (λz=>by rw [z,f0] at hc;cases hc)];exact Ua c o hc,⟨dx,fs,ae,k1,k2,k3,k4,k5⟩,?_,?_,n1,n9,λp hp=>⟨⟨[],?_,rfl⟩,(fp p hp).1,(fp p hp).2,(Mc p hp).2⟩,⟨[],?_,.nil⟩,fbg,⟨D1,B_,⟨dx,fs,ae,k6⟩,by rw [ak (λz=>by rw [z,Ax] at Nd;cases Nd)];exact Nd,Tr.keep λ_ _ z=>gQ Ax z,UE⟩⟩
  .rw [ak (λz=>by rw [z,Ax] at wL;cases wL)];exact wL
  .rw [ak (λz=>by rw [z,Ax] at qf;cases qf)];exact qf
  .have:=(Mc p hp).1;rw [ak (λz=>by rw [z,Ax] at this;cases this)];exact this
  rw [ak (λz=>by rw [z,Ax] at M9;cases M9)];exact M9
 generalize upd AL a (.ins C dx fs)=Dr at DQ;have eb:(λz=>(bh kE (Sum.inr z)).isSome)=λz=>decide (z∈aY.map (·.1)):=funext CF;refine⟨1,rfl,?_⟩;refine⟨λmm σ yx=>∃(bK:List Be) (many:Int)(y2 y4:Option V),σ=[aD a,aD R,y2,some (.int many),y4]/\qi K C H0 yx a e d bg kE aY ps bK/\tM aa (hd aa) (λz=>decide (z∈aY.map (·.1))) bK/\-1<=many/\many<=bK.length /\
  (many=bK.length->Dx aa (hd aa) (λz=>decide (z∈aY.map (·.1))) aa.length bK)/\(mm:Int)=80001 - many,⟨80002,[],-1,none,none,rfl,DQ,.nil,∅,by simp,by simp,∅⟩,?_⟩
 rintro mm σ yx ⟨bK,many,y2,y4,rfl,HW,Nk,b1,b2,cl,em⟩;obtain⟨Q6,tJ,q1,q2,q3,q4,q5,q6⟩:=HW.ia;obtain⟨tb,Su,Jn⟩:=HW.lb;have lb:=bc Jn;have Mh:=Nk.len bu h8;refine⟨_,rfl,_,rfl,a,C,Q6,tJ,_,rfl,q1,B.cls,B.a3,q3,bg,_,rfl,.inl (aG.of Su),_,_,rfl,rfl,_,rfl,?_⟩;refine bJ (λc=>?_) (λc=>?_)
 .have c':=cw c;rw [au,lb] at c';refine⟨λσ B2=>∃(e_:List Be)(y2 y4:Option V),σ=[aD a,aD R,y2,some (.int (bK.length:Int)),y4]/\qi K C H0 B2 a e d bg kE aY ps e_/\tM aa (hd aa) (λz=>decide (z∈aY.map (·.1))) e_/\bK.length<=e_.length /\
   (e_.length=bK.length->e_=bK/\Dx aa (hd aa) (λz=>decide (z∈aY.map (·.1))) aa.length bK),?_,?_⟩
  .rintro σ B2 ⟨e_,y2,y4,rfl,Hd,Dg,UU,GX⟩;have:=Dg.len bu h8;refine⟨(80001 - bK.length:Int).toNat,∅,e_,_,_,_,rfl,Hd,Dg,∅,∅,λz=>?_,∅⟩;obtain⟨Jx,C6⟩:=GX ∅;rw [Jx];exact C6
  refine⟨_,rfl,a,C,Q6,tJ,_,rfl,q1,B.cls,B.a3,q3,bg,_,rfl,.inl (aG.of Su),?_⟩;rw [au,lb];refine⟨_,rfl,R,_,rfl,HW.sm.seq hR,?_⟩;refine iQ (xs:=rs.map V.ref) (λi σ B2=>∃(e_:List Be)(y2 y4:Option V),σ=[aD a,aD R,y2,some (.int (bK.length:Int)),y4]/\qi K C H0 B2 a e d bg kE aY ps e_/\tM aa (hd aa) (λz=>decide (z∈aY.map (·.1))) e_/\bK.length<=e_.length /\
   (e_.length=bK.length->e_=bK/\Dx aa (hd aa) (λz=>decide (z∈aY.map (·.1))) i bK)) ⟨bK,_,_,rfl,HW,Nk,aU _,λ_=>⟨rfl,λk ru hk=>by omega⟩⟩ ?_ ?_ ?_
  .rintro i σ B2 _ ⟨e_,y2,y4,rfl,Hd,_⟩;exact Hd.sm.seq hR
  .rintro i x σ B2 t ex ⟨e_,y2,y4,rfl,Hd,Dg,UU,GX⟩ ht
   ac_nf0
   rw [a9] at ex;obtain⟨r,er,rfl⟩:=b_.mp ex;obtain⟨ru,sH,rv⟩:=cy.get er;have o9:=b9 sH;have Ro:=Hd.same (af ht (.tup [.int (i:Int),.ref r]));have P9:a_ K (upd B2 t (.tup [.int (i:Int),.ref r])) t [.int (i:Int),.ref r]:=a_.of ae;generalize upd B2 t (.tup [.int (i:Int),.ref r])=H14 at Ro P9;obtain⟨dx4,N5,r1,r2,r3,r4,r5,r6⟩:=Ro.ia;refine⟨t,_,rfl,P9,rfl,_,_,rfl,_,_,rfl,rfl,?_⟩;refine⟨_,rfl,a,dx4,N5,rfl,r1,r5,_,rfl,_,rfl,H0,a,e,d,bg,r,kE,aY,ps,e_,i,ru,aa,rfl,Ro,rv,sH,h8 ru o9,by rw [m9];exact(hJ _ _ _).mpr (.inr (iq o9)),?_,?_,?_⟩
   .intro wR HH;have:=HH.len bu h8;omega
   .rw [m9,eb];exact Dg
   rw [m9,eb];intro W4 H15 Xu WZ l15 WU;refine⟨W4,_,_,rfl,Xu,WZ,∅,λNZ=>?_⟩;obtain⟨x1,x2⟩:=GX ∅;obtain⟨x3,x4⟩:=WU ∅;refine⟨x3.trans x1,λk Bj hk Wa j z hj ez wd hw=>?_⟩;by_cases ck:k < i
   .exact x2 k Bj ck Wa j z hj ez wd hw
   have:k=i:=by omega
   subst this;rw [sH] at Wa;cases Wa;rw [<-x1] at hw ⊢;exact x4 j z hj ez wd hw
  rintro σ B2 ⟨e_,y2,y4,rfl,Hd,Dg,UU,GX⟩;rw [au,ll] at GX;exact⟨e_,_,_,rfl,Hd,Dg,UU,GX⟩
 have c':=of_decide_eq_false (oN.mpr c);rw [au,lb] at c';exact q e d bg kE aY ps bK yx HW m9 emp oh CF Nk (cl ∅)
end
end gY
namespace L2
open PySem PySem.W
section
variable {X:Cx}{aj:List (Addr×Obj)}{σ:St}{H:Hp}{s:Shared}{a:Addr}{kvs:List (aT×V)}{k:aT}{u:Value}{A:Around}{E:Value->Shared->Prop}
def Nb {z:V}{r:Value}{Q:Value->Shared->Prop}(I:Inv X aj σ H s)(e:H a=some (.dK kvs))(hl:kvs.length < sizeLine)(ry:RelV (kV k) u)(rz:RelV z r)
  (h1:∀v w' s',bh kvs k=some v->Inv X aj σ H s'->RelV v w'->Q w' s')(h2:bh kvs k=none->∀s',Inv X aj σ (upd H a (.dK (bM kvs k z))) s'->Q r s') :
  wpAny (model X.prog X.w) A (call (.builtin "dict.setdefault") [.ref a,u,r]) Q E s:=by
 obtain⟨zl,hd,vs,rel,dd⟩:=yd I.cC e;refine call_meetsIn PySem.F.slot_dict_setdefault dd.typeIs PySem.F.entry_dict_setdefault (PySem.F.args_dict_setdefault_3 _ _ _) (kt_meets_setdefault (bB X.prog X.w) a (mf ry) hd r)
  ⟨vs,dd,by rw [<-rel.length];exact zl,λv hv=>?_,λhn h' HU hs=>?_⟩
 .have rv:=rel.val k;rw [hv] at rv;cases e2:bh kvs k with
  | none=>rw [e2] at rv;cases rv
  | some x=>rw [e2] at rv;exact h1 x v _ e2 (I.tok _) rv
 have F_:bh kvs k=none:=by
  have rv:=rel.val k;rw [hn] at rv;cases e2:bh kvs k with
  | none=>rfl
  | some x=>rw [e2] at rv;cases rv
 have he:∃q,h'.get? a=some q:=let ⟨q,_,_,hq,_⟩:=HU;⟨q,hq⟩;exact h2 F_ _ (qA I (by rw [e];exact True.intro) hs he (sM (by have:=fQ kvs k z;omega) hd (rel.put k rz) HU))
end
section
variable {X:Cx}{o e f:Expr}{apos ie:Pos}{td ty tx:TE}
def K_ (td ty tx:TE):TE:=λσ H Q=>td σ H λx H1=>∃a,x=.ref a/\S_ H1 a/\ty σ H1 λy H2=>tx σ H2 λz H3=>∃kvs k,H3 a=some (.dK kvs)/\y=kV k/\kvs.length < sizeLine /\
 (∀v,bh kvs k=some v->Q v H3)/\(bh kvs k=none->Q z (upd H3 a (.dK (bM kvs k z))))
def Fb (ho:PE X o td)(he:PE X e ty)(hf:PE X f tx)(m:M2 X o "setdefault" apos e f ie):PE X (.Call (.Attribute o "setdefault" apos) [e,f] [] ie) (K_ td ty tx):=by
 intro aj s σ H Q I h;refine wpAny_Call_method m.base m.uL m.line yR PySem.F.slot_dict_setdefault PySem.F.type_dict_setdefault (dC (ho aj s σ H _ I h) λu s1 bN=>?_);obtain⟨x,H1,I1,rx,a,ex,d,q1⟩:=bN;subst ex;obtain rfl:u=Value.ref a:=rx;obtain⟨t1,t2,_⟩:=Af I1 d;refine⟨t1,t2,?_⟩;rw [m.trees];refine vf rfl (u_ (oK (dC (he aj s1 σ H1 _ I1 q1) λiv s2 ⟨y,H2,I2,ry,q2⟩ =>
  oK (dC (hf aj s2 σ H2 _ I2 q2) λfv s3 ⟨z,H3,I3,rz,kvs,k,ea,ey,hl,q3,q4⟩=>Calls.spliced_nil ?_))))
 subst ey;exact Nb I3 ea hl ry rz (λv w' s4 l I4 zD=>⟨v,_,I4,zD,q3 v l⟩) λl s4 I4=>⟨z,_,I4,rz,q4 l⟩
end
end L2
namespace gY
open PySem L2 M11
section
def Pc {ps:List (Str×Addr)}(n1:(ps.map (·.1)).Nodup)(n2:(ps.map (·.2)).Nodup){p p':Str×Addr}(hp:p∈ps)(o8:p'∈ps)(z:p'≠p):p'.1≠p.1/\p'.2≠p.2:=by
 refine⟨λq=>z ?_,λq=>z ?_⟩
 .have w1:=fw ps n1 p' o8;have w2:=fw ps n1 p hp;rw [q,w2] at w1;injection w1 with w3;injection w3 with w4;exact jI q w4.symm
 obtain⟨i,hi,ei⟩:=qG.mp o8;obtain⟨j,hj,ej⟩:=qG.mp hp;have Jl:i=j:=by
  refine(u5 (xs:=ps.map (·.2)) (h₀:=by simpa using hi) (h₁:=by simpa using hj) n2).mp ?_;rw [oJ,oJ,ei,ej];exact q
 subst Jl;exact ei.symm.trans ej
structure HY (ps:List (Str×Addr))(st:Str->List Int)(H:Hp)(d:Addr):Prop where
 hd:H d=some (.dK (ps.map ij))
 n1:(ps.map (·.1)).Nodup
 n2:(ps.map (·.2)).Nodup
 lst:∀p∈ps,H p.2=some (.lst ((st p.1).map V.int))
def HY.same {ps:List (Str×Addr)}{st:Str->List Int}{H H':Hp}{d:Addr}(h:HY ps st H d)(s:aC H H'):HY ps st H' d:=⟨s _ _ h.hd,h.n1,h.n2,λp hp=>s _ _ (h.lst p hp)⟩
noncomputable def BU (st:Str->List Int)(n:Str) (k:Int):Str->List Int:=λz=>if z=n then st z++[k] else st z
def HY.more {ps:List (Str×Addr)}{st:Str->List Int}{H:Hp}{d:Addr}(h:HY ps st H d){p:Str×Addr}(hp:p∈ps) (k:Int):HY ps (BU st p.1 k) (upd H p.2 (.lst ((st p.1).map V.int++[.int k]))) d:=by
 have a:=h.lst p hp;have nd:d≠p.2:=λz=>by have:=h.hd;rw [z,a] at this;cases this
 refine⟨by rw [ak nd];exact h.hd,h.n1,h.n2,λp' o8=>?_⟩;by_cases z:p'=p
 .rw [z,ae];have e1:BU st p.1 k p.1=st p.1++[k]:=ax rfl;rw [e1,bA];rfl
 obtain⟨a1,a2⟩:=Pc h.n1 h.n2 hp o8 z;have e1:BU st p.1 k p'.1=st p'.1:=az a1;rw [ak a2,e1];exact h.lst p' o8
def Ek (K:bp):Sp:=λvs H Q _=>∃(R:Addr)(rs:List Addr)(aa:List aw),vs=[.ref R]/\aG K H R (rs.map V.ref)/\bQ K H rs aa/\aa.length<=1000 /\
 ∀(d:Addr)(ps:List (Str×Addr))(H':Hp),H d=none->aC H H'->HY ps (λn=>nums aa n aa.length) H' d->ps.map (·.1)=hd aa->(∀p∈ps,H p.2=none)->Q (.ref d) H'
def vM:aK ["rules","numbers","number","rule"] ["rules"] (ay EE):=iz rfl rfl rfl rfl nofun
def IQ (F:hV K "numbers_by_name" "numbers_by_name" EE f fd)(T:Txt mg)(GH:aF P w K mg base 1 "heads_of" ["rules"] (i5 K)):bV P w K mg base fK 2 f fd ["rules"] (Ek K):=by
 refine F.ok vM (λvs H Q E h=>?_) (λeX A outer s H vs Q E hr h=>?_)
 .obtain⟨R,rs,aa,rfl,_⟩:=h;rfl
 obtain⟨R,rs,aa,rfl,hR,cy,bu,q⟩:=h;have hu:=fu hr;refine⟨_,ag (aA (i:=1) vM.nd rfl (aZ rfl) (aX (cV rfl) rfl T.wO dS (ab
   (aV ["name"] [] rfl (aR (bq GH hr rfl (ab (pv 0) ai))) (aP rfl rfl) nofun rfl nofun
    (λ_ _ _ _ _=>aq (i:=0) (show (["name"]:List Str).Nodup by decide +kernel) rfl (aZ rfl)) (λ_ _ _ _ _=>a0)
    (λ_ _ _ _ _=>bC (ab (pv 0) (ab (bL ai) ai)))) ai)))
  (ag (bE bX rfl (jR rfl T.DG (ab (pv 0) ai)) (dD rfl (av (aq (i:=2) vM.nd rfl (aZ rfl)) (av (aq (i:=3) vM.nd rfl (aZ rfl)) bo)))
   (ao (du (ix ir iu iw cA (eP hu (pv 1) (a7 bI (pv 3) ar (λ_ _=>rfl)) (λ_ _=>rfl)) (ab (pv 2) ai)))))
  (ao (aL (pv 1)))),?_⟩
 nofun
 have ll:=bc cy;refine⟨_,rfl,R,rs,aa,rfl,hR,cy,bu,λD2 H3 f3 s3 e3=>?_⟩;have Md:=hU (aa.map (·.1)) [];simp only [jl,au] at Md;refine⟨D2,rfl,⟨_,aG.of e3⟩,λD3 Jr=>sS (aG.of e3) ∅ Jr λts ps H4 s4 e4 m4 p4 l4 n4=>?_⟩;have n1:(ps.map (·.1)).Nodup:=by rw [m4];exact pz _ iZ
 have FT:Paired (λt (kv:aT×V)=>a_ K H4 t [kV kv.1,kv.2]) ts (ps.map ij):=cZ p4 λ_ _ z=>z;refine⟨D3,ts,_,rfl,e4,FT,λd pd=>?_⟩;have QX:cM (ps.map ij) []=ps.map ij:=i_ _ [] (by
  rw [pG,iC];exact rR n1)
 rw [QX];have s5:=(s3.trans s4).trans (af pd (.dK (ps.map ij)));have xx:=af pd (.dK (ps.map ij));have uM:H d=none:=(s3.trans s4).free pd;have S5:HY ps (λn=>nums aa n 0) (upd H4 d (.dK (ps.map ij))) d:=⟨ae,n1,n4,λp hp=>xx _ _ (l4 p hp).1⟩;have HN:∀p∈ps,H p.2=none:=λp hp=>s3.free (l4 p hp).2.1;generalize upd H4 d (.dK (ps.map ij))=H5 at s5 S5;clear xx;refine⟨_,rfl,R,_,rfl,s5.seq hR,?_⟩
 let oo:lW:=λi σ H6=>∃(y2 y3:Option V),σ=[aD R,aD d,y2,y3]/\aC H H6/\HY ps (λn=>nums aa n i) H6 d
 refine iQ (xs:=rs.map V.ref) oo ⟨none,none,rfl,s5,S5⟩ ?_ ?_ ?_
 .rintro i σ H6 _ ⟨y2,y3,rfl,s6,_⟩;exact s6.seq hR
 .rintro i x σ H6 t ex ⟨y2,y3,rfl,s6,S6⟩ ht
  ac_nf0
  rw [a9] at ex;obtain⟨r,er,rfl⟩:=b_.mp ex;obtain⟨ru,sH,p,v1,v2⟩:=cy.get er;have o9:=b9 sH;have li:=(bf.mp sH).1;have pL:=af ht (.tup [.int (i:Int),.ref r]);have Ko:a_ K (upd H6 t (.tup [.int (i:Int),.ref r])) t [.int (i:Int),.ref r]:=a_.of ae;have s7:=s6.trans pL;have S7:=S6.same pL;generalize upd H6 t (.tup [.int (i:Int),.ref r])=H7 at Ko s7 S7;obtain⟨pn,xW,tK⟩:∃pn∈ps,pn.1=ru.1:=by
   have:ru.1∈ps.map (·.1):=by rw [m4];exact(hJ _ _ _).mpr (.inr (iq o9))
   obtain⟨pn,a,b⟩:=cx.mp this;exact⟨pn,a,b⟩
  have an:=S7.lst pn xW;have vn:=fw ps n1 pn xW;rw [tK] at vn;have hg:b0 H7 d (.str ru.1) (some (.ref pn.2)):=by
   have:=b0.k (k:=Sum.inr ru.1) S7.hd;rw [vn] at this;exact this
  have ln:=xJ aa pn.1 i;refine⟨t,_,rfl,Ko,rfl,_,_,rfl,_,_,rfl,rfl,?_⟩;refine⟨_,rfl,_,rfl,r,_,_,_,rfl,rfl,s7.tup v1,rfl,d,_,rfl,hg,.inl ⟨rfl,_,aG.of an⟩,_,rfl,pn.2,_,_,rfl,rfl,an,bD (by rw [au];omega),?_⟩;have S8:=S7.more xW (i:Int);refine⟨_,_,rfl,λb o hb=>by rw [ak (λz=>by rw [z,HN pn xW] at hb;cases hb)];exact s7 b o hb,S8.hd,S8.n1,S8.n2,λp' o8=>?_⟩;have:=S8.lst p' o8;rw [this]
  congr 3
  unfold BU;rw [CB];by_cases c:p'.1=pn.1
  .rw [ax c,ax];unfold NR;rw [sH,c,tK];simp
  rw [az c,az,il];unfold NR;rw [sH];intro z;have z2:=cw z;injection z2 with z3;exact c (by rw [tK];exact z3.symm)
 rintro σ H6 ⟨y2,y3,rfl,s6,S6⟩;rw [au,ll] at S6;exact⟨_,rfl,q d ps H6 uM s6 S6 m4 HN⟩
def JT (K:bp):Sp:=λvs H Q _=>∃(R:Addr)(rs:List Addr)(aa:List aw),vs=[.ref R]/\aG K H R (rs.map V.ref)/\bQ K H rs aa/\aa.length<=1000/\(∀ru∈aa,ru.2.length<=8) /\
 ∀(d:Addr)(H':Hp),H d=none->aC H H'->Q (.ref d) H'
structure DP (H0 H:Hp)(d:Addr)(kvs:List (aT×V)) (n:Nat):Prop where
 hd:H d=some (.dK kvs)
 ln:kvs.length<=n
 lst:∀kv∈kvs,∃a xs,kv.2=.ref a/\H a=some (.lst xs)/\H0 a=none/\xs.length<=n
def DP.same {H0 H H':Hp}{d:Addr}{kvs:List (aT×V)}{n:Nat}(h:DP H0 H d kvs n)(s:aC H H'):DP H0 H' d kvs n:=⟨s _ _ h.hd,h.ln,λkv hk=>let ⟨a,xs,e1,e2,e3,e4⟩:=h.lst kv hk;⟨a,xs,e1,s _ _ e2,e3,e4⟩⟩
def DP.more {H0 H:Hp}{d a:Addr}{kvs:List (aT×V)}{n:Nat}{xs:List V}{y:V}(h:DP H0 H d kvs (n+1))(ha:H a=some (.lst xs))(lx:xs.length<=n)(l2:∀kv∈kvs,∃a xs,kv.2=.ref a/\H a=some (.lst xs)/\H0 a=none/\xs.length<=n):DP H0 (upd H a (.lst (xs++[y]))) d kvs (n+1):=by
 have nd:d≠a:=λz=>by have:=h.hd;rw [z,ha] at this;cases this
 refine⟨by rw [ak nd];exact h.hd,h.ln,λkv hk=>?_⟩;obtain⟨b,ys,e1,e2,e3,e4⟩:=l2 kv hk;by_cases c:b=a
 .exact⟨b,xs++[y],e1,by rw [c,ae],e3,by rw [bW];simp;omega⟩
 exact⟨b,ys,e1,by rw [ak c];exact e2,e3,∅⟩
def K3 {kvs:List (aT×V)}{k:aT}{v:V}(h:bh kvs k=some v):∃kv∈kvs,kv.2=v:=by
 unfold bh at h;obtain⟨kv,e1,e2⟩:=b_.mp h;exact⟨kv,List.mem_of_find?_eq_some e1,e2⟩
def uk:aK ["rules","standings","number","rule","place","part"] ["rules"] (ay Lo):=iz rfl rfl rfl rfl nofun
def LU (F:hV K "standings_by_part" "standings_by_part" Lo f fd)(T:Txt mg):bV P w K mg base fK 1 f fd ["rules"] (JT K):=by
 refine F.ok uk (λvs H Q E h=>?_) (λeX A outer s H vs Q E hr h=>?_)
 .obtain⟨R,rs,aa,rfl,_⟩:=h;rfl
 obtain⟨R,rs,aa,rfl,hR,cy,bu,h8,q⟩:=h;have hu:=fu hr;refine⟨_,ag (aA (i:=1) uk.nd rfl (aZ rfl) fk)
  (ag (bE bX rfl (jR rfl T.DG (ab (pv 0) ai)) (dD rfl (av (aq (i:=2) uk.nd rfl (aZ rfl)) (av (aq (i:=3) uk.nd rfl (aZ rfl)) bo)))
   (ao (bE bX rfl (kU rfl T.DG (ab (a7 bI (pv 3) ar (λ_ _=>rfl)) ai)) (dD rfl (av (aq (i:=4) uk.nd rfl (aZ rfl)) (av (aq (i:=5) uk.nd rfl (aZ rfl)) bo)))
    (ao (du (ix ir iu iw cA (Fb (pv 1) (pv 5) (bL ai) ⟨rfl,rfl,rfl,rfl⟩) (ab (bC (ab (pv 2) (ab (pv 4) ai))) ai)))))))
  (ao (aL (pv 1)))),?_⟩
 nofun
 have ll:=bc cy;intro d pd;have s1:=af pd (.dK []);have S1:DP H (upd H d (.dK [])) d [] (8 * 0):=⟨ae,aU _,λkv hk=>by cases hk⟩;generalize upd H d (.dK [])=H1 at s1 S1;refine⟨_,rfl,R,_,rfl,s1.seq hR,?_⟩
 let wZ:lW:=λi σ H6=>∃(kvs:List (aT×V))(y2 y3 y4 y5:Option V),σ=[aD R,aD d,y2,y3,y4,y5]/\aC H H6/\DP H H6 d kvs (8 * i)
 refine iQ (xs:=rs.map V.ref) wZ ⟨[],none,none,none,none,rfl,s1,S1⟩ ?_ ?_ ?_
 .rintro i σ H6 _ ⟨kvs,y2,y3,y4,y5,rfl,s6,_⟩;exact s6.seq hR
 .rintro i x σ H6 t ex ⟨kvs,y2,y3,y4,y5,rfl,s6,S6⟩ ht
  ac_nf0
  rw [a9] at ex;obtain⟨r,er,rfl⟩:=b_.mp ex;obtain⟨ru,sH,p,v1,v2⟩:=cy.get er;have o9:=b9 sH;have HJ:=h8 ru o9;have li:=(bf.mp sH).1;have pL:=af ht (.tup [.int (i:Int),.ref r]);have Ko:a_ K (upd H6 t (.tup [.int (i:Int),.ref r])) t [.int (i:Int),.ref r]:=a_.of ae;have s7:=s6.trans pL;have S7:=S6.same pL;generalize upd H6 t (.tup [.int (i:Int),.ref r])=H7 at Ko s7 S7;refine⟨t,_,rfl,Ko,rfl,_,_,rfl,_,_,rfl,rfl,?_⟩;refine⟨_,rfl,r,_,_,_,rfl,rfl,s7.tup v1,rfl,p,_,rfl,s7.tup v2,?_⟩
  let Nv:lW:=λj σ H9=>∃(kvs:List (aT×V))(y4 y5:Option V),σ=[aD R,aD d,some (.int (i:Int)),aD r,y4,y5]/\aC H H9/\DP H H9 d kvs (8 * i+j)
  refine lH (xs:=ru.2.map V.str) Nv ⟨kvs,_,_,rfl,s7,S7⟩ ?_ ?_ ?_
  .rintro j σ H9 _ ⟨kvs,y4,y5,rfl,s9,_⟩;exact s9.tup v2
  .rintro j x σ H9 t2 lS ⟨kvs,y4,y5,rfl,s9,S9⟩ ji
   ac_nf0
   rw [a9] at lS;obtain⟨z,ez,rfl⟩:=b_.mp lS;have lj:=(bf.mp ez).1;have xw:=af ji (.tup [.int (j:Int),.str z]);have FZ:a_ K (upd H9 t2 (.tup [.int (j:Int),.str z])) t2 [.int (j:Int),.str z]:=a_.of ae;have vZ:=s9.trans xw;have KU:=S9.same xw;generalize upd H9 t2 (.tup [.int (j:Int),.str z])=AL at FZ vZ KU;refine⟨t2,_,rfl,FZ,rfl,_,_,rfl,_,_,rfl,rfl,?_⟩;have lk:=KU.ln;refine⟨_,rfl,d,rfl,.inl ⟨kvs,.inl KU.hd⟩,_,rfl,yB,λl hl=>?_⟩;have Iv:=af hl (.lst []);have HS:upd AL l (.lst []) l=some (.lst []):=ae;have fl:H l=none:=vZ.free hl;have DQ:=KU.same Iv;have sA:=vZ.trans Iv;generalize upd AL l (.lst [])=Dr at Iv HS DQ sA;have fin:∀(a:Addr)(xs:List V)(mN:List (aT×V))(yx:Hp),yx a=some (.lst xs)->H a=none->xs.length<=8 * i+j->DP H yx d mN (8 * i+j+1)->(∀kv∈mN,∃a xs,kv.2=.ref a/\yx a=some (.lst xs)/\H a=none/\xs.length<=8 * i+j)->aC H yx ->
     ∀t4,yx t4=none->xs.length < sizeLine/\∃(kvs:List (aT×V))(y4 y5:Option V),[some (V.ref R),aD d,some (.int (i:Int)),aD r,some (.int (j:Int)),some (.str z)]=[aD R,aD d,some (.int (i:Int)),aD r,y4,y5]/\aC H (upd (upd yx t4 (.tup [.int (i:Int),.int (j:Int)])) a (.lst (xs++[.ref t4])))/\DP H (upd (upd yx t4 (.tup [.int (i:Int),.int (j:Int)])) a (.lst (xs++[.ref t4]))) d kvs (8 * i+(j+1)) :=
    λa xs mN yx ea fa lx HW Ht JZ t4 Ai=>by
     have zC:=af Ai (.tup [.int (i:Int),.int (j:Int)]);refine⟨bD ∅,mN,_,_,rfl,λb o hb=>by rw [ak (λz=>by rw [z,fa] at hb;cases hb)];exact zC _ _ (JZ b o hb),?_⟩;exact(HW.same zC).more (zC _ _ ea) lx λkv hk=>let ⟨b,ys,e1,e2,e3,e4⟩:=Ht kv hk;⟨b,ys,e1,zC _ _ e2,e3,e4⟩
   refine⟨kvs,Sum.inr z,DQ.hd,rfl,bD ∅,λv hv=>?_,λhn=>?_⟩
   .obtain⟨kv,hk,ek⟩:=K3 hv;obtain⟨a,xs,e1,e2,e3,e4⟩:=DQ.lst kv hk;rw [e1] at ek;subst ek;refine⟨.inl ⟨rfl,_,aG.of e2⟩,_,rfl,_,rfl,qW,λt4 Ai=>?_⟩;obtain⟨g1,g2⟩:=fin a xs kvs Dr e2 e3 e4 ⟨DQ.hd,∅,λkv hk=>let ⟨b,ys,e1,e2,e3,e4⟩:=DQ.lst kv hk;⟨b,ys,e1,e2,e3,∅⟩⟩ DQ.lst sA t4 Ai;exact⟨a,_,_,rfl,rfl,af Ai _ _ _ e2,g1,g2⟩
   have nd:d≠l:=λz=>by have:=DQ.hd;rw [z,HS] at this;cases this
   have HR:upd Dr d (.dK (bM kvs (Sum.inr z) (.ref l))) l=some (.lst []):=by rw [ak nd.symm];exact HS
   have uM:H d=none:=pd;have JZ:aC H (upd Dr d (.dK (bM kvs (Sum.inr z) (.ref l)))):=λb o hb=>by rw [ak (λz=>by rw [z,uM] at hb;cases hb)];exact sA b o hb
   have Ht:∀kv∈bM kvs (Sum.inr z) (.ref l),∃a xs,kv.2=.ref a/\upd Dr d (.dK (bM kvs (Sum.inr z) (.ref l))) a=some (.lst xs)/\H a=none/\xs.length<=8 * i+j:=λkv hk=>by
    rw [rK _ hn] at hk;rcases cg.mp hk with h | h
    .obtain⟨b,ys,e1,e2,e3,e4⟩:=DQ.lst kv h;exact⟨b,ys,e1,by rw [ak (λz=>by rw [z,DQ.hd] at e2;cases e2)];exact e2,e3,e4⟩
    rw [bH.mp h];exact⟨l,[],rfl,HR,fl,by simp⟩
   have lp:=fQ kvs (Sum.inr z:aT) (.ref l);have HW:DP H (upd Dr d (.dK (bM kvs (Sum.inr z) (.ref l)))) d (bM kvs (Sum.inr z) (.ref l)) (8 * i+j+1):=⟨ae,∅,λkv hk=>let ⟨b,ys,e1,e2,e3,e4⟩:=Ht kv hk;⟨b,ys,e1,e2,e3,∅⟩⟩;generalize upd Dr d (.dK (bM kvs (Sum.inr z) (.ref l)))=yx at HR JZ Ht HW;refine⟨.inl ⟨rfl,_,aG.of HR⟩,_,rfl,_,rfl,qW,λt4 Ai=>?_⟩;obtain⟨g1,g2⟩:=fin l [] _ yx HR fl (by simp) HW Ht JZ t4 Ai;exact⟨l,_,_,rfl,rfl,af Ai _ _ _ HR,g1,g2⟩
  rintro σ H9 ⟨kvs,y4,y5,rfl,s9,S9⟩;rw [au] at S9;refine⟨kvs,_,_,_,_,rfl,s9,S9.hd,by have:=S9.ln;omega,λkv hk=>let ⟨b,ys,e1,e2,e3,e4⟩:=S9.lst kv hk;⟨b,ys,e1,e2,e3,∅⟩⟩
 rintro σ H6 ⟨kvs,y2,y3,y4,y5,rfl,s6,S6⟩;exact⟨_,rfl,q d H6 pd s6⟩
end
end gY
namespace L2
open PySem PySem.Spec PyProof.Rows
open PySem
def dF {X:Cx}(K:bp)(hK:X.K=K:=by rfl):jH X (compareOp .In) (RZ K false):=by
 subst hK;exact iH
def Cn {X:Cx}(hu:X.A.units < cLine):jH X (compareOp .NotEq) (λx y H Q=>∃a b xs,x=.ref a/\y=.ref b/\aG X.K H a xs/\aG X.K H b []/\Q (.bl (!xs.isEmpty)) H):=by
 intro aj s σ H x y v u Q I rx ry h;obtain⟨a,b,xs,rfl,rfl,ha,hb,q⟩:=h;cases rx;cases ry;obtain⟨aW,r,pl,hz⟩:=I.list ha;obtain⟨dX,r2,w_,NS⟩:=I.list hb;have e2:dX=[]:=bw.zero r2;subst e2;have bu:=r.length;cases xs with
 | nil =>
  have e:aW=[]:=bw.zero r;subst e;exact SeqAt.RcNeAt.lists (e:=λ_=>true) pl.isList w_.isList rfl hu (λj h1 _=>absurd h1 (by simp)) X.prog X.w X.xe _ ⟨.bl false,H,I,rfl,q⟩
 | cons y ys =>
  refine SeqAt.RcNeAt.lists_lengths pl.isList w_.isList ?_ hu X.prog X.w X.xe _ ⟨.bl true,H,I,rfl,q⟩;rw [cH,cH,<-bu];simp
def Ny (K:bp)(H:Hp):Nat->V->V->Prop
 | 0,x,y=>x=y/\lB x
 | n+1,x,y=>(x=y/\lB x)\/∃a b xs ys,x=.ref a/\y=.ref b/\((aG K H a xs/\aG K H b ys)\/(a_ K H a xs/\a_ K H b ys))/\Paired (Ny K H n) xs ys
def Ny.self {K:bp}{H:Hp}{x:V}(h:lB x):∀n,Ny K H n x x
 | 0=>⟨rfl,h⟩
 | _+1=>.inl ⟨rfl,h⟩
def px {A:Around}{s:Shared}{F:V->V->Prop}{xs ys:List V}{aW dX:List Value}(r:bw xs aW)(r2:bw ys dX)(p:Paired F xs ys)(hF:∀x y u v,F x y->RelV x u->RelV y v->SeqAt.EqAt A s u v true) (j:Nat)(h1:j < aW.toArray.size)(h2:j < dX.toArray.size) :
  SeqAt.EqAt A s aW.toArray[j] dX.toArray[j] true:=by
 have l1:=r.length;have l2:=r2.length;have k1:j < aW.length:=by simpa using h1
 have k2:j < dX.length:=by simpa using h2
 have g2:ys[j]?=some (ys[j]'∅):=dI ∅;obtain⟨x,g1,fx⟩:=Paired.at_ p j _ g2;obtain⟨u1,e1,q1⟩:=r.get g1;obtain⟨u2,e2,q2⟩:=r2.get g2;have f1:aW.toArray[j]=u1:=by
  have:=(bf.mp e1).2;simpa using this
 have f2:dX.toArray[j]=u2:=by
  have:=(bf.mp e2).2;simpa using this
 rw [f1,f2];exact hF _ _ _ _ fx q1 q2
theorem Ay {X:Cx}{aj:List (Addr×Obj)}{σ:St}{H:Hp}{s:Shared}(I:Inv X aj σ H s):∀(n:Nat)(A:Around)(x y:V)(u v:Value),Ny X.K H n x y->RelV x u->RelV y v->A.units+n < cLine->SeqAt.EqAt A s u v true
 | 0,A,x,y,u,v,⟨e,h⟩,ru,rv,_=>by subst e;exact sI h ru rv
 | n+1,A,x,y,u,v,.inl ⟨e,h⟩,ru,rv,_=>by subst e;exact sI h ru rv
 | n+1,A,x,y,u,v,.inr ⟨a,b,xs,ys,ex,ey,hs,p⟩,ru,rv,hu=>by
  subst ex;subst ey;cases (show u=Value.ref a from ru);cases (show v=Value.ref b from rv);by_cases e:a=b
  .subst e;exact .same _
  refine .of_refs e ?_;have lp:=bc p;rcases hs with ⟨ha,hb⟩ | ⟨ha,hb⟩
  .obtain⟨aW,r,pl,_⟩:=I.list ha;obtain⟨dX,r2,w_,_⟩:=I.list hb;have l1:=r.length;have l2:=r2.length;have q:=SeqAt.RcAt.lists (A:=A) (s:=s) (e:=λ_=>true) pl.isList w_.isList (by simp only [cH];omega) ∅ (λj h1 h2=>px r r2 p (λx y u v d r1 r2=>Ay I n A.in1 x y u v d r1 r2 (by rw [oF];omega)) j h1 h2);have e:((List.range aW.toArray.size).all λ_=>true)=true:=by simp
   rw [e] at q;exact q
  obtain⟨aW,r,pl,_⟩:=I.tuple ha;obtain⟨dX,r2,w_,_⟩:=I.tuple hb;have l1:=r.length;have l2:=r2.length;have q:=SeqAt.RcAt.tuples (A:=A) (s:=s) (e:=λ_=>true) pl w_ ∅ (λj h1 h2=>px r r2 p (λx y u v d r1 r2=>Ay I n A.in1 x y u v d r1 r2 (by rw [oF];omega)) j h1 h2);have e1:((List.range (min aW.toArray.size dX.toArray.size)).all (λ_=>true) && aW.toArray.size == dX.toArray.size)=true:=by
   have:aW.toArray.size=dX.toArray.size:=by simp only [cH];omega
   rw [this];simp
  rw [e1] at q;exact q
section
variable {prog:Program}{w:World}{A:Around}{E:Value->Shared->Prop}{s:Shared}
abbrev Hg (h:Heap)(z:Addr)(f0 f1:Value)(TI TO:Addr):Prop:=h.get? z=some { cls:=.type "zip",data:=.fields #[f0,f1,.bool false,.ref TI,.ref TO] }
end
structure Xj (h:Heap)(z TI TO i1 i2 l1 l2:Addr)(xs ys:Array Value) (i:Nat):Prop where
 hz:∃f0 f1,Hg h z f0 f1 TI TO/\(f0=.none\/∃T:Nat,f0=rawInt T)
 hI:IsPair h TI (.ref i1) (.ref i2)
 hO:∃a b,IsPair h TO a b
 h1:h.IsTupleIter i1 l1 i
 h2:h.IsTupleIter i2 l2 i
 t1:h.IsTuple l1 xs
 t2:h.IsTuple l2 ys
def xl {h h':Heap}{l:Addr}{xs:Array Value}(t:h.IsTuple l xs)(k:∀o,h.get? l=some o->h'.get? l=some o):h'.IsTuple l xs:=by
 obtain⟨o,a,b,c⟩:=t;exact⟨o,k o a,b,c⟩
def u4 (h:Heap) (N:Nat)(xs ys bF:Array Value):Prop:=∃Ts:List Nat,bF.toList=Ts.map Value.ref/\Ts.Pairwise (· < ·)/\∀(j T:Nat),Ts[j]?=some T->N<=T/\∃x y:Value,IsPair h T x y/\xs[j]?=some x/\ys[j]?=some y
def u4.keep {h h':Heap}{N:Nat}{xs ys bF:Array Value}(a:u4 h N xs ys bF)(k:∀(T:Nat) o,N<=T->h.get? T=some o->h'.get? T=some o):u4 h' N xs ys bF:=by
 obtain⟨Ts,e1,e2,e3⟩:=a;refine⟨Ts,e1,e2,λj T hj=>?_⟩;obtain⟨l,x,y,p,q⟩:=e3 j T hj;exact⟨l,x,y,k T _ l p,q⟩
def u4.more {h:Heap}{N T0:Nat}{xs ys bF:Array Value}{x y:Value}(a:u4 h N xs ys bF)(lt:∀(Ts:List Nat),bF.toList=Ts.map Value.ref->∀T∈Ts,T < T0)(hN:N<=T0)(p:IsPair h T0 x y)(hx:xs[bF.size]?=some x)(hy:ys[bF.size]?=some y):u4 h N xs ys (bF.push (.ref T0)):=by
 obtain⟨Ts,e1,e2,e3⟩:=a;have el:Ts.length=bF.size:=by
  have:=congrArg List.length e1;rw [au] at this;rw [<-this];simp
 refine⟨Ts++[T0],by rw [Array.toList_push,e1,bA];rfl,List.pairwise_append.mpr ⟨e2,by simp,λT hT b hb=>by rw [bH.mp hb];exact lt Ts e1 T hT⟩,λj T hj=>?_⟩;by_cases c:j < Ts.length
 .rw [pI c] at hj;exact e3 j T hj
 rw [nj ∅] at hj;have c2:j - Ts.length=0:=by
  have:=(bf.mp hj).1;simp at this;omega
 rw [c2] at hj;cases hj;have:j=bF.size:=by omega
 rw [this];exact⟨hN,x,y,p,hx,hy⟩
def Xj.keep {h h':Heap}{z TI TO i1 i2 l1 l2:Addr}{xs ys:Array Value}{i:Nat}(st:Xj h z TI TO i1 i2 l1 l2 xs ys i)(k:∀b o,h.get? b=some o->h'.get? b=some o):Xj h' z TI TO i1 i2 l1 l2 xs ys i:=by
 obtain⟨⟨f0,f1,a,b⟩,hI,⟨c,d,hO⟩,h1,h2,t1,t2⟩:=st;exact⟨⟨f0,f1,k _ _ a,b⟩,k _ _ hI,⟨c,d,k _ _ hO⟩,h1.at λo q=>k _ _ q,h2.at λo q=>k _ _ q,xl t1 λo q=>k _ _ q,xl t2 λo q=>k _ _ q⟩
end L2
namespace HT
open PySem PyProof.Rows
section
variable {prog:Program}{w:World}{A:Around}{E:Value->Shared->Prop}{s:Shared}
end
end HT
namespace L2
open PySem PySem.Spec PyProof.Rows
open PySem
section
variable {prog:Program}{w:World}{A:Around}{E:Value->Shared->Prop}{s:Shared}
end
structure ZTn (h:Heap)(z TI TO i1 i2 l1 l2:Addr) (i:Nat):Prop where
 hz:∃f0 f1,Hg h z f0 f1 TI TO/\(f0=.none\/∃T:Nat,f0=rawInt T)
 hI:IsPair h TI (.ref i1) (.ref i2)
 hO:∃a b,IsPair h TO a b
 h1:h.IsTupleIter i1 l1 i
 h2:h.IsTupleIter i2 l2 i
end L2
namespace HT
open PySem PySem.Spec PyProof.Rows
section
variable {prog:Program}{w:World}{A:Around}{E:Value->Shared->Prop}{s:Shared}
def n6 {t sl:Addr}{items:Array Value}{vl vu:Value}{lo hi:Option Int}{Q:Value->Shared->Prop}(ht:IsTup s.heap t items)(hs:s.heap.IsSliceOf sl vl vu .none)(pl:IsPart vl lo)(pu:IsPart vu hi)
  (hw:fR items.size 0 lo=0/\fR items.size items.size hi=items.size)(h:Q (.ref t) s):wpAny (model prog w) A (getItem (.ref t) (.ref sl)) Q E s:=by
 obtain⟨os,Mu,Sr,CO⟩:=id hs;have VQ:s.TypeIs (.ref sl) "slice" := ⟨os,Mu,Sr⟩;unfold getItem
 try with_reducible refine ky ?_
 first | refine aN (ba ?_) | skip
 refine aN (wpAny_sequenceKey ht.typeIs nofun ?_);refine aN (tV (name:=Str.ofString "__getitem__") ht.typeIs tY
  (oG tY ht.typeIs entry_tuple_getitem ?_ (args_tuple_getitem _ _)))
 show wpAny _ _ (Builtin.Tuple.tupleItemsOf (.ref t) >>= _) _ _ s;refine aN (tupleItemsOf_ ht ?_);refine aN (jK VQ ?_);rw [ax nofun];refine aN (jr hs pl pu ?_);have U7:(((fR items.size 0 lo:Nat):Int) == 0 && (1:Int) == 1 && (fR items.size items.size hi - fR items.size 0 lo) == items.size)=true:=by
  rw [hw.1,hw.2];simp
 show wpAny _ _ (if (((fR items.size 0 lo:Nat):Int) == 0 && (1:Int) == 1 && (fR items.size items.size hi - fR items.size 0 lo) == items.size)=true then _ else _) _ _ s;rw [ax U7];refine aN ?_;unfold Builtin.Tuple.tupleIsExact;refine aN (jK ht.typeIs (ba ?_));rw [ax nofun];refine aN (wpAny_rule ?_);exact ba ⟨_,rfl,ba h⟩
end
end HT
namespace L2
open PySem PySem.Spec PyProof.Rows
def EY (K:bp):V->Option Int->Option Int->Hp->VK->Prop:=λx lo hi H Q=>Xk x (a_ K H) λxs=>∀p H',aC H H'->a_ K H' p (fI xs lo hi)->Q (.ref p) H'
def gw {X:Cx}:JH X (EY X.K):=by
 intro aj s σ H x v vl vu lo hi sl Q I rx hs pl pu h;obtain⟨a,xs,rfl,hx,q⟩:=h;by_cases hw:HT.fR xs.length 0 lo=0/\HT.fR xs.length xs.length hi=xs.length
 .have ec:fI xs lo hi=xs:=by
   unfold fI;rw [hw.1,hw.2,mW,ml,cv]
  cases rx;obtain⟨aW,r,ht,hz⟩:=I.tuple hx;have bu:aW.toArray.size=xs.length:=by rw [cH];exact r.length.symm
  refine⟨"tuple",_,tY.lookup,ht.typeIs,?_⟩;exact HT.n6 ht hs pl pu (by rw [bu];exact hw) ⟨.ref a,H,I,rfl,q a H (λ_ _ h=>h) (by rw [ec];exact hx)⟩
 exact Lh aj s σ H _ v vl vu lo hi sl Q I rx hs pl pu ⟨a,xs,rfl,hx,hw,λp hp=>q p _ (af hp _) (a_.of ae)⟩
def Pa (K:bp):R2:=λx y H Q=>Xp (a_ K H) x y λxs ys=>∀p H',aC H H'->a_ K H' p (xs++ys)->Q (.ref p) H'
def jU {X:Cx}:jH X (binaryOp .Add) (Pa X.K):=by
 intro aj s σ H x y v u Q I rx ry h;obtain⟨a,b,xs,ys,rfl,rfl,ha,hb,hz,q⟩:=h;by_cases hx:xs=[]
 .cases rx;cases ry;obtain⟨aW,r1,p1,_⟩:=I.tuple ha;obtain⟨dX,r2,p2,_⟩:=I.tuple hb;have e1:aW=[]:=r1.qt.mpr hx;obtain⟨⟨cls,dd,data,sl⟩,ho,hc,n,hd⟩:=id p1;obtain⟨⟨WO,Oi,data2,RS⟩,Hy,QE,n2,hd2⟩:=id p2;simp only at hc hd QE hd2;subst hc hd QE hd2;exact concat_meets ⟨_,ho,rfl⟩ ⟨_,Hy,rfl⟩ noFill_tuple_add seq_tuple_add yO yQ (yT _ _)
   (tuple_addW0 a b aW.toArray dX.toArray n n2 dd Oi sl RS (by simp [e1])) ⟨ho,Hy,.ref b,H,I,rfl,q b H (λ_ _ h=>h) (by rw [hx];exact hb)⟩
 refine IJ aj s σ H _ _ v u Q I rx ry ⟨a,b,xs,ys,rfl,rfl,ha,hb,hx,hz,λe=>q a H (λ_ _ h=>h) (by rw [e,il];exact ha),λ_ p hp=>q p _ (af hp _) (a_.of ae)⟩
theorem rg:∀{zs:List Str}{aW:List Value},bw (zs.map V.str) aW->StrsAre aW zs
 | [],[],_=>.nil
 | z::r,u::aW,h=>by
  cases h with
  | cons a b =>
   obtain⟨t,rfl⟩:=a;exact .cons z t (rg b)
theorem t_:∀{aW:List Value}{zs:List Str},StrsAre aW zs->bw (zs.map V.str) aW
 | _,_,.nil=>.nil
 | _,_,.cons y t h=>.cons ⟨t,rfl⟩ (t_ h)
def AB {X:Cx}:gM X (.builtin "sorted") (λxs H Q=>∃a zs,xs=[.ref a]/\aG X.K H a (List.map V.str zs)/\zs.length < 64/\∀l yV,H l=none->yV.Perm zs->sortedS yV=true->Q (.ref l) (upd H l (.lst (List.map V.str yV)))):=by
 intro aj s σ H xs us Q I r h;obtain⟨a,zs,rfl,hq,hl,q⟩:=h;obtain⟨u,rfl,rx⟩:=vals1 r;cases (show u=Value.ref a from rx);obtain⟨aW,r',pl,hz⟩:=I.list hq;have bu:=r'.length;rw [au] at bu;refine sorted_strs pl.isList (rg r') ∅ λout X5 h1 h2 h3=>?_;obtain⟨e,he⟩:=sortedAll_at s.heap aW out;have v:=t_ h1;refine⟨.ref (s.heap.objs.size+1),_,I.laid (t':=s.toks) (λb o hb=>sortedAll_old hb) (kj _) (show cW X.prog X.w _ _ _ (.lst (List.map V.str X5)) from ⟨?_,out.toList,e,v,?_⟩),rfl,q _ X5 (I.cC.fresh (kj _)) h2 h3⟩
 .rw [au,h2.length_eq];rw [au] at hz;exact hz
 rw [he]
theorem pQ:∀a b:List Nat,ltCps a b=false->ltCps b a=false->a=b
 | [],[],_,_=>rfl
 | [],_::_,h,_=>by rw [ltCps.eq_2] at h;cases h
 | _::_,[],_,h=>by rw [ltCps.eq_2] at h;cases h
 | x::r,y::t,h,k=>by
  rw [ltCps.eq_4,Bool.or_eq_false_iff,decide_eq_false_iff_not] at h k;have e:x=y:=by omega
  subst e;have h2:=h.2;have k2:=k.2;rw [qC,iX] at h2 k2;rw [pQ r t h2 k2]
theorem lt_trans:∀a b c:List Nat,ltCps b a=false->ltCps c b=false->ltCps c a=false
 | [],b,[],_,_=>ltCps.eq_1
 | [],b,_::_,_,_=>ltCps.eq_3 _ _
 | x::r,[],c,h,_=>by rw [ltCps.eq_2] at h;cases h
 | x::r,y::t,[],_,k=>by rw [ltCps.eq_2] at k;cases k
 | x::r,y::t,z::u,h,k=>by
  rw [ltCps.eq_4,Bool.or_eq_false_iff,decide_eq_false_iff_not] at h k ⊢;refine⟨∅,?_⟩;by_cases e:z=x
  .have e1:y=x:=by omega
   subst e;subst e1;have h2:=h.2;have k2:=k.2;rw [qC,iX] at h2 k2 ⊢;exact lt_trans r t u h2 k2
  rw [jn.mpr e,iY]
def Hs (a b:Str):Prop:=ltCps b.cps.toList a.cps.toList=false
theorem uo:∀(x:Str) (r:List Str),risingS x r=true->(x::r).Pairwise Hs
 | x,[],_=>List.pairwise_singleton _ _
 | x,y::r,h=>by
  rw [risingS.eq_2,kr,Bool.not_eq_true'] at h;have ih:=uo y r h.2;refine List.pairwise_cons.mpr ⟨λz hz=>?_,ih⟩;rcases b8.mp hz with e | e
  .rw [e];exact h.1
  exact lt_trans _ _ _ h.1 ((List.pairwise_cons.mp ih).1 z e)
def Cc:∀{l:List Str},sortedS l=true->l.Pairwise Hs
 | [],_=>.nil
 | x::r,h=>uo x r h
def wq {a b:Str}(h:Hs a b)(k:Hs b a):a=b:=by
 have:=pQ _ _ h k;cases a with
 | mk x=>cases b with
  | mk y=>rw [show x=y from (Array.toList_inj.mp this.symm)]
noncomputable def v3 (x:Str):Nat->Str
 | 0=>Str.empty
 | 1=>x
 | _=>x++x
def II {X:Cx}:jH X (binaryOp .Mult) (λa b H Q=>∃x n,a=.str x/\b=.int ((n:Nat):Int)/\n<=2/\x.length=1/\Q (.str (v3 x n)) H):=by
 intro aj s σ H a b v u Q I ra rb h;obtain⟨x,n,rfl,rfl,hn,hx,q⟩:=h;obtain⟨t,rfl⟩:=ra;obtain⟨t2,rfl⟩:=rb
 match n,hn,q with
 | 0,_,q=>exact PySem.P.mul_str_none nofun nofun ⟨.str Str.empty,H,I.tok _,⟨_,rfl⟩,q⟩
 | 1,_,q =>
  refine PySem.P.mul_str nofun (λ_ h=>by simp at h) (λ_ h=>by simp at h) ?_;rw [az nofun,ax (by rfl)];exact⟨.str x,H,I,⟨_,rfl⟩,q⟩
 | 2,_,q =>
  refine PySem.P.mul_str nofun (λ_ _=>by rw [hx];decide) (λ_ _=>by rw [hx];decide) ?_;rw [az nofun,az (by rw [hx];decide)];have le:(Str.mk (#[]++x.cps++x.cps)).length<=sizeLine:=by
   show (#[]++x.cps++x.cps).size<=sizeLine;rw [Array.empty_append,Array.size_append];have:x.cps.size=1:=hx;rw [this];decide
  refine⟨le,⟨.str (x++x),H,I.tok _,⟨s.toks,?_⟩,q⟩⟩;show Value.str ⟨#[]++x.cps++x.cps⟩ _=Value.str ⟨x.cps++x.cps⟩ _;rw [Array.empty_append]
section
variable {prog:Program}{w:World}{A:Around}{E:Value->Shared->Prop}{s:Shared}
end
open PySem PySem.W PyProof.Rows
section
variable {n:Nat}{lt:Nat->Nat->Bool}{cmp:Nat->Nat->(Bool->Shared->Prop)->Shared->Prop}{s:Shared}
structure JJ (n:Nat)(lt:Nat->Nat->Bool):Prop where
 trans:∀a b c,a < n->b < n->c < n->lt b a=false->lt c b=false->lt c a=false
 Xh:∀a b,a < n->b < n->lt a b=true->lt b a=false
structure Om (n:Nat)(p:Array Nat):Prop where
 pm:p.Perm (List.range n).toArray
theorem Om.size {p:Array Nat}(h:Om n p):p.size=n:=by
 have:=h.pm.size_eq;simpa using this
def Om.Ag {p:Array Nat}(h:Om n p){i:Nat}(hi:i < n):p.getD i 0 < n:=by
 have hs:=h.size;have e:p.getD i 0=p[i]'∅:=by simp [Array.getD,hs,hi]
 rw [e];have:p[i]'∅∈(List.range n).toArray:=h.pm.mem_iff.mp (Array.getElem_mem _);simpa using this
abbrev at_ (p:Array Nat) (i:Nat):Nat:=p.getD i 0
def Nq (lt:Nat->Nat->Bool)(p:Array Nat) (k:Nat):Prop:=∀i j,i<=j->j < k->lt (at_ p j) (at_ p i)=false
def Nu (lt:Nat->Nat->Bool)(p:Array Nat) (k:Nat):Prop:=∀i j,i<=j->j < k->lt (at_ p i) (at_ p j)=false
def JJ.YU (o:JJ n lt){a:Nat}(h:a < n):lt a a=false:=by
 cases e:lt a a with
 | false=>rfl
 | true=>rw [<-o.Xh a a h h e,e]
def Nq.more {p:Array Nat}{m:Nat}(o:JJ n lt)(P:Om n p)(h:Nq lt p m)(hm:1<=m)(hn:m < n)(c:lt (at_ p m) (at_ p (m - 1))=false):Nq lt p (m+1):=by
 intro i j Jl hj;by_cases e:j=m
 .subst e;by_cases e2:i=j
  .subst e2;exact o.YU (P.Ag hn)
  exact o.trans _ (at_ p (j - 1)) _ (P.Ag ∅) (P.Ag ∅) (P.Ag hn) (h i (j - 1) ∅ ∅) c
 exact h i j Jl ∅
def Nu.more {p:Array Nat}{m:Nat}(o:JJ n lt)(P:Om n p)(h:Nu lt p m)(hm:1<=m)(hn:m < n)(c:lt (at_ p (m - 1)) (at_ p m)=false):Nu lt p (m+1):=by
 intro i j Jl hj;by_cases e:j=m
 .subst e;by_cases e2:i=j
  .subst e2;exact o.YU (P.Ag hn)
  exact o.trans _ (at_ p (j - 1)) _ (P.Ag hn) (P.Ag ∅) (P.Ag ∅) c (h i (j - 1) ∅ ∅)
 exact h i j Jl ∅
end
def Inv.PL {X:Cx}{aj:List (Addr×Obj)}{σ:St}{H:Hp}{s:Shared}{h':Heap}{a:Addr}{o:HO}{t':Nat}(I:Inv X aj σ H s)(k:∀b u,b≠X.env.locals->s.heap.get? b=some u->h'.get? b=some u)
  (ns:∀m,s.heap.Ns X.env.locals m->h'.Ns X.env.locals m)(hp:s.heap.get? a=none)(hn:H a=none)(new:cW X.prog X.w (upd H a o) h' a o):Inv X aj σ (upd H a o) { s with heap:=h',toks:=t' }:=by
 have ne:∀b u,s.heap.get? b=some u->b≠a:=λb u q z=>by rw [z,hp] at q;cases q
 refine I.step (g':=s.gens) (d':=s.drawn) (ch:=[]) (λ_ z=>nomatch z) (λb u hb _ _ e _=>k b u hb e) (λb u hb _ _ e _=>⟨u.slots,k b u hb e⟩) (λb u _ e n=>by rw [ak (ne b u e)];exact n)
  (λb u _ e=>?_) (λb xs q=>by rw [ak (aB q hn)];exact q) (λb u xs q=>by rw [ak (aB q hn)];exact q) (λb ps q=>⟨#[],by rw [ak (aB q hn),q];simp⟩) ns (λb u e=>?_) I.bare
 .by_cases hb:b=X.env.locals
  .obtain⟨m,hm,_⟩:=I.loc;obtain⟨o',_,_,F6,_⟩:=ns m hm;exact⟨o',by rw [hb];exact F6⟩
  exact⟨u,k b u hb e⟩
 by_cases hb:b=a
 .subst hb;rw [ae] at e;cases e;exact new
 rw [ak hb] at e;refine(I.cC b u e).kO (λc v hc q=>k c v ?_ q) (λc q=>by rw [ak (aB q hn)];exact q) λc xs q=>by rw [ak (aB q hn)];exact q
 rintro rfl;rcases hc with rfl | hc
 .rw [I.free] at e;cases e
 rw [I.free] at hc;cases hc
def Fm {P:Program}{w:World}{H:Hp}{h:Heap}{a:Addr}{o:HO}(x:cW P w H h a o):∃u,h.get? a=some u:=by
 cases o with
 | lst xs=>obtain⟨_,_,_,_,e⟩:=x;exact⟨_,e⟩
 | tup xs=>obtain⟨_,_,_,ob,e,_⟩:=x;exact⟨_,e⟩
 | dK kvs=>obtain⟨_,_,_,_,o,_,_,e,_⟩:=x;exact⟨_,e⟩
 | dT kvs=>obtain⟨_,_,_,_,o,_,_,e,_⟩:=x;exact⟨_,e⟩
 | set S n=>obtain⟨o,_,_,_,e,_⟩:=x;exact⟨_,e⟩
 | ins C dx fs=>obtain⟨_,_,_,e,_⟩:=x;exact⟨_,e⟩
 | own y=>obtain⟨_,e⟩:=x;exact⟨_,e⟩
 | xd fs=>obtain⟨_,⟨_,_,_,e,_⟩,_⟩:=x;exact⟨_,e⟩
 | Bk lo hi=>obtain⟨_,_,_,e⟩:=x;exact⟨_,e⟩
 | ki ob u=>obtain⟨e,_⟩:=x;exact⟨_,e⟩
 | tI ps=>exact⟨_,(show h.get? a=some _ from x)⟩
 | met f y=>exact⟨_,(show h.get? a=some _ from x)⟩
 | ext φ=>obtain⟨_,⟨_,e⟩,_⟩:=x;exact⟨_,e⟩
open PySem PySem.Spec PyProof.Rows PySem.W
section
variable {P:Program}{w:World}{A:Around}{E:Value->Shared->Prop}{s:Shared}
def FU {f c' c d:Addr}{q:Str}{params:Arguments}{scope:Scope}{cl:List (Str×Addr)}{pm gN:Value}{p1 p2 p3:Pos}{xs xh:Str}{vs:List (aT×Value)}{z:Str}{t:Tok}{u:Value}{oc:Obj}{Q:Value->Shared->Prop}
  (Qe:A.depth < recursionLimit)(nl:s.heap.NoLimit)(hf:s.heap.get? f=some (kla_obj "<lambda>" q params (.Subscript (.Name xs p1) (.Name xh p2) p3) scope cl pm c' gN))(hc:s.heap.CodeRec (.ref c') q)
  (hb:∀us:List Value,us.length=1->bindArgs (kla_fn "<lambda>" q params (.Subscript (.Name xs p1) (.Name xh p2) p3) scope cl pm (.ref c') gN) ⟨us,[]⟩=pure ([xh].zip us))
  (hk:scope.kind=.function)(VN:scope.isCoroutine=false)(MA:scope.isGenerator=false)(Vs:∀x∈scope.names,x.2≠.cell)(hh:scope.names.lookup xh=some .local)(hs:scope.names.lookup xs=some .free)
  (ph:cl.lookup xs=some c)(ho:s.heap.get? c=some oc)(yH:oc.data=.cell (some (.ref d)))(dd:s.heap.DictOf (bB P w) d vs)(hv:valueAt vs (Sum.inr z)=some u)
  (d1:(xs == ("__debug__":Str))=false)(d2:(xh == ("__debug__":Str))=false)(d3:(xs == ("__classdict__":Str))=false)
  (h:∀h' tk,(∀b o,s.heap.get? b=some o->h'.get? b=some o)->Q u { s with heap:=h',toks:=tk }):wpAny (model P w) A (call (.ref f) [.str z t]) Q E s:=by
 refine wpAny_call (kla_callFunE Qe hf rfl VN MA rfl hc ?_);rw [hb [.str z t] rfl];refine ba (wpAny_newFunctionEnv Vs (λx hx=>?_) (λh₁ xX Y7=>⟨nl.fresh _ Y7,?_⟩) hk)
 .have:x=(xh,Value.str z t):=by simpa using hx
  rw [this];exact hh
 show codeAny _ _ (.expr (.Subscript (.Name xs p1) (.Name xh p2) p3) (envX q scope s.heap.objs.size f (.ref c') cl)) _ _;have k1:∀b o,s.heap.get? b=some o->h₁.get? b=some o:=λb o e=>Y7.extBut b o (cu (bR e)) (cJ _ e);refine kla_codeExpr (A0 PySem.F.slot_dict_getitem.lookup (λ_ _=>rfl) ?_);refine wpAny_Name (wpAny_loadName_free hk hs ph ⟨oc,k1 _ _ ho,yH⟩ ?_ d3) d1;refine wpAny_Name (vb hk hh xX (show ([(xh,Value.str z t)]:List (Str×Value)).reverse.lookup xh=some (.str z t) by simp [List.lookup]) ?_) d2;have dd1:h₁.DictOf (bB P w) d vs:=by
  obtain⟨o,es,ep,g,r⟩:=dd;exact⟨o,es,ep,k1 _ _ g,r⟩
 refine⟨dd1.typeIs,wpAny_getItem_of (mf (k:=Sum.inr z) ⟨t,rfl⟩) dd1.mapOf hv ?_⟩;exact h h₁ _ k1
end
section
variable {X:Cx}{params:Arguments}{body:Expr}{scope:Scope}{pos:Pos}{c T:Addr}
noncomputable abbrev i9 (X:Cx)(params:Arguments)(body:Expr)(scope:Scope)(cl:List (Str×Addr))(c':Addr)(gN:Value):Obj:=kla_obj "<lambda>" (X.env.qual ++ "<lambda>") params body scope cl ((X.mg "__name__").getD .none) c' gN
def OL (X:Cx)(params:Arguments)(body:Expr)(scope:Scope)(pos:Pos)(T:Addr):TE:=λσ H Q=>Tab T pos (X.env.qual ++ "<lambda>") H /\
 ∀f c' gN cl H',JN X.env scope cl->gu T H H'->Tab T pos (X.env.qual ++ "<lambda>") H'->H f=none->H' f=some (oZ f (i9 X params body scope cl c' gN))->H' c'=some (kb c' (X.env.qual ++ "<lambda>"))->Q (.ref f) H'
def IC (rZ:X.env.code=.ref c)(hC:codeHdIn X.K c T=true)(hB:tG X.mg X.base)(nW:∀y,(y,NameKind.free)∈scope.names->X.env.scope.names.lookup y=some .cell)(Gf:defaultsOf params X.env=([],[]):=by rfl):PE X (.Lambda params body scope pos) (OL X params body scope pos T):=by
 intro aj s σ H Q I h;obtain⟨⟨ps,hT,ht,Gg⟩,q⟩:=h;refine kla_eval Gf ?_;obtain⟨cl,ph⟩:=wQ (env:=X.env) (scope:=scope) λy hy=>I.ok.has y (.inl (nW y hy));have MJ:s.heap.get? T=some (tabObj ps):=(show cW X.prog X.w H s.heap T (.tI ps) from I.cC T _ hT);have hg:=I.mod.glob.keeps I.bk;have C:=codeHd_of_K I.wu hC;obtain⟨bm,ob,b1,b2,b3,b4,b5,b6,b7⟩:=hB;have Xd:=I.bk _ _ b4;have UA:bm≠T:=λz=>by
  have:=(I.bs _ _ b4).2;rw [z,hT] at this;cases this
 have Ux:mainGlobals≠T:=λz=>by
  obtain⟨o,es,ep,e,d,_⟩:=hg;rw [z,MJ] at e;cases e;cases d
 have QL:s.heap.BuiltinsAt X.mg T:=⟨bm,ob,b1,b2,b3,UA,Xd,b5,b6,b7⟩;have Hl:∀b v,H b=some v->b < s.heap.objs.size:=λb v e=>I.cC.lt e;rcases Gg with Qn | ⟨c',hf,mS⟩
 .refine kla_makeFunction ph.eq I.ok.glob hg rZ C MJ ht Qn Ux QL λc' gN h' tk hx MC ke F3 F1=>?_;have hcr:∃oc,h'.get? c'=some oc:=by
   obtain⟨c2,oc,vs,t,e,yH,_⟩:=F3;cases e;exact⟨oc,yH⟩
  have rY:h'.objs.size > s.heap.objs.size:=tT MC ke;have keep:∀b o,b≠T->s.heap.get? b=some o->(h'.push (i9 X params body scope cl c' gN)).get? b=some o:=λb o n e=>cJ _ (hx b o n e)
  let H':Hp:=upd (upd (upd H T (.tI (ps++#[rawInt pos.line,rawInt pos.col,.ref c']))) c' (kb c' (X.env.qual ++ "<lambda>"))) h'.objs.size (oZ h'.objs.size (i9 X params body scope cl c' gN))
  have zY:∀b v,H b=some v->b≠c'/\b≠h'.objs.size:=λb v e=>⟨cu (gk (Hl b v e) MC),cu (kx (Hl b v e) rY)⟩;have Uz:c'≠h'.objs.size:=cu ke;have Pr:=zY T _ hT;have eT:H' T=some (.tI (ps++#[rawInt pos.line,rawInt pos.col,.ref c'])):=by
   show upd (upd (upd H T _) c' _) h'.objs.size _ T=_;rw [ak Pr.2,ak Pr.1,ae]
  have ec:H' c'=some (kb c' (X.env.qual ++ "<lambda>")):=by
   show upd (upd (upd H T _) c' _) h'.objs.size _ c'=_;rw [ak Uz,ae]
  have ef:H' h'.objs.size=some (oZ h'.objs.size (i9 X params body scope cl c' gN)):=ae;have eo:∀b,b≠T->b≠c'->b≠h'.objs.size->H' b=H b:=λb n1 n2 n3=>by
   show upd (upd (upd H T _) c' _) h'.objs.size _ b=_;rw [ak n3,ak n2,ak n1]
  have sT:gu T H H':=λb o n e=>by rw [eo b n (zY b o e).1 (zY b o e).2];exact e
  have I2:Inv X aj σ H' { s with heap:=h'.push (i9 X params body scope cl c' gN),toks:=tk }:=by
   refine I.call (g':=s.gens) (t':=tk) (d':=s.drawn) (ch:=[]) ⟨λb o e n _ _=>keep b o (λz=>by rw [z,hT] at n;cases n) e,λb o e n _ _=>⟨o.slots,keep b o (λz=>by rw [z,hT] at n;cases n) e⟩,λb o e n _=>?_,λb o e _=>?_,λb xs e=>?_,λb o u e=>?_,λb Ud e=>?_⟩ (λb v e=>?_) I.bare (λb hb=>nomatch hb)
   .have lb:=bR e;rw [eo b (λz=>by rw [z,hT] at n;cases n) (cu (gk lb MC)) (cu (kx lb rY))];exact n
   .by_cases z:b=T
    .exact⟨_,by rw [z];exact cJ _ F1⟩
    exact⟨o,keep b o z e⟩
   .exact sT b _ (λz=>by rw [z,hT] at e;cases e) e
   .exact sT b _ (λz=>by rw [z,hT] at e;cases e) e
   .by_cases z:b=T
    .subst z;rw [hT] at e;cases e;exact⟨_,eT⟩
    exact⟨#[],by rw [Array.append_empty];exact sT b _ z e⟩
   by_cases z1:b=h'.objs.size
   .subst z1;rw [ef] at e;cases e;exact qw (d8 _ rfl)
   by_cases z2:b=c'
   .subst z2;rw [ec] at e;cases e;refine yn ?_;obtain⟨c2,oc,vs,t,e',yH,hd,hv⟩:=F3;cases e';exact⟨_,oc,vs,t,rfl,cJ _ yH,hd,hv⟩
   by_cases z3:b=T
   .subst z3;rw [eT] at e;cases e;exact cJ _ F1
   rw [eo b z3 z2 z1] at e;refine(I.cC b v e).kO (λd o CQ e'=>?_) (λd e'=>sT d _ (λz=>by rw [z,hT] at e';cases e') e') λd ys e'=>sT d _ (λz=>by rw [z,hT] at e';cases e') e';rcases CQ with rfl | CQ
   .exact keep d o z3 e'
   exact keep d o (λz=>by rw [z,hT] at CQ;cases CQ) e'
  have fresh:H h'.objs.size=none:=I.cC.fresh (ku rY);exact⟨.ref h'.objs.size,H',I2,rfl,q _ c' gN cl H' ph sT ⟨_,eT,by rw [vc];exact jL _ ht,.inr ⟨c',by rw [vc];exact codeAmong_snoc _ ht Qn,ec⟩⟩ fresh ef ec⟩
 refine kla_makeFunctionHit ph.eq I.ok.glob hg rZ C MJ ht hf QL λgN h' tk hk hsz=>?_;have keep:∀b o,s.heap.get? b=some o->(h'.push (i9 X params body scope cl c' gN)).get? b=some o:=λb o e=>cJ _ (hk b o e);have fresh:H h'.objs.size=none:=I.cC.fresh hsz;refine⟨.ref h'.objs.size,_,I.laid (a:=h'.objs.size) (o:=oZ h'.objs.size (i9 X params body scope cl c' gN)) (t':=tk) keep hsz (qw (d8 _ rfl)),rfl,?_⟩;refine q _ c' gN cl _ ph (λb o _ e=>by rw [ak (aB e fresh)];exact e) ⟨ps,by rw [ak (aB hT fresh)];exact hT,ht,.inr ⟨c',hf,by rw [ak (aB mS fresh)];exact mS⟩⟩ fresh ae (by rw [ak (aB mS fresh)];exact mS)
end
theorem A1:∀{zs:List Str}{aW:List Value},bw (zs.map V.str) aW->∀(i:Nat)(v:Value),aW[i]?=some v->∃z t,zs[i]?=some z/\v=.str z t
 | [],[],_,i,v,h=>by simp at h
 | z::r,u::aW,h,i,v,hi=>by
  cases h with
  | cons a b =>
   cases i with
   | zero =>
    cases hi;obtain⟨t,e⟩:=(show ∃t,u=Value.str z t from a);exact⟨z,t,rfl,e⟩
   | succ i=>exact A1 b i v hi
theorem uc:∀(ps:List (Str×Tok)),bw ((ps.map (·.1)).map V.str) (ps.map λp=>Value.str p.1 p.2)
 | []=>.nil
 | p::r=>.cons ⟨p.2,rfl⟩ (uc r)
theorem ue:∀{zs:List Str}{aW:List Value},bw (zs.map V.str) aW->∃ps:List (Str×Tok),ps.map (·.1)=zs/\aW=ps.map λp=>Value.str p.1 p.2
 | [],[],_=>⟨[],rfl,rfl⟩
 | z::r,u::aW,h=>by
  cases h with
  | cons a b =>
   obtain⟨t,e⟩:=(show ∃t,u=Value.str z t from a);obtain⟨ps,e1,e2⟩:=ue b;exact⟨(z,t)::ps,by rw [cE,e1],by rw [cE,e2,e]⟩
def zI {α β:Type}{f:α->β}{l m:List β}(h:l.Perm m):∀ps:List α,m=ps.map f->∃qs:List α,l=qs.map f/\qs.Perm ps:=by
 induction h with
 | nil =>
  intro ps e;cases ps with
  | nil=>exact⟨[],rfl,.nil⟩
  | cons p r=>cases e
 | cons x h ih =>
  intro ps e;cases ps with
  | nil=>cases e
  | cons p r =>
   rw [cE] at e;injection e with e1 e2;obtain⟨qs,a,b⟩:=ih r e2;exact⟨p::qs,by rw [cE,a,e1],b.cons p⟩
 | swap x y l =>
  intro ps e
  match ps,e with
  | [],e=>cases e
  | [_],e=>cases e
  | p::p2::r,e =>
   rw [cE,cE] at e;injection e with e1 e2;injection e2 with e3 e4;exact⟨p2::p::r,by rw [cE,cE,e1,e3,e4],.swap p p2 r⟩
 | trans h1 h2 i1 i2 =>
  intro ps e;obtain⟨qs,a,b⟩:=i2 ps e;obtain⟨rs,c,d⟩:=i1 qs a;exact⟨rs,c,d.trans b⟩
def Fe {g:Str->Int}{ps:List (Str×Tok)}{out:List Value}(h:KskOut false ((ps.map (·.1)).map g) (ps.map λp=>Value.str p.1 p.2) out) :
  ∃qs:List (Str×Tok),out=qs.map (λp=>Value.str p.1 p.2)/\(qs.map (·.1)).Perm (ps.map (·.1))/\(qs.map (·.1)).Pairwise λx y=>g x<=g y:=by
 obtain⟨rs,h1,h2,h3⟩:=h;have ez:((ps.map (·.1)).map g).zip (ps.map λp=>Value.str p.1 p.2)=ps.map λp=>(g p.1,Value.str p.1 p.2):=by
  rw [ik,List.zip_map,List.zip_eq_zipWith]
  induction ps with
  | nil=>rfl
  | cons p r ih=>simp_all
 rw [ez] at h1;obtain⟨qs,q1,q2⟩:∃qs:List (Str×Tok),rs=qs.map (λp=>(g p.1,Value.str p.1 p.2))/\qs.Perm ps:=by
  exact zI h1 ps rfl
 subst q1;refine⟨qs,by rw [h2,ik];rfl,q2.map _,?_⟩;rw [List.pairwise_map] at h3 ⊢;exact h3.imp λh=>by simpa using h
section
variable {X:Cx}{i:Nat}{xs xh:Str}{params:Arguments}{scope:Scope}{p pos zZ kp p1 p2 p3:Pos}{e:Expr}{ta:TA}{c T:Addr}{k:Nat}
abbrev BR (xs xh:Str)(p1 p2 p3:Pos):Expr:=.Subscript (.Name xs p1) (.Name xh p2) p3
def K7 (X:Cx) (i:Nat)(zZ:Pos)(T:Addr)(ta:TA):TE:=λσ H Q=>ta σ H λvs H1=>Tab T zZ (X.env.qual ++ "<lambda>") H1/\∃(a:Addr) (zs:List Str)(d:Addr)(kvs:List (aT×V))(g:Str->Int),vs=[.ref a]/\aG X.K H1 a (zs.map V.str)/\zs.length < 64/\σ[i]?=some (some (.ref d))/\Rd H1 d (.dK kvs) /\
 (∀z∈zs,bh kvs (Sum.inr z)=some (.int (g z)))/\∀(l:Addr) (yV:List Str)(H':Hp),gu T H1 H'->Tab T zZ (X.env.qual ++ "<lambda>") H'->H1 l=none->yV.Perm zs->yV.Pairwise (λx y=>g x<=g y)->H' l=some (.lst (yV.map V.str))->Q (.ref l) H'
noncomputable def E9 (hr:fJ (k+1) X.A)(rZ:X.env.code=.ref c)(hC:codeHdIn X.K c T=true)(hB:tG X.mg X.base)(hg:Gl X "sorted")(hm:X.mg "sorted"=none)(ha:PA X [e] ta)
  (hN:X.N[i]?=some xs)(hx:X.env.scope.names.lookup xs=some .cell)(nW:∀y,(y,NameKind.free)∈scope.names->X.env.scope.names.lookup y=some .cell)
  (hb:∀(q:Str)(cl:List (Str×Addr))(pm gN:Value)(c':Addr)(us:List Value),us.length=1->bindArgs (kla_fn "<lambda>" q params (BR xs xh p1 p2 p3) scope cl pm (.ref c') gN) ⟨us,[]⟩=pure ([xh].zip us))
  (hk:scope.kind=.function)(VN:scope.isCoroutine=false)(MA:scope.isGenerator=false)(Vs:∀x∈scope.names,x.2≠.cell)(hh:scope.names.lookup xh=some .local)(hs:scope.names.lookup xs=some .free)
  (d1:(xs == ("__debug__":Str))=false:=by decide)(d2:(xh == ("__debug__":Str))=false:=by decide)(d3:(xs == ("__classdict__":Str))=false:=by decide)
  (Gf:defaultsOf params X.env=([],[]):=by rfl)
  (he:backTo pos (starEach [e] X.env)=(false,eval e X.env)::backTo pos (starEach [] X.env):=by rfl)(hp:(backTo pos (starEach [e] X.env)).any (·.1)=false:=by rfl) :
  PE X (.Call (.Name "sorted" p) [e] [⟨some "key",.Lambda params (BR xs xh p1 p2 p3) scope zZ,kp⟩] pos) (K7 X i zZ T ta):=by
 intro aj s σ H Q I h;refine qE (jX I hg hm boot_sorted ?_);refine callWith_kw (dC (ha pos aj s σ H _ I h) λus s1 bN=>?_) he hp rfl rfl;obtain⟨vs,H1,I1,r1,Jo,a,zs,d,kvs,g,ev,hq,h64,hσ,hd,hv,q1⟩:=bN;subst ev;have low:=IC (X:=X) (params:=params) (body:=BR xs xh p1 p2 p3) (scope:=scope) (pos:=zZ) (c:=c) (T:=T) rZ hC hB nW Gf aj s1 σ H1
  (λfv H2=>∃f c' gN cl,fv=.ref f/\JN X.env scope cl/\gu T H1 H2/\Tab T zZ (X.env.qual ++ "<lambda>") H2/\H2 f=some (oZ f (i9 X params (BR xs xh p1 p2 p3) scope cl c' gN))/\H2 c'=some (kb c' (X.env.qual ++ "<lambda>"))) I1
  ⟨Jo,λf c' gN cl H' a1 a2 a3 a4 a5 a6=>⟨f,c',gN,cl,rfl,a1,a2,a3,a5,a6⟩⟩
 refine kws_cons (dC low λu2 s2 bN=>?_);obtain⟨fv,H2,I2,r2,f,c',gN,cl,ef,ph,st,Sv,hf,mS⟩:=bN;refine kws_nil ?_;subst ef;cases (show u2=Value.ref f from r2);obtain⟨u,rfl,rx⟩:=vals1 r1;cases (show u=Value.ref a from rx);obtain⟨pt,eT,_⟩:=id Jo;have Vl:aG X.K H2 a (zs.map V.str):=by
  rcases hq with (h | ⟨o,h⟩) | h
  .exact .inl (.inl (st _ _ (λz=>by rw [z,eT] at h;cases h) h))
  .exact .inl (.inr ⟨o,st _ _ (λz=>by rw [z,eT] at h;cases h) h⟩)
  exact .inr h
 have hd2:Rd H2 d (.dK kvs):=by
  rcases hd with h | ⟨o,h⟩
  .exact .inl (st _ _ (λz=>by rw [z,eT] at h;cases h) h)
  exact .inr ⟨o,st _ _ (λz=>by rw [z,eT] at h;cases h) h⟩
 obtain⟨aW,rv,pl,hz⟩:=I2.list Vl;obtain⟨pzs,ez,ei⟩:=ue rv;have w_:=pl.isList;obtain⟨oa,ga,ca,na,da⟩:=id w_;obtain⟨m,xX,lk⟩:=id I2.loc;have I0:∀b o,H2 b=some o->b≠X.env.locals:=λb o hb z=>by rw [z,I2.free] at hb;cases hb
 have Pm:d≠X.env.locals:=by
  rcases hd2 with h | ⟨o,h⟩
  .exact I0 d _ h
  exact I0 d _ h
 have neA:a≠X.env.locals:=λz=>by
  obtain⟨o,es,ep,ho,Bx,_⟩:=xX;rw [<-z,ga] at ho;cases ho;rw [da] at Bx;cases Bx
 obtain⟨ud,rd,lkd⟩:=lk i xs (.ref d) hN hσ (.inr (.inl hx));cases (show ud=Value.ref d from rd);obtain⟨cc,ecc,oc,Ql,Qk⟩:∃cc,X.env.cells.lookup xs=some cc/\s2.heap.IsCell cc (some (.ref d)):=by
  rcases lkd with ⟨l,_⟩ | ⟨_,c2,e2,h2⟩
  .have l':X.env.scope.names.lookup xs=some .local:=l;rw [hx] at l';cases l'
  exact⟨c2,e2,h2⟩
 obtain⟨cc',ZY⟩:=ph.all xs (wj hs);have e3:=ph.sub _ _ ZY;rw [ecc] at e3;cases e3;have NO:cc≠X.env.locals:=λz=>by
  obtain⟨o,es,ep,ho,Bx,_⟩:=xX;rw [<-z,Ql] at ho;cases ho;rw [Qk] at Bx;cases Bx
 obtain⟨gf,_⟩:=I2.cC f _ hf;obtain⟨gc,_⟩:=I2.cC c' _ mS;obtain⟨zl,jj,dvs,rel,dd⟩:=oj I2.cC hd2;obtain⟨m0,F0⟩:=I2.fr;refine ksk_sorted (kz:=zs.map g) (f:=.ref f) (b:=false) (vs:=aW) (h₀:=H_.rP s2.heap) (L:=X.env.locals) (m:=m) (news:=(a,oa)::H_.ledger s2.heap X.env.locals a) (H_.MS xX) (H_.xO neA ga) w_ (by rw [au,<-rv.length,au]) (by rw [<-rv.length,au];exact h64)
  (ksk_s1 _ _) (λx=>ksk_l1 _ _) (λx=>ksk_t1 f x) (λj v kk hj Zg ou tk own F N=>?_) λD h' tk out cnt F' N' lt' ko=>?_
 .obtain⟨z,t,SD,rfl⟩:=A1 rv j v hj;rw [a9,SD] at Zg;cases Zg;have keep:∀b u,b≠X.env.locals->s2.heap.get? b=some u->ou.get? b=some u:=λb u nb hb=>by
   by_cases e:b=a
   .subst e;rw [ga] at hb;cases hb;exact(N (b,oa) (by simp)).1
   exact(N (b,u) (j8 _ (cY _ (H_.jV.mpr ⟨nb,e,hb⟩)))).1
  have hvz:=hv z (b9 SD);obtain⟨w',hw,zD⟩:=j5.some_of (v:=.int (g z)) (o:=valueAt dvs (Sum.inr z)) (by rw [<-hvz];exact rel.val (Sum.inr z));obtain⟨tw,rfl⟩:=(show ∃t,w'=Value.int (g z) t from zD);have Oi:ou.DictOf (bB X.prog X.w) d dvs:=by
   obtain⟨o,es,ep,g1,r⟩:=dd;exact⟨o,es,ep,keep _ _ Pm g1,r⟩
  have gc2:ou.CodeRec (.ref c') (X.env.qual ++ "<lambda>"):=by
   obtain⟨c2,oc2,XN,t2,e2,yH,jf,NT⟩:=gc;cases e2;exact⟨_,oc2,XN,t2,rfl,keep _ _ (I0 c' _ mS) yH,jf,NT⟩
  have nl:ou.NoLimit:=I2.mod.nolimit.keeps λb o e=>keep b o (cu (gk (bR e) F0.above)) (I2.bk b o e);exact FU (s:={ s2 with heap:=ou,toks:=tk }) (A:=X.A.in1.in1) hr.depth nl (keep _ _ (I0 f _ hf) gf) gc2 (λus hl=>hb _ _ _ _ _ us hl) hk VN MA Vs hh hs ZY (keep _ _ NO Ql) Qk Oi hw d1 d2 d3
   λh3 tk3 YS=>KskEnd.intro (F.kept YS) (N.grown YS) λp hp=>hp
 have keep:∀b u,b≠X.env.locals->s2.heap.get? b=some u->h'.get? b=some u:=λb u nb hb=>by
  by_cases e:b=a
  .subst e;rw [ga] at hb;cases hb;exact(N' (b,oa) (by simp)).1
  exact(N' (b,u) (cY _ (cY _ (H_.jV.mpr ⟨nb,e,hb⟩)))).1
 have hD:s2.heap.get? D=none:=by
  cases e:s2.heap.get? D with
  | none=>rfl
  | some o =>
   exfalso;have nD:D≠X.env.locals:=(N' (D,_) cS).2.1;by_cases ea:D=a
   .have:=lt' (a,oa) cS;rw [ea] at this;exact absurd this (kJ _)
   exact absurd (lt' (D,o) (cY _ (H_.jV.mpr ⟨nD,ea,e⟩))) (kJ _)
 have fD:H2 D=none:=by
  cases e:H2 D with
  | none=>rfl
  | some u =>
   obtain⟨ob,g⟩:=Fm (I2.cC D u e);rw [hD] at g;cases g
 have fD1:H1 D=none:=by
  cases e:H1 D with
  | none=>rfl
  | some u =>
   by_cases z:D=T
   .obtain⟨pt2,eT2,_⟩:=Sv;rw [z,eT2] at fD;cases fD
   rw [st _ _ z e] at fD;cases fD
 rw [ei,<-ez] at ko;obtain⟨qs,eo,pe,ps⟩:=Fe ko;rw [ez] at pe;have gD:=(N' (D,_) cS).1;have lq:qs.length=zs.length:=by have:=pe.length_eq;rw [au] at this;exact this
 have sl:=af fD (.lst ((qs.map (·.1)).map V.str));refine⟨.ref D,_,I2.PL (t':=tk) keep (λm' hm=>?_) hD fD (show cW X.prog X.w _ _ _ (.lst ((qs.map (·.1)).map V.str)) from ⟨by rw [au,au];exact fits ∅,qs.map (λp=>Value.str p.1 p.2),cnt,uc qs,by rw [<-eo];simpa using gD⟩),rfl,q1 D (qs.map (·.1)) _ (λb o n hb=>sl _ _ (st b o n hb)) ?_ fD1 pe ps ae⟩
 .have:=F'.ns;have e:m'=m:=by
   obtain⟨o,es,ep,ho,Bx,_,hf⟩:=hm;obtain⟨o2,es2,DF,Hy,QA,_,Qu⟩:=xX;rw [ho] at Hy;cases Hy;rw [Bx] at QA;cases QA
   funext x
   rw [<-hf x,<-Qu x]
  rw [e];exact this
 obtain⟨R0,b1,b2,b3⟩:=Sv;refine⟨R0,sl _ _ b1,b2,b3.imp id λbN=>?_⟩;obtain⟨c3,e3,g3⟩:=bN;exact⟨c3,e3,sl _ _ g3⟩
end
open PySem M11
def AA {K:bp}{H:Hp}{p D d:Addr}{zs:List Str}{kvs:List (aT×V)}{g:G}{σ:St}{js:List (Nat×Str)}{Qp:Hp->Prop}(hσ:eh ["part"] js σ=[none,aD d])(hp:a_ K H p (zs.map V.str))(hz:zs.length<=1000)
  (hd:Rd H d (.dK kvs))(hv:∀z,bh kvs (Sum.inr z)=(g z).map V.int)(ha:∀z∈zs,(g z).isSome=true)(hD:H D=none)(q:∀H2,aC H H2->H2 D=some (.lst ((zs.map λz=>(g z).getD 0).map V.int))->Qp H2) :
  ∃W:Nat->Nat->List V->St->Hp->Prop,(∃m,W 0 m [] (eh ["part"] js σ) (upd H D (.lst []))) /\
 ∀i m ys σ' H,W i m ys σ' H->((ot K p).stop i H/\Qp H)\/((ot K p).go i H/\∃m',m' < m/\∀x H',(ot K p).lR i H x H'->dB 0 x σ' H' λσ2 H2=>gI σ2 H2 λb H3 =>
  if b=true then AW (fS 1) (fS 0) σ2 H3 λy H4=>H4 D=some (.lst ys)/\ys.length < sizeLine/\W (i+1) m' (ys++[y]) σ2 (upd H4 D (.lst (ys++[y]))) else W (i+1) m' ys σ2 H3):=by
 refine gL (xs:=zs.map V.str) (λi ys σ2 H2=>ys=(((zs.take i).map λz=>(g z).getD 0).map V.int)/\(∃y0,σ2=[y0,aD d])/\aC H H2/\H2 D=some (.lst ys))
  ⟨rfl,⟨none,hσ⟩,af hD _,ae⟩ (λi ys σ2 H2 _ h=>h.2.2.1.tup hp) (λi x ys σ2 H2 ex h=>?_) (λys σ2 H2 h=>?_)
 .obtain⟨rfl,⟨y0,rfl⟩,sm,hd2⟩:=h;rw [a9] at ex;obtain⟨z,ez,rfl⟩:=b_.mp ex;have li:=(bf.mp ez).1;obtain⟨n,en⟩:=ng.mp (ha z (b9 ez));have hg:b0 H2 d (.str z) (some (.int n)):=by
   have:=b0.r (k:=Sum.inr z) (gY.Rd.same hd sm);rw [hv,en] at this;exact this
  refine goN (uH ?_);refine⟨_,rfl,_,rfl,d,_,rfl,hg,hd2,bD (by rw [au,au,dr];omega),?_,⟨_,rfl⟩,?_,ae⟩
  .rw [cK,ez,bA,bA];show _=_++[V.int ((g z).getD 0)];rw [en];rfl
  intro b o hb;rw [ak (λz=>by rw [z,hD] at hb;cases hb)];exact sm b o hb
 obtain⟨rfl,_,sm,hd2⟩:=h;rw [au,cv] at hd2;exact q H2 sm hd2
end L2
namespace gY
open PySem L2 M11
section
def rm (K:bp):Sp:=λvs H Q _=>∃(d r:Addr)(kvs:List (aT×V))(g:G)(ru:aw),vs=[.ref d,.ref r]/\Rd H d (.dK kvs)/\(∀z,bh kvs (Sum.inr z)=(g z).map V.int)/\B0 K H r ru/\ru.2.length<=8/\(∀z∈ru.2,(g z).isSome=true)/\∀H',aC H H'->Q (.int (aM g ru)) H'
def zf:aK ["sizes","rule"] ["sizes","rule"] (ay oU):=iz rfl rfl rfl rfl nofun
def xH (F:hV K "rule_size" "rule_size" oU f fd)(T:Txt mg):bV P w K mg base fK 1 f fd ["sizes","rule"] (rm K):=by
 refine F.ok zf (λvs H Q E h=>?_) (λeX A outer s H vs Q E hr h=>?_)
 .obtain⟨d,r,kvs,g,ru,rfl,_⟩:=h;rfl
 obtain⟨d,r,kvs,g,ru,rfl,hd,hv,⟨p,v1,v2⟩,h8,al,q⟩:=h;have hu:=fu hr;refine⟨_,ao (aL (aH dG ar (aE (lK rfl) rfl T.sum vh (ab (aV ["part"] [(0,"sizes")] rfl (dQ (a7 bI (pv 1) ar (λ_ _=>rfl))) (aP rfl rfl) nofun rfl nofun
   (λ_ _ _ _ _=>aq (i:=0) (show (["part","sizes"]:List Str).Nodup by decide +kernel) rfl (aZ rfl)) (λ_ _ _ _ _=>a0) (λ_ _ _ _ _=>eP hu (pv 1) (pv 0) (λ_ _=>rfl))) ai)))),?_⟩
 dsimp only [GI];refine⟨_,rfl,r,_,_,_,rfl,rfl,v1,rfl,p,rfl,⟨_,v2⟩,λD hD=>AA (g:=g) rfl v2 ∅ hd hv al hD λH2 s2 e2=>?_⟩;refine⟨D,_,rfl,aG.of e2,_,_,rfl,rfl,?_⟩;exact q H2 s2
end
end gY
namespace M11
open PySem
def tL.at_ {aa:List aw}{aY:List (Str×Nat)}(h:tL aa aY):∀(i:Nat)(x:Str) (k:Nat),aY[i]?=some (x,k)->∃de,aa[k]?=some (x,de)/\∀p∈de,p∈(aY.take i).map (·.1):=by
 induction h with
 | nil=>intro i x k e;simp at e
 | @snoc aY k2 ru h e n p ih =>
  intro i x k ei;by_cases hi:i < aY.length
  .rw [pI hi] at ei;obtain⟨de,a,b⟩:=ih i x k ei;exact⟨de,a,λq hq=>by rw [qI (ku hi)];exact b q hq⟩
  have li:=(bf.mp ei).1;rw [bW,gP] at li;have e2:i=aY.length:=by omega
  subst e2;rw [nj (aU _),Nat.sub_self] at ei;cases ei;exact⟨ru.2,e,λq hq=>by rw [List.take_left'];exact p q hq;rfl⟩
end M11
namespace gY
open PySem L2 M11
section
def sP {H:Hp}{p D d:Addr}{zs:List Str}{kvs:List (aT×V)}{σ:St}{js:List (Nat×Str)}{Qp:Hp->Prop}(hσ:eh ["part"] js σ=[none,aD d])(hp:a_ K H p (zs.map V.str))(hz:zs.length<=1000)
  (hd:H d=some (.dK kvs))(ha:∀z∈zs,(Sum.inr z:aT)∈kvs.map (·.1))(hD:H D=none)(q:∀ys H2,ys.length=zs.length->aC H H2->H2 D=some (.lst ys)->Qp H2) :
  ∃W:Nat->Nat->List V->St->Hp->Prop,(∃m,W 0 m [] (eh ["part"] js σ) (upd H D (.lst []))) /\
 ∀i m ys σ' H,W i m ys σ' H->((ot K p).stop i H/\Qp H)\/((ot K p).go i H/\∃m',m' < m/\∀x H',(ot K p).lR i H x H'->dB 0 x σ' H' λσ2 H2=>gI σ2 H2 λb H3 =>
  if b=true then AW (fS 1) (fS 0) σ2 H3 λy H4=>H4 D=some (.lst ys)/\ys.length < sizeLine/\W (i+1) m' (ys++[y]) σ2 (upd H4 D (.lst (ys++[y]))) else W (i+1) m' ys σ2 H3):=by
 refine gL (xs:=zs.map V.str) (λi ys σ2 H2=>ys.length=i/\(∃y0,σ2=[y0,aD d])/\aC H H2/\H2 D=some (.lst ys))
  ⟨rfl,⟨none,hσ⟩,af hD _,ae⟩ (λi ys σ2 H2 _ h=>h.2.2.1.tup hp) (λi x ys σ2 H2 ex h=>?_) (λys σ2 H2 h=>?_)
 .obtain⟨rfl,⟨y0,rfl⟩,sm,hd2⟩:=h;rw [a9] at ex;obtain⟨z,ez,rfl⟩:=b_.mp ex;have li:=(bf.mp ez).1;obtain⟨v,ev⟩:=ng.mp ((eK kvs (Sum.inr z)).mpr (ha z (b9 ez)));have hg:b0 H2 d (.str z) (some v):=by
   have:=b0.k (k:=Sum.inr z) (sm _ _ hd);rw [ev] at this;exact this
  refine goN (uH ?_);refine⟨_,rfl,_,rfl,d,_,rfl,hg,hd2,bD ∅,by rw [bW];rfl,⟨_,rfl⟩,?_,ae⟩;intro b o hb;rw [ak (λz=>by rw [z,hD] at hb;cases hb)];exact sm b o hb
 obtain⟨e,_,sm,hd2⟩:=h;rw [au] at e;exact q ys H2 e sm hd2
def uj (K:bp):Sp:=λvs H Q _=>∃(R D:Addr)(rs ts:List Addr)(aa:List aw)(aY:List (Str×Nat)),vs=[.ref R,.ref D]/\aG K H R (rs.map V.ref)/\bQ K H rs aa/\aa.length<=1000/\(∀ru∈aa,ru.2.length<=8)/\aG K H D (ts.map V.ref)/\lX K H ts aY/\tL aa aY/\aY.length<=1000 /\
 ∀(d:Addr)(kvs:List (aT×V))(H':Hp),H d=none->aC H H'->H' d=some (.dK kvs)->kvs.map (·.1)=(aY.map (·.1)).map Sum.inr->Q (.ref d) H'
def lG:aK ["rules","empties","trees","name","number"] ["rules","empties"] (ay rH):=iz rfl rfl rfl rfl nofun
def zR (F:hV K "empty_by_name" "empty_by_name" rH f fd)(T:Txt mg):bV P w K mg base fK 1 f fd ["rules","empties"] (uj K):=by
 refine F.ok lG (λvs H Q E h=>?_) (λeX A outer s H vs Q E hr h=>?_)
 .obtain⟨R,D,rs,ts,aa,aY,rfl,_⟩:=h;rfl
 obtain⟨R,D,rs,ts,aa,aY,rfl,hR,cy,bu,h8,hD,Zm,Qv,Qx,q⟩:=h;have hu:=fu hr;refine⟨_,ag (aA (i:=2) lG.nd rfl (Or.inr rfl) fk)
  (ag (bE bX rfl (aR (pv 1)) (d_ (n:=2) K rfl (av (aq (i:=3) lG.nd rfl (aZ rfl)) (av (aq (i:=4) lG.nd rfl (aZ rfl)) bo)))
   (ao (fV hu (pv 2) (pv 3) (bC (ab (pv 4) (ab (aX jh rfl T.tup yP (ab (aV ["part"] [(2,"trees")] rfl (dQ (a7 bI (a7 bZ (pv 0) (pv 4) (λ_ _=>rfl)) ar (λ_ _=>rfl))) (aP rfl rfl) nofun rfl nofun
    (λ_ _ _ _ _=>aq (i:=0) (show (["part","trees"]:List Str).Nodup by decide +kernel) rfl (aZ rfl)) (λ_ _ _ _ _=>a0) (λ_ _ _ _ _=>eP hu (pv 1) (pv 0) (λ_ _=>rfl))) ai)) ai))) rfl)))
  (ao (aL (pv 2)))),?_⟩
 nofun
 refine λd uM=>?_;have s1:=af uM (.dK []);have e1:upd H d (.dK []) d=some (.dK []):=ae;generalize upd H d (.dK [])=H1 at s1 e1;refine goN ?_
 ac_rfl
 have lt:=bc Zm;have ll:=bc cy;have nd:=Qv.nd
 let oo:lW:=λi σ H3=>∃(kvs:List (aT×V))(y3 y4:Option V),σ=[aD R,aD D,aD d,y3,y4]/\aC H H3/\H3 d=some (.dK kvs)/\kvs.map (·.1)=((aY.take i).map (·.1)).map Sum.inr
 refine⟨_,rfl,D,rfl,⟨_,s1.seq hD⟩,cq (xs:=ts.map V.ref) oo ⟨[],_,_,rfl,s1,e1,rfl⟩ ?_ ?_ ?_⟩
 .rintro i σ H3 _ ⟨kvs,y3,y4,rfl,s3,_⟩;exact s3.seq hD
 .rintro i x σ H3 ex ⟨kvs,y3,y4,rfl,s3,ed,ek⟩
  ac_nf0
  rw [a9] at ex;obtain⟨t,et,rfl⟩:=b_.mp ex;have li:=(bf.mp et).1;obtain⟨e,ee⟩:∃e,aY[i]?=some e:=⟨aY[i]'∅,dI ∅⟩;obtain⟨t',sG,vt⟩:=Paired.at_ Zm i e ee;rw [et] at sG;cases sG;obtain⟨x,k⟩:=e;obtain⟨de,hk,Sj⟩:=Qv.at_ i x k ee;obtain⟨r,er,p,v1,v2⟩:=Paired.at_ cy k _ hk;have sY:lV (rs.map V.ref) (k:Int)=some (.ref r):=bT (by rw [a9,er];rfl);have Y9:de.length<=8:=h8 _ (b9 hk);refine⟨t,_,rfl,s3.tup vt,rfl,_,_,rfl,_,_,rfl,rfl,?_⟩;refine⟨_,rfl,_,rfl,_,rfl,R,_,_,_,rfl,rfl,s3.seq hR,sY,r,_,_,_,rfl,rfl,s3.tup v1,rfl,p,rfl,⟨_,s3.tup v2⟩,λD2 jD=>sP (zs:=de) rfl (s3.tup v2) ∅ ed (λz hz=>by rw [ek];exact cP.mpr (Sj z hz)) jD λys H4 ly s4 e4=>?_⟩;refine⟨D2,ys,rfl,.inl ⟨aG.of e4,λt2 V3=>⟨qW,λCD MV=>?_⟩⟩⟩;have k5:=(af V3 (.tup ys)).trans (af MV (.tup [.int (k:Int),.ref t2]));generalize upd (upd H4 t2 (.tup ys)) CD (.tup [.int (k:Int),.ref t2])=H5 at k5;have ed5:=k5 _ _ (s4 _ _ ed);have lkv:kvs.length=i:=by
   have:=congrArg List.length ek;rw [au,au,au,dr] at this;omega
  have nx:x∉(aY.take i).map (·.1):=λz=>by
   obtain⟨e2,m2,q2⟩:=cx.mp z;obtain⟨j,hj⟩:=fj m2;rw [List.getElem?_take] at hj
   split at hj
   .rename_i Zh
    have a1:(aY.map (·.1))[j]?=some x:=by rw [a9,hj];exact congrArg some q2
    have a2:(aY.map (·.1))[i]?=some x:=by rw [a9,ee];rfl
    have:=(List.getElem?_inj (by rw [au];omega) nd).mp (a1.trans a2.symm);omega
   cases hj
  refine⟨_,rfl,_,rfl,d,_,rfl,.inl ⟨kvs,Sum.inr x,ed5,rfl,bD ∅,rfl⟩,?_⟩;refine⟨_,_,_,rfl,λb o hb=>?_,ae,?_⟩
  .rw [ak (λz=>by rw [z,uM] at hb;cases hb)];exact k5 _ _ (s4 _ _ (s3 b o hb))
  rw [gS (by rw [ek];exact λz=>nx (cP.mp z)),ek,cK,ee,bA,bA];rfl
 rintro σ H3 ⟨kvs,y3,y4,rfl,s3,ed,ek⟩;rw [au,lt,cv] at ek;exact⟨_,rfl,q d kvs H3 uM s3 ed ek⟩
end
end gY
namespace M11
open PySem
def Le (g' g:G):Prop:=∀z n,g z=some n->∃m,g' z=some m/\m<=n
def ya {g:G}{ru:aw}(f:c_ bl g ru=true):kc g ru=true/\∀n,g ru.1=some n->aM g ru < n:=by
 unfold c_ at f;rw [kr] at f;refine⟨f.1,λn e=>?_⟩;have:=f.2;rw [e] at this;have:(!(some n:Option Int).isSome || bl (aM g ru) n)=true:=this
 simpa [bl] using this
def le_step {g:G}{ru:aw}(f:c_ bl g ru=true):Le (dW g ru.1 (aM g ru)) g:=λz n e=>by
 unfold dW;by_cases c:z=ru.1
 .rw [ax c];subst c;exact⟨_,rfl,Int.le_of_lt ((ya f).2 n e)⟩
 rw [az c];exact⟨n,e,j7 _⟩
theorem Ef {g g':G}(h:Le g' g):∀ps:List Str,(∀p∈ps,(g p).isSome=true)->(∀p∈ps,(g' p).isSome=true)/\(ps.map λp=>(g' p).getD 0).sum<=(ps.map λp=>(g p).getD 0).sum
 | [],_=>⟨λp hp=>(by cases hp),j7 _⟩
 | p::r,a=>by
  obtain⟨h1,h2⟩:=Ef h r λq hq=>a q (cY _ hq);obtain⟨n,en⟩:=ng.mp (a p cS);obtain⟨m,em,lm⟩:=h p n en;refine⟨λq hq=>?_,?_⟩
  .rcases b8.mp hq with rfl | hq
   .rw [em];rfl
   exact h1 q hq
  rw [cE,cE,kq,kq,en,em];show m+_<=n+_;omega
def uY {g:G}{ru:aw}:kc g ru=true↔∀p∈ru.2,(g p).isSome=true:=by
 unfold kc;rw [dN]
def size_le {g g':G}{ru:aw}(h:Le g' g)(a:kc g ru=true):kc g' ru=true/\aM g' ru<=aM g ru:=by
 obtain⟨h1,h2⟩:=Ef h ru.2 (uY.mp a);exact⟨uY.mpr h1,by unfold aM;omega⟩
def Oj (aa:List aw) (hs:List Str)(g:G):Prop:=∀h n,g h=some n->h∉hs\/∃ru∈aa,ru.1=h/\kc g ru=true/\aM g ru<=n
def DT {aa:List aw}{hs:List Str}(g:G)(ru:aw)(j:Oj aa hs g)(m:ru∈aa)(f:c_ bl g ru=true):Oj aa hs (dW g ru.1 (aM g ru)):=λh n e=>by
 have le:=le_step f;by_cases c:h=ru.1
 .have e2:n=aM g ru:=by
   unfold dW at e;rw [ax c] at e;exact(gO e).symm
  obtain⟨a1,a2⟩:=size_le le (ya f).1;exact .inr ⟨ru,m,c.symm,a1,∅⟩
 have e2:g h=some n:=by
  unfold dW at e;rw [az c] at e;exact e
 rcases j h n e2 with h1 | ⟨EW,m2,q2,a2,l2⟩
 .exact .inl h1
 obtain⟨b1,b2⟩:=size_le le a2;exact .inr ⟨EW,m2,q2,b1,∅⟩
def CH {aa:List aw}{hs:List Str}{g0 g:G}(j0:Oj aa hs g0)(st:eJ bl aa g0 g)(se:iE bl aa g){h:Str}{n:Int}(hh:h∈hs)(e:g h=some n):∃ru∈aa,ru.1=h/\kc g ru=true/\aM g ru=n:=by
 have j:Oj aa hs g:=eJ.keep (J:=Oj aa hs) (λg ru j m f=>DT g ru j m f) st j0;rcases j h n e with z | ⟨ru,m,q,a,l⟩
 .exact absurd hh z
 refine⟨ru,m,q,a,?_⟩;have f:=se ru m;unfold c_ at f;rw [a,q,e] at f;have f:(true && (!(some n:Option Int).isSome || bl (aM g ru) n))=false:=f
 have f2:¬aM g ru < n:=by simpa [bl] using f
 omega
theorem Bq {g:G}(nn:NN g):∀(ps:List Str)(p:Str) (m:Int),p∈ps->g p=some m->m<=(ps.map λp=>(g p).getD 0).sum
 | q::r,p,m,hp,e=>by
  rw [cE,kq];have h1:=jM g nn r;rcases b8.mp hp with rfl | hp
  .rw [e];show m<=m+_;omega
  have h2:=Bq nn r p m hp e;have h3:0<=(g q).getD 0:=by
   cases eq:g q with
   | none=>exact j7 _
   | some n=>exact nn q n eq
  omega
def Ck {g:G}(nn:NN g){ru:aw}{p:Str}{m:Int}(hp:p∈ru.2)(e:g p=some m):m < aM g ru:=by
 have:=Bq nn ru.2 p m hp e;unfold aM;omega
theorem AO:∀(br ps bF:List Str),(∀z∈bF,z∉br)->∀z∈tH br bF ps,z∉br
 | _,[],bF,h=>h
 | br,p::r,bF,h=>by
  show ∀z∈tH br (addW br bF p) r,z∉br;refine AO br r _ ?_;unfold addW
  split
  .exact h
  rename_i hp
  unfold gr
  split
  .exact h
  intro z hz;rcases cg.mp hz with hz | hz
  .exact h z hz
  rw [bH.mp hz];exact hp
def vI {g:Str->Int}{zs:List Str}(h:zs.Pairwise λx y=>g x<=g y){i:Nat}{x p:Str}(e:zs[i]?=some x)(hp:p∈zs)(l:g p < g x):p∈zs.take i:=by
 obtain⟨j,ej⟩:=fj hp;obtain⟨li,ei⟩:=bf.mp e;obtain⟨lj,ej2⟩:=bf.mp ej;have Zh:j < i:=by
  rcases Nat.lt_trichotomy j i with h1 | h1 | h1
  .exact h1
  .subst h1;rw [e] at ej;cases ej;omega
  have:=List.pairwise_iff_getElem.mp h i j li lj h1;rw [ei,ej2] at this;omega
 rw [List.mem_iff_getElem?];exact⟨j,by rw [List.getElem?_take,ax Zh];exact ej⟩
end M11
namespace gY
open PySem L2 M11
def Tq (aa:List aw):Oj aa (hd aa) (wG aa):=λh n e=>by
 unfold wG at e;by_cases c:h∈tH (hd aa) [] (aa.flatMap (·.2))
 .exact .inl (AO _ _ [] (λz hz=>by cases hz) h c)
 rw [az c] at e;cases e
def nn0 (aa:List aw):NN (wG aa):=λh n e=>by
 unfold wG at e;by_cases c:h∈tH (hd aa) [] (aa.flatMap (·.2))
 .rw [ax c] at e;cases e;exact j7 _
 rw [az c] at e;cases e
def LY {aa:List aw}{g:G}(st:eJ M11.bl aa (wG aa) g):NN g:=eJ.keep (J:=NN) (λg ru j m f=>wg j ru) st (nn0 aa)
theorem qj (br:List Str):∀(ps bF:List Str)(x:Str),(x∈bF\/(x∈ps/\x∉br))->x∈tH br bF ps
 | [],bF,x,h=>by
  rcases h with h | ⟨h,_⟩
  .exact h
  cases h
 | p::r,bF,x,h=>by
  show x∈tH br (addW br bF p) r;apply qj br r;unfold addW;by_cases c:p∈br
  .rw [ax c];rcases h with h | ⟨h,n⟩
   .exact .inl h
   rcases b8.mp h with z | z
   .exact absurd (z ▸ c) n
   exact .inr ⟨z,n⟩
  rw [az c];rcases h with h | ⟨h,n⟩
  .exact .inl ((lh _ _ _).mpr (.inl h))
  rcases b8.mp h with z | z
  .exact .inl ((lh _ _ _).mpr (.inr z))
  exact .inr ⟨z,n⟩
noncomputable def Pe:List Stmt->Pos
 | [_,_,_,.For _ (.Call _ _ [⟨_,.Lambda _ _ _ pos,_⟩] _) _ _ _,_]=>pos
 | _=>⟨0,0,0,0⟩
abbrev posB:Pos:=Pe (cQ nQ)
noncomputable abbrev Hr:Str := "least_by_part" ++ ".<locals>." ++ "<lambda>"
section
def oS (K:bp)(T1 T3:Addr):Sp:=λvs H Q _=>∃(R:Addr)(rs:List Addr)(aa:List aw),vs=[.ref R]/\aG K H R (rs.map V.ref)/\bQ K H rs aa/\aa.length < 64/\(∀ru∈aa,ru.2.length<=8)/\(∀g,eJ M11.bl aa (wG aa) g->iE M11.bl aa g->∀h∈hd aa,∃n,g h=some n/\n<=60)/\Tab T1 rS.2.2.2 yE H/\Tab T3 posB Hr H/\T1≠T3 /\
 ∀(d:Addr)(kvs:List (aT×V))(H':Hp),H d=none->mh T1 T3 H H'->Tab T1 rS.2.2.2 yE H'->Tab T3 posB Hr H'->H' d=some (.dK kvs)->(∀z,z∈hd aa->(Sum.inr z:aT)∈kvs.map (·.1))->Q (.ref d) H'
structure LB (K:bp)(rs:List Addr)(aa:List aw)(qx:List (aT×V))(ps:List (Str×Addr))(R dz dn T1 T3:Addr)(H5:Hp):Prop where
 hR:aG K H5 R (rs.map V.ref)
 cy:bQ K H5 rs aa
 nm:HY ps (λn=>nums aa n aa.length) H5 dn
 rz:Rd H5 dz (.dK qx)
 t1:Tab T1 rS.2.2.2 yE H5
 t3:Tab T3 posB Hr H5
theorem LB.same {rs:List Addr}{aa:List aw}{qx:List (aT×V)}{ps:List (Str×Addr)}{R dz dn T1 T3:Addr}{H5 H6:Hp}(h:LB K rs aa qx ps R dz dn T1 T3 H5)(s:aC H5 H6):LB K rs aa qx ps R dz dn T1 T3 H6 :=
 ⟨s.seq h.hR,h.cy.same s,h.nm.same s,gY.Rd.same h.rz s,h.t1.same s,h.t3.same s⟩
def LB.Kk {rs:List Addr}{aa:List aw}{qx:List (aT×V)}{ps:List (Str×Addr)}{R dz dn T1 T3 d:Addr}{H5 H6:Hp}{kv:List (aT×V)}(h:LB K rs aa qx ps R dz dn T1 T3 H5)(e:H5 d=some (.dK kv))(n1:dn≠d)(n2:dz≠d)(s:gu d H5 H6):LB K rs aa qx ps R dz dn T1 T3 H6:=by
 have tk:∀a xs,a_ K H5 a xs->a_ K H6 a xs:=λa xs z=>by
  rcases z with (z | ⟨u,z⟩) | z
  .exact .inl (.inl (s _ _ (λy=>by rw [y,e] at z;cases z) z))
  .exact .inl (.inr ⟨u,s _ _ (λy=>by rw [y,e] at z;cases z) z⟩)
  exact .inr z
 have tb:∀{T':Addr}{pos':Pos}{Ho:Str},Tab T' pos' Ho H5->Tab T' pos' Ho H6:=λ{T' pos' Ho} ⟨p,a,b,cc⟩=>⟨p,s _ _ (λy=>by rw [y,e] at a;cases a) a,b,cc.imp id λ⟨c',e1,e2⟩=>⟨c',e1,s _ _ (λy=>by rw [y,e] at e2;cases e2) e2⟩⟩;refine⟨?_,h.cy.keep tk,⟨s _ _ n1 h.nm.hd,h.nm.n1,h.nm.n2,λp hp=>s _ _ (λy=>by have a:=h.nm.lst p hp;rw [y,e] at a;cases a) (h.nm.lst p hp)⟩,?_,tb h.t1,tb h.t3⟩
 .rcases h.hR with (z | ⟨u,z⟩) | z
  .exact .inl (.inl (s _ _ (λy=>by rw [y,e] at z;cases z) z))
  .exact .inl (.inr ⟨u,s _ _ (λy=>by rw [y,e] at z;cases z) z⟩)
  exact .inr z
 rcases h.rz with z | ⟨u,z⟩
 .exact .inl (s _ _ n2 z)
 exact .inr ⟨u,s _ _ n2 z⟩
def LB.OW {rs:List Addr}{aa:List aw}{qx:List (aT×V)}{ps:List (Str×Addr)}{R dz dn T1 T3:Addr}{H5 H6:Hp}(h:LB K rs aa qx ps R dz dn T1 T3 H5)(nT:T1≠T3)(s:gu T3 H5 H6)(t:Tab T3 posB Hr H6):LB K rs aa qx ps R dz dn T1 T3 H6:=by
 obtain⟨pt,eT,_⟩:=id h.t3;refine⟨Bf s h.t3 h.hR,h.cy.keep λ_ _ z=>AR s h.t3 z,⟨s _ _ (λy=>by have a:=h.nm.hd;rw [y,eT] at a;cases a) h.nm.hd,h.nm.n1,h.nm.n2,λp hp=>s _ _ (λy=>by have a:=h.nm.lst p hp;rw [y,eT] at a;cases a) (h.nm.lst p hp)⟩,?_,AU s h.t3 h.t1 nT,t⟩;rcases h.rz with z | ⟨u,z⟩
 .exact .inl (s _ _ (λy=>by rw [y,eT] at z;cases z) z)
 exact .inr ⟨u,s _ _ (λy=>by rw [y,eT] at z;cases z) z⟩
theorem o7:∀(hs:List Str)(bF:List (aT×V)) (as:List Str),bF.map (·.1)=as.map Sum.inr->(cM (hs.map λh=>((Sum.inr h:aT),V.str h)) bF).map (·.1)=(M11.lU as hs).map Sum.inr
 | [],bF,as,e=>e
 | h::r,bF,as,e=>o7 r (bM bF (Sum.inr h) (.str h)) (M11.gr as h) (gY.jy e h)
def iG:aK ["rules","numbers","trees","name","least","sizes"] ["rules"] (ay nQ):=iz rfl rfl rfl rfl nofun
def zO {T1 T3:Addr}(F:yy K "least_by_part" "least_by_part" nQ f fd T3)(T:Txt mg)(hB:tG mg base)(hS:mg "sorted"=none)(GH:aF P w K mg base 3 "heads_of" ["rules"] (i5 K))(GL:aF P w K mg base 3 "least_sizes" ["rules"] (ql K T1))(GN:aF P w K mg base 3 "numbers_by_name" ["rules"] (Ek K))(GZ:aF P w K mg base 3 "rule_size" ["sizes","rule"] (rm K)):bV P w K mg base fK 4 f fd ["rules"] (oS K T1 T3):=by
 refine F.ok iG (λvs H Q E h=>?_) (λc A outer s H vs Q E hC hr h=>?_)
 .obtain⟨R,rs,aa,rfl,_⟩:=h;rfl
 obtain⟨R,rs,aa,rfl,hR,cy,bu,h8,Gd,Jo,VR,nT,q⟩:=h;have hu:=fu hr;refine⟨_,ag (aA (i:=5) iG.nd rfl (Or.inr rfl) (bq GL hr rfl (ab (pv 0) ai)))
  (ag (aA (i:=1) iG.nd rfl (Or.inr rfl) (bq GN hr rfl (ab (pv 0) ai)))
  (ag (aA (i:=2) iG.nd rfl (Or.inr rfl) (aX (cV rfl) rfl T.wO dS (ab (aV ["part"] [(1,"numbers")] rfl (Bn (pv 5)) (aP rfl rfl) nofun rfl nofun
    (λ_ _ _ _ _=>aq (i:=0) (show (["part","numbers"]:List Str).Nodup by decide +kernel) rfl (aZ rfl)) (λ_ _ _ _ _=>gC (dP (df hu (pv 0) (pv 1)))) (λ_ _ _ _ _=>bC (ab (pv 0) (ab (pv 0) ai)))) ai)))
  (ag (bE bX rfl (aR (E9 (i:=5) (T:=T3) hr rfl hC hB rfl hS (ab (bq GH hr rfl (ab (pv 0) ai)) ai) rfl rfl (λy hy=>by
    rcases b8.mp hy with h | h
    .cases h
    rcases b8.mp h with h | h
    .cases h;rfl
    cases h) (λq cl pm gN c' us hl=>match us,hl with | [_],_=>rfl) rfl rfl rfl nofun rfl rfl)) (aq (i:=3) iG.nd rfl (Or.inr rfl))
   (ag (gB (iy:=4) ["number"] [(5,"sizes"),(0,"rules"),(3,"name")] iG.nd rfl rfl rfl (aR (eP hu (pv 1) (pv 3) (λ_ _=>rfl))) (aP rfl rfl) nofun rfl nofun
    (λ_ _ _ _ _=>aq (i:=0) (show (["number","sizes","rules","name"]:List Str).Nodup by decide +kernel) rfl (aZ rfl)) (λ_ _ _ _ _=>gC (aQ gJ (bq GZ hr rfl (ab (pv 1) (ab (a7 (FX K) (pv 2) (pv 0) (λ_ _=>rfl)) ai))) (eP hu (pv 1) (pv 3) (λ_ _=>rfl)) (bx _))) (λ_ _ _ _ _=>pv 0))
   (ao (fV hu (pv 2) (pv 3) (bC (ab (a7 bZ (pv 4) ar (λ_ _=>rfl)) (ab (aX jh rfl T.tup yP (ab (aV ["part"] [(2,"trees")] rfl (dQ (a7 bI (a7 bZ (pv 0) (a7 bZ (pv 4) ar (λ_ _=>rfl)) (λ_ _=>rfl)) ar (λ_ _=>rfl))) (aP rfl rfl) nofun rfl nofun
    (λ_ _ _ _ _=>aq (i:=0) (show (["part","trees"]:List Str).Nodup by decide +kernel) rfl (aZ rfl)) (λ_ _ _ _ _=>a0) (λ_ _ _ _ _=>eP hu (pv 1) (pv 0) (λ_ _=>rfl))) ai)) ai))) rfl))))
  (ao (aL (pv 2)))))),?_⟩
 nofun
 refine⟨_,rfl,R,rs,aa,rfl,hR,cy,∅,h8,Jo,λdz qx Kh g H1 fz s1 t1 ez kz vz RQ X_ lz=>?_⟩;refine goN ?_
 ac_rfl
 have Zr:=Bf s1 Jo hR;have Qh:=cy.keep λ_ _ z=>AR s1 Jo z;have XZ:=AU s1 Jo VR (fO nT);refine⟨_,rfl,R,rs,aa,rfl,Zr,Qh,∅,λdn ps H2 fn s2 nm pk pf=>?_⟩;refine goN ?_
 ac_rfl
 have Kx:=s2 _ _ ez;refine⟨_,rfl,dz,qx,rfl,Kx,λo D hD=>?_⟩;have Ur:∀p∈ps,p.2≠dz:=λp hp z=>by
  have a:=nm.lst p hp;rw [z,Kx] at a;cases a
 have ndz:dn≠dz:=λz=>by rw [z,ez] at fn;cases fn
 have nz1:T1≠dz:=λz=>by
  obtain⟨p,a,_⟩:=t1;rw [z,ez] at a;cases a
 have nz3:T3≠dz:=λz=>by
  obtain⟨p,a,_⟩:=XZ;rw [z,ez] at a;cases a
 have OD:∀{T':Addr}{pos':Pos}{Ho:Str},T'≠dz->Tab T' pos' Ho H2->Tab T' pos' Ho (upd H2 dz (.ki o (.dK qx))):=λ{T' pos' Ho} n ⟨p,a,b,cc⟩=>⟨p,by rw [ak n];exact a,b,cc.imp id λ⟨c',e1,e2⟩=>⟨c',e1,by rw [ak (λz=>by rw [z,Kx] at e2;cases e2)];exact e2⟩⟩;have L3:LB K rs aa qx ps R dz dn T1 T3 (upd H2 dz (.ki o (.dK qx))):=by
  refine⟨?_,(Qh.same s2).keep λ_ _ z=>hZ Kx z,⟨by rw [ak ndz];exact nm.hd,nm.n1,nm.n2,λp hp=>by rw [ak (Ur p hp)];exact nm.lst p hp⟩,.inr ⟨o,ae⟩,OD nz1 (t1.same s2),OD nz3 (XZ.same s2)⟩;rcases s2.seq Zr with (h | ⟨u,h⟩) | h
  .exact .inl (.inl (by rw [ak (λz=>by rw [z,Kx] at h;cases h)];exact h))
  .exact .inl (.inr ⟨u,by rw [ak (λz=>by rw [z,Kx] at h;cases h)];exact h⟩)
  exact .inr h
 have e3:upd H2 dz (.ki o (.dK qx)) dz=some (.ki o (.dK qx)):=ae;have yD:mh T1 T3 H (upd H2 dz (.ki o (.dK qx))):=λb u n1 n3 hb=>by
  rw [ak (λz=>by rw [z,fz] at hb;cases hb)];exact s2 _ _ (s1 b u n1 hb)
 generalize upd H2 dz (.ki o (.dK qx))=H3 at hD L3 e3 yD ⊢;have lkz:qx.length=Kh.length:=by
  have:=congrArg List.length kz;rwa [au,au] at this
 refine sU (λi ys σ2 H4=>∃ts:List Addr,ys=ts.map V.ref/\(∃y0,σ2=[y0,aD dn])/\aC H3 H4/\H4 D=some (.lst ys)/\ts.length<=i/\Paired (λt h=>a_ K H4 t [.str h,.str h]) ts ((Kh.take i).filter λz=>!decide (z∈hd aa)))
  ⟨[],rfl,⟨none,rfl⟩,af hD _,ae,aU _,.nil⟩ (λi ys σ2 H4 _ h=>?_) (λi kv ys σ2 H4 ex h=>?_) (λys σ2 H4 h=>?_)
 .obtain⟨_,_,_,sm,_⟩:=h;exact sm _ _ e3
 .obtain⟨ts,rfl,⟨y0,rfl⟩,sm,e4,UM,pt⟩:=h;obtain⟨z,ezz,ekz⟩:∃z,Kh[i]?=some z/\kv.1=Sum.inr z:=by
   have a1:(qx.map (·.1))[i]?=some kv.1:=by rw [a9,ex];rfl
   rw [kz,a9] at a1;obtain⟨z,a2,a3⟩:=b_.mp a1;exact⟨z,a2,a3.symm⟩
  rw [ekz];have L4:=L3.same sm;have VB:(bh (ps.map ij) (Sum.inr z)).isSome=decide (z∈hd aa):=by
   rw [gi,eK,decide_eq_true_iff,<-pk];rw [ik];constructor
   .intro h;obtain⟨p,hp,e⟩:=cx.mp h;exact cx.mpr ⟨p,hp,jJ e⟩
   intro h;obtain⟨p,hp,e⟩:=cx.mp h;exact cx.mpr ⟨p,hp,congrArg Sum.inr e⟩
  refine goN ?_;refine⟨_,rfl,_,rfl,dn,_,rfl,b0.k (k:=Sum.inr z) L4.nm.hd,_,rfl,?_⟩;rw [VB];have QS:((Kh.take (i+1)).filter λz=>!decide (z∈hd aa))=((Kh.take i).filter λz=>!decide (z∈hd aa))++(if (!decide (z∈hd aa))=true then [z] else []):=by
   rw [cK,ezz,qF]
   congr 1
   by_cases c:z∈hd aa <;> simp [c]
  refine bJ (λcc=>?_) (λcc=>?_)
  .refine⟨_,rfl,_,rfl,qW,λt ht=>?_⟩;have k5:=af ht (.tup [kV (Sum.inr z),kV (Sum.inr z)]);have v5:a_ K (upd H4 t (.tup [kV (Sum.inr z),kV (Sum.inr z)])) t [.str z,.str z]:=a_.of ae;generalize upd H4 t (.tup [kV (Sum.inr z),kV (Sum.inr z)])=H5 at k5 v5;have li:=(bf.mp ex).1;have e5:=k5 _ _ e4;refine⟨e5,bD (by rw [au];omega),ts++[t],by rw [bA];rfl,⟨_,rfl⟩,λb u hb=>?_,ae,by rw [bW,gP];omega,?_⟩
   .rw [ak (λz=>by rw [z,hD] at hb;cases hb)];exact k5 _ _ (sm b u hb)
   rw [QS,ax cc];exact gF (Paired.dH pt λ_ _ z=>bj e5 (k5.tup z)) (bj e5 v5)
  refine⟨ts,rfl,⟨_,rfl⟩,sm,e4,∅,?_⟩;rw [QS,az cc,il];exact pt
 obtain⟨ts,rfl,_,s4,e4,UM,pt⟩:=h;rw [lkz,cv] at pt;have YZ:∀z,z∉hd aa->(g z).isSome=true->z∈Kh.filter λz=>!decide (z∈hd aa):=λz hz gz=>by
  refine i0.mpr ⟨?_,by simpa using hz⟩;have a1:(bh qx (Sum.inr z)).isSome=true:=by rw [vz,pH];exact gz
  rw [eK,kz] at a1;exact cP.mp a1
 have lws:(Kh.filter λz=>!decide (z∈hd aa)).length<=20000:=f_ (l7 _ _) ∅;generalize Kh.filter (λz=>!decide (z∈hd aa))=ws at pt YZ lws;have kp:Paired (λt (kv:aT×V)=>a_ K H4 t [kV kv.1,kv.2]) ts (ws.map λh=>((Sum.inr h:aT),V.str h)):=cZ pt λ_ _ z=>z;refine⟨D,ts,_,rfl,e4,kp,λdt Bx=>?_⟩;have kt:∀z∈ws,(Sum.inr z:aT)∈(cM (ws.map λh=>((Sum.inr h:aT),V.str h)) []).map (·.1):=λz hz=>by
  rw [o7 ws [] [] rfl];exact cP.mpr ((hJ ws [] z).mpr (.inr hz))
 have lkt:(cM (ws.map λh=>((Sum.inr h:aT),V.str h)) []).length<=20000:=by
  have a:=congrArg List.length (o7 ws [] [] rfl);rw [au,au] at a;have:=hU ws [];simp only [jl] at this;omega
 generalize cM (ws.map λh=>((Sum.inr h:aT),V.str h)) []=PN at kt lkt;have s5:=s4.trans (af Bx (.dK PN));have e5:upd H4 dt (.dK PN) dt=some (.dK PN):=ae;have Kv:H3 dt=none:=s4.free Bx;generalize upd H4 dt (.dK PN)=H5 at s5 e5;have L5:=L3.same s5;refine goN ?_
 ac_rfl
 refine⟨_,rfl,R,rs,aa,rfl,L5.hR,L5.cy,∅,λDH H6 fH s6 eH=>?_⟩;have L6:=L5.same s6;have Md:=hU (aa.map (·.1)) [];simp only [jl,au] at Md;have gz:∀z∈hd aa,∃n,g z=some n:=λz hz=>by
  obtain⟨n,e,_⟩:=Gd g RQ X_ z hz;exact⟨n,e⟩
 refine⟨L6.t3,DH,hd aa,dz,qx,λz=>(g z).getD 0,rfl,aG.of eH,by unfold hd;omega,rfl,L6.rz,λz hz=>by obtain⟨n,e⟩:=gz z hz;rw [vz,e];show _=some (V.int ((g z).getD 0));rw [e];rfl,λl yV H7 s7 t37 fl pe pw el=>?_⟩;have L7:=L6.OW nT s7 t37;have Uy:dt≠T3:=λz=>by
  obtain⟨p,a,_⟩:=L5.t3;rw [<-z,e5] at a;cases a
 have e7:=s7 _ _ Uy (s6 _ _ e5);have YD:dn≠dt:=λz=>by have a:=L3.nm.hd;rw [z,Kv] at a;cases a
 have Yx:dz≠dt:=λz=>by rw [<-z,e3] at Kv;cases Kv
 have Lw:mh T1 T3 H H7:=λb u n1 n3 hb=>s7 _ _ n3 (s6 _ _ (s5 _ _ (yD b u n1 n3 hb)));have Uv:l≠dt:=λz=>by rw [z,s6 _ _ e5] at fl;cases fl
 have nn:=LY RQ;have hlz:yV.length < 64:=by rw [pe.length_eq];unfold hd;omega
 have Ri:∀ru∈aa,∀p∈ru.2,(g p).isSome=true:=λru gX p hp=>by
  by_cases hh:p∈hd aa
  .obtain⟨n,e⟩:=gz p hh;rw [e];rfl
  have j0:∃n,wG aa p=some n:=⟨0,ax (qj _ _ [] p (.inr ⟨qB.mpr ⟨ru,gX,hp⟩,hh⟩))⟩;have:∃n,g p=some n:=eJ.keep (J:=λg=>∃n,g p=some n) (λg ru ⟨n,e⟩ m f=>by obtain⟨k,a,_⟩:=le_step f p n e;exact⟨k,a⟩) RQ j0;obtain⟨n,e⟩:=this;rw [e];rfl
 have ll:=bc cy
 let oo:lW:=λi σ H8=>∃(kvs:List (aT×V))(y3 y4:Option V),σ=[aD R,aD dn,aD dt,y3,y4,aD dz]/\gu dt H7 H8/\H8 dt=some (.dK kvs)/\kvs.length<=20000+i/\(∀z∈ws,(Sum.inr z:aT)∈kvs.map (·.1))/\(∀z∈yV.take i,(Sum.inr z:aT)∈kvs.map (·.1))
 refine⟨l,rfl,⟨_,aG.of el⟩,cq (xs:=yV.map V.str) oo ⟨PN,_,_,rfl,λ_ _ _ h=>h,e7,∅,kt,λz hz=>by cases hz⟩ ?_ ?_ ?_⟩
 .rintro i σ H8 _ ⟨kvs,y3,y4,rfl,s8,_⟩;exact aG.of (s8 _ _ Uv el)
 .rintro i x σ H8 ex ⟨kvs,y3,y4,rfl,s8,e8,UQ,UW,PM⟩
  ac_nf0
  rw [a9] at ex;obtain⟨z,Sx,rfl⟩:=b_.mp ex;have li:=(bf.mp Sx).1;have hz:z∈hd aa:=pe.mem_iff.mp (b9 Sx);obtain⟨n,Wi⟩:=gz z hz;have L8:=L7.Kk e7 YD Yx s8;obtain⟨p,hp,Vm⟩:=cx.mp (show z∈ps.map (·.1) by rw [pk];exact hz);refine goN ?_
  ac_rfl
  have hgn:b0 H8 dn (.str z) (some (.ref p.2)):=by
   have:=b0.k (k:=Sum.inr z) L8.nm.hd;rw [<-Vm,fw ps L8.nm.n1 p hp] at this;rw [Vm] at this;exact this
  have Sm:=L8.nm.lst p hp;have Sm:H8 p.2=some (.lst ((nums aa z aa.length).map V.int)):=by rw [<-Vm];exact Sm
  have numOf:∀(m:Nat) (v:Int),(nums aa z aa.length)[m]?=some v->∃(j:Nat)(ru:aw),v=(j:Int)/\aa[j]?=some ru/\ru.1=z:=λm v e=>by
   unfold nums at e;rw [a9] at e;obtain⟨j,e1,rfl⟩:=b_.mp e;have hj:=(i0.mp (b9 e1)).2;have hj:(aa[j]?.map (·.1))=some z:=cw hj;obtain⟨ru,e2,e3⟩:=b_.mp hj;exact⟨j,ru,rfl,e2,e3⟩
  have aac:=xJ aa z aa.length
  let good:Int->Bool:=λv=>match aa[v.toNat]? with | some ru=>decide (aM g ru=n) | none=>false
  have wit:∃v∈nums aa z aa.length,good v=true:=by
   obtain⟨ru,gX,q1,_,q3⟩:=CH (Tq aa) RQ X_ hz Wi;obtain⟨j,ej⟩:=fj gX;have lj:=(bf.mp ej).1;refine⟨(j:Int),cx.mpr ⟨j,i0.mpr ⟨mq.mpr lj,cf (by rw [ej];exact congrArg some q1)⟩,rfl⟩,?_⟩;show (match aa[(j:Int).toNat]? with | some ru=>decide (aM g ru=n) | none=>false)=true
   rw [iJ,ej];exact cf q3
  refine⟨_,rfl,_,rfl,dn,_,rfl,hgn,p.2,rfl,⟨_,aG.of Sm⟩,λD9 ow=>bS (xs:=(nums aa z aa.length).map V.int) (λm ys σ2 H9=>ys=(((nums aa z aa.length).take m).filter good).map V.int/\(∃y0,σ2=[y0,aD dz,aD R,some (.str z)])/\aC H8 H9/\H9 D9=some (.lst ys))
   ⟨rfl,⟨none,rfl⟩,af ow _,ae⟩ (λm ys σ2 H9 _ h=>?_) (λm x ys σ2 H9 em h=>?_) (λys σ2 H9 h=>?_)⟩
  .obtain⟨_,_,sm,_⟩:=h;exact aG.of (sm _ _ Sm)
  .obtain⟨rfl,⟨y0,rfl⟩,sm,e9⟩:=h;rw [a9] at em;obtain⟨v,ev,rfl⟩:=b_.mp em;have lm:=(bf.mp ev).1;obtain⟨j,ru,rfl,ej,SD⟩:=numOf m v ev;have L9:=L8.same sm;obtain⟨r,er,rv⟩:=Paired.at_ L9.cy j ru ej;have sY:lV (rs.map V.ref) (j:Int)=some (.ref r):=bT (by rw [a9,er];rfl);have gj:good (j:Int)=decide (V.int (aM g ru)=V.int n):=by
    show (match aa[(j:Int).toNat]? with | some ru=>decide (aM g ru=n) | none=>false)=_
    rw [iJ,ej];show decide (aM g ru=n)=_;by_cases c:aM g ru=n
    .rw [cf c,cf (congrArg V.int c)]
    rw [d0 c,d0 (λy=>c (by injection y))]
   refine goN ?_;refine⟨_,rfl,_,rfl,_,rfl,R,_,_,_,rfl,rfl,L9.hR,sY,dz,r,qx,g,ru,rfl,L9.rz,vz,rv,h8 ru (b9 ej),Ri ru (b9 ej),λAL vZ=>?_⟩;have hgz:b0 AL dz (.str z) (some (.int n)):=by
    have:=b0.r (k:=Sum.inr z) (L9.same vZ).rz;rw [vz,Wi] at this;exact this
   refine⟨_,rfl,_,rfl,dz,_,rfl,hgz,rfl,_,rfl,?_⟩;rw [<-gj];have QS:((nums aa z aa.length).take (m+1)).filter good=((nums aa z aa.length).take m).filter good++(if good (j:Int)=true then [(j:Int)] else []):=by
    rw [cK,ev,qF]
    congr 1
    show List.filter good [(j:Int)]=_;by_cases c:good (j:Int)=true
    .rw [ax c,oI,ax c,List.filter_nil]
    rw [az c,oI,az c,List.filter_nil]
   have lf:(((nums aa z aa.length).take m).filter good).length<=1000:=f_ (l7 _ _) (by rw [dr];omega);refine bJ (λcc=>?_) (λcc=>?_)
   .refine⟨_,rfl,vZ _ _ e9,bD (by rw [au];omega),by rw [QS,ax cc,bA];rfl,⟨_,rfl⟩,λb u hb=>?_,ae⟩;rw [ak (λz=>by rw [z,ow] at hb;cases hb)];exact vZ _ _ (sm b u hb)
   exact⟨by rw [QS,az cc,il],⟨_,rfl⟩,sm.trans vZ,vZ _ _ e9⟩
  obtain⟨rfl,_,s9,e9⟩:=h;rw [au,cv] at e9;refine goN ?_
  ac_rfl
  have L9:=L8.same s9;cases hf:(nums aa z aa.length).filter good with
  | nil =>
   obtain⟨v,hv,gv⟩:=wit;have:v∈(nums aa z aa.length).filter good:=i0.mpr ⟨hv,gv⟩;rw [hf] at this;cases this
  | cons v0 vr =>
   rw [hf] at e9;have hm0:v0∈(nums aa z aa.length).filter good:=by rw [hf];exact cS
   obtain⟨NY,Sn⟩:=i0.mp hm0;obtain⟨m0,We⟩:=fj NY;obtain⟨j,ru,rfl,ej,SD⟩:=numOf m0 v0 We;have hsz:aM g ru=n:=by
    have Sn:(match aa[(j:Int).toNat]? with | some ru=>decide (aM g ru=n) | none=>false)=true:=Sn
    rw [iJ,ej] at Sn;exact cw Sn
   have gX:=b9 ej;obtain⟨r,er,pp,v1,v2⟩:=Paired.at_ L9.cy j ru ej;have sY:lV (rs.map V.ref) (j:Int)=some (.ref r):=bT (by rw [a9,er];rfl);have Di:lV (V.int (j:Int)::vr.map V.int) 0=some (.int (j:Int)):=bT (j:=0) rfl;have e9:H9 D9=some (.lst (V.int (j:Int)::vr.map V.int)):=e9;have e89:=s9 _ _ e8;have r8:=h8 ru gX;have U1:∀p∈ru.2,(Sum.inr p:aT)∈kvs.map (·.1):=λy hy=>by
    obtain⟨my,ey⟩:=ng.mp (Ri ru gX y hy);by_cases hh:y∈hd aa
    .refine PM y (vI pw Sx (pe.mem_iff.mpr hh) ?_);show (g y).getD 0 < (g z).getD 0;rw [ey,Wi];show my < n;rw [<-hsz];exact Ck nn hy ey
    exact UW y (YZ y hh (by rw [ey];rfl))
   refine⟨_,rfl,D9,_,_,_,rfl,rfl,aG.of e9,Di,_,rfl,_,rfl,D9,_,_,_,rfl,rfl,aG.of e9,Di,R,_,_,_,rfl,rfl,L9.hR,sY,r,_,_,_,rfl,rfl,v1,rfl,pp,rfl,⟨_,v2⟩,λXC VZ=>sP (zs:=ru.2) rfl v2 ∅ e89 U1 VZ λys AL ly vZ DL=>?_⟩;refine⟨XC,ys,rfl,.inl ⟨aG.of DL,λt2 V3=>⟨qW,λCD MV=>?_⟩⟩⟩;have YT:=(af V3 (.tup ys)).trans (af MV (.tup [.int (j:Int),.ref t2]));generalize upd (upd AL t2 (.tup ys)) CD (.tup [.int (j:Int),.ref t2])=Dr at YT;have O2:=(s9.trans vZ).trans YT;have HS:=O2 _ _ e8;refine⟨_,rfl,_,rfl,dt,_,rfl,.inl ⟨kvs,Sum.inr z,HS,rfl,bD ∅,rfl⟩,?_⟩;have FT:∀y:aT,(y∈kvs.map (·.1)\/y=Sum.inr z)->y∈(bM kvs (Sum.inr z) (.ref CD)).map (·.1):=λy hy=>by
    by_cases hk:(Sum.inr z:aT)∈kvs.map (·.1)
    .rw [v9 hk];rcases hy with hy | rfl
     .exact hy
     exact hk
    rw [gS hk];rcases hy with hy | rfl
    .exact j8 _ hy
    exact gH _ cS
   have aag:(bM kvs (Sum.inr z) (.ref CD)).length<=kvs.length+1:=by
    have a:=congrArg List.length (Eq.refl ((bM kvs (Sum.inr z) (.ref CD)).map (·.1)));by_cases hk:(Sum.inr z:aT)∈kvs.map (·.1)
    .have b:=congrArg List.length (v9 (v:=.ref CD) hk);rw [au,au] at b;omega
    have b:=congrArg List.length (gS (v:=.ref CD) hk);rw [au,bW,au,gP] at b;omega
   refine⟨_,_,_,rfl,λb u nb hb=>?_,ae,∅,λy hy=>FT _ (.inl (UW y hy)),λy hy=>?_⟩
   .rw [ak nb];exact O2 _ _ (s8 b u nb hb)
   rw [cK,Sx] at hy;rcases cg.mp hy with hy | hy
   .exact FT _ (.inl (PM y hy))
   exact FT _ (.inr (by rw [bH.mp (show y∈[z] from hy)]))
 rintro σ H8 ⟨kvs,y3,y4,rfl,s8,e8,UQ,UW,PM⟩;rw [au,cv] at PM;have L8:=L7.Kk e7 YD Yx s8;refine⟨_,rfl,q dt kvs H8 ?_ (λb u n1 n3 hb=>?_) L8.t1 L8.t3 e8 λz hz=>PM z (pe.mem_iff.mpr hz)⟩
 .cases c:H dt with
  | none=>rfl
  | some u =>
   by_cases h1:dt=T1
   .obtain⟨pp,a,_⟩:=L3.t1;rw [<-h1,Kv] at a;cases a
   rw [yD dt u h1 Uy c] at Kv;cases Kv
 refine s8 _ _ (λz=>?_) (Lw b u n1 n3 hb);rw [z] at hb;rw [yD dt u (λy=>n1 (z.trans y)) Uy hb] at Kv;cases Kv
end
end gY
namespace L2
open PySem PySem.Spec PyProof.Rows
section
variable {prog:Program}{w:World}{A:Around}{E:Value->Shared->Prop}
def vC {h h':Heap}{ks:List aT}{a:Addr}(p:(tupleKind (bB prog w)).is h ks a)(k:∀b o,o.cls=.type "tuple" -> h.get? b=some o->h'.get? b=some o):(tupleKind (bB prog w)).is h' ks a :=
 let ⟨o,aW,n,h1,h2,h3,h4⟩:=p;⟨o,aW,n,k a o h2 h1,h2,h3,h4⟩
def wM {h h':Heap}{d:Addr}{xs:List (List aT×Addr×Value)}(hd:h.DictOfH (tupleKind (bB prog w)) d xs)(kd:∀o,h.get? d=some o->h'.get? d=some o)(k:∀b o,o.cls=.type "tuple" -> h.get? b=some o->h'.get? b=some o) :
  h'.DictOfH (tupleKind (bB prog w)) d xs :=
 let ⟨o,es,ep,q,c,dd,e,is,n⟩:=hd;⟨o,es,ep,kd o q,c,dd,e,λx hx=>vC (is x hx) k,n⟩
def lQ (prog:Program)(w:World)(h:Heap)(u:Value)(kv:List aT×Addr×Value):Prop :=
 ∃t n o,u=.ref t/\(tupleKind (bB prog w)).is h kv.1 kv.2.1/\h.get? t=some o/\o.cls=.type "tuple" /\ o.data=.seq #[.ref kv.2.1,kv.2.2] n
def lQ.keep {h h':Heap}{u:Value}{kv:List aT×Addr×Value}(p:lQ prog w h u kv)(k:∀b o,o.cls=.type "tuple" -> h.get? b=some o->h'.get? b=some o):lQ prog w h' u kv :=
 let ⟨t,n,o,a,b,c,d,e⟩:=p;⟨t,n,o,a,vC b k,k t o d c,d,e⟩
noncomputable def BH (more xs:List (List aT×Addr×Value)):List (List aT×Addr×Value):=more.foldl (λa p=>storedH a p.1 p.2.1 p.2.2) xs
def Jy {R:Result->Shared->Prop}{d it l:Addr}{items:Array Value}(hh:A.handled=none)(hu:A.units+1 < cLine):∀(more:List (List aT×Addr×Value)) (i:Nat)(s:Shared)(kvs:List (List aT×Addr×Value)) (j:Int)(tk:Tok),items.size=i+more.length ->
  s.heap.DictOfH (tupleKind (bB prog w)) d kvs->s.heap.IsListIter it l i->s.heap.IsList l items->(∀m kv,more[m]?=some kv->∃u,items[i+m]?=some u/\lQ prog w s.heap u kv)->kvs.length+more.length<=sizeLine ->
  (∀h' t',h'.DictOfH (tupleKind (bB prog w)) d (BH more kvs)->(∀b o,b≠d->b≠it->s.heap.get? b=some o->h'.get? b=some o)->R (.ok (.ret .none)) { s with heap:=h',toks:=t' }) ->
  codeAny (model prog w) A (.builtin "dict.update.loop" ⟨[.ref d,.ref it,.int j tk,.none],[]⟩) R s:=by
 intro more
 induction more with
 | nil =>
  intro i s kvs j tk hi hd hit hl hp hz hR;refine qM lI ?_;rw [qS fX _];unfold Builtin.«dict.update.loop»;have hs:items[i]?=none:=Array.getElem?_eq_none (by rw [hi];exact aU _);refine aN (ve hh hit hl hs λh1 eb=>?_);have nd:d≠it:=λz=>by
   obtain⟨o,_,_,q,_,c,_⟩:=hd;obtain⟨o',q',_,c'⟩:=hit;rw [z,q'] at q;cases q;rw [c'] at c;cases c
  have nt:∀b o,o.cls=.type "tuple" -> s.heap.get? b=some o->b≠it:=λb o c q z=>by
   obtain⟨o',q',c',_⟩:=hit;rw [z,q'] at q;cases q;rw [c'] at c;exact absurd c nofun
  show wpAny _ _ (Builtin.Dict.addKeywords d [] >>= _) _ _ _;exact aN (ba (ba (hR h1 s.toks (wM hd (λo q=>eb d o nd q) λb o c q=>eb b o (nt b o c q) q) λb o n1 n2 q=>eb b o n2 q)))
 | cons kv more ih =>
  intro i s kvs j tk hi hd hit hl hp hz hR;refine qM lI ?_;rw [qS fX _];unfold Builtin.«dict.update.loop»;obtain⟨u,Ah,t,n,o,rfl,hk,ho,hc,Bx⟩:=hp 0 kv rfl;refine aN (wpAny_pyNext_list_item hit hl Ah λh1 U3 sb=>?_);have nd:d≠it:=λz=>by
   obtain⟨o,_,_,q,_,c,_⟩:=hd;obtain⟨o',q',_,c'⟩:=hit;rw [z,q'] at q;cases q;rw [c'] at c;cases c
  have n2:∀b o,(o.cls=.type "tuple" \/ o.cls=.type "list")->s.heap.get? b=some o->b≠d/\b≠it:=by
   intro b o c q;constructor
   .intro z;obtain⟨o',q',c'⟩:=hd.typeIs;rw [z,q'] at q;cases q;rw [c'] at c;rcases c with c | c <;> exact absurd c nofun
   intro z;obtain⟨o',q',c',_⟩:=hit;rw [z,q'] at q;cases q;rw [c'] at c;rcases c with c | c <;> exact absurd c nofun
  have nt:∀b o,o.cls=.type "tuple" -> s.heap.get? b=some o->b≠d/\b≠it:=λb o c q=>n2 b o (.inl c) q;have nl:l≠d/\l≠it:=by
   obtain⟨o,q,c,_⟩:=hl;exact n2 l o (.inr c) q
  have UY:∀b o,o.cls=.type "tuple" -> s.heap.get? b=some o->h1.get? b=some o:=λb o c q=>(sb.2 b (nt b o c q).2).trans q;have Qm:h1.get? t=some o:=UY t o hc ho;have tP:h1.DictOfH (tupleKind (bB prog w)) d kvs:=wM hd (λo q=>(sb.2 d nd).trans q) UY;refine aN (ky (aN (wpAny_tryCatch ?_)));unfold Builtin.Dict.pairItems;refine aN (jK (T := "tuple") ⟨o,Qm,hc⟩ ?_);rw [ax nofun];refine aN (qJ Qm Bx (ba ?_));show wpAny _ _ (holding [.ref kv.2.1,kv.2.2] (dictSet d (.ref kv.2.1) kv.2.2)) _ _ _;rw [fc] at hz hi;refine ky (wpAny_dictSet_heap (s:={ s with heap:=h1 }) (oM hu) (vC hk UY) tP (λh2 hd2 OZ=>?_) ∅);have kk:∀b o,b≠d->b≠it->s.heap.get? b=some o->h2.get? b=some o:=λb o n1 n2 q=>(OZ.2 b n1).trans ((sb.2 b n2).trans q);have ln:(storedH kvs kv.1 kv.2.1 kv.2.2).length<=kvs.length+1:=by
   unfold storedH
   split
   .simp
   simp
  refine ba ⟨oz fX _,ih (i+1) _ _ _ _ ∅ hd2 (U3.at λo q=>(OZ.2 it (fO nd)).trans q) (hl.at λo q=>kk l o nl.1 nl.2 q) (λm UX e=>?_) ∅ λh3 t3 jf k3=>?_⟩
  .obtain⟨u',e1,e2⟩:=hp (m+1) UX e;exact⟨u',by rw [<-e1];congr 1;omega,e2.keep λb o c q=>kk b o (nt b o c q).1 (nt b o c q).2 q⟩
  exact hR h3 t3 jf λb o n1 n2 q=>k3 b o n1 n2 (kk b o n1 n2 q)
def qg {s:Shared}{l:Addr}{items:Array Value}{n:Nat}{more:List (List aT×Addr×Value)}{Q:Value->Shared->Prop}(hh:A.handled=none)(hu:A.units+2 < cLine)(hx:s.heap.get? l=some { cls:=.type "list",data:=.seq items n })
  (hi:items.size=more.length)(hp:∀(m:Nat) kv,more[m]?=some kv->∃u,items[m]?=some u/\lQ prog w s.heap u kv)(hz:more.length<=sizeLine)
  (h:∀h' t',h'.DictOfH (tupleKind (bB prog w)) s.heap.objs.size (BH more [])->(∀b o,s.heap.get? b=some o->h'.get? b=some o)->Q (.ref s.heap.objs.size) { s with heap:=h',toks:=t' }) :
  wpAny (model prog w) A (call (.type "dict") [.ref l]) Q E s:=by
 refine callType_codes (Q₁:=λobj s₁=>obj=.ref s.heap.objs.size/\s₁={ s with heap:=s.heap.push { cls:=.type "dict",data:=.dict #[] } }) F.kt_called_dict (F.kt_typeCall_dict_1 _) F.entry_dict_init (kt_code_dict_new _ ⟨rfl,rfl⟩) ?_;rintro obj s₁ ⟨rfl,rfl⟩;have zV:(s.heap.push { cls:=.type "dict",data:=.dict #[] }).DictOfH (tupleKind (bB prog w)) s.heap.objs.size []:=Heap.DictOfH.new s.heap;have l0:=cJ { cls:=.type "dict",data:=.dict #[] } hx;refine⟨zV.typeIs,F.args_dict_init_2 _ _,?_⟩;unfold Builtin.«dict.__init__» Builtin.Dict.selfAndRest;refine aN (aN (wpAny_notOrdered_dict zV.typeIs (ba ?_)));show wpAny _ _ (Builtin.Dict.updateFrom "dict.__init__" s.heap.objs.size (.ref l) [] .none) _ _ _;unfold Builtin.Dict.updateFrom;refine aN (jK (T := "list") ⟨_,l0,rfl⟩ ?_);rw [ax zc];refine aN (o6 l0 hh λh1 t1 k1=>?_);refine aN (wpAny_rule ?_);have l1:=k1 _ _ l0;refine aN (qD ⟨_,l1,rfl,_,rfl⟩ ?_);have k2:∀b o,s.heap.get? b=some o->(h1.push { cls:=.type "list_iterator",data:=.fields #[.ref l,.int 0 0] }).get? b=some o:=λb o q=>cJ _ (k1 _ _ (cJ _ q));refine ba ⟨oz fX _,Jy (A:=A.in1) (l:=l) (items:=items) (show A.in1.handled=none from hh) (show A.in1.units+1 < cLine by rw [oF];omega) more 0 _ [] _ _ (by rw [hi,oB]) ?_ ⟨_,d8 _ rfl,rfl,rfl⟩ ⟨_,k2 _ _ hx,rfl,n,rfl⟩ (λm kv e=>?_) (by simpa using hz) λh' t' hd k3=>?_⟩
 .exact wM zV (λo q=>cJ _ (k1 _ _ q)) λb o _ q=>cJ _ (k1 _ _ q)
 .obtain⟨u,e1,e2⟩:=hp m kv e;exact⟨u,by rw [oB];exact e1,e2.keep λb o _ q=>k2 b o q⟩
 refine⟨rfl,h h' t' hd λb o q=>k3 b o (cu (bR q)) ?_ (k2 b o q)⟩;have:=bR (k1 _ _ (cJ { cls:=.type "dict",data:=.dict #[] } q));exact cu this
end
noncomputable def n_ (kvs bF:List (List aT×V)):List (List aT×V):=kvs.foldl (λa p=>bM a p.1 p.2) bF
theorem uJ {H:Hp}:∀{kvs:List (List aT×V)}{vs:List (List aT×Addr×Value)}{bF:List (List aT×V)}{G6:List (List aT×Addr×Value)},KT H kvs vs->KT H bF G6->KT H (n_ kvs bF) (BH vs G6)
 | _,_,_,_,.nil,h=>h
 | _,_,_,_,.cons (a:=p) (b:=q) r t,h=>by
  obtain⟨e,hb,rv⟩:=r;show KT H (n_ _ (bM _ p.1 p.2)) (BH _ (storedH _ q.1 q.2.1 q.2.2));rw [<-e];exact uJ t (h.put p.1 hb rv)
theorem uK:∀(kvs bF:List (List aT×V)),(n_ kvs bF).length<=bF.length+kvs.length
 | [],bF=>by simp [n_]
 | p::r,bF=>by
  have:=uK r (bM bF p.1 p.2);have:=fQ bF p.1 p.2;show (n_ r (bM bF p.1 p.2)).length<=_;rw [fc];omega
section
variable {X:Cx}{aj:List (Addr×Obj)}{σ:St}{H:Hp}{s:Shared}
abbrev Ol (K:bp)(H:Hp)(t:Addr)(kv:List aT×V):Prop:=∃b,a_ K H t [.ref b,kv.2]/\H b=some (.tup (kv.1.map kV))
theorem uv (I:Inv X aj σ H s):∀{ts:List Addr}{kvs:List (List aT×V)}{aW:List Value},Paired (Ol X.K H) ts kvs->bw (ts.map V.ref) aW ->
  ∃vs:List (List aT×Addr×Value),KT H kvs vs/\Paired (λu kv=>lQ X.prog X.w s.heap u kv) aW vs
 | [],_,_,.nil,r=>by
  rw [mj] at r;cases r;exact⟨[],.nil,.nil⟩
 | t::ts,kv::kvs,_,.cons h p,r=>by
  rw [cE] at r;cases r with
  | cons r1 r2 =>
   obtain⟨vs,e1,e2⟩:=uv I p r2;obtain⟨b,h0,hb⟩:=h;obtain⟨aW,rv,⟨o,h1,h2,n,h3⟩,_⟩:=I.tuple h0;obtain⟨u1,u2,rfl,q1,q2⟩:=vals2 rv;cases (show u1=Value.ref b from q1);exact⟨(kv.1,b,u2)::vs,.cons ⟨rfl,hb,q2⟩ e1,.cons ⟨t,n,o,r1,mP I.cC hb,h1,h2,h3⟩ e2⟩
def yr (hc:X.calm=true)(hu:X.A.units+2 < cLine):gM X (.type "dict") (λxs H Q=>∃a ts kvs,xs=[.ref a]/\H a=some (.lst (ts.map V.ref))/\Paired (Ol X.K H) ts kvs/\∀d,H d=none->Q (.ref d) (upd H d (.dT (n_ kvs [])))):=by
 intro aj s σ H xs us Q I r h;obtain⟨a,ts,kvs,rfl,e,p,q⟩:=h;obtain⟨u,rfl,rx⟩:=vals1 r;cases (show u=Value.ref a from rx);obtain⟨z,aW,n,rv,ho⟩:=(show cW X.prog X.w H s.heap a (.lst _) from I.cC a _ e);obtain⟨vs,r1,r2⟩:=uv I p rv;have l1:=bc r2;have l2:=bc r1;have l3:=bc p;rw [au] at z;refine qg (I.ok.hd hc) hu ho (by simpa using l1) (λm kv em=>?_) ∅ λh' t' hd kk=>?_
 .obtain⟨u,e1,e2⟩:=Paired.at_ r2 m kv em;exact⟨u,by simpa using e1,e2⟩
 have fr:=I.cC.fresh (aU s.heap.objs.size);have new:cW X.prog X.w (upd H s.heap.objs.size (.dT (n_ kvs []))) h' s.heap.objs.size (.dT (n_ kvs [])):=by
  obtain⟨o,es,ep,hq,h2,h3,h4,_,h5⟩:=hd;refine⟨?_,?_,_,(uJ r1 .nil).keeps λc ys ec=>?_,o,es,ep,hq,h2,h3,h4,h5⟩
  .have:=uK kvs [];simp at this;omega
  .have:=I.big;exact jn.mpr (lY this)
  rw [ak (aB ec fr)];exact ec
 exact⟨.ref s.heap.objs.size,_,I.laid (t':=t') kk (aU _) new,rfl,q _ fr⟩
end
open PySem M11
def Dd {K:bp}{H:Hp}{bg D:Addr}{ts:List Addr}{bK:List Be}{σ:St}{x1 x2 x3 x4:Str}{Qp:Hp->Prop}(hb:aG K H bg (ts.map V.ref))(N2:Paired (λt (b:Be)=>a_ K H t [.str b.1,.str b.2.1,.int (b.2.2.1:Int),.int (b.2.2.2:Int)]) ts bK)(bu:bK.length<=900000)(hD:H D=none)
  (q:∀us H2,aC H H2->H2 D=some (.lst (us.map V.ref))->Paired (λu (b:Be)=>∃v,Ol K H2 u ([Sum.inr b.1,Sum.inr b.2.1],.ref v)) us bK->Qp H2) :
  ∃W:Nat->Nat->List V->St->Hp->Prop,(∃m,W 0 m [] (eh [x1,x2,x3,x4] [] σ) (upd H D (.lst []))) /\
 ∀i m ys σ' H,W i m ys σ' H->((iU K bg).stop i H/\Qp H)\/((iU K bg).go i H/\∃m',m' < m/\∀x H',(iU K bg).lR i H x H'->Ap K 4 (jE (dB 0) (jE (dB 1) (jE (dB 2) (jE (dB 3) CU)))) x σ' H' λσ2 H2=>gI σ2 H2 λb H3 =>
  if b=true then rf (gp (rf (gp (fS 0) (gp (fS 1) p_))) (gp (rf (gp (fS 2) (gp (fS 3) p_))) p_)) σ2 H3 λy H4=>H4 D=some (.lst ys)/\ys.length < sizeLine/\W (i+1) m' (ys++[y]) σ2 (upd H4 D (.lst (ys++[y]))) else W (i+1) m' ys σ2 H3):=by
 have ll:=bc N2;refine bS (xs:=ts.map V.ref) (λi ys σ2 H2=>∃us:List Addr,ys=us.map V.ref/\us.length=i/\Paired (λu (b:Be)=>∃v,Ol K H2 u ([Sum.inr b.1,Sum.inr b.2.1],.ref v)) us (bK.take i)/\(∃y0 y1 y2 y3,σ2=[y0,y1,y2,y3])/\aC H H2/\H2 D=some (.lst ys))
  ⟨[],rfl,rfl,.nil,⟨none,none,none,none,rfl⟩,af hD _,ae⟩ (λi ys σ2 H2 _ h=>?_) (λi x ys σ2 H2 ex h=>?_) (λys σ2 H2 h=>?_)
 .obtain⟨_,_,_,_,_,sm,_⟩:=h;exact sm.seq hb
 .obtain⟨us,rfl,hu,hp,⟨y0,y1,y2,y3,rfl⟩,sm,hd⟩:=h;rw [a9] at ex;obtain⟨r,er,rfl⟩:=b_.mp ex;have lr:=(bf.mp er).1;obtain⟨b,e1⟩:∃b,bK[i]?=some b:=⟨bK[i]'∅,dI ∅⟩;obtain⟨r',QU,v1⟩:=Paired.at_ N2 i b e1;rw [er] at QU;cases QU;have li:=(bf.mp e1).1;refine⟨r,_,rfl,sm.tup v1,rfl,_,_,rfl,_,_,rfl,_,_,rfl,_,_,rfl,rfl,?_⟩;refine uH ?_;refine⟨_,rfl,_,rfl,qW,λk hk=>⟨_,rfl,_,rfl,qW,λv hv=>⟨qW,λu xU=>?_⟩⟩⟩;have s3:=(af hk (.tup [V.str b.1,V.str b.2.1])).trans ((af hv (.tup [V.int (b.2.2.1:Int),V.int (b.2.2.2:Int)])).trans (af xU (.tup [.ref k,.ref v])));have ek:=((af hv (.tup [V.int (b.2.2.1:Int),V.int (b.2.2.2:Int)])).trans (af xU (.tup [.ref k,.ref v]))) k _ ae;have eu:a_ K (upd (upd (upd H2 k (.tup [V.str b.1,V.str b.2.1])) v (.tup [V.int (b.2.2.1:Int),V.int (b.2.2.2:Int)])) u (.tup [.ref k,.ref v])) u [.ref k,.ref v]:=a_.of ae;generalize upd (upd (upd H2 k (.tup [V.str b.1,V.str b.2.1])) v (.tup [V.int (b.2.2.1:Int),V.int (b.2.2.2:Int)])) u (.tup [.ref k,.ref v])=H4 at s3 ek eu;have Bz:=s3 _ _ hd;refine⟨Bz,bD (by rw [au];omega),us++[u],by rw [bA];rfl,by rw [bW,hu];rfl,?_,⟨_,_,_,_,rfl⟩,?_,ae⟩
  .rw [cK,e1];have kD:k≠D:=λz=>by rw [z,Bz] at ek;cases ek
   refine gF (Paired.dH hp λu' b' bN=>?_) ⟨v,k,bj Bz eu,by rw [ak kD];exact ek⟩;obtain⟨v',bb,p1,p2⟩:=bN;exact⟨v',bb,bj Bz (s3.tup p1),by rw [ak (λz=>by rw [z,hd] at p2;cases p2)];exact s3 _ _ p2⟩
  intro c o hc;rw [ak (λz=>by rw [z,hD] at hc;cases hc)];exact s3 _ _ (sm c o hc)
 obtain⟨us,rfl,hu,hp,_,sm,hd⟩:=h;rw [au,ll,cv] at hp;exact q us H2 sm hd hp
theorem E6 {K:bp}{H:Hp}:∀{us:List Addr}{bK:List Be},Paired (λu (b:Be)=>∃v,Ol K H u ([Sum.inr b.1,Sum.inr b.2.1],.ref v)) us bK->∃kvs,Paired (Ol K H) us kvs
 | _,_,.nil=>⟨[],.nil⟩
 | _,_,.cons ⟨v,h⟩ t=>let ⟨kvs,p⟩:=E6 t;⟨_::kvs,.cons h p⟩
end L2
namespace gY
open PySem L2 M11
def Tab.s2 {T T1 T2:Addr}{p p1 p2:Pos}{q q1 q2:Str}{H H':Hp}(h:Tab T p q H)(s:mh T1 T2 H H')(t1:Tab T1 p1 q1 H)(t2:Tab T2 p2 q2 H)(n1:T≠T1)(n2:T≠T2):Tab T p q H':=by
 obtain⟨ps,a,b,c⟩:=h;obtain⟨R0,b1,_⟩:=t1;obtain⟨Yn,b2,_⟩:=t2;refine⟨ps,s _ _ n1 n2 a,b,c.imp id ?_⟩;rintro⟨c',e,g⟩;exact⟨c',e,s _ _ (λz=>by rw [z,b1] at g;cases g) (λz=>by rw [z,b2] at g;cases g) g⟩
def kN {T a C dx:Addr}{pos:Pos}{qu:Str}{H:Hp}{fs:List (Str×V)}{o:HO}(h:Tab T pos qu H)(ha:H a=some (.ins C dx fs)):Tab T pos qu (upd H a o):=by
 obtain⟨ps,p,r,c⟩:=h;refine⟨ps,by rw [ak (λz=>by rw [z,ha] at p;cases p)];exact p,r,c.imp id ?_⟩;rintro⟨c',e,g⟩;exact⟨c',e,by rw [ak (λz=>by rw [z,ha] at g;cases g)];exact g⟩
def Kp (H H':Hp):Prop:=∀b o,H b=some o->(∀ps,o≠.tI ps)->H' b=some o
def Kp.trans {H H1 H2:Hp}(a:Kp H H1)(b:Kp H1 H2):Kp H H2:=λc o h n=>b c o (a c o h n) n
def Kp.of {H H':Hp}(s:aC H H'):Kp H H':=λb o h _=>s b o h
def Kp.of2 {T1 T2:Addr}{p1 p2:Pos}{q1 q2:Str}{H H':Hp}(s:mh T1 T2 H H')(t1:Tab T1 p1 q1 H)(t2:Tab T2 p2 q2 H):Kp H H':=λc o hc hn=>by
 obtain⟨R0,b1,_⟩:=t1;obtain⟨Yn,b2,_⟩:=t2;exact s c o (λz=>by rw [z,b1] at hc;cases hc;exact hn _ rfl) (λz=>by rw [z,b2] at hc;cases hc;exact hn _ rfl) hc
section
theorem Kp.lst {H H':Hp}(k:Kp H H'){a:Addr}{xs:List V}(h:H a=some (.lst xs)):H' a=some (.lst xs):=k a _ h (λ_ z=>by cases z)
def Kp.tup {H H':Hp}(k:Kp H H'){a:Addr}{xs:List V}(h:a_ K H a xs):a_ K H' a xs:=by
 rcases h with (h | ⟨u,h⟩) | h
 .exact .inl (.inl (k _ _ h (λ_ z=>by cases z)))
 .exact .inl (.inr ⟨u,k _ _ h (λ_ z=>by cases z)⟩)
 exact .inr h
def Kp.seq {H H':Hp}(k:Kp H H'){a:Addr}{xs:List V}(h:aG K H a xs):aG K H' a xs:=by
 rcases h with (h | ⟨u,h⟩) | h
 .exact .inl (.inl (k _ _ h (λ_ z=>by cases z)))
 .exact .inl (.inr ⟨u,k _ _ h (λ_ z=>by cases z)⟩)
 exact .inr h
theorem Kp.aa {H H':Hp}(k:Kp H H'){rs:List Addr}{aa:List aw}(h:bQ K H rs aa):bQ K H' rs aa:=h.keep λ_ _ z=>k.tup z
abbrev zq:Stmt:=Pz sLT 0
structure LC (K:bp)(C:Addr):Prop where
 cls:Ds K C
 a1:eY K C "rules"
 a2:eY K C "empty"
 a3:eY K C "least"
 a4:eY K C "hollow"
 a5:eY K C "beginnings"
structure DR (C3 T1 T3:Addr)(H0 H:Hp)(a dx:Addr)(fs:List (Str×V)):Prop where
 sm:mh T1 T3 H0 H
 ia:H a=some (.ins C3 dx fs)
 fa:H0 a=none
 t1:Tab T1 rS.2.2.2 yE H
 t3:Tab T3 posB Hr H
 o1:Tab T1 rS.2.2.2 yE H0
 o3:Tab T3 posB Hr H0
def DR.kp {C3 T1 T3 a dx:Addr}{H0 H:Hp}{fs:List (Str×V)}(h:DR C3 T1 T3 H0 H a dx fs):Kp H0 H:=Kp.of2 h.sm h.o1 h.o3
def DR.set {C3 T1 T3 a dx:Addr}{H0 H:Hp}{fs:List (Str×V)}(h:DR C3 T1 T3 H0 H a dx fs)(HM:List (Str×V)):DR C3 T1 T3 H0 (upd H a (.ins C3 dx HM)) a dx HM :=
 ⟨λb o n1 n3 hb=>by rw [ak (λz=>by rw [z,h.fa] at hb;cases hb)];exact h.sm b o n1 n3 hb,ae,h.fa,kN h.t1 h.ia,kN h.t3 h.ia,h.o1,h.o3⟩
def DR.next {C3 T1 T3 a dx:Addr}{H0 H H':Hp}{fs:List (Str×V)}(h:DR C3 T1 T3 H0 H a dx fs)(s:aC H H'):DR C3 T1 T3 H0 H' a dx fs :=
 ⟨λb o n1 n3 hb=>s _ _ (h.sm b o n1 n3 hb),s _ _ h.ia,h.fa,h.t1.same s,h.t3.same s,h.o1,h.o3⟩
def DR.Po {C3 T1 T3 a dx:Addr}{H0 H H':Hp}{fs:List (Str×V)}(h:DR C3 T1 T3 H0 H a dx fs)(s:mh T1 T3 H H')(t1:Tab T1 rS.2.2.2 yE H')(t3:Tab T3 posB Hr H'):DR C3 T1 T3 H0 H' a dx fs :=
 ⟨λb o n1 n3 hb=>s _ _ n1 n3 (h.sm b o n1 n3 hb),Kp.of2 s h.t1 h.t3 _ _ h.ia (λ_ z=>by cases z),h.fa,t1,t3,h.o1,h.o3⟩
def A9 (K:bp)(C C3 T1 T3:Addr):Sp:=λvs H Q _=>∃(H0 Hb:Hp)(a dx R x e d bg:Addr)(rs:List Addr)(aa:List aw)(kE:List (aT×V))(aY:List (Str×Nat))(ps:List (Str×Addr))(bK:List Be),vs=[.ref a,.ref R,.ref x]/\aC H0 H/\H0 a=none/\H a=some (.ins C3 dx [])/\aG K H0 R (rs.map V.ref)/\bQ K H0 rs aa /\
 aa.length < 64/\(∀ru∈aa,ru.2.length<=8)/\(∀g,eJ M11.bl aa (wG aa) g->iE M11.bl aa g->∀h∈hd aa,∃n,g h=some n/\n<=60)/\qi K C Hb H0 x e d bg kE aY ps bK/\tL aa aY/\bK.length<=80000/\Tab T1 rS.2.2.2 yE H0/\Tab T3 posB Hr H0/\T1≠T3 /\
 ∀H',mh T1 T3 H0 H'->Tab T1 rS.2.2.2 yE H'->Tab T3 posB Hr H'->Q .eZ H'
def Io:aK ["self","rules","begin_table"] ["self","rules","begin_table"] (ay zq):=iz rfl rfl rfl rfl nofun
def Fq {C C3 T1 T3:Addr}(F:hV K "__init__" "LeastTrees.__init__" zq f fd)(T:Txt mg)(B:BC K C)(L:LC K C3)(GL:aF P w K mg base 4 "least_by_part" ["rules"] (oS K T1 T3))(GE:aF P w K mg base 4 "empty_by_name" ["rules","empties"] (uj K)) :
  bV P w K mg base fK 5 f fd ["self","rules","begin_table"] (A9 K C C3 T1 T3):=by
 refine F.ok Io (λvs H Q E h=>?_) (λeX A outer s H vs Q E hr h=>?_)
 .obtain⟨H0,Hb,a,dx,R,x,e,d,bg,rs,aa,kE,aY,ps,bK,rfl,_⟩:=h;rfl
 obtain⟨H0,Hb,a,dx,R,x,e,d,bg,rs,aa,kE,aY,ps,bK,rfl,s0,f0,ea,hR,cy,bu,h8,Gd,S,emp,Mh,t1,t3,nT,q⟩:=h;have hu:=tT (Nat.add_le_add_left (by decide:2<=64) _) hr.units;refine⟨_,ag (gT (pv 0) (pv 1) rfl)
  (ag (gT (pv 0) (eI (pv 2) rfl) rfl)
  (ag (gT (pv 0) (bq GL hr rfl (ab (pv 1) ai)) rfl)
  (ag (gT (pv 0) (bq GE hr rfl (ab (pv 1) (ab (eI (pv 2) rfl) ai))) rfl)
  (ao (gT (pv 0) (aX (yr rfl hu) rfl T.wO dS (ab (aV ["name","word","number","place"] [] rfl (aR (eI (pv 2) rfl)) (aP rfl rfl) nofun rfl nofun
   (λ_ _ _ _ _=>d_ (n:=4) K rfl (av (aq (i:=0) (show (["name","word","number","place"]:List Str).Nodup by decide +kernel) rfl (aZ rfl)) (av (aq (i:=1) (show (["name","word","number","place"]:List Str).Nodup by decide +kernel) rfl (aZ rfl)) (av (aq (i:=2) (show (["name","word","number","place"]:List Str).Nodup by decide +kernel) rfl (aZ rfl)) (av (aq (i:=3) (show (["name","word","number","place"]:List Str).Nodup by decide +kernel) rfl (aZ rfl)) bo))))) (λ_ _ _ _ _=>a0)
   (λ_ _ _ _ _=>bC (ab (bC (ab (pv 0) (ab (pv 1) ai))) (ab (bC (ab (pv 2) (ab (pv 3) ai))) ai)))) ai)) rfl))))),?_⟩
 nofun
 have S0:DR C3 T1 T3 H0 H a dx []:=⟨λb o _ _ hb=>s0 b o hb,ea,f0,t1.same s0,t3.same s0,t1,t3⟩;obtain⟨e1,te,⟨Og,HK,Sy,leb⟩,ee1,evb,_⟩:=S.em;obtain⟨aar,aao,QR,l1,l2,_⟩:=S.ia;rw [Sy] at QR;cases QR;obtain⟨tb,ebg,N2⟩:=S.lb;have lets:=emp.len;refine⟨_,rfl,_,rfl,a,C3,dx,[],rfl,S0.ia,L.cls,L.a1,(by show 0 < 1000;decide),?_⟩;have S1:=S0.set (eV "rules" (.ref R) []);generalize So:eV "rules" (.ref R) []=Sw at S1;generalize upd H a (.ins C3 dx Sw)=H1 at S1;have x1:H1 x=some (.ins C Og HK):=S1.kp _ _ Sy (λ_ z=>by cases z);refine⟨_,rfl,x,C,Og,HK,_,rfl,x1,B.cls,B.a2,l1,_,rfl,a,C3,dx,Sw,rfl,S1.ia,L.cls,L.a2,(by rw [<-So];show 1 < 1000;decide),?_⟩;have S2:=S1.set (eV "empty" (.ref e) Sw);generalize Qu:eV "empty" (.ref e) Sw=tJ at S2;generalize upd H1 a (.ins C3 dx tJ)=H2 at S2;refine⟨_,rfl,R,rs,aa,rfl,S2.kp.seq hR,S2.kp.aa cy,bu,h8,Gd,S2.t1,S2.t3,nT,λdl kl H3 Zv s3 yC t33 edl kdl=>?_⟩;have S3:=S2.Po s3 yC t33;refine⟨_,rfl,a,C3,dx,tJ,rfl,S3.ia,L.cls,L.a3,(by rw [<-Qu,<-So];show 2 < 1000;decide),?_⟩;have S4:=S3.set (eV "least" (.ref dl) tJ);generalize Zl:eV "least" (.ref dl) tJ=N5 at S4;generalize upd H3 a (.ins C3 dx N5)=H4 at S4;have x4:H4 x=some (.ins C Og HK):=S4.kp _ _ Sy (λ_ z=>by cases z);refine⟨_,rfl,_,rfl,x,C,Og,HK,_,rfl,x4,B.cls,B.a1,leb,R,e1,rs,te,aa,aY,rfl,S4.kp.seq hR,S4.kp.aa cy,∅,h8,aG.of (S4.kp.lst ee1),evb.keep λ_ _ z=>S4.kp.tup z,emp,∅,λdh kh H5 fdh s5 edh kdh=>?_⟩;have S5:=S4.next s5;refine⟨_,rfl,a,C3,dx,N5,rfl,S5.ia,L.cls,L.a4,(by rw [<-Zl,<-Qu,<-So];show 3 < 1000;decide),?_⟩;have S6:=S5.set (eV "hollow" (.ref dh) N5);generalize hf6:eV "hollow" (.ref dh) N5=yJ at S6;generalize upd H5 a (.ins C3 dx yJ)=H6 at S6;have x6:H6 x=some (.ins C Og HK):=S6.kp _ _ Sy (λ_ z=>by cases z);have b6:=S6.kp.lst ebg;have v6:Paired (λt (b:Be)=>a_ K H6 t [.str b.1,.str b.2.1,.int (b.2.2.1:Int),.int (b.2.2.2:Int)]) tb bK:=Paired.dH N2 λ_ _ z=>S6.kp.tup z;refine⟨_,rfl,x,C,Og,HK,_,rfl,x6,B.cls,B.a3,l2,bg,rfl,⟨_,aG.of b6⟩,λD7 VW=>Dd (aG.of b6) v6 ∅ VW λus H7 s7 e7 p7=>?_⟩;obtain⟨kvs,pk⟩:=E6 p7;refine⟨D7,us,kvs,rfl,e7,pk,λdb CP=>?_⟩;have S8:=(S6.next s7).next (af CP (.dT (n_ kvs [])));refine⟨_,rfl,a,C3,dx,yJ,rfl,S8.ia,L.cls,L.a5,(by rw [<-hf6,<-Zl,<-Qu,<-So];show 4 < 1000;decide),?_⟩;have S9:=S8.set (eV "beginnings" (.ref db) yJ);exact q _ S9.sm S9.t1 S9.t3
structure Hh (K:bp)(x qual:Str)(st:Stmt)(f:Addr)(fd:FuncData):Prop where
 ex:∃(oc:Value)(od:Option Addr)(kV doc pm:Value)(an:Option Addr)(eX ct:Value)(xF:Array (Option Value))(T:Addr)(o:Obj) (n:Nat),
  fd=PySem.W.fnOf x qual (dU st) (cQ st) (ay st) (.ref T) kV doc pm an eX ct/\K.lookup f=some ⟨oc,od,.func fd,xF⟩/\PySem.W.codeIn K eX qual=true/\K.lookup T=some o/\o.data=.seq #[.none] n
 kp:PySem.W.keepIn K (.ref f)=true
def Hh.ok {x qual:Str}{st:Stmt}{f:Addr}{fd:FuncData}{N ps:List Str}{k:Nat}{sp:Sp}(F:Hh K x qual st f fd)(S:aK N ps (ay st))(len:∀vs H Q E,sp vs H Q E->vs.length=ps.length)
  (jC:∀(eX:Value)(A:Around)(outer:List Env)(s:Shared)(H:Hp)(vs:List V)(Q:VK)(E:XK),fJ k (A.deeper (PyProof.Rows.envOfC qual (ay st) s.heap.objs.size f eX))->sp vs H Q E ->
   ∃t,AH (pC fK P w K mg base N qual (ay st) f eX A outer s H E).CC (cQ st) t/\t { nx:=λ_ H'=>Q .eZ H',rt:=Q } (start N vs) H):bV P w K mg base fK (k+1) f fd ps sp:=by
 obtain⟨oc,od,kV,doc,pm,an,eX,ct,xF,T,o,n,rfl,lk,wF,_⟩:=F.ex;refine Gn lk wF S len λA outer s H vs Q E hr yG=>?_;obtain⟨t,h,q⟩:=jC eX A outer s H vs Q E hr yG;exact⟨t,h.CC,q⟩
def Gh {f:Addr}{fd:FuncData}(F:Hh K "__init__" "Grammar.__init__" vV f fd):Binds K fd ["self","rules","strengths"] [.none]:=by
 obtain⟨oc,od,kV,doc,pm,an,eX,ct,xF,T,o,n,rfl,lk,wF,lT,dT⟩:=F.ex;intro s us KI hl;have o_:us.length=2:=by
  have:(us++[Value.none]).length=3:=hl;rw [bW] at this;exact Nat.succ.inj this
 match us,o_ with
 | [u1,u2],_=>exact BindsTo.of_defaults rfl (KI T o lT) dT rfl rfl
structure GC (K:bp)(C:Addr):Prop where
 cls:Ds K C
 a1:eY K C "rules"
 a2:eY K C "strengths"
 a3:eY K C "begin_table"
 a4:eY K C "standings"
 a5:eY K C "small_trees"
def StrIn (K:bp)(H:Hp)(sv:V)(ss:List Addr)(str:List aw):Prop:=(sv=.eZ/\ss=[]/\str=[])\/∃S,sv=.ref S/\aG K H S (ss.map V.ref)/\bQ K H ss str
def RA (H0 H:Hp)(Cg g:Addr)(rs ss:List Addr)(bt:Addr):Prop:=∃gx fs R2 S2,H g=some (.ins Cg gx fs)/\fs.lookup ("rules":Str)=some (.ref R2)/\fs.lookup ("strengths":Str)=some (.ref S2)/\fs.lookup ("begin_table":Str)=some (.ref bt)/\fs.lookup ("start":Str)=none /\
 H R2=some (.lst (rs.map V.ref))/\H S2=some (.lst (ss.map V.ref))/\H0 R2=none/\H0 S2=none
def pY (T1 T2 T3:Addr)(H H':Hp):Prop:=∀b o,b≠T1->b≠T2->b≠T3->H b=some o->H' b=some o
structure BZ (T1 T2 T3:Addr)(H:Hp):Prop where
 t1:Tab T1 rS.2.2.2 yE H
 t2:Tab T2 z_.2.2.2 Kf H
 t3:Tab T3 posB Hr H
 Kc:T1≠T2
 Kb:T1≠T3
 Ka:T2≠T3
theorem BZ.same {T1 T2 T3:Addr}{H H':Hp}(h:BZ T1 T2 T3 H)(s:aC H H'):BZ T1 T2 T3 H':=⟨h.t1.same s,h.t2.same s,h.t3.same s,h.Kc,h.Kb,h.Ka⟩
def BZ.D_ {T1 T2 T3 a C dx:Addr}{H:Hp}{fs:List (Str×V)}{o:HO}(h:BZ T1 T2 T3 H)(ha:H a=some (.ins C dx fs)):BZ T1 T2 T3 (upd H a o):=⟨kN h.t1 ha,kN h.t2 ha,kN h.t3 ha,h.Kc,h.Kb,h.Ka⟩
def Kp.of3 {T1 T2 T3:Addr}{H H':Hp}(s:pY T1 T2 T3 H H')(t:BZ T1 T2 T3 H):Kp H H':=λc o hc hn=>by
 obtain⟨R0,b1,_⟩:=t.t1;obtain⟨Yn,b2,_⟩:=t.t2;obtain⟨ps3,b3,_⟩:=t.t3;exact s c o (λz=>by rw [z,b1] at hc;cases hc;exact hn _ rfl) (λz=>by rw [z,b2] at hc;cases hc;exact hn _ rfl) (λz=>by rw [z,b3] at hc;cases hc;exact hn _ rfl) hc
structure Dt (K:bp)(C:Addr)(H:Hp)(a:Addr)(aa:List aw)(aY:List (Str×Nat))(bK:List Be):Prop where
 ia:∃dx fs e1 bg,H a=some (.ins C dx fs)/\fs.lookup ("empties":Str)=some (.ref e1)/\fs.lookup ("begins":Str)=some (.ref bg)/\(∃ts,H e1=some (.lst (ts.map V.ref))/\lX K H ts aY) /\
  ∃ts,H bg=some (.lst (ts.map V.ref))/\Paired (λt (b:Be)=>a_ K H t [.str b.1,.str b.2.1,.int (b.2.2.1:Int),.int (b.2.2.2:Int)]) ts bK
 emp:tL aa aY
 oh:tE aa aa.length aY
 KN:tM aa (hd aa) (λz=>decide (z∈aY.map (·.1))) bK
 G1:Dx aa (hd aa) (λz=>decide (z∈aY.map (·.1))) aa.length bK
 bs:∃e d bg kE ps,qi K C (λ_=>none) H a e d bg kE aY ps bK/\ps.map (·.1)=hd aa/\∀z,(bh kE (Sum.inr z)).isSome=decide (z∈aY.map (·.1))
def GY {C a e d bg:Addr}{H0 H H':Hp}{kE:List (aT×V)}{aY:List (Str×Nat)}{ps:List (Str×Addr)}{bK:List Be}(h:qi K C H0 H a e d bg kE aY ps bK)(k1:∀dx fs,H a=some (.ins C dx fs)->H' a=some (.ins C dx fs))(k2:∀b xs,H b=some (.lst xs)->H' b=some (.lst xs))(k3:∀b xs,a_ K H b xs->a_ K H' b xs)(k4:∀b xs,H b=some (.dK xs)->H' b=some (.dK xs)):qi K C (λ_=>none) H' a e d bg kE aY ps bK:=by
 refine⟨λ_ _ z=>(by cases z),?_,k4 _ _ h.he,k4 _ _ h.hd,h.n1,h.n2,λp hp=>?_,?_,rfl,?_⟩
 .obtain⟨dx,fs,q,r⟩:=h.ia;exact⟨dx,fs,k1 _ _ q,r⟩
 .obtain⟨⟨kvs,q,r⟩,t1,t2⟩:=h.dk p hp;exact⟨⟨kvs,k4 _ _ q,r⟩,rfl,t2⟩
 .obtain⟨ts,q,r⟩:=h.lb;exact⟨ts,k2 _ _ q,Paired.dH r λ_ _ z=>k3 _ _ z⟩
 obtain⟨e1,ts,⟨dx,fs,q1,q2⟩,q3,q4,q5⟩:=h.em;exact⟨e1,ts,⟨dx,fs,k1 _ _ q1,q2⟩,k2 _ _ q3,q4.keep k3,q5⟩
def Dt.mv {C a:Addr}{H H':Hp}{aa:List aw}{aY:List (Str×Nat)}{bK:List Be}(h:Dt K C H a aa aY bK)(k1:∀dx fs,H a=some (.ins C dx fs)->H' a=some (.ins C dx fs))(k2:∀b xs,H b=some (.lst xs)->H' b=some (.lst xs))(k3:∀b xs,a_ K H b xs->a_ K H' b xs)(k4:∀b xs,H b=some (.dK xs)->H' b=some (.dK xs)):Dt K C H' a aa aY bK:=by
 obtain⟨dx,fs,e1,bg,q1,q2,q3,⟨t1,q4,q5⟩,t2,q6,q7⟩:=h.ia;refine⟨⟨dx,fs,e1,bg,k1 _ _ q1,q2,q3,⟨t1,k2 _ _ q4,q5.keep k3⟩,t2,k2 _ _ q6,Paired.dH q7 λ_ _ z=>k3 _ _ z⟩,h.emp,h.oh,h.KN,h.G1,h.bs.elim λe bN=>?_⟩;obtain⟨d,bg,kE,ps,b,m,v⟩:=bN;exact⟨e,d,bg,kE,ps,GY b k1 k2 k3 k4,m,v⟩
def Dt.kp {C a:Addr}{H H':Hp}{aa:List aw}{aY:List (Str×Nat)}{bK:List Be}(h:Dt K C H a aa aY bK)(k:Kp H H'):Dt K C H' a aa aY bK:=h.mv (λ_ _ z=>k _ _ z (λ_ y=>by cases y)) (λ_ _ z=>k.lst z) (λ_ _ z=>k.tup z) λ_ _ z=>k _ _ z (λ_ y=>by cases y)
def Dt.same {C a:Addr}{H H':Hp}{aa:List aw}{aY:List (Str×Nat)}{bK:List Be}(h:Dt K C H a aa aY bK)(k:aC H H'):Dt K C H' a aa aY bK:=h.kp (Kp.of k)
def Ni {C:Addr}{H0 H:Hp}{a e d bg:Addr}{kE:List (aT×V)}{aa:List aw}{aY:List (Str×Nat)}{ps:List (Str×Addr)}{bK:List Be}(h:qi K C H0 H a e d bg kE aY ps bK)(emp:tL aa aY)(oh:tE aa aa.length aY)(KN:tM aa (hd aa) (λz=>decide (z∈aY.map (·.1))) bK)(G1:Dx aa (hd aa) (λz=>decide (z∈aY.map (·.1))) aa.length bK)(Sj:ps.map (·.1)=hd aa)(hkE:∀z,(bh kE (Sum.inr z)).isSome=decide (z∈aY.map (·.1))):Dt K C H a aa aY bK:=by
 obtain⟨dx,fs,q1,_,q3,_⟩:=h.ia;obtain⟨e1,t1,⟨Q6,tJ,q4,q5⟩,q6,q7,_⟩:=h.em;obtain⟨t2,q8,q9⟩:=h.lb;rw [q1] at q4;cases q4;exact⟨⟨dx,fs,e1,bg,q1,q5,q3,⟨t1,q6,q7⟩,t2,q8,q9⟩,emp,oh,KN,G1,e,d,bg,kE,ps,GY h (λ_ _ z=>z) (λ_ _ z=>z) (λ_ _ z=>z) (λ_ _ z=>z),Sj,hkE⟩
def A_ (K:bp)(Cg C T1 T2 T3:Addr):Sp:=λvs H Q _=>∃(H0:Hp)(g gx R:Addr)(sv:V)(rs ss:List Addr)(aa str:List aw)(rk:Str->Nat)(b:Str->Int),vs=[.ref g,.ref R,sv]/\aC H0 H/\H0 g=none/\H g=some (.ins Cg gx [])/\aG K H0 R (rs.map V.ref)/\bQ K H0 rs aa/\aa.length < 64/\(∀ru∈aa,ru.2.length<=8)/\aa≠[] /\
 StrIn K H0 sv ss str/\str.length<=1000/\(∀ru∈str,ru.2.length<=8)/\(str.flatMap (·.2)).Nodup/\Good aa rk b/\BZ T1 T2 T3 H0 /\
 ∀(bt:Addr)(H':Hp),pY T1 T2 T3 H0 H'->BZ T1 T2 T3 H'->RA H0 H' Cg g rs ss bt->(∃aY bK,Dt K C H' bt aa aY bK)->Q .eZ H'
def qi.D_ {C:Addr}{H0 H:Hp}{a e d bg:Addr}{kE:List (aT×V)}{aY:List (Str×Nat)}{ps:List (Str×Addr)}{bK:List Be}{g Cg gx:Addr}{fs HM:List (Str×V)}(h:qi K C H0 H a e d bg kE aY ps bK)(hg:H0 g=some (.ins Cg gx fs))(na:a≠g) :
  qi K C (upd H0 g (.ins Cg gx HM)) (upd H g (.ins Cg gx HM)) a e d bg kE aY ps bK:=by
 have Jm:=h.sm _ _ hg;have up:∀c o,c≠g->H c=some o->upd H g (.ins Cg gx HM) c=some o:=λc o n q=>by rw [ak n];exact q
 refine⟨λc o hc=>?_,?_,up _ _ (λz=>by have:=h.he;rw [z,Jm] at this;cases this) h.he,up _ _ (λz=>by have:=h.hd;rw [z,Jm] at this;cases this) h.hd,h.n1,h.n2,λp hp=>?_,?_,?_,?_⟩
 .by_cases z:c=g
  .rw [z,ae] at hc ⊢;exact hc
  rw [ak z] at hc ⊢;exact h.sm _ _ hc
 .obtain⟨dx,fs,q,r⟩:=h.ia;exact⟨dx,fs,up _ _ na q,r⟩
 .obtain⟨⟨kvs,q,r⟩,t1,t2⟩:=h.dk p hp;exact⟨⟨kvs,up _ _ (λz=>by rw [z,Jm] at q;cases q) q,r⟩,by rw [ak (λz=>by rw [z,hg] at t1;cases t1)];exact t1,t2⟩
 .obtain⟨ts,q,r⟩:=h.lb;exact⟨ts,up _ _ (λz=>by rw [z,Jm] at q;cases q) q,Paired.dH r λ_ _ z=>gQ Jm z⟩
 .have t1:=h.fb;rw [ak (λz=>by rw [z,hg] at t1;cases t1)];exact t1
 obtain⟨e1,ts,⟨dx,fs,q1,q2⟩,q3,q4,q5⟩:=h.em;exact⟨e1,ts,⟨dx,fs,up _ _ na q1,q2⟩,up _ _ (λz=>by rw [z,Jm] at q3;cases q3) q3,q4.keep λ_ _ z=>gQ Jm z,q5⟩
def Ir:aK ["self","rules","strengths"] ["self","rules","strengths"] (ay vV):=iz rfl rfl rfl rfl nofun
def Fv {Cg C C3 T1 T2 T3 fB fL:Addr}{ZA Zx:FuncData}(F:Hh K "__init__" "Grammar.__init__" vV f fd)(T:Txt mg)(G:GC K Cg)(GR:aF P w K mg base 6 "refuse_faults" ["rules","strengths"] (rp K T1 T2))(GS:aF P w K mg base 6 "standings_by_part" ["rules"] (JT K))
  (FB:bV P w K mg base fK 5 fB ZA ["self","rules"] (Bc K C))(MB:Mk K C fB)(BB:Binds K ZA ["self","rules"] [])(mB:mg "BeginTable"=some (.ref C))
  (FL:bV P w K mg base fK 5 fL Zx ["self","rules","begin_table"] (A9 K C C3 T1 T3))(ML:Mk K C3 fL)(BL:Binds K Zx ["self","rules","begin_table"] [])(mL:mg "LeastTrees"=some (.ref C3)):bV P w K mg base fK 7 f fd ["self","rules","strengths"] (A_ K Cg C T1 T2 T3):=by
 refine F.ok Ir (λvs H Q E h=>?_) (λeX A outer s H vs Q E hr h=>?_)
 .obtain⟨H0,g,gx,R,sv,rs,ss,aa,str,rk,b,rfl,_⟩:=h;rfl
 obtain⟨H0,g,gx,R,sv,rs,ss,aa,str,rk,b,rfl,s0,f0,eg,hR,cy,bu,h8,DE,yF,Va,Vg,Vf,gd,VR,q⟩:=h;refine⟨_,ag (gT (pv 0) (aX dq rfl T.lst eG (ab (pv 1) ai)) rfl)
  (ag (gU (gT (pv 0) (rL (dP (LM (pv 2))) (bL ai) (aX dq rfl T.lst eG (ab (pv 2) ai))) rfl))
  (ag (du (bq GR hr rfl (ab (eI (pv 0) rfl) (ab (eI (pv 0) rfl) ai))))
  (ag (gT (pv 0) (bq GS hr rfl (ab (eI (pv 0) rfl) ai)) rfl)
  (ag (gT (pv 0) (wb MB FB hr rfl mB BB .nil uu (ab (eI (pv 0) rfl) ai)) rfl)
  (ao (gT (pv 0) (wb ML FL hr rfl mL BL .nil uu (ab (eI (pv 0) rfl) (ab (eI (pv 0) rfl) ai))) rfl)))))),?_⟩
 nofun
 refine⟨_,rfl,R,_,rfl,.inl (s0.seq hR),λR2 HI=>?_⟩;have Wj:=af HI (.lst (rs.map V.ref)) _ _ eg;have sH:upd H R2 (.lst (rs.map V.ref)) R2=some (.lst (rs.map V.ref)):=ae;have Yk:=s0.trans (af HI (.lst (rs.map V.ref)));generalize upd H R2 (.lst (rs.map V.ref))=H1 at Wj sH Yk;refine⟨_,rfl,g,Cg,gx,[],rfl,Wj,G.cls,G.a1,(by show 0 < 1000;decide),?_⟩;generalize nV:eV "rules" (.ref R2) []=tJ;have N7:upd H1 g (.ins Cg gx tJ) R2=some (.lst (rs.map V.ref)):=by rw [ak (λz=>by rw [z,Wj] at sH;cases sH)];exact sH
 have ER:aC H0 (upd H1 g (.ins Cg gx tJ)):=λc o hc=>by rw [ak (λz=>by rw [z,f0] at hc;cases hc)];exact Yk c o hc
 have SF:upd H1 g (.ins Cg gx tJ) g=some (.ins Cg gx tJ):=ae;generalize upd H1 g (.ins Cg gx tJ)=H2 at N7 ER SF;refine⟨λσ H3=>σ=[aD g,aD R,some sv]/\∃S2 fs,aC H0 H3/\H3 g=some (.ins Cg gx fs)/\fs=eV "strengths" (.ref S2) tJ/\H3 R2=some (.lst (rs.map V.ref))/\H3 S2=some (.lst (ss.map V.ref))/\H0 S2=none,?_,?_⟩
 .have fin:∀S2,H2 S2=none->(λH3=>∃S2 fs,aC H0 H3/\H3 g=some (.ins Cg gx fs)/\fs=eV "strengths" (.ref S2) tJ/\H3 R2=some (.lst (rs.map V.ref))/\H3 S2=some (.lst (ss.map V.ref))/\H0 S2=none) (upd (upd H2 S2 (.lst (ss.map V.ref))) g (.ins Cg gx (eV "strengths" (.ref S2) tJ)))/\upd H2 S2 (.lst (ss.map V.ref)) g=some (.ins Cg gx tJ):=λS2 Ks=>by
   have sl:=af Ks (.lst (ss.map V.ref));have eS:upd H2 S2 (.lst (ss.map V.ref)) S2=some (.lst (ss.map V.ref)):=ae;have QY:=sl _ _ SF;refine⟨⟨S2,_,λc o hc=>?_,ae,rfl,?_,?_,ER.free Ks⟩,QY⟩
   .rw [ak (λz=>by rw [z,f0] at hc;cases hc)];exact sl _ _ (ER c o hc)
   .rw [ak (λz=>by rw [z,SF] at N7;cases N7)];exact sl _ _ N7
   rw [ak (λz=>by rw [z,SF] at Ks;cases Ks)];exact eS
  rcases yF with ⟨rfl,rfl,rfl⟩ | ⟨S,rfl,hS,Sg⟩
  .refine⟨_,rfl,_,rfl,?_⟩;refine fC ?_;refine⟨yB,λS2 Ks=>?_⟩;obtain⟨x1,x2⟩:=fin S2 Ks;exact⟨_,rfl,g,Cg,gx,tJ,rfl,x2,G.cls,G.a2,(by rw [<-nV];show 1 < 1000;decide),rfl,x1⟩
  refine⟨_,rfl,_,rfl,?_⟩;refine dM ?_;refine⟨_,rfl,S,_,rfl,.inl (ER.seq hS),λS2 Ks=>?_⟩;obtain⟨x1,x2⟩:=fin S2 Ks;exact⟨_,rfl,g,Cg,gx,tJ,rfl,x2,G.cls,G.a2,(by rw [<-nV];show 1 < 1000;decide),rfl,x1⟩
 rintro σ H3 ⟨rfl,S2,HL,yD,QY,qc,ZL,ZJ,fS2⟩;have YN:HL.lookup ("rules":Str)=some (.ref R2):=by rw [qc,<-nV];rfl
 have Sa:HL.lookup ("strengths":Str)=some (.ref S2):=by rw [qc,<-nV];rfl
 have Vc:bQ K H3 ss str:=by
  rcases yF with ⟨_,rfl,rfl⟩ | ⟨S,_,_,Sg⟩
  .exact .nil
  exact Sg.same yD
 have yC:=VR.same yD;refine⟨_,rfl,g,Cg,gx,HL,_,rfl,QY,G.cls,G.a1,YN,_,rfl,g,Cg,gx,HL,_,rfl,QY,G.cls,G.a2,Sa,R2,S2,rs,ss,aa,str,rk,b,rfl,aG.of ZL,cy.same yD,∅,h8,DE,aG.of ZJ,Vc,Va,Vg,Vf,gd,yC.t1,yC.t2,yC.Kc,λH4 RU X1 X0=>?_⟩;have Jd:=Kp.of2 RU yC.t1 yC.t2;have t4:BZ T1 T2 T3 H4:=⟨X1,X0,Tab.s2 yC.t3 RU yC.t1 yC.t2 yC.Kb.symm yC.Ka.symm,yC.Kc,yC.Kb,yC.Ka⟩;have S04:pY T1 T2 T3 H0 H4:=λc o n1 n2 _ hc=>RU c o n1 n2 (yD c o hc);have ZT:=Jd _ _ QY (λ_ z=>by cases z);have ZK:=Jd.lst ZL;have es4:=Jd.lst ZJ;have Qg:bQ K H4 rs aa:=Jd.aa (cy.same yD);clear X1 X0 RU yC;refine⟨_,rfl,g,Cg,gx,HL,_,rfl,ZT,G.cls,G.a1,YN,R2,rs,aa,rfl,aG.of ZK,Qg,∅,h8,λds H5 fds xx=>?_⟩;have Gv:=xx _ _ ZT;have er5:=xx _ _ ZK;have es5:=xx _ _ es4;have Vj:=Qg.same xx;have t5:=t4.same xx;have S05:pY T1 T2 T3 H0 H5:=λc o n1 n2 n3 hc=>xx _ _ (S04 c o n1 n2 n3 hc);refine⟨_,rfl,g,Cg,gx,HL,rfl,Gv,G.cls,G.a4,(by rw [qc,<-nV];show 2 < 1000;decide),?_⟩;generalize wD:eV "standings" (.ref ds) HL=yJ;have Up:∀{Hx:Hp}{fx fy:List (Str×V)},Hx g=some (.ins Cg gx fx)->pY T1 T2 T3 H0 Hx->pY T1 T2 T3 H0 (upd Hx g (.ins Cg gx fy)):=λ{Hx fx fy} hg hs c o n1 n2 n3 hc=>by
  rw [ak (λz=>by rw [z,f0] at hc;cases hc)];exact hs c o n1 n2 n3 hc
 have Mb:∀{Hx:Hp}{fx fy:List (Str×V)}{b:Addr}{xs:List V},Hx g=some (.ins Cg gx fx)->Hx b=some (.lst xs)->upd Hx g (.ins Cg gx fy) b=some (.lst xs):=λ{Hx fx fy b xs} hg hb=>by
  rw [ak (λz=>by rw [z,hg] at hb;cases hb)];exact hb
 have S06:=Up (fy:=yJ) Gv S05;have Wc:=Mb (fy:=yJ) Gv er5;have ZI:=Mb (fy:=yJ) Gv es5;have Ms:bQ K (upd H5 g (.ins Cg gx yJ)) rs aa:=Vj.keep λ_ _ z=>gQ Gv z;have t6:BZ T1 T2 T3 (upd H5 g (.ins Cg gx yJ)):=t5.D_ Gv;have HQ:upd H5 g (.ins Cg gx yJ) g=some (.ins Cg gx yJ):=ae;generalize upd H5 g (.ins Cg gx yJ)=H6 at S06 Wc ZI Ms t6 HQ;have lk6:yJ.lookup ("rules":Str)=some (.ref R2):=by rw [<-wD,qc,<-nV];rfl
 refine⟨_,rfl,g,Cg,gx,yJ,_,rfl,HQ,G.cls,G.a1,lk6,λx dx hx hdx ndx=>?_⟩;have sx:aC H6 (upd (upd H6 dx (.own x)) x (.ins C dx [])):=(af hdx _).trans (af (by rw [ak ndx.symm];exact hx) _);refine⟨H6,x,dx,R2,rs,aa,rfl,sx,hx,ae,aG.of Wc,Ms,∅,h8,λe d bg kE aY ps bK H7 S7 m7 emp oh vE KN G1=>⟨rfl,?_⟩⟩;have N8:=S7.sm _ _ HQ;have er7:=S7.sm _ _ Wc;have es7:=S7.sm _ _ ZI;have t7:=t6.same S7.sm;have Vi:=Ms.same S7.sm;have S07:pY T1 T2 T3 H0 H7:=λc o n1 n2 n3 hc=>S7.sm _ _ (S06 c o n1 n2 n3 hc);refine⟨_,rfl,g,Cg,gx,yJ,rfl,N8,G.cls,G.a3,(by rw [<-wD,qc,<-nV];show 3 < 1000;decide),?_⟩;generalize Am:eV "begin_table" (.ref x) yJ=Aq;have S08:=Up (fy:=Aq) N8 S07;have Wb:=Mb (fy:=Aq) N8 er7;have ZH:=Mb (fy:=Aq) N8 es7;have Qf:bQ K (upd H7 g (.ins Cg gx Aq)) rs aa:=Vi.keep λ_ _ z=>gQ N8 z;have t8:BZ T1 T2 T3 (upd H7 g (.ins Cg gx Aq)):=t7.D_ N8;have SE:upd H7 g (.ins Cg gx Aq) g=some (.ins Cg gx Aq):=ae;have B8:qi K C (upd H6 g (.ins Cg gx Aq)) (upd H7 g (.ins Cg gx Aq)) x e d bg kE aY ps bK:=S7.D_ HQ (λz=>by rw [z,HQ] at hx;cases hx);generalize upd H7 g (.ins Cg gx Aq)=H8 at S08 Wb ZH Qf t8 SE B8;have UQ:Aq.lookup ("rules":Str)=some (.ref R2):=by rw [<-Am,<-wD,qc,<-nV];rfl
 have lb8:Aq.lookup ("begin_table":Str)=some (.ref x):=by rw [<-Am,<-wD,qc,<-nV];rfl
 refine⟨_,rfl,g,Cg,gx,Aq,_,rfl,SE,G.cls,G.a1,UQ,_,rfl,g,Cg,gx,Aq,_,rfl,SE,G.cls,G.a3,lb8,λy dy hy hdy ndy=>?_⟩;have sy:aC H8 (upd (upd H8 dy (.own y)) y (.ins C3 dy [])):=(af hdy _).trans (af (by rw [ak ndy.symm];exact hy) _);have Mh:=KN.len ∅ h8;refine⟨H8,_,y,dy,R2,x,e,d,bg,rs,aa,kE,aY,ps,bK,rfl,sy,hy,ae,aG.of Wb,Qf,bu,h8,gd.least,B8,emp,Mh,t8.t1,t8.t3,t8.Kb,λH9 T6 TR t39=>⟨rfl,?_⟩⟩;have Jc:=Kp.of2 T6 t8.t1 t8.t3;have Kz:=Jc _ _ SE (λ_ z=>by cases z);have er9:=Jc.lst Wb;have es9:=Jc.lst ZH;have t9:BZ T1 T2 T3 H9:=⟨TR,Tab.s2 t8.t2 T6 t8.t1 t8.t3 t8.Kc.symm t8.Ka,t39,t8.Kc,t8.Kb,t8.Ka⟩;have S09:pY T1 T2 T3 H0 H9:=λc o n1 n2 n3 hc=>T6 _ _ n1 n3 (S08 c o n1 n2 n3 hc);refine⟨_,rfl,g,Cg,gx,Aq,rfl,Kz,G.cls,G.a5,(by rw [<-Am,<-wD,qc,<-nV];show 4 < 1000;decide),?_⟩;refine q x _ (Up Kz S09) (t9.D_ Kz) ⟨gx,_,R2,S2,ae,?_,?_,?_,?_,Mb Kz er9,Mb Kz es9,s0.free HI,fS2⟩ ⟨aY,bK,?_⟩
 .rw [<-Am,<-wD,qc,<-nV];rfl
 .rw [<-Am,<-wD,qc,<-nV];rfl
 .rw [<-Am,<-wD,qc,<-nV];rfl
 .rw [<-Am,<-wD,qc,<-nV];rfl
 have nxg:x≠g:=λz=>by rw [z,HQ] at hx;cases hx
 exact((Ni B8 emp oh KN G1 m7 vE).kp Jc).mv (λ_ _ z=>by rw [ak nxg];exact z) (λ_ _ z=>Mb Kz z) (λ_ _ z=>gQ Kz z) λb xs z=>by rw [ak (λy=>by rw [y,Kz] at z;cases z)];exact z
end
noncomputable def mV:List Str->Str->Nat
 | [],_=>0
 | a::r,x=>if a=x then 0 else mV r x+1
theorem mQ:∀(l:List Str)(x:Str),x∈l->l[mV l x]?=some x
 | [],x,h=>by cases h
 | a::r,x,h=>by
  unfold mV;by_cases c:a=x
  .rw [ax c];exact congrArg some c
  rw [az c];rcases b8.mp h with e | e
  .exact absurd e.symm c
  rw [List.getElem?_cons_succ];exact mQ r x e
theorem kZ:∀(l:List Str)(x:Str) (i:Nat),x∈l.take i->mV l x < i
 | [],x,i,h=>by simp at h
 | a::r,x,0,h=>by simp at h
 | a::r,x,i+1,h=>by
  unfold mV;by_cases c:a=x
  .rw [ax c];omega
  rw [az c];rw [List.take_succ_cons] at h;rcases b8.mp h with e | e
  .exact absurd e.symm c
  have:=kZ r x i e;omega
def nu {l:List Str}{x:Str}{i:Nat}(h:x∈l.take i):∃j,j < i/\l[j]?=some x:=by
 obtain⟨j,hj⟩:=fj h;have lj:=(bf.mp hj).1;rw [dr] at lj;rw [tX ∅] at hj;exact⟨j,∅,hj⟩
def uG {aa:List aw}{ru:aw}(h:ru∈aa):ru.1∈hd aa:=(hJ _ _ _).mpr (.inr (iq h))
def Kr {aa:List aw}{x:Str}(h:x∈hd aa):∃ru∈aa,ru.1=x:=by
 rcases (hJ _ _ _).mp h with h | h
 .cases h
 obtain⟨ru,a,b⟩:=cx.mp h;exact⟨ru,a,b⟩
def Ky {aa:List aw}{x:Str}(h:Em aa x):x∈hd aa:=by
 cases h with
 | mk h _=>exact uG h
def Aw {aa:List aw}{aY:List (Str×Nat)}(h:tL aa aY):∀y∈aY.map (·.1),Em aa y:=by
 induction h with
 | nil=>intro y hy;cases hy
 | @snoc aY k ru _ e _ p ih =>
  intro y hy;rw [bA] at hy;rcases cg.mp hy with h | h
  .exact ih y h
  rw [bH.mp h];exact .mk (b9 e) λq hq=>ih q (p q hq)
def xS {b:Str->Bool}{zs:List Str}{i j:Nat}{x:Str}(h:I9 b zs j=true)(e:zs[i]?=some x)(n:i≠j):b x=true:=by
 cases hb:b x with
 | true=>rfl
 | false =>
  have li:=(bf.mp e).1;have m:((i:Nat):Int)∈CY b zs zs.length:=by
   unfold CY;exact cx.mpr ⟨i,i0.mpr ⟨mq.mpr li,by rw [e];show (!(b x))=true;rw [hb];rfl⟩,rfl⟩
  unfold I9 at h;rcases Bool.or_eq_true_iff.mp h with h | h
  .rw [<-cw h] at m;cases m
  rw [<-cw h] at m;have:=bH.mp m;omega
theorem AX {f:Str->Int}{c:Int}:∀(ps:List Str),(∀x∈ps,f x<=c)->(ps.map f).sum<=ps.length * c
 | [],_=>by simp
 | p::r,h=>by
  have h1:=AX r λx hx=>h x (cY _ hx);have h2:=h p cS;rw [cE,kq,fc];have:((r.length+1:Nat):Int) * c=(r.length:Int) * c+c:=by rw [Int.natCast_add,Int.add_mul];omega
  omega
structure Rq (aa:List aw) (ns E M Pl:List Str):Prop where
 n3:ns.length<=3
 xX:∀ru∈aa,ru.1∈ns
 p3:∀ru∈aa,ru.2.length<=3
 eN:E.Nodup
 eNs:∀x∈E,x∈ns
 eO:∀(i:Nat)(h:Str),E[i]?=some h->∃de,(h,de)∈aa/\∀p∈de,p∈E.take i\/p∉hd aa
 eA:∀h∈hd aa,h∈E
 mO:∀(i:Nat)(h:Str),M[i]?=some h->(∃jc,aa[0]?=some jc/\h=jc.1)\/∃ru∈aa,ru.1∈M.take i/\h∈ru.2
 mA:∀h∈hd aa,h∈M
 lN:Pl.Nodup
 lNs:∀x∈Pl,x∈ns
 lO:∀(i:Nat)(h:Str),Pl[i]?=some h->∀ru∈aa,ru.1=h->∀(j:Nat)(z:Str),ru.2[j]?=some z->z∈hd aa->(∀(k:Nat)(y:Str),k≠j->ru.2[k]?=some y->Em aa y)->z∈Pl.take i
 lA:∀h∈hd aa,h∈Pl
noncomputable def b3:Nat->Int
 | 0=>1
 | 1=>4
 | _=>13
noncomputable def c3:Nat->Int
 | 0=>0
 | 1=>1
 | _=>4
def KQ {i j:Nat}(hi:i < 3)(h:j < i):b3 j<=c3 i:=by
 have:∀i:Nat,i < 3->∀j:Nat,j < i->b3 j<=c3 i:=by decide
 exact this i hi j h
def Rc {i:Nat}:1+3 * c3 i=b3 i:=by
 match i with
 | 0=>rfl
 | 1=>rfl
 | _+2=>rfl
def KL {i:Nat}:0<=c3 i:=by
 match i with
 | 0=>decide
 | 1=>decide
 | _+2=>exact(by decide:(0:Int)<=4)
def G3 {i:Nat}:0<=b3 i/\b3 i<=60:=by
 match i with
 | 0=>decide
 | 1=>decide
 | _+2=>exact(by decide:(0:Int)<=13/\(13:Int)<=60)
def JV {f:Str->Int}{i:Nat}{ps:List Str}(h3:ps.length<=3)(h:∀x∈ps,f x<=c3 i):1+(ps.map f).sum<=b3 i:=by
 have h1:=AX ps h;have h2:(ps.length:Int) * c3 i<=3 * c3 i:=Int.mul_le_mul_of_nonneg_right ∅ KL;have:=@Rc i;omega
def bP (Pl:List Str)(x:Str):Int:=if x∈Pl then b3 (mV Pl x) else 0
def Rq.good {aa:List aw}{ns E M Pl:List Str}(O:Rq aa ns E M Pl):Good aa (mV Pl) (bP Pl) where
 least g st se:=by
  have le3:E.length<=3:=f_ (gK E ns O.eN O.eNs) O.n3;have a8:∀x,x∉hd aa->∀ru∈aa,x∈ru.2->g x=some 0:=by
   intro x nn ru gX hm;refine eJ.keep (J:=λg=>g x=some 0) (λg EW j h2 _=>?_) st ?_
   .show dW g EW.1 _ x=some 0;unfold dW;have:x≠EW.1:=λz=>nn (z ▸ uG h2);rw [az this];exact j
   show wG aa x=some 0;unfold wG;rw [ax (qj _ _ _ _ (.inr ⟨qB.mpr ⟨ru,gX,hm⟩,nn⟩))]
  have key:∀(n i:Nat),i < n->∀h:Str,E[i]?=some h->∃m,g h=some m/\m<=b3 i:=by
   intro n
   induction n with
   | zero=>intro i hi;omega
   | succ n ih =>
    intro i hi h e;have li:=(bf.mp e).1;obtain⟨ps,hm,hp⟩:=O.eO i h e;have hv:∀p∈ps,∃m,g p=some m/\m<=c3 i:=λp F4=>by
     rcases hp p F4 with h1 | h1
     .obtain⟨j,lj,ej⟩:=nu h1;obtain⟨m,e1,e2⟩:=ih j ∅ p ej;exact⟨m,e1,oA e2 (KQ ∅ lj)⟩
     exact⟨0,a8 p h1 _ hm F4,KL⟩
    have hs:=se _ hm;unfold c_ at hs;have a1:kc g (h,ps)=true:=dN.mpr λp hp=>by obtain⟨m,e1,_⟩:=hv p hp;show (g p).isSome=true;rw [e1];rfl
    have s0:aM g (h,ps)<=b3 i:=by
     unfold aM;exact JV (O.p3 _ hm) λp hp=>by obtain⟨m,e1,e2⟩:=hv p hp;show (g p).getD 0<=_;rw [e1];exact e2
    rw [a1,iX] at hs;cases gn:g h with
    | none=>rw [show g (h,ps).1=none from gn] at hs;cases hs
    | some m =>
     rw [show g (h,ps).1=some m from gn] at hs;refine⟨m,rfl,?_⟩;have:¬aM g (h,ps) < m:=by simpa [M11.bl] using hs
     omega
  intro h hh;obtain⟨i,hi⟩:=fj (O.eA h hh);obtain⟨m,e1,e2⟩:=key (i+1) i ∅ h hi;exact⟨m,e1,oA e2 G3.2⟩
 met jc ms e0 h0 mc:=by
  have key:∀(n i:Nat),i < n->∀h:Str,M[i]?=some h->h∈ms:=by
   intro n
   induction n with
   | zero=>intro i hi;omega
   | succ n ih =>
    intro i hi h e;rcases O.mO i h e with ⟨r0,e1,e2⟩ | ⟨ru,gX,h1,h2⟩
    .rw [e0] at e1;cases e1;rw [e2];exact h0
    obtain⟨j,lj,ej⟩:=nu h1;exact mc ru (by rw [cv];exact gX) (ih j ∅ _ ej) h h2
  intro h hh;obtain⟨i,hi⟩:=fj (O.mA h hh);exact key (i+1) i ∅ h hi
 loop:=by
  rintro aY emp oh n k j ⟨jc,z0,e1,e2,e3,e4,e5⟩ ru z er ez;rw [er] at e1;obtain rfl:ru=jc:=gO e1;rw [ez] at e3;obtain rfl:z=z0:=gO e3;have gX:=b9 er;have hn:n∈Pl:=O.lA n (e2 ▸ uG gX);refine kZ Pl z _ (O.lO _ n (mQ Pl n hn) ru gX e2 j z ez e4 λk' y nk ey=>?_);have:=xS e5 ey nk;exact Aw emp y (cw this)
 bnd:=by
  refine⟨λz=>?_,λru gX Kq=>?_⟩
  .unfold bP
   split
   .exact G3.1
   decide
  have hn:ru.1∈Pl:=O.lA _ (uG gX);have li:=(bf.mp (mQ Pl ru.1 hn)).1;have le3:Pl.length<=3:=f_ (gK Pl ns O.lN O.lNs) O.n3;have e:bP Pl ru.1=b3 (mV Pl ru.1):=ax hn;rw [e];refine JV (O.p3 ru gX) λp hp=>?_;obtain⟨j,ej⟩:=fj hp;have ht:=O.lO _ ru.1 (mQ Pl ru.1 hn) ru gX rfl j p ej (Ky (Kq p hp)) λk' y _ ey=>Kq y (b9 ey);have e2:bP Pl p=b3 (mV Pl p):=ax (qH ht);rw [e2];exact KQ ∅ (kZ Pl p _ ht)
 most h hh:=by
  unfold bP
  split
  .exact G3.2
  decide
end gY
namespace M11
open PySem
noncomputable def fg (a8:Bool) (br e:List Str)(ru:aw):List Str:=if ((ru.2.all λp=>decide (p∈e) || (a8 && !decide (p∈br))) && !decide (ru.1∈e))=true then e++[ru.1] else e
noncomputable def gZ (a8:Bool) (br e:List Str)(aa:List aw):List Str:=aa.foldl (fg a8 br) e
noncomputable def passes {α:Type}(f:α->α):Nat->α->α
 | 0,a=>a
 | n+1,a=>f (passes f n a)
noncomputable def d6 (a8:Bool)(aa:List aw):List Str:=passes (λe=>gZ a8 (aa.map (·.1)) e aa) aa.length []
structure EO (a8:Bool) (br:List Str)(aa:List aw) (e:List Str):Prop where
 nd:e.Nodup
 ord:∀(i:Nat)(h:Str),e[i]?=some h->∃de,(h,de)∈aa/\∀p∈de,p∈e.take i\/(a8=true/\p∉br)
def EO.step {a8:Bool}{br:List Str}{aa:List aw}{e:List Str}(h:EO a8 br aa e){ru:aw}(hr:ru∈aa):EO a8 br aa (fg a8 br e ru):=by
 unfold fg
 split
 .rename_i c
  obtain⟨c1,c2⟩:=jo.mp c;have c2':ru.1∉e:=by simpa using c2
  refine⟨jm.mpr ⟨h.nd,by simp,λa ha b hb z=>c2' (by rw [<-bH.mp hb,<-z];exact ha)⟩,λi x hx=>?_⟩;by_cases l:i < e.length
  .rw [pI l] at hx;obtain⟨de,a,b⟩:=h.ord i x hx;refine⟨de,a,λp hp=>?_⟩;rw [qI ∅];exact b p hp
  have li:=(bf.mp hx).1;rw [bW,gP] at li;have:i=e.length:=by omega
  subst this;rw [nj (aU _),Nat.sub_self] at hx;cases hx;refine⟨ru.2,hr,λp hp=>?_⟩;rw [qI (aU _),cv];have:=dN.mp c1 p hp;simp only [Bool.or_eq_true,decide_eq_true_eq,kr,Bool.not_eq_true',decide_eq_false_iff_not] at this;exact this
 exact h
theorem EO.pass {a8:Bool}{br:List Str}{aa:List aw}:∀(rs:List aw){e:List Str},(∀ru∈rs,ru∈aa)->EO a8 br aa e->EO a8 br aa (rs.foldl (fg a8 br) e)
 | [],_,_,h=>h
 | ru::rs,_,hs,h=>EO.pass rs (λr hr=>hs r (cY _ hr)) (h.step (hs ru cS))
def k_ (a8:Bool)(aa:List aw):EO a8 (aa.map (·.1)) aa (d6 a8 aa):=by
 have:∀n,EO a8 (aa.map (·.1)) aa (passes (λe=>gZ a8 (aa.map (·.1)) e aa) n []):=by
  intro n
  induction n with
  | zero=>exact⟨iZ,λi h e=>by cases e⟩
  | succ n ih=>exact EO.pass aa (λ_ h=>h) ih
 exact this _
def ug (a8:Bool) (br e:List Str)(ru:aw):fg a8 br e ru=e\/e.length < (fg a8 br e ru).length:=by
 unfold fg
 split
 .right;simp
 left;rfl
theorem x9 (a8:Bool) (br:List Str):∀(rs:List aw) (e:List Str),e.length<=(rs.foldl (fg a8 br) e).length
 | [],_=>aU _
 | ru::rs,e=>by
  have h1:=x9 a8 br rs (fg a8 br e ru);have h2:=ug a8 br e ru;show _<=(rs.foldl (fg a8 br) (fg a8 br e ru)).length;rcases h2 with h | h
  .rw [h] at h1 ⊢;exact h1
  omega
theorem so (a8:Bool) (br:List Str):∀(rs:List aw) (e:List Str),(rs.foldl (fg a8 br) e=e/\∀ru∈rs,fg a8 br e ru=e)\/e.length < (rs.foldl (fg a8 br) e).length
 | [],_=>.inl ⟨rfl,λ_ h=>by cases h⟩
 | ru::rs,e=>by
  show (rs.foldl (fg a8 br) (fg a8 br e ru)=e/\_)\/_ < (rs.foldl (fg a8 br) (fg a8 br e ru)).length;rcases ug a8 br e ru with h | h
  .rw [h];rcases so a8 br rs e with ⟨a,b⟩ | c
   .refine .inl ⟨a,λr hr=>?_⟩;rcases b8.mp hr with rfl | hr
    .exact h
    exact b r hr
   exact .inr c
  right;have:=x9 a8 br rs (fg a8 br e ru);omega
theorem g9:∀(l m:List Str),l.Nodup->(∀z∈l,z∈m)->l.length<=m.length
 | [],m,_,_=>gG _
 | x::r,m,hn,hs=>by
  have hx:=hs x cS;have F_:=iI.mp hn;have:=g9 r (m.erase x) F_.2 λz hz=>(List.mem_erase_of_ne (λe=>F_.1 (by rw [<-e];exact hz))).mpr (hs z (cY _ hz));rw [yS hx] at this;have:0 < m.length:=yM hx;rw [fc];omega
def EO.sub {a8:Bool}{br:List Str}{aa:List aw}{e:List Str}(h:EO a8 br aa e):∀x∈e,x∈aa.map (·.1):=λx hx=>by
 obtain⟨i,hi⟩:=fj hx;obtain⟨de,a,_⟩:=h.ord i x hi;exact cx.mpr ⟨_,a,rfl⟩
def C2 (a8:Bool)(aa:List aw):∀ru∈aa,fg a8 (aa.map (·.1)) (d6 a8 aa) ru=d6 a8 aa:=by
 have eo:∀n,EO a8 (aa.map (·.1)) aa (passes (λe=>gZ a8 (aa.map (·.1)) e aa) n []):=by
  intro n
  induction n with
  | zero=>exact⟨iZ,λi h e=>by cases e⟩
  | succ n ih=>exact EO.pass aa (λ_ h=>h) ih
 have key:∀n,(passes (λe=>gZ a8 (aa.map (·.1)) e aa) (n+1) []=passes (λe=>gZ a8 (aa.map (·.1)) e aa) n []/\∀ru∈aa,fg a8 (aa.map (·.1)) (passes (λe=>gZ a8 (aa.map (·.1)) e aa) n []) ru=passes (λe=>gZ a8 (aa.map (·.1)) e aa) n [])\/n < (passes (λe=>gZ a8 (aa.map (·.1)) e aa) (n+1) []).length:=by
  intro n
  induction n with
  | zero =>
   rcases so a8 (aa.map (·.1)) aa [] with h | h
   .exact .inl h
   exact .inr h
  | succ n ih =>
   rcases ih with ⟨a,b⟩ | c
   .left;rw [show passes (λe=>gZ a8 (aa.map (·.1)) e aa) (n+1+1) []=gZ a8 (aa.map (·.1)) (passes (λe=>gZ a8 (aa.map (·.1)) e aa) (n+1) []) aa from rfl,a];exact⟨a,b⟩
   rcases so a8 (aa.map (·.1)) aa (passes (λe=>gZ a8 (aa.map (·.1)) e aa) (n+1) []) with h | h
   .exact .inl h
   right;have h2:(passes (λe=>gZ a8 (aa.map (·.1)) e aa) (n+1) []).length < (passes (λe=>gZ a8 (aa.map (·.1)) e aa) (n+1+1) []).length:=h;omega
 rcases key aa.length with ⟨_,b⟩ | c
 .exact b
 have e1:=eo (aa.length+1);have:=g9 _ _ e1.nd e1.sub;rw [au] at this;omega
def wK {a8:Bool}{aa:List aw}{ru:aw}(hr:ru∈aa)(h:∀p∈ru.2,p∈d6 a8 aa\/(a8=true/\p∉aa.map (·.1))):ru.1∈d6 a8 aa:=by
 have:=C2 a8 aa ru hr;unfold fg at this;by_cases c:ru.1∈d6 a8 aa
 .exact c
 rw [ax] at this
 .have:=congrArg List.length this;rw [bW] at this;simp at this
 refine jo.mpr ⟨dN.mpr λp hp=>?_,by simpa using c⟩;simp only [Bool.or_eq_true,decide_eq_true_eq,kr,Bool.not_eq_true',decide_eq_false_iff_not];exact h p hp
def sJ {aa:List aw}{x:Str}(h:Em aa x):x∈d6 false aa:=by
 induction h with
 | mk hr _ ih=>exact wK hr λp hp=>.inl (ih p hp)
end M11
namespace gY
open PySem L2 M11
abbrev EL:Stmt:=top 50
abbrev zp:Stmt:=top 51
abbrev vO:Stmt:=top 52
abbrev vX:Stmt:=top 53
abbrev ED:Stmt:=top 54
abbrev EF:Stmt:=top 55
abbrev zt:Stmt:=top 56
abbrev EJ:Stmt:=top 58
abbrev EI:Stmt:=top 59
abbrev EB:Stmt:=top 57
def Xg {zs:List Str}{m:Int}(h:(zs.length:Int)=m)(hm:0 < m) (n:Int):∃z∈zs,lV (zs.map V.str) (n % m)=some (.str z):=by
 subst h;have h1:=Int.emod_lt_of_pos n hm;have h2:=Int.emod_nonneg n (show (zs.length:Int)≠0 by omega);have l:(n % (zs.length:Int)).toNat < zs.length:=by omega
 have e:n % (zs.length:Int)=(((n % (zs.length:Int)).toNat:Nat):Int):=by omega
 refine⟨zs[(n % (zs.length:Int)).toNat],qP l,?_⟩;have t:lV (zs.map V.str) (((n % (zs.length:Int)).toNat:Nat):Int)=some (.str zs[(n % (zs.length:Int)).toNat]):=bT (by rw [a9,dI l];rfl);rw [<-e] at t;exact t
noncomputable def xD {α:Type}(i:Nat)(x y z:α):α:=match i with | 0=>x | 1=>y | _=>z
def PF {H:Hp}{L1 L2 L3 LL:Addr}{xs ys zs:List V}(h1:H L1=none)(h2:upd H L1 (.lst xs) L2=none)(h3:upd (upd H L1 (.lst xs)) L2 (.lst ys) L3=none)
  (h4:upd (upd (upd H L1 (.lst xs)) L2 (.lst ys)) L3 (.lst zs) LL=none):aC H (upd (upd (upd (upd H L1 (.lst xs)) L2 (.lst ys)) L3 (.lst zs)) LL (.lst [.ref L1,.ref L2,.ref L3]))/\∀i:Nat,i < 3->∃Li,lV [V.ref L1,V.ref L2,V.ref L3] (i:Int)=some (.ref Li)/\H Li=none /\
   upd (upd (upd (upd H L1 (.lst xs)) L2 (.lst ys)) L3 (.lst zs)) LL (.lst [.ref L1,.ref L2,.ref L3]) Li=some (.lst (xD i xs ys zs)):=by
 have s1:=af h1 (.lst xs);have s2:=af h2 (.lst ys);have s3:=af h3 (.lst zs);have s4:=af h4 (.lst [.ref L1,.ref L2,.ref L3]);refine⟨s1.trans (s2.trans (s3.trans s4)),λi hi=>?_⟩
 match i,hi with
 | 0,_=>exact⟨L1,rfl,h1,s4 _ _ (s3 _ _ (s2 _ _ ae))⟩
 | 1,_=>exact⟨L2,rfl,s1.free h2,s4 _ _ (s3 _ _ ae)⟩
 | 2,_=>exact⟨L3,rfl,s1.free (s2.free h3),s4 _ _ ae⟩
noncomputable def Bs (i:Nat):List Str:=xD i ["s","t","u","w","v"] ["b","aa","k","bb","e"] ["a","ab","n","d","aba"]
noncomputable def RI (i:Nat):List Str:=xD i ["a","b","c"] ["ab","a","c"] ["b","+","ba"]
def I8 (i:Nat):xD i [V.str "s",V.str "t",V.str "u",V.str "w",V.str "v"] [V.str "b",V.str "aa",V.str "k",V.str "bb",V.str "e"] [V.str "a",V.str "ab",V.str "n",V.str "d",V.str "aba"]=(Bs i).map V.str:=by
 match i with
 | 0=>rfl
 | 1=>rfl
 | _+2=>rfl
def Ig (i:Nat):xD i [V.str "a",V.str "b",V.str "c"] [V.str "ab",V.str "a",V.str "c"] [V.str "b",V.str "+",V.str "ba"]=(RI i).map V.str:=by
 match i with
 | 0=>rfl
 | 1=>rfl
 | _+2=>rfl
def LZ (i:Nat):(Bs i).length=5:=by
 match i with
 | 0=>rfl
 | 1=>rfl
 | _+2=>rfl
def K2 (i:Nat):(RI i).length=3:=by
 match i with
 | 0=>rfl
 | 1=>rfl
 | _+2=>rfl
def FH (i:Nat):∀z∈Bs i,z.length<=3:=by
 match i with
 | 0=>decide +kernel
 | 1=>decide +kernel
 | n+2=>exact(by decide +kernel:∀z∈Bs 2,z.length<=3)
def Cf {j:Nat}(h:j < 3):(v3 "y" j).length<=2:=by
 match j,h with
 | 0,_=>decide +kernel
 | 1,_=>decide +kernel
 | 2,_=>decide +kernel
section
def cellAt (ns:List Int) (k:Nat):Int:=(ns[k]?).getD 0
def rA (K:bp):Sp:=λvs H Q _=>∃(a:Addr)(ns:List Int) (k:Nat),vs=[.ref a,.int (k:Int)]/\aG K H a (ns.map V.int)/\ns.length<=1000/\∀n:Int,n=cellAt ns k->Q (.int n) H
def Lm:aK ["_law_script","_law_k"] ["_law_script","_law_k"] (ay EL):=iz rfl rfl rfl rfl nofun
def IX (F:hV K "_law_cell_at" "_law_cell_at" EL f fd)(T:Txt mg):bV P w K mg base fK 1 f fd ["_law_script","_law_k"] (rA K):=by
 refine F.ok Lm (λvs H Q E h=>?_) (λeX A outer s H vs Q E hr h=>?_)
 .obtain⟨a,ns,k,rfl,_⟩:=h;rfl
 obtain⟨a,ns,k,rfl,hS,hn,q⟩:=h;refine⟨_,ag (bz (aQ kW (pv 1) (aE aS rfl T.len dZ (ab (pv 0) ai)) (bx _)) (ao (aL (a7 bZ (pv 0) (pv 1) (λ_ _=>rfl)))) aI) (ao (aL ar)),?_⟩;refine⟨_,rfl,_,rfl,a,_,rfl,.inl hS,_,_,rfl,rfl,_,rfl,?_⟩;refine bJ (λcc=>?_) (λcc=>q 0 ?_)
 rotate_left
 .have ge:¬((k:Int) < ((ns.map V.int).length:Int)):=λz=>cc (cf z);rw [au] at ge;unfold cellAt;rw [tU ∅];rfl
 have lt:=cw cc;rw [au] at lt;have lt':k < ns.length:=by omega
 refine⟨_,rfl,_,rfl,a,_,_,.int ns[k],rfl,rfl,hS,bT (by rw [a9,dI lt'];rfl),q _ (by unfold cellAt;rw [dI lt'];rfl)⟩
def rq:Sp:=λvs H Q _=>∃(c:Int) (m:Nat)(S:Addr) (zs:List Str),vs=[.int c,.int (m:Int),.ref S]/\m<=100/\H S=some (.lst (zs.map V.str))/\0 < zs.length/\zs.length<=1000/\∀(p:Addr) (ps:List Str)(H':Hp),aC H H'->H' p=some (.tup (ps.map V.str))->ps.length=m->(∀x∈ps,x∈zs)->Q (.ref p) H'
def jt:aK ["_law_cell","_law_many","_law_some","_law_parts","_law_seed","_law_k"] ["_law_cell","_law_many","_law_some"] (ay vX):=iz rfl rfl rfl rfl nofun
def Cy (F:hV K "_law_digits" "_law_digits" vX f fd)(T:Txt mg):bV P w K mg base fK 1 f fd ["_law_cell","_law_many","_law_some"] rq:=by
 refine F.ok jt (λvs H Q E h=>?_) (λeX A outer s H vs Q E hr h=>?_)
 .obtain⟨c,m,S,zs,rfl,_⟩:=h;rfl
 obtain⟨c,m,S,zs,rfl,hm,hS,hz0,hz1,q⟩:=h;refine⟨_,ag (aA (i:=3) jt.nd rfl (aZ rfl) (bL ai))
  (ag (aA (i:=4) jt.nd rfl (aZ rfl) (aH dG (aH cD (pv 0) ar) ar))
  (ag (bE bX rfl (fY rfl T.Bk (ab (pv 1) ai)) (aq (i:=5) jt.nd rfl (aZ rfl))
   (ao (bz (aQ Fh (pv 0) ar (bx _))
    (ag (du (ix ir iu iw cA (pv 3) (ab (a7 bZ (pv 2) (aH cD (aH rM (pv 0) ar) (aE aS rfl T.len dZ (ab (pv 2) ai))) (λ_ _=>rfl)) ai)))
    (ao (aA (i:=0) jt.nd rfl (aZ rfl) (aH dA (aH rM (pv 0) ar) (aE aS rfl T.len dZ (ab (pv 2) ai))))))
    (ag (aA (i:=4) jt.nd rfl (aZ rfl) (aH cD (aH LP (pv 4) ar) ar))
    (ao (du (ix ir iu iw cA (pv 3) (ab (a7 bZ (pv 2) (aH cD (aH dA (pv 4) ar) (aE aS rfl T.len dZ (ab (pv 2) ai))) (λ_ _=>rfl)) ai))))))))
  (ao (aL (aX jh rfl T.tup yP (ab (pv 3) ai)))))),?_⟩
 have P8:(0:Int) < (zs.length:Int):=by omega
 refine⟨yB,λL hL=>?_⟩;have hS1:=af hL (.lst []) _ _ hS;have nS:S≠L:=λz=>by rw [z,hL] at hS;cases hS
 refine⟨_,rfl,_,_,rfl,rfl,(by show (0:Int) < 2147483647;decide),_,_,rfl,rfl,?_⟩;refine⟨_,rfl,(m:Int),rfl,∅,∅,?_⟩;rw [iJ m];refine fZ (n:=m) (λi σ H2=>∃(c2 c4:Int)(k2:Option V) (ps:List Str),σ=[some (.int c2),some (.int (m:Int)),aD S,aD L,some (.int c4),k2]/\H2=upd H L (.lst (ps.map V.str))/\ps.length=i/\∀x∈ps,x∈zs) ⟨c,_,none,[],rfl,rfl,rfl,λ_ h=>(by cases h)⟩ ?_ ?_
 .rintro i σ H2 hi ⟨c2,c4,k2,ps,rfl,rfl,hp,F4⟩;have eS:upd H L (.lst (ps.map V.str)) S=some (.lst (zs.map V.str)):=by rw [ak nS];exact hS
  refine goN ?_;refine⟨_,rfl,_,_,rfl,rfl,_,rfl,?_⟩;refine bJ (λ_=>?_) (λ_=>?_)
  .obtain⟨z,P7,ez⟩:=Xg (zs:=zs) rfl P8 (c2 - 1);refine⟨_,rfl,.inl ⟨rfl,_,aG.of ae⟩,_,rfl,_,rfl,_,_,rfl,rfl,_,rfl,S,_,rfl,.inl (aG.of eS),_,_,rfl,rfl,(by rw [au];exact P8),?_⟩;rw [au];refine⟨S,_,_,_,rfl,rfl,aG.of eS,ez,L,_,_,rfl,rfl,ae,bD (by rw [au];omega),?_⟩;rw [nq];have eS2:upd H L (.lst (ps.map V.str++[.str z])) S=some (.lst (zs.map V.str)):=by rw [ak nS];exact hS
   refine⟨_,rfl,_,_,rfl,rfl,_,rfl,S,_,rfl,.inl (aG.of eS2),_,_,rfl,rfl,(by rw [au];exact⟨P8,by show (zs.length:Int) < 1073741824;omega⟩),?_⟩;rw [au];exact⟨_,_,_,ps++[z],rfl,by rw [bA];rfl,by rw [bW,hp];rfl,λx hx=>(cg.mp hx).elim (F4 x) λh=>(bH.mp h) ▸ P7⟩
  refine⟨_,rfl,_,_,rfl,rfl,.inr ⟨nofun,nofun⟩,_,_,rfl,rfl,(by show (0:Int) < 2147483647;decide),?_⟩;obtain⟨z,P7,ez⟩:=Xg (zs:=zs) rfl P8 (c4 * 48271 % 2147483647 / 3);refine⟨_,rfl,.inl ⟨rfl,_,aG.of ae⟩,_,rfl,_,rfl,_,_,rfl,rfl,⟨nofun,nofun⟩,_,rfl,S,_,rfl,.inl (aG.of eS),_,_,rfl,rfl,(by rw [au];exact P8),?_⟩;rw [au];refine⟨S,_,_,_,rfl,rfl,aG.of eS,ez,L,_,_,rfl,rfl,ae,bD (by rw [au];omega),?_⟩;rw [nq];exact⟨_,_,_,ps++[z],rfl,by rw [bA];rfl,by rw [bW,hp];rfl,λx hx=>(cg.mp hx).elim (F4 x) λh=>(bH.mp h) ▸ P7⟩
 rintro σ H2 ⟨c2,c4,k2,ps,rfl,rfl,hp,F4⟩;refine⟨_,rfl,L,_,rfl,.inl ⟨aG.of ae,λp ou=>?_⟩⟩;exact q p ps _ ((af hL _).trans (af ou _)) ae hp F4
def i3 (c:Int):Nat:=(c / 72 % 3).toNat
def j3 (c:Int):Nat:=(c / 3 % 3).toNat
def Kn (c:Int):i3 c < 3/\c / 72 % 3=(i3 c:Int):=by unfold i3;omega
def PZ (c:Int):j3 c < 3/\c / 3 % 3=(j3 c:Int):=by unfold j3;omega
def gE (c:Int):List Str:=RI (i3 c)
def sf (c:Int):(gE c).length=3:=K2 _
noncomputable def R6 (i j:Nat):List Str:=(Bs i).map λz=>z++v3 "y" j
def FI {i j:Nat}(hi:i < 3)(hj:j < 3):(R6 i j).Nodup/\∀x∈R6 i j,x∉RI i:=by
 match i,hi,j,hj with
 | 0,_,0,_=>decide +kernel
 | 0,_,1,_=>decide +kernel
 | 0,_,2,_=>decide +kernel
 | 1,_,0,_=>decide +kernel
 | 1,_,1,_=>decide +kernel
 | 1,_,2,_=>decide +kernel
 | 2,_,0,_=>decide +kernel
 | 2,_,1,_=>decide +kernel
 | 2,_,2,_=>decide +kernel
structure Rt (c:Int) (cT:List Str):Prop where
 nd:cT.Nodup
 dj:∀x∈cT,x∉gE c
 one:1<=cT.length
 QP:cT.length<=5
def A7:Sp:=λvs H Q _=>∃(c:Int),vs=[.int c]/\∀(N:Addr) (cT:List Str)(H':Hp),H N=none->aC H H'->H' N=some (.lst (cT.map V.str))->Rt c cT->Q (.ref N) H'
def qo:aK ["_law_cell","_law_some","_law_many"] ["_law_cell"] (ay zp):=iz rfl rfl rfl rfl nofun
def Fp (F:hV K "_law_names" "_law_names" zp f fd)(T:Txt mg):bV P w K mg base fK 1 f fd ["_law_cell"] A7:=by
 refine F.ok qo (λvs H Q E h=>?_) (λeX A outer s H vs Q E hr h=>?_)
 .obtain⟨c,rfl,_⟩:=h;rfl
 obtain⟨c,rfl,q⟩:=h;refine⟨_,@ag _ _ _ _ _ (@aA _ _ 1 _ _ _ _ qo.nd rfl (aZ rfl) (@a7 _ _ _ _ _ _ _ bZ (@bL _ _ _ _ (@ab _ _ _ _ _ (@bL _ _ _ _ (@ab _ _ _ _ _ (@cU _ _ _ _) (@ab _ _ _ _ _ (@cU _ _ _ _) (@ab _ _ _ _ _ (@cU _ _ _ _) (@ab _ _ _ _ _ (@cU _ _ _ _) (@ab _ _ _ _ _ (@cU _ _ _ _) (@ai _) rfl) rfl) rfl) rfl) rfl)) (@ab _ _ _ _ _ (@bL _ _ _ _ (@ab _ _ _ _ _ (@cU _ _ _ _) (@ab _ _ _ _ _ (@cU _ _ _ _) (@ab _ _ _ _ _ (@cU _ _ _ _) (@ab _ _ _ _ _ (@cU _ _ _ _) (@ab _ _ _ _ _ (@cU _ _ _ _) (@ai _) rfl) rfl) rfl) rfl) rfl)) (@ab _ _ _ _ _ (@bL _ _ _ _ (@ab _ _ _ _ _ (@cU _ _ _ _) (@ab _ _ _ _ _ (@cU _ _ _ _) (@ab _ _ _ _ _ (@cU _ _ _ _) (@ab _ _ _ _ _ (@cU _ _ _ _) (@ab _ _ _ _ _ (@cU _ _ _ _) (@ai _) rfl) rfl) rfl) rfl) rfl)) (@ai _) rfl) rfl) rfl)) (aH cD (aH dA (pv 0) ar) ar) (λ_ _=>rfl)) rfl (.inr rfl))
  (ag (aA (i:=2) qo.nd rfl (aZ rfl) (aH dG ar (aH cD (pv 0) ar)))
  (ag (gU (bz (aQ gJ (aH cD (aH dA (pv 0) ar) ar) ar (bx _)) (ao (aA (i:=2) qo.nd rfl (aZ rfl) ar)) aI))
  (ao (aL (aV ["_law_name"] [(0,"_law_cell")] rfl (aR (bY gy (pv 1) cO (cN (pv 2)))) (aP rfl rfl) nofun rfl nofun
   (λ_ _ _ _ _=>aq (i:=0) (show (["_law_name","_law_cell"]:List Str).Nodup by decide +kernel) rfl (aZ rfl)) (λ_ _ _ _ _=>a0)
   (λ_ _ _ _ _=>aH zL (pv 0) (aH II cU (aH cD (aH dA (pv 1) ar) ar)))))))),?_⟩
 obtain⟨hi,ei⟩:=Kn c;obtain⟨hj,ej⟩:=PZ c;refine⟨Tg,λL1 h1=>⟨Tg,λL2 h2=>⟨Tg,λL3 h3=>⟨Ow,λLL VS=>?_⟩⟩⟩⟩;obtain⟨s1,p1⟩:=PF h1 h2 h3 VS;obtain⟨Li,a1,f1,e1⟩:=p1 (i3 c) hi;rw [I8] at e1;refine⟨_,rfl,_,_,rfl,rfl,⟨nofun,nofun⟩,_,_,rfl,rfl,(by show (0:Int) < 3;decide),?_⟩;refine⟨LL,_,(i3 c:Int),.ref Li,rfl,congrArg V.int ei,aG.of ae,a1,?_⟩;generalize upd (upd (upd (upd H L1 _) L2 _) L3 _) LL _=H1 at s1 e1;refine⟨_,rfl,_,_,rfl,rfl,(by show (0:Int) < 3;decide),_,_,rfl,rfl,?_⟩;refine⟨λσ H2=>∃m:Nat,1<=m/\m<=5/\σ=[some (.int c),aD Li,some (.int (m:Int))]/\H1=H2,?_,?_⟩
 .obtain⟨m,NY,NX,em⟩:∃m:Nat,1<=m/\m<=5/\1+c % 3=(m:Int):=⟨(1+c % 3).toNat,∅,∅,∅⟩;refine⟨_,rfl,_,_,rfl,rfl,⟨nofun,nofun⟩,_,_,rfl,rfl,(by show (0:Int) < 8;decide),rfl,_,rfl,?_⟩;refine bJ (λ_=>?_) (λ_=>?_)
  .exact⟨5,nofun,nofun,rfl,rfl⟩
  exact⟨m,NY,NX,by show [some (V.int c),some (V.ref Li),some (V.int (1+c % 3))]=_;rw [em],rfl⟩
 rintro σ H1' ⟨m,NY,NX,rfl,rfl⟩;refine⟨_,rfl,_,rfl,_,rfl,Li,_,rfl,aG.of e1,λM hM=>?_⟩;have cut:fI ((Bs (i3 c)).map V.str) none (some (m:Int))=((Bs (i3 c)).take m).map V.str:=by
  unfold fI;rw [show HT.fR ((Bs (i3 c)).map V.str).length 0 none=0 from rfl,HT.jP,mW,ml,kI,<-qV]
 rw [cut];have lt5:((Bs (i3 c)).take m).length=m:=by rw [dr,LZ];omega
 have Sh:∀z∈(Bs (i3 c)).take m,z.length<=3:=λz hz=>FH (i3 c) z (qH hz);have Mv:(((Bs (i3 c)).take m).map λz=>z++v3 "y" (j3 c)).Nodup/\∀x∈((Bs (i3 c)).take m).map λz=>z++v3 "y" (j3 c),x∉gE c:=by
  have e:(((Bs (i3 c)).take m).map λz=>z++v3 "y" (j3 c))=(R6 (i3 c) (j3 c)).take m:=by unfold R6;rw [kI]
  rw [e];exact⟨(FI hi hj).1.sublist (List.take_sublist _ _),λx hx=>(FI hi hj).2 x (qH hx)⟩
 generalize (Bs (i3 c)).take m=zs at lt5 Sh Mv;have s2:=s1.trans (af hM (.lst (zs.map V.str)));have eM:upd H1 M (.lst (zs.map V.str)) M=some (.lst (zs.map V.str)):=ae;generalize upd H1 M (.lst (zs.map V.str))=H2 at s2 eM;refine⟨M,rfl,⟨_,aG.of eM⟩,λD hD=>bS (xs:=zs.map V.str) (λk ys σ2 H3=>ys=((zs.map λz=>z++v3 "y" (j3 c)).take k).map V.str/\(∃y0,σ2=[y0,some (.int c)])/\aC H2 H3/\H3 D=some (.lst ys))
    ⟨rfl,⟨none,rfl⟩,af hD _,ae⟩ (λk ys σ2 H3 _ h=>?_) (λk x ys σ2 H3 ex h=>?_) (λys σ2 H3 h=>?_)⟩
 .obtain⟨_,_,sm,_⟩:=h;exact aG.of (sm _ _ eM)
 .obtain⟨rfl,⟨y0,rfl⟩,sm,eD⟩:=h;have lk:=(bf.mp ex).1;rw [au] at lk;rw [a9] at ex;obtain⟨z,ez,rfl⟩:=b_.mp ex;have hz:=Sh z (b9 ez);have hy:=Cf hj;refine goN (uH ?_);refine⟨_,rfl,_,rfl,_,_,rfl,rfl,⟨nofun,nofun⟩,_,_,rfl,rfl,(by show (0:Int) < 3;decide),?_⟩;have ly:("y":Str).length=1:=by decide +kernel
  refine⟨"y",j3 c,rfl,congrArg V.int ej,∅,ly,_,_,rfl,rfl,fits ∅,?_⟩;refine⟨eD,bD (by rw [au,dr];omega),?_,⟨_,rfl⟩,λb o hb=>?_,ae⟩
  .have:(zs.map λz=>z++v3 "y" (j3 c))[k]?=some (z++v3 "y" (j3 c)):=by rw [a9,ez];rfl
   rw [cK,this,bA];rfl
  rw [ak (λz=>by rw [z,hD] at hb;cases hb)];exact sm b o hb
 obtain⟨rfl,_,sm,eD⟩:=h;rw [tW (by rw [au,au];exact aU _)] at eD;exact q D _ _ (s2.free hD) (s2.trans sm) eD ⟨Mv.1,Mv.2,by rw [au];omega,by rw [au];omega⟩
def xp:Sp:=λvs H Q _=>∃(c:Int),vs=[.int c]/\∀(N:Addr)(H':Hp),H N=none->aC H H'->H' N=some (.lst ((gE c).map V.str))->Q (.ref N) H'
def Ez:aK ["_law_cell"] ["_law_cell"] (ay vO):=iz rfl rfl rfl rfl nofun
def Cq (F:hV K "_law_words" "_law_words" vO f fd)(T:Txt mg):bV P w K mg base fK 1 f fd ["_law_cell"] xp:=by
 refine F.ok Ez (λvs H Q E h=>?_) (λeX A outer s H vs Q E hr h=>?_)
 .obtain⟨c,rfl,_⟩:=h;rfl
 obtain⟨c,rfl,q⟩:=h;refine⟨_,ao (aL (@a7 _ _ _ _ _ _ _ bZ (@bL _ _ _ _ (@ab _ _ _ _ _ (@bL _ _ _ _ (@ab _ _ _ _ _ (@cU _ _ _ _) (@ab _ _ _ _ _ (@cU _ _ _ _) (@ab _ _ _ _ _ (@cU _ _ _ _) (@ai _) rfl) rfl) rfl)) (@ab _ _ _ _ _ (@bL _ _ _ _ (@ab _ _ _ _ _ (@cU _ _ _ _) (@ab _ _ _ _ _ (@cU _ _ _ _) (@ab _ _ _ _ _ (@cU _ _ _ _) (@ai _) rfl) rfl) rfl)) (@ab _ _ _ _ _ (@bL _ _ _ _ (@ab _ _ _ _ _ (@cU _ _ _ _) (@ab _ _ _ _ _ (@cU _ _ _ _) (@ab _ _ _ _ _ (@cU _ _ _ _) (@ai _) rfl) rfl) rfl)) (@ai _) rfl) rfl) rfl)) (aH cD (aH dA (pv 0) ar) ar) (λ_ _=>rfl))),?_⟩;obtain⟨hi,ei⟩:=Kn c;refine⟨Ow,λL1 h1=>⟨Ow,λL2 h2=>⟨Ow,λL3 h3=>⟨Ow,λLL VS=>?_⟩⟩⟩⟩;obtain⟨s1,p1⟩:=PF h1 h2 h3 VS;obtain⟨Li,a1,f1,e1⟩:=p1 (i3 c) hi;rw [Ig] at e1;refine⟨_,rfl,_,_,rfl,rfl,⟨nofun,nofun⟩,_,_,rfl,rfl,(by show (0:Int) < 3;decide),?_⟩;refine⟨LL,_,(i3 c:Int),.ref Li,rfl,congrArg V.int ei,aG.of ae,a1,?_⟩;exact q Li _ f1 s1 e1
def El (K:bp):Sp:=λvs H Q _=>∃(S N W:Addr)(ns:List Int) (at_ m:Nat) (cT ws:List Str),vs=[.ref S,.int (at_:Int),.ref N,.int (m:Int),.ref W]/\aG K H S (ns.map V.int)/\ns.length<=1000/\H N=some (.lst (cT.map V.str))/\H W=some (.lst (ws.map V.str))/\0 < cT.length/\cT.length<=5/\ws.length<=10/\m<=10 /\
 ∀(R:Addr)(rs:List Addr)(aa:List aw)(H':Hp),H R=none->aC H H'->H' R=some (.lst (rs.map V.ref))->bQ K H' rs aa->aa.length=m->(∀ru∈aa,ru.1∈cT/\ru.2.length<=6/\∀x∈ru.2,x∈cT++ws)->Q (.ref R) H'
def mD:aK ["_law_script","_law_at","_law_names_here","_law_many","_law_words_here","_law_rules","_law_some","_law_k","_law_cell","_law_size"] ["_law_script","_law_at","_law_names_here","_law_many","_law_words_here"] (ay EF):=iz rfl rfl rfl rfl nofun
def IS (F:hV K "_law_more" "_law_more" EF f fd)(T:Txt mg)(GC:aF P w K mg base 1 "_law_cell_at" ["_law_script","_law_k"] (rA K))(GD:aF P w K mg base 1 "_law_digits" ["_law_cell","_law_many","_law_some"] rq):bV P w K mg base fK 2 f fd ["_law_script","_law_at","_law_names_here","_law_many","_law_words_here"] (El K):=by
 refine F.ok mD (λvs H Q E h=>?_) (λeX A outer s H vs Q E hr h=>?_)
 .obtain⟨S,N,W,ns,at_,m,cT,ws,rfl,_⟩:=h;rfl
 obtain⟨S,N,W,ns,at_,m,cT,ws,rfl,hS,hn,hN,hW,Sl,Zc,hw1,hm,q⟩:=h;refine⟨_,ag (aA (i:=5) mD.nd rfl (aZ rfl) (bL ai))
  (ag (aA (i:=6) mD.nd rfl (aZ rfl) (aH gh (pv 2) (pv 4)))
  (ag (bE bX rfl (fY rfl T.Bk (ab (pv 3) ai)) (aq (i:=7) mD.nd rfl (aZ rfl))
   (ag (aA (i:=8) mD.nd rfl (aZ rfl) (bq GC hr rfl (ab (pv 0) (ab (aH dG (pv 1) (pv 7)) ai))))
   (ag (aA (i:=9) mD.nd rfl (aZ rfl) (aH cD (aH dA (pv 8) ar) ar))
   (ag (gU (bz (PW.pt (ig (aQ gJ (pv 7) ar (bx _)) (gA (aQ gJ (aH cD (aH dA (pv 8) ar) ar) ar (bx _))))) (ao (aA (i:=9) mD.nd rfl (aZ rfl) (aH dG ar (aH cD (aH dA (pv 8) ar) ar)))) aI))
   (ao (du (ix ir iu iw cA (pv 5) (ab (bC (ab (a7 bZ (pv 2) (aH cD (aH cD (pv 8) ar) (aE aS rfl T.len dZ (ab (pv 2) ai))) (λ_ _=>rfl))
    (ab (bq GD hr rfl (ab (aH dA (pv 8) ar) (ab (pv 9) (ab (pv 6) ai)))) ai))) ai))))))))
  (ao (aL (pv 5))))),?_⟩
 refine⟨yB,λL hL=>?_⟩;have s1:=af hL (.lst []);have e1:upd H L (.lst []) L=some (.lst []):=ae;generalize upd H L (.lst [])=H1 at s1 e1;refine⟨_,rfl,_,rfl,N,W,_,_,rfl,rfl,s1 _ _ hN,s1 _ _ hW,fits (by rw [au,au];omega),λM hM=>?_⟩;rw [<-bA];have k2:=af hM (.lst ((cT++ws).map V.str));have s2:=s1.trans k2;have e2:=k2 _ _ e1;have m2:upd H1 M (.lst ((cT++ws).map V.str)) M=some (.lst ((cT++ws).map V.str)):=ae;have nM:M≠L:=λz=>by rw [z,e1] at hM;cases hM
 generalize upd H1 M (.lst ((cT++ws).map V.str))=H2 at k2 s2 e2 m2;refine⟨_,rfl,(m:Int),rfl,∅,∅,?_⟩;rw [iJ m];refine fZ (n:=m) (λi σ H3=>∃(rs:List Addr)(aa:List aw)(y7 y8 y9:Option V),σ=[aD S,some (.int (at_:Int)),aD N,some (.int (m:Int)),aD W,aD L,aD M,y7,y8,y9]/\aC H H3/\H3 L=some (.lst (rs.map V.ref))/\H3 M=some (.lst ((cT++ws).map V.str))/\bQ K H3 rs aa/\aa.length=i/\∀ru∈aa,ru.1∈cT/\ru.2.length<=6/\∀x∈ru.2,x∈cT++ws) ⟨[],[],none,none,none,rfl,s2,e2,m2,.nil,rfl,λ_ h=>by cases h⟩ ?_ ?_
 .rintro i σ H3 hi ⟨rs,aa,y7,y8,y9,rfl,s3,eL,eM,rl,hl,hf⟩;have lr:=bc rl;refine goN ?_;refine⟨_,rfl,_,rfl,_,rfl,_,_,rfl,rfl,?_⟩;refine⟨S,ns,at_+i,(by show [V.ref S,V.int ((at_:Int)+(0+(i:Int)))]=_;congr 3;push_cast;omega),s3.seq hS,hn,λc _=>?_⟩;have Zb:(0:Int) < (cT.length:Int):=by omega
  obtain⟨z,P7,ez⟩:=Xg (zs:=cT) rfl Zb (c % 5);refine⟨_,rfl,_,_,rfl,rfl,⟨nofun,nofun⟩,_,_,rfl,rfl,(by show (0:Int) < 4;decide),?_⟩;refine⟨λσ H4=>∃d:Nat,d<=6/\H3=H4/\σ=[aD S,some (.int (at_:Int)),aD N,some (.int (m:Int)),aD W,aD L,aD M,some (.int (0+(i:Int))),some (.int c),some (.int (d:Int))],?_,?_⟩
  .obtain⟨d,hd,Bz⟩:∃d:Nat,c / 5 % 4=(d:Int)/\d<=6:=⟨(c / 5 % 4).toNat,∅,∅⟩;have no:∃d:Nat,d<=6/\H3=H3/\[some (V.ref S),some (.int (at_:Int)),aD N,some (.int (m:Int)),aD W,aD L,aD M,some (.int (0+(i:Int))),some (.int c),some (.int (c / 5 % 4))]=[some (V.ref S),some (.int (at_:Int)),aD N,some (.int (m:Int)),aD W,aD L,aD M,some (.int (0+(i:Int))),some (.int c),some (.int (d:Int))]:=⟨d,Bz,rfl,by rw [hd]⟩;refine⟨_,rfl,rfl,_,rfl,?_⟩;refine bJ (λ_=>?_) (λ_=>no);refine⟨_,rfl,_,_,rfl,rfl,⟨nofun,nofun⟩,_,_,rfl,rfl,(by show (0:Int) < 8;decide),rfl,_,rfl,?_⟩;refine bJ (λ_=>?_) (λ_=>no);obtain⟨e,he,he6⟩:∃e:Nat,4+c / 160 % 3=(e:Int)/\e<=6:=⟨(4+c / 160 % 3).toNat,∅,∅⟩;refine⟨_,rfl,_,_,rfl,rfl,⟨nofun,nofun⟩,_,_,rfl,rfl,(by show (0:Int) < 3;decide),_,_,rfl,rfl,?_⟩;exact⟨e,he6,rfl,by rw [<-he];rfl⟩
  rintro σ H3' ⟨d,hd6,rfl,rfl⟩;refine⟨_,rfl,.inl ⟨rfl,_,aG.of eL⟩,_,rfl,_,rfl,_,_,rfl,rfl,(by show (0:Int) < 5;decide),_,rfl,N,_,rfl,.inl (aG.of (s3 _ _ hN)),_,_,rfl,rfl,(by rw [au];exact Zb),?_⟩;rw [au];refine⟨N,_,_,_,rfl,rfl,aG.of (s3 _ _ hN),ez,?_⟩;refine⟨_,rfl,_,_,rfl,rfl,⟨nofun,nofun⟩,_,rfl,_,rfl,?_⟩;refine⟨_,d,M,cT++ws,rfl,∅,eM,by rw [bW];omega,by rw [bW];omega,λp ps H4 s4 e4 l4 F4=>⟨qW,λR hR=>?_⟩⟩;have k5:=s4.trans (af hR (.tup [.str z,.ref p]));have v1:a_ K (upd H4 R (.tup [.str z,.ref p])) R [.str z,.ref p]:=a_.of ae;have v2:a_ K (upd H4 R (.tup [.str z,.ref p])) p (ps.map V.str):=(af hR _).tup (a_.of e4);generalize upd H4 R (.tup [.str z,.ref p])=H5 at k5 v1 v2;have C5:=k5 _ _ eL;refine⟨L,_,_,rfl,rfl,C5,bD (by rw [au];omega),?_⟩;refine⟨rs++[R],aa++[(z,ps)],_,_,_,rfl,λb o hb=>?_,by rw [ae,bA];rfl,by rw [ak nM];exact k5 _ _ eM,gF (rl.keep λb xs z=>bj C5 (k5.tup z)) ⟨p,bj C5 v1,bj C5 v2⟩,by rw [bW,hl];rfl,λru gX=>?_⟩
  .rw [ak (λz=>by rw [z,hL] at hb;cases hb)];exact k5 _ _ (s3 b o hb)
  rcases cg.mp gX with h | h
  .exact hf ru h
  rw [bH.mp h];exact⟨P7,by show ps.length<=6;omega,F4⟩
 rintro σ H3 ⟨rs,aa,y7,y8,y9,rfl,s3,eL,eM,rl,hl,hf⟩;exact⟨_,rfl,q L rs aa H3 hL s3 eL rl hl hf⟩
def wY (ns ws:List Str) (a:Nat) (de:List Str):Prop :=
 (∃n' wx,ns[a+1]?=some n'/\wx≠[]/\(∀x∈wx,x∈ws)/\wx.length<=2/\(de=wx++[n']\/de=n'::wx))\/(ns.length<=a+1/\(∀x∈de,x∈ws)/\de.length<=2)
def GO (l:List Str)(n:Str):fI ((l++[n]).map V.str) (some (-1)) none=[V.str n]:=by
 unfold fI;have h1:HT.fR ((l++[n]).map V.str).length 0 (some (-1))=l.length:=by
  rw [au,bW,gP];show (if (-1:Int) < 0 then ((-1:Int)+((l.length+1:Nat):Int)).toNat else min (-1:Int).toNat (l.length+1))=l.length;rw [ax nofun];omega
 rw [h1,HT.nR,<-List.map_drop,List.drop_append_of_le_length (aU _),qO,pG];rw [au,bW,gP,show l.length+1 - l.length=1 by omega];rfl
def GQ (l:List Str)(n:Str):fI ((l++[n]).map V.str) none (some (-1))=l.map V.str:=by
 unfold fI;have h1:HT.fR ((l++[n]).map V.str).length ((l++[n]).map V.str).length (some (-1))=l.length:=by
  rw [au,bW,gP];show (if (-1:Int) < 0 then ((-1:Int)+((l.length+1:Nat):Int)).toNat else min (-1:Int).toNat (l.length+1))=l.length;rw [ax nofun];omega
 rw [h1,HT.nR,mW,ml,<-kI,qI (aU _),cv]
def Ej (K:bp):Sp:=λvs H Q _=>∃(S N W:Addr)(ns:List Int) (at_:Nat) (cT ws:List Str),vs=[.ref S,.int (at_:Int),.ref N,.ref W]/\aG K H S (ns.map V.int)/\ns.length<=1000/\H N=some (.lst (cT.map V.str))/\H W=some (.lst (ws.map V.str))/\0 < cT.length/\cT.length<=5/\0 < ws.length/\ws.length<=10 /\
 ∀(R:Addr)(rs:List Addr)(aa:List aw)(H':Hp),H R=none->aC H H'->H' R=some (.lst (rs.map V.ref))->bQ K H' rs aa->aa.length=cT.length->(∀(j:Nat)(ru:aw),aa[j]?=some ru->cT[j]?=some ru.1/\wY cT ws j ru.2)->Q (.ref R) H'
def mC:aK ["_law_script","_law_at","_law_names_here","_law_words_here","_law_rules","_law_k","_law_cell","_law_parts"] ["_law_script","_law_at","_law_names_here","_law_words_here"] (ay ED):=iz rfl rfl rfl rfl nofun
def IP (F:hV K "_law_skeleton" "_law_skeleton" ED f fd)(T:Txt mg)(GC:aF P w K mg base 1 "_law_cell_at" ["_law_script","_law_k"] (rA K))(GD:aF P w K mg base 1 "_law_digits" ["_law_cell","_law_many","_law_some"] rq):bV P w K mg base fK 2 f fd ["_law_script","_law_at","_law_names_here","_law_words_here"] (Ej K):=by
 refine F.ok mC (λvs H Q E h=>?_) (λeX A outer s H vs Q E hr h=>?_)
 .obtain⟨S,N,W,ns,at_,cT,ws,rfl,_⟩:=h;rfl
 obtain⟨S,N,W,ns,at_,cT,ws,rfl,hS,hn,hN,hW,Sl,Zc,Y1,hw1,q⟩:=h;refine⟨_,ag (aA (i:=4) mC.nd rfl (aZ rfl) (bL ai))
  (ag (bE bX rfl (fY rfl T.Bk (ab (aE aS rfl T.len dZ (ab (pv 2) ai)) ai)) (aq (i:=5) mC.nd rfl (aZ rfl))
   (ag (aA (i:=6) mC.nd rfl (aZ rfl) (bq GC hr rfl (ab (pv 0) (ab (aH dG (pv 1) (pv 5)) ai))))
   (ag (aA (i:=7) mC.nd rfl (aZ rfl) (bq GD hr rfl (ab (aH dA (pv 6) ar) (ab (aH cD (pv 6) ar) (ab (pv 3) ai)))))
   (ag (gU (bz (aQ kW (aH dG (pv 5) ar) (aE aS rfl T.len dZ (ab (pv 2) ai)) (bx _))
    (ag (aA (i:=7) mC.nd rfl (aZ rfl) (aH jU (bq GD hr rfl (ab (aH dA (pv 6) ar) (ab (aH dG ar (aH cD (pv 6) ar)) (ab (pv 3) ai)))) (bC (ab (a7 bZ (pv 2) (aH dG (pv 5) ar) (λ_ _=>rfl)) ai))))
    (ao (bz (aQ gJ (aH cD (aH dA (pv 6) ar) ar) ar (bx _))
     (ao (aA (i:=7) mC.nd rfl (aZ rfl) (aH jU (bY gw (pv 7) (cN (Bo vy ar)) cO) (bY gw (pv 7) cO (cN (Bo vy ar)))))) aI))) aI))
   (ao (du (ix ir iu iw cA (pv 4) (ab (bC (ab (a7 bZ (pv 2) (pv 5) (λ_ _=>rfl)) (ab (pv 7) ai))) ai))))))))
  (ao (aL (pv 4)))),?_⟩
 nofun
 refine⟨yB,λL hL=>?_⟩;have s1:=af hL (.lst []);have e1:upd H L (.lst []) L=some (.lst []):=ae;generalize upd H L (.lst [])=H1 at s1 e1;refine⟨_,rfl,N,_,rfl,.inl (aG.of (s1 _ _ hN)),((cT.map V.str).length:Int),rfl,by rw [au];omega,by rw [au];omega,?_⟩;rw [au,iJ];refine fZ (n:=cT.length) (λi σ H3=>∃(rs:List Addr)(aa:List aw)(y5 y6 y7:Option V),σ=[aD S,some (.int (at_:Int)),aD N,aD W,aD L,y5,y6,y7]/\aC H H3/\H3 L=some (.lst (rs.map V.ref))/\bQ K H3 rs aa/\aa.length=i/\∀(j:Nat)(ru:aw),aa[j]?=some ru->cT[j]?=some ru.1/\wY cT ws j ru.2) ⟨[],[],none,none,none,rfl,s1,e1,.nil,rfl,λj ru e=>by cases e⟩ ?_ ?_
 .intro i σ H3 hi iV
  ac_nf0
  obtain⟨rs,aa,y5,y6,y7,rfl,s3,eL,rl,hl,hf⟩:=iV;have lr:=bc rl;obtain⟨nm,Mv⟩:∃nm,cT[i]?=some nm:=⟨cT[i],dI hi⟩;have atn:lV (cT.map V.str) (0+(i:Int))=some (.str nm):=by
   rw [iW];exact bT (by rw [a9,Mv];rfl)
  refine goN ?_
  ac_rfl
  refine⟨_,rfl,_,rfl,_,rfl,_,_,rfl,rfl,?_⟩;refine⟨S,ns,at_+i,(by show [V.ref S,V.int ((at_:Int)+(0+(i:Int)))]=_;congr 3;push_cast;omega),s3.seq hS,hn,λc _=>?_⟩;obtain⟨d,hd⟩:∃d:Nat,c % 3=(d:Int):=⟨(c % 3).toNat,∅⟩;refine⟨_,rfl,_,_,rfl,rfl,⟨nofun,nofun⟩,_,rfl,_,_,rfl,rfl,(by show (0:Int) < 3;decide),_,rfl,?_⟩;refine⟨_,d,W,ws,(by show [_,V.int (c % 3),_]=_;rw [hd]),∅,s3 _ _ hW,Y1,∅,λp ps H4 s4 e4 l4 F4=>?_⟩;have xy:=s3.trans s4;have ox:=s4 _ _ eL;have NL:=rl.same s4;refine⟨λσ H5=>∃(p5:Addr) (de:List Str),σ=[aD S,some (.int (at_:Int)),aD N,aD W,aD L,some (.int (0+(i:Int))),some (.int c),aD p5]/\aC H4 H5/\a_ K H5 p5 (de.map V.str)/\wY cT ws i de,?_,?_⟩
  .refine⟨_,rfl,_,_,rfl,rfl,_,rfl,N,_,rfl,.inl (aG.of (xy _ _ hN)),_,_,rfl,rfl,_,rfl,?_⟩;refine bJ (λcc=>?_) (λcc=>?_)
   .have lt:=cw cc;rw [au] at lt;have lt':i+1 < cT.length:=by omega
    obtain⟨n',Ga⟩:∃n',cT[i+1]?=some n':=⟨cT[i+1],dI lt'⟩;have Xf:lV (cT.map V.str) (0+(i:Int)+1)=some (.str n'):=by
     rw [iW,show (i:Int)+1=((i+1:Nat):Int) by push_cast;rfl];exact bT (by rw [a9,Ga];rfl)
    obtain⟨d2,hd2⟩:∃d2:Nat,1+c % 2=(d2:Int):=⟨(1+c % 2).toNat,∅⟩;refine⟨_,rfl,_,_,rfl,rfl,⟨nofun,nofun⟩,_,rfl,_,_,rfl,rfl,(by show (0:Int) < 2;decide),_,_,rfl,rfl,_,rfl,?_⟩;refine⟨_,d2,W,ws,(by show [_,V.int (1+c % 2),_]=_;rw [hd2]),∅,xy _ _ hW,Y1,∅,λp6 wx H6 s6 e6 l6 YX=>?_⟩;have J0:=xy.trans s6;refine⟨_,rfl,_,rfl,_,_,rfl,rfl,N,_,_,_,rfl,rfl,aG.of (J0 _ _ hN),Xf,Ox,λu hu=>?_⟩;have k7:=af hu (.tup [V.str n']);refine⟨p6,u,_,_,rfl,rfl,k7.tup (a_.of e6),a_.of ae,(by rw [au];show wx.length+1<=sizeLine;exact fits ∅),λp8 H8 s8 e8=>?_⟩;have WH:a_ K H8 p8 ((wx++[n']).map V.str):=by rw [bA];exact e8
    have NK:=s6.trans (k7.trans s8);have RH:wx≠[]:=λz=>by rw [z] at l6;simp at l6;omega
    refine⟨_,rfl,_,_,rfl,rfl,⟨nofun,nofun⟩,_,_,rfl,rfl,(by show (0:Int) < 2;decide),rfl,_,rfl,?_⟩;refine bJ (λc2=>?_) (λc2=>?_)
    .refine⟨_,rfl,_,rfl,_,rfl,p8,_,rfl,WH,λp9 H9 s9 e9=>?_⟩;rw [GO] at e9;refine⟨_,rfl,_,rfl,_,rfl,p8,_,rfl,s9.tup WH,λpA HA sA eA=>?_⟩;rw [GQ] at eA;refine⟨p9,pA,_,_,rfl,rfl,sA.tup e9,eA,(by rw [au];show 1+wx.length<=sizeLine;exact fits ∅),λpB HB sB eB=>?_⟩;exact⟨pB,n'::wx,rfl,NK.trans (s9.trans (sA.trans sB)),eB,.inl ⟨n',wx,Ga,RH,YX,∅,.inr rfl⟩⟩
    exact⟨p8,wx++[n'],rfl,NK,WH,.inl ⟨n',wx,Ga,RH,YX,∅,.inl rfl⟩⟩
   have ge:¬(0+(i:Int)+1 < ((cT.map V.str).length:Int)):=λz=>cc (cf z);rw [au] at ge;exact⟨p,ps,rfl,aC.refl _,a_.of e4,.inr ⟨∅,F4,∅⟩⟩
  rintro σ H5 ⟨p5,de,rfl,s5,e5,sk⟩;have Bh:=xy.trans s5;have C5:=s5 _ _ ox;refine⟨_,rfl,.inl ⟨rfl,_,aG.of C5⟩,_,rfl,_,rfl,N,_,_,_,rfl,rfl,aG.of (Bh _ _ hN),atn,_,rfl,qW,λR hR=>?_⟩;have k6:=af hR (.tup [.str nm,.ref p5]);have v1:a_ K (upd H5 R (.tup [.str nm,.ref p5])) R [.str nm,.ref p5]:=a_.of ae;have v2:=k6.tup e5;generalize upd H5 R (.tup [.str nm,.ref p5])=H6 at k6 v1 v2;have KC:=k6 _ _ C5;refine⟨L,_,_,rfl,rfl,KC,bD (by rw [au];omega),?_⟩;refine⟨rs++[R],aa++[(nm,de)],_,_,_,rfl,λb o hb=>?_,by rw [ae,bA];rfl,gF ((NL.same (s5.trans k6)).keep λb xs z=>bj KC z) ⟨p5,bj KC v1,bj KC v2⟩,by rw [bW,hl];rfl,λj ru e=>?_⟩
  .rw [ak (λz=>by rw [z,hL] at hb;cases hb)];exact k6 _ _ (Bh b o hb)
  by_cases cj:j < aa.length
  .rw [pI cj] at e;exact hf j ru e
  have lj:=(bf.mp e).1;rw [bW,gP] at lj;have ej:j=aa.length:=by omega
  subst ej;rw [nj (aU _),Nat.sub_self] at e;cases e;rw [hl];exact⟨Mv,sk⟩
 rintro σ H3 ⟨rs,aa,y5,y6,y7,rfl,s3,eL,rl,hl,hf⟩;exact⟨_,rfl,q L rs aa H3 hL s3 eL rl hl hf⟩
end
end gY
namespace L2
open PySem
def je {X:Cx}(K:bp)(hK:X.K=K:=by rfl):jH X (compareOp .NotIn) (RZ K true):=by
 subst hK;exact iB
def di (h:Str) (zs:List Str):Mp (.str h) (zs.map V.str)=decide (h∈zs):=by
 have:Mp (.str h) (zs.map V.str)=true↔h∈zs:=by
  unfold Mp;rw [List.any_eq_true];constructor
  .rintro⟨x,h1,h2⟩;obtain⟨z,hz,rfl⟩:=cx.mp h1;have:z=h:=by simpa [qe] using h2
   rw [<-this];exact hz
  intro hm;exact⟨.str h,cx.mpr ⟨h,hm,rfl⟩,by simp [qe]⟩
 by_cases c:h∈zs
 .rw [cf c];exact this.mpr c
 rw [d0 c];cases e:Mp (.str h) (zs.map V.str) with
 | false=>rfl
 | true=>exact absurd (this.mp e) c
def bO (zs:List Str):(zs.map V.str).all iR=true:=by
 rw [dN];intro x hx;obtain⟨z,_,rfl⟩:=cx.mp hx;rfl
section
variable {K:bp}{H:Hp}{p D:Addr}{zs:List Str}{σ:St}{x:Str}{js:List (Nat×Str)}{te:TE}{Qp:Hp->Prop}
def fh (rest:St)(pr:Str->Bool)(hc:eh [x] js σ=none::rest)(hp:a_ K H p (zs.map V.str))(hz:zs.length<=1000)(hD:H D=none)
  (Qb:∀z∈zs,∀(H':Hp)(Qy:VK),aC H H'->Qy (.bl (pr z)) H'->te (some (.str z)::rest) H' Qy)
  (q:∀H2,aC H H2->H2 D=some (.lst ((zs.map pr).map V.bl))->Qp H2) :
  ∃W:Nat->Nat->List V->St->Hp->Prop,(∃m,W 0 m [] (eh [x] js σ) (upd H D (.lst []))) /\
 ∀i m ys σ' H,W i m ys σ' H->((ot K p).stop i H/\Qp H)\/((ot K p).go i H/\∃m',m' < m/\∀x H',(ot K p).lR i H x H'->dB 0 x σ' H' λσ2 H2=>gI σ2 H2 λb H3 =>
  if b=true then te σ2 H3 λy H4=>H4 D=some (.lst ys)/\ys.length < sizeLine/\W (i+1) m' (ys++[y]) σ2 (upd H4 D (.lst (ys++[y]))) else W (i+1) m' ys σ2 H3):=by
 refine gL (xs:=zs.map V.str) (λi ys σ2 H2=>ys=((zs.take i).map pr).map V.bl/\(∃y0,σ2=y0::rest)/\aC H H2/\H2 D=some (.lst ys))
  ⟨rfl,⟨none,hc⟩,af hD _,ae⟩ (λi ys σ2 H2 _ h=>?_) (λi v ys σ2 H2 ex h=>?_) (λys σ2 H2 h=>?_)
 .obtain⟨_,_,sm,_⟩:=h;exact sm.tup hp
 .obtain⟨rfl,⟨y0,rfl⟩,sm,hd⟩:=h;rw [a9] at ex;obtain⟨z,ez,rfl⟩:=b_.mp ex;have li:=(bf.mp ez).1;refine goN (uH (Qb z (b9 ez) _ _ sm ⟨hd,bD (by rw [au,au,dr];omega),?_,⟨_,rfl⟩,λb o hb=>?_,ae⟩))
  .rw [cK,ez,bA,bA];rfl
  rw [ak (λz=>by rw [z,hD] at hb;cases hb)];exact sm b o hb
 obtain⟨rfl,_,sm,hd⟩:=h;rw [au,cv] at hd;exact q H2 sm hd
def pV (rest:St)(pr:Str->Bool)(hc:eh [x] js σ=none::rest)(hp:aG K H p (zs.map V.str))(hz:zs.length<=1000)(hD:H D=none)
  (Qb:∀z∈zs,∀(H':Hp)(Qy:VK),aC H H'->Qy (.bl (pr z)) H'->te (some (.str z)::rest) H' Qy)
  (q:∀H2,aC H H2->H2 D=some (.lst ((zs.map pr).map V.bl))->Qp H2) :
  ∃W:Nat->Nat->List V->St->Hp->Prop,(∃m,W 0 m [] (eh [x] js σ) (upd H D (.lst []))) /\
 ∀i m ys σ' H,W i m ys σ' H->((iU K p).stop i H/\Qp H)\/((iU K p).go i H/\∃m',m' < m/\∀x H',(iU K p).lR i H x H'->dB 0 x σ' H' λσ2 H2=>gI σ2 H2 λb H3 =>
  if b=true then te σ2 H3 λy H4=>H4 D=some (.lst ys)/\ys.length < sizeLine/\W (i+1) m' (ys++[y]) σ2 (upd H4 D (.lst (ys++[y]))) else W (i+1) m' ys σ2 H3):=by
 refine bS (xs:=zs.map V.str) (λi ys σ2 H2=>ys=((zs.take i).map pr).map V.bl/\(∃y0,σ2=y0::rest)/\aC H H2/\H2 D=some (.lst ys))
  ⟨rfl,⟨none,hc⟩,af hD _,ae⟩ (λi ys σ2 H2 _ h=>?_) (λi v ys σ2 H2 ex h=>?_) (λys σ2 H2 h=>?_)
 .obtain⟨_,_,sm,_⟩:=h;exact sm.seq hp
 .obtain⟨rfl,⟨y0,rfl⟩,sm,hd⟩:=h;rw [a9] at ex;obtain⟨z,ez,rfl⟩:=b_.mp ex;have li:=(bf.mp ez).1;refine goN (uH (Qb z (b9 ez) _ _ sm ⟨hd,bD (by rw [au,au,dr];omega),?_,⟨_,rfl⟩,λb o hb=>?_,ae⟩))
  .rw [cK,ez,bA,bA];rfl
  rw [ak (λz=>by rw [z,hD] at hb;cases hb)];exact sm b o hb
 obtain⟨rfl,_,sm,hd⟩:=h;rw [au,cv] at hd;exact q H2 sm hd
end
theorem all_map (zs:List Str)(pr:Str->Bool):(zs.map pr).all id=zs.all pr:=by
 rw [List.all_map];rfl
end L2
namespace gY
open PySem M11
noncomputable abbrev hm (aa:List aw):List Str:=aa.map (·.1)
structure Small (aa:List aw):Prop where
 one:1<=aa.length
 most:aa.length<=32
 uL:∀ru∈aa,ru.2.length<=6
open PySem L2 M11
section
def iT {H:Hp}{R D:Addr}{rs:List Addr}{aa:List aw}{σ:St}{Qp:Hp->Prop}(hR:aG K H R (rs.map V.ref))(cy:bQ K H rs aa)(bu:aa.length<=1000)(hD:H D=none)
  (q:∀H2,aC H H2->H2 D=some (.lst ((hm aa).map V.str))->Qp H2) :
  ∃W:Nat->Nat->List V->St->Hp->Prop,(∃m,W 0 m [] (eh ["_law_head","_law_parts"] [] σ) (upd H D (.lst []))) /\
 ∀i m ys σ' H,W i m ys σ' H->((iU K R).stop i H/\Qp H)\/((iU K R).go i H/\∃m',m' < m/\∀x H',(iU K R).lR i H x H'->Ap K 2 (jE (dB 0) (jE (dB 1) CU)) x σ' H' λσ2 H2=>gI σ2 H2 λb H3 =>
  if b=true then fS 0 σ2 H3 λy H4=>H4 D=some (.lst ys)/\ys.length < sizeLine/\W (i+1) m' (ys++[y]) σ2 (upd H4 D (.lst (ys++[y]))) else W (i+1) m' ys σ2 H3):=by
 have ll:=bc cy;refine bS (xs:=rs.map V.ref) (λi ys σ2 H2=>ys=((hm aa).take i).map V.str/\(∃y0 y1,σ2=[y0,y1])/\aC H H2/\H2 D=some (.lst ys))
  ⟨rfl,⟨none,none,rfl⟩,af hD _,ae⟩ (λi ys σ2 H2 _ h=>?_) (λi x ys σ2 H2 ex h=>?_) (λys σ2 H2 h=>?_)
 .obtain⟨_,_,sm,_⟩:=h;exact sm.seq hR
 .obtain⟨rfl,⟨y0,y1,rfl⟩,sm,tP⟩:=h;rw [a9] at ex;obtain⟨r,er,rfl⟩:=b_.mp ex;obtain⟨ru,e1,p,v1,v2⟩:=cy.get er;have li:=(bf.mp e1).1;refine⟨r,_,rfl,sm.tup v1,rfl,_,_,rfl,_,_,rfl,rfl,?_⟩;refine uH ?_;refine⟨_,rfl,tP,bD (by rw [au,dr];omega),?_,⟨_,_,rfl⟩,λb o hb=>?_,ae⟩
  .have:(hm aa)[i]?=some ru.1:=by unfold hm;rw [a9,e1];rfl
   rw [cK,this,bA];rfl
  rw [ak (λz=>by rw [z,hD] at hb;cases hb)];exact sm b o hb
 obtain⟨rfl,_,sm,tP⟩:=h;rw [au,ll,tW (by unfold hm;rw [au];exact aU _)] at tP;exact q H2 sm tP
def Ba (K:bp):Sp:=λvs H Q _=>∃(R:Addr)(rs:List Addr)(aa:List aw)(b:Bool),vs=[.ref R,.bl b]/\aG K H R (rs.map V.ref)/\bQ K H rs aa/\Small aa /\
 ∀(D:Addr)(H':Hp),H D=none->aC H H'->H' D=some (.lst ((d6 b aa).map V.str))->(d6 b aa).length<=64->Q (.ref D) H'
noncomputable abbrev NE:List Str:=["_law_rules","_law_words_here","_law_head","_law_parts","_law_heads","_law_ended_here","_law_again","_law_good_here"]
def jO:aK NE ["_law_rules","_law_words_here"] (ay zt):=iz rfl rfl rfl rfl nofun
def Fw (F:hV K "_law_ended" "_law_ended" zt f fd)(T:Txt mg):bV P w K mg base fK 1 f fd ["_law_rules","_law_words_here"] (Ba K):=by
 refine F.ok jO (λvs H Q E h=>?_) (λeX A outer s H vs Q E hr h=>?_)
 .obtain⟨R,rs,aa,b,rfl,_⟩:=h;rfl
 obtain⟨R,rs,aa,b,rfl,hR,cy,jj,q⟩:=h;have Vb:=jj.one;have Mr:=jj.most;refine⟨_,ag (aA (i:=4) jO.nd rfl (Or.inr rfl) (aV ["_law_head","_law_parts"] [] rfl (aR (pv 0)) (aP rfl rfl) nofun rfl nofun
   (λ_ _ _ _ _=>d_ (n:=2) K rfl (av (aq (i:=0) (show (["_law_head","_law_parts"]:List Str).Nodup by decide +kernel) rfl (aZ rfl)) (av (aq (i:=1) (show (["_law_head","_law_parts"]:List Str).Nodup by decide +kernel) rfl (aZ rfl)) bo))) (λ_ _ _ _ _=>a0)
   (λ_ _ _ _ _=>pv 0)))
  (ag (aA (i:=5) jO.nd rfl (Or.inr rfl) (bL ai))
  (ag (bE bX rfl (aR (pv 0)) (aq (i:=6) jO.nd rfl (aZ rfl))
   (ao (bE bX rfl (aR (pv 0)) (d_ (n:=2) K rfl (av (aq (i:=2) jO.nd rfl (aZ rfl)) (av (aq (i:=3) jO.nd rfl (aZ rfl)) bo)))
    (ag (aA (i:=7) jO.nd rfl (aZ rfl) (aE (cX rfl) rfl T.all boot_all (ab
      (aV ["_law_part"] [(5,"_law_ended_here"),(4,"_law_heads"),(1,"_law_words_here")] rfl (dQ (pv 3)) (aP rfl rfl) nofun rfl nofun
       (λ_ _ _ _ _=>aq (i:=0) (show (["_law_part","_law_ended_here","_law_heads","_law_words_here"]:List Str).Nodup by decide +kernel) rfl (aZ rfl)) (λ_ _ _ _ _=>a0)
       (λ_ _ _ _ _=>J3 (dw (dF K) (pv 0) (pv 1) rfl) (jS (jT (pv 3) (jS (dw (je K) (pv 0) (pv 2) rfl)))))) ai)))
    (ao (bz (PW.pt (ig (dJ (pv 7)) (gA (aQ iB (pv 2) (pv 5) rfl))))
     (ao (du (ix ir iu iw cA (pv 5) (ab (pv 2) ai)))) aI))))))
  (ao (aL (pv 5))))),?_⟩
 nofun
 refine⟨_,rfl,R,rfl,⟨_,hR⟩,λD hD=>iT hR cy ∅ hD λH1 s1 eD=>?_⟩;refine goN ?_
 ac_rfl
 refine⟨yB,λL hL=>?_⟩;have s2:=s1.trans (af hL (.lst []));have DJ:=af hL (.lst []) _ _ eD;have nL:L≠D:=λz=>by rw [z,eD] at hL;cases hL
 have fL:H L=none:=s1.free hL;have e2:upd H1 L (.lst []) L=some (.lst []):=ae;generalize upd H1 L (.lst [])=H2 at s2 DJ e2;refine goN ?_
 ac_rfl
 have ll:=bc cy
 let oo:lW:=λi σ H3=>∃(es:List Str)(y2 y3 y6 y7:Option V),σ=[aD R,some (.bl b),y2,y3,aD D,aD L,y6,y7]/\aC H H3/\H3 D=some (.lst ((hm aa).map V.str))/\H3 L=some (.lst (es.map V.str))/\es=passes (λe=>gZ b (hm aa) e aa) i []/\es.length<=32 * i
 refine⟨_,rfl,R,rfl,⟨_,s2.seq hR⟩,cq (xs:=rs.map V.ref) oo ⟨[],_,_,_,_,rfl,s2,DJ,e2,rfl,by simp⟩ ?_ ?_ ?_⟩
 .rintro i σ H3 _ ⟨es,y2,y3,y6,y7,rfl,s3,_⟩;exact s3.seq hR
 .intro i x σ H3 ex iV
  ac_nf0
  obtain⟨es,y2,y3,y6,y7,rfl,s3,BI,Wx,he,Qx⟩:=iV;have li:=(bf.mp ex).1;rw [au] at li;refine goN ?_
  ac_nf
  let wZ:lW:=λj σ H4=>∃(wJ:List Str)(y2 y3 y7:Option V),σ=[aD R,some (.bl b),y2,y3,aD D,aD L,some x,y7]/\aC H H4/\H4 D=some (.lst ((hm aa).map V.str))/\H4 L=some (.lst (wJ.map V.str))/\wJ=gZ b (hm aa) es (aa.take j)/\wJ.length<=32 * i+j
  refine⟨_,rfl,R,rfl,⟨_,s3.seq hR⟩,cq (xs:=rs.map V.ref) wZ ⟨es,_,_,_,rfl,s3,BI,Wx,rfl,∅⟩ ?_ ?_ ?_⟩
  .rintro j σ H4 _ ⟨wJ,y2,y3,y7,rfl,s4,_⟩;exact s4.seq hR
  .intro j x2 σ H4 lS iV
   ac_nf0
   obtain⟨wJ,y2,y3,y7,rfl,s4,Od,ox,Hz,Qw⟩:=iV;have lj:=(bf.mp lS).1;rw [au] at lj;rw [a9] at lS;obtain⟨r,er,rfl⟩:=b_.mp lS;obtain⟨ru,e1,p,v1,v2⟩:=cy.get er;have gX:=jj.uL ru (b9 e1);refine⟨r,_,rfl,s4.tup v1,rfl,_,_,rfl,_,_,rfl,rfl,?_⟩;refine⟨_,rfl,p,rfl,⟨_,s4.tup v2⟩,λD2 jD=>fh (zs:=ru.2) [aD L,aD D,some (.bl b)] (λz=>decide (z∈wJ) || (b && !decide (z∈hm aa))) rfl (s4.tup v2) ∅ jD (λz _ H5 Qy s5 hq=>?_) λH5 s5 eD5=>?_⟩
   .refine⟨_,rfl,_,rfl,L,_,rfl,.inl (aG.of (s5 _ _ ox)),rfl,bO _,?_⟩;refine⟨_,rfl,?_⟩;rw [di];show if decide (z∈wJ)=true then _ else _;refine bJ (λc=>?_) (λc=>?_)
    .rw [c] at hq;exact hq
    have c':decide (z∈wJ)=false:=by simpa using c
    rw [c',qK] at hq;refine⟨_,rfl,b,rfl,?_⟩;refine bJ (λcb=>?_) (λcb=>?_)
    .rw [cb,iX] at hq;refine⟨_,rfl,_,rfl,D,_,rfl,.inl (aG.of (s5 _ _ Od)),rfl,bO _,?_⟩;rw [di];exact hq
    have cb':b=false:=by simpa using cb
    rw [cb',iY] at hq;exact hq
   refine⟨D2,_,rfl,aG.of eD5,?_⟩;rw [all_map];refine goN ?_
   ac_rfl
   have xx:=s4.trans s5;have C5:=s5 _ _ ox;have pe:gZ b (hm aa) es (aa.take (j+1))=fg b (hm aa) wJ ru:=by
    rw [Hz,cK,e1];unfold gZ;rw [u7];rfl
   refine⟨_,rfl,_,rfl,?_⟩;refine bJ (λc=>?_) (λc=>?_)
   .refine⟨_,rfl,_,rfl,L,_,rfl,.inl (aG.of C5),rfl,bO _,_,rfl,?_⟩;rw [di];show if (!decide (ru.1∈wJ))=true then _ else _;refine bJ (λc2=>?_) (λc2=>?_)
    .refine⟨_,rfl,.inl ⟨rfl,_,aG.of C5⟩,_,rfl,L,_,_,rfl,rfl,C5,bD (by rw [au];omega),?_⟩;refine⟨wJ++[ru.1],_,_,_,rfl,λb o hb=>?_,by rw [ak (fO nL)];exact s5 _ _ Od,by rw [ae,bA];rfl,?_,by rw [bW];simp;omega⟩
     .rw [ak (λz=>by rw [z,fL] at hb;cases hb)];exact xx b o hb
     rw [pe];unfold fg;rw [c,iX,ax c2]
    refine⟨wJ,_,_,_,rfl,xx,s5 _ _ Od,C5,?_,∅⟩;rw [pe];unfold fg;rw [c,iX,az c2]
   refine⟨wJ,_,_,_,rfl,xx,s5 _ _ Od,C5,?_,∅⟩;rw [pe];unfold fg;rw [az (λz=>c (jo.mp z).1)]
  rintro σ H4 ⟨wJ,y2,y3,y7,rfl,s4,Od,ox,Hz,Qw⟩;rw [au,ll] at Qw;rw [au,ll,cv] at Hz;exact⟨wJ,_,_,_,_,rfl,s4,Od,ox,by rw [Hz,he];rfl,∅⟩
 rintro σ H3 ⟨es,y2,y3,y6,y7,rfl,s3,BI,Wx,he,Qx⟩;rw [au,ll] at he Qx;refine⟨_,rfl,?_⟩;have e:d6 b aa=es:=he.symm;have l5:=g9 _ _ (k_ b aa).nd (k_ b aa).sub;rw [au] at l5;exact q L H3 fL s3 (by rw [e];exact Wx) ∅
end
def xY {aa:List aw}{x:Str}:x∈hm aa↔x∈hd aa:=by
 constructor
 .intro h;obtain⟨ru,a,b⟩:=cx.mp h;exact b ▸ uG a
 intro h;obtain⟨ru,a,b⟩:=Kr h;exact cx.mpr ⟨ru,a,b⟩
def UB (aa:List aw)(h:Str) (v:Int):Prop:=∀g,eJ M11.bl aa (wG aa) g->iE M11.bl aa g->∃m,g h=some m/\m<=v
def UB.le {aa:List aw}{h:Str}{v u:Int}(a:UB aa h v)(l:v<=u):UB aa h u:=λg s t=>by
 obtain⟨m,e,k⟩:=a g s t;exact⟨m,e,oA k l⟩
def AQ {aa:List aw}{x:Str}(nn:x∉hd aa){ru:aw}(gX:ru∈aa)(hm:x∈ru.2):UB aa x 0:=λg st _=>by
 refine⟨0,?_,j7 _⟩;refine eJ.keep (J:=λg=>g x=some 0) (λg EW j h2 _=>?_) st ?_
 .show dW g EW.1 _ x=some 0;unfold dW;have:x≠EW.1:=λz=>nn (z ▸ uG h2);rw [az this];exact j
 show wG aa x=some 0;unfold wG;rw [ax (qj _ _ _ _ (.inr ⟨qB.mpr ⟨ru,gX,hm⟩,nn⟩))]
theorem AY {f g:Str->Int}:∀(ps:List Str),(∀x∈ps,f x<=g x)->(ps.map f).sum<=(ps.map g).sum
 | [],_=>j7 _
 | a::r,h=>by
  have h1:=h a cS;have h2:=AY r λx hx=>h x (cY _ hx);simp only [cE,kq];omega
def vA {aa:List aw}{h:Str}{ps:List Str}(hm:(h,ps)∈aa){f:Str->Int}(hf:∀p∈ps,UB aa p (f p)):UB aa h (1+(ps.map f).sum):=λg st se=>by
 have hv:∀p∈ps,∃m,g p=some m/\m<=f p:=λp hp=>hf p hp g st se;have hs:=se _ hm;unfold c_ at hs;have a1:kc g (h,ps)=true:=dN.mpr λp hp=>by obtain⟨m,e1,_⟩:=hv p hp;show (g p).isSome=true;rw [e1];rfl
 have s0:aM g (h,ps)<=1+(ps.map f).sum:=by
  unfold aM;have:=AY (f:=λp=>(g p).getD 0) (g:=f) ps λp hp=>by obtain⟨m,e1,e2⟩:=hv p hp;show (g p).getD 0<=_;rw [e1];exact e2
  show 1+(ps.map λp=>(g p).getD 0).sum<=_;omega
 rw [a1,iX] at hs;cases gn:g h with
 | none=>rw [show g (h,ps).1=none from gn] at hs;cases hs
 | some m =>
  rw [show g (h,ps).1=some m from gn] at hs;refine⟨m,rfl,?_⟩;have:¬aM g (h,ps) < m:=by simpa [M11.bl] using hs
  omega
def bG (g:G)(z:Str):Int:=(g z).getD 0
noncomputable def ff (ns:List Str)(g:G)(ru:aw):G:=if (ru.2.all λp=>decide (p∈ns))=true then dW g ru.1 (if aM g ru > bG g ru.1 then aM g ru else bG g ru.1) else g
noncomputable def tZ (ns:List Str)(aa:List aw)(g:G):G:=aa.foldl (ff ns) g
def vw (ns:List Str)(g:G)(ru:aw)(x:Str):bG (ff ns g ru) x=if (ru.2.all λp=>decide (p∈ns))=true/\x=ru.1 then (if aM g ru > bG g ru.1 then aM g ru else bG g ru.1) else bG g x:=by
 unfold ff;by_cases c:(ru.2.all λp=>decide (p∈ns))=true
 .rw [ax c];by_cases e:x=ru.1
  .rw [ax (show (ru.2.all λp=>decide (p∈ns))=true/\x=ru.1 from ⟨c,e⟩)];show (if x=ru.1 then some _ else g x).getD 0=_;rw [ax e];rfl
  rw [az (show ¬((ru.2.all λp=>decide (p∈ns))=true/\x=ru.1) from λz=>e z.2)];show (if x=ru.1 then some _ else g x).getD 0=_;rw [az e];rfl
 rw [az c,az (show ¬((ru.2.all λp=>decide (p∈ns))=true/\x=ru.1) from λz=>c z.1)]
def DV (ns:List Str)(g:G)(ru:aw)(x:Str):bG g x<=bG (ff ns g ru) x:=by
 rw [vw]
 split
 .rename_i h
  rw [h.2]
  split <;> omega
 exact j7 _
theorem qX (ns:List Str):∀(rs:List aw)(g:G)(x:Str),bG g x<=bG (rs.foldl (ff ns) g) x
 | [],_,_=>j7 _
 | r::rs,g,x=>oA (DV ns g r x) (qX ns rs (ff ns g r) x)
def xt {g g':G}{ru:aw}(h:∀p∈ru.2,bG g p=bG g' p):aM g ru=aM g' ru:=by
 unfold aM;rw [show (ru.2.map λp=>(g p).getD 0)=ru.2.map λp=>(g' p).getD 0 from List.map_congr_left h]
section
variable {aa:List aw}{ns cs:List Str}
def NB (aa:List aw) (ns cs:List Str):Prop:=∀ru∈aa,(∀p∈ru.2,p∈ns)->ru.1∈cs/\∀p∈ru.2,mV cs p < mV cs ru.1
def Lk (aa:List aw) (ns cs:List Str) (k:Nat)(g:G):Prop:=∀ru∈aa,(∀p∈ru.2,p∈ns)->mV cs ru.1 < k->aM g ru<=bG g ru.1
def Nm {ru:aw}(h:(ru.2.all λp=>decide (p∈ns))=true):∀p∈ru.2,p∈ns:=λp hp=>cw (dN.mp h p hp)
def lC {k:Nat}{g:G}{ru:aw}(h:Lk aa ns cs k g)(hr:ru∈aa){x:Str}(hx:mV cs x < k):bG (ff ns g ru) x=bG g x:=by
 rw [vw]
 split
 .rename_i c
  have:=h ru hr (Nm c.1) (c.2 ▸ hx);rw [az ∅,c.2]
 rfl
def xg (a:NB aa ns cs){k:Nat}{g:G}{ru:aw}(h:Lk aa ns cs k g)(hr:ru∈aa):Lk aa ns cs k (ff ns g ru):=λr2 h2 e2 l2=>by
 rw [<-xt (g:=g) λp hp=>(lC h hr (kx ((a r2 h2 e2).2 p hp) l2)).symm,lC h hr l2];exact h r2 h2 e2 l2
theorem qZ (a:NB aa ns cs){k:Nat}:∀(rs:List aw)(g:G),(∀ru∈rs,ru∈aa)->Lk aa ns cs k g->Lk aa ns cs k (rs.foldl (ff ns) g)/\∀x,mV cs x < k->bG (rs.foldl (ff ns) g) x=bG g x
 | [],_,_,h=>⟨h,λ_ _=>rfl⟩
 | r::rs,g,hs,h=>by
  have h1:=xg a h (hs r cS);obtain⟨i1,i2⟩:=qZ a rs _ (λru hr=>hs ru (cY _ hr)) h1;exact⟨i1,λx hx=>(i2 x hx).trans (lC h (hs r cS) hx)⟩
theorem qY (a:NB aa ns cs){k:Nat}:∀(rs:List aw)(g:G),(∀ru∈rs,ru∈aa)->Lk aa ns cs k g->∀ru∈rs,(∀p∈ru.2,p∈ns)->mV cs ru.1=k->aM (rs.foldl (ff ns) g) ru<=bG (rs.foldl (ff ns) g) ru.1
 | [],_,_,_,_,h,_,_=>(by cases h)
 | r::rs,g,hs,h,ru,gX,hp,hk=>by
  have hr:=hs r cS;have h1:=xg a h hr;rcases b8.mp gX with e | e
  .subst e;have ah:=a ru hr hp;have lt:∀p∈ru.2,mV cs p < k:=λp jZ=>hk ▸ ah.2 p jZ;obtain⟨_,i2⟩:=qZ a rs (ff ns g ru) (λru hr=>hs ru (cY _ hr)) h1;have e1:aM (List.foldl (ff ns) g (ru::rs)) ru=aM g ru:=xt λp jZ=>(i2 p (lt p jZ)).trans (lC h hr (lt p jZ));rw [e1];have e2:=qX ns rs (ff ns g ru) ru.1;have e3:=vw ns g ru ru.1;rw [ax ⟨dN.mpr λp jZ=>cf (hp p jZ),rfl⟩] at e3;show _<=bG (List.foldl (ff ns) (ff ns g ru) rs) ru.1;have e4:aM g ru<=(if aM g ru > bG g ru.1 then aM g ru else bG g ru.1):=by split <;> omega
   omega
  exact qY a rs _ (λru hr=>hs ru (cY _ hr)) h1 ru e hp hk
def DW (a:NB aa ns cs){k:Nat}{g:G}(h:Lk aa ns cs k g):Lk aa ns cs (k+1) (tZ ns aa g):=λru hr hp hk=>by
 by_cases c:mV cs ru.1 < k
 .exact(qZ a aa g (λ_ z=>z) h).1 ru hr hp c
 exact qY a aa g (λ_ z=>z) h ru hr hp ∅
theorem ur (a:NB aa ns cs):∀n,Lk aa ns cs n (passes (tZ ns aa) n λ_=>none)
 | 0=>λ_ _ _ h=>absurd h (Nat.not_lt_zero _)
 | n+1=>DW a (ur a n)
theorem uq (ns:List Str)(aa:List aw)(x:Str):∀n,0<=bG (passes (tZ ns aa) n λ_=>none) x
 | 0=>j7 _
 | n+1=>oA (uq ns aa x n) (qX ns aa _ x)
def FY:∀(l:List Str)(x:Str),x∈l->mV l x < l.length:=λl x h=>(bf.mp (mQ l x h)).1
def DX (xX:∀x,Em aa x->x∈ns)(a:NB aa ns cs){n:Nat}(hl:cs.length<=n):tF aa (bG (passes (tZ ns aa) n λ_=>none)) :=
 ⟨λz=>uq ns aa z n,λru hr hp=>ur a n ru hr (λp jZ=>xX p (hp p jZ)) (gk (FY cs ru.1 (a ru hr λp jZ=>xX p (hp p jZ)).1) hl)⟩
end
def yw (aa:List aw) (ms:List Str):Prop:=∀(i:Nat)(h:Str),ms[i]?=some h->(∃jc,aa[0]?=some jc/\h=jc.1)\/∃ru∈aa,ru.1∈ms.take i/\h∈ru.2
def Hf (aa:List aw)(ru:aw) (j:Nat)(z:Str):Prop:=ru.2[j]?=some z/\z∈hm aa/\∀(k:Nat)(y:Str),k≠j->ru.2[k]?=some y->y∈d6 false aa
def PlO (aa:List aw) (cs:List Str):Prop:=∀(i:Nat)(h:Str),cs[i]?=some h->∀ru∈aa,ru.1=h->∀(j:Nat)(z:Str),Hf aa ru j z->z∈cs.take i
structure B3 (aa:List aw) (ms cs:List Str):Prop where
 mo:yw aa ms
 ma:∀z∈hm aa,z∈ms
 cn:cs.Nodup
 ch:∀x∈cs,x∈hm aa
 co:PlO aa cs
 ca:∀z∈hm aa,z∈cs
 ub:∀z∈hm aa,UB aa z 60
 bd:∃b,tF aa b/\∀h∈hd aa,b h<=60
def FJ {aa:List aw}{M:List Str}(O:yw aa M)(mA:∀h∈hd aa,h∈M):∀jc ms,aa[0]?=some jc->jc.1∈ms->Dn aa aa.length ms->∀h∈hd aa,h∈ms:=λjc ms e0 h0 mc=>by
 have key:∀(n i:Nat),i < n->∀h:Str,M[i]?=some h->h∈ms:=by
  intro n
  induction n with
  | zero=>intro i hi;omega
  | succ n ih =>
   intro i hi h e;rcases O i h e with ⟨r0,e1,e2⟩ | ⟨ru,gX,h1,h2⟩
   .rw [e0] at e1;cases e1;rw [e2];exact h0
   obtain⟨j,lj,ej⟩:=nu h1;exact mc ru (by rw [cv];exact gX) (ih j ∅ _ ej) h h2
 intro h hh;obtain⟨i,hi⟩:=fj (mA h hh);exact key (i+1) i ∅ h hi
def Bu {aa:List aw}{rk:Str->Nat}(h:∀ru∈aa,∀(j:Nat)(z:Str),ru.2[j]?=some z->z∈hd aa->(∀(k:Nat)(y:Str),k≠j->ru.2[k]?=some y->Em aa y)->rk z < rk ru.1):AJ aa rk:=by
 rintro aY emp oh n k j ⟨jc,z0,e1,e2,e3,e4,e5⟩ ru z er ez;rw [er] at e1;obtain rfl:ru=jc:=gO e1;rw [ez] at e3;obtain rfl:z=z0:=gO e3;rw [<-e2];refine h ru (b9 er) j z ez e4 λk' y nk ey=>?_;have:=xS e5 ey nk;exact Aw emp y (cw this)
def B3.good {aa:List aw}{ms cs:List Str}(g:B3 aa ms cs):∃rk b,Good aa rk b:=by
 obtain⟨b,hb,hm6⟩:=g.bd;refine⟨mV cs,b,λgg st se h hh=>?_,FJ g.mo λh hh=>g.ma h (xY.mpr hh),Bu λru gX j z ez hz Kq=>?_,hb,hm6⟩
 .exact g.ub h (xY.mpr hh) gg st se
 exact kZ cs z _ (g.co _ _ (mQ cs ru.1 (g.ca _ (iq gX))) ru gX rfl j z ⟨ez,xY.mpr hz,λk y nk ey=>sJ (Kq k y nk ey)⟩)
structure XD (aa:List aw) (cT ws:List Str):Prop where
 nd:cT.Nodup
 uL:cT.length<=9
 dj:∀x∈cT,x∉ws
 first:∀jc,aa[0]?=some jc->cT[0]?=some jc.1
 CO:∀ru∈aa,ru.1∈cT
 on:∀(a:Nat)(h:Str),cT[a]?=some h->∃de,(h,de)∈aa/\((∃n' us vs,cT[a+1]?=some n'/\de=us++n'::vs/\(∀p∈us,p∈ws)/\∀p∈vs,p∈ws)\/(cT.length=a+1/\∀p∈de,p∈ws))
 sh:∀ru∈aa,(∃p∈ru.2,p∈ws)\/ru.2=[]\/∃n',cT[mV cT ru.1+1]?=some n'/\ru.2=[n']
theorem Ad:∀{l:List Str},l.Nodup->∀{a:Nat}{x:Str},l[a]?=some x->mV l x=a
 | y::l,nd,0,x,e=>by
  cases e;unfold mV;rw [ax rfl]
 | y::l,nd,a+1,x,e=>by
  have e':l[a]?=some x:=e;have ne:y≠x:=λz=>(iI.mp nd).1 (z ▸ b9 e');unfold mV;rw [az ne,Ad (iI.mp nd).2 e']
theorem nv {f:Str->Int}:∀(ps:List Str),(∀x∈ps,f x=0)->(ps.map f).sum=0
 | [],_=>rfl
 | a::r,h=>by
  rw [cE,kq,h a cS,nv r λx hx=>h x (cY _ hx)];rfl
def XD.good {aa:List aw}{cT ws:List Str}(c:XD aa cT ws):∃rk b,Good aa rk b:=by
 have hN:∀x,x∈hd aa->x∈cT:=λx hx=>by
  obtain⟨ru,a,b⟩:=Kr hx;exact b ▸ c.CO ru a
 have wN:∀x∈ws,x∉hd aa:=λx hx h=>c.dj x (hN x h) hx;have YG:∀x∈ws,¬Em aa x:=λx hx h=>wN x hx (Ky h);have ub:∀(n a:Nat)(h:Str),a+n=cT.length->cT[a]?=some h->UB aa h (n:Int):=by
  intro n
  induction n with
  | zero =>
   intro a h l e;have:=(bf.mp e).1;omega
  | succ n ih =>
   intro a h l e;obtain⟨de,hm,hp⟩:=c.on a h e;have wd:∀p∈ws,p∈de->UB aa p 0:=λp hpw jZ=>AQ (wN p hpw) hm jZ;rcases hp with ⟨n',us,vs,en,rfl,Y3,Y2⟩ | ⟨_,hw⟩
   .have Ga:=ih (a+1) n' ∅ en;have ne:∀p∈ws,p≠n':=λp hp z=>c.dj n' (b9 en) (z ▸ hp);have h1:=vA hm (f:=λp=>if p=n' then (n:Int) else 0) λp hp=>by
     by_cases cc:p=n'
     .rw [ax cc,cc];exact Ga
     rw [az cc];refine wd p ?_ hp;rcases cg.mp hp with q | q
     .exact Y3 p q
     rcases b8.mp q with q | q
     .exact absurd q cc
     exact Y2 p q
    refine h1.le ?_;rw [bA,List.sum_append,cE,kq,ax rfl,nv us λx hx=>az (ne x (Y3 x hx)),nv vs λx hx=>az (ne x (Y2 x hx))];push_cast;omega
   have h1:=vA hm (f:=λ_=>0) λp hp=>wd p (hw p hp) hp;refine h1.le ?_;rw [nv de λ_ _=>rfl];push_cast;omega
 refine⟨λx=>cT.length - mV cT x,λx=>if x∈cT then ((cT.length - mV cT x:Nat):Int) else 0,λgg st se h hh=>?_,FJ (M:=cT) (λi h e=>?_) λh hh=>hN h hh,Bu λru gX j z ez hz Kq=>?_,⟨λz=>?_,λru gX Kq=>?_⟩,λh hh=>?_⟩
 .obtain⟨a,e⟩:=fj (hN h hh);have la:=(bf.mp e).1;have:=c.uL;exact((ub (cT.length - a) a h ∅ e).le (show ((cT.length - a:Nat):Int)<=60 by omega)) gg st se
 .match i,e with
  | 0,e =>
   obtain⟨de,hm,_⟩:=c.on 0 h e;obtain⟨k,ek⟩:=fj hm;have l0:0 < aa.length:=by have:=(bf.mp ek).1;omega
   refine .inl ⟨aa[0],dI l0,?_⟩;have:=c.first _ (dI l0);rw [e] at this;exact gO this
  | i+1,e =>
   have li:=(bf.mp e).1;have e5:cT[i]?=some (cT[i]'∅):=dI ∅;obtain⟨de,hm,hp⟩:=c.on i _ e5;refine .inr ⟨_,hm,?_,?_⟩
   .refine b9 (i:=i) ?_;rw [tX ∅];exact e5
   rcases hp with ⟨n',us,vs,en,rfl,_⟩ | ⟨l,_⟩
   .rw [e] at en;cases en;exact gH _ cS
   omega
 .rcases c.sh ru gX with ⟨p,hp,hw⟩ | h | ⟨n',en,h⟩
  .exfalso;obtain⟨k,ek⟩:=fj hp;by_cases ck:k=j
   .subst ck;rw [ez] at ek;cases ek;exact wN _ hw hz
   exact YG p hw (Kq k p ck ek)
  .rw [h] at ez;cases ez
  rw [h] at ez;have Kx:z=n':=by
   match j,ez with
   | 0,e=>exact(gO e).symm
   | _+1,e=>cases e
  subst Kx;have i1:=Ad c.nd en;have:=(bf.mp en).1;show cT.length - mV cT z < cT.length - mV cT ru.1;omega
 .show (0:Int)<=if z∈cT then _ else 0
  split
  .omega
  exact j7 _
 .have hn:=c.CO ru gX;show 1+(ru.2.map λx=>if x∈cT then ((cT.length - mV cT x:Nat):Int) else 0).sum<=if ru.1∈cT then ((cT.length - mV cT ru.1:Nat):Int) else 0;rw [ax hn];have li:=FY cT ru.1 hn;rcases c.sh ru gX with ⟨p,hp,hw⟩ | h | ⟨n',en,h⟩
  .exact absurd (Kq p hp) (YG p hw)
  .rw [h];show 1+0<=_;omega
  rw [h];have i1:=Ad c.nd en;have:=(bf.mp en).1;rw [cE,kq,ax (b9 en),i1];show 1+(_+0)<=_;omega
 show (if h∈cT then ((cT.length - mV cT h:Nat):Int) else 0)<=60;have:=c.uL
 split
 .omega
 decide
structure DS (hs:List Str)(H5:Hp)(d:Addr)(kvs:List (aT×V)) (ks:List Str)(g:G):Prop where
 hd:H5 d=some (.dK kvs)
 keys:kvs.map (·.1)=ks.map Sum.inr
 nd:ks.Nodup
 sub:∀x∈ks,x∈hs
 val:∀z,bh kvs (Sum.inr z)=(g z).map V.int
def DS.len {hs:List Str}{H5:Hp}{d:Addr}{kvs:List (aT×V)}{ks:List Str}{g:G}(h:DS hs H5 d kvs ks g):kvs.length<=hs.length:=by
 have h1:=congrArg List.length h.keys;have h2:=g9 ks _ h.nd h.sub;rw [au,au] at h1;omega
def DS.same {hs:List Str}{H5 H6:Hp}{d:Addr}{kvs:List (aT×V)}{ks:List Str}{g:G}(h:DS hs H5 d kvs ks g)(s:aC H5 H6):DS hs H6 d kvs ks g:=⟨s _ _ h.hd,h.keys,h.nd,h.sub,h.val⟩
def DS.other {hs:List Str}{H5:Hp}{d e:Addr}{o:HO}{kvs:List (aT×V)}{ks:List Str}{g:G}(h:DS hs H5 d kvs ks g)(n:d≠e):DS hs (upd H5 e o) d kvs ks g:=⟨by rw [ak n];exact h.hd,h.keys,h.nd,h.sub,h.val⟩
def DS.get {hs:List Str}{H5:Hp}{d:Addr}{kvs:List (aT×V)}{ks:List Str}{g:G}(h:DS hs H5 d kvs ks g)(z:Str):b0 H5 d (.str z) ((g z).map V.int):=by
 have:=b0.k (k:=Sum.inr z) h.hd;rw [h.val] at this;exact this
def DS.put {hs:List Str}{H5:Hp}{d:Addr}{kvs:List (aT×V)}{ks:List Str}{g:G}(h:DS hs H5 d kvs ks g){x:Str}(hr:x∈hs) (n:Int) :
  DS hs (upd H5 d (.dK (bM kvs (Sum.inr x) (.int n)))) d (bM kvs (Sum.inr x) (.int n)) (gr ks x) (dW g x n):=by
 refine⟨ae,jy h.keys x,wV x h.nd,λy hy=>?_,λz=>?_⟩
 .rcases (lh ks x y).mp hy with z | z
  .exact h.sub y z
  rw [z];exact hr
 rw [q_];unfold dW;by_cases c:z=x
 .rw [ax c,ax (by rw [c])];rfl
 rw [az c,az (λe=>c (jJ e)),h.val]
def getD_map (o:Option Int) (n:Int):(o.map V.int).getD (.int n)=.int (o.getD n):=by cases o <;> rfl
def uQ {K:bp}{H:Hp}{p D d:Addr}{zs hs:List Str}{kvs:List (aT×V)}{ks:List Str}{g:G}{σ:St}{js:List (Nat×Str)}{Qp:Hp->Prop}(hσ:eh ["_law_part"] js σ=[none,aD d])(hp:a_ K H p (zs.map V.str))(hz:zs.length<=1000)
  (hg:DS hs H d kvs ks g)(hD:H D=none)(q:∀H2,aC H H2->H2 D=some (.lst ((zs.map λz=>(g z).getD 0).map V.int))->Qp H2) :
  ∃W:Nat->Nat->List V->St->Hp->Prop,(∃m,W 0 m [] (eh ["_law_part"] js σ) (upd H D (.lst []))) /\
 ∀i m ys σ' H,W i m ys σ' H->((ot K p).stop i H/\Qp H)\/((ot K p).go i H/\∃m',m' < m/\∀x H',(ot K p).lR i H x H'->dB 0 x σ' H' λσ2 H2=>gI σ2 H2 λb H3 =>
  if b=true then Ed (fS 1) (fS 0) (tC (.int 0)) σ2 H3 λy H4=>H4 D=some (.lst ys)/\ys.length < sizeLine/\W (i+1) m' (ys++[y]) σ2 (upd H4 D (.lst (ys++[y]))) else W (i+1) m' ys σ2 H3):=by
 refine gL (xs:=zs.map V.str) (λi ys σ2 H2=>ys=(((zs.take i).map λz=>(g z).getD 0).map V.int)/\(∃y0,σ2=[y0,aD d])/\aC H H2/\H2 D=some (.lst ys))
  ⟨rfl,⟨none,hσ⟩,af hD _,ae⟩ (λi ys σ2 H2 _ h=>h.2.2.1.tup hp) (λi x ys σ2 H2 ex h=>?_) (λys σ2 H2 h=>?_)
 .obtain⟨rfl,⟨y0,rfl⟩,sm,hd2⟩:=h;rw [a9] at ex;obtain⟨z,ez,rfl⟩:=b_.mp ex;have li:=(bf.mp ez).1;refine goN (uH ?_);refine⟨_,rfl,d,rfl,.inl ⟨_,.inl (sm _ _ hg.hd)⟩,_,rfl,_,(hg.same sm).get z,?_⟩;rw [getD_map];refine⟨hd2,bD (by rw [au,au,dr];omega),?_,⟨_,rfl⟩,?_,ae⟩
  .rw [cK,ez,bA,bA];rfl
  intro b o hb;rw [ak (λz=>by rw [z,hD] at hb;cases hb)];exact sm b o hb
 obtain⟨rfl,_,sm,hd2⟩:=h;rw [au,cv] at hd2;exact q H2 sm hd2
section
def LJ (aa:List aw)(l:G):Prop:=∀z n,l z=some n->UB aa z n
def Eh (K:bp):Sp:=λvs H Q _=>∃(R N:Addr)(rs:List Addr)(aa:List aw) (ns:List Str),vs=[.ref R,.ref N]/\aG K H R (rs.map V.ref)/\bQ K H rs aa/\Small aa/\H N=some (.lst (ns.map V.str))/\ns.length<=1000 /\
 ∀(b:Bool)(H':Hp),aC H H'->(b=true->(∀z∈hm aa,UB aa z 60)/\∀h∈hm aa,bG (passes (tZ ns aa) aa.length λ_=>none) h<=60)->Q (.bl b) H'
noncomputable abbrev NVs:List Str:=["_law_rules","_law_empty","_law_head","_law_parts","_law_heads","_law_greatest","_law_least","_law_again","_law_size"]
def jN:aK NVs ["_law_rules","_law_empty"] (ay EB):=iz rfl rfl rfl rfl nofun
structure Np (K:bp)(aa:List aw)(H H5:Hp)(D dg dl:Addr)(kg kl:List (aT×V)) (sg sl:List Str)(g l:G):Prop where
 sm:aC H H5
 eD:H5 D=some (.lst ((hm aa).map V.str))
 gs:DS (hm aa) H5 dg kg sg g
 ls:DS (hm aa) H5 dl kl sl l
 lj:LJ aa l
theorem Np.same {aa:List aw}{H H5 H6:Hp}{D dg dl:Addr}{kg kl:List (aT×V)}{sg sl:List Str}{g l:G}(h:Np K aa H H5 D dg dl kg kl sg sl g l)(s:aC H5 H6):Np K aa H H6 D dg dl kg kl sg sl g l :=
 ⟨h.sm.trans s,s _ _ h.eD,h.gs.same s,h.ls.same s,h.lj⟩
def IL (F:hV K "_law_not_vast" "_law_not_vast" EB f fd)(T:Txt mg):bV P w K mg base fK 1 f fd ["_law_rules","_law_empty"] (Eh K):=by
 refine F.ok jN (λvs H Q E h=>?_) (λeX A outer s H vs Q E hr h=>?_)
 .obtain⟨R,N,rs,aa,ns,rfl,_⟩:=h;rfl
 obtain⟨R,N,rs,aa,ns,rfl,hR,cy,jj,hN,F7,q⟩:=h;have hu:=fu hr;have Mr:=jj.most;refine⟨_,ag (aA (i:=4) jN.nd rfl (Or.inr rfl) (aV ["_law_head","_law_parts"] [] rfl (aR (pv 0)) (aP rfl rfl) nofun rfl nofun
   (λ_ _ _ _ _=>d_ (n:=2) K rfl (av (aq (i:=0) (show (["_law_head","_law_parts"]:List Str).Nodup by decide +kernel) rfl (aZ rfl)) (av (aq (i:=1) (show (["_law_head","_law_parts"]:List Str).Nodup by decide +kernel) rfl (aZ rfl)) bo))) (λ_ _ _ _ _=>a0)
   (λ_ _ _ _ _=>pv 0)))
  (ag (aA (i:=5) jN.nd rfl (Or.inr rfl) fk)
  (ag (aA (i:=6) jN.nd rfl (Or.inr rfl) fk)
  (ag (bE bX rfl (aR (pv 0)) (aq (i:=7) jN.nd rfl (aZ rfl))
   (ao (bE bX rfl (aR (pv 0)) (d_ (n:=2) K rfl (av (aq (i:=2) jN.nd rfl (aZ rfl)) (av (aq (i:=3) jN.nd rfl (aZ rfl)) bo)))
    (ag (gU (bz (dJ (aE (cX rfl) rfl T.all boot_all (ab (aV ["_law_part"] [(1,"_law_empty")] rfl (dQ (pv 3)) (aP rfl rfl) nofun rfl nofun
       (λ_ _ _ _ _=>aq (i:=0) (show (["_law_part","_law_empty"]:List Str).Nodup by decide +kernel) rfl (aZ rfl)) (λ_ _ _ _ _=>a0) (λ_ _ _ _ _=>dw (dF K) (pv 0) (pv 1) rfl)) ai)))
     (ag (aA (i:=8) jN.nd rfl (aZ rfl) (aH dG ar (aE (lK rfl) rfl T.sum vh (ab (aV ["_law_part"] [(5,"_law_greatest")] rfl (dQ (pv 3)) (aP rfl rfl) nofun rfl nofun
       (λ_ _ _ _ _=>aq (i:=0) (show (["_law_part","_law_greatest"]:List Str).Nodup by decide +kernel) rfl (aZ rfl)) (λ_ _ _ _ _=>a0) (λ_ _ _ _ _=>iP hu (pv 1) (pv 0) ar ⟨rfl,rfl,rfl,rfl⟩)) ai))))
     (ao (fV hu (pv 5) (pv 2) (aE (pD rfl) rfl T.max PyProof.Rows.boot_max (ab (iP hu (pv 5) (pv 2) ar ⟨rfl,rfl,rfl,rfl⟩) (ab (pv 8) ai))) rfl))) aI))
    (ao (bz (dJ (aE (cX rfl) rfl T.all boot_all (ab (aV ["_law_part"] [(6,"_law_least"),(4,"_law_heads")] rfl (dQ (pv 3)) (aP rfl rfl) nofun rfl nofun
       (λ_ _ _ _ _=>aq (i:=0) (show (["_law_part","_law_least","_law_heads"]:List Str).Nodup by decide +kernel) rfl (aZ rfl)) (λ_ _ _ _ _=>a0)
       (λ_ _ _ _ _=>J3 (mH (gW hu (pv 0) (pv 1))) (jS (dw (je K) (pv 0) (pv 2) rfl)))) ai)))
     (ag (aA (i:=8) jN.nd rfl (aZ rfl) (aH dG ar (aE (lK rfl) rfl T.sum vh (ab (aV ["_law_part"] [(6,"_law_least")] rfl (dQ (pv 3)) (aP rfl rfl) nofun rfl nofun
       (λ_ _ _ _ _=>aq (i:=0) (show (["_law_part","_law_least"]:List Str).Nodup by decide +kernel) rfl (aZ rfl)) (λ_ _ _ _ _=>a0) (λ_ _ _ _ _=>iP hu (pv 1) (pv 0) ar ⟨rfl,rfl,rfl,rfl⟩)) ai))))
     (ao (fV hu (pv 6) (pv 2) (aE (uR rfl) rfl T.min PyProof.Rows.boot_min (ab (iP hu (pv 6) (pv 2) (pv 8) ⟨rfl,rfl,rfl,rfl⟩) (ab (pv 8) ai))) rfl))) aI))))))
  (ao (aL (aE (cX rfl) rfl T.all boot_all (ab (aV ["_law_name"] [(5,"_law_greatest"),(6,"_law_least")] rfl (aR (pv 4)) (aP rfl rfl) nofun rfl nofun
    (λ_ _ _ _ _=>aq (i:=0) (show (["_law_name","_law_greatest","_law_least"]:List Str).Nodup by decide +kernel) rfl (aZ rfl)) (λ_ _ _ _ _=>a0)
    (λ_ _ _ _ _=>jT (dw Fg (iP hu (pv 1) (pv 0) ar ⟨rfl,rfl,rfl,rfl⟩) ar (bx _)) (jS (dw Fg (iP hu (pv 2) (pv 0) ar ⟨rfl,rfl,rfl,rfl⟩) ar (bx _))))) ai))))))),?_⟩
 have ll:=bc cy;have By:(hm aa).length=aa.length:=by unfold hm;rw [au]
 refine⟨_,rfl,R,rfl,⟨_,hR⟩,λD hD=>iT hR cy ∅ hD λH1 s1 eD=>?_⟩;refine goN ?_;refine λdg QB=>?_;have k2:=af QB (.dK []);have e2:upd H1 dg (.dK []) dg=some (.dK []):=ae;have fdg:H dg=none:=s1.free QB;have nDg:D≠dg:=λz=>by rw [<-z,eD] at QB;cases QB
 generalize upd H1 dg (.dK [])=H2 at k2 e2;have DJ:=k2 _ _ eD;refine λdl By=>?_;have k3:=af By (.dK []);have e3:upd H2 dl (.dK []) dl=some (.dK []):=ae;have Zv:H dl=none:=(s1.trans k2).free By;have nDl:D≠dl:=λz=>by rw [<-z,DJ] at By;cases By
 have YB:dg≠dl:=λz=>by rw [<-z,e2] at By;cases By
 generalize upd H2 dl (.dK [])=H3 at k3 e3;have S0:Np K aa H H3 D dg dl [] [] [] [] (λ_=>none) (λ_=>none):=⟨(s1.trans k2).trans k3,k3 _ _ DJ,⟨k3 _ _ e2,rfl,iZ,λ_ h=>(by cases h),λ_=>rfl⟩,⟨e3,rfl,iZ,λ_ h=>(by cases h),λ_=>rfl⟩,λ_ _ h=>(by cases h)⟩;clear k3 e3 k2 e2 DJ eD s1 hD QB By;refine⟨_,rfl,R,rfl,⟨_,S0.sm.seq hR⟩,?_⟩;refine cq (xs:=rs.map V.ref) (λi σ H5=>∃(kg kl:List (aT×V)) (sg sl:List Str)(g l:G)(y2 y3 y7 y8:Option V),σ=[aD R,aD N,y2,y3,aD D,aD dg,aD dl,y7,y8]/\Np K aa H H5 D dg dl kg kl sg sl g l/\g=passes (tZ ns aa) i λ_=>none)
  ⟨[],[],[],[],_,_,_,_,_,_,rfl,S0,rfl⟩ ?_ ?_ ?_
 .rintro i σ H5 _ ⟨kg,kl,sg,sl,g,l,y2,y3,y7,y8,rfl,S5,_⟩;exact S5.sm.seq hR
 .rintro i x σ H5 ex ⟨kg,kl,sg,sl,g,l,y2,y3,y7,y8,rfl,S5,Gv⟩;refine goN ?_;refine⟨_,rfl,R,rfl,⟨_,S5.sm.seq hR⟩,?_⟩;refine cq (xs:=rs.map V.ref) (λj σ H6=>∃(kg kl:List (aT×V)) (sg sl:List Str)(g6 l:G)(y2 y3 y8:Option V),σ=[aD R,aD N,y2,y3,aD D,aD dg,aD dl,some x,y8]/\Np K aa H H6 D dg dl kg kl sg sl g6 l/\g6=(aa.take j).foldl (ff ns) g)
   ⟨kg,kl,sg,sl,_,_,_,_,_,rfl,S5,rfl⟩ ?_ ?_ ?_
  .rintro j σ H6 _ ⟨kg,kl,sg,sl,g6,l,y2,y3,y8,rfl,S6,_⟩;exact S6.sm.seq hR
  .rintro j x2 σ H6 lS ⟨kg,kl,sg,sl,g6,l,y2,y3,y8,rfl,S6,HQ⟩;rw [a9] at lS;obtain⟨r,er,rfl⟩:=b_.mp lS;obtain⟨ru,e1,p,v1,v2⟩:=cy.get er;have gX:=b9 e1;have h6r:=jj.uL ru gX;have hh:ru.1∈hm aa:=iq gX;have tk:(aa.take (j+1)).foldl (ff ns) g=ff ns g6 ru:=by rw [cK,e1,u7,<-HQ];rfl
   refine⟨r,_,rfl,S6.sm.tup v1,rfl,_,_,rfl,_,_,rfl,rfl,?_⟩;refine⟨λσ H7=>∃(kg:List (aT×V)) (sg:List Str)(y8:Option V),σ=[aD R,aD N,some (.str ru.1),aD p,aD D,aD dg,aD dl,some x,y8]/\Np K aa H H7 D dg dl kg kl sg sl (ff ns g6 ru) l,?_,?_⟩
   .refine⟨_,rfl,p,rfl,⟨_,S6.sm.tup v2⟩,λD9 ow=>fh (zs:=ru.2) [aD N] (λz=>decide (z∈ns)) rfl (S6.sm.tup v2) ∅ ow (λz _ HA Qy sA hq=>?_) λH9 s9 e9=>?_⟩
    .refine⟨_,rfl,_,rfl,N,_,rfl,.inl (aG.of (sA _ _ (S6.sm _ _ hN))),rfl,bO _,?_⟩;rw [di];exact hq
    have S9:=S6.same s9;refine⟨D9,_,rfl,aG.of e9,_,rfl,?_⟩;rw [all_map];refine bJ (λca=>?_) (λca=>?_)
    .refine⟨_,rfl,p,rfl,⟨_,S9.sm.tup v2⟩,λDA Jq=>uQ rfl (S9.sm.tup v2) ∅ S9.gs Jq λHA sA eA=>?_⟩;have SA:=S9.same sA;refine⟨DA,_,rfl,aG.of eA,_,_,rfl,rfl,?_⟩;refine⟨_,rfl,dg,rfl,.inl ⟨_,.inl SA.gs.hd⟩,_,rfl,_,SA.gs.get ru.1,?_⟩;rw [getD_map];refine⟨_,rfl,_,_,rfl,?_⟩;have ln:=SA.gs.len;refine⟨_,rfl,_,rfl,dg,_,rfl,j6.k (k:=Sum.inr ru.1) SA.gs.hd (bD ∅),?_⟩;have ev:ff ns g6 ru=dW g6 ru.1 (if aM g6 ru > bG g6 ru.1 then aM g6 ru else bG g6 ru.1):=by unfold ff;rw [ax ca]
     have P1:=SA.gs.put hh (if aM g6 ru > bG g6 ru.1 then aM g6 ru else bG g6 ru.1);rw [<-ev] at P1;refine⟨_,_,_,rfl,⟨λb o hb=>?_,?_,P1,SA.ls.other (fO YB),SA.lj⟩⟩
     .rw [ak (λz=>by rw [z,fdg] at hb;cases hb)];exact SA.sm b o hb
     rw [ak nDg];exact SA.eD
    have ev:ff ns g6 ru=g6:=by unfold ff;rw [az ca]
    refine⟨kg,sg,_,rfl,?_⟩;rw [ev];exact S9
   rintro σ H7 ⟨kg,sg,y8,rfl,S7⟩;generalize hg7:ff ns g6 ru=g7 at *;refine⟨_,rfl,p,rfl,⟨_,S7.sm.tup v2⟩,λD9 ow=>fh (zs:=ru.2) [aD dl,aD D] (λz=>(l z).isSome || !decide (z∈hm aa)) rfl (S7.sm.tup v2) ∅ ow (λz _ HA Qy sA hq=>?_) λH9 s9 e9=>?_⟩
   .refine⟨_,rfl,_,rfl,dl,_,rfl,(S7.ls.same sA).get z,_,rfl,?_⟩;rw [pH];refine bJ (λc=>?_) (λc=>?_)
    .rw [c,Bool.true_or] at hq;exact hq
    have c':(l z).isSome=false:=by simpa using c
    rw [c',qK] at hq;refine⟨_,rfl,_,rfl,D,_,rfl,.inl (aG.of (sA _ _ S7.eD)),rfl,bO _,?_⟩;rw [di];exact hq
   have S9:=S7.same s9;refine⟨D9,_,rfl,aG.of e9,_,rfl,?_⟩;rw [all_map];refine bJ (λca=>?_) (λca=>?_)
   .refine⟨_,rfl,p,rfl,⟨_,S9.sm.tup v2⟩,λDA Jq=>uQ rfl (S9.sm.tup v2) ∅ S9.ls Jq λHA sA eA=>?_⟩;have SA:=S9.same sA;refine⟨DA,_,rfl,aG.of eA,_,_,rfl,rfl,?_⟩;refine⟨_,rfl,dl,rfl,.inl ⟨_,.inl SA.ls.hd⟩,_,rfl,_,rfl,_,SA.ls.get ru.1,?_⟩;rw [getD_map];refine⟨_,rfl,_,_,rfl,?_⟩;have ln:=SA.ls.len;refine⟨_,rfl,_,rfl,dl,_,rfl,j6.k (k:=Sum.inr ru.1) SA.ls.hd (bD ∅),?_⟩;have sz:UB aa ru.1 (aM l ru):=vA (h:=ru.1) (ps:=ru.2) gX (f:=λp=>(l p).getD 0) λp hp=>by
     have:=dN.mp ca p hp;cases el:l p with
     | some n=>exact S7.lj p n el
     | none =>
      rw [el] at this;have nn:p∉hm aa:=by simpa using this
      exact AQ (λz=>nn (xY.mpr z)) gX hp
    refine⟨kg,_,sg,_,_,_,_,_,_,rfl,⟨λb o hb=>?_,?_,SA.gs.other YB,SA.ls.put hh _,λz n e=>?_⟩,tk.symm⟩
    .rw [ak (λz=>by rw [z,Zv] at hb;cases hb)];exact SA.sm b o hb
    .rw [ak nDl];exact SA.eD
    unfold dW at e;by_cases c:z=ru.1
    .rw [ax c] at e;cases e;rw [c]
     split
     .exact sz
     cases el:l ru.1 with
     | none=>exact sz
     | some n=>exact S7.lj _ n el
    rw [az c] at e;exact SA.lj z n e
   exact⟨_,_,_,_,_,_,_,_,_,rfl,S9,tk.symm⟩
  rintro σ H6 ⟨kg,kl,sg,sl,g6,l,y2,y3,y8,rfl,S6,HQ⟩;refine⟨kg,kl,sg,sl,g6,l,_,_,_,_,rfl,S6,?_⟩;rw [HQ,au,ll,cv,Gv];rfl
 rintro σ H5 ⟨kg,kl,sg,sl,g,l,y2,y3,y7,y8,rfl,S5,Gv⟩;rw [au,ll] at Gv;refine⟨_,rfl,D,rfl,⟨_,aG.of S5.eD⟩,λD9 ow=>pV (zs:=hm aa) [aD dg,aD dl] (λz=>decide ((g z).getD 0<=60) && decide ((l z).getD 61<=60)) rfl (aG.of S5.eD) ∅ ow (λz _ HA Qy sA hq=>?_) λH9 s9 e9=>?_⟩
 .have SA:=S5.same sA;refine⟨_,rfl,dg,rfl,.inl ⟨_,.inl SA.gs.hd⟩,_,rfl,_,SA.gs.get z,?_⟩;rw [getD_map];refine⟨_,_,rfl,rfl,_,rfl,?_⟩;refine bJ (λc=>?_) (λc=>?_)
  .rw [c,iX] at hq;refine⟨_,rfl,dl,rfl,.inl ⟨_,.inl SA.ls.hd⟩,_,rfl,_,SA.ls.get z,?_⟩;rw [getD_map];exact⟨_,_,rfl,rfl,hq⟩
  have c':decide ((g z).getD 0<=60)=false:=by simpa using c
  rw [c',iY] at hq;exact hq
 refine⟨D9,_,rfl,aG.of e9,?_⟩;rw [all_map];refine q _ _ (S5.sm.trans s9) λhb=>⟨λz hz=>?_,λz hz=>?_⟩
 .have:=(jo.mp (dN.mp hb z hz)).2;have h6:=cw this;cases el:l z with
  | none=>rw [el] at h6;exact absurd h6 nofun
  | some n=>rw [el] at h6;exact(S5.lj z n el).le h6
 have:=(jo.mp (dN.mp hb z hz)).1;rw [<-Gv];exact cw this
end
def uP (zs:List Str) (j:Nat):fI (zs.map V.str) none (some (0+(j:Int)))=(zs.take j).map V.str:=by
 rw [iW];unfold fI;rw [HT.nR,HT.jP,mW,ml,au,kI]
 conv=>rhs;rw [qV,au]
def C9 (zs:List Str) (j:Nat):fI (zs.map V.str) (some (0+(j:Int)+1)) none=(zs.drop (j+1)).map V.str:=by
 rw [iW,show (j:Int)+1=((j+1:Nat):Int) by push_cast;rfl];unfold fI;rw [HT.nR,HT.jP,au,List.map_drop];by_cases h:j+1<=zs.length
 .rw [Nat.min_eq_left h,tW (by rw [mX,au];exact aU _)]
 rw [Nat.min_eq_right ∅,Nat.sub_self,List.take_zero,List.drop_eq_nil_of_le (by rw [au];omega)]
def yw.app {aa:List aw}{ms zs:List Str}{ru:aw}(h:yw aa ms)(hr:ru∈aa)(h1:ru.1∈ms)(h2:∀z∈zs,z∈ru.2):yw aa (ms++zs):=by
 intro i x hx;by_cases l:i < ms.length
 .rw [pI l] at hx;rcases h i x hx with a | ⟨r,a,b,c⟩
  .exact .inl a
  exact .inr ⟨r,a,by rw [qI ∅];exact b,c⟩
 rw [nj ∅] at hx;refine .inr ⟨ru,hr,?_,h2 x (b9 hx)⟩;rw [List.take_append,tW ∅];exact j8 _ h1
def XF (aa:List aw)(ri:List aw)(bU:List (Str×Str)):Prop:=∀ru∈ri,∀(j:Nat)(z:Str),Hf aa ru j z->(ru.1,z)∈bU
structure Ou (aa:List aw)(bU:List (Str×Str)) (cs:List Str):Prop where
 cn:cs.Nodup
 ch:∀x∈cs,x∈hm aa
 co:∀(i:Nat)(h:Str),cs[i]?=some h->∀z,(h,z)∈bU->z∈cs.take i
def Ou.add {aa:List aw}{bU:List (Str×Str)}{cs:List Str}{nm:Str}(h:Ou aa bU cs)(n:nm∉cs)(hh:nm∈hm aa)(a:∀z,(nm,z)∈bU->z∈cs):Ou aa bU (cs++[nm]):=by
 refine⟨jm.mpr ⟨h.cn,by simp,λx hx y hy z=>n (by rw [<-bH.mp hy,<-z];exact hx)⟩,λx hx=>?_,λi x hx z hz=>?_⟩
 .rcases cg.mp hx with q | q
  .exact h.ch x q
  rw [bH.mp q];exact hh
 by_cases l:i < cs.length
 .rw [pI l] at hx;rw [qI ∅];exact h.co i x hx z hz
 have li:=(bf.mp hx).1;rw [bW,gP] at li;have:i=cs.length:=by omega
 subst this;rw [nj (aU _),Nat.sub_self] at hx;cases hx;rw [qI (aU _),cv];exact a z hz
section
def Er (K:bp):Sp:=λvs H Q _=>∃(R:Addr)(rs:List Addr)(aa:List aw),vs=[.ref R]/\aG K H R (rs.map V.ref)/\bQ K H rs aa/\Small aa /\
 ∀(b:Bool)(H':Hp),aC H H'->(b=true->∃ms cs,B3 aa ms cs)->Q (.bl b) H'
noncomputable abbrev NG:List Str:=["_law_rules","_law_head","_law_parts","_law_heads","_law_ended_here","_law_met","_law_again","_law_empty","_law_alone","_law_k","_law_others","_law_settled","_law_name","_law_good_here"]
def fA:aK NG ["_law_rules"] (ay EJ):=iz rfl rfl rfl rfl nofun
def IV (F:hV K "_law_good" "_law_good" EJ f fd)(T:Txt mg)(GE:aF P w K mg base 1 "_law_ended" ["_law_rules","_law_words_here"] (Ba K))(GV:aF P w K mg base 1 "_law_not_vast" ["_law_rules","_law_empty"] (Eh K)):bV P w K mg base fK 2 f fd ["_law_rules"] (Er K):=by
 refine F.ok fA (λvs H Q E h=>?_) (λeX A outer s H vs Q E hr h=>?_)
 .obtain⟨R,rs,aa,rfl,_⟩:=h;rfl
 obtain⟨R,rs,aa,rfl,hR,cy,jj,q⟩:=h;have Vb:=jj.one;have Mr:=jj.most;refine⟨_,ag (aA (i:=3) fA.nd rfl (Or.inr rfl) (aV ["_law_head","_law_parts"] [] rfl (aR (pv 0)) (aP rfl rfl) nofun rfl nofun
   (λ_ _ _ _ _=>d_ (n:=2) K rfl (av (aq (i:=0) (show (["_law_head","_law_parts"]:List Str).Nodup by decide +kernel) rfl (aZ rfl)) (av (aq (i:=1) (show (["_law_head","_law_parts"]:List Str).Nodup by decide +kernel) rfl (aZ rfl)) bo))) (λ_ _ _ _ _=>a0)
   (λ_ _ _ _ _=>pv 0)))
  (ag (aA (i:=4) fA.nd rfl (Or.inr rfl) (bq GE hr rfl (ab (pv 0) (ab cI ai))))
  (ag (aA (i:=5) fA.nd rfl (Or.inr rfl) (bY gy (pv 3) cO (cN ar)))
  (ag (bE bX rfl (aR (pv 0)) (aq (i:=6) fA.nd rfl (aZ rfl))
   (ao (bE bX rfl (aR (pv 0)) (d_ (n:=2) K rfl (av (aq (i:=1) fA.nd rfl (aZ rfl)) (av (aq (i:=2) fA.nd rfl (aZ rfl)) bo)))
    (ao (bz (aQ iH (pv 1) (pv 5) rfl)
     (ao (aA (i:=5) fA.nd rfl (Or.inr rfl) (aH gh (pv 5)
      (aV ["_law_part"] [(3,"_law_heads"),(5,"_law_met")] rfl (dQ (pv 2)) (aP rfl rfl) nofun rfl nofun
       (λ_ _ _ _ _=>aq (i:=0) (show (["_law_part","_law_heads","_law_met"]:List Str).Nodup by decide +kernel) rfl (aZ rfl))
       (λ_ _ _ _ _=>gC (PW.pt (ig (aQ (dF K) (pv 0) (pv 1) rfl) (gA (aQ (je K) (pv 0) (pv 2) rfl)))))
       (λ_ _ _ _ _=>pv 0))))) aI)))))
  (ag (aA (i:=7) fA.nd rfl (Or.inr rfl) (bq GE hr rfl (ab (pv 0) (ab cI ai))))
  (ag (aA (i:=8) fA.nd rfl (aZ rfl) (bL ai))
  (ag (bE bX rfl (aR (pv 0)) (d_ (n:=2) K rfl (av (aq (i:=1) fA.nd rfl (aZ rfl)) (av (aq (i:=2) fA.nd rfl (aZ rfl)) bo)))
   (ao (bE bX rfl (fY rfl T.Bk (ab (aE aS rfl T.len dZ (ab (pv 2) ai)) ai)) (aq (i:=9) fA.nd rfl (aZ rfl))
    (ag (aA (i:=10) fA.nd rfl (aZ rfl) (aH jU (bY gw (pv 2) cO (cN (pv 9))) (bY gw (pv 2) (cN (aH dG (pv 9) ar)) cO)))
    (ao (bz (PW.pt (ig (aQ iH (a7 bI (pv 2) (pv 9) (λ_ _=>rfl)) (pv 3) rfl) (gA (dJ (aE (cX rfl) rfl T.all boot_all (ab
      (aV ["_law_part"] [(7,"_law_empty")] rfl (dQ (pv 10)) (aP rfl rfl) nofun rfl nofun
       (λ_ _ _ _ _=>aq (i:=0) (show (["_law_part","_law_empty"]:List Str).Nodup by decide +kernel) rfl (aZ rfl)) (λ_ _ _ _ _=>a0)
       (λ_ _ _ _ _=>dw (dF K) (pv 0) (pv 1) rfl)) ai))))))
     (ao (du (ix ir iu iw cA (pv 8) (ab (bC (ab (pv 1) (ab (a7 bI (pv 2) (pv 9) (λ_ _=>rfl)) ai))) ai)))) aI))))))
  (ag (aA (i:=11) fA.nd rfl (Or.inr rfl) (bL ai))
  (ag (bE bX rfl (aR (pv 0)) (aq (i:=6) fA.nd rfl (aZ rfl))
   (ao (bE bX rfl (aR (pv 3)) (aq (i:=12) fA.nd rfl (Or.inr rfl))
    (ao (bz (PW.pt (ig (dJ (aE (cX rfl) rfl T.all boot_all (ab
      (aV ["_law_head","_law_other"] [(11,"_law_settled"),(12,"_law_name")] rfl (aR (pv 8)) (aP rfl rfl) nofun rfl nofun
       (λ_ _ _ _ _=>d_ (n:=2) K rfl (av (aq (i:=0) (show (["_law_head","_law_other","_law_settled","_law_name"]:List Str).Nodup by decide +kernel) rfl (aZ rfl)) (av (aq (i:=1) (show (["_law_head","_law_other","_law_settled","_law_name"]:List Str).Nodup by decide +kernel) rfl (aZ rfl)) bo)))
       (λ_ _ _ _ _=>gC (aQ gJ (pv 0) (pv 3) (bx _)))
       (λ_ _ _ _ _=>dw (dF K) (pv 1) (pv 2) rfl)) ai))) (gA (aQ iB (pv 12) (pv 11) rfl))))
     (ao (du (ix ir iu iw cA (pv 11) (ab (pv 12) ai)))) aI)))))
  (ag (aA (i:=13) fA.nd rfl (aZ rfl) (aE (cX rfl) rfl T.all boot_all (ab
   (aV ["_law_name"] [(4,"_law_ended_here"),(5,"_law_met"),(11,"_law_settled")] rfl (aR (pv 3)) (aP rfl rfl) nofun rfl nofun
    (λ_ _ _ _ _=>aq (i:=0) (show (["_law_name","_law_ended_here","_law_met","_law_settled"]:List Str).Nodup by decide +kernel) rfl (aZ rfl)) (λ_ _ _ _ _=>a0)
    (λ_ _ _ _ _=>jT (dw (dF K) (pv 0) (pv 1) rfl) (jT (dw (dF K) (pv 0) (pv 2) rfl) (jS (dw (dF K) (pv 0) (pv 3) rfl))))) ai)))
  (ao (aL (jT (pv 13) (jS (bq GV hr rfl (ab (pv 0) (ab (pv 7) ai)))))))))))))))),?_⟩
 nofun
 have ll:=bc cy;refine⟨_,rfl,R,rfl,⟨_,hR⟩,λD hD=>iT hR cy ∅ hD λH1 s1 eD=>?_⟩;refine goN ?_
 ac_rfl
 refine⟨_,rfl,R,rs,aa,true,rfl,s1.seq hR,cy.same s1,jj,λEn H2 fE s2 eE lE=>?_⟩;refine goN ?_
 ac_rfl
 have We:fI ((hm aa).map V.str) none (some 1)=((hm aa).take 1).map V.str:=uP (hm aa) 1;have By:(hm aa).length=aa.length:=by unfold hm;rw [au]
 refine⟨_,rfl,_,rfl,D,_,rfl,aG.of (s2 _ _ eD),λM0 hM0=>?_⟩;rw [We];have lm0:((hm aa).take 1).length<=1:=by rw [dr];omega
 have YJ:yw aa ((hm aa).take 1):=λi h e=>by
  have li:=(bf.mp e).1;have:i=0:=by omega
  subst this;rw [tX ∅] at e;rw [a9] at e;obtain⟨r0,e0,rfl⟩:=b_.mp e;exact .inl ⟨r0,e0,rfl⟩
 generalize (hm aa).take 1=m0 at lm0 YJ;have k3:=af hM0 (.lst (m0.map V.str));have s3:=(s1.trans s2).trans k3;have BI:=k3 _ _ (s2 _ _ eD);have Wz:=k3 _ _ eE;have Z7:upd H2 M0 (.lst (m0.map V.str)) M0=some (.lst (m0.map V.str)):=ae;generalize upd H2 M0 (.lst (m0.map V.str))=H3 at k3 s3 BI Wz Z7;refine goN ?_
 ac_rfl
 let oo:lW:=λi σ H4=>∃(M:Addr) (ms:List Str)(y1 y2 y6:Option V),σ=[aD R,y1,y2,aD D,aD En,aD M,y6,none,none,none,none,none,none,none]/\aC H3 H4/\H4 M=some (.lst (ms.map V.str))/\ms.length<=8+200 * i/\yw aa ms
 refine⟨_,rfl,R,rfl,⟨_,s3.seq hR⟩,cq (xs:=rs.map V.ref) oo ⟨M0,m0,_,_,_,rfl,λ_ _ h=>h,Z7,∅,YJ⟩ ?_ ?_ ?_⟩
 .rintro i σ H4 _ ⟨M,ms,y1,y2,y6,rfl,s4,_⟩;exact s4.seq (s3.seq hR)
 .intro i x σ H4 ex iV
  ac_nf0
  obtain⟨M,ms,y1,y2,y6,rfl,s4,eM,lM,mO⟩:=iV;have li:=(bf.mp ex).1;rw [au] at li;refine goN ?_
  ac_nf
  let wZ:lW:=λj σ H5=>∃(M:Addr) (ms:List Str)(y1 y2:Option V),σ=[aD R,y1,y2,aD D,aD En,aD M,some x,none,none,none,none,none,none,none]/\aC H3 H5/\H5 M=some (.lst (ms.map V.str))/\ms.length<=8+200 * i+6 * j/\yw aa ms
  refine⟨_,rfl,R,rfl,⟨_,s4.seq (s3.seq hR)⟩,cq (xs:=rs.map V.ref) wZ ⟨M,ms,_,_,rfl,s4,eM,∅,mO⟩ ?_ ?_ ?_⟩
  .rintro j σ H5 _ ⟨M,ms,y1,y2,rfl,s5,_⟩;exact s5.seq (s3.seq hR)
  .intro j x2 σ H5 lS iV
   ac_nf0
   obtain⟨M,ms,y1,y2,rfl,s5,eM,lM,mO⟩:=iV;have lj:=(bf.mp lS).1;rw [au] at lj;rw [a9] at lS;obtain⟨r,er,rfl⟩:=b_.mp lS;obtain⟨ru,e1,p,v1,v2⟩:=cy.get er;have gX:=jj.uL ru (b9 e1);have Bh:=s3.trans s5;refine⟨r,_,rfl,Bh.tup v1,rfl,_,_,rfl,_,_,rfl,rfl,?_⟩;refine⟨_,rfl,_,rfl,M,_,rfl,.inl (aG.of eM),rfl,bO _,_,rfl,?_⟩;refine bJ (λc=>?_) (λc=>?_)
   .refine⟨_,rfl,_,rfl,p,rfl,⟨_,Bh.tup v2⟩,λD2 jD=>gL (xs:=ru.2.map V.str) (λk ys σ2 H6=>∃zs:List Str,ys=zs.map V.str/\zs.length<=k/\(∃y0,σ2=[y0,aD D,aD M])/\aC H5 H6/\H6 D2=some (.lst ys)/\∀z∈zs,z∈ru.2)
     ⟨[],rfl,aU _,⟨none,rfl⟩,af jD _,ae,λ_ h=>(by cases h)⟩ (λk ys σ2 H6 _ h=>?_) (λk v ys σ2 H6 ex h=>?_) (λys σ2 H6 h=>?_)⟩
    .obtain⟨_,_,_,_,s6,_⟩:=h;exact s6.tup (Bh.tup v2)
    .obtain⟨zs,rfl,lz,⟨y0,rfl⟩,s6,DJ,zm⟩:=h;have lk:=(bf.mp ex).1;rw [au] at lk;rw [a9] at ex;obtain⟨z,ez,rfl⟩:=b_.mp ex;refine goN ?_;refine⟨_,rfl,_,rfl,D,_,rfl,.inl (aG.of (s6 _ _ (s5 _ _ BI))),rfl,bO _,_,rfl,?_⟩;refine bJ (λc1=>?_) (λc1=>?_)
     .refine⟨_,rfl,_,rfl,M,_,rfl,.inl (aG.of (s6 _ _ eM)),rfl,bO _,_,rfl,?_⟩;refine bJ (λc2=>?_) (λc2=>?_)
      .refine⟨_,rfl,DJ,bD (by rw [au];omega),zs++[z],by rw [bA];rfl,by rw [bW];simp;omega,⟨_,rfl⟩,λb o hb=>?_,ae,λy hy=>(cg.mp hy).elim (zm y) λq=>(bH.mp q) ▸ b9 ez⟩;rw [ak (λz=>by rw [z,jD] at hb;cases hb)];exact s6 b o hb
      exact⟨zs,rfl,∅,⟨_,rfl⟩,s6,DJ,zm⟩
     refine dM ?_;exact⟨zs,rfl,∅,⟨_,rfl⟩,s6,DJ,zm⟩
    obtain⟨zs,rfl,lz,_,s6,DJ,zm⟩:=h;have cm:ru.1∈ms:=cw ((di _ _).symm.trans c);rw [au] at lz;refine⟨M,D2,_,_,rfl,rfl,s6 _ _ eM,DJ,fits (by rw [au,au];omega),λM2 hM2=>?_⟩;rw [<-bA];refine⟨M2,ms++zs,_,_,rfl,(s5.trans s6).trans (af hM2 _),ae,by rw [bW];omega,mO.app (b9 e1) cm zm⟩
   exact⟨M,ms,_,_,rfl,s5,eM,∅,mO⟩
  rintro σ H5 ⟨M,ms,y1,y2,rfl,s5,eM,lM,mO⟩;rw [au,ll] at lM;exact⟨M,ms,_,_,_,rfl,s5,eM,∅,mO⟩
 rintro σ H4 ⟨M,ms,y1,y2,y6,rfl,s4,eM,lM,mO⟩;have xy:=s3.trans s4;refine⟨_,rfl,R,rs,aa,false,rfl,xy.seq hR,cy.same xy,jj,λEm H5 fEm s5 Z9 lEm=>?_⟩;refine goN ?_
 ac_rfl
 refine⟨yB,λAl V1=>?_⟩;have k6:=af V1 (.lst []);have s6:=(xy.trans s5).trans k6;have DI:=k6 _ _ (s5 _ _ (s4 _ _ BI));have Z_:=k6 _ _ (s5 _ _ (s4 _ _ Wz));have Oa:=k6 _ _ (s5 _ _ eM);have Q5:=k6 _ _ Z9;have eA6:upd H5 Al (.lst []) Al=some (.lst []):=ae;have nA:∀b o,H5 b=some o->b≠Al:=λb o h z=>by rw [z,V1] at h;cases h
 have nAD:=nA _ _ (s5 _ _ (s4 _ _ BI));have nAE:=nA _ _ (s5 _ _ (s4 _ _ Wz));have nAM:=nA _ _ (s5 _ _ eM);have nAm:=nA _ _ Z9;have fAl:H Al=none:=(xy.trans s5).free V1;generalize upd H5 Al (.lst [])=H6 at k6 s6 DI Z_ Oa Q5 eA6;refine goN ?_
 ac_rfl
 let Kp:Hp->Prop:=λH7=>aC H H7/\H7 D=some (.lst ((hm aa).map V.str))/\H7 En=some (.lst ((d6 true aa).map V.str))/\H7 M=some (.lst (ms.map V.str))/\H7 Em=some (.lst ((d6 false aa).map V.str))
 have jY:∀{H7 H8:Hp},Kp H7->aC H7 H8->Kp H8:=λh s=>⟨h.1.trans s,s _ _ h.2.1,s _ _ h.2.2.1,s _ _ h.2.2.2.1,s _ _ h.2.2.2.2⟩;have PV:∀{H7:Hp}{xs:List V},Kp H7->Kp (upd H7 Al (.lst xs)):=λh=>⟨λb o hb=>by rw [ak (λz=>by rw [z,fAl] at hb;cases hb)];exact h.1 b o hb,by rw [ak nAD];exact h.2.1,by rw [ak nAE];exact h.2.2.1,by rw [ak nAM];exact h.2.2.2.1,by rw [ak nAm];exact h.2.2.2.2⟩
 let KW:Hp->List Addr->List (Str×Str)->Prop:=λH7 as bU=>Paired (λa (pr:Str×Str)=>a_ K H7 a [.str pr.1,.str pr.2]) as bU
 let Nv:lW:=λi σ H7=>∃(as:List Addr)(bU:List (Str×Str))(y1 y2 y6 y9 i4:Option V),σ=[aD R,y1,y2,aD D,aD En,aD M,y6,aD Em,aD Al,y9,i4,none,none,none]/\Kp H7/\H7 Al=some (.lst (as.map V.ref))/\KW H7 as bU/\as.length<=6 * i/\XF aa (aa.take i) bU
 refine⟨_,rfl,R,rfl,⟨_,s6.seq hR⟩,cq (xs:=rs.map V.ref) Nv ⟨[],[],_,_,_,_,_,rfl,⟨s6,DI,Z_,Oa,Q5⟩,eA6,.nil,by simp,λru h=>(by simp at h)⟩ ?_ ?_ ?_⟩
 .rintro i σ H7 _ ⟨as,bU,y1,y2,y6,y9,i4,rfl,kp,_⟩;exact kp.1.seq hR
 .intro i x2 σ H7 lS iV
  ac_nf0
  obtain⟨as,bU,y1,y2,y6,y9,i4,rfl,kp,eA,pA,lA,aO⟩:=iV;have lj:=(bf.mp lS).1;rw [au] at lj;rw [a9] at lS;obtain⟨r,er,rfl⟩:=b_.mp lS;obtain⟨ru,e1,p,v1,v2⟩:=cy.get er;have gX:=jj.uL ru (b9 e1);refine⟨r,_,rfl,kp.1.tup v1,rfl,_,_,rfl,_,_,rfl,rfl,?_⟩;refine⟨_,rfl,p,_,rfl,.inr (kp.1.tup v2),_,rfl,by rw [au];omega,by rw [au];omega,?_⟩;rw [au,iJ]
  let Xy:lW:=λj σ H8=>∃(as:List Addr)(bU:List (Str×Str))(y9 i4:Option V),σ=[aD R,some (.str ru.1),aD p,aD D,aD En,aD M,y6,aD Em,aD Al,y9,i4,none,none,none]/\Kp H8/\H8 Al=some (.lst (as.map V.ref))/\KW H8 as bU/\as.length<=6 * i+j/\XF aa (aa.take i) bU/\∀(j2:Nat)(z2:Str),j2 < j->Hf aa ru j2 z2->(ru.1,z2)∈bU
  refine fZ (n:=ru.2.length) Xy ⟨as,bU,_,_,rfl,kp,eA,pA,∅,aO,λj2 _ h=>by omega⟩ ?_ ?_
  .intro j σ H8 hj iV
   ac_nf0
   obtain⟨as,bU,y9,i4,rfl,kp,eA,pA,lA,aO,aJ⟩:=iV;obtain⟨z,ez⟩:∃z,ru.2[j]?=some z:=⟨ru.2[j]'∅,dI ∅⟩;have atj:lV (ru.2.map V.str) (0+(j:Int))=some (.str z):=by
    rw [iW];exact bT (by rw [a9,ez];rfl)
   have eq1:=uP ru.2 j;have eq2:=C9 ru.2 j;have lq1:(ru.2.take j).length<=ru.2.length:=by rw [dr];omega
   have lq2:(ru.2.drop (j+1)).length<=ru.2.length:=by rw [mX];omega
   have LO:∀y,y∈ru.2.take j++ru.2.drop (j+1)->∃k,k≠j/\ru.2[k]?=some y:=λy hy=>by
    rcases cg.mp hy with h | h
    .obtain⟨k,lk,ek⟩:=nu h;exact⟨k,∅,ek⟩
    obtain⟨k,ek⟩:=fj h;rw [List.getElem?_drop] at ek;exact⟨j+1+k,∅,ek⟩
   generalize ru.2.take j=q1 at eq1 lq1 LO;generalize ru.2.drop (j+1)=q2 at eq2 lq2 LO;refine goN ?_
   ac_rfl
   refine⟨_,rfl,_,rfl,_,rfl,p,_,rfl,kp.1.tup v2,λt1 H9 s9 e9=>?_⟩;rw [eq1] at e9;refine⟨_,rfl,_,rfl,_,_,rfl,rfl,_,rfl,p,_,rfl,s9.tup (kp.1.tup v2),λt2 HA sA SO=>?_⟩;rw [eq2] at SO;refine⟨t1,t2,_,_,rfl,rfl,sA.tup e9,SO,fits (by rw [au,au];omega),λt3 HB sB eB=>?_⟩;rw [<-bA] at eB;refine goN ?_
   ac_rfl
   have T5:=s9.trans (sA.trans sB);have Ki:=jY kp T5;have WG:=T5 _ _ eA;have Yt:KW HB as bU:=Paired.dH pA λa pr z=>T5.tup z;have xN:∀{HC:Hp},aC HB HC->¬Hf aa ru j z->∃(as:List Addr)(bU:List (Str×Str))(y9' Tp:Option V),[aD R,some (.str ru.1),aD p,aD D,aD En,aD M,y6,aD Em,aD Al,some (.int (0+(j:Int))),aD t3,none,none,none]=[aD R,some (.str ru.1),aD p,aD D,aD En,aD M,y6,aD Em,aD Al,y9',Tp,none,none,none]/\Kp HC/\HC Al=some (.lst (as.map V.ref))/\KW HC as bU/\as.length<=6 * i+(j+1)/\XF aa (aa.take i) bU/\∀(j2:Nat)(z2:Str),j2 < j+1->Hf aa ru j2 z2->(ru.1,z2)∈bU:=λ{HC} sC nl=>⟨as,bU,_,_,rfl,jY Ki sC,sC _ _ WG,Paired.dH Yt λa pr z=>sC.tup z,∅,aO,λj2 z2 h lo=>by
    by_cases c:j2 < j
    .exact aJ j2 z2 c lo
    have:j2=j:=by omega
    subst this;have e2:=lo.1;rw [ez] at e2;cases e2;exact absurd lo nl⟩
   refine⟨_,rfl,_,rfl,p,_,_,_,rfl,rfl,Ki.1.tup v2,atj,_,rfl,D,_,rfl,.inl (aG.of Ki.2.1),rfl,bO _,_,rfl,?_⟩;refine bJ (λc1=>?_) (λc1=>?_)
   .refine⟨_,rfl,t3,rfl,⟨_,eB⟩,λD2 jD=>fh (zs:=q1++q2) [aD Em] (λz=>decide (z∈d6 false aa)) rfl eB (by rw [bW];omega) jD (λz _ H5 Qy s5 hq=>?_) λHC sC eC=>?_⟩
    .refine⟨_,rfl,_,rfl,Em,_,rfl,.inl (aG.of (s5 _ _ Ki.2.2.2.2)),rfl,bO _,?_⟩;rw [di];exact hq
    refine⟨D2,_,rfl,aG.of eC,_,rfl,?_⟩;refine bJ (λc2=>?_) (λc2=>?_)
    .have Hv:=jY Ki sC;refine⟨_,rfl,.inl ⟨rfl,_,aG.of (sC _ _ WG)⟩,_,rfl,_,rfl,_,rfl,p,_,_,_,rfl,rfl,Hv.1.tup v2,atj,qW,λt ht=>?_⟩;have kD:=af ht (.tup [.str ru.1,.str z]);have sD:=sC.trans kD;have vD:a_ K (upd HC t (.tup [.str ru.1,.str z])) t [.str ru.1,.str z]:=a_.of ae;generalize upd HC t (.tup [.str ru.1,.str z])=HD at kD sD vD;have WE:=sD _ _ WG;refine⟨Al,_,_,rfl,rfl,WE,bD (by rw [au];omega),?_⟩;exact⟨as++[t],bU++[(ru.1,z)],_,_,rfl,PV (jY Ki sD),by rw [ae,bA];rfl,gF (Paired.dH Yt λa pr z=>bj WE (sD.tup z)) (bj WE vD),by rw [bW];simp;omega,λr Si j2 z2 lo=>j8 _ (aO r Si j2 z2 lo),λj2 z2 h lo=>by
      by_cases c:j2 < j
      .exact j8 _ (aJ j2 z2 c lo)
      have:j2=j:=by omega
      subst this;have e2:=lo.1;rw [ez] at e2;cases e2;exact gH _ cS⟩
    refine xN sC λlo=>c2 ?_;rw [all_map];refine dN.mpr λy hy=>cf ?_;obtain⟨k,nk,ek⟩:=LO y hy;exact lo.2.2 k y nk ek
   refine dM ?_;exact xN (λ_ _ h=>h) λlo=>c1 ((di _ _).trans (cf lo.2.1))
  rintro σ H8 ⟨as,bU,y9,i4,rfl,kp,eA,pA,lA,aO,aJ⟩;refine⟨as,bU,_,_,_,_,_,rfl,kp,eA,pA,∅,λr Si j2 z2 lo=>?_⟩;rw [cK,e1] at Si;rcases cg.mp Si with h | h
  .exact aO r h j2 z2 lo
  have:r=ru:=bH.mp h;subst this;exact aJ j2 z2 (bf.mp lo.1).1 lo
 rintro σ H7 ⟨as,bU,y1,y2,y6,y9,i4,rfl,kp,eA,pA,lA,aO⟩;rw [au,ll] at lA aO;rw [cv] at aO;refine⟨yB,λCm V0=>?_⟩;have k8:=af V0 (.lst []);have UZ:=jY kp k8;have eA8:=k8 _ _ eA;have Yv:KW (upd H7 Cm (.lst [])) as bU:=Paired.dH pA λa pr z=>k8.tup z;have eC8:upd H7 Cm (.lst []) Cm=some (.lst []):=ae;have nC:∀b o,H7 b=some o->b≠Cm:=λb o h z=>by rw [z,V0] at h;cases h
 have nCA:=nC _ _ eA;have nCD:=nC _ _ kp.2.1;have nCE:=nC _ _ kp.2.2.1;have nCM:=nC _ _ kp.2.2.2.1;have nCm:=nC _ _ kp.2.2.2.2;have fCm:H Cm=none:=kp.1.free V0;have PU:∀{H7:Hp}{xs:List V},Kp H7->Kp (upd H7 Cm (.lst xs)):=λh=>⟨λb o hb=>by rw [ak (λz=>by rw [z,fCm] at hb;cases hb)];exact h.1 b o hb,by rw [ak nCD];exact h.2.1,by rw [ak nCE];exact h.2.2.1,by rw [ak nCM];exact h.2.2.2.1,by rw [ak nCm];exact h.2.2.2.2⟩;generalize upd H7 Cm (.lst [])=H8 at k8 UZ eA8 Yv eC8;refine goN ?_
 ac_rfl
 have lap:=bc pA
 let Iz5:lW:=λi σ H9=>∃(cs:List Str)(y1 y2 y6 y9 i4 Ia Hj:Option V),σ=[aD R,y1,y2,aD D,aD En,aD M,y6,aD Em,aD Al,y9,i4,aD Cm,Ia,Hj]/\Kp H9/\H9 Al=some (.lst (as.map V.ref))/\KW H9 as bU/\H9 Cm=some (.lst (cs.map V.str))/\cs.length<=32 * i/\Ou aa bU cs
 refine⟨_,rfl,R,rfl,⟨_,UZ.1.seq hR⟩,cq (xs:=rs.map V.ref) Iz5 ⟨[],_,_,_,_,_,_,_,rfl,UZ,eA8,Yv,eC8,by simp,⟨by simp,λ_ h=>(by cases h),λi h e=>(by cases e)⟩⟩ ?_ ?_ ?_⟩
 .rintro i σ H9 _ ⟨cs,y1,y2,y6,y9,i4,Ia,Hj,rfl,Hw,_⟩;exact Hw.1.seq hR
 .intro i x σ H9 ex iV
  ac_nf0
  obtain⟨cs,y1,y2,y6,y9,i4,Ia,Hj,rfl,Hw,eA9,Yu,WD,lC9,Nh⟩:=iV;have li:=(bf.mp ex).1;rw [au] at li;refine goN ?_
  ac_nf
  let Iz6:lW:=λj σ HA=>∃(cs:List Str)(Ia Hj:Option V),σ=[aD R,y1,y2,aD D,aD En,aD M,some x,aD Em,aD Al,y9,i4,aD Cm,Ia,Hj]/\Kp HA/\HA Al=some (.lst (as.map V.ref))/\KW HA as bU/\HA Cm=some (.lst (cs.map V.str))/\cs.length<=32 * i+j/\Ou aa bU cs
  refine⟨_,rfl,D,rfl,⟨_,aG.of Hw.2.1⟩,cq (xs:=(hm aa).map V.str) Iz6 ⟨cs,_,_,rfl,Hw,eA9,Yu,WD,∅,Nh⟩ ?_ ?_ ?_⟩
  .rintro j σ HA _ ⟨cs,Ia,Hj,rfl,PX,_⟩;exact aG.of PX.2.1
  .intro j x2 σ HA lS iV
   ac_nf0
   obtain⟨cs,Ia,Hj,rfl,PX,Of,Pg,Oe,YQ,SS⟩:=iV;have lj:=(bf.mp lS).1;rw [au] at lj;rw [a9] at lS;obtain⟨nm,enm,rfl⟩:=b_.mp lS;refine goN ?_;refine⟨_,rfl,Al,rfl,⟨_,aG.of Of⟩,λD2 jD=>bS (xs:=as.map V.ref) (λk ys σ2 HB=>∃bs:List Bool,ys=bs.map V.bl/\bs.length<=k/\(∃y0 y1,σ2=[y0,y1,aD Cm,some (.str nm)])/\aC HA HB/\HB D2=some (.lst ys)/\(bs.all id=true->∀pr∈bU.take k,pr.1=nm->pr.2∈cs))
    ⟨[],rfl,aU _,⟨none,none,rfl⟩,af jD _,ae,λ_ _ h=>(by simp at h)⟩ (λk ys σ2 HB _ h=>?_) (λk v ys σ2 HB ex h=>?_) (λys σ2 HB h=>?_)⟩
   .obtain⟨_,_,_,_,sB,_⟩:=h;exact aG.of (sB _ _ Of)
   .obtain⟨bs,rfl,lz,⟨u0,u1,rfl⟩,sB,eB,zA⟩:=h;have lk:=(bf.mp ex).1;rw [au] at lk;rw [a9] at ex;obtain⟨a,ea,rfl⟩:=b_.mp ex;obtain⟨pr,ZO⟩:∃pr,bU[k]?=some pr:=⟨bU[k]'∅,dI ∅⟩;obtain⟨a',Z3,va⟩:=Paired.at_ Pg k pr ZO;rw [ea] at Z3;cases Z3;have tk:bU.take (k+1)=bU.take k++[pr]:=by rw [cK,ZO];rfl
    refine⟨a,_,rfl,sB.tup va,rfl,_,_,rfl,_,_,rfl,rfl,?_⟩;refine⟨_,rfl,_,rfl,rfl,_,rfl,?_⟩;refine bJ (λc1=>?_) (λc1=>?_)
    .refine⟨_,rfl,_,rfl,Cm,_,rfl,.inl (aG.of (sB _ _ Oe)),rfl,bO _,?_⟩;rw [di];refine⟨eB,bD (by rw [au];omega),bs++[decide (pr.2∈cs)],by rw [bA];rfl,by rw [bW];simp;omega,⟨_,_,rfl⟩,λb o hb=>?_,ae,λQH p2 ou e2=>?_⟩
     .rw [ak (λz=>by rw [z,jD] at hb;cases hb)];exact sB b o hb
     rw [List.all_append,kr] at QH;rw [tk] at ou;rcases cg.mp ou with h | h
     .exact zA QH.1 p2 h e2
     rw [bH.mp h];have:=QH.2;simpa using this
    refine⟨bs,rfl,∅,⟨_,_,rfl⟩,sB,eB,λQH p2 ou e2=>?_⟩;rw [tk] at ou;rcases cg.mp ou with h | h
    .exact zA QH p2 h e2
    have:p2=pr:=bH.mp h;rw [this] at e2;exact absurd (cf (congrArg V.str e2)) c1
   obtain⟨bs,rfl,lz,_,sC,eC,zA⟩:=h;rw [au] at lz zA;rw [lap,cv] at zA;have Hv:=jY PX sC;have xN:∃(cs:List Str)(To Tn:Option V),[aD R,y1,y2,aD D,aD En,aD M,some x,aD Em,aD Al,y9,i4,aD Cm,some (.str nm),Hj]=[aD R,y1,y2,aD D,aD En,aD M,some x,aD Em,aD Al,y9,i4,aD Cm,To,Tn]/\Kp HB/\HB Al=some (.lst (as.map V.ref))/\KW HB as bU/\HB Cm=some (.lst (cs.map V.str))/\cs.length<=32 * i+(j+1)/\Ou aa bU cs:=⟨cs,_,_,rfl,Hv,sC _ _ Of,Paired.dH Pg λa pr z=>sC.tup z,sC _ _ Oe,∅,SS⟩;refine⟨D2,_,rfl,aG.of eC,_,rfl,?_⟩;refine bJ (λc2=>?_) (λc2=>?_)
   .refine⟨_,rfl,_,rfl,Cm,_,rfl,.inl (aG.of (sC _ _ Oe)),rfl,bO _,_,rfl,?_⟩;refine bJ (λc1=>?_) (λc1=>?_)
    .have WC:=sC _ _ Oe;have nc:nm∉cs:=λh=>by
      have SU:(!Mp (V.str nm) (cs.map V.str))=true:=c1;rw [di,cf h] at SU;cases SU
     refine⟨_,rfl,.inl ⟨rfl,_,aG.of WC⟩,_,rfl,Cm,_,_,rfl,rfl,WC,bD (by rw [au];omega),?_⟩;exact⟨cs++[nm],_,_,rfl,PU Hv,by rw [ak nCA];exact sC _ _ Of,Paired.dH Pg λa pr z=>bj WC (sC.tup z),by rw [ae,bA];rfl,by rw [bW];simp;omega,SS.add nc (b9 enm) λz hz=>zA c2 (nm,z) hz rfl⟩
    exact xN
   refine dM ?_;exact xN
  rintro σ HA ⟨cs,Ia,Hj,rfl,PX,Of,Pg,Oe,YQ,SS⟩;rw [au,By] at YQ;exact⟨cs,_,_,_,_,_,_,_,rfl,PX,Of,Pg,Oe,∅,SS⟩
 rintro σ H9 ⟨cs,y1,y2,y6,y9,i4,Ia,Hj,rfl,Hw,eA9,Yu,WD,lC9,Nh⟩;refine⟨_,rfl,D,rfl,⟨_,aG.of Hw.2.1⟩,λD3 Jr=>pV (zs:=hm aa) [aD En,aD M,aD Cm] (λz=>decide (z∈d6 true aa) && (decide (z∈ms) && decide (z∈cs))) rfl (aG.of Hw.2.1) ∅ Jr (λz _ H5 Qy s5 hq=>?_) λHC sC eC=>?_⟩
 .refine⟨_,rfl,_,rfl,En,_,rfl,.inl (aG.of (s5 _ _ Hw.2.2.1)),rfl,bO _,_,rfl,?_⟩;rw [di];show if decide (z∈d6 true aa)=true then _ else _;refine bJ (λc=>?_) (λc=>?_)
  .rw [c,iX] at hq;refine⟨_,rfl,_,rfl,M,_,rfl,.inl (aG.of (s5 _ _ Hw.2.2.2.1)),rfl,bO _,_,rfl,?_⟩;rw [di];show if decide (z∈ms)=true then _ else _;refine bJ (λc=>?_) (λc=>?_)
   .rw [c,iX] at hq;refine⟨_,rfl,_,rfl,Cm,_,rfl,.inl (aG.of (s5 _ _ WD)),rfl,bO _,?_⟩;rw [di];exact hq
   have c':decide (z∈ms)=false:=by simpa using c
   rw [c',iY] at hq;exact hq
  have c':decide (z∈d6 true aa)=false:=by simpa using c
  rw [c',iY] at hq;exact hq
 refine⟨D3,_,rfl,aG.of eC,?_⟩;rw [all_map];refine⟨_,rfl,_,rfl,?_⟩;have Hv:=jY Hw sC;have coP:PlO aa cs:=λi h e ru gX er j z lo=>Nh.co i h e z (er ▸ aO ru gX j z lo);refine bJ (λhb=>?_) (λhb=>q _ _ Hv.1 λh=>(by cases h));have al:=λz hz=>jo.mp (dN.mp hb z hz);have ca:∀z∈hm aa,z∈cs:=λz hz=>cw (jo.mp (al z hz).2).2;refine⟨_,rfl,_,rfl,R,Em,rs,aa,d6 false aa,rfl,Hv.1.seq hR,cy.same Hv.1,jj,Hv.2.2.2.2,∅,λb HF sF hv=>?_⟩;refine q _ _ (Hv.1.trans sF) λJn=>⟨ms,cs,?_⟩;obtain⟨v1,v2⟩:=hv Jn;have ahd:NB aa (d6 false aa) cs:=λru gX hp=>by
  have hc:=ca _ (iq gX);refine⟨hc,λp jZ=>?_⟩;obtain⟨j,ej⟩:=fj jZ;exact kZ cs p _ (coP _ _ (mQ cs ru.1 hc) ru gX rfl j p ⟨ej,(k_ false aa).sub p (hp p jZ),λk y _ ey=>hp y (b9 ey)⟩)
 have lcs:=g9 cs _ Nh.cn Nh.ch;refine⟨mO,λz hz=>cw (jo.mp (al z hz).2).1,Nh.cn,Nh.ch,coP,ca,v1,_,DX (λx hx=>sJ hx) ahd (n:=aa.length) ∅,λh hh=>v2 h (xY.mpr hh)⟩
end
theorem pP {α β:Type}{F:α->β->Prop}:∀{xs:List α}{ys:List β}{Ib:List α}{XG:List β},Paired F xs ys->Paired F Ib XG->Paired F (xs++Ib) (ys++XG)
 | _,_,_,_,.nil,h=>h
 | _,_,_,_,.cons a b,h=>.cons a (pP b h)
def Ew {aa:List aw}{cT ws:List Str}(nd:cT.Nodup)(n9:cT.length<=9)(dj:∀x∈cT,x∉ws)(hl:aa.length=cT.length)
  (hs:∀(j:Nat)(ru:aw),aa[j]?=some ru->cT[j]?=some ru.1/\wY cT ws j ru.2):XD aa cT ws:=by
 refine⟨nd,n9,dj,λjc e=>(hs 0 jc e).1,λru h=>?_,λa h e=>?_,λru h=>?_⟩
 .obtain⟨a,e⟩:=fj h;exact b9 (hs a ru e).1
 .have la:=(bf.mp e).1;have e2:aa[a]?=some (aa[a]'∅):=dI ∅;obtain⟨x1,x2⟩:=hs a _ e2;rw [e] at x1;refine⟨(aa[a]'∅).2,?_,?_⟩
  .rw [show h=(aa[a]'∅).1 from gO x1];exact b9 e2
  rcases x2 with ⟨n',wx,e3,_,hw,_,jZ⟩ | ⟨l,hw,_⟩
  .rcases jZ with q | q
   .exact .inl ⟨n',wx,[],e3,q,hw,λ_ h=>(by cases h)⟩
   exact .inl ⟨n',[],wx,e3,q,λ_ h=>(by cases h),hw⟩
  exact .inr ⟨∅,hw⟩
 obtain⟨a,e⟩:=fj h;rcases (hs a ru e).2 with ⟨n',wx,_,RH,hw,_,jZ⟩ | ⟨_,hw,_⟩
 .obtain⟨y,hy⟩:=List.exists_mem_of_ne_nil wx RH;refine .inl ⟨y,?_,hw y hy⟩;rcases jZ with q | q
  .rw [q];exact j8 _ hy
  rw [q];exact cY _ hy
 cases hc:ru.2 with
 | nil=>exact .inr (.inl rfl)
 | cons p r=>exact .inl ⟨p,cS,hw p (by rw [hc];exact cS)⟩
def Rz (cT ws:List Str)(aa:List aw):Prop:=∀ru∈aa,ru.1∈cT/\ru.2.length<=6/\∀x∈ru.2,x∈cT++ws
structure JM (c:Int)(aa:List aw):Prop where
 one:1<=aa.length
 most:aa.length<=8
 ins:∃cT,Rt c cT/\Rz cT (gE c) aa
 good:∃rk b,Good aa rk b
section
def Ep (K:bp):Sp:=λvs H Q _=>∃(S:Addr)(ns:List Int) (at_:Nat),vs=[.ref S,.int (at_:Int)]/\aG K H S (ns.map V.int)/\ns.length<=1000 /\
 ∀(c:Int)(R:Addr)(rs:List Addr)(aa:List aw)(H':Hp),c=cellAt ns at_->H R=none->aC H H'->H' R=some (.lst (rs.map V.ref))->bQ K H' rs aa->JM c aa->Q (.ref R) H'
def mE:aK ["_law_script","_law_at","_law_cell","_law_names_here","_law_words_here","_law_rules","_law_more_here","_law_free"] ["_law_script","_law_at"] (ay EI):=iz rfl rfl rfl rfl nofun
def IU (F:hV K "_law_grammar" "_law_grammar" EI f fd)(T:Txt mg)(GC:aF P w K mg base 2 "_law_cell_at" ["_law_script","_law_k"] (rA K))(GN:aF P w K mg base 2 "_law_names" ["_law_cell"] A7)(GW:aF P w K mg base 2 "_law_words" ["_law_cell"] xp)
  (GS:aF P w K mg base 2 "_law_skeleton" ["_law_script","_law_at","_law_names_here","_law_words_here"] (Ej K))(GM:aF P w K mg base 2 "_law_more" ["_law_script","_law_at","_law_names_here","_law_many","_law_words_here"] (El K))(GG:aF P w K mg base 2 "_law_good" ["_law_rules"] (Er K)) :
  bV P w K mg base fK 3 f fd ["_law_script","_law_at"] (Ep K):=by
 refine F.ok mE (λvs H Q E h=>?_) (λeX A outer s H vs Q E hr h=>?_)
 .obtain⟨S,ns,at_,rfl,_⟩:=h;rfl
 obtain⟨S,ns,at_,rfl,hS,hn,q⟩:=h;refine⟨_,ag (aA (i:=2) mE.nd rfl (aZ rfl) (bq GC hr rfl (ab (pv 0) (ab (pv 1) ai))))
  (ag (aA (i:=3) mE.nd rfl (aZ rfl) (bq GN hr rfl (ab (pv 2) ai)))
  (ag (aA (i:=4) mE.nd rfl (aZ rfl) (bq GW hr rfl (ab (pv 2) ai)))
  (ag (aA (i:=5) mE.nd rfl (aZ rfl) (bq GS hr rfl (ab (pv 0) (ab (aH dG (pv 1) ar) (ab (pv 3) (ab (pv 4) ai))))))
  (ag (aA (i:=6) mE.nd rfl (aZ rfl) (bq GM hr rfl (ab (pv 0) (ab (aH dG (pv 1) ar) (ab (pv 3) (ab (aH cD (aH dA (pv 2) ar) ar) (ab (pv 4) ai)))))))
  (ag (gU (bz (aQ gJ (aH cD (aH dA (pv 2) ar) ar) ar (bx _))
   (ag (aA (i:=7) mE.nd rfl (aZ rfl) (bq GM hr rfl (ab (pv 0) (ab (aH dG (pv 1) ar) (ab (pv 3) (ab (aH dG ar (aH cD (aH dA (pv 2) ar) ar)) (ab (pv 4) ai)))))))
   (ao (bz (dJ (bq GG hr rfl (ab (pv 7) ai))) (ao (aL (pv 7))) aI))) aI))
  (ag (bz (dJ (bq GG hr rfl (ab (aH gh (pv 5) (pv 6)) ai))) (ao (aL (aH gh (pv 5) (pv 6)))) aI)
  (ao (aL (pv 5))))))))),?_⟩
 refine⟨_,rfl,_,rfl,S,ns,at_,rfl,hS,hn,λc hc=>?_⟩;have wl:=sf c;refine⟨_,rfl,c,rfl,λN cT H1 fN s1 eN nk=>?_⟩;have gl:1<=cT.length/\cT.length<=5:=⟨nk.one,nk.QP⟩;refine⟨_,rfl,c,rfl,λW H2 fW s2 eW=>?_⟩;have ER:=s1.trans s2;have Wu:=s2 _ _ eN;refine⟨_,rfl,_,rfl,_,_,rfl,rfl,_,rfl,_,rfl,S,N,W,ns,at_+1,cT,gE c,(by show [V.ref S,V.int ((at_:Int)+1),V.ref N,V.ref W]=_;congr 3),ER.seq hS,hn,Wu,eW,∅,∅,∅,∅,λR1 J1 kR H3 f3 s3 e3 O6 l3 TY=>?_⟩;have yD:=ER.trans s3;obtain⟨m,NY⟩:∃m:Nat,c / 9 % 4=(m:Int):=⟨(c / 9 % 4).toNat,∅⟩;refine⟨_,rfl,_,rfl,_,_,rfl,rfl,_,rfl,_,rfl,_,_,rfl,rfl,⟨nofun,nofun⟩,_,_,rfl,rfl,(by show (0:Int) < 4;decide),_,rfl,S,N,W,ns,at_+4,m,cT,gE c,(by show [V.ref S,V.int ((at_:Int)+4),V.ref N,V.int (c / 9 % 4),V.ref W]=_;rw [NY];congr 3),yD.seq hS,hn,s3 _ _ Wu,s3 _ _ eW,∅,∅,∅,∅,λR2 Lx oW H4 f4 s4 e4 NL l4 in4=>?_⟩;have xy:=yD.trans s4;have e34:=s4 _ _ e3;have Ly:=O6.same s4;have O1:=Ew nk.nd ∅ nk.dj l3 TY;have in1:Rz cT (gE c) kR:=λru h=>by
  refine⟨O1.CO ru h,?_,λx hx=>?_⟩
  .obtain⟨a,e⟩:=fj h;rcases (TY a ru e).2 with ⟨n',wx,_,_,_,l2,h | h⟩ | ⟨_,_,l2⟩
   .rw [h,bW];simp;omega
   .rw [h,fc];omega
   omega
  obtain⟨a,e⟩:=fj h;rcases (TY a ru e).2 with ⟨n',wx,en,_,hw,_,jZ⟩ | ⟨_,hw,_⟩
  .have cs:x=n'\/x∈wx:=by
    rcases jZ with h | h
    .rw [h] at hx;rcases cg.mp hx with q | q
     .exact .inr q
     exact .inl (bH.mp q)
    rw [h] at hx;rcases b8.mp hx with q | q
    .exact .inl q
    exact .inr q
   rcases cs with rfl | q
   .exact j8 _ (b9 en)
   exact gH _ (hw x q)
  exact gH _ (hw x hx)
 have Pj:∀{aa:List aw}{ms cs:List Str},B3 aa ms cs->1<=aa.length->aa.length<=8->Rz cT (gE c) aa->JM c aa:=λg a b i=>⟨a,b,⟨cT,nk,i⟩,g.good⟩;have OX:∀{aa:List aw},1<=aa.length->aa.length<=8->Rz cT (gE c) aa->Small aa:=λa b i=>⟨a,∅,λru h=>(i ru h).2.1⟩;refine⟨λσ H5=>∃y7,σ=[aD S,some (.int (at_:Int)),some (.int c),aD N,aD W,aD R1,aD R2,y7]/\aC H4 H5,?_,?_⟩
 .refine⟨_,rfl,_,_,rfl,rfl,⟨nofun,nofun⟩,_,_,rfl,rfl,(by show (0:Int) < 2;decide),rfl,_,rfl,?_⟩;refine bJ (λcc=>?_) (λcc=>?_)
  .have NX:1+c / 9 % 4=((m+1:Nat):Int):=by omega
   refine⟨_,rfl,_,rfl,_,_,rfl,rfl,_,rfl,_,rfl,_,_,rfl,rfl,⟨nofun,nofun⟩,_,_,rfl,rfl,(by show (0:Int) < 4;decide),_,_,rfl,rfl,_,rfl,S,N,W,ns,at_+4,m+1,cT,gE c,(by show [V.ref S,V.int ((at_:Int)+4),V.ref N,V.int (1+c / 9 % 4),V.ref W]=_;rw [NX];congr 3),xy.seq hS,hn,s4 _ _ (s3 _ _ Wu),s4 _ _ (s3 _ _ eW),∅,∅,∅,∅,λR3 Yl EV H5 f5 s5 e5 O5 l5 YW=>?_⟩;have Bh:=xy.trans s5;refine⟨_,rfl,R3,Yl,EV,rfl,aG.of e5,O5,OX ∅ ∅ YW,λb H6 s6 hb=>⟨b,rfl,?_⟩⟩;refine bJ (λc2=>?_) (λc2=>?_)
   .obtain⟨ms,cs,g⟩:=hb c2;exact⟨_,rfl,q c R3 Yl EV H6 hc (xy.free f5) (Bh.trans s6) (s6 _ _ e5) (O5.same s6) (Pj g ∅ ∅ YW)⟩
   exact⟨_,rfl,s5.trans s6⟩
  exact⟨_,rfl,aC.refl _⟩
 rintro σ H5 ⟨y7,rfl,s5⟩;have Bh:=xy.trans s5;have eA:=s5 _ _ e34;have eB:=s5 _ _ e4;have aaf:=bc Ly;have aae:=bc NL;have YV:Rz cT (gE c) (kR++oW):=λru h=>(cg.mp h).elim (in1 ru) (in4 ru);have Ht:1<=(kR++oW).length/\(kR++oW).length<=8:=by rw [bW];omega
 have O4:bQ K H5 (J1++Lx) (kR++oW):=pP (Ly.same s5) (NL.same s5);refine⟨_,rfl,_,rfl,R1,R2,_,_,rfl,rfl,eA,eB,fits (by rw [au,au];omega),λR4 MK=>?_⟩;rw [<-bA];have k6:=af MK (.lst ((J1++Lx).map V.ref));have e6:upd H5 R4 (.lst ((J1++Lx).map V.ref)) R4=some (.lst ((J1++Lx).map V.ref)):=ae;generalize upd H5 R4 (.lst ((J1++Lx).map V.ref))=H6 at k6 e6;have J0:=Bh.trans k6;refine⟨R4,J1++Lx,kR++oW,rfl,aG.of e6,O4.same k6,OX Ht.1 Ht.2 YV,λb H7 s7 hb=>⟨b,rfl,?_⟩⟩;have pL:=k6.trans s7;refine bJ (λc2=>?_) (λc2=>?_)
 .obtain⟨ms,cs,g⟩:=hb c2;refine⟨_,rfl,_,rfl,R1,R2,_,_,rfl,rfl,pL _ _ eA,pL _ _ eB,fits (by rw [au,au];omega),λR5 Jp=>?_⟩;rw [<-bA];exact q c R5 (J1++Lx) (kR++oW) _ hc ((J0.trans s7).free Jp) ((J0.trans s7).trans (af Jp _)) ae ((O4.same pL).same (af Jp _)) (Pj g Ht.1 Ht.2 YV)
 exact⟨_,rfl,q c R1 J1 kR H7 hc (ER.free f3) (J0.trans s7) (pL _ _ eA) ((Ly.same s5).same pL) ⟨∅,∅,⟨cT,nk,in1⟩,O1.good⟩⟩
end
abbrev zw:Stmt:=top 7
abbrev vP:Stmt:=top 6
abbrev vW:Stmt:=top 9
abbrev zu:Stmt:=top 10
abbrev rF:Stmt:=top 60
abbrev vS:Stmt:=top 61
def RP:0<=sizeLine:=by decide
def Lf:1<=sizeLine:=by decide
def Ca:2<=sizeLine:=by decide
def X4:3<=sizeLine:=by decide
def RO:4<=sizeLine:=by decide
def X3:5<=sizeLine:=by decide
def Hq:(0:Int) < 8:=by decide
def Uc:(0:Int) < 4:=by decide
def gb {H:Hp}{a:Addr}(h:H a=none)(o:HO):aC H (upd H a o)/\upd H a o a=some o:=⟨af h o,ae⟩
def jx {K:bp}{H:Hp}{a:Addr}(h:H a=none)(xs:List V):aC H (upd H a (.tup xs))/\a_ K (upd H a (.tup xs)) a xs:=⟨af h _,a_.of ae⟩
def Oh (x y:Str):decide (V.str x=V.str y)=decide (x=y):=by
 by_cases c:x=y
 .rw [c,cf rfl,cf rfl]
 rw [d0 c,d0 (λz=>c (by injection z))]
def pN (aa:List aw) (n:Int):Option aw:=if 0<=n then aa[n.toNat]? else none
def ju {aa:List aw}{n:Int}{ru:aw}(h:pN aa n=some ru):∃k:Nat,n=(k:Int)/\aa[k]?=some ru:=by
 unfold pN at h;by_cases c:0<=n
 .rw [ax c] at h;exact⟨n.toNat,∅,h⟩
 rw [az c] at h;cases h
def EZ {aa:List aw}{n:Int}(h:pN aa n=none):¬(0<=n/\n < (aa.length:Int)):=λ⟨h1,h2⟩=>by
 unfold pN at h;rw [ax h1,dI ∅] at h;cases h
def LG {aa:List aw}{n:Int}{ru:aw}(h:pN aa n=some ru):0<=n/\n < (aa.length:Int):=by
 obtain⟨k,e,ek⟩:=ju h;have:=(bf.mp ek).1;omega
noncomputable def Jf (aa:List aw) (n:Int)(nm:Str):Bool:=match pN aa n with
 | none=>false
 | some ru=>decide (ru.1=nm)
abbrev E2:=Str×Int
noncomputable def mz (aa:List aw):List E2->List Str->Bool
 | [],_=>true
 | e::r,a=>match pN aa e.2 with
  | none=>false
  | some ru=>!decide (e.1∈a) && (decide (ru.1=e.1) && ((ru.2.all λp=>decide (p∈a)) && mz aa r (a++[e.1])))
def uh {aa:List aw}{es:List E2}{i:Nat}{e:E2}(h:es[i]?=some e) (a:List Str):mz aa (es.drop i) a=match pN aa e.2 with
  | none=>false
  | some ru=>!decide (e.1∈a) && (decide (ru.1=e.1) && ((ru.2.all λp=>decide (p∈a)) && mz aa (es.drop (i+1)) (a++[e.1]))):=by
 have li:=(bf.mp h).1;have e2:es.drop i=e::es.drop (i+1):=by
  rw [List.drop_eq_getElem_cons li]
  congr 1
  exact(bf.mp h).2
 rw [e2];rfl
def KZ (K:bp)(H:Hp)(ts:List Addr)(es:List E2):Prop:=Paired (λt (e:E2)=>a_ K H t [.str e.1,.int e.2]) ts es
def KZ.keep {K:bp}{H H':Hp}{ts:List Addr}{es:List E2}(h:KZ K H ts es)(k:∀a xs,a_ K H a xs->a_ K H' a xs):KZ K H' ts es:=Paired.dH h λ_ _ z=>k _ _ z
def mem_keys {kvs:List (aT×V)}{a:List Str}(h:kvs.map (·.1)=a.map Sum.inr)(z:Str):(bh kvs (Sum.inr z)).isSome=decide (z∈a):=by
 rw [gi,eK,decide_eq_true_iff,h];exact cP
noncomputable def KH (aa:List aw) (ns:List Str):Bool:=aa.all λru=>decide (ru.1∈ns) || !(ru.2.all λp=>decide (p∈ns))
def yo {aa:List aw}{ns:List Str}{i:Nat}{ru:aw}(e:aa[i]?=some ru):KH (aa.take (i+1)) ns=(KH (aa.take i) ns && (decide (ru.1∈ns) || !(ru.2.all λp=>decide (p∈ns)))):=by
 unfold KH;rw [cK,e,List.all_append];simp
def JK (aa:List aw) (ns:List Str) (k:Nat):Prop:=KH (aa.take k) ns=true/\∃ru,aa[k]?=some ru/\ru.1∉ns/\∀p∈ru.2,p∈ns
def JK.lt {aa:List aw}{ns:List Str}{k j:Nat}(h:JK aa ns k)(g:JK aa ns j):¬k < j:=λl=>by
 obtain⟨_,ru,e,n,p⟩:=h;have h1:=dN.mp g.1 ru (b9 (i:=k) (by rw [tX l];exact e));rw [d0 n,qK,dN.mpr λx hx=>cf (p x hx)] at h1;cases h1
def JK.uniq {aa:List aw}{ns:List Str}{k j:Nat}(h:JK aa ns k)(g:JK aa ns j):k=j:=by
 have h1:=h.lt g;have h2:=g.lt h;omega
def JK.no {aa:List aw}{ns:List Str}{k:Nat}(h:JK aa ns k)(c:KH aa ns=true):False:=by
 obtain⟨_,ru,e,n,p⟩:=h;have h1:=dN.mp c ru (b9 e);rw [d0 n,qK,dN.mpr λx hx=>cf (p x hx)] at h1;cases h1
section
def vH:Sp:=λvs H Q _=>∃(n:Int) (m:Nat),vs=[.int n,.int (m:Int)]/\Q (.bl (decide (0<=n/\n < (m:Int)))) H
def Iu:aK ["number","many"] ["number","many"] (ay zw):=iz rfl rfl rfl rfl nofun
def Fz (F:hV K "is_number_below" "is_number_below" zw f fd)(T:Txt mg):bV P w K mg base fK 1 f fd ["number","many"] vH:=by
 refine F.ok Iu (λvs H Q E h=>?_) (λeX A outer s H vs Q E hr h=>?_)
 .obtain⟨k,m,rfl,_⟩:=h;rfl
 obtain⟨n,m,rfl,q⟩:=h;refine⟨_,ao (aL (jT (aE ja rfl T.Sf AM (ab (pv 0) (ab (qr (v:=.ty "int") rfl T.int PyProof.Rows.boot_int rfl) ai)))
  (jT (LK (aE ja rfl T.Sf AM (ab (pv 0) (ab (qr (v:=.ty "bool") rfl T.WW yN rfl) ai))))
  (jS (Fd Fg kW ar (pv 0) (pv 1)))))),?_⟩
 refine⟨_,rfl,.int n,"int","int",true,rfl,.int n,rV,true,rfl,?_⟩;refine fC ?_;refine⟨_,rfl,.int n,"int","bool",false,rfl,.int n,Mi,false,rfl,true,rfl,?_⟩;refine fC ?_;refine⟨_,rfl,_,_,rfl,rfl,_,rfl,?_⟩;refine bJ (λc=>?_) (λc=>?_)
 .refine⟨_,rfl,_,_,rfl,rfl,?_⟩;have c':(0:Int)<=n:=cw c;show Q (.bl (decide (n < (m:Int)))) H;have e:decide (n < (m:Int))=decide (0<=n/\n < (m:Int)):=by rw [gi,decide_eq_true_iff,decide_eq_true_iff];exact⟨λh=>⟨c',h⟩,λh=>h.2⟩
  rw [e];exact q
 have c':¬(0:Int)<=n:=λy=>c (cf y);rw [d0 (λh=>c' h.1)] at q;exact q
def ro (K:bp):Sp:=λvs H Q _=>∃(R:Addr)(rs:List Addr)(aa:List aw) (n:Int)(nm:Str),vs=[.ref R,.int n,.str nm]/\aG K H R (rs.map V.ref)/\bQ K H rs aa/\Q (.bl (Jf aa n nm)) H
def EA:aK ["rules","number","name"] ["rules","number","name"] (ay vP):=iz rfl rfl rfl rfl nofun
def Cr (F:hV K "is_rule_of" "is_rule_of" vP f fd)(T:Txt mg)(GB:aF P w K mg base 1 "is_number_below" ["number","many"] vH):bV P w K mg base fK 2 f fd ["rules","number","name"] (ro K):=by
 refine F.ok EA (λvs H Q E h=>?_) (λeX A outer s H vs Q E hr h=>?_)
 .obtain⟨R,rs,aa,n,nm,rfl,_⟩:=h;rfl
 obtain⟨R,rs,aa,n,nm,rfl,hR,cy,q⟩:=h;refine⟨_,ao (aL (jT (bq GB hr rfl (ab (pv 1) (ab (aE aS rfl T.len dZ (ab (pv 0) ai)) ai)))
  (jS (dw gJ (a7 bI (a7 bZ (pv 0) (pv 1) (λ_ _=>rfl)) ar (λ_ _=>rfl)) (pv 2) (bx _))))),?_⟩
 have ll:=bc cy;refine⟨_,rfl,_,rfl,R,_,rfl,.inl hR,n,(rs.map V.ref).length,rfl,_,rfl,?_⟩;rw [au,ll];unfold Jf at q;cases ra:pN aa n with
 | none =>
  rw [ra] at q;rw [d0 (EZ ra)];exact dM q
 | some ru =>
  rw [ra] at q;rw [cf (LG ra)];obtain⟨k,rfl,ek⟩:=ju ra;obtain⟨r,er,p,v1,v2⟩:=Paired.at_ cy k ru ek;have sY:lV (rs.map V.ref) (k:Int)=some (.ref r):=bT (by rw [a9,er];rfl);refine fC ?_;refine⟨_,rfl,_,rfl,R,_,_,_,rfl,rfl,hR,sY,r,_,_,_,rfl,rfl,v1,rfl,_,rfl,rfl,?_⟩;rw [Oh];exact q
def nE (K:bp):Sp:=λvs H Q _=>∃(R L:Addr)(rs ts:List Addr)(aa:List aw)(es:List E2),vs=[.ref R,.ref L]/\aG K H R (rs.map V.ref)/\bQ K H rs aa/\Small aa/\aG K H L (ts.map V.ref)/\KZ K H ts es/\es.length<=1000/\∀H',aC H H'->Q (.bl (mz aa es [])) H'
def nN:aK ["rules","told","ahead","name","number"] ["rules","told"] (ay vW):=iz rfl rfl rfl rfl nofun
def Cw (F:hV K "empties_stand" "empties_stand" vW f fd)(T:Txt mg)(GR:aF P w K mg base 2 "is_rule_of" ["rules","number","name"] (ro K)):bV P w K mg base fK 3 f fd ["rules","told"] (nE K):=by
 refine F.ok nN (λvs H Q E h=>?_) (λeX A outer s H vs Q E hr h=>?_)
 .obtain⟨R,L,rs,ts,aa,es,rfl,_⟩:=h;rfl
 obtain⟨R,L,rs,ts,aa,es,rfl,hR,cy,jj,hL,NU,Zf,q⟩:=h;have hu:=fu hr;refine⟨_,ag (aA (i:=2) nN.nd rfl (Or.inr rfl) fk)
  (ag (bE bX rfl (aR (pv 1)) (dD rfl (av (aq (i:=3) nN.nd rfl (aZ rfl)) (av (aq (i:=4) nN.nd rfl (aZ rfl)) bo)))
   (ag (bz (PW.pt (jv (dP (gW hu (pv 3) (pv 2))) (jd (iN (dJ (bq GR hr rfl (ab (pv 0) (ab (pv 4) (ab (pv 3) ai))))))))) (ao (aL cI)) aI)
   (ag (bz (iN (dJ (aE (cX rfl) rfl T.all boot_all (ab (aV ["part"] [(2,"ahead")] rfl (dQ (a7 bI (a7 bZ (pv 0) (pv 4) (λ_ _=>rfl)) ar (λ_ _=>rfl))) (aP rfl rfl) nofun rfl nofun
     (λ_ _ _ _ _=>aq (i:=0) (show (["part","ahead"]:List Str).Nodup by decide +kernel) rfl (aZ rfl)) (λ_ _ _ _ _=>a0) (λ_ _ _ _ _=>mH (gW hu (pv 0) (pv 1)))) ai)))) (ao (aL cI)) aI)
   (ao (fV hu (pv 2) (pv 3) cI rfl)))))
  (ao (aL cI))),?_⟩
 nofun
 have ll:=bc cy;have PB:=bc NU;intro d hd;obtain⟨k1,e1⟩:=gb hd (.dK []);generalize upd H d (.dK [])=H1 at k1 e1;refine⟨_,rfl,L,rfl,⟨_,k1.seq hL⟩,?_⟩
 let oo:lW:=λi σ H5=>∃(a:List Str)(kvs:List (aT×V))(y3 y4:Option V),σ=[aD R,aD L,aD d,y3,y4]/\aC H H5/\H5 d=some (.dK kvs)/\kvs.map (·.1)=a.map Sum.inr/\kvs.length<=i/\mz aa es []=mz aa (es.drop i) a
 refine cq (xs:=ts.map V.ref) oo ⟨[],[],none,none,rfl,k1,e1,rfl,gG _,by rw [mW]⟩ ?_ ?_ ?_
 .rintro i σ H5 _ ⟨a,kvs,y3,y4,rfl,s5,_⟩;exact s5.seq hL
 .intro i x σ H5 ex iV
  ac_nf0
  obtain⟨a,kvs,y3,y4,rfl,s5,ed,hk,lk,inv⟩:=iV;rw [a9] at ex;obtain⟨t,et,rfl⟩:=b_.mp ex;have li:=(bf.mp et).1;obtain⟨e,ek⟩:∃e,es[i]?=some e:=⟨es[i]'∅,dI ∅⟩;obtain⟨t',sG,vt⟩:=Paired.at_ NU i e ek;rw [et] at sG;cases sG;have st:=uh (aa:=aa) ek a;rw [<-inv] at st;refine⟨t,_,rfl,s5.tup vt,rfl,_,_,rfl,_,_,rfl,rfl,?_⟩;refine⟨_,rfl,_,rfl,d,_,rfl,b0.k (k:=Sum.inr e.1) ed,_,rfl,?_⟩;rw [mem_keys hk];refine bJ (λc=>?_) (λc=>?_)
  .refine fC ?_;have z:mz aa es []=false:=by
    rw [st,c];cases pN aa e.2 <;> rfl
   rw [z] at q;exact q H5 s5
  have c':decide (e.1∈a)=false:=by simpa using c
  refine⟨_,rfl,_,rfl,_,rfl,R,rs,aa,e.2,e.1,rfl,s5.seq hR,cy.same s5,_,rfl,?_⟩;unfold Jf;cases ra:pN aa e.2 with
  | none =>
   rw [ra] at st;refine fC ?_;rw [st] at q;exact q H5 s5
  | some ru =>
   rw [ra] at st;have st:mz aa es []=(!decide (e.1∈a) && (decide (ru.1=e.1) && ((ru.2.all λp=>decide (p∈a)) && mz aa (es.drop (i+1)) (a++[e.1])))):=st;rw [c',Bool.not_false,iX] at st;show if (!decide (ru.1=e.1))=true then _ else _;cases dn:decide (ru.1=e.1) with
   | false =>
    rw [dn,iY] at st;refine fC ?_;rw [st] at q;exact q H5 s5
   | true =>
    rw [dn,iX] at st;refine dM ?_;obtain⟨k,M5,qz⟩:=ju ra;obtain⟨r,er,p,v1,v2⟩:=Paired.at_ cy k ru qz;have h6:=jj.uL ru (b9 qz);have sY:lV (rs.map V.ref) e.2=some (.ref r):=by rw [M5];exact bT (by rw [a9,er];rfl)
    refine⟨_,rfl,_,rfl,R,_,_,_,rfl,rfl,s5.seq hR,sY,r,_,_,_,rfl,rfl,s5.tup v1,rfl,p,rfl,⟨_,s5.tup v2⟩,λD2 jD=>jG rfl (s5.tup v2) ∅ ed jD λH6 s6 e6=>?_⟩;have ce:(List.map (λz=>(bh kvs (Sum.inr z)).isSome) ru.2).all id=ru.2.all λp=>decide (p∈a):=by
     rw [all_map]
     congr 1
     funext z
     exact mem_keys hk z
    refine⟨D2,_,rfl,aG.of e6,_,rfl,?_⟩;rw [ce];have Ye:=s5.trans s6;cases hc:ru.2.all λp=>decide (p∈a) with
    | false =>
     refine fC ?_;rw [st,hc,iY] at q;exact q H6 Ye
    | true =>
     refine dM ?_;have na:e.1∉a:=by simpa using c'
     refine⟨_,rfl,_,rfl,d,_,rfl,j6.k (k:=Sum.inr e.1) (s6 _ _ ed) (bD ∅),?_⟩;refine⟨a++[e.1],_,_,_,rfl,λb o hb=>?_,ae,?_,?_,?_⟩
     .rw [ak (λz=>by rw [z,hd] at hb;cases hb)];exact Ye b o hb
     .rw [gS (by rw [hk];exact λz=>na (cP.mp z)),hk,bA];rfl
     .have:=congrArg List.length (gS (kvs:=kvs) (k:=Sum.inr e.1) (v:=.bl true) (by rw [hk];exact λz=>na (cP.mp z)));rw [au,bW,au,gP] at this;omega
     rw [st,hc];rfl
 rintro σ H5 ⟨a,kvs,y3,y4,rfl,s5,ed,hk,lk,inv⟩;rw [au,PB,qO] at inv;rw [inv] at q;exact q H5 s5
def qm (K:bp):Sp:=λvs H Q _=>∃(R N:Addr)(rs:List Addr)(aa:List aw) (ns:List Str),vs=[.ref R,.ref N]/\aG K H R (rs.map V.ref)/\bQ K H rs aa/\Small aa/\aG K H N (ns.map V.str)/\ns.length<=1000/\∀H',aC H H'->(KH aa ns=true->Q .eZ H')/\∀k:Nat,JK aa ns k->Q (.int (k:Int)) H'
def qp:aK ["rules","names","empty","number","rule"] ["rules","names"] (ay zu):=iz rfl rfl rfl rfl nofun
def lJ {H:Hp}{p D:Addr}{zs:List Str}{σ:St}{x:Str}{Qp:Hp->Prop}(hp:aG K H p (zs.map V.str))(hz:zs.length<=1000)(hD:H D=none)
  (q:∀(ts:List Addr)(H2:Hp),aC H H2->H2 D=some (.lst (ts.map V.ref))->Paired (λt (kv:aT×V)=>a_ K H2 t [kV kv.1,kv.2]) ts (zs.map λz=>((Sum.inr z:aT),V.bl true))->Qp H2) :
  ∃W:Nat->Nat->List V->St->Hp->Prop,(∃m,W 0 m [] (eh [x] [] σ) (upd H D (.lst []))) /\
 ∀i m ys σ' H,W i m ys σ' H->((iU K p).stop i H/\Qp H)\/((iU K p).go i H/\∃m',m' < m/\∀x H',(iU K p).lR i H x H'->dB 0 x σ' H' λσ2 H2=>gI σ2 H2 λb H3 =>
  if b=true then rf (gp (fS 0) (gp (tC (.bl true)) p_)) σ2 H3 λy H4=>H4 D=some (.lst ys)/\ys.length < sizeLine/\W (i+1) m' (ys++[y]) σ2 (upd H4 D (.lst (ys++[y]))) else W (i+1) m' ys σ2 H3):=by
 refine bS (xs:=zs.map V.str) (λi ys σ2 H2=>(∃y0,σ2=[y0])/\aC H H2/\∃ts:List Addr,ys=ts.map V.ref/\ts.length=i/\H2 D=some (.lst ys)/\Paired (λt (kv:aT×V)=>a_ K H2 t [kV kv.1,kv.2]) ts ((zs.take i).map λz=>((Sum.inr z:aT),V.bl true)))
  ⟨⟨none,rfl⟩,af hD _,[],rfl,rfl,ae,.nil⟩ (λi ys σ2 H2 _ h=>?_) (λi v ys σ2 H2 ex h=>?_) (λys σ2 H2 h=>?_)
 .obtain⟨_,sm,_⟩:=h;exact sm.seq hp
 .obtain⟨⟨y0,rfl⟩,sm,ts,rfl,lt,eD,pr⟩:=h;rw [a9] at ex;obtain⟨z,ez,rfl⟩:=b_.mp ex;have li:=(bf.mp ez).1;refine goN (uH ?_);refine⟨_,rfl,Ca,λt ht=>?_⟩;obtain⟨k3,e3⟩:=jx (K:=K) ht [V.str z,V.bl true];have BI:=k3 _ _ eD;generalize upd H2 t (.tup [V.str z,V.bl true])=H3 at k3 e3 BI;refine⟨BI,bD (by rw [au];omega),⟨_,rfl⟩,λb o hb=>?_,ts++[t],by rw [bA];rfl,by rw [bW,lt];rfl,ae,?_⟩
  .rw [ak (λz=>by rw [z,hD] at hb;cases hb)];exact(sm.trans k3) b o hb
  rw [cK,ez,bA];exact gF (Paired.dH pr λ_ _ y=>bj BI (k3.tup y)) (bj BI e3)
 obtain⟨_,sm,ts,rfl,lt,eD,pr⟩:=h;rw [au,cv] at pr;exact q ts H2 sm eD pr
theorem iS:∀(hs bF:List Str)(x:Str),x∈lU bF hs↔x∈bF\/x∈hs
 | [],bF,x=>by unfold lU;simp
 | h::hs,bF,x=>by
  show x∈lU (gr bF h) hs↔_;rw [iS hs (gr bF h) x];unfold gr;by_cases c:h∈bF
  .rw [ax c,b8];exact⟨λz=>z.elim .inl λy=>.inr (.inr y),λz=>z.elim .inl λy=>y.elim (λe=>.inl (e ▸ c)) .inr⟩
  rw [az c,cg,bH,b8];exact⟨λz=>z.elim (λy=>y.elim .inl λe=>.inr (.inl e)) λy=>.inr (.inr y),λz=>z.elim (λy=>.inl (.inl y)) λy=>y.elim (λe=>.inl (.inr e)) .inr⟩
def Fx (F:hV K "empties_lack" "empties_lack" zu f fd)(T:Txt mg):bV P w K mg base fK 1 f fd ["rules","names"] (qm K):=by
 refine F.ok qp (λvs H Q E h=>?_) (λeX A outer s H vs Q E hr h=>?_)
 .obtain⟨R,N,rs,aa,ns,rfl,_⟩:=h;rfl
 obtain⟨R,N,rs,aa,ns,rfl,hR,cy,jj,hN,F7,q⟩:=h;have hu:=fu hr;refine⟨_,ag (aA (i:=2) qp.nd rfl (Or.inr rfl) (aX (cV rfl) rfl T.wO dS (ab (aV ["name"] [] rfl (aR (pv 1)) (aP rfl rfl) nofun rfl nofun
    (λ_ _ _ _ _=>aq (i:=0) (show (["name"]:List Str).Nodup by decide +kernel) rfl (aZ rfl)) (λ_ _ _ _ _=>a0) (λ_ _ _ _ _=>bC (ab (pv 0) (ab cI ai)))) ai)))
  (ag (bE bX rfl (jR rfl T.DG (ab (pv 0) ai)) (dD rfl (av (aq (i:=3) qp.nd rfl (aZ rfl)) (av (aq (i:=4) qp.nd rfl (aZ rfl)) bo)))
   (ao (bz (PW.pt (ig (dP (df hu (a7 bI (pv 4) ar (λ_ _=>rfl)) (pv 2)))
     (gA (dJ (aE (cX rfl) rfl T.all boot_all (ab (aV ["part"] [(2,"empty")] rfl (dQ (a7 bI (pv 4) ar (λ_ _=>rfl))) (aP rfl rfl) nofun rfl nofun
      (λ_ _ _ _ _=>aq (i:=0) (show (["part","empty"]:List Str).Nodup by decide +kernel) rfl (aZ rfl)) (λ_ _ _ _ _=>a0) (λ_ _ _ _ _=>mH (gW hu (pv 0) (pv 1)))) ai)))))) (ao (aL (pv 3))) aI)))
  (ao (aL wa))),?_⟩
 nofun
 have ll:=bc cy;refine⟨_,rfl,N,rfl,⟨_,hN⟩,λD1 MO=>lJ hN F7 MO λts H1 s1 DK pr=>?_⟩;refine⟨D1,ts,_,rfl,DK,pr,λd pd=>?_⟩;have hk:=ic ns [] [] rfl;generalize cM (ns.map λz=>((Sum.inr z:aT),V.bl true)) []=kvs at hk;have mk:∀z,(bh kvs (Sum.inr z)).isSome=decide (z∈ns):=λz=>by
  rw [mem_keys hk];rw [gi,decide_eq_true_iff,decide_eq_true_iff,iS];simp
 have s2:=s1.trans (af pd (.dK kvs));have e2:upd H1 d (.dK kvs) d=some (.dK kvs):=ae;generalize upd H1 d (.dK kvs)=H2 at s2 e2;refine⟨_,rfl,R,_,rfl,s2.seq hR,?_⟩
 let wZ:lW:=λi σ H5=>∃(y3 y4:Option V),σ=[aD R,aD N,aD d,y3,y4]/\aC H H5/\H5 d=some (.dK kvs)/\KH (aa.take i) ns=true
 refine iQ (xs:=rs.map V.ref) wZ ⟨none,none,rfl,s2,e2,rfl⟩ ?_ ?_ ?_
 .rintro i σ H5 _ ⟨y3,y4,rfl,s5,_⟩;exact s5.seq hR
 .intro i x σ H5 t ex iV ht
  ac_nf0
  obtain⟨y3,y4,rfl,s5,ed,inv⟩:=iV;rw [a9] at ex;obtain⟨r,er,rfl⟩:=b_.mp ex;obtain⟨ru,e1,p,v1,v2⟩:=cy.get er;have HJ:=jj.uL ru (b9 e1);obtain⟨k6,v6⟩:=jx (K:=K) ht [.int (i:Int),.ref r];generalize upd H5 t (.tup [.int (i:Int),.ref r])=H6 at k6 v6;have s6:=s5.trans k6;have KA:=k6 _ _ ed;have tk:=yo (ns:=ns) e1;have ce:(List.map (λz=>(bh kvs (Sum.inr z)).isSome) ru.2).all id=ru.2.all λp=>decide (p∈ns):=by
   rw [all_map]
   congr 1
   funext z
   exact mk z
  refine⟨t,_,rfl,v6,rfl,_,_,rfl,_,_,rfl,rfl,?_⟩;refine⟨_,rfl,r,_,_,_,rfl,rfl,s6.tup v1,rfl,?_⟩;refine⟨_,rfl,d,_,rfl,b0.k (k:=Sum.inr ru.1) KA,_,rfl,?_⟩;rw [mk];refine bJ (λc=>?_) (λc=>?_)
  .have c':decide (ru.1∈ns)=false:=by simpa using c
   refine⟨_,rfl,r,_,_,_,rfl,rfl,s6.tup v1,rfl,p,rfl,⟨_,s6.tup v2⟩,λD2 jD=>jG rfl (s6.tup v2) ∅ KA jD λH7 s7 e7=>?_⟩;refine⟨D2,_,rfl,aG.of e7,_,rfl,?_⟩;rw [ce];cases hc:ru.2.all λp=>decide (p∈ns) with
   | true =>
    refine fC ?_;exact⟨_,rfl,(q H7 (s6.trans s7)).2 i ⟨inv,ru,e1,by simpa using c',λx hx=>cw (dN.mp hc x hx)⟩⟩
   | false =>
    refine dM ?_;exact⟨_,_,rfl,s6.trans s7,s7 _ _ KA,by rw [tk,inv,hc];simp⟩
  have c':decide (ru.1∈ns)=true:=by simpa using c
  refine dM ?_;exact⟨_,_,rfl,s6,KA,by rw [tk,inv,c'];rfl⟩
 rintro σ H5 ⟨y3,y4,rfl,s5,ed,inv⟩;rw [au,ll,cv] at inv;exact(q H5 s5).1 inv
def lF:aK ["_law_rules","_law_told","_law_seen","_law_name","_law_number"] ["_law_rules","_law_told"] (ay rF):=iz rfl rfl rfl rfl nofun
def zP (F:hV K "_law_empty_stands" "_law_empty_stands" rF f fd)(T:Txt mg):bV P w K mg base fK 1 f fd ["_law_rules","_law_told"] (nE K):=by
 refine F.ok lF (λvs H Q E h=>?_) (λeX A outer s H vs Q E hr h=>?_)
 .obtain⟨R,L,rs,ts,aa,es,rfl,_⟩:=h;rfl
 obtain⟨R,L,rs,ts,aa,es,rfl,hR,cy,jj,hL,NU,Zf,q⟩:=h;refine⟨_,ag (aA (i:=2) lF.nd rfl (Or.inr rfl) (bL ai))
  (ag (bE bX rfl (aR (pv 1)) (dD rfl (av (aq (i:=3) lF.nd rfl (aZ rfl)) (av (aq (i:=4) lF.nd rfl (aZ rfl)) bo)))
   (ag (bz (PW.pt (jv (aQ kW (pv 4) ar (bx _)) (jv (aQ Fi (pv 4) (aE aS rfl T.len dZ (ab (pv 0) ai)) (bx _)) (jd (aQ iH (pv 3) (pv 2) rfl))))) (ao (aL cI)) aI)
   (ag (bz (PW.pt (jv (aQ rN (a7 bI (a7 bZ (pv 0) (pv 4) (λ_ _=>rfl)) ar (λ_ _=>rfl)) (pv 3) (bx _)) (jd (iN (dJ (aE (cX rfl) rfl T.all boot_all (ab (aV ["_law_part"] [(2,"_law_seen")] rfl (dQ (a7 bI (a7 bZ (pv 0) (pv 4) (λ_ _=>rfl)) ar (λ_ _=>rfl))) (aP rfl rfl) nofun rfl nofun
     (λ_ _ _ _ _=>aq (i:=0) (show (["_law_part","_law_seen"]:List Str).Nodup by decide +kernel) rfl (aZ rfl)) (λ_ _ _ _ _=>a0) (λ_ _ _ _ _=>dw (dF K) (pv 0) (pv 1) rfl)) ai))))))) (ao (aL cI)) aI)
   (ao (du (ix ir iu iw cA (pv 2) (ab (pv 3) ai)))))))
  (ao (aL cI))),?_⟩
 nofun
 have ll:=bc cy;have PB:=bc NU;refine⟨RP,λM hM=>?_⟩;obtain⟨k1,e1⟩:=gb hM (.lst []);generalize upd H M (.lst [])=H1 at k1 e1;refine⟨_,rfl,L,rfl,⟨_,k1.seq hL⟩,?_⟩
 let Nv:lW:=λi σ H5=>∃(a:List Str)(y3 y4:Option V),σ=[aD R,aD L,aD M,y3,y4]/\aC H H5/\H5 M=some (.lst (a.map V.str))/\a.length<=i/\mz aa es []=mz aa (es.drop i) a
 refine cq (xs:=ts.map V.ref) Nv ⟨[],none,none,rfl,k1,e1,gG _,by rw [mW]⟩ ?_ ?_ ?_
 .rintro i σ H5 _ ⟨a,y3,y4,rfl,s5,_⟩;exact s5.seq hL
 .intro i x σ H5 ex iV
  ac_nf0
  obtain⟨a,y3,y4,rfl,s5,eM,lk,inv⟩:=iV;rw [a9] at ex;obtain⟨t,et,rfl⟩:=b_.mp ex;have li:=(bf.mp et).1;obtain⟨e,ek⟩:∃e,es[i]?=some e:=⟨es[i]'∅,dI ∅⟩;obtain⟨t',sG,vt⟩:=Paired.at_ NU i e ek;rw [et] at sG;cases sG;have st:=uh (aa:=aa) ek a;rw [<-inv] at st;refine⟨t,_,rfl,s5.tup vt,rfl,_,_,rfl,_,_,rfl,rfl,?_⟩;have bad:pN aa e.2=none->mz aa es []=false:=λz=>by rw [st,z]
  refine⟨_,rfl,_,_,rfl,rfl,_,rfl,?_⟩;refine bJ (λc=>?_) (λc=>?_)
  .have c':e.2 < 0:=cw c;refine fC ?_;rw [bad (by unfold pN;rw [az ∅])] at q;exact q H5 s5
  have c0:¬e.2 < 0:=λy=>c (cf y);refine⟨_,rfl,_,rfl,R,_,rfl,.inl (s5.seq hR),_,_,rfl,rfl,_,rfl,?_⟩;rw [au,ll];refine bJ (λc=>?_) (λc=>?_)
  .have c':(aa.length:Int)<=e.2:=cw c;refine fC ?_;rw [bad (by unfold pN;rw [ax ∅];exact tU ∅)] at q;exact q H5 s5
  have c1:¬(aa.length:Int)<=e.2:=λy=>c (cf y);obtain⟨ru,ra⟩:∃ru,pN aa e.2=some ru:=⟨aa[e.2.toNat]'∅,by unfold pN;rw [ax ∅];exact dI ∅⟩;rw [ra] at st;have st:mz aa es []=(!decide (e.1∈a) && (decide (ru.1=e.1) && ((ru.2.all λp=>decide (p∈a)) && mz aa (es.drop (i+1)) (a++[e.1])))):=st;refine⟨_,rfl,_,rfl,M,_,rfl,.inl (aG.of eM),rfl,bO _,_,rfl,?_⟩;rw [az d5,di];cases da:decide (e.1∈a) with
  | true =>
   refine fC ?_;rw [st,da] at q;exact q H5 s5
  | false =>
  refine dM ?_;rw [da,Bool.not_false,iX] at st;obtain⟨k,M5,qz⟩:=ju ra;obtain⟨r,er,p,v1,v2⟩:=Paired.at_ cy k ru qz;have h6:=jj.uL ru (b9 qz);have sY:lV (rs.map V.ref) e.2=some (.ref r):=by rw [M5];exact bT (by rw [a9,er];rfl)
  refine⟨_,rfl,_,rfl,R,_,_,_,rfl,rfl,s5.seq hR,sY,r,_,_,_,rfl,rfl,s5.tup v1,rfl,_,rfl,rfl,_,rfl,?_⟩;rw [Oh];cases dn:decide (ru.1=e.1) with
  | false =>
   rw [dn,iY] at st;refine fC ?_;rw [st] at q;exact q H5 s5
  | true =>
  rw [dn,iX] at st;refine dM ?_;refine⟨_,rfl,_,rfl,R,_,_,_,rfl,rfl,s5.seq hR,sY,r,_,_,_,rfl,rfl,s5.tup v1,rfl,p,rfl,⟨_,s5.tup v2⟩,λD9 ow=>fh (zs:=ru.2) [aD M] (λz=>decide (z∈a)) rfl (s5.tup v2) ∅ ow (λz _ HA Qy sA hq=>?_) λH9 s9 e9=>?_⟩
  .refine⟨_,rfl,_,rfl,M,_,rfl,.inl (aG.of (sA _ _ eM)),rfl,bO _,?_⟩;rw [di];exact hq
  refine⟨D9,_,rfl,aG.of e9,_,rfl,?_⟩;rw [all_map];have JX:=s5.trans s9;cases hc:ru.2.all λp=>decide (p∈a) with
  | false =>
   refine fC ?_;rw [st,hc,iY] at q;exact q H9 JX
  | true =>
   refine dM ?_;refine⟨_,rfl,.inl ⟨rfl,_,aG.of (s9 _ _ eM)⟩,_,rfl,M,_,_,rfl,rfl,s9 _ _ eM,bD (by rw [au];omega),?_⟩;refine⟨a++[e.1],_,_,rfl,λb o hb=>?_,by rw [ae,bA];rfl,by rw [bW,gP];omega,by rw [st,hc];rfl⟩;rw [ak (λz=>by rw [z,hM] at hb;cases hb)];exact JX b o hb
 rintro σ H5 ⟨a,y3,y4,rfl,s5,eM,lk,inv⟩;rw [au,PB,qO] at inv;rw [inv] at q;exact q H5 s5
def nK:aK ["_law_rules","_law_names_here","_law_number","_law_head","_law_parts"] ["_law_rules","_law_names_here"] (ay vS):=iz rfl rfl rfl rfl nofun
def Cu (F:hV K "_law_empty_lacks" "_law_empty_lacks" vS f fd)(T:Txt mg):bV P w K mg base fK 1 f fd ["_law_rules","_law_names_here"] (qm K):=by
 refine F.ok nK (λvs H Q E h=>?_) (λeX A outer s H vs Q E hr h=>?_)
 .obtain⟨R,N,rs,aa,ns,rfl,_⟩:=h;rfl
 obtain⟨R,N,rs,aa,ns,rfl,hR,cy,jj,hN,F7,q⟩:=h;have Mr:=jj.most;refine⟨_,ag (bE bX rfl (fY rfl T.Bk (ab (aE aS rfl T.len dZ (ab (pv 0) ai)) ai)) (aq (i:=2) nK.nd rfl (aZ rfl))
   (ag (zF (a7 bZ (pv 0) (pv 2) (λ_ _=>rfl)) (dD rfl (av (aq (i:=3) nK.nd rfl (aZ rfl)) (av (aq (i:=4) nK.nd rfl (aZ rfl)) bo))))
   (ao (bz (PW.pt (ig (aQ iB (pv 3) (pv 1) rfl) (gA (dJ (aE (cX rfl) rfl T.all boot_all (ab (aV ["_law_part"] [(1,"_law_names_here")] rfl (dQ (pv 4)) (aP rfl rfl) nofun rfl nofun
     (λ_ _ _ _ _=>aq (i:=0) (show (["_law_part","_law_names_here"]:List Str).Nodup by decide +kernel) rfl (aZ rfl)) (λ_ _ _ _ _=>a0) (λ_ _ _ _ _=>dw (dF K) (pv 0) (pv 1) rfl)) ai)))))) (ao (aL (pv 2))) aI))))
  (ao (aL wa)),?_⟩
 nofun
 have ll:=bc cy;refine⟨_,rfl,R,_,rfl,.inl hR,_,rfl,by rw [au];omega,by rw [au];omega,?_⟩;rw [au,ll,iJ]
 let Xy:lW:=λi σ H5=>∃(y2 y3 y4:Option V),σ=[aD R,aD N,y2,y3,y4]/\aC H H5/\KH (aa.take i) ns=true
 refine fZ (n:=aa.length) Xy ⟨none,none,none,rfl,aC.refl _,rfl⟩ ?_ ?_
 .intro i σ H5 hi iV
  ac_nf0
  obtain⟨y2,y3,y4,rfl,s5,inv⟩:=iV;obtain⟨ru,qz⟩:∃ru,aa[i]?=some ru:=⟨_,dI hi⟩;obtain⟨r,er,p,v1,v2⟩:=Paired.at_ cy i ru qz;have h6:=jj.uL ru (b9 qz);have sY:lV (rs.map V.ref) (0+(i:Int))=some (.ref r):=by rw [iW];exact bT (by rw [a9,er];rfl)
  have tk:=yo (ns:=ns) qz;refine goN ?_
  ac_rfl
  refine⟨_,rfl,_,rfl,R,_,_,_,rfl,rfl,s5.seq hR,sY,r,_,rfl,s5.tup v1,rfl,_,_,rfl,_,_,rfl,rfl,?_⟩;refine⟨_,rfl,_,rfl,N,_,rfl,.inl (s5.seq hN),rfl,bO _,_,rfl,?_⟩;rw [ax rfl,di];cases da:decide (ru.1∈ns) with
  | true =>
   refine dM (dM ?_);exact⟨_,_,_,rfl,s5,by rw [tk,inv,da];rfl⟩
  | false =>
   refine fC ?_;refine⟨_,rfl,p,rfl,⟨_,s5.tup v2⟩,λD9 ow=>fh (zs:=ru.2) [aD N] (λz=>decide (z∈ns)) rfl (s5.tup v2) ∅ ow (λz _ HA Qy sA hq=>?_) λH9 s9 e9=>?_⟩
   .refine⟨_,rfl,_,rfl,N,_,rfl,.inl (sA.seq (s5.seq hN)),rfl,bO _,?_⟩;rw [di];exact hq
   refine⟨D9,_,rfl,aG.of e9,_,rfl,?_⟩;rw [all_map];cases hc:ru.2.all λp=>decide (p∈ns) with
   | true =>
    refine fC ?_;refine⟨_,rfl,?_⟩;have:=(q H9 (s5.trans s9)).2 i ⟨inv,ru,qz,by simpa using da,λx hx=>cw (dN.mp hc x hx)⟩;rw [iW];exact this
   | false =>
    refine dM ?_;exact⟨_,_,_,rfl,s5.trans s9,by rw [tk,inv,hc];simp⟩
 rintro σ H5 ⟨y2,y3,y4,rfl,s5,inv⟩;rw [cv] at inv;exact(q H5 s5).1 inv
end
end gY
namespace L2
open PySem
section
variable {κ:Type} [DecidableEq κ]
def G4 (kvs:List (κ×V))(k:κ):(kvs.any λkv=>decide (kv.1=k))=true↔k∈kvs.map (·.1):=by
 rw [List.any_eq_true];constructor
 .rintro⟨kv,h,e⟩;exact cx.mpr ⟨kv,h,cw e⟩
 intro h;obtain⟨kv,h,e⟩:=cx.mp h;exact⟨kv,h,cf e⟩
def xA {kvs:List (κ×V)}{k:κ}{v:V}(h:¬k∈kvs.map (·.1)):(bM kvs k v).map (·.1)=kvs.map (·.1)++[k]:=by
 unfold bM;rw [az (λz=>h ((G4 kvs k).mp z)),bA];rfl
def DY (kvs:List (κ×V))(k:κ):(bh kvs k).isSome=true↔k∈kvs.map (·.1):=by
 unfold bh;rw [pH,List.find?_isSome];constructor
 .rintro⟨kv,h,e⟩;exact cx.mpr ⟨kv,h,cw e⟩
 intro h;obtain⟨kv,h,e⟩:=cx.mp h;exact⟨kv,h,cf e⟩
end
end L2
namespace gY
open PySem L2 M11
abbrev vY:Stmt:=top 11
noncomputable def kP (p:Str×Str):List aT:=[Sum.inr p.1,Sum.inr p.2]
def FV {a:List (Str×Str)}{x w:Str}:([Sum.inr x,Sum.inr w]:List aT)∈a.map kP↔(x,w)∈a:=by
 rw [cx];constructor
 .rintro⟨p,h,e⟩;unfold kP at e;injection e with e1 e2;injection e2 with e2 _;injection e1 with e1;injection e2 with e2;rw [<-e1,<-e2];exact h
 exact λh=>⟨_,h,rfl⟩
def uz {kvs:List (List aT×V)}{a:List (Str×Str)}(h:kvs.map (·.1)=a.map kP)(x w:Str):(bh kvs [Sum.inr x,Sum.inr w]).isSome=decide ((x,w)∈a):=by
 rw [gi,DY,decide_eq_true_iff,h];exact FV
abbrev B4:=Str×Str×Int×Int
noncomputable def ib (aa:List aw) (ns:List Str)(a:List (Str×Str))(ru:aw)(nm w:Str) (pl:Int):Bool:=!decide ((nm,w)∈a) && (decide (ru.1=nm) && (decide (0<=pl/\pl < (ru.2.length:Int)) && ((ru.2.take pl.toNat).all (λx=>decide (x∈ns)) && ((decide (ru.2.getD pl.toNat ""=w) && !decide (w∈hm aa)) || decide ((ru.2.getD pl.toNat "",w)∈a)))))
noncomputable def kQ (aa:List aw) (ns:List Str):List B4->List (Str×Str)->Bool
 | [],_=>true
 | b::r,a=>match pN aa b.2.2.1 with
  | none=>false
  | some ru=>ib aa ns a ru b.1 b.2.1 b.2.2.2 && kQ aa ns r (a++[(b.1,b.2.1)])
def ui {aa:List aw}{ns:List Str}{bs:List B4}{i:Nat}{b:B4}(e:bs[i]?=some b)(a:List (Str×Str)):kQ aa ns (bs.drop i) a=match pN aa b.2.2.1 with
  | none=>false
  | some ru=>ib aa ns a ru b.1 b.2.1 b.2.2.2 && kQ aa ns (bs.drop (i+1)) (a++[(b.1,b.2.1)]):=by
 have li:=(bf.mp e).1;have e2:bs.drop i=b::bs.drop (i+1):=by
  rw [List.drop_eq_getElem_cons li]
  congr 1
  exact(bf.mp e).2
 rw [e2];rfl
section
def RG (K:bp)(H:Hp)(t:Addr)(b:B4):Prop:=a_ K H t [.str b.1,.str b.2.1,.int b.2.2.1,.int b.2.2.2]
def nF (K:bp):Sp:=λvs H Q _=>∃(R N L:Addr)(rs ts:List Addr)(aa:List aw) (ns:List Str)(bs:List B4),vs=[.ref R,.ref N,.ref L]/\aG K H R (rs.map V.ref)/\bQ K H rs aa/\Small aa/\aG K H N (ns.map V.str)/\ns.length<=1000/\aG K H L (ts.map V.ref)/\Paired (RG K H) ts bs/\bs.length<=1000/\∀H',aC H H'->Q (.bl (kQ aa ns bs [])) H'
def gq:aK ["rules","names","told","heads","empty","ahead","name","word","number","place","parts","itself"] ["rules","names","told"] (ay vY):=iz rfl rfl rfl rfl nofun
def Cz (F:hV K "begins_stand" "begins_stand" vY f fd)(T:Txt mg)(GH:aF P w K mg base 2 "heads_of" ["rules"] (i5 K))(GR:aF P w K mg base 2 "is_rule_of" ["rules","number","name"] (ro K))(GB:aF P w K mg base 2 "is_number_below" ["number","many"] vH):bV P w K mg base fK 3 f fd ["rules","names","told"] (nF K):=by
 refine F.ok gq (λvs H Q E h=>?_) (λeX A outer s H vs Q E hr h=>?_)
 .obtain⟨R,N,L,rs,ts,aa,ns,bs,rfl,_⟩:=h;rfl
 obtain⟨R,N,L,rs,ts,aa,ns,bs,rfl,hR,cy,jj,hN,F7,hL,F1,hbl,q⟩:=h;have hu:=fu hr;have bu:aa.length<=1000:=by have:=jj.most;omega
 refine⟨_,ag (aA (i:=3) gq.nd rfl (aZ rfl) (aX (cV rfl) rfl T.wO dS (ab (aV ["name"] [] rfl (aR (bq GH hr rfl (ab (pv 0) ai))) (aP rfl rfl) nofun rfl nofun
    (λ_ _ _ _ _=>aq (i:=0) (show (["name"]:List Str).Nodup by decide +kernel) rfl (aZ rfl)) (λ_ _ _ _ _=>a0) (λ_ _ _ _ _=>bC (ab (pv 0) (ab cI ai)))) ai)))
  (ag (aA (i:=4) gq.nd rfl (Or.inr rfl) (aX (cV rfl) rfl T.wO dS (ab (aV ["name"] [] rfl (aR (pv 1)) (aP rfl rfl) nofun rfl nofun
    (λ_ _ _ _ _=>aq (i:=0) (show (["name"]:List Str).Nodup by decide +kernel) rfl (aZ rfl)) (λ_ _ _ _ _=>a0) (λ_ _ _ _ _=>bC (ab (pv 0) (ab cI ai)))) ai)))
  (ag (aA (i:=5) gq.nd rfl (aZ rfl) Fc)
  (ag (bE bX rfl (aR (pv 2)) (dD rfl (av (aq (i:=6) gq.nd rfl (aZ rfl)) (av (aq (i:=7) gq.nd rfl (aZ rfl)) (av (aq (i:=8) gq.nd rfl (aZ rfl)) (av (aq (i:=9) gq.nd rfl (aZ rfl)) bo)))))
   (ag (bz (PW.pt (jv (dP (gW hu (bC (ab (pv 6) (ab (pv 7) ai))) (pv 5))) (jd (iN (dJ (bq GR hr rfl (ab (pv 0) (ab (pv 8) (ab (pv 6) ai))))))))) (ao (aL cI)) aI)
   (ag (aA (i:=10) gq.nd rfl (aZ rfl) (a7 bI (a7 bZ (pv 0) (pv 8) (λ_ _=>rfl)) ar (λ_ _=>rfl)))
   (ag (bz (PW.pt (jv (iN (dJ (bq GB hr rfl (ab (pv 9) (ab (aE aS rfl T.len dZ (ab (pv 10) ai)) ai))))) (jd (iN (dJ (aE (cX rfl) rfl T.all boot_all (ab (aV ["part"] [(4,"empty")] rfl (dQ (bY gw (pv 10) cO (cN (pv 9)))) (aP rfl rfl) nofun rfl nofun
     (λ_ _ _ _ _=>aq (i:=0) (show (["part","empty"]:List Str).Nodup by decide +kernel) rfl (aZ rfl)) (λ_ _ _ _ _=>a0) (λ_ _ _ _ _=>mH (gW hu (pv 0) (pv 1)))) ai))))))) (ao (aL cI)) aI)
   (ag (gU (aA (i:=11) gq.nd rfl (aZ rfl) (jT (dw gJ (a7 bI (pv 10) (pv 9) (λ_ _=>rfl)) (pv 7) (bx _)) (jS (mH (df hu (pv 7) (pv 3)))))))
   (ag (bz (PW.pt (ig (iN (dJ (pv 11))) (gA (dP (df hu (bC (ab (a7 bI (pv 10) (pv 9) (λ_ _=>rfl)) (ab (pv 7) ai))) (pv 5)))))) (ao (aL cI)) aI)
   (ao (fV hu (pv 5) (bC (ab (pv 6) (ab (pv 7) ai))) cI rfl))))))))
  (ao (aL cI))))),?_⟩
 nofun
 have ll:=bc cy;have UN:=bc F1;refine⟨_,rfl,R,rs,aa,rfl,hR,cy,bu,λD0 H0 f0 s0 e0=>?_⟩;have Mg:=hU (aa.map (·.1)) [];rw [jl,au] at Mg;refine⟨D0,rfl,⟨_,aG.of e0⟩,λD1 MO=>lJ (aG.of e0) ∅ MO λt1 H1 s1 DK Pd=>?_⟩;refine⟨D1,t1,_,rfl,DK,Pd,λd1 tP=>?_⟩;have Qs:=ic (lU [] (aa.map (·.1))) [] [] rfl;generalize cM ((lU [] (aa.map (·.1))).map λz=>((Sum.inr z:aT),V.bl true)) []=xb at Qs;have UH:∀z,(bh xb (Sum.inr z)).isSome=decide (z∈hm aa):=λz=>by
  rw [mem_keys Qs,gi,decide_eq_true_iff,decide_eq_true_iff,iS,iS];simp
 have s2:=(s0.trans s1).trans (af tP (.dK xb));have e2:upd H1 d1 (.dK xb) d1=some (.dK xb):=ae;generalize upd H1 d1 (.dK xb)=H2 at s2 e2;refine⟨_,rfl,N,rfl,⟨_,s2.seq hN⟩,λD3 Jr=>lJ (s2.seq hN) F7 Jr λt3 H3 s3 BI pr3=>?_⟩;refine⟨D3,t3,_,rfl,BI,pr3,λd2 hd2=>?_⟩;have yI:=ic ns [] [] rfl;generalize cM (ns.map λz=>((Sum.inr z:aT),V.bl true)) []=Jb at yI;have mk2:∀z,(bh Jb (Sum.inr z)).isSome=decide (z∈ns):=λz=>by
  rw [mem_keys yI,gi,decide_eq_true_iff,decide_eq_true_iff,iS];simp
 have k4:=s3.trans (af hd2 (.dK Jb));have e4:upd H3 d2 (.dK Jb) d2=some (.dK Jb):=ae;generalize upd H3 d2 (.dK Jb)=H4 at k4 e4;have s4:=s2.trans k4;have e42:=k4 _ _ e2;intro d hd;obtain⟨k5,e5⟩:=gb hd (.dT []);have e51:=k5 _ _ e42;have e52:=k5 _ _ e4;generalize upd H4 d (.dT [])=H5 at k5 e5 e51 e52;have s5:=s4.trans k5;have uM:H d=none:=s4.free hd;have nd1:d1≠d:=λz=>by rw [<-z,e42] at hd;cases hd
 have CD:d2≠d:=λz=>by rw [<-z,e4] at hd;cases hd
 refine⟨_,rfl,L,rfl,⟨_,s5.seq hL⟩,?_⟩
 let oo:lW:=λi σ H6=>∃(a:List (Str×Str))(kvs:List (List aT×V))(y6 y7 y8 y9 i4 NC:Option V),σ=[aD R,aD N,aD L,aD d1,aD d2,aD d,y6,y7,y8,y9,i4,NC]/\aC H H6/\H6 d1=some (.dK xb)/\H6 d2=some (.dK Jb)/\H6 d=some (.dT kvs)/\kvs.map (·.1)=a.map kP/\kvs.length<=i/\kQ aa ns bs []=kQ aa ns (bs.drop i) a
 refine cq (xs:=ts.map V.ref) oo ⟨[],[],none,none,none,none,none,none,rfl,s5,e51,e52,e5,rfl,aU _,rfl⟩ ?_ ?_ ?_
 .rintro i σ H6 _ ⟨a,kvs,y6,y7,y8,y9,i4,NC,rfl,s6,_⟩;exact s6.seq hL
 .intro i x σ H6 ex iV
  ac_nf0
  obtain⟨a,kvs,y6,y7,y8,y9,i4,NC,rfl,s6,ZX,ZW,ed,hk,lk,inv⟩:=iV;rw [a9] at ex;obtain⟨t,et,rfl⟩:=b_.mp ex;have li:=(bf.mp et).1;obtain⟨b,eb⟩:∃b,bs[i]?=some b:=⟨bs[i]'∅,dI ∅⟩;obtain⟨t',sG,vt⟩:=Paired.at_ F1 i b eb;rw [et] at sG;cases sG;have st:=ui (aa:=aa) (ns:=ns) eb a;refine⟨t,_,rfl,s6.tup vt,rfl,_,_,rfl,_,_,rfl,_,_,rfl,_,_,rfl,rfl,?_⟩;refine⟨_,rfl,_,rfl,Ca,λu1 Ah=>?_⟩;have k7:=af Ah (.tup [V.str b.1,V.str b.2.1]);have uN:upd H6 u1 (.tup [V.str b.1,V.str b.2.1]) u1=some (.tup ([Sum.inr b.1,Sum.inr b.2.1].map kV)):=ae;generalize upd H6 u1 (.tup [V.str b.1,V.str b.2.1])=H7 at k7 uN;have s7:=s6.trans k7;refine⟨_,rfl,d,_,rfl,b0.t (k7 _ _ ed) uN,_,rfl,?_⟩;rw [uz hk];have O7:pN aa b.2.2.1=none->∀H',aC H H'->Q (.bl false) H':=λz H' s'=>by
   rw [inv,st,z] at q;exact q H' s'
  refine bJ (λc=>?_) (λc=>?_)
  .refine fC ?_;cases ra:pN aa b.2.2.1 with
   | none=>exact O7 ra H7 s7
   | some ru =>
    rw [inv,st,ra] at q;have z:ib aa ns a ru b.1 b.2.1 b.2.2.2=false:=by unfold ib;rw [c];rfl
    have q:=q H7 s7;simp only [z,iY] at q;exact q
  have c':decide ((b.1,b.2.1)∈a)=false:=by simpa using c
  refine⟨_,rfl,_,rfl,_,rfl,R,rs,aa,b.2.2.1,b.1,rfl,s7.seq hR,cy.same s7,_,rfl,?_⟩;unfold Jf;cases ra:pN aa b.2.2.1 with
  | none =>
   refine fC ?_;exact O7 ra H7 s7
  | some ru =>
  rw [ra] at st;have st:kQ aa ns (bs.drop i) a=(ib aa ns a ru b.1 b.2.1 b.2.2.2 && kQ aa ns (bs.drop (i+1)) (a++[(b.1,b.2.1)])):=st;have no:ib aa ns a ru b.1 b.2.1 b.2.2.2=false->∀H',aC H H'->Q (.bl false) H':=λz H' s'=>by
   rw [inv,st,z,iY] at q;exact q H' s'
  obtain⟨kn,Wh,qz⟩:=ju ra;obtain⟨r,er,p,v1,v2⟩:=Paired.at_ cy kn ru qz;have HJ:=jj.uL ru (b9 qz);have sY:lV (rs.map V.ref) b.2.2.1=some (.ref r):=by rw [Wh];exact bT (by rw [a9,er];rfl)
  show if (!decide (ru.1=b.1))=true then _ else _;cases dn:decide (ru.1=b.1) with
  | false =>
   refine fC ?_;exact no (by unfold ib;rw [dn];simp) H7 s7
  | true =>
  refine dM ?_;refine⟨_,rfl,_,rfl,R,_,_,_,rfl,rfl,s7.seq hR,sY,r,_,_,_,rfl,rfl,s7.tup v1,rfl,?_⟩;refine⟨_,rfl,_,rfl,p,_,rfl,.inr (s7.tup v2),b.2.2.2,(ru.2.map V.str).length,rfl,_,rfl,?_⟩;rw [au];cases cl:decide (0<=b.2.2.2/\b.2.2.2 < (ru.2.length:Int)) with
  | false =>
   refine fC ?_;refine fC ?_;exact no (by unfold ib;rw [cl];simp) H7 s7
  | true =>
  have lb0:=cw cl;obtain⟨pn,tK⟩:∃pn:Nat,b.2.2.2=(pn:Int):=⟨b.2.2.2.toNat,∅⟩;have Gu:b.2.2.2.toNat=pn:=by omega
  have lb:pn < ru.2.length:=by omega
  refine dM ?_;refine⟨_,rfl,_,rfl,_,rfl,p,_,rfl,s7.tup v2,λp2 H8 s8 DF=>?_⟩;have cut:fI (ru.2.map V.str) none (some b.2.2.2)=(ru.2.take pn).map V.str:=by
   rw [tK];unfold fI;rw [show HT.fR (ru.2.map V.str).length 0 none=0 from rfl,HT.jP,mW,ml,kI,<-qV]
  rw [cut] at DF;have EN:=s7.trans s8;have Wm:=s8 _ _ (k7 _ _ ed);have Wn:=s8 _ _ (k7 _ _ ZX);have Q2:=s8 _ _ (k7 _ _ ZW);refine⟨p2,rfl,⟨_,DF⟩,λD9 ow=>jG rfl DF (by rw [dr];omega) Q2 ow λH9 s9 e9=>?_⟩;have ce:(List.map (λz=>(bh Jb (Sum.inr z)).isSome) (ru.2.take pn)).all id=(ru.2.take pn).all λx=>decide (x∈ns):=by
   rw [all_map]
   congr 1
   funext z
   exact mk2 z
  have Ce:=EN.trans s9;have Jw:=s9 _ _ Wm;have M8:=s9 _ _ Wn;have Q0:=s9 _ _ Q2;refine⟨D9,_,rfl,aG.of e9,_,rfl,?_⟩;rw [ce];cases ca:(ru.2.take pn).all λx=>decide (x∈ns) with
  | false =>
   refine fC ?_;exact no (by unfold ib;rw [Gu];rw [ca];simp) H9 Ce
  | true =>
  refine dM ?_;have gd:ru.2.getD pn ""=ru.2[pn]:=by rw [ni,dI lb];rfl
  have DM:lV (ru.2.map V.str) b.2.2.2=some (.str ru.2[pn]):=by rw [tK];exact bT (by rw [a9,dI lb];rfl)
  have J_:ib aa ns a ru b.1 b.2.1 b.2.2.2=((decide (ru.2[pn]=b.2.1) && !decide (b.2.1∈hm aa)) || decide ((ru.2[pn],b.2.1)∈a)):=by
   unfold ib;rw [c',dn,cl,Gu,ca,gd];rfl
  generalize ru.2[pn]=pt at DM J_;have fin:∀(y:V)(HA:Hp),aC H9 HA->ib aa ns a ru b.1 b.2.1 b.2.2.2=true->HA d=some (.dT kvs)->HA d1=some (.dK xb)->HA d2=some (.dK Jb)->∀u2,HA u2=none->∃(a2:List (Str×Str))(fq:List (List aT×V))(y6 y7 y8 y9 i4 NC:Option V),[aD R,aD N,aD L,aD d1,aD d2,aD d,some (.str b.1),some (.str b.2.1),some (.int b.2.2.1),some (.int b.2.2.2),aD p,some y]=[aD R,aD N,aD L,aD d1,aD d2,aD d,y6,y7,y8,y9,i4,NC]/\aC H (upd (upd HA u2 (.tup [V.str b.1,V.str b.2.1])) d (.dT (bM kvs [Sum.inr b.1,Sum.inr b.2.1] (.bl true))))/\upd (upd HA u2 (.tup [V.str b.1,V.str b.2.1])) d (.dT (bM kvs [Sum.inr b.1,Sum.inr b.2.1] (.bl true))) d1=some (.dK xb)/\upd (upd HA u2 (.tup [V.str b.1,V.str b.2.1])) d (.dT (bM kvs [Sum.inr b.1,Sum.inr b.2.1] (.bl true))) d2=some (.dK Jb)/\upd (upd HA u2 (.tup [V.str b.1,V.str b.2.1])) d (.dT (bM kvs [Sum.inr b.1,Sum.inr b.2.1] (.bl true))) d=some (.dT fq)/\fq.map (·.1)=a2.map kP/\fq.length<=i+1/\kQ aa ns bs []=kQ aa ns (bs.drop (i+1)) a2:=λy HA sA LR eA eA1 SO u2 xU=>by
   have kk:=af xU (.tup [V.str b.1,V.str b.2.1]);have R7:¬([Sum.inr b.1,Sum.inr b.2.1]:List aT)∈kvs.map (·.1):=by rw [hk];exact λz=>(by simpa using c':(b.1,b.2.1)∉a) (FV.mp z)
   refine⟨a++[(b.1,b.2.1)],_,_,_,_,_,_,_,rfl,λc o hb=>?_,?_,?_,ae,?_,?_,?_⟩
   .rw [ak (λz=>by rw [z,uM] at hb;cases hb)];exact kk _ _ (sA _ _ (Ce c o hb))
   .rw [ak nd1];exact kk _ _ eA1
   .rw [ak CD];exact kk _ _ SO
   .rw [xA R7,hk,bA];rfl
   .have:=congrArg List.length (xA (v:=.bl true) R7);rw [au,bW,au,gP] at this;omega
   rw [inv,st,LR];rfl
  refine⟨λσ HA=>∃P0:Bool,H9=HA/\P0=(decide (pt=b.2.1) && !decide (b.2.1∈hm aa))/\σ=[aD R,aD N,aD L,aD d1,aD d2,aD d,some (.str b.1),some (.str b.2.1),some (.int b.2.2.1),some (.int b.2.2.2),aD p,some (.bl P0)],?_,?_⟩
  .refine⟨_,rfl,_,rfl,p,_,_,_,rfl,rfl,Ce.tup v2,DM,_,rfl,rfl,decide (V.str pt=V.str b.2.1),rfl,?_⟩;rw [Oh];refine bJ (λc1=>?_) (λc1=>?_)
   .refine⟨_,rfl,_,rfl,d1,_,rfl,b0.k (k:=Sum.inr b.2.1) M8,?_⟩;refine⟨_,rfl,?_,rfl⟩;rw [c1,UH];rfl
   refine⟨_,rfl,?_,rfl⟩;have SU:decide (pt=b.2.1)=false:=by simpa using c1
   rw [SU];rfl
  rintro σ HA ⟨P0,rfl,ZS,rfl⟩;refine⟨_,rfl,P0,rfl,?_⟩;cases P0 with
  | true =>
   refine dM ?_;refine dM ?_;have LR:ib aa ns a ru b.1 b.2.1 b.2.2.2=true:=by rw [J_,<-ZS];rfl
   refine⟨_,rfl,_,rfl,_,rfl,Ca,λu2 xU=>?_⟩;refine⟨d,_,rfl,j6.t (k:=[Sum.inr b.1,Sum.inr b.2.1]) ((af xU _) _ _ Jw) ae (bD ∅),?_⟩;exact fin _ H9 (aC.refl _) LR Jw M8 Q0 u2 xU
  | false =>
   refine fC ?_;refine⟨_,rfl,_,rfl,p,_,_,_,rfl,rfl,Ce.tup v2,DM,_,rfl,Ca,λu2 xU=>?_⟩;have kA:=af xU (.tup [V.str pt,V.str b.2.1]);have ZD:upd H9 u2 (.tup [V.str pt,V.str b.2.1]) u2=some (.tup ([Sum.inr pt,Sum.inr b.2.1].map kV)):=ae;generalize upd H9 u2 (.tup [V.str pt,V.str b.2.1])=HA at kA ZD;refine⟨_,rfl,d,_,rfl,b0.t (kA _ _ Jw) ZD,_,rfl,?_⟩;rw [uz hk];cases cm:decide ((pt,b.2.1)∈a) with
   | false =>
    refine fC ?_;exact no (by rw [J_,<-ZS,cm];rfl) HA (Ce.trans kA)
   | true =>
    refine dM ?_;have LR:ib aa ns a ru b.1 b.2.1 b.2.2.2=true:=by rw [J_,cm,Bool.or_true]
    refine⟨_,rfl,_,rfl,_,rfl,Ca,λu3 Y4=>?_⟩;refine⟨d,_,rfl,j6.t (k:=[Sum.inr b.1,Sum.inr b.2.1]) ((af Y4 _) _ _ (kA _ _ Jw)) ae (bD ∅),?_⟩;exact fin _ HA kA LR (kA _ _ Jw) (kA _ _ M8) (kA _ _ Q0) u3 Y4
 rintro σ H6 ⟨a,kvs,y6,y7,y8,y9,i4,NC,rfl,s6,ZX,ZW,ed,hk,lk,inv⟩;rw [au,UN,qO] at inv;rw [inv] at q;exact q H6 s6
end
end gY
namespace L2
open PySem PySem.Spec PyProof.Rows
noncomputable def Gs:List V->List V->Bool
 | [],[]=>true
 | x::xs,y::ys=>qe x y && Gs xs ys
 | _,_=>false
theorem pq:∀(xs ys:List V),((List.range (min xs.length ys.length)).all (λj=>qe (xs.getD j .eZ) (ys.getD j .eZ)) && (xs.length == ys.length))=Gs xs ys
 | [],[]=>rfl
 | [],y::ys=>by simp [Gs]
 | x::xs,[]=>by simp [Gs]
 | x::xs,y::ys=>by
  have ih:=pq xs ys;show _=(qe x y && Gs xs ys);rw [<-ih,fc,fc,Nat.succ_min_succ,List.range_succ_eq_map,List.all_cons,List.all_map];simp only [Function.comp_def,List.getD_cons_zero,List.getD_cons_succ,Nat.succ_eq_add_one];rw [Bool.and_assoc]
  congr 2
  simp
def sr {A:Around}{s:Shared}{xs ys:List V}{aW dX:List Value}(r:bw xs aW)(r2:bw ys dX)(fx:xs.all iR=true)(fy:ys.all iR=true) (j:Nat)(h1:j < aW.toArray.size)(h2:j < dX.toArray.size) :
  SeqAt.EqAt A s aW.toArray[j] dX.toArray[j] (qe (xs.getD j .eZ) (ys.getD j .eZ)):=by
 have l1:=r.length;have l2:=r2.length;have k1:j < aW.length:=by simpa using h1
 have k2:j < dX.length:=by simpa using h2
 have g1:xs[j]?=some (xs[j]'∅):=dI ∅;have g2:ys[j]?=some (ys[j]'∅):=dI ∅;obtain⟨u1,e1,q1⟩:=r.get g1;obtain⟨u2,e2,q2⟩:=r2.get g2;have f1:aW.toArray[j]=u1:=by
  have:=(bf.mp e1).2;simpa using this
 have f2:dX.toArray[j]=u2:=by
  have:=(bf.mp e2).2;simpa using this
 rw [f1,f2];have d1:xs.getD j .eZ=xs[j]'∅:=by rw [ni,g1];rfl
 have d2:ys.getD j .eZ=ys[j]'∅:=by rw [ni,g2];rfl
 rw [d1,d2];exact Au q1 q2 (dN.mp fx _ (qP _)) (dN.mp fy _ (qP _))
def rTT (K:bp)(neg:Bool):R2:=λx y H Q=>∃a b xs ys,x=.ref a/\y=.ref b/\a_ K H a xs/\a_ K H b ys/\xs.all iR=true/\ys.all iR=true/\Q (.bl (if neg then !Gs xs ys else Gs xs ys)) H
def IH {X:Cx}(hu:X.A.units < cLine):jH X (compareOp .NotEq) (rTT X.K true):=by
 intro aj s σ H x y v u Q I rx ry h;obtain⟨a,b,xs,ys,rfl,rfl,ha,hb,fx,fy,q⟩:=h;cases rx;cases ry;obtain⟨aW,r,pl,hz⟩:=I.tuple ha;obtain⟨dX,r2,w_,NS⟩:=I.tuple hb;have l1:=r.length;have l2:=r2.length;refine SeqAt.RcNeAt.tuples (e:=λj=>qe (xs.getD j .eZ) (ys.getD j .eZ)) pl w_ hu (λj h1 h2=>sr r r2 fx fy j h1 h2) X.prog X.w X.xe _ ?_;have e:((List.range (min aW.toArray.size dX.toArray.size)).all (λj=>qe (xs.getD j .eZ) (ys.getD j .eZ)) && aW.toArray.size == dX.toArray.size)=Gs xs ys:=by
  rw [<-pq];simp only [cH,<-l1,<-l2]
 rw [e];exact⟨.bl _,H,I,rfl,q⟩
def xG {X:Cx}(n:Nat)(hu:X.A.units+(n+1) < cLine):jH X (compareOp .Eq) (λx y H Q=>∃p q xs ys,x=.ref p/\y=.ref q/\a_ X.K H p xs/\a_ X.K H q ys/\Paired (Ny X.K H n) xs ys/\Q (.bl true) H):=by
 intro aj s σ H x y v u Q I rx ry h;obtain⟨a,b,xs,ys,rfl,rfl,ha,hb,p,q⟩:=h;cases rx;cases ry;obtain⟨aW,r,pl,hz⟩:=I.tuple ha;obtain⟨dX,r2,w_,NS⟩:=I.tuple hb;have l1:=r.length;have l2:=r2.length;have lp:=bc p;refine SeqAt.RcAt.tuples (e:=λ_=>true) pl w_ ∅ (λj h1 h2=>px r r2 p (λx y u v d r1 r2=>Ay I n X.A.in1 x y u v d r1 r2 (by rw [oF];omega)) j h1 h2) X.prog X.w X.xe _ ?_;have e:((List.range (min aW.toArray.size dX.toArray.size)).all (λ_=>true) && aW.toArray.size == dX.toArray.size)=true:=by
  have:aW.toArray.size=dX.toArray.size:=by simp only [cH];omega
  rw [this];simp
 rw [e];exact⟨.bl true,H,I,rfl,q⟩
def kS:Value->Str
 | .str z _=>z
 | _ => ""
def BX (P:Program)(w:World)(h:Heap)(a:Addr)(led:Bool) (ds:List Str):Prop:=∃(o:Obj)(es:Array (Int×Value)) (ep:Nat)(t:SetTable),h.get? a=some o/\o.ExactSet/\o.data=.set es ep t/\ElemsOf (strKind P w) es.toList/\(∀e∈es.toList,∃z k,e.2=.str z k)/\(es.toList.map λe=>kS e.2).Perm ds/\t.fits es.size=true/\t.led=led/\(0 < es.size->t.plain=false)
theorem BX.size {es:Array (Int×Value)}{ds:List Str}(h:(es.toList.map λe=>kS e.2).Perm ds):es.size=ds.length:=by
 rw [<-h.length_eq,au,qT]
def BX.at {P:Program}{w:World}{h h':Heap}{a:Addr}{led:Bool}{ds:List Str}(T:BX P w h a led ds)(k:∀o,h.get? a=some o->h'.get? a=some o):BX P w h' a led ds:=by
 obtain⟨o,es,ep,t,ho,r⟩:=T;exact⟨o,es,ep,t,k _ ho,r⟩
section
variable {P:Program}{w:World}{A:Around}{E:Value->Shared->Prop}{s:Shared}
end
section
variable {P:Program}{w:World}{A:Around}{R:Result->Shared->Prop}{I:Addr}{fp wr:List Addr}{G:Array GenState->Array GenState->Prop}{n:Nat}{Pv:Nat->Value->Prop}{St:Nat->Shared->Prop}
end
section
variable {P:Program}{w:World}{A:Around}{E:Value->Shared->Prop}{s:Shared}
end
section
variable {M:Model}{A:Around}{E:Value->Shared->Prop}
end
def Ry (h:Heap)(I S:Addr)(fst:Value) (i n ep:Nat):Prop:=∃o,h.get? I=some o/\o.cls=.type "set_iterator" /\ o.data=.fields #[fst,.int i 0,.ref S,.int n 0,.int ep 0]
abbrev WV (w:World):Bool:=w.params.followText "set-order"
def Rn (w:World)(h:Heap)(S:Addr)(es:Array (Int×Value)) (ep:Nat)(t:SetTable)(vals:List Value)(fst:Value) (i:Nat):Prop :=
 (WV w=true/\fst=.int 0 0/\vals=(pickOrder (w.params.setOrder S ep) es).toList.map (·.2)) \/
 (WV w=false/\∃(Pt:Addr)(ps:List Nat)(o:Obj) (n:Nat),fst=.ref Pt/\h.get? Pt=some o/\o.data=.seq (ps.map λp:Nat=>Value.int p 0).toArray n/\ps.Perm (List.range es.size)/\vals=ps.map λp=>(es.toList.getD p (0,.none)).2) \/
 (WV w=false/\es.size<=1/\(!t.plain && decide (1 < es.size))=false/\(!t.led && !es.isEmpty)=false/\∃k:Nat,fst=.int k 0/\vals=es.toList.map (·.2)/\(i=0->k=0)/\(i=1->∃j,t.place[0]?=some j/\k=j+1))
section
variable {P:Program}{w:World}{A:Around}{E:Value->Shared->Prop}{s:Shared}
end
structure yK (w:World)(I S:Addr)(o:Obj)(es:Array (Int×Value)) (ep:Nat)(t:SetTable)(vals:List Value)(fp:List Addr) (i:Nat)(h:Heap)(fst:Value):Prop where
 it:Ry h I S fst i es.size ep
 ho:h.get? S=some o
 md:Rn w h S es ep t vals fst i
 pt:∀Pt,fst=.ref Pt->Pt∈fp/\Pt≠I
def yK.at {w:World}{I S:Addr}{o:Obj}{es:Array (Int×Value)}{ep:Nat}{t:SetTable}{vals:List Value}{fp:List Addr}{i:Nat}{h h':Heap}{fst:Value}(x:yK w I S o es ep t vals fp i h fst)(hI:I∈fp)(hS:S∈fp)(k:∀b∈fp,∀o,h.get? b=some o->h'.get? b=some o):yK w I S o es ep t vals fp i h' fst:=by
 obtain⟨⟨oi,a,b⟩,ho,md,pt⟩:=x;refine⟨⟨oi,k I hI _ a,b⟩,k S hS _ ho,?_,pt⟩;rcases md with m | ⟨bt,Pt,ps,po,pn,e,hpt,r⟩ | m
 .exact .inl m
 .exact .inr (.inl ⟨bt,Pt,ps,po,pn,e,k Pt (pt Pt e).1 _ hpt,r⟩)
 exact .inr (.inr m)
section
variable {P:Program}{w:World}{A:Around}{E:Value->Shared->Prop}{s:Shared}
end
theorem qk:∀{aW:List Value}{zs:List Str},StrsAre aW zs->∀(i:Nat)(v:Value),aW[i]?=some v->∃t,v=Value.str (zs.getD i "") t
 | _,_,.nil,i,v,h=>by cases h
 | _,_,.cons z t r,0,v,h=>by cases h;exact⟨t,rfl⟩
 | _,_,.cons z t r,i+1,v,h=>qk r i v h
theorem Inv.drawn {X:Cx}{aj:List (Addr×Obj)}{σ:List (Option V)}{H:Hp}{s:Shared}(d:Drawn)(I:Inv X aj σ H s):Inv X aj σ H { s with drawn:=d }:=⟨I.ok,I.os,I.bare,I.base,I.loc,I.cell,I.free,I.k0,I.pin,I.cC,I.len⟩
def MY (q pr:Str×Str):Gs [V.str q.1,V.str q.2] [V.str pr.1,V.str pr.2]=decide (q=pr):=by
 obtain⟨a,b⟩:=q;obtain⟨c,d⟩:=pr;show (qe (.str a) (.str c) && (qe (.str b) (.str d) && true))=_;have h:∀x y:Str,qe (.str x) (.str y)=decide (x=y):=λx y=>by
  show (x == y)=_;rw [gi,beq_iff_eq,decide_eq_true_iff]
 rw [h,h,Bool.and_true];by_cases e1:a=c
 .by_cases e2:b=d
  .rw [e1,e2];simp
  simp [e1,e2]
 simp [e1]
def Bl {X:Cx}{aj:List (Addr×Obj)}{σ:St}{H:Hp}{s:Shared}(A:Around)(hu:A.units < cLine)(I:Inv X aj σ H s){t a:Addr}{q pr:Str×Str}(ht:a_ X.K H t [.str q.1,.str q.2])(ha:a_ X.K H a [.str pr.1,.str pr.2]):SeqAt.EqAt A s (.ref t) (.ref a) (decide (q=pr)):=by
 by_cases e:t=a
 .subst e;have:=I.iF ht ha;injection this with h1 h2;injection h2 with h2 _;injection h1 with h1;injection h2 with h2;rw [cf (jI h1 h2)];exact SeqAt.EqAt.same _
 obtain⟨aW,r,pl,hz⟩:=I.tuple ht;obtain⟨dX,r2,w_,NS⟩:=I.tuple ha;have l1:=r.length;have l2:=r2.length;refine .of_refs e ?_;rw [<-MY];have h:=SeqAt.RcAt.tuples (A:=A) (e:=λj=>qe ([V.str q.1,V.str q.2].getD j .eZ) ([V.str pr.1,V.str pr.2].getD j .eZ)) pl w_ hu (λj h1 h2=>sr r r2 rfl rfl j h1 h2);have e2:((List.range (min aW.toArray.size dX.toArray.size)).all (λj=>qe ([V.str q.1,V.str q.2].getD j .eZ) ([V.str pr.1,V.str pr.2].getD j .eZ)) && aW.toArray.size == dX.toArray.size)=Gs [V.str q.1,V.str q.2] [V.str pr.1,V.str pr.2]:=by
  rw [<-pq];simp only [cH,<-l1,<-l2]
 rw [e2] at h;exact h
open Classical in
theorem v_ {X:Cx}{aj:List (Addr×Obj)}{σ:St}{H:Hp}{s:Shared}(I:Inv X aj σ H s){pr:Str×Str}:∀{ts:List Addr}{bU:List (Str×Str)}{aW:List Value},bw (ts.map V.ref) aW->Paired (λt (q:Str×Str)=>a_ X.K H t [.str q.1,.str q.2]) ts bU ->
  (∀y∈aW,∃(t:Addr)(q:Str×Str),y=.ref t/\a_ X.K H t [.str q.1,.str q.2])/\(aW.any λy=>match y with | .ref t=>decide (a_ X.K H t [.str pr.1,.str pr.2]) | _=>false)=decide (pr∈bU)
 | [],_,aW,r,p=>by
  cases p;cases r;exact⟨λy h=>(by cases h),by simp⟩
 | t::ts,_,aW,r,p=>by
  cases p with
  | @cons _ q _ bU h p2 =>
  cases r with
  | @cons _ u _ us hu r2 =>
  obtain⟨i1,i2⟩:=v_ I r2 p2;cases (show u=Value.ref t from hu);refine⟨λy hy=>?_,?_⟩
  .rcases b8.mp hy with e | e
   .exact⟨t,q,e,h⟩
   exact i1 y e
  rw [oC,i2];show (decide (a_ X.K H t [.str pr.1,.str pr.2]) || decide (pr∈bU))=decide (pr∈q::bU)
  have e:a_ X.K H t [.str pr.1,.str pr.2]↔pr=q:=⟨λz=>by
   have:=I.iF z h;injection this with h1 h2;injection h2 with h2 _;injection h1 with h1;injection h2 with h2;exact jI h1 h2,λz=>by rw [z];exact h⟩
  rw [gi,Bool.or_eq_true_iff,decide_eq_true_iff,decide_eq_true_iff,decide_eq_true_iff,b8,e]
def LD (K:bp)(neg:Bool):R2:=λx y H Q=>∃(a p:Addr)(pr:Str×Str)(ts:List Addr)(bU:List (Str×Str)),x=.ref a/\y=.ref p/\a_ K H a [.str pr.1,.str pr.2]/\aG K H p (ts.map V.ref)/\Paired (λt (q:Str×Str)=>a_ K H t [.str q.1,.str q.2]) ts bU/\Q (.bl (if neg then !decide (pr∈bU) else decide (pr∈bU))) H
open Classical in
def ux {X:Cx}(hu:X.A.units+1 < cLine):jH X (compareOp .NotIn) (LD X.K true):=by
 intro aj s σ H x y v u Q I rx ry h;obtain⟨a,p,pr,ts,bU,rfl,rfl,ha,hp,DB,q⟩:=h;cases rx;cases ry;obtain⟨aW,r,pl,hz⟩:=I.list hp;obtain⟨i1,i2⟩:=v_ I (pr:=pr) r DB;refine SeqAt.notIn_listAt (λy=>match y with | .ref t=>decide (a_ X.K H t [.str pr.1,.str pr.2]) | _=>false) pl.isList (λy hy=>?_) ⟨.bl _,H,I,rfl,?_⟩
 .obtain⟨t,q2,rfl,ht⟩:=i1 y (by simpa using hy);have:=Bl X.A.in1 (by rw [oF];exact hu) I ht ha;have e:decide (q2=pr)=decide (a_ X.K H t [.str pr.1,.str pr.2]):=by
   rw [gi,decide_eq_true_iff,decide_eq_true_iff];refine⟨λz=>by rw [<-z];exact ht,λz=>?_⟩;have:=I.iF ht z;injection this with h1 h2;injection h2 with h2 _;injection h1 with h1;injection h2 with h2;exact jI h1 h2
  rw [e] at this;exact this
 rw [show aW.toArray.any (λy=>match y with | .ref t=>decide (a_ X.K H t [.str pr.1,.str pr.2]) | _=>false)=aW.any (λy=>match y with | .ref t=>decide (a_ X.K H t [.str pr.1,.str pr.2]) | _=>false) by simp,i2]
 exact q
open Classical in
def LQ {X:Cx}(hu:X.A.units+1 < cLine):jH X (compareOp .In) (LD X.K false):=by
 intro aj s σ H x y v u Q I rx ry h;obtain⟨a,p,pr,ts,bU,rfl,rfl,ha,hp,DB,q⟩:=h;cases rx;cases ry;obtain⟨aW,r,pl,hz⟩:=I.list hp;obtain⟨i1,i2⟩:=v_ I (pr:=pr) r DB;refine SeqAt.in_listAt (λy=>match y with | .ref t=>decide (a_ X.K H t [.str pr.1,.str pr.2]) | _=>false) pl.isList (λy hy=>?_) ⟨.bl _,H,I,rfl,?_⟩
 .obtain⟨t,q2,rfl,ht⟩:=i1 y (by simpa using hy);have:=Bl X.A.in1 (by rw [oF];exact hu) I ht ha;have e:decide (q2=pr)=decide (a_ X.K H t [.str pr.1,.str pr.2]):=by
   rw [gi,decide_eq_true_iff,decide_eq_true_iff];refine⟨λz=>by rw [<-z];exact ht,λz=>?_⟩;have:=I.iF ht z;injection this with h1 h2;injection h2 with h2 _;injection h1 with h1;injection h2 with h2;exact jI h1 h2
  rw [e] at this;exact this
 rw [show aW.toArray.any (λy=>match y with | .ref t=>decide (a_ X.K H t [.str pr.1,.str pr.2]) | _=>false)=aW.any (λy=>match y with | .ref t=>decide (a_ X.K H t [.str pr.1,.str pr.2]) | _=>false) by simp,i2]
 exact q
end L2
namespace gY
open PySem L2 M11
abbrev rG:Stmt:=top 62
def KY (K:bp)(H:Hp)(t:Addr)(p:Str×Str):Prop:=a_ K H t [.str p.1,.str p.2]
def Q_ (xs:List Str) (j:Nat):fI (xs.map V.str) none (some (j:Int))=(xs.take j).map V.str:=by
 unfold fI;rw [show HT.fR (xs.map V.str).length 0 none=0 from rfl,HT.jP,mW,ml,kI,<-qV]
section
noncomputable abbrev NLB:List Str:=["_law_rules","_law_names_here","_law_told","_law_heads","_law_seen","_law_name","_law_word","_law_number","_law_place","_law_head","_law_parts"]
def fU:aK NLB ["_law_rules","_law_names_here","_law_told"] (ay rG):=iz rfl rfl rfl rfl nofun
def zQ (F:hV K "_law_begin_stands" "_law_begin_stands" rG f fd)(T:Txt mg):bV P w K mg base fK 1 f fd ["_law_rules","_law_names_here","_law_told"] (nF K):=by
 refine F.ok fU (λvs H Q E h=>?_) (λeX A outer s H vs Q E hr h=>?_)
 .obtain⟨R,N,L,rs,ts,aa,ns,bs,rfl,_⟩:=h;rfl
 obtain⟨R,N,L,rs,ts,aa,ns,bs,rfl,hR,cy,jj,hN,F7,hL,F1,hbl,q⟩:=h;have hu:=fu hr;have bu:aa.length<=1000:=by have:=jj.most;omega
 refine⟨_,ag (gB (iy:=3) ["_law_head","_law_parts"] [] fU.nd rfl rfl rfl (aR (pv 0)) (aP rfl rfl) nofun rfl nofun
   (λ_ _ _ _ _=>d_ (n:=2) K rfl (av (aq (i:=0) (show (["_law_head","_law_parts"]:List Str).Nodup by decide +kernel) rfl (aZ rfl)) (av (aq (i:=1) (show (["_law_head","_law_parts"]:List Str).Nodup by decide +kernel) rfl (aZ rfl)) bo))) (λ_ _ _ _ _=>a0) (λ_ _ _ _ _=>pv 0))
  (ag (aA (i:=4) fU.nd rfl (aZ rfl) (bL ai))
  (ag (bE bX rfl (aR (pv 2)) (dD rfl (av (aq (i:=5) fU.nd rfl (aZ rfl)) (av (aq (i:=6) fU.nd rfl (aZ rfl)) (av (aq (i:=7) fU.nd rfl (aZ rfl)) (av (aq (i:=8) fU.nd rfl (aZ rfl)) bo)))))
   (ag (bz (PW.pt (jv (aQ kW (pv 7) ar (bx _)) (jv (aQ Fi (pv 7) (aE aS rfl T.len dZ (ab (pv 0) ai)) (bx _)) (jd (aQ (LQ hu) (bC (ab (pv 5) (ab (pv 6) ai))) (pv 4) rfl))))) (ao (aL cI)) aI)
   (ag (zF (a7 bZ (pv 0) (pv 7) (λ_ _=>rfl)) (dD rfl (av (aq (i:=9) fU.nd rfl (aZ rfl)) (av (aq (i:=10) fU.nd rfl (aZ rfl)) bo))))
   (ag (bz (PW.pt (jv (aQ rN (pv 9) (pv 5) (bx _)) (jv (aQ kW (pv 8) ar (bx _)) (jd (aQ Fi (pv 8) (aE aS rfl T.len dZ (ab (pv 10) ai)) (bx _)))))) (ao (aL cI)) aI)
   (ag (bz (iN (dJ (aE (cX rfl) rfl T.all boot_all (ab (aV ["_law_part"] [(1,"_law_names_here")] rfl (dQ (bY gw (pv 10) cO (cN (pv 8)))) (aP rfl rfl) nofun rfl nofun
     (λ_ _ _ _ _=>aq (i:=0) (show (["_law_part","_law_names_here"]:List Str).Nodup by decide +kernel) rfl (aZ rfl)) (λ_ _ _ _ _=>a0) (λ_ _ _ _ _=>dw (dF K) (pv 0) (pv 1) rfl)) ai)))) (ao (aL cI)) aI)
   (ag (bz (aQ iH (a7 bI (pv 10) (pv 8) (λ_ _=>rfl)) (pv 3) rfl)
    (ao (bz (aQ (ux hu) (bC (ab (a7 bI (pv 10) (pv 8) (λ_ _=>rfl)) (ab (pv 6) ai))) (pv 4) rfl) (ao (aL cI)) aI))
    (ao (bz (aQ rN (a7 bI (pv 10) (pv 8) (λ_ _=>rfl)) (pv 6) (bx _)) (ao (aL cI)) aI)))
   (ao (du (ix ir iu iw cA (pv 4) (ab (bC (ab (pv 5) (ab (pv 6) ai))) ai))))))))))
  (ao (aL cI)))),?_⟩
 nofun
 have ll:=bc cy;have UN:=bc F1;refine⟨_,rfl,R,rfl,⟨_,hR⟩,λDh VT=>iT hR cy bu VT λH1 s1 DK=>?_⟩;refine goN ?_
 ac_rfl
 refine⟨RP,λM hM=>?_⟩;obtain⟨k2,e2⟩:=gb hM (.lst []);have fM:H M=none:=s1.free hM;have nDM:Dh≠M:=λz=>by rw [<-z,DK] at hM;cases hM
 generalize upd H1 M (.lst [])=H2 at k2 e2;have s2:=s1.trans k2;refine⟨_,rfl,L,rfl,⟨_,s2.seq hL⟩,?_⟩
 let oo:lW:=λi σ H5=>∃(a:List (Str×Str))(us:List Addr)(y5 y6 y7 y8 y9 i4:Option V),σ=[aD R,aD N,aD L,aD Dh,aD M,y5,y6,y7,y8,y9,i4]/\aC H H5/\H5 Dh=some (.lst ((hm aa).map V.str))/\H5 M=some (.lst (us.map V.ref))/\Paired (KY K H5) us a/\a.length<=i/\(∀x∈a,x.1∈hm aa)/\kQ aa ns bs []=kQ aa ns (bs.drop i) a
 refine cq (xs:=ts.map V.ref) oo ⟨[],[],none,none,none,none,none,none,rfl,s2,k2 _ _ DK,e2,.nil,aU _,λx hx=>(by cases hx),rfl⟩ ?_ ?_ ?_
 .rintro i σ H5 _ ⟨a,us,y5,y6,y7,y8,y9,i4,rfl,s5,_⟩;exact s5.seq hL
 .intro i x σ H5 ex iV
  ac_nf0
  obtain⟨a,us,y5,y6,y7,y8,y9,i4,rfl,s5,eD,eM,pM,la,CO,inv⟩:=iV;rw [a9] at ex;obtain⟨t,et,rfl⟩:=b_.mp ex;have li:=(bf.mp et).1;obtain⟨b,eb⟩:∃b,bs[i]?=some b:=⟨bs[i]'∅,dI ∅⟩;obtain⟨t',sG,vt⟩:=Paired.at_ F1 i b eb;rw [et] at sG;cases sG;have st:=ui (aa:=aa) (ns:=ns) eb a;have YL:=bc pM;have bad:pN aa b.2.2.1=none->∀H',aC H H'->Q (.bl false) H':=λz H' s'=>by
   rw [inv,st,z] at q;exact q H' s'
  refine⟨t,_,rfl,s5.tup vt,rfl,_,_,rfl,_,_,rfl,_,_,rfl,_,_,rfl,rfl,?_⟩;refine⟨_,rfl,_,_,rfl,rfl,_,rfl,?_⟩;refine bJ (λc=>?_) (λc=>?_)
  .have c':b.2.2.1 < 0:=cw c;refine fC ?_;exact bad (by unfold pN;rw [az ∅]) H5 s5
  have c0:¬b.2.2.1 < 0:=λy=>c (cf y);refine⟨_,rfl,_,rfl,R,_,rfl,.inl (s5.seq hR),_,_,rfl,rfl,_,rfl,?_⟩;rw [au,ll];refine bJ (λc=>?_) (λc=>?_)
  .have c':(aa.length:Int)<=b.2.2.1:=cw c;refine fC ?_;exact bad (by unfold pN;rw [ax ∅];exact tU ∅) H5 s5
  have c1:¬(aa.length:Int)<=b.2.2.1:=λy=>c (cf y);obtain⟨ru,ra⟩:∃ru,pN aa b.2.2.1=some ru:=⟨aa[b.2.2.1.toNat]'∅,by unfold pN;rw [ax ∅];exact dI ∅⟩;rw [ra] at st;have st:kQ aa ns (bs.drop i) a=(ib aa ns a ru b.1 b.2.1 b.2.2.2 && kQ aa ns (bs.drop (i+1)) (a++[(b.1,b.2.1)])):=st;have no:ib aa ns a ru b.1 b.2.1 b.2.2.2=false->∀H',aC H H'->Q (.bl false) H':=λz H' s'=>by
   rw [inv,st,z,iY] at q;exact q H' s'
  refine⟨_,rfl,_,rfl,Ca,λt2 ji=>?_⟩;obtain⟨k6,ZG⟩:=jx (K:=K) ji [V.str b.1,V.str b.2.1];generalize upd H5 t2 (.tup [V.str b.1,V.str b.2.1])=H6 at k6 ZG;have s6:=s5.trans k6;refine⟨_,rfl,t2,M,(b.1,b.2.1),us,a,rfl,rfl,ZG,aG.of (k6 _ _ eM),Paired.dH pM λ_ _ z=>k6.tup z,_,rfl,?_⟩;rw [az d5];cases da:decide ((b.1,b.2.1)∈a) with
  | true =>
   refine fC ?_;exact no (by unfold ib;rw [da];rfl) H6 s6
  | false =>
  refine dM ?_;obtain⟨kn,Wh,qz⟩:=ju ra;obtain⟨r,er,p,v1,v2⟩:=Paired.at_ cy kn ru qz;have HJ:=jj.uL ru (b9 qz);have sY:lV (rs.map V.ref) b.2.2.1=some (.ref r):=by rw [Wh];exact bT (by rw [a9,er];rfl)
  refine⟨_,rfl,_,rfl,R,_,_,_,rfl,rfl,s6.seq hR,sY,r,_,rfl,s6.tup v1,rfl,_,_,rfl,_,_,rfl,rfl,?_⟩;refine⟨_,rfl,_,rfl,rfl,_,rfl,?_⟩;rw [Oh];cases dn:decide (ru.1=b.1) with
  | false =>
   refine fC ?_;refine fC ?_;exact no (by unfold ib;rw [dn];simp) H6 s6
  | true =>
  refine dM ?_;refine⟨_,rfl,_,_,rfl,rfl,_,rfl,?_⟩;refine bJ (λc=>?_) (λc=>?_)
  .have c':b.2.2.2 < 0:=cw c;refine fC ?_;exact no (by unfold ib;rw [d0 (p:=0<=b.2.2.2/\b.2.2.2 < (ru.2.length:Int)) ∅];simp) H6 s6
  have p0:¬b.2.2.2 < 0:=λy=>c (cf y);refine⟨_,rfl,_,rfl,p,_,rfl,.inr (s6.tup v2),_,_,rfl,rfl,_,rfl,?_⟩;rw [au];refine bJ (λc=>?_) (λc=>?_)
  .have c':(ru.2.length:Int)<=b.2.2.2:=cw c;exact no (by unfold ib;rw [d0 (p:=0<=b.2.2.2/\b.2.2.2 < (ru.2.length:Int)) ∅];simp) H6 s6
  have p1:¬(ru.2.length:Int)<=b.2.2.2:=λy=>c (cf y);have cl:decide (0<=b.2.2.2/\b.2.2.2 < (ru.2.length:Int))=true:=cf ∅;obtain⟨pn,tK⟩:∃pn:Nat,b.2.2.2=(pn:Int):=⟨b.2.2.2.toNat,∅⟩;have Gu:b.2.2.2.toNat=pn:=by omega
  have lb:pn < ru.2.length:=by omega
  refine⟨_,rfl,_,rfl,_,rfl,p,_,rfl,s6.tup v2,λp2 H7 s7 DF=>?_⟩;have cut:fI (ru.2.map V.str) none (some b.2.2.2)=(ru.2.take pn).map V.str:=by rw [tK];exact Q_ _ _
  rw [cut] at DF;have pL:=s6.trans s7;refine⟨p2,rfl,⟨_,DF⟩,λD9 ow=>fh (zs:=ru.2.take pn) [aD N] (λz=>decide (z∈ns)) rfl DF (by rw [dr];omega) ow (λz _ HA Qy sA hq=>?_) λH9 s9 e9=>?_⟩
  .refine⟨_,rfl,_,rfl,N,_,rfl,.inl (sA.seq (pL.seq hN)),rfl,bO _,?_⟩;rw [di];exact hq
  refine⟨D9,_,rfl,aG.of e9,_,rfl,?_⟩;rw [all_map];have j_:=pL.trans s9;have JX:=(k6.trans s7).trans s9;cases ca:(ru.2.take pn).all λx=>decide (x∈ns) with
  | false =>
   refine fC ?_;exact no (by unfold ib;rw [Gu,ca];simp) H9 j_
  | true =>
  refine dM ?_;have gd:ru.2.getD pn ""=ru.2[pn]:=by rw [ni,dI lb];rfl
  have DM:lV (ru.2.map V.str) b.2.2.2=some (.str ru.2[pn]):=by rw [tK];exact bT (by rw [a9,dI lb];rfl)
  have J_:ib aa ns a ru b.1 b.2.1 b.2.2.2=((decide (ru.2[pn]=b.2.1) && !decide (b.2.1∈hm aa)) || decide ((ru.2[pn],b.2.1)∈a)):=by
   unfold ib;rw [da,dn,cl,Gu,ca,gd];rfl
  generalize ru.2[pn]=pt at DM J_;have Su:b.1∈hm aa:=cx.mpr ⟨ru,b9 qz,cw dn⟩;have fin:∀HA,aC H5 HA->ib aa ns a ru b.1 b.2.1 b.2.2.2=true->∀u,HA u=none->∃(a2:List (Str×Str))(vx:List Addr)(y5 y6 y7 y8 y9 i4:Option V),[some (V.ref R),aD N,aD L,aD Dh,aD M,some (.str b.1),some (.str b.2.1),some (.int b.2.2.1),some (.int b.2.2.2),some (.str ru.1),aD p]=[some (V.ref R),aD N,aD L,aD Dh,aD M,y5,y6,y7,y8,y9,i4]/\aC H (upd (upd HA u (.tup [V.str b.1,V.str b.2.1])) M (.lst (us.map V.ref++[V.ref u])))/\upd (upd HA u (.tup [V.str b.1,V.str b.2.1])) M (.lst (us.map V.ref++[V.ref u])) Dh=some (.lst ((hm aa).map V.str))/\upd (upd HA u (.tup [V.str b.1,V.str b.2.1])) M (.lst (us.map V.ref++[V.ref u])) M=some (.lst (vx.map V.ref))/\Paired (KY K (upd (upd HA u (.tup [V.str b.1,V.str b.2.1])) M (.lst (us.map V.ref++[V.ref u])))) vx a2/\a2.length<=i+1/\(∀x∈a2,x.1∈hm aa)/\kQ aa ns bs []=kQ aa ns (bs.drop (i+1)) a2:=λHA sA LR u xU=>by
   obtain⟨kk,eu⟩:=jx (K:=K) xU [V.str b.1,V.str b.2.1];have Z6:=(sA.trans kk) _ _ eM;refine⟨a++[(b.1,b.2.1)],us++[u],_,_,_,_,_,_,rfl,λc o hb=>?_,?_,by rw [ae,bA];rfl,?_,by rw [bW,gP];omega,λx hx=>?_,by rw [inv,st,LR];rfl⟩
   .rw [ak (λz=>by rw [z,fM] at hb;cases hb)];exact kk _ _ (sA _ _ (s5 c o hb))
   .rw [ak nDM];exact(sA.trans kk) _ _ eD
   .exact gF (Paired.dH pM λ_ _ z=>bj Z6 ((sA.trans kk).tup z)) (bj Z6 eu)
   rcases cg.mp hx with h | h
   .exact CO x h
   rw [bH.mp h];exact Su
  have app:∀HA,aC H5 HA->HA M=some (.lst (us.map V.ref)):=λHA sA=>sA _ _ eM;refine⟨_,rfl,_,rfl,p,_,_,_,rfl,rfl,j_.tup v2,DM,_,rfl,Dh,_,rfl,.inl (aG.of (JX _ _ eD)),rfl,bO _,_,rfl,?_⟩;rw [az d5,di];refine bJ (λc=>?_) (λc=>?_)
  .have hp:pt∈hm aa:=cw c;refine⟨_,rfl,_,rfl,p,_,_,_,rfl,rfl,j_.tup v2,DM,_,rfl,Ca,λt4 Ai=>?_⟩;obtain⟨kB,eB⟩:=jx (K:=K) Ai [V.str pt,V.str b.2.1];generalize upd H9 t4 (.tup [V.str pt,V.str b.2.1])=HB at kB eB;have NJ:=JX.trans kB;have oq:ib aa ns a ru b.1 b.2.1 b.2.2.2=decide ((pt,b.2.1)∈a):=by
    rw [J_];by_cases ce:pt=b.2.1
    .rw [<-ce,cf hp];simp
    rw [d0 ce];rfl
   refine⟨_,rfl,t4,M,(pt,b.2.1),us,a,rfl,rfl,eB,aG.of (NJ _ _ eM),Paired.dH pM λ_ _ y=>NJ.tup y,_,rfl,?_⟩;rw [ax rfl];cases dp:decide ((pt,b.2.1)∈a) with
   | false =>
    refine fC ?_;exact no (by rw [oq,dp]) HB (s5.trans NJ)
   | true =>
    refine dM ?_;refine⟨_,rfl,.inl ⟨rfl,_,aG.of (app HB NJ)⟩,_,rfl,_,rfl,Ca,λu xU=>?_⟩;refine⟨M,_,_,rfl,rfl,(af xU _) _ _ (app HB NJ),bD (by rw [au];omega),?_⟩;exact fin HB NJ (by rw [oq,dp]) u xU
  have hp:pt∉hm aa:=λy=>c (cf y);have oq:ib aa ns a ru b.1 b.2.1 b.2.2.2=decide (pt=b.2.1):=by
   rw [J_,d0 (p:=(pt,b.2.1)∈a) (λy=>hp (CO _ y)),Bool.or_false];by_cases ce:pt=b.2.1
   .rw [<-ce,d0 hp];simp
   rw [d0 ce];rfl
  refine⟨_,rfl,_,rfl,p,_,_,_,rfl,rfl,j_.tup v2,DM,_,rfl,rfl,_,rfl,?_⟩;rw [Oh];cases dp:decide (pt=b.2.1) with
  | false =>
   refine fC ?_;exact no (by rw [oq,dp]) H9 j_
  | true =>
   refine dM ?_;refine⟨_,rfl,.inl ⟨rfl,_,aG.of (app H9 JX)⟩,_,rfl,_,rfl,Ca,λu xU=>?_⟩;refine⟨M,_,_,rfl,rfl,(af xU _) _ _ (app H9 JX),bD (by rw [au];omega),?_⟩;exact fin H9 JX (by rw [oq,dp]) u xU
 rintro σ H5 ⟨a,us,y5,y6,y7,y8,y9,i4,rfl,s5,eD,eM,pM,la,CO,inv⟩;rw [au,UN,qO] at inv;rw [inv] at q;exact q H5 s5
end
def zT {α:Type}{l:List α}{x:α}(h:l.Nodup)(n:x∉l):(l++[x]).Nodup:=jm.mpr ⟨h,by simp,λa ha b hb z=>n (by rw [<-bH.mp hb,<-z];exact ha)⟩
noncomputable def ij (p:Str×Addr):aT×V:=(Sum.inr p.1,.ref p.2)
theorem i_:∀(ps bF:List (aT×V)),((bF++ps).map (·.1)).Nodup->cM ps bF=bF++ps
 | [],bF,_=>by simp [cM]
 | p::r,bF,h=>by
  have n:bh bF p.1=none:=by
   cases e:bh bF p.1 with
   | none=>rfl
   | some v =>
    have hm:=(eK bF p.1).mp (by rw [e];rfl);rw [bA,cE] at h;exact absurd rfl ((jm.mp h).2.2 p.1 hm p.1 cS)
  show cM r (bM bF p.1 p.2)=_;rw [rK p.2 n,i_ r (bF++[(p.1,p.2)]) (by rw [lZ];exact h),lZ];rfl
theorem fw:∀(ps:List (Str×Addr)),(ps.map (·.1)).Nodup->∀p∈ps,bh (ps.map ij) (Sum.inr p.1)=some (.ref p.2)
 | q::r,h,p,hp=>by
  rw [cE] at h ⊢;rcases b8.mp hp with z | z
  .rw [z];exact eQ rfl
  rw [eU,fw r (iI.mp h).2 p z];intro e;have e':q.1=p.1:=jJ e;exact(iI.mp h).1 (by rw [e'];exact iq z)
def iC (ps:List (Str×Addr)):(ps.map ij).map (·.1)=(ps.map (·.1)).map Sum.inr:=by
 rw [ik,ik];rfl
theorem BJ:∀(hs:List Str){bF:List Str},bF.Nodup->(lU bF hs).Nodup
 | [],_,h=>h
 | x::hs,bF,h=>by
  show (lU (gr bF x) hs).Nodup;refine BJ hs ?_;unfold gr;by_cases c:x∈bF
  .rw [ax c];exact h
  rw [az c];exact zT h c
def Ma {ps:List (Str×Addr)}(h:(ps.map (·.1)).Nodup){p q:Str×Addr}(hp:p∈ps)(hq:q∈ps)(e:p.1=q.1):p=q:=by
 obtain⟨i,hi⟩:=fj hp;obtain⟨j,hj⟩:=fj hq;have li:=(bf.mp hi).1;have h1:(ps.map (·.1))[i]?=some p.1:=by rw [a9,hi];rfl
 have h2:(ps.map (·.1))[j]?=some p.1:=by rw [a9,hj,e];rfl
 have:=(List.getElem?_inj (by rw [au];exact li) h).mp (h1.trans h2.symm);rw [this,hj] at hi;exact(gO hi).symm
def L_ {ps:List (Str×Addr)}(h:(ps.map (·.2)).Nodup){p q:Str×Addr}(hp:p∈ps)(hq:q∈ps)(e:p.2=q.2):p=q:=by
 obtain⟨i,hi⟩:=fj hp;obtain⟨j,hj⟩:=fj hq;have li:=(bf.mp hi).1;have h1:(ps.map (·.2))[i]?=some p.2:=by rw [a9,hi];rfl
 have h2:(ps.map (·.2))[j]?=some p.2:=by rw [a9,hj,e];rfl
 have:=(List.getElem?_inj (by rw [au];exact li) h).mp (h1.trans h2.symm);rw [this,hj] at hi;exact(gO hi).symm
abbrev EC:Stmt:=top 13
section
structure WT (H:Hp) (hs:List Str)(bU:List (Str×Str))(d:Addr)(ps:List (Str×Addr)):Prop where
 hd:H d=some (.dK (ps.map ij))
 nm:ps.map (·.1)=hs
 n1:(ps.map (·.1)).Nodup
 n2:(ps.map (·.2)).Nodup
 Ag:∀p∈ps,p.2≠d/\∃(kw:List (aT×V)) (ws:List Str),H p.2=some (.dK kw)/\kw.map (·.1)=ws.map Sum.inr/\(∀z,z∈ws↔(p.1,z)∈bU)/\ws.length<=bU.length
def WT.same {H H':Hp}{hs:List Str}{bU:List (Str×Str)}{d:Addr}{ps:List (Str×Addr)}(h:WT H hs bU d ps)(s:aC H H'):WT H' hs bU d ps :=
 ⟨s _ _ h.hd,h.nm,h.n1,h.n2,λp hp=>let ⟨a,kw,ws,b,c⟩:=h.Ag p hp;⟨a,kw,ws,s _ _ b,c⟩⟩
def Ei (K:bp):Sp:=λvs H Q _=>∃(R L:Addr)(rs ts:List Addr)(aa:List aw)(bU:List (Str×Str)),vs=[.ref R,.ref L]/\aG K H R (rs.map V.ref)/\bQ K H rs aa/\aa.length<=1000/\aG K H L (ts.map V.ref)/\Paired (KY K H) ts bU/\bU.length<=1000/\∀d ps H',H d=none->aC H H'->WT H' (lU [] (aa.map (·.1))) bU d ps->(∀p∈ps,H p.2=none)->Q (.ref d) H'
def vL:aK ["rules","pairs","told","name","word"] ["rules","pairs"] (ay EC):=iz rfl rfl rfl rfl nofun
def IM (F:hV K "words_told" "words_told" EC f fd)(T:Txt mg)(GH:aF P w K mg base 2 "heads_of" ["rules"] (i5 K)):bV P w K mg base fK 3 f fd ["rules","pairs"] (Ei K):=by
 refine F.ok vL (λvs H Q E h=>?_) (λeX A outer s H vs Q E hr h=>?_)
 .obtain⟨R,L,rs,ts,aa,bU,rfl,_⟩:=h;rfl
 obtain⟨R,L,rs,ts,aa,bU,rfl,hR,cy,bu,hL,DB,wC,q⟩:=h;have hu:=fu hr;refine⟨_,ag (aA (i:=2) vL.nd rfl (aZ rfl) (aX (cV rfl) rfl T.wO dS (ab (aV ["name"] [] rfl (aR (bq GH hr rfl (ab (pv 0) ai))) (aP rfl rfl) nofun rfl nofun
    (λ_ _ _ _ _=>aq (i:=0) (show (["name"]:List Str).Nodup by decide +kernel) rfl (aZ rfl)) (λ_ _ _ _ _=>a0) (λ_ _ _ _ _=>bC (ab (pv 0) (ab fk ai)))) ai)))
  (ag (bE bX rfl (aR (pv 1)) (dD rfl (av (aq (i:=3) vL.nd rfl (aZ rfl)) (av (aq (i:=4) vL.nd rfl (aZ rfl)) bo)))
   (ao (bz (dP (gW hu (pv 3) (pv 2))) (ao (fV hu (eP hu (pv 2) (pv 3) (λ_ _=>rfl)) (pv 4) cI rfl)) aI)))
  (ao (aL (pv 2)))),?_⟩
 have ll:=bc cy;have R_:=bc DB;refine⟨_,rfl,R,rs,aa,rfl,hR,cy,bu,λD0 H0 f0 s0 e0=>?_⟩;have Mg:=hU (aa.map (·.1)) [];rw [jl,au] at Mg;refine⟨D0,rfl,⟨_,aG.of e0⟩,λD1 MO=>pU (aG.of e0) ∅ MO λt1 ps H1 s1 DK m1 Pd l1 n1=>?_⟩;have nh:(ps.map (·.1)).Nodup:=by rw [m1];exact BJ _ iZ
 have kp:Paired (λt (kv:aT×V)=>a_ K H1 t [kV kv.1,kv.2]) t1 (ps.map ij):=cZ Pd λ_ _ z=>z;refine⟨D1,t1,_,rfl,DK,kp,λd pd=>?_⟩;have ek:cM (ps.map ij) []=ps.map ij:=i_ _ [] (by
  rw [pG,iC];exact rR nh)
 rw [ek];have k2:=af pd (.dK (ps.map ij));have HN:∀p∈ps,H p.2=none:=λp hp=>s0.free (l1 p hp).2.1;have uM:H d=none:=(s0.trans s1).free pd;have W0:WT (upd H1 d (.dK (ps.map ij))) (lU [] (aa.map (·.1))) [] d ps:=⟨ae,m1,nh,n1,λp hp=>⟨(λz=>by rw [<-z,(l1 p hp).1] at pd;cases pd),[],[],k2 _ _ (l1 p hp).1,rfl,by simp,by simp⟩⟩;have s2:=(s0.trans s1).trans k2;generalize upd H1 d (.dK (ps.map ij))=H2 at W0 s2;refine⟨_,rfl,L,rfl,⟨_,s2.seq hL⟩,?_⟩;refine cq (xs:=ts.map V.ref) (λi σ H5=>∃(y3 y4:Option V),σ=[aD R,aD L,aD d,y3,y4]/\aC H H5/\WT H5 (lU [] (aa.map (·.1))) (bU.take i) d ps) ⟨none,none,rfl,s2,W0⟩ ?_ ?_ ?_
 .rintro i σ H5 _ ⟨y3,y4,rfl,s5,_⟩;exact s5.seq hL
 .rintro i x σ H5 ex ⟨y3,y4,rfl,s5,W⟩;rw [a9] at ex;obtain⟨t,et,rfl⟩:=b_.mp ex;have li:=(bf.mp et).1;obtain⟨b,eb⟩:∃b,bU[i]?=some b:=⟨bU[i]'∅,dI ∅⟩;obtain⟨t',sG,vt⟩:=Paired.at_ DB i b eb;rw [et] at sG;cases sG;have tk:bU.take (i+1)=bU.take i++[b]:=by rw [cK,eb];rfl
  refine⟨t,_,rfl,s5.tup vt,rfl,_,_,rfl,_,_,rfl,rfl,?_⟩;refine⟨_,rfl,_,rfl,d,_,rfl,b0.k (k:=Sum.inr b.1) W.hd,_,rfl,?_⟩;have mk:=mem_keys (iC ps) b.1;rw [mk];refine bJ (λc=>?_) (λc=>?_)
  .have hb:=cw c;obtain⟨p,hp,ep⟩:=cx.mp hb;obtain⟨NM,kw,ws,QW,Jk,mw,lw⟩:=W.Ag p hp;have vp:=fw ps W.n1 p hp;rw [ep] at vp;have dg:b0 H5 d (.str b.1) (some (.ref p.2)):=by
    have h1:=b0.k (k:=Sum.inr b.1) W.hd;rw [vp] at h1;exact h1
   have lkw:kw.length=ws.length:=by have:=congrArg List.length Jk;rw [au,au] at this;exact this
   have PB:(bU.take i).length<=1000:=by rw [dr];omega
   refine⟨_,rfl,_,rfl,d,_,rfl,dg,_,rfl,p.2,_,rfl,j6.k (k:=Sum.inr b.2) QW (bD ∅),?_⟩;have fp:H p.2=none:=HN p hp;refine⟨_,_,rfl,λc o hc=>?_,?_,W.nm,W.n1,W.n2,λp2 ou=>?_⟩
   .rw [ak (λz=>by rw [z,fp] at hc;cases hc)];exact s5 c o hc
   .rw [ak (fO NM)];exact W.hd
   obtain⟨Us,kw2,ws2,Wf,Vx,mw2,lw2⟩:=W.Ag p2 ou;refine⟨Us,?_⟩;by_cases ce:p2.2=p.2
   .have HR:p2=p:=L_ W.n2 ou hp ce;subst HR;by_cases cb:b.2∈ws
    .refine⟨_,ws,ae,?_,λz=>?_,by rw [tk,bW];omega⟩
     .rw [v9 (by rw [Jk];exact cP.mpr cb),Jk]
     rw [mw,tk,cg,bH];refine⟨.inl,λh=>h.elim id λe=>?_⟩;have e2:z=b.2:=by rw [<-e]
     rw [e2];exact(mw b.2).mp cb
    refine⟨_,ws++[b.2],ae,?_,λz=>?_,by rw [tk,bW,bW,gP,gP];omega⟩
    .rw [gS (by rw [Jk];exact λz=>cb (cP.mp z)),Jk,bA];rfl
    rw [tk,cg,cg,bH,bH,mw];refine⟨λh=>h.elim .inl λe=>.inr (by rw [e,ep]),λh=>h.elim .inl λe=>.inr (by rw [<-e])⟩
   refine⟨kw2,ws2,by rw [ak ce];exact Wf,Vx,λz=>?_,by rw [tk,bW];omega⟩;rw [mw2,tk,cg,bH];refine⟨.inl,λh=>h.elim id λe=>?_⟩;have e1:p2.1=p.1:=by rw [ep,<-e]
   exact absurd (congrArg (·.2) (Ma W.n1 ou hp e1)) ce
  have hb:b.1∉ps.map (·.1):=λz=>c (cf z);refine⟨_,_,rfl,s5,W.hd,W.nm,W.n1,W.n2,λp hp=>?_⟩;obtain⟨NM,kw,ws,QW,Jk,mw,lw⟩:=W.Ag p hp;refine⟨NM,kw,ws,QW,Jk,λz=>?_,by rw [tk,bW];omega⟩;rw [mw,tk,cg,bH];refine⟨.inl,λh=>h.elim id λe=>?_⟩;exact absurd (cx.mpr ⟨p,hp,by rw [<-e]⟩) hb
 rintro σ H5 ⟨y3,y4,rfl,s5,W⟩;rw [au,R_,cv] at W;exact⟨_,rfl,q d ps H5 uM s5 W HN⟩
end
end gY
namespace L2
open PySem PySem.Spec PyProof.Rows
theorem Bt:∀a b:List Nat,ltCps a b=true->ltCps b a=false
 | [],[],h=>by rw [ltCps.eq_1] at h;cases h
 | [],_::_,_=>ltCps.eq_3 _ _
 | _::_,[],h=>by rw [ltCps.eq_3] at h;cases h
 | x::r,y::t,h=>by
  rw [ltCps.eq_4] at h ⊢;rw [Bool.or_eq_true,decide_eq_true_iff,kr,beq_iff_eq] at h;rw [Bool.or_eq_false_iff,decide_eq_false_iff_not];rcases h with h | ⟨h1,h2⟩
  .exact⟨∅,by rw [jn.mpr ∅,iY]⟩
  exact⟨∅,by rw [Bt r t h2,Bool.and_false]⟩
theorem sX (zs:List Str):∀k i,i<=k->Hs (zs.getD (argBest (λi j=>decide ((zs.getD i "").cps.toList < (zs.getD j "").cps.toList)) k) "") (zs.getD i "")
 | 0,i,h=>by
  have:i=0:=by omega
  subst this;show ltCps _ _=false;rw [ltCps_eq];exact d0 (List.lt_irrefl _)
 | k+1,i,h=>by
  have ih:=sX zs k;show Hs (zs.getD (if decide ((zs.getD (k+1) "").cps.toList < (zs.getD (argBest (λi j=>decide ((zs.getD i "").cps.toList < (zs.getD j "").cps.toList)) k) "").cps.toList)=true then k+1 else argBest (λi j=>decide ((zs.getD i "").cps.toList < (zs.getD j "").cps.toList)) k) "") (zs.getD i "");generalize argBest (λi j=>decide ((zs.getD i "").cps.toList < (zs.getD j "").cps.toList)) k=b at ih;rw [<-ltCps_eq];by_cases c:ltCps (zs.getD (k+1) "").cps.toList (zs.getD b "").cps.toList=true
  .rw [ax c];by_cases e:i=k+1
   .subst e;show ltCps _ _=false;rw [ltCps_eq];exact d0 (List.lt_irrefl _)
   exact lt_trans _ _ _ (Bt _ _ c) (ih i ∅)
  rw [az c];by_cases e:i=k+1
  .subst e;exact oN.mpr c
  exact ih i ∅
def De {X:Cx}(hc:X.calm=true):gM X (.builtin "min") (λxs H Q=>∃a zs,xs=[.ref a]/\aG X.K H a (List.map V.str zs)/\zs≠[]/\∀z∈zs,(∀y∈zs,Hs z y)->Q (.str z) H):=by
 intro aj s σ H xs us Q I r h;obtain⟨a,zs,rfl,hq,ne,q⟩:=h;obtain⟨u,rfl,rx⟩:=vals1 r;cases (show u=Value.ref a from rx);obtain⟨aW,rv,pl,hz⟩:=I.list hq;have hh:=I.ok.hd hc;have sa:=rg rv;have bu:=rv.length;rw [au] at bu;have N0:=pl.isList;have la:a < s.heap.objs.size:=by obtain⟨o,ho,_⟩:=N0;exact bR ho
 refine call_min_walk (qD N0 ?_);refine⟨_,_,_,_,_,_,λi j=>decide ((zs.getD i "").cps.toList < (zs.getD j "").cps.toList),rfl,Walks.list (by simp [hh]) _ a (cu la) aW.toArray,⟨⟨_,d8 _ rfl,rfl,rfl⟩,N0.push _⟩,?_,?_,?_,?_⟩
 .intro b hb;rw [mn];simp only [b8,List.not_mem_nil,or_false] at hb;rcases hb with rfl | rfl
  .exact mY _
  exact qR la
 .simp only [cH];cases zs with
  | nil=>exact absurd rfl ne
  | cons z r=>rw [fc] at bu;omega
 .intro i j vi vj s' Q' E' hi hj hQ;obtain⟨t,rfl⟩:=qk sa i vi (by rw [<-List.getElem?_toArray];exact hi);obtain⟨t',rfl⟩:=qk sa j vj (by rw [<-List.getElem?_toArray];exact hj)
  first | exact lt_str hQ | exact PySem.Xs.lt_str hQ | exact PyProof.lt_str hQ | exact PyProof.Rows.lt_str hQ
 intro v h' tk hv hk;have hb:=sX zs (aW.toArray.size - 1);generalize argBest (λi j=>decide ((zs.getD i "").cps.toList < (zs.getD j "").cps.toList)) (aW.toArray.size - 1)=k at hv hb;have U_:aW[k]?=some v:=by rw [<-List.getElem?_toArray];exact hv
 have lk:=(bf.mp U_).1;obtain⟨t,rfl⟩:=qk sa _ v U_;have lz:k < zs.length:=by omega
 have ez:zs.getD k ""=zs[k]:=by rw [ni,dI lz];rfl
 rw [ez] at hb ⊢;have lst:∀y∈zs,Hs zs[k] y:=λy hy=>by
  obtain⟨i,hi⟩:=fj hy;have li:=(bf.mp hi).1;have h1:=hb i (by rw [cH];omega);rw [ni,hi] at h1;exact h1
 refine⟨.str zs[k],H,I.kept (t':=tk) (λb o e=>hk b o ?_ (cJ _ e)),⟨_,rfl⟩,q _ (qP lz) lst⟩;have lb:=bR e;simp only [b8,List.not_mem_nil,or_false];exact cu lb
end L2
namespace gY
open PySem L2 M11
abbrev zy:Stmt:=top 12
def Dp (aa:List aw) (ns:List Str)(bU:List (Str×Str))(ru:aw) (pl:Nat)(w:Str):Prop:=∃p,ru.2[pl]?=some p/\(∀x∈ru.2.take pl,x∈ns)/\((p∉hm aa/\w=p)\/(p∈hm aa/\(p,w)∈bU))/\(ru.1,w)∉bU
structure HZ (aa:List aw) (ns:List Str)(bU:List (Str×Str)) (k pl:Nat)(w:Str):Prop where
 ex:∃ru,aa[k]?=some ru/\Dp aa ns bU ru pl w/\(∀Yo w',Yo < pl->¬Dp aa ns bU ru Yo w')/\∀w',Dp aa ns bU ru pl w'->Hs w w'
 first:∀ru∈aa.take k,∀pl w,¬Dp aa ns bU ru pl w
def Nz (aa:List aw) (ns:List Str)(bU:List (Str×Str)):Prop:=∀ru∈aa,∀pl w,¬Dp aa ns bU ru pl w
def HZ.no {aa:List aw}{ns:List Str}{bU:List (Str×Str)}{k pl:Nat}{w:Str}(h:HZ aa ns bU k pl w)(c:Nz aa ns bU):False:=by
 obtain⟨ru,e,l,_⟩:=h.ex;exact c ru (b9 e) pl w l
def HZ.Yz {aa:List aw}{ns:List Str}{bU:List (Str×Str)}{k pl j pm:Nat}{w v:Str}(h:HZ aa ns bU k pl w)(g:HZ aa ns bU j pm v):¬k < j:=λl=>by
 obtain⟨ru,e,l1,_⟩:=h.ex;exact g.first ru (b9 (i:=k) (by rw [tX l];exact e)) pl w l1
def HZ.uniq {aa:List aw}{ns:List Str}{bU:List (Str×Str)}{k pl j pm:Nat}{w v:Str}(h:HZ aa ns bU k pl w)(g:HZ aa ns bU j pm v):k=j/\pl=pm/\w=v:=by
 have h1:=h.Yz g;have h2:=g.Yz h;have e:k=j:=by omega
 subst e;obtain⟨ru,e,l1,f1,t1⟩:=h.ex;obtain⟨Bj,e',l2,f2,t2⟩:=g.ex;rw [e] at e';cases e';have n1:¬pl < pm:=λl=>f2 pl w l l1;have n2:¬pm < pl:=λl=>f1 pm v l l2;have e2:pl=pm:=by omega
 subst e2;exact⟨rfl,rfl,wq (t1 v l2) (t2 w l1)⟩
def kM {α:Type}(p:α->Bool){l:List α}{m:Nat}{q:α}(e:l[m]?=some q):(l.take (m+1)).filter p=(l.take m).filter p++if p q=true then [q] else []:=by
 rw [cK,e,qF]
 congr 1
 by_cases cz:p q=true
 .rw [ax cz];show List.filter _ [q]=[q];rw [oI,ax cz];rfl
 rw [az cz];show List.filter _ [q]=[];rw [oI,az cz];rfl
def Bv {aa:List aw}{ns pJ:List Str}{bU:List (Str×Str)}{ru:aw}{j:Nat}{pt:Str}(QV:ru.2[j]?=some pt)(op:∀x∈ru.2.take j,x∈ns)(w1:pt∉hm aa->∀x,x∈pJ↔x=pt)(w2:pt∈hm aa->∀x,x∈pJ↔(pt,x)∈bU){f:Str->Bool}(hf:∀y,f y=true↔(ru.1,y)∉bU)(y:Str):Dp aa ns bU ru j y↔y∈pJ.filter f:=by
 rw [i0,hf];constructor
 .rintro⟨pp,HP,_,h1,h2⟩;rw [QV] at HP;cases HP;exact⟨h1.elim (λa=>(w1 a.1 y).mpr a.2) λa=>(w2 a.1 y).mpr a.2,h2⟩
 rintro⟨h1,h2⟩;refine⟨pt,QV,op,?_,h2⟩;by_cases hp:pt∈hm aa
 .exact .inr ⟨hp,(w2 hp y).mp h1⟩
 exact .inl ⟨hp,(w1 hp y).mp h1⟩
section
def Bb (K:bp):Sp:=λvs H Q _=>∃(R N L:Addr)(rs ts:List Addr)(aa:List aw) (ns:List Str)(bU:List (Str×Str)),vs=[.ref R,.ref N,.ref L]/\aG K H R (rs.map V.ref)/\bQ K H rs aa/\Small aa/\aG K H N (ns.map V.str)/\ns.length<=1000/\aG K H L (ts.map V.ref)/\Paired (KY K H) ts bU/\bU.length<=1000/\∀H',aC H H'->(Nz aa ns bU->Q .eZ H')/\∀(k pl:Nat)(w:Str)(t:Addr),HZ aa ns bU k pl w->H t=none->a_ K H' t [.int (k:Int),.int (pl:Int),.str w]->Q (.ref t) H'
def iA:aK ["rules","names","pairs","empty","told","number","rule","place","part","words","lacking"] ["rules","names","pairs"] (ay zy):=iz rfl rfl rfl rfl nofun
def FA (F:hV K "begins_lack" "begins_lack" zy f fd)(T:Txt mg)(GT:aF P w K mg base 3 "words_told" ["rules","pairs"] (Ei K)):bV P w K mg base fK 4 f fd ["rules","names","pairs"] (Bb K):=by
 refine F.ok iA (λvs H Q E h=>?_) (λeX A outer s H vs Q E hr h=>?_)
 .obtain⟨R,N,L,rs,ts,aa,ns,bU,rfl,_⟩:=h;rfl
 obtain⟨R,N,L,rs,ts,aa,ns,bU,rfl,hR,cy,jj,hN,F7,hL,DB,wC,q⟩:=h;have hu:=fu hr;have bu:aa.length<=1000:=by have:=jj.most;omega
 refine⟨_,ag (aA (i:=3) iA.nd rfl (aZ rfl) (aX (cV rfl) rfl T.wO dS (ab (aV ["name"] [] rfl (aR (pv 1)) (aP rfl rfl) nofun rfl nofun
    (λ_ _ _ _ _=>aq (i:=0) (show (["name"]:List Str).Nodup by decide +kernel) rfl (aZ rfl)) (λ_ _ _ _ _=>a0) (λ_ _ _ _ _=>bC (ab (pv 0) (ab cI ai)))) ai)))
  (ag (aA (i:=4) iA.nd rfl (Or.inr rfl) (bq GT hr rfl (ab (pv 0) (ab (pv 2) ai))))
  (ag (bE bX rfl (jR rfl T.DG (ab (pv 0) ai)) (dD rfl (av (aq (i:=5) iA.nd rfl (aZ rfl)) (av (aq (i:=6) iA.nd rfl (Or.inr rfl)) bo)))
   (ao (bE bX rfl (kU rfl T.DG (ab (a7 bI (pv 6) ar (λ_ _=>rfl)) ai)) (dD rfl (av (aq (i:=7) iA.nd rfl (aZ rfl)) (av (aq (i:=8) iA.nd rfl (aZ rfl)) bo)))
    (ag (gU (aA (i:=9) iA.nd rfl (aZ rfl) (rL (dP (gW hu (pv 8) (pv 4))) (aX (j4 rfl) rfl T.lst eG (ab (eP hu (pv 4) (pv 8) (λ_ _=>rfl)) ai)) (bL (ab (pv 8) ai)))))
    (ag (gB (iy:=10) ["word"] [(4,"told"),(6,"rule")] iA.nd rfl rfl rfl (aR (pv 9)) (aP rfl rfl) nofun rfl nofun
     (λ_ _ _ _ _=>aq (i:=0) (show (["word","told","rule"]:List Str).Nodup by decide +kernel) rfl (aZ rfl)) (λ_ _ _ _ _=>gC (dP (df hu (pv 0) (eP hu (pv 1) (a7 (wy K) (pv 2) ar (λ_ _=>rfl)) (λ_ _=>rfl))))) (λ_ _ _ _ _=>pv 0))
    (ag (bz (iM (pv 10) (λ_=>rfl)) (ao (aL (bC (ab (pv 5) (ab (pv 7) (ab (aE (De rfl) rfl T.min PyProof.Rows.boot_min (ab (pv 10) ai)) ai)))))) aI)
    (ao (bz (dP (df hu (pv 8) (pv 3))) (ao xB) aI))))))))
  (ao (aL wa)))),?_⟩
 nofun
 have ll:=bc cy;refine⟨_,rfl,N,rfl,⟨_,hN⟩,λD1 MO=>lJ hN F7 MO λt1 H1 s1 DK Pd=>?_⟩;refine⟨D1,t1,_,rfl,DK,Pd,λd1 tP=>?_⟩;have Qs:=ic ns [] [] rfl;generalize cM (ns.map λz=>((Sum.inr z:aT),V.bl true)) []=xb at Qs;have UH:∀z,(bh xb (Sum.inr z)).isSome=decide (z∈ns):=λz=>by
  rw [mem_keys Qs,gi,decide_eq_true_iff,decide_eq_true_iff,iS];simp
 have s2:=s1.trans (af tP (.dK xb));have e2:upd H1 d1 (.dK xb) d1=some (.dK xb):=ae;generalize upd H1 d1 (.dK xb)=H2 at s2 e2;refine⟨_,rfl,_,rfl,R,L,rs,ts,aa,bU,rfl,s2.seq hR,cy.same s2,bu,s2.seq hL,Paired.dH DB (λ_ _ z=>s2.tup z),wC,λd ps H3 fd3 s3 W3 HN=>?_⟩;have yD:=s2.trans s3;have Vt:∀z,z∈ps.map (·.1)↔z∈hm aa:=λz=>by rw [W3.nm,iS];simp
 have mkt:∀z,(bh (ps.map ij) (Sum.inr z)).isSome=decide (z∈hm aa):=λz=>by
  rw [mem_keys (iC ps),gi,decide_eq_true_iff,decide_eq_true_iff];exact Vt z
 refine⟨_,rfl,R,_,rfl,yD.seq hR,?_⟩
 let oo:lW:=λi σ H5=>∃(y5 y6 y7 y8 y9 i4:Option V),σ=[aD R,aD N,aD L,aD d1,aD d,y5,y6,y7,y8,y9,i4]/\aC H H5/\H5 d1=some (.dK xb)/\WT H5 (lU [] (aa.map (·.1))) bU d ps/\∀ru∈aa.take i,∀pl w,¬Dp aa ns bU ru pl w
 refine iQ (xs:=rs.map V.ref) oo ⟨none,none,none,none,none,none,rfl,yD,s3 _ _ e2,W3,λru h=>(by simp at h)⟩ ?_ ?_ ?_
 .rintro i σ H5 _ ⟨y5,y6,y7,y8,y9,i4,rfl,s5,_⟩;exact s5.seq hR
 .intro i x σ H5 t ex iV ht
  ac_nf0
  obtain⟨y5,y6,y7,y8,y9,i4,rfl,s5,e5,W5,inv⟩:=iV;rw [a9] at ex;obtain⟨r,er,rfl⟩:=b_.mp ex;obtain⟨ru,e1,p,v1,v2⟩:=cy.get er;have gX:=b9 e1;have HJ:=jj.uL ru gX;obtain⟨k6,v6⟩:=jx (K:=K) ht [.int (i:Int),.ref r];generalize upd H5 t (.tup [.int (i:Int),.ref r])=H6 at k6 v6;have s6:=s5.trans k6;have Tx:aa.take (i+1)=aa.take i++[ru]:=by rw [cK,e1];rfl
  have hhd:ru.1∈hm aa:=cx.mpr ⟨ru,gX,rfl⟩;obtain⟨p0,Za,ZP⟩:=cx.mp ((Vt ru.1).mpr hhd);have xE:∀(y5 y6 y7 y8 y9 i4:Option V)(H':Hp),aC H H'->H' d1=some (.dK xb)->WT H' (lU [] (aa.map (·.1))) bU d ps->(∀pl w,¬Dp aa ns bU ru pl w)->∃(z5 z6 z7 z8 z9 z10:Option V),[some (V.ref R),aD N,aD L,aD d1,aD d,y5,y6,y7,y8,y9,i4]=[some (V.ref R),aD N,aD L,aD d1,aD d,z5,z6,z7,z8,z9,z10]/\aC H H'/\H' d1=some (.dK xb)/\WT H' (lU [] (aa.map (·.1))) bU d ps/\∀ru∈aa.take (i+1),∀pl w,¬Dp aa ns bU ru pl w:=λy5 y6 y7 y8 y9 i4 H' a b c e=>⟨_,_,_,_,_,_,rfl,a,b,c,λEW h2 n nw=>by
   rw [Tx] at h2;rcases cg.mp h2 with h3 | h3
   .exact inv EW h3 n nw
   rw [bH.mp h3];exact e n nw⟩
  refine⟨t,_,rfl,v6,rfl,_,_,rfl,_,_,rfl,rfl,?_⟩;refine⟨_,rfl,r,_,_,_,rfl,rfl,s6.tup v1,rfl,p,_,rfl,s6.tup v2,?_⟩
  let wZ:lW:=λj σ H7=>∃(y7 y8 y9 i4:Option V),σ=[aD R,aD N,aD L,aD d1,aD d,some (.int (i:Int)),aD r,y7,y8,y9,i4]/\aC H H7/\H7 d1=some (.dK xb)/\WT H7 (lU [] (aa.map (·.1))) bU d ps/\(∀pl w,pl < j->¬Dp aa ns bU ru pl w)/\∀x∈ru.2.take j,x∈ns
  refine lH (xs:=ru.2.map V.str) wZ ⟨_,_,_,_,rfl,s6,k6 _ _ e5,W5.same k6,λpl pp l=>absurd l (Nat.not_lt_zero _),λx h=>(by simp at h)⟩ ?_ ?_ ?_
  .rintro j σ H7 _ ⟨y7,y8,y9,i4,rfl,s7,_⟩;exact s7.tup v2
  .intro j x σ H7 t2 lS iV ji
   ac_nf0
   obtain⟨y7,y8,y9,i4,rfl,s7,e7,W7,SR,Uh⟩:=iV;rw [a9] at lS;obtain⟨part,yb,rfl⟩:=b_.mp lS;have lj:=(bf.mp yb).1;have tkp:ru.2.take (j+1)=ru.2.take j++[part]:=by rw [cK,yb];rfl
   obtain⟨k8,v8⟩:=jx (K:=K) ji [.int (j:Int),.str part];generalize upd H7 t2 (.tup [.int (j:Int),.str part])=H8 at k8 v8;have s8:=s7.trans k8;have e8:=k8 _ _ e7;have W8:=W7.same k8;refine⟨t2,_,rfl,v8,rfl,_,_,rfl,_,_,rfl,rfl,?_⟩;refine⟨λσ H9=>∃(D9:Addr) (pJ:List Str),σ=[aD R,aD N,aD L,aD d1,aD d,some (.int (i:Int)),aD r,some (.int (j:Int)),some (.str part),aD D9,i4]/\aC H8 H9/\H9 D9=some (.lst (pJ.map V.str))/\pJ.length<=1000/\(part∈hm aa->∀w,w∈pJ↔(part,w)∈bU)/\(part∉hm aa->∀w,w∈pJ↔w=part),?_,?_⟩
   .refine⟨_,rfl,_,rfl,d,_,rfl,b0.k (k:=Sum.inr part) W8.hd,_,rfl,?_⟩;rw [mkt];refine bJ (λc=>?_) (λc=>?_)
    .have hp:=cw c;obtain⟨p1,Qj,ep1⟩:=cx.mp ((Vt part).mpr hp);obtain⟨_,kw,ws,QW,Jk,mw,lw⟩:=W8.Ag p1 Qj;have vp:=fw ps W8.n1 p1 Qj;rw [ep1] at vp mw;have dg:b0 H8 d (.str part) (some (.ref p1.2)):=by
      have h1:=b0.k (k:=Sum.inr part) W8.hd;rw [vp] at h1;exact h1
     refine⟨_,rfl,_,rfl,d,_,rfl,dg,p1.2,kw,rfl,QW,λD9 ow=>?_⟩;rw [keys_str Jk];exact⟨D9,ws,rfl,af ow _,ae,∅,λ_=>mw,λn=>absurd hp n⟩
    have hp:part∉hm aa:=λz=>c (cf z);refine⟨_,rfl,Lf,λD9 ow=>?_⟩;exact⟨D9,[part],rfl,af ow _,ae,by simp,λh=>absurd h hp,λ_ w=>bH⟩
   rintro σ H9 ⟨D9,pJ,rfl,s9,Oc,lw9,m1,m2⟩;have Yj:=s8.trans s9;have W9:=W8.same s9;have e9:=s9 _ _ e8;obtain⟨_,kw0,Ic,Wg,Vy,UG,lw0⟩:=W9.Ag p0 Za;rw [ZP] at UG;have XO:=fw ps W9.n1 p0 Za;rw [ZP] at XO;refine⟨_,rfl,D9,rfl,⟨_,aG.of Oc⟩,λDA Jq=>bS (xs:=pJ.map V.str) (λk ys σ2 HA=>ys=((pJ.take k).filter λz=>!decide (z∈Ic)).map V.str/\(∃y0,σ2=[y0,aD d,aD r])/\aC H9 HA/\HA DA=some (.lst ys)) ⟨rfl,⟨none,rfl⟩,af Jq _,ae⟩ (λk ys σ2 HA _ h=>?_) (λk x ys σ2 HA ex h=>?_) (λys σ2 HA h=>?_)⟩
   .obtain⟨_,_,sm,_⟩:=h;exact aG.of (sm _ _ Oc)
   .obtain⟨rfl,⟨y0,rfl⟩,sm,eD⟩:=h;rw [a9] at ex;obtain⟨z,ez,rfl⟩:=b_.mp ex;have lk:=(bf.mp ez).1;have dg0:b0 HA d (.str ru.1) (some (.ref p0.2)):=by
     have h1:=b0.k (k:=Sum.inr ru.1) (sm _ _ W9.hd);rw [XO] at h1;exact h1
    refine goN ?_;refine⟨_,rfl,_,rfl,_,rfl,r,_,_,_,rfl,rfl,(Yj.trans sm).tup v1,rfl,d,_,rfl,dg0,p0.2,_,rfl,b0.k (k:=Sum.inr z) (sm _ _ Wg),_,rfl,?_⟩;rw [mem_keys Vy];have OB:=kM (λz=>!decide (z∈Ic)) ez;have lf:((pJ.take k).filter λz=>!decide (z∈Ic)).length<=1000:=by
     have:=l7 (λz=>!decide (z∈Ic)) (pJ.take k);rw [dr] at this;omega
    refine bJ (λc=>?_) (λc=>?_)
    .refine⟨_,rfl,eD,bD (by rw [au];omega),?_,⟨_,rfl⟩,λb o hb=>?_,ae⟩
     .rw [OB,ax c,bA];rfl
     rw [ak (λz=>by rw [z,Jq] at hb;cases hb)];exact sm b o hb
    exact⟨by rw [OB,az c,il],⟨_,rfl⟩,sm,eD⟩
   obtain⟨rfl,_,sm,eD⟩:=h;rw [au,cv] at eD;have RW:=Yj.trans sm;have WA:=W9.same sm;have eA:=sm _ _ e9;refine goN ?_
   ac_rfl
   refine⟨_,rfl,_,.inl ⟨_,aG.of eD,rfl⟩,?_⟩;cases hf:pJ.filter λz=>!decide (z∈Ic) with
   | cons z zs =>
    refine fC ?_;refine⟨_,rfl,_,rfl,_,rfl,DA,pJ.filter λz=>!decide (z∈Ic),rfl,aG.of eD,(by rw [hf];exact λy=>by cases y),λz2 NS lst=>⟨X4,λt3 F2=>?_⟩⟩;have k3:=af F2 (.tup [V.int (i:Int),V.int (j:Int),V.str z2]);have CM:=Bv yb Uh m2 m1 (f:=λz=>!decide (z∈Ic)) λy=>by rw [<-UG y];simp
    exact(q _ (RW.trans k3)).2 i j z2 t3 ⟨⟨ru,e1,(CM z2).mpr NS,λpl w' l=>SR pl w' l,λw' h=>lst w' ((CM w').mp h)⟩,inv⟩ (RW.free F2) (a_.of ae)
   | nil =>
    refine dM ?_;have all:∀z∈pJ,(ru.1,z)∈bU:=λz hz=>by
     by_cases c:z∈Ic
     .exact(UG z).mp c
     have:z∈pJ.filter λz=>!decide (z∈Ic):=i0.mpr ⟨hz,by rw [d0 c];rfl⟩;rw [hf] at this;cases this
    have cl8:∀pl w,pl < j+1->¬Dp aa ns bU ru pl w:=λpl w l=>by
     by_cases cj:pl < j
     .exact SR pl w cj
     have:pl=j:=by omega
     subst this;rintro⟨pp,HP,_,h1,h2⟩;rw [yb] at HP;cases HP;rcases h1 with ⟨a1,a2⟩ | ⟨a1,a2⟩
     .exact h2 (all w ((m2 a1 w).mpr a2))
     exact h2 (all w ((m1 a1 w).mpr a2))
    refine⟨_,rfl,_,rfl,d1,_,rfl,b0.k (k:=Sum.inr part) eA,_,rfl,?_⟩;rw [UH];refine bJ (λc=>?_) (λc=>?_)
    .have np:part∉ns:=λz=>by rw [cf z] at c;cases c
     refine xE _ _ _ _ _ _ _ RW eA WA λpl w=>?_;by_cases cj:pl < j+1
     .exact cl8 pl w cj
     rintro⟨pp,HP,o,_⟩;refine absurd (o part ?_) np;exact b9 (i:=j) (by rw [List.getElem?_take,ax ∅];exact yb)
    have ip:part∈ns:=Classical.byContradiction λz=>c (by rw [d0 z];rfl);refine⟨_,_,_,_,rfl,RW,eA,WA,cl8,λx hx=>?_⟩;rw [tkp] at hx;rcases cg.mp hx with h | h
    .exact Uh x h
    rw [bH.mp h];exact ip
  rintro σ H7 ⟨y7,y8,y9,i4,rfl,s7,e7,W7,SR,Uh⟩;refine xE _ _ _ _ _ _ _ s7 e7 W7 λpl w h=>SR pl w ?_ h;obtain⟨pp,HP,_⟩:=h;rw [au];exact(bf.mp HP).1
 rintro σ H5 ⟨y5,y6,y7,y8,y9,i4,rfl,s5,e5,W5,inv⟩;rw [au,ll,cv] at inv;exact(q H5 s5).1 inv
end
end gY
namespace L2
open PySem
def zK {X:Cx}(K:bp)(hu:X.A.units+1 < cLine)(hK:X.K=K:=by rfl):jH X (compareOp .NotIn) (LD K true):=by
 subst hK;exact ux hu
def FQ (a:Str):Hs a a:=by
 show PySem.Spec.ltCps _ _=false;rw [PyProof.Rows.ltCps_eq];exact d0 (List.lt_irrefl _)
end L2
namespace gY
open PySem L2 M11
abbrev vT:Stmt:=top 63
section
def xr (K:bp):Sp:=λvs H Q _=>∃(R N L:Addr)(rs ts:List Addr)(aa:List aw) (ns:List Str)(bU:List (Str×Str)),vs=[.ref R,.ref N,.ref L]/\aG K H R (rs.map V.ref)/\bQ K H rs aa/\Small aa/\aG K H N (ns.map V.str)/\ns.length<=1000/\aG K H L (ts.map V.ref)/\Paired (KY K H) ts bU/\bU.length<=63/\∀H',aC H H'->(Nz aa ns bU->Q .eZ H')/\∀(k pl:Nat)(w:Str)(t:Addr),HZ aa ns bU k pl w->H t=none->a_ K H' t [.int (k:Int),.int (pl:Int),.str w]->Q (.ref t) H'
noncomputable abbrev NLL:List Str:=["_law_rules","_law_names_here","_law_pairs","_law_heads","_law_number","_law_head","_law_parts","_law_place","_law_words_here","_law_lack"]
def gR:aK NLL ["_law_rules","_law_names_here","_law_pairs"] (ay vT):=iz rfl rfl rfl rfl nofun
def Cv (F:hV K "_law_begin_lacks" "_law_begin_lacks" vT f fd)(T:Txt mg)(hSo:mg "sorted"=none):bV P w K mg base fK 1 f fd ["_law_rules","_law_names_here","_law_pairs"] (xr K):=by
 refine F.ok gR (λvs H Q E h=>?_) (λeX A outer s H vs Q E hr h=>?_)
 .obtain⟨R,N,L,rs,ts,aa,ns,bU,rfl,_⟩:=h;rfl
 obtain⟨R,N,L,rs,ts,aa,ns,bU,rfl,hR,cy,jj,hN,F7,hL,DB,wC,q⟩:=h;have hu:=fu hr;have P_:=Nat.lt_of_succ_lt hu;have bu:aa.length<=1000:=by have:=jj.most;omega
 refine⟨_,ag (gB (iy:=3) ["_law_head","_law_parts"] [] gR.nd rfl rfl rfl (aR (pv 0)) (aP rfl rfl) nofun rfl nofun
   (λ_ _ _ _ _=>d_ (n:=2) K rfl (av (aq (i:=0) (show (["_law_head","_law_parts"]:List Str).Nodup by decide +kernel) rfl (aZ rfl)) (av (aq (i:=1) (show (["_law_head","_law_parts"]:List Str).Nodup by decide +kernel) rfl (aZ rfl)) bo))) (λ_ _ _ _ _=>a0) (λ_ _ _ _ _=>pv 0))
  (ag (bE bX rfl (fY rfl T.Bk (ab (aE aS rfl T.len dZ (ab (pv 0) ai)) ai)) (aq (i:=4) gR.nd rfl (aZ rfl))
   (ag (zF (a7 bZ (pv 0) (pv 4) (λ_ _=>rfl)) (dD rfl (av (aq (i:=5) gR.nd rfl (Or.inr rfl)) (av (aq (i:=6) gR.nd rfl (Or.inr rfl)) bo))))
   (ao (bE bX rfl (fY rfl T.Bk (ab (aE aS rfl T.len dZ (ab (pv 6) ai)) ai)) (aq (i:=7) gR.nd rfl (Or.inr rfl))
    (ao (bz (dJ (aE (cX rfl) rfl T.all boot_all (ab (aV ["_law_part"] [(1,"_law_names_here")] rfl (dQ (bY gw (pv 6) cO (cN (pv 7)))) (aP rfl rfl) nofun rfl nofun
      (λ_ _ _ _ _=>aq (i:=0) (show (["_law_part","_law_names_here"]:List Str).Nodup by decide +kernel) rfl (aZ rfl)) (λ_ _ _ _ _=>a0) (λ_ _ _ _ _=>dw (dF K) (pv 0) (pv 1) rfl)) ai)))
     (ag (aA (i:=8) gR.nd rfl (aZ rfl) (bL (ab (a7 bI (pv 6) (pv 7) (λ_ _=>rfl)) ai)))
     (ag (gU (bz (aQ iH (a7 bI (pv 6) (pv 7) (λ_ _=>rfl)) (pv 3) rfl)
      (ao (gB (iy:=8) ["_law_name","_law_word"] [(6,"_law_parts"),(7,"_law_place")] gR.nd rfl rfl rfl (aR (pv 2)) (aP rfl rfl) nofun rfl nofun
       (λ_ _ _ _ _=>d_ (n:=2) K rfl (av (aq (i:=0) (show (["_law_name","_law_word","_law_parts","_law_place"]:List Str).Nodup by decide +kernel) rfl (aZ rfl)) (av (aq (i:=1) (show (["_law_name","_law_word","_law_parts","_law_place"]:List Str).Nodup by decide +kernel) rfl (aZ rfl)) bo)))
       (λ_ _ _ _ _=>gC (aQ gJ (pv 0) (a7 (wy K) (pv 2) (pv 3) (λ_ _=>rfl)) (bx _))) (λ_ _ _ _ _=>pv 1))) aI))
     (ag (aA (i:=9) gR.nd rfl (aZ rfl) (aE AB rfl hSo PyProof.Rows.boot_sorted (ab (aV ["_law_word"] [(5,"_law_head"),(2,"_law_pairs")] rfl (aR (pv 8)) (aP rfl rfl) nofun rfl nofun
       (λ_ _ _ _ _=>aq (i:=0) (show (["_law_word","_law_head","_law_pairs"]:List Str).Nodup by decide +kernel) rfl (aZ rfl)) (λ_ _ _ _ _=>gC (aQ (zK K hu) (bC (ab (pv 1) (ab (pv 0) ai))) (pv 2) rfl)) (λ_ _ _ _ _=>pv 0)) ai)))
     (ao (bz (aQ (Cn P_) (pv 9) (bL ai) (bx _)) (ao (aL (bC (ab (pv 4) (ab (pv 7) (ab (a7 bZ (pv 9) ar (λ_ _=>rfl)) ai)))))) aI))))) aI))))))
  (ao (aL wa))),?_⟩
 nofun
 have ll:=bc cy;have R_:=bc DB;have hn8:=jj.most;refine⟨_,rfl,R,rfl,⟨_,hR⟩,λDh VT=>iT hR cy bu VT λH1 s1 DK=>?_⟩;refine goN ?_
 ac_rfl
 refine⟨_,rfl,R,_,rfl,.inl (s1.seq hR),_,rfl,by rw [au];omega,by rw [au];omega,?_⟩;rw [au,ll,iJ]
 let oo:lW:=λi σ H5=>∃(y4 y5 y6 y7 y8 y9:Option V),σ=[aD R,aD N,aD L,aD Dh,y4,y5,y6,y7,y8,y9]/\aC H H5/\H5 Dh=some (.lst ((hm aa).map V.str))/\∀ru∈aa.take i,∀pl w,¬Dp aa ns bU ru pl w
 refine fZ (n:=aa.length) oo ⟨none,none,none,none,none,none,rfl,s1,DK,λru h=>(by simp at h)⟩ ?_ ?_
 .intro i σ H5 hi iV
  ac_nf0
  obtain⟨y4,y5,y6,y7,y8,y9,rfl,s5,eD,inv⟩:=iV;obtain⟨ru,qz⟩:∃ru,aa[i]?=some ru:=⟨_,dI hi⟩;obtain⟨r,er,p,v1,v2⟩:=Paired.at_ cy i ru qz;have gX:=b9 qz;have h6:=jj.uL ru gX;have Tx:aa.take (i+1)=aa.take i++[ru]:=by rw [cK,qz];rfl
  have sY:lV (rs.map V.ref) (0+(i:Int))=some (.ref r):=by rw [iW];exact bT (by rw [a9,er];rfl)
  refine goN ?_
  ac_rfl
  refine⟨_,rfl,_,rfl,R,_,_,_,rfl,rfl,s5.seq hR,sY,r,_,rfl,s5.tup v1,rfl,_,_,rfl,_,_,rfl,rfl,?_⟩;refine⟨_,rfl,p,_,rfl,.inr (s5.tup v2),_,rfl,by rw [au];omega,by rw [au];omega,?_⟩;rw [au,iJ]
  let wZ:lW:=λj σ H7=>∃(y7 y8 y9:Option V),σ=[aD R,aD N,aD L,aD Dh,some (.int (0+(i:Int))),some (.str ru.1),aD p,y7,y8,y9]/\aC H H7/\H7 Dh=some (.lst ((hm aa).map V.str))/\∀pl w,pl < j->¬Dp aa ns bU ru pl w
  refine fZ (n:=ru.2.length) wZ ⟨_,_,_,rfl,s5,eD,λpl w l=>absurd l (Nat.not_lt_zero _)⟩ ?_ ?_
  .intro j σ H7 hj iV
   ac_nf0
   obtain⟨y7,y8,y9,rfl,s7,e7,inj⟩:=iV;obtain⟨pt,QV⟩:∃pt,ru.2[j]?=some pt:=⟨_,dI hj⟩;have DM:lV (ru.2.map V.str) (0+(j:Int))=some (.str pt):=by
    rw [iW];exact bT (by rw [a9,QV];rfl)
   have cut:fI (ru.2.map V.str) none (some (0+(j:Int)))=(ru.2.take j).map V.str:=by
    rw [iW];exact Q_ _ _
   refine goN ?_
   ac_nf
   refine⟨_,rfl,_,rfl,_,rfl,p,_,rfl,s7.tup v2,λp2 H8 s8 DF=>?_⟩;rw [cut] at DF;have EN:=s7.trans s8;refine⟨p2,rfl,⟨_,DF⟩,λD9 ow=>fh (zs:=ru.2.take j) [aD N] (λz=>decide (z∈ns)) rfl DF (by rw [dr];omega) ow (λz _ HA Qy sA hq=>?_) λH9 s9 e9=>?_⟩
   .refine⟨_,rfl,_,rfl,N,_,rfl,.inl (sA.seq (EN.seq hN)),rfl,bO _,?_⟩;rw [di];exact hq
   have Ce:=EN.trans s9;have Oc:=(s8.trans s9) _ _ e7;refine⟨D9,_,rfl,aG.of e9,_,rfl,?_⟩;rw [all_map];cases ca:(ru.2.take j).all λx=>decide (x∈ns) with
   | false =>
    refine dM ?_;refine⟨_,_,_,rfl,Ce,Oc,λpl w l h=>?_⟩;by_cases cj:pl < j
    .exact inj pl w cj h
    have:pl=j:=by omega
    subst this;obtain⟨pp,_,o,_⟩:=h;rw [dN.mpr λx hx=>cf (o x hx)] at ca;cases ca
   | true =>
   have opj:∀x∈ru.2.take j,x∈ns:=λx hx=>cw (dN.mp ca x hx);refine fC ?_;refine⟨_,rfl,_,rfl,p,_,_,_,rfl,rfl,Ce.tup v2,DM,Lf,λDw hDw=>?_⟩;obtain⟨kA,eA⟩:=gb hDw (.lst [V.str pt]);generalize upd H9 Dw (.lst [V.str pt])=HA at kA eA;have sA:=Ce.trans kA;have eDA:=kA _ _ Oc;refine⟨λσ HB=>∃(Dv:Addr) (pJ:List Str),σ=[aD R,aD N,aD L,aD Dh,some (.int (0+(i:Int))),some (.str ru.1),aD p,some (.int (0+(j:Int))),aD Dv,y9]/\aC HA HB/\HB Dv=some (.lst (pJ.map V.str))/\pJ.length<=63/\(pt∉hm aa->∀x,x∈pJ↔x=pt)/\(pt∈hm aa->∀x,x∈pJ↔(pt,x)∈bU),?_,?_⟩
   .refine⟨_,rfl,_,rfl,p,_,_,_,rfl,rfl,sA.tup v2,DM,_,rfl,Dh,_,rfl,.inl (aG.of eDA),rfl,bO _,_,rfl,?_⟩;rw [di];refine bJ (λcc=>?_) (λcc=>?_)
    .have VB:pt∈hm aa:=cw cc;refine⟨_,rfl,L,rfl,⟨_,sA.seq hL⟩,λDA Jq=>bS (xs:=ts.map V.ref) (λm ys σ2 HC=>ys=(((bU.take m).filter λq=>decide (q.1=pt)).map λq=>V.str q.2)/\(∃y0 y1,σ2=[y0,y1,aD p,some (.int (0+(j:Int)))])/\aC HA HC/\HC DA=some (.lst ys)) ⟨rfl,⟨none,none,rfl⟩,af Jq _,ae⟩ (λm ys σ2 HC _ h=>?_) (λm x ys σ2 HC ex h=>?_) (λys σ2 HC h=>?_)⟩
     .obtain⟨_,_,sm,_⟩:=h;exact(sA.trans sm).seq hL
     .obtain⟨rfl,⟨y0,y1,rfl⟩,sm,eD⟩:=h;rw [a9] at ex;obtain⟨u,eu,rfl⟩:=b_.mp ex;have lm:=(bf.mp eu).1;obtain⟨qq,ZN⟩:∃qq,bU[m]?=some qq:=⟨_,dI ∅⟩;obtain⟨u',ZE,vu⟩:=Paired.at_ DB m qq ZN;rw [eu] at ZE;cases ZE;have XX:=kM (λq:Str×Str=>decide (q.1=pt)) ZN;have lfq:((bU.take m).filter λq=>decide (q.1=pt)).length<=64:=f_ (l7 _ _) (by rw [dr];omega);refine⟨u,_,rfl,(sA.trans sm).tup vu,rfl,_,_,rfl,_,_,rfl,rfl,?_⟩;refine⟨_,rfl,_,rfl,_,rfl,p,_,_,_,rfl,rfl,(sA.trans sm).tup v2,DM,rfl,_,rfl,?_⟩;rw [Oh];refine bJ (λc3=>?_) (λc3=>?_)
      .refine⟨_,rfl,eD,bD (by rw [au];omega),?_,⟨_,_,rfl⟩,λb o hb=>?_,ae⟩
       .rw [XX,ax c3,bA];rfl
       rw [ak (λz=>by rw [z,Jq] at hb;cases hb)];exact sm b o hb
      exact⟨by rw [XX,az c3,il],⟨_,_,rfl⟩,sm,eD⟩
     obtain⟨rfl,_,sm,eD⟩:=h;rw [au,R_,cv] at eD;refine goN ?_
     ac_nf
     refine⟨DA,(bU.filter λq=>decide (q.1=pt)).map (·.2),rfl,sm,by rw [eD,ik];rfl,by rw [au];exact f_ (l7 _ _) wC,λh=>absurd VB h,λ_ x=>?_⟩;rw [cx];constructor
     .rintro⟨q2,Vl,rfl⟩;obtain⟨a1,a2⟩:=i0.mp Vl;rw [<-cw a2];exact a1
     exact λhx=>⟨(pt,x),i0.mpr ⟨hx,cf rfl⟩,rfl⟩
    have R7:pt∉hm aa:=λz=>cc (cf z);exact⟨Dw,[pt],rfl,aC.refl _,eA,by simp,λ_ x=>bH,λh=>absurd h R7⟩
   rintro σ HB ⟨Dv,pJ,rfl,sB,eB,lw,w1,w2⟩;have Yi:=sA.trans sB;refine⟨_,rfl,Dv,rfl,⟨_,aG.of eB⟩,λDC N3=>bS (xs:=pJ.map V.str) (λm ys σ2 HC=>ys=((pJ.take m).filter λz=>!decide ((ru.1,z)∈bU)).map V.str/\(∃y0,σ2=[y0,some (.str ru.1),aD L])/\aC HB HC/\HC DC=some (.lst ys)) ⟨rfl,⟨none,rfl⟩,af N3 _,ae⟩ (λm ys σ2 HC _ h=>?_) (λm x ys σ2 HC ex h=>?_) (λys σ2 HC h=>?_)⟩
   .obtain⟨_,_,sm,_⟩:=h;exact aG.of (sm _ _ eB)
   .obtain⟨rfl,⟨y0,rfl⟩,sm,eD⟩:=h;rw [a9] at ex;obtain⟨wd,ewd,rfl⟩:=b_.mp ex;have OB:=kM (λz=>!decide ((ru.1,z)∈bU)) ewd;have lfw:((pJ.take m).filter λz=>!decide ((ru.1,z)∈bU)).length<=64:=f_ (l7 _ _) (by rw [dr];omega);refine goN ?_;refine⟨_,rfl,_,rfl,Ca,λu1 Ah=>?_⟩;obtain⟨kD,uN⟩:=jx (K:=K) Ah [V.str ru.1,V.str wd];generalize upd HC u1 (.tup [V.str ru.1,V.str wd])=HD at kD uN;have Ob:=kD _ _ eD;have Yb:=(Yi.trans sm).trans kD;refine⟨_,rfl,u1,L,(ru.1,wd),ts,bU,rfl,rfl,uN,Yb.seq hL,Paired.dH DB λ_ _ z=>Yb.tup z,_,rfl,?_⟩;show if (!decide ((ru.1,wd)∈bU))=true then _ else _;refine bJ (λcc=>?_) (λcc=>?_)
    .refine⟨_,rfl,Ob,bD (by rw [au];omega),?_,⟨_,rfl⟩,λb o hb=>?_,ae⟩
     .rw [OB,ax cc,bA];rfl
     rw [ak (λz=>by rw [z,N3] at hb;cases hb)];exact kD _ _ (sm b o hb)
    exact⟨by rw [OB,az cc,il],⟨_,rfl⟩,sm.trans kD,Ob⟩
   obtain⟨rfl,_,sm,eD⟩:=h;rw [au,cv] at eD;have s0C:=Yi.trans sm;have CM:=Bv QV opj w1 w2 (f:=λz=>!decide ((ru.1,z)∈bU)) λy=>by simp
   refine⟨DC,_,rfl,aG.of eD,(tT (l7 _ _) ∅),λl yV hl pm srt=>?_⟩;obtain⟨kE,eE⟩:=gb hl (.lst (yV.map V.str));generalize upd HC l (.lst (yV.map V.str))=HE at kE eE;refine⟨_,rfl,RP,λl0 Jj=>?_⟩;obtain⟨kF,eF⟩:=gb Jj (.lst []);generalize upd HE l0 (.lst [])=HF at kF eF;have Yc:=kE.trans kF;have T_:=s0C.trans Yc;have eDF:=((kA.trans sB).trans (sm.trans Yc)) _ _ Oc;refine⟨l,l0,_,rfl,rfl,aG.of (kF _ _ eE),aG.of eF,_,rfl,?_⟩;cases yV with
   | nil =>
    refine dM ?_;refine⟨_,_,_,rfl,T_,eDF,λpl w l h=>?_⟩;by_cases cj:pl < j
    .exact inj pl w cj h
    have:pl=j:=by omega
    subst this;have h1:=pm.mem_iff.mpr ((CM w).mp h);cases h1
   | cons z zs =>
    refine fC ?_;have pw:=List.pairwise_cons.mp (Cc srt);refine⟨_,rfl,_,rfl,_,rfl,l,_,_,.str z,rfl,rfl,aG.of (kF _ _ eE),(show lV (V.str z::zs.map V.str) ((0:Nat):Int)=some (V.str z) from bT rfl),X4,λt3 F2=>?_⟩;have k3:=af F2 (.tup [V.int (0+(i:Int)),V.int (0+(j:Int)),V.str z]);refine(q _ (T_.trans k3)).2 i j z t3 ⟨⟨ru,qz,(CM z).mpr (pm.mem_iff.mp cS),λpl w' l=>inj pl w' l,λw' h=>?_⟩,inv⟩ (T_.free F2) (a_.of (by rw [ae,iW,iW]));rcases b8.mp (pm.mem_iff.mpr ((CM w').mp h)) with e | e
    .rw [e];exact FQ _
    exact pw.1 w' e
  rintro σ H7 ⟨y7,y8,y9,rfl,s7,e7,inj⟩;refine⟨_,_,_,_,_,_,rfl,s7,e7,λEW h2 pl w h=>?_⟩;rw [Tx] at h2;rcases cg.mp h2 with h3 | h3
  .exact inv EW h3 pl w h
  rw [bH.mp h3] at h;have:pl < ru.2.length:=by obtain⟨pp,HP,_⟩:=h;exact(bf.mp HP).1
  exact inj pl w this h
 rintro σ H5 ⟨y4,y5,y6,y7,y8,y9,rfl,s5,eD,inv⟩;rw [cv] at inv;exact(q H5 s5).1 inv
end
abbrev EM:Stmt:=top 64
def Tu (b:Bool)(xs:List V):Prop:=match b with
 | false=>∃(nm:Str) (n:Int),xs=[.str nm,.int n]
 | true=>∃(nm w:Str) (n pl:Int),xs=[.str nm,.str w,.int n,.int pl]
def BY (K:bp)(b:Bool)(H:Hp)(t:Addr):Prop:=∃xs,Tu b xs/\a_ K H t xs
def BY.same {K:bp}{b:Bool}{H H':Hp}{t:Addr}(h:BY K b H t)(s:aC H H'):BY K b H' t:=by
 obtain⟨xs,a,c⟩:=h;exact⟨xs,a,s.tup c⟩
def JA {α:Type}(f:α->V)(xs:List α) (j:Nat):fI (xs.map f) none (some (j:Int))=(xs.take j).map f:=by
 unfold fI;rw [show HT.fR (xs.map f).length 0 none=0 from rfl,HT.jP,mW,ml,kI,<-qV]
def GK {α:Type}(f:α->V)(xs:List α) (j:Nat):fI (xs.map f) (some (j:Int)) none=(xs.drop (min j xs.length)).map f:=by
 unfold fI;rw [HT.jP,show HT.fR (xs.map f).length (xs.map f).length none=(xs.map f).length from rfl,au,<-List.map_drop,<-kI]
 congr 1
 exact tW (by rw [mX];exact aU _)
def Ih {b:Bool}{xs:List V}{n:Int}(h:Tu b xs):Tu b (fI xs none (some ((xs.length:Int) - 1))++[.int n]):=by
 cases b with
 | false=>obtain⟨nm,m,rfl⟩:=h;exact⟨nm,n,rfl⟩
 | true=>obtain⟨nm,w,m,pl,rfl⟩:=h;exact⟨nm,w,m,n,rfl⟩
def Ii {b:Bool}{xs:List V}{h:Str}(t:Tu b xs):Tu b ([.str h]++fI xs (some 1) none):=by
 cases b with
 | false=>obtain⟨nm,m,rfl⟩:=t;exact⟨h,m,rfl⟩
 | true=>obtain⟨nm,w,m,pl,rfl⟩:=t;exact⟨h,w,m,pl,rfl⟩
def AS {b:Bool}{xs ys:List V}(t:Tu b (xs++ys)):xs.length+ys.length<=sizeLine:=by
 rw [<-bW];cases b with
 | false=>obtain⟨nm,m,e⟩:=t;rw [e];exact Ca
 | true=>obtain⟨nm,w,m,pl,e⟩:=t;rw [e];exact RO
def lL {K:bp}{HA:Hp}{L p4 u:Addr}{ts:List Addr}{k:Nat}{y1 y2 y4 y5 y6:Option V}{Q:VK}(lk:k < ts.length)(Qa:ts.length<=100)(C0:HA p4=some (.lst ((ts.take k).map V.ref)))(ox:HA L=some (.lst (ts.map V.ref)))
  (sO:fI (ts.map V.ref) (some ((k:Int)+1)) none=(ts.drop (k+1)).map V.ref)
  (fin:∀HD,aC HA HD->∀l5,HD l5=none->Q (.ref l5) (upd HD l5 (.lst ((ts.take k).map V.ref++[V.ref u]++(ts.drop (k+1)).map V.ref)))) :
  1<=sizeLine/\∀l2,HA l2=none->LF (.ref p4) (.ref l2) (upd HA l2 (.lst [V.ref u])) λx H1=>Tz (O8 K) (fS 0) (Ea (ND (Iw λi j=>V.int (i+j)) (fS 3) (tC (.int 1)))) vF [aD L,y1,y2,some (.int (k:Int)),y4,y5,y6] H1 λy H2=>LF x y H2 Q:=by
 refine⟨Lf,λl2 o_=>?_⟩;obtain⟨kB,eB⟩:=gb o_ (.lst [V.ref u]);generalize upd HA l2 (.lst [V.ref u])=HB at kB eB;refine⟨p4,l2,_,_,rfl,rfl,kB _ _ C0,eB,fits (by rw [au,dr];show _+1<=_;omega),λl3 NZ=>?_⟩;obtain⟨kC,eC⟩:=gb NZ (.lst ((ts.take k).map V.ref++[V.ref u]));generalize upd HB l3 (.lst ((ts.take k).map V.ref++[V.ref u]))=HC at kC eC;have sC:=kB.trans kC;refine⟨_,rfl,_,rfl,_,_,rfl,rfl,_,rfl,L,_,rfl,aG.of (sC _ _ ox),λl4 Vv=>?_⟩;rw [sO];obtain⟨kD,eD⟩:=gb Vv (.lst ((ts.drop (k+1)).map V.ref));generalize upd HC l4 (.lst ((ts.drop (k+1)).map V.ref))=HD at kD eD;refine⟨l3,l4,_,_,rfl,rfl,kD _ _ eC,eD,fits (by rw [bW,au,dr,au,mX];show _+1+_<=_;omega),λl5 Gb=>?_⟩;exact fin HD (sC.trans kD) l5 Gb
section
def Et (K:bp):Sp:=λvs H Q _=>∃(b:Bool)(L R:Addr) (c:Int)(ts rs:List Addr)(aa:List aw),vs=[.ref L,.int c,.ref R]/\H L=some (.lst (ts.map V.ref))/\(∀t∈ts,BY K b H t)/\ts.length<=100/\aG K H R (rs.map V.ref)/\bQ K H rs aa/\Small aa /\
 ∀(L':Addr)(Hk:List Addr)(H':Hp),aC H H'->H' L'=some (.lst (Hk.map V.ref))->(∀t∈Hk,BY K b H' t)->Hk.length<=ts.length+1->Q (.ref L') H'
noncomputable abbrev NBt:List Str:=["_law_told","_law_cell","_law_rules","_law_at","_law_one","_law_rest","_law_number"]
def rD:aK NBt ["_law_told","_law_cell","_law_rules"] (ay EM):=iz rfl rfl rfl rfl nofun
def IY (F:hV K "_law_bent" "_law_bent" EM f fd)(T:Txt mg):bV P w K mg base fK 1 f fd ["_law_told","_law_cell","_law_rules"] (Et K):=by
 refine F.ok rD (λvs H Q E h=>?_) (λeX A outer s H vs Q E hr h=>?_)
 .obtain⟨b,L,R,c,ts,rs,aa,rfl,_⟩:=h;rfl
 obtain⟨b,L,R,c,ts,rs,aa,rfl,hL,xc,Qa,hR,cy,jj,q⟩:=h;have hu:=fu hr;have P_:=Nat.lt_of_succ_lt hu;refine⟨_,ag (bz (aQ (Cp P_) (pv 0) (bL ai) (bx _)) (ao (aL (pv 0))) aI)
  (ag (aA (i:=3) rD.nd rfl (aZ rfl) (aH cD (aH dA (pv 1) ar) (aE aS rfl T.len dZ (ab (pv 0) ai))))
  (ag (aA (i:=4) rD.nd rfl (aZ rfl) (a7 bZ (pv 0) (pv 3) (λ_ _=>rfl)))
  (ag (aA (i:=5) rD.nd rfl (aZ rfl) (aH gh (bY gy (pv 0) cO (cN (pv 3))) (bY gy (pv 0) (cN (aH dG (pv 3) ar)) cO)))
  (ag (aA (i:=6) rD.nd rfl (aZ rfl) (aH rM (aH cD (aH dA (pv 1) ar) (aH dG (aE aS rfl T.len dZ (ab (pv 2) ai)) ar)) ar))
  (ag (bz (aQ gJ (aH cD (pv 1) ar) ar (bx _)) (ao (aL (pv 5))) aI)
  (ag (bz (aQ gJ (aH cD (pv 1) ar) ar (bx _)) (ao (aL (aH gh (bL (ab (pv 4) ai)) (pv 5)))) aI)
  (ag (bz (aQ gJ (aH cD (pv 1) ar) ar (bx _)) (ao (aL (aH gh (pv 0) (bL (ab (pv 4) ai))))) aI)
  (ag (bz (aQ gJ (aH cD (pv 1) ar) ar (bx _)) (ao (aL (aH gh (aH gh (bY gy (pv 0) cO (cN (pv 3))) (bL (ab (aH jU (bY gw (pv 4) cO (cN (aH rM (aE aS rfl T.len dZ (ab (pv 4) ai)) ar))) (bC (ab (pv 6) ai))) ai))) (bY gy (pv 0) (cN (aH dG (pv 3) ar)) cO)))) aI)
  (ag (bz (aQ gJ (aH cD (pv 1) ar) ar (bx _)) (ao (aL (aH gh (aH gh (bY gy (pv 0) cO (cN (pv 3))) (bL (ab (aH jU (bC (ab (a7 bI (a7 bZ (pv 2) (aE (pD rfl) rfl T.max PyProof.Rows.boot_max (ab ar (ab (aE (uR rfl) rfl T.min PyProof.Rows.boot_min (ab (pv 6) (ab (aH rM (aE aS rfl T.len dZ (ab (pv 2) ai)) ar) ai))) ai))) (λ_ _=>rfl)) ar (λ_ _=>rfl)) ai)) (bY gw (pv 4) (cN ar) cO)) ai))) (bY gy (pv 0) (cN (aH dG (pv 3) ar)) cO)))) aI)
  (ag (bz (PW.pt (ig (aQ gJ (aH cD (pv 1) ar) ar (bx _)) (gA (aQ gJ (aE aS rfl T.len dZ (ab (pv 4) ai)) ar (bx _))))) (ao (aL (aH gh (aH gh (bY gy (pv 0) cO (cN (pv 3))) (bL (ab (aH jU (bC (ab (a7 bI (pv 4) ar (λ_ _=>rfl)) (ab (a7 bZ (bL (ab cU (ab cU (ab cU (ab cU ai))))) (aH cD (aH dA (pv 1) ar) ar) (λ_ _=>rfl)) ai))) (bY gw (pv 4) (cN ar) cO)) ai))) (bY gy (pv 0) (cN (aH dG (pv 3) ar)) cO)))) aI)
  (ag (bz (PW.pt (ig (aQ gJ (aH cD (pv 1) ar) ar (bx _)) (gA (aQ gJ (aE aS rfl T.len dZ (ab (pv 4) ai)) ar (bx _))))) (ao (aL (aH gh (aH gh (bY gy (pv 0) cO (cN (pv 3))) (bL (ab (aH jU (bY gw (pv 4) cO (cN ar)) (bC (ab (pv 6) (ab (a7 bI (pv 4) ar (λ_ _=>rfl)) ai)))) ai))) (bY gy (pv 0) (cN (aH dG (pv 3) ar)) cO)))) aI)
  (ao (aL (pv 0)))))))))))))),?_⟩
 nofun
 have ll:=bc cy;have hn8:=jj.most;have Zc:=jj.one;refine⟨_,rfl,RP,λl0 Jj=>?_⟩;obtain⟨k1,e1⟩:=gb Jj (.lst []);generalize upd H l0 (.lst [])=H1 at k1 e1;refine⟨L,l0,_,rfl,rfl,aG.of (k1 _ _ hL),aG.of e1,_,rfl,?_⟩;refine bJ (λ_=>?_) (λc0=>?_)
 .exact⟨_,rfl,q L ts H1 k1 (k1 _ _ hL) (λt ht=>(xc t ht).same k1) (kj _)⟩
 have lt0:0 < ts.length:=by
  cases ts with
  | nil=>exact absurd rfl c0
  | cons _ _=>exact Nat.zero_lt_succ _
 have SM:=k1 _ _ hL;refine⟨_,rfl,_,_,rfl,rfl,⟨nofun,nofun⟩,_,rfl,L,_,rfl,.inl (aG.of SM),_,_,rfl,rfl,(by show (0:Int) < ((ts.map V.ref).length:Int);rw [au];omega),?_⟩;obtain⟨k,ek,lk⟩:∃k:Nat,c / 8 % ((ts.map V.ref).length:Int)=(k:Int)/\k < ts.length:=by
  rw [au];have h1:=Int.emod_nonneg (c / 8) (show (ts.length:Int)≠0 by omega);have h2:=Int.emod_lt_of_pos (c / 8) (show (0:Int) < (ts.length:Int) by omega);exact⟨(c / 8 % (ts.length:Int)).toNat,∅,∅⟩
 show dB 3 (.int (c / 8 % ((ts.map V.ref).length:Int))) _ _ _;rw [ek];obtain⟨t,et⟩:∃t,ts[k]?=some t:=⟨_,dI lk⟩;have xn:=b9 et;have att:lV (ts.map V.ref) (k:Int)=some (.ref t):=bT (by rw [a9,et];rfl);have yg:fI (ts.map V.ref) none (some (k:Int))=(ts.take k).map V.ref:=JA _ _ _;have sO:fI (ts.map V.ref) (some ((k:Int)+1)) none=(ts.drop (k+1)).map V.ref:=by
  have h:=GK V.ref ts (k+1);rw [Nat.min_eq_left ∅] at h;exact h
 refine⟨_,rfl,_,rfl,L,_,_,_,rfl,rfl,aG.of SM,att,?_⟩;refine⟨_,rfl,_,rfl,_,rfl,L,_,rfl,aG.of SM,λp1 Qj=>?_⟩;rw [yg];obtain⟨k2,e2⟩:=gb Qj (.lst ((ts.take k).map V.ref));generalize upd H1 p1 (.lst ((ts.take k).map V.ref))=H2 at k2 e2;refine⟨_,rfl,_,rfl,_,_,rfl,rfl,_,rfl,L,_,rfl,aG.of (k2 _ _ SM),λp2 ou=>?_⟩;rw [sO];obtain⟨k3,e3⟩:=gb ou (.lst ((ts.drop (k+1)).map V.ref));generalize upd H2 p2 (.lst ((ts.drop (k+1)).map V.ref))=H3 at k3 e3;refine⟨p1,p2,_,_,rfl,rfl,k3 _ _ e2,e3,fits (by rw [au,dr,au,mX];omega),λp3 Y_=>?_⟩;have k4:=af Y_ (.lst ((ts.take k).map V.ref++(ts.drop (k+1)).map V.ref));have e4:upd H3 p3 (.lst ((ts.take k).map V.ref++(ts.drop (k+1)).map V.ref)) p3=some (.lst ((ts.take k++ts.drop (k+1)).map V.ref)):=by rw [ae,bA]
 generalize upd H3 p3 (.lst ((ts.take k).map V.ref++(ts.drop (k+1)).map V.ref))=H4 at k4 e4;have s4:=((k1.trans k2).trans k3).trans k4;have ox:=s4 _ _ hL;have MK:=s4.seq hR;have NL:=cy.same s4;have pE:∀x∈ts,BY K b H4 x:=λx hx=>(xc x hx).same s4;have Pu:∀x∈ts.take k++ts.drop (k+1),x∈ts:=λx hx=>by
  rcases cg.mp hx with h | h
  .exact qH h
  exact List.mem_of_mem_drop h
 have aah:(ts.take k++ts.drop (k+1)).length+1=ts.length:=by rw [bW,dr,mX];omega
 have fin:∀u HD,aC H HD->BY K b HD u->∀l5,HD l5=none->Q (.ref l5) (upd HD l5 (.lst ((ts.take k).map V.ref++[V.ref u]++(ts.drop (k+1)).map V.ref))):=λu HD sD tu l5 Gb=>by
  have kE:=af Gb (.lst ((ts.take k).map V.ref++[V.ref u]++(ts.drop (k+1)).map V.ref));refine q l5 (ts.take k++[u]++ts.drop (k+1)) _ (sD.trans kE) (by rw [ae,bA,bA];rfl) (λx hx=>?_) (by rw [bW,bW,dr,mX,gP];omega);rcases cg.mp hx with h | h
  .rcases cg.mp h with h | h
   .exact(xc x (qH h)).same (sD.trans kE)
   rw [bH.mp h];exact tu.same kE
  exact(xc x (List.mem_of_mem_drop h)).same (sD.trans kE)
 clear e3 Y_ ou Qj k2 k3 k4 e2 Jj e1 c0;refine⟨_,rfl,_,_,rfl,rfl,⟨nofun,nofun⟩,_,rfl,R,_,rfl,.inl MK,_,_,rfl,rfl,_,_,rfl,rfl,(by show (0:Int) < ((rs.map V.ref).length:Int)+2;omega),_,_,rfl,rfl,?_⟩;generalize Vq:c / 64 % (((rs.map V.ref).length:Int)+2) - 1=num;show dB 6 (.int (c / 64 % (((rs.map V.ref).length:Int)+2) - 1)) _ _ _;rw [Vq];refine⟨_,rfl,_,_,rfl,rfl,Hq,rfl,_,rfl,?_⟩;refine bJ (λ_=>?_) (λ_=>?_)
 .exact⟨_,rfl,q p3 _ H4 s4 e4 (λx hx=>pE x (Pu x hx)) ∅⟩
 refine⟨_,rfl,_,_,rfl,rfl,Hq,rfl,_,rfl,?_⟩;refine bJ (λ_=>?_) (λ_=>?_)
 .refine⟨_,rfl,Lf,λl2 o_=>?_⟩;obtain⟨kB,eB⟩:=gb o_ (.lst [V.ref t]);generalize upd H4 l2 (.lst [V.ref t])=HB at kB eB;refine⟨_,rfl,l2,p3,_,_,rfl,rfl,eB,kB _ _ e4,fits (by rw [au];show 1+_<=_;omega),λl3 NZ=>?_⟩;have kC:=af NZ (.lst ([V.ref t]++(ts.take k++ts.drop (k+1)).map V.ref));refine q l3 ([t]++(ts.take k++ts.drop (k+1))) _ ((s4.trans kB).trans kC) (by rw [ae];rfl) (λx hx=>?_) (by rw [bW,gP];omega);rcases cg.mp hx with h | h
  .rw [bH.mp h];exact(pE t xn).same (kB.trans kC)
  exact(pE x (Pu x h)).same (kB.trans kC)
 refine⟨_,rfl,_,_,rfl,rfl,Hq,rfl,_,rfl,?_⟩;refine bJ (λ_=>?_) (λ_=>?_)
 .refine⟨_,rfl,_,rfl,Lf,λl2 o_=>?_⟩;obtain⟨kB,eB⟩:=gb o_ (.lst [V.ref t]);generalize upd H4 l2 (.lst [V.ref t])=HB at kB eB;refine⟨L,l2,_,_,rfl,rfl,kB _ _ ox,eB,fits (by rw [au];show _+1<=_;omega),λl3 NZ=>?_⟩;have kC:=af NZ (.lst (ts.map V.ref++[V.ref t]));refine q l3 (ts++[t]) _ ((s4.trans kB).trans kC) (by rw [ae,bA];rfl) (λx hx=>?_) (by rw [bW,gP];omega);rcases cg.mp hx with h | h
  .exact(pE x h).same (kB.trans kC)
  rw [bH.mp h];exact(pE t xn).same (kB.trans kC)
 have SL:∀p4,H4 p4=none->aC H4 (upd H4 p4 (.lst ((ts.take k).map V.ref)))/\upd H4 p4 (.lst ((ts.take k).map V.ref)) p4=some (.lst ((ts.take k).map V.ref)):=λp4 Jh=>⟨af Jh _,ae⟩;refine⟨_,rfl,_,_,rfl,rfl,Hq,rfl,_,rfl,?_⟩;refine bJ (λ_=>?_) (λ_=>?_)
 .skip
  refine⟨_,rfl,_,rfl,_,rfl,L,_,rfl,aG.of ox,λp4 Jh=>?_⟩;rw [yg];obtain⟨k5,C0⟩:=SL p4 Jh;generalize upd H4 p4 (.lst ((ts.take k).map V.ref))=H5 at k5 C0;have s4:=s4.trans k5;have ox:=k5 _ _ ox;obtain⟨xs,hx,vt⟩:=(pE t xn).same k5;have Jp:=k5.seq MK;refine⟨_,rfl,_,rfl,t,_,rfl,.inr vt,_,_,rfl,rfl,_,rfl,t,_,rfl,vt,λp6 H6 s6 M3=>?_⟩;refine⟨_,rfl,Lf,λu1 Ah=>?_⟩;obtain⟨k7,uN⟩:=jx (K:=K) Ah [V.int num];generalize upd H6 u1 (.tup [V.int num])=H7 at k7 uN;have JQ:=Ih (n:=num) hx;refine⟨p6,u1,_,_,rfl,rfl,k7.tup M3,uN,AS JQ,λu HA sB vu=>?_⟩;have sA:=(s6.trans k7).trans sB;exact lL lk Qa (sA _ _ C0) (sA _ _ ox) sO λHD sD l5 Gb=>fin u HD ((s4.trans sA).trans sD) ⟨_,JQ,sD.tup vu⟩ l5 Gb
 refine⟨_,rfl,_,_,rfl,rfl,Hq,rfl,_,rfl,?_⟩;refine bJ (λ_=>?_) (λ_=>?_)
 .skip
  refine⟨_,rfl,_,rfl,_,rfl,L,_,rfl,aG.of ox,λp4 Jh=>?_⟩;rw [yg];obtain⟨k5,C0⟩:=SL p4 Jh;generalize upd H4 p4 (.lst ((ts.take k).map V.ref))=H5 at k5 C0;have s4:=s4.trans k5;have ox:=k5 _ _ ox;obtain⟨xs,hx,vt⟩:=(pE t xn).same k5;have Jp:=k5.seq MK;obtain⟨kk,M5,UP⟩:∃kk:Nat,(if (if ((rs.map V.ref).length:Int) - 1 < num then ((rs.map V.ref).length:Int) - 1 else num) > 0 then (if ((rs.map V.ref).length:Int) - 1 < num then ((rs.map V.ref).length:Int) - 1 else num) else 0)=(kk:Int)/\kk < aa.length:=by
   rw [au,ll];refine⟨(if (if (aa.length:Int) - 1 < num then (aa.length:Int) - 1 else num) > 0 then (if (aa.length:Int) - 1 < num then (aa.length:Int) - 1 else num) else 0).toNat,?_,?_⟩ <;> split <;> split <;> omega
  obtain⟨ru,qz⟩:∃ru,aa[kk]?=some ru:=⟨_,dI UP⟩;obtain⟨r,er,pr,v1,v2⟩:=Paired.at_ (NL.same k5) kk ru qz;have sY:lV (rs.map V.ref) (kk:Int)=some (.ref r):=bT (by rw [a9,er];rfl);rw [<-M5] at sY;refine⟨_,rfl,_,rfl,_,rfl,R,_,rfl,.inl Jp,_,_,rfl,rfl,_,_,rfl,_,_,rfl,R,_,_,_,rfl,rfl,Jp,sY,r,_,_,_,rfl,rfl,v1,rfl,Lf,λu1 Ah=>?_⟩;obtain⟨k7,uN⟩:=jx (K:=K) Ah [V.str ru.1];generalize upd H5 u1 (.tup [V.str ru.1])=H7 at k7 uN;refine⟨_,rfl,_,rfl,t,_,rfl,k7.tup vt,λp6 H6 s6 M3=>?_⟩;have JQ:=Ii (h:=ru.1) hx;refine⟨u1,p6,_,_,rfl,rfl,s6.tup uN,M3,AS JQ,λu HA sB vu=>?_⟩;have sA:=(k7.trans s6).trans sB;exact lL lk Qa (sA _ _ C0) (sA _ _ ox) sO λHD sD l5 Gb=>fin u HD ((s4.trans sA).trans sD) ⟨_,JQ,sD.tup vu⟩ l5 Gb
 cases b with
 | false =>
  obtain⟨xs,hx,vt⟩:=pE t xn;obtain⟨nm,n0,rfl⟩:=hx;have uA:=q L ts H4 s4 ox pE (kj _);refine⟨_,rfl,_,_,rfl,rfl,Hq,rfl,_,rfl,?_⟩;refine bJ (λ_=>?_) (λ_=>dM ?_)
  .skip
   refine⟨_,rfl,t,_,rfl,.inr vt,rfl,_,rfl,?_⟩;refine bJ (λc=>absurd (show decide (V.int 2=V.int 4)=true from c) nofun) λ_=>?_;refine⟨_,rfl,_,_,rfl,rfl,Hq,rfl,_,rfl,?_⟩;refine bJ (λ_=>?_) (λ_=>dM ?_)
   .skip
    refine⟨_,rfl,t,_,rfl,.inr vt,rfl,_,rfl,?_⟩;refine bJ (λc=>absurd (show decide (V.int 2=V.int 4)=true from c) nofun) λ_=>?_;exact⟨_,rfl,uA⟩
   exact⟨_,rfl,uA⟩
  skip
  refine⟨_,rfl,_,_,rfl,rfl,Hq,rfl,_,rfl,?_⟩;refine bJ (λ_=>?_) (λ_=>dM ?_)
  .skip
   refine⟨_,rfl,t,_,rfl,.inr vt,rfl,_,rfl,?_⟩;refine bJ (λc=>absurd (show decide (V.int 2=V.int 4)=true from c) nofun) λ_=>?_;exact⟨_,rfl,uA⟩
  exact⟨_,rfl,uA⟩
 | true =>
  obtain⟨xs0,hx0,XM⟩:=pE t xn;obtain⟨nm0,w00,n00,aab,rfl⟩:=hx0;have uA:=q L ts H4 s4 ox pE (kj _);refine⟨_,rfl,_,_,rfl,rfl,Hq,rfl,_,rfl,?_⟩;refine bJ (λ_=>?_) (λ_=>dM ?_)
  .skip
   refine⟨_,rfl,t,_,rfl,.inr XM,rfl,_,rfl,?_⟩;refine bJ (λ_=>?_) λc=>absurd (show decide (V.int 4=V.int 4)=true by decide) c;refine⟨_,rfl,_,rfl,_,rfl,L,_,rfl,aG.of ox,λp4 Jh=>?_⟩;rw [yg];obtain⟨k5,C0⟩:=SL p4 Jh;generalize upd H4 p4 (.lst ((ts.take k).map V.ref))=H5 at k5 C0;have s4:=s4.trans k5;have ox:=k5 _ _ ox;obtain⟨xs,hx,vt⟩:=(pE t xn).same k5;have Jp:=k5.seq MK;obtain⟨nm,w0,n0,Pf,rfl⟩:=hx;obtain⟨ch,ech⟩:∃ch:Str,lV [V.str "a",V.str "b",V.str "c",V.str "s"] (c / 64 % 4)=some (.str ch):=by
    obtain⟨kk,M5,UP⟩:∃kk:Nat,c / 64 % 4=(kk:Int)/\kk < 4:=⟨(c / 64 % 4).toNat,∅,∅⟩;rw [M5]
    match kk,UP with
    | 0,_=>exact⟨"a",bT rfl⟩
    | 1,_=>exact⟨"b",bT rfl⟩
    | 2,_=>exact⟨"c",bT rfl⟩
    | 3,_=>exact⟨"s",bT rfl⟩
   refine⟨_,rfl,t,_,_,_,rfl,rfl,vt,rfl,RO,λl6 hl6=>?_⟩;obtain⟨k6,e6⟩:=gb hl6 (.lst [V.str "a",V.str "b",V.str "c",V.str "s"]);generalize upd H5 l6 (.lst [V.str "a",V.str "b",V.str "c",V.str "s"])=H6 at k6 e6;refine⟨_,rfl,_,_,rfl,rfl,⟨nofun,nofun⟩,_,_,rfl,rfl,Uc,l6,_,_,_,rfl,rfl,aG.of e6,ech,Ca,λu1 Ah=>?_⟩;obtain⟨k7,uN⟩:=jx (K:=K) Ah [V.str nm,V.str ch];generalize upd H6 u1 (.tup [V.str nm,V.str ch])=H7 at k7 uN;refine⟨_,rfl,_,rfl,t,_,rfl,(k6.trans k7).tup vt,λp6 H8 s6 M3=>?_⟩;refine⟨u1,p6,_,_,rfl,rfl,s6.tup uN,M3,RO,λu HA sB vu=>?_⟩;have sA:=((k6.trans k7).trans s6).trans sB;exact lL lk Qa (sA _ _ C0) (sA _ _ ox) sO λHD sD l5 Gb=>fin u HD ((s4.trans sA).trans sD) ⟨_,⟨nm,ch,n0,Pf,rfl⟩,sD.tup vu⟩ l5 Gb
  refine⟨_,rfl,_,_,rfl,rfl,Hq,rfl,_,rfl,?_⟩;refine bJ (λ_=>?_) (λ_=>dM ?_)
  .skip
   refine⟨_,rfl,t,_,rfl,.inr XM,rfl,_,rfl,?_⟩;refine bJ (λ_=>?_) λc=>absurd (show decide (V.int 4=V.int 4)=true by decide) c;refine⟨_,rfl,_,rfl,_,rfl,L,_,rfl,aG.of ox,λp4 Jh=>?_⟩;rw [yg];obtain⟨k5,C0⟩:=SL p4 Jh;generalize upd H4 p4 (.lst ((ts.take k).map V.ref))=H5 at k5 C0;have s4:=s4.trans k5;have ox:=k5 _ _ ox;obtain⟨xs,hx,vt⟩:=(pE t xn).same k5;have Jp:=k5.seq MK;obtain⟨nm,w0,n0,Pf,rfl⟩:=hx;refine⟨_,rfl,_,rfl,t,_,rfl,vt,λp6 H6 s6 M3=>?_⟩;refine⟨_,rfl,_,rfl,t,_,_,_,rfl,rfl,s6.tup vt,rfl,Ca,λu1 Ah=>?_⟩;obtain⟨k7,uN⟩:=jx (K:=K) Ah [V.int num,V.int Pf];generalize upd H6 u1 (.tup [V.int num,V.int Pf])=H7 at k7 uN;refine⟨p6,u1,_,_,rfl,rfl,k7.tup M3,uN,RO,λu HA sB vu=>?_⟩;have sA:=(s6.trans k7).trans sB;exact lL lk Qa (sA _ _ C0) (sA _ _ ox) sO λHD sD l5 Gb=>fin u HD ((s4.trans sA).trans sD) ⟨_,⟨nm,w0,num,Pf,rfl⟩,sD.tup vu⟩ l5 Gb
  exact⟨_,rfl,uA⟩
end
end gY
namespace L2
open PySem
def Eu {X:Cx}(K:bp)(hK:X.K=K:=by rfl):JH X (EY K):=by subst hK;exact gw
end L2
namespace gY
open PySem L2 M11
abbrev mF:Stmt:=top 15
abbrev oV:Stmt:=top 16
def WN (a b c d:V):fI [a,b,c,d] none (some 2)=[a,b]:=rfl
theorem rO {α:Type} [DecidableEq α]:∀(l m:List α),l.Nodup->(∀z∈l,z∈m)->l.length<=m.length
 | [],m,_,_=>gG _
 | a::l,m,hn,h=>by
  have hm:=h a cS;have:=rO l (m.erase a) (iI.mp hn).2 λx hx=>(List.mem_erase_of_ne (λz:x=a=>(iI.mp hn).1 (by rw [<-z];exact hx))).mpr (h x (cY _ hx));rw [yS hm] at this;have:=yM hm;rw [fc];omega
def C4 {aa:List aw}{x:Str}(hx:x∈d6 false aa):Em aa x:=by
 have all:∀(n i:Nat)(h:Str),i < n->(d6 false aa)[i]?=some h->Em aa h:=by
  intro n
  induction n with
  | zero=>intro i h l;omega
  | succ n ih =>
   intro i h l e;obtain⟨de,a,b⟩:=(k_ false aa).ord i h e;exact Em.mk (ru:=(h,de)) a λp hp=>by
    rcases b p hp with q | q
    .obtain⟨j,lj,ej⟩:=nu q;exact ih j p ∅ ej
    cases q.1
 obtain⟨i,e⟩:=fj hx;exact all (i+1) i x ∅ e
def Jv {aa:List aw}{aY:List (Str×Nat)}(h:tL aa aY)(c:tE aa aa.length aY)(x:Str):x∈aY.map (·.1)↔x∈d6 false aa:=by
 constructor
 .exact λhx=>sJ (Aw h x hx)
 intro hx;have e:=C4 hx;clear hx
 induction e with
 | mk hr _ ih=>exact c _ (by rw [cv];exact hr) ih
def QM {H0 H H':Hp}(k:Kp H H'){Cg g bt:Addr}{rs ss:List Addr}(h:RA H0 H Cg g rs ss bt):RA H0 H' Cg g rs ss bt:=by
 obtain⟨gx,fs,R2,S2,q1,q2,q3,q4,q5,q6,q7,q8,q9⟩:=h;exact⟨gx,fs,R2,S2,k _ _ q1 (λ_ z=>by cases z),q2,q3,q4,q5,k.lst q6,k.lst q7,q8,q9⟩
def Du (K:bp)(H:Hp)(ts:List Addr)(bK:List Be):Prop:=Paired (λt (b:Be)=>a_ K H t [.str b.1,.str b.2.1,.int (b.2.2.1:Int),.int (b.2.2.2:Int)]) ts bK
def Du.keep {K:bp}{H H':Hp}{ts:List Addr}{bK:List Be}(h:Du K H ts bK)(k:∀a xs,a_ K H a xs->a_ K H' a xs):Du K H' ts bK:=Paired.dH h λ_ _ z=>k _ _ z
noncomputable def oX (bs:List B4):List (Str×Str):=bs.map λb=>(b.1,b.2.1)
theorem pO {K:bp}{H:Hp}:∀(xs:List V),(∀x∈xs,lB x)->Paired (Ny K H 0) xs xs
 | [],_=>.nil
 | x::r,h=>.cons ⟨rfl,h x cS⟩ (pO r λy hy=>h y (cY _ hy))
def jQ (ts:List Addr):∀x∈ts.map V.ref,lB x:=λx hx=>by
 obtain⟨t,_,rfl⟩:=cx.mp hx;exact .inr ⟨t,rfl⟩
def lg {K:bp}{H:Hp}{a b:Addr}{xs:List V}(ha:aG K H a xs)(hb:aG K H b xs)(h:∀x∈xs,lB x):Ny K H 1 (.ref a) (.ref b):=.inr ⟨a,b,xs,xs,rfl,rfl,.inl ⟨ha,hb⟩,pO xs h⟩
theorem JQ {K:bp}{H:Hp}:∀{ts:List Addr},(∀t∈ts,BY K false H t)->∃es,KZ K H ts es
 | [],_=>⟨[],.nil⟩
 | t::r,h=>by
  obtain⟨es,he⟩:=JQ (ts:=r) λx hx=>h x (cY _ hx);obtain⟨xs,⟨nm,n,rfl⟩,v⟩:=h t cS;exact⟨(nm,n)::es,.cons v he⟩
theorem XT {K:bp}{H:Hp}:∀{ts:List Addr},(∀t∈ts,BY K true H t)->∃bs,Paired (RG K H) ts bs
 | [],_=>⟨[],.nil⟩
 | t::r,h=>by
  obtain⟨bs,he⟩:=XT (ts:=r) λx hx=>h x (cY _ hx);obtain⟨xs,⟨nm,w,n,pl,rfl⟩,v⟩:=h t cS;exact⟨(nm,w,n,pl)::bs,.cons v he⟩
theorem Gq {K:bp}{H:Hp}:∀{ts:List Addr}{aY:List (Str×Nat)},lX K H ts aY->∀t∈ts,BY K false H t
 | _,_,.nil,t,h=>by cases h
 | _,_,.cons a r,t,h=>by
  rcases b8.mp h with e | e
  .rw [e];exact⟨_,⟨_,_,rfl⟩,a⟩
  exact Gq r t e
theorem G0 {K:bp}{H:Hp}:∀{ts:List Addr}{bK:List Be},Du K H ts bK->∀t∈ts,BY K true H t
 | _,_,.nil,t,h=>by cases h
 | _,_,.cons a r,t,h=>by
  rcases b8.mp h with e | e
  .rw [e];exact⟨_,⟨_,_,_,_,rfl⟩,a⟩
  exact G0 r t e
def Nl {aa:List aw}{em:Str->Bool}{bK:List Be}{A B:List Str}(hA:∀ru∈aa,ru.1∈A)(hB:∀ru∈aa,∀x∈ru.2,x∈B)(h:tM aa (hd aa) em bK):∀x∈bU bK,x.1∈A/\x.2∈B:=by
 induction h with
 | nil=>intro x h;cases h
 | @snoc bK k j ru z w h e1 e2 lj hw n ih =>
  intro x hx;unfold bU at hx;rw [bA] at hx;rcases cg.mp hx with q | q
  .exact ih x q
  rw [bH.mp q];have hr:=b9 e1;refine⟨hA ru hr,?_⟩;unfold oP at hw;by_cases c:z∈hd aa
  .rw [ax c] at hw;exact(ih (z,w) (wH.mp hw)).2
  rw [az c] at hw;have:=bH.mp hw;subst this;exact hB ru hr _ (b9 e2)
def JM.V5 {c:Int}{aa:List aw}(g:JM c aa){em:Str->Bool}{bK:List Be}(h:tM aa (hd aa) em bK)(nd:(bU bK).Nodup):bK.length<=40:=by
 obtain⟨cT,nk,i6⟩:=g.ins;have bi:=Nl (A:=cT) (B:=cT++gE c) (λru h=>(i6 ru h).1) (λru h=>(i6 ru h).2.2) h;have h1:=rO (bU bK) (cT.flatMap λa=>(cT++gE c).map λw=>(a,w)) nd λx hx=>qB.mpr ⟨x.1,(bi x hx).1,cx.mpr ⟨x.2,(bi x hx).2,rfl⟩⟩;have l:∀(B l:List Str),(l.flatMap λa=>B.map λw=>(a,w)).length=l.length * B.length:=λB l=>by
  induction l with
  | nil=>simp
  | cons a r ih=>rw [List.flatMap_cons,bW,ih,au,fc,Nat.succ_mul,Nat.add_comm]
 rw [l] at h1;have gl:=sf c;have n5:=nk.QP;have h2:cT.length * (cT++gE c).length<=5 * 8:=Nat.mul_le_mul n5 (by rw [bW];omega);unfold bU at h1;rw [au] at h1;omega
section
def pK (K:bp)(Cg C:Addr):Sp:=λvs H Q _=>∃(H0:Hp)(g bt:Addr)(rs ss:List Addr)(aa:List aw)(aY:List (Str×Nat))(bK:List Be),vs=[.ref g]/\RA H0 H Cg g rs ss bt/\Dt K C H bt aa aY bK /\
 ∀(L:Addr)(ts:List Addr)(H':Hp),H L=none->aC H H'->H' L=some (.lst (ts.map V.ref))->lX K H' ts aY->Q (.ref L) H'
def xu:aK ["grammar"] ["grammar"] (ay mF):=iz rfl rfl rfl rfl nofun
def wc {Cg C:Addr}(F:hV K "empties_of" "empties_of" mF f fd)(T:Txt mg)(G:GC K Cg)(B:BC K C):bV P w K mg base fK 1 f fd ["grammar"] (pK K Cg C):=by
 refine F.ok xu (λvs H Q E h=>?_) (λeX A outer s H vs Q E hr h=>?_)
 .obtain⟨H0,g,bt,rs,ss,aa,aY,bK,rfl,_⟩:=h;rfl
 obtain⟨H0,g,bt,rs,ss,aa,aY,bK,rfl,⟨gx,fs,R2,S2,eg,l1,l2,l3,l4,_⟩,bv,q⟩:=h;refine⟨_,ao (aL (aX dq rfl T.lst eG (ab (eI (eI (pv 0) rfl) rfl) ai))),?_⟩;obtain⟨dx,HK,e1,bg,q1,q2,q3,⟨t1,q4,q5⟩,_⟩:=bv.ia;refine⟨_,rfl,g,Cg,gx,fs,_,rfl,eg,G.cls,G.a3,l3,bt,C,dx,HK,_,rfl,q1,B.cls,B.a1,q2,e1,_,rfl,.inl (aG.of q4),λL hL=>?_⟩;exact q L t1 _ hL (af hL _) ae (q5.keep λ_ _ z=>(af hL _).tup z)
def rB (K:bp)(Cg C:Addr):Sp:=λvs H Q _=>∃(H0:Hp)(g bt:Addr)(rs ss:List Addr)(aa:List aw)(aY:List (Str×Nat))(bK:List Be),vs=[.ref g]/\RA H0 H Cg g rs ss bt/\Dt K C H bt aa aY bK /\
 ∀(L:Addr)(ts:List Addr)(H':Hp),H L=none->aC H H'->H' L=some (.lst (ts.map V.ref))->Du K H' ts bK->Q (.ref L) H'
def zh:aK ["grammar"] ["grammar"] (ay oV):=iz rfl rfl rfl rfl nofun
def xI {Cg C:Addr}(F:hV K "begins_of" "begins_of" oV f fd)(T:Txt mg)(G:GC K Cg)(B:BC K C):bV P w K mg base fK 1 f fd ["grammar"] (rB K Cg C):=by
 refine F.ok zh (λvs H Q E h=>?_) (λeX A outer s H vs Q E hr h=>?_)
 .obtain⟨H0,g,bt,rs,ss,aa,aY,bK,rfl,_⟩:=h;rfl
 obtain⟨H0,g,bt,rs,ss,aa,aY,bK,rfl,⟨gx,fs,R2,S2,eg,l1,l2,l3,l4,_⟩,bv,q⟩:=h;refine⟨_,ao (aL (aX dq rfl T.lst eG (ab (eI (eI (pv 0) rfl) rfl) ai))),?_⟩;obtain⟨dx,HK,e1,bg,q1,q2,q3,_,⟨t1,q4,q5⟩⟩:=bv.ia;refine⟨_,rfl,g,Cg,gx,fs,_,rfl,eg,G.cls,G.a3,l3,bt,C,dx,HK,_,rfl,q1,B.cls,B.a3,q3,bg,_,rfl,.inl (aG.of q4),λL hL=>?_⟩;exact q L t1 _ hL (af hL _) ae (Du.keep q5 λ_ _ z=>(af hL _).tup z)
def yk {H:Hp}{L D:Addr}{ts:List Addr}{es:List E2}{σ:St}{Qp:Hp->Prop}(hL:aG K H L (ts.map V.ref))(xc:KZ K H ts es)(bu:es.length<=1000)(hD:H D=none)
  (q:∀H2,aC H H2->H2 D=some (.lst ((es.map (·.1)).map V.str))->Qp H2) :
  ∃W:Nat->Nat->List V->St->Hp->Prop,(∃m,W 0 m [] (eh ["_law_one"] [] σ) (upd H D (.lst []))) /\
 ∀i m ys σ' H,W i m ys σ' H->((iU K L).stop i H/\Qp H)\/((iU K L).go i H/\∃m',m' < m/\∀x H',(iU K L).lR i H x H'->dB 0 x σ' H' λσ2 H2=>gI σ2 H2 λb H3 =>
  if b=true then ND (LA K) (fS 0) (tC (.int 0)) σ2 H3 λy H4=>H4 D=some (.lst ys)/\ys.length < sizeLine/\W (i+1) m' (ys++[y]) σ2 (upd H4 D (.lst (ys++[y]))) else W (i+1) m' ys σ2 H3):=by
 have ll:=bc xc;refine bS (xs:=ts.map V.ref) (λi ys σ2 H2=>ys=((es.take i).map (·.1)).map V.str/\(∃y0,σ2=[y0])/\aC H H2/\H2 D=some (.lst ys))
  ⟨rfl,⟨none,rfl⟩,af hD _,ae⟩ (λi ys σ2 H2 _ h=>?_) (λi x ys σ2 H2 ex h=>?_) (λys σ2 H2 h=>?_)
 .obtain⟨_,_,sm,_⟩:=h;exact sm.seq hL
 .obtain⟨rfl,⟨y0,rfl⟩,sm,tP⟩:=h;rw [a9] at ex;obtain⟨t,et,rfl⟩:=b_.mp ex;have li:=(bf.mp et).1;obtain⟨e,ee⟩:∃e,es[i]?=some e:=⟨_,dI ∅⟩;obtain⟨t',sG,vt⟩:=Paired.at_ xc i e ee;rw [et] at sG;cases sG;refine goN (uH ?_);refine⟨_,rfl,t,_,_,_,rfl,rfl,sm.tup vt,rfl,tP,bD (by rw [au,au,dr];omega),?_,⟨_,rfl⟩,λb o hb=>?_,ae⟩
  .rw [cK,ee,bA,bA];rfl
  rw [ak (λz=>by rw [z,hD] at hb;cases hb)];exact sm b o hb
 obtain⟨rfl,_,sm,tP⟩:=h;rw [au,ll,cv] at tP;exact q H2 sm tP
def GU {H:Hp}{L D:Addr}{ts:List Addr}{bK:List B4}{σ:St}{Qp:Hp->Prop}(hL:aG K H L (ts.map V.ref))(xc:Paired (RG K H) ts bK)(bu:bK.length<=1000)(hD:H D=none)
  (q:∀(vs:List Addr)(H2:Hp),aC H H2->H2 D=some (.lst (vs.map V.ref))->Paired (KY K H2) vs (oX bK)->Qp H2) :
  ∃W:Nat->Nat->List V->St->Hp->Prop,(∃m,W 0 m [] (eh ["_law_one"] [] σ) (upd H D (.lst []))) /\
 ∀i m ys σ' H,W i m ys σ' H->((iU K L).stop i H/\Qp H)\/((iU K L).go i H/\∃m',m' < m/\∀x H',(iU K L).lR i H x H'->dB 0 x σ' H' λσ2 H2=>gI σ2 H2 λb H3 =>
  if b=true then Tz (EY K) (fS 0) vF (Ea (tC (.int 2))) σ2 H3 λy H4=>H4 D=some (.lst ys)/\ys.length < sizeLine/\W (i+1) m' (ys++[y]) σ2 (upd H4 D (.lst (ys++[y]))) else W (i+1) m' ys σ2 H3):=by
 have ll:=bc xc;refine bS (xs:=ts.map V.ref) (λi ys σ2 H2=>(∃vs:List Addr,ys=vs.map V.ref/\Paired (KY K H2) vs (oX (bK.take i)))/\(∃y0,σ2=[y0])/\aC H H2/\H2 D=some (.lst ys))
  ⟨⟨[],rfl,.nil⟩,⟨none,rfl⟩,af hD _,ae⟩ (λi ys σ2 H2 _ h=>?_) (λi x ys σ2 H2 ex h=>?_) (λys σ2 H2 h=>?_)
 .obtain⟨_,_,sm,_⟩:=h;exact sm.seq hL
 .obtain⟨⟨vs,rfl,Pb⟩,⟨y0,rfl⟩,sm,tP⟩:=h;rw [a9] at ex;obtain⟨t,et,rfl⟩:=b_.mp ex;have li:=(bf.mp et).1;obtain⟨b,eb⟩:∃b,bK[i]?=some b:=⟨_,dI ∅⟩;obtain⟨t',sG,vt⟩:=Paired.at_ xc i b eb;rw [et] at sG;cases sG;have lvs:=bc Pb;have R_:(oX (bK.take i)).length<=1000:=by unfold oX;rw [au,dr];omega
  refine goN (uH ?_);refine⟨_,rfl,_,rfl,t,_,rfl,sm.tup vt,λu1 HD sD uN=>?_⟩;rw [WN] at uN;have Ob:=sD _ _ tP;refine⟨Ob,bD (by rw [au];omega),⟨vs++[u1],by rw [bA];rfl,?_⟩,⟨_,rfl⟩,λb o hb=>?_,ae⟩
  .have tk:oX (bK.take (i+1))=oX (bK.take i)++[(b.1,b.2.1)]:=by unfold oX;rw [cK,eb,bA];rfl
   rw [tk];exact gF (Paired.dH Pb λa b z=>bj Ob (sD.tup z)) (bj Ob uN)
  rw [ak (λz=>by rw [z,hD] at hb;cases hb)];exact sD _ _ (sm b o hb)
 obtain⟨⟨vs,rfl,Pb⟩,_,sm,tP⟩:=h;rw [au,ll,cv] at Pb;exact q vs H2 sm tP Pb
end
abbrev Lq:Stmt:=top 65
def JP {A:Around}{k n:Nat}(hr:fJ k A)(h:n<=16 * k+200):A.units+n < cLine:=by have:=hr.un;omega
def X8 (x:Int):∃m:Nat,x % 4=(m:Int)/\m < 4:=⟨(x % 4).toNat,∅,∅⟩
section
def A8 (K:bp)(T1 T2 T3:Addr):Sp:=λvs H Q _=>∃(a:Addr)(ns:List Int),vs=[.ref a]/\aG K H a (ns.map V.int)/\ns.length<=63/\BZ T1 T2 T3 H/\∀H',Q (.bl true) H'
noncomputable abbrev NLw:List Str:=["_law_script","_law_rules","_law_grammar_here","_law_empties","_law_begins","_law_k","_law_names_here","_law_pairs","_law_held","_law_found"]
def i8:aK NLw ["_law_script"] (ay Lq):=iz rfl rfl rfl rfl nofun
def LW {Cg C T1 T2 T3 fG:Addr}{Zy:FuncData}(F:hV K "law" "law" Lq f fd)(T:Txt mg)
  (GG:aF P w K mg base 8 "_law_grammar" ["_law_script","_law_at"] (Ep K))
  (Ta:aF P w K mg base 8 "_law_cell_at" ["_law_script","_law_k"] (rA K))
  (GEO:aF P w K mg base 8 "empties_of" ["grammar"] (pK K Cg C))
  (GBO:aF P w K mg base 8 "begins_of" ["grammar"] (rB K Cg C))
  (GT:aF P w K mg base 8 "_law_bent" ["_law_told","_law_cell","_law_rules"] (Et K))
  (GS1:aF P w K mg base 8 "empties_stand" ["rules","told"] (nE K))
  (GS2:aF P w K mg base 8 "_law_empty_stands" ["_law_rules","_law_told"] (nE K))
  (GL1:aF P w K mg base 8 "empties_lack" ["rules","names"] (qm K))
  (GL2:aF P w K mg base 8 "_law_empty_lacks" ["_law_rules","_law_names_here"] (qm K))
  (GS3:aF P w K mg base 8 "begins_stand" ["rules","names","told"] (nF K))
  (GS4:aF P w K mg base 8 "_law_begin_stands" ["_law_rules","_law_names_here","_law_told"] (nF K))
  (GL3:aF P w K mg base 8 "begins_lack" ["rules","names","pairs"] (Bb K))
  (GL4:aF P w K mg base 8 "_law_begin_lacks" ["_law_rules","_law_names_here","_law_pairs"] (xr K))
  (G:GC K Cg)(MG:Mk K Cg fG)(FG:bV P w K mg base fK 7 fG Zy ["self","rules","strengths"] (A_ K Cg C T1 T2 T3))(B1:Binds K Zy ["self","rules","strengths"] [.none])(mG:mg "Grammar"=some (.ref Cg)):bV P w K mg base fK 9 f fd ["_law_script"] (A8 K T1 T2 T3):=by
 refine F.ok i8 (λvs H Q E h=>?_) (λeX A outer s H vs Q E hr h=>?_)
 .obtain⟨a,ns,rfl,_⟩:=h;rfl
 obtain⟨S,ns,rfl,hS,hl,hT,q⟩:=h;have Ah:=JP (n:=1+1) hr nofun;have P_:=JP (n:=0) hr nofun;refine⟨_,ag (aA (i:=1) i8.nd rfl (aZ rfl) (bq GG hr rfl (ab (pv 0) (ab ar ai))))
  (ag (aA (i:=2) i8.nd rfl (aZ rfl) (wb (dvs:=[.eZ]) MG FG hr rfl mG B1 (.cons rfl .nil) uu (ab (aX dq rfl T.lst eG (ab (pv 1) ai)) ai)))
  (ag (aA (i:=3) i8.nd rfl (aZ rfl) (bq GEO hr rfl (ab (pv 2) ai)))
  (ag (aA (i:=4) i8.nd rfl (aZ rfl) (bq GBO hr rfl (ab (pv 2) ai)))
  (ag (bE bX rfl (fY rfl T.Bk (ab (aH cD (bq Ta hr rfl (ab (pv 0) (ab ar ai))) ar) ai)) (aq (i:=5) i8.nd rfl (aZ rfl)) (ao (aA (i:=3) i8.nd rfl (aZ rfl) (bq GT hr rfl (ab (pv 3) (ab (bq Ta hr rfl (ab (pv 0) (ab (aH dG ar (pv 5)) ai))) (ab (pv 1) ai)))))))
  (ag (bE bX rfl (fY rfl T.Bk (ab (aH cD (aH dA (bq Ta hr rfl (ab (pv 0) (ab ar ai))) ar) ar) ai)) (aq (i:=5) i8.nd rfl (aZ rfl)) (ao (aA (i:=4) i8.nd rfl (aZ rfl) (bq GT hr rfl (ab (pv 4) (ab (bq Ta hr rfl (ab (pv 0) (ab (aH dG ar (pv 5)) ai))) (ab (pv 1) ai)))))))
  (ag (gB (iy:=6) ["_law_one"] [] i8.nd rfl rfl rfl (aR (pv 3)) (aP rfl rfl) nofun rfl nofun (λ_ _ _ _ _=>aq (i:=0) (show (["_law_one"]:List Str).Nodup by decide +kernel) rfl (aZ rfl)) (λ_ _ _ _ _=>a0) (λ_ _ _ _ _=>a7 (wy K) (pv 0) ar (λ_ _=>rfl)))
  (ag (gB (iy:=7) ["_law_one"] [] i8.nd rfl rfl rfl (aR (pv 4)) (aP rfl rfl) nofun rfl nofun (λ_ _ _ _ _=>aq (i:=0) (show (["_law_one"]:List Str).Nodup by decide +kernel) rfl (aZ rfl)) (λ_ _ _ _ _=>a0) (λ_ _ _ _ _=>bY (Eu K) (pv 0) cO (cN ar)))
  (ag (aA (i:=8) i8.nd rfl (aZ rfl) (bC (ab (aX dq rfl T.lst eG (ab (pv 1) ai)) (ab (aX dq rfl T.lst eG (ab (pv 3) ai)) (ab (aX dq rfl T.lst eG (ab (pv 4) ai)) (ab (aX dq rfl T.lst eG (ab (pv 6) ai)) (ab (aX dq rfl T.lst eG (ab (pv 7) ai)) ai)))))))
  (ag (aA (i:=9) i8.nd rfl (aZ rfl) (bq GS1 hr rfl (ab (pv 1) (ab (pv 3) ai))))
  (ag (bz (PW.pt (jv (iN (dJ (aE ja rfl T.Sf AM (ab (pv 9) (ab (qr (v:=.ty "bool") rfl T.WW yN rfl) ai))))) (jd (aQ rN (pv 9) (bq GS2 hr rfl (ab (pv 1) (ab (pv 3) ai))) (bx _))))) (ao (aL cI)) aI)
  (ag (gU (bz (aQ rN (bq GL1 hr rfl (ab (pv 1) (ab (pv 6) ai))) (bq GL2 hr rfl (ab (pv 1) (ab (pv 6) ai))) (bx _)) (ao (aL cI)) aI))
  (ag (aA (i:=9) i8.nd rfl (aZ rfl) (bq GS3 hr rfl (ab (pv 1) (ab (pv 6) (ab (pv 4) ai)))))
  (ag (bz (PW.pt (jv (iN (dJ (aE ja rfl T.Sf AM (ab (pv 9) (ab (qr (v:=.ty "bool") rfl T.WW yN rfl) ai))))) (jd (aQ rN (pv 9) (bq GS4 hr rfl (ab (pv 1) (ab (pv 6) (ab (pv 4) ai)))) (bx _))))) (ao (aL cI)) aI)
  (ag (gU (bz (aQ (jH.or rN (IH P_)) (bq GL3 hr rfl (ab (pv 1) (ab (pv 6) (ab (pv 7) ai)))) (bq GL4 hr rfl (ab (pv 1) (ab (pv 6) (ab (pv 7) ai)))) (bx _)) (ao (aL cI)) aI))
  (ao (aL (dw (xG 1 Ah) (pv 8) (bC (ab (pv 1) (ab (pv 3) (ab (pv 4) (ab (pv 6) (ab (pv 7) ai)))))) (bx _)))))))))))))))))),?_⟩
 nofun
 refine⟨_,rfl,S,ns,0,rfl,hS,∅,λc R rs aa H2 hc f0 s2 eR rl go=>?_⟩;obtain⟨rk,bb,gd⟩:=go.good;have l1:=go.one;have l8:=go.most;obtain⟨cT,nk,i6⟩:=go.ins;have h8:∀ru∈aa,ru.2.length<=8:=λru h=>by have:=(i6 ru h).2.1;omega
 have Dy:Small aa:=⟨go.one,∅,λru h=>(i6 ru h).2.1⟩;have DE:aa≠[]:=λz=>by rw [z] at l1;cases l1
 refine⟨_,rfl,R,_,rfl,.inl (aG.of eR),λR3 hR3=>?_⟩;obtain⟨k3,Wt⟩:=gb hR3 (.lst (rs.map V.ref));generalize upd H2 R3 (.lst (rs.map V.ref))=H3 at k3 Wt;have t3:=hT.same (s2.trans k3);have O6:=rl.same k3;have Q4:=k3 _ _ eR;have hS3:=(s2.trans k3).seq hS;intro g x hg hx nx;refine⟨H3,g,x,R3,.eZ,rs,[],aa,[],rk,bb,rfl,(af hx _).trans (af (by rw [ak nx.symm];exact hg) _),hg,ae,aG.of Wt,O6,∅,h8,DE,.inl ⟨rfl,rfl,rfl⟩,by simp,λru h=>(by cases h),by simp,gd,t3,λbt H5 s5 t5 gv btv=>⟨rfl,?_⟩⟩;have Sd:=Kp.of3 s5 t3;have O5:=Sd.aa O6;have Z5:=Sd.lst Q4;have Zq:=Sd.seq hS3;clear s5 t5 t3 O6 Q4 k3 Wt;obtain⟨aY,bK,bv⟩:=btv;have lets:aY.length<=32:=by
  have h1:=g9 _ _ bv.emp.nd λz hz=>(k_ false aa).sub z ((Jv bv.emp bv.oh z).mp hz);rw [au,au] at h1;omega
 have lbe:=go.V5 bv.KN bv.KN.nd;refine⟨_,rfl,H3,g,bt,rs,[],aa,aY,bK,rfl,gv,bv,λL ts H6 fL s6 eL pk=>?_⟩;have UM:=bc pk;have XS:=Gq pk;refine⟨_,rfl,H3,g,bt,rs,[],aa,aY,bK,rfl,QM (λb o hb _=>s6 b o hb) gv,bv.kp (λb o hb _=>s6 b o hb),λM us H7 fM s7 eM pm=>?_⟩;have YL:=bc pm;have XR:=G0 pm;have RT:=s6.trans s7;have QI:=RT.seq Zq;have SI:=RT _ _ Z5;have RX:=O5.same RT;have Z8:=s7 _ _ eL;have OA:∀t∈ts,BY K false H7 t:=λt ht=>(XS t ht).same s7;clear Z5 O5 Zq eL XS pk pm bv gv Sd fL fM s6 s7 RT;refine⟨_,rfl,S,ns,12,rfl,QI,∅,λc1 _=>?_⟩;obtain⟨m1,em1,lm1⟩:=X8 c1;refine⟨_,_,rfl,rfl,Uc,(m1:Int),(by show [V.int (c1 % 4)]=_;rw [em1]),∅,∅,?_⟩;rw [iJ];refine fZ (n:=m1) (λi σ H8=>∃(L:Addr)(ts:List Addr)(y5:Option V),σ=[aD S,aD R,aD g,aD L,aD M,y5,none,none,none,none]/\aC H7 H8/\H8 L=some (.lst (ts.map V.ref))/\(∀t∈ts,BY K false H8 t)/\ts.length<=32+i) ⟨L,ts,none,rfl,aC.refl _,Z8,OA,∅⟩ ?_ ?_
 .intro i σ H8 hi iV
  ac_nf0
  obtain⟨L,ts,y5,rfl,s8,SK,RL,l8⟩:=iV;refine goN ?_
  ac_nf
  refine⟨_,rfl,_,rfl,_,rfl,_,_,rfl,rfl,S,ns,13+i,(by show [V.ref S,V.int (13+(0+(i:Int)))]=_;rw [iW];rfl),s8.seq QI,∅,λc2 _=>?_⟩;refine⟨_,rfl,false,L,R,c2,ts,rs,aa,rfl,SK,RL,∅,aG.of (s8 _ _ SI),RX.same s8,Dy,λL' Hk H' s' Wy Tv l'=>?_⟩;exact⟨L',Hk,_,rfl,s8.trans s',Wy,Tv,∅⟩
 rintro σ H8 ⟨L,ts,y5,rfl,s8,SK,RL,l8⟩;clear Z8 OA UM;refine⟨_,rfl,S,ns,12,rfl,s8.seq QI,∅,λc1 _=>?_⟩;obtain⟨m2,em2,YM⟩:=X8 (c1 / 4);refine⟨_,_,rfl,rfl,⟨nofun,nofun⟩,_,_,rfl,rfl,Uc,(m2:Int),(by show [V.int (c1 / 4 % 4)]=_;rw [em2]),∅,∅,?_⟩;rw [iJ];refine fZ (n:=m2) (λi σ H9=>∃(M:Addr)(us:List Addr)(y5:Option V),σ=[aD S,aD R,aD g,aD L,aD M,y5,none,none,none,none]/\aC H8 H9/\H9 M=some (.lst (us.map V.ref))/\(∀t∈us,BY K true H9 t)/\us.length<=40+i) ⟨M,us,_,rfl,aC.refl _,s8 _ _ eM,λt ht=>(XR t ht).same s8,∅⟩ ?_ ?_
 .intro i σ H9 hi iV
  ac_nf0
  obtain⟨M,us,y5,rfl,s9,N_,RK,l9⟩:=iV;refine goN ?_
  ac_nf
  refine⟨_,rfl,_,rfl,_,rfl,_,_,rfl,rfl,S,ns,16+i,(by show [V.ref S,V.int (16+(0+(i:Int)))]=_;rw [iW];rfl),(s8.trans s9).seq QI,∅,λc2 _=>?_⟩;refine⟨_,rfl,true,M,R,c2,us,rs,aa,rfl,N_,RK,∅,aG.of ((s8.trans s9) _ _ SI),RX.same (s8.trans s9),Dy,λL' Hk H' s' Wy Tv l'=>?_⟩;exact⟨L',Hk,_,rfl,s9.trans s',Wy,Tv,∅⟩
 rintro σ H9 ⟨M,us,y5,rfl,s9,N_,RK,l9⟩;clear eM XR YL;have Ce:=s8.trans s9;have Z4:=Ce _ _ SI;have Ym:=RX.same Ce;have SJ:=s9 _ _ SK;obtain⟨es,pe⟩:=JQ λt ht=>(RL t ht).same s9;obtain⟨bs,pb⟩:=XT RK;have les:=bc pe;have lbs:=bc pb;clear SK RL RK QI SI RX s8 s9 Ce;refine⟨_,rfl,L,rfl,⟨_,aG.of SJ⟩,λD hD=>yk (aG.of SJ) pe ∅ hD λHA sA eA=>?_⟩;refine goN ?_
 ac_rfl
 refine⟨_,rfl,M,rfl,⟨_,aG.of (sA _ _ N_)⟩,λG2 hG=>GU (aG.of (sA _ _ N_)) (Paired.dH pb λ_ _ z=>sA.tup z) ∅ hG λvs HB sB eB pB=>?_⟩;refine goN ?_
 ac_rfl
 have NI:=sA.trans sB;have Ws:=NI _ _ Z4;have Ww:=NI _ _ SJ;have Wv:=NI _ _ N_;have WB:=sB _ _ eA;have O4:=Ym.same NI;have Yp:KZ K HB ts es:=pe.keep λ_ _ z=>NI.tup z;have Yr:Paired (RG K HB) us bs:=Paired.dH pb λ_ _ z=>NI.tup z;have lvs:=bc pB;have lp4:(oX bs).length=bs.length:=by unfold oX;rw [au]
 clear Z4 SJ N_ eA Ym pe pb;refine⟨_,rfl,R,_,rfl,.inl (aG.of Ws),λa1 h1=>?_⟩;obtain⟨k1,e1⟩:=gb h1 (.lst (rs.map V.ref));generalize upd HB a1 (.lst (rs.map V.ref))=H1 at k1 e1;refine⟨_,rfl,L,_,rfl,.inl (aG.of (k1 _ _ Ww)),λa2 h2=>?_⟩;obtain⟨k2,e2⟩:=gb h2 (.lst (ts.map V.ref));generalize upd H1 a2 (.lst (ts.map V.ref))=H2 at k2 e2;have q2:=k1.trans k2;refine⟨_,rfl,M,_,rfl,.inl (aG.of (q2 _ _ Wv)),λa3 h3=>?_⟩;obtain⟨k3,e3⟩:=gb h3 (.lst (us.map V.ref));generalize upd H2 a3 (.lst (us.map V.ref))=H3 at k3 e3;have q3:=q2.trans k3;refine⟨_,rfl,D,_,rfl,.inl (aG.of (q3 _ _ WB)),λa4 h4=>?_⟩;obtain⟨k4,e4⟩:=gb h4 (.lst ((es.map (·.1)).map V.str));generalize upd H3 a4 (.lst ((es.map (·.1)).map V.str))=H4 at k4 e4;have q4:=q3.trans k4;refine⟨_,rfl,G2,_,rfl,.inl (aG.of (q4 _ _ eB)),λa5 h5=>?_⟩;obtain⟨k5,e5⟩:=gb h5 (.lst (vs.map V.ref));generalize upd H4 a5 (.lst (vs.map V.ref))=H5 at k5 e5;have q5:=q4.trans k5;refine⟨X3,λW hW=>?_⟩;obtain⟨k6,e6⟩:=jx (K:=K) hW [V.ref a1,V.ref a2,V.ref a3,V.ref a4,V.ref a5];generalize upd H5 W (.tup [V.ref a1,V.ref a2,V.ref a3,V.ref a4,V.ref a5])=H6 at k6 e6;have q6:=q5.trans k6;have E1:=(k2.trans (k3.trans (k4.trans (k5.trans k6)))) _ _ e1;have E2':=(k3.trans (k4.trans (k5.trans k6))) _ _ e2;have E3:=(k4.trans (k5.trans k6)) _ _ e3;have E4:=(k5.trans k6) _ _ e4;have E5:=k6 _ _ e5;have Gw:=q6 _ _ Ws;have KC:=q6 _ _ Ww;have Oa:=q6 _ _ Wv;have DI:=q6 _ _ WB;have SN:=q6 _ _ eB;have Hn:=O4.same q6;have Yq:KZ K H6 ts es:=Yp.keep λ_ _ z=>q6.tup z;have Ys:Paired (RG K H6) us bs:=Paired.dH Yr λ_ _ z=>q6.tup z;have Ue:Paired (KY K H6) vs (oX bs):=Paired.dH pB λ_ _ z=>q6.tup z;have Kg:(es.map (·.1)).length<=1000:=by rw [au];omega
 generalize Mv:es.map (·.1)=nm at *;clear e1 e2 e3 e4 e5 k1 k2 k3 k4 k5 k6 q2 q3 q4 q5 q6 O4 Yp Yr pB Ws Ww Wv WB eB;refine⟨_,rfl,_,rfl,R,L,rs,ts,aa,es,rfl,aG.of Gw,Hn,Dy,aG.of KC,Yq,∅,λH7 s7=>?_⟩;refine⟨_,rfl,.bl _,"bool","bool",true,rfl,.bl _,rV,true,rfl,?_⟩;refine dM ?_;refine⟨_,rfl,_,rfl,_,rfl,R,L,rs,ts,aa,es,rfl,aG.of (s7 _ _ Gw),Hn.same s7,Dy,aG.of (s7 _ _ KC),Yq.keep (λ_ _ z=>s7.tup z),∅,λH8 s8=>?_⟩;refine⟨rfl,_,rfl,?_⟩;rw [cf rfl];refine dM ?_;have Bg:=s7.trans s8;refine⟨λσ HX=>aC H6 HX/\σ=[aD S,aD R,aD g,aD L,aD M,y5,aD D,aD G2,aD W,some (.bl (mz aa es []))],?_,?_⟩
 .refine⟨_,rfl,_,rfl,R,D,rs,aa,nm,rfl,aG.of (Bg _ _ Gw),Hn.same Bg,Dy,aG.of (Bg _ _ DI),Kg,λH9 s9=>⟨λcl=>?_,λk lk=>?_⟩⟩
  .have j_:=Bg.trans s9;refine⟨_,rfl,_,rfl,R,D,rs,aa,nm,rfl,aG.of (j_ _ _ Gw),Hn.same j_,Dy,aG.of (j_ _ _ DI),Kg,λHA sA=>⟨λ_=>?_,λj lj=>(lj.no cl).elim⟩⟩;refine⟨rfl,_,rfl,?_⟩;rw [cf rfl];exact dM ⟨j_.trans sA,rfl⟩
  have j_:=Bg.trans s9;refine⟨_,rfl,_,rfl,R,D,rs,aa,nm,rfl,aG.of (j_ _ _ Gw),Hn.same j_,Dy,aG.of (j_ _ _ DI),Kg,λHA sA=>⟨λcl=>(lk.no cl).elim,λj lj=>?_⟩⟩;cases lk.uniq lj;refine⟨rfl,_,rfl,?_⟩;rw [cf rfl];exact dM ⟨j_.trans sA,rfl⟩
 rintro σ H9 ⟨j_,rfl⟩;clear Bg s7 s8;refine⟨_,rfl,_,rfl,_,rfl,R,D,M,rs,us,aa,nm,bs,rfl,aG.of (j_ _ _ Gw),Hn.same j_,Dy,aG.of (j_ _ _ DI),Kg,aG.of (j_ _ _ Oa),Paired.dH Ys (λ_ _ z=>j_.tup z),∅,λH7 s7=>?_⟩;have pL:=j_.trans s7;refine⟨_,rfl,.bl _,"bool","bool",true,rfl,.bl _,rV,true,rfl,?_⟩;refine dM ?_;refine⟨_,rfl,_,rfl,_,rfl,_,rfl,R,D,M,rs,us,aa,nm,bs,rfl,aG.of (pL _ _ Gw),Hn.same pL,Dy,aG.of (pL _ _ DI),Kg,aG.of (pL _ _ Oa),Paired.dH Ys (λ_ _ z=>pL.tup z),∅,λH8 s8=>?_⟩;have Bg:=pL.trans s8;refine⟨rfl,_,rfl,?_⟩;rw [cf rfl];refine dM ?_;refine⟨λσ HX=>aC H6 HX/\σ=[aD S,aD R,aD g,aD L,aD M,y5,aD D,aD G2,aD W,some (.bl (kQ aa nm bs []))],?_,?_⟩
 .refine⟨_,rfl,_,rfl,_,rfl,R,D,G2,rs,vs,aa,nm,oX bs,rfl,aG.of (Bg _ _ Gw),Hn.same Bg,Dy,aG.of (Bg _ _ DI),Kg,aG.of (Bg _ _ SN),Paired.dH Ue (λ_ _ z=>Bg.tup z),∅,λH9 s9=>⟨λcl=>?_,λk pl wd t lk ft vt=>?_⟩⟩
  .have j_:=Bg.trans s9;refine⟨_,rfl,_,rfl,_,rfl,R,D,G2,rs,vs,aa,nm,oX bs,rfl,aG.of (j_ _ _ Gw),Hn.same j_,Dy,aG.of (j_ _ _ DI),Kg,aG.of (j_ _ _ SN),Paired.dH Ue (λ_ _ z=>j_.tup z),∅,λHA sA=>⟨λ_=>?_,λj pm wd t lj _ _=>(lj.no cl).elim⟩⟩;refine .inl ⟨rfl,_,rfl,?_⟩;rw [cf rfl];exact dM ⟨j_.trans sA,rfl⟩
  have j_:=Bg.trans s9;refine⟨_,rfl,_,rfl,_,rfl,R,D,G2,rs,vs,aa,nm,oX bs,rfl,aG.of (j_ _ _ Gw),Hn.same j_,Dy,aG.of (j_ _ _ DI),Kg,aG.of (j_ _ _ SN),Paired.dH Ue (λ_ _ z=>j_.tup z),∅,λHA sA=>⟨λcl=>(lk.no cl).elim,λj pm wd2 t2 lj _ vt2=>?_⟩⟩;obtain⟨rfl,rfl,rfl⟩:=lk.uniq lj;refine .inr ⟨t,t2,_,_,rfl,rfl,sA.tup vt,vt2,rfl,rfl,_,rfl,?_⟩;have es:Gs [V.int (k:Int),V.int (pl:Int),V.str wd] [V.int (k:Int),V.int (pl:Int),V.str wd]=true:=by
   show (qe (V.int (k:Int)) _ && (qe (V.int (pl:Int)) _ && (qe (V.str wd) _ && true)))=true;rw [og rfl,og rfl,og rfl];rfl
  rw [ax rfl,es];exact dM ⟨j_.trans sA,rfl⟩
 rintro σ H9 ⟨j_,rfl⟩;refine⟨_,rfl,_,rfl,_,rfl,_,rfl,_,rfl,_,rfl,X3,λW2 hW2=>?_⟩;have k9:=af hW2 (.tup [V.ref R,V.ref L,V.ref M,V.ref D,V.ref G2]);have z:=j_.trans k9;refine⟨W,W2,_,_,rfl,rfl,z.tup e6,a_.of ae,?_,q _⟩;exact .cons (lg (aG.of (z _ _ E1)) (aG.of (z _ _ Gw)) (jQ _)) (.cons (lg (aG.of (z _ _ E2')) (aG.of (z _ _ KC)) (jQ _)) (.cons (lg (aG.of (z _ _ E3)) (aG.of (z _ _ Oa)) (jQ _)) (.cons (lg (aG.of (z _ _ E4)) (aG.of (z _ _ DI)) (zG _)) (.cons (lg (aG.of (z _ _ E5)) (aG.of (z _ _ SN)) (jQ _)) .nil))))
end
end gY
namespace L2
open PySem
def xj {C:List Value->Prop}(h:∀a,C [a]):∀us:List Value,us.length=1->C us
 | [a],_=>h a
def vx {C:List Value->Prop}(h:∀a b,C [a,b]):∀us:List Value,us.length=2->C us
 | [a,b],_=>h a b
def DZ {C:List Value->Prop}(h:∀a b c,C [a,b,c]):∀us:List Value,us.length=3->C us
 | [a,b,c],_=>h a b c
def us4 {C:List Value->Prop}(h:∀a b c d,C [a,b,c,d]):∀us:List Value,us.length=4->C us
 | [a,b,c,d],_=>h a b c d
def us5 {C:List Value->Prop}(h:∀a b c d e,C [a,b,c,d,e]):∀us:List Value,us.length=5->C us
 | [a,b,c,d,e],_=>h a b c d e
def d7 (K:bp)(x:Str)(st:Stmt):Prop:=∃(g:Addr)(oc:Value)(od an:Option Addr)(sl:Array (Option Value))(kV dc pm cd ct:Value),PySem.W.nsIn K mainGlobals x=some (some (.ref g)) /\
 K.lookup g=some ⟨oc,od,.func (PySem.W.fnOf x x (dU st) (cQ st) (ay st) .none kV dc pm an cd ct),sl⟩/\PySem.W.codeIn K cd x=true/\PySem.W.keepIn K (.ref g)=true
def d7.get {K:bp}{h:Heap}{mg:Str->Option Value}{x:Str}{st:Stmt}(X:K.In h)(G:h.Ns mainGlobals mg)(H:d7 K x st):∃g gd,hV K x x st g gd/\mg x=some (.ref g):=by
 obtain⟨g,oc,od,an,sl,kV,dc,pm,cd,ct,a,l,c,k⟩:=H;exact⟨g,_,Gj (st:=st) l c k,oE X G a⟩
def Dq (K:bp)(x:Str)(st:Stmt)(T:Addr):Prop:=∃(g:Addr)(oc:Value)(od an:Option Addr)(sl:Array (Option Value))(kV dc pm:Value)(c:Addr)(ct:Value),PySem.W.nsIn K mainGlobals x=some (some (.ref g)) /\
 K.lookup g=some ⟨oc,od,.func (PySem.W.fnOf x x (dU st) (cQ st) (ay st) .none kV dc pm an (.ref c) ct),sl⟩/\PySem.W.codeIn K (.ref c) x=true/\PySem.W.codeHdIn K c T=true/\PySem.W.keepIn K (.ref g)=true
def Dq.get {K:bp}{h:Heap}{mg:Str->Option Value}{x:Str}{st:Stmt}{T:Addr}(X:K.In h)(G:h.Ns mainGlobals mg)(H:Dq K x st T):∃g gd,yy K x x st g gd T/\mg x=some (.ref g):=by
 obtain⟨g,oc,od,an,sl,kV,dc,pm,c,ct,a,l,d,e,k⟩:=H;exact⟨g,_,⟨⟨oc,od,kV,dc,pm,an,c,ct,sl,rfl,l,d,e⟩,k⟩,oE X G a⟩
def yy.binds {K:bp}{x qual:Str}{st:Stmt}{f T:Addr}{fd:FuncData}{ps:List Str}(F:yy K x qual st f fd T)
  (h:∀(kV doc pm:Value)(an:Option Addr)(eX ct:Value)(us:List Value),us.length=ps.length->bindArgs (PySem.W.fnOf x qual (dU st) (cQ st) (ay st) .none kV doc pm an eX ct) ⟨us,[]⟩=pure (ps.zip us)):Binds K fd ps []:=by
 obtain⟨oc,od,kV,doc,pm,an,c,ct,xF,rfl,lk,wF,_⟩:=F.ex;exact .all (h kV doc pm an (.ref c) ct)
def AK (K:bp)(C:Addr)(m qual:Str)(st:Stmt):Prop:=∃(g:Addr)(oc:Value)(od an:Option Addr)(sl:Array (Option Value))(kV dc pm cd ct:Value),PySem.W.findIn K (.ref C) m=some (some (.ref g)) /\
 K.lookup g=some ⟨oc,od,.func (PySem.W.fnOf m qual (dU st) (cQ st) (ay st) .none kV dc pm an cd ct),sl⟩/\PySem.W.codeIn K cd qual=true/\PySem.W.keepIn K (.ref g)=true/\PySem.W.isFn K (.ref g)=true
def AK.get {K:bp}{C:Addr}{m qual:Str}{st:Stmt}(H:AK K C m qual st):∃g gd,hV K m qual st g gd/\Meth K C m g:=by
 obtain⟨g,oc,od,an,sl,kV,dc,pm,cd,ct,a,l,c,k,i⟩:=H;exact⟨g,_,Gj (st:=st) l c k,⟨a,i,k⟩⟩
def d7.c {K:bp}{h:Heap}{mg:Str->Option Value}{x:Str}{st:Stmt}{P:Program}{w:World}{base:Heap}{k:Nat}{ps:List Str}{sp:Sp}(H:d7 K x st)(X:K.In h)(G:h.Ns mainGlobals mg)
  (b:∀(kV doc pm:Value)(an:Option Addr)(eX ct:Value)(us:List Value),us.length=ps.length->bindArgs (PySem.W.fnOf x x (dU st) (cQ st) (ay st) .none kV doc pm an eX ct) ⟨us,[]⟩=pure (ps.zip us))
  (o:∀{f:Addr}{fd:FuncData},hV K x x st f fd->mg x=some (.ref f)->Binds K fd ps []->bV P w K mg base fK k f fd ps sp):aF P w K mg base k x ps sp:=by
 obtain⟨f,fd,F,m⟩:=H.get X G;have B:=F.binds b;exact⟨f,fd,o F m B,B,F.kp,m⟩
def hD {K:bp}{x:Str}{st:Stmt}(g c:Addr)(pm:Value)(h:(PySem.W.nsIn K mainGlobals x,K.lookup g,PySem.W.codeIn K (.ref c) x,PySem.W.keepIn K (.ref g))=(some (some (.ref g)),some ⟨.type "function",none,.func (PySem.W.fnOf x x (dU st) (cQ st) (ay st) .none .none .none pm none (.ref c) .none),#[]⟩,true,true)):d7 K x st:=by
 simp only [qL] at h;exact⟨g,_,_,_,_,_,_,_,_,_,h.1,h.2.1,h.2.2.1,h.2.2.2⟩
def hC {K:bp}{x:Str}{st:Stmt}{T:Addr}(g c:Addr)(pm:Value)(h:(PySem.W.nsIn K mainGlobals x,K.lookup g,PySem.W.codeIn K (.ref c) x,PySem.W.codeHdIn K c T,PySem.W.keepIn K (.ref g))=(some (some (.ref g)),some ⟨.type "function",none,.func (PySem.W.fnOf x x (dU st) (cQ st) (ay st) .none .none .none pm none (.ref c) .none),#[]⟩,true,true,true)):Dq K x st T:=by
 simp only [qL] at h;exact⟨g,_,_,_,_,_,_,_,c,_,h.1,h.2.1,h.2.2.1,h.2.2.2.1,h.2.2.2.2⟩
def hM {K:bp}{C:Addr}{m qual:Str}{st:Stmt}(g c:Addr)(pm:Value)(h:(PySem.W.findIn K (.ref C) m,K.lookup g,PySem.W.codeIn K (.ref c) qual,PySem.W.keepIn K (.ref g),PySem.W.isFn K (.ref g))=(some (some (.ref g)),some ⟨.type "function",none,.func (PySem.W.fnOf m qual (dU st) (cQ st) (ay st) .none .none .none pm none (.ref c) .none),#[]⟩,true,true,true)):AK K C m qual st:=by
 simp only [qL] at h;exact⟨g,_,_,_,_,_,_,_,_,_,h.1,h.2.1,h.2.2.1,h.2.2.2.1,h.2.2.2.2⟩
end L2
namespace gY
open PySem L2 M11
def Nw (K:bp)(C:Addr)(m qual:Str)(st:Stmt):Prop:=∃(g:Addr)(oc:Value)(od an:Option Addr)(sl:Array (Option Value))(kV dc pm cd ct:Value)(T:Addr)(o:Obj) (n:Nat),PySem.W.findIn K (.ref C) m=some (some (.ref g)) /\
 K.lookup g=some ⟨oc,od,.func (PySem.W.fnOf m qual (dU st) (cQ st) (ay st) (.ref T) kV dc pm an cd ct),sl⟩/\PySem.W.codeIn K cd qual=true/\K.lookup T=some o/\o.data=.seq #[.none] n/\PySem.W.keepIn K (.ref g)=true/\PySem.W.isFn K (.ref g)=true
def Nw.get {K:bp}{C:Addr}{m qual:Str}{st:Stmt}(H:Nw K C m qual st):∃g gd,Hh K m qual st g gd/\PySem.W.findIn K (.ref C) m=some (some (.ref g))/\PySem.W.isFn K (.ref g)=true:=by
 obtain⟨g,oc,od,an,sl,kV,dc,pm,cd,ct,T,o,n,a,l,c,t,d,k,i⟩:=H;exact⟨g,_,⟨⟨oc,od,kV,dc,pm,an,cd,ct,sl,T,o,n,rfl,l,c,t,d⟩,k⟩,a,i⟩
structure Top (K:bp)(C Cg C3 T1 T2 T3:Addr)(tm:Tok):Prop where
 nB:PySem.W.nsIn K mainGlobals "BeginTable"=some (some (.ref C))
 nG:PySem.W.nsIn K mainGlobals "Grammar"=some (some (.ref Cg))
 nL:PySem.W.nsIn K mainGlobals "LeastTrees"=some (some (.ref C3))
 nM:PySem.W.nsIn K mainGlobals "MOST_RULES"=some (some (.int 60 tm))
 AN:PySem.W.nsIn K mainGlobals "sorted"=some none
 h0:d7 K "heads_of" zr
 h1:d7 K "numbers_by_name" EE
 h2:d7 K "standings_by_part" Lo
 h3:d7 K "rule_size" oU
 h4:d7 K "empty_by_name" rH
 h5:d7 K "words_in" zi
 h6:d7 K "found_empties" rJ
 h7:d7 K "first_places" vR
 h8:d7 K "way_back" Ln
 h9:d7 K "steps_with_like_rows" zk
 h10:d7 K "find_loop" EG
 h11:d7 K "refuse_twice" zj
 h12:d7 K "names_met" Lp
 h13:d7 K "_law_cell_at" EL
 h14:d7 K "_law_digits" vX
 V2:d7 K "_law_names" zp
 h16:d7 K "_law_words" vO
 h17:d7 K "_law_more" EF
 h18:d7 K "_law_skeleton" ED
 h19:d7 K "_law_ended" zt
 h20:d7 K "_law_not_vast" EB
 h21:d7 K "_law_good" EJ
 h22:d7 K "_law_grammar" EI
 h23:d7 K "is_number_below" zw
 h24:d7 K "is_rule_of" vP
 h25:d7 K "empties_stand" vW
 h26:d7 K "empties_lack" zu
 h27:d7 K "_law_empty_stands" rF
 h28:d7 K "_law_empty_lacks" vS
 h29:d7 K "begins_stand" vY
 h30:d7 K "_law_begin_stands" rG
 h31:d7 K "words_told" EC
 h32:d7 K "begins_lack" zy
 h33:d7 K "_law_begin_lacks" vT
 h34:d7 K "_law_bent" EM
 h35:d7 K "empties_of" mF
 h36:d7 K "begins_of" oV
 Vu:d7 K "law" Lq
 Ve:d7 K "settled_sizes" nP
 Vk:d7 K "refuse_faults" vQ
 hL:Dq K "least_sizes" rE T1
 hG:Dq K "greatest_empty_sizes" vU T2
 hLB:Dq K "least_by_part" nQ T3
 mL1:AK K C3 "__init__" "LeastTrees.__init__" zq
 mB1:AK K C "__init__" "BeginTable.__init__" zz
 mB2:AK K C "find_begins" "BeginTable.find_begins" EK
 mB3:AK K C "words_of_part" "BeginTable.words_of_part" zo
 mG1:Nw K Cg "__init__" "Grammar.__init__" vV
 pgB:PySem.W.plainGet K C Str.empty=true
 hdB:PySem.W.hasDictIn K C=true
 poB:PySem.W.plainOver K C=true
 saB:PySem.W.findIn K (.ref C) "__setattr__"=some (some (.builtin "object.__setattr__"))
 mkB:PySem.W.makesIn K C=true
 Ki:PySem.W.keepIn K (.ref C)=true
 pgG:PySem.W.plainGet K Cg Str.empty=true
 hdG:PySem.W.hasDictIn K Cg=true
 poG:PySem.W.plainOver K Cg=true
 saG:PySem.W.findIn K (.ref Cg) "__setattr__"=some (some (.builtin "object.__setattr__"))
 mkG:PySem.W.makesIn K Cg=true
 kpG:PySem.W.keepIn K (.ref Cg)=true
 pgL:PySem.W.plainGet K C3 Str.empty=true
 hdL:PySem.W.hasDictIn K C3=true
 poL:PySem.W.plainOver K C3=true
 saL:PySem.W.findIn K (.ref C3) "__setattr__"=some (some (.builtin "object.__setattr__"))
 mkL:PySem.W.makesIn K C3=true
 kpL:PySem.W.keepIn K (.ref C3)=true
 AG:PySem.W.findIn K (.ref C) "empties"=some none
 Ha:PySem.W.findIn K (.ref C) "empty"=some none
 Dl:PySem.W.findIn K (.ref C) "begins"=some none
 Dk:PySem.W.findIn K (.ref C) "firsts"=some none
 G7:PySem.W.findIn K (.ref C3) "rules"=some none
 G9:PySem.W.findIn K (.ref C3) "empty"=some none
 G8:PySem.W.findIn K (.ref C3) "least"=some none
 Dj:PySem.W.findIn K (.ref C3) "hollow"=some none
 tS:PySem.W.findIn K (.ref C3) "beginnings"=some none
 G_:PySem.W.findIn K (.ref Cg) "rules"=some none
 wW:PySem.W.findIn K (.ref Cg) "strengths"=some none
 s_:PySem.W.findIn K (.ref Cg) "begin_table"=some none
 wX:PySem.W.findIn K (.ref Cg) "standings"=some none
 sZ:PySem.W.findIn K (.ref Cg) "small_trees"=some none
 Tf:PySem.W.nsIn K mainGlobals "len"=some none
 K1:PySem.W.nsIn K mainGlobals "range"=some none
 xf:PySem.W.nsIn K mainGlobals "isinstance"=some none
 K0:PySem.W.nsIn K mainGlobals "tuple"=some none
 Ov:PySem.W.nsIn K mainGlobals "list"=some none
 Oy:PySem.W.nsIn K mainGlobals "dict"=some none
 Tj:PySem.W.nsIn K mainGlobals "all"=some none
 Ti:PySem.W.nsIn K mainGlobals "any"=some none
 Tc:PySem.W.nsIn K mainGlobals "str"=some none
 Th:PySem.W.nsIn K mainGlobals "int"=some none
 Oz:PySem.W.nsIn K mainGlobals "bool"=some none
 yW:PySem.W.nsIn K mainGlobals "enumerate"=some none
 Tb:PySem.W.nsIn K mainGlobals "sum"=some none
 Te:PySem.W.nsIn K mainGlobals "max"=some none
 Td:PySem.W.nsIn K mainGlobals "min"=some none
def all_mk {l:PySem.W.OpenLaw}{w:World}{K:bp}{h:Heap}{mg:Str->Option Value}{fa C Cg C3 T1 T2 T3:Addr}{tm:Tok}(X:K.In h)(G:h.Ns mainGlobals mg)(hfa:mg "law"=some (.ref fa))(tp:Top K C Cg C3 T1 T2 T3 tm) :
  ∃fd:FuncData,(∀(s:Shared)(v:Value),BindsTo s fd ⟨[v],[]⟩ [("_law_script",v)])/\∀base:Heap,K.In base->base.Ns mainGlobals mg->tG mg base->bV l.prog w K mg base fK 9 fa fd ["_law_script"] (A8 K T1 T2 T3):=by
 have T:Txt mg:=⟨hX X G tp.Tf,hX X G tp.K1,hX X G tp.xf,hX X G tp.K0,hX X G tp.Ov,hX X G tp.Oy,hX X G tp.Tj,hX X G tp.Ti,hX X G tp.Tc,hX X G tp.Th,hX X G tp.Oz,hX X G tp.yW,hX X G tp.Tb,hX X G tp.Te,hX X G tp.Td⟩;obtain⟨Kw,KG,yz,Ke⟩:=tp.Ve.get X G;have KP:=yz.binds (ps:=["rules","sizes","better"]) λ_ _ _ _ _ _=>by exact DZ λ_ _ _=>rfl
 obtain⟨QQ,Q8,Hi,Pw⟩:=tp.Vk.get X G;have Rg:=Hi.binds (ps:=["rules","strengths"]) λ_ _ _ _ _ _=>by exact vx λ_ _=>rfl
 obtain⟨f_L,d_L,Xz,m_L⟩:=tp.hL.get X G;have b_L:=Xz.binds (ps:=["rules"]) λ_ _ _ _ _ _=>by exact xj λ_=>rfl
 obtain⟨f_G,d_G,XA,m_G⟩:=tp.hG.get X G;have b_G:=XA.binds (ps:=["rules"]) λ_ _ _ _ _ _=>by exact xj λ_=>rfl
 obtain⟨V6,WK,Nx,UI⟩:=tp.hLB.get X G;have W6:=Nx.binds (ps:=["rules"]) λ_ _ _ _ _ _=>by exact xj λ_=>rfl
 obtain⟨V9,aaw,RF,Py⟩:=tp.mB1.get;have Xc:=RF.binds (ps:=["self","rules"]) λ_ _ _ _ _ _=>by exact vx λ_ _=>rfl
 obtain⟨aaq,aav,RE,UL⟩:=tp.mB2.get;have Xb:=RE.binds (ps:=["self","number","rule"]) λ_ _ _ _ _ _=>by exact DZ λ_ _ _=>rfl
 obtain⟨aap,aau,RD,UK⟩:=tp.mB3.get;have Xa:=RD.binds (ps:=["self","part"]) λ_ _ _ _ _ _=>by exact vx λ_ _=>rfl
 obtain⟨V7,aas,RB,Px⟩:=tp.mL1.get;have W_:=RB.binds (ps:=["self","rules","begin_table"]) λ_ _ _ _ _ _=>by exact DZ λ_ _ _=>rfl
 obtain⟨V8,aat,RC,UJ,U4⟩:=tp.mG1.get;have cB:BC K C:=⟨⟨tp.pgB,tp.hdB,tp.poB,tp.saB⟩,tp.AG,tp.Ha,tp.Dl,tp.Dk⟩;have cG:GC K Cg:=⟨⟨tp.pgG,tp.hdG,tp.poG,tp.saG⟩,tp.G_,tp.wW,tp.s_,tp.wX,tp.sZ⟩;have cL:LC K C3:=⟨⟨tp.pgL,tp.hdL,tp.poL,tp.saL⟩,tp.G7,tp.G9,tp.G8,tp.Dj,tp.tS⟩;have kL:Mk K C3 V7:=⟨tp.mkL,Px.at_,Px.fn,tp.kpL⟩;have kB:Mk K C V9:=⟨tp.mkB,Py.at_,Py.fn,tp.Ki⟩;have kG:Mk K Cg V8:=⟨tp.mkG,UJ,U4,tp.kpG⟩;obtain⟨f9,d9,F9,m9⟩:=tp.Vu.get X G;have e:=hfa.symm.trans m9;cases e;obtain⟨oc,od,kV,doc,pm,an,eX,ct,xF,eL,lk,wF⟩:=F9.ex;refine⟨d9,λs v=>?_,λbase _ _ QK=>?_⟩
 .rw [eL];exact .of_eq rfl
 have c0:=tp.h0.c (P:=l.prog) (w:=w) (base:=base) X G (λ_ _ _ _ _ _=>by exact xj λ_=>rfl) λF m B=>Ft F T;have c1:=tp.h1.c (P:=l.prog) (w:=w) (base:=base) X G (λ_ _ _ _ _ _=>by exact xj λ_=>rfl) λF m B=>IQ F T c0;have c2:=tp.h2.c (P:=l.prog) (w:=w) (base:=base) X G (λ_ _ _ _ _ _=>by exact xj λ_=>rfl) λF m B=>LU F T;have c3:=tp.h3.c (P:=l.prog) (w:=w) (base:=base) X G (λ_ _ _ _ _ _=>by exact vx λ_ _=>rfl) λF m B=>xH F T;have c4:=tp.h4.c (P:=l.prog) (w:=w) (base:=base) X G (λ_ _ _ _ _ _=>by exact vx λ_ _=>rfl) λF m B=>zR F T;have c5:=tp.h5.c (P:=l.prog) (w:=w) (base:=base) X G (λ_ _ _ _ _ _=>by exact xj λ_=>rfl) λF m B=>Fj F T;have c6:=tp.h6.c (P:=l.prog) (w:=w) (base:=base) X G (λ_ _ _ _ _ _=>by exact xj λ_=>rfl) λF m B=>zS F T;have c7:=tp.h7.c (P:=l.prog) (w:=w) (base:=base) X G (λ_ _ _ _ _ _=>by exact vx λ_ _=>rfl) λF m B=>Ct F T;have c8:=tp.h8.c (P:=l.prog) (w:=w) (base:=base) X G (λ_ _ _ _ _ _=>by exact DZ λ_ _ _=>rfl) λF m B=>LS F T;have c9:=tp.h9.c (P:=l.prog) (w:=w) (base:=base) X G (λ_ _ _ _ _ _=>by exact xj λ_=>rfl) λF m B=>Fn F T c6 c0;have c10:=tp.h10.c (P:=l.prog) (w:=w) (base:=base) X G (λ_ _ _ _ _ _=>by exact xj λ_=>rfl) λF m B=>IT F T c9 c8;have c11:=tp.h11.c (P:=l.prog) (w:=w) (base:=base) X G (λ_ _ _ _ _ _=>by exact xj λ_=>rfl) λF m B=>Fl F T;have c12:=tp.h12.c (P:=l.prog) (w:=w) (base:=base) X G (λ_ _ _ _ _ _=>by exact xj λ_=>rfl) λF m B=>LV F T;have GX:=tp.h13.c (P:=l.prog) (w:=w) (base:=base) X G (λ_ _ _ _ _ _=>by exact vx λ_ _=>rfl) λF m B=>IX F T;have c14:=tp.h14.c (P:=l.prog) (w:=w) (base:=base) X G (λ_ _ _ _ _ _=>by exact DZ λ_ _ _=>rfl) λF m B=>Cy F T;have WU:=tp.V2.c (P:=l.prog) (w:=w) (base:=base) X G (λ_ _ _ _ _ _=>by exact xj λ_=>rfl) λF m B=>Fp F T;have c16:=tp.h16.c (P:=l.prog) (w:=w) (base:=base) X G (λ_ _ _ _ _ _=>by exact xj λ_=>rfl) λF m B=>Cq F T;have c17:=tp.h17.c (P:=l.prog) (w:=w) (base:=base) X G (λ_ _ _ _ _ _=>by exact us5 λ_ _ _ _ _=>rfl) λF m B=>IS F T (GX.mono nofun) (c14.mono nofun);have c18:=tp.h18.c (P:=l.prog) (w:=w) (base:=base) X G (λ_ _ _ _ _ _=>by exact us4 λ_ _ _ _=>rfl) λF m B=>IP F T (GX.mono nofun) (c14.mono nofun);have c19:=tp.h19.c (P:=l.prog) (w:=w) (base:=base) X G (λ_ _ _ _ _ _=>by exact vx λ_ _=>rfl) λF m B=>Fw F T;have c20:=tp.h20.c (P:=l.prog) (w:=w) (base:=base) X G (λ_ _ _ _ _ _=>by exact vx λ_ _=>rfl) λF m B=>IL F T;have c21:=tp.h21.c (P:=l.prog) (w:=w) (base:=base) X G (λ_ _ _ _ _ _=>by exact xj λ_=>rfl) λF m B=>IV F T (c19.mono nofun) (c20.mono nofun);have c22:=tp.h22.c (P:=l.prog) (w:=w) (base:=base) X G (λ_ _ _ _ _ _=>by exact vx λ_ _=>rfl) λF m B=>IU F T (GX.mono nofun) (WU.mono nofun) (c16.mono nofun) (c18.mono nofun) (c17.mono nofun) (c21.mono nofun);have c23:=tp.h23.c (P:=l.prog) (w:=w) (base:=base) X G (λ_ _ _ _ _ _=>by exact vx λ_ _=>rfl) λF m B=>Fz F T;have c24:=tp.h24.c (P:=l.prog) (w:=w) (base:=base) X G (λ_ _ _ _ _ _=>by exact DZ λ_ _ _=>rfl) λF m B=>Cr F T (c23.mono nofun);have c25:=tp.h25.c (P:=l.prog) (w:=w) (base:=base) X G (λ_ _ _ _ _ _=>by exact vx λ_ _=>rfl) λF m B=>Cw F T (c24.mono nofun);have c26:=tp.h26.c (P:=l.prog) (w:=w) (base:=base) X G (λ_ _ _ _ _ _=>by exact vx λ_ _=>rfl) λF m B=>Fx F T;have c27:=tp.h27.c (P:=l.prog) (w:=w) (base:=base) X G (λ_ _ _ _ _ _=>by exact vx λ_ _=>rfl) λF m B=>zP F T;have c28:=tp.h28.c (P:=l.prog) (w:=w) (base:=base) X G (λ_ _ _ _ _ _=>by exact vx λ_ _=>rfl) λF m B=>Cu F T;have c29:=tp.h29.c (P:=l.prog) (w:=w) (base:=base) X G (λ_ _ _ _ _ _=>by exact DZ λ_ _ _=>rfl) λF m B=>Cz F T (c0.mono nofun) (c24.mono nofun) (c23.mono nofun);have c30:=tp.h30.c (P:=l.prog) (w:=w) (base:=base) X G (λ_ _ _ _ _ _=>by exact DZ λ_ _ _=>rfl) λF m B=>zQ F T;have c31:=tp.h31.c (P:=l.prog) (w:=w) (base:=base) X G (λ_ _ _ _ _ _=>by exact vx λ_ _=>rfl) λF m B=>IM F T (c0.mono nofun);have c32:=tp.h32.c (P:=l.prog) (w:=w) (base:=base) X G (λ_ _ _ _ _ _=>by exact DZ λ_ _ _=>rfl) λF m B=>FA F T (c31.mono nofun);have c33:=tp.h33.c (P:=l.prog) (w:=w) (base:=base) X G (λ_ _ _ _ _ _=>by exact DZ λ_ _ _=>rfl) λF m B=>Cv F T (hX X G tp.AN);have c34:=tp.h34.c (P:=l.prog) (w:=w) (base:=base) X G (λ_ _ _ _ _ _=>by exact DZ λ_ _ _=>rfl) λF m B=>IY F T;have c35:=tp.h35.c (P:=l.prog) (w:=w) (base:=base) X G (λ_ _ _ _ _ _=>by exact xj λ_=>rfl) λF m B=>wc F T cG cB;have c36:=tp.h36.c (P:=l.prog) (w:=w) (base:=base) X G (λ_ _ _ _ _ _=>by exact xj λ_=>rfl) λF m B=>xI F T cG cB;have WQ:aF l.prog w K mg base 2 "settled_sizes" ["rules","sizes","better"] (iK K yE rS.1 rS.2.1 rS.2.2.1 M11.bl):=⟨Kw,KG,zM yz T,KP,yz.kp,Ke⟩;have WR:aF l.prog w K mg base 2 "settled_sizes" ["rules","sizes","better"] (iK K Kf z_.1 z_.2.1 z_.2.2.1 M11.bg):=⟨Kw,KG,zN yz T,KP,yz.kp,Ke⟩;have c_L:aF l.prog w K mg base 3 "least_sizes" ["rules"] (ql K T1):=⟨f_L,d_L,Fs Xz T QK c5 WQ,b_L,Xz.kp,m_L⟩;have c_G:aF l.prog w K mg base 3 "greatest_empty_sizes" ["rules"] (vG K T2):=⟨f_G,d_G,Fu XA QK WR,b_G,XA.kp,m_G⟩;have Rb:aF l.prog w K mg base 4 "refuse_faults" ["rules","strengths"] (rp K T1 T2):=⟨QQ,Q8,Cs Hi T (oE X G tp.nM) c11 c_L c0 c12 c10 c_G,Rg,Hi.kp,Pw⟩;have WS:aF l.prog w K mg base 4 "least_by_part" ["rules"] (oS K T1 T3):=⟨V6,WK,zO Nx T QK (hX X G tp.AN) (c0.mono nofun) c_L (c1.mono nofun) (c3.mono nofun),W6,Nx.kp,UI⟩;have Ul:=Fo (P:=l.prog) (w:=w) (base:=base) RD T cB;have Um:=IW RE T cB c7 Ul UK Xa;have Uo:=Fy RF T cB c6 c0 Um UL Xb;have Uj:=Fq RB T cB cL WS (c4.mono nofun);have Uk:=Fv RC T cG (Rb.mono nofun) (c2.mono nofun) (Uo.mono nofun) kB Xc (oE X G tp.nB) Uj kL W_ (oE X G tp.nL);exact LW F9 T (c22.mono nofun) (GX.mono nofun) (c35.mono nofun) (c36.mono nofun) (c34.mono nofun) (c25.mono nofun) (c27.mono nofun) (c26.mono nofun) (c28.mono nofun) (c29.mono nofun) (c30.mono nofun) (c32.mono nofun) (c33.mono nofun) cG kG (Uk.mono nofun) (Gh RC) (oE X G tp.nG)
def walk {l:PySem.W.OpenLaw}{q:Program}{loose:List Str}{XP:(Str->Option Value)->Heap->Prop}{YP:World->Heap->Prop}{d:DefRec}{K:Params->bp}(T1 T2 T3 c1 c2 c3:Addr)(Kc:T1≠T2)(Kb:T1≠T3)(Ka:T2≠T3)(hn:l.most=some 63)(MD:d.params.defaults=[])
  (hY:∀(w:World)(h:Heap),YP w h->(K w.params).In h/\∀T∈[T3,T2,T1],h.get? T=some (PySem.W.tabObj #[]))
  (hK1:∀w:World,(K w.params).lookup T1=none)(hK2:∀w:World,(K w.params).lookup T2=none)(hK3:∀w:World,(K w.params).lookup T3=none)(hC1:∀w:World,PySem.W.codeHdIn (K w.params) c1 T1=true)(hC2:∀w:World,PySem.W.codeHdIn (K w.params) c2 T2=true)(hC3:∀w:World,PySem.W.codeHdIn (K w.params) c3 T3=true)
  (F:∀(w:World)(mg:Str->Option Value)(fa:Addr)(h:Heap),(K w.params).In h->h.Ns mainGlobals mg->mg d.name=some (.ref fa) ->
   ∃fd:FuncData,(∀(s:Shared)(u:Value),BindsTo s fd ⟨[u],[]⟩ [("_law_script",u)])/\∀base:Heap,(K w.params).In base->base.Ns mainGlobals mg->tG mg base->bV l.prog w (K w.params) mg base fK 9 fa fd ["_law_script"] (A8 (K w.params) T1 T2 T3)) :
  PySem.W.WalkO q loose XP YP l.row.toRowW d [] (λf vs=>PySem.call f vs) :=
 L2.DU (n:=63) (k:=9) (x := "_law_script") (CX:=λ_=>fK) (sp:=λw=>A8 (K w.params) T1 T2 T3) hn nofun MD ⟨rfl,nofun,nofun⟩ hY (λw T hT=>by
  rcases b8.mp hT with e | hT
  .subst e;exact⟨hK3 w,c3,hC3 w⟩
  rcases b8.mp hT with e | hT
  .subst e;exact⟨hK2 w,c2,hC2 w⟩
  rw [bH.mp hT];exact⟨hK1 w,c1,hC1 w⟩) F (λ_ H a ns hl _ hT hS=>⟨a,ns,rfl,hS,hl,⟨⟨#[],hT T1 (by simp),by trivial,.inl rfl⟩,⟨#[],hT T2 (by simp),by trivial,.inl rfl⟩,⟨#[],hT T3 (by simp),by trivial,.inl rfl⟩,Kc,Kb,Ka⟩,λ_=>rfl⟩) λ_ _ _ _ _ z=>z
end gY
set_option maxHeartbeats 0
end
namespace HD
open PySem PySem.W L2
def Tw (P:Params):gY.Top (K P) 158 420 391 301 306 335 599:=⟨nofun,nofun,nofun,nofun,nofun,
 hD 26 25 HD.m1 (nofun),
 hD 36 35 HD.m1 (nofun),
 hD 43 42 HD.m1 (nofun),
 hD 343 342 HD.m9 (nofun),
 hD 348 347 HD.m9 (nofun),
 hD 31 30 HD.m1 (nofun),
 hD 101 100 HD.m4 (nofun),
 hD 108 107 HD.m4 (nofun),
 hD 299 298 HD.m6 (nofun),
 hD 292 291 HD.m6 (nofun),
 hD 287 286 HD.m6 (nofun),
 hD 328 327 HD.m8 (nofun),
 hD 333 332 HD.m8 (nofun),
 hD 431 430 HD.l_ (nofun),
 hD 450 449 HD.l_ (nofun),
 hD 436 435 HD.l_ (nofun),
 hD 443 442 HD.l_ (nofun),
 hD 464 463 HD.l_ (nofun),
 hD 457 456 HD.l_ (nofun),
 hD 469 468 HD.l_ (nofun),
 hD 474 473 HD.l_ (nofun),
 hD 479 478 HD.l_ (nofun),
 hD 486 485 HD.l_ (nofun),
 hD 57 56 HD.m1 (nofun),
 hD 50 49 HD.m1 (nofun),
 hD 62 61 HD.m2 (nofun),
 hD 67 66 HD.m2 (nofun),
 hD 491 490 HD.l_ (nofun),
 hD 496 495 HD.l_ (nofun),
 hD 72 71 HD.m2 (nofun),
 hD 501 500 HD.l_ (nofun),
 hD 82 81 HD.m2 (nofun),
 hD 77 76 HD.m2 (nofun),
 hD 506 505 HD.l_ (nofun),
 hD 513 512 HD.l_ (nofun),
 hD 89 88 HD.m3 (nofun),
 hD 96 95 HD.m3 (nofun),
 hD 518 517 HD.l_ (nofun),
 hD 316 315 HD.m7 (nofun),
 hD 321 320 HD.m8 (nofun),
 hC 304 303 HD.m7 (nofun),
 hC 311 310 HD.m7 (nofun),
 hC 338 337 HD.m9 (nofun),
 hM 360 359 HD.m9 (nofun),
 hM 120 119 HD.m4 (nofun),
 hM 127 126 HD.m4 (nofun),
 hM 134 133 HD.m4 (nofun),
 ⟨410,.type "function",none,none,#[],.none,.none,.str "wright.grammars" 710,.ref 409,.none,403,⟨.type "tuple",none,.seq #[.none] 0,#[]⟩,0,nofun,nofun,nofun,nofun,rfl,nofun,nofun⟩,nofun,nofun,nofun,nofun,nofun,nofun,nofun,nofun,nofun,nofun,nofun,nofun,nofun,nofun,nofun,nofun,nofun,nofun,nofun,nofun,nofun,nofun,nofun,nofun,nofun,nofun,nofun,nofun,nofun,nofun,nofun,nofun,nofun,nofun,nofun,nofun,nofun,nofun,nofun,nofun,nofun,nofun,nofun,nofun,nofun,nofun,nofun⟩
end HD
theorem PySem.Challenge.cw_wright_k23_begins_checked_holds : PySem.Challenge.rw_wright_k23_begins_checked.Holds := by
 refine HD.hold ?_ ?hw
 case hw=>w_witness2
 refine gY.walk (l:=PySem.Challenge.rw_wright_k23_begins_checked) (K:=HD.K) 301 306 335 303 310 337 nofun nofun nofun rfl HD.ok5 (λw h Y=>⟨PySem.W.km_in_of Y,PySem.W.km_tabs_of Y⟩) (λw=>by kernel_rfl) (λw=>by kernel_rfl) (λw=>by kernel_rfl) (λw=>by kernel_rfl) (λw=>by kernel_rfl) (λw=>by kernel_rfl) ?F;intro w mg fa h KX G Mw;exact gY.all_mk KX G Mw (HD.Tw w.params)
