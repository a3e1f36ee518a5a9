import PyProof.Rows.All
import Wide.All
import OpenK.AllK
import Wide.FinOn
import Lean
import PyProof.EqAt
import PyProof.EqKinds
import PyProof.TupleCall
import KE.KNestM
import PyProof.IsiH_list
import PyProof.RaisesAny
import KE.KDictOf
import PyProof.CollectWalk
import PyProof.CompFree
import KE.KDictList
import PyProof.NeKinds
import PyProof.ConsumeWalk
import PyProof.StrBlockI
import PyProof.EnumFor
import PyProof.TupleIter
import PyProof.EnumMake
import KE.KLam
import PyProof.DictUpdate
import PyProof.SeqI3
import PyProof.DictWalks
import PyProof.ConsumeS
import PyProof.Rows.CallKwBuiltin
import KE.KDictLaws
import PyProof.AutoListH
import PyProof.ZipIter
import PyProof.ListNew
import KE.KRevSl
import PyProof.StrOps
import PyProof.StrOps2
import KE.KSortKey
import PySem.Challenge.RW_wright_k68_deeds_of_no_tree
set_option Elab.async false
set_option linter.all false
set_option maxRecDepth 100000
local macro_rules | `(tactic| omega) => `(tactic| first | lia | omega (config := {}))
local macro_rules | `(∅) => `(by omega)
local macro_rules | `(nofun) => `(by first | decide +kernel | kernel_rfl)
def bC:=@Or.inl
abbrev ba:=PySem.W.Frag
def rC:0<=PySem.sizeLine:=by decide
def qi:1<=PySem.sizeLine:=by decide
def iQ:2<=PySem.sizeLine:=by decide
def II:3<=PySem.sizeLine:=by decide
def zl4:4<=PySem.sizeLine:=by decide
def zl5:5<=PySem.sizeLine:=by decide
def au.{u,v}:=@List.length_map.{u,v}
def bu.{u}:=@List.getElem?_eq_some_iff.{u}
def a9.{u}:=@List.length_append.{u}
def bz.{u,v}:=@List.getElem?_map.{u,v}
def cv:=@PySem.Heap.get?_push_of_some
def b_.{u}:=@List.mem_of_getElem?.{u}
def aE:=@PySem.wpAny_bind
def cD.{u,v}:=@Option.map_eq_some_iff.{u,v}
def bH.{u,v}:=@List.map_append.{u,v}
def dH.{u}:=@List.getElem?_eq_getElem.{u}
def bF.{u}:=@List.mem_singleton.{u}
def aF:=@Nat.le_refl
def aU:=@PySem.Paired.length
def bh:=@decide_eq_true
def bY.{u}:=@List.size_toArray.{u}
def bQ.{u}:=@List.length_take.{u}
def aP:=@PySem.wpAny_pure
def bR.{u}:=@List.mem_append.{u}
def cI.{u}:=@List.mem_cons_self.{u}
def b8:=@decide_eq_false
def dB.{u}:=@List.mem_cons_of_mem.{u}
def cq:=@PySem.PassesOwn.never
def cQ.{u}:=@List.take_add_one.{u}
def cH.{u}:=@List.take_length.{u}
def bX.{u}:=@List.mem_cons.{u}
def c_:=@of_decide_eq_true
def bO:=@PySem.Heap.lt_size
def d0:=@PySem.Heap.get?_push_size
def fR.{u}:=@List.mem_append_right.{u}
def ax.{u}:=@if_pos.{u}
def gG:=@PySem.F.plainAttrs_list
def ay.{u}:=@if_neg.{u}
def eG:=@Bool.false_ne_true
def gY:=@PySem.F.type_list_append
def gX:=@PySem.F.slot_list_append
def cw:=@Nat.ne_of_lt
def gy.{u}:=@List.length_singleton.{u}
def cZ:=@PySem.boot_len
def cP.{u,v}:=@List.map_cons.{u,v}
def dZ.{u}:=@List.length_cons.{u}
def gF:=@Bool.and_eq_true_iff
def fg.{u}:=@List.length_drop.{u}
def cY.{u,v}:=@List.mem_map.{u,v}
def ib.{u}:=@List.mem_append_left.{u}
def gM:=@Nat.lt_of_lt_of_le
def iI.{u}:=@List.getElem?_of_mem.{u}
def kI:=@PyProof.Rows.boot_isinstance
def gL.{u}:=@List.all_eq_true.{u}
def dY:=@Nat.le_trans
def iH:=@PySem.W.mg_none_of
def m_:=@PyProof.Rows.slot_tuple_getitem
def i7.{u}:=@List.mem_of_mem_take.{u}
def dX:=@Nat.zero_le
def i6.{u,v}:=@List.flatMap_append.{u,v}
def dM:=@PySem.wpAny_mono
def iu.{u}:=@Option.some.inj.{u}
def lY.{u}:=@Option.isSome_iff_exists.{u}
def mZ.{u}:=@List.getElem?_append_right.{u}
def pV.{u}:=@List.take_append_of_le_length.{u}
def j8.{u,v}:=@List.mem_map_of_mem.{u,v}
def iS.{u}:=@List.append_nil.{u}
def jr:=@PySem.wpAny_newObj_type
def kF.{u}:=@beq_eq_false_iff_ne.{u}
def mY:=@PyProof.Rows.boot_tuple
def j7.{u}:=@List.nodup_append.{u}
def pU.{u}:=@List.getElem?_append_left.{u}
def mX.{u}:=@List.take_of_length_le.{u}
def jq.{u}:=@List.length_nil.{u}
def kC:=@Int.toNat_natCast
def mW.{u}:=@List.mem_of_mem_drop.{u}
def kx:=@PySem.wpAny_truthy_bool
def h_:=@PySem.Paired.snoc
def pT.{u}:=@List.take_append_drop.{u}
def lX.{u}:=@List.append_assoc.{u}
def jo:=@Bool.true_and
def iG:=@PySem.wpAny_field
def qR:=@PySem.wpAny_callSpecial?_slot
def mV.{u,v}:=@List.flatMap_cons.{u,v}
def ku.{u}:=@List.nodup_nil.{u}
def lW.{u}:=@List.mem_filter.{u}
def jn.{u,v,w}:=@List.map_map.{u,v,w}
def qQ.{u}:=@List.mem_iff_getElem.{u}
def j6:=@Int.zero_add
def mU.{u}:=@List.nodup_cons.{u}
def qP.{u}:=@List.length_reverse.{u}
def mT:=@Bool.eq_iff_iff
def xr.{u}:=@List.getD_eq_getElem?_getD.{u}
def pS:=@Nat.lt_succ_self
def pR:=@Bool.and_eq_true
def ue.{u}:=@List.dropLast_concat.{u}
def qO:=@PySem.wpAny_Call_Name_kw
def qN.{u}:=@List.reverse_cons.{u}
def pQ.{u}:=@List.nil_append.{u}
def xq.{u}:=@List.getElem?_take_of_lt.{u}
def lV:=@Nat.ne_of_gt
def mS.{u,v}:=@List.map_take.{u,v}
def xp.{u}:=@List.getLast?_singleton.{u}
def pP:=@List.mem_range
def lU:=@PySem.wpAny_typeOf
def uc.{u,v}:=@List.map_singleton.{u,v}
def oY.{u}:=@List.filter_append.{u}
def jN:=@PySem.wpAny_holding
def mv:=@PySem.wpAny_call_entry
def vG:=@PyProof.Rows.callWith_type1
def jM:=@Nat.sub_zero
def mr:=@Nat.min_eq_left
def rB.{u}:=@List.length_filter_le.{u}
def mq:=@PySem.Around.in1_units
def oX.{u,v}:=@Option.isSome_map.{u,v}
def kM:=@Nat.lt_irrefl
def kK.{u}:=@List.sum_cons.{u}
def rA:=@PySem.Calls.callWith_builtin
def oW:=@PySem.tupleKind_room_in1
def oV:=@PySem.Calls.spliced_cons
def rq.{u}:=@List.getLast?_append.{u}
def mn:=@PySem.wpAny_passesOwn
def ml.{u}:=@List.drop_zero.{u}
def oU.{u}:=@beq_self_eq_true.{u}
def oT.{u,v}:=@List.getElem_map.{u,v}
def oS.{u}:=@List.drop_length.{u}
def oR:=@PySem.wpAny_pyIter_list
def rp:=@PySem.mem_of_lookup
def ro.{u,v}:=@List.filterMap_cons.{u,v}
def rm.{u}:=@Array.length_toList.{u}
def kJ:=@Nat.le_of_lt
def vF:=@PySem.F.slot_tuple_iterator_next
def rj:=@PySem.Around.under_plainId
def gC.{u}:=@Ne.symm.{u}
def rh:=@Nat.lt_of_le_of_lt
def rg.{u}:=@List.getElem?_drop.{u}
def oQ.{u}:=@List.find?_cons.{u}
def vE:=@PySem.F.slot_list_getattribute
def rf:=@Bool.eq_false_iff
def oP.{u}:=@List.take_zero.{u}
def oO:=@Bool.and_false
def q_:=@PySem.wpAny_setField_rec
def vC:=@PySem.wpAny_loadPart'
def mj:=@Nat.lt_trans
def mi.{u,v}:=@List.map_nil.{u,v}
def vB.{u}:=@List.getElem?_reverse.{u}
def vy.{u}:=@List.getElem?_eq_none.{u}
def q9:=@Nat.min_eq_right
def q8.{u,v}:=@List.mem_flatMap.{u,v}
def qZ.{u}:=@List.getElem_mem.{u}
def oN:=@PySem.W.mg_of
def oM.{u,v}:=@List.map_drop.{u,v}
def oK:=@PySem.Heap.size_push
def vx:=@PySem.wpAny_pyNext_list_end
def mh.{u,v}:=@Sum.inr.inj.{u,v}
def qY.{u,v}:=@Option.map_some.{u,v}
def mf:=@Nat.le_succ
def qX:=@Int.emod_nonneg
def vw:=@PySem.F.slot_enumerate_next
def vv.{u}:=@Array.toList_append.{u}
def vq:=@PySem.wpAny_loadName_local
def oJ:=@Nat.zero_add
def vp:=@Int.emod_lt_of_pos
def vm:=@PySem.Calls.evalArgs_plain
def oI:=@PySem.plainId_quiet
def qW:=@Bool.false_and
def qV:=@PySem.codeAny_builtin
def zr:=@PySem.F.slot_dict_update
def zq:=@PySem.F.args_tuple_add_2
def vk:=@Nat.lt_succ_of_lt
def vj:=@List.length_range
def vi.{u,v}:=@List.foldl_append.{u,v}
def zp:=@PySem.F.plainAttrs_dict
def zo:=@PySem.F.entry_tuple_add
def qU.{u,v}:=@Prod.mk.injEq.{u,v}
def zk.{u}:=@List.length_eq_zero_iff.{u}
def qT.{u}:=@List.any_cons.{u}
def oH:=@Int.le_refl
def vh:=@PySem.wpAny_pyIter_tuple
def oG:=@PySem.codeAny_mono
def vf.{u}:=@List.getElem_inj.{u}
def ve.{u}:=@List.filter_cons.{u}
def qS:=@PySem.wpAny_seqItems
def zj:=@PySem.F.slot_tuple_add
def zi.{u,v}:=@List.flatMap_singleton.{u,v}
def zh.{u}:=@List.drop_eq_nil_of_le.{u}
namespace L2
open PySem PySem.Spec PyProof.Rows
abbrev aR:=Sum Int Str
def sf:aR->Value->Bool
 | .inl k,v=>Value.isInt k v
 | .inr x,v=>Value.isStrOf x v
def Vs (w:World):aR->Int
 | .inl k=>hashInt k
 | .inr x=>hashStr w x
def dF:∀{k:aR}{v:Value},sf k v=true->(∃i t,k=Sum.inl i/\v=Value.int i t)\/(∃x t,k=Sum.inr x/\v=Value.str x t)
 | .inl i,v,h=>by
  obtain⟨t,e⟩:=Value.isInt_shape (k:=i) (v:=v) h;exact .inl ⟨i,t,rfl,e⟩
 | .inr x,v,h=>by
  obtain⟨t,e⟩:=Value.isStrOf_shape (x:=x) (v:=v) h;exact .inr ⟨x,t,rfl,e⟩
def C8 (i:Int)(t:Tok):sf (.inl i) (.int i t)=true:=by simp [sf,Value.isInt]
def C7 (x:Str)(t:Tok):sf (.inr x) (.str x t)=true:=by simp [sf,Value.isStrOf]
def MS (a b:Int):decide ((Sum.inl a:aR)=Sum.inl b)=(a == b):=by
 by_cases e:a=b
 .subst e;simp
 have h:¬(Sum.inl a:aR)=Sum.inl b:=λq=>e (Sum.inl.inj q);rw [b8 h];exact(kF.mpr e).symm
def MP (a b:Str):decide ((Sum.inr a:aR)=Sum.inr b)=decide (a=b):=by
 by_cases e:a=b
 .subst e;simp
 have h:¬(Sum.inr a:aR)=Sum.inr b:=λq=>e (mh q);rw [b8 h,b8 e]
def MR (a:Int)(b:Str):decide ((Sum.inl a:aR)=Sum.inr b)=false:=b8 (λq=>nomatch q)
def MQ (a:Str) (b:Int):decide ((Sum.inr a:aR)=Sum.inl b)=false:=b8 (λq=>nomatch q)
def bA (prog:Program)(w:World):PySem.KeyKind prog w aR where
 is:=sf
 hash:=Vs w
 inj:=λv a b ha hb=>by
  rcases dF ha with ⟨i,t,rfl,rfl⟩ | ⟨x,t,rfl,rfl⟩
  .rcases dF hb with ⟨j,u,rfl,e⟩ | ⟨y,u,rfl,e⟩
   .injection e with e1 _;rw [e1]
   exact nomatch e
  rcases dF hb with ⟨j,u,rfl,e⟩ | ⟨y,u,rfl,e⟩
  .exact nomatch e
  injection e with e1 _;rw [e1]
 byValue:=λk v h=>by
  rcases dF h with ⟨i,t,rfl,rfl⟩ | ⟨x,t,rfl,rfl⟩ <;> rfl
 pyHash:=λhv h=>by
  rcases dF hv with ⟨i,t,rfl,rfl⟩ | ⟨x,t,rfl,rfl⟩
  .exact wpAny_pyHash_int h
  exact wpAny_pyHash_str h
 eqBool:=λhu hv h=>by
  rcases dF hu with ⟨i,t,rfl,rfl⟩ | ⟨x,t,rfl,rfl⟩
  .rcases dF hv with ⟨j,u,rfl,rfl⟩ | ⟨y,u,rfl,rfl⟩
   .rw [MS] at h;exact wpAny_eqBool_int h
   rw [MR] at h;exact SeqAt.EqAt.int_str i t y u _ _ _ _ h
  rcases dF hv with ⟨j,u,rfl,rfl⟩ | ⟨y,u,rfl,rfl⟩
  .rw [MQ] at h;exact SeqAt.EqAt.str_int x t j u _ _ _ _ h
  rw [MP] at h;exact wpAny_eqBool_str h
 «strs»:=λk x t v h=>by
  rcases dF h with ⟨i,u,rfl,e⟩ | ⟨y,u,rfl,e⟩
  .exact nomatch e
  injection e with e1 _;subst e1;cases v <;> rfl
def ye (prog:Program)(w:World) (i:Int)(t:Tok):(bA prog w).is (.inl i) (.int i t)=true:=C8 i t
def yd (prog:Program)(w:World)(x:Str)(t:Tok):(bA prog w).is (.inr x) (.str x t)=true:=C7 x t
inductive V where
 | fh | bl (b:Bool) | int (i:Int) | str (x:Str) | AV (b:Array UInt8) | Nw (b:UInt64) | ref (a:Addr) | ty (n:String)
 deriving DecidableEq
def RelV:V->Value->Prop
 | .fh,u=>u=Value.none
 | .bl b,u=>u=Value.bool b
 | .int i,u=>∃t,u=Value.int i t
 | .str x,u=>∃t,u=Value.str x t
 | .AV b,u=>∃t,u=Value.bytes b t
 | .Nw b,u=>∃t,u=Value.float b t
 | .ref a,u=>u=Value.ref a
 | .ty n,u=>u=Value.type n
abbrev bf:List V->List Value->Prop:=Paired RelV
theorem bf.length {xs:List V}{us:List Value}(r:bf xs us):xs.length=us.length:=aU r
theorem bf.get:∀{xs:List V}{us:List Value}{i:Nat}{x:V},bf xs us->xs[i]?=some x->∃u,us[i]?=some u/\RelV x u
 | _,_,_,_,.nil,e=>by simp at e
 | _,_,0,_,.cons r _,e=>by simp at e;subst e;exact⟨_,rfl,r⟩
 | _,_,i+1,x,.cons _ t,e=>by
  obtain⟨u,h1,h2⟩:=bf.get (i:=i) (x:=x) t (by simpa using e);exact⟨u,by simpa using h1,h2⟩
theorem bf.set {x:V}{u:Value}(r:RelV x u):∀{xs:List V}{us:List Value}(i:Nat),bf xs us->bf (xs.set i x) (us.set i u)
 | _,_,_,.nil=>.nil
 | _,_,0,.cons _ t=>.cons r t
 | _,_,i+1,.cons q t=>.cons q (bf.set r i t)
theorem bf.append:∀{xs ys:List V}{us ws:List Value},bf xs us->bf ys ws->bf (xs++ys) (us++ws)
 | _,_,_,_,.nil,s=>s
 | _,_,_,_,.cons r t,s=>.cons r (bf.append t s)
theorem bf.take:∀{xs:List V}{us:List Value}(n:Nat),bf xs us->bf (xs.take n) (us.take n)
 | _,_,0,_=>.nil
 | _,_,_+1,.nil=>.nil
 | _,_,n+1,.cons r t=>.cons r (bf.take n t)
theorem bf.drop:∀{xs:List V}{us:List Value}(n:Nat),bf xs us->bf (xs.drop n) (us.drop n)
 | _,_,0,r=>r
 | _,_,_+1,.nil=>.nil
 | _,_,n+1,.cons _ t=>bf.drop n t
def bf.none_of:∀{xs:List V}{us:List Value}{i:Nat},bf xs us->xs[i]?=none->us[i]?=none:=λ{xs us i} r e=>by
 have h1:=r.length;have h2:xs.length<=i:=List.getElem?_eq_none_iff.mp e;exact List.getElem?_eq_none_iff.mpr ∅
def j4:Option V->Option Value->Prop
 | some v,some u=>RelV v u
 | none,none=>True
 | _,_=>False
def KV {κ:Type}:List (κ×V)->List (κ×Value)->Prop:=Paired λ(p:κ×V)(q:κ×Value)=>p.1=q.1/\RelV p.2 q.2
def kV:aR->V
 | .inl i=>.int i
 | .inr x=>.str x
inductive HO where
 | lst (xs:List V)
 | tup (xs:List V)
 | dK (kvs:List (aR×V)) | dT (kvs:List (List aR×V))
 | set (S:Int->Bool) (n:Nat)
 | ins (C dx:Addr)(fs:List (Str×V))
 | own (x:Addr)
 | xd (fs:List (Str×V))
 | met (f x:Addr)
 | CB (lo hi:Int)
 | kr (o:Obj)(u:HO)
 | tO (ps:Array Value)
 | ext (φ:Heap->Prop)
abbrev Hp:=Addr->Option HO
def upd (H:Hp)(a:Addr)(o:HO):Hp:=λb=>if b=a then some o else H b
def ae {H:Hp}{a:Addr}{o:HO}:upd H a o a=some o:=by unfold upd;rw [ax rfl]
def aj {H:Hp}{a b:Addr}{o:HO}(h:b≠a):upd H a o b=H b:=by unfold upd;rw [ay h]
def nj {H:Hp}{a:Addr}{o u:HO}:upd (upd H a o) a u=upd H a u:=by
 funext b;unfold upd;split <;> rfl
def P8 {H:Hp}{a b:Addr}{o u:HO}(h:H a=some o)(h':H b=some u)(d:o≠u):a≠b:=by
 intro e;subst e;rw [h] at h';exact d (iu h')
def aw {H:Hp}{a b:Addr}{o:HO}(h:H a=some o)(h':H b=none):a≠b:=by
 intro e;subst e;rw [h] at h';cases h'
section
variable (P:Program)(w:World)
def cS (H:Hp)(h:Heap)(a:Addr):HO->Prop
 | .lst xs=>xs.length<=sizeLine/\∃(aT:List Value) (n:Nat),bf xs aT/\h.get? a=some { cls:=.type "list",data:=.seq aT.toArray n }
 | .tup xs=>xs.length<=sizeLine/\∃aT:List Value,bf xs aT/\IsTup h a aT.toArray
 | .dK kvs=>kvs.length<=sizeLine/\(a == sysModules)=false/\∃vs,KV kvs vs/\h.DictOf (bA P w) a vs
 | .dT kvs=>kvs.length<=sizeLine/\(a == sysModules)=false/\∃xs:List (List aR×Addr×Value),
   Paired (λ(p:List aR×V)(q:List aR×Addr×Value)=>p.1=q.1/\H q.2.1=some (.tup (p.1.map kV))/\RelV p.2 q.2.2) kvs xs /\
   ∃o es ep,h.get? a=some o/\o.ExactDict/\o.data=.dict es ep/\es.toList=xs.map (entryOfKey (tupleKind (bA P w)))/\(xs.map (·.1)).Nodup
 | .set S n=>h.SetOf (intKind P w) a S n
 | .ins C dx fs=>H dx=some (.own a)/\fs.length<=1000/\dx≠a/\h.get? a=some (PySem.W.instObj C dx) /\
   ∃mA,h.Ns1 dx mA/\(∀f,j4 (fs.lookup f) (mA f))/\PySem.Within mA (fs.map (·.1))
 | .own _=>∃o,h.get? a=some o
 | .xd fs=>∃mA,h.Ns1 a mA/\∀f,j4 (fs.lookup f) (mA f)
 | .CB lo hi=>∃t u v,h.get? a=some { cls:=.type "range",data:=.fields #[.int lo t,.int hi u,.int 1 v] }
 | .kr o u=>h.get? a=some o/\cS H h a u
 | .tO ps=>h.get? a=some { cls:=.none,data:=.fields ps }
 | .met f x=>h.get? a=some (PySem.W.methodObj (.ref f) (.ref x))
 | .ext φ=>φ h/\(∃o,h.get? a=some o)/\∀h1 h2:Heap,φ h1->(∀o,h1.get? a=some o->h2.get? a=some o)->φ h2
def me (H:Hp)(h:Heap):Prop:=∀a o,H a=some o->cS P w H h a o
end
section
variable {P:Program}{w:World}{H H':Hp}{h h':Heap}{a:Addr}{o:HO}
theorem cS.lt (x:cS P w H h a o):a < h.objs.size:=by
 cases o with
 | lst xs=>obtain⟨_,_,_,_,e⟩:=x;exact bO e
 | tup xs=>obtain⟨_,_,_,p⟩:=x;exact p.lt
 | dK kvs=>obtain⟨_,_,_,_,o,_,_,e,_⟩:=x;exact bO e
 | dT kvs=>obtain⟨_,_,_,_,o,_,_,e,_⟩:=x;exact bO e
 | set S n=>obtain⟨o,_,_,_,e,_⟩:=x;exact bO e
 | ins C dx fs=>obtain⟨_,_,_,e,_⟩:=x;exact bO e
 | own y=>obtain⟨_,e⟩:=x;exact bO e
 | xd fs=>obtain⟨_,⟨_,_,_,e,_⟩,_⟩:=x;exact bO e
 | CB lo hi=>obtain⟨_,_,_,e⟩:=x;exact bO e
 | kr ob u=>obtain⟨e,_⟩:=x;exact bO e
 | tO ps=>exact bO (show h.get? a=some _ from x)
 | met f y=>exact bO (show h.get? a=some _ from x)
 | ext φ=>obtain⟨_,⟨_,e⟩,_⟩:=x;exact bO e
theorem Paired.fc {α β:Type}{F G:α->β->Prop}:∀{l₁:List α}{l₂:List β},Paired F l₁ l₂->(∀a b,F a b->G a b)->Paired G l₁ l₂
 | _,_,.nil,_=>.nil
 | _,_,.cons r t,f=>.cons (f _ _ r) (Paired.fc t f)
def cS.kP (x:cS P w H h a o)(k:∀b u,(b=a\/H b=some (.own a))->h.get? b=some u->h'.get? b=some u)
  (ho:∀b,H b=some (.own a)->H' b=some (.own a))(ht:∀b xs,H b=some (.tup xs)->H' b=some (.tup xs)):cS P w H' h' a o:=by
 induction o with
 | lst xs=>obtain⟨z,aT,n,r,e⟩:=x;exact⟨z,aT,n,r,k _ _ (.inl rfl) e⟩
 | tup xs=>obtain⟨z,aT,r,ob,e,c⟩:=x;exact⟨z,aT,r,ob,k _ _ (.inl rfl) e,c⟩
 | dK kvs=>obtain⟨z,y,vs,r,ob,es,ep,e,c⟩:=x;exact⟨z,y,vs,r,ob,es,ep,k _ _ (.inl rfl) e,c⟩
 | dT kvs =>
  obtain⟨z,y,xs,r,ob,es,ep,e,c⟩:=x;exact⟨z,y,xs,Paired.fc r λp q z=>⟨z.1,ht _ _ z.2.1,z.2.2⟩,ob,es,ep,k _ _ (.inl rfl) e,c⟩
 | set S n=>obtain⟨ob,es,ep,t,e,c⟩:=x;exact⟨ob,es,ep,t,k _ _ (.inl rfl) e,c⟩
 | ins C dx fs =>
  obtain⟨d,z,ne,e,mA,⟨od,es,ep,e2,c⟩,r⟩:=x;exact⟨ho _ d,z,ne,k _ _ (.inl rfl) e,mA,⟨od,es,ep,k _ _ (.inr d) e2,c⟩,r⟩
 | own y=>obtain⟨ob,e⟩:=x;exact⟨ob,k _ _ (.inl rfl) e⟩
 | xd fs=>obtain⟨mA,⟨od,es,ep,e,c⟩,r⟩:=x;exact⟨mA,⟨od,es,ep,k _ _ (.inl rfl) e,c⟩,r⟩
 | CB lo hi=>obtain⟨t,u,v,e⟩:=x;exact⟨t,u,v,k _ _ (.inl rfl) e⟩
 | kr ob u ih=>obtain⟨e,q⟩:=x;exact⟨k _ _ (.inl rfl) e,ih q⟩
 | tO ps =>
  have e:h.get? a=some { cls:=.none,data:=.fields ps }:=x;show h'.get? a=some { cls:=.none,data:=.fields ps };exact k a _ (.inl rfl) e
 | met f y =>
  have e:h.get? a=some (PySem.W.methodObj (.ref f) (.ref y)):=x;show h'.get? a=some (PySem.W.methodObj (.ref f) (.ref y));exact k a _ (.inl rfl) e
 | ext φ=>obtain⟨p,⟨o,e⟩,st⟩:=x;exact⟨st _ _ p λo q=>k _ _ (.inl rfl) q,⟨o,k _ _ (.inl rfl) e⟩,st⟩
theorem me.lt (x:me P w H h)(e:H a=some o):a < h.objs.size:=(x a o e).lt
def me.fresh (x:me P w H h)(e:h.objs.size<=a):H a=none:=by
 cases q:H a with
 | none=>rfl
 | some u=>exact absurd (gM (x.lt q) e) (kM _)
def me.kept (x:me P w H h)(k:∀b u,h.get? b=some u->h'.get? b=some u):me P w H h':=λa o e =>
 (x a o e).kP (λb u _ q=>k b u q) (λ_ q=>q) λ_ _ q=>q
def me.laid (x:me P w H h)(k:∀b u,h.get? b=some u->h'.get? b=some u)(hp:h.objs.size<=a)(new:cS P w (upd H a o) h' a o):me P w (upd H a o) h':=λb u e=>by
 have hn:=x.fresh hp;by_cases hb:b=a
 .subst hb;rw [ae] at e;cases e;exact new
 rw [aj hb] at e;exact(x b u e).kP (λc v _ q=>k c v q) (λc q=>by rw [aj (aw q hn)];exact q) λc xs q=>by rw [aj (aw q hn)];exact q
end
def Rd (H:Hp)(a:Addr)(u:HO):Prop:=H a=some u\/∃o,H a=some (.kr o u)
def Rd.of {H:Hp}{a:Addr}{u:HO}(h:H a=some u):Rd H a u:=.inl h
def Rd.ok {P:Program}{w:World}{H:Hp}{h:Heap}{a:Addr}{u:HO}(r:Rd H a u)(x:me P w H h):cS P w H h a u:=by
 rcases r with r | ⟨o,r⟩
 .exact x a u r
 obtain⟨_,q⟩:=x a _ r;exact q
def RS:Option HO->Prop
 | some (.lst _)=>True
 | some (.dK _)=>True
 | some (.dT _)=>True
 | some (.set _ _)=>True
 | some (.ins _ _ _)=>True
 | some (.ext _)=>True
 | _=>False
section
variable {P:Program}{w:World}{H:Hp}{h h':Heap}{x e:Addr}{o':HO}
def me.write (ok:me P w H h)(mu:RS (H x))(he:e=x\/H e=some (.own x))(k:∀b u,b≠e->h.get? b=some u->h'.get? b=some u)(Ow:∃u,h'.get? e=some u)
  (new:cS P w (upd H x o') h' x o'):me P w (upd H x o') h':=λb u q=>by
 have P1:∀c y,H c=some (.own y)->c≠x:=λc y r z=>by subst z;rw [r] at mu;exact mu
 have UW:∀c xs,H c=some (.tup xs)->c≠x:=λc xs r z=>by subst z;rw [r] at mu;exact mu
 by_cases hb:b=x
 .subst hb;rw [ae] at q;cases q;exact new
 rw [aj hb] at q;by_cases Ng:b=e
 .have q':H b=some (.own x):=by
   rcases he with z | z
   .exact absurd (Ng.trans z) hb
   rw [Ng];exact z
  rw [q] at q';cases q';obtain⟨v,hv⟩:=Ow;exact⟨v,by rw [Ng];exact hv⟩
 refine(ok b u q).kP (λc v hc r=>k c v ?_ r) (λc r=>by rw [aj (P1 c b r)];exact r) λc xs r=>by rw [aj (UW c xs r)];exact r
 rcases hc with rfl | hc
 .exact Ng
 rintro rfl;rcases he with z | z
 .exact P1 c b hc z
 rw [hc] at z;cases z;exact hb rfl
end
structure Un (fs ex:List Addr)(H H':Hp)(h h':Heap):Prop where
 keep:∀b o,h.get? b=some o->H b=none->b∉fs->b∉ex->h'.get? b=some o
 slot:∀b o,h.get? b=some o->H b=none->b∈fs->b∉ex->∃sl,h'.get? b=some { o with slots:=sl }
 free:∀b o,h.get? b=some o->H b=none->b∉ex->H' b=none
 there:∀b o,h.get? b=some o->b∉ex->∃o',h'.get? b=some o'
 o5:∀b xs,H b=some (.tup xs)->H' b=some (.tup xs)
 mM:∀b o u,H b=some (.kr o u)->H' b=some (.kr o u)
 nq:∀b ps,H b=some (.tO ps)->∃more,H' b=some (.tO (ps++more))
section
variable {fs Iu ex Rg:List Addr}{H H1 H2:Hp}{h h1 h2 h':Heap}{a x e:Addr}{o:HO}
def Un.any (u:Un fs ex H H1 h h1){b:Addr}{ob:Obj}(q:h.get? b=some ob)(n:H b=none)(hx:b∉ex):∃sl,h1.get? b=some { ob with slots:=sl }:=by
 by_cases hb:b∈fs
 .exact u.slot b ob q n hb hx
 exact⟨ob.slots,u.keep b ob q n hb hx⟩
def Un.trans (a:Un fs ex H H1 h h1)(b:Un fs ex H1 H2 h1 h2):Un fs ex H H2 h h2 where
 keep:=λc ob q n hc hx=>b.keep c ob (a.keep c ob q n hc hx) (a.free c ob q n hx) hc hx
 slot:=λc ob q n hc hx=>by
  obtain⟨sl,e1⟩:=a.slot c ob q n hc hx;obtain⟨Uu,e2⟩:=b.slot c _ e1 (a.free c ob q n hx) hc hx;exact⟨Uu,e2⟩
 free:=λc ob q n hx=>by
  obtain⟨o',e1⟩:=a.there c ob q hx;exact b.free c o' e1 (a.free c ob q n hx) hx
 there:=λc ob q hx=>by
  obtain⟨o',e1⟩:=a.there c ob q hx;exact b.there c o' e1 hx
 o5:=λc xs q=>b.o5 c xs (a.o5 c xs q)
 mM:=λc ob xs q=>b.mM c ob xs (a.mM c ob xs q)
 nq:=λc ps q=>by
  obtain⟨m1,e1⟩:=a.nq c ps q;obtain⟨m2,e2⟩:=b.nq c _ e1;exact⟨m1++m2,by rw [e2,Array.append_assoc]⟩
def Un.kept (k:∀b u,h.get? b=some u->h'.get? b=some u):Un fs ex H H h h' :=
 ⟨λb ob q _ _ _=>k b ob q,λb ob q _ _ _=>⟨ob.slots,k b ob q⟩,λ_ _ _ n _=>n,λb ob q _=>⟨ob,k b ob q⟩,λ_ _ q=>q,λ_ _ _ q=>q,λ_ ps q=>⟨#[],by rw [q];simp⟩⟩
def Un.refl:Un fs ex H H h h:=Un.kept λ_ _ q=>q
def Un.laid (k:∀b u,h.get? b=some u->h'.get? b=some u)(hp:h.objs.size<=a)(hn:H a=none):Un fs ex H (upd H a o) h h' where
 keep:=λb u q _ _ _=>k b u q
 slot:=λb u q _ _ _=>⟨u.slots,k b u q⟩
 free:=λb u q n _=>by rw [aj (cw (gM (bO q) hp))];exact n
 there:=λb u q _=>⟨u,k b u q⟩
 o5:=λb xs q=>by rw [aj (aw q hn)];exact q
 mM:=λb u xs q=>by rw [aj (aw q hn)];exact q
 nq:=λb ps q=>⟨#[],by rw [aj (aw q hn),q];simp⟩
def Un.write (mu:RS (H x))(he:e=x\/H e=some (.own x))(k:∀b u,b≠e->h.get? b=some u->h'.get? b=some u)(Ow:∃u,h'.get? e=some u):Un fs ex H (upd H x o) h h':=by
 have hx:∀b,H b=none->b≠x:=λb n z=>by subst z;rw [n] at mu;exact mu
 have hb:∀b,H b=none->b≠e:=λb n z=>by
  subst z;rcases he with r | r
  .exact hx b n r
  rw [n] at r;cases r
 have hm:∀b u,H b=some u->¬RS (some u)->b≠x:=λb u q nm z=>by subst z;rw [q] at mu;exact nm mu
 refine⟨λb u q n _ _=>k b u (hb b n) q,λb u q n _ _=>⟨u.slots,k b u (hb b n) q⟩,λb u q n _=>by rw [aj (hx b n)];exact n,λb u q _=>?_,
  λb xs q=>by rw [aj (hm b _ q λz=>z)];exact q,λb u xs q=>by rw [aj (hm b _ q λz=>z)];exact q,λb ps q=>⟨#[],by rw [aj (hm b _ q λz=>z),q];simp⟩⟩
 by_cases Ng:b=e
 .subst Ng;exact Ow
 exact⟨u,k b u Ng q⟩
def Un.mono (u:Un fs ex H H1 h h1)(hs:∀b∈fs,b∈Iu)(hx:∀b∈ex,b∈Rg):Un Iu Rg H H1 h h1 :=
 ⟨λb ob q n hb he=>u.keep b ob q n (λz=>hb (hs b z)) λz=>he (hx b z),λ_ _ q n _ he=>u.any q n λz=>he (hx _ z),λb ob q n he=>u.free b ob q n λz=>he (hx b z),λb ob q he=>u.there b ob q λz=>he (hx b z),u.o5,u.mM,u.nq⟩
end
def Ia (h:Heap)(H:Hp):List Addr:=(List.range h.objs.size).filter λa=>(H a).isSome
def mK (h:Heap)(H:Hp):Heap:=PySem.W.hideAll h (Ia h H)
def uK (h:Heap)(H:Hp):(mK h H).objs.size=h.objs.size:=PySem.W.hideAll_size _ _
def yl {h:Heap}{H:Hp}{b:Addr}{o:Obj}(e:h.get? b=some o)(n:H b=none):(mK h H).get? b=some o :=
 PySem.W.hideAll_get _ e λhm=>by
  have q:(H b).isSome=true:=(lW.mp hm).2;rw [n] at q;simp at q
def BM {h:Heap}{H:Hp}{b:Addr}{o:Obj}(e:(mK h H).get? b=some o):h.get? b=some o/\H b=none:=by
 have e':h.get? b=some o:=PySem.W.of_hideAll (Ia h H) e;refine⟨e',?_⟩;cases q:H b with
 | none=>rfl
 | some x =>
  have hm:b∈Ia h H:=lW.mpr ⟨pP.mpr (bO e'),by simp [q]⟩;have z:(mK h H).get? b=none:=PySem.W.hideAll_none (Ia h H) hm;rw [z] at e;cases e
def Kd (g h:Heap)(L:Addr):List (Addr×Obj):=(List.range h.objs.size).filterMap λa=>if a=L\/(g.get? a).isSome=true then none else (h.get? a).map λo=>(a,o)
def rest (g h:Heap)(L d:Addr):List (Addr×Obj):=(Kd g h L).filter λp=>decide (p.1≠d)
structure Mod (K:ba)(mg:Str->Option Value)(base:Heap):Prop where
 Qt:K.In base
 glob:base.Ns mainGlobals mg
 blt:∃mb,base.Ns builtinsNs mb/\∀x:Str,x ≠ "__name__" -> mb x=bootBuiltins x
 nolimit:base.NoLimit
structure Cx where
 prog:Program
 w:World
 K:ba
 mg:Str->Option Value
 base:Heap
 A:Around
 N:List Str
 s₀:Shared
 H₀:Hp
 env:Env
 outer:List Env
 stack:List Env
 ex:List Addr
 fn:Str->Bool
 calm:Bool
 pn:List (Addr×Obj)
 xe:Value->Shared->Prop
def Dr (l:List Env):List Addr:=l.filterMap (·.frame)
abbrev Cx.fs (X:Cx):List Addr:=Dr X.outer
def Tu (sc:Scope)(x:Str):Prop:=sc.names.lookup x=some .local\/sc.names.lookup x=some .cell\/sc.names.lookup x=some .free
def Loc (sc:Scope)(x:Str):Prop:=sc.names.lookup x=some .local\/sc.names.lookup x=some .cell
def Look (env:Env)(h:Heap)(m:Str->Option Value)(x:Str)(u:Value):Prop :=
 (env.kindOf x=some .local/\m x=some u)\/((env.kindOf x=some .cell\/env.kindOf x=some .free)/\∃c,env.cells.lookup x=some c/\h.IsCell c (some u))
structure Cx.Ok (X:Cx):Prop where
 mod:Mod X.K X.mg X.base
 kind:X.env.scope.kind=.function
 glob:X.env.globals=mainGlobals
 blt:X.env.builtins=builtinsNs
 above:X.s₀.heap.objs.size<=X.env.locals
 inj:∀x y c,X.env.cells.lookup x=some c->X.env.cells.lookup y=some c->x=y
 has:∀x,(X.env.kindOf x=some .cell\/X.env.kindOf x=some .free)->∃c,X.env.cells.lookup x=some c
 RC:∀x c,X.fn x=true->X.env.cells.lookup x=some c->X.s₀.heap.objs.size<=c
 hd:X.calm=true->X.A.handled=none
 frames:X.A.frames=some X.stack
 Sg:X.stack=X.outer\/(X.stack=X.env::X.outer/\X.env.frame=some X.env.locals)
 OH:∀b∈X.ex,b≠X.env.locals/\∀x c,X.env.cells.lookup x=some c->c≠b
 bs:∀b o,X.base.get? b=some o->X.s₀.heap.get? b=some o/\X.H₀ b=none
 ID:X.base.objs.size<=X.s₀.heap.objs.size
 F4:∀b o,X.base.get? b=some o->b∉X.ex
 Dv:∀b∈X.ex,b∉X.fs
 pE:X.s₀.heap.FunFrames X.base X.outer
 Lb:∀b∈X.fs,X.H₀ b=none
structure Inv (X:Cx)(ah:List (Addr×Obj))(σ:List (Option V))(H:Hp)(s:Shared):Prop where
 ok:X.Ok
 os:s.os=X.s₀.os
 bare:AllBare s.gens
 base:Un X.fs X.ex X.H₀ H X.s₀.heap s.heap
 loc:∃m,s.heap.Ns X.env.locals m/\∀(i:Nat)(x:Str)(v:V),X.N[i]?=some x->σ[i]?=some (some v)->Tu X.env.scope x->∃u,RelV v u/\Look X.env s.heap m x u
 cell:∀x c,X.env.cells.lookup x=some c->∃v,s.heap.IsCell c v
 free:H X.env.locals=none
 l_:∀x c,X.env.cells.lookup x=some c->H c=none
 pin:∀p∈X.pn++ah,s.heap.get? p.1=some p.2/\H p.1=none/\p.1≠X.env.locals/\p.1∉X.fs/\∀v,p.2.data≠.cell v
 cx:me X.prog X.w H s.heap
 len:σ.length=X.N.length
section
variable {X:Cx}{ah:List (Addr×Obj)}{σ:List (Option V)}{H H':Hp}{s:Shared}{h':Heap}
def Cx.Ok.UZ (ok:X.Ok){b:Addr}{o:Obj}(e:X.base.get? b=some o):b∉X.fs:=λhb=>by
 have:=(ok.pE.mem hb).1;rw [e] at this;cases this
theorem Inv.bs (I:Inv X ah σ H s):∀b o,X.base.get? b=some o->s.heap.get? b=some o/\H b=none:=λb o e =>
 ⟨I.base.keep b o (I.ok.bs b o e).1 (I.ok.bs b o e).2 (I.ok.UZ e) (I.ok.F4 b o e),I.base.free b o (I.ok.bs b o e).1 (I.ok.bs b o e).2 (I.ok.F4 b o e)⟩
def Inv.bk (I:Inv X ah σ H s):∀b o,X.base.get? b=some o->s.heap.get? b=some o:=λb o e=>(I.bs b o e).1
theorem Inv.mod (I:Inv X ah σ H s):Mod X.K X.mg X.base:=I.ok.mod
def Inv.wG (I:Inv X ah σ H s):X.K.In s.heap:=I.ok.mod.Qt.keeps I.bk
theorem Inv.nolimit (I:Inv X ah σ H s):s.heap.NoLimit:=I.ok.mod.nolimit.keeps I.bk
def Inv.fr (I:Inv X ah σ H s):∃m,Fr X.base X.env.locals s.heap m :=
 let ⟨m,hn,_⟩:=I.loc
 ⟨m,hn,I.bk,dY I.ok.ID I.ok.above⟩
theorem Inv.lt (I:Inv X ah σ H s):X.env.locals < s.heap.objs.size:=let ⟨_,hn,_⟩:=I.loc;hn.lt
def Inv.sz (I:Inv X ah σ H s):X.s₀.heap.objs.size<=s.heap.objs.size:=dY I.ok.above (kJ I.lt)
def Inv.UY (I:Inv X ah σ H s){a:Addr}(h:s.heap.objs.size<=a):a∉X.fs:=λhb=>by
 obtain⟨_,o,ho,_⟩:=I.ok.pE.mem hb;exact absurd (gM (bO ho) (dY I.sz h)) (kM _)
def Inv.NW (I:Inv X ah σ H s):∀x c,X.env.cells.lookup x=some c->c≠X.env.locals:=λx c e z=>by
 obtain⟨v,o,ho,hd⟩:=I.cell x c e;obtain⟨m,⟨o',es,ep,Dh,Dk,_⟩,_⟩:=I.loc;rw [z,Dh] at ho;cases ho;rw [Dk] at hd;cases hd
theorem Inv.pE (I:Inv X ah σ H s):s.heap.FunFrames X.base X.outer:=by
 have all:∀(l:List Env),(∀b∈Dr l,b∈X.fs)->X.s₀.heap.FunFrames X.base l->s.heap.FunFrames X.base l:=by
  intro l
  induction l with
  | nil=>intro _ _;trivial
  | cons env r ih =>
   intro hs hl;obtain⟨hk,⟨L,o,hf,hn,ho,hd⟩,hr⟩:=hl;have hL:L∈X.fs:=hs L (by unfold Dr;rw [ro,hf];exact cI);obtain⟨sl,e⟩:=I.base.slot L o ho (I.ok.Lb L hL) hL λz=>I.ok.Dv L z hL;exact⟨hk,⟨L,_,hf,hn,e,hd⟩,ih (λb hb=>hs b (by unfold Dr;rw [ro,hf];exact dB _ hb)) hr⟩
 exact all X.outer (λ_ hb=>hb) I.ok.pE
theorem Inv.stack (I:Inv X ah σ H s):s.heap.FunFrames X.base X.stack:=by
 rcases I.ok.Sg with e | ⟨e,hf⟩
 .rw [e];exact I.pE
 rw [e];obtain⟨m,hn,_⟩:=I.loc;refine .cons (by rw [I.ok.kind];decide) hf hn ?_ I.pE;exact Heap.get?_none_of_le (dY I.ok.ID I.ok.above)
def Inv.zC (I:Inv X ah σ H s):∀b∈Dr X.stack,b∈X.env.locals::X.fs:=λb hb=>by
 rcases I.ok.Sg with e | ⟨e,hf⟩
 .rw [e] at hb;exact dB _ hb
 rw [e] at hb;unfold Dr at hb;rw [ro,hf] at hb;exact hb
def Inv.Bg (I:Inv X ah σ H s):∀b∈Dr X.stack,H b=none:=λb hb=>by
 rcases bX.mp (I.zC b hb) with e | hb
 .rw [e];exact I.free
 obtain⟨_,o,ho,_⟩:=I.ok.pE.mem hb;exact I.base.free b o ho (I.ok.Lb b hb) λz=>I.ok.Dv b z hb
def Inv.step {g':Array GenState}{t':Nat}{d':Drawn}{ch:List Addr}(I:Inv X ah σ H s)
  (Io:∀b∈ch,(b∈X.ex\/X.s₀.heap.objs.size<=b)/\b≠X.env.locals/\(∀x c,X.env.cells.lookup x=some c->c≠b)/\∀p∈X.pn++ah,p.1≠b)
  (keep:∀b o,b≠X.env.locals->b∉X.fs->b∉ch->s.heap.get? b=some o->H b=none->h'.get? b=some o)
  (slot:∀b o,b≠X.env.locals->b∈X.fs->b∉ch->s.heap.get? b=some o->H b=none->∃sl,h'.get? b=some { o with slots:=sl })(free:∀b o,b∉ch->s.heap.get? b=some o->H b=none->H' b=none)
  (there:∀b o,b∉ch->s.heap.get? b=some o->∃o',h'.get? b=some o')
  (o5:∀b xs,H b=some (.tup xs)->H' b=some (.tup xs))(mM:∀b o u,H b=some (.kr o u)->H' b=some (.kr o u))(nq:∀b ps,H b=some (.tO ps)->∃more,H' b=some (.tO (ps++more)))
  (ns:∀m,s.heap.Ns X.env.locals m->h'.Ns X.env.locals m)(cx:me X.prog X.w H' h')(hg:AllBare g') :
  Inv X ah σ H' { s with heap:=h',gens:=g',drawn:=d',toks:=t' }:=by
 have YR:∀b o,X.s₀.heap.get? b=some o->b≠X.env.locals:=λb o e=>cw (gM (bO e) I.ok.above);have Oi:∀b o,X.s₀.heap.get? b=some o->b∉X.ex->b∉ch:=λb o e hx hb=>by
  rcases (Io b hb).1 with z | z
  .exact hx z
  exact absurd (gM (bO e) z) (kM _)
 have cellK:∀x c,X.env.cells.lookup x=some c->∀v,s.heap.IsCell c v->h'.IsCell c v:=λx c e v ⟨o,ho,hd⟩=>by
  have P9:c∉ch:=λz=>(Io c z).2.2.1 x c e rfl;by_cases hc:c∈X.fs
  .obtain⟨sl,q⟩:=slot c o (I.NW x c e) hc P9 ho (I.l_ x c e);exact⟨_,q,hd⟩
  exact⟨o,keep c o (I.NW x c e) hc P9 ho (I.l_ x c e),hd⟩
 refine⟨I.ok,I.os,hg,⟨λb o e n hb hx=>?_,λb o e n hb hx=>?_,λb o e n hx=>?_,λb o e hx=>?_,λb xs e=>o5 b xs (I.base.o5 b xs e),λb o xs e=>mM b o xs (I.base.mM b o xs e),λb ps e=>?_⟩,?_,λx c e=>?_,?_,λx c e=>?_,λp hp=>?_,cx,I.len⟩
 .exact keep b o (YR b o e) hb (Oi b o e hx) (I.base.keep b o e n hb hx) (I.base.free b o e n hx)
 .obtain⟨sl,e1⟩:=I.base.slot b o e n hb hx;obtain⟨Uu,e2⟩:=slot b _ (YR b o e) hb (Oi b o e hx) e1 (I.base.free b o e n hx);exact⟨Uu,e2⟩
 .obtain⟨o',e1⟩:=I.base.there b o e hx;exact free b o' (Oi b o e hx) e1 (I.base.free b o e n hx)
 .obtain⟨o',e1⟩:=I.base.there b o e hx;exact there b o' (Oi b o e hx) e1
 .obtain⟨m1,e1⟩:=I.base.nq b ps e;obtain⟨m2,e2⟩:=nq b _ e1;exact⟨m1++m2,by rw [e2,Array.append_assoc]⟩
 .obtain⟨m,hn,hl⟩:=I.loc;refine⟨m,ns m hn,λi x v e1 e2 e3=>?_⟩;obtain⟨u,r,l⟩:=hl i x v e1 e2 e3;refine⟨u,r,?_⟩;rcases l with l | ⟨k,c,e,z⟩
  .exact .inl l
  exact .inr ⟨k,c,e,cellK x c e _ z⟩
 .obtain⟨v,z⟩:=I.cell x c e;exact⟨v,cellK x c e v z⟩
 .obtain⟨m,⟨o,_,_,ho,_⟩,_⟩:=I.loc;exact free _ o (λz=>(Io _ z).2.1 rfl) ho I.free
 .obtain⟨v,o,ho,hd⟩:=I.cell x c e;exact free c o (λz=>(Io c z).2.2.1 x c e rfl) ho (I.l_ x c e)
 obtain⟨e,n,ne,nf,d⟩:=I.pin p hp;have P9:p.1∉ch:=λz=>(Io p.1 z).2.2.2 p hp rfl;exact⟨keep p.1 p.2 ne nf P9 e n,free p.1 p.2 P9 e n,ne,nf,d⟩
def Inv.un {t':Nat}(I:Inv X ah σ H s)(u:Un X.fs [] H H' s.heap h')(cx:me X.prog X.w H' h'):Inv X ah σ H' { s with heap:=h',toks:=t' }:=by
 obtain⟨m,⟨o,es,ep,ho,r⟩,_⟩:=id I.loc;obtain⟨sl,hL⟩:=u.any ho I.free (by simp);exact I.step (g':=s.gens) (d':=s.drawn) (ch:=[]) (λ_ z=>nomatch z) (λb o _ hb _ e n=>u.keep b o e n hb (by simp)) (λb o _ hb _ e n=>u.slot b o e n hb (by simp)) (λb o _ e n=>u.free b o e n (by simp)) (λb o _ e=>u.there b o e (by simp)) u.o5 u.mM u.nq (λm' hm=>by
  obtain⟨o',i5,WR,Dh,r'⟩:=hm;rw [ho] at Dh;cases Dh;exact⟨_,i5,WR,hL,r'⟩) cx I.bare
def Inv.call {g':Array GenState}{t':Nat}{d':Drawn}{ch:List Addr}(I:Inv X ah σ H s)(u:Un (Dr X.stack) ch H H' s.heap h')(cx:me X.prog X.w H' h')(hg:AllBare g')
  (Io:∀b∈ch,(b∈X.ex\/X.s₀.heap.objs.size<=b)/\b≠X.env.locals/\(∀x c,X.env.cells.lookup x=some c->c≠b)/\∀p∈X.pn++ah,p.1≠b) :
  Inv X ah σ H' { s with heap:=h',gens:=g',drawn:=d',toks:=t' }:=by
 obtain⟨m,⟨o,es,ep,ho,r⟩,_⟩:=id I.loc;obtain⟨sl,hL⟩:=u.any ho I.free λz=>(Io _ z).2.1 rfl;exact I.step (ch:=ch) Io (λb o hL hb hc e n=>u.keep b o e n (λz=>(bX.mp (I.zC b z)).elim hL hb) hc) (λb o _ _ hc e n=>u.any e n hc) (λb o hc e n=>u.free b o e n hc) (λb o hc e=>u.there b o e hc) u.o5 u.mM u.nq (λm' hm=>by
  obtain⟨o',i5,WR,Dh,r'⟩:=hm;rw [ho] at Dh;cases Dh;exact⟨_,i5,WR,hL,r'⟩) cx hg
def Inv.turned {t':Nat}{it:Addr}(I:Inv X ah σ H s)(k:∀b o,b≠it->s.heap.get? b=some o->h'.get? b=some o)(hn:H it=none)(hL:it≠X.env.locals)
  (h1:it∈X.ex\/X.s₀.heap.objs.size<=it)(h2:∀x c,X.env.cells.lookup x=some c->c≠it)(h3:∀p∈X.pn++ah,p.1≠it):Inv X ah σ H { s with heap:=h',toks:=t' }:=by
 have YO:∀b u,H b=some u->b≠it:=λb u e z=>by rw [z,hn] at e;cases e
 refine I.step (g':=s.gens) (d':=s.drawn) (ch:=[it]) (λb hb=>?_) (λb o _ _ hc e _=>k b o (λz=>hc (by simp [z])) e) (λb o _ _ hc e _=>⟨o.slots,k b o (λz=>hc (by simp [z])) e⟩) (λ_ _ _ _ n=>n)
  (λb o hc e=>⟨o,k b o (λz=>hc (by simp [z])) e⟩) (λ_ _ e=>e) (λ_ _ _ e=>e) (λb ps e=>⟨#[],by rw [e];simp⟩) (λm hm=>?_) (λb u e=>?_) I.bare
 .have e:b=it:=by simpa using hb
  subst e;exact⟨h1,hL,h2,h3⟩
 .obtain⟨o,es,ep,ho,r⟩:=hm;exact⟨o,es,ep,k _ o (gC hL) ho,r⟩
 refine(I.cx b u e).kP (λc v hc q=>k c v ?_ q) (λ_ q=>q) λ_ _ q=>q;rcases hc with z | z
 .rw [z];exact YO b u e
 exact YO c _ z
def Inv.tok (I:Inv X ah σ H s) (t:Nat):Inv X ah σ H { s with toks:=t }:=I.un (h':=s.heap) (t':=t) Un.refl I.cx
theorem Inv.kept {t':Nat}(I:Inv X ah σ H s)(k:∀b u,s.heap.get? b=some u->h'.get? b=some u):Inv X ah σ H { s with heap:=h',toks:=t' }:=I.un (Un.kept k) (I.cx.kept k)
theorem Inv.laid {a:Addr}{o:HO}{t':Nat}(I:Inv X ah σ H s)(k:∀b u,s.heap.get? b=some u->h'.get? b=some u)(hp:s.heap.objs.size<=a)(new:cS X.prog X.w (upd H a o) h' a o) :
  Inv X ah σ (upd H a o) { s with heap:=h',toks:=t' }:=I.un (Un.laid k hp (I.cx.fresh hp)) (I.cx.laid k hp new)
theorem Inv.write {x e:Addr}{o:HO}{t':Nat}(I:Inv X ah σ H s)(mu:RS (H x))(he:e=x\/H e=some (.own x))(k:∀b u,b≠e->s.heap.get? b=some u->h'.get? b=some u)(Ow:∃u,h'.get? e=some u)
  (new:cS X.prog X.w (upd H x o) h' x o):Inv X ah σ (upd H x o) { s with heap:=h',toks:=t' }:=I.un (Un.write mu he k Ow) (I.cx.write mu he k Ow new)
def Inv.BH {j_:List (Addr×Obj)}(I:Inv X ah σ H s)(h:∀p∈j_,s.heap.get? p.1=some p.2/\H p.1=none/\p.1≠X.env.locals/\p.1∉X.fs/\∀v,p.2.data≠.cell v):Inv X j_ σ H s :=
 ⟨I.ok,I.os,I.bare,I.base,I.loc,I.cell,I.free,I.l_,λp hp=>(bR.mp hp).elim (λz=>I.pin p (ib _ z)) (h p),I.cx,I.len⟩
def x_ {N:List Str}(hN:N.Nodup){i j:Nat}{x:Str}(a:N[i]?=some x)(b:N[j]?=some x):i=j:=by
 obtain⟨h1,e1⟩:=bu.mp a;obtain⟨h2,e2⟩:=bu.mp b;exact(vf hN).mp (e1.trans e2.symm)
def uk {M:Model}{A:Around}{E:Value->Shared->Prop}{i:Nat}{x:Str}{v:V}{u:Value}{Q:Unit->Shared->Prop}(I:Inv X ah σ H s)(hN:X.N.Nodup)(hi:X.N[i]?=some x)(hx:Loc X.env.scope x)(r:RelV v u)
  (h:∀s',Inv X ah (σ.set i (some v)) H s'->(∃a,Heap.SameBut a s.heap s'.heap/\(a=X.env.locals\/X.env.cells.lookup x=some a))->Q () s')(hf:X.fn x=true\/X.env.scope.names.lookup x=some .local:=by first | exact .inl rfl | exact .inr rfl | assumption):wpAny M A (storeName X.env x u) Q E s:=by
 obtain⟨m,hn,hl⟩:=id I.loc;have Wf:(X.env.scope.kind == .class || (X.env.scope.kind == .module && X.env.locals != X.env.globals))=false:=by rw [I.ok.kind];rfl
 have Zz:i < σ.length:=by rw [I.len];exact(bu.mp hi).1
 have NW:=I.NW;have tracked:∀{a:Addr}{h':Heap},(∃o,s.heap.get? a=some o/\H a=none)->Heap.SameBut a s.heap h'->me X.prog X.w H h':=λ{a h'} ha hs b ob e=>by
  obtain⟨_,_,n8⟩:=ha;refine(I.cx b ob e).kP (λc w' hc q=>(hs.2 c ?_).trans q) (λ_ q=>q) λ_ _ q=>q;rintro rfl;rcases hc with rfl | hc
  .rw [n8] at e;cases e
  rw [n8] at hc;cases hc
 rcases hx with hk | hk
 .refine wpAny_storeName_local hk hn (λh' JN hs=>?_) Wf;obtain⟨oL,_,_,hoL,_⟩:=id hn;refine h _ ⟨I.ok,I.os,I.bare,⟨λb o e n hb hx=>?_,λb o e n hb hx=>?_,I.base.free,λb o e hx=>?_,I.base.o5,I.base.mM,I.base.nq⟩,⟨_,JN,λj y v' e1 e2 e3=>?_⟩,λy c e=>?_,I.free,I.l_,λp hp=>?_,tracked ⟨oL,hoL,I.free⟩ hs,by simpa using I.len⟩ ⟨_,hs,.inl rfl⟩
  .exact(hs.2 b (cw (gM (bO e) I.ok.above))).trans (I.base.keep b o e n hb hx)
  .obtain⟨sl,e1⟩:=I.base.slot b o e n hb hx;exact⟨sl,(hs.2 b (cw (gM (bO e) I.ok.above))).trans e1⟩
  .obtain⟨o',e1⟩:=I.base.there b o e hx;exact⟨o',(hs.2 b (cw (gM (bO e) I.ok.above))).trans e1⟩
  .by_cases hj:j=i
   .subst hj;rw [hi] at e1;cases e1;rw [List.getElem?_set_self Zz] at e2;cases e2;exact⟨u,r,.inl ⟨hk,by simp⟩⟩
   rw [List.getElem?_set_ne (gC hj)] at e2;obtain⟨u',r',q⟩:=hl j y v' e1 e2 e3;refine⟨u',r',?_⟩;rcases q with ⟨k,e⟩ | ⟨k,c,e,z⟩
   .refine .inl ⟨k,?_⟩;have:y≠x:=λe=>hj (x_ hN e1 (e ▸ hi));simp [this,e]
   exact .inr ⟨k,c,e,z.sameBut hs (NW y c e)⟩
  .obtain⟨w',z⟩:=I.cell y c e;exact⟨w',z.sameBut hs (NW y c e)⟩
  obtain⟨e,n,ne,nf,d⟩:=I.pin p hp;exact⟨(hs.2 p.1 ne).trans e,n,ne,nf,d⟩
 have V8:X.fn x=true:=by
  rcases hf with z | z
  .exact z
  rw [z] at hk;cases hk
 obtain⟨c,hc⟩:=I.ok.has x (.inl hk);obtain⟨w',z⟩:=I.cell x c hc;refine wpAny_storeName_cell I.ok.kind hk hc z (λh' lR hs=>?_);obtain⟨oc,yZ,VU⟩:=id z;refine h { s with heap:=h' } ⟨I.ok,I.os,I.bare,⟨λb o e n hb hx=>?_,λb o e n hb hx=>?_,I.base.free,λb o e hx=>?_,I.base.o5,I.base.mM,I.base.nq⟩,⟨m,hn.sameBut hs (gC (NW x c hc)),λj y v' e1 e2 e3=>?_⟩,λy c' e=>?_,I.free,I.l_,λp hp=>?_,tracked ⟨oc,yZ,I.l_ x c hc⟩ hs,by simpa using I.len⟩ ⟨c,hs,.inr hc⟩
 .exact(hs.2 b (cw (gM (bO e) (I.ok.RC x c V8 hc)))).trans (I.base.keep b o e n hb hx)
 .obtain⟨sl,e1⟩:=I.base.slot b o e n hb hx;exact⟨sl,(hs.2 b (cw (gM (bO e) (I.ok.RC x c V8 hc)))).trans e1⟩
 .obtain⟨o',e1⟩:=I.base.there b o e hx;exact⟨o',(hs.2 b (cw (gM (bO e) (I.ok.RC x c V8 hc)))).trans e1⟩
 .by_cases hj:j=i
  .subst hj;rw [hi] at e1;cases e1;rw [List.getElem?_set_self Zz] at e2;cases e2;exact⟨u,r,.inr ⟨.inl hk,c,hc,lR⟩⟩
  rw [List.getElem?_set_ne (gC hj)] at e2;obtain⟨u',r',q⟩:=hl j y v' e1 e2 e3;refine⟨u',r',?_⟩;rcases q with q | ⟨k,c',e,z'⟩
  .exact .inl q
  refine .inr ⟨k,c',e,z'.sameBut hs ?_⟩;rintro rfl;exact hj (x_ hN e1 (I.ok.inj _ _ _ e hc ▸ hi))
 .by_cases ZG:c'=c
  .subst ZG;exact⟨_,lR⟩
  obtain⟨w2,z2⟩:=I.cell y c' e;exact⟨w2,z2.sameBut hs ZG⟩
 obtain⟨e,n,ne,nf,d⟩:=I.pin p hp;refine⟨(hs.2 p.1 ?_).trans e,n,ne,nf,d⟩;intro q;rw [q,yZ] at e;have q':oc=p.2:=iu e;exact d w' (by rw [<-q'];exact VU)
def rF {M:Model}{A:Around}{E:Value->Shared->Prop}{i:Nat}{x:Str}{v:V}{u:Value}{Q:Unit->Shared->Prop}(I:Inv X ah σ H s)(hN:X.N.Nodup)(hi:X.N[i]?=some x)(hx:Loc X.env.scope x)(r:RelV v u)
  (h:∀s',Inv X ah (σ.set i (some v)) H s'->Q () s')(hf:X.fn x=true\/X.env.scope.names.lookup x=some .local:=by first | exact .inl rfl | exact .inr rfl | assumption):wpAny M A (storeName X.env x u) Q E s :=
 uk I hN hi hx r (λs' I' _=>h s' I') hf
def Inv.Lp {s':Shared}{ch:List Addr}(I:Inv X ah σ H s)(ho:s'.os=s.os)(u:Un (Dr X.stack) ch H H' s.heap s'.heap)(cx:me X.prog X.w H' s'.heap)(hg:AllBare s'.gens)
  (Io:∀b∈ch,(b∈X.ex\/X.s₀.heap.objs.size<=b)/\b≠X.env.locals/\(∀x c,X.env.cells.lookup x=some c->c≠b)/\∀p∈X.pn++ah,p.1≠b):Inv X ah σ H' s':=by
 obtain⟨h',g',d',t',o'⟩:=s';have e:o'=s.os:=ho;subst e;exact I.call (g':=g') (t':=t') (d':=d') u cx hg Io
end
abbrev XK:=Value->Option Addr->Hp->Prop
abbrev St:=List (Option V)
abbrev aM (a:Addr):Option V:=some (.ref a)
abbrev VK:=V->Hp->Prop
abbrev TE:=St->Hp->VK->Prop
abbrev TT:=St->Hp->(Bool->Hp->Prop)->Prop
abbrev TA:=St->Hp->(List V->Hp->Prop)->Prop
structure Ends where
 nx:St->Hp->Prop
 rt:VK
 bk:St->Hp->Prop:=λ_ _=>False
 ct:St->Hp->Prop:=λ_ _=>False
abbrev TS:=Ends->St->Hp->Prop
def EP (X:Cx)(ah:List (Addr×Obj))(σ:St)(Q:VK)(u:Value)(s':Shared):Prop:=∃v H',Inv X ah σ H' s'/\RelV v u/\Q v H'
def TP (X:Cx)(ah:List (Addr×Obj))(σ:St)(Q:Bool->Hp->Prop)(b:Bool)(s':Shared):Prop:=∃H',Inv X ah σ H' s'/\Q b H'
def AP (X:Cx)(ah:List (Addr×Obj))(σ:St)(Q:List V->Hp->Prop)(us:List Value)(s':Shared):Prop:=∃vs H',Inv X ah σ H' s'/\bf vs us/\Q vs H'
def SP (X:Cx)(ah:List (Addr×Obj))(D:Ends)(f:Flow)(s':Shared):Prop :=
 match f with
 | .next=>∃σ' H',Inv X ah σ' H' s'/\D.nx σ' H'
 | .brk=>∃σ' H',Inv X ah σ' H' s'/\D.bk σ' H'
 | .cont=>∃σ' H',Inv X ah σ' H' s'/\D.ct σ' H'
 | .ret u=>∃v σ' H',Inv X ah σ' H' s'/\RelV v u/\D.rt v H'
def PE (X:Cx)(e:Expr)(t:TE):Prop :=
 ∀(ah:List (Addr×Obj))(s:Shared)(σ:St)(H:Hp)(Q:VK),Inv X ah σ H s->t σ H Q->wpAny (model X.prog X.w) X.A (eval e X.env) (EP X ah σ Q) X.xe s
def PT (X:Cx)(e:Expr)(t:TT):Prop :=
 ∀(ah:List (Addr×Obj))(s:Shared)(σ:St)(H:Hp)(Q:Bool->Hp->Prop),Inv X ah σ H s->t σ H Q->wpAny (model X.prog X.w) X.A (isTrue e X.env (eval e X.env)) (TP X ah σ Q) X.xe s
def PW (X:Cx)(e:Expr)(t:TT):Prop :=
 ∀(whole:Sem Value)(ah:List (Addr×Obj))(s:Shared)(σ:St)(H:Hp)(Q:Bool->Hp->Prop),Inv X ah σ H s->t σ H Q->wpAny (model X.prog X.w) X.A (isTrue e X.env whole) (TP X ah σ Q) X.xe s
def PW.pt {X:Cx}{e:Expr}{t:TT}(h:PW X e t):PT X e t:=h _
def PA (X:Cx)(es:List Expr)(t:TA):Prop :=
 ∀(pos:Pos)(ah:List (Addr×Obj))(s:Shared)(σ:St)(H:Hp)(Q:List V->Hp->Prop),Inv X ah σ H s->t σ H Q->wpAny (model X.prog X.w) X.A (spliced (backTo pos (starEach es X.env))) (AP X ah σ Q) X.xe s
def PS (X:Cx)(st:Stmt)(t:TS):Prop :=
 ∀(ah:List (Addr×Obj))(s:Shared)(σ:St)(H:Hp)(D:Ends),Inv X ah σ H s->t D σ H->wpAny (model X.prog X.w) X.A (exec st X.env) (SP X ah D) X.xe s
def AZ (X:Cx)(st:List Stmt)(t:TS):Prop :=
 ∀(ah:List (Addr×Obj))(s:Shared)(σ:St)(H:Hp)(D:Ends),Inv X ah σ H s->t D σ H->wpAny (model X.prog X.w) X.A (execs st X.env) (SP X ah D) X.xe s
def cR {α:Type}{t:Sem α}{Q Q':α->Shared->Prop}{M:Model}{A:Around}{E:Value->Shared->Prop}{s:Shared}(h:wpAny M A t Q E s)(hQ:∀a s,Q a s->Q' a s):wpAny M A t Q' E s:=dM h hQ λ_ _ x=>x
section
variable {X:Cx}
def bin {a b:Expr}{ta tb:TE}(ha:PE X a ta)(hb:PE X b tb){ah:List (Addr×Obj)}{s:Shared}{σ:St}{H:Hp}{R:V->V->Hp->Prop}(I:Inv X ah σ H s)(h:ta σ H λx H1=>tb σ H1 λy H2=>R x y H2)
  {α:Type}{Q:α->Shared->Prop}{f:Value->Value->Sem α}
  (hf:∀v u s2 x y H2,Inv X ah σ H2 s2->RelV x v->RelV y u->R x y H2->wpAny (model X.prog X.w) X.A (f v u) Q X.xe s2) :
  wpAny (model X.prog X.w) X.A (eval a X.env) (λv s₁=>wpAny (model X.prog X.w) X.A (eval b X.env) (λu s₂=>wpAny (model X.prog X.w) X.A (f v u) Q X.xe s₂) X.xe s₁) X.xe s:=by
 refine cR (ha ah s σ H _ I h) λv s1 bG=>?_;obtain⟨x,H1,I1,r1,q1⟩:=bG;refine cR (hb ah s1 σ H1 _ I1 q1) λu s2 bG=>?_;obtain⟨y,H2,I2,r2,q2⟩:=bG;exact hf v u s2 x y H2 I2 r1 r2 q2
inductive RK (o:Option (Option V))(R:V->Prop):Prop
|mk(v:V)(e:o=some (some v))(q:R v)
inductive XB (x:V)(R:Bool->Prop):Prop
|mk(c:Bool)(e:x=.bl c)(q:R c)
inductive XR (x:V)(R:Int->Prop):Prop
|mk(i:Int)(e:x=.int i)(q:R i)
inductive XI0 (x y:V)(R:Int->Int->Prop):Prop
|mk(i j:Int)(e:x=.int i)(e2:y=.int j)(q:R i j)
inductive XI2 (x y:V)(C:Int->Int->Prop)(R:Int->Int->Prop):Prop
|mk(i j:Int)(e:x=.int i)(e2:y=.int j)(c:C i j)(q:R i j)
inductive Lv (vs:List V)(R:V->List V->Prop):Prop
|mk(v:V)(r:List V)(e:vs=v::r)(q:R v r)
inductive RL (v:V)(S:Addr->List V->Prop) (n:Nat)(R:List V->Prop):Prop
|mk(a:Addr)(xs:List V)(e:v=.ref a)(s:S a xs)(l:xs.length=n)(q:R xs)
inductive Tt (x:V)(S:Addr->Prop)(R:Addr->Prop):Prop
|mk(a:Addr)(e:x=.ref a)(s:S a)(q:R a)
inductive XO (x:V)(S:Addr->List V->Prop)(R:List V->Prop):Prop
|mk(a:Addr)(xs:List V)(e:x=.ref a)(s:S a xs)(q:R xs)
inductive XU (S:Addr->List V->Prop)(x y:V)(R:List V->List V->Prop):Prop
|mk(a b:Addr)(xs ys:List V)(e:x=.ref a)(e2:y=.ref b)(s:S a xs)(s2:S b ys)(z:xs.length+ys.length<=sizeLine)(q:R xs ys)
inductive XRg (vs:List V)(R:Int->Prop):Prop
|mk(j:Int)(e:vs=[.int j])(l:-(2 ^ 62)<=j)(u:j < 2 ^ 62)(q:R j)
inductive XS (vs:List V)(S:Addr->List V->Prop)(R:Addr->Prop):Prop
|mk(a:Addr)(xs:List V)(e:vs=[.ref a])(s:S a xs)(q:R a)
inductive N1 (xs:List V)(S:Addr->List V->Prop)(R:List V->Prop):Prop
|mk(p:Addr)(ys:List V)(e:xs=[.ref p])(s:S p ys)(q:R ys)
def gT (i:Nat):TE:=λσ H Q=>RK σ[i]? λv=>Q v H
def tC (v:V):TE:=λ_ H Q=>Q v H
def Mo {i:Nat}{x:Str}{pos:Pos}(hN:X.N[i]?=some x)(hv:Tu X.env.scope x)(hd:(x == ("__debug__":Str))=false:=by decide)(wM:(x == ("__classdict__":Str))=false:=by decide):PE X (.Name x pos) (gT i):=by
 intro ah s σ H Q I h;obtain⟨v,e,h⟩:=h;obtain⟨m,hn,hl⟩:=I.loc;obtain⟨u,r,l⟩:=hl i x v hN e hv;have fin:EP X ah σ Q u s:=⟨v,H,I,r,h⟩;rcases l with ⟨hk,hm⟩ | ⟨hk,c,hc,jA⟩
 .exact wpAny_Name (vq I.ok.kind hk hn hm fin) hd
 rcases hk with hk | hk
 .exact wpAny_Name (wpAny_loadName_cell I.ok.kind hk hc jA fin) hd
 exact wpAny_Name (wpAny_loadName_free I.ok.kind hk hc jA fin wM) hd
def ao {i j pos}:PE X (.Constant (.int i) j pos) (tC (.int i)):=λ_ _ _ H _ I h=>wpAny_Constant_int ⟨.int i,H,I.tok _,⟨_,rfl⟩,h⟩
def gb {b j pos}:PE X (.Constant (.bool b) j pos) (tC (.bl b)):=λ_ _ _ H _ I h=>Constant_bool ⟨.bl b,H,I,rfl,h⟩
def jf {j pos}:PE X (.Constant .none j pos) (tC .fh):=λ_ _ _ H _ I h=>Constant_none ⟨.fh,H,I,rfl,h⟩
def bx {x j pos}:PE X (.Constant (.str x) j pos) (tC (.str x)):=λ_ _ _ H _ I h=>Calls.Constant_str ⟨.str x,H,I.tok _,⟨_,rfl⟩,h⟩
def Gl (X:Cx)(x:Str):Prop:=X.env.kindOf x=some .globalImplicit
def wD {E:Value->Shared->Prop}{ah:List (Addr×Obj)}{s:Shared}{σ:St}{H:Hp}{x:Str}{u:Value}{pos:Pos}{Q:Value->Shared->Prop}(I:Inv X ah σ H s)(hg:Gl X x)(hm:X.mg x=some u)(h:Q u s)
  (hd:(x == ("__debug__":Str))=false:=by decide):wpAny (model X.prog X.w) X.A (eval (.Name x pos) X.env) Q E s :=
 Calls.Name_function_global I.ok.kind hg (Calls.loadGlobal_global (by rw [I.ok.glob];exact I.mod.glob.keeps I.bk) hm h) hd
def jW {E:Value->Shared->Prop}{ah:List (Addr×Obj)}{s:Shared}{σ:St}{H:Hp}{x:Str}{u:Value}{pos:Pos}{Q:Value->Shared->Prop}(I:Inv X ah σ H s)(hg:Gl X x)(hm:X.mg x=none)(hv:bootBuiltins x=some u)(h:Q u s)
  (hn:x ≠ "__name__" := by decide)(hd:(x == ("__debug__":Str))=false:=by decide):wpAny (model X.prog X.w) X.A (eval (.Name x pos) X.env) Q E s:=by
 obtain⟨mb,h1,h2⟩:=I.mod.blt;exact Calls.Name_function_global I.ok.kind hg (Calls.loadGlobal_builtin (by rw [I.ok.glob];exact I.mod.glob.keeps I.bk) hm (by rw [I.ok.blt];exact h1.keeps I.bk) ((h2 x hn).trans hv) h) hd
def Jn {x:Str}{v:V}{u:Value}{pos:Pos}(hg:Gl X x)(hm:X.mg x=some u)(r:RelV v u)(hd:(x == ("__debug__":Str))=false:=by decide):PE X (.Name x pos) (tC v) :=
 λ_ _ _ H _ I h=>wD I hg hm ⟨v,H,I,r,h⟩ hd
def hJ {x:Str}{v:V}{u:Value}{pos:Pos}(hg:Gl X x)(hm:X.mg x=none)(hv:bootBuiltins x=some u)(r:RelV v u)(hn:x ≠ "__name__" := by decide)(hd:(x == ("__debug__":Str))=false:=by decide):PE X (.Name x pos) (tC v) :=
 λ_ _ _ H _ I h=>jW I hg hm hv ⟨v,H,I,r,h⟩ hn hd
variable {a b:Expr}{ta tb:TE}{pos:Pos}
def PC (X:Cx)(op:CmpOp)(a b:Expr)(t:TE):Prop :=
 ∀(ah:List (Addr×Obj))(s:Shared)(σ:St)(H:Hp)(Q:VK),Inv X ah σ H s->t σ H Q ->
  wpAny (model X.prog X.w) X.A (eval a X.env) (λv s₁=>wpAny (model X.prog X.w) X.A (eval b X.env) (λu s₂=>wpAny (model X.prog X.w) X.A (compareOp op v u) (EP X ah σ Q) X.xe s₂) X.xe s₁) X.xe s
def ya (b:Expr){op:CmpOp}(h:op≠.In)(h2:op≠.NotIn):behindInMarks op b=false:=by
 have e1:(op == CmpOp.In)=false:=by cases op <;> first | rfl | exact absurd rfl h
 have e2:(op == CmpOp.NotIn)=false:=by cases op <;> first | rfl | exact absurd rfl h2
 cases b <;> simp [behindInMarks,e1,e2]
def Ue (ta:TE):TE:=λσ H Q=>ta σ H λx H1=>Q (.bl (decide (x=.fh))) H1
def RelV.F3 {x:V}{v:Value}(r:RelV x v):(v == Value.none)=decide (x=.fh):=by
 cases x with
 | fh=>cases r;rfl
 | bl _=>cases r;rfl
 | int _=>obtain⟨t,rfl⟩:=r;rfl
 | str _=>obtain⟨t,rfl⟩:=r;rfl
 | AV _=>obtain⟨t,rfl⟩:=r;rfl
 | Nw _=>obtain⟨t,rfl⟩:=r;rfl
 | ref _=>cases r;rfl
 | ty _=>cases r;rfl
def Fy {j pos'}(ha:PE X a ta):PC X .Is a (.Constant .none j pos') (Ue ta):=by
 intro ah s σ H Q I h;refine cR (ha ah s σ H _ I h) λv s1 bG=>?_;obtain⟨x,H1,I1,r1,q1⟩:=bG;exact Constant_none (is_none_gen ⟨.bl _,H1,I1,by rw [r1.F3];rfl,q1⟩)
def tB (t:TE):TT:=λσ H Q=>t σ H λx H1=>XB x λc=>Q c H1
def z8 {op:CmpOp}{t:TE}(h:PC X op a b t)(h1:behindInMarks op b=false:=by first | exact ya _ nofun nofun | rfl):PE X (.Compare a [op] [b] pos) t:=λah s σ H Q I hw=>wpAny_Compare1 (h ah s σ H Q I hw) h1
def eK {op:CmpOp}{t:TE}(h:PC X op a b t)(h1:behindInMarks op b=false:=by first | exact ya _ nofun nofun | rfl):PT X (.Compare a [op] [b] pos) (tB t):=by
 intro ah s σ H Q I hw;refine wpAny_isTrue_Compare1 (cR (h ah s σ H _ I hw) λv s1 h1=>cR h1 λu s2 h2=>cR h2 λc s3 bG=>?_) h1;obtain⟨x,H1,I1,r1,q1⟩:=bG;obtain⟨d,rfl,q⟩:=q1;cases r1;exact kx ⟨H1,I1,q⟩
def eJ {e:Expr}{t:TE}(h:PE X e t)(he:∀whole,isTrue e X.env whole=(do let v <-whole;standAt e.pos;holding [v] (truthy v)):=by intro _;rfl):PT X e (tB t):=by
 intro ah s σ H Q I hw;refine isTrue_plain (cR (h ah s σ H _ I hw) λv s1 bG=>?_) (he _);obtain⟨x,H1,I1,r1,q1⟩:=bG;obtain⟨d,rfl,q⟩:=q1;cases r1;exact kx ⟨H1,I1,q⟩
variable {tA Sd:TT}{rest:List Expr}
def Ul (t u:TT):TT:=λσ H Q=>t σ H λc H1=>if c=true then u σ H1 Q else Q false H1
def tOr (t u:TT):TT:=λσ H Q=>t σ H λc H1=>if c=true then Q true H1 else u σ H1 Q
def Uc (t:TT):TT:=λσ H Q=>t σ H λc H1=>Q (!c) H1
def i9 (ha:PT X a tA):PW X (.BoolOp .And [a] pos) tA:=by
 intro wh ah s σ H Q I h;refine isTrue_and (cR (ha ah s σ H Q I h) λc s1 e=>?_);cases c with
 | true=>exact isTrue_and_nil e
 | false=>exact e
def jT (ha:PT X a tA):PW X (.BoolOp .Or [a] pos) tA:=by
 intro wh ah s σ H Q I h;refine isTrue_or (cR (ha ah s σ H Q I h) λc s1 e=>?_);cases c with
 | false=>exact isTrue_or_nil e
 | true=>exact e
def kS (ha:PT X a tA)(hb:PW X (.BoolOp .And (b::rest) pos) Sd):PW X (.BoolOp .And (a::b::rest) pos) (Ul tA Sd):=by
 intro wh ah s σ H Q I h;refine isTrue_and (cR (ha ah s σ H _ I h) λc s1 bG=>?_);obtain⟨H1,I1,q1⟩:=bG;cases c with
 | true=>exact hb wh ah s1 σ H1 Q I1 q1
 | false=>exact⟨H1,I1,q1⟩
def lZ (ha:PT X a tA)(hb:PW X (.BoolOp .Or (b::rest) pos) Sd):PW X (.BoolOp .Or (a::b::rest) pos) (tOr tA Sd):=by
 intro wh ah s σ H Q I h;refine isTrue_or (cR (ha ah s σ H _ I h) λc s1 bG=>?_);obtain⟨H1,I1,q1⟩:=bG;cases c with
 | true=>exact⟨H1,I1,q1⟩
 | false=>exact hb wh ah s1 σ H1 Q I1 q1
def iF (ha:PT X a tA):PT X (.UnaryOp .Not a pos) (Uc tA):=by
 intro ah s σ H Q I h;exact isTrue_not (ha ah s σ H (λc H1=>Q (!c) H1) I h)
def Pp (ta tb:TE):TE:=λσ H Q=>ta σ H λx H1=>XB x λc=>if c=true then tb σ H1 Q else Q (.bl false) H1
def Ub (ta tb:TE):TE:=λσ H Q=>ta σ H λx H1=>XB x λc=>if c=true then Q (.bl true) H1 else tb σ H1 Q
def Pb (ta:TE):TE:=λσ H Q=>ta σ H λx H1=>XB x λc=>Q (.bl (!c)) H1
def kU {op}{t:TE}(h:PE X a t):PE X (.BoolOp op [a] pos) t:=λah s σ H Q I hw=>BoolOp_one (h ah s σ H Q I hw)
def kW (ha:PE X a ta)(hb:PE X (.BoolOp .And (b::rest) pos) tb):PE X (.BoolOp .And (a::b::rest) pos) (Pp ta tb):=by
 intro ah s σ H Q I h;refine BoolOp_and (cR (ha ah s σ H _ I h) λv s1 bG=>?_);obtain⟨x,H1,I1,r1,q1⟩:=bG;obtain⟨c,rfl,q1⟩:=q1;cases r1;refine kx ?_;cases c with
 | true=>exact hb ah s1 σ H1 Q I1 q1
 | false=>exact⟨.bl false,H1,I1,rfl,q1⟩
def KG (ha:PE X a ta)(hb:PE X (.BoolOp .Or (b::rest) pos) tb):PE X (.BoolOp .Or (a::b::rest) pos) (Ub ta tb):=by
 intro ah s σ H Q I h;refine BoolOp_or (cR (ha ah s σ H _ I h) λv s1 bG=>?_);obtain⟨x,H1,I1,r1,q1⟩:=bG;obtain⟨c,rfl,q1⟩:=q1;cases r1;refine kx ?_;cases c with
 | false=>exact hb ah s1 σ H1 Q I1 q1
 | true=>exact⟨.bl true,H1,I1,rfl,q1⟩
def z7 (ha:PE X a ta):PE X (.UnaryOp .Not a pos) (Pb ta):=by
 intro ah s σ H Q I h;refine UnaryOp_ (cR (ha ah s σ H _ I h) λv s1 bG=>?_);obtain⟨x,H1,I1,r1,q1⟩:=bG;obtain⟨c,rfl,q1⟩:=q1;cases r1;exact not_of (kx ⟨.bl (!c),H1,I1,rfl,q1⟩)
def tIf (t:TT)(ta tb:TE):TE:=λσ H Q=>t σ H λc H1=>if c=true then ta σ H1 Q else tb σ H1 Q
def rX {c:Expr}(hc:PT X c tA)(ha:PE X a ta)(hb:PE X b tb):PE X (.IfExp c a b pos) (tIf tA ta tb):=by
 intro ah s σ H Q I h;refine wpAny_IfExp (cR (hc ah s σ H _ I h) λd s1 bG=>?_);obtain⟨H1,I1,q1⟩:=bG;cases d with
 | true=>exact ha ah s1 σ H1 Q I1 q1
 | false=>exact hb ah s1 σ H1 Q I1 q1
end
def aH (K:ba)(H:Hp)(a:Addr)(xs:List V):Prop :=
 Rd H a (.lst xs) \/
  ∃(o:Obj)(aT:Array Value) (n:Nat),K.lookup a=some o/\o.cls=.type "list" /\ o.dict=none/\o.data=.seq aT n/\aT.size<=sizeLine/\bf xs aT.toList
def aS (K:ba)(H:Hp)(a:Addr)(xs:List V):Prop :=
 Rd H a (.tup xs) \/
  ∃(o:Obj)(aT:Array Value) (n:Nat),K.lookup a=some o/\o.cls=.type "tuple" /\ o.data=.seq aT n/\aT.size<=sizeLine/\bf xs aT.toList
def XM:Value->Option V
 | .none=>some .fh
 | .bool b=>some (.bl b)
 | .int i _=>some (.int i)
 | .str x _=>some (.str x)
 | .bytes b _=>some (.AV b)
 | .float b _=>some (.Nw b)
 | .ref a=>some (.ref a)
 | .type n=>some (.ty n)
 | _=>none
def RelV.abs {x:V}{u:Value}(r:RelV x u):XM u=some x:=by
 cases x with
 | fh=>cases r;rfl
 | bl _=>cases r;rfl
 | int _=>obtain⟨t,rfl⟩:=r;rfl
 | str _=>obtain⟨t,rfl⟩:=r;rfl
 | AV _=>obtain⟨t,rfl⟩:=r;rfl
 | Nw _=>obtain⟨t,rfl⟩:=r;rfl
 | ref _=>cases r;rfl
 | ty _=>cases r;rfl
def RelV.inj {x y:V}{u:Value}(r:RelV x u)(q:RelV y u):x=y:=iu (r.abs.symm.trans q.abs)
theorem bf.inj:∀{xs ys:List V}{us:List Value},bf xs us->bf ys us->xs=ys
 | _,_,_,.nil,.nil=>rfl
 | _,_,_,.cons r t,.cons r' t'=>by rw [r.inj r',bf.inj t t']
section
variable {X:Cx}{ah:List (Addr×Obj)}{σ:St}{H:Hp}{s:Shared}{a:Addr}{xs ys:List V}
def aH.of {K:ba}(h:H a=some (.lst xs)):aH K H a xs:=.inl (.inl h)
def aS.of {K:ba}(h:H a=some (.tup xs)):aS K H a xs:=.inl (.inl h)
def Inv.list (I:Inv X ah σ H s)(h:aH X.K H a xs):∃aT:List Value,bf xs aT/\PlainL s.heap a aT.toArray/\xs.length<=sizeLine:=by
 rcases h with h | ⟨o,aT,n,hk,hc,hd,hs,hz,r⟩
 .obtain⟨z,aT,n,r,e⟩:=h.ok I.cx;exact⟨aT,r,⟨_,n,e,rfl,rfl,rfl⟩,z⟩
 refine⟨aT.toList,r,⟨o,n,I.wG a o hk,hc,hd,by simpa using hs⟩,?_⟩;have e:=r.length;simp only [rm] at e;omega
def Inv.tuple (I:Inv X ah σ H s)(h:aS X.K H a xs):∃aT:List Value,bf xs aT/\IsTup s.heap a aT.toArray/\xs.length<=sizeLine:=by
 rcases h with h | ⟨o,aT,n,hk,hc,hs,hz,r⟩
 .obtain⟨z,aT,r,p⟩:=h.ok I.cx;exact⟨aT,r,p,z⟩
 refine⟨aT.toList,r,⟨o,I.wG a o hk,hc,n,by simpa using hs⟩,?_⟩;have e:=r.length;simp only [rm] at e;omega
def Inv.r_ (I:Inv X ah σ H s)(h:aH X.K H a xs)(h':aH X.K H a ys):xs=ys:=by
 obtain⟨aT,r,⟨o,n,e,_,_,d⟩,_⟩:=I.list h;obtain⟨tW,r',⟨o',n',e',_,_,d'⟩,_⟩:=I.list h';rw [e] at e';cases e';rw [d] at d';injection d' with d1 _;have:aT=tW:=by simpa using congrArg Array.toList d1
 subst this;exact r.inj r'
def Inv.uh (I:Inv X ah σ H s)(h:aS X.K H a xs)(h':aS X.K H a ys):xs=ys:=by
 obtain⟨aT,r,⟨o,e,_,n,d⟩,_⟩:=I.tuple h;obtain⟨tW,r',⟨o',e',_,n',d'⟩,_⟩:=I.tuple h';rw [e] at e';cases e';rw [d] at d';injection d' with d1 _;have:aT=tW:=by simpa using congrArg Array.toList d1
 subst this;exact r.inj r'
end
abbrev Cx.qj (X:Cx)(E:Value->Shared->Prop):Cx:={ X with xe:=E }
abbrev Cx.CW (X:Cx):Cx:=X.qj λ_ _=>False
theorem Cx.Ok.qj {X:Cx}(ok:X.Ok)(E:Value->Shared->Prop):(X.qj E).Ok :=
 ⟨ok.mod,ok.kind,ok.glob,ok.blt,ok.above,ok.inj,ok.has,ok.RC,ok.hd,ok.frames,ok.Sg,ok.OH,ok.bs,ok.ID,ok.F4,ok.Dv,ok.pE,ok.Lb⟩
def Cx.Ok.je {X:Cx}{E:Value->Shared->Prop}(ok:(X.qj E).Ok):X.Ok :=
 ⟨ok.mod,ok.kind,ok.glob,ok.blt,ok.above,ok.inj,ok.has,ok.RC,ok.hd,ok.frames,ok.Sg,ok.OH,ok.bs,ok.ID,ok.F4,ok.Dv,ok.pE,ok.Lb⟩
section
variable {X:Cx}{ah:List (Addr×Obj)}{σ:St}{H:Hp}{s:Shared}{E:Value->Shared->Prop}
theorem Inv.qj (I:Inv X ah σ H s)(E:Value->Shared->Prop):Inv (X.qj E) ah σ H s:=⟨I.ok.qj E,I.os,I.bare,I.base,I.loc,I.cell,I.free,I.l_,I.pin,I.cx,I.len⟩
theorem Inv.je (I:Inv (X.qj E) ah σ H s):Inv X ah σ H s:=⟨I.ok.je,I.os,I.bare,I.base,I.loc,I.cell,I.free,I.l_,I.pin,I.cx,I.len⟩
theorem SP.je {D:Ends}{f:Flow}{s':Shared}(h:SP (X.qj E) ah D f s'):SP X ah D f s':=by
 cases f with
 | next=>obtain⟨σ',H',I,q⟩:=h;exact⟨σ',H',I.je,q⟩
 | brk=>obtain⟨σ',H',I,q⟩:=h;exact⟨σ',H',I.je,q⟩
 | cont=>obtain⟨σ',H',I,q⟩:=h;exact⟨σ',H',I.je,q⟩
 | ret u=>obtain⟨v,σ',H',I,r,q⟩:=h;exact⟨v,σ',H',I.je,r,q⟩
theorem PE.CW {e:Expr}{t:TE}(h:PE X.CW e t):PE X e t:=λah s σ H Q I hw =>
 dM (h ah s σ H Q (I.qj _) hw) (λ_ _ ⟨v,H',I',r,q⟩=>⟨v,H',I'.je,r,q⟩) λ_ _ z=>False.elim z
theorem PT.CW {e:Expr}{t:TT}(h:PT X.CW e t):PT X e t:=λah s σ H Q I hw =>
 dM (h ah s σ H Q (I.qj _) hw) (λ_ _ ⟨H',I',q⟩=>⟨H',I'.je,q⟩) λ_ _ z=>False.elim z
theorem AZ.CW {st:List Stmt}{t:TS}(h:AZ X.CW st t):AZ X st t:=λah s σ H D I hw =>
 dM (h ah s σ H D (I.qj _) hw) (λ_ _ q=>q.je) λ_ _ z=>False.elim z
end
section
variable {X:Cx}{st:Stmt}{rest:List Stmt}{t u:TS}{e:Expr}{te:TE}{pos:Pos}
def Pc:TS:=λD σ H=>D.nx σ H
def LM (t u:TS):TS:=λD σ H=>t { D with nx:=u D } σ H
def aQ:AZ X [] Pc:=λ_ _ σ H _ I h=>wpAny_execs_nil ⟨σ,H,I,h⟩
def ai (h1:PS X st t)(h2:AZ X rest u):AZ X (st::rest) (LM t u):=by
 intro ah s σ H D I h;refine wpAny_execs_cons (cR (h1 ah s σ H { D with nx:=u D } I h) λf s1 q=>?_);cases f with
 | next =>
  obtain⟨σ',H',I',q⟩:=q;exact h2 ah s1 σ' H' D I' q
 | ret v=>exact q
 | brk=>exact q
 | cont=>exact q
def ak (h1:PS X st t):AZ X [st] t:=by
 intro ah s σ H D I h;refine wpAny_execs_cons (cR (h1 ah s σ H D I h) λf s1 q=>?_);cases f with
 | next=>exact wpAny_execs_nil q
 | ret v=>exact q
 | brk=>exact q
 | cont=>exact q
def LP:TS:=λD σ H=>D.bk σ H
def Fn:PS X (.Break pos) LP:=λ_ _ σ H _ I h=>wpAny_Break ⟨σ,H,I,h⟩
def Inv.quiet {ah:List (Addr×Obj)}{σ:St}{H:Hp}{s:Shared}(I:Inv X ah σ H s):interactive X.env=false:=by simp [interactive,I.ok.kind]
def Pj (te:TE):TS:=λD σ H=>te σ H λ_ H1=>D.nx σ H1
def cJ (he:PE X e te)(hs:swapsWith e none pos.line X.env=pure false:=by rfl):PS X (.Expr e pos) (Pj te):=by
 intro ah s σ H D I h;refine wpAny_Expr_any (cR (he ah s σ H _ I h) λv s1 bG=>?_) I.quiet hs;obtain⟨x,H1,I1,r1,q1⟩:=bG;exact⟨σ,H1,I1,q1⟩
def Ua (te:TE):TS:=λD σ H=>te σ H D.rt
def aN (he:PE X e te):PS X (.Return (some e) pos) (Ua te):=by
 intro ah s σ H D I h;refine wpAny_Return_some (cR (he ah s σ H _ I h) λv s1 bG=>?_);obtain⟨x,H1,I1,r1,q1⟩:=bG;exact⟨x,σ,H1,I1,r1,q1⟩
def Ug (c:TT)(t u:TS):TS:=λD σ H=>c σ H λb H1=>if b=true then t D σ H1 else u D σ H1
def bJ {c:Expr}{a b:List Stmt}{tc:TT}(hc:PT X c tc)(ha:AZ X a t)(hb:AZ X b u):PS X (.If c a b pos) (Ug tc t u):=by
 intro ah s σ H D I h;refine wpAny_If (cR (hc ah s σ H _ I h) λd s1 bG=>?_);obtain⟨H1,I1,q1⟩:=bG;cases d with
 | true=>exact ha ah s1 σ H1 D I1 q1
 | false=>exact hb ah s1 σ H1 D I1 q1
def LN:TS:=λ_ _ _=>False
def iX:PS X st LN:=λ_ _ _ _ _ _ h=>h.elim
end
abbrev TG:=V->St->Hp->(St->Hp->Prop)->Prop
abbrev Lw:=List V->St->Hp->(St->Hp->Prop)->Prop
def PG (X:Cx)(target:Expr)(t:TG):Prop :=
 ∀(ah:List (Addr×Obj))(s:Shared)(σ:St)(H:Hp)(v:V)(u:Value)(Q:St->Hp->Prop),Inv X ah σ H s->RelV v u->t v σ H Q ->
  wpAny (model X.prog X.w) X.A (assign target X.env u) (λ_ s'=>∃σ' H',Inv X ah σ' H' s'/\Q σ' H') X.xe s
def RQ (X:Cx)(ts:List Expr)(t:Lw):Prop :=
 ∀(ah:List (Addr×Obj))(s:Shared)(σ:St)(H:Hp)(vs:List V)(us:List Value)(Q:St->Hp->Prop),Inv X ah σ H s->bf vs us->t vs σ H Q ->
  wpAny (model X.prog X.w) X.A (assignInOrder ((assignEach ts X.env).map (·.2)) us) (λ_ s'=>∃σ' H',Inv X ah σ' H' s'/\Q σ' H') X.xe s
abbrev Tv:=V->V->Hp->VK->Prop
def PIp (X:Cx)(op:Operator)(t:Tv):Prop :=
 ∀(ah:List (Addr×Obj))(s:Shared)(σ:St)(H:Hp)(x y:V)(v u:Value)(Q:VK),Inv X ah σ H s->RelV x v->RelV y u->t x y H Q ->
  wpAny (model X.prog X.w) X.A (inplaceOp op v u) (EP X ah σ Q) X.xe s
section
variable {X:Cx}{pos:Pos}
def dP (i:Nat):TG:=λv σ H Q=>Q (σ.set i (some v)) H
def aq {i:Nat}{x:Str}(hN:X.N.Nodup)(hi:X.N[i]?=some x)(hx:Loc X.env.scope x)(hf:X.fn x=true\/X.env.scope.names.lookup x=some .local:=by first | exact .inl rfl | exact .inr rfl | assumption):PG X (.Name x pos) (dP i):=by
 intro ah s σ H v u Q I r h;exact wpAny_assign_Name (rF I hN hi hx r (λs' I'=>⟨_,H,I',h⟩) hf)
def Dn:Lw:=λvs σ H Q=>vs=[]/\Q σ H
def jC (t:TG)(u:Lw):Lw:=λvs σ H Q=>Lv vs λv r=>t v σ H λσ' H'=>u r σ' H' Q
def cf:RQ X [] Dn:=by
 intro ah s σ H vs us Q I r h;obtain⟨e,h⟩:=h;subst e;cases r;exact assignInOrder_nil ⟨σ,H,I,h⟩
def aB {e:Expr}{es:List Expr}{t:TG}{u:Lw}(h1:PG X e t)(h2:RQ X es u)
  (hs:(assignEach (e::es) X.env).map (·.2)=assign e X.env::(assignEach es X.env).map (·.2):=by rfl):RQ X (e::es) (jC t u):=by
 intro ah s σ H vs us Q I r h;obtain⟨v,vr,e1,h⟩:=h;subst e1;cases r with
 | cons r rr =>
  rw [hs];refine assignInOrder_cons (cR (h1 ah s σ H _ _ _ I r h) λ_ s1 bG=>?_);obtain⟨σ1,H1,I1,q1⟩:=bG;exact h2 ah s1 σ1 H1 _ _ Q I1 rr q1
def AE (K:ba) (n:Nat)(t:Lw):TG:=λv σ H Q=>RL v (aS K H) n λxs=>t xs σ H Q
def g8 {es:List Expr}{k:Nat}{t:Lw}{n:Nat}(hc:X.calm=true)(h:RQ X es t)
  (hn:(assignEach es X.env).length=n:=by rfl)(yX:(assignEach es X.env).findIdx? (·.1)=none:=by rfl):PG X (.Tuple es k pos) (AE X.K n t):=by
 intro ah s σ H v u Q I r hw;obtain⟨a,xs,e1,hq,hl,hw⟩:=hw;subst e1;cases r;obtain⟨aT,rv,ht,hz⟩:=I.tuple hq;refine assign_Tuple_tuple (I.ok.hd hc) ht (by simp [hn,<-hl,rv.length]) yX λh' hx=>?_;have I1:Inv X ah σ H { s with heap:=h' }:=I.kept (t':=s.toks) λb o e=>hx b o (cw (bO e)) e;exact h ah _ σ H xs _ Q I1 (by simpa using rv) hw
def LQ (te:TE)(g:TG):TS:=λD σ H=>te σ H λx H1=>g x σ H1 D.nx
def Mn {tg e:Expr}{te:TE}{g:TG}(he:PE X e te)(hg:PG X tg g)(hs:swapsWithSole [tg] e pos.line X.env=pure false:=by rfl)(hw:swappedStores [tg] e X.env=pure none:=by rfl)
  (h1:(assignEach [tg] X.env).map (·.2)=[assign tg X.env]:=by rfl):PS X (.Assign [tg] e pos) (LQ te g):=by
 intro ah s σ H D I h;refine wpAny_Assign_stores (cR (he ah s σ H _ I h) λv s1 bG=>?_) hs hw;obtain⟨x,H1,I1,r1,q1⟩:=bG;rw [h1];exact cR (hg ah s1 σ H1 x v _ I1 r1 q1) λ_ s2 q=>q
def az {i:Nat}{x:Str}{e:Expr}{te:TE}{pos':Pos}(hN:X.N.Nodup)(hi:X.N[i]?=some x)(hx:Loc X.env.scope x)(he:PE X e te)(hs:swapsWith e (some (.Name x pos')) pos.line X.env=pure false:=by rfl)(hf:X.fn x=true\/X.env.scope.names.lookup x=some .local:=by first | exact .inl rfl | exact .inr rfl | assumption) :
  PS X (.Assign [.Name x pos'] e pos) (LQ te (dP i)):=by
 intro ah s σ H D I h;refine wpAny_Assign_Name (cR (he ah s σ H _ I h) λv s1 bG=>?_) hs;obtain⟨y,H1,I1,r1,q1⟩:=bG;exact rF I1 hN hi hx r1 (λs2 I2=>⟨_,H1,I2,q1⟩) hf
def Uk (i:Nat)(te:TE)(ti:Tv):TS:=λD σ H=>∃x,σ[i]?=some (some x)/\te σ H λy H1=>ti x y H1 λz H2=>D.nx (σ.set i (some z)) H2
def Mm {i:Nat}{x:Str}{e:Expr}{te:TE}{op:Operator}{ti:Tv}{pos':Pos}(hN:X.N.Nodup)(hi:X.N[i]?=some x)(hx:Loc X.env.scope x)(he:PE X e te)(ho:PIp X op ti)(hf:X.fn x=true\/X.env.scope.names.lookup x=some .local:=by first | exact .inl rfl | exact .inr rfl | assumption) :
  PS X (.AugAssign (.Name x pos') op e pos) (Uk i te ti):=by
 intro ah s σ H D I h;obtain⟨v,e1,h⟩:=h;obtain⟨m,hn,hl⟩:=I.loc;have vis:Tu X.env.scope x:=by rcases hx with k | k;exact .inl k;exact .inr (.inl k)
 obtain⟨u,r,l⟩:=hl i x v hi e1 vis;refine wpAny_AugAssign_Name ?_;have go:wpAny (model X.prog X.w) X.A (eval e X.env) (λw s₂=>wpAny (model X.prog X.w) X.A (inplaceOp op u w) (λr s₃=>wpAny (model X.prog X.w) X.A (storeName X.env x r) (λ_=>SP X ah D .next) X.xe s₃) X.xe s₂) X.xe s:=by
  refine cR (he ah s σ H _ I h) λw s1 bG=>?_;obtain⟨y,H1,I1,r1,q1⟩:=bG;refine cR (ho ah s1 σ H1 v y u w _ I1 r r1 q1) λz s2 bG=>?_;obtain⟨zv,H2,I2,r2,q2⟩:=bG;exact rF I2 hN hi hx r2 (λs3 I3=>⟨_,H2,I3,q2⟩) hf
 rcases l with ⟨hk,hm⟩ | ⟨hk,c,hc,jA⟩
 .exact vq I.ok.kind hk hn hm go
 rcases hk with hk | hk
 .exact wpAny_loadName_cell I.ok.kind hk hc jA go
 rcases hx with k | k
 .have:X.env.scope.names.lookup x=some .free:=hk;rw [k] at this;cases this
 have:X.env.scope.names.lookup x=some .free:=hk;rw [k] at this;cases this
def ipI (f:Int->Int->Int):Tv:=λx y H Q=>∃i j,x=.int i/\y=.int j/\Q (.int (f i j)) H
def MT:PIp X .Add (ipI λi j=>i+j):=by
 intro ah s σ H x y v u Q I r1 r2 h;obtain⟨i,j,e1,e2,q⟩:=h;subst e1;subst e2;obtain⟨t,rfl⟩:=r1;obtain⟨t',rfl⟩:=r2;exact iadd_int ⟨.int _,H,I.tok _,⟨_,rfl⟩,q⟩
end
section
variable {X:Cx}{pos:Pos}
def LJ (c:TT)(tb:TS):TS:=λD σ H=>∃W:Nat->St->Hp->Prop,(∃m,W m σ H)/\∀m σ H,W m σ H ->
 c σ H λb H1=>if b=true then ∃N:St->Hp->Prop,(∀σ' H',N σ' H'->∃m',m' < m/\W m' σ' H')/\tb { D with nx:=N,ct:=N,bk:=D.nx } σ H1 else D.nx σ H1
def kT {c:Expr}{body:List Stmt}{tc:TT}{tb:TS}(hp:PassesOwn (model X.prog X.w) X.A X.env X.xe)(hc:PT X c tc)(hb:AZ X body tb):PS X (.While c body [] pos) (LJ tc tb):=by
 intro ah s σ H D I h;obtain⟨W,⟨m0,w0⟩,turn⟩:=h;refine wpAny_While (codeAny_whileLoop (λn s'=>∃σ' H',Inv X ah σ' H' s'/\W n σ' H') ?_ m0 ⟨σ,H,I,w0⟩);rintro n s1 ⟨σ1,H1,I1,w1⟩;refine mn hp (cR (hc ah s1 σ1 H1 _ I1 (turn n σ1 H1 w1)) λb s2 bG=>?_);obtain⟨H2,I2,q2⟩:=bG;cases b with
 | true =>
  obtain⟨N,hN,q2⟩:=q2;rw [ax rfl];refine mn hp (cR (hb ah s2 σ1 H2 _ I2 q2) λf s3 q3=>?_);cases f with
  | next =>
   obtain⟨σ3,H3,I3,n3⟩:=q3;obtain⟨m',hm,w3⟩:=hN σ3 H3 n3;exact⟨m',hm,σ3,H3,I3,w3⟩
  | cont =>
   obtain⟨σ3,H3,I3,n3⟩:=q3;obtain⟨m',hm,w3⟩:=hN σ3 H3 n3;exact⟨m',hm,σ3,H3,I3,w3⟩
  | brk=>exact q3
  | ret v=>exact q3
 | false =>
  rw [ay eG];exact wpAny_execs_nil ⟨σ1,H2,I2,q2⟩
end
structure It where
 go:Nat->Hp->Prop
 mQ:Nat->Hp->V->Hp->Prop
 stop:Nat->Hp->Prop
def xb (X:Cx)(ah:List (Addr×Obj))(H:Hp)(b:Addr):Prop :=
 H b=none/\b≠X.env.locals/\b∉X.fs/\(b∈X.ex\/X.s₀.heap.objs.size<=b)/\(∀x c,X.env.cells.lookup x=some c->c≠b)/\∀p∈X.pn++ah,p.1≠b
def Inv.wO {X:Cx}{ah:List (Addr×Obj)}{σ:St}{H H':Hp}{s:Shared}{b:Addr}(I:Inv X ah σ H s)(hb:s.heap.objs.size<=b)(hn:H' b=none):xb X ah H' b:=by
 refine⟨hn,lV (gM I.lt hb),I.UY hb,.inr (dY I.sz hb),λx c e z=>?_,λp hp z=>?_⟩
 .obtain⟨v,q⟩:=I.cell x c e;exact absurd (gM q.lt (by rw [z];exact hb)) (kM _)
 exact absurd (gM (bO (I.pin p hp).1) (by rw [z];exact hb)) (kM _)
structure Turn (P:Program)(w:World)(K:ba)(tg:Expr)(J:It)(fp:List Addr)(it:Addr)(tn:Nat->Heap->Prop):Prop where
 mem:it∈fp
 obj:∀i h,tn i h->∀b∈fp,∃o,h.get? b=some o/\∀v,o.data≠.cell v
 keep:∀i h h',tn i h->(∀b∈fp,∀o,h.get? b=some o->h'.get? b=some o)->tn i h'
 item:∀(X:Cx),X.prog=P->X.w=w->X.K=K->X.calm=true->∀(i:Nat)(ah:List (Addr×Obj))(s:Shared)(σ:St)(H:Hp)(E:Value->Shared->Prop),Inv X ah σ H s->(∀b∈fp,xb X ah H b)->tn i s.heap->J.go i H ->
  wpAny (model P w) X.A (pyNext (.ref it)) (λr s1=>∃u,r=some u /\
   wpAny (model P w) X.A (letOwnedTupleGo tg (.ref it) u) (λ_ s2=>∃x H',Inv X ah σ H' s2/\RelV x u/\J.mQ i H x H'/\tn (i+1) s2.heap/\∀b∈fp,H' b=none) E s1) E s
 done:∀(X:Cx),X.prog=P->X.w=w->X.K=K->X.calm=true->∀(i:Nat)(ah:List (Addr×Obj))(s:Shared)(σ:St)(H:Hp)(E:Value->Shared->Prop),Inv X ah σ H s->(∀b∈fp,xb X ah H b)->tn i s.heap->J.stop i H ->
  wpAny (model P w) X.A (pyNext (.ref it)) (λr s1=>r=none/\Inv X ah σ H s1) E s
 self:∀(A:Around) (i:Nat)(s:Shared)(Q:Value->Shared->Prop)(E:Value->Shared->Prop),tn i s.heap->Q (.ref it) s->wpAny (model P w) A (pyIter (.ref it)) Q E s
abbrev TI:=St->Hp->(It->Hp->Prop)->Prop
def PIE (X:Cx)(ah:List (Addr×Obj))(σ:St)(tg:Expr)(R:It->Hp->Prop)(SE:Value)(s2:Shared):Prop :=
 ∃(it:Addr)(fp:List Addr)(tn:Nat->Heap->Prop)(J:It)(H':Hp),SE=.ref it/\Inv X ah σ H' s2/\Turn X.prog X.w X.K tg J fp it tn/\tn 0 s2.heap/\(∀b∈fp,xb X ah H' b)/\R J H'
def PI (X:Cx)(tg iter:Expr)(wi:TI):Prop :=
 ∀(ah:List (Addr×Obj))(s:Shared)(σ:St)(H:Hp)(R:It->Hp->Prop),Inv X ah σ H s->wi σ H R ->
  wpAny (model X.prog X.w) X.A (eval iter X.env) (λv s1=>wpAny (model X.prog X.w) X.A (pyIter v) (PIE X ah σ tg R) X.xe s1) X.xe s
def BV {M:Model}{A:Around}{E:Value->Shared->Prop}{s:Shared}{tg:Expr}{it:Addr}{u:Value}{o:Obj}{n:String}{vs:Array Value}{Q:Unit->Shared->Prop}(ho:s.heap.get? it=some o)(hc:o.cls=.type n)(hd:o.data=.fields vs)
  (hn:["enumerate","zip","dict_itemiterator","dict_reverseitemiterator","odict_iterator","itertools.zip_longest","itertools.pairwise"].contains n=false)(hQ:Q () s):wpAny M A (letOwnedTupleGo tg (.ref it) u) Q E s:=by
 unfold letOwnedTupleGo;cases tg <;> first
  | exact aP hQ
  | (cases u <;> first
    | exact aP hQ
    | (refine aE (wpAny_load ho ?_)
       rw [hc,hd];show wpAny M A (if (["enumerate","zip","dict_itemiterator","dict_reverseitemiterator","odict_iterator","itertools.zip_longest","itertools.pairwise"].contains n && vs[0]? == some (rawInt _))=true then _ else _) Q E s;rw [ay (by intro h;rw [hn,qW] at h;cases h)];exact aP hQ))
def ki (K:ba)(a:Addr):It :=
 ⟨λi H=>∃xs x,aH K H a xs/\xs[i]?=some x,λi H x H'=>H'=H/\∀xs,aH K H a xs->xs[i]?=some x,λi H=>∃xs,aH K H a xs/\xs.length<=i⟩
def oE (K:ba)(a:Addr):It :=
 ⟨λi H=>∃xs x,aS K H a xs/\xs[i]?=some x,λi H x H'=>H'=H/\∀xs,aS K H a xs->xs[i]?=some x,λi H=>∃xs,aS K H a xs/\xs.length<=i⟩
def OY (lo:Int) (n:Nat):It:=⟨λi _=>i < n,λi H x H'=>H'=H/\x=.int (lo+i),λi _=>n<=i⟩
def Cq {P:Program}{w:World}{K:ba}{tg:Expr}(a it:Addr):Turn P w K tg (ki K a) [it] it (λi h=>h.IsListIter it a i) where
 mem:=by simp
 obj:=λi h st b hb=>by
  have e:b=it:=by simpa using hb
  subst e;obtain⟨o,e,c,d⟩:=st;exact⟨o,e,λv z=>by rw [d] at z;cases z⟩
 keep:=λi h h' st k=>st.at λo e=>k it (by simp) o e
 item:=by
  intro X hP hw hK hc i ah s σ H E I hf st hg;subst hP hw hK;obtain⟨xs,x,hq,hx⟩:=hg;obtain⟨aT,rv,p,hz⟩:=I.list hq;obtain⟨u,hu,ru⟩:=rv.get hx;obtain⟨f0,f1,f2,f3,f4,f5⟩:=hf it (by simp);refine wpAny_pyNext_list_item st p.isList (x:=u) (by simpa using hu) λh' xi sb=>?_;have I1:Inv X ah σ H { s with heap:=h' }:=I.turned (t':=s.toks) (λb o hb e=>(sb.2 b hb).trans e) f0 f1 f3 f4 f5;obtain⟨o,e,c,d⟩:=id xi;exact⟨u,rfl,BV (s:={ s with heap:=h' }) e c d nofun ⟨x,H,I1,ru,⟨rfl,λys hy=>by rw [I.r_ hy hq];exact hx⟩,xi,λb hb=>(hf b hb).1⟩⟩
 done:=by
  intro X hP hw hK hc i ah s σ H E I hf st hg;subst hP hw hK;obtain⟨xs,hq,hx⟩:=hg;obtain⟨aT,rv,p,hz⟩:=I.list hq;obtain⟨f0,f1,f2,f3,f4,f5⟩:=hf it (by simp);have hl:=rv.length;exact vx (I.ok.hd hc) st p.isList (by simp;omega) λh' eb=>⟨rfl,I.turned (t':=s.toks) (λb o hb e=>eb b o hb e) f0 f1 f3 f4 f5⟩
 self:=λ_ _ _ _ _ st h=>wpAny_pyIter_listiter st h
def zw {P:Program}{w:World}{K:ba}{tg:Expr}(a it:Addr):Turn P w K tg (oE K a) [it] it (λi h=>h.IsTupleIter it a i) where
 mem:=by simp
 obj:=λi h st b hb=>by
  have e:b=it:=by simpa using hb
  subst e;obtain⟨o,e,c,d⟩:=st;exact⟨o,e,λv z=>by rw [d] at z;cases z⟩
 keep:=λi h h' st k=>st.at λo e=>k it (by simp) o e
 item:=by
  intro X hP hw hK hc i ah s σ H E I hf st hg;subst hP hw hK;obtain⟨xs,x,hq,hx⟩:=hg;obtain⟨aT,rv,p,hz⟩:=I.tuple hq;obtain⟨u,hu,ru⟩:=rv.get hx;obtain⟨f0,f1,f2,f3,f4,f5⟩:=hf it (by simp);refine wpAny_pyNext_tuple_item st (show s.heap.IsTuple a aT.toArray from p) (x:=u) (by simpa using hu) λh' xi sb=>?_;have I1:Inv X ah σ H { s with heap:=h' }:=I.turned (t':=s.toks) (λb o hb e=>(sb.2 b hb).trans e) f0 f1 f3 f4 f5;obtain⟨o,e,c,d⟩:=id xi;exact⟨u,rfl,BV (s:={ s with heap:=h' }) e c d nofun ⟨x,H,I1,ru,⟨rfl,λys hy=>by rw [I.uh hy hq];exact hx⟩,xi,λb hb=>(hf b hb).1⟩⟩
 done:=by
  intro X hP hw hK hc i ah s σ H E I hf st hg;subst hP hw hK;obtain⟨xs,hq,hx⟩:=hg;obtain⟨aT,rv,p,hz⟩:=I.tuple hq;obtain⟨f0,f1,f2,f3,f4,f5⟩:=hf it (by simp);have hl:=rv.length;exact wpAny_pyNext_tuple_end (I.ok.hd hc) st (show s.heap.IsTuple a aT.toArray from p) (by simp;omega) λh' eb=>⟨rfl,I.turned (t':=s.toks) (λb o hb e=>eb b o hb e) f0 f1 f3 f4 f5⟩
 self:=λ_ _ _ _ _ st h=>wpAny_pyIter_tupleiter st h
def zx {P:Program}{w:World}{K:ba}{tg:Expr}(it:Addr) (lo:Int) (n:Nat):Turn P w K tg (OY lo n) [it] it (λi h=>IsRangeIter h it (lo+(i:Nat) * 1) ((n:Int) - (i:Nat)) 1) where
 mem:=by simp
 obj:=λi h st b hb=>by
  have e:b=it:=by simpa using hb
  subst e;exact⟨_,st,λv z=>by
   have z':Data.fields _=Data.cell v:=z;cases z'⟩
 keep:=λi h h' st k=>k it (by simp) _ st
 item:=by
  intro X hP hw hK hc i ah s σ H E I hf st hg;subst hP hw hK;obtain⟨f0,f1,f2,f3,f4,f5⟩:=hf it (by simp);have W:=Walks.range (prog:=X.prog) (w:=X.w) (I.ok.hd hc) it lo 1 n;refine W.item i s _ _ hg st λv h' tk hv xi kk=>?_;obtain⟨t,rfl⟩:=hv;have I1:Inv X ah σ H { s with heap:=h',toks:=tk }:=I.turned (λb o hb e=>kk b o (by simpa using hb) e) f0 f1 f3 f4 f5;refine⟨_,rfl,BV (s:={ s with heap:=h',toks:=tk }) (n := "range_iterator") xi rfl rfl nofun ⟨.int (lo+i),H,I1,⟨t,?_⟩,⟨rfl,rfl⟩,xi,λb hb=>(hf b hb).1⟩⟩;rw [Int.mul_one]
 done:=by
  intro X hP hw hK hc i ah s σ H E I hf st hg;subst hP hw hK;obtain⟨f0,f1,f2,f3,f4,f5⟩:=hf it (by simp);exact wpAny_pyNext_range_end (I.ok.hd hc) st (by have:n<=i:=hg;omega) λh' eb=>⟨rfl,I.turned (t':=s.toks) (λb o hb e=>eb b o hb e) f0 f1 f3 f4 f5⟩
 self:=λ_ _ _ _ _ st h=>wpAny_pyIter_rangeiter st h
section
variable {X:Cx}{tg:Expr}
def Qv (K:ba)(tl:TE):TI:=λσ H R=>tl σ H λx H1=>Tt x (λa=>∃xs,aH K H1 a xs) λa=>R (ki K a) H1
def Vw (K:ba)(tl:TE):TI:=λσ H R=>tl σ H λx H1=>Tt x (λa=>∃xs,aS K H1 a xs) λa=>R (oE K a) H1
def a8 {l:Expr}{tl:TE}(hl:PE X l tl):PI X tg l (Qv X.K tl):=by
 intro ah s σ H R I h;refine cR (hl ah s σ H _ I h) λv s1 bG=>?_;obtain⟨x,H1,I1,r1,q1⟩:=bG;obtain⟨a,e,⟨xs,hq⟩,q⟩:=q1;subst e;cases r1;obtain⟨aT,rv,p,hz⟩:=I1.list hq;refine oR p.isList ?_;refine⟨s1.heap.objs.size,[s1.heap.objs.size],_,_,H1,rfl,I1.kept (t':=s1.toks) λb o e=>cv _ e,Cq a _,⟨_,d0 _ rfl,rfl,rfl⟩,λb hb=>?_,q⟩;have e:b=s1.heap.objs.size:=by simpa using hb
 subst e;exact I1.wO (aF _) (I1.cx.fresh (aF _))
def f_ {l:Expr}{tl:TE}(hl:PE X l tl):PI X tg l (Vw X.K tl):=by
 intro ah s σ H R I h;refine cR (hl ah s σ H _ I h) λv s1 bG=>?_;obtain⟨x,H1,I1,r1,q1⟩:=bG;obtain⟨a,e,⟨xs,hq⟩,q⟩:=q1;subst e;cases r1;obtain⟨aT,rv,p,hz⟩:=I1.tuple hq;refine vh (show s1.heap.IsTuple a aT.toArray from p) ?_;refine⟨s1.heap.objs.size,[s1.heap.objs.size],_,_,H1,rfl,I1.kept (t':=s1.toks) λb o e=>cv _ e,zw a _,⟨_,d0 _ rfl,rfl,rfl⟩,λb hb=>?_,q⟩;have e:b=s1.heap.objs.size:=by simpa using hb
 subst e;exact I1.wO (aF _) (I1.cx.fresh (aF _))
def Fj {ah:List (Addr×Obj)}{σ:St}{H:Hp}{s:Shared}{R:It->Hp->Prop}{E:Value->Shared->Prop}{lo hi:Int}{t u v:Tok}{tk:Nat}(I:Inv X ah σ H s)(h1:-(2 ^ 62)<=lo)(h2:lo < 2 ^ 62)(h3:-(2 ^ 62)<=hi)(h4:hi < 2 ^ 62)
  (q:R (OY lo (hi - lo).toNat) H):wpAny (model X.prog X.w) X.A (pyIter (.ref s.heap.objs.size)) (PIE X ah σ tg R) E { s with heap:=s.heap.push { cls:=.type "range",data:=.fields #[.int lo t,.int hi u,.int 1 v] },toks:=tk }:=by
 refine wpAny_pyIter_range (IsRange.new ..) (small_one h1 h2 h3 h4) ?_;have I1:Inv X ah σ H { s with heap:=s.heap.push { cls:=.type "range",data:=.fields #[.int lo t,.int hi u,.int 1 v] },toks:=tk }:=I.kept λb o e=>cv _ e;refine⟨(s.heap.push { cls:=.type "range",data:=.fields #[.int lo t,.int hi u,.int 1 v] }).objs.size,[(s.heap.push { cls:=.type "range",data:=.fields #[.int lo t,.int hi u,.int 1 v] }).objs.size],_,_,H,rfl,
  I1.kept (t':=tk) λb o e=>cv _ e,zx _ lo (hi - lo).toNat,?_,λb hb=>?_,q⟩
 .have e1:lo+((0:Nat):Int) * 1=lo:=by simp
  have e2:(((hi - lo).toNat:Nat):Int) - ((0:Nat):Int)=Builtin.Range.rangeSize lo hi 1:=by rw [rangeSize_one];split <;> omega
  show IsRangeIter _ _ (lo+((0:Nat):Int) * 1) ((((hi - lo).toNat:Nat):Int) - ((0:Nat):Int)) 1;rw [e1,e2];exact d0 _ rfl
 have e:b=(s.heap.push { cls:=.type "range",data:=.fields #[.int lo t,.int hi u,.int 1 v] }).objs.size:=by simpa using hb
 subst e;exact I1.wO (aF _) (I1.cx.fresh (aF _))
def Qu (ta:TA):TI:=λσ H R=>ta σ H λvs H1=>XRg vs λj=>R (OY 0 j.toNat) H1
def gO {a:Expr}{ta:TA}{p pos:Pos}(hg:Gl X "range")(hm:X.mg "range"=none)(ha:PA X [a] ta)(hs:starEach [a] X.env=[(false,eval a X.env)]:=by rfl):PI X tg (.Call (.Name "range" p) [a] [] pos) (Qu ta):=by
 intro ah s σ H R I h;refine Call_ (jW I hg hm boot_range (vG (cR (ha pos ah s σ H _ I h) λus s1 bG=>?_) hs rfl));obtain⟨vs,H1,I1,r1,q1⟩:=bG;obtain⟨j,e,q1,q2,q⟩:=q1;subst e;cases r1 with
 | cons r rr =>
  cases rr;obtain⟨t,rfl⟩:=r;exact call_range_1 (Fj I1 ∅ ∅ q1 q2 (by simpa using q))
def Uh (wi:TI)(g:TG)(tb:TS):TS:=λD σ H=>wi σ H λJ H1=>∃W:Nat->Nat->St->Hp->Prop,(∃m,W 0 m σ H1)/\∀i m σ H,W i m σ H ->
 (J.stop i H/\D.nx σ H)\/(J.go i H/\∃N:St->Hp->Prop,(∀σ' H',N σ' H'->∃m',m' < m/\W (i+1) m' σ' H')/\∀x H',J.mQ i H x H'->g x σ H' λσ2 H2=>tb { D with nx:=N,ct:=N,bk:=D.nx } σ2 H2)
def pj (fp:List Addr)(h:Heap):List (Addr×Obj):=fp.filterMap λb=>(h.get? b).map λo=>(b,o)
def ik {fp:List Addr}{h:Heap}{b:Addr}{o:Obj}(hb:b∈fp)(e:h.get? b=some o):(b,o)∈pj fp h:=List.mem_filterMap.mpr ⟨b,hb,by rw [e];rfl⟩
def CU {fp:List Addr}{h:Heap}{p:Addr×Obj}(hp:p∈pj fp h):p.1∈fp/\h.get? p.1=some p.2:=by
 obtain⟨b,hb,e⟩:=List.mem_filterMap.mp hp;cases q:h.get? b with
 | none=>rw [q] at e;cases e
 | some o =>
  rw [q] at e;have e':(b,o)=p:=iu e;subst e';exact⟨hb,q⟩
def Inv.pinned {ah:List (Addr×Obj)}{σ:St}{H:Hp}{s:Shared}{fp:List Addr}(I:Inv X ah σ H s)(hf:∀b∈fp,xb X ah H b)(ho:∀b∈fp,∃o,s.heap.get? b=some o/\∀v,o.data≠.cell v):Inv X (ah++pj fp s.heap) σ H s :=
 I.BH λp hp=>(bR.mp hp).elim (λz=>I.pin p (fR _ z)) λz=>by
  obtain⟨hb,e⟩:=CU z;obtain⟨f0,f1,f2,_⟩:=hf p.1 hb;obtain⟨o,e',d⟩:=ho p.1 hb;rw [e] at e';cases e';exact⟨e,f0,f1,f2,d⟩
def Inv.kN {ah pl:List (Addr×Obj)}{σ:St}{H:Hp}{s:Shared}(I:Inv X (ah++pl) σ H s):Inv X ah σ H s:=I.BH λp hp=>I.pin p (fR _ (ib _ hp))
def bM {iter:Expr}{body:List Stmt}{wi:TI}{g:TG}{tb:TS}{pos:Pos}(hp:PassesOwn (model X.prog X.w) X.A X.env X.xe)(hc:X.calm=true)(hi:PI X tg iter wi)(hg:PG X tg g)(hb:AZ X body tb)
  (hs:∀x,foldedSetIterable iter X.env x=pure x:=by intro _;rfl):PS X (.For tg iter body [] pos) (Uh wi g tb):=by
 intro ah s σ H D I h;refine wpAny_For (cR (hi ah s σ H _ I h) λv s1 h1=>cR h1 λSE s2 h2=>?_) hs;obtain⟨it,fp,tn,J,H2,e,I2,T,Ib,f2,W,⟨m0,w0⟩,turn⟩:=h2;subst e;have rG:∀{H':Hp},(∀b∈fp,H' b=none)->∀b∈fp,xb X ah H' b:=λhn b hb=>⟨hn b hb,(f2 b hb).2⟩;refine codeAny_forLoop_any (λn s'=>∃i σ' H',Inv X ah σ' H' s'/\tn i s'.heap/\(∀b∈fp,H' b=none)/\W i n σ' H') ?_ m0 ⟨0,σ,H2,I2,Ib,λb hb=>(f2 b hb).1,w0⟩;rintro n s3 ⟨i,σ3,H3,I3,Pt,ZM,w3⟩;rcases turn i n σ3 H3 w3 with ⟨stop,qn⟩ | ⟨go,N,hN,step⟩
 .refine mn hp (cR (T.done X rfl rfl rfl hc i ah s3 σ3 H3 X.xe I3 (rG ZM) Pt stop) λr s4 ⟨hr,I4⟩=>?_);subst hr;exact wpAny_execs_nil ⟨σ3,H3,I4,qn⟩
 refine mn hp (cR (T.item X rfl rfl rfl hc i ah s3 σ3 H3 X.xe I3 (rG ZM) Pt go) λr s4 ⟨u,hr,h4⟩=>?_);subst hr;refine mn hp (cR h4 λ_ s5 bG=>?_);obtain⟨x,H5,I5,r5,y5,Cv,Ra⟩:=bG;have I5':=I5.pinned (rG Ra) (T.obj _ _ Cv);refine mn hp (cR (hg _ s5 σ3 H5 x u _ I5' r5 (step x H5 y5)) λ_ s6 bG=>?_);obtain⟨σ6,H6,I6,q6⟩:=bG;refine mn hp (cR (hb _ s6 σ6 H6 _ I6 q6) λf s7 q7=>?_);have again:∀{σ7:St}{H7:Hp},Inv X (ah++pj fp s5.heap) σ7 H7 s7->N σ7 H7->∃m,m < n/\∃i σ' H',Inv X ah σ' H' s7/\tn i s7.heap/\(∀b∈fp,H' b=none)/\W i m σ' H':=λ{σ7 H7} I7 n7=>by
  obtain⟨m',hm,w7⟩:=hN σ7 H7 n7;refine⟨m',hm,i+1,σ7,H7,I7.kN,T.keep _ _ _ Cv λb hb o e=>(I7.pin (b,o) (fR _ (fR _ (ik hb e)))).1,λb hb=>?_,w7⟩;obtain⟨o,e,d⟩:=T.obj _ _ Cv b hb;exact(I7.pin (b,o) (fR _ (fR _ (ik hb e)))).2.1
 cases f with
 | next=>obtain⟨σ7,H7,I7,n7⟩:=q7;exact again I7 n7
 | cont=>obtain⟨σ7,H7,I7,n7⟩:=q7;exact again I7 n7
 | brk=>obtain⟨σ7,H7,I7,q7⟩:=q7;exact⟨σ7,H7,I7.kN,q7⟩
 | ret v=>obtain⟨x7,σ7,H7,I7,r7,q7⟩:=q7;exact⟨x7,σ7,H7,I7.kN,r7,q7⟩
end
def cK {K:ba}{a:Addr}{xs:List V}{g:TG}{tb:TS}{D:Ends}{σ:St}{H:Hp}(Pv:Nat->St->Hp->Prop)(h0:Pv 0 σ H)(hl:∀i σ H,i<=xs.length->Pv i σ H->aH K H a xs)
  (hs:∀i x σ H,xs[i]?=some x->Pv i σ H->g x σ H λσ2 H2=>tb { D with nx:=Pv (i+1),ct:=Pv (i+1),bk:=D.nx } σ2 H2)(hd:∀σ H,Pv xs.length σ H->D.nx σ H) :
  ∃W:Nat->Nat->St->Hp->Prop,(∃m,W 0 m σ H)/\∀i m σ H,W i m σ H ->
   ((ki K a).stop i H/\D.nx σ H)\/((ki K a).go i H/\∃N:St->Hp->Prop,(∀σ' H',N σ' H'->∃m',m' < m/\W (i+1) m' σ' H')/\∀x H',(ki K a).mQ i H x H'->g x σ H' λσ2 H2=>tb { D with nx:=N,ct:=N,bk:=D.nx } σ2 H2):=by
 refine⟨λi m σ H=>m=xs.length - i/\i<=xs.length/\Pv i σ H,⟨xs.length,by simp,dX _,h0⟩,?_⟩;rintro i m σ H ⟨rfl,hi,p⟩;have q:=hl i σ H hi p;by_cases kn:i < xs.length
 .refine .inr ⟨⟨xs,xs[i],q,by simp [kn]⟩,Pv (i+1),λσ' H' p'=>⟨xs.length - (i+1),∅,rfl,kn,p'⟩,λx H' y=>?_⟩;obtain⟨e,y⟩:=y;subst e;exact hs i x σ _ (y xs q) p
 have e:i=xs.length:=by omega
 subst e;exact .inl ⟨⟨xs,q,aF _⟩,hd σ H p⟩
def oq {K:ba}{a:Addr}{xs:List V}{g:TG}{tb:TS}{D:Ends}{σ:St}{H:Hp}(Pv:Nat->St->Hp->Prop)(h0:Pv 0 σ H)(hl:∀i σ H,i<=xs.length->Pv i σ H->aS K H a xs)
  (hs:∀i x σ H,xs[i]?=some x->Pv i σ H->g x σ H λσ2 H2=>tb { D with nx:=Pv (i+1),ct:=Pv (i+1),bk:=D.nx } σ2 H2)(hd:∀σ H,Pv xs.length σ H->D.nx σ H) :
  ∃W:Nat->Nat->St->Hp->Prop,(∃m,W 0 m σ H)/\∀i m σ H,W i m σ H ->
   ((oE K a).stop i H/\D.nx σ H)\/((oE K a).go i H/\∃N:St->Hp->Prop,(∀σ' H',N σ' H'->∃m',m' < m/\W (i+1) m' σ' H')/\∀x H',(oE K a).mQ i H x H'->g x σ H' λσ2 H2=>tb { D with nx:=N,ct:=N,bk:=D.nx } σ2 H2):=by
 refine⟨λi m σ H=>m=xs.length - i/\i<=xs.length/\Pv i σ H,⟨xs.length,by simp,dX _,h0⟩,?_⟩;rintro i m σ H ⟨rfl,hi,p⟩;have q:=hl i σ H hi p;by_cases kn:i < xs.length
 .refine .inr ⟨⟨xs,xs[i],q,by simp [kn]⟩,Pv (i+1),λσ' H' p'=>⟨xs.length - (i+1),∅,rfl,kn,p'⟩,λx H' y=>?_⟩;obtain⟨e,y⟩:=y;subst e;exact hs i x σ _ (y xs q) p
 have e:i=xs.length:=by omega
 subst e;exact .inl ⟨⟨xs,q,aF _⟩,hd σ H p⟩
def gQ {lo:Int}{n:Nat}{g:TG}{tb:TS}{D:Ends}{σ:St}{H:Hp}(Pv:Nat->St->Hp->Prop)(h0:Pv 0 σ H)
  (hs:∀i σ H,i < n->Pv i σ H->g (.int (lo+i)) σ H λσ2 H2=>tb { D with nx:=Pv (i+1),ct:=Pv (i+1),bk:=D.nx } σ2 H2)(hd:∀σ H,Pv n σ H->D.nx σ H) :
  ∃W:Nat->Nat->St->Hp->Prop,(∃m,W 0 m σ H)/\∀i m σ H,W i m σ H ->
   ((OY lo n).stop i H/\D.nx σ H)\/((OY lo n).go i H/\∃N:St->Hp->Prop,(∀σ' H',N σ' H'->∃m',m' < m/\W (i+1) m' σ' H')/\∀x H',(OY lo n).mQ i H x H'->g x σ H' λσ2 H2=>tb { D with nx:=N,ct:=N,bk:=D.nx } σ2 H2):=by
 refine⟨λi m σ H=>m=n - i/\i<=n/\Pv i σ H,⟨n,by simp,dX _,h0⟩,?_⟩;rintro i m σ H ⟨rfl,hi,p⟩;by_cases kn:i < n
 .refine .inr ⟨kn,Pv (i+1),λσ' H' p'=>⟨n - (i+1),∅,rfl,kn,p'⟩,λx H' y=>?_⟩;obtain⟨e,y⟩:=y;subst e y;exact hs i σ _ kn p
 have e:i=n:=by omega
 subst e;exact .inl ⟨aF _,hd σ H p⟩
abbrev R2:=V->V->Hp->VK->Prop
def jH (X:Cx)(f:Value->Value->Sem Value)(r:R2):Prop :=
 ∀(ah:List (Addr×Obj))(s:Shared)(σ:St)(H:Hp)(x y:V)(v u:Value)(Q:VK),Inv X ah σ H s->RelV x v->RelV y u->r x y H Q ->
  wpAny (model X.prog X.w) X.A (f v u) (EP X ah σ Q) X.xe s
def XW (X:Cx)(f:Value->Sem Value)(r:V->Hp->VK->Prop):Prop :=
 ∀(ah:List (Addr×Obj))(s:Shared)(σ:St)(H:Hp)(x:V)(v:Value)(Q:VK),Inv X ah σ H s->RelV x v->r x H Q ->
  wpAny (model X.prog X.w) X.A (f v) (EP X ah σ Q) X.xe s
def iD (X:Cx)(f:Value)(r:List V->Hp->VK->Prop):Prop :=
 ∀(ah:List (Addr×Obj))(s:Shared)(σ:St)(H:Hp)(xs:List V)(us:List Value)(Q:VK),Inv X ah σ H s->bf xs us->r xs H Q ->
  wpAny (model X.prog X.w) X.A (call f us) (EP X ah σ Q) X.xe s
def XX (X:Cx)(r:V->Hp->(Bool->Hp->Prop)->Prop):Prop :=
 ∀(ah:List (Addr×Obj))(s:Shared)(σ:St)(H:Hp)(x:V)(v:Value)(Q:Bool->Hp->Prop),Inv X ah σ H s->RelV x v->r x H Q ->
  wpAny (model X.prog X.w) X.A (truthy v) (TP X ah σ Q) X.xe s
def Sb (r:R2)(ta tb:TE):TE:=λσ H Q=>ta σ H λx H1=>tb σ H1 λy H2=>r x y H2 Q
def tUn (r:V->Hp->VK->Prop)(ta:TE):TE:=λσ H Q=>ta σ H λx H1=>r x H1 Q
def rI (C:Int->Int->Prop)(g:Int->Int->V):R2:=λx y H Q=>XI2 x y C λi j=>Q (g i j) H
def Mj (g:Int->Int->V):R2:=λx y H Q=>XI0 x y λi j=>Q (g i j) H
def rU (g:Int->V):V->Hp->VK->Prop:=λx H Q=>XR x λi=>Q (g i) H
section
variable {X:Cx}{a b c:Expr}{ta tb tc:TE}{pos:Pos}
def NY (ha:PE X a ta)(hb:PE X b tb){ah:List (Addr×Obj)}{s:Shared}{σ:St}{H:Hp}{R:V->V->Hp->Prop}(I:Inv X ah σ H s)
  (h:ta σ H λx H1=>tb σ H1 λy H2=>R x y H2){Q:Value->Shared->Prop}{f:Value->Value->Sem Value}
  (hf:∀v u s2 x y H2,Inv X ah σ H2 s2->RelV x v->RelV y u->R x y H2->wpAny (model X.prog X.w) X.A (f v u) Q X.xe s2) :
  wpAny (model X.prog X.w) X.A (eval a X.env) (λv s₁=>wpAny (model X.prog X.w) X.A (eval b X.env) (λu s₂=>wpAny (model X.prog X.w) X.A (f v u) Q X.xe s₂) X.xe s₁) X.xe s:=by
 refine cR (ha ah s σ H _ I h) λv s1 bG=>?_;obtain⟨x,H1,I1,r1,q1⟩:=bG;refine cR (hb ah s1 σ H1 _ I1 q1) λu s2 bG=>?_;obtain⟨y,H2,I2,r2,q2⟩:=bG;exact hf v u s2 x y H2 I2 r1 r2 q2
def aI {op:Operator}{r:R2}(ho:jH X (binaryOp op) r)(ha:PE X a ta)(hb:PE X b tb):PE X (.BinOp a op b pos) (Sb r ta tb):=by
 intro ah s σ H Q I h;exact wpAny_BinOp (NY ha hb I h λv u s2 x y H2 I2 rx ry q=>ho ah s2 σ H2 x y v u Q I2 rx ry q)
def ka {op:UnaryOp}{r:V->Hp->VK->Prop}(ho:XW X (unaryOp op) r)(ha:PE X a ta):PE X (.UnaryOp op a pos) (tUn r ta):=by
 intro ah s σ H Q I h;refine UnaryOp_ (cR (ha ah s σ H _ I h) λv s1 bG=>?_);obtain⟨x,H1,I1,r1,q1⟩:=bG;exact ho ah s1 σ H1 x v Q I1 r1 q1
def Su {f:Value->Value->Sem Value}{C:Int->Int->Prop}{g:Int->Int->Int}
  (rule:∀(i j:Int)(t u:Tok)(s:Shared)(Q:Value->Shared->Prop)(E:Value->Shared->Prop),C i j->Q (.int (g i j) s.toks) { s with toks:=s.toks+1 }->wpAny (model X.prog X.w) X.A (f (.int i t) (.int j u)) Q E s) :
  jH X f (rI C λi j=>.int (g i j)):=by
 intro ah s σ H x y v u Q I rx ry h;obtain⟨i,j,rfl,rfl,hc,q⟩:=h;obtain⟨t,rfl⟩:=rx;obtain⟨t',rfl⟩:=ry;exact rule i j t t' s _ _ hc ⟨.int (g i j),H,I.tok _,⟨_,rfl⟩,q⟩
def PY {f:Value->Value->Sem Value}{g:Int->Int->Int}
  (rule:∀(i j:Int)(t u:Tok)(s:Shared)(Q:Value->Shared->Prop)(E:Value->Shared->Prop),Q (.int (g i j) s.toks) { s with toks:=s.toks+1 }->wpAny (model X.prog X.w) X.A (f (.int i t) (.int j u)) Q E s) :
  jH X f (Mj λi j=>.int (g i j)):=by
 intro ah s σ H x y v u Q I rx ry h;obtain⟨i,j,rfl,rfl,q⟩:=h;obtain⟨t,rfl⟩:=rx;obtain⟨t',rfl⟩:=ry;exact rule i j t t' s _ _ ⟨.int (g i j),H,I.tok _,⟨_,rfl⟩,q⟩
def Mu {f:Value->Value->Sem Value}{g:Int->Int->Bool}
  (rule:∀(i j:Int)(t u:Tok)(s:Shared)(Q:Value->Shared->Prop)(E:Value->Shared->Prop),Q (.bool (g i j)) s->wpAny (model X.prog X.w) X.A (f (.int i t) (.int j u)) Q E s) :
  jH X f (Mj λi j=>.bl (g i j)):=by
 intro ah s σ H x y v u Q I rx ry h;obtain⟨i,j,rfl,rfl,q⟩:=h;obtain⟨t,rfl⟩:=rx;obtain⟨t',rfl⟩:=ry;exact rule i j t t' s _ _ ⟨.bl (g i j),H,I,rfl,q⟩
def X_ (i j:Int):Prop:=0 < j/\j < 1073741824
def X9 (i j:Int):Prop:=0<=j/\j<=1000000/\i.natAbs < 2 ^ 64
def N_ (i j:Int):Prop:=(-(2 ^ 64) < i/\i < 2 ^ 64)\/(-(2 ^ 64) < j/\j < 2 ^ 64)
def N_.ok {i j:Int}(h:N_ i j):IntMulOk i j:=by
 rcases h with ⟨h1,h2⟩ | ⟨h1,h2⟩
 .exact .of_left (intBits_le_64 h1 h2)
 exact .of_right (intBits_le_64 h1 h2)
def dw:jH X (binaryOp .Add) (Mj λi j=>.int (i+j)):=PY λ_ _ _ _ _ _ _ q=>add_int q
def mC:jH X (binaryOp .Sub) (Mj λi j=>.int (i - j)):=PY λ_ _ _ _ _ _ _ q=>sub_int q
def FC:jH X (binaryOp .Mult) (rI N_ λi j=>.int (i * j)):=Su λ_ _ _ _ _ _ _ hc q=>mul_int q hc.ok
def fU:jH X (binaryOp .FloorDiv) (rI X_ λi j=>.int (i / j)):=Su λi j _ _ _ _ _ hc q=>by
 have h1:(0:Int) < j:=hc.1;have h2:j < 1073741824:=hc.2;exact floordiv_int ∅ (by rw [Int.fdiv_eq_ediv_of_nonneg i ∅];exact q) (.inl (PyProof.noPylong_small ∅))
def df:jH X (binaryOp .Mod) (rI (λ_ j=>0 < j) λi j=>.int (i % j)):=Su λi j _ _ _ _ _ hc q=>by
 have h1:(0:Int) < j:=hc;exact mod_int' ∅ (by rw [Int.fmod_eq_emod_of_nonneg i ∅];exact q)
def Ms:jH X (binaryOp .Pow) (rI X9 λi j=>.int (i ^ j.toNat)):=Su λ_ _ _ _ _ _ _ hc q=>pow_int_small hc.1 hc.2.1 hc.2.2 q
def unI {f:Value->Sem Value}{g:Int->Int}
  (rule:∀(i:Int)(t:Tok)(s:Shared)(Q:Value->Shared->Prop)(E:Value->Shared->Prop),Q (.int (g i) s.toks) { s with toks:=s.toks+1 }->wpAny (model X.prog X.w) X.A (f (.int i t)) Q E s) :
  XW X f (rU λi=>.int (g i)):=by
 intro ah s σ H x v Q I rx h;obtain⟨i,rfl,q⟩:=h;obtain⟨t,rfl⟩:=rx;exact rule i t s _ _ ⟨.int (g i),H,I.tok _,⟨_,rfl⟩,q⟩
def iE:XW X (unaryOp .USub) (rU λi=>.int (-i)):=unI λ_ _ _ _ _ q=>neg_int q
end
def Py:V->V->Bool
 | .fh,.fh=>true | .fh,.int _=>true | .int _,.fh=>true | .fh,.bl _=>true | .bl _,.fh=>true | .fh,.str _=>true | .str _,.fh=>true
 | .int _,.int _=>true | .bl _,.bl _=>true | .str _,.str _=>true | .AV _,.AV _=>true
 | .int _,.str _=>true | .str _,.int _=>true | .bl _,.str _=>true | .str _,.bl _=>true
 | _,_=>false
def rEq:R2:=λx y H Q=>Py x y=true/\Q (.bl (decide (x=y))) H
def rNe:R2:=λx y H Q=>Py x y=true/\Q (.bl (!decide (x=y))) H
def B3 {i j:Int}:decide (V.int i=V.int j)=(i == j):=by
 rw [mT];simp
def Hs {i j:Bool}:decide (V.bl i=V.bl j)=(i == j):=by
 rw [mT];simp
def B2 {i j:Str}:decide (V.str i=V.str j)=(i == j):=by
 rw [mT];simp
def B4 {i j:Array UInt8}:decide (V.AV i=V.AV j)=(i.toList == j.toList):=by
 rw [mT];cases i;cases j;simp
section
variable {X:Cx}{a b c:Expr}{ta tb tc:TE}{pos:Pos}
def cE {ah:List (Addr×Obj)}{σ:St}{H:Hp}{s:Shared}{Q:VK}{k k':Bool}(I:Inv X ah σ H s)(q:Q (.bl k) H)(e:k=k'):EP X ah σ Q (.bool k') s:=by
 subst e;exact⟨.bl k,H,I,rfl,q⟩
def hU:jH X (compareOp .Eq) rEq:=by
 intro ah s σ H x y v u Q I rx ry h;obtain⟨hs,q⟩:=h;cases x with
 | fh =>
  cases rx;cases y with
  | fh=>cases ry;exact PySem.EqNone.eq_none_none (cE I q (by simp))
  | bl j=>cases ry;exact PySem.EqNone.eq_none_bool (cE I q (by simp))
  | int j=>obtain⟨t',rfl⟩:=ry;exact PySem.EqNone.eq_none_int (cE I q (by simp))
  | str j=>obtain⟨t',rfl⟩:=ry;exact PySem.EqNone.eq_none_str (cE I q (by simp))
  | _=>exact absurd (show false=true from hs) eG
 | bl i =>
  cases rx;cases y with
  | fh=>cases ry;exact PySem.EqNone.eq_bool_none (cE I q (by simp))
  | bl j=>cases ry;exact eq_bool (cE I q Hs)
  | str j=>obtain⟨t',rfl⟩:=ry;exact PySem.EqMixed.eq_bool_str (cE I q (by simp))
  | _=>exact absurd (show false=true from hs) eG
 | int i =>
  obtain⟨t,rfl⟩:=rx;cases y with
  | fh=>cases ry;exact PySem.EqNone.eq_int_none (cE I q (by simp))
  | int j=>obtain⟨t',rfl⟩:=ry;exact eq_int (cE I q B3)
  | str j=>obtain⟨t',rfl⟩:=ry;exact PySem.EqMixed.eq_int_str (cE I q (by simp))
  | _=>exact absurd (show false=true from hs) eG
 | str i =>
  obtain⟨t,rfl⟩:=rx;cases y with
  | fh=>cases ry;exact PySem.EqNone.eq_str_none (cE I q (by simp))
  | bl j=>cases ry;exact PySem.EqMixed.eq_str_bool (cE I q (by simp))
  | int j=>obtain⟨t',rfl⟩:=ry;exact PySem.EqMixed.eq_str_int (cE I q (by simp))
  | str j=>obtain⟨t',rfl⟩:=ry;exact eq_str (cE I q B2)
  | _=>exact absurd (show false=true from hs) eG
 | AV i =>
  obtain⟨t,rfl⟩:=rx;cases y with
  | AV j=>obtain⟨t',rfl⟩:=ry;exact PySem.W.eq_bytes (cE I q B4)
  | _=>exact absurd (show false=true from hs) eG
 | _=>cases y <;> exact absurd (show false=true from hs) eG
def uD:jH X (compareOp .NotEq) rNe:=by
 intro ah s σ H x y v u Q I rx ry h;obtain⟨hs,q⟩:=h;cases x with
 | fh =>
  cases rx;cases y with
  | fh=>cases ry;exact PySem.EqNone.ne_none_none (cE I q (by simp))
  | bl j=>cases ry;exact PySem.EqNone.ne_none_bool (cE I q (by simp))
  | int j=>obtain⟨t',rfl⟩:=ry;exact PySem.EqNone.ne_none_int (cE I q (by simp))
  | str j=>obtain⟨t',rfl⟩:=ry;exact PySem.EqNone.ne_none_str (cE I q (by simp))
  | _=>exact absurd (show false=true from hs) eG
 | bl i =>
  cases rx;cases y with
  | fh=>cases ry;exact PySem.EqNone.ne_bool_none (cE I q (by simp))
  | bl j=>cases ry;exact ne_bool (cE I q (congrArg not Hs))
  | str j=>obtain⟨t',rfl⟩:=ry;exact PySem.EqMixed.ne_bool_str (cE I q (by simp))
  | _=>exact absurd (show false=true from hs) eG
 | int i =>
  obtain⟨t,rfl⟩:=rx;cases y with
  | fh=>cases ry;exact PySem.EqNone.ne_int_none (cE I q (by simp))
  | int j=>obtain⟨t',rfl⟩:=ry;exact ne_int (cE I q (congrArg not B3))
  | str j=>obtain⟨t',rfl⟩:=ry;exact PySem.EqMixed.ne_int_str (cE I q (by simp))
  | _=>exact absurd (show false=true from hs) eG
 | str i =>
  obtain⟨t,rfl⟩:=rx;cases y with
  | fh=>cases ry;exact PySem.EqNone.ne_str_none (cE I q (by simp))
  | bl j=>cases ry;exact PySem.EqMixed.ne_str_bool (cE I q (by simp))
  | int j=>obtain⟨t',rfl⟩:=ry;exact PySem.EqMixed.ne_str_int (cE I q (by simp))
  | str j=>obtain⟨t',rfl⟩:=ry;exact ne_str (cE I q (congrArg not B2))
  | _=>exact absurd (show false=true from hs) eG
 | AV i =>
  obtain⟨t,rfl⟩:=rx;cases y with
  | AV j=>obtain⟨t',rfl⟩:=ry;exact PySem.W.ne_bytes (cE I q (congrArg not B4))
  | _=>exact absurd (show false=true from hs) eG
 | _=>cases y <;> exact absurd (show false=true from hs) eG
def nV:jH X (compareOp .Lt) (Mj λi j=>.bl (decide (i < j))):=Mu λ_ _ _ _ _ _ _ q=>lt_int q
def KH:jH X (compareOp .LtE) (Mj λi j=>.bl (decide (i<=j))):=Mu λ_ _ _ _ _ _ _ q=>le_int q
def xX:jH X (compareOp .Gt) (Mj λi j=>.bl (decide (j < i))):=Mu λ_ _ _ _ _ _ _ q=>gt_int q
def jH.or {f:Value->Value->Sem Value}{r r':R2}(h:jH X f r)(h':jH X f r'):jH X f (λx y H Q=>r x y H Q\/r' x y H Q):=by
 intro ah s σ H x y v u Q I rx ry q;rcases q with q | q
 .exact h ah s σ H x y v u Q I rx ry q
 exact h' ah s σ H x y v u Q I rx ry q
def bK (b:Expr){op:CmpOp}(h:op≠.In:=by decide)(h2:op≠.NotIn:=by decide):behindInMarks op b=false:=by
 have e1:(op == CmpOp.In)=false:=by cases op <;> first | rfl | exact absurd rfl h
 have e2:(op == CmpOp.NotIn)=false:=by cases op <;> first | rfl | exact absurd rfl h2
 cases b <;> simp [behindInMarks,e1,e2]
def fA {op:CmpOp}{r:R2}(ho:jH X (compareOp op) r)(ha:PE X a ta)(hb:PE X b tb)(hm:behindInMarks op b=false):PE X (.Compare a [op] [b] pos) (Sb r ta tb):=by
 intro ah s σ H Q I h;exact wpAny_Compare1 (NY ha hb I h λv u s2 x y H2 I2 rx ry q=>ho ah s2 σ H2 x y v u Q I2 rx ry q) hm
def Kn (t:TE):TT:=λσ H Q=>t σ H λx H'=>XB x λk=>Q k H'
def aX {op:CmpOp}{r:R2}(ho:jH X (compareOp op) r)(ha:PE X a ta)(hb:PE X b tb)(hm:behindInMarks op b=false):PT X (.Compare a [op] [b] pos) (Kn (Sb r ta tb)):=by
 intro ah s σ H Q I h;refine wpAny_isTrue_Compare1 (cR (ha ah s σ H _ I h) λv s1 ⟨x,H1,I1,r1,q1⟩=>cR (hb ah s1 σ H1 _ I1 q1) λu s2 ⟨y,H2,I2,r2,q2⟩ =>
  cR (ho ah s2 σ H2 x y v u _ I2 r1 r2 q2) λc s3 ⟨z,H3,I3,r3,k,e,q3⟩=>?_) hm
 subst e;cases r3;exact kx ⟨H3,I3,q3⟩
def ED (r r':R2)(ta tb tc:TE):TE:=λσ H Q=>ta σ H λx H1=>tb σ H1 λy H2=>r x y H2 λz H3=>∃k,z=.bl k /\
 (if k=true then tc σ H3 λw' H4=>r' y w' H4 Q else Q (.bl false) H3)
def Fw {op Mv:CmpOp}{r r':R2}(ho:jH X (compareOp op) r)(Dh:jH X (compareOp Mv) r')(ha:PE X a ta)(hb:PE X b tb)(hc:PE X c tc)
  (hm:lastMarks [op,Mv] [b,c]=false:=by with_unfolding_all rfl):PE X (.Compare a [op,Mv] [b,c] pos) (ED r r' ta tb tc):=by
 intro ah s σ H Q I h;refine Compare_chain (cR (ha ah s σ H _ I h) λv s1 ⟨x,H1,I1,r1,q1⟩=>chain_link (cR (hb ah s1 σ H1 _ I1 q1) λu s2 ⟨y,H2,I2,r2,q2⟩ =>
  cR (ho ah s2 σ H2 x y v u _ I2 r1 r2 q2) λd s3 ⟨z,H3,I3,r3,k,e,q3⟩=>?_)) hm
 subst e;cases r3;refine kx ?_;cases k with
 | false=>exact ite_ff ⟨.bl false,H3,I3,rfl,q3⟩
 | true=>exact ite_tt (chain_last (cR (hc ah s3 σ H3 _ I3 q3) λw' s4 ⟨z',H4,I4,r4,q4⟩=>Dh ah s4 σ H4 y z' u w' Q I4 r2 r4 q4))
def Fm {op Mv:CmpOp}{r r':R2}(ho:jH X (compareOp op) r)(Dh:jH X (compareOp Mv) r')(ha:PE X a ta)(hb:PE X b tb)(hc:PE X c tc)
  (hm:lastMarks [op,Mv] [b,c]=false:=by with_unfolding_all rfl):PT X (.Compare a [op,Mv] [b,c] pos) (Kn (ED r r' ta tb tc)):=by
 intro ah s σ H Q I h;refine isTrue_chain (cR (ha ah s σ H _ I h) λv s1 ⟨x,H1,I1,r1,q1⟩=>test_link (cR (hb ah s1 σ H1 _ I1 q1) λu s2 ⟨y,H2,I2,r2,q2⟩ =>
  cR (ho ah s2 σ H2 x y v u _ I2 r1 r2 q2) λd s3 ⟨z,H3,I3,r3,k,e,q3⟩=>?_)) hm
 subst e;cases r3;refine kx ?_;cases k with
 | false =>
  obtain⟨k',e',q'⟩:=q3;cases e';exact ite_ff ⟨H3,I3,q'⟩
 | true =>
  refine ite_tt (test_last (cR (hc ah s3 σ H3 _ I3 q3) λw' s4 bG=>?_));obtain⟨z',H4,I4,r4,q4⟩:=bG;refine cR (Dh ah s4 σ H4 y z' u w' _ I4 r2 r4 q4) λd' s5 bG=>?_;obtain⟨z2,H5,I5,r5,k2,e2,q5⟩:=bG;subst e2;cases r5;exact kx ⟨H5,I5,q5⟩
def HM (K:ba)(x:V)(H:Hp)(k:Bool):Prop :=
 match x with
 | .fh=>k=false
 | .bl b=>k=b
 | .int i=>k=(i != 0)
 | .str y=>y.length<=sizeLine/\k=((y.length:Int) != 0)
 | .AV y=>y.size<=sizeLine/\k=((y.size:Int) != 0)
 | .ref p=>(∃xs,aH K H p xs/\k=!xs.isEmpty)\/(∃xs,aS K H p xs/\k=!xs.isEmpty)\/∃kvs,H p=some (.dK kvs)/\k=!kvs.isEmpty
 | _=>False
def Au {κ:Type}{kvs:List (κ×V)}{vs:List (κ×Value)}(r:KV kvs vs):(!vs.isEmpty)=!kvs.isEmpty:=by
 cases r <;> rfl
def sj {xs:List V}{aT:List Value}(r:bf xs aT):(!aT.toArray.isEmpty)=!xs.isEmpty:=by
 cases r <;> simp
def wC:(sizeLine:Nat) < 2 ^ 63:=by rw [sizeLine_eq];decide
def LI:XX X (λx H Q=>∃k,HM X.K x H k/\Q k H):=by
 intro ah s σ H x v Q I rx h;obtain⟨k,e,q⟩:=h;have hl:=wC;have hs:sizeLine=16777216:=sizeLine_eq;cases x with
 | fh =>
  cases rx;have e':k=false:=e;subst e';exact truthy_none ⟨H,I,q⟩
 | bl b =>
  cases rx;have e':k=b:=e;subst e';exact kx ⟨H,I,q⟩
 | int i =>
  obtain⟨t,rfl⟩:=rx;have e':k=(i != 0):=e;subst e';exact PySem.P.truthy_int ⟨H,I,q⟩
 | str y =>
  obtain⟨t,rfl⟩:=rx;obtain⟨hy,e'⟩:y.length<=sizeLine/\k=((y.length:Int) != 0):=e;subst e';exact PySem.P.truthy_str ∅ ⟨H,I.tok _,q⟩
 | AV y =>
  obtain⟨t,rfl⟩:=rx;obtain⟨hy,e'⟩:y.size<=sizeLine/\k=((y.size:Int) != 0):=e;subst e';exact PySem.W.truthy_bytes ∅ ⟨H,I.tok _,q⟩
 | ref p =>
  cases rx;have e':(∃xs,aH X.K H p xs/\k=!xs.isEmpty)\/(∃xs,aS X.K H p xs/\k=!xs.isEmpty)\/∃kvs,H p=some (.dK kvs)/\k=!kvs.isEmpty:=e;rcases e' with ⟨xs,hx,e'⟩ | ⟨xs,hx,e'⟩ | ⟨kvs,hx,e'⟩
  .subst e';obtain⟨aT,r,pl,hz⟩:=I.list hx;have bE:=r.length;exact wpAny_truthy_list pl.isList (by simp only [bY];omega) ⟨H,I.tok _,by rw [sj r];exact q⟩
  .subst e';obtain⟨aT,r,pl,hz⟩:=I.tuple hx;have bE:=r.length;exact truthy_tuple pl (by simp only [bY];omega) ⟨H,I.tok _,by rw [sj r];exact q⟩
  subst e';obtain⟨hz,hS,vs,r,m⟩:kvs.length<=sizeLine/\(p == sysModules)=false/\∃vs,KV kvs vs/\s.heap.DictOf (bA X.prog X.w) p vs:=I.cx p _ hx;have bE:kvs.length=vs.length:=aU r;exact wpAny_truthy_dict hS m ∅ ⟨H,I.tok _,by rw [Au r];exact q⟩
 | _=>exact(show False from e).elim
def iW (ha:PE X a ta)(he:∀whole,isTrue a X.env whole=(do let v <-whole;standAt a.pos;holding [v] (truthy v))) :
  PT X a (λσ H Q=>ta σ H λx H'=>∃k,HM X.K x H' k/\Q k H'):=by
 intro ah s σ H Q I h;refine isTrue_plain (cR (ha ah s σ H _ I h) λv s1 bG=>?_) (he _);obtain⟨x,H1,I1,r1,q1⟩:=bG;exact LI ah s1 σ H1 x v Q I1 r1 q1
def z_:jH X (binaryOp .Add) (λx y H Q=>∃i j,x=.str i/\y=.str j/\i.length+j.length<=sizeLine/\Q (.str (i++j)) H):=by
 intro ah s σ H x y v u Q I rx ry h;obtain⟨i,j,rfl,rfl,hz,q⟩:=h;obtain⟨t,rfl⟩:=rx;obtain⟨t',rfl⟩:=ry;exact add_str (λt' tk=>⟨.str (i++j),H,I.tok _,⟨_,rfl⟩,q⟩) hz
def vals1 {x:V}{us:List Value}(r:bf [x] us):∃u,us=[u]/\RelV x u:=by
 cases r with
 | cons r1 r2=>cases r2;exact⟨_,rfl,r1⟩
def vals2 {x y:V}{us:List Value}(r:bf [x,y] us):∃u w',us=[u,w']/\RelV x u/\RelV y w':=by
 cases r with
 | cons r1 r2 =>
  cases r2 with
  | cons r3 r4=>cases r4;exact⟨_,_,rfl,r1,r3⟩
def DT (hc:X.calm=true):iD X (.builtin "max") (λxs H Q=>∃i j,xs=[.int i,.int j]/\Q (.int (if j > i then j else i)) H):=by
 intro ah s σ H xs us Q I r h;obtain⟨i,j,rfl,q⟩:=h;obtain⟨u,w',rfl,⟨t,rfl⟩,⟨t',rfl⟩⟩:=vals2 r;refine max_two_ints (I.ok.hd hc) λh' tk k=>⟨_,H,I.kept k,?_,q⟩;by_cases hj:j > i
 .rw [ax hj,ax hj];exact⟨_,rfl⟩
 rw [ay hj,ay hj];exact⟨_,rfl⟩
end
structure A0 (h:Heap)(x dx C:Addr)(mA:Str->Option Value):Prop where
 obj:h.get? x=some (PySem.W.instObj C dx)
 ns:h.Ns1 dx mA
 ne:dx≠x
def C0 {h:Heap}{dx:Addr}{mA:Str->Option Value}(n:h.Ns1 dx mA):∃od,h.get? dx=some od/\∀name,PySem.W.lookIn name od=some (mA name):=by
 obtain⟨o,es,ep,ho,hd,hk,_,hm⟩:=n;refine⟨o,ho,λname=>?_⟩;have e:=hm name;unfold nsFind findBy at e;rw [<-Array.find?_toList] at e;unfold PySem.W.lookIn;rw [hd];dsimp only
 split
 .rename_i y q
  rw [q] at e;exact congrArg some e
 rename_i q
 rw [q] at e;have a:es.toList.any (·.refKey)=false:=by
  rw [List.any_eq_false];intro y hy;obtain⟨z,t,V3⟩:=hk y (Array.mem_toList_iff.mp hy);simp [DictEntry.refKey,V3]
 have a':¬es.toList.any (·.refKey)=true:=by rw [a];exact eG
 rw [ay a'];exact congrArg some e
def A0.look {h:Heap}{x dx C:Addr}{mA:Str->Option Value}(I:A0 h x dx C mA):∃od,PySem.W.InstAt h x (PySem.W.instObj C dx) C (some od)/\∀name,PySem.W.lookIn name od=some (mA name) :=
 let ⟨od,ho,hl⟩:=C0 I.ns
 ⟨od,⟨I.obj,rfl,rfl,ho⟩,hl⟩
section
variable {prog:Program}{w:World}{A:Around}{E:Value->Shared->Prop}{s:Shared}{K:ba}{x dx C f:Addr}{mA:Str->Option Value}{name:Str}{v:Value}
def get_map {expr:Bool}{Q:Value->Shared->Prop}(X:K.In s.heap)(I:A0 s.heap x dx C mA)(hg:PySem.W.plainGet K C name=true)(hh:PySem.W.hasDictIn K C=true)
  (ha:PySem.W.findIn K (.ref C) name=some none)(hv:mA name=some v)(hv':PySem.W.handedIn v=true)(h:Q v { s with toks:=s.toks+1 }) :
  wpAny (model prog w) A (getAttr (.ref x) name expr) Q E s:=by
 obtain⟨od,J,hl⟩:=I.look;exact PySem.W.get_value X J (PySem.W.plainGet_of hg).1 (PySem.W.findObj_own hh ha rfl (by rw [hl,hv])) hv' h
def G1 {pl:Sem Bool}{Q:Value×List Value->Shared->Prop}(X:K.In s.heap)(I:A0 s.heap x dx C mA)(hg:PySem.W.plainGet K C name=true)
  (hf:PySem.W.findIn K (.ref C) name=some (some (.ref f)))(ht:PySem.W.isFn K (.ref f)=true)(hv:mA name=none)(h:Q (.ref f,[.ref x]) s) :
  wpAny (model prog w) A (getMethod (.ref x) name pl) Q E s:=by
 obtain⟨od,J,hl⟩:=I.look;exact PySem.W.method_fn X J (PySem.W.plainGet_of hg).1 (PySem.W.plainGet_of hg).2 hf (beq_iff_eq.mp ht) (by show (PySem.W.lookIn name od).map (·.isSome)=some false;rw [hl,hv];rfl) h
def IV {ns:List Str}{Q:Unit->Shared->Prop}(X:K.In s.heap)(I:A0 s.heap x dx C mA)
  (hs:PySem.W.findIn K (.ref C) "__setattr__"=some (some (.builtin "object.__setattr__")))(hp:PySem.W.plainOver K C=true)(ht:PySem.W.takerIn K C name=some none)(hh:PySem.W.hasDictIn K C=true)
  (hw:PySem.Within mA ns)(hsz:ns.length<=sizeLine)
  (h:∀h',A0 h' x dx C (λy=>if y=name then some v else mA y)->Heap.SameBut dx s.heap h'->Q () { s with heap:=h',toks:=s.toks+2 }) :
  wpAny (model prog w) A (setAttr (.ref x) name v) Q E s:=by
 obtain⟨od,J,hl⟩:=I.look;refine PySem.W.set_plain X J hs (PySem.W.osa_open (s:={ s with toks:=s.toks+1 }) (r:=none) X J hp ht λb=>?_);obtain⟨cd,hc,Dk⟩:=PySem.W.any_some hh;have hx:s.heap.get? x=some ⟨.ref C,some dx,.plain,#[]⟩:=I.obj;refine aE (aP (aE (aE (wpAny_loadPart hx (aE (PySem.W.Looks.here (s:={ s with toks:=s.toks+1 }) (PySem.W.looks_clsIn X hc) ?_))))));rw [Dk];refine aP (a:=some dx) (aE (aP (aE ?_)));refine wpAny_nsSet1 (s:={ s with toks:=s.toks+1 }) I.ns λh' Gz Zq=>?_;obtain⟨oD,esD,epD,hoD,hdD,hcD⟩:=Gz.count (PySem.Within.cons name v hw);refine aE (wpAny_lookBehind hoD (by rw [hdD];exact pastItsLine_dict (dY hcD (by rw [dZ];omega))) ?_);exact aP (h _ ⟨(Zq.2 _ (gC I.ne)).trans I.obj,Gz,I.ne⟩ Zq)
def F_ {R:Result->Shared->Prop}{vs:List Value}{kw:List (Str×Value)}(X:K.In s.heap)(hm:PySem.W.makesIn K C=true)
  (hi:PySem.W.findIn K (.ref C) "__init__"=some (some (.ref f)))(hf:PySem.W.typeIn K (.ref f)=some (.type "function"))
  (h:codeAny (model prog w) (A.under (.builtin "type.__call__" ⟨.ref C::vs,kw⟩)) (.call (.ref f) ⟨.ref (s.heap.objs.size+1)::vs,kw⟩) (PySem.W.InitBack (s.heap.objs.size+1) R)
   { s with heap:=(s.heap.push PySem.W.emptyDict).push (PySem.W.instObj C s.heap.objs.size) }) :
  codeAny (model prog w) A (.call (.ref C) ⟨vs,kw⟩) R s:=by
 obtain⟨hh,g,d,t,os⟩:=s;exact PySem.W.make_core (PySem.W.makes_of X hm) (PySem.W.looks_findIn X hi) (λself=>PySem.W.bind_fn X self hf) (.inl rfl) h
end
def eI (f:Str)(v:V):List (Str×V)->List (Str×V)
 | []=>[(f,v)]
 | (g,x)::r=>if g=f then (g,v)::r else (g,x)::eI f v r
theorem pZ (f g:Str)(v:V):∀fs:List (Str×V),(eI f v fs).lookup g=if g=f then some v else fs.lookup g
 | []=>by
  show List.lookup g [(f,v)]=_;by_cases h:g=f
  .have hb:(g == f)=true:=beq_iff_eq.mpr h;simp only [List.lookup,hb,ax h]
  have hb:(g == f)=false:=kF.mpr h;simp only [List.lookup,hb,ay h]
 | (k,x)::r=>by
  have ih:=pZ f g v r;rw [show eI f v ((k,x)::r)=(if k=f then (k,v)::r else (k,x)::eI f v r) from rfl];by_cases hk:k=f
  .rw [ax hk];by_cases h:g=k
   .have hb:(g == k)=true:=beq_iff_eq.mpr h;simp only [List.lookup,hb,ax (h.trans hk)]
   have hb:(g == k)=false:=kF.mpr h;simp only [List.lookup,hb,ay (λe:g=f=>h (e.trans hk.symm))]
  rw [ay hk];by_cases h:g=k
  .have hb:(g == k)=true:=beq_iff_eq.mpr h;simp only [List.lookup,hb,ay (λe:g=f=>hk (h.symm.trans e))]
  have hb:(g == k)=false:=kF.mpr h;simp only [List.lookup,hb];exact ih
theorem px (f:Str)(v:V):∀fs:List (Str×V),f∈(eI f v fs).map (·.1)/\∀g,g∈fs.map (·.1)->g∈(eI f v fs).map (·.1)
 | []=>⟨by simp [eI],λg h=>by simp at h⟩
 | (k,x)::r=>by
  obtain⟨i1,i2⟩:=px f v r;rw [show eI f v ((k,x)::r)=(if k=f then (k,v)::r else (k,x)::eI f v r) from rfl];by_cases hk:k=f
  .rw [ax hk];subst hk;exact⟨by simp,λg h=>by simpa using h⟩
  rw [ay hk];refine⟨?_,λg h=>?_⟩
  .rw [cP];exact dB _ i1
  rw [cP] at h ⊢;rcases bX.mp h with e | e
  .exact bX.mpr (.inl e)
  exact dB _ (i2 g e)
theorem p_ (f:Str)(v:V):∀fs:List (Str×V),(eI f v fs).length<=fs.length+1
 | []=>by simp [eI]
 | (k,x)::r=>by
  have ih:=p_ f v r;rw [show eI f v ((k,x)::r)=(if k=f then (k,v)::r else (k,x)::eI f v r) from rfl];by_cases hk:k=f
  .rw [ax hk,dZ,dZ];omega
  rw [ay hk,dZ,dZ];omega
def j4.some_of {v:V}{o:Option Value}(r:j4 (some v) o):∃u,o=some u/\RelV v u:=by
 cases o with
 | none=>exact(show False from r).elim
 | some u=>exact⟨u,rfl,r⟩
def j4.none_of {o:Option Value}(r:j4 none o):o=none:=by
 cases o with
 | none=>rfl
 | some u=>exact(show False from r).elim
def Dl {v:V}{u:Value}(r:RelV v u):PySem.W.handedIn u=true:=by
 cases v with
 | fh=>cases (show u=Value.none from r);rfl
 | bl b=>cases (show u=Value.bool b from r);rfl
 | int i=>obtain⟨t,e⟩:=(show ∃t,u=Value.int i t from r);cases e;rfl
 | str x=>obtain⟨t,e⟩:=(show ∃t,u=Value.str x t from r);cases e;rfl
 | AV b=>obtain⟨t,e⟩:=(show ∃t,u=Value.bytes b t from r);cases e;rfl
 | Nw b=>obtain⟨t,e⟩:=(show ∃t,u=Value.float b t from r);cases e;rfl
 | ref a=>cases (show u=Value.ref a from r);rfl
 | ty n=>cases (show u=Value.type n from r);rfl
section
variable {P:Program}{w:World}{H H':Hp}{h h':Heap}{a C dx:Addr}{fs Iu:List (Str×V)}
def wI (cx:me P w H h)(e:H a=some (.ins C dx fs)):∃mA,A0 h a dx C mA/\(∀f,j4 (fs.lookup f) (mA f))/\PySem.Within mA (fs.map (·.1))/\fs.length<=1000/\H dx=some (.own a):=by
 obtain⟨d,z,ne,ob,mA,n,r,q⟩:=(show cS P w H h a (.ins C dx fs) from cx a _ e);exact⟨mA,⟨ob,n,ne⟩,r,q,z,d⟩
end
structure Ec (K:ba)(C:Addr):Prop where
 pg:PySem.W.plainGet K C Str.empty=true
 hd:PySem.W.hasDictIn K C=true
 po:PySem.W.plainOver K C=true
 sa:PySem.W.findIn K (.ref C) "__setattr__"=some (some (.builtin "object.__setattr__"))
def Ec.get {K:ba}{C:Addr}(c:Ec K C)(f:Str):PySem.W.plainGet K C f=true:=c.pg
def eX (K:ba)(C:Addr)(f:Str):Prop:=PySem.W.findIn K (.ref C) f=some none
def eX.O8 {K:ba}{C:Addr}{f:Str}(n:eX K C f):PySem.W.takerIn K C f=some none:=by
 unfold PySem.W.takerIn;rw [show PySem.W.findIn K (.ref C) f=some none from n];rfl
structure Con (K:ba)(C:Addr)(f:Str)(v:V)(u:Value):Prop where
 at_:PySem.W.findIn K (.ref C) f=some (some u)
 rel:RelV v u
 get:PySem.W.specialIn K u "__get__"=some none
 cp:PySem.W.copiedNames.contains f=false
structure Meth (K:ba)(C:Addr)(m:Str)(f:Addr):Prop where
 at_:PySem.W.findIn K (.ref C) m=some (some (.ref f))
 fn:PySem.W.isFn K (.ref f)=true
 kp:PySem.W.keepIn K (.ref f)=true
section
variable {X:Cx}{ah:List (Addr×Obj)}{σ:St}{H:Hp}{s:Shared}{a C dx:Addr}{fs:List (Str×V)}{f:Str}{v:V}{A:Around}{E:Value->Shared->Prop}
def AB {b:Bool}{Q:Value->Shared->Prop}(I:Inv X ah σ H s)(e:H a=some (.ins C dx fs))(c:Ec X.K C)(n:eX X.K C f)(l:fs.lookup f=some v)
  (h:∀u s',Inv X ah σ H s'->RelV v u->Q u s'):wpAny (model X.prog X.w) A (getAttr (.ref a) f b) Q E s:=by
 obtain⟨mA,O,r,_,_,_⟩:=wI I.cx e;obtain⟨u,hu,ru⟩:=j4.some_of (v:=v) (o:=mA f) (by rw [<-l];exact r f);exact get_map I.wG O (c.get f) c.hd n hu (Dl ru) (h u _ (I.tok _) ru)
def sF {m:Str}{g:Addr}{pl:Sem Bool}{Q:Value×List Value->Shared->Prop}(I:Inv X ah σ H s)(e:H a=some (.ins C dx fs))(c:Ec X.K C)(k:Meth X.K C m g)(l:fs.lookup m=none)
  (h:Q (.ref g,[.ref a]) s):wpAny (model X.prog X.w) A (getMethod (.ref a) m pl) Q E s:=by
 obtain⟨mA,O,r,_,_,_⟩:=wI I.cx e;have hn:mA m=none:=j4.none_of (by rw [<-l];exact r m);exact G1 I.wG O (c.get m) k.at_ k.fn hn h
def zD {y:V}{u:Value}{Q:Unit->Shared->Prop}(I:Inv X ah σ H s)(e:H a=some (.ins C dx fs))(c:Ec X.K C)(n:eX X.K C f)(hl:fs.length < 1000)(ry:RelV y u)
  (h:∀s',Inv X ah σ (upd H a (.ins C dx (eI f y fs))) s'->Q () s'):wpAny (model X.prog X.w) A (setAttr (.ref a) f u) Q E s:=by
 obtain⟨mA,O,r,wi,_,ho⟩:=wI I.cx e;have hz:(fs.map (·.1)).length<=sizeLine:=by rw [au,sizeLine_eq];omega
 refine IV I.wG O c.sa c.po n.O8 c.hd wi hz λh' O' sb=>h _ ?_;have hd:∃o,h'.get? dx=some o:=let ⟨o,_,_,e',_⟩:=O'.ns;⟨o,e'⟩;refine I.write (x:=a) (e:=dx) (by rw [e];exact True.intro) (.inr ho) (λb q hb z=>(sb.2 b hb).trans z) hd ?_;refine⟨by rw [aj O.ne];exact ho,?_,O.ne,O'.obj,_,O'.ns,λg=>?_,λg hg=>?_⟩
 .have:=p_ f y fs;omega
 .show j4 ((eI f y fs).lookup g) (if g=f then some u else mA g);rw [pZ];by_cases q:g=f
  .rw [ax q,ax q];exact ry
  rw [ay q,ay q];exact r g
 by_cases q:g=f
 .rw [q];exact(px f y fs).1
 refine(px f y fs).2 g (wi g λz=>hg ?_);show (if g=f then some u else mA g)=none;rw [ay q];exact z
def Inv.made (I:Inv X ah σ H s):Inv X ah σ (upd (upd H s.heap.objs.size (.own (s.heap.objs.size+1))) (s.heap.objs.size+1) (.ins C s.heap.objs.size []))
  { s with heap:=(s.heap.push PySem.W.emptyDict).push (PySem.W.instObj C s.heap.objs.size) }:=by
 have e1:(s.heap.push PySem.W.emptyDict).get? s.heap.objs.size=some PySem.W.emptyDict:=d0 s.heap rfl;have e2:((s.heap.push PySem.W.emptyDict).push (PySem.W.instObj C s.heap.objs.size)).get? (s.heap.objs.size+1)=some (PySem.W.instObj C s.heap.objs.size):=by
  have:=d0 (s.heap.push PySem.W.emptyDict) (o:=PySem.W.instObj C s.heap.objs.size) rfl;rwa [oK] at this
 have e3:(s.heap.push PySem.W.emptyDict).Ns s.heap.objs.size (λ_=>none):=⟨PySem.W.emptyDict,#[],_,e1,rfl,(λe he=>absurd he (by simp)),λ_=>rfl⟩;have I1:=I.laid (a:=s.heap.objs.size) (o:=.own (s.heap.objs.size+1)) (h':=s.heap.push PySem.W.emptyDict) (t':=s.toks) (λb u q=>cv _ q) (aF _) ⟨_,e1⟩;refine I1.laid (a:=s.heap.objs.size+1) (o:=.ins C s.heap.objs.size []) (t':=s.toks) (λb u q=>cv _ q) (Nat.le_of_eq (oK _ _)) ?_;have ne:s.heap.objs.size≠s.heap.objs.size+1:=cw (pS _);refine⟨by rw [aj ne,ae],dX _,ne,e2,λ_=>none,(Heap.Ns1.of_empty e3).at λo q=>cv _ q,λ_=>True.intro,λy hy=>absurd rfl hy⟩
def Kb {prog:Program}{w:World}{env:Env}{e:Expr}{f:Str}{pos:Pos}{s:Shared}{Q:Value->Shared->Prop}(hb:attributeBase e f env (eval e env)=eval e env)
  (h:wpAny (model prog w) A (eval e env) (λo s₁=>wpAny (model prog w) A (getAttr o f true) Q E s₁) E s):wpAny (model prog w) A (eval (.Attribute e f pos) env) Q E s :=
 Attribute_any_ h (by rw [arm_eval_Attribute,hb])
end
inductive RM (K:ba)(H:Hp)(f:Str)(x:V)(R:V->Prop):Prop
|mk(a C dx:Addr)(fs:List (Str×V))(v:V)(e:x=.ref a)(h:H a=some (.ins C dx fs))(c:Ec K C)(n:eX K C f)(l:fs.lookup f=some v)(q:R v)
inductive XSf (K:ba)(H:Hp)(f:Str)(x:V)(R:Addr->Addr->Addr->List (Str×V)->Prop):Prop
|mk(a C dx:Addr)(fs:List (Str×V))(e:x=.ref a)(h:H a=some (.ins C dx fs))(c:Ec K C)(n:eX K C f)(l:fs.length < 1000)(q:R a C dx fs)
def Ui (K:ba)(ta:TE)(f:Str):TE:=λσ H Q=>ta σ H λx H1=>RM K H1 f x λv=>Q v H1
def Uw (K:ba)(ta tv:TE)(f:Str):TS:=λD σ H=>tv σ H λy H1=>ta σ H1 λx H2=>XSf K H2 f x λa C dx fs=>D.nx σ (upd H2 a (.ins C dx (eI f y fs)))
section
variable {X:Cx}{o e value:Expr}{f:Str}{pos pos' vJ:Pos}{ta tv:TE}
def fQ (he:PE X e ta)(hb:attributeBase e f X.env (eval e X.env)=eval e X.env):PE X (.Attribute e f pos) (Ui X.K ta f):=by
 intro ah s σ H Q I h;refine Kb hb (cR (he ah s σ H _ I h) λu s1 bG=>?_);obtain⟨x,H1,I1,rx,a,C,dx,fs,v,ex,ea,c,n,l,q⟩:=bG;subst ex;obtain rfl:u=Value.ref a:=rx;exact AB I1 ea c n l λu' s2 I2 ru=>⟨v,H1,I2,ru,q⟩
def g7 (ha:PE X o ta)(hv:PE X value tv)(hs:swapsWith value (some (.Attribute o f pos')) pos.line X.env=pure false):PS X (.Assign [.Attribute o f pos'] value pos) (Uw X.K ta tv f):=by
 intro ah s σ H D I h;refine plainObj_wpAny_Assign_Attribute (cR (hv ah s σ H _ I h) λu s1 bG=>?_) hs;obtain⟨y,H1,I1,ry,q⟩:=bG;refine cR (ha ah s1 σ H1 _ I1 q) λov s2 bG=>?_;obtain⟨x,H2,I2,rx,a,C,dx,fs,ex,ea,c,n,l,q2⟩:=bG;subst ex;obtain rfl:ov=Value.ref a:=rx;exact zD I2 ea c n l ry λs3 I3=>⟨σ,_,I3,q2⟩
def KO {pl:Sem Bool}{m:Str}{apos:Pos}{args:List Expr}{ah:List (Addr×Obj)}{s:Shared}{σ:St}{H:Hp}{Q:Value->Shared->Prop}{te:TE}(he:PE X e te)(I:Inv X ah σ H s)
  (h:te σ H λx H1=>∃a C dx fs g,x=.ref a/\H1 a=some (.ins C dx fs)/\Ec X.K C/\Meth X.K C m g/\fs.lookup m=none /\
   ∀s1,Inv X ah σ H1 s1->wpAny (model X.prog X.w) X.A (callWith pos (.ref g) [.ref a] (backTo pos (starEach args X.env)) (backToKw pos (keywordEach [] X.env))) Q X.xe s1)
  (ht:eval (.Call (.Attribute e m apos) args [] pos) X.env=(do
   let ov <-eval e X.env
   standAt apos.atName
   let (f,first) <-holding [ov] (getMethod ov m pl)
   callWith pos f first (backTo pos (starEach args X.env)) (backToKw pos (keywordEach [] X.env)))) :
  wpAny (model X.prog X.w) X.A (eval (.Call (.Attribute e m apos) args [] pos) X.env) Q X.xe s:=by
 refine PySem.W.methodCall_KW (pl:=pl) (cR (he ah s σ H _ I h) λu s1 bG=>?_) ht;obtain⟨x,H1,I1,rx,a,C,dx,fs,g,ex,ea,c,k,l,q⟩:=bG;subst ex;obtain rfl:u=Value.ref a:=rx;exact sF I1 ea c k l (q s1 I1)
end
section
variable {X:Cx}{ah:List (Addr×Obj)}{σ:St}{H:Hp}{s:Shared}{A:Around}{E:Value->Shared->Prop}{Q:Value->Shared->Prop}{c:Value}{b:Bool}
inductive tJ (K:ba)(H:Hp):V->Value->Prop where
 | fh:tJ K H .fh (.type "NoneType")
 | bl (x:Bool):tJ K H (.bl x) (.type "bool")
 | int (i:Int):tJ K H (.int i) (.type "int")
 | str (x:Str):tJ K H (.str x) (.type "str")
 | Nw (x:UInt64):tJ K H (.Nw x) (.type "float")
 | lst {a:Addr}{xs:List V}(e:H a=some (.lst xs)):tJ K H (.ref a) (.type "list")
 | kr {a:Addr}{o:Obj}{xs:List V}(e:H a=some (.kr o (.lst xs))):tJ K H (.ref a) (.type "list")
 | tup {a:Addr}{xs:List V}(e:H a=some (.tup xs)):tJ K H (.ref a) (.type "tuple")
 | dK {a:Addr}{kvs:List (aR×V)}(e:H a=some (.dK kvs)):tJ K H (.ref a) (.type "dict")
 | dT {a:Addr}{kvs:List (List aR×V)}(e:H a=some (.dT kvs)):tJ K H (.ref a) (.type "dict")
 | ins {a C dx:Addr}{fs:List (Str×V)}(e:H a=some (.ins C dx fs))(cl:Ec K C)(ha:PySem.W.findIn K (.ref C) "__class__"=some (some (.builtin "object.__class__")))
   (hn:PySem.W.specialIn K (.builtin "object.__class__") "__get__"=some (some (.builtin "getset_descriptor.__get__")))(htk:PySem.W.takesIn K (.builtin "object.__class__")=some true)
   (hm:PySem.W.mroIn K C (.type "object")=some true):tJ K H (.ref a) (.ref C)
end
structure fY (k:Nat)(A:Around):Prop where
 hd:A.handled=none
 dp:A.depth+3 * k+5 < recursionLimit
 un:A.units+16 * k+200 < cLine
def fY.mono {j k:Nat}{A:Around}(r:fY k A)(h:j<=k):fY j A:=⟨r.hd,by have:=r.dp;omega,by have:=r.un;omega⟩
theorem fY.deeper {k:Nat}{A:Around}(r:fY (k+1) A)(env:Env):fY k (A.deeper env) :=
 ⟨r.hd,by have:=r.dp;show A.depth+1+3 * k+5 < _;omega,by have:=r.un;show A.units+3+16 * k+200 < _;omega⟩
theorem fY.in1 {k:Nat}{A:Around}(r:fY (k+1) A):fY k A.in1 :=
 ⟨r.hd,by have:=r.dp;show A.depth+3 * k+5 < _;omega,by have:=r.un;show A.units+1+16 * k+200 < _;omega⟩
def Am {A:Around}{C:Addr}{us:List Value}{kw:List (Str×Value)}:(A.under (.builtin "type.__call__" ⟨.ref C::us,kw⟩)).depth=A.depth+1:=by
 first | rfl | simp [Around.under,Code.weight,Code.isCreation,Code.isGuard,Code.isCaller,Code.frames,Code.isFrame,guardIds]
def Ak {A:Around}{C:Addr}{us:List Value}{kw:List (Str×Value)}:(A.under (.builtin "type.__call__" ⟨.ref C::us,kw⟩)).units=A.units+1:=by
 first | rfl | simp [Around.under,Code.cUnits,Code.frames,Code.isFrame]
def fY.make {k:Nat}{A:Around}(r:fY (k+1) A)(C:Addr)(us:List Value)(kw:List (Str×Value)):fY k (A.under (.builtin "type.__call__" ⟨.ref C::us,kw⟩)) :=
 ⟨r.hd,by have:=r.dp;rw [Am];omega,by have:=r.un;rw [Ak];omega⟩
theorem fY.depth {k:Nat}{A:Around}(r:fY k A):A.depth < recursionLimit:=by have:=r.dp;omega
theorem fY.units {k:Nat}{A:Around}(r:fY k A):A.units+64 < cLine:=by have:=r.un;omega
def rE:TA:=λ_ H Q=>Q [] H
def gZ (ta:TE)(tr:TA):TA:=λσ H Q=>ta σ H λx H1=>tr σ H1 λxs H2=>Q (x::xs) H2
section
variable {X:Cx}{e:Expr}{es:List Expr}{te:TE}{t:TA}{pos:Pos}
def ag:PA X [] rE:=λ_ _ _ _ H Q I h=>Calls.spliced_nil ⟨[],H,I,.nil,h⟩
def ab (ha:PE X e te)(hr:PA X es t)(hs:starEach (e::es) X.env=(false,eval e X.env)::starEach es X.env:=by rfl):PA X (e::es) (gZ te t):=by
 intro pos ah s σ H Q I h;rw [hs];show wpAny _ _ (spliced ((false,eval e X.env)::backTo pos (starEach es X.env))) _ _ s;refine oV (cR (ha ah s σ H _ I h) λu s1 bG=>?_);obtain⟨x,H1,I1,r1,q1⟩:=bG;refine cR (hr pos ah s1 σ H1 _ I1 q1) λus s2 bG=>?_;obtain⟨xs,H2,I2,r2,q2⟩:=bG;exact⟨x::xs,H2,I2,.cons r1 r2,q2⟩
def tS (t:TA):TE:=λσ H Q=>t σ H λxs H1=>xs.length<=sizeLine/\∀p,H1 p=none->Q (.ref p) (upd H1 p (.tup xs))
def Pg (t:TA):TE:=λσ H Q=>t σ H λxs H1=>xs.length<=sizeLine/\∀p,H1 p=none->Q (.ref p) (upd H1 p (.lst xs))
def bo {x1}(h:PA X es t):PE X (.Tuple es x1 pos) (tS t):=by
 intro ah s σ H Q I hq;refine wpAny_Tuple_spliced (cR (h pos ah s σ H _ I hq) λus s1 bG=>?_);obtain⟨xs,H1,I1,r,z,q⟩:=bG;refine⟨by rw [<-r.length];exact z,?_⟩;have hf:H1 s1.heap.objs.size=none:=I1.cx.fresh (aF _);refine⟨.ref s1.heap.objs.size,upd H1 s1.heap.objs.size (.tup xs),I1.laid (t':=s1.toks) (λb u e=>cv _ e) (aF _) ?_,rfl,q _ hf⟩;exact⟨z,us,r,⟨_,d0 _ rfl,rfl,_,rfl⟩⟩
def a_ (h:PA X es t):PE X (.List es pos) (Pg t):=by
 intro ah s σ H Q I hq;refine wpAny_List_spliced (cR (h pos ah s σ H _ I hq) λus s1 bG=>?_);obtain⟨xs,H1,I1,r,z,q⟩:=bG;refine⟨by rw [<-r.length];exact z,?_⟩;have hf:H1 s1.heap.objs.size=none:=I1.cx.fresh (aF _);refine⟨.ref s1.heap.objs.size,upd H1 s1.heap.objs.size (.lst xs),I1.laid (t':=s1.toks) (λb u e=>cv _ e) (aF _) ?_,rfl,q _ hf⟩;exact⟨z,us,0,r,d0 _ rfl⟩
end
abbrev Sp:=List V->Hp->VK->XK->Prop
abbrev zg:=List Env->Hp->Shared->XK->Value->Shared->Prop
structure qx (P:Program)(w:World)(K:ba)(mg:Str->Option Value)(base:Heap)(A:Around)(outer:List Env)(s:Shared)(H:Hp):Prop where
 frames:A.frames=some outer
 mod:Mod K mg base
 bs:∀b o,base.get? b=some o->s.heap.get? b=some o/\H b=none
 ID:base.objs.size<=s.heap.objs.size
 pE:s.heap.FunFrames base outer
 Lb:∀b∈Dr outer,H b=none
 cx:me P w H s.heap
 bare:AllBare s.gens
def CE (outer:List Env)(P:Program)(w:World)(H:Hp)(s:Shared)(Q:VK)(u:Value)(s':Shared):Prop :=
 ∃v H',s'.os=s.os/\AllBare s'.gens/\Un (Dr outer) [] H H' s.heap s'.heap/\me P w H' s'.heap/\RelV v u/\Q v H'
def CR (CX:zg)(outer:List Env)(P:Program)(w:World)(H:Hp)(s:Shared)(Q:VK)(E:XK)(r:Result)(s':Shared):Prop :=
 match r with
 | .ok (.ret u)=>CE outer P w H s Q u s'
 | .ok _=>False
 | .error e=>CX outer H s E e s'
structure bS (P:Program)(w:World)(K:ba)(mg:Str->Option Value)(base:Heap)(CX:zg) (k:Nat)(f:Addr)(fd:FuncData) (ps:List Str)(sp:Sp):Prop where
 len:∀vs H Q E,sp vs H Q E->vs.length=ps.length
 run:∀(A:Around)(outer:List Env)(s:Shared)(H:Hp)(args:Args)(us:List Value)(vs:List V)(Q:VK)(E:XK),fY k A->qx P w K mg base A outer s H->BindsTo s fd args (ps.zip us)->bf vs us->sp vs H Q E ->
  codeAny (model P w) A (.call (.ref f) args) (CR CX outer P w H s Q E) s
theorem bS.mono {P:Program}{w:World}{K:ba}{mg:Str->Option Value}{base:Heap}{CX:zg}{j k:Nat}{f:Addr}{fd:FuncData}{ps:List Str}{sp:Sp}(F:bS P w K mg base CX j f fd ps sp)(h:j<=k) :
  bS P w K mg base CX k f fd ps sp:=⟨F.len,λA outer s H args us vs Q E hr=>F.run A outer s H args us vs Q E (hr.mono h)⟩
def bS.imp {P:Program}{w:World}{K:ba}{mg:Str->Option Value}{base:Heap}{CX:zg}{k:Nat}{f:Addr}{fd:FuncData}{ps:List Str}{sp Yq:Sp}(F:bS P w K mg base CX k f fd ps sp)
  (h:∀vs H Q E,Yq vs H Q E->sp vs H Q E):bS P w K mg base CX k f fd ps Yq :=
 ⟨λvs H Q E q=>F.len vs H Q E (h _ _ _ _ q),λA outer s H args us vs Q E hr he hb hv hs=>F.run A outer s H args us vs Q E hr he hb hv (h _ _ _ _ hs)⟩
def qx.make {P:Program}{w:World}{K:ba}{mg:Str->Option Value}{base:Heap}{A:Around}{outer:List Env}{s:Shared}{H:Hp}(e:qx P w K mg base A outer s H)(C:Addr)(us:List Value)(kw:List (Str×Value)) :
  qx P w K mg base (A.under (.builtin "type.__call__" ⟨.ref C::us,kw⟩)) outer s H:=⟨by first | exact e.frames | (simpa [Around.under,Code.envs,Code.isFrame,pushEnvs] using e.frames),e.mod,e.bs,e.ID,e.pE,e.Lb,e.cx,e.bare⟩
theorem qx.in1 {P:Program}{w:World}{K:ba}{mg:Str->Option Value}{base:Heap}{A:Around}{outer:List Env}{s:Shared}{H:Hp}(e:qx P w K mg base A outer s H) :
  qx P w K mg base A.in1 outer s H:=⟨e.frames,e.mod,e.bs,e.ID,e.pE,e.Lb,e.cx,e.bare⟩
section
variable {X:Cx}{ah:List (Addr×Obj)}{σ:St}{H:Hp}{s s':Shared}
def Inv.NB (I:Inv X ah σ H s):qx X.prog X.w X.K X.mg X.base X.A X.stack s H :=
 ⟨I.ok.frames,I.ok.mod,I.bs,dY I.ok.ID I.sz,I.stack,I.Bg,I.cx,I.bare⟩
def Inv.after {Q:VK}{u:Value}(I:Inv X ah σ H s)(h:CE X.stack X.prog X.w H s Q u s'):EP X ah σ Q u s':=by
 obtain⟨v,H',os,bare,un,cx,r,q⟩:=h;obtain⟨hh,g,d,t,os'⟩:=s';obtain rfl:os'=s.os:=os;exact⟨v,H',I.call (h':=hh) (g':=g) (d':=d) (t':=t) (ch:=[]) un cx bare (λb z=>absurd z (by simp)),r,q⟩
end
def Ko (sp:Sp)(dvs:List V)(E:XK)(t:TA):TE:=λσ H Q=>t σ H λvs H1=>sp (vs++dvs) H1 Q E
def Pe (C:Addr)(m:Str)(sp:Sp)(dvs:List V)(E:XK)(ta:TE)(t:TA):TE:=λσ H Q=>ta σ H λx H1=>∃a dx fs,x=.ref a/\H1 a=some (.ins C dx fs)/\fs.lookup m=none /\
 t σ H1 λvs H2=>sp (x::(vs++dvs)) H2 Q E
def Pf (C:Addr)(sp:Sp)(dvs:List V)(E:XK)(t:TA):TE:=λσ H Q=>t σ H λvs H1=>∀x dx,H1 x=none->H1 dx=none->dx≠x ->
 sp (.ref x::(vs++dvs)) (upd (upd H1 dx (.own x)) x (.ins C dx [])) (λv H2=>v=.fh/\Q (.ref x) H2) E
def Binds (K:ba)(fd:FuncData) (ps:List Str)(ds:List Value):Prop :=
 ∀(s:Shared)(us:List Value),K.In s.heap->(us++ds).length=ps.length->BindsTo s fd ⟨us,[]⟩ (ps.zip (us++ds))
def Binds.all {K:ba}{fd:FuncData}{ps:List Str}(h:∀us:List Value,us.length=ps.length->bindArgs fd ⟨us,[]⟩=pure (ps.zip us)):Binds K fd ps []:=λs us _ hl=>by
 rw [iS] at hl ⊢;exact .of_eq (h us hl)
def Passes (CX:zg)(X:Cx)(E:XK):Prop:=∀(ah:List (Addr×Obj))(σ:St)(H:Hp)(s:Shared)(e:Value)(s':Shared),Inv X ah σ H s->CX X.stack H s E e s'->X.xe e s'
section
variable {X:Cx}{CX:zg}{k:Nat}{f C:Addr}{fd:FuncData}{ps:List Str}{sp:Sp}{dvs:List V}{ds:List Value}{E:XK}{x m:Str}{p pos apos:Pos}{e o:Expr}{es:List Expr}{ta:TE}{t:TA}
def Fd {ah:List (Addr×Obj)}{σ:St}{H:Hp}{s:Shared}{Q:VK}{us:List Value}{vs:List V}(F:bS X.prog X.w X.K X.mg X.base CX k f fd ps sp)(hr:fY k X.A)(hb:Binds X.K fd ps ds)(hd:bf dvs ds)(hx:Passes CX X E)
  (I:Inv X ah σ H s)(r:bf vs us)(h:sp (vs++dvs) H Q E):wpAny (model X.prog X.w) X.A (call (.ref f) us) (EP X ah σ Q) X.xe s:=by
 have r2:bf (vs++dvs) (us++ds):=r.append hd;have hl:(us++ds).length=ps.length:=by rw [<-r2.length];exact F.len _ _ _ _ h
 refine wpAny_call (oG (F.run X.A X.stack s H ⟨us,[]⟩ (us++ds) (vs++dvs) Q E hr I.NB (hb s us I.wG hl) r2 h) λr s' hq=>?_);cases r with
 | error e=>exact hx ah σ H s e s' I hq
 | ok fl =>
  cases fl with
  | ret u=>exact I.after hq
  | next=>exact False.elim hq
  | brk=>exact False.elim hq
  | cont=>exact False.elim hq
def Jq (F:bS X.prog X.w X.K X.mg X.base CX k f fd ps sp)(hr:fY k X.A)(hg:Gl X x)(hm:X.mg x=some (.ref f))(hk:PySem.W.keepIn X.K (.ref f)=true)(hb:Binds X.K fd ps ds)(hd:bf dvs ds)(hx:Passes CX X E)
  (ha:PA X (e::es) t)(Dj:(x == ("__debug__":Str))=false:=by decide)(he:starEach (e::es) X.env=(false,eval e X.env)::starEach es X.env:=by rfl)(BS:(backTo pos (starEach es X.env)).any (·.1)=false:=by rfl) :
  PE X (.Call (.Name x p) (e::es) [] pos) (Ko sp dvs E t):=by
 intro ah s σ H Q I h;refine qO (wD I hg hm ?_ Dj);refine PySem.W.callWith_K (h₀:=X.base) I.ok.mod.Qt hk (cR (ha pos ah s σ H _ I h) λus s1 bG=>?_) he BS;obtain⟨vs,H1,I1,r,q⟩:=bG;refine⟨I1.wG,?_⟩;exact Fd F hr hb hd hx I1 r q
def BJ {pl:Sem Bool}(he:PE X o ta)(c:Ec X.K C)(hm:Meth X.K C m f)(F:bS X.prog X.w X.K X.mg X.base CX k f fd ps sp)(hr:fY k X.A)(hb:Binds X.K fd ps ds)(hd:bf dvs ds)(hx:Passes CX X E)(ha:PA X (e::es) t)
  (yX:starEach (e::es) X.env=(false,eval e X.env)::starEach es X.env:=by rfl)(BS:(backTo pos (starEach es X.env)).any (·.1)=false:=by rfl)
  (ht:eval (.Call (.Attribute o m apos) (e::es) [] pos) X.env=(do
   let ov <-eval o X.env
   standAt apos.atName
   let (f,first) <-holding [ov] (getMethod ov m pl)
   callWith pos f first (backTo pos (starEach (e::es) X.env)) (backToKw pos (keywordEach [] X.env))):=by rfl) :
  PE X (.Call (.Attribute o m apos) (e::es) [] pos) (Pe C m sp dvs E ta t):=by
 intro ah s σ H Q I h;refine PySem.W.methodCall_KW (pl:=pl) (cR (he ah s σ H _ I h) λu s1 bG=>?_) ht;obtain⟨x,H1,I1,rx,a,dx,fs,ex,ea,l,q⟩:=bG;subst ex;obtain rfl:u=Value.ref a:=rx;refine sF I1 ea c hm l ?_;refine PySem.W.callWith_K (first:=[.ref a]) (h₀:=X.base) I.ok.mod.Qt hm.kp (cR (ha pos ah s1 σ H1 _ I1 q) λus s2 bG=>?_) yX BS;obtain⟨vs,H2,I2,r,q2⟩:=bG;refine⟨I2.wG,?_⟩;exact Fd (us:=.ref a::us) (vs:=.ref a::vs) F hr hb hd hx I2 (.cons rfl r) q2
structure Mk (K:ba)(C f:Addr):Prop where
 makes:PySem.W.makesIn K C=true
 init:PySem.W.findIn K (.ref C) "__init__"=some (some (.ref f))
 fn:PySem.W.isFn K (.ref f)=true
 kp:PySem.W.keepIn K (.ref C)=true
def Fc {ah:List (Addr×Obj)}{σ:St}{H:Hp}{s:Shared}{Q:VK}{us:List Value}{vs:List V}(M:Mk X.K C f)(F:bS X.prog X.w X.K X.mg X.base CX k f fd ps sp)(hr:fY (k+1) X.A)(hb:Binds X.K fd ps ds)(hd:bf dvs ds)
  (hx:Passes CX X E)(I:Inv X ah σ H s)(r:bf vs us)
  (h:∀x dx,H x=none->H dx=none->dx≠x->sp (.ref x::(vs++dvs)) (upd (upd H dx (.own x)) x (.ins C dx [])) (λv H2=>v=.fh/\Q (.ref x) H2) E) :
  wpAny (model X.prog X.w) X.A (call (.ref C) us) (EP X ah σ Q) X.xe s:=by
 have hq:=h (s.heap.objs.size+1) s.heap.objs.size (I.cx.fresh (mf _)) (I.cx.fresh (aF _)) (cw (pS _));have I2:=Inv.made (C:=C) I;have r2:bf (V.ref (s.heap.objs.size+1)::(vs++dvs)) (Value.ref (s.heap.objs.size+1)::(us++ds)):=.cons rfl (r.append hd);have hl:(Value.ref (s.heap.objs.size+1)::us++ds).length=ps.length:=by
  have e:=r2.length;rw [F.len _ _ _ _ hq] at e;exact e.symm
 refine wpAny_call (F_ (f:=f) I.wG M.makes M.init (beq_iff_eq.mp M.fn) (oG (F.run _ X.stack _ _ ⟨Value.ref (s.heap.objs.size+1)::us,[]⟩ (Value.ref (s.heap.objs.size+1)::(us++ds)) _ _ E (hr.make C us [])
  (I2.NB.make C us []) (hb _ (Value.ref (s.heap.objs.size+1)::us) I2.wG hl) r2 hq) λr s' QN=>?_))
 cases r with
 | error e=>exact hx ah σ _ _ e s' I2 QN
 | ok fl =>
  cases fl with
  | ret u =>
   obtain⟨v,H',I3,rv,ev,q3⟩:=I2.after QN;subst ev;exact⟨rv,⟨V.ref (s.heap.objs.size+1),H',I3,rfl,q3⟩⟩
  | next=>exact False.elim QN
  | brk=>exact False.elim QN
  | cont=>exact False.elim QN
def wo (M:Mk X.K C f)(F:bS X.prog X.w X.K X.mg X.base CX k f fd ps sp)(hr:fY (k+1) X.A)(hg:Gl X x)(hm:X.mg x=some (.ref C))(hb:Binds X.K fd ps ds)(hd:bf dvs ds)(hx:Passes CX X E)
  (ha:PA X (e::es) t)(Dj:(x == ("__debug__":Str))=false:=by decide)(he:starEach (e::es) X.env=(false,eval e X.env)::starEach es X.env:=by rfl)(BS:(backTo pos (starEach es X.env)).any (·.1)=false:=by rfl) :
  PE X (.Call (.Name x p) (e::es) [] pos) (Pf C sp dvs E t):=by
 intro ah s σ H Q I h;refine qO (wD I hg hm ?_ Dj);refine PySem.W.callWith_K (h₀:=X.base) I.ok.mod.Qt M.kp (cR (ha pos ah s σ H _ I h) λus s1 bG=>?_) he BS;obtain⟨vs,H1,I1,r,q⟩:=bG;refine⟨I1.wG,?_⟩;exact Fc M F hr hb hd hx I1 r q
end
section
variable {X:Cx}{CX:zg}{k:Nat}{f C:Addr}{fd:FuncData}{ps ks:List Str}{sp:Sp}{E:XK}{x m:Str}{p pos apos aaj:Pos}{e o:Expr}{es:List Expr}{kws:List Keyword}{te ta:TE}{t tk:TA}{nm:Option Str}
structure X1 (K:ba)(fd:FuncData) (ps ks:List Str)(g:List Value->List Value->List Value)(gV:List V->List V->List V):Prop where
 to:∀(s:Shared)(us ws:List Value),K.In s.heap->(g us ws).length=ps.length->BindsTo s fd ⟨us,ks.zip ws⟩ (ps.zip (g us ws))
 rel:∀{vs:List V}{us:List Value}{zs:List V}{ws:List Value},bf vs us->bf zs ws->bf (gV vs zs) (g us ws)
variable {g:List Value->List Value->List Value}{gV:List V->List V->List V}
end
structure aK (N P:List Str)(sc:Scope):Prop where
 kind:sc.kind=.function
 co:sc.isCoroutine=false
 gen:sc.isGenerator=false
 nd:N.Nodup
 pre:N.take P.length=P
 par:∀x∈P,sc.names.lookup x=some .local\/sc.names.lookup x=some .cell
 MC:∀y∈sc.names,y.2≠.free
def iN {N P:List Str}{sc:Scope}(a:sc.kind=.function)(b:sc.isCoroutine=false)(c:sc.isGenerator=false)(d:N.take P.length=P)(e:N.Nodup/\(∀x∈P,sc.names.lookup x=some .local\/sc.names.lookup x=some .cell)/\∀y∈sc.names,y.2≠.free):aK N P sc:=⟨a,b,c,e.1,d,e.2.1,e.2.2⟩
theorem uY {kindOf:Str->Option NameKind}{x:Str}:∀{binds:List (Str×Value)}{m:Str->Option Value},(∀v,(x,v)∉binds)->bindL kindOf binds m x=m x
 | [],_,_=>rfl
 | (n,v)::r,m,h=>by
  unfold bindL;rw [uY λw hw=>h w (dB _ hw)]
  split
  .have:x≠n:=by rintro rfl;exact h v cI
   simp [this]
  rfl
theorem u6 {kindOf:Str->Option NameKind}{x:Str}:∀{binds:List (Str×Value)}{m:Str->Option Value},(∀v,(x,v)∉binds)->bindC kindOf binds m x=m x
 | [],_,_=>rfl
 | (n,v)::r,m,h=>by
  unfold bindC;rw [u6 λw hw=>h w (dB _ hw)]
  split
  .rfl
  have:x≠n:=by rintro rfl;exact h v cI
  simp [this]
theorem uZ {kindOf:Str->Option NameKind}{x:Str}{v:Value}:∀{P:List Str}{vs:List Value}{i:Nat}{m:Str->Option Value},P.Nodup->P[i]?=some x->vs[i]?=some v->kindOf x=some .local ->
  bindL kindOf (P.zip vs) m x=some v
 | [],_,_,_,_,h,_,_=>by simp at h
 | _::_,[],_,_,_,_,h,_=>by simp at h
 | p::P,w::vs,0,m,nd,h1,h2,hk=>by
  simp at h1 h2;subst h1;subst h2;show bindL kindOf ((p,w)::P.zip vs) m p=_;unfold bindL;rw [uY λv hv=>(mU.mp nd).1 (List.of_mem_zip hv).1,ax hk];simp
 | p::P,w::vs,i+1,m,nd,h1,h2,hk=>by
  show bindL kindOf ((p,w)::P.zip vs) m x=_;unfold bindL;exact uZ (i:=i) (mU.mp nd).2 (by simpa using h1) (by simpa using h2) hk
theorem u7 {kindOf:Str->Option NameKind}{x:Str}{v:Value}:∀{P:List Str}{vs:List Value}{i:Nat}{m:Str->Option Value},P.Nodup->P[i]?=some x->vs[i]?=some v->kindOf x≠some .local ->
  bindC kindOf (P.zip vs) m x=some v
 | [],_,_,_,_,h,_,_=>by simp at h
 | _::_,[],_,_,_,_,h,_=>by simp at h
 | p::P,w::vs,0,m,nd,h1,h2,hk=>by
  simp at h1 h2;subst h1;subst h2;show bindC kindOf ((p,w)::P.zip vs) m p=_;unfold bindC;rw [u6 λv hv=>(mU.mp nd).1 (List.of_mem_zip hv).1,ay hk];simp
 | p::P,w::vs,i+1,m,nd,h1,h2,hk=>by
  show bindC kindOf ((p,w)::P.zip vs) m x=_;unfold bindC;exact u7 (i:=i) (mU.mp nd).2 (by simpa using h1) (by simpa using h2) hk
def start (N:List Str)(vs:List V):St:=vs.map some++List.replicate (N.length - vs.length) none
def pJ (CX:zg)(P:Program)(w:World)(K:ba)(mg:Str->Option Value)(base:Heap) (N:List Str)(qual:Str)(scope:Scope)(f:Addr)(cd:Value)(A:Around)(outer:List Env)(s:Shared)(H:Hp)(E:XK):Cx where
 prog:=P
 w:=w
 K:=K
 mg:=mg
 base:=base
 A:=A.deeper (envOfC qual scope s.heap.objs.size f cd)
 N:=N
 s₀:=s
 H₀:=H
 env:=envOfC qual scope s.heap.objs.size f cd
 outer:=outer
 stack:=envOfC qual scope s.heap.objs.size f cd::outer
 ex:=[]
 calm:=true
 fn:=λ_=>true
 pn:=[]
 xe:=λe s'=>wpAny (model P w) (A.deeper (envOfC qual scope s.heap.objs.size f cd)) (leaving (envOfC qual scope s.heap.objs.size f cd) e) (λ_ PF=>CX outer H s E e PF) (λe' PF=>CX outer H s E e' PF) s'
def yH {sc:Scope}{n:Nat}{x:Str}(h:sc.names.lookup x=some .cell):∃c,(cellsFrom n sc.names []).lookup x=some c:=by
 have q:=PySem.W.cellsFrom_some sc.names n [] (.inl h);exact lY.mp q
def uI {CX:zg}{P:Program}{w:World}{K:ba}{mg:Str->Option Value}{base:Heap}{N ps:List Str}{qual:Str}{scope:Scope}{f:Addr}{cd:Value}{A:Around}{outer:List Env}{s s1:Shared}{H:Hp}{E:XK}{us:List Value}{vs:List V}
  (S:aK N ps scope)(hd:A.handled=none)(e0:qx P w K mg base A outer s H)(hl:vs.length=ps.length)(r:bf vs us)
  (x:InCallC s s.heap.objs.size (bindL (envOfC qual scope s.heap.objs.size f cd).kindOf (ps.zip us) λ_=>none) (cellsFrom (s.heap.objs.size+1) scope.names []) (bindC (envOfC qual scope s.heap.objs.size f cd).kindOf (ps.zip us) λ_=>none) s1) :
  Inv (pJ CX P w K mg base N qual scope f cd A outer s H E) [] (start N vs) H s1:=by
 have BS:ps.length<=N.length:=by have:=congrArg List.length S.pre;rw [bQ] at this;omega
 obtain⟨h1,tk,rfl,hk⟩:=x.done;have P5:∀b:Addr,b∉(pJ CX P w K mg base N qual scope f cd A outer s H E).ex:=λb z=>absurd (show b∈([]:List Addr) from z) (by simp);refine⟨⟨e0.mod,S.kind,rfl,rfl,aF _,λy z c h1 h2=>?_,λy hy=>?_,λy c _ h=>?_,λ_=>hd,Around.frames_deeper e0.frames,.inr ⟨rfl,rfl⟩,λb z=>absurd z (P5 b),e0.bs,e0.ID,λb _ _=>P5 b,λb z=>absurd z (P5 b),e0.pE,e0.Lb⟩,
  rfl,e0.bare,Un.kept hk,⟨_,x.toInCall.ns,λi y v h1 h2 h3=>?_⟩,λy c h=>⟨_,x.cell y c h⟩,e0.cx.fresh (aF _),λy c h=>?_,λp hp=>absurd (show p∈([]:List (Addr×Obj)) from hp) (by simp),e0.cx.kept hk,?_⟩
 .exact name_of_addr x.apart (rp h1) (rp h2)
 .have hy:scope.names.lookup y=some .cell\/scope.names.lookup y=some .free:=hy;rcases hy with hy | hy
  .exact yH hy
  exact absurd rfl (S.MC _ (rp hy))
 .exact kJ (x.above y c (rp h))
 .have hi:i < vs.length:=by
   unfold start at h2;by_cases hi:i < vs.length
   .exact hi
   rw [mZ (by simpa using hi)] at h2;rw [List.getElem?_replicate] at h2
   split at h2 <;> cases h2
  have ha:vs[i]?=some v:=by
   unfold start at h2;rw [pU (by simpa using hi),bz] at h2;cases e:vs[i]? with
   | none=>rw [e] at h2;cases h2
   | some a=>rw [e] at h2;cases h2;rfl
  obtain⟨u,hu,rv⟩:=r.get ha;have hp:ps[i]?=some y:=by
   rw [<-S.pre,xq ∅];exact h1
  have Sw:ps.Nodup:=by rw [<-S.pre];exact S.nd.sublist (List.take_sublist _ _)
  refine⟨u,rv,?_⟩;rcases S.par y (b_ hp) with k | k
  .exact .inl ⟨k,uZ Sw hp hu k⟩
  obtain⟨c,e⟩:=yH (n:=s.heap.objs.size+1) k;refine .inr ⟨.inl k,c,e,?_⟩;have q:=x.cell y c e;rw [u7 Sw hp hu (by show scope.names.lookup y≠_;rw [k];decide)] at q;exact q
 .exact e0.cx.fresh (kJ (x.above y c (rp h)))
 unfold start;show _=N.length;rw [a9,au,List.length_replicate];omega
def G6 {CX:zg}{P:Program}{w:World}{K:ba}{mg:Str->Option Value}{base:Heap}{k:Nat}{f:Addr}{name qual:Str}{params:Arguments}{body:List Stmt}{scope:Scope}{dV kV doc pm eY ct oc:Value}{an od:Option Addr}
  {xU:Array (Option Value)}{N ps:List Str}{sp:Sp}(lk:K.lookup f=some ⟨oc,od,.func (PySem.W.fnOf name qual params body scope dV kV doc pm an eY ct),xU⟩)(wM:PySem.W.codeIn K eY qual=true)(S:aK N ps scope)
  (len:∀vs H Q E,sp vs H Q E->vs.length=ps.length)
  (jB:∀(A:Around)(outer:List Env)(s:Shared)(H:Hp)(vs:List V)(Q:VK)(E:XK),fY k (A.deeper (envOfC qual scope s.heap.objs.size f eY))->sp vs H Q E ->
   ∃t,AZ (pJ CX P w K mg base N qual scope f eY A outer s H E) body t/\t { nx:=λ_ H'=>Q .fh H',rt:=Q } (start N vs) H) :
  bS P w K mg base CX (k+1) f (PySem.W.fnOf name qual params body scope dV kV doc pm an eY ct) ps sp:=by
 refine⟨len,λA outer s H args us vs Q E hr e0 hb r yY=>?_⟩;have hl:=len _ _ _ _ yY;have KX:K.In s.heap:=e0.mod.Qt.keeps λb o e=>(e0.bs b o e).1;have lim:s.heap.NoLimit:=e0.mod.nolimit.keeps λb o e=>(e0.bs b o e).1;have jz:∀y∈ps.zip us,scope.names.lookup y.1=some .local\/(scope.names.lookup y.1=some .cell/\((cellsFrom (s.heap.objs.size+1) scope.names []).lookup y.1).isSome=true):=λ⟨n,v⟩ hy=>by
  rcases S.par n (List.of_mem_zip hy).1 with q | q
  .exact .inl q
  exact .inr ⟨q,PySem.W.cellsFrom_some _ _ _ (.inl q)⟩
 refine codeAny_call_function hr.depth (KX _ _ lk) rfl S.co S.gen rfl (PySem.W.codeRec_of KX wM) (hb _ _ _ _ ?_);refine wpAny_newFunctionEnv_cells S.kind jz λenv he s1 x=>?_;subst he;refine⟨lim.keeps x.toInCall.keep,codeAny_func ?_⟩;obtain⟨t,ht,hq⟩:=jB A outer s H vs Q E (hr.deeper _) yY;have I:Inv (pJ CX P w K mg base N qual scope f eY A outer s H E) [] (start N vs) H s1:=uI S hr.hd e0 hl r x;refine dM (ht [] s1 (start N vs) H _ I hq) (λfl s' hs=>?_) λe s' hs=>hs;have fin:∀{σ':St}{H':Hp}{v:V}{u:Value},Inv (pJ CX P w K mg base N qual scope f eY A outer s H E) [] σ' H' s'->RelV v u->Q v H'->CE outer P w H s Q u s' :=
  λ{σ' H' v u} J rv q=>⟨v,H',J.os,J.bare,J.base,J.cx,rv,q⟩
 cases fl with
 | ret u =>
  obtain⟨v,σ',H',J,rv,q⟩:=hs;exact fin J rv q
 | next =>
  obtain⟨σ',H',J,q⟩:=hs;exact fin (v:=V.fh) (u:=Value.none) J rfl q
 | brk =>
  obtain⟨_,_,_,q⟩:=hs;exact False.elim q
 | cont =>
  obtain⟨_,_,_,q⟩:=hs;exact False.elim q
section
variable {X:Cx}{x:Str}{p pos:Pos}{e:Expr}{es:List Expr}{t:TA}{id T:String}{r:List V->Hp->VK->Prop}
def Ym (r:List V->Hp->VK->Prop)(t:TA):TE:=λσ H Q=>t σ H λvs H1=>r vs H1 Q
def aD (hc:iD X (.builtin id) r)(hg:Gl X x)(hm:X.mg x=none)(hv:bootBuiltins x=some (.builtin id))(ha:PA X (e::es) t)(hn:x ≠ "__name__" := by decide)(Dj:(x == ("__debug__":Str))=false:=by decide)
  (he:starEach (e::es) X.env=(false,eval e X.env)::starEach es X.env:=by rfl)(BS:(backTo pos (starEach es X.env)).any (·.1)=false:=by rfl):PE X (.Call (.Name x p) (e::es) [] pos) (Ym r t):=by
 intro ah s σ H Q I h;refine qO (jW I hg hm hv ?_ hn Dj);refine PyProof.Rows.callWith_builtin1 (cR (ha pos ah s σ H _ I h) λus s1 bG=>?_) he BS;obtain⟨vs,H1,I1,r1,q1⟩:=bG;exact hc ah s1 σ H1 vs us Q I1 r1 q1
def bc (hc:iD X (.type T) r)(hg:Gl X x)(hm:X.mg x=none)(hv:bootBuiltins x=some (.type T))(ha:PA X (e::es) t)(hn:x ≠ "__name__" := by decide)(Dj:(x == ("__debug__":Str))=false:=by decide)
  (he:starEach (e::es) X.env=(false,eval e X.env)::starEach es X.env:=by rfl)(BS:(backTo pos (starEach es X.env)).any (·.1)=false:=by rfl):PE X (.Call (.Name x p) (e::es) [] pos) (Ym r t):=by
 intro ah s σ H Q I h;refine qO (jW I hg hm hv ?_ hn Dj);refine vG (cR (ha pos ah s σ H _ I h) λus s1 bG=>?_) he BS;obtain⟨vs,H1,I1,r1,q1⟩:=bG;exact hc ah s1 σ H1 vs us Q I1 r1 q1
end
end L2
namespace HT
open PySem PyProof.Rows
section
open PySem.SeqAt
open PySem.AutoSeq1 (wpAny_loadPart')
open PySem.MeetsSeq PySem.MeetsSeq2 PySem.MeetsSeq3
end
section
variable {prog:Program}{w:World}{A:Around}{E:Value->Shared->Prop}{s:Shared}
def Ka {t b:Addr}{vs ws:List Value}{Q:Value->Shared->Prop}(ht:IsTup s.heap t vs.toArray)(hb:IsTup s.heap b ws.toArray)(hv:vs≠[])
  (h1:ws=[]->Q (.ref t) s)(h2:ws≠[]->Q (.ref s.heap.objs.size) { s with heap:=s.heap.push { cls:=.type "tuple",data:=.seq (vs++ws).toArray } })
  (hsz:vs.length+ws.length<=sizeLine):wpAny (model prog w) A (binaryOp .Add (.ref t) (.ref b)) Q E s:=by
 obtain⟨⟨cls,dd,data,sl⟩,ho,hc,n,hd⟩:=id ht;obtain⟨⟨Xl,OP,data2,Si⟩,Ik,JQ,n2,hd2⟩:=id hb;simp only at hc hd JQ hd2;subst hc hd JQ hd2;have e:vs.toArray++ws.toArray=(vs++ws).toArray:=by simp
 by_cases hw:ws=[]
 .exact concat_meets ⟨_,ho,rfl⟩ ⟨_,Ik,rfl⟩ noFill_tuple_add seq_tuple_add zj zo (zq _ _)
   (tuple_addW1 t b vs.toArray ws.toArray n n2 dd OP sl Si (by simpa using hv) (by simp [hw])) ⟨ho,Ik,h1 hw⟩
 refine concat_meets ⟨_,ho,rfl⟩ ⟨_,Ik,rfl⟩ noFill_tuple_add seq_tuple_add zj zo (zq _ _)
  (tuple_addW2 t b vs.toArray ws.toArray n n2 dd OP sl Si (by simpa using hv) (by simpa using hw) (by rw [bY,bY];exact hsz)) ⟨ho,Ik,?_⟩
 rw [e];exact h2 hw
def gA (n d:Nat):Option Int->Nat
 | none=>d
 | some v=>if v < 0 then (v+(n:Int)).toNat else min v.toNat n
def gH (n d:Nat):gA n d none=d:=rfl
def g6 (n d k:Nat):gA n d (some (k:Int))=min k n:=by
 show (if (k:Int) < 0 then ((k:Int)+(n:Int)).toNat else min (k:Int).toNat n)=min k n;rw [ay ∅,kC]
def L_ (n d:Nat)(hd:d<=n)(o:Option Int):gA n d o<=n:=by
 cases o with
 | none=>exact hd
 | some v =>
  show (if v < 0 then (v+(n:Int)).toNat else min v.toNat n)<=n;by_cases hv:v < 0
  .rw [ax hv];omega
  rw [ay hv];exact Nat.min_le_right _ _
def B9 (v:Int) (n d:Nat):(if v < 0 then max (v+(n:Int)) 0 else min v (n:Int))=((gA n d (some v):Nat):Int):=by
 show (if v < 0 then max (v+(n:Int)) 0 else min v (n:Int))=(((if v < 0 then (v+(n:Int)).toNat else min v.toNat n):Nat):Int);by_cases hv:v < 0
 .simp only [ax hv];omega
 simp only [ay hv];omega
def AW (lo hi:Option Int) (n:Nat):Builtin.Slice.sliceAdjust lo hi 1 (n:Int)=(((gA n 0 lo:Nat):Int),((gA n n hi:Nat):Int)):=by
 have h1:¬((1:Int) < 0):=by omega
 unfold Builtin.Slice.sliceAdjust;simp only [h1,if_false];refine Prod.ext ?_ ?_
 .cases lo with
  | none=>rfl
  | some v=>exact B9 v n 0
 cases hi with
 | none=>rfl
 | some v=>exact B9 v n n
def z5 (i j:Nat):Builtin.Slice.slicePlaces (i:Int) (j:Int) 1=j - i:=by
 unfold Builtin.Slice.slicePlaces;have h1:(1:Int) > 0:=by omega
 simp only [h1,if_true,Int.ediv_one]
 split <;> omega
def rM {v:Value}{o:Option Int}{Q:Option Int->Shared->Prop}(p:IsPart v o)(h:Q o s):wpAny (model prog w) A (Builtin.Slice.slicePartIndex v) Q E s:=by
 cases p with
 | none=>exact slicePart_none h
 | int i t=>exact slicePart_int h
def jv {sl:Addr}{vl vu:Value}{lo hi:Option Int}{n:Nat}{Q:Int×Int×Nat->Shared->Prop}(hs:s.heap.IsSliceOf sl vl vu .none)(pl:IsPart vl lo)(pu:IsPart vu hi)
  (h:Q (((gA n 0 lo:Nat):Int),1,gA n n hi - gA n 0 lo) s):wpAny (model prog w) A (Builtin.Slice.sliceApplied (.ref sl) (pure (n:Int))) Q E s:=by
 obtain⟨os,Dg,GQ,Im⟩:=id hs;unfold Builtin.Slice.sliceApplied Builtin.Slice.sliceFields;refine aE (aE (iG Dg Im (x:=vl) rfl (aE (iG Dg Im (x:=vu) rfl (aE (iG Dg Im (x:=.none) rfl (aP ?_)))))));refine aE (slicePart_none ?_);show wpAny _ _ (if ((1:Int) == 0)=true then _ else _) _ _ s;rw [ay nofun];refine aE (rM pl (aE (rM pu (aE (aP ?_)))));show wpAny _ _ (match Builtin.Slice.sliceAdjust lo hi 1 (n:Int) with | (lo,hi)=>pure (lo,(1:Int),Builtin.Slice.slicePlaces lo hi 1)) _ _ s
 rw [AW lo hi n];show wpAny _ _ (pure (((gA n 0 lo:Nat):Int),(1:Int),Builtin.Slice.slicePlaces ((gA n 0 lo:Nat):Int) ((gA n n hi:Nat):Int) 1)) _ _ s;rw [z5];exact aP h
def Fs (xs:Array Value) (i k:Nat):((List.range k).filterMap λ(m:Nat)=>xs[((i:Int)+(m:Int) * 1).toNat]?).toArray=((xs.toList.drop i).take k).toArray:=by
 have e:(λ(m:Nat)=>xs[((i:Int)+(m:Int) * 1).toNat]?)=λm=>xs[i+m]?:=by
  funext m
  have:((i:Int)+(m:Int) * 1).toNat=i+m:=by omega
  rw [this]
 rw [e];have:=pick_run xs i k;rw [List.filterMap_map] at this;have e2:((λx=>xs[x]?) ∘ λx=>i+x)=λm=>xs[i+m]?:=rfl;rw [e2] at this;rw [this]
def oj {t sl:Addr}{items:Array Value}{vl vu:Value}{lo hi:Option Int}{Q:Value->Shared->Prop}(ht:IsTup s.heap t items)(hs:s.heap.IsSliceOf sl vl vu .none)(pl:IsPart vl lo)(pu:IsPart vu hi)
  (hw:¬(gA items.size 0 lo=0/\gA items.size items.size hi=items.size))
  (h:Q (.ref s.heap.objs.size) { s with heap:=s.heap.push { cls:=.type "tuple",data:=.seq ((items.toList.drop (gA items.size 0 lo)).take (gA items.size items.size hi - gA items.size 0 lo)).toArray } })
  (hsz:items.size<=sizeLine):wpAny (model prog w) A (getItem (.ref t) (.ref sl)) Q E s:=by
 have nZ:sizeOk (.seq ((items.toList.drop (gA items.size 0 lo)).take (gA items.size items.size hi - gA items.size 0 lo)).toArray):=by
  show ((items.toList.drop (gA items.size 0 lo)).take (gA items.size items.size hi - gA items.size 0 lo)).toArray.size<=sizeLine;rw [bY,bQ,fg,rm];omega
 have hj:gA items.size items.size hi<=items.size:=L_ _ _ (aF _) hi;obtain⟨os,Dg,GQ,Im⟩:=id hs;have Q6:s.TypeIs (.ref sl) "slice" := ⟨os,Dg,GQ⟩;unfold getItem
 try with_reducible refine jN ?_
 first | refine aE (aP ?_) | skip
 refine aE (wpAny_sequenceKey ht.typeIs nofun ?_);refine aE (qR (name:=Str.ofString "__getitem__") ht.typeIs m_
  (mv m_ ht.typeIs entry_tuple_getitem ?_ (args_tuple_getitem _ _)))
 show wpAny _ _ (Builtin.Tuple.tupleItemsOf (.ref t) >>= _) _ _ s;refine aE (tupleItemsOf_ ht ?_);refine aE (lU Q6 ?_);rw [ax nofun];refine aE (jv hs pl pu ?_);have hno:¬((((gA items.size 0 lo:Nat):Int) == 0 && (1:Int) == 1 && (gA items.size items.size hi - gA items.size 0 lo) == items.size)=true):=by
  intro q;rw [pR,pR] at q;have q1:((gA items.size 0 lo:Nat):Int)=0:=eq_of_beq q.1.1;have q2:gA items.size items.size hi - gA items.size 0 lo=items.size:=eq_of_beq q.2;exact hw ⟨∅,∅⟩
 show wpAny _ _ (if (((gA items.size 0 lo:Nat):Int) == 0 && (1:Int) == 1 && (gA items.size items.size hi - gA items.size 0 lo) == items.size)=true then _ else _) _ _ s;rw [ay hno,Fs]
 first
  | exact aE (m:=Builtin.Tuple.tupleExact _) (jr (aP ⟨_,rfl,aP h⟩) nZ)
  | exact aE (m:=Builtin.Tuple.tupleExact _) (jr (aE (aP (aP ⟨_,rfl,aP h⟩))) nZ)
  | exact aE (aE (m:=Builtin.Tuple.tupleExact _) (jr (aP (aP ⟨_,rfl,aP h⟩)) nZ))
  | exact aE (aE (m:=Builtin.Tuple.tupleExact _) (jr (aP ⟨_,rfl,aP h⟩) nZ))
end
end HT
namespace L2
open PySem PySem.Spec PyProof.Rows
abbrev TO:=St->Hp->(Option Int->Hp->Prop)->Prop
def PO (X:Cx)(e:Option Expr)(t:TO):Prop :=
 ∀(ah:List (Addr×Obj))(s:Shared)(σ:St)(H:Hp)(Q:Option Int->Hp->Prop),Inv X ah σ H s->t σ H Q ->
  wpAny (model X.prog X.w) X.A (evalPart e X.env) (λu s'=>∃o H',Inv X ah σ H' s'/\IsPart u o/\Q o H') X.xe s
def IT:TO:=λ_ H Q=>Q none H
def Pa (t:TE):TO:=λσ H Q=>t σ H λx H1=>XR x λi=>Q (some i) H1
def intsAre_of {ns:List Int}:∀{us:List Value},bf (ns.map V.int) us->IntsAre us ns:=by
 induction ns with
 | nil=>intro us r;rw [mi] at r;cases r;exact .nil
 | cons n ns ih =>
  intro us r;rw [cP] at r;cases r with
  | cons r1 r2 =>
   obtain⟨t,e⟩:=r1;subst e;exact .cons n t (ih r2)
section
variable {X:Cx}{e:Expr}{te:TE}{lo hi:Option Expr}{tl th:TO}{pos p2:Pos}
def du:PO X none IT:=by
 intro ah s σ H Q I h;rw [evalPart_none];exact aP ⟨none,H,I,.none,h⟩
def bT (h:PE X e te):PO X (some e) (Pa te):=by
 intro ah s σ H Q I hw;rw [evalPart_some];refine cR (h ah s σ H _ I hw) λu s1 bG=>?_;obtain⟨x,H1,I1,r1,q1⟩:=bG;obtain⟨i,rfl,q⟩:=q1;obtain⟨t,rfl⟩:=r1;exact⟨some i,H1,I1,.int i t,q⟩
def Lx (X:Cx)(r:V->Option Int->Option Int->Hp->VK->Prop):Prop :=
 ∀(ah:List (Addr×Obj))(s:Shared)(σ:St)(H:Hp)(x:V)(v vl vu:Value)(lo hi:Option Int)(sl:Addr)(Q:VK),Inv X ah σ H s->RelV x v->s.heap.IsSliceOf sl vl vu .none->IsPart vl lo->IsPart vu hi->r x lo hi H Q ->
  ∃T id,typeLookup (.type T) "__getitem__"=pure (some (.builtin id))/\s.TypeIs v T/\wpAny (model X.prog X.w) X.A (getItem v (.ref sl)) (EP X ah σ Q) X.xe s
def Lx.or {r r':V->Option Int->Option Int->Hp->VK->Prop}(h:Lx X r)(h':Lx X r'):Lx X (λx lo hi H Q=>r x lo hi H Q\/r' x lo hi H Q):=by
 intro ah s σ H x v vl vu lo hi sl Q I rx hs pl pu q;rcases q with q | q
 .exact h ah s σ H x v vl vu lo hi sl Q I rx hs pl pu q
 exact h' ah s σ H x v vl vu lo hi sl Q I rx hs pl pu q
def tSl (r:V->Option Int->Option Int->Hp->VK->Prop)(te:TE)(tl th:TO):TE:=λσ H Q=>te σ H λx H1=>tl σ H1 λl H2=>th σ H2 λu H3=>r x l u H3 Q
def bZ {r:V->Option Int->Option Int->Hp->VK->Prop}(hr:Lx X r)(he:PE X e te)(hl:PO X lo tl)(hu:PO X hi th):PE X (.Subscript e (.Slice lo hi none p2) pos) (tSl r te tl th):=by
 intro ah s σ H Q I h;refine Subscript_ (cR (he ah s σ H _ I h) λv s1 bG=>?_);obtain⟨x,H1,I1,r1,q1⟩:=bG;refine wpAny_Slice (cR (hl ah s1 σ H1 _ I1 q1) λvl s2 bG=>?_);obtain⟨l,H2,I2,pl,q2⟩:=bG;refine cR (hu ah s2 σ H2 _ I2 q2) λvu s3 bG=>?_;obtain⟨u,H3,I3,pu,q3⟩:=bG;rw [evalPart_none];refine aP ?_;have I4:Inv X ah σ H3 { s3 with heap:=s3.heap.push { cls:=.type "slice",data:=.fields #[vl,vu,.none] } }:=I3.kept (t':=s3.toks) λb ob q=>cv _ q;obtain⟨T,id,hT,ht,hg⟩:=hr ah { s3 with heap:=s3.heap.push { cls:=.type "slice",data:=.fields #[vl,vu,.none] } } σ H3 x v vl vu l u s3.heap.objs.size Q I4 r1 (Heap.IsSliceOf.new ..) pl pu q3;show wpAny (model X.prog X.w) X.A (subscriptTail e (.Slice lo hi none p2) v (.ref s3.heap.objs.size)) (EP X ah σ Q) X.xe { s3 with heap:=s3.heap.push { cls:=.type "slice",data:=.fields #[vl,vu,.none] } };exact tail_any (ops:=[.ref s3.heap.objs.size,v]) ht hT hg (by with_unfolding_all rfl)
def d_ (xs:List V)(lo hi:Option Int):List V:=(xs.drop (HT.gA xs.length 0 lo)).take (HT.gA xs.length xs.length hi - HT.gA xs.length 0 lo)
def qb (xs:List V)(lo hi:Option Int):(d_ xs lo hi).length<=xs.length:=by
 unfold d_;rw [bQ,fg];omega
def UG (K:ba):V->Option Int->Option Int->Hp->VK->Prop:=λx lo hi H Q=>∃a xs,x=.ref a/\aS K H a xs /\
 ¬(HT.gA xs.length 0 lo=0/\HT.gA xs.length xs.length hi=xs.length)/\∀p,H p=none->Q (.ref p) (upd H p (.tup (d_ xs lo hi)))
def LS:Lx X (UG X.K):=by
 intro ah s σ H x v vl vu lo hi sl Q I rx hs pl pu h;obtain⟨a,xs,rfl,hx,hw,q⟩:=h;cases rx;obtain⟨aT,r,ht,hz⟩:=I.tuple hx;have bE:aT.toArray.size=xs.length:=by rw [bY];exact r.length.symm
 refine⟨"tuple",_,m_.lookup,ht.typeIs,?_⟩;refine HT.oj ht hs pl pu (by rw [bE];exact hw) ?_ (by rw [bE];exact hz);rw [bE];refine⟨.ref s.heap.objs.size,_,I.laid (t':=s.toks) (o:=.tup (d_ xs lo hi)) (λb ob q=>cv _ q) (aF _) ?_,rfl,q _ (I.cx.fresh (aF _))⟩;exact⟨dY (qb xs lo hi) hz,_,(r.drop (HT.gA xs.length 0 lo)).take (HT.gA xs.length xs.length hi - HT.gA xs.length 0 lo),IsTup.new _ _⟩
def PN (K:ba):R2:=λx y H Q=>∃a b xs ys,x=.ref a/\y=.ref b/\aS K H a xs/\aS K H b ys/\xs≠[]/\xs.length+ys.length<=sizeLine /\
 (ys=[]->Q (.ref a) H)/\(ys≠[]->∀p,H p=none->Q (.ref p) (upd H p (.tup (xs++ys))))
def bf.qE {xs:List V}{us:List Value}(r:bf xs us):us=[]↔xs=[]:=by
 cases r with
 | nil=>simp
 | cons _ _=>simp
def Js:jH X (binaryOp .Add) (PN X.K):=by
 intro ah s σ H x y v u Q I rx ry h;obtain⟨a,b,xs,ys,rfl,rfl,ha,hb,hx,hz,q1,q2⟩:=h;cases rx;cases ry;obtain⟨aT,r1,p1,_⟩:=I.tuple ha;obtain⟨dG,r2,p2,_⟩:=I.tuple hb;refine HT.Ka p1 p2 (λz=>hx (r1.qE.mp z)) (λz=>⟨.ref a,H,I,rfl,q1 (r2.qE.mp z)⟩) (λz=>?_) (by rw [<-r1.length,<-r2.length];exact hz);refine⟨.ref s.heap.objs.size,_,I.laid (t':=s.toks) (o:=.tup (xs++ys)) (λb ob q=>cv _ q) (aF _) ?_,rfl,q2 (λw=>z (r2.qE.mpr w)) _ (I.cx.fresh (aF _))⟩;exact⟨by rw [a9];exact hz,_,r1.append r2,IsTup.new _ _⟩
end
def K0 (n:Nat) (i:Int):Option Nat:=if 0<=i then (if i < n then some i.toNat else none) else if -(n:Int)<=i then some (i+n).toNat else none
def ke {α:Type}(xs:List α) (i:Int):Option α:=(K0 xs.length i).bind λj=>xs[j]?
def JK {n:Nat}{i:Int}{j:Nat}(h:K0 n i=some j):seqIndex? i n=some j/\j < n/\-(n:Int)<=i/\i < n:=by
 unfold K0 at h;by_cases h0:0<=i
 .rw [ax h0] at h;by_cases h1:i < n
  .rw [ax h1] at h;have e:i.toNat=j:=iu h;exact⟨by rw [seqIndex_of h0 h1,e],∅,∅,h1⟩
  rw [ay h1] at h;cases h
 rw [ay h0] at h;by_cases h1:-(n:Int)<=i
 .rw [ax h1] at h;have e:(i+n).toNat=j:=iu h;exact⟨by rw [seqIndex_neg ∅ h1,e],∅,h1,∅⟩
 rw [ay h1] at h;cases h
def Cb {α:Type}{xs:List α}{i:Int}{v:α}(h:ke xs i=some v):∃j,seqIndex? i xs.length=some j/\xs[j]?=some v/\j < xs.length/\-(xs.length:Int)<=i/\i < xs.length:=by
 unfold ke at h;cases e:K0 xs.length i with
 | none=>rw [e] at h;cases h
 | some j =>
  rw [e] at h;obtain⟨h1,h2,h3,h4⟩:=JK e;exact⟨j,h1,h,h2,h3,h4⟩
def b0 {α:Type}{xs:List α}{j:Nat}{v:α}(h:xs[j]?=some v):ke xs (j:Int)=some v:=by
 have hj:j < xs.length:=(bu.mp h).1;have e:K0 xs.length (j:Int)=some j:=by
  unfold K0;rw [ax ∅,ax ∅];simp
 unfold ke;rw [e];exact h
def Hy {α:Type}(xs:List α)(v:α):ke (xs++[v]) (-1)=some v:=by
 have hl:(xs++[v]).length=xs.length+1:=by simp
 have e:K0 (xs++[v]).length (-1)=some xs.length:=by
  unfold K0;rw [hl,ay nofun,ax ∅]
  congr 1
  omega
 unfold ke;rw [e];show (xs++[v])[xs.length]?=some v;simp
def Kf (b:Expr):Prop:=∀o i,subscripted b false o i=operate [o,i] (getItem o i)
def Kh (X:Cx)(r:R2):Prop :=
 ∀(value slice:Expr)(ah:List (Addr×Obj))(s:Shared)(σ:St)(H:Hp)(x y:V)(v u:Value)(Q:VK),Inv X ah σ H s->RelV x v->RelV y u->r x y H Q ->
  subscripted slice false v u=operate [v,u] (getItem v u)->wpAny (model X.prog X.w) X.A (subscriptTail value slice v u) (EP X ah σ Q) X.xe s
def OW (X:Cx)(id:String)(r:V->List V->Hp->VK->Prop):Prop :=
 ∀(ah:List (Addr×Obj))(s:Shared)(σ:St)(H:Hp)(x:V)(xs:List V)(v:Value)(us:List Value)(Q:VK),Inv X ah σ H s->RelV x v->bf xs us->r x xs H Q ->
  wpAny (model X.prog X.w) X.A (call (.builtin id) (v::us)) (EP X ah σ Q) X.xe s
section
variable {X:Cx}{a b:Expr}{ta tb:TE}{pos:Pos}
def Kh.or {r r':R2}(h:Kh X r)(h':Kh X r'):Kh X (λx y H Q=>r x y H Q\/r' x y H Q):=by
 intro value slice ah s σ H x y v u Q I rx ry q hs;rcases q with q | q
 .exact h value slice ah s σ H x y v u Q I rx ry q hs
 exact h' value slice ah s σ H x y v u Q I rx ry q hs
def OW.or {id:String}{r r':V->List V->Hp->VK->Prop}(h:OW X id r)(h':OW X id r'):OW X id (λx xs H Q=>r x xs H Q\/r' x xs H Q):=by
 intro ah s σ H x xs v us Q I rx rs q;rcases q with q | q
 .exact h ah s σ H x xs v us Q I rx rs q
 exact h' ah s σ H x xs v us Q I rx rs q
def aL {r:R2}(hr:Kh X r)(ha:PE X a ta)(hb:PE X b tb)(hs:Kf b):PE X (.Subscript a b pos) (Sb r ta tb):=by
 intro ah s σ H Q I h;exact Subscript_ (NY ha hb I h λv u s2 x y H2 I2 rx ry q=>hr a b ah s2 σ H2 x y v u Q I2 rx ry q (hs _ _))
inductive XQ (S:Addr->List V->Prop)(x y:V)(R:V->Prop):Prop
|mk(p:Addr)(xs:List V) (i:Int)(v:V)(e:x=.ref p)(e2:y=.int i)(s:S p xs)(a:ke xs i=some v)(q:R v)
def PL (K:ba):R2:=λx y H Q=>XQ (aH K H) x y λv=>Q v H
def PK (K:ba):R2:=λx y H Q=>XQ (aS K H) x y λv=>Q v H
def bB:Kh X (PL X.K):=by
 intro value slice ah s σ H x y v u Q I rx ry h hs;obtain⟨p,xs,i,z,rfl,rfl,hq,he,q⟩:=h;cases rx;obtain⟨t,rfl⟩:=ry;obtain⟨aT,r,pl,hz⟩:=I.list hq;obtain⟨j,h1,h2,h3,h4,h5⟩:=Cb he;obtain⟨w,ew,zW⟩:=r.get h2;have hl:=r.length;have hn:=wC;have fin:EP X ah σ Q w s:=⟨z,H,I,zW,q⟩;by_cases h0:0<=i
 .have hj:i.toNat=j:=by
   rw [seqIndex_of h0 h5] at h1;exact iu h1
  exact item_listR pl.isList h0 ∅ (by rw [hj];simpa using ew) fin hs
 have hj:(i+(aT.toArray.size:Int)).toNat=j:=by
  rw [seqIndex_neg ∅ h4] at h1;rw [bY,<-hl];exact iu h1
 exact subscriptTail_builtinR (x:=w) pl.isList.typeIs slot_list_getitem.lookup
  (wpAny_getItem_list_neg (Q:=λr s'=>r=w/\EP X ah σ Q r s') pl.isList ∅ (by rw [bY] <;> omega) ∅ (by rw [hj];simpa using ew) ⟨rfl,fin⟩) hs
def aZ:Kh X (PK X.K):=by
 intro value slice ah s σ H x y v u Q I rx ry h hs;obtain⟨p,xs,i,z,rfl,rfl,hq,he,q⟩:=h;cases rx;obtain⟨t,rfl⟩:=ry;obtain⟨aT,r,pl,hz⟩:=I.tuple hq;obtain⟨j,h1,h2,h3,h4,h5⟩:=Cb he;obtain⟨w,ew,zW⟩:=r.get h2;have hl:=r.length;have hn:=wC;have fin:EP X ah σ Q w s:=⟨z,H,I,zW,q⟩;exact subscriptTail_builtinR (x:=w) pl.typeIs slot_tuple_getitem.lookup
  (getItem_tuple (j:=j) (Q:=λr s'=>r=w/\EP X ah σ Q r s') pl ∅ ∅ (by rw [bY,<-hl];exact h1) (by simpa using ew) ⟨rfl,fin⟩) hs
theorem Inv.lst {ah:List (Addr×Obj)}{σ:St}{H:Hp}{s:Shared}{p:Addr}{xs:List V}(I:Inv X ah σ H s)(h:H p=some (.lst xs)) :
  ∃(aT:List Value) (n:Nat),bf xs aT/\s.heap.get? p=some { cls:=.type "list",data:=.seq aT.toArray n }/\xs.length<=sizeLine:=by
 obtain⟨z,aT,n,r,e⟩:=I.cx p _ h;exact⟨aT,n,r,e,z⟩
def vS (lo hi:Option Int) (n:Nat):(sliceBounds lo hi none n).1=((HT.gA n 0 lo:Nat):Int)/\(sliceBounds lo hi none n).2.1=((HT.gA n n hi:Nat):Int)/\(sliceBounds lo hi none n).2.2=1:=by
 refine⟨?_,?_,rfl⟩
 .cases lo with
  | none=>simp [sliceBounds,HT.gA]
  | some i =>
   simp only [sliceBounds,HT.gA,Option.getD_none,show (1:Int) > 0 by decide,if_true];by_cases h:i < 0
   .simp only [h,if_true] <;> omega
   simp only [h,if_false] <;> omega
 cases hi with
 | none=>simp [sliceBounds,HT.gA]
 | some i =>
  simp only [sliceBounds,HT.gA,Option.getD_none,show (1:Int) > 0 by decide,if_true];by_cases h:i < 0
  .simp only [h,if_true] <;> omega
  simp only [h,if_false] <;> omega
def tU (aT:List Value)(lo hi:Option Int):slicePick aT.toArray lo hi none=((aT.drop (HT.gA aT.length 0 lo)).take (HT.gA aT.length aT.length hi - HT.gA aT.length 0 lo)).toArray:=by
 obtain⟨h1,h2,h3⟩:=vS lo hi aT.toArray.size;unfold slicePick;rw [h1,h2,h3];simp only [sliceRange_one,pick_run,bY] <;> rfl
def UH (K:ba):V->Option Int->Option Int->Hp->VK->Prop:=λx lo hi H Q=>XO x (aH K H) λxs=>∀p,H p=none->Q (.ref p) (upd H p (.lst (d_ xs lo hi)))
def dr:Lx X (UH X.K):=by
 intro ah s σ H x v vl vu lo hi sl Q I rx hs pl pu h;obtain⟨a,xs,rfl,hx,q⟩:=h;cases rx;obtain⟨aT,r,ht,hz⟩:=I.list hx;have bE:=r.length;refine⟨"list",_,slot_list_getitem.lookup,ht.isList.typeIs,?_⟩;refine wpAny_getItem_list_slice ht.isList hs pl pu .none (by simp) ?_ (by rw [bY] <;> omega)
 rw [tU,<-bE];refine⟨.ref s.heap.objs.size,_,I.laid (t':=s.toks) (o:=.lst (d_ xs lo hi)) (λb ob q=>cv _ q) (aF _) ?_,rfl,q _ (I.cx.fresh (aF _))⟩;exact⟨dY (qb xs lo hi) hz,_,0,(r.drop (HT.gA xs.length 0 lo)).take (HT.gA xs.length xs.length hi - HT.gA xs.length 0 lo),d0 _ rfl⟩
def ie:V->Bool
 | .fh=>true
 | .bl _=>true
 | .int _=>true
 | .str _=>true
 | _=>false
def uO:V->V->Bool
 | .fh,.fh=>true
 | .bl a,.bl b=>a == b
 | .bl a,.int b=>(if a then 1 else 0) == b
 | .int a,.bl b=>a == (if b then 1 else 0)
 | .int a,.int b=>a == b
 | .str a,.str b=>a == b
 | _,_=>false
def AM {A:Around}{s:Shared}{y x:V}{u v:Value}(ry:RelV y u)(rx:RelV x v)(fy:ie y=true)(fx:ie x=true):SeqAt.EqAt A s u v (uO y x):=by
 cases y with
 | fh =>
  cases ry;cases x with
  | fh=>cases rx;exact SeqAt.EqAt.same _
  | bl b=>cases rx;exact SeqAt.EqAt.none_bool b
  | int b=>obtain⟨t,rfl⟩:=rx;exact SeqAt.EqAt.none_int b t
  | str b=>obtain⟨t,rfl⟩:=rx;exact SeqAt.EqAt.none_str b t
  | _=>exact absurd (show false=true from fx) eG
 | bl a =>
  cases ry;cases x with
  | fh=>cases rx;exact SeqAt.EqAt.bool_none a
  | bl b=>cases rx;exact SeqAt.EqAt.bool_bool a b
  | int b=>obtain⟨t,rfl⟩:=rx;exact SeqAt.EqAt.bool_int a b t
  | str b=>obtain⟨t,rfl⟩:=rx;exact SeqAt.EqAt.bool_str a b t
  | _=>exact absurd (show false=true from fx) eG
 | int a =>
  obtain⟨t',rfl⟩:=ry;cases x with
  | fh=>cases rx;exact SeqAt.EqAt.int_none a t'
  | bl b=>cases rx;exact SeqAt.EqAt.int_bool a t' b
  | int b=>obtain⟨t,rfl⟩:=rx;exact SeqAt.EqAt.int_int a t' b t
  | str b=>obtain⟨t,rfl⟩:=rx;exact SeqAt.EqAt.int_str a t' b t
  | _=>exact absurd (show false=true from fx) eG
 | str a =>
  obtain⟨t',rfl⟩:=ry;cases x with
  | fh=>cases rx;exact SeqAt.EqAt.str_none a t'
  | bl b=>cases rx;exact SeqAt.EqAt.str_bool a t' b
  | int b=>obtain⟨t,rfl⟩:=rx;exact SeqAt.EqAt.str_int a t' b t
  | str b=>obtain⟨t,rfl⟩:=rx;exact SeqAt.EqAt.str_str a t' b t
  | _=>exact absurd (show false=true from fx) eG
 | _=>exact absurd (show false=true from fy) eG
def AL (x:V)(u:Value):Bool:=match u with
 | .none=>uO .fh x
 | .bool b=>uO (.bl b) x
 | .int i _=>uO (.int i) x
 | .str z _=>uO (.str z) x
 | _=>false
def Hc {x y:V}{u:Value}(r:RelV y u)(f:ie y=true):AL x u=uO y x:=by
 cases y with
 | fh=>cases r;rfl
 | bl b=>cases r;rfl
 | int i=>obtain⟨t,rfl⟩:=r;rfl
 | str z=>obtain⟨t,rfl⟩:=r;rfl
 | _=>exact absurd (show false=true from f) eG
theorem oB {x:V}:∀{xs:List V}{us:List Value},bf xs us->xs.all ie=true->us.any (AL x)=xs.any λy=>uO y x
 | _,_,.nil,_=>rfl
 | y::xs,u::us,.cons r t,f=>by
  rw [List.all_cons,pR] at f;rw [qT,qT,Hc r f.1,oB t f.2]
theorem kX {A:Around}{s:Shared}{x:V}{v:Value}(rx:RelV x v)(fx:ie x=true):∀{xs:List V}{us:List Value},bf xs us->xs.all ie=true->∀u∈us,SeqAt.EqAt A s u v (AL x u)
 | _,_,.nil,_=>λu hu=>by cases hu
 | y::xs,u::us,.cons r t,f=>λu' hu=>by
  rw [List.all_cons,pR] at f;rcases bX.mp hu with rfl | hu
  .rw [Hc r f.1];exact AM r rx f.1 fx
  exact kX rx fx t f.2 u' hu
def K3 (x:V)(xs:List V):Bool:=xs.any λy=>uO y x
inductive XIn (S:Addr->List V->Prop)(x y:V)(R:List V->Prop):Prop
|mk(p:Addr)(xs:List V)(e:y=.ref p)(s:S p xs)(f:ie x=true)(g:xs.all ie=true)(q:R xs)
def Sq (K:ba)(neg:Bool):R2:=λx y H Q=>XIn (λp xs=>aH K H p xs\/aS K H p xs) x y λxs=>Q (.bl (if neg then !K3 x xs else K3 x xs)) H
def lH:jH X (compareOp .In) (Sq X.K false):=by
 intro ah s σ H x y v u Q I rx ry h;obtain⟨p,xs,rfl,hq,fx,fs,q⟩:=h;cases ry;rcases hq with hq | hq
 .obtain⟨aT,r,pl,hz⟩:=I.list hq;refine SeqAt.in_listAt (AL x) pl.isList (λw hw=>kX rx fx r fs w (by simpa using hw)) ⟨.bl _,H,I,rfl,?_⟩;rw [show aT.toArray.any (AL x)=aT.any (AL x) by simp,oB r fs];exact q
 obtain⟨aT,r,pl,hz⟩:=I.tuple hq;refine SeqAt.in_tupleAt (AL x) pl (λw hw=>kX rx fx r fs w (by simpa using hw)) ⟨.bl _,H,I,rfl,?_⟩;rw [show aT.toArray.any (AL x)=aT.any (AL x) by simp,oB r fs];exact q
def iM:jH X (compareOp .NotIn) (Sq X.K true):=by
 intro ah s σ H x y v u Q I rx ry h;obtain⟨p,xs,rfl,hq,fx,fs,q⟩:=h;cases ry;rcases hq with hq | hq
 .obtain⟨aT,r,pl,hz⟩:=I.list hq;refine SeqAt.notIn_listAt (AL x) pl.isList (λw hw=>kX rx fx r fs w (by simpa using hw)) ⟨.bl _,H,I,rfl,?_⟩;rw [show aT.toArray.any (AL x)=aT.any (AL x) by simp,oB r fs];exact q
 obtain⟨aT,r,pl,hz⟩:=I.tuple hq;refine SeqAt.notIn_tupleAt (AL x) pl (λw hw=>kX rx fx r fs w (by simpa using hw)) ⟨.bl _,H,I,rfl,?_⟩;rw [show aT.toArray.any (AL x)=aT.any (AL x) by simp,oB r fs];exact q
def aG:iD X (.builtin "len") (λxs H Q=>N1 xs (λp ys=>aH X.K H p ys\/aS X.K H p ys) λys=>Q (.int ys.length) H):=by
 intro ah s σ H xs us Q I r h;obtain⟨p,ys,rfl,hq,q⟩:=h;obtain⟨u,rfl,rx⟩:=vals1 r;cases rx;have hn:=wC;rcases hq with hq | hq
 .obtain⟨aT,r',pl,hz⟩:=I.list hq;have bE:=r'.length;exact Calls.call_len_list pl.isList (by simp only [bY] <;> omega) ⟨.int ys.length,H,I.tok _,⟨s.toks+1,by rw [bY,bE]⟩,q⟩
 obtain⟨aT,r',pl,hz⟩:=I.tuple hq;have bE:=r'.length;exact len_tuple pl (by simp only [bY] <;> omega) ⟨.int ys.length,H,I.tok _,⟨s.toks+1,by rw [bY,bE]⟩,q⟩
def iD.or {f:Value}{r r':List V->Hp->VK->Prop}(h:iD X f r)(h':iD X f r'):iD X f (λxs H Q=>r xs H Q\/r' xs H Q):=by
 intro ah s σ H xs us Q I rs q;rcases q with q | q
 .exact h ah s σ H xs us Q I rs q
 exact h' ah s σ H xs us Q I rs q
def fI:iD X (.type "list") (λxs H Q=>N1 xs (λp ys=>aH X.K H p ys\/aS X.K H p ys) λys=>∀l,H l=none->Q (.ref l) (upd H l (.lst ys))):=by
 intro ah s σ H xs us Q I r h;obtain⟨p,ys,rfl,hq,q⟩:=h;obtain⟨u,rfl,rx⟩:=vals1 r;cases rx;have fin:∀(aT:List Value),bf ys aT->ys.length<=sizeLine->∀(h':Heap) (c':Nat),(∀b o',s.heap.get? b=some o'->h'.get? b=some o') ->
   h'.get? s.heap.objs.size=some { cls:=.type "list",dict:=none,data:=.seq aT.toArray c',slots:=#[] }->EP X ah σ Q (.ref s.heap.objs.size) { s with heap:=h' }:=λaT r' hz h' c' kp e =>
  ⟨.ref s.heap.objs.size,_,I.laid (t':=s.toks) kp (aF _) (show cS X.prog X.w _ h' _ (.lst ys) from ⟨hz,aT,c',r',e⟩),rfl,q _ (I.cx.fresh (aF _))⟩
 rcases hq with hq | hq
 .obtain⟨aT,r',pl,hz⟩:=I.list hq;have bE:=r'.length;obtain⟨o,ho,hc,n,hd⟩:=pl.isList;exact call_list_seq p (.inl rfl) ho hc hd (λh' c' kp e=>fin aT r' hz h' c' kp e) (by simp only [bY] <;> omega)
 obtain⟨aT,r',pl,hz⟩:=I.tuple hq;have bE:=r'.length;obtain⟨o,ho,hc,n,hd⟩:=pl;exact call_list_seq p (.inr rfl) ho hc hd (λh' c' kp e=>fin aT r' hz h' c' kp e) (by simp only [bY] <;> omega)
def dS:iD X (.type "tuple") (λxs H Q=>∃p ys,xs=[.ref p]/\((aH X.K H p ys/\∀l,H l=none->Q (.ref l) (upd H l (.tup ys)))\/(aS X.K H p ys/\Q (.ref p) H))):=by
 intro ah s σ H xs us Q I r h;obtain⟨p,ys,rfl,h⟩:=h;obtain⟨u,rfl,rx⟩:=vals1 r;cases rx;rcases h with ⟨hq,q⟩ | ⟨hq,q⟩
 .obtain⟨aT,r',pl,hz⟩:=I.list hq;have bE:=r'.length;refine call_tuple_list pl.isList (λh' kp=>?_) (by simp only [bY] <;> omega)
  have I1:Inv X ah σ H { s with heap:=h' }:=I.kept (t':=s.toks) kp;have I2:Inv X ah σ (upd H h'.objs.size (.tup ys)) { s with heap:=h'.push { cls:=.type "tuple",data:=.seq aT.toArray } } :=
   I1.laid (t':=s.toks) (λb o e=>cv _ e) (aF _) (show cS X.prog X.w _ _ _ (.tup ys) from ⟨hz,aT,r',IsTup.new _ _⟩)
  exact⟨.ref h'.objs.size,_,I2,rfl,q _ (I1.cx.fresh (aF _))⟩
 obtain⟨aT,r',pl,hz⟩:=I.tuple hq;exact call_tuple_same pl ⟨.ref p,H,I,rfl,q⟩
def T6 (K:ba)(T:String)(x:V)(H:Hp):Prop:=match x with
 | .str _=>T = "str"
 | .int _=>T = "int"
 | .ref p=>(T = "list" /\ ∃xs,aH K H p xs)\/(T = "tuple" /\ ∃o,K.lookup p=some o/\o.cls=.type "tuple" /\ o.dict=none) \/
   (T = "dict" /\ ((∃kvs,H p=some (.dK kvs))\/∃kvs,H p=some (.dT kvs)))\/(T = "set" /\ ∃S n,H p=some (.set S n))
 | _=>False
def Ey {ah:List (Addr×Obj)}{σ:St}{H:Hp}{s:Shared}{T:String}{x:V}{v:Value}(I:Inv X ah σ H s)(r:RelV x v)(ty:T6 X.K T x H) :
  s.TypeIs v T/\∀a,v=.ref a->∃ob,s.heap.get? a=some ob/\ob.dict=none:=by
 cases x with
 | str z =>
  obtain⟨t,rfl⟩:=r;cases (show T = "str" from ty);exact⟨typeIs_str s z t,λ_ e=>nomatch e⟩
 | int i =>
  obtain⟨t,rfl⟩:=r;cases (show T = "int" from ty);exact⟨typeIs_int s i t,λ_ e=>nomatch e⟩
 | ref p =>
  cases r;rcases ty with ⟨rfl,xs,hq⟩ | ⟨rfl,o,hk,hc,hd⟩ | ⟨rfl,hk⟩ | ⟨rfl,S,n,hk⟩
  .obtain⟨aT,_,pl,_⟩:=I.list hq;refine⟨pl.isList.typeIs,λa e=>?_⟩;cases e;obtain⟨o,n,e,c,hd,_⟩:=pl;exact⟨o,e,hd⟩
  .refine⟨⟨o,I.wG p o hk,hc⟩,λa e=>?_⟩;cases e;exact⟨o,I.wG _ o hk,hd⟩
  .have z:∃o,s.heap.get? p=some o/\o.ExactDict:=by
    rcases hk with ⟨kvs,hk⟩ | ⟨kvs,hk⟩
    .obtain⟨_,_,_,_,o,_,_,e,ex,_⟩:=I.cx p _ hk;exact⟨o,e,ex⟩
    obtain⟨_,_,_,_,o,_,_,e,ex,_⟩:=I.cx p _ hk;exact⟨o,e,ex⟩
   obtain⟨o,e,ex⟩:=z;refine⟨⟨o,e,ex.1⟩,λa e2=>?_⟩;cases e2;exact⟨o,e,ex.2.1⟩
  obtain⟨o,_,_,_,e,ex,_⟩:=I.cx p _ hk;refine⟨⟨o,e,ex.1⟩,λa e2=>?_⟩;cases e2;exact⟨o,e,ex.2.1⟩
 | _=>exact False.elim ty
def Uj (K:ba)(T:String)(r:V->List V->Hp->VK->Prop)(to:TE):TE:=λσ H Q=>to σ H λx H1=>T6 K T x H1/\r x [] H1 Q
def tBM (K:ba)(T:String)(r:V->List V->Hp->VK->Prop)(to:TE)(t:TA):TE:=λσ H Q=>to σ H λx H1=>T6 K T x H1/\t σ H1 λxs H2=>r x xs H2 Q
variable {o e:Expr}{es:List Expr}{to:TE}{t:TA}{name:Str}{apos hX:Pos}{T id:String}{r:V->List V->Hp->VK->Prop}
def Fx (pa:PlainAttrs T)(slot:Slot T name id)(VD:typeOf (.builtin id)=pure (.type "method_descriptor"))(hm:OW X id r)(ho:PE X o to)
  (GV:attributeBase o name X.env (eval o X.env)=eval o X.env:=by rfl)(GA:(apos.endLine == hX.line)=true:=by rfl):PE X (.Call (.Attribute o name apos) [] [] hX) (Uj X.K T r to):=by
 intro ah s σ H Q I h;refine wpAny_Call_method0_late GV GA (cR (ho ah s σ H _ I h) λv s1 bG=>?_);obtain⟨x,H1,I1,r1,ty,q1⟩:=bG;obtain⟨h1,h2⟩:=Ey I1 r1 ty;exact⟨T,id,pa,slot,VD,h1,h2,rA rfl (PySem.evalArgs_none (hm ah s1 σ H1 x [] v [] Q I1 r1 .nil q1))⟩
def g_ (pa:PlainAttrs T)(slot:Slot T name id)(VD:typeOf (.builtin id)=pure (.type "method_descriptor"))(hm:OW X id r)(ho:PE X o to)(ha:PA X (e::es) t)
  (GV:attributeBase o name X.env (eval o X.env)=eval o X.env:=by rfl)
  (V9:((backTo hX (starEach (e::es) X.env)).all (λx=>!x.1) && (backToKw hX (keywordEach [] X.env)).all (λx=>x.1.isSome)
   && decide ((e::es).length+([]:List Keyword).length+(if ([]:List Keyword).isEmpty then 0 else 1) < 30))=true:=by rfl)
  (GA:(apos.endLine == hX.line)=true:=by rfl)(hs:starEach (e::es) X.env=(false,eval e X.env)::starEach es X.env:=by rfl)(MZ:(backTo hX (starEach es X.env)).any (·.1)=false:=by rfl) :
  PE X (.Call (.Attribute o name apos) (e::es) [] hX) (tBM X.K T r to t):=by
 intro ah s σ H Q I h;refine wpAny_Call_method_late GV V9 GA rfl (cR (ho ah s σ H _ I h) λv s1 bG=>?_);obtain⟨x,H1,I1,r1,ty,q1⟩:=bG;obtain⟨h1,h2⟩:=Ey I1 r1 ty;refine⟨T,id,pa,slot,VD,h1,h2,?_⟩;have hA:=ha hX ah s1 σ H1 _ I1 q1;rw [hs] at hA ⊢;refine rA (by show (false || (backTo hX (starEach es X.env)).any (·.1))=false;rw [MZ] <;> rfl) (vm ?_)
 refine cR hA λus s2 bG=>?_;obtain⟨vs,H2,I2,r2,q2⟩:=bG;exact hm ah s2 σ H2 x vs v us Q I2 r1 r2 q2
end
def XZ (X:Cx)(id:String)(r:V->List V->Hp->VK->Prop):Prop :=
 ∀(ah:List (Addr×Obj))(s:Shared)(σ:St)(H:Hp)(x:V)(xs:List V)(v:Value)(us:List Value)(Q:VK),Inv X ah σ H s->RelV x v->bf xs us->r x xs H Q ->
  wpAny (model X.prog X.w) X.A (call (.builtin id) (v::us)) (EP X ah σ Q) X.xe s
def bf.one:∀{x:V}{us:List Value},bf [x] us->∃u,us=[u]/\RelV x u
 | _,_,.cons r .nil=>⟨_,rfl,r⟩
def bf.two:∀{x y:V}{us:List Value},bf [x,y] us->∃u v,us=[u,v]/\RelV x u/\RelV y v
 | _,_,_,.cons r (.cons q .nil)=>⟨_,_,rfl,r,q⟩
def bf.zero:∀{us:List Value},bf [] us->us=[]
 | _,.nil=>rfl
theorem bf.dropLast {xs:List V}{us:List Value}(h:bf xs us):bf xs.dropLast us.dropLast:=by
 induction h with
 | nil=>exact .nil
 | cons r t ih =>
  cases t with
  | nil=>exact .nil
  | cons q t'=>exact .cons r ih
theorem bf.eraseIdx:∀{xs:List V}{us:List Value}(i:Nat),bf xs us->bf (xs.eraseIdx i) (us.eraseIdx i)
 | _,_,_,.nil=>.nil
 | _,_,0,.cons _ t=>t
 | _,_,i+1,.cons r t=>.cons r (bf.eraseIdx i t)
theorem bf.reverse {xs:List V}{us:List Value}(h:bf xs us):bf xs.reverse us.reverse:=by
 induction h with
 | nil=>exact .nil
 | cons r t ih=>rw [qN,qN];exact bf.append ih (.cons r .nil)
def AK {α:Type}(l:List α):l.eraseIdx (l.length - 1)=l.dropLast:=by
 induction l with
 | nil=>rfl
 | cons a r ih =>
  cases r with
  | nil=>rfl
  | cons b r =>
   have e:(a::b::r).length - 1=((b::r).length - 1)+1:=by
    have h1:(a::b::r).length=r.length+2:=rfl;have h2:(b::r).length=r.length+1:=rfl;omega
   rw [e,List.eraseIdx_cons_succ,ih]
   all_goals rfl
section
variable {X:Cx}{ah:List (Addr×Obj)}{σ:St}{H:Hp}{s:Shared}{l b:Addr}{xs ys zs:List V}
def Inv.MH {aT tW:List Value}{n:Nat}{f:Array Value->Array Value}{t':Nat}(I:Inv X ah σ H s)(hH:H l=some (.lst xs))
  (e:s.heap.get? l=some { cls:=.type "list",data:=.seq aT.toArray n })(hf:f aT.toArray=tW.toArray)(hv:bf ys tW)(hz:ys.length<=sizeLine) :
  Inv X ah σ (upd H l (.lst ys)) { s with heap:=s.heap.update l (Obj.mapSeq f),toks:=t' }:=by
 have q:=PySem.IsL.update e f;rw [hf] at q;refine I.write (x:=l) (e:=l) (by rw [hH];exact trivial) (.inl rfl) (λb' u hb hu=>(Heap.get?_update_other s.heap (Obj.mapSeq f) (gC hb)).trans hu) ⟨_,q⟩ ?_;exact⟨hz,tW,_,hv,q⟩
def Inv.Ve {aT:List Value}{t':Nat}(I:Inv X ah σ H s)(hv:bf ys aT)(hz:ys.length<=sizeLine) :
  Inv X ah σ (upd H s.heap.objs.size (.lst ys)) { s with heap:=s.heap.push { cls:=.type "list",data:=.seq aT.toArray },toks:=t' } :=
 I.laid (λ_ _ q=>cv _ q) (aF _) ⟨hz,aT,0,hv,d0 _ rfl⟩
theorem Inv.fresh (I:Inv X ah σ H s):H s.heap.objs.size=none:=I.cx.fresh (aF _)
def Inv.CZ (I:Inv X ah σ H s)(hH:H l=some (.lst xs)):xs.length<=sizeLine/\∃(aT:List Value) (n:Nat),bf xs aT/\xs.length=aT.length/\s.heap.get? l=some { cls:=.type "list",data:=.seq aT.toArray n }:=by
 obtain⟨z,aT,n,r,e⟩:=I.cx l _ hH;exact⟨z,aT,n,r,r.length,e⟩
def F2 {n:Nat}(h:n<=sizeLine):Builtin.List.listTooLong n=false:=by
 unfold Builtin.List.listTooLong;exact b8 ∅
end
section
variable {X:Cx}
inductive RN (H:Hp)(x:V)(vs:List V)(R:Addr->List V->V->Prop):Prop
|mk(l:Addr)(xs:List V)(y:V)(e:x=.ref l)(e2:vs=[y])(h:H l=some (.lst xs))(z:xs.length < sizeLine)(q:R l xs y)
def Ji:V->List V->Hp->VK->Prop:=λx vs H Q=>RN H x vs λl xs y=>Q .fh (upd H l (.lst (xs++[y])))
def bV:XZ X "list.append" Ji:=by
 intro ah s σ H x vs v us Q I rx rv h;obtain⟨l,xs,y,rfl,rfl,hH,hz,q⟩:=h;cases rx;obtain⟨u,rfl,ru⟩:=rv.one;obtain⟨z,aT,n,r,hl,e⟩:=I.CZ hH;refine call_meets F.slot_list_append ⟨_,e,rfl⟩ F.entry_list_append (F.args_list_append_2 _ _) (PySem.list_append l aT.toArray n u (by rw [bY];omega)) ⟨e,?_⟩;refine⟨.fh,_,I.MH (tW:=aT++[u]) hH e (by simp) (r.append (.cons ru .nil)) ?_,rfl,q⟩;rw [a9,gy];omega
def Jh:V->List V->Hp->VK->Prop:=λx vs H Q=>∃l b xs zs,x=.ref l/\vs=[.ref b]/\H l=some (.lst xs)/\H b=some (.lst zs)/\xs.length+zs.length<=sizeLine/\Q .fh (upd H l (.lst (xs++zs)))
def Oj:XZ X "list.extend" Jh:=by
 intro ah s σ H x vs v us Q I rx rv h;obtain⟨l,b,xs,zs,rfl,rfl,hH,hB,hz,q⟩:=h;cases rx;obtain⟨u,rfl,ru⟩:=rv.one;cases ru;obtain⟨z,aT,n,r,hl,e⟩:=I.CZ hH;obtain⟨z2,dG,n2,r2,tX,e2⟩:=I.CZ hB;have hsz:aT.toArray.size+dG.toArray.size<=sizeLine:=by rw [bY,bY];omega
 have QS:¬(!aT.toArray.isEmpty && Builtin.List.listTooLong (aT.toArray.size+dG.toArray.size))=true:=by
  rw [F2 hsz,oO];exact eG
 refine call_meets F.slot_list_extend ⟨_,e,rfl⟩ F.entry_list_extend (F.args_list_extend_2 _ _)
  (AutoSeq1.list_extend_list_list_0 l aT.toArray n b dG.toArray n2 QS (by rw [bY];omega) ∅) ⟨e,e2,?_⟩
 refine⟨.fh,_,I.MH (tW:=aT++dG) hH e (by simp) (r.append r2) ?_,rfl,q⟩;rw [a9];omega
def UI:V->List V->Hp->VK->Prop:=λx vs H Q=>∃l xs y,x=.ref l/\vs=[]/\H l=some (.lst xs)/\xs[xs.length - 1]?=some y/\Q y (upd H l (.lst xs.dropLast))
def F8:XZ X "list.pop" UI:=by
 intro ah s σ H x vs v us Q I rx rv h;obtain⟨l,xs,y,rfl,rfl,hH,hy,q⟩:=h;cases rx;have hus:=rv.zero;subst hus;obtain⟨z,aT,n,r,hl,e⟩:=I.CZ hH;obtain⟨u,hu,ru⟩:=r.get hy;have Vz:aT.toArray[aT.toArray.size - 1]?=some u:=by
  show aT.toArray[aT.length - 1]?=some u;rw [<-Array.getElem?_toList,<-hl];exact hu
 refine call_meets F.slot_list_pop ⟨_,e,rfl⟩ F.entry_list_pop (F.args_list_pop_1 _) (MeetsSeq.list_pop_last l aT.toArray n u Vz (by rw [bY];omega)) ⟨e,?_⟩;refine⟨y,_,I.MH (tW:=aT.dropLast) hH e ?_ r.dropLast ?_,ru,q⟩
 .show aT.toArray.eraseIdxIfInBounds (aT.toArray.size - 1)=aT.dropLast.toArray;rw [bY,List.eraseIdxIfInBounds_toArray,AK]
 rw [List.length_dropLast];omega
def UK:R2:=λx y H Q=>XU (λl xs=>H l=some (.lst xs)) x y λxs zs=>∀p,H p=none->Q (.ref p) (upd H p (.lst (xs++zs)))
def dI:jH X (binaryOp .Add) UK:=by
 intro ah s σ H x y v u Q I rx ry h;obtain⟨l,b,xs,zs,rfl,rfl,hH,hB,hz,q⟩:=h;cases rx;cases ry;obtain⟨z,aT,n,r,hl,e⟩:=I.CZ hH;obtain⟨z2,dG,n2,r2,tX,e2⟩:=I.CZ hB;refine PySem.P.add_list e e2 ?_ (by rw [bY,bY];omega);have ea:aT.toArray++dG.toArray=(aT++dG).toArray:=by simp
 rw [ea];exact⟨.ref _,_,I.Ve (t':=s.toks) (r.append r2) (by rw [a9];omega),rfl,q _ I.fresh⟩
end
section
variable {prog:Program}{w:World}{A:Around}{E:Value->Shared->Prop}{s:Shared}
set_option maxRecDepth 100000 in
end
section
variable {X:Cx}
end
end L2
namespace IG
open PySem PySem.W PySem.Calls PyProof.Rows
def qm {P:Params}{h:Heap}:∀(ns:List Int)(vs:List Value),WellAll P h vs (ns.map WData.int)->IntsAre vs ns:=by
 intro ns
 induction ns with
 | nil =>
  intro vs w;rw [mi] at w;cases w;exact .nil
 | cons n ns ih =>
  intro vs w;rw [cP] at w;cases w with
  | cons a b =>
   cases a;exact .cons _ _ (ih _ b)
def Cy {l:OpenLaw}{n:Nat}(hn:l.most=some n){P:Params}{h:Heap}{args:List WData}{vals:List Value}
  (JL:l.row.toRowW.claim.pre args=true)(VB:WellAll P h vals args) :
  ∃a vs ns,vals=[Value.ref a]/\args=[WData.list (ns.map WData.int)]/\h.get? a=some { cls:=.type "list",data:=.seq vs.toArray }/\IntsAre vs ns/\ns.length<=n:=by
 have hsh:WShape.hasAll [] args [.list .int]=true:=(pre_splitW JL).1;have hc:l.pre.holds [] { args:=args }=true:=(pre_splitW JL).2;obtain⟨d,r,rfl,h1,h2⟩:=hasAllW_cons hsh;obtain rfl:=hasAllW_nil h2;obtain⟨xs,rfl,h3⟩:=hasW_list h1;obtain⟨ns,rfl⟩:=items_int h3;have bE:ns.length<=n:=by
  unfold OpenLaw.pre at hc;have h4:(WTm.not (.lt (.lit (.int (n:Int))) (.len (.arg 0)))).holds [] { args:=[.list (ns.map .int)] }=true:=by
   have h4:=(holds_andW hc).1;rw [hn] at h4;exact h4
  have h5:=condW_of h4 (w_not (w_lt w_lit (w_len_list (w_arg rfl))));rw [au] at h5;refine Nat.le_of_not_lt λq=>?_;have q':(n:Int) < ((ns.length:Nat):Int):=by omega
  first
   | (rw [bh q'] at h5;exact absurd h5 nofun)
   | (simp at h5;omega)
 cases VB with
 | cons w1 w2 =>
  cases w2;cases w1 with
  | list ho qr=>exact⟨_,_,ns,rfl,rfl,ho,qm ns _ qr,bE⟩
def CF (l:OpenLaw)(args:List WData):l.row.toRowW.claim.post args (.bool true) args=true :=
 postW_of (r:=l.row.toRowW) (X:=(true == true))
  (show WShape.has [] (.bool true) .bool=true by first | rfl | decide | simp [WShape.has,WShape.arms,WShape.armsAll])
  (show (WTm.eq .res (.lit (.bool true))).value [] { args:=args,res:=some (.bool true),after:=args }=some (.bool (true == true)) from w_eq_bool (w_res rfl) w_lit) rfl
def qf {l:OpenLaw}{n:Nat}{q:Program}{loose:List Str}{XP:(Str->Option Value)->Heap->Prop}{YP:World->Heap->Prop}{d:DefRec}
  (hn:l.most=some n)(Nd:d.params.defaults=[])
  (call:∀(w:World)(s₀ s₁:Shared)(mg mb:Str->Option Value)(fa:Addr)(o:Obj)(pm cd doc:Value)(a:Addr)(vs:List Value)(ns:List Int),
   Ground q loose [] XP w s₀ mg mb s₁.heap->YP w s₁.heap ->
   s₁.heap.get? fa=some o->o.data=.func (docDef d.name d.params d.body d.scope pm cd doc)->s₁.heap.CodeRec cd d.name->mg d.name=some (.ref fa) ->
   s₁.heap.get? a=some { cls:=.type "list",data:=.seq vs.toArray }->IntsAre vs ns->ns.length<=n->s₁.gens=#[] ->
   codeAny (model l.prog w) callerA (.call (.ref fa) ⟨[.ref a],[]⟩) (λr s'=>r=.ok (.ret (.bool true))/\OldK s₁.heap s'.heap/\s'.os=s₁.os/\AllBare s'.gens) s₁) :
  WalkO q loose XP YP l.row.toRowW d [] (λf vs=>PySem.call f vs):=by
 intro w s₀ s₁ mg mb G Y fa o pm cd doc dV kV ho hd wM hD M4 hg args vals as JL aan hrd VB hlo;obtain rfl:dV=.none:=Dflts.none hD Nd;obtain rfl:kV=.none:=Dflts.noKw hD;obtain⟨a,vs,ns,rfl,rfl,Gx,hints,bE⟩:=Cy hn JL VB;refine enter_call (oG (call w s₀ s₁ mg mb fa o pm cd doc a vs ns G Y ho (fd_plain hd) wM M4 Gx hints bE hg) λr s' hq=>?_);obtain⟨rfl,h2,h3,h4⟩:=hq;exact⟨.inl ⟨.bool true,.bool true,[],rfl,λ_=>rfl,.bool true,CF l _,λ_=>⟨List.Pairwise.nil,λ_ hm=>(nomatch hm)⟩⟩,h2,h3,h4⟩
section
variable {prog:Program}{w:World}{A:Around}{E:Value->Shared->Prop}{s:Shared}{K:Frag}
def rY (h:Heap):Heap:={ h with objs:=#[] }
def mD (h:Heap)(b:Addr):(rY h).get? b=none:=by
 cases e:(rY h).get? b with
 | none=>rfl
 | some o=>exact absurd (bO e) (Nat.not_lt_zero _)
def ledger (h:Heap)(L d:Addr):List (Addr×Obj):=(List.range h.objs.size).filterMap λa=>if a=L\/a=d then none else (h.get? a).map λo=>(a,o)
def jU {h:Heap}{L d a:Addr}{o:Obj}:(a,o)∈ledger h L d↔a≠L/\a≠d/\h.get? a=some o:=by
 unfold ledger;rw [List.mem_filterMap];constructor
 .rintro⟨b,_,e⟩
  split at e
  .cases e
  rename_i hb
  obtain⟨o',ho,e'⟩:=cD.mp e;cases e';exact⟨λq=>hb (.inl q),λq=>hb (.inr q),ho⟩
 rintro⟨n1,n2,ho⟩;refine⟨a,pP.mpr (bO ho),?_⟩;rw [ay (show ¬(a=L\/a=d) from λq=>q.elim n1 n2),ho] <;> rfl
def yc {h:Heap}{L d:Addr}{od:Obj}(qI:d≠L)(ho:h.get? d=some od):News (rY h) L h ([]++(d,od)::ledger h L d):=by
 rintro⟨a,o⟩ hp;rcases bX.mp hp with e | hp
 .cases e;exact⟨ho,qI,mD _ _⟩
 obtain⟨n1,n2,e⟩:=jU.mp hp;exact⟨e,n1,mD _ _⟩
def Nt {h:Heap}{L:Addr}{m:Str->Option Value}(n:h.Ns L m):Fr (rY h) L h m :=
 ⟨n,λb o e=>(by rw [mD] at e;cases e),dX _⟩
end
end IG
namespace L2
open PySem PySem.Spec PyProof.Rows
theorem oZ:∀{vs:List Value}{ns:List Int},IntsAre vs ns->bf (ns.map V.int) vs
 | _,_,.nil=>.nil
 | _,_,.cons n t h=>.cons ⟨t,rfl⟩ (oZ h)
def N4 (H:Hp):Prop:=∀b,H b=none\/∃o xs,H b=some (.kr o (.lst xs))
def Ge {P:Program}{w:World}{K:ba}{mg mb:Str->Option Value}{CX:zg}{k:Nat}{fa a:Addr}{fd:FuncData}{x:Str}{sp:Sp}{s₁:Shared}{vs:List Value}{ns:List Int}
  (KX:K.In s₁.heap)(xj:s₁.heap.Ns mainGlobals mg)(hb:s₁.heap.Ns builtinsNs mb)(Nh:∀x:Str,x ≠ "__name__" -> mb x=bootBuiltins x)(M6:s₁.heap.NoLimit)(hg:s₁.gens=#[])
  (ha:s₁.heap.get? a=some { cls:=.type "list",data:=.seq vs.toArray })(hi:IntsAre vs ns)(hl:ns.length<=sizeLine)(hr:fY k callerA)
  (F:∀base:Heap,K.In base->base.Ns mainGlobals mg->bS P w K mg base CX k fa fd [x] sp)(og:∀(s:Shared)(u:Value),BindsTo s fd ⟨[u],[]⟩ [(x,u)])
  (yY:∀H:Hp,N4 H->aH K H a (ns.map V.int)->sp [.ref a] H (λv _=>v=.bl true) λ_ _ _=>False)
  (Nm:∀H e s',CX [] H s₁ (λ_ _ _=>False) e s'->False) :
  codeAny (model P w) callerA (.call (.ref fa) ⟨[.ref a],[]⟩) (λr s'=>r=.ok (.ret (.bool true))/\OldK s₁.heap s'.heap/\s'.os=s₁.os/\AllBare s'.gens) s₁:=by
 have rv:=oZ hi;have MK:=hi.length;have core:∀H:Hp,N4 H->aH K H a (ns.map V.int)->me P w H s₁.heap->(∀b,H b≠none->b=a)->(H a≠none->K.lookup a=none) ->
   codeAny (model P w) callerA (.call (.ref fa) ⟨[.ref a],[]⟩) (λr s'=>r=.ok (.ret (.bool true))/\OldK s₁.heap s'.heap/\s'.os=s₁.os/\AllBare s'.gens) s₁:=by
  intro H hO hS cx hA hK;have lK:∀{b:Addr}{o:Obj},s₁.heap.get? b=some o->H b=none->(mK s₁.heap H).get? b=some o:=λe n=>yl e n;have P5:∀{b:Addr}{o:Obj}{es:Array DictEntry}{ep:Nat},s₁.heap.get? b=some o->o.data=.dict es ep->H b=none:=λ{b o es ep} e d=>by
   cases q:H b with
   | none=>rfl
   | some u =>
    have e':b=a:=hA b (by rw [q];simp);subst e';rw [ha] at e;cases e;have d':Data.seq vs.toArray _=Data.dict es ep:=d;cases d'
  have JB:∀{b:Addr}{m:Str->Option Value},s₁.heap.Ns b m->(mK s₁.heap H).Ns b m:=λ{b m} ⟨o,es,ep,e,d,r⟩=>⟨o,es,ep,lK e (P5 e d),d,r⟩;have Q8:K.In (mK s₁.heap H):=λb o e=>lK (KX b o e) (by
   cases q:H b with
   | none=>rfl
   | some u =>
    have e':b=a:=hA b (by rw [q];simp);subst e';rw [hK (by rw [q];simp)] at e;cases e)
  have hM:Mod K mg (mK s₁.heap H):=⟨Q8,JB xj,⟨mb,JB hb,Nh⟩,let ⟨mc,h1,h2⟩:=M6;⟨mc,JB h1,h2⟩⟩;have e0:qx P w K mg (mK s₁.heap H) callerA [] s₁ H:=⟨rfl,hM,λb o e=>BM e,Nat.le_of_eq (uK _ _),trivial,λb hb=>absurd (show b∈([]:List Addr) from hb) (by simp),cx,.of_eq hg⟩;refine oG ((F _ Q8 (JB xj)).run callerA [] s₁ H ⟨[.ref a],[]⟩ [.ref a] [.ref a] _ _ hr e0 (og s₁ (.ref a)) (.cons rfl .nil) (yY H hO hS)) λr s' h=>?_;cases r with
  | error e=>exact(Nm H e s' h).elim
  | ok fl =>
   cases fl with
   | next=>exact False.elim h
   | brk=>exact False.elim h
   | cont=>exact False.elim h
   | ret u =>
    obtain⟨v,H',os,bare,un,JM,r',q⟩:=h;have q':v=.bl true:=q;subst q';obtain rfl:u=Value.bool true:=r';refine⟨rfl,OldK.of_keep λb o e=>?_,os,bare⟩;cases q:H b with
    | none=>exact un.keep b o e q (by intro z;exact absurd (show b∈([]:List Addr) from z) (by simp)) (by simp)
    | some u =>
     rcases hO b with z | ⟨ob,xs,z⟩
     .rw [q] at z;cases z
     have z2:=un.mM b ob _ z;obtain⟨e1,_⟩:=cx b _ z;obtain⟨e2,_⟩:=JM b _ z2;rw [e] at e1;cases e1;exact e2
 cases hk:K.lookup a with
 | some o =>
  have e:=KX a o hk;rw [ha] at e;cases e;refine core (λ_=>none) (λ_=>.inl rfl) (.inr ⟨_,vs.toArray,_,hk,rfl,rfl,rfl,by rw [bY,MK];exact hl,by simpa using rv⟩) (λb u z=>by have z':(none:Option HO)=some u:=z;cases z') (λb z=>absurd rfl z) λz=>absurd rfl z
 | none =>
  refine core (λb=>if b=a then some (.kr { cls:=.type "list",data:=.seq vs.toArray } (.lst (ns.map V.int))) else none) (λb=>?_) (.inl (.inr ⟨{ cls:=.type "list",data:=.seq vs.toArray },ax rfl⟩)) (λb u z=>?_) (λb z=>?_) λ_=>hk
  .by_cases hb:b=a
   .exact .inr ⟨_,_,ax hb⟩
   exact .inl (ay hb)
  .by_cases hb:b=a
   .have z':=(ax hb).symm.trans z;cases z';subst hb;exact⟨ha,by rw [au];exact hl,vs,_,rv,ha⟩
   have z':=(ay hb).symm.trans z;cases z'
  by_cases hb:b=a
  .exact hb
  exact absurd (ay hb) z
abbrev KOf {K:ba}{h:Heap}(_:K.In h):ba:=K
def R_ {l:PySem.W.OpenLaw}{n k:Nat}{q:Program}{loose:List Str}{XP:(Str->Option Value)->Heap->Prop}{YP:World->Heap->Prop}{d:DefRec}{K:Params->ba}{CX:World->zg}{sp:World->Sp}{x:Str}
  (hn:l.most=some n)(Gz:n<=sizeLine)(Nd:d.params.defaults=[])(hr:fY k callerA)
  (hY:∀(w:World)(h:Heap),YP w h->(K w.params).In h)
  (F:∀(w:World)(mg:Str->Option Value)(fa:Addr)(h:Heap),(K w.params).In h->h.Ns mainGlobals mg->mg d.name=some (.ref fa) ->
   ∃fd:FuncData,(∀(s:Shared)(u:Value),BindsTo s fd ⟨[u],[]⟩ [(x,u)]) /\
    ∀base:Heap,(K w.params).In base->base.Ns mainGlobals mg->bS l.prog w (K w.params) mg base (CX w) k fa fd [x] (sp w))
  (yY:∀(w:World)(H:Hp)(a:Addr)(ns:List Int),ns.length<=n->N4 H->aH (K w.params) H a (ns.map V.int)->sp w [.ref a] H (λv _=>v=.bl true) λ_ _ _=>False)
  (Nm:∀(w:World)(H:Hp)(s:Shared)(e:Value)(s':Shared),CX w [] H s (λ_ _ _=>False) e s'->False) :
  PySem.W.WalkO q loose XP YP l.row.toRowW d [] (λf vs=>PySem.call f vs):=by
 refine IG.qf hn Nd λw s₀ s₁ mg mb fa o pm cd doc a vs ns G Y ho hd wM M4 Gx hints bE hg=>?_;have KX:=hY w _ Y;obtain⟨fd,hb,hF⟩:=F w mg fa _ KX G.T.g M4;exact Ge KX G.T.g G.T.b G.T.builtins G.T.nolimit hg Gx hints (dY bE Gz) hr hF hb (λH hO hS=>yY w H a ns bE hO hS) λH e s'=>Nm w H s₁ e s'
def dJ (s:Stmt):Arguments:=match s with
 | .FunctionDef _ a _ _ _ _ _ _ _ _=>a
 | _=>{ posonlyargs:=[],args:=[],vararg:=none,kwonlyargs:=[],kw_defaults:=[],kwarg:=none,defaults:=[] }
def cC (s:Stmt):List Stmt:=match s with
 | .FunctionDef _ _ b _ _ _ _ _ _ _=>b
 | _=>[]
def av (s:Stmt):Scope:=match s with
 | .FunctionDef _ _ _ _ _ _ sc _ _ _=>sc
 | _=>{ kind:=.function,names:=[],isGenerator:=false,isCoroutine:=false }
abbrev gp:zg:=λ_ _ _ _ _ _=>False
abbrev E0:XK:=λ_ _ _=>False
def uA {X:Cx}:Passes gp X E0:=λ_ _ _ _ _ _ _ h=>h.elim
structure iC (K:ba)(x qual:Str)(st:Stmt)(f:Addr)(fd:FuncData):Prop where
 ex:∃(oc:Value)(od:Option Addr)(kV doc pm:Value)(an:Option Addr)(eY ct:Value)(xU:Array (Option Value)),
  fd=PySem.W.fnOf x qual (dJ st) (cC st) (av st) .none kV doc pm an eY ct/\K.lookup f=some ⟨oc,od,.func fd,xU⟩/\PySem.W.codeIn K eY qual=true
 kp:PySem.W.keepIn K (.ref f)=true
section
variable {P:Program}{w:World}{K:ba}{mg:Str->Option Value}{base:Heap}
def iC.ok {x qual:Str}{st:Stmt}{f:Addr}{fd:FuncData}{N ps:List Str}{k:Nat}{sp:Sp}(F:iC K x qual st f fd)(S:aK N ps (av st))(len:∀vs H Q E,sp vs H Q E->vs.length=ps.length)
  (jB:∀(eY:Value)(A:Around)(outer:List Env)(s:Shared)(H:Hp)(vs:List V)(Q:VK)(E:XK),fY k (A.deeper (envOfC qual (av st) s.heap.objs.size f eY))->sp vs H Q E ->
   ∃t,AZ (pJ gp P w K mg base N qual (av st) f eY A outer s H E).CW (cC st) t/\t { nx:=λ_ H'=>Q .fh H',rt:=Q } (start N vs) H):bS P w K mg base gp (k+1) f fd ps sp:=by
 obtain⟨oc,od,kV,doc,pm,an,eY,ct,xU,rfl,lk,wM⟩:=F.ex;refine G6 lk wM S len λA outer s H vs Q E hr yY=>?_;obtain⟨t,h,q⟩:=jB eY A outer s H vs Q E hr yY;exact⟨t,h.CW,q⟩
def iC.binds {x qual:Str}{st:Stmt}{f:Addr}{fd:FuncData}{ps:List Str}(F:iC K x qual st f fd)
  (h:∀(kV doc pm:Value)(an:Option Addr)(eY ct:Value)(us:List Value),us.length=ps.length->bindArgs (PySem.W.fnOf x qual (dJ st) (cC st) (av st) .none kV doc pm an eY ct) ⟨us,[]⟩=pure (ps.zip us)):Binds K fd ps []:=by
 obtain⟨oc,od,kV,doc,pm,an,eY,ct,xU,rfl,lk,wM⟩:=F.ex;exact .all (h kV doc pm an eY ct)
def G3 {x qual:Str}{st:Stmt}{f:Addr}{oc:Value}{od an:Option Addr}{xU:Array (Option Value)}{kV doc pm eY ct:Value}(l:K.lookup f=some ⟨oc,od,.func (PySem.W.fnOf x qual (dJ st) (cC st) (av st) .none kV doc pm an eY ct),xU⟩)
  (c:PySem.W.codeIn K eY qual=true)(k:PySem.W.keepIn K (.ref f)=true):iC K x qual st f (PySem.W.fnOf x qual (dJ st) (cC st) (av st) .none kV doc pm an eY ct):=⟨⟨oc,od,kV,doc,pm,an,eY,ct,xU,rfl,l,c⟩,k⟩
end
def gi {A:Around}{k:Nat}(hr:fY k A):A.units+1 < cLine:=rh (Nat.add_le_add_left (by decide:1<=64) _) hr.units
section
variable {X:Cx}
def pv (i:Nat){x:Str}{pos:Pos}(hN:X.N[i]?=some x:=by rfl)(hv:Tu X.env.scope x:=by first | exact Or.inl rfl | exact Or.inr (bC rfl) | exact Or.inr (Or.inr rfl))(hd:(x == ("__debug__":Str))=false:=by decide)
  (wM:(x == ("__classdict__":Str))=false:=by decide):PE X (.Name x pos) (gT i):=Mo hN hv hd wM
end
def cU {A B:Prop}(h:B):if false=true then A else B:=by
 rw [ay eG];exact h
def d8 {A B:Prop}(h:A):if true=true then A else B:=by
 rw [ax rfl];exact h
def cg {c A B:Prop} [Decidable c] (h1:c->A)(h2:¬c->B):if c then A else B:=by
 by_cases h:c
 .rw [ax h];exact h1 h
 rw [ay h];exact h2 h
def aA (H H':Hp):Prop:=∀b o,H b=some o->H' b=some o
def aA.refl (H:Hp):aA H H:=λ_ _ h=>h
def aA.trans {H H1 H2:Hp}(a:aA H H1)(b:aA H1 H2):aA H H2:=λc o h=>b c o (a c o h)
def aA.free {H H':Hp}(e:aA H H'){l:Addr}(h:H' l=Option.none):H l=Option.none:=by
 cases q:H l with
 | none=>rfl
 | some o =>
  rw [e l o q] at h;cases h
def aA.seq {K:ba}{H H':Hp}{a:Addr}{xs:List V}(e:aA H H')(h:aH K H a xs):aH K H' a xs:=by
 rcases h with (h | ⟨o,h⟩) | h
 .exact .inl (.inl (e _ _ h))
 .exact .inl (.inr ⟨o,e _ _ h⟩)
 exact .inr h
end L2
namespace HD
open PySem PySem.W
def Fe (st:SharedT->Thread->Option (SharedT×Thread))(ok:Thread->Bool):Nat->SharedT->Thread->Option SharedT
 | 0,_,_=>none
 | n+1,s,t=>match through t with
  | true=>some s
  | false=>match ok t with
   | false=>none
   | true=>match st s t with
    | some (s',t')=>Fe st ok n s' t'
    | none=>none
theorem BD {tb:String->Option Builtin}{p:Program}{w:World}{n₀:Nat}{ann:Option Value}:∀{n:Nat}{s s':SharedT}{t:Thread},Fe (stepT (denote tb) p w) (stepOk n₀ ann) n s t=some s'->topRun tb p w n₀ ann n s.abs t=some s'.abs
 | 0,_,_,_,h=>by cases h
 | n+1,s,s',t,h=>by
  unfold Fe at h;unfold topRun;cases he:through t with
  | true=>rw [he] at h;cases h;rfl
  | false =>
   rw [he] at h;cases hk:stepOk n₀ ann t with
   | false=>rw [hk] at h;cases h
   | true =>
    rw [hk] at h;cases hs:stepT (denote tb) p w s t with
    | none=>rw [hs] at h;cases h
    | some r=>obtain⟨s₂,t₂⟩:=r;rw [hs] at h;rw [stepT_spec hs];exact BD h
def lP:List Obj->Nat->BT->BT
 | [],_,t=>t
 | o::r,i,t=>lP r (i+1) (t.ins i o)
noncomputable def B_ (P:Params):BT:=lP (boot_heap P).objs.toList 0 .nil
def DU (P:Params):absHeap (B_ P) 11 {}=boot_heap P:=by kernel_rfl
def Nv {β:Type}:Obj->(Obj->β)->β
 | ⟨c,d,t,s⟩,k=>k ⟨c,d,t,s⟩
def qJ {β:Type}:List Obj->(List Obj->β)->β
 | [],k=>k []
 | x::r,k=>Nv x λy=>qJ r λys=>k (y::ys)
theorem sH {β:Type}:∀(l:List Obj)(k:List Obj->β),qJ l k=k l
 | [],_=>rfl
 | ⟨c,d,t,s⟩::r,k=>by
  show qJ r (λys=>k (⟨c,d,t,s⟩::ys))=_;rw [sH r]
def Ga (p q:Program) (loose:List Str)(Xt:Shared->Bool){α:Type}(Yf:Shared->α)(g0:Bool)(h₀:Heap)(s:Shared) :=
 ((staticsOk (importedModules p.main.body) h₀ s.heap && namesBound p s.heap && gensDone s && laidKept h₀ s.heap),openSeen q loose (importedModules p.main.body) Xt g0 s,Yf s)
def EV {β:Type}(f:Shared->β)(s:SharedT):β:=qJ (s.tree.list s.n) λl=>f ⟨⟨l.toArray,s.life⟩,s.gens,s.drawn,s.toks,s.os⟩
def EU {β:Type}(f:Shared->β)(s:SharedT):EV f s=f s.abs:=sH _ _
def Qi {p q:Program}{loose:List Str}{Xt:Shared->Bool}{α:Type}{Yf:Shared->α}{Ya:World->α}{N:Nat}{g0:Bool}{ann:Option Value}{M:Nat}
  (FA:∀w:World,(fencedOpening treeTable p w N).map (λs=>(s.heap,s.gens,s.drawn,s.toks))=some (boot_heap w.params,Array.mk [],boot_drawn,boot_toks))
  (size:∀w:World,((boot_heap w.params).isNs mainGlobals && (Array.mk []:Array GenState).size == 0,(boot_heap w.params).objs.size,(boot_heap w.params).nsMap mainGlobals "__annotations__")=(true,11,ann))
  (run:∀(w:World)(os:OsState),(Fe (stepT (denote treeTable) p w) (stepOk 11 ann) M ⟨B_ w.params,11,{},Array.mk [],boot_drawn,boot_toks,os⟩ (topStub p)).map (EV (Ga p q loose Xt Yf g0 (boot_heap w.params)))=some (true,openGood q loose,Ya w))
  (le:Nat.ble M N=true):LeftO p q loose Xt Yf Ya N g0:=λw=>by
 obtain⟨⟨h,gs,d,k,os⟩,e,e'⟩:=cD.mp (FA w);obtain⟨rfl,rfl,rfl,rfl⟩:h=boot_heap w.params/\gs=Array.mk []/\d=boot_drawn/\k=boot_toks:=by simpa using e'
 obtain⟨z1,z2,z3⟩:_/\_/\_:=by simpa only [qU] using size w
 obtain⟨s',r0,l0⟩:=cD.mp (run w os);rw [EU] at l0;obtain⟨l1,l2,l3⟩:_/\_/\_:=by simpa only [Ga,qU] using l0
 have r:=BD r0;have ea:SharedT.abs ⟨B_ w.params,11,{},Array.mk [],boot_drawn,boot_toks,os⟩=⟨boot_heap w.params,Array.mk [],boot_drawn,boot_toks,os⟩:=by
  unfold SharedT.abs;rw [DU]
 rw [ea] at r;have r:=topRun_mono (N - M) _ _ _ _ r;rw [show M+(N - M)=N by have:=Nat.le_of_ble_eq_true le;omega] at r;have t:topFrom treeTable p w N ⟨boot_heap w.params,Array.mk [],boot_drawn,boot_toks,os⟩=some s'.abs:=by
  unfold topFrom;dsimp only;rw [z1,z2,z3,r];show (match staticsOk (importedModules p.main.body) (boot_heap w.params) s'.abs.heap && namesBound p s'.abs.heap && gensDone s'.abs && laidKept (boot_heap w.params) s'.abs.heap with | true=>_ | false=>_)=_
  rw [l1]
 unfold openEnds;rw [e];show (topFrom treeTable p w N _).map _=_;rw [t];exact congrArg some (Prod.ext l2 l3)
end HD
set_option maxHeartbeats 0
namespace HD
open PySem PySem.W L2 PySem.Challenge
def dE (P:Params)(x:Str)(t:Tok)(v:Value):DictEntry:=⟨PyData.keyHash P x,.str x t,v⟩
def top (p:Program) (i:Nat):Stmt:=p.main.body.getD i (.Pass ⟨0,0,0,0⟩)
def jx (p:Program) (i j:Nat):Stmt:=match top p i with
 | .ClassDef _ _ _ body _ _ _ _ _ _ _=>body.getD j (.Pass ⟨0,0,0,0⟩)
 | _=>.Pass ⟨0,0,0,0⟩
def posOf (s:Stmt):Pos:=match s with
 | .FunctionDef _ _ _ _ _ _ _ _ _ p=>p
 | _=>⟨0,0,0,0⟩
def cF (a:Addr)(n q:Str)(i:Nat)(l m:Int)(x y:Addr)(u v s t:Value)(z:Int)(w:Nat):Addr×Obj:=(a,⟨.type "code",none,.fields #[.str n i,.str q (i+1),.str "/claim/cut.py" (i+2),.int l 0,.int m 0,.int 0 0,.int 0 0,.int 3 0,.ref x,.bool true,.int 181 0,.ref y,u,v,s,t,.int z 0,.int l 0,.str "/claim/cut.py" w],#[]⟩)
def fF (a:Addr)(n q:Str)(s:Stmt)(m:Value):Addr×Obj:=(a,⟨.type "function",none,.func (fnOf n q (dJ s) (cC s) (av s) .none .none .none m none (.ref (a-1)) .none),#[]⟩)
def dR (P:Params)(x:Str)(t:Tok)(a:Addr):DictEntry:=dE P x t (.ref a)
def m0:Value:=.str "__main__" 164
def m1:Value:=.str "wright.rules" 194
def m2:Value:=.str "wright.deed_trees" 234
def m3:Value:=.str "wright.begin_tables" 283
def m4:Value:=.str "wright.errors" 377
def m5:Value:=.str "wright.loops" 538
def m6:Value:=.str "wright.tree_sizes" 568
def m7:Value:=.str "wright.grammar_faults" 589
def m8:Value:=.str "wright.least_trees" 616
def m9:Value:=.str "wright.grammars" 702
def kj:Value:=.str "law_wright_k68_deeds_of_no_tree" 745
noncomputable def K' (p:Program)(P:Params):Frag:=[
 (2,⟨.none,none,.dict #[] 0,#[]⟩),
 (3,⟨.type "dict",none,.dict #[dE P "__name__" 165 (.str "law_wright_k68_deeds_of_no_tree" 745),dE P "__doc__" 166 (.none),dE P "__package__" 167 (.none),dE P "__loader__" 168 (.builtin "__main__.__loader__#opaque"),dE P "__spec__" 169 (.none),dR P "__annotations__" 170 6,dR P "__builtins__" 171 4,dE P "__file__" 173 (.str "/claim/cut.py" 172),dE P "__cached__" 174 (.none),dR P "_wall" 193 21,dR P "heads_of" 201 26,dR P "words_in" 207 31,dR P "numbers_by_name" 213 36,dR P "standings_by_part" 225 43,dR P "is_number_below" 233 50,dR P "tree_of" 241 55,dR P "do_deed" 251 62,dR P "do_step" 260 69,dR P "do_make" 272 76,dR P "is_child" 282 83,dR P "found_empties" 290 88,dR P "first_places" 301 95,dR P "BeginTable" 376 145,dR P "WrightError" 396 159,dR P "NoRules" 412 172,dR P "Twice" 437 191,dR P "Endless" 462 210,dR P "Unmet" 487 229,dR P "Loop" 512 248,dR P "Vast" 537 267,dR P "find_loop" 545 274,dR P "steps_with_like_rows" 551 279,dR P "way_back" 567 286,dR P "least_sizes" 575 291,dR P "greatest_empty_sizes" 582 298,dR P "settled_sizes" 588 303,dE P "MOST_RULES" 592 (.int (60) 591),dR P "refuse_faults" 598 308,dR P "refuse_twice" 609 315,dR P "names_met" 615 320,dR P "least_by_part" 623 325,dR P "rule_size" 629 330,dR P "empty_by_name" 635 335,dR P "LeastTrees" 701 378,dR P "Grammar" 744 407,dR P "_law_cell_at" 754 418,dR P "_law_names" 760 423,dR P "_law_words" 767 430,dR P "_law_digits" 779 437,dR P "_law_skeleton" 793 444,dR P "_law_more" 808 451,dR P "_law_ended" 814 456,dR P "_law_good" 820 461,dR P "_law_grammar" 834 468,dR P "_law_least" 840 473,dR P "_law_tree" 855 480,dR P "_law_deeds" 864 487,dR P "_law_drawn_tree" 870 492,dR P "_law_whole" 877 499,dR P "_law_piled" 891 506,dR P "_law_due" 897 511,dR P "_law_spoiled" 911 518,dR P "law" 925 525] 63,#[]⟩),
 (cF 20 "_wall" "_wall" 187 1 1 15 16 .none (.ref 17) (.ref 18) (.ref 19) 191 192),
 (fF 21 "_wall" "_wall" (top p 0) m0),
 (cF 25 "heads_of" "heads_of" 196 5 1 22 23 .none .none .none (.ref 24) 199 200),
 (fF 26 "heads_of" "heads_of" (top p 2) m1),
 (cF 30 "words_in" "words_in" 202 7 1 27 28 .none .none .none (.ref 29) 205 206),
 (fF 31 "words_in" "words_in" (top p 3) m1),
 (cF 35 "numbers_by_name" "numbers_by_name" 208 15 1 32 33 .none .none .none (.ref 34) 211 212),
 (fF 36 "numbers_by_name" "numbers_by_name" (top p 4) m1),
 (cF 42 "standings_by_part" "standings_by_part" 214 20 1 37 38 .none (.ref 39) (.ref 40) (.ref 41) 223 224),
 (fF 43 "standings_by_part" "standings_by_part" (top p 5) m1),
 (cF 49 "is_number_below" "is_number_below" 226 26 2 44 45 .none (.ref 46) (.ref 47) (.ref 48) 231 232),
 (fF 50 "is_number_below" "is_number_below" (top p 6) m1),
 (cF 54 "tree_of" "tree_of" 236 29 2 51 52 .none .none .none (.ref 53) 239 240),
 (fF 55 "tree_of" "tree_of" (top p 8) m2),
 (cF 61 "do_deed" "do_deed" 242 38 4 56 57 .none (.ref 58) (.ref 59) (.ref 60) 249 250),
 (fF 62 "do_deed" "do_deed" (top p 9) m2),
 (cF 68 "do_step" "do_step" 252 44 3 63 64 .none (.ref 65) (.ref 66) (.ref 67) 258 259),
 (fF 69 "do_step" "do_step" (top p 10) m2),
 (cF 75 "do_make" "do_make" 261 49 4 70 71 .none (.ref 72) (.ref 73) (.ref 74) 270 271),
 (fF 76 "do_make" "do_make" (top p 11) m2),
 (cF 82 "is_child" "is_child" 273 59 4 77 78 .none (.ref 79) (.ref 80) (.ref 81) 280 281),
 (fF 83 "is_child" "is_child" (top p 12) m2),
 (cF 87 "found_empties" "found_empties" 285 64 1 84 85 .none .none .none (.ref 86) 288 289),
 (fF 88 "found_empties" "found_empties" (top p 14) m3),
 (cF 94 "first_places" "first_places" 291 75 2 89 90 .none (.ref 91) (.ref 92) (.ref 93) 299 300),
 (fF 95 "first_places" "first_places" (top p 15) m3),
 (cF 106 "__init__" "BeginTable.__init__" 314 84 2 103 104 .none .none .none (.ref 105) 317 318),
 (fF 107 "__init__" "BeginTable.__init__" (jx p 16 0) m3),
 (cF 113 "find_begins" "BeginTable.find_begins" 320 95 3 108 109 .none (.ref 110) (.ref 111) (.ref 112) 329 330),
 (fF 114 "find_begins" "BeginTable.find_begins" (jx p 16 1) m3),
 (cF 120 "words_of_part" "BeginTable.words_of_part" 332 103 2 115 116 .none (.ref 117) (.ref 118) (.ref 119) 337 338),
 (fF 121 "words_of_part" "BeginTable.words_of_part" (jx p 16 2) m3),
 (cF 127 "first_words" "BeginTable.first_words" 340 106 2 122 123 .none (.ref 124) (.ref 125) (.ref 126) 345 346),
 (fF 128 "first_words" "BeginTable.first_words" (jx p 16 3) m3),
 (cF 134 "all_empty" "BeginTable.all_empty" 348 109 2 129 130 .none (.ref 131) (.ref 132) (.ref 133) 353 354),
 (fF 135 "all_empty" "BeginTable.all_empty" (jx p 16 4) m3),
 (cF 141 "words_of_parts" "BeginTable.words_of_parts" 356 112 3 136 137 .none (.ref 138) (.ref 139) (.ref 140) 362 363),
 (fF 142 "words_of_parts" "BeginTable.words_of_parts" (jx p 16 5) m3),
 (144,⟨.type "dict",none,.dict #[dE P "__module__" 309 (.str "wright.begin_tables" 283),dE P "__firstlineno__" 313 (.int (82) 312),dR P "__init__" 319 107,dR P "find_begins" 331 114,dR P "words_of_part" 339 121,dR P "first_words" 347 128,dR P "all_empty" 355 135,dR P "words_of_parts" 364 142,dR P "__static_attributes__" 369 143,dR P "__dict__" 371 146,dR P "__weakref__" 373 147,dE P "__doc__" 374 (.none)] 4,#[]⟩),
 (145,⟨.type "type",none,.cls ⟨"BeginTable",[.type "object"],[.ref 145,.type "object"],144,"BeginTable",true,[],[],false,none,false⟩,#[none,none,some (.str "BeginTable" 302),some (.str "BeginTable" 310),some (.builtin "object.__new__"),some (.bool true)]⟩),
 (146,⟨.type "getset_descriptor",none,.fields #[.str "__dict__" 370,.ref 145,.builtin "function.__dict__",.builtin "function.__dict__#set"],#[]⟩),
 (147,⟨.type "getset_descriptor",none,.fields #[.str "__weakref__" 372,.ref 145,.builtin "ExceptionGroup.__weakref__",.none],#[]⟩),
 (158,⟨.type "dict",none,.dict #[dE P "__module__" 386 (.str "wright.errors" 377),dE P "__firstlineno__" 390 (.int (115) 389),dR P "__static_attributes__" 391 157,dR P "__weakref__" 393 160,dE P "__doc__" 394 (.none)] 3,#[]⟩),
 (159,⟨.type "type",none,.cls ⟨"WrightError",[.type "ValueError"],[.ref 159,.type "ValueError",.type "Exception",.type "BaseException",.type "object"],158,"WrightError",true,[],[.ref 172,.ref 191,.ref 210,.ref 229,.ref 248,.ref 267],false,none,false⟩,#[some (.ref 150),none,some (.str "WrightError" 379),some (.str "WrightError" 387),some (.builtin "ValueError.__new__"),some (.bool true)]⟩),
 (160,⟨.type "getset_descriptor",none,.fields #[.str "__weakref__" 392,.ref 159,.builtin "ExceptionGroup.__weakref__",.none],#[]⟩),
 (171,⟨.type "dict",none,.dict #[dE P "__module__" 404 (.str "wright.errors" 377),dE P "__firstlineno__" 408 (.int (117) 407),dR P "__static_attributes__" 409 170,dE P "__doc__" 410 (.none)] 2,#[]⟩),
 (172,⟨.type "type",none,.cls ⟨"NoRules",[.ref 159],[.ref 172,.ref 159,.type "ValueError",.type "Exception",.type "BaseException",.type "object"],171,"NoRules",true,[],[],false,none,false⟩,#[some (.ref 163),none,some (.str "NoRules" 397),some (.str "NoRules" 405),some (.builtin "ValueError.__new__"),some (.bool true)]⟩),
 (cF 187 "__init__" "Twice.__init__" 425 121 2 182 183 .none (.ref 184) (.ref 185) (.ref 186) 430 431),
 (fF 188 "__init__" "Twice.__init__" (jx p 20 0) m4),
 (190,⟨.type "dict",none,.dict #[dE P "__module__" 420 (.str "wright.errors" 377),dE P "__firstlineno__" 424 (.int (119) 423),dR P "__init__" 432 188,dR P "__static_attributes__" 434 189,dE P "__doc__" 435 (.none)] 2,#[]⟩),
 (191,⟨.type "type",none,.cls ⟨"Twice",[.ref 159],[.ref 191,.ref 159,.type "ValueError",.type "Exception",.type "BaseException",.type "object"],190,"Twice",true,[],[],false,none,false⟩,#[some (.ref 175),none,some (.str "Twice" 413),some (.str "Twice" 421),some (.builtin "ValueError.__new__"),some (.bool true)]⟩),
 (cF 206 "__init__" "Endless.__init__" 450 126 2 201 202 .none (.ref 203) (.ref 204) (.ref 205) 455 456),
 (fF 207 "__init__" "Endless.__init__" (jx p 21 0) m4),
 (209,⟨.type "dict",none,.dict #[dE P "__module__" 445 (.str "wright.errors" 377),dE P "__firstlineno__" 449 (.int (124) 448),dR P "__init__" 457 207,dR P "__static_attributes__" 459 208,dE P "__doc__" 460 (.none)] 2,#[]⟩),
 (210,⟨.type "type",none,.cls ⟨"Endless",[.ref 159],[.ref 210,.ref 159,.type "ValueError",.type "Exception",.type "BaseException",.type "object"],209,"Endless",true,[],[],false,none,false⟩,#[some (.ref 194),none,some (.str "Endless" 438),some (.str "Endless" 446),some (.builtin "ValueError.__new__"),some (.bool true)]⟩),
 (cF 225 "__init__" "Unmet.__init__" 475 131 2 220 221 .none (.ref 222) (.ref 223) (.ref 224) 480 481),
 (fF 226 "__init__" "Unmet.__init__" (jx p 22 0) m4),
 (228,⟨.type "dict",none,.dict #[dE P "__module__" 470 (.str "wright.errors" 377),dE P "__firstlineno__" 474 (.int (129) 473),dR P "__init__" 482 226,dR P "__static_attributes__" 484 227,dE P "__doc__" 485 (.none)] 2,#[]⟩),
 (229,⟨.type "type",none,.cls ⟨"Unmet",[.ref 159],[.ref 229,.ref 159,.type "ValueError",.type "Exception",.type "BaseException",.type "object"],228,"Unmet",true,[],[],false,none,false⟩,#[some (.ref 213),none,some (.str "Unmet" 463),some (.str "Unmet" 471),some (.builtin "ValueError.__new__"),some (.bool true)]⟩),
 (cF 244 "__init__" "Loop.__init__" 500 136 2 239 240 .none (.ref 241) (.ref 242) (.ref 243) 505 506),
 (fF 245 "__init__" "Loop.__init__" (jx p 23 0) m4),
 (247,⟨.type "dict",none,.dict #[dE P "__module__" 495 (.str "wright.errors" 377),dE P "__firstlineno__" 499 (.int (134) 498),dR P "__init__" 507 245,dR P "__static_attributes__" 509 246,dE P "__doc__" 510 (.none)] 2,#[]⟩),
 (248,⟨.type "type",none,.cls ⟨"Loop",[.ref 159],[.ref 248,.ref 159,.type "ValueError",.type "Exception",.type "BaseException",.type "object"],247,"Loop",true,[],[],false,none,false⟩,#[some (.ref 232),none,some (.str "Loop" 488),some (.str "Loop" 496),some (.builtin "ValueError.__new__"),some (.bool true)]⟩),
 (cF 263 "__init__" "Vast.__init__" 525 141 2 258 259 .none (.ref 260) (.ref 261) (.ref 262) 530 531),
 (fF 264 "__init__" "Vast.__init__" (jx p 24 0) m4),
 (266,⟨.type "dict",none,.dict #[dE P "__module__" 520 (.str "wright.errors" 377),dE P "__firstlineno__" 524 (.int (139) 523),dR P "__init__" 532 264,dR P "__static_attributes__" 534 265,dE P "__doc__" 535 (.none)] 2,#[]⟩),
 (267,⟨.type "type",none,.cls ⟨"Vast",[.ref 159],[.ref 267,.ref 159,.type "ValueError",.type "Exception",.type "BaseException",.type "object"],266,"Vast",true,[],[],false,none,false⟩,#[some (.ref 251),none,some (.str "Vast" 513),some (.str "Vast" 521),some (.builtin "ValueError.__new__"),some (.bool true)]⟩),
 (cF 273 "find_loop" "find_loop" 540 145 1 270 271 .none .none .none (.ref 272) 543 544),
 (fF 274 "find_loop" "find_loop" (top p 26) m5),
 (cF 278 "steps_with_like_rows" "steps_with_like_rows" 546 149 1 275 276 .none .none .none (.ref 277) 549 550),
 (fF 279 "steps_with_like_rows" "steps_with_like_rows" (top p 27) m5),
 (cF 285 "way_back" "way_back" 552 158 3 280 281 .none (.ref 282) (.ref 283) (.ref 284) 565 566),
 (fF 286 "way_back" "way_back" (top p 28) m5),
 (cF 290 "least_sizes" "least_sizes" 570 174 1 287 288 .none .none .none (.ref 289) 573 574),
 (fF 291 "least_sizes" "least_sizes" (top p 30) m6),
 (cF 297 "greatest_empty_sizes" "greatest_empty_sizes" 576 176 1 292 293 .none (.ref 294) (.ref 295) (.ref 296) 580 581),
 (fF 298 "greatest_empty_sizes" "greatest_empty_sizes" (top p 31) m6),
 (cF 302 "settled_sizes" "settled_sizes" 583 178 3 299 300 .none .none .none (.ref 301) 586 587),
 (fF 303 "settled_sizes" "settled_sizes" (top p 32) m6),
 (cF 307 "refuse_faults" "refuse_faults" 593 191 2 304 305 .none .none .none (.ref 306) 596 597),
 (fF 308 "refuse_faults" "refuse_faults" (top p 35) m7),
 (cF 314 "refuse_twice" "refuse_twice" 599 210 1 309 310 .none (.ref 311) (.ref 312) (.ref 313) 607 608),
 (fF 315 "refuse_twice" "refuse_twice" (top p 36) m7),
 (cF 319 "names_met" "names_met" 610 217 1 316 317 .none .none .none (.ref 318) 613 614),
 (fF 320 "names_met" "names_met" (top p 37) m7),
 (cF 324 "least_by_part" "least_by_part" 618 227 1 321 322 .none .none .none (.ref 323) 621 622),
 (fF 325 "least_by_part" "least_by_part" (top p 39) m8),
 (cF 329 "rule_size" "rule_size" 624 235 2 326 327 .none .none .none (.ref 328) 627 628),
 (fF 330 "rule_size" "rule_size" (top p 40) m8),
 (cF 334 "empty_by_name" "empty_by_name" 630 237 2 331 332 .none .none .none (.ref 333) 633 634),
 (fF 335 "empty_by_name" "empty_by_name" (top p 41) m8),
 (cF 346 "__init__" "LeastTrees.__init__" 648 244 3 343 344 .none .none .none (.ref 345) 651 652),
 (fF 347 "__init__" "LeastTrees.__init__" (jx p 42 0) m8),
 (cF 353 "least_of" "LeastTrees.least_of" 654 251 2 348 349 .none (.ref 350) (.ref 351) (.ref 352) 659 660),
 (fF 354 "least_of" "LeastTrees.least_of" (jx p 42 1) m8),
 (cF 360 "hollow_of" "LeastTrees.hollow_of" 662 254 2 355 356 .none (.ref 357) (.ref 358) (.ref 359) 667 668),
 (fF 361 "hollow_of" "LeastTrees.hollow_of" (jx p 42 2) m8),
 (cF 367 "begun_place" "LeastTrees.begun_place" 670 257 3 362 363 .none (.ref 364) (.ref 365) (.ref 366) 676 677),
 (fF 368 "begun_place" "LeastTrees.begun_place" (jx p 42 3) m8),
 (cF 374 "begun_of" "LeastTrees.begun_of" 679 260 4 369 370 .none (.ref 371) (.ref 372) (.ref 373) 686 687),
 (fF 375 "begun_of" "LeastTrees.begun_of" (jx p 42 4) m8),
 (377,⟨.type "dict",none,.dict #[dE P "__module__" 643 (.str "wright.least_trees" 616),dE P "__firstlineno__" 647 (.int (242) 646),dR P "__init__" 653 347,dR P "least_of" 661 354,dR P "hollow_of" 669 361,dR P "begun_place" 678 368,dR P "begun_of" 688 375,dR P "__static_attributes__" 694 376,dR P "__dict__" 696 379,dR P "__weakref__" 698 380,dE P "__doc__" 699 (.none)] 4,#[]⟩),
 (378,⟨.type "type",none,.cls ⟨"LeastTrees",[.type "object"],[.ref 378,.type "object"],377,"LeastTrees",true,[],[],false,none,false⟩,#[none,none,some (.str "LeastTrees" 636),some (.str "LeastTrees" 644),some (.builtin "object.__new__"),some (.bool true)]⟩),
 (379,⟨.type "getset_descriptor",none,.fields #[.str "__dict__" 695,.ref 378,.builtin "function.__dict__",.builtin "function.__dict__#set"],#[]⟩),
 (380,⟨.type "getset_descriptor",none,.fields #[.str "__weakref__" 697,.ref 378,.builtin "ExceptionGroup.__weakref__",.none],#[]⟩),
 (390,⟨.type "tuple",none,.seq #[.none] 0,#[]⟩),
 (cF 396 "__init__" "Grammar.__init__" 716 265 3 391 392 .none (.ref 393) (.ref 394) (.ref 395) 722 723),
 (397,⟨.type "function",none,.func (fnOf "__init__" "Grammar.__init__" (dJ (jx p 44 0)) (cC (jx p 44 0)) (av (jx p 44 0)) (.ref 390) (.none) (.none) (.str "wright.grammars" 702) (none) (.ref 396) (.none)),#[]⟩),
 (cF 403 "start" "Grammar.start" 725 273 1 398 399 .none (.ref 400) (.ref 401) (.ref 402) 729 730),
 (fF 404 "start" "Grammar.start" (jx p 44 1) m9),
 (406,⟨.type "dict",none,.dict #[dE P "__module__" 711 (.str "wright.grammars" 702),dE P "__firstlineno__" 715 (.int (263) 714),dR P "__init__" 724 397,dR P "start" 731 404,dR P "__static_attributes__" 737 405,dR P "__dict__" 739 408,dR P "__weakref__" 741 409,dE P "__doc__" 742 (.none)] 4,#[]⟩),
 (407,⟨.type "type",none,.cls ⟨"Grammar",[.type "object"],[.ref 407,.type "object"],406,"Grammar",true,[],[],false,none,false⟩,#[none,none,some (.str "Grammar" 704),some (.str "Grammar" 712),some (.builtin "object.__new__"),some (.bool true)]⟩),
 (408,⟨.type "getset_descriptor",none,.fields #[.str "__dict__" 738,.ref 407,.builtin "function.__dict__",.builtin "function.__dict__#set"],#[]⟩),
 (409,⟨.type "getset_descriptor",none,.fields #[.str "__weakref__" 740,.ref 407,.builtin "ExceptionGroup.__weakref__",.none],#[]⟩),
 (cF 417 "_law_cell_at" "_law_cell_at" 747 276 2 412 413 .none (.ref 414) (.ref 415) (.ref 416) 752 753),
 (fF 418 "_law_cell_at" "_law_cell_at" (top p 46) kj),
 (cF 422 "_law_names" "_law_names" 755 280 1 419 420 .none .none .none (.ref 421) 758 759),
 (fF 423 "_law_names" "_law_names" (top p 47) kj),
 (cF 429 "_law_words" "_law_words" 761 283 1 424 425 .none (.ref 426) (.ref 427) (.ref 428) 765 766),
 (fF 430 "_law_words" "_law_words" (top p 48) kj),
 (cF 436 "_law_digits" "_law_digits" 768 285 3 431 432 .none (.ref 433) (.ref 434) (.ref 435) 777 778),
 (fF 437 "_law_digits" "_law_digits" (top p 49) kj),
 (cF 443 "_law_skeleton" "_law_skeleton" 780 296 4 438 439 .none (.ref 440) (.ref 441) (.ref 442) 791 792),
 (fF 444 "_law_skeleton" "_law_skeleton" (top p 50) kj),
 (cF 450 "_law_more" "_law_more" 794 307 5 445 446 .none (.ref 447) (.ref 448) (.ref 449) 806 807),
 (fF 451 "_law_more" "_law_more" (top p 51) kj),
 (cF 455 "_law_ended" "_law_ended" 809 314 2 452 453 .none .none .none (.ref 454) 812 813),
 (fF 456 "_law_ended" "_law_ended" (top p 52) kj),
 (cF 460 "_law_good" "_law_good" 815 323 1 457 458 .none .none .none (.ref 459) 818 819),
 (fF 461 "_law_good" "_law_good" (top p 53) kj),
 (cF 467 "_law_grammar" "_law_grammar" 821 345 2 462 463 .none (.ref 464) (.ref 465) (.ref 466) 832 833),
 (fF 468 "_law_grammar" "_law_grammar" (top p 54) kj),
 (cF 472 "_law_least" "_law_least" 835 358 1 469 470 .none .none .none (.ref 471) 838 839),
 (fF 473 "_law_least" "_law_least" (top p 55) kj),
 (cF 479 "_law_tree" "_law_tree" 841 367 5 474 475 .none (.ref 476) (.ref 477) (.ref 478) 853 854),
 (fF 480 "_law_tree" "_law_tree" (top p 56) kj),
 (cF 486 "_law_deeds" "_law_deeds" 856 381 1 481 482 .none (.ref 483) (.ref 484) (.ref 485) 862 863),
 (fF 487 "_law_deeds" "_law_deeds" (top p 57) kj),
 (cF 491 "_law_drawn_tree" "_law_drawn_tree" 865 388 3 488 489 .none .none .none (.ref 490) 868 869),
 (fF 492 "_law_drawn_tree" "_law_drawn_tree" (top p 58) kj),
 (cF 498 "_law_whole" "_law_whole" 871 394 1 493 494 .none (.ref 495) (.ref 496) (.ref 497) 875 876),
 (fF 499 "_law_whole" "_law_whole" (top p 59) kj),
 (cF 505 "_law_piled" "_law_piled" 878 396 4 500 501 .none (.ref 502) (.ref 503) (.ref 504) 889 890),
 (fF 506 "_law_piled" "_law_piled" (top p 60) kj),
 (cF 510 "_law_due" "_law_due" 892 413 2 507 508 .none .none .none (.ref 509) 895 896),
 (fF 511 "_law_due" "_law_due" (top p 61) kj),
 (cF 517 "_law_spoiled" "_law_spoiled" 898 425 5 512 513 .none (.ref 514) (.ref 515) (.ref 516) 909 910),
 (fF 518 "_law_spoiled" "_law_spoiled" (top p 62) kj),
 (cF 524 "law" "law" 912 442 1 519 520 .none (.ref 521) (.ref 522) (.ref 523) 923 924),
 (fF 525 "law" "law" (top p 63) kj)]
def as:List Addr:=[2,3,20,21,25,26,30,31,35,36,42,43,49,50,54,55,61,62,68,69,75,76,82,83,87,88,94,95,106,107,113,114,120,121,127,128,134,135,141,142,144,145,146,147,158,159,160,171,172,187,188,190,191,206,207,209,210,225,226,228,229,244,245,247,248,263,264,266,267,273,274,278,279,285,286,290,291,297,298,302,303,307,308,314,315,319,320,324,325,329,330,334,335,346,347,353,354,360,361,367,368,374,375,377,378,379,380,390,396,397,403,404,406,407,408,409,417,418,422,423,429,430,436,437,443,444,450,451,455,456,460,461,467,468,472,473,479,480,486,487,491,492,498,499,505,506,510,511,517,518,524,525]
def q' (p:Program):Program:=view p [0,2,3,4,5,6,8,9,10,11,12,14,15,16,18,19,20,21,22,23,24,26,27,28,30,31,32,34,35,36,37,39,40,41,42,44,46,47,48,49,50,51,52,53,54,55,56,57,58,59,60,61,62,63]
abbrev loose:List Str:=[]
abbrev steps:Nat:=4026
abbrev bound:Nat:=9032
abbrev C6:OpenLaw:=rw_wright_k68_deeds_of_no_tree
noncomputable abbrev K (P:Params):Frag:=K' pw_wright_k68_deeds_of_no_tree P
theorem RI (P:Params):as=(K P).map (·.1):=by kernel_rfl
noncomputable abbrev hook:Hook:=kmHook K as RI [322,293,288]
def pre (h:C6.row.wellSaid=true->C6.row.Holds):C6.Holds:=by
 o_law
 exact h (by assumption)
abbrev Xt:Shared->Bool:=λs=>xlAt (q' pw_wright_k68_deeds_of_no_tree) [] s && recOk (RowW.records (OpenRow.toRowW (OpenLaw.row rw_wright_k68_deeds_of_no_tree))) s
def run (w:World)(os:OsState):(Fe (stepT (denote treeTable) pw_wright_k68_deeds_of_no_tree w) (stepOk 11 (some (.ref 6))) steps ⟨B_ w.params,11,{},Array.mk [],boot_drawn,boot_toks,os⟩ (topStub pw_wright_k68_deeds_of_no_tree)).map
  (EV (Ga pw_wright_k68_deeds_of_no_tree (q' pw_wright_k68_deeds_of_no_tree) loose Xt (Hook.obs hook) true (boot_heap w.params)))=some (true,openGood (q' pw_wright_k68_deeds_of_no_tree) loose,Hook.val hook w):=by
 rw [PySem.W.Fast.te10156331382660048174,PySem.W.Fast.te11892475500146522536,PySem.W.Fast.te14364793385576792824,PySem.W.Fast.te6613529449190102663,PySem.W.Fast.te14784374684019163964]
 kernel_rfl
theorem size (w:World):((boot_heap w.params).isNs mainGlobals && (Array.mk []:Array GenState).size == 0,(boot_heap w.params).objs.size,(boot_heap w.params).nsMap mainGlobals "__annotations__")=(true,11,some (.ref 6)):=by kernel_rfl
def FA:∀w:World,(fencedOpening treeTable pw_wright_k68_deeds_of_no_tree w bound).map (λs=>(s.heap,s.gens,s.drawn,s.toks))=some (boot_heap w.params,Array.mk [],boot_drawn,boot_toks) :=
 boot_open (nofun) nofun (λs=>by kernel_rfl)
def left:LeftO (OpenRow.toRowW C6.row).prog (q' pw_wright_k68_deeds_of_no_tree) loose Xt (Hook.obs hook) (Hook.val hook) bound:=Qi FA size run nofun
def kY:DefRec:={ name := "law",params:=dJ (top pw_wright_k68_deeds_of_no_tree 63),body:=cC (top pw_wright_k68_deeds_of_no_tree 63),scope:=av (top pw_wright_k68_deeds_of_no_tree 63),pos:=posOf (top pw_wright_k68_deeds_of_no_tree 63) }
def ok1:defOf (q' pw_wright_k68_deeds_of_no_tree) C6.row.name=some (kY,[]):=by kernel_rfl
def ok2:C6.row.prog.theDef C6.row.name=some (kY.params,kY.body,kY.scope):=by kernel_rfl
def ok3:kwWritten? kY.params.kwonlyargs kY.params.kw_defaults=some []:=by kernel_rfl
def ok4:(chainsOk (q' pw_wright_k68_deeds_of_no_tree) && opensWell C6.row.prog && (frees C6.row.toRowW && C6.row.within.isEmpty))=true:=by kernel_rfl
def ok5:kY.params.defaults=[]:=by kernel_rfl
def hold (h:WalkO (q' pw_wright_k68_deeds_of_no_tree) loose (XL (q' pw_wright_k68_deeds_of_no_tree) []) (Hook.says hook) C6.row.toRowW kY [] λf vs=>PySem.call f vs)(hw:C6.row.toRowW.promised):C6.Holds :=
 pre λUv=>holds_open (q:=q' pw_wright_k68_deeds_of_no_tree) (loose:=loose) (Xt:=Xt) (XP:=XL (q' pw_wright_k68_deeds_of_no_tree) []) (Yf:=Hook.obs hook) (Ya:=Hook.val hook) (YP:=Hook.says hook) (N:=bound) left (Hook.of hook) (Hook.keeps hook) (λs e=>xl_of s (gF.mp e).1) XL.keeps ok1 ok2 ok3 (λs e=>recFacts_of (gF.mp e).2) rfl Uv ok4 ⟨rfl,rfl,rfl,rfl,rfl,nofun⟩ hw h
end HD
set_option maxHeartbeats 4000000
namespace L2
open PySem PySem.Spec PyProof.Rows
abbrev pL:=Nat->St->Hp->Prop
def yz {CX:zg}{P:Program}{w:World}{K:ba}{mg:Str->Option Value}{base:Heap}{N:List Str}{qual:Str}{scope:Scope}{f:Addr}{cd:Value}{A:Around}{outer:List Env}{s:Shared}{H:Hp}{E:XK}:(pJ CX P w K mg base N qual scope f cd A outer s H E).CW.K=K:=rfl
def Vi {t:TS}{D:Ends}{σ:St}{H:Hp}(h:let E:=D;t E σ H):t D σ H:=h
def Vg {t u:TS}{D:Ends}{σ:St}{H:Hp}(h:let E:={ D with nx:=u D };t E σ H):LM t u D σ H:=h
def Qh {t u:TS}{D:Ends}{σ:St}{H:Hp}(h:let E:=D;let F:={ E with nx:=u E };t F σ H):LM t u D σ H:=h
def Vh {g:TG}{x:V}{σ:St}{H:Hp}{t:TS}{D:Ends}(h:let E:=D;g x σ H λσ2 H2=>t E σ2 H2):g x σ H λσ2 H2=>t D σ2 H2:=h
end L2
local macro_rules | `(tactic| nofun) => `(tactic| (dsimp only [L2.yz];refine L2.Vg ?_;intro _))
local macro_rules | `(tactic| ac_rfl) => `(tactic| (refine L2.Qh ?_;intro _ _))
local macro_rules | `(tactic| ac_nf0) => `(tactic| (refine L2.Vh ?_;intro _))
local macro_rules | `(tactic| ac_nf) => `(tactic| (refine L2.Vi ?_;intro _))
set_option maxHeartbeats 0
namespace L2
open PySem PySem.Spec PyProof.Rows
section
variable {κ:Type} [DecidableEq κ]
def bw (kvs:List (κ×V))(k:κ):Option V:=(kvs.find? λkv=>decide (kv.1=k)).map (·.2)
def bU (kvs:List (κ×V))(k:κ)(v:V):List (κ×V) :=
 if (kvs.any λkv=>decide (kv.1=k))=true then kvs.map (λkv=>if kv.1=k then (kv.1,v) else kv) else kvs++[(k,v)]
def Lm (kvs:List (κ×V))(k:κ):List (κ×V):=kvs.filter λkv=>decide (kv.1≠k)
def fJ {p:κ×V}{r:List (κ×V)}{k:κ}(e:p.1=k):bw (p::r) k=some p.2:=by simp [bw,oQ,e]
def fK {p:κ×V}{r:List (κ×V)}{k:κ}(e:¬p.1=k):bw (p::r) k=bw r k:=by simp [bw,oQ,e]
theorem jt (k:κ):∀kvs:List (κ×V),(kvs.any λkv=>decide (kv.1=k))=(bw kvs k).isSome
 | []=>rfl
 | p::r=>by
  rw [qT];by_cases e:p.1=k
  .simp only [fJ e,bh e,Bool.true_or,Option.isSome_some]
  rw [fK e,b8 e,Bool.false_or];exact jt k r
theorem xu (k j:κ)(y:V):∀kvs:List (κ×V),bw (kvs.map λkv=>if kv.1=k then (kv.1,y) else kv) j=(bw kvs j).map λx=>if j=k then y else x
 | []=>rfl
 | p::r=>by
  have ih:=xu k j y r;rw [cP];by_cases h:p.1=k
  .rw [ax h];by_cases e:p.1=j
   .rw [fJ (p:=(p.1,y)) e,fJ e,qY,ax (e.symm.trans h)]
   rw [fK (p:=(p.1,y)) e,fK e,ih]
  rw [ay h];by_cases e:p.1=j
  .rw [fJ (p:=p) e,fJ e,qY,ay (λz=>h (e.trans z))]
  rw [fK (p:=p) e,fK e,ih]
theorem uf (k j:κ)(y:V):∀kvs:List (κ×V),bw kvs k=none->bw (kvs++[(k,y)]) j=if j=k then some y else bw kvs j
 | [],_=>by
  by_cases e:k=j
  .rw [ax e.symm];exact fJ (p:=(k,y)) e
  rw [ay (λz=>e z.symm)];exact fK (p:=(k,y)) e
 | p::r,hn=>by
  rw [List.cons_append];have hk:¬p.1=k:=λz=>by rw [fJ z] at hn;cases hn
  rw [fK hk] at hn;have ih:=uf k j y r hn;by_cases e:p.1=j
  .rw [fJ e,fJ e,ay (λz=>hk (e.trans z))]
  rw [fK e,fK e,ih]
def rD (kvs:List (κ×V))(k j:κ)(y:V):bw (bU kvs k y) j=if j=k then some y else bw kvs j:=by
 unfold bU;by_cases a:(kvs.any λkv=>decide (kv.1=k))=true
 .rw [ax a,xu];rw [jt] at a;by_cases e:j=k
  .obtain⟨x,hx⟩:=lY.mp a;rw [ax e,e,hx,qY,ax rfl]
  rw [ay e];cases bw kvs j with
  | none=>rfl
  | some x=>rw [qY,ay e]
 rw [ay a];refine uf k j y kvs ?_;rw [jt] at a;cases q:bw kvs k with
 | none=>rfl
 | some x=>rw [q] at a;exact(a rfl).elim
def gh (kvs:List (κ×V))(k:κ)(v:V):(bU kvs k v).length<=kvs.length+1:=by
 unfold bU
 split
 .rw [au];omega
 rw [a9,dZ,jq];omega
def xP {kvs:List (κ×V)}{k:κ}(v:V)(h:bw kvs k=none):bU kvs k v=kvs++[(k,v)]:=by
 unfold bU;rw [jt,h];exact ay nofun
def j4.jy {o:Option V}{u:Option Value}(r:j4 o u):o.isSome=u.isSome:=by
 cases o with
 | none=>cases u with
  | none=>rfl
  | some _=>exact(show False from r).elim
 | some _=>cases u with
  | none=>exact(show False from r).elim
  | some _=>rfl
theorem j4.getD {o:Option V}{u:Option Value}{d:V}{d':Value}(r:j4 o u)(rd:RelV d d'):RelV (o.getD d) (u.getD d'):=by
 cases o with
 | none=>cases u with
  | none=>exact rd
  | some _=>exact(show False from r).elim
 | some _=>cases u with
  | none=>exact(show False from r).elim
  | some _=>exact r
def KV.val {kvs:List (κ×V)}{vs:List (κ×Value)}(r:KV kvs vs)(k:κ):j4 (bw kvs k) (valueAt vs k):=by
 unfold KV at r
 induction r with
 | nil=>exact True.intro
 | @cons p q ps qs h t ih =>
  obtain⟨h1,h2⟩:=h;by_cases e:p.1=k
  .have e':q.1=k:=h1.symm.trans e;have b:valueAt (q::qs) k=some q.2:=by simp [valueAt,oQ,e']
   rw [fJ e,b];exact h2
  have e':¬q.1=k:=λz=>e (h1.trans z);have b:valueAt (q::qs) k=valueAt qs k:=by simp [valueAt,oQ,e']
  rw [fK e,b];exact ih
theorem KV.any {kvs:List (κ×V)}{vs:List (κ×Value)}(r:KV kvs vs)(k:κ):(kvs.any λkv=>decide (kv.1=k))=vs.any λkv=>decide (kv.1=k):=by
 unfold KV at r
 induction r with
 | nil=>rfl
 | cons h t ih=>rw [qT,qT,ih,h.1]
def KV.Mi {kvs:List (κ×V)}{vs:List (κ×Value)}(r:KV kvs vs)(k:κ){y:V}{u:Value}(ry:RelV y u) :
  KV (kvs.map λkv=>if kv.1=k then (kv.1,y) else kv) (vs.map λkv=>if kv.1=k then (kv.1,u) else kv):=by
 unfold KV at r ⊢
 induction r with
 | nil=>exact .nil
 | @cons p q ps qs h t ih =>
  rw [cP,cP];refine .cons ?_ ih;obtain⟨h1,h2⟩:=h;by_cases e:p.1=k
  .rw [ax e,ax (h1.symm.trans e)];exact⟨h1,ry⟩
  rw [ay e,ay (λz=>e (h1.trans z))];exact⟨h1,h2⟩
def KV.put {kvs:List (κ×V)}{vs:List (κ×Value)}(r:KV kvs vs)(k:κ){y:V}{u:Value}(ry:RelV y u):KV (bU kvs k y) (stored vs k u):=by
 unfold bU stored;rw [r.any k];by_cases e:(vs.any λkv=>decide (kv.1=k))=true
 .rw [ax e,ax e];exact r.Mi k ry
 rw [ay e,ay e];exact h_ r ⟨rfl,ry⟩
def KV.drop {kvs:List (κ×V)}{vs:List (κ×Value)}(r:KV kvs vs)(k:κ):KV (Lm kvs k) (without vs k):=by
 unfold KV at r ⊢;unfold Lm without
 induction r with
 | nil=>exact .nil
 | @cons p q ps qs h t ih =>
  obtain⟨h1,h2⟩:=h;rw [ve,ve];by_cases e:p.1=k
  .have a:¬decide (p.1≠k)=true:=by simp [e]
   have b:¬decide (q.1≠k)=true:=by simp [h1.symm.trans e]
   rw [ay a,ay b];exact ih
  have e':¬q.1=k:=λz=>e (h1.trans z);have a:decide (p.1≠k)=true:=by simp [e]
  have b:decide (q.1≠k)=true:=by simp [e']
  rw [ax a,ax b];exact .cons ⟨h1,h2⟩ ih
def KV.keys {kvs:List (κ×V)}{vs:List (κ×Value)}(r:KV kvs vs):kvs.map (·.1)=vs.map (·.1):=by
 unfold KV at r
 induction r with
 | nil=>rfl
 | cons h t ih=>rw [cP,cP,ih,h.1]
theorem KV.length {kvs:List (κ×V)}{vs:List (κ×Value)}(r:KV kvs vs):kvs.length=vs.length:=aU r
end
def l8 {P:Program}{w:World}{k:aR}{u:Value}(r:RelV (kV k) u):(bA P w).is k u=true:=by
 cases k with
 | inl i=>obtain⟨t,e⟩:=(show ∃t,u=Value.int i t from r);subst e;exact ye P w i t
 | inr x=>obtain⟨t,e⟩:=(show ∃t,u=Value.str x t from r);subst e;exact yd P w x t
theorem uH {P:Program}{w:World}:∀{ks:List aR}{us:List Value},bf (ks.map kV) us->ItemsAre (bA P w) ks us
 | [],_,r=>by rw [mi] at r;cases r;exact .nil
 | k::ks,_,r=>by
  rw [cP] at r;cases r with
  | cons h t=>exact .cons (l8 h) (uH t)
abbrev KT (H:Hp):List (List aR×V)->List (List aR×Addr×Value)->Prop:=Paired λp q=>p.1=q.1/\H q.2.1=some (.tup (p.1.map kV))/\RelV p.2 q.2.2
def KT.val {H:Hp}{kvs:List (List aR×V)}{xs:List (List aR×Addr×Value)}(r:KT H kvs xs)(k:List aR):j4 (bw kvs k) ((atKey xs k).map (·.2)):=by
 induction r with
 | nil=>exact True.intro
 | @cons p q ps qs h t ih =>
  obtain⟨h1,_,h2⟩:=h;by_cases e:p.1=k
  .have e':q.1=k:=h1.symm.trans e;have b:atKey (q::qs) k=some q.2:=by simp [atKey,oQ,e']
   rw [fJ e,b];exact h2
  have e':¬q.1=k:=λz=>e (h1.trans z);have b:atKey (q::qs) k=atKey qs k:=by simp [atKey,oQ,e']
  rw [fK e,b];exact ih
def KT.Mi {H:Hp}{kvs:List (List aR×V)}{xs:List (List aR×Addr×Value)}(r:KT H kvs xs)(k:List aR){y:V}{u:Value}(ry:RelV y u) :
  KT H (kvs.map λkv=>if kv.1=k then (kv.1,y) else kv) (xs.map (putAt k u)):=by
 induction r with
 | nil=>exact .nil
 | @cons p q ps qs h t ih =>
  rw [cP,cP];refine .cons ?_ ih;obtain⟨h1,h2,h3⟩:=h;unfold putAt;by_cases e:p.1=k
  .rw [ax e,ax (h1.symm.trans e)];exact⟨h1,h2,ry⟩
  rw [ay e,ay (λz=>e (h1.trans z))];exact⟨h1,h2,h3⟩
def KT.put {H:Hp}{kvs:List (List aR×V)}{xs:List (List aR×Addr×Value)}(r:KT H kvs xs)(k:List aR){b:Addr}{y:V}{u:Value}(hb:H b=some (.tup (k.map kV)))(ry:RelV y u) :
  KT H (bU kvs k y) (storedH xs k b u):=by
 have e:(kvs.any λkv=>decide (kv.1=k))=(atKey xs k).isSome:=by
  rw [jt,(r.val k).jy,oX]
 unfold bU storedH;rw [e];by_cases q:(atKey xs k).isSome=true
 .rw [ax q,ax q];exact r.Mi k ry
 rw [ay q,ay q];exact h_ r ⟨rfl,hb,ry⟩
def KT.keeps {H H':Hp}{kvs:List (List aR×V)}{xs:List (List aR×Addr×Value)}(r:KT H kvs xs)(ht:∀b ys,H b=some (.tup ys)->H' b=some (.tup ys)):KT H' kvs xs :=
 Paired.fc r λ_ _ z=>⟨z.1,ht _ _ z.2.1,z.2.2⟩
section
variable {P:Program}{w:World}{H:Hp}{h:Heap}{a:Addr}
def KC {u:HO}(ok:me P w H h)(e:Rd H a u):cS P w H h a u:=e.ok ok
def ox {kvs:List (aR×V)}(ok:me P w H h)(e:Rd H a (.dK kvs)):kvs.length<=sizeLine/\(a == sysModules)=false/\∃vs,KV kvs vs/\h.DictOf (bA P w) a vs :=
 show cS P w H h a (.dK kvs) from KC ok e
def yu {kvs:List (aR×V)}(ok:me P w H h)(e:H a=some (.dK kvs)):kvs.length<=sizeLine/\(a == sysModules)=false/\∃vs,KV kvs vs/\h.DictOf (bA P w) a vs:=ox ok (.inl e)
def mJ {ks:List aR}(ok:me P w H h)(e:H a=some (.tup (ks.map kV))):(tupleKind (bA P w)).is h ks a:=by
 obtain⟨_,aT,r,o,h1,h2,n,h3⟩:=(show cS P w H h a (.tup (ks.map kV)) from ok a _ e);exact⟨o,aT.toArray,n,h1,h2,h3,by simpa using uH r⟩
def sV {kvs:List (List aR×V)}(ok:me P w H h)(e:Rd H a (.dT kvs)):kvs.length<=sizeLine/\(a == sysModules)=false /\
  ∃xs,KT H kvs xs/\h.DictOfH (tupleKind (bA P w)) a xs:=by
 obtain⟨z,y,xs,r,o,es,ep,h1,h2,h3,h4,h5⟩:=(show cS P w H h a (.dT kvs) from KC ok e);refine⟨z,y,xs,r,o,es,ep,h1,h2,h3,h4,λx hx=>?_,h5⟩;have all:∀{l:List (List aR×V)}{m:List (List aR×Addr×Value)},KT H l m->∀x∈m,(tupleKind (bA P w)).is h x.1 x.2.1:=by
  intro l m q
  induction q with
  | nil=>intro x hx;exact nomatch hx
  | @cons p q ps qs hq t ih =>
   intro x hx;rcases bX.mp hx with e | hx
   .subst e;exact mJ ok (by rw [<-hq.1];exact hq.2.1)
   exact ih x hx
 exact all r x hx
def Ry {kvs:List (List aR×V)}(ok:me P w H h)(e:H a=some (.dT kvs)):kvs.length<=sizeLine/\(a == sysModules)=false /\
  ∃xs,KT H kvs xs/\h.DictOfH (tupleKind (bA P w)) a xs:=sV ok (.inl e)
end
def cu (H:Hp)(a:Addr)(y:V)(r:Option V):Prop :=
 (∃kvs k,Rd H a (.dK kvs)/\y=kV k/\r=bw kvs k)\/∃kvs k b,Rd H a (.dT kvs)/\y=.ref b/\H b=some (.tup (k.map kV))/\r=bw kvs k
def pO (H:Hp)(a:Addr)(y v:V)(H':Hp):Prop :=
 (∃kvs k,H a=some (.dK kvs)/\y=kV k/\kvs.length < sizeLine/\H'=upd H a (.dK (bU kvs k v))) \/
 ∃kvs k b,H a=some (.dT kvs)/\y=.ref b/\H b=some (.tup (k.map kV))/\kvs.length < sizeLine/\H'=upd H a (.dT (bU kvs k v))
theorem cu.k {H:Hp}{a:Addr}{kvs:List (aR×V)}{k:aR}(e:H a=some (.dK kvs)):cu H a (kV k) (bw kvs k):=.inl ⟨kvs,k,.inl e,rfl,rfl⟩
def cu.t {H:Hp}{a b:Addr}{kvs:List (List aR×V)}{k:List aR}(e:H a=some (.dT kvs))(eb:H b=some (.tup (k.map kV))):cu H a (.ref b) (bw kvs k):=.inr ⟨kvs,k,b,.inl e,rfl,eb,rfl⟩
theorem pO.k {H:Hp}{a:Addr}{kvs:List (aR×V)}{k:aR}{v:V}(e:H a=some (.dK kvs))(hl:kvs.length < sizeLine):pO H a (kV k) v (upd H a (.dK (bU kvs k v))):=.inl ⟨kvs,k,e,rfl,hl,rfl⟩
def pO.t {H:Hp}{a b:Addr}{kvs:List (List aR×V)}{k:List aR}{v:V}(e:H a=some (.dT kvs))(eb:H b=some (.tup (k.map kV)))(hl:kvs.length < sizeLine) :
  pO H a (.ref b) v (upd H a (.dT (bU kvs k v))):=.inr ⟨kvs,k,b,e,rfl,eb,hl,rfl⟩
section
variable {X:Cx}{ah:List (Addr×Obj)}{σ:St}{H:Hp}{s:Shared}{a:Addr}{y v:V}{u r:Value}{o:Option V}{A:Around}{E:Value->Shared->Prop}
def Inv.big (I:Inv X ah σ H s):sysModules < s.heap.objs.size:=by
 have h:mainGlobals < s.heap.objs.size:=(I.mod.glob.keeps I.bk).lt;exact mj nofun h
def DI {Q:Value->Shared->Prop}(hu:A.units+1 < cLine)(I:Inv X ah σ H s)(g:cu H a y (some v))(ry:RelV y u)(h:∀w' s',Inv X ah σ H s'->RelV v w'->Q w' s') :
  wpAny (model X.prog X.w) A (getItem (.ref a) u) Q E s:=by
 rcases g with ⟨kvs,k,e,ey,l⟩ | ⟨kvs,k,b,e,ey,eb,l⟩
 .subst ey;obtain⟨z,hd,vs,rel,dd⟩:=ox I.cx e;obtain⟨w',hw,zW⟩:=j4.some_of (v:=v) (o:=valueAt vs k) (by rw [l];exact rel.val k);exact wpAny_getItem_of (l8 ry) dd.mapOf hw (h w' _ (I.tok _) zW)
 subst ey;cases (show u=Value.ref b from ry);obtain⟨z,hd,xs,rel,dd⟩:=sV I.cx e;obtain⟨w',hw,zW⟩:=j4.some_of (v:=v) (o:=(atKey xs k).map (·.2)) (by rw [l];exact rel.val k);obtain⟨p,hp,oF⟩:=cD.mp hw;refine wpAny_getItem_heap (oW hu) (mJ I.cx eb) dd hp ?_;rw [oF];exact h w' _ (I.tok _) zW
def Xh {Q:Value->Shared->Prop}(hu:A.units+1 < cLine)(I:Inv X ah σ H s)(g:cu H a y o)(ry:RelV y u)(h:∀s',Inv X ah σ H s'->Q (.bool o.isSome) s') :
  wpAny (model X.prog X.w) A (compareOp .In u (.ref a)) Q E s:=by
 rcases g with ⟨kvs,k,e,ey,l⟩ | ⟨kvs,k,b,e,ey,eb,l⟩
 .subst ey;obtain⟨z,hd,vs,rel,dd⟩:=ox I.cx e;refine wpAny_in_of (l8 ry) hd dd.mapOf ?_;rw [<-(rel.val k).jy,<-l];exact h _ (I.tok _)
 subst ey;cases (show u=Value.ref b from ry);obtain⟨z,hd,xs,rel,dd⟩:=sV I.cx e;refine wpAny_in_heap (oW hu) (mJ I.cx eb) hd dd ?_;have q:=(rel.val k).jy;rw [oX] at q;rw [<-q,<-l];exact h _ (I.tok _)
def J1 {Q:Value->Shared->Prop}(hu:A.units+1 < cLine)(I:Inv X ah σ H s)(g:cu H a y o)(ry:RelV y u)(h:∀s',Inv X ah σ H s'->Q (.bool (!o.isSome)) s') :
  wpAny (model X.prog X.w) A (compareOp .NotIn u (.ref a)) Q E s:=by
 rcases g with ⟨kvs,k,e,ey,l⟩ | ⟨kvs,k,b,e,ey,eb,l⟩
 .subst ey;obtain⟨z,hd,vs,rel,dd⟩:=ox I.cx e;refine wpAny_notIn_of (l8 ry) hd dd.mapOf ?_;rw [<-(rel.val k).jy,<-l];exact h _ (I.tok _)
 subst ey;cases (show u=Value.ref b from ry);obtain⟨z,hd,xs,rel,dd⟩:=sV I.cx e;refine wpAny_notIn_heap (oW hu) (mJ I.cx eb) hd dd ?_;have q:=(rel.val k).jy;rw [oX] at q;rw [<-q,<-l];exact h _ (I.tok _)
def qL {h':Heap}{t':Nat}{ob:HO}(I:Inv X ah σ H s)(mu:RS (H a))(hs:Heap.SameBut a s.heap h')(he:∃q,h'.get? a=some q)(new:cS X.prog X.w (upd H a ob) h' a ob) :
  Inv X ah σ (upd H a ob) { s with heap:=h',toks:=t' } :=
 I.write (x:=a) (e:=a) mu (.inl rfl) (λb q hb z=>(hs.2 b hb).trans z) he new
def sX {P:Program}{w:World}{H':Hp}{h':Heap}{kvs:List (aR×V)}{vs:List (aR×Value)}(z:kvs.length<=sizeLine)(hd:(a == sysModules)=false)(rel:KV kvs vs)(dd:h'.DictOf (bA P w) a vs) :
  cS P w H' h' a (.dK kvs):=⟨z,hd,vs,rel,dd⟩
def DG {H':Hp}{Q:Unit->Shared->Prop}(hu:A.units+1 < cLine)(I:Inv X ah σ H s)(g:pO H a y v H')(ry:RelV y u)(rv:RelV v r)(h:∀s',Inv X ah σ H' s'->Q () s') :
  wpAny (model X.prog X.w) A (setItem (.ref a) u r) Q E s:=by
 rcases g with ⟨kvs,k,e,ey,l,eH⟩ | ⟨kvs,k,b,e,ey,eb,l,eH⟩
 .subst ey eH;obtain⟨z,hd,vs,rel,dd⟩:=yu I.cx e;have hz:vs.length<=sizeLine:=by rw [<-rel.length];exact z
  have hl:(bU kvs k v).length<=sizeLine:=by have:=gh kvs k v;omega
  refine wpAny_setItem_pairs (hsz:=hz) (l8 ry) dd λh' Iz hs=>h _ ?_;have he:∃q,h'.get? a=some q:=let ⟨q,_,_,hq,_⟩:=Iz;⟨q,hq⟩;exact qL I (by rw [e];exact True.intro) hs he (sX hl hd (rel.put k rv) Iz)
 subst ey eH;cases (show u=Value.ref b from ry);obtain⟨z,hd,xs,rel,dd⟩:=Ry I.cx e;have hz:xs.length<=sizeLine:=by rw [<-aU rel];exact z
 have hl:(bU kvs k v).length<=sizeLine:=by have:=gh kvs k v;omega
 refine wpAny_setItem_heap (hsz:=hz) (oW hu) (mJ I.cx eb) dd λh' Iz hs=>h _ ?_;obtain⟨q,es,ep,hq,h2,h3,h4,_,h5⟩:=Iz;refine qL I (by rw [e];exact True.intro) hs ⟨q,hq⟩ ⟨hl,hd,_,(rel.put k eb rv).keeps λc ys ec=>?_,q,es,ep,hq,h2,h3,h4,h5⟩;rw [aj (P8 ec e (λz=>nomatch z))];exact ec
end
section
variable {X:Cx}{ah:List (Addr×Obj)}{σ:St}{H:Hp}{s:Shared}{a:Addr}{kvs:List (aR×V)}{k:aR}{u:Value}{A:Around}{E:Value->Shared->Prop}
def RB {Q:Value->Shared->Prop}(I:Inv X ah σ H s)(e:Rd H a (.dK kvs))(h:∀t s',Inv X ah σ H s'->Q (.int kvs.length t) s'):wpAny (model X.prog X.w) A (call (.builtin "len") [.ref a]) Q E s:=by
 obtain⟨z,hd,vs,rel,dd⟩:=ox I.cx e;refine call_len_dict hd dd (by rw [<-rel.length];rw [sizeLine_eq] at z;omega) ?_;rw [<-rel.length];exact h _ _ (I.tok _)
end
def RR (i:Expr):Prop:=∀ov iv,subscripted i false ov iv=operate [ov,iv] (getItem ov iv)
def Bd {prog:Program}{w:World}{A:Around}{E:Value->Shared->Prop}{s:Shared}{env:Env}{value slice:Expr}{pos:Pos}{T id:String}{Q:Value->Shared->Prop}
  (hl:typeLookup (.type T) "__getitem__"=pure (some (.builtin id)))(hs:RR slice)
  (h:wpAny (model prog w) A (eval value env) (λo s₁=>wpAny (model prog w) A (eval slice env) (λi s₂=>s₂.TypeIs o T/\wpAny (model prog w) A (getItem o i) Q E s₂) E s₁) E s) :
  wpAny (model prog w) A (eval (.Subscript value slice pos) env) Q E s:=by
 refine Subscript_ (dM h (λo s₁ h₁=>dM h₁ (λi s₂ h₂=>?_) λ_ _ x=>x) λ_ _ x=>x);obtain⟨hT,h₂⟩:=h₂;unfold subscriptTail;refine aE ?_;rw [getitemInPython_of_ne hT.not_modules];refine aE (wpAny_specialOf hT hl ?_);have fin:wpAny (model prog w) A (subscripted slice false o i) (λr s₃=>wpAny (model prog w) A (letTemporaryGo value o r >>= λ_=>pure r) Q E s₃) E s₂:=by
  rw [hs o i];exact wpAny_operating (dM h₂ (λr s₃ h₃=>aE (wpAny_letTemporaryGo (aP h₃))) λ_ _ x=>x)
 first
  | exact aP (aE fin)
  | exact aE (aP (aE fin))
  | exact aE fin
def yx {X:Cx}{ah:List (Addr×Obj)}{σ:St}{H:Hp}{s:Shared}{a:Addr}{y:V}{o:Option V}(I:Inv X ah σ H s)(g:cu H a y o):s.TypeIs (.ref a) "dict" := by
 rcases g with ⟨kvs,k,e,_,_⟩ | ⟨kvs,k,b,e,_,_,_⟩
 .obtain⟨_,_,vs,_,dd⟩:=ox I.cx e;exact dd.typeIs
 obtain⟨_,_,xs,_,dd⟩:=sV I.cx e;exact dd.typeIs
inductive XDp (x:V)(S:Addr->Hp->Prop)(R:Hp->Prop):Prop
|mk(a:Addr)(H4:Hp)(e:x=.ref a)(s:S a H4)(q:R H4)
inductive XDo (S:Option V->Prop)(R:Option V->Prop):Prop
|mk(o:Option V)(s:S o)(q:R o)
inductive XDg (x:V)(S:Addr->V->Prop)(R:V->Prop):Prop
|mk(a:Addr)(v:V)(e:x=.ref a)(s:S a v)(q:R v)
inductive XT (x:V)(S:Addr->Option V->Prop)(R:Option V->Prop):Prop
|mk(a:Addr)(o:Option V)(e:x=.ref a)(s:S a o)(q:R o)
def Ba (td ty:TE):TE:=λσ H Q=>td σ H λx H1=>ty σ H1 λy H2=>XDg x (λa v=>cu H2 a y (some v)) λv=>Q v H2
def Pn (ty td:TE):TE:=λσ H Q=>ty σ H λy H1=>td σ H1 λx H2=>XT x (λa o=>cu H2 a y o) λo=>Q (.bl o.isSome) H2
def A_ (ty td:TE):TE:=λσ H Q=>ty σ H λy H1=>td σ H1 λx H2=>XT x (λa o=>cu H2 a y o) λo=>Q (.bl (!o.isSome)) H2
def PB (td ty tv:TE):TS:=λD σ H=>tv σ H λv H1=>td σ H1 λx H2=>ty σ H2 λy H3=>XDp x (λa H4=>pO H3 a y v H4) λH4=>D.nx σ H4
section
variable {X:Cx}{o i e value:Expr}{pos pos' vJ:Pos}{td ty tv:TE}
def fu (hu:X.A.units+1 < cLine)(ho:PE X o td)(hi:PE X i ty)(hs:RR i):PE X (.Subscript o i pos) (Ba td ty):=by
 intro ah s σ H Q I h;refine Bd PySem.F.slot_dict_getitem.lookup hs (cR (ho ah s σ H _ I h) λu s1 bG=>?_);obtain⟨x,H1,I1,rx,q1⟩:=bG;refine cR (hi ah s1 σ H1 _ I1 q1) λiv s2 bG=>?_;obtain⟨y,H2,I2,ry,a,v,ex,g,q2⟩:=bG;subst ex;obtain rfl:u=Value.ref a:=rx;exact⟨yx I2 g,DI hu I2 g ry λw' s3 I3 zW=>⟨v,H2,I3,zW,q2⟩⟩
def jh (hu:X.A.units+1 < cLine)(hi:PE X i ty)(ho:PE X o td):PC X .In i o (Pn ty td):=by
 intro ah s σ H Q I h;refine cR (hi ah s σ H _ I h) λiv s1 bG=>?_;obtain⟨y,H1,I1,ry,q1⟩:=bG;refine cR (ho ah s1 σ H1 _ I1 q1) λu s2 bG=>?_;obtain⟨x,H2,I2,rx,a,ov,ex,g,q2⟩:=bG;subst ex;obtain rfl:u=Value.ref a:=rx;exact Xh hu I2 g ry λs3 I3=>⟨.bl ov.isSome,H2,I3,rfl,q2⟩
def eQ (hu:X.A.units+1 < cLine)(hi:PE X i ty)(ho:PE X o td):PC X .NotIn i o (A_ ty td):=by
 intro ah s σ H Q I h;refine cR (hi ah s σ H _ I h) λiv s1 bG=>?_;obtain⟨y,H1,I1,ry,q1⟩:=bG;refine cR (ho ah s1 σ H1 _ I1 q1) λu s2 bG=>?_;obtain⟨x,H2,I2,rx,a,ov,ex,g,q2⟩:=bG;subst ex;obtain rfl:u=Value.ref a:=rx;exact J1 hu I2 g ry λs3 I3=>⟨.bl (!ov.isSome),H2,I3,rfl,q2⟩
def iK (hu:X.A.units+1 < cLine)(ho:PE X o td)(hi:PE X i ty)(hv:PE X value tv)(hs:swapsWith value (some (.Subscript o i pos')) pos.line X.env=pure false) :
  PS X (.Assign [.Subscript o i pos'] value pos) (PB td ty tv):=by
 intro ah s σ H D I h;refine wpAny_Assign_Subscript (cR (hv ah s σ H _ I h) λr s1 bG=>?_) hs;obtain⟨v,H1,I1,rv,q1⟩:=bG;refine cR (ho ah s1 σ H1 _ I1 q1) λu s2 bG=>?_;obtain⟨x,H2,I2,rx,q2⟩:=bG;refine cR (hi ah s2 σ H2 _ I2 q2) λiv s3 bG=>?_;obtain⟨y,H3,I3,ry,a,H4,ex,g,q3⟩:=bG;subst ex;obtain rfl:u=Value.ref a:=rx;exact DG hu I3 g ry rv λs4 I4=>⟨σ,H4,I4,q3⟩
end
def yw {P:Program}{w:World}{H:Hp}(h:Heap)(hb:sysModules < h.objs.size):cS P w H (h.push { cls:=.type "dict",data:=.dict #[] }) h.objs.size (.dK []) :=
 ⟨dX _,kF.mpr (gC (cw hb)),[],.nil,Heap.DictOf.new h⟩
def EA:TE:=λ_ H Q=>∀p,H p=none->Q (.ref p) (upd H p (.dK []))
section
variable {X:Cx}{pos:Pos}
def g9:PE X (.Dict [] [] pos) EA:=λah s σ H Q I h =>
 wpAny_Dict_empty ⟨.ref s.heap.objs.size,_,I.laid (a:=s.heap.objs.size) (o:=.dK []) (t':=s.toks) (λ_ _ q=>cv _ q) (aF _) (yw s.heap I.big),rfl,h _ (I.cx.fresh (aF _))⟩
end
def zz:List (TE×TE)->St->Hp->(List (V×V)->Hp->Prop)->Prop
 | [],_,H,Q=>Q [] H
 | (tk,tv)::r,σ,H,Q=>tk σ H λx H1=>tv σ H1 λy H2=>zz r σ H2 λps H3=>Q ((x,y)::ps) H3
abbrev VV:List (V×V)->List (Value×Value)->Prop:=Paired λp q=>RelV p.1 q.1/\RelV p.2 q.2
def Tw (X:Cx)(pos:Pos)(keys:List (Option Expr))(values:List Expr)(IS:List (TE×TE)):Prop :=
 ∀(ah:List (Addr×Obj))(s:Shared)(σ:St)(H:Hp)(Q:List (V×V)->Hp->Prop),Inv X ah σ H s->zz IS σ H Q ->
  wpAny (model X.prog X.w) X.A (evalPairs (pairTrees keys values X.env pos)) (λvs s'=>∃ps H',Inv X ah σ H' s'/\VV ps vs/\Q ps H') X.xe s
def Jj {X:Cx}{pos:Pos}:Tw X pos [] [] []:=λah s σ H Q I h=>pairTrees_nil_walk ⟨[],H,I,.nil,h⟩
def Fp {X:Cx}{pos:Pos}{k v:Expr}{ks:List (Option Expr)}{vs:List Expr}{tk tv:TE}{IS:List (TE×TE)}(hk:PE X k tk)(hv:PE X v tv)(hr:Tw X pos ks vs IS) :
  Tw X pos (some k::ks) (v::vs) ((tk,tv)::IS):=λah s σ H Q I h =>
 pairTrees_cons_walk (cR (hk ah s σ H _ I h) λu s1 ⟨x,H1,I1,rx,q1⟩=>cR (hv ah s1 σ H1 _ I1 q1) λw2 s2 ⟨y,H2,I2,ry,q2⟩ =>
  cR (hr ah s2 σ H2 _ I2 q2) λws s3 ⟨ps,H3,I3,rel,q3⟩=>⟨(x,y)::ps,H3,I3,.cons ⟨rx,ry⟩ rel,q3⟩)
def mE (kvs more:List (aR×V)):List (aR×V):=more.foldl (λbW kv=>bU bW kv.1 kv.2) kvs
def KV.merge:∀{more:List (aR×V)}{rs:List (aR×Value)}{kvs:List (aR×V)}{vs:List (aR×Value)},KV more rs->KV kvs vs->KV (mE kvs more) (merged vs rs):=by
 intro more rs kvs vs r;unfold KV at r
 induction r generalizing kvs vs with
 | nil=>intro q;exact q
 | @cons p q ps qs h t ih =>
  intro r0;have e:KV (bU kvs p.1 p.2) (stored vs q.1 q.2):=by
   have:=r0.put p.1 h.2;rw [<-h.1];exact this
  exact ih e
theorem l7:∀(more kvs:List (aR×V)),(mE kvs more).length<=kvs.length+more.length
 | [],kvs=>by show kvs.length<=kvs.length+0;omega
 | p::r,kvs=>by
  have h1:=l7 r (bU kvs p.1 p.2);have h2:=gh kvs p.1 p.2;show (mE (bU kvs p.1 p.2) r).length<=_;rw [dZ];omega
theorem tF {P:Program}{w:World}:∀{kvs:List (aR×V)}{ws:List (Value×Value)},VV (kvs.map λkv=>(kV kv.1,kv.2)) ws->∃rs,Carries (bA P w) ws rs/\KV kvs rs
 | [],_,r=>by rw [mi] at r;cases r;exact⟨[],True.intro,.nil⟩
 | p::kvs,_,r=>by
  rw [cP] at r;cases r with
  | @cons a b as bs h t =>
   obtain⟨rs,c,q⟩:=tF (P:=P) (w:=w) t;obtain⟨b1,b2⟩:=b;exact⟨(p.1,b2)::rs,⟨l8 h.1,rfl,c⟩,.cons ⟨rfl,h.2⟩ q⟩
def Pk (IS:List (TE×TE)):TE:=λσ H Q=>∀p,H p=none->zz IS σ (upd H p (.dK [])) λps H2=>H2 p=some (.dK [])/\∃kvs:List (aR×V),ps=kvs.map (λkv=>(kV kv.1,kv.2))/\kvs.length<=15/\Q (.ref p) (upd H2 p (.dK (mE [] kvs)))
def Jp {X:Cx}{pos:Pos}{keys:List (Option Expr)}{values:List Expr}{IS:List (TE×TE)}(h:Tw X pos keys values IS)(qr:keys.all (·.isSome)=true)(hl:keys.length=values.length)(h0:keys≠[])
  (WA:keys.length<=15):PE X (.Dict keys values pos) (Pk IS):=by
 intro ah s σ H Q I q;have hn:=I.cx.fresh (aF s.heap.objs.size);have I1:=I.laid (a:=s.heap.objs.size) (o:=.dK []) (h':=s.heap.push { cls:=.type "dict",data:=.dict #[] }) (t':=s.toks) (λ_ _ q=>cv _ q) (aF _) (yw s.heap I.big);refine wpAny_Dict_walk (knd:=bA X.prog X.w) qr hl h0 WA (cR (h ah _ σ _ _ I1 (q _ hn)) λws s2 bG=>?_);obtain⟨ps,H2,I2,rel,e,kvs,ep,lk,q2⟩:=bG;subst ep;obtain⟨rs,c,rk⟩:=tF (P:=X.prog) (w:=X.w) rel;obtain⟨z,hd,vs0,r0,dd⟩:=yu I2.cx e;cases r0;refine⟨rs,c,dd,λh' Iz hs=>⟨.ref s.heap.objs.size,_,?_,rfl,q2⟩⟩;have hz:(mE [] kvs).length<=sizeLine:=by
  have h1:=l7 kvs [];rw [jq] at h1;rw [sizeLine_eq];omega
 have he:∃q,h'.get? s.heap.objs.size=some q:=let ⟨q,_,_,hq,_⟩:=Iz;⟨q,hq⟩;exact qL I2 (by rw [e];exact True.intro) hs he (sX hz hd (rk.merge .nil) Iz)
structure M1 (X:Cx)(o:Expr)(m:Str)(apos:Pos)(e:Expr)(hX:Pos):Prop where
 base:attributeBase o m X.env (eval o X.env)=eval o X.env
 xl:((backTo hX (starEach [e] X.env)).all (λx=>!x.1) && (backToKw hX (keywordEach [] X.env)).all (λx=>x.1.isSome)
  && decide (([e]:List Expr).length+([]:List Keyword).length+(if ([]:List Keyword).isEmpty then 0 else 1) < 30))=true
 line:(apos.endLine == hX.line)=true
 trees:backTo hX (starEach [e] X.env)=[(false,eval e X.env)]
structure M2 (X:Cx)(o:Expr)(m:Str)(apos:Pos)(e f:Expr)(hX:Pos):Prop where
 base:attributeBase o m X.env (eval o X.env)=eval o X.env
 xl:((backTo hX (starEach [e,f] X.env)).all (λx=>!x.1) && (backToKw hX (keywordEach [] X.env)).all (λx=>x.1.isSome)
  && decide (([e,f]:List Expr).length+([]:List Keyword).length+(if ([]:List Keyword).isEmpty then 0 else 1) < 30))=true
 line:(apos.endLine == hX.line)=true
 trees:backTo hX (starEach [e,f] X.env)=[(false,eval e X.env),(false,eval f X.env)]
def Tx (H:Hp)(a:Addr):Prop:=(∃kvs,Rd H a (.dK kvs))\/∃kvs,Rd H a (.dT kvs)
def Av {X:Cx}{ah:List (Addr×Obj)}{σ:St}{H:Hp}{s:Shared}{a:Addr}(I:Inv X ah σ H s)(d:Tx H a) :
  s.TypeIs (.ref a) "dict" /\ (∀b,Value.ref a=.ref b->∃ob,s.heap.get? b=some ob/\ob.dict=none)/\(a == sysModules)=false:=by
 rcases d with ⟨kvs,e⟩ | ⟨kvs,e⟩
 .obtain⟨_,hd,vs,_,dd⟩:=ox I.cx e;refine⟨dd.typeIs,λb q=>?_,hd⟩;cases q;obtain⟨ob,_,_,h1,h2,_⟩:=dd;exact⟨ob,h1,h2.2.1⟩
 obtain⟨_,hd,xs,_,dd⟩:=sV I.cx e;refine⟨dd.typeIs,λb q=>?_,hd⟩;cases q;obtain⟨ob,_,_,h1,h2,_⟩:=dd;exact⟨ob,h1,h2.2.1⟩
section
variable {X:Cx}{ah:List (Addr×Obj)}{σ:St}{H:Hp}{s:Shared}{a:Addr}{y d:V}{u r:Value}{o:Option V}{A:Around}{E:Value->Shared->Prop}
def NR {Q:Value->Shared->Prop}(hu:A.units+1 < cLine)(I:Inv X ah σ H s)(g:cu H a y o)(ry:RelV y u)(rd:RelV d r)(h:∀w' s',Inv X ah σ H s'->RelV (o.getD d) w'->Q w' s') :
  wpAny (model X.prog X.w) A (call (.builtin "dict.get") [.ref a,u,r]) Q E s:=by
 rcases g with ⟨kvs,k,e,ey,l⟩ | ⟨kvs,k,b,e,ey,eb,l⟩
 .subst ey;obtain⟨z,hd,vs,rel,dd⟩:=ox I.cx e;refine call_meetsIn PySem.F.slot_dict_get dd.typeIs PySem.F.entry_dict_get (PySem.F.args_dict_get_3 _ _ _) (meets_dict_get_default (bA X.prog X.w) a (l8 ry) hd r) ⟨_,dd.mapOf,h _ _ (I.tok _) ?_⟩;rw [l];exact(rel.val k).getD rd
 subst ey;cases (show u=Value.ref b from ry);obtain⟨z,hd,xs,rel,dd⟩:=sV I.cx e;refine call_meetsIn PySem.F.slot_dict_get dd.typeIs PySem.F.entry_dict_get (PySem.F.args_dict_get_3 _ _ _) (meetsH_dict_get_default (tupleKind (bA X.prog X.w)) a b hd r) ⟨oW hu,k,xs,mJ I.cx eb,dd,h _ _ (I.tok _) ?_⟩;rw [l];exact(rel.val k).getD rd
end
def EB (td ty tx:TE):TE:=λσ H Q=>td σ H λx H1=>Tt x (Tx H1) λa=>ty σ H1 λy H2=>tx σ H2 λz H3=>XDo (cu H3 a y) λo=>Q (o.getD z) H3
section
variable {X:Cx}{o e f:Expr}{apos hX:Pos}{td ty tx:TE}
def xT (hu:X.A.units+1 < cLine)(ho:PE X o td)(he:PE X e ty)(hf:PE X f tx)(m:M2 X o "get" apos e f hX):PE X (.Call (.Attribute o "get" apos) [e,f] [] hX) (EB td ty tx):=by
 intro ah s σ H Q I h;refine wpAny_Call_method m.base m.xl m.line zp PySem.F.slot_dict_get PySem.F.type_dict_get (cR (ho ah s σ H _ I h) λu s1 bG=>?_);obtain⟨x,H1,I1,rx,a,ex,d,q1⟩:=bG;subst ex;obtain rfl:u=Value.ref a:=rx;obtain⟨t1,t2,_⟩:=Av I1 d;refine⟨t1,t2,?_⟩;rw [m.trees];refine rA rfl (vm (oV (cR (he ah s1 σ H1 _ I1 q1) λiv s2 ⟨y,H2,I2,ry,q2⟩ =>
  oV (cR (hf ah s2 σ H2 _ I2 q2) λfv s3 ⟨z,H3,I3,rz,ov,g,q3⟩=>Calls.spliced_nil ?_))))
 exact NR hu I3 g ry rz λw' s4 I4 zW=>⟨_,H3,I4,zW,q3⟩
end
section
variable {X:Cx}{ah:List (Addr×Obj)}{σ:St}{H:Hp}{s:Shared}{a:Addr}{kvs:List (aR×V)}{A:Around}{E:Value->Shared->Prop}
end
section
variable {X:Cx}{ah:List (Addr×Obj)}{σ:St}{H:Hp}{s:Shared}{a:Addr}{y:V}{u:Value}{A:Around}{E:Value->Shared->Prop}
end
end L2
set_option maxHeartbeats 4000000
namespace L2
open PySem
def wA:typeLookup (.type "list") "keys"=pure none:=by rw [typeLookup_type,builtinLookup_eq_fast];kernel_rfl
def wB:typeLookup (.type "list") "__getattr__"=pure none:=by rw [typeLookup_type,builtinLookup_eq_fast];kernel_rfl
section
variable {prog:Program}{w:World}{A:Around}{E:Value->Shared->Prop}{h:Heap}{g:Array GenState}{d:Drawn}{t:Nat}{os:OsState}{a:Addr}{o:Obj}
def EH:isSubtype (.type "AttributeError") (.type "AttributeError")=pure true:=by rw [isSubtype_type];kernel_rfl
def Mq {m:Str}{tk:Tok}:ownMembersOf (.type "AttributeError") [.str m tk]=#[unsetMember,unsetMember]:=by kernel_rfl
def G7 {m:Str}{tk:Tok}:firstArgMember (.type "AttributeError") [.str m tk]=pure .none:=by kernel_rfl
def zX {α:Type}{self:Value}{name msg:Str}{Q:α->Shared->Prop}(hm:msg.length<=sizeLine)(hh:A.handled=none)
  (hq:∀h' t' e oe,(∀b o,h.get? b=some o->h'.get? b=some o)->h'.get? e=some oe->oe.cls=.type "AttributeError" -> E (.ref e) ⟨h',g,d,t',os⟩) :
  wpAny (model prog w) A (raiseAttrError self name msg) Q E ⟨h,g,d,t,os⟩:=by
 have f1:=EH;unfold raiseAttrError newExc;refine aE (wpAny_mkStr ?_ hm);have fe:=G7 (m:=msg) (tk:=t);rw [Mq]
 repeat (any_goals (first | assumption | wp_step))
 unfold raiseNew;refine aE (wpAny_handled ?_);rw [hh];refine aE (aP ?_);refine wpAny_throw ?_;refine hq _ _ _ _ (λb o q=>?_) (Heap.get?_update_self _ (d0 _ rfl) rfl) rfl;have lt:=bO q;rw [Heap.get?_update_other _ _ (by rw [oK];exact lV (vk lt))];exact cv _ (cv _ q)
def As {tk:Tok}{aT:Array Value}{n:Nat}{Q:Fin->Shared->Prop}(hx:h.get? a=some { cls:=.type "list",data:=.seq aT n })(hh:A.handled=none)
  (hq:∀h' t' e oe,(∀b o,h.get? b=some o->h'.get? b=some o)->h'.get? e=some oe->oe.cls=.type "AttributeError" -> E (.ref e) ⟨h',g,d,t',os⟩) :
  wpAny (model prog w) A (Builtin.«object.__getattribute__» ⟨[.ref a,.str "keys" tk],[]⟩) Q E ⟨h,g,d,t,os⟩:=by
 have hT:(⟨h,g,d,t,os⟩:Shared).TypeIs (.ref a) "list" := ⟨_,hx,rfl⟩;have f4:=wA
 repeat (any_goals (first | assumption | wp_step))
 exact zX nofun hh hq
def pz {aT:Array Value}{n:Nat}{Q:Option Value->Shared->Prop}(hx:h.get? a=some { cls:=.type "list",data:=.seq aT n })(hh:A.handled=none)
  (hq:∀h' t',(∀b o,h.get? b=some o->h'.get? b=some o)->Q none ⟨h',g,d,t',os⟩):wpAny (model prog w) A (getAttr? (.ref a) "keys") Q E ⟨h,g,d,t,os⟩:=by
 have hT:∀t',(⟨h,g,d,t',os⟩:Shared).TypeIs (.ref a) "list" := λt'=>⟨_,hx,rfl⟩;have f1:=EH;have f2:=vE.lookup;have f3:=vE.bind (.ref a);have f4:=wB;unfold getAttr? getAttrBy? getAttrBy;refine aE (wpAny_mkText (aE (wpAny_attempt (jN (aE (lU (hT _) ?_))))));rw [f2];refine aE (aP ?_);show wpAny _ _ (getAttrByItsOwn _ _ _ _ _ _) _ _ _;unfold getAttrByItsOwn;refine aE (aP (a:=none) (aE (wpAny_attempt (jN ?_))));show wpAny _ _ (boundAndCalled _ _ _) _ _ _;unfold boundAndCalled;rw [f3];refine aE (aP (wpAny_call (codeAny_call_builtin vE.plain F.entry_list_ga (vE.check _ _ _ _ _ _ _ _ (hT _) (F.args_list_getattribute_2 _ _) (As hx hh λh' t' e oe k ee ec=>?_)))));have te:(⟨h',g,d,t',os⟩:Shared).TypeIs (.ref e) "AttributeError" := ⟨oe,ee,ec⟩;show wpAny _ _ (getattributeRaised _ _ _ _ _ _ _) _ _ _;unfold getattributeRaised;refine aE (wpAny_isInstance te f1 ?_);rw [ax rfl];show wpAny _ _ (typeLookup _ _ >>= _) _ _ _;rw [f4];refine aE (aP ?_);show wpAny _ _ (throw _) _ _ _;refine wpAny_throw ?_;refine aE (wpAny_isInstance te f1 ?_);rw [ax rfl];exact aP (hq h' t' k)
end
def gu:plainId "dict.update.loop"=true:=by decide +kernel
def lI:entryFor table "dict.update.loop"=some Builtin.«dict.update.loop»:=entryFor_of_tree (nofun)
section
variable {prog:Program}{w:World}{K:Type} [DecidableEq K] {knd:KeyKind prog w K}{A:Around}{E:Value->Shared->Prop}
def mP (knd:KeyKind prog w K)(h:Heap)(u:Value)(kv:K×Value):Prop :=
 ∃t key n o,u=.ref t/\knd.is kv.1 key=true/\h.get? t=some o/\o.cls=.type "tuple" /\ o.data=.seq #[key,kv.2] n
def mP.keep {h h':Heap}{u:Value}{kv:K×Value}(p:mP knd h u kv)(k:∀b o,o.cls=.type "tuple" -> h.get? b=some o->h'.get? b=some o):mP knd h' u kv :=
 let ⟨t,key,n,o,a,b,c,d,e⟩:=p;⟨t,key,n,o,a,b,k t o d c,d,e⟩
def Hj {R:Result->Shared->Prop}{d it l:Addr}{items:Array Value}(hh:A.handled=none):∀(more:List (K×Value)) (i:Nat)(s:Shared)(kvs:List (K×Value)) (j:Int)(tk:Tok),items.size=i+more.length ->
  s.heap.DictOf knd d kvs->s.heap.IsListIter it l i->s.heap.IsList l items->(∀m kv,more[m]?=some kv->∃u,items[i+m]?=some u/\mP knd s.heap u kv)->kvs.length+more.length<=sizeLine ->
  (∀h' t',h'.DictOf knd d (more.foldl (λa p=>stored a p.1 p.2) kvs)->(∀b o,b≠d->b≠it->s.heap.get? b=some o->h'.get? b=some o)->R (.ok (.ret .none)) { s with heap:=h',toks:=t' }) ->
  codeAny (model prog w) A (.builtin "dict.update.loop" ⟨[.ref d,.ref it,.int j tk,.none],[]⟩) R s:=by
 intro more
 induction more with
 | nil =>
  intro i s kvs j tk hi hd hit hl hp hz hR;refine qV lI ?_;rw [rj gu _];unfold Builtin.«dict.update.loop»;have hs:items[i]?=none:=Array.getElem?_eq_none (by rw [hi];exact aF _);refine aE (vx hh hit hl hs λh1 eb=>?_);have nd:d≠it:=λz=>by
   obtain⟨o,_,_,q,_,c,_⟩:=hd;obtain⟨o',q',_,c'⟩:=hit;rw [z,q'] at q;cases q;rw [c'] at c;cases c
  show wpAny _ _ (Builtin.Dict.addKeywords d [] >>= _) _ _ _;exact aE (aP (aP (hR h1 s.toks (hd.extBut eb nd) λb o n1 n2 q=>eb b o n2 q)))
 | cons kv more ih =>
  intro i s kvs j tk hi hd hit hl hp hz hR;refine qV lI ?_;rw [rj gu _];unfold Builtin.«dict.update.loop»;obtain⟨u,hu,t,key,n,o,rfl,hk,ho,hc,BU⟩:=hp 0 kv rfl;refine aE (wpAny_pyNext_list_item hit hl hu λh1 Vu sb=>?_);have nd:d≠it:=λz=>by
   obtain⟨o,_,_,q,_,c,_⟩:=hd;obtain⟨o',q',_,c'⟩:=hit;rw [z,q'] at q;cases q;rw [c'] at c;cases c
  have n2:∀b o,(o.cls=.type "tuple" \/ o.cls=.type "list")->s.heap.get? b=some o->b≠d/\b≠it:=by
   intro b o c q;constructor
   .intro z;obtain⟨o',q',c'⟩:=hd.typeIs;rw [z,q'] at q;cases q;rw [c'] at c;rcases c with c | c <;> exact absurd c nofun
   intro z;obtain⟨o',q',c',_⟩:=hit;rw [z,q'] at q;cases q;rw [c'] at c;rcases c with c | c <;> exact absurd c nofun
  have nt:∀b o,o.cls=.type "tuple" -> s.heap.get? b=some o->b≠d/\b≠it:=λb o c q=>n2 b o (.inl c) q;have nl:l≠d/\l≠it:=by
   obtain⟨o,q,c,_⟩:=hl;exact n2 l o (.inr c) q
  have QQ:h1.get? t=some o:=(sb.2 t (nt t o hc ho).2).trans ho;have wL:h1.DictOf knd d kvs:=hd.sameBut sb nd;refine aE (jN (aE (wpAny_tryCatch ?_)));unfold Builtin.Dict.pairItems;refine aE (lU (T := "tuple") ⟨o,QQ,hc⟩ ?_);rw [ax nofun];refine aE (qS QQ BU (aP ?_));show wpAny _ _ (holding [key,kv.2] (dictSet d key kv.2)) _ _ _;rw [dZ] at hz hi;refine jN (wpAny_dictSet_pairs (s:={ s with heap:=h1 }) hk wL (λh2 hd2 Pz=>?_) ∅);have kk:∀b o,b≠d->b≠it->s.heap.get? b=some o->h2.get? b=some o:=λb o n1 n2 q=>(Pz.2 b n1).trans ((sb.2 b n2).trans q);have ln:(stored kvs kv.1 kv.2).length<=kvs.length+1:=by
   unfold stored
   split
   .simp
   simp
  refine aP ⟨oI gu _,ih (i+1) _ _ _ _ ∅ hd2 (Vu.at λo q=>(Pz.2 it (gC nd)).trans q) (hl.at λo q=>kk l o nl.1 nl.2 q) (λm Vn e=>?_) ∅ λh3 t3 jj k3=>?_⟩
  .obtain⟨u',e1,e2⟩:=hp (m+1) Vn e;exact⟨u',by rw [<-e1];congr 1;omega,e2.keep λb o c q=>kk b o (nt b o c q).1 (nt b o c q).2 q⟩
  exact hR h3 t3 jj λb o n1 n2 q=>k3 b o n1 n2 (kk b o n1 n2 q)
def zB:(Value.type "list" != Value.type "dict")=true:=by decide
def tG {s:Shared}{l:Addr}{items:Array Value}{n:Nat}{more:List (K×Value)}{Q:Value->Shared->Prop}(knd:KeyKind prog w K)(hh:A.handled=none)(hx:s.heap.get? l=some { cls:=.type "list",data:=.seq items n })
  (hi:items.size=more.length)(hp:∀(m:Nat) kv,more[m]?=some kv->∃u,items[m]?=some u/\mP knd s.heap u kv)(hz:more.length<=sizeLine)
  (h:∀h' t',h'.DictOf knd s.heap.objs.size (more.foldl (λa p=>stored a p.1 p.2) [])->(∀b o,s.heap.get? b=some o->h'.get? b=some o)->Q (.ref s.heap.objs.size) { s with heap:=h',toks:=t' }) :
  wpAny (model prog w) A (call (.type "dict") [.ref l]) Q E s:=by
 refine callType_codes (Q₁:=λobj s₁=>obj=.ref s.heap.objs.size/\s₁={ s with heap:=s.heap.push { cls:=.type "dict",data:=.dict #[] } }) F.kt_called_dict (F.kt_typeCall_dict_1 _) F.entry_dict_init (kt_code_dict_new _ ⟨rfl,rfl⟩) ?_;rintro obj s₁ ⟨rfl,rfl⟩;have Aj:(s.heap.push { cls:=.type "dict",data:=.dict #[] }).DictOf knd s.heap.objs.size []:=Heap.DictOf.new s.heap;have l0:=cv { cls:=.type "dict",data:=.dict #[] } hx;refine⟨Aj.typeIs,F.args_dict_init_2 _ _,?_⟩;unfold Builtin.«dict.__init__» Builtin.Dict.selfAndRest;refine aE (aE (wpAny_notOrdered_dict Aj.typeIs (aP ?_)));show wpAny _ _ (Builtin.Dict.updateFrom "dict.__init__" s.heap.objs.size (.ref l) [] .none) _ _ _;unfold Builtin.Dict.updateFrom;refine aE (lU (T := "list") ⟨_,l0,rfl⟩ ?_);rw [ax zB];refine aE (pz l0 hh λh1 t1 k1=>?_);refine aE (wpAny_rule ?_);have l1:=k1 _ _ l0;refine aE (oR ⟨_,l1,rfl,_,rfl⟩ ?_);have k2:∀b o,s.heap.get? b=some o->(h1.push { cls:=.type "list_iterator",data:=.fields #[.ref l,.int 0 0] }).get? b=some o:=λb o q=>cv _ (k1 _ _ (cv _ q));refine aP ⟨oI gu _,Hj (knd:=knd) (A:=A.in1) (l:=l) (items:=items) (show A.in1.handled=none from hh) more 0 _ [] _ _ (by rw [hi,oJ]) ?_ ⟨_,d0 _ rfl,rfl,rfl⟩ ⟨_,k2 _ _ hx,rfl,n,rfl⟩ (λm kv e=>?_) (by simpa using hz) λh' t' hd k3=>?_⟩
 .obtain⟨o,es,ep,q,r⟩:=Aj;exact⟨o,es,ep,cv _ (k1 _ _ q),r⟩
 .obtain⟨u,e1,e2⟩:=hp m kv e;exact⟨u,by rw [oJ];exact e1,e2.keep λb o _ q=>k2 b o q⟩
 refine⟨rfl,h h' t' hd λb o q=>k3 b o (cw (bO q)) ?_ (k2 b o q)⟩;have:=bO (k1 _ _ (cv { cls:=.type "dict",data:=.dict #[] } q));exact cw this
end
open PySem PySem.Spec PyProof.Rows
def DZ (X:Cx)(ifs:List Expr)(t:TT):Prop :=
 ∀(ah:List (Addr×Obj))(s:Shared)(σ:St)(H:Hp)(Q:Bool->Hp->Prop),Inv X ah σ H s->t σ H Q ->
  wpAny (model X.prog X.w) X.A (forIn ifs true λc r=>if r=true then do let ok <-isTrue c X.env (eval c X.env);pure (ForInStep.yield ok) else pure (ForInStep.yield r)) (TP X ah σ Q) X.xe s
def iw:TT:=λ_ H Q=>Q true H
def b9 {X:Cx}:DZ X [] iw:=λ_ _ _ H _ I h=>wpAny_tests_nil ⟨H,I,h⟩
def iq {X:Cx}{c:Expr}{t:TT}(h:PT X c t):DZ X [c] t:=λah s σ H Q I hw=>wpAny_tests_one (h ah s σ H Q I hw)
def qe {prog:Program}{w:World}{A:Around}{R:Result->Shared->Prop}{s:Shared}{elt target iter:Expr}{ifs:List Expr}{scope:Scope}{pos:Pos}{it bW:Value}{env:Env}(I:Nat->Shared->Prop)
  (turn:∀n s,I n s->wpAny (model prog w) A (pyNext it) (λr s₁=>match r with
   | none=>R (.ok .next) s₁
   | some v=>wpAny (model prog w) A (letOwnedTupleGo target it v) (λ_ s₁=>wpAny (model prog w) A (assign target env v) (λ_ s₂ =>
     wpAny (model prog w) A (forIn ifs true λc r=>if r=true then do let ok <-isTrue c env (eval c env);pure (ForInStep.yield ok) else pure (ForInStep.yield r)) (λok s₃ =>
      if ok=true then wpAny (model prog w) A (eval elt env) (λx s₄ =>
       wpAny (model prog w) A (call (.builtin "list.append") [bW,x]) (λ_ s₅=>∃m,m < n/\I m s₅) (λ_ _=>False) s₄) (λ_ _=>False) s₃
      else ∃m,m < n/\I m s₃) (λ_ _=>False) s₂) (λ_ _=>False) s₁) (λ_ _=>False) s₁) (λ_ _=>False) s)
  (n:Nat)(h:I n s) :
  codeAny (model prog w) A (.compLoop (.ListComp elt [⟨target,iter,ifs,0⟩] scope pos) 0 it bW env) R s:=by
 refine codeAny_loop rfl I (λn s hI=>?_) n h;show wpAny _ A ((compTurn (.ListComp elt [⟨target,iter,ifs,0⟩] scope pos) 0 it bW env).onRaise (λx=>do noteFrame x env;theTreesLotGoes x)) _ _ s;refine wpAny_noted ?_;rw [compTurn_list];refine aE (wpAny_standAt (aE (dM (turn n s hI) (λr s₁ h₁=>?_) λ_ _ h'=>h'.elim)));cases r with
 | none=>exact aP h₁
 | some v =>
  refine aE (dM h₁ (λ_ s₂ h₂=>?_) λ_ _ h'=>h'.elim);refine aE (dM h₂ (λ_ s₂ h₂=>aE (dM h₂ (λok s₃ h₃=>?_) λ_ _ h'=>h'.elim)) λ_ _ h'=>h'.elim);cases ok with
  | false=>exact aP ⟨rfl,h₃⟩
  | true =>
   exact aE (aE (dM h₃ (λx s₄ h₄=>aE (dM h₄ (λ_ s₅ h₅=>aP (aP ⟨rfl,h₅⟩)) λ_ _ h'=>h'.elim)) λ_ _ h'=>h'.elim))
inductive yR (K:ba)(H:Hp):V->String->Prop where
 | bl (x:Bool):yR K H (.bl x) "bool"
 | int (i:Int):yR K H (.int i) "int"
 | str (x:Str):yR K H (.str x) "str"
 | tup {a:Addr}{xs:List V}(e:aS K H a xs):yR K H (.ref a) "tuple"
inductive XIs (K:ba)(H:Hp)(xs:List V)(R:Bool->Prop):Prop
|mk(x:V)(T n:String)(b:Bool)(e:xs=[x,.ty n])(c:yR K H x T)(k:PySem.W.kitOne K (.type T) (.type n)=some b)(q:R b)
def dq {X:Cx}:iD X (.builtin "isinstance") (λxs H Q=>XIs X.K H xs λb=>Q (.bl b) H):=by
 intro ah s σ H xs us Q I r h;obtain⟨x,T,n,b,rfl,ty,e,q⟩:=h;obtain⟨u,w',rfl,rx,rn⟩:=vals2 r;cases (show w'=Value.type n from rn);have fin:∀tk,EP X ah σ Q (.bool b) { s with toks:=tk }:=λtk=>⟨.bl b,H,I.tok _,rfl,q⟩;cases ty with
 | bl y=>cases (show u=Value.bool y from rx);exact PySem.W.kia_one PySem.W.kitx_bool I.wG True.intro e (λz=>nomatch z) fin
 | int i=>obtain⟨t,z⟩:=(show ∃t,u=Value.int i t from rx);cases z;exact PySem.W.kia_one PySem.W.kitx_int I.wG True.intro e (λz=>nomatch z) fin
 | str y=>obtain⟨t,z⟩:=(show ∃t,u=Value.str y t from rx);cases z;exact PySem.W.kia_one PySem.W.kitx_str I.wG True.intro e (λz=>nomatch z) fin
 | @tup a ys hq =>
  cases (show u=Value.ref a from rx);obtain⟨aT,_,⟨o,h1,h2,_⟩,_⟩:=I.tuple hq;exact PySem.W.kia_one PySem.W.kitx_tuple I.wG ⟨o,h1,h2⟩ e (λz=>nomatch z) fin
def CD {X:Cx}{a:Expr}{ta:TE}(K:ba)(ha:PE X a ta)(he:∀whole,isTrue a X.env whole=(do let v <-whole;standAt a.pos;holding [v] (truthy v)))(hK:X.K=K:=by rfl) :
  PT X a (λσ H Q=>ta σ H λx H'=>∃k,HM K x H' k/\Q k H'):=by
 subst hK;exact iW ha he
def CI {X:Cx}(hu:X.A.units < cLine):jH X (compareOp .Eq) (λx y H Q=>∃a b xs,x=.ref a/\y=.ref b/\aH X.K H a xs/\aH X.K H b []/\Q (.bl (xs.isEmpty)) H):=by
 intro ah s σ H x y v u Q I rx ry h;obtain⟨a,b,xs,rfl,rfl,ha,hb,q⟩:=h;cases rx;cases ry;obtain⟨aT,r,pl,hz⟩:=I.list ha;obtain⟨dG,r2,uz,QB⟩:=I.list hb;have e2:dG=[]:=bf.zero r2;subst e2;have bE:=r.length;cases xs with
 | nil =>
  have e:aT=[]:=bf.zero r;subst e;refine SeqAt.eq_listAt (e:=λ_=>true) pl.isList uz.isList rfl hu (λj h1 _=>absurd h1 (by simp)) ⟨.bl true,H,I,rfl,q⟩
 | cons y ys =>
  refine SeqAt.eq_list_lengthsAt pl.isList uz.isList ?_ hu ⟨.bl false,H,I,rfl,q⟩;rw [bY,bY,<-bE];simp
structure Ki (env:Env)(scope:Scope)(cl:List (Str×Addr)):Prop where
 eq:closureFor scope env=pure cl
 sub:∀y c,cl.lookup y=some c->env.cells.lookup y=some c
 all:∀y,(y,NameKind.free)∈scope.names->∃c,cl.lookup y=some c
def jV {y n:Str}{c:Addr}{l:List (Str×Addr)}:((n,c)::l).lookup y=if y=n then some c else l.lookup y:=by
 by_cases h:y=n
 .rw [ax h];simp [List.lookup,h]
 rw [ay h];simp [List.lookup,kF.mpr h]
def wW {env:Env}{scope:Scope}(h:∀y,(y,NameKind.free)∈scope.names->∃c,env.cells.lookup y=some c):∃cl,Ki env scope cl:=by
 have go:∀(names:List (Str×NameKind))(bW:List (Str×Addr)),(∀y,(y,NameKind.free)∈names->∃c,env.cells.lookup y=some c)->(∀y c,bW.lookup y=some c->env.cells.lookup y=some c) ->
   ∃cl,(forIn names bW λ(x:Str×NameKind)(cs:List (Str×Addr))=>(if x.2 == .free then do let c <-cellOf env x.1;pure (ForInStep.yield ((x.1,c)::cs)) else pure (ForInStep.yield cs):Sem (ForInStep (List (Str×Addr)))))=pure cl /\
    (∀y c,cl.lookup y=some c->env.cells.lookup y=some c)/\(∀y,(y,NameKind.free)∈names->∃c,cl.lookup y=some c)/\∀y c,bW.lookup y=some c->∃c',cl.lookup y=some c':=by
  intro names
  induction names with
  | nil=>intro bW _ hs;exact⟨bW,rfl,hs,λy hy=>absurd hy (by simp),λy c e=>⟨c,e⟩⟩
  | cons x r ih =>
   intro bW hf hs;obtain⟨n,k⟩:=x;rw [List.forIn_cons];by_cases hk:k=.free
   .subst hk;obtain⟨c0,e0⟩:=hf n cI;obtain⟨cl,e1,e2,e3,e4⟩:=ih ((n,c0)::bW) (λy hy=>hf y (dB _ hy)) (λy c e=>by
     rw [jV] at e;by_cases z:y=n
     .rw [ax z] at e;cases e;rw [z];exact e0
     rw [ay z] at e;exact hs y c e)
    refine⟨cl,?_,e2,λy hy=>?_,λy c e=>?_⟩
    .rw [<-e1];have:cellOf env n=pure c0:=by unfold cellOf;rw [e0]
     simp only [this];rfl
    .rcases bX.mp hy with z | z
     .cases z;exact e4 n c0 (by rw [jV,ax rfl])
     exact e3 y z
    by_cases z:y=n
    .exact e4 y c0 (by rw [jV,ax z])
    exact e4 y c (by rw [jV,ay z];exact e)
   obtain⟨cl,e1,e2,e3,e4⟩:=ih bW (λy hy=>hf y (dB _ hy)) hs;refine⟨cl,?_,e2,λy hy=>?_,e4⟩
   .rw [<-e1];have:(k == NameKind.free)=false:=by simpa using hk
    simp only [this];rfl
   rcases bX.mp hy with z | z
   .cases z;exact absurd rfl hk
   exact e3 y z
 obtain⟨cl,e1,e2,e3,_⟩:=go scope.names [] h (λy c e=>by simp at e);refine⟨cl,?_,e2,e3⟩;unfold closureFor;exact Eq.trans (congrArg (λt:Sem (List (Str×Addr))=>t >>= λcs=>pure cs) e1) rfl
def wm {scope:Scope}{env:Env}{y:Str}(hk:env.scope.kind=.function)(hy:scope.names.lookup y=some .free)(he:env.kindOf y=some .cell):(relabel scope env).names.lookup y=some .cell:=by
 have go:∀l:List (Str×NameKind),l.lookup y=some .free->(l.map λ(x:Str×NameKind)=>if (x.2 == NameKind.free && env.scope.kind == .function && env.kindOf x.1 == some .cell) then (x.1,NameKind.cell) else (x.1,x.2)).lookup y=some .cell:=by
  intro l
  induction l with
  | nil=>intro z;cases z
  | cons x r ih =>
   obtain⟨n,k⟩:=x;intro hy;rw [cP];by_cases z:y=n
   .subst z;simp [List.lookup] at hy;subst hy;simp [List.lookup,hk,he]
   have zb:(y == n)=false:=kF.mpr z;simp only [List.lookup,zb] at hy;have:=ih hy;dsimp only
   split <;> simp only [List.lookup,zb] <;> exact this
 exact go _ hy
theorem wz {α:Type}{y:Str}{v:α}:∀{l:List (Str×α)},l.lookup y=some v->(y,v)∈l
 | [],h=>by cases h
 | (n,u)::r,h=>by
  by_cases z:y=n
  .subst z;simp [List.lookup] at h;subst h;exact cI
  have zb:(y == n)=false:=kF.mpr z;simp only [List.lookup,zb] at h;exact dB _ (wz h)
def nP {scope:Scope}{env:Env}{y:Str}{k:NameKind}(h:(relabel scope env).names.lookup y=some k)(hk:k=.cell\/k=.free)(hc:∀z∈scope.names,z.2≠.cell):(y,NameKind.free)∈scope.names:=by
 have m:=wz h;unfold relabel at m;obtain⟨⟨n,k'⟩,m1,m2⟩:=cY.mp m;dsimp only at m2
 split at m2
 .rename_i q
  cases m2;simp at q;obtain⟨⟨q,_⟩,_⟩:=q;subst q;exact m1
 cases m2;rcases hk with hk | hk
 .exact absurd hk (hc _ m1)
 rw [<-hk];exact m1
def sZ (X:Cx)(scope:Scope)(cl:List (Str×Addr))(C:Addr)(s1:Shared)(H1:Hp) (N:List Str)(fp:List Addr):Cx :=
 { X with N:=N,s₀:=s1,H₀:=H1,env:=compEnvC scope cl C X.env,outer:=X.stack,stack:=X.stack,ex:=fp,fn:=λ_=>false,pn:=[],xe:=λ_ _=>False }
structure Kj (X:Cx)(scope:Scope)(js:List (Nat×Str)):Prop where
 at_:∀p∈js,X.N[p.1]?=some p.2/\X.env.scope.names.lookup p.2=some .cell/\scope.names.lookup p.2=some .free
 all:∀y,(y,NameKind.free)∈scope.names->X.env.scope.names.lookup y=some .cell
def eV (ts:List Str)(js:List (Nat×Str))(σ:St):St:=ts.map (λ_=>none)++js.map λp=>(σ[p.1]?).join
def uJ {X:Cx}{ah:List (Addr×Obj)}{σ:St}{H:Hp}{s1 s4:Shared}{scope:Scope}{ts:List Str}{js:List (Nat×Str)}{cl:List (Str×Addr)}{fp:List Addr}{C:Addr}{m:Str->Option Value}
  (I:Inv X ah σ H s1)(hf:∀b∈fp,xb X ah H b)(GK:∀b∈fp,b < s1.heap.objs.size)(jz:scope.kind=.function)(jA:∀y∈scope.names,y.2≠.cell)(cp:Kj X scope js)(pD:Ki X.env scope cl)
  (hC:s1.heap.objs.size < C)(ho:s4.os=s1.os)(hg:s4.gens=s1.gens)(old:∀b o,s1.heap.get? b=some o->s4.heap.get? b=some o)(hn:s4.heap.Ns C m)
  (hD:s4.heap.get? s1.heap.objs.size=some { cls:=.type "list",data:=.seq ([]:List Value).toArray 0 }) :
  Inv (sZ X scope cl C s1 H (ts++js.map (·.2)) fp) [] (eV ts js σ) (upd H s1.heap.objs.size (.lst [])) s4:=by
 have xk:X.env.scope.kind=.function:=I.ok.kind;have has:∀y,((relabel scope X.env).names.lookup y=some .cell\/(relabel scope X.env).names.lookup y=some .free)->∃c,cl.lookup y=some c:=λy hy=>pD.all y (by
  rcases hy with hy | hy
  .exact nP hy (.inl rfl) jA
  exact nP hy (.inr rfl) jA)
 have lt:∀y c,cl.lookup y=some c->c < s1.heap.objs.size:=λy c e=>by
  obtain⟨v,o,ho,_⟩:=I.cell y c (pD.sub y c e);exact bO ho
 refine⟨⟨I.ok.mod,jz,I.ok.glob,I.ok.blt,kJ hC,λy z c h1 h2=>I.ok.inj y z c (pD.sub _ _ h1) (pD.sub _ _ h2),has,λy c h _=>absurd (show false=true from h) eG,I.ok.hd,I.ok.frames,.inl rfl,
   λb hb=>⟨cw (mj (GK b hb) hC),λy c h=>(hf b hb).2.2.2.2.1 y c (pD.sub _ _ h)⟩,I.bs,dY I.ok.ID I.sz,λb o e hb=>?_,λb hb=>?_,I.stack,I.Bg⟩,
  ho,?_,Un.laid old (aF _) I.fresh,⟨m,hn,λi y v e1 e2 _=>?_⟩,λy c h=>?_,?_,λy c h=>?_,λp hp=>absurd (show p∈([]:List (Addr×Obj)) from hp) (by simp),I.cx.laid old (aF _) ?_,?_⟩
 .obtain⟨_,_,_,h4,_⟩:=hf b hb;rcases h4 with h4 | h4
  .exact I.ok.F4 b o e h4
  exact absurd (gM (bO (I.ok.bs b o e).1) h4) (kM _)
 .intro Ip;obtain⟨_,h2,h3,_⟩:=hf b hb;rcases bX.mp (I.zC b Ip) with z | z
  .exact h2 z
  exact h3 z
 .rw [hg];exact I.bare
 .have JY:(ts++js.map (·.2))[i]?=some y:=e1;have DF:(ts.map (λ_=>(none:Option V))++js.map λp=>(σ[p.1]?).join)[i]?=some (some v):=e2;by_cases hi:i < ts.length
  .rw [pU (by simpa using hi)] at DF;simp [hi] at DF
  rw [mZ ∅] at JY;rw [mZ (by simpa using Nat.le_of_not_lt hi)] at DF;rw [au] at DF;rw [bz] at JY DF;cases hj:js[i - ts.length]? with
  | none=>rw [hj] at JY;cases JY
  | some p =>
   rw [hj] at JY DF;simp only [qY,Option.some.injEq] at JY DF;obtain⟨a1,a2,a3⟩:=cp.at_ p (b_ hj);subst JY;have es:σ[p.1]?=some (some v):=by
    cases q:σ[p.1]? with
    | none=>rw [q] at DF;cases DF
    | some z=>rw [q] at DF;exact congrArg some DF
   obtain⟨m0,SK,lk⟩:=I.loc;obtain⟨u,ru,l⟩:=lk p.1 p.2 v a1 es (.inr (.inl a2));rcases l with l | ⟨_,c,ec,o,hc,hd⟩
   .have l1:X.env.scope.names.lookup p.2=some .local:=l.1;rw [a2] at l1;cases l1
   obtain⟨c',Z_⟩:=pD.all p.2 (wz a3);have e3:=pD.sub _ _ Z_;rw [ec] at e3;cases e3;exact⟨u,ru,.inr ⟨.inl (wm xk a3 a2),c,Z_,o,old _ _ hc,hd⟩⟩
 .obtain⟨v,o,h1,h2⟩:=I.cell y c (pD.sub y c h);exact⟨v,o,old _ _ h1,h2⟩
 .show upd H s1.heap.objs.size (.lst []) C=none;rw [aj (lV hC)];exact I.cx.fresh (kJ hC)
 .show upd H s1.heap.objs.size (.lst []) c=none;rw [aj (cw (lt y c h))];exact I.l_ y c (pD.sub y c h)
 .exact⟨by show 0<=sizeLine;decide,[],0,.nil,hD⟩
 show (eV ts js σ).length=(ts++js.map (·.2)).length;simp [eV]
def EC (wi:TI) (ts:List Str)(js:List (Nat×Str))(g:TG)(tif:TT)(te:TE):TE:=λσ H Q=>wi σ H λJ H1=>∀D,H1 D=none->∃W:Nat->Nat->List V->St->Hp->Prop,(∃m,W 0 m [] (eV ts js σ) (upd H1 D (.lst []))) /\
 ∀i m ys σ' H,W i m ys σ' H->(J.stop i H/\Q (.ref D) H)\/(J.go i H/\∃m',m' < m/\∀x H',J.mQ i H x H'->g x σ' H' λσ2 H2=>tif σ2 H2 λb H3 =>
  if b=true then te σ2 H3 λy H4=>H4 D=some (.lst ys)/\ys.length < sizeLine/\W (i+1) m' (ys++[y]) σ2 (upd H4 D (.lst (ys++[y]))) else W (i+1) m' ys σ2 H3)
def bD {X:Cx}{elt iter tg:Expr}{ifs:List Expr}{scope:Scope}{pos:Pos}{wi:TI}{g:TG}{tif:TT}{te:TE}(ts:List Str)(js:List (Nat×Str))(hc:X.calm=true)(hi:PI X tg iter wi)
  (cp:Kj X scope js)(jA:∀y∈scope.names,y.2≠.cell)(jz:scope.kind=.function)
  (Ax:∀y∈scope.names,y.2=.local->scope.names.lookup y.1=some .local)
  (hg:∀cl C s1 H1 fp,PG (sZ X scope cl C s1 H1 (ts++js.map (·.2)) fp) tg g)
  (V5:∀cl C s1 H1 fp,DZ (sZ X scope cl C s1 H1 (ts++js.map (·.2)) fp) ifs tif)(he:∀cl C s1 H1 fp,PE (sZ X scope cl C s1 H1 (ts++js.map (·.2)) fp) elt te)
  (hs:∀x,foldedSetIterable iter X.env x=pure x:=by intro _;rfl) :
  PE X (.ListComp elt [⟨tg,iter,ifs,0⟩] scope pos) (EC wi ts js g tif te):=by
 intro ah s σ H Q I h;rw [eval_ListComp];obtain⟨cl,pD⟩:=wW (env:=X.env) (scope:=scope) λy hy=>I.ok.has y (.inl (cp.all y hy));refine wpAny_comprehension_free (use:=none) rfl hs pD.eq jz Ax (cR (hi ah s σ H _ I h) λv s1 h1=>cR h1 λSE s2 h2=>?_);obtain⟨it,fp,tn,J,H2,e,I2,T,Ib,f2,h2⟩:=h2;subst e;obtain⟨W,⟨m0,w0⟩,turn⟩:=h2 s2.heap.objs.size I2.fresh;have GK:∀b∈fp,b < s2.heap.objs.size:=λb hb=>by obtain⟨o,e,_⟩:=T.obj _ _ Ib b hb;exact bO e
 refine jr (wpAny_newFunctionEnv jA (by intro y hy;simp at hy) (λh₁ Aw wJ=>?_) jz);dsimp only at Aw wJ ⊢;generalize Nk:s2.heap.push { cls:=.type "list",dict:=none,data:=.seq ([]:List Value).toArray }=G2 at Aw wJ ⊢;have JS:G2.objs.size=s2.heap.objs.size+1:=by rw [<-Nk,oK]
 have Wo:s2.heap.objs.size≠G2.objs.size:=by rw [JS];exact cw (pS _)
 have old:∀b o,s2.heap.get? b=some o->h₁.get? b=some o:=λb o e =>
  wJ.extBut b o (by rw [JS];exact cw (vk (bO e))) (cv _ (Nk ▸ cv _ e))
 have Dm:h₁.get? s2.heap.objs.size=some { cls:=.type "list",data:=.seq ([]:List Value).toArray 0 }:=wJ.extBut _ _ Wo (cv _ (Nk ▸ d0 _ rfl));generalize oh:sZ X scope cl G2.objs.size s2 H2 (ts++js.map (·.2)) fp=X2;have I4:Inv X2 [] (eV ts js σ) (upd H2 s2.heap.objs.size (.lst [])) { s2 with heap:=h₁,toks:=s2.toks+([]:List (Str×Value)).length }:=by
  rw [<-oh];exact uJ I2 f2 GK jz jA cp pD (by rw [JS];exact pS _) rfl rfl old Aw Dm
 have x1:X2.prog=X.prog:=by rw [<-oh];rfl
 have x2:X2.w=X.w:=by rw [<-oh];rfl
 have x3:X2.K=X.K:=by rw [<-oh];rfl
 have x4:X2.calm=true:=by rw [<-oh];exact hc
 have x5:X2.A=X.A:=by rw [<-oh];rfl
 have x6:X2.env=compEnvC scope cl G2.objs.size X.env:=by rw [<-oh];rfl
 have x7:X2.xe=λ_ _=>False:=by rw [<-oh];rfl
 have V7:PG X2 tg g:=by rw [<-oh];exact hg _ _ _ _ _
 have M8:DZ X2 ifs tif:=by rw [<-oh];exact V5 _ _ _ _ _
 have Az:PE X2 elt te:=by rw [<-oh];exact he _ _ _ _ _
 have Pr:tn 0 h₁:=T.keep _ _ _ Ib λb _ o e=>old b o e;have rG:∀{H':Hp}{j_:List (Addr×Obj)},(∀b∈fp,H' b=none)->(∀p∈j_,p.1∉fp)->∀b∈fp,xb X2 j_ H' b:=λ{H' j_} hn hp b hb=>by
  have o4:=I4.ok;subst oh;exact⟨hn b hb,(o4.OH b hb).1,o4.Dv b hb,.inl hb,(o4.OH b hb).2,λp n5=>by
   have oF:p∈([]:List (Addr×Obj))++j_:=n5;rw [pQ] at oF;intro z;exact hp p oF (by rw [z];exact hb)⟩
 have fin:∀{s':Shared}{σ':St}{H':Hp},Inv X2 [] σ' H' s'->Q (.ref s2.heap.objs.size) H' ->
   compPost (model X.prog X.w) X.A X.xe none (EP X ah σ Q) (.ref s2.heap.objs.size) G2.objs.size (.ok .next) s':=λ{s' σ' H'} J' q=>by
  subst oh;obtain⟨m',JN,_⟩:=J'.loc;refine⟨m',JN,λh' Ou=>?_⟩;have u:Un (Dr X.stack) fp H2 H' s2.heap s'.heap:=J'.base;have nC:∀b o,s2.heap.get? b=some o->b≠G2.objs.size:=λb o e=>by rw [JS];exact cw (vk (bO e))
  have u':Un (Dr X.stack) fp H2 H' s2.heap h':=⟨λb o e n hb hx=>(Ou.2 b (nC b o e)).trans (u.keep b o e n hb hx),λb o e n hb hx=>by
    obtain⟨sl,z⟩:=u.slot b o e n hb hx;exact⟨sl,(Ou.2 b (nC b o e)).trans z⟩,u.free,λb o e hx=>by
    obtain⟨o',z⟩:=u.there b o e hx;exact⟨o',(Ou.2 b (nC b o e)).trans z⟩,u.o5,u.mM,u.nq⟩
  have cx:me X.prog X.w H' h':=λb ob e=>by
   refine(J'.cx b ob e).kP (λc w' lR q'=>(Ou.2 c ?_).trans q') (λ_ q=>q) λ_ _ q=>q;intro z;have fr:H' G2.objs.size=none:=J'.free;rcases lR with z' | z'
   .rw [<-z'] at e;rw [z,fr] at e;cases e
   rw [z,fr] at z';cases z'
  have I5:Inv X ah σ H' { s' with heap:=h' }:=I2.Lp (s':={ s' with heap:=h' }) J'.os u' cx J'.bare λb hb=>by
   obtain⟨_,f1,_,f3,f4,f5⟩:=f2 b hb;exact⟨f3,f1,f4,f5⟩
  exact⟨.ref s2.heap.objs.size,H',I5,rfl,q⟩
 have loop:∀s₃:Shared,s₃={ s2 with heap:=h₁,toks:=s2.toks+([]:List (Str×Value)).length } ->
   codeAny (model X.prog X.w) X.A (.compLoop (.ListComp elt [⟨tg,iter,ifs,0⟩] scope pos) 0 (.ref it) (.ref s2.heap.objs.size) (compEnvC scope cl G2.objs.size X.env))
    (compPost (model X.prog X.w) X.A X.xe none (EP X ah σ Q) (.ref s2.heap.objs.size) G2.objs.size) s₃:=by
  rintro s₃ rfl;subst oh;refine qe (λn s'=>∃i ys σ' H',Inv (sZ X scope cl G2.objs.size s2 H2 (ts++js.map (·.2)) fp) [] σ' H' s'/\tn i s'.heap/\(∀b∈fp,H' b=none)/\W i n ys σ' H') ?_ m0
   ⟨0,[],_,_,I4,Pr,λb hb=>by rw [aj (cw (GK b hb))];exact(f2 b hb).1,w0⟩
  rintro n s' ⟨i,ys,σ0,H',J',xi,Rb,w'⟩;rcases turn i n ys σ0 H' w' with ⟨stop,q⟩ | ⟨go,m',hm,step⟩
  .refine dM (T.done (sZ X scope cl G2.objs.size s2 H2 (ts++js.map (·.2)) fp) rfl rfl rfl hc i [] s' _ H' (λ_ _=>False) J' (rG Rb (by simp)) xi stop) (λr s4 ⟨hr,J4⟩=>?_) λ_ _ z=>z;subst hr;exact fin J4 q
  refine dM (T.item (sZ X scope cl G2.objs.size s2 H2 (ts++js.map (·.2)) fp) rfl rfl rfl hc i [] s' _ H' (λ_ _=>False) J' (rG Rb (by simp)) xi go) (λr s4 ⟨u,hr,h4⟩=>?_) λ_ _ z=>z;subst hr;refine dM h4 (λ_ s5 bG=>?_) λ_ _ z=>z;obtain⟨xv,H5,J5,r5,y5,Cv,Ra⟩:=bG;have X3:=J5.pinned (rG Ra (by simp)) (T.obj _ _ Cv);have back:∀{s7:Shared}{σ7:St}{H7:Hp},Inv (sZ X scope cl G2.objs.size s2 H2 (ts++js.map (·.2)) fp) ([]++pj fp s5.heap) σ7 H7 s7->Inv (sZ X scope cl G2.objs.size s2 H2 (ts++js.map (·.2)) fp) [] σ7 H7 s7/\tn (i+1) s7.heap/\∀b∈fp,H7 b=none:=λ{s7 σ7 H7} J7=>by
   refine⟨J7.kN,T.keep _ _ _ Cv λb hb o e=>(J7.pin (b,o) (fR _ (fR _ (ik hb e)))).1,λb hb=>?_⟩;obtain⟨o,e,d⟩:=T.obj _ _ Cv b hb;exact(J7.pin (b,o) (fR _ (fR _ (ik hb e)))).2.1
  show wpAny _ _ (assign tg (sZ X scope cl G2.objs.size s2 H2 (ts++js.map (·.2)) fp).env u) _ _ s5;refine dM (V7 _ s5 _ H5 xv u _ X3 r5 (step xv H5 y5)) (λ_ s6 bG=>?_) λ_ _ z=>z;obtain⟨σ6,H6,J6,q6⟩:=bG;refine dM (M8 _ s6 _ H6 _ J6 q6) (λb s7 bG=>?_) λ_ _ z=>z;obtain⟨H7,J7,q7⟩:=bG;cases b with
  | false =>
   rw [ay eG] at q7 ⊢;obtain⟨J8,Uo,WC⟩:=back J7;exact⟨m',hm,i+1,ys,σ6,H7,J8,Uo,WC,q7⟩
  | true =>
   rw [ax rfl] at q7 ⊢;refine dM (Az _ s7 _ H7 _ J7 q7) (λyv s8 bG=>?_) λ_ _ z=>z;obtain⟨y,H8,J8,r8,Wr,Vx,w8⟩:=bG;refine dM (bV (X:=sZ X scope cl G2.objs.size s2 H2 (ts++js.map (·.2)) fp) _ s8 _ H8 (.ref s2.heap.objs.size) [y] (.ref s2.heap.objs.size) [yv] (λv H'=>W (i+1) m' (ys++[y]) σ6 H') J8 rfl (.cons r8 .nil) ⟨s2.heap.objs.size,ys,y,rfl,rfl,Wr,Vx,w8⟩)
    (λ_ s9 ⟨_,H9,J9,_,w9⟩=>?_) λ_ _ z=>z
   obtain⟨X4,LR,Nu⟩:=back J9;exact⟨m',hm,i+1,ys++[y],σ6,H9,X4,LR,Nu,w9⟩
 exact codeAny_compStart_list (loop _ rfl) (T.self _ _ _ _ _ Pr (loop _ rfl))
def RU (K:ba)(a:Addr):It :=
 ⟨λi H=>∃xs x,aH K H a xs/\xs[i]?=some x,λi H x H'=>∃t y,x=.ref t/\H t=none/\H'=upd H t (.tup [.int (i:Int),y])/\∀xs,aH K H a xs->xs[i]?=some y,λi H=>∃xs,aH K H a xs/\xs.length<=i⟩
def Cr {P:Program}{w:World}{K:ba}{elts:List Expr}{k:Nat}{vJ:Pos}(a e it:Addr)(QZ:e≠it) :
  Turn P w K (.Tuple elts k vJ) (RU K a) [e,it] e (λi h=>(∃old,IsEnum h e it i old)/\h.IsListIter it a i) where
 mem:=by simp
 obj:=λi h st b hb=>by
  obtain⟨⟨old,he⟩,o,e1,c,d⟩:=st;rcases bX.mp hb with rfl | hb
  .exact⟨_,he,λv z=>by cases z⟩
  obtain rfl:b=it:=by simpa using hb
  exact⟨o,e1,λv z=>by rw [d] at z;cases z⟩
 keep:=λi h h' st k=>⟨⟨st.1.choose,k e (by simp) _ st.1.choose_spec⟩,st.2.at λo q=>k it (by simp) o q⟩
 item:=by
  intro X hP hw hK hc i ah s σ H E I hf st hg;subst hP hw hK;obtain⟨xs,x,hq,hx⟩:=hg;obtain⟨aT,rv,p,hz⟩:=I.list hq;obtain⟨u,hu,ru⟩:=rv.get hx;obtain⟨⟨old,he⟩,hit⟩:=st;refine wpAny_pyNext_enum_item he hit p.isList (x:=u) (by simpa using hu) QZ λh1 ho M7 hT hsz hk=>?_;refine⟨_,rfl,wpAny_letOwnedTupleGo_enum ho λh2 Wb sb=>?_⟩;have ne:s.heap.objs.size≠e:=lV (bO he);have kk:∀b o,b≠e->b≠it->s.heap.get? b=some o->h2.get? b=some o:=λb o n1 n2 q=>(sb.2 b n1).trans (hk b o n1 n2 q);have T2:h2.get? s.heap.objs.size=some { cls:=.type "tuple",data:=.seq #[.int i s.toks,u] }:=(sb.2 _ ne).trans hT;have fe:=hf e (by simp);have fi:=hf it (by simp);have fT:H s.heap.objs.size=none:=I.cx.fresh (aF _);have tr:∀b v,H b=some v->b≠e/\b≠it:=λb v q=>⟨λz=>(by rw [z,fe.1] at q;cases q),λz=>(by rw [z,fi.1] at q;cases q)⟩;have nc:∀b,b∉[e,it]->b≠e/\b≠it:=λb z=>⟨λq=>z (by simp [q]),λq=>z (by simp [q])⟩;have lt:∀b o,s.heap.get? b=some o->b≠s.heap.objs.size:=λb o q=>cw (bO q);have I2:Inv X ah σ (upd H s.heap.objs.size (.tup [.int (i:Int),x])) { s with heap:=h2,toks:=s.toks+1 }:=by
   refine I.call (g':=s.gens) (t':=s.toks+1) (d':=s.drawn) (ch:=[e,it]) ⟨λb o q _ _ c=>kk b o (nc b c).1 (nc b c).2 q,λb o q _ _ c=>⟨o.slots,kk b o (nc b c).1 (nc b c).2 q⟩,
    λb o q n _=>by rw [aj (lt b o q)];exact n,λb o q c=>⟨o,kk b o (nc b c).1 (nc b c).2 q⟩,λb ys q=>by rw [aj (aw q fT)];exact q,λb o v q=>by rw [aj (aw q fT)];exact q,
    λb ps q=>⟨#[],by rw [aj (aw q fT),q];simp⟩⟩ (λb v q=>?_) I.bare (λb hb=>?_)
   .by_cases hb:b=s.heap.objs.size
    .subst hb;rw [ae] at q;cases q;exact⟨by show 2<=sizeLine;decide,[.int i s.toks,u],.cons ⟨_,rfl⟩ (.cons ru .nil),_,T2,rfl,_,rfl⟩
    rw [aj hb] at q;refine(I.cx b v q).kP (λc o lR z=>?_) (λc q'=>by rw [aj (aw q' fT)];exact q') λc ys q'=>by rw [aj (aw q' fT)];exact q'
    rcases lR with rfl | lR
    .exact kk c o (tr c _ q).1 (tr c _ q).2 z
    exact kk c o (tr c _ lR).1 (tr c _ lR).2 z
   rcases bX.mp hb with rfl | hb
   .exact⟨fe.2.2.2.1,fe.2.1,fe.2.2.2.2.1,fe.2.2.2.2.2⟩
   obtain rfl:b=it:=by simpa using hb
   exact⟨fi.2.2.2.1,fi.2.1,fi.2.2.2.2.1,fi.2.2.2.2.2⟩
  refine⟨.ref s.heap.objs.size,_,I2,rfl,⟨_,x,rfl,fT,rfl,λys hy=>by rw [I.r_ hy hq];exact hx⟩,⟨⟨_,Wb⟩,M7.at λo q=>(sb.2 it QZ.symm).trans q⟩,λb hb=>?_⟩;have Ip:H b=none/\∃o,s.heap.get? b=some o:=by
   rcases bX.mp hb with rfl | hb
   .exact⟨fe.1,_,he⟩
   obtain rfl:b=it:=by simpa using hb
   obtain⟨o,q,_⟩:=hit;exact⟨fi.1,o,q⟩
  obtain⟨n,o,q⟩:=Ip;rw [aj (lt b o q)];exact n
 done:=by
  intro X hP hw hK hc i ah s σ H E I hf st hg;subst hP hw hK;obtain⟨xs,hq,hx⟩:=hg;obtain⟨aT,rv,p,hz⟩:=I.list hq;obtain⟨⟨old,he⟩,hit⟩:=st;obtain⟨f0,f1,f2,f3,f4,f5⟩:=hf it (by simp);have hl:=rv.length;exact wpAny_pyNext_enum_end (I.ok.hd hc) he hit p.isList (by simp;omega) λh' eb=>⟨rfl,I.turned (t':=s.toks) (λb o hb e=>eb b o hb e) f0 f1 f3 f4 f5⟩
 self:=λ_ _ _ _ _ st h=>wpAny_pyIter_enum st.1.choose_spec h
def uX:bootBuiltins "enumerate"=some (.type "enumerate"):=by decide +kernel
def Qw (K:ba)(ta:TA):TI:=λσ H R=>ta σ H λvs H1=>XS vs (aH K H1) λa=>R (RU K a) H1
def nU {X:Cx}{elts:List Expr}{k:Nat}{vJ:Pos}{l:Expr}{ta:TA}{p pos:Pos}(hg:Gl X "enumerate")(hm:X.mg "enumerate"=none)(ha:PA X [l] ta)(hs:starEach [l] X.env=[(false,eval l X.env)]:=by rfl) :
  PI X (.Tuple elts k vJ) (.Call (.Name "enumerate" p) [l] [] pos) (Qw X.K ta):=by
 intro ah s σ H R I h;refine Call_ (jW I hg hm uX (vG (cR (ha pos ah s σ H _ I h) λus s1 bG=>?_) hs rfl));obtain⟨vs,H1,I1,r1,q1⟩:=bG;obtain⟨a,xs,e,hq,q⟩:=q1;subst e;obtain⟨u,rfl,rx⟩:=r1.one;cases rx;obtain⟨aT,rv,pl,hz⟩:=I1.list hq;refine call_enumerate_list pl.isList λh1 he hit hsz hk=>wpAny_pyIter_enum he ?_;refine⟨s1.heap.objs.size+1,[s1.heap.objs.size+1,s1.heap.objs.size],_,_,H1,rfl,I1.kept (t':=s1.toks) λb o e=>hk b o e,Cr a _ _ (lV (pS _)),⟨⟨_,he⟩,hit⟩,λb hb=>?_,q⟩;rcases bX.mp hb with rfl | hb
 .exact I1.wO (mf _) (I1.cx.fresh (mf _))
 obtain rfl:b=s1.heap.objs.size:=by simpa using hb
 exact I1.wO (aF _) (I1.cx.fresh (aF _))
def di (kvs bW:List (aR×V)):List (aR×V):=kvs.foldl (λa p=>bU a p.1 p.2) bW
theorem sQ:∀{kvs:List (aR×V)}{vs:List (aR×Value)}{bW:List (aR×V)}{HE:List (aR×Value)},KV kvs vs->KV bW HE->KV (di kvs bW) (vs.foldl (λa p=>stored a p.1 p.2) HE)
 | _,_,_,_,.nil,h=>h
 | _,_,_,_,.cons (a:=p) (b:=q) r t,h=>by
  obtain⟨e,rv⟩:=r;show KV (di _ (bU _ p.1 p.2)) (List.foldl _ (stored _ q.1 q.2) _);rw [<-e];exact sQ t (h.put p.1 rv)
theorem sR:∀(kvs bW:List (aR×V)),(di kvs bW).length<=bW.length+kvs.length
 | [],bW=>by simp [di]
 | p::r,bW=>by
  have:=sR r (bU bW p.1 p.2);have:=gh bW p.1 p.2;show (di r (bU bW p.1 p.2)).length<=_;rw [dZ];omega
section
variable {X:Cx}{ah:List (Addr×Obj)}{σ:St}{H:Hp}{s:Shared}
theorem pairs_at (I:Inv X ah σ H s):∀{ts:List Addr}{kvs:List (aR×V)}{aT:List Value},Paired (λt kv=>aS X.K H t [kV kv.1,kv.2]) ts kvs->bf (ts.map V.ref) aT ->
  ∃vs:List (aR×Value),KV kvs vs/\Paired (λu kv=>mP (bA X.prog X.w) s.heap u kv) aT vs
 | [],_,_,.nil,r=>by
  rw [mi] at r;cases r;exact⟨[],.nil,.nil⟩
 | t::ts,kv::kvs,_,.cons h p,r=>by
  rw [cP] at r;cases r with
  | cons r1 r2 =>
   obtain⟨vs,e1,e2⟩:=pairs_at I p r2;obtain⟨aT,rv,⟨o,h1,h2,n,h3⟩,_⟩:=I.tuple h;obtain⟨u1,u2,rfl,q1,q2⟩:=vals2 rv;exact⟨(kv.1,u2)::vs,.cons ⟨rfl,q2⟩ e1,.cons ⟨t,u1,n,o,r1,l8 q1,h1,h2,h3⟩ e2⟩
theorem Paired.at_ {α β:Type}{F:α->β->Prop}:∀{xs:List α}{ys:List β},Paired F xs ys->∀(m:Nat)(y:β),ys[m]?=some y->∃x,xs[m]?=some x/\F x y
 | _,_,.nil,m,y,e=>by cases m <;> cases e
 | _,_,.cons h t,0,y,e=>by cases e;exact⟨_,rfl,h⟩
 | _,_,.cons h t,m+1,y,e=>Paired.at_ t m y e
def dW (hc:X.calm=true):iD X (.type "dict") (λxs H Q=>∃a ts kvs,xs=[.ref a]/\H a=some (.lst (ts.map V.ref))/\Paired (λt kv=>aS X.K H t [kV kv.1,kv.2]) ts kvs/\∀d,H d=none->Q (.ref d) (upd H d (.dK (di kvs [])))):=by
 intro ah s σ H xs us Q I r h;obtain⟨a,ts,kvs,rfl,e,p,q⟩:=h;obtain⟨u,rfl,rx⟩:=vals1 r;cases (show u=Value.ref a from rx);obtain⟨z,aT,n,rv,ho⟩:=(show cS X.prog X.w H s.heap a (.lst _) from I.cx a _ e);obtain⟨vs,r1,r2⟩:=pairs_at I p rv;have l1:=aU r2;have l2:=r1.length;have l3:=aU p;rw [au] at z;refine tG (bA X.prog X.w) (I.ok.hd hc) ho (by simpa using l1) (λm kv em=>?_) ∅ λh' t' hd kk=>?_
 .obtain⟨u,e1,e2⟩:=Paired.at_ r2 m kv em;exact⟨u,by simpa using e1,e2⟩
 have new:cS X.prog X.w (upd H s.heap.objs.size (.dK (di kvs []))) h' s.heap.objs.size (.dK (di kvs [])):=by
  refine sX ?_ ?_ (sQ r1 .nil) hd
  .have:=sR kvs [];simp at this;omega
  have:=I.big;exact kF.mpr (lV this)
 exact⟨.ref s.heap.objs.size,_,I.laid (t':=t') kk (aF _) new,rfl,q _ (I.cx.fresh (aF _))⟩
theorem uC {α β:Type}{F:α->β->Prop}:∀{xs:List α}{ys:List β},xs.length=ys.length->(∀(j:Nat) x y,xs[j]?=some x->ys[j]?=some y->F x y)->Paired F xs ys
 | [],[],_,_=>.nil
 | [],_::_,e,_=>by cases e
 | _::_,[],e,_=>by cases e
 | x::xs,y::ys,e,h=>.cons (h 0 x y rfl rfl) (uC (Nat.succ.inj e) λj a b e1 e2=>h (j+1) a b e1 e2)
def K1 {P:Program}{w:World}{k:aR}{u:Value}(h:(bA P w).is k u=true):RelV (kV k) u:=by
 rcases dF (show sf k u=true from h) with ⟨i,t,rfl,rfl⟩ | ⟨x,t,rfl,rfl⟩
 .exact⟨t,rfl⟩
 exact⟨t,rfl⟩
def mN (hc:X.calm=true):iD X (.type "list") (λxs H Q=>∃a kvs,xs=[.ref a]/\H a=some (.dK kvs)/\∀D,H D=none->Q (.ref D) (upd H D (.lst (kvs.map λp=>kV p.1)))):=by
 intro ah s σ H xs us Q I r h;obtain⟨a,kvs,rfl,e,q⟩:=h;obtain⟨u,rfl,rx⟩:=vals1 r;cases (show u=Value.ref a from rx);obtain⟨z,hs,vs,rel,dd⟩:=yu I.cx e;obtain⟨o,es,ep,d1,d2,d3,d4⟩:=dd;have l1:=rel.length;refine PySem.W.kdl_call (PySem.W.kdl_dict (knd:=bA X.prog X.w) (kvs:=vs) (ep:=ep) hs) (I.ok.hd hc) ⟨o,es,d1,d2,d3,d4⟩ ∅ λh' tk bW c kk hD Dm=>?_;have keys:=rel.keys;have vals:bf (kvs.map λp=>kV p.1) bW.toList:=by
  refine uC (by have h1:=Dm.1;simp only [au,rm];omega) λj x y e1 e2=>?_;rw [Array.getElem?_toList] at e2;obtain⟨k,v,e3,e4⟩:=Dm.2 j y e2;rw [bz] at e1;obtain⟨p,e5,rfl⟩:=cD.mp e1;have e6:(kvs.map (·.1))[j]?=some p.1:=by rw [bz,e5];rfl
  rw [keys,bz,e3] at e6;cases e6;exact K1 e4
 have new:cS X.prog X.w (upd H s.heap.objs.size (.lst (kvs.map λp=>kV p.1))) h' s.heap.objs.size (.lst (kvs.map λp=>kV p.1)):=⟨by rw [au];exact z,bW.toList,c,vals,by simpa using hD⟩;exact⟨.ref s.heap.objs.size,_,I.laid (t':=tk) kk (aF _) new,rfl,q _ (I.cx.fresh (aF _))⟩
end
def w6 (v:V):Prop:=ie v=true\/∃r,v=.ref r
def Ha {x:V}(h:ie x=true):uO x x=true:=by
 cases x with
 | fh=>rfl
 | bl b=>exact oU b
 | int i=>exact oU i
 | str z=>exact oU z
 | _=>cases h
def sU {A:Around}{s:Shared}{x:V}{u v:Value}(h:w6 x)(ru:RelV x u)(rv:RelV x v):SeqAt.EqAt A s u v true:=by
 rcases h with h | ⟨r,rfl⟩
 .have q:=AM (A:=A) (s:=s) ru rv h h;rw [Ha h] at q;exact q
 cases (show u=Value.ref r from ru);cases (show v=Value.ref r from rv);exact .same _
section
variable {K:ba}{a D:Addr}{xs:List V}{ts:List Str}{js:List (Nat×Str)}{g:TG}{tif:TT}{te:TE}{R:Hp->Prop}{σ:St}{H:Hp}
def cN (Pv:Nat->List V->St->Hp->Prop)(h0:Pv 0 [] (eV ts js σ) (upd H D (.lst [])))(hl:∀i ys σ H,i<=xs.length->Pv i ys σ H->aH K H a xs)
  (hs:∀i x ys σ H,xs[i]?=some x->Pv i ys σ H->g x σ H λσ2 H2=>tif σ2 H2 λb H3=>if b=true then te σ2 H3 λy H4=>H4 D=some (.lst ys)/\ys.length < sizeLine/\Pv (i+1) (ys++[y]) σ2 (upd H4 D (.lst (ys++[y]))) else Pv (i+1) ys σ2 H3)
  (hd:∀ys σ H,Pv xs.length ys σ H->R H) :
  ∃W:Nat->Nat->List V->St->Hp->Prop,(∃m,W 0 m [] (eV ts js σ) (upd H D (.lst []))) /\
 ∀i m ys σ' H,W i m ys σ' H->((ki K a).stop i H/\R H)\/((ki K a).go i H/\∃m',m' < m/\∀x H',(ki K a).mQ i H x H'->g x σ' H' λσ2 H2=>tif σ2 H2 λb H3 =>
  if b=true then te σ2 H3 λy H4=>H4 D=some (.lst ys)/\ys.length < sizeLine/\W (i+1) m' (ys++[y]) σ2 (upd H4 D (.lst (ys++[y]))) else W (i+1) m' ys σ2 H3):=by
 refine⟨λi m ys σ H=>m=xs.length - i/\i<=xs.length/\Pv i ys σ H,⟨xs.length,by simp,dX _,h0⟩,?_⟩;rintro i m ys σ' H ⟨rfl,hi,p⟩;have q:=hl i ys σ' H hi p;by_cases kn:i < xs.length
 .refine .inr ⟨⟨xs,xs[i],q,by simp [kn]⟩,xs.length - (i+1),∅,λx H' y=>?_⟩;obtain⟨e,y⟩:=y;subst e;have z:=hs i x ys σ' _ (y xs q) p;have h1:(i+1<=xs.length)=True:=eq_true kn;simp only [h1,true_and];exact z
 have e:i=xs.length:=by omega
 subst e;exact .inl ⟨⟨xs,q,aF _⟩,hd ys σ' H p⟩
end
def eU {K:ba}{t:Value}:PySem.W.kitOne K t t=some true:=by unfold PySem.W.kitOne;rw [ax (oU t)]
def Po (t:TS):TS:=λD σ H=>∃R:St->Hp->Prop,t { D with nx:=R } σ H/\∀σ' H',R σ' H'->D.nx σ' H'
def iL {X:Cx}{st:Stmt}{t:TS}(h:PS X st t):PS X st (Po t):=by
 intro ah s σ H D I ⟨R,q,m⟩;refine cR (h ah s σ H _ I q) λf s1 z=>?_;cases f with
 | next=>obtain⟨σ',H',I',r⟩:=z;exact⟨σ',H',I',m _ _ r⟩
 | ret v=>exact z
 | brk=>exact z
 | cont=>exact z
def aC (P:Program)(w:World)(K:ba)(mg:Str->Option Value)(base:Heap) (k:Nat)(x:Str) (ps:List Str)(sp:Sp):Prop :=
 ∃f fd,bS P w K mg base gp k f fd ps sp/\Binds K fd ps []/\PySem.W.keepIn K (.ref f)=true/\mg x=some (.ref f)
theorem aC.mono {P:Program}{w:World}{K:ba}{mg:Str->Option Value}{base:Heap}{j k:Nat}{x:Str}{ps:List Str}{sp:Sp}(c:aC P w K mg base j x ps sp)(h:j<=k):aC P w K mg base k x ps sp :=
 let ⟨f,fd,a,b⟩:=c;⟨f,fd,a.mono h,b⟩
def bp {X:Cx}{k:Nat}{x:Str}{ps:List Str}{sp:Sp}{e:Expr}{es:List Expr}{t:TA}{p pos:Pos}(c:aC X.prog X.w X.K X.mg X.base k x ps sp)(hr:fY k X.A)(hg:Gl X x)(ha:PA X (e::es) t)
  (Dj:(x == ("__debug__":Str))=false:=by decide)(he:starEach (e::es) X.env=(false,eval e X.env)::starEach es X.env:=by rfl)(BS:(backTo pos (starEach es X.env)).any (·.1)=false:=by rfl) :
  PE X (.Call (.Name x p) (e::es) [] pos) (Ko sp [] E0 t):=by
 obtain⟨f,fd,G,b,kp,m⟩:=c;exact Jq G hr hg m kp b .nil uA ha Dj he BS
def fits {n:Nat}(h:n<=1000000):n<=sizeLine:=dY h nofun
def bN {n:Nat}(h:n<=1000000):n < sizeLine:=rh h nofun
def af {H:Hp}{p:Addr}(h:H p=none)(o:HO):aA H (upd H p o):=λb u q=>by rw [aj (aw q h)];exact q
def aA.tup {K:ba}{H H':Hp}{a:Addr}{xs:List V}(e:aA H H')(h:aS K H a xs):aS K H' a xs:=by
 rcases h with (h | ⟨o,h⟩) | h
 .exact .inl (.inl (e _ _ h))
 .exact .inl (.inr ⟨o,e _ _ h⟩)
 exact .inr h
def ip {X:Cx}(hc:X.calm=true):iD X (.builtin "all") (λxs H Q=>∃(a:Addr)(bs:List Bool),xs=[.ref a]/\aH X.K H a (bs.map V.bl)/\Q (.bl (bs.all id)) H):=by
 intro ah s σ H xs us Q I r h;obtain⟨a,bs,rfl,hq,q⟩:=h;obtain⟨u,rfl,rx⟩:=vals1 r;cases (show u=Value.ref a from rx);obtain⟨aT,rv,pl,hz⟩:=I.list hq;obtain⟨o,h1,h2,m,h3⟩:=id pl.isList;have la:a < s.heap.objs.size:=bO h1;have ln:=rv.length;rw [au] at ln;have isB:∀(i:Nat) v,aT.toArray[i]?=some v->v=.bool (bs.getD i true):=λi v e=>by
  have e':aT[i]?=some v:=by simpa using e
  obtain⟨x,e2,e3⟩:=Paired.at_ rv i v e';rw [bz] at e2;obtain⟨b,e4,rfl⟩:=cD.mp e2;rw [xr,e4];exact e3
 refine call_all_walk (oR pl.isList ?_);refine⟨s.heap.objs.size,_,_,_,_,_,λi=>bs.getD i true,rfl,Walks.list (A:=X.A.in1) (show X.A.in1.handled=none from I.ok.hd hc) s.heap.objs.size a (cw la) aT.toArray,⟨⟨_,d0 _ rfl,rfl,rfl⟩,⟨o,cv _ h1,h2,m,h3⟩⟩,?_,λh' tk kk=>?_⟩
 .intro i v s1 Q1 E1 hP hQ1;rw [isB i v hP];exact kx hQ1
 have e:((List.range aT.toArray.size).all λi=>bs.getD i true)=bs.all id:=by
  rw [bY,<-ln,mT,gL,gL];constructor
  .intro h b hb;obtain⟨i,hi,e⟩:=qQ.mp hb;have:=h i (pP.mpr hi);rw [xr,dH hi,e] at this;exact this
  intro h i hi;have ZA:=pP.mp hi;rw [xr,dH ZA];exact h _ (qZ ZA)
 rw [e];exact⟨.bl _,H,I.kept (t':=tk) λb o' e'=>kk b o' (by simp;exact cw (bO e')) (cv _ e'),rfl,q⟩
section
variable {prog:Program}{w:World}{A:Around}{E:Value->Shared->Prop}{s:Shared}
def Ai {it l:Addr}{i:Nat}{items:Array Value}{x:Value}{Q:Value->Shared->Prop}(hit:s.heap.IsTupleIter it l i)(hl:s.heap.IsTuple l items)(hx:items[i]?=some x)
  (hQ:∀h',h'.IsTupleIter it l (i+1)->Heap.SameBut it s.heap h'->Q x { s with heap:=h' }):wpAny (model prog w) A (Builtin.SmallTypes.nextOf (.ref it)) Q E s:=by
 obtain⟨o,ho,hc,hd⟩:=id hit;obtain⟨ol,VT,_,nl,Q2⟩:=hl;unfold Builtin.SmallTypes.nextOf;refine aE (qR (name:=Str.ofString "__next__") hit.typeIs vF (mv vF hit.typeIs F.entry_tuple_iterator_next ?_ (F.args_tuple_iterator_next_1 _)));show wpAny _ _ (field (.ref it) 0 >>= λv=>_) _ _ s;refine aE (iG ho hd (x:=.ref l) (by rfl) ?_);show wpAny _ _ (if (Value.ref l == .none)=true then _ else _) _ _ s;rw [ay (by exact eG)];show wpAny _ _ (field (.ref it) 1 >>= λv=>_) _ _ s;refine aE (iG ho hd (x:=.int i 0) (by rfl) ?_);show wpAny _ _ (seqItems? (.ref l) >>= λv=>_) _ _ s;refine aE (qS VT Q2 (by
  simp only [kC,hx];refine aE (wpAny_setField ho hd (by simp) (aP ⟨x,rfl,aP (hQ _ ⟨_,Heap.get?_update_self _ ho (Obj.isFreed_of_fields (Obj.data_mapFields hd _)),(Obj.cls_mapFields ..).trans hc,?_⟩ (Heap.SameBut.update ..))⟩));rw [Obj.data_mapFields hd];simp [rawInt]))
def AN {e it l:Addr}{i:Nat}{items:Array Value}{x old:Value}{Q:Option Value->Shared->Prop}(he:IsEnum s.heap e it i old)(hit:s.heap.IsTupleIter it l i)(hl:s.heap.IsTuple l items)(hx:items[i]?=some x)(qI:e≠it)
  (hQ:∀h',IsEnumOut h' e it ((i:Int)+1) x s.heap.objs.size->h'.IsTupleIter it l (i+1)->h'.get? s.heap.objs.size=some { cls:=.type "tuple",data:=.seq #[.int i s.toks,x] } ->
   (∀b o,b≠e->b≠it->s.heap.get? b=some o->h'.get? b=some o)->Q (some (.ref s.heap.objs.size)) { s with heap:=h',toks:=s.toks+1 }) :
  wpAny (model prog w) A (pyNext (.ref e)) Q E s:=by
 have hT:s.TypeIs (.ref e) "enumerate" := ⟨_,he,rfl⟩;unfold pyNext;refine aE (wpAny_attempt (qR (name:=Str.ofString "__next__") hT vw (mv vw hT F.entry_enumerate_next ?_ (F.args_enumerate_next_1 _))));obtain⟨hp,g,d,tk,os⟩:=s;show wpAny _ _ (field (.ref e) 2 >>= λv=>_) _ _ _;refine aE (iG he rfl (x:=.ref it) (by rfl) (aE (Ai hit hl hx λh₁ V4 QH=>?_)));replace QH:Heap.SameBut it hp h₁:=QH;have Wa:IsEnum h₁ e it i old:=(QH.2 e qI).trans he;show wpAny _ _ (field (.ref e) 3 >>= λv=>_) _ _ ⟨h₁,g,d,tk,os⟩;refine aE (iG Wa rfl (x:=rawInt i) (by rfl) ?_);show wpAny _ _ (field (.ref e) 4 >>= λv=>_) _ _ ⟨h₁,g,d,tk,os⟩;refine aE (iG Wa rfl (x:=.none) (by rfl) ?_);show wpAny _ _ (mkInt i >>= λv=>_) _ _ ⟨h₁,g,d,tk,os⟩;refine aE (wpAny_mkInt ?_);show wpAny _ _ (setField (.ref e) 3 (rawInt ((i:Int)+1)) >>= λv=>_) _ _ ⟨h₁,g,d,tk+1,os⟩;refine aE (q_ Wa (by simp) λh₂ f₂ hs₂=>?_);have he₂:IsEnum h₂ e it ((i:Int)+1) old:=f₂;have k₂:Heap.SameBut e h₁ h₂:=hs₂;show wpAny _ _ (setField (.ref e) 4 .none >>= λv=>_) _ _ ⟨h₂,g,d,tk+1,os⟩;refine aE (q_ he₂ (by simp) λh₃ f₃ hs₃=>?_);have he₃:IsEnum h₃ e it ((i:Int)+1) old:=f₃;have k₃:Heap.SameBut e h₂ h₃:=hs₃;show wpAny _ _ (newTuple [.int i tk,x] >>= λv=>_) _ _ ⟨h₃,g,d,tk+1,os⟩;refine aE (wpAny_newTuple ?_);have SR:IsEnum (h₃.push { cls:=.type "tuple",data:=.seq #[.int i tk,x] }) e it ((i:Int)+1) old:=cv _ he₃;have hsz:h₃.objs.size=hp.objs.size:=by rw [k₃.1,k₂.1,QH.1]
 have QY:e < hp.objs.size:=bO he;have Zo:(h₃.push { cls:=.type "tuple",data:=.seq #[.int i tk,x] }).get? hp.objs.size=some { cls:=.type "tuple",data:=.seq #[.int i tk,x] }:=by rw [<-hsz];exact d0 _ rfl
 have Zw:∀b o,b≠e->b≠it->hp.get? b=some o->(h₃.push { cls:=.type "tuple",data:=.seq #[.int i tk,x] }).get? b=some o:=λb o n1 n2 hb=>cv _ (k₃.extBut b o n1 (k₂.extBut b o n1 (QH.extBut b o n2 hb)));have QU:(h₃.push { cls:=.type "tuple",data:=.seq #[.int i tk,x] }).IsTupleIter it l (i+1):=V4.at λo q=>cv _ (k₃.extBut it o (gC qI) (k₂.extBut it o (gC qI) q));generalize h₃.push { cls:=.type "tuple",data:=.seq #[.int i tk,x] }=h₄ at SR Zo Zw QU ⊢;rw [hsz];show wpAny _ _ (Builtin.SmallTypes.ownedTupleIsFree (.ref e) >>= λv=>_) _ _ ⟨h₄,g,d,tk+1,os⟩;refine aE (by
  unfold Builtin.SmallTypes.ownedTupleIsFree;refine aE (iG SR rfl (x:=.none) (by rfl) (aP (by
   simp only [if_true];refine aE (wpAny_rule (aE (iG SR rfl (x:=old) (by rfl) (aE (q_ SR (by simp) λh₅ f₅ hs₅=>?_)))));have he₅:IsEnum h₅ e it ((i:Int)+1) x:=f₅;have k₅:Heap.SameBut e h₄ h₅:=hs₅;show wpAny _ _ (Builtin.SmallTypes.ownedTupleHandOut (.ref e) (.ref hp.objs.size) >>= λv=>_) _ _ ⟨h₅,g,d,tk+1,os⟩;refine aE (by
    unfold Builtin.SmallTypes.ownedTupleHandOut;refine aE (q_ he₅ (by simp) λh₆ f₆ hs₆=>?_);have he₆:IsEnumOut h₆ e it ((i:Int)+1) x hp.objs.size:=f₆;have k₆:Heap.SameBut e h₅ h₆:=hs₆;refine q_ he₆ (by simp) λh₇ f₇ hs₇=>?_;have he₇:IsEnumOut h₇ e it ((i:Int)+1) x hp.objs.size:=f₇;have k₇:Heap.SameBut e h₆ h₇:=hs₇;have up:∀b o,b≠e->h₄.get? b=some o->h₇.get? b=some o:=λb o n q=>k₇.extBut b o n (k₆.extBut b o n (k₅.extBut b o n q));exact aE (wpAny_letGo (aP ⟨_,rfl,aP (hQ h₇ he₇ (QU.at λo q=>up it o (gC qI) q) (up _ _ (lV QY) Zo) λb o n1 n2 q=>up b o n1 (Zw b o n1 n2 q))⟩)))))))
def rZ {it l:Addr}{i:Nat}{items:Array Value}{Q:Value->Shared->Prop}(hh:A.handled=none)(hit:s.heap.IsTupleIter it l i)(hl:s.heap.IsTuple l items)(hx:items[i]?=none)
  (hE:∀h' e,Heap.ExtBut it s.heap h'->(∃o,h'.get? e=some o/\o.cls=.type "StopIteration")->E (.ref e) { s with heap:=h' }):wpAny (model prog w) A (Builtin.SmallTypes.nextOf (.ref it)) Q E s:=by
 obtain⟨o,ho,hc,hd⟩:=id hit;obtain⟨ol,VT,_,nl,Q2⟩:=hl;unfold Builtin.SmallTypes.nextOf;refine aE (qR (name:=Str.ofString "__next__") hit.typeIs vF (mv vF hit.typeIs F.entry_tuple_iterator_next ?_ (F.args_tuple_iterator_next_1 _)));show wpAny _ _ (field (.ref it) 0 >>= λv=>_) _ _ s;refine aE (iG ho hd (x:=.ref l) (by rfl) ?_);show wpAny _ _ (if (Value.ref l == .none)=true then _ else _) _ _ s;rw [ay (by exact eG)];show wpAny _ _ (field (.ref it) 1 >>= λv=>_) _ _ s;refine aE (iG ho hd (x:=.int i 0) (by rfl) ?_);show wpAny _ _ (seqItems? (.ref l) >>= λv=>_) _ _ s;refine aE (qS VT Q2 ?_);simp only [kC,hx];refine aE (wpAny_rule (aE (wpAny_setField ho hd (by simp) (aE ?_))));simp only [newExc,newTuple];refine aE (jr ?_ (by size_fits));refine aE (m:=firstArgMember _ _) (wpAny_of_eq (a:=Value.none) (by first | rfl | (simp only [firstArgMember];rfl)) ?_)
 refine jr ?_ (by size_fits);simp only [raiseNew];refine aE (wpAny_handled ?_)
 first | rw [show A.in1.handled=none from hh] | rw [hh]
 refine aE (aP (wpAny_throw (hE _ _ (((Heap.SameBut.update ..).extBut.push _).push _) ⟨_,d0 _ rfl,rfl⟩)))
def Dx {e it l:Addr}{i:Nat}{items:Array Value}{old:Value}{Q:Option Value->Shared->Prop}(hh:A.handled=none)(he:IsEnum s.heap e it i old)(hit:s.heap.IsTupleIter it l i)(hl:s.heap.IsTuple l items)(hx:items[i]?=none)
  (hQ:∀h',Heap.ExtBut it s.heap h'->Q none { s with heap:=h' }):wpAny (model prog w) A (pyNext (.ref e)) Q E s:=by
 have hT:s.TypeIs (.ref e) "enumerate" := ⟨_,he,rfl⟩;unfold pyNext;refine aE (wpAny_attempt (qR (name:=Str.ofString "__next__") hT vw (mv vw hT F.entry_enumerate_next ?_ (F.args_enumerate_next_1 _))));show wpAny _ _ (field (.ref e) 2 >>= λv=>_) _ _ _;refine aE (iG he rfl (x:=.ref it) (by rfl) (aE (rZ hh hit hl hx λh' x Az VA=>?_)));obtain⟨o,ho,hc⟩:=VA;exact aE (wpAny_isInstance (T := "StopIteration") (b:=true) ⟨o,ho,hc⟩ isSubtype_stop (aP (hQ _ Az)))
end
def yf (l:Addr)(items:Array Value) (n:Nat)(AR:Option Addr)(sl:Array (Option Value)) :
  Meets (Builtin.«enumerate.__new__» ⟨[.type "enumerate",.ref l],[]⟩) (λ_ R s=>s.heap.get? l=some { cls:=.type "tuple",dict:=AR,data:=.seq items n,slots:=sl } /\
   R (.ok (.ret (.ref (s.heap.push { cls:=.type "tuple_iterator",data:=.fields #[.ref l,.int 0 0] }).objs.size)))
    { s with heap:=(s.heap.push { cls:=.type "tuple_iterator",data:=.fields #[.ref l,.int 0 0] }).push { cls:=.type "enumerate",data:=.fields #[.none,.bool false,.ref s.heap.objs.size,rawInt 0,.none,.none] } }) :=
 .of_wp λprog w A R s h=>by
  obtain⟨hp,g,d,tk,os⟩:=s;obtain⟨hl,h⟩:=h;have aal:=sub_enumerate;have hT:Heap.IsTuple (Shared.heap ⟨hp,g,d,tk,os⟩) l items:=⟨_,hl,rfl,n,rfl⟩
  wp_walk using vC hl
  refine wpAny_stack_any λst=>aP ?_;split
  .rename_i c _ _ _ _ _
   cases (c == Value.type "enumerate")
   .wp_walk using vC hl,vh hT;exact⟨_,rfl,h⟩
   wp_walk using vC hl,vh hT;exact⟨_,rfl,h⟩
  wp_walk using vC hl,vh hT;exact⟨_,rfl,h⟩
section
variable {prog:Program}{w:World}{A:Around}{E:Value->Shared->Prop}{s:Shared}
def AU {l:Addr}{items:Array Value}{Q:Value->Shared->Prop}(hL:s.heap.IsTuple l items)
  (h:∀h',IsEnum h' (s.heap.objs.size+1) s.heap.objs.size 0 .none->h'.IsTupleIter s.heap.objs.size l 0->(∀b o,s.heap.get? b=some o->h'.get? b=some o)->Q (.ref (s.heap.objs.size+1)) { s with heap:=h' }) :
  wpAny (model prog w) A (call (.type "enumerate") [.ref l]) Q E s:=by
 obtain⟨⟨c,AR,dt,sl⟩,hl,hc,n,hd⟩:=hL;replace hc:c=.type "tuple" := hc;replace hd:dt=.seq items n:=hd;subst hc hd;refine callType_new F.called_enumerate nofun (F.typeCall_enumerate_1 _) (F.newCall_enumerate_1 _) (λobj=>F.args_object_init_2 obj _) F.entry_enumerate_new (yf l items n AR sl) ⟨hl,?_⟩;have hz:(s.heap.push { cls:=.type "tuple_iterator",data:=.fields #[.ref l,.int 0 0] }).objs.size=s.heap.objs.size+1:=oK ..;show _/\_;rw [hz];have he:IsEnum ((s.heap.push { cls:=.type "tuple_iterator",data:=.fields #[.ref l,.int 0 0] }).push { cls:=.type "enumerate",data:=.fields #[.none,.bool false,.ref s.heap.objs.size,rawInt 0,.none,.none] }) (s.heap.objs.size+1) s.heap.objs.size 0 .none:=by
  have:=d0 (s.heap.push { cls:=.type "tuple_iterator",data:=.fields #[.ref l,.int 0 0] }) (o:={ cls:=.type "enumerate",data:=.fields #[.none,.bool false,.ref s.heap.objs.size,rawInt 0,.none,.none] }) rfl;rw [hz] at this;exact this
 exact⟨⟨_,he,rfl⟩,h _ he ⟨_,cv _ (d0 _ rfl),rfl,rfl⟩ λb o x=>cv _ (cv _ x)⟩
end
def tL (K:ba)(a:Addr):It :=
 ⟨λi H=>∃xs x,aS K H a xs/\xs[i]?=some x,λi H x H'=>∃t y,x=.ref t/\H t=none/\H'=upd H t (.tup [.int (i:Int),y])/\∀xs,aS K H a xs->xs[i]?=some y,λi H=>∃xs,aS K H a xs/\xs.length<=i⟩
def zy {P:Program}{w:World}{K:ba}{elts:List Expr}{k:Nat}{vJ:Pos}(a e it:Addr)(QZ:e≠it) :
  Turn P w K (.Tuple elts k vJ) (tL K a) [e,it] e (λi h=>(∃old,IsEnum h e it i old)/\h.IsTupleIter it a i) where
 mem:=by simp
 obj:=λi h st b hb=>by
  obtain⟨⟨old,he⟩,o,e1,c,d⟩:=st;rcases bX.mp hb with rfl | hb
  .exact⟨_,he,λv z=>by cases z⟩
  obtain rfl:b=it:=by simpa using hb
  exact⟨o,e1,λv z=>by rw [d] at z;cases z⟩
 keep:=λi h h' st k=>⟨⟨st.1.choose,k e (by simp) _ st.1.choose_spec⟩,st.2.at λo q=>k it (by simp) o q⟩
 item:=by
  intro X hP hw hK hc i ah s σ H E I hf st hg;subst hP hw hK;obtain⟨xs,x,hq,hx⟩:=hg;obtain⟨aT,rv,p,hz⟩:=I.tuple hq;obtain⟨u,hu,ru⟩:=rv.get hx;obtain⟨⟨old,he⟩,hit⟩:=st;refine AN he hit (show s.heap.IsTuple a aT.toArray from p) (x:=u) (by simpa using hu) QZ λh1 ho M7 hT hk=>?_;refine⟨_,rfl,wpAny_letOwnedTupleGo_enum ho λh2 Wb sb=>?_⟩;have ne:s.heap.objs.size≠e:=lV (bO he);have kk:∀b o,b≠e->b≠it->s.heap.get? b=some o->h2.get? b=some o:=λb o n1 n2 q=>(sb.2 b n1).trans (hk b o n1 n2 q);have T2:h2.get? s.heap.objs.size=some { cls:=.type "tuple",data:=.seq #[.int i s.toks,u] }:=(sb.2 _ ne).trans hT;have fe:=hf e (by simp);have fi:=hf it (by simp);have fT:H s.heap.objs.size=none:=I.cx.fresh (aF _);have tr:∀b v,H b=some v->b≠e/\b≠it:=λb v q=>⟨λz=>(by rw [z,fe.1] at q;cases q),λz=>(by rw [z,fi.1] at q;cases q)⟩;have nc:∀b,b∉[e,it]->b≠e/\b≠it:=λb z=>⟨λq=>z (by simp [q]),λq=>z (by simp [q])⟩;have lt:∀b o,s.heap.get? b=some o->b≠s.heap.objs.size:=λb o q=>cw (bO q);have I2:Inv X ah σ (upd H s.heap.objs.size (.tup [.int (i:Int),x])) { s with heap:=h2,toks:=s.toks+1 }:=by
   refine I.call (g':=s.gens) (t':=s.toks+1) (d':=s.drawn) (ch:=[e,it]) ⟨λb o q _ _ c=>kk b o (nc b c).1 (nc b c).2 q,λb o q _ _ c=>⟨o.slots,kk b o (nc b c).1 (nc b c).2 q⟩,
    λb o q n _=>by rw [aj (lt b o q)];exact n,λb o q c=>⟨o,kk b o (nc b c).1 (nc b c).2 q⟩,λb ys q=>by rw [aj (aw q fT)];exact q,λb o v q=>by rw [aj (aw q fT)];exact q,
    λb ps q=>⟨#[],by rw [aj (aw q fT),q];simp⟩⟩ (λb v q=>?_) I.bare (λb hb=>?_)
   .by_cases hb:b=s.heap.objs.size
    .subst hb;rw [ae] at q;cases q;exact⟨by show 2<=sizeLine;decide,[.int i s.toks,u],.cons ⟨_,rfl⟩ (.cons ru .nil),_,T2,rfl,_,rfl⟩
    rw [aj hb] at q;refine(I.cx b v q).kP (λc o lR z=>?_) (λc q'=>by rw [aj (aw q' fT)];exact q') λc ys q'=>by rw [aj (aw q' fT)];exact q'
    rcases lR with rfl | lR
    .exact kk c o (tr c _ q).1 (tr c _ q).2 z
    exact kk c o (tr c _ lR).1 (tr c _ lR).2 z
   rcases bX.mp hb with rfl | hb
   .exact⟨fe.2.2.2.1,fe.2.1,fe.2.2.2.2.1,fe.2.2.2.2.2⟩
   obtain rfl:b=it:=by simpa using hb
   exact⟨fi.2.2.2.1,fi.2.1,fi.2.2.2.2.1,fi.2.2.2.2.2⟩
  refine⟨.ref s.heap.objs.size,_,I2,rfl,⟨_,x,rfl,fT,rfl,λys hy=>by rw [I.uh hy hq];exact hx⟩,⟨⟨_,Wb⟩,M7.at λo q=>(sb.2 it QZ.symm).trans q⟩,λb hb=>?_⟩;have Ip:H b=none/\∃o,s.heap.get? b=some o:=by
   rcases bX.mp hb with rfl | hb
   .exact⟨fe.1,_,he⟩
   obtain rfl:b=it:=by simpa using hb
   obtain⟨o,q,_⟩:=hit;exact⟨fi.1,o,q⟩
  obtain⟨n,o,q⟩:=Ip;rw [aj (lt b o q)];exact n
 done:=by
  intro X hP hw hK hc i ah s σ H E I hf st hg;subst hP hw hK;obtain⟨xs,hq,hx⟩:=hg;obtain⟨aT,rv,p,hz⟩:=I.tuple hq;obtain⟨⟨old,he⟩,hit⟩:=st;obtain⟨f0,f1,f2,f3,f4,f5⟩:=hf it (by simp);have hl:=rv.length;exact Dx (I.ok.hd hc) he hit (show s.heap.IsTuple a aT.toArray from p) (by simp;omega) λh' eb=>⟨rfl,I.turned (t':=s.toks) (λb o hb e=>eb b o hb e) f0 f1 f3 f4 f5⟩
 self:=λ_ _ _ _ _ st h=>wpAny_pyIter_enum st.1.choose_spec h
def MU (K:ba)(ta:TA):TI:=λσ H R=>ta σ H λvs H1=>XS vs (aS K H1) λa=>R (tL K a) H1
def nQ {X:Cx}{elts:List Expr}{k:Nat}{vJ:Pos}{l:Expr}{ta:TA}{p pos:Pos}(hg:Gl X "enumerate")(hm:X.mg "enumerate"=none)(ha:PA X [l] ta)(hs:starEach [l] X.env=[(false,eval l X.env)]:=by rfl) :
  PI X (.Tuple elts k vJ) (.Call (.Name "enumerate" p) [l] [] pos) (MU X.K ta):=by
 intro ah s σ H R I h;refine Call_ (jW I hg hm uX (vG (cR (ha pos ah s σ H _ I h) λus s1 bG=>?_) hs rfl));obtain⟨vs,H1,I1,r1,q1⟩:=bG;obtain⟨a,xs,e,hq,q⟩:=q1;subst e;obtain⟨u,rfl,rx⟩:=r1.one;cases rx;obtain⟨aT,rv,pl,hz⟩:=I1.tuple hq;refine AU (show s1.heap.IsTuple a aT.toArray from pl) λh1 he hit hk=>wpAny_pyIter_enum he ?_;refine⟨s1.heap.objs.size+1,[s1.heap.objs.size+1,s1.heap.objs.size],_,_,H1,rfl,I1.kept (t':=s1.toks) λb o e=>hk b o e,zy a _ _ (lV (pS _)),⟨⟨_,he⟩,hit⟩,λb hb=>?_,q⟩;rcases bX.mp hb with rfl | hb
 .exact I1.wO (mf _) (I1.cx.fresh (mf _))
 obtain rfl:b=s1.heap.objs.size:=by simpa using hb
 exact I1.wO (aF _) (I1.cx.fresh (aF _))
open PySem PySem.Spec PyProof.Rows PySem.W
def kc (c':Addr)(qual:Str):HO:=.ext λh=>h.CodeRec (.ref c') qual
def pq (f:Addr)(o:Obj):HO:=.ext λh=>h.get? f=some o
def yF {P:Program}{w:World}{H:Hp}{h:Heap}{c':Addr}{qual:Str}(hr:h.CodeRec (.ref c') qual):cS P w H h c' (kc c' qual):=by
 obtain⟨c2,oc,vs,t,e,yZ,hd,hv⟩:=id hr;cases e;exact⟨hr,⟨oc,yZ⟩,λh1 h2 ⟨c3,oc3,vs3,t3,e3,VW,jj,Ot⟩ k=>by cases e3;exact⟨_,oc3,vs3,t3,rfl,k _ VW,jj,Ot⟩⟩
def qG {P:Program}{w:World}{H:Hp}{h:Heap}{f:Addr}{o:Obj}(e:h.get? f=some o):cS P w H h f (pq f o):=⟨e,⟨o,e⟩,λ_ _ q k=>k _ q⟩
def Tab (T:Addr)(pos:Pos)(qual:Str)(H:Hp):Prop :=
 ∃ps,H T=some (.tO ps)/\TriplesOk ps.toList/\(codeAmong pos ps.toList=none\/∃c',codeAmong pos ps.toList=some (.ref c')/\H c'=some (kc c' qual))
def cX (T:Addr)(H H':Hp):Prop:=∀b o,b≠T->H b=some o->H' b=some o
def tM (mg:Str->Option Value)(base:Heap):Prop :=
 ∃bm o,mg "__builtins__"=some (.ref bm)/\bm≠builtinsNs/\bm≠mainGlobals/\base.get? bm=some o/\o.cls=.type "module" /\ o.dict=some builtinsNs/\o.data=.plain
theorem jO {a b:Int}{ta tb:Tok}{c:Value}:∀l:List Value,TriplesOk l->TriplesOk (l++[.int a ta,.int b tb,c])
 | [],_=>trivial
 | [x],h=>by cases x <;> exact h.elim
 | [x,y],h=>by cases x <;> cases y <;> exact h.elim
 | x::y::z::r,h=>by
  cases x with
  | int i ti =>
   cases y with
   | int j tj=>exact jO r h
   | _=>exact h.elim
  | _=>exact h.elim
section
variable {X:Cx}{params:Arguments}{body:Expr}{scope:Scope}{pos:Pos}{c T:Addr}
abbrev mF (X:Cx)(params:Arguments)(body:Expr)(scope:Scope)(c':Addr)(gW:Value):Obj:=kla_obj "<lambda>" (X.env.qual ++ "<lambda>") params body scope [] ((X.mg "__name__").getD .none) c' gW
def Ud (X:Cx)(params:Arguments)(body:Expr)(scope:Scope)(pos:Pos)(T:Addr):TE:=λσ H Q=>Tab T pos (X.env.qual ++ "<lambda>") H /\
 ∀f c' gW H',cX T H H'->Tab T pos (X.env.qual ++ "<lambda>") H'->H f=none->H' f=some (pq f (mF X params body scope c' gW))->H' c'=some (kc c' (X.env.qual ++ "<lambda>"))->Q (.ref f) H'
def Fu (su:X.env.code=.ref c)(hC:codeHdIn X.K c T=true)(hB:tM X.mg X.base)(n8:∀y∈scope.names,y.2≠.free)(GO:defaultsOf params X.env=([],[]):=by rfl):PE X (.Lambda params body scope pos) (Ud X params body scope pos T):=by
 intro ah s σ H Q I h;obtain⟨⟨ps,hT,ht,GU⟩,q⟩:=h;refine kla_eval GO ?_;have Ni:s.heap.get? T=some (tabObj ps):=(show cS X.prog X.w H s.heap T (.tO ps) from I.cx T _ hT);have hg:=I.mod.glob.keeps I.bk;have C:=codeHd_of_K I.wG hC;obtain⟨bm,ob,b1,b2,b3,b4,b5,b6,b7⟩:=hB;have XA:=I.bk _ _ b4;have U5:bm≠T:=λz=>by
  have:=(I.bs _ _ b4).2;rw [z,hT] at this;cases this
 have U2:mainGlobals≠T:=λz=>by
  obtain⟨o,es,ep,e,d,_⟩:=hg;rw [z,Ni] at e;cases e;cases d
 have Q_:s.heap.BuiltinsAt X.mg T:=⟨bm,ob,b1,b2,b3,U5,XA,b5,b6,b7⟩;have Ia:∀b v,H b=some v->b < s.heap.objs.size:=λb v e=>I.cx.lt e;rcases GU with QR | ⟨c',hf,lR⟩
 .refine kla_makeFunction (closureFor_none n8) I.ok.glob hg su C Ni ht QR U2 Q_ λc' gW h' tk hx Na kn Gv QE=>?_;have hcr:∃oc,h'.get? c'=some oc:=by
   obtain⟨c2,oc,vs,t,e,yZ,_⟩:=Gv;cases e;exact⟨oc,yZ⟩
  have so:h'.objs.size > s.heap.objs.size:=rh Na kn;have keep:∀b o,b≠T->s.heap.get? b=some o->(h'.push (mF X params body scope c' gW)).get? b=some o:=λb o n e=>cv _ (hx b o n e)
  let H':Hp:=upd (upd (upd H T (.tO (ps++#[rawInt pos.line,rawInt pos.col,.ref c']))) c' (kc c' (X.env.qual ++ "<lambda>"))) h'.objs.size (pq h'.objs.size (mF X params body scope c' gW))
  have An:∀b v,H b=some v->b≠c'/\b≠h'.objs.size:=λb v e=>⟨cw (gM (Ia b v e) Na),cw (mj (Ia b v e) so)⟩;have U4:c'≠h'.objs.size:=cw kn;have P_:=An T _ hT;have eT:H' T=some (.tO (ps++#[rawInt pos.line,rawInt pos.col,.ref c'])):=by
   show upd (upd (upd H T _) c' _) h'.objs.size _ T=_;rw [aj P_.2,aj P_.1,ae]
  have ec:H' c'=some (kc c' (X.env.qual ++ "<lambda>")):=by
   show upd (upd (upd H T _) c' _) h'.objs.size _ c'=_;rw [aj U4,ae]
  have ef:H' h'.objs.size=some (pq h'.objs.size (mF X params body scope c' gW)):=ae;have eo:∀b,b≠T->b≠c'->b≠h'.objs.size->H' b=H b:=λb n1 n2 n3=>by
   show upd (upd (upd H T _) c' _) h'.objs.size _ b=_;rw [aj n3,aj n2,aj n1]
  have sT:cX T H H':=λb o n e=>by rw [eo b n (An b o e).1 (An b o e).2];exact e
  have I2:Inv X ah σ H' { s with heap:=h'.push (mF X params body scope c' gW),toks:=tk }:=by
   refine I.call (g':=s.gens) (t':=tk) (d':=s.drawn) (ch:=[]) ⟨λb o e n _ _=>keep b o (λz=>by rw [z,hT] at n;cases n) e,λb o e n _ _=>⟨o.slots,keep b o (λz=>by rw [z,hT] at n;cases n) e⟩,λb o e n _=>?_,λb o e _=>?_,λb xs e=>?_,λb o u e=>?_,λb BG e=>?_⟩ (λb v e=>?_) I.bare (λb hb=>nomatch hb)
   .have lb:=bO e;rw [eo b (λz=>by rw [z,hT] at n;cases n) (cw (gM lb Na)) (cw (mj lb so))];exact n
   .by_cases z:b=T
    .exact⟨_,by rw [z];exact cv _ QE⟩
    exact⟨o,keep b o z e⟩
   .exact sT b _ (λz=>by rw [z,hT] at e;cases e) e
   .exact sT b _ (λz=>by rw [z,hT] at e;cases e) e
   .by_cases z:b=T
    .subst z;rw [hT] at e;cases e;exact⟨_,eT⟩
    exact⟨#[],by rw [Array.append_empty];exact sT b _ z e⟩
   by_cases z1:b=h'.objs.size
   .subst z1;rw [ef] at e;cases e;exact qG (d0 _ rfl)
   by_cases z2:b=c'
   .subst z2;rw [ec] at e;cases e;refine yF ?_;obtain⟨c2,oc,vs,t,e',yZ,hd,hv⟩:=Gv;cases e';exact⟨_,oc,vs,t,rfl,cv _ yZ,hd,hv⟩
   by_cases z3:b=T
   .subst z3;rw [eT] at e;cases e;exact cv _ QE
   rw [eo b z3 z2 z1] at e;refine(I.cx b v e).kP (λd o Dk e'=>?_) (λd e'=>sT d _ (λz=>by rw [z,hT] at e';cases e') e') λd ys e'=>sT d _ (λz=>by rw [z,hT] at e';cases e') e';rcases Dk with rfl | Dk
   .exact keep d o z3 e'
   exact keep d o (λz=>by rw [z,hT] at Dk;cases Dk) e'
  have fresh:H h'.objs.size=none:=I.cx.fresh (kJ so);exact⟨.ref h'.objs.size,H',I2,rfl,q _ c' gW H' sT ⟨_,eT,by rw [vv];exact jO _ ht,.inr ⟨c',by rw [vv];exact codeAmong_snoc _ ht QR,ec⟩⟩ fresh ef ec⟩
 refine kla_makeFunctionHit (closureFor_none n8) I.ok.glob hg su C Ni ht hf Q_ λgW h' tk hk hsz=>?_;have keep:∀b o,s.heap.get? b=some o->(h'.push (mF X params body scope c' gW)).get? b=some o:=λb o e=>cv _ (hk b o e);have fresh:H h'.objs.size=none:=I.cx.fresh hsz;refine⟨.ref h'.objs.size,_,I.laid (a:=h'.objs.size) (o:=pq h'.objs.size (mF X params body scope c' gW)) (t':=tk) keep hsz (qG (d0 _ rfl)),rfl,?_⟩;refine q _ c' gW _ (λb o _ e=>by rw [aj (aw e fresh)];exact e) ⟨ps,by rw [aj (aw hT fresh)];exact hT,ht,.inr ⟨c',hf,by rw [aj (aw lR fresh)];exact lR⟩⟩ fresh ae (by rw [aj (aw lR fresh)];exact lR)
end
section
variable {P:Program}{w:World}{K:Frag}{mg:Str->Option Value}{base:Heap}{f c':Addr}{q:Str}{params:Arguments}{body:Expr}{scope:Scope}{pm gW:Value}{N ps:List Str}{k:Nat}{te:TE}
def JI (S:aK N ps scope)(og:∀us:List Value,us.length=ps.length->bindArgs (kla_fn "<lambda>" q params body scope [] pm (.ref c') gW) ⟨us,[]⟩=pure (ps.zip us))
  (jB:∀(A:Around)(outer:List Env)(s:Shared)(H:Hp),PE (pJ gp P w K mg base N q scope f (.ref c') A outer s H λ_ _ _=>False) body te)
  (A:Around)(outer:List Env)(s:Shared)(H:Hp)(us:List Value)(vs:List V)(Q:VK)(hr:fY (k+1) A)(e0:qx P w K mg base A outer s H)(hf:H f=some (pq f (kla_obj "<lambda>" q params body scope [] pm c' gW)))
  (hc:H c'=some (kc c' q))(rv:bf vs us)(hl:vs.length=ps.length)(h:te (start N vs) H Q):codeAny (model P w) A (.call (.ref f) ⟨us,[]⟩) (CR gp outer P w H s Q λ_ _ _=>False) s:=by
 obtain⟨ef,_⟩:=e0.cx f _ hf;obtain⟨ec,_⟩:=e0.cx c' _ hc;have lu:us.length=ps.length:=by rw [<-rv.length];exact hl
 have lim:s.heap.NoLimit:=e0.mod.nolimit.keeps λb o e=>(e0.bs b o e).1;have jz:∀y∈ps.zip us,scope.names.lookup y.1=some .local\/(scope.names.lookup y.1=some .cell/\((cellsFrom (s.heap.objs.size+1) scope.names []).lookup y.1).isSome=true):=λ⟨n,v⟩ hy=>by
  rcases S.par n (List.of_mem_zip hy).1 with z | z
  .exact .inl z
  exact .inr ⟨z,cellsFrom_some _ _ _ (.inl z)⟩
 refine kla_callFunE hr.depth ef rfl S.co S.gen rfl ec ?_;rw [og us lu];refine aP (wpAny_newFunctionEnv_cells S.kind jz λenv he s1 x=>?_);subst he;refine⟨lim.keeps x.toInCall.keep,kla_codeExpr ?_⟩;have I:Inv (pJ gp P w K mg base N q scope f (.ref c') A outer s H λ_ _ _=>False) [] (start N vs) H s1:=uI S hr.hd e0 hl rv x;refine dM (jB A outer s H [] s1 (start N vs) H _ I h) (λv s' bG=>?_) λe s' z=>z;obtain⟨y,H',J,r,z⟩:=bG;exact⟨y,H',J.os,J.bare,J.base,J.cx,r,z⟩
end
section
variable {X:Cx}{i:Nat}{x:Str}{e:Expr}{es:List Expr}{t:TA}{p pos:Pos}{q:Str}{params:Arguments}{body:Expr}{scope:Scope}{N ps:List Str}{k:Nat}{te:TE}
def Ez (i:Nat)(q:Str)(params:Arguments)(body:Expr)(scope:Scope) (N ps:List Str)(t:TA)(te:TE):TE:=λσ H Q=>∃f pm c' gW,σ[i]?=some (some (.ref f)) /\
 t σ H λvs H1=>H1 f=some (pq f (kla_obj "<lambda>" q params body scope [] pm c' gW))/\H1 c'=some (kc c' q)/\vs.length=ps.length/\te (start N vs) H1 Q
def z9 (hN:X.N[i]?=some x)(hx:X.env.scope.names.lookup x=some .local)(S:aK N ps scope)(hr:fY (k+1) X.A)
  (og:∀(pm gW:Value)(c':Addr)(us:List Value),us.length=ps.length->bindArgs (kla_fn "<lambda>" q params body scope [] pm (.ref c') gW) ⟨us,[]⟩=pure (ps.zip us))
  (jB:∀(f c':Addr)(A:Around)(outer:List Env)(s:Shared)(H:Hp),PE (pJ gp X.prog X.w X.K X.mg X.base N q scope f (.ref c') A outer s H λ_ _ _=>False) body te)(ha:PA X (e::es) t)
  (Dj:(x == ("__debug__":Str))=false:=by decide)(he:starEach (e::es) X.env=(false,eval e X.env)::starEach es X.env:=by rfl)(BS:(backTo pos (starEach es X.env)).any (·.1)=false:=by rfl) :
  PE X (.Call (.Name x p) (e::es) [] pos) (Ez i q params body scope N ps t te):=by
 intro ah s σ H Q I h;obtain⟨f,pm,c',gW,hσ,h⟩:=h;obtain⟨m,hn,hl⟩:=I.loc;obtain⟨u,ru,lk⟩:=hl i x (.ref f) hN hσ (.inl hx);cases (show u=Value.ref f from ru);have hm:m x=some (.ref f):=by
  rcases lk with l | ⟨l,_⟩
  .exact l.2
  have l':X.env.scope.names.lookup x=some .cell\/X.env.scope.names.lookup x=some .free:=l;rw [hx] at l';rcases l' with l' | l' <;> cases l'
 refine qO (wpAny_Name (vq I.ok.kind hx hn hm ?_) Dj);refine callWith_def (o:=kla_obj "<lambda>" q params body scope [] pm c' gW) rfl (cR (ha pos ah s σ H _ I h) λus s1 bG=>?_) he;obtain⟨vs,H1,I1,r,z1,z2,z3,z4⟩:=bG;obtain⟨ef,_⟩:=I1.cx f _ z1;refine⟨ef,wpAny_call (oG (JI (k:=k) S (λus hl=>og pm gW c' us hl) (jB f c') X.A X.stack s1 H1 us vs Q hr I1.NB z1 z2 r z3 z4) λr' s' z=>?_)⟩;cases r' with
 | error e=>exact z.elim
 | ok fl =>
  cases fl with
  | ret u=>exact I1.after z
  | next=>exact z.elim
  | brk=>exact z.elim
  | cont=>exact z.elim
end
def HQ (ts:List Addr)(H:Hp):Prop:=∀b,H b=none\/(∃o xs,H b=some (.kr o (.lst xs)))\/(b∈ts/\H b=some (.tO #[]))
def C5 {P:Program}{w:World}{K:Frag}{mg mb:Str->Option Value}{CX:zg}{k:Nat}{fa a:Addr}{fd:FuncData}{x:Str}{sp:Sp}{s₁:Shared}{vs:List Value}{ns:List Int}{ts:List Addr}
  (KX:K.In s₁.heap)(xj:s₁.heap.Ns mainGlobals mg)(hb:s₁.heap.Ns builtinsNs mb)(Nh:∀x:Str,x ≠ "__name__" -> mb x=bootBuiltins x)(M6:s₁.heap.NoLimit)
  (hbm:∃bm ob,mg "__builtins__"=some (.ref bm)/\bm≠builtinsNs/\s₁.heap.get? bm=some ob/\ob.cls=.type "module" /\ ob.dict=some builtinsNs/\ob.data=.plain)(hg:s₁.gens=#[])
  (MV:∀T∈ts,s₁.heap.get? T=some (tabObj #[])/\K.lookup T=none/\∃c,codeHdIn K c T=true)
  (ha:s₁.heap.get? a=some { cls:=.type "list",data:=.seq vs.toArray })(hi:IntsAre vs ns)(hl:ns.length<=sizeLine)(hr:fY k callerA)
  (F:∀base:Heap,K.In base->base.Ns mainGlobals mg->tM mg base->bS P w K mg base CX k fa fd [x] sp)(og:∀(s:Shared)(u:Value),BindsTo s fd ⟨[u],[]⟩ [(x,u)])
  (yY:∀H:Hp,HQ ts H->(∀T∈ts,H T=some (.tO #[]))->aH K H a (ns.map V.int)->sp [.ref a] H (λv _=>v=.bl true) λ_ _ _=>False)
  (Nm:∀H e s',CX [] H s₁ (λ_ _ _=>False) e s'->False) :
  codeAny (model P w) callerA (.call (.ref fa) ⟨[.ref a],[]⟩) (λr s'=>r=.ok (.ret (.bool true))/\OldK s₁.heap s'.heap/\s'.os=s₁.os/\AllBare s'.gens) s₁:=by
 have rv:=oZ hi;have MK:=hi.length;have core:∀H:Hp,HQ ts H->(∀T∈ts,H T=some (.tO #[]))->aH K H a (ns.map V.int)->me P w H s₁.heap->(∀b,H b≠none->b=a\/b∈ts)->(H a≠none->K.lookup a=none) ->
   codeAny (model P w) callerA (.call (.ref fa) ⟨[.ref a],[]⟩) (λr s'=>r=.ok (.ret (.bool true))/\OldK s₁.heap s'.heap/\s'.os=s₁.os/\AllBare s'.gens) s₁:=by
  intro H hO hT hS cx hA hK;have lK:∀{b:Addr}{o:Obj},s₁.heap.get? b=some o->H b=none->(mK s₁.heap H).get? b=some o:=λe n=>yl e n;have off:∀{b:Addr}{o:Obj},s₁.heap.get? b=some o->(∀aT n,o.data≠.seq aT n)->(∀fs,o.data≠.fields fs)->H b=none:=λ{b o} e d1 d2=>by
   cases q:H b with
   | none=>rfl
   | some u =>
    rcases hA b (by rw [q];simp) with e' | e'
    .subst e';rw [ha] at e;cases e;exact(d1 _ _ rfl).elim
    rw [(MV b e').1] at e;cases e;exact(d2 _ rfl).elim
  have JB:∀{b:Addr}{m:Str->Option Value},s₁.heap.Ns b m->(mK s₁.heap H).Ns b m:=λ{b m} ⟨o,es,ep,e,d,r⟩=>⟨o,es,ep,lK e (off e (λ_ _ z=>by rw [d] at z;cases z) λ_ z=>by rw [d] at z;cases z),d,r⟩;have Q8:K.In (mK s₁.heap H):=λb o e=>lK (KX b o e) (by
   cases q:H b with
   | none=>rfl
   | some u =>
    rcases hA b (by rw [q];simp) with e' | e'
    .subst e';rw [hK (by rw [q];simp)] at e;cases e
    rw [(MV b e').2.1] at e;cases e)
  have hM:Mod K mg (mK s₁.heap H):=⟨Q8,JB xj,⟨mb,JB hb,Nh⟩,let ⟨mc,h1,h2⟩:=M6;⟨mc,JB h1,h2⟩⟩;have Q9:tM mg (mK s₁.heap H):=by
   obtain⟨bm,ob,b1,b2,b3,b4,b5,b6⟩:=hbm;refine⟨bm,ob,b1,b2,λz=>?_,lK b3 (off b3 (λ_ _ z=>by rw [b6] at z;cases z) λ_ z=>by rw [b6] at z;cases z),b4,b5,b6⟩;obtain⟨o,es,ep,e,d,_⟩:=xj;rw [<-z,b3] at e;cases e;rw [b6] at d;cases d
  have e0:qx P w K mg (mK s₁.heap H) callerA [] s₁ H:=⟨rfl,hM,λb o e=>BM e,Nat.le_of_eq (uK _ _),trivial,λb hb=>absurd (show b∈([]:List Addr) from hb) (by simp),cx,.of_eq hg⟩;refine oG ((F _ Q8 (JB xj) Q9).run callerA [] s₁ H ⟨[.ref a],[]⟩ [.ref a] [.ref a] _ _ hr e0 (og s₁ (.ref a)) (.cons rfl .nil) (yY H hO hT hS)) λr s' h=>?_;cases r with
  | error e=>exact(Nm H e s' h).elim
  | ok fl =>
   cases fl with
   | next=>exact False.elim h
   | brk=>exact False.elim h
   | cont=>exact False.elim h
   | ret u =>
    obtain⟨v,H',os,bare,un,JM,r',q⟩:=h;have q':v=.bl true:=q;subst q';obtain rfl:u=Value.bool true:=r';have each:∀b o,s₁.heap.get? b=some o->asItWas s₁.heap s'.heap b o/\∃o',s'.heap.get? b=some o':=λb o e=>by
     cases q:H b with
     | none =>
      have z:=un.keep b o e q (by intro z;exact absurd (show b∈([]:List Addr) from z) (by simp)) (by simp);exact⟨.inl z,o,z⟩
     | some u =>
      rcases hO b with z | ⟨ob,xs,z⟩ | ⟨Ip,z⟩
      .rw [q] at z;cases z
      .have z2:=un.mM b ob _ z;obtain⟨e1,_⟩:=cx b _ z;obtain⟨e2,_⟩:=JM b _ z2;rw [e] at e1;cases e1;exact⟨.inl e2,_,e2⟩
      obtain⟨more,z2⟩:=un.nq b _ z;have e2:s'.heap.get? b=some (tabObj (#[]++more)):=JM b _ z2;rw [(MV b Ip).1] at e;cases e;obtain⟨c,hc⟩:=(MV b Ip).2.2;obtain⟨oc,zu,file,tf,flags,tg,inF,text,tt,d1,d2,d3,d4,_⟩:=codeHd_of_K KX hc;exact⟨.inr (.inl ⟨⟨c,oc,zu,d1,d2,d3,d4⟩,rfl,#[],more,rfl,e2⟩),_,e2⟩
    exact⟨rfl,⟨λb o e=>(each b o e).1,λb o e=>(each b o e).2⟩,os,bare⟩
 have na:a∉ts:=λz=>by
  have:=(MV a z).1;rw [ha] at this;cases this
 cases hk:K.lookup a with
 | some o =>
  have e:=KX a o hk;rw [ha] at e;cases e;refine core (λb=>if b∈ts then some (.tO #[]) else none) (λb=>?_) (λT h=>ax h) (.inr ⟨_,vs.toArray,_,hk,rfl,rfl,rfl,by rw [bY,MK];exact hl,by simpa using rv⟩) (λb u z=>?_) (λb z=>?_) λz=>absurd (ay na) z
  .by_cases h:b∈ts
   .exact .inr (.inr ⟨h,ax h⟩)
   exact .inl (ay h)
  .by_cases h:b∈ts
   .have z':=(ax h).symm.trans z;cases z';exact(MV b h).1
   have z':=(ay h).symm.trans z;cases z'
  by_cases h:b∈ts
  .exact .inr h
  exact absurd (ay h) z
 | none =>
  refine core (λb=>if b=a then some (.kr { cls:=.type "list",data:=.seq vs.toArray } (.lst (ns.map V.int))) else if b∈ts then some (.tO #[]) else none) (λb=>?_) (λT h=>?_) (.inl (.inr ⟨{ cls:=.type "list",data:=.seq vs.toArray },ax rfl⟩)) (λb u z=>?_) (λb z=>?_) λ_=>hk
  .by_cases hb:b=a
   .exact .inr (.inl ⟨_,_,ax hb⟩)
   by_cases h:b∈ts
   .exact .inr (.inr ⟨h,(ay hb).trans (ax h)⟩)
   exact .inl ((ay hb).trans (ay h))
  .exact(ay (λz:T=a=>na (z ▸ h))).trans (ax h)
  .by_cases hb:b=a
   .have z':=(ax hb).symm.trans z;cases z';subst hb;exact⟨ha,by rw [au];exact hl,vs,_,rv,ha⟩
   by_cases h:b∈ts
   .have z':=((ay hb).trans (ax h)).symm.trans z;cases z';exact(MV b h).1
   have z':=((ay hb).trans (ay h)).symm.trans z;cases z'
  by_cases hb:b=a
  .exact .inl hb
  by_cases h:b∈ts
  .exact .inr h
  exact absurd ((ay hb).trans (ay h)) z
def Ew {l:OpenLaw}{n k:Nat}{q:Program}{loose:List Str}{XP:(Str->Option Value)->Heap->Prop}{YP:World->Heap->Prop}{d:DefRec}{K:Params->Frag}{CX:World->zg}{sp:World->Sp}{x:Str}{ts:List Addr}
  (hn:l.most=some n)(Gz:n<=sizeLine)(Nd:d.params.defaults=[])(hr:fY k callerA)
  (hY:∀(w:World)(h:Heap),YP w h->(K w.params).In h/\∀T∈ts,h.get? T=some (tabObj #[]))
  (hK:∀w:World,∀T∈ts,(K w.params).lookup T=none/\∃c,codeHdIn (K w.params) c T=true)
  (F:∀(w:World)(mg:Str->Option Value)(fa:Addr)(h:Heap),(K w.params).In h->h.Ns mainGlobals mg->mg d.name=some (.ref fa) ->
   ∃fd:FuncData,(∀(s:Shared)(u:Value),BindsTo s fd ⟨[u],[]⟩ [(x,u)]) /\
    ∀base:Heap,(K w.params).In base->base.Ns mainGlobals mg->tM mg base->bS l.prog w (K w.params) mg base (CX w) k fa fd [x] (sp w))
  (yY:∀(w:World)(H:Hp)(a:Addr)(ns:List Int),ns.length<=n->HQ ts H->(∀T∈ts,H T=some (.tO #[]))->aH (K w.params) H a (ns.map V.int)->sp w [.ref a] H (λv _=>v=.bl true) λ_ _ _=>False)
  (Nm:∀(w:World)(H:Hp)(s:Shared)(e:Value)(s':Shared),CX w [] H s (λ_ _ _=>False) e s'->False) :
  WalkO q loose XP YP l.row.toRowW d [] (λf vs=>PySem.call f vs):=by
 refine IG.qf hn Nd λw s₀ s₁ mg mb fa o pm cd doc a vs ns G Y ho hd wM M4 Gx hints bE hg=>?_;obtain⟨KX,TX⟩:=hY w _ Y;obtain⟨fd,hb,hF⟩:=F w mg fa _ KX G.T.g M4;exact C5 KX G.T.g G.T.b G.T.builtins G.T.nolimit G.T.bmain hg (λT hT=>⟨TX T hT,hK w T hT⟩) Gx hints (dY bE Gz) hr hF hb (λH hO hT hS=>yY w H a ns bE hO hT hS) λH e s'=>Nm w H s₁ e s'
def br {X:Cx}{scope:Scope}{js:List (Nat×Str)}(h:(js.all λp=>X.N[p.1]? == some p.2 && X.env.scope.names.lookup p.2 == some .cell && scope.names.lookup p.2 == some .free)=true)
  (h2:(scope.names.all λy=>y.2 != .free || X.env.scope.names.lookup y.1 == some .cell)=true):Kj X scope js:=by
 refine⟨λp hp=>?_,λy hy=>?_⟩
 .have:=gL.mp h p hp;simp only [pR,beq_iff_eq] at this;exact⟨this.1.1,this.1.2,this.2⟩
 have:=gL.mp h2 _ hy;simpa using this
def yo {σ:St}{H:Hp}{A B:Hp->Prop}(h:A H):iw σ H λb H3=>if b=true then A H3 else B H3:=by
 show if true=true then A H else B H;exact d8 h
def goN {i:Nat}{v:V}{σ:St}{H:Hp}{Q:St->Hp->Prop}(h:Q (σ.set i (some v)) H):dP i v σ H Q:=h
def Gp {X:Cx}(K:ba)(hK:X.K=K:=by rfl):Kh X (PL K):=by
 subst hK;exact bB
def wH {X:Cx}(K:ba)(hK:X.K=K:=by rfl):Kh X (PK K):=by
 subst hK;exact aZ
def fS {X:Cx}{es:List Expr}{k:Nat}{t:Lw}{n:Nat}{pos:Pos}(K:ba)(hc:X.calm=true)(h:RQ X es t)(hK:X.K=K:=by rfl)
  (hn:(assignEach es X.env).length=n:=by rfl)(yX:(assignEach es X.env).findIdx? (·.1)=none:=by rfl):PG X (.Tuple es k pos) (AE K n t):=by
 subst hK;exact g8 hc h hn yX
end L2
section
variable {P:PySem.Program}{w:PySem.World}{K:ba}{mg:PySem.Str->Option PySem.Value}{base:PySem.Heap}{f:PySem.Addr}{fd:PySem.FuncData}
namespace hV
open PySem L2
def top (i:Nat):Stmt:=PySem.Challenge.pw_wright_k68_deeds_of_no_tree.main.body.getD i (.Pass ⟨0,0,0,0⟩)
abbrev zP:Stmt:=top 2
abbrev zG:Stmt:=top 3
abbrev rV:Stmt:=top 14
abbrev vY:Stmt:=top 15
abbrev zS:Stmt:=top 16
abbrev E4:Stmt:=top 26
abbrev zK:Stmt:=top 27
abbrev LX:Stmt:=top 28
abbrev rR:Stmt:=top 30
abbrev v7:Stmt:=top 31
abbrev nN:Stmt:=top 32
abbrev vX:Stmt:=top 35
abbrev zI:Stmt:=top 36
abbrev LZ:Stmt:=top 37
abbrev E5:Stmt:=top 44
abbrev E2:Stmt:=top 4
abbrev LY:Stmt:=top 5
abbrev nO:Stmt:=top 39
abbrev o9:Stmt:=top 40
abbrev rT:Stmt:=top 41
abbrev sLT:Stmt:=top 42
structure Txt (mg:Str->Option Value):Prop where
 len:mg "len"=none
 CB:mg "range"=none
 Gs:mg "isinstance"=none
 tup:mg "tuple"=none
 lst:mg "list"=none
 AR:mg "dict"=none
 all:mg "all"=none
 any:mg "any"=none
 str:mg "str"=none
 int:mg "int"=none
 boo:mg "bool"=none
 JW:mg "enumerate"=none
 sum:mg "sum"=none
 max:mg "max"=none
 min:mg "min"=none
section
def boot_all:bootBuiltins "all"=some (.builtin "all"):=by decide +kernel
def gI:bootBuiltins "list"=some (.type "list"):=by decide +kernel
def lB:bootBuiltins "str"=some (.type "str"):=by decide +kernel
def gk:bootBuiltins "dict"=some (.type "dict"):=by decide +kernel
def Ar:PySem.W.kitOne K (.type "int") (.type "bool")=some false:=by kernel_rfl
end
end hV
namespace L2
open PySem
def a7 {K:ba}{H:Hp}{D a:Addr}{xs ys:List V}{o:HO}(hD:H D=some (.lst ys))(h:aS K H a xs):aS K (upd H D o) a xs:=by
 rcases h with (h | ⟨u,h⟩) | h
 .exact .inl (.inl (by rw [aj (λz=>by rw [z,hD] at h;cases h)];exact h))
 .exact .inl (.inr ⟨u,by rw [aj (λz=>by rw [z,hD] at h;cases h)];exact h⟩)
 exact .inr h
def wY (kvs:List (aR×V))(k:aR):(kvs.any λkv=>decide (kv.1=k))=true↔k∈kvs.map (·.1):=by
 rw [List.any_eq_true,cY];constructor
 .rintro⟨x,h1,h2⟩;exact⟨x,h1,c_ h2⟩
 rintro⟨x,h1,h2⟩;exact⟨x,h1,bh h2⟩
def zY {kvs:List (aR×V)}{k:aR}{v:V}(h:k∈kvs.map (·.1)):(bU kvs k v).map (·.1)=kvs.map (·.1):=by
 unfold bU;rw [ax ((wY kvs k).mpr h),jn];refine List.map_congr_left λx hx=>?_;show (if x.1=k then (x.1,v) else x).1=x.1
 split <;> rfl
def iJ {kvs:List (aR×V)}{k:aR}{v:V}(h:¬k∈kvs.map (·.1)):(bU kvs k v).map (·.1)=kvs.map (·.1)++[k]:=by
 unfold bU;rw [ay (λz=>h ((wY kvs k).mp z)),bH];rfl
def eF (kvs:List (aR×V))(k:aR):(bw kvs k).isSome=true↔k∈kvs.map (·.1):=by
 rw [<-jt];exact wY kvs k
theorem cy {α β γ:Type}{F:α->β->Prop}{G:α->γ->Prop}{φ:β->γ}:∀{xs:List α}{ys:List β},Paired F xs ys->(∀a b,F a b->G a (φ b))->Paired G xs (ys.map φ)
 | _,_,.nil,_=>.nil
 | _,_,.cons h t,k=>.cons (k _ _ h) (cy t k)
def cO {z:Str}{l:List Str}:(Sum.inr z:aR)∈l.map Sum.inr↔z∈l:=by
 rw [cY];constructor
 .rintro⟨x,h1,h2⟩;rw [<-mh h2];exact h1
 intro h;exact⟨z,h,rfl⟩
end L2
namespace M11
abbrev ar:=PySem.Str×List PySem.Str
def iB (a:List PySem.Str)(h:PySem.Str):List PySem.Str:=if h∈a then a else a++[h]
def wV (bW hs:List PySem.Str):List PySem.Str:=hs.foldl iB bW
def addW (bj a:List PySem.Str)(p:PySem.Str):List PySem.Str:=if p∈bj then a else iB a p
def tN (bj bW ps:List PySem.Str):List PySem.Str:=ps.foldl (addW bj) bW
def Oq (aa:List ar)(name:PySem.Str) (k:Nat):Bool:=decide ((aa[k]?.map (·.1))=some name)
def nums (aa:List ar)(name:PySem.Str) (i:Nat):List Int:=((List.range i).filter (Oq aa name)).map λk:Nat=>(k:Int)
def CV (aa:List ar)(name:PySem.Str) (i:Nat):nums aa name (i+1)=nums aa name i++(if Oq aa name i=true then [(i:Int)] else []):=by
 unfold nums;rw [List.range_succ,oY,bH]
 congr 1
 by_cases h:Oq aa name i=true
 .rw [ax h];simp [h]
 rw [ay h];simp [h]
def x9 (aa:List ar)(name:PySem.Str) (i:Nat):(nums aa name i).length<=i:=by
 unfold nums;rw [au];have:=rB (Oq aa name) (List.range i);rw [vj] at this;exact this
def yL (a:List PySem.Str)(h:PySem.Str):(iB a h).length<=a.length+1:=by
 unfold iB;split <;> simp
theorem iP:∀(hs bW:List PySem.Str),(wV bW hs).length<=bW.length+hs.length
 | [],bW=>by simp [wV]
 | h::r,bW=>by
  have:=iP r (iB bW h);have:=yL bW h;show (wV (iB bW h) r).length<=_;rw [dZ];omega
def Hz (bj a:List PySem.Str)(p:PySem.Str):(addW bj a p).length<=a.length+1:=by
 unfold addW;split
 .omega
 exact yL a p
theorem vH (bj:List PySem.Str):∀(ps bW:List PySem.Str),(tN bj bW ps).length<=bW.length+ps.length
 | [],bW=>by simp [tN]
 | p::r,bW=>by
  have:=vH bj r (addW bj bW p);have:=Hz bj bW p;show (tN bj (addW bj bW p) r).length<=_;rw [dZ];omega
end M11
namespace hV
open PySem L2 M11
def kZ {bW:List (aR×V)}{as:List Str}(e:bW.map (·.1)=as.map Sum.inr)(h:Str){v:V}:(bU bW (Sum.inr h) v).map (·.1)=(iB as h).map Sum.inr:=by
 unfold iB;by_cases q:h∈as
 .rw [ax q,zY (by rw [e];exact cO.mpr q),e]
 rw [ay q,iJ (by rw [e];exact λz=>q (cO.mp z)),e,bH];rfl
theorem nX:∀(hs:List Str)(bW:List (aR×V)) (as:List Str),bW.map (·.1)=as.map Sum.inr->(di (hs.map λh=>((Sum.inr h:aR),V.bl true)) bW).map (·.1)=(wV as hs).map Sum.inr
 | [],bW,as,e=>e
 | h::r,bW,as,e=>by
  refine nX r (bU bW (Sum.inr h) (.bl true)) (iB as h) ?_;exact kZ e h
def keys_str {kvs:List (aR×V)}{zs:List Str}(e:kvs.map (·.1)=zs.map Sum.inr):(kvs.map λp=>kV p.1)=zs.map V.str:=by
 have e2:(kvs.map λp=>kV p.1)=(kvs.map (·.1)).map kV:=by rw [jn];rfl
 rw [e2,e,jn];rfl
section
def Ci (K:ba)(H:Hp)(r:Addr)(ru:ar):Prop:=∃p,aS K H r [.str ru.1,.ref p]/\aS K H p (ru.2.map V.str)
def bL (K:ba)(H:Hp)(rs:List Addr)(aa:List ar):Prop:=Paired (λr ru=>Ci K H r ru) rs aa
def bL.keep {H H':Hp}{rs:List Addr}{aa:List ar}(h:bL K H rs aa)(k:∀a xs,aS K H a xs->aS K H' a xs):bL K H' rs aa:=Paired.fc h λr ru ⟨p,a,b⟩=>⟨p,k _ _ a,k _ _ b⟩
def bL.same {H H':Hp}{rs:List Addr}{aa:List ar}(h:bL K H rs aa)(s:aA H H'):bL K H' rs aa:=h.keep λ_ _ z=>s.tup z
def bL.get {H:Hp}{rs:List Addr}{aa:List ar}(h:bL K H rs aa){i:Nat}{r:Addr}(e:rs[i]?=some r):∃ru,aa[i]?=some ru/\Ci K H r ru:=by
 have l:=aU h;have li:=(bu.mp e).1;have e2:aa[i]?=some (aa[i]'∅):=dH ∅;obtain⟨x,e3,e4⟩:=Paired.at_ h i _ e2;rw [e] at e3;cases e3;exact⟨_,e2,e4⟩
def tu {H:Hp}{R D:Addr}{rs:List Addr}{aa:List ar}{σ:St}{Qp:Hp->Prop}(hR:aH K H R (rs.map V.ref))(cA:bL K H rs aa)(bE:aa.length<=1000)(hD:H D=none)
  (q:∀ts H2,aA H H2->H2 D=some (.lst (ts.map V.ref))->Paired (λt h=>aS K H2 t [.str h,.bl true]) ts (aa.map (·.1))->Qp H2) :
  ∃W:Nat->Nat->List V->St->Hp->Prop,(∃m,W 0 m [] (eV ["head","parts"] [] σ) (upd H D (.lst []))) /\
 ∀i m ys σ' H,W i m ys σ' H->((ki K R).stop i H/\Qp H)\/((ki K R).go i H/\∃m',m' < m/\∀x H',(ki K R).mQ i H x H'->AE K 2 (jC (dP 0) (jC (dP 1) Dn)) x σ' H' λσ2 H2=>iw σ2 H2 λb H3 =>
  if b=true then tS (gZ (gT 0) (gZ (tC (.bl true)) rE)) σ2 H3 λy H4=>H4 D=some (.lst ys)/\ys.length < sizeLine/\W (i+1) m' (ys++[y]) σ2 (upd H4 D (.lst (ys++[y]))) else W (i+1) m' ys σ2 H3):=by
 have ll:=aU cA;refine cN (xs:=rs.map V.ref) (λi ys σ2 H2=>∃ts:List Addr,ys=ts.map V.ref/\ts.length=i/\Paired (λt h=>aS K H2 t [.str h,.bl true]) ts ((aa.take i).map (·.1))/\(∃y0 y1,σ2=[y0,y1])/\aA H H2/\H2 D=some (.lst ys))
  ⟨[],rfl,rfl,.nil,⟨none,none,rfl⟩,af hD _,ae⟩ (λi ys σ2 H2 _ h=>?_) (λi x ys σ2 H2 ex h=>?_) (λys σ2 H2 h=>?_)
 .obtain⟨_,_,_,_,_,sm,_⟩:=h;exact sm.seq hR
 .obtain⟨ts,rfl,ht,hp,⟨y0,y1,rfl⟩,sm,hd⟩:=h;rw [bz] at ex;obtain⟨r,er,rfl⟩:=cD.mp ex;obtain⟨ru,e1,p,v1,v2⟩:=cA.get er;have li:=(bu.mp e1).1;refine⟨r,_,rfl,sm.tup v1,rfl,_,_,rfl,_,_,rfl,rfl,?_⟩;refine yo ?_;refine⟨_,rfl,iQ,λt jm=>⟨?_,bN (by rw [au];omega),ts++[t],?_,?_,?_,⟨_,_,rfl⟩,?_,ae⟩⟩
  .rw [aj (aw hd jm)];exact hd
  .rw [bH];rfl
  .rw [a9,ht];rfl
  .rw [cQ,e1,bH];have jj:upd H2 t (.tup [.str ru.1,.bl true]) D=some (.lst (ts.map V.ref)):=by rw [aj (aw hd jm)];exact hd
   exact h_ (Paired.fc hp λt' h' z=>a7 jj ((af jm _).tup z)) (a7 jj (aS.of ae))
  intro b o hb;rw [aj (λz=>by rw [z,hD] at hb;cases hb)];exact af jm _ _ _ (sm b o hb)
 obtain⟨ts,rfl,ht,hp,_,sm,hd⟩:=h;rw [au,ll,cH] at hp;exact q ts H2 sm hd hp
def jQ (K:ba):Sp:=λvs H Q _=>∃(R:Addr)(rs:List Addr)(aa:List ar),vs=[.ref R]/\aH K H R (rs.map V.ref)/\bL K H rs aa/\aa.length<=1000 /\
 ∀D H',H D=none->aA H H'->H' D=some (.lst ((wV [] (aa.map (·.1))).map V.str))->Q (.ref D) H'
def I_:aK ["rules"] ["rules"] (av zP):=iN rfl rfl rfl rfl nofun
def FT (F:iC K "heads_of" "heads_of" zP f fd)(T:Txt mg):bS P w K mg base gp 1 f fd ["rules"] (jQ K):=by
 refine F.ok I_ (λvs H Q E h=>?_) (λeY A outer s H vs Q E hr h=>?_)
 .obtain⟨R,rs,aa,rfl,_⟩:=h;rfl
 obtain⟨R,rs,aa,rfl,hR,cA,bE,q⟩:=h;refine⟨_,ak (aN (bc (mN rfl) rfl T.lst gI (ab (bc (dW rfl) rfl T.AR gk (ab
  (bD ["head","parts"] [] rfl (a8 (pv 0)) (br rfl rfl) nofun rfl nofun
   (λ_ _ _ _ _=>fS (n:=2) K rfl (aB (aq (i:=0) (show (["head","parts"]:List Str).Nodup by decide +kernel) rfl (bC rfl)) (aB (aq (i:=1) (show (["head","parts"]:List Str).Nodup by decide +kernel) rfl (bC rfl)) cf))) (λ_ _ _ _ _=>b9)
   (λ_ _ _ _ _=>bo (ab (pv 0) (ab gb ag)))) ag)) ag))),?_⟩
 dsimp only [yz];refine⟨_,rfl,R,rfl,⟨_,hR⟩,λD hD=>tu hR cA bE hD λts H2 sm hd hp=>?_⟩;have kp:Paired (λt (kv:aR×V)=>aS K H2 t [kV kv.1,kv.2]) ts ((aa.map (·.1)).map λh=>((Sum.inr h:aR),V.bl true)):=cy hp λ_ _ z=>z;refine⟨D,ts,_,rfl,hd,kp,λd hd2=>?_⟩;refine⟨d,_,rfl,ae,λD2 jc=>?_⟩;rw [keys_str (nX (aa.map (·.1)) [] [] rfl)];have nd:D2≠d:=λz=>by rw [z,ae] at jc;cases jc
 exact q D2 _ (sm.free (by rw [aj nd] at jc;exact jc)) (sm.trans ((af hd2 _).trans (af jc _))) ae
theorem jD:∀(aa:List ar) (n:Nat),aa.length<=n->(∀ru∈aa,ru.2.length<=8)->(aa.flatMap (·.2)).length<=8 * n
 | [],n,_,_=>by simp
 | ru::r,n,hl,h=>by
  rw [dZ] at hl;have:=jD r (n - 1) ∅ λx hx=>h x (dB _ hx);have:=h ru cI;rw [mV,a9];omega
def hd (aa:List ar):List Str:=wV [] (aa.map (·.1))
def Bi (K:ba):Sp:=λvs H Q _=>∃(R:Addr)(rs:List Addr)(aa:List ar),vs=[.ref R]/\aH K H R (rs.map V.ref)/\bL K H rs aa/\aa.length<=1000/\(∀ru∈aa,ru.2.length<=8) /\
 ∀D H',H D=none->aA H H'->H' D=some (.lst ((tN (hd aa) [] (aa.flatMap (·.2))).map V.str))->Q (.ref D) H'
def lF:aK ["rules","heads","words","head","parts","part"] ["rules"] (av zG):=iN rfl rfl rfl rfl nofun
def FE (F:iC K "words_in" "words_in" zG f fd)(T:Txt mg):bS P w K mg base gp 1 f fd ["rules"] (Bi K):=by
 refine F.ok lF (λvs H Q E h=>?_) (λeY A outer s H vs Q E hr h=>?_)
 .obtain⟨R,rs,aa,rfl,_⟩:=h;rfl
 obtain⟨R,rs,aa,rfl,hR,cA,bE,h8,q⟩:=h;have hu:=gi hr;refine⟨_,ai (az (i:=1) lF.nd rfl (bC rfl) (bc (dW rfl) rfl T.AR gk (ab
  (bD ["head","parts"] [] rfl (a8 (pv 0)) (br rfl rfl) nofun rfl nofun
   (λ_ _ _ _ _=>fS (n:=2) K rfl (aB (aq (i:=0) (show (["head","parts"]:List Str).Nodup by decide +kernel) rfl (bC rfl)) (aB (aq (i:=1) (show (["head","parts"]:List Str).Nodup by decide +kernel) rfl (bC rfl)) cf))) (λ_ _ _ _ _=>b9)
   (λ_ _ _ _ _=>bo (ab (pv 0) (ab gb ag)))) ag)))
  (ai (az (i:=2) lF.nd rfl (bC rfl) g9)
  (ai (bM cq rfl (a8 (pv 0)) (g8 rfl (aB (aq (i:=3) lF.nd rfl (bC rfl)) (aB (aq (i:=4) lF.nd rfl (bC rfl)) cf)))
   (ak (bM cq rfl (f_ (pv 4)) (aq (i:=5) lF.nd rfl (bC rfl))
    (ak (bJ (eK (eQ hu (pv 5) (pv 1))) (ak (iK hu (pv 2) (pv 5) gb rfl)) aQ)))))
  (ak (aN (bc (mN rfl) rfl T.lst gI (ab (pv 2) ag)))))),?_⟩
 nofun
 refine⟨_,rfl,R,rfl,⟨_,hR⟩,λD hD=>tu hR cA bE hD λts H2 sm hd2 hp=>?_⟩;have kp:Paired (λt (kv:aR×V)=>aS K H2 t [kV kv.1,kv.2]) ts ((aa.map (·.1)).map λh=>((Sum.inr h:aR),V.bl true)):=cy hp λ_ _ z=>z;refine⟨D,ts,_,rfl,hd2,kp,λd hdd=>?_⟩;have KS:(di ((aa.map (·.1)).map λh=>((Sum.inr h:aR),V.bl true)) []).map (·.1)=(hd aa).map Sum.inr:=nX (aa.map (·.1)) [] [] rfl;generalize di ((aa.map (·.1)).map λh=>((Sum.inr h:aR),V.bl true)) []=kH at KS ⊢;have Oc:=sm.trans (af hdd (.dK kH));have jj:upd H2 d (.dK kH) d=some (.dK kH):=ae;generalize upd H2 d (.dK kH)=H3 at Oc jj;intro e he;have hde:∀o,upd H3 e o d=some (.dK kH):=λo=>by rw [aj (aw jj he)];exact jj
 have Bw:∀o,aA H (upd H3 e o):=λo=>Oc.trans (af he o);have ll:=aU cA
 let qw:pL:=λi σ H5=>∃(kvs:List (aR×V))(y3 y4 y5:Option V),σ=[aM R,aM d,aM e,y3,y4,y5]/\H5=upd H3 e (.dK kvs) /\
  kvs.map (·.1)=(tN (hd aa) [] ((aa.take i).flatMap (·.2))).map Sum.inr
 refine⟨_,rfl,R,rfl,⟨_,(Bw _).seq hR⟩,cK (xs:=rs.map V.ref) qw ⟨[],none,none,none,rfl,rfl,rfl⟩ ?_ ?_ ?_⟩
 .rintro i σ H5 _ ⟨kvs,y3,y4,y5,rfl,rfl,_⟩;exact(Bw _).seq hR
 .rintro i x σ H5 ex ⟨kvs,y3,y4,y5,rfl,rfl,hk⟩
  ac_nf0
  rw [bz] at ex;obtain⟨r,er,rfl⟩:=cD.mp ex;obtain⟨ru,e1,p,v1,v2⟩:=cA.get er;have li:=(bu.mp e1).1;have OC:=h8 ru (b_ e1);have eT:(aa.take (i+1)).flatMap (·.2)=(aa.take i).flatMap (·.2)++ru.2:=by
   rw [cQ,e1,i6];simp
  have lA:((aa.take i).flatMap (·.2)).length<=8 * i:=jD (aa.take i) i (by rw [bQ];omega) λru iZ=>h8 ru (i7 iZ);refine⟨r,_,rfl,(Bw _).tup v1,rfl,_,_,rfl,_,_,rfl,rfl,?_⟩
  let A3:pL:=λj σ H6=>∃(kvs:List (aR×V))(y5:Option V),σ=[aM R,aM d,aM e,some (.str ru.1),aM p,y5]/\H6=upd H3 e (.dK kvs) /\
   kvs.map (·.1)=(tN (hd aa) [] ((aa.take i).flatMap (·.2)++ru.2.take j)).map Sum.inr
  refine⟨_,rfl,p,rfl,⟨_,(Bw _).tup v2⟩,oq (xs:=ru.2.map V.str) A3 ⟨kvs,_,rfl,rfl,by rw [oP,iS];exact hk⟩ ?_ ?_ ?_⟩
  .rintro j σ H6 _ ⟨kvs,y5,rfl,rfl,_⟩;exact(Bw _).tup v2
  .rintro j x σ H6 pG ⟨kvs,y5,rfl,rfl,Di⟩
   ac_nf0
   rw [bz] at pG;obtain⟨z,ez,rfl⟩:=cD.mp pG;have lj:=(bu.mp ez).1;have eS:tN (hd aa) [] ((aa.take i).flatMap (·.2)++ru.2.take (j+1))=addW (hd aa) (tN (hd aa) [] ((aa.take i).flatMap (·.2)++ru.2.take j)) z:=by
    rw [cQ,ez,<-lX];exact vi
   have lk:kvs.length<=8 * i+8:=by
    have h1:kvs.length=(tN (hd aa) [] ((aa.take i).flatMap (·.2)++ru.2.take j)).length:=by
     have:=congrArg List.length Di;rw [au,au] at this;exact this
    have h2:=vH (hd aa) ((aa.take i).flatMap (·.2)++ru.2.take j) [];rw [a9,bQ] at h2;simp only [jq] at h2;omega
   have mem:(bw kH (Sum.inr z)).isSome=true↔z∈hd aa:=by rw [eF,KS];exact cO
   refine⟨_,rfl,_,rfl,d,_,rfl,cu.k (k:=Sum.inr z) (hde _),_,rfl,?_⟩;refine cg (λc=>?_) (λc=>?_)
   .have nm:z∉hd aa:=λh=>by rw [mem.mpr h] at c;exact absurd c nofun
    refine⟨_,rfl,_,rfl,e,_,rfl,pO.k (k:=Sum.inr z) ae (bN ∅),?_⟩;refine⟨bU kvs (Sum.inr z) (.bl true),_,rfl,by rw [nj],?_⟩;rw [eS];unfold addW;rw [ay nm];exact kZ Di z
   have im:z∈hd aa:=mem.mp (by
    cases h:(bw kH (Sum.inr z)).isSome with
    | true=>rfl
    | false=>exact absurd (by rw [h];rfl) c)
   refine⟨kvs,_,rfl,rfl,?_⟩;rw [eS];unfold addW;rw [ax im];exact Di
  rintro σ H6 ⟨kvs,y5,rfl,rfl,Di⟩;rw [au,cH,<-eT] at Di;exact⟨kvs,_,_,_,rfl,rfl,Di⟩
 rintro σ H5 ⟨kvs,y3,y4,y5,rfl,rfl,hk⟩;rw [au,ll,cH] at hk;refine⟨_,rfl,e,_,rfl,ae,λD2 jc=>?_⟩;rw [keys_str hk];exact q D2 _ ((Bw _).free jc) ((Bw _).trans (af jc _)) ae
end
end hV
namespace L2
open PySem
section
variable {K:ba}{a D:Addr}{xs:List V}{ts:List Str}{js:List (Nat×Str)}{g:TG}{tif:TT}{te:TE}{R:Hp->Prop}{σ:St}{H:Hp}
def gR (Pv:Nat->List V->St->Hp->Prop)(h0:Pv 0 [] (eV ts js σ) (upd H D (.lst [])))(hl:∀i ys σ H,i<=xs.length->Pv i ys σ H->aS K H a xs)
  (hs:∀i x ys σ H,xs[i]?=some x->Pv i ys σ H->g x σ H λσ2 H2=>tif σ2 H2 λb H3=>if b=true then te σ2 H3 λy H4=>H4 D=some (.lst ys)/\ys.length < sizeLine/\Pv (i+1) (ys++[y]) σ2 (upd H4 D (.lst (ys++[y]))) else Pv (i+1) ys σ2 H3)
  (hd:∀ys σ H,Pv xs.length ys σ H->R H) :
  ∃W:Nat->Nat->List V->St->Hp->Prop,(∃m,W 0 m [] (eV ts js σ) (upd H D (.lst []))) /\
 ∀i m ys σ' H,W i m ys σ' H->((oE K a).stop i H/\R H)\/((oE K a).go i H/\∃m',m' < m/\∀x H',(oE K a).mQ i H x H'->g x σ' H' λσ2 H2=>tif σ2 H2 λb H3 =>
  if b=true then te σ2 H3 λy H4=>H4 D=some (.lst ys)/\ys.length < sizeLine/\W (i+1) m' (ys++[y]) σ2 (upd H4 D (.lst (ys++[y]))) else W (i+1) m' ys σ2 H3):=by
 refine⟨λi m ys σ H=>m=xs.length - i/\i<=xs.length/\Pv i ys σ H,⟨xs.length,by simp,dX _,h0⟩,?_⟩;rintro i m ys σ' H ⟨rfl,hi,p⟩;have q:=hl i ys σ' H hi p;by_cases kn:i < xs.length
 .refine .inr ⟨⟨xs,xs[i],q,by simp [kn]⟩,xs.length - (i+1),∅,λx H' y=>?_⟩;obtain⟨e,y⟩:=y;subst e;have z:=hs i x ys σ' _ (y xs q) p;have h1:(i+1<=xs.length)=True:=eq_true kn;simp only [h1,true_and];exact z
 have e:i=xs.length:=by omega
 subst e;exact .inl ⟨⟨xs,q,aF _⟩,hd ys σ' H p⟩
def yE (Pv:Nat->List V->St->Hp->Prop)(h0:Pv 0 [] (eV ts js σ) (upd H D (.lst [])))(hl:∀i ys σ H,i<=xs.length->Pv i ys σ H->aS K H a xs)
  (hs:∀i x ys σ H t,xs[i]?=some x->Pv i ys σ H->H t=none->g (.ref t) σ (upd H t (.tup [.int (i:Int),x])) λσ2 H2=>tif σ2 H2 λb H3=>if b=true then te σ2 H3 λy H4=>H4 D=some (.lst ys)/\ys.length < sizeLine/\Pv (i+1) (ys++[y]) σ2 (upd H4 D (.lst (ys++[y]))) else Pv (i+1) ys σ2 H3)
  (hd:∀ys σ H,Pv xs.length ys σ H->R H) :
  ∃W:Nat->Nat->List V->St->Hp->Prop,(∃m,W 0 m [] (eV ts js σ) (upd H D (.lst []))) /\
 ∀i m ys σ' H,W i m ys σ' H->((tL K a).stop i H/\R H)\/((tL K a).go i H/\∃m',m' < m/\∀x H',(tL K a).mQ i H x H'->g x σ' H' λσ2 H2=>tif σ2 H2 λb H3 =>
  if b=true then te σ2 H3 λy H4=>H4 D=some (.lst ys)/\ys.length < sizeLine/\W (i+1) m' (ys++[y]) σ2 (upd H4 D (.lst (ys++[y]))) else W (i+1) m' ys σ2 H3):=by
 refine⟨λi m ys σ H=>m=xs.length - i/\i<=xs.length/\Pv i ys σ H,⟨xs.length,by simp,dX _,h0⟩,?_⟩;rintro i m ys σ' H ⟨rfl,hi,p⟩;have q:=hl i ys σ' H hi p;by_cases kn:i < xs.length
 .refine .inr ⟨⟨xs,xs[i],q,by simp [kn]⟩,xs.length - (i+1),∅,λx H' y=>?_⟩;obtain⟨t,y0,rfl,ht,rfl,y⟩:=y;have z:=hs i y0 ys σ' _ t (y xs q) p ht;have h1:(i+1<=xs.length)=True:=eq_true kn;simp only [h1,true_and];exact z
 have e:i=xs.length:=by omega
 subst e;exact .inl ⟨⟨xs,q,aF _⟩,hd ys σ' H p⟩
end
def k_ {K:ba}{a:Addr}{xs:List V}{g:TG}{tb:TS}{D:Ends}{σ:St}{H:Hp}(Pv:Nat->St->Hp->Prop)(h0:Pv 0 σ H)(hl:∀i σ H,i<=xs.length->Pv i σ H->aH K H a xs)
  (hs:∀i x σ H t,xs[i]?=some x->Pv i σ H->H t=none->g (.ref t) σ (upd H t (.tup [.int (i:Int),x])) λσ2 H2=>tb { D with nx:=Pv (i+1),ct:=Pv (i+1),bk:=D.nx } σ2 H2)(hd:∀σ H,Pv xs.length σ H->D.nx σ H) :
  ∃W:Nat->Nat->St->Hp->Prop,(∃m,W 0 m σ H)/\∀i m σ H,W i m σ H ->
   ((RU K a).stop i H/\D.nx σ H)\/((RU K a).go i H/\∃N:St->Hp->Prop,(∀σ' H',N σ' H'->∃m',m' < m/\W (i+1) m' σ' H')/\∀x H',(RU K a).mQ i H x H'->g x σ H' λσ2 H2=>tb { D with nx:=N,ct:=N,bk:=D.nx } σ2 H2):=by
 refine⟨λi m σ H=>m=xs.length - i/\i<=xs.length/\Pv i σ H,⟨xs.length,by simp,dX _,h0⟩,?_⟩;rintro i m σ H ⟨rfl,hi,p⟩;have q:=hl i σ H hi p;by_cases kn:i < xs.length
 .refine .inr ⟨⟨xs,xs[i],q,by simp [kn]⟩,Pv (i+1),λσ' H' p'=>⟨xs.length - (i+1),∅,rfl,kn,p'⟩,λx H' y=>?_⟩;obtain⟨t,y0,rfl,ht,rfl,y⟩:=y;exact hs i y0 σ _ t (y xs q) p ht
 have e:i=xs.length:=by omega
 subst e;exact .inl ⟨⟨xs,q,aF _⟩,hd σ H p⟩
def pF {K:ba}{a:Addr}{xs:List V}{g:TG}{tb:TS}{D:Ends}{σ:St}{H:Hp}(Pv:Nat->St->Hp->Prop)(h0:Pv 0 σ H)(hl:∀i σ H,i<=xs.length->Pv i σ H->aS K H a xs)
  (hs:∀i x σ H t,xs[i]?=some x->Pv i σ H->H t=none->g (.ref t) σ (upd H t (.tup [.int (i:Int),x])) λσ2 H2=>tb { D with nx:=Pv (i+1),ct:=Pv (i+1),bk:=D.nx } σ2 H2)(hd:∀σ H,Pv xs.length σ H->D.nx σ H) :
  ∃W:Nat->Nat->St->Hp->Prop,(∃m,W 0 m σ H)/\∀i m σ H,W i m σ H ->
   ((tL K a).stop i H/\D.nx σ H)\/((tL K a).go i H/\∃N:St->Hp->Prop,(∀σ' H',N σ' H'->∃m',m' < m/\W (i+1) m' σ' H')/\∀x H',(tL K a).mQ i H x H'->g x σ H' λσ2 H2=>tb { D with nx:=N,ct:=N,bk:=D.nx } σ2 H2):=by
 refine⟨λi m σ H=>m=xs.length - i/\i<=xs.length/\Pv i σ H,⟨xs.length,by simp,dX _,h0⟩,?_⟩;rintro i m σ H ⟨rfl,hi,p⟩;have q:=hl i σ H hi p;by_cases kn:i < xs.length
 .refine .inr ⟨⟨xs,xs[i],q,by simp [kn]⟩,Pv (i+1),λσ' H' p'=>⟨xs.length - (i+1),∅,rfl,kn,p'⟩,λx H' y=>?_⟩;obtain⟨t,y0,rfl,ht,rfl,y⟩:=y;exact hs i y0 σ _ t (y xs q) p ht
 have e:i=xs.length:=by omega
 subst e;exact .inl ⟨⟨xs,q,aF _⟩,hd σ H p⟩
def uU {K:ba}{H:Hp}{p D d:Addr}{zs:List Str}{kvs:List (aR×V)}{σ:St}{js:List (Nat×Str)}{Qp:Hp->Prop}(hσ:eV ["part"] js σ=[none,aM d])(hp:aS K H p (zs.map V.str))(hz:zs.length<=1000)
  (hd:H d=some (.dK kvs))(hD:H D=none)(q:∀H2,aA H H2->H2 D=some (.lst ((zs.map λz=>(bw kvs (Sum.inr z)).isSome).map V.bl))->Qp H2) :
  ∃W:Nat->Nat->List V->St->Hp->Prop,(∃m,W 0 m [] (eV ["part"] js σ) (upd H D (.lst []))) /\
 ∀i m ys σ' H,W i m ys σ' H->((oE K p).stop i H/\Qp H)\/((oE K p).go i H/\∃m',m' < m/\∀x H',(oE K p).mQ i H x H'->dP 0 x σ' H' λσ2 H2=>iw σ2 H2 λb H3 =>
  if b=true then Pn (gT 0) (gT 1) σ2 H3 λy H4=>H4 D=some (.lst ys)/\ys.length < sizeLine/\W (i+1) m' (ys++[y]) σ2 (upd H4 D (.lst (ys++[y]))) else W (i+1) m' ys σ2 H3):=by
 refine gR (xs:=zs.map V.str) (λi ys σ2 H2=>ys=(((zs.take i).map λz=>(bw kvs (Sum.inr z)).isSome).map V.bl)/\(∃y0,σ2=[y0,aM d])/\aA H H2/\H2 D=some (.lst ys))
  ⟨rfl,⟨none,hσ⟩,af hD _,ae⟩ (λi ys σ2 H2 _ h=>h.2.2.1.tup hp) (λi x ys σ2 H2 ex h=>?_) (λys σ2 H2 h=>?_)
 .obtain⟨rfl,⟨y0,rfl⟩,sm,hd2⟩:=h;rw [bz] at ex;obtain⟨z,ez,rfl⟩:=cD.mp ex;have li:=(bu.mp ez).1;refine goN (yo ?_);refine⟨_,rfl,_,rfl,d,_,rfl,cu.k (k:=Sum.inr z) (sm _ _ hd),hd2,bN (by rw [au,au,bQ];omega),?_,⟨_,rfl⟩,?_,ae⟩
  .rw [cQ,ez,bH,bH];rfl
  intro b o hb;rw [aj (λz=>by rw [z,hD] at hb;cases hb)];exact sm b o hb
 obtain⟨rfl,_,sm,hd2⟩:=h;rw [au,cH] at hd2;exact q H2 sm hd2
def ix {K:ba}{H:Hp}{D a:Addr}{xs:List V}{ys:List (aR×V)}{o:HO}(hD:H D=some (.dK ys))(h:aS K H a xs):aS K (upd H D o) a xs:=by
 rcases h with (h | ⟨u,h⟩) | h
 .exact .inl (.inl (by rw [aj (λz=>by rw [z,hD] at h;cases h)];exact h))
 .exact .inl (.inr ⟨u,by rw [aj (λz=>by rw [z,hD] at h;cases h)];exact h⟩)
 exact .inr h
theorem gP {α:Type} [DecidableEq α]:∀(l m:List α),l.Nodup->(∀x∈l,x∈m)->l.length<=m.length
 | [],m,_,_=>dX _
 | a::l,m,hn,h=>by
  have hm:=h a cI;have:=gP l (m.erase a) (mU.mp hn).2 λx hx=>(List.mem_erase_of_ne (λz:x=a=>(mU.mp hn).1 (by rw [<-z];exact hx))).mpr (h x (dB _ hx));rw [List.length_erase_of_mem hm] at this;have:=List.length_pos_of_mem hm;rw [dZ];omega
end L2
namespace M11
open PySem L2
inductive xc (aa:List ar):List (Str×Nat)->Prop
 | nil:xc aa []
 | snoc {bI:List (Str×Nat)}{k:Nat}{ru:ar}:xc aa bI->aa[k]?=some ru->ru.1∉bI.map (·.1)->(∀p∈ru.2,p∈bI.map (·.1))->xc aa (bI++[(ru.1,k)])
def yQ (aa:List ar) (n:Nat)(bI:List (Str×Nat)):Prop:=∀ru∈aa.take n,(∀p∈ru.2,p∈bI.map (·.1))->ru.1∈bI.map (·.1)
def xc.nd {aa:List ar}{bI:List (Str×Nat)}(h:xc aa bI):(bI.map (·.1)).Nodup:=by
 induction h with
 | nil=>exact ku
 | snoc h e n p ih =>
  rw [bH];refine j7.mpr ⟨ih,by simp,λa ha b hb=>?_⟩;rw [uc,bF] at hb;exact λz=>n (by rw [<-hb,<-z];exact ha)
def xc.head {aa:List ar}{bI:List (Str×Nat)}(h:xc aa bI):∀x∈bI.map (·.1),x∈aa.map (·.1):=by
 induction h with
 | nil=>simp
 | snoc h e n p ih =>
  intro x hx;rw [bH] at hx;rcases bR.mp hx with hx | hx
  .exact ih x hx
  rw [uc,bF] at hx;rw [hx];exact j8 (b_ e)
def xc.len {aa:List ar}{bI:List (Str×Nat)}(h:xc aa bI):bI.length<=aa.length:=by
 have:=gP _ _ h.nd h.head;rw [au,au] at this;exact this
end M11
namespace hV
open PySem L2 M11
section
def pM (K:ba)(H:Hp)(ts:List Addr)(bI:List (Str×Nat)):Prop:=Paired (λt (e:Str×Nat)=>aS K H t [.str e.1,.int (e.2:Int)]) ts bI
def pM.keep {H H':Hp}{ts:List Addr}{bI:List (Str×Nat)}(h:pM K H ts bI)(k:∀a xs,aS K H a xs->aS K H' a xs):pM K H' ts bI:=Paired.fc h λt e z=>k _ _ z
structure Cn (K:ba)(aa:List ar)(H H5:Hp)(D d:Addr)(ts:List Addr)(bI:List (Str×Nat))(kvs:List (aR×V)):Prop where
 sm:aA H H5
 hD:H5 D=some (.lst (ts.map V.ref))
 hd:H5 d=some (.dK kvs)
 keys:kvs.map (·.1)=(bI.map (·.1)).map Sum.inr
 ev:pM K H5 ts bI
 emp:xc aa bI
def Cn.same {aa:List ar}{H H5 H6:Hp}{D d:Addr}{ts:List Addr}{bI:List (Str×Nat)}{kvs:List (aR×V)}(h:Cn K aa H H5 D d ts bI kvs)(s:aA H5 H6):Cn K aa H H6 D d ts bI kvs :=
 ⟨h.sm.trans s,s _ _ h.hD,s _ _ h.hd,h.keys,h.ev.keep λ_ _ z=>s.tup z,h.emp⟩
def Cn.mem {aa:List ar}{H H5:Hp}{D d:Addr}{ts:List Addr}{bI:List (Str×Nat)}{kvs:List (aR×V)}(h:Cn K aa H H5 D d ts bI kvs)(z:Str):(bw kvs (Sum.inr z)).isSome=true↔z∈bI.map (·.1):=by
 rw [eF,h.keys];exact cO
def Cn.len {aa:List ar}{H H5:Hp}{D d:Addr}{ts:List Addr}{bI:List (Str×Nat)}{kvs:List (aR×V)}(h:Cn K aa H H5 D d ts bI kvs):ts.length=bI.length/\kvs.length=bI.length:=by
 refine⟨aU h.ev,?_⟩;have:=congrArg List.length h.keys;simpa using this
def Cn.more {aa:List ar}{H H5:Hp}{D d t:Addr}{ts:List Addr}{bI:List (Str×Nat)}{kvs:List (aR×V)}(h:Cn K aa H H5 D d ts bI kvs)(fD:H D=none)(fd:H d=none){k:Nat}{ru:ar}(e:aa[k]?=some ru)
  (n:ru.1∉bI.map (·.1))(p:∀x∈ru.2,x∈bI.map (·.1))(ht:upd H5 d (.dK (bU kvs (Sum.inr ru.1) (.bl true))) t=none) :
  Cn K aa H (upd (upd (upd H5 d (.dK (bU kvs (Sum.inr ru.1) (.bl true)))) t (.tup [.str ru.1,.int (k:Int)])) D (.lst (ts.map V.ref++[.ref t]))) D d (ts++[t]) (bI++[(ru.1,k)]) (bU kvs (Sum.inr ru.1) (.bl true)):=by
 have YU:D≠d:=λz=>by have:=h.hD;rw [z,h.hd] at this;cases this
 have nt:t≠d:=λz=>by rw [z,ae] at ht;cases ht
 have QF:H5 t=none:=by rw [aj nt] at ht;exact ht
 have nDt:D≠t:=λz=>by rw [<-z,h.hD] at QF;cases QF
 have jc:upd (upd H5 d (.dK (bU kvs (Sum.inr ru.1) (.bl true)))) t (.tup [.str ru.1,.int (k:Int)]) D=some (.lst (ts.map V.ref)):=by rw [aj nDt,aj YU];exact h.hD
 have kp:∀a xs,aS K H5 a xs->aS K (upd (upd (upd H5 d (.dK (bU kvs (Sum.inr ru.1) (.bl true)))) t (.tup [.str ru.1,.int (k:Int)])) D (.lst (ts.map V.ref++[.ref t]))) a xs:=λa xs z =>
  a7 jc ((af ht _).tup (ix h.hd z))
 refine⟨λb o hb=>?_,by rw [ae,bH];rfl,by rw [aj YU.symm,aj nt.symm,ae],?_,h_ (h.ev.keep kp) (a7 jc (aS.of ae)),.snoc h.emp e n p⟩
 .have:=h.sm b o hb;rw [aj (λz=>by rw [z,fD] at hb;cases hb),aj (λz=>by rw [z,QF] at this;cases this),aj (λz=>by rw [z,fd] at hb;cases hb)];exact this
 rw [iJ (by rw [h.keys];exact λz=>n (cO.mp z)),h.keys,bH,bH];rfl
def o7 (K:ba):Sp:=λvs H Q _=>∃(R:Addr)(rs:List Addr)(aa:List ar),vs=[.ref R]/\aH K H R (rs.map V.ref)/\bL K H rs aa/\aa.length<=1000/\(∀ru∈aa,ru.2.length<=8) /\
 ∀D ts bI H',H D=none->aA H H'->H' D=some (.lst (ts.map V.ref))->pM K H' ts bI->xc aa bI->yQ aa aa.length bI->Q (.ref D) H'
def ij:aK ["rules","told","empty","many","number","rule"] ["rules"] (av rV):=iN rfl rfl rfl rfl nofun
def Af (F:iC K "found_empties" "found_empties" rV f fd)(T:Txt mg):bS P w K mg base gp 1 f fd ["rules"] (o7 K):=by
 refine F.ok ij (λvs H Q E h=>?_) (λeY A outer s H vs Q E hr h=>?_)
 .obtain⟨R,rs,aa,rfl,_⟩:=h;rfl
 obtain⟨R,rs,aa,rfl,hR,cA,bE,h8,q⟩:=h;have hu:=gi hr;refine⟨_,ai (az (i:=1) ij.nd rfl (bC rfl) (a_ ag))
  (ai (az (i:=2) ij.nd rfl (Or.inr rfl) g9)
  (ai (az (i:=3) ij.nd rfl (bC rfl) (ka iE ao))
  (ai (kT cq (aX nV (pv 3) (aD aG rfl T.len cZ (ab (pv 1) ag)) (bK _))
   (ai (az (i:=3) ij.nd rfl (bC rfl) (aD aG rfl T.len cZ (ab (pv 1) ag)))
   (ak (bM cq rfl (nU rfl T.JW (ab (pv 0) ag)) (g8 rfl (aB (aq (i:=4) ij.nd rfl (bC rfl)) (aB (aq (i:=5) ij.nd rfl (bC rfl)) cf)))
    (ak (bJ (PW.pt (kS (eK (eQ hu (aL aZ (pv 5) ao (λ_ _=>rfl)) (pv 2)))
      (i9 (eJ (aD (ip rfl) rfl T.all boot_all (ab (bD ["part"] [(2,"empty")] rfl (f_ (aL aZ (pv 5) ao (λ_ _=>rfl))) (br rfl rfl) nofun rfl nofun
       (λ_ _ _ _ _=>aq (i:=0) (show (["part","empty"]:List Str).Nodup by decide +kernel) rfl (bC rfl)) (λ_ _ _ _ _=>b9) (λ_ _ _ _ _=>z8 (jh hu (pv 0) (pv 1)))) ag))))))
     (ai (iK hu (pv 2) (aL aZ (pv 5) ao (λ_ _=>rfl)) gb rfl)
     (ak (cJ (g_ gG gX gY bV (pv 1) (ab (bo (ab (aL aZ (pv 5) ao (λ_ _=>rfl)) (ab (pv 4) ag))) ag))))) aQ))))))
  (ak (aN (pv 1)))))),?_⟩
 nofun
 refine⟨rC,λD hD d hd=>?_⟩;have YT:d≠D:=λz=>by rw [z,ae] at hd;cases hd
 have tQ:H d=none:=by rw [aj YT] at hd;exact hd
 have e0:Cn K aa H (upd (upd H D (.lst [])) d (.dK [])) D d [] [] []:=⟨(af hD _).trans (af hd _),by rw [aj YT.symm,ae];rfl,ae,rfl,.nil,.nil⟩;generalize upd (upd H D (.lst [])) d (.dK [])=H0 at e0;refine⟨1,rfl,?_⟩;refine⟨λm σ H5=>∃(ts:List Addr)(bI:List (Str×Nat))(kvs:List (aR×V)) (many:Int)(y4 y5:Option V),σ=[aM R,aM D,aM d,some (.int many),y4,y5]/\Cn K aa H H5 D d ts bI kvs/\-1<=many/\many<=bI.length/\(many=bI.length->yQ aa aa.length bI)/\(m:Int)=aa.length+1 - many,
  ⟨aa.length+2,[],[],[],-1,none,none,rfl,e0,∅,by simp,by simp,by simp;omega⟩,?_⟩
 rintro m σ H5 ⟨ts,bI,kvs,many,y4,y5,rfl,S,b1,b2,cl,em⟩;obtain⟨lt,lk⟩:=S.len;refine⟨_,rfl,_,rfl,D,_,rfl,.inl (aH.of S.hD),_,_,rfl,rfl,_,rfl,?_⟩;refine cg (λc=>?_) (λc=>?_)
 .have c':=c_ c;rw [au,lt] at c';refine⟨λσ H5=>∃(xg:List Addr)(iO:List (Str×Nat))(gw:List (aR×V))(y4 y5:Option V),σ=[aM R,aM D,aM d,some (.int (bI.length:Int)),y4,y5]/\Cn K aa H H5 D d xg iO gw/\bI.length<=iO.length/\(iO.length=bI.length->yQ aa aa.length iO),?_,?_⟩
  .rintro σ H6 ⟨xg,iO,gw,y4,y5,rfl,S2,l2,c2⟩;have:=S2.emp.len;exact⟨(aa.length+1 - bI.length:Int).toNat,∅,xg,iO,gw,_,_,_,rfl,S2,∅,∅,λz=>c2 ∅,∅⟩
  refine⟨_,rfl,D,_,rfl,.inl (aH.of S.hD),?_⟩;rw [au,lt];refine⟨_,rfl,R,_,rfl,S.sm.seq hR,?_⟩;refine k_ (xs:=rs.map V.ref) (λi σ H6=>∃(xg:List Addr)(iO:List (Str×Nat))(gw:List (aR×V))(y4 y5:Option V),σ=[aM R,aM D,aM d,some (.int (bI.length:Int)),y4,y5]/\Cn K aa H H6 D d xg iO gw/\bI.length<=iO.length/\(iO.length=bI.length->yQ aa i iO))
   ⟨ts,bI,kvs,_,_,rfl,S,aF _,λ_ ru iZ=>by simp at iZ⟩ ?_ ?_ ?_
  .rintro i σ H6 _ ⟨xg,iO,gw,y4,y5,rfl,S2,_⟩;exact S2.sm.seq hR
  .rintro i x σ H6 t ex ⟨xg,iO,gw,y4,y5,rfl,S2,l2,c2⟩ ht
   ac_nf0
   rw [bz] at ex;obtain⟨r,er,rfl⟩:=cD.mp ex;obtain⟨ru,e1,p,v1,v2⟩:=cA.get er;have OC:=h8 ru (b_ e1);have S3:=S2.same (af ht (.tup [.int (i:Int),.ref r]));have Ot:aS K (upd H6 t (.tup [.int (i:Int),.ref r])) t [.int (i:Int),.ref r]:=aS.of ae;generalize upd H6 t (.tup [.int (i:Int),.ref r])=H7 at S3 Ot;obtain⟨lt2,Om⟩:=S3.len;have el2:=S3.emp.len;have tk:aa.take (i+1)=aa.take i++[ru]:=by rw [cQ,e1];rfl
   have kP:(¬((∀p∈ru.2,p∈iO.map (·.1))/\ru.1∉iO.map (·.1)))->(iO.length=bI.length->yQ aa (i+1) iO):=λhn z CA yj hp=>by
    rw [tk] at yj;rcases bR.mp yj with h | h
    .exact c2 z CA h hp
    rw [bF.mp h] at hp ⊢;exact Classical.byContradiction λhc=>hn ⟨hp,hc⟩
   refine⟨t,_,rfl,Ot,rfl,_,_,rfl,_,_,rfl,rfl,?_⟩;refine⟨_,rfl,r,_,_,_,rfl,rfl,S3.sm.tup v1,rfl,?_⟩;refine⟨_,rfl,d,_,rfl,cu.k (k:=Sum.inr ru.1) S3.hd,_,rfl,?_⟩;refine cg (λc3=>?_) (λc3=>?_)
   .have nm:ru.1∉iO.map (·.1):=λh=>by rw [(S3.mem _).mpr h] at c3;exact absurd c3 nofun
    refine⟨_,rfl,r,_,_,_,rfl,rfl,S3.sm.tup v1,rfl,p,rfl,⟨_,S3.sm.tup v2⟩,λD2 jc=>uU rfl (S3.sm.tup v2) ∅ S3.hd jc λH8 Ob Q3=>?_⟩;have S4:=S3.same Ob;refine⟨D2,_,rfl,aH.of Q3,_,rfl,?_⟩;refine cg (λc4=>?_) (λc4=>?_)
    .have al:∀x∈ru.2,x∈iO.map (·.1):=λx hx=>(S4.mem x).mp (gL.mp c4 _ (j8 hx));refine⟨_,rfl,_,rfl,r,_,_,_,rfl,rfl,S4.sm.tup v1,rfl,d,_,rfl,pO.k (k:=Sum.inr ru.1) S4.hd (bN ∅),?_⟩;have v1':aS K (upd H8 d (.dK (bU gw (Sum.inr ru.1) (.bl true)))) r [.str ru.1,.ref p]:=ix S4.hd (S4.sm.tup v1);have Nl:upd H8 d (.dK (bU gw (Sum.inr ru.1) (.bl true))) D=some (.lst (xg.map V.ref)):=by rw [aj (λz=>by have:=S4.hD;rw [z,S4.hd] at this;cases this)];exact S4.hD
     refine⟨_,rfl,.inl ⟨rfl,_,aH.of Nl⟩,_,rfl,r,_,_,_,rfl,rfl,v1',rfl,_,rfl,iQ,λt2 jm=>?_⟩;refine⟨D,_,_,rfl,rfl,(by rw [aj (aw Nl jm)];exact Nl),bN (by rw [au];omega),?_⟩;have S5:=S4.more hD tQ e1 nm al jm;exact⟨xg++[t2],iO++[(ru.1,i)],_,_,_,rfl,S5,by rw [a9];omega,λz=>by rw [a9] at z;simp at z;omega⟩
    refine⟨xg,iO,gw,_,_,rfl,S4,l2,kP λ⟨ha,_⟩=>c4 (gL.mpr λb hb=>?_)⟩;obtain⟨x,hx,rfl⟩:=cY.mp hb;exact(S4.mem x).mpr (ha x hx)
   refine⟨xg,iO,gw,_,_,rfl,S3,l2,kP λ⟨_,hn⟩=>c3 ?_⟩;cases hq:(bw gw (Sum.inr ru.1)).isSome with
   | true=>exact absurd ((S3.mem _).mp hq) hn
   | false=>rfl
  rintro σ H6 ⟨xg,iO,gw,y4,y5,rfl,S2,l2,c2⟩;rw [au,aU cA] at c2;exact⟨xg,iO,gw,_,_,rfl,S2,l2,c2⟩
 have c':=of_decide_eq_false (rf.mpr c);rw [au,lt] at c';exact⟨_,rfl,q D ts bI H5 hD S.sm S.hD S.ev S.emp (cl ∅)⟩
end
end hV
namespace M11
open PySem L2
def Ds (b:Str->Bool):List Str->Nat
 | []=>0
 | z::r=>if b z=true then Ds b r+1 else 1
theorem BY (b:Str->Bool):∀zs:List Str,(∀z∈zs,b z=true)->Ds b zs=zs.length
 | [],_=>rfl
 | z::r,h=>by
  unfold Ds;rw [ax (h z cI),BY b r λx hx=>h x (dB _ hx)];rfl
theorem G5 (b:Str->Bool):∀(zs:List Str) (i:Nat)(z:Str),(∀x∈zs.take i,b x=true)->zs[i]?=some z->¬b z=true->Ds b zs=i+1
 | y::r,0,z,_,e,n=>by
  cases e;unfold Ds;rw [ay n]
 | y::r,i+1,z,h,e,n=>by
  unfold Ds;rw [ax (h y (by rw [List.take_succ_cons];exact cI)),G5 b r i z (λx hx=>h x (by rw [List.take_succ_cons];exact dB _ hx)) e n]
theorem G4 (b:Str->Bool):∀zs:List Str,Ds b zs<=zs.length
 | []=>aF _
 | z::r=>by
  have:=G4 b r;unfold Ds;rw [dZ]
  split <;> omega
def cnt (n:Nat):List V:=(List.range n).map λk:Nat=>V.int (k:Int)
end M11
namespace hV
open PySem L2 M11
section
def Bk (K:ba):Sp:=λvs H Q _=>∃(R:Addr)(rs:List Addr)(aa:List ar),vs=[.ref R]/\aH K H R (rs.map V.ref)/\bL K H rs aa/\aa.length<=1000/\(∀ru∈aa,ru.2.length<=8)/\(aa.flatMap (·.2)).Nodup /\
 ∀H',aA H H'->Q .fh H'
def nE:aK ["strengths","met","way","words","word"] ["strengths"] (av zI):=iN rfl rfl rfl rfl nofun
def FI (F:iC K "refuse_twice" "refuse_twice" zI f fd)(T:Txt mg):bS P w K mg base gp 1 f fd ["strengths"] (Bk K):=by
 refine F.ok nE (λvs H Q E h=>?_) (λeY A outer s H vs Q E hr h=>?_)
 .obtain⟨R,rs,aa,rfl,_⟩:=h;rfl
 obtain⟨R,rs,aa,rfl,hR,cA,bE,h8,Il,q⟩:=h;have hu:=gi hr;refine⟨_,ai (az (i:=1) nE.nd rfl (bC rfl) g9)
  (ak (bM cq rfl (a8 (pv 0)) (g8 rfl (aB (aq (i:=2) nE.nd rfl (bC rfl)) (aB (aq (i:=3) nE.nd rfl (bC rfl)) cf)))
   (ak (bM cq rfl (f_ (pv 3)) (aq (i:=4) nE.nd rfl (bC rfl))
    (ai (bJ (eK (jh hu (pv 4) (pv 1))) (ak iX) aQ) (ak (iK hu (pv 1) (pv 4) gb rfl))))))),?_⟩
 nofun
 intro e he;have Bw:∀o,aA H (upd H e o):=λo=>af he o;have ll:=aU cA
 let qw:pL:=λi σ H5=>∃(kvs:List (aR×V))(y3 y4 y5:Option V),σ=[aM R,aM e,y3,y4,y5]/\H5=upd H e (.dK kvs) /\
  kvs.map (·.1)=((aa.take i).flatMap (·.2)).map Sum.inr
 refine⟨_,rfl,R,rfl,⟨_,(Bw _).seq hR⟩,cK (xs:=rs.map V.ref) qw ⟨[],none,none,none,rfl,rfl,rfl⟩ ?_ ?_ ?_⟩
 .rintro i σ H5 _ ⟨kvs,y3,y4,y5,rfl,rfl,_⟩;exact(Bw _).seq hR
 .rintro i x σ H5 ex ⟨kvs,y3,y4,y5,rfl,rfl,hk⟩
  ac_nf0
  rw [bz] at ex;obtain⟨r,er,rfl⟩:=cD.mp ex;obtain⟨ru,e1,p,v1,v2⟩:=cA.get er;have li:=(bu.mp e1).1;have OC:=h8 ru (b_ e1);have eT:(aa.take (i+1)).flatMap (·.2)=(aa.take i).flatMap (·.2)++ru.2:=by
   rw [cQ,e1,i6];simp
  have lA:((aa.take i).flatMap (·.2)).length<=8 * i:=jD (aa.take i) i (by rw [bQ];omega) λru iZ=>h8 ru (i7 iZ);have tV:((aa.take i).flatMap (·.2)++ru.2).Nodup:=by
   have e2:aa.flatMap (·.2)=((aa.take i).flatMap (·.2)++ru.2)++(aa.drop (i+1)).flatMap (·.2):=by
    rw [<-eT,<-i6,pT]
   rw [e2] at Il;exact(j7.mp Il).1
  refine⟨r,_,rfl,(Bw _).tup v1,rfl,_,_,rfl,_,_,rfl,rfl,?_⟩
  let A3:pL:=λj σ H6=>∃(kvs:List (aR×V))(y5:Option V),σ=[aM R,aM e,some (.str ru.1),aM p,y5]/\H6=upd H e (.dK kvs) /\
   kvs.map (·.1)=((aa.take i).flatMap (·.2)++ru.2.take j).map Sum.inr
  refine⟨_,rfl,p,rfl,⟨_,(Bw _).tup v2⟩,oq (xs:=ru.2.map V.str) A3 ⟨kvs,_,rfl,rfl,by rw [oP,iS];exact hk⟩ ?_ ?_ ?_⟩
  .rintro j σ H6 _ ⟨kvs,y5,rfl,rfl,_⟩;exact(Bw _).tup v2
  .rintro j x σ H6 pG ⟨kvs,y5,rfl,rfl,Di⟩
   ac_nf0
   rw [bz] at pG;obtain⟨z,ez,rfl⟩:=cD.mp pG;have lj:=(bu.mp ez).1;have eS:ru.2.take (j+1)=ru.2.take j++[z]:=by rw [cQ,ez];rfl
   have lk:kvs.length<=8 * i+8:=by
    have h1:=congrArg List.length Di;rw [au,au,a9,bQ] at h1;omega
   have nz:z∉(aa.take i).flatMap (·.2)++ru.2.take j:=λhz=>by
    have e3:(aa.take i).flatMap (·.2)++ru.2=((aa.take i).flatMap (·.2)++ru.2.take j)++([z]++ru.2.drop (j+1)):=by
     rw [lX,<-lX (ru.2.take j),<-eS,pT]
    rw [e3] at tV;exact(j7.mp tV).2.2 z hz z (by simp) rfl
   have nk:¬(Sum.inr z:aR)∈kvs.map (·.1):=by rw [Di];exact λh=>nz (cO.mp h)
   refine⟨_,rfl,_,rfl,e,_,rfl,cu.k (k:=Sum.inr z) ae,_,rfl,?_⟩;refine cg (λc=>absurd ((eF kvs _).mp c) nk) (λ_=>?_);refine⟨_,rfl,_,rfl,e,_,rfl,pO.k (k:=Sum.inr z) ae (bN ∅),?_⟩;refine⟨bU kvs (Sum.inr z) (.bl true),_,rfl,by rw [nj],?_⟩;rw [iJ nk,Di,eS,<-lX];simp only [bH,cP,mi]
  rintro σ H6 ⟨kvs,y5,rfl,rfl,Di⟩;rw [au,cH,<-eT] at Di;exact⟨kvs,_,_,_,rfl,rfl,Di⟩
 rintro σ H5 ⟨kvs,y3,y4,y5,rfl,rfl,hk⟩;exact q _ (Bw _)
def xC (K:ba):Sp:=λvs H Q _=>∃(p d:Addr) (zs:List Str)(kvs:List (aR×V)),vs=[.ref p,.ref d]/\aS K H p (zs.map V.str)/\zs.length<=1000/\H d=some (.dK kvs) /\
 ∀D H',H D=none->aA H H'->H' D=some (.lst (cnt (Ds (λz=>(bw kvs (Sum.inr z)).isSome) zs)))->Q (.ref D) H'
def nH:aK ["parts","empty","places","place","part"] ["parts","empty"] (av vY):=iN rfl rfl rfl rfl nofun
def CM (F:iC K "first_places" "first_places" vY f fd)(T:Txt mg):bS P w K mg base gp 1 f fd ["parts","empty"] (xC K):=by
 refine F.ok nH (λvs H Q E h=>?_) (λeY A outer s H vs Q E hr h=>?_)
 .obtain⟨p,d,zs,kvs,rfl,_⟩:=h;rfl
 obtain⟨p,d,zs,kvs,rfl,hp,hz,hd,q⟩:=h;have hu:=gi hr;refine⟨_,ai (az (i:=2) nH.nd rfl (bC rfl) (a_ ag))
  (ai (bM cq rfl (nQ rfl T.JW (ab (pv 0) ag)) (g8 rfl (aB (aq (i:=3) nH.nd rfl (bC rfl)) (aB (aq (i:=4) nH.nd rfl (bC rfl)) cf)))
   (ai (cJ (g_ gG gX gY bV (pv 2) (ab (pv 3) ag)))
   (ak (bJ (eK (eQ hu (pv 4) (pv 1))) (ak Fn) aQ))))
  (ak (aN (pv 2)))),?_⟩
 nofun
 refine⟨rC,λD hD=>?_⟩;have up1:∀n,cnt n++[V.int (n:Int)]=cnt (n+1):=λn=>by
  unfold cnt;rw [List.range_succ,bH];rfl
 refine⟨_,rfl,p,_,rfl,(af hD _).tup hp,?_⟩
 let RT:pL:=λi σ H5=>∃(y3 y4:Option V),σ=[aM p,aM d,aM D,y3,y4]/\aA H H5/\H5 D=some (.lst (cnt i))/\∀z∈zs.take i,(bw kvs (Sum.inr z)).isSome=true
 refine pF (xs:=zs.map V.str) RT
  ⟨none,none,rfl,af hD _,ae,by simp⟩ ?_ ?_ ?_
 .rintro i σ H5 _ ⟨y3,y4,rfl,sm,_⟩;exact sm.tup hp
 .rintro i x σ H5 t ex ⟨y3,y4,rfl,sm,Q4,qr⟩ ht
  ac_nf0
  rw [bz] at ex;obtain⟨z,ez,rfl⟩:=cD.mp ex;have li:=(bu.mp ez).1;have vR:=sm.trans (af ht (.tup [.int (i:Int),.str z]));have jc:upd H5 t (.tup [.int (i:Int),.str z]) D=some (.lst (cnt i)):=by rw [aj (aw Q4 ht)];exact Q4
  have hv:aS K (upd H5 t (.tup [.int (i:Int),.str z])) t [.int (i:Int),.str z]:=aS.of ae;generalize upd H5 t (.tup [.int (i:Int),.str z])=H6 at vR jc hv;have Oc:aA H (upd H6 D (.lst (cnt i++[V.int (i:Int)]))):=λb o hb=>by
   rw [aj (λz=>by rw [z,hD] at hb;cases hb)];exact vR b o hb
  refine⟨t,_,rfl,hv,rfl,_,_,rfl,_,_,rfl,rfl,?_⟩;refine⟨_,rfl,.inl ⟨rfl,_,aH.of jc⟩,_,rfl,D,_,_,rfl,rfl,jc,bN (by unfold cnt;rw [au,vj];omega),?_⟩;refine⟨_,rfl,_,rfl,d,_,rfl,cu.k (k:=Sum.inr z) (Oc _ _ hd),_,rfl,?_⟩;refine cg (λc=>?_) (λc=>?_)
  .refine⟨_,rfl,q D _ hD Oc ?_⟩;rw [ae,up1,G5 _ zs i z qr ez (λh=>by rw [h] at c;exact absurd c nofun)]
  refine⟨_,_,rfl,Oc,by rw [ae,up1],λx hx=>?_⟩;rw [cQ,ez] at hx;rcases bR.mp hx with h | h
  .exact qr x h
  rw [Option.toList_some,bF] at h;subst h;cases hq:(bw kvs (Sum.inr x)).isSome with
  | true=>rfl
  | false=>exact absurd (by rw [hq];rfl) c
 rintro σ H5 ⟨y3,y4,rfl,sm,Q4,qr⟩;rw [au] at Q4 qr;rw [cH] at qr;exact⟨_,rfl,q D _ hD sm (by rw [BY _ zs qr];exact Q4)⟩
end
end hV
namespace L2
open PySem
section
variable {prog:Program}{w:World}{K:Type} [DecidableEq K] {knd:KeyKind prog w K}{A:Around}{E:Value->Shared->Prop}
def tZ {s:Shared}{d l:Addr}{items:Array Value}{n:Nat}{kvs more:List (K×Value)}{Q:Value->Shared->Prop}(hh:A.handled=none)(tQ:s.heap.DictOf knd d kvs)(hx:s.heap.get? l=some { cls:=.type "list",data:=.seq items n })
  (hi:items.size=more.length)(hp:∀(m:Nat) kv,more[m]?=some kv->∃u,items[m]?=some u/\mP knd s.heap u kv)(hz:kvs.length+more.length<=sizeLine)
  (h:∀h' t',h'.DictOf knd d (more.foldl (λa p=>stored a p.1 p.2) kvs)->(∀b o,b≠d->s.heap.get? b=some o->h'.get? b=some o)->Q .none { s with heap:=h',toks:=t' }) :
  wpAny (model prog w) A (call (.builtin "dict.update") [.ref d,.ref l]) Q E s:=by
 refine wpAny_call (codeAny_call_builtin zr.plain PySem.F.entry_dict_update (zr.check _ _ _ _ _ _ _ _ tQ.typeIs (PySem.F.args_dict_update_2 _ _) ?_));unfold Builtin.«dict.update»;refine aE ?_;unfold Builtin.Dict.selfAndRest;refine aE (wpAny_notOrdered_dict tQ.typeIs ?_);show wpAny _ _ (pure (d,[Value.ref l])) _ _ s;refine aP ?_;show wpAny _ _ (Builtin.Dict.updateFrom "dict.update" d (.ref l) [] .none) _ _ s;unfold Builtin.Dict.updateFrom;refine aE (lU (T := "list") ⟨_,hx,rfl⟩ ?_);rw [ax zB];refine aE (pz hx hh λh1 t1 k1=>?_);refine aE (wpAny_rule ?_);have l1:=k1 _ _ hx;refine aE (oR ⟨_,l1,rfl,_,rfl⟩ ?_);have k2:∀b o,s.heap.get? b=some o->(h1.push { cls:=.type "list_iterator",data:=.fields #[.ref l,.int 0 0] }).get? b=some o:=λb o q=>cv _ (k1 _ _ q);refine aP ⟨oI gu _,Hj (knd:=knd) (A:=A) (l:=l) (items:=items) hh more 0 _ kvs _ _ (by rw [hi,oJ]) ?_ ⟨_,d0 _ rfl,rfl,rfl⟩ ⟨_,k2 _ _ hx,rfl,n,rfl⟩ (λm kv e=>?_) hz λh' t' hd k3=>?_⟩
 .obtain⟨o,es,ep,q,r⟩:=tQ;exact⟨o,es,ep,k2 _ _ q,r⟩
 .obtain⟨u,e1,e2⟩:=hp m kv e;exact⟨u,by rw [oJ];exact e1,e2.keep λb o _ q=>k2 b o q⟩
 exact h h' t' hd λb o n q=>k3 b o n (cw (bO (k1 _ _ q))) (k2 b o q)
end
section
variable {X:Cx}{o e:Expr}{apos hX:Pos}{td ty:TE}
def Pm (K:ba)(td ty:TE):TE:=λσ H Q=>td σ H λx H1=>∃a,x=.ref a/\Tx H1 a/\ty σ H1 λy H2=>∃l ts kvs more,y=.ref l/\H2 a=some (.dK kvs)/\H2 l=some (.lst (ts.map V.ref)) /\
 Paired (λt kv=>aS K H2 t [kV kv.1,kv.2]) ts more/\kvs.length+more.length<=sizeLine/\Q .fh (upd H2 a (.dK (di more kvs)))
def Jo (hc:X.calm=true)(ho:PE X o td)(he:PE X e ty)(m:M1 X o "update" apos e hX):PE X (.Call (.Attribute o "update" apos) [e] [] hX) (Pm X.K td ty):=by
 intro ah s σ H Q I h;refine wpAny_Call_method m.base m.xl m.line zp zr PySem.F.type_dict_update (cR (ho ah s σ H _ I h) λu s1 bG=>?_);obtain⟨x,H1,I1,rx,a,ex,d,q1⟩:=bG;subst ex;obtain rfl:u=Value.ref a:=rx;obtain⟨t1,t2,_⟩:=Av I1 d;refine⟨t1,t2,?_⟩;rw [m.trees];refine rA rfl (vm (oV (cR (he ah s1 σ H1 _ I1 q1) λiv s2 bG=>?_)));obtain⟨y,H2,I2,ry,l,ts,kvs,more,ey,ea,el,p,hz,q2⟩:=bG;refine Calls.spliced_nil ?_;subst ey;cases (show iv=Value.ref l from ry);obtain⟨z,Dc,vs,rel,dd⟩:=yu I2.cx ea;obtain⟨z2,aT,n,rv,hl⟩:=(show cS X.prog X.w H2 s2.heap l (.lst _) from I2.cx l _ el);obtain⟨ms,r1,r2⟩:=pairs_at I2 p rv;have l1:=aU r2;have l2:=r1.length;have l3:=aU p;refine tZ (I2.ok.hd hc) dd hl (by simpa using l1) (λm kv em=>?_) (by rw [<-rel.length,<-l2];exact hz) λh' t' hd kk=>?_
 .obtain⟨u,e1,e2⟩:=Paired.at_ r2 m kv em;exact⟨u,by simpa using e1,e2⟩
 have hn:(di more kvs).length<=sizeLine:=dY (sR more kvs) hz;have he:∃q,h'.get? a=some q:=let ⟨q,_,_,hq,_⟩:=hd;⟨q,hq⟩;exact⟨.fh,_,I2.write (x:=a) (e:=a) (by rw [ea];exact True.intro) (.inl rfl) (λb q hb z=>kk b q hb z) he (sX hn Dc (sQ r1 rel) hd),rfl,q2⟩
def uW {X:Cx}:iD X (.builtin "len") (λxs H Q=>∃a kvs,xs=[.ref a]/\H a=some (.dK kvs)/\Q (.int kvs.length) H):=by
 intro ah s σ H xs us Q I r h;obtain⟨a,kvs,rfl,e,q⟩:=h;obtain⟨u,rfl,rx⟩:=vals1 r;cases (show u=Value.ref a from rx);exact RB I (.inl e) λt s' I'=>⟨.int _,H,I',⟨_,rfl⟩,q⟩
end
theorem yh:∀{us:List Value}{ns:List Int},PyProof.Rows.IntsAre us ns->∀ys:List (Int×Tok),us=ys.map (λp=>Value.int p.1 p.2)->ys.map (·.1)=ns
 | _,_,.nil,ys,e=>by
  cases ys with
  | nil=>rfl
  | cons _ _=>cases e
 | _,_,.cons n t h,ys,e=>by
  cases ys with
  | nil=>cases e
  | cons y r =>
   rw [cP] at e;injection e with e1 e2;injection e1 with e3 e4;rw [cP,yh h r e2,e3]
def uV {X:Cx}(hc:X.calm=true):iD X (.builtin "sum") (λxs H Q=>∃a ns,xs=[.ref a]/\aH X.K H a (List.map V.int ns)/\Q (.int ns.sum) H):=by
 intro ah s σ H xs us Q I r h;obtain⟨a,ns,rfl,hq,q⟩:=h;obtain⟨u,rfl,rx⟩:=vals1 r;cases rx;obtain⟨aT,rv,pl,hz⟩:=I.list hq;have hi:=intsAre_of rv;have qr:AllInts aT.toArray:=hi.allInts;obtain⟨xs,e⟩:=qr.items;have hl:=pl.isList;rw [e] at hl;refine sum_intListG (I.ok.hd hc) hl λh' tk t' hk=>⟨.int _,H,I.kept hk,⟨_,rfl⟩,?_⟩;have e5:xs.toList.map (·.1)=ns:=yh hi xs.toList (by
  have:=congrArg Array.toList e;simpa [intItems] using this)
 have e6:preSum (numAt xs) xs.size=ns.sum:=by
  rw [preSum_eq,e5,mX (by rw [<-e5];simp)]
 rw [e6];exact q
def yA {K:ba}{H:Hp}{p D:Addr}{zs:List Str}{σ:St}{v:V}{x:Str}{Qp:Hp->Prop}(hp:aS K H p (zs.map V.str))(hz:zs.length<=1000)(hD:H D=none)
  (q:∀ts H2,aA H H2->H2 D=some (.lst (ts.map V.ref))->Paired (λt h=>aS K H2 t [.str h,v]) ts zs->Qp H2) :
  ∃W:Nat->Nat->List V->St->Hp->Prop,(∃m,W 0 m [] (eV [x] [] σ) (upd H D (.lst []))) /\
 ∀i m ys σ' H,W i m ys σ' H->((oE K p).stop i H/\Qp H)\/((oE K p).go i H/\∃m',m' < m/\∀x H',(oE K p).mQ i H x H'->dP 0 x σ' H' λσ2 H2=>iw σ2 H2 λb H3 =>
  if b=true then tS (gZ (gT 0) (gZ (tC v) rE)) σ2 H3 λy H4=>H4 D=some (.lst ys)/\ys.length < sizeLine/\W (i+1) m' (ys++[y]) σ2 (upd H4 D (.lst (ys++[y]))) else W (i+1) m' ys σ2 H3):=by
 refine gR (xs:=zs.map V.str) (λi ys σ2 H2=>∃ts:List Addr,ys=ts.map V.ref/\ts.length=i/\Paired (λt h=>aS K H2 t [.str h,v]) ts (zs.take i)/\(∃y0,σ2=[y0])/\aA H H2/\H2 D=some (.lst ys))
  ⟨[],rfl,rfl,.nil,⟨none,rfl⟩,af hD _,ae⟩ (λi ys σ2 H2 _ h=>?_) (λi x ys σ2 H2 ex h=>?_) (λys σ2 H2 h=>?_)
 .obtain⟨_,_,_,_,_,sm,_⟩:=h;exact sm.tup hp
 .obtain⟨ts,rfl,ht,qo,⟨y0,rfl⟩,sm,hd⟩:=h;rw [bz] at ex;obtain⟨z,ez,rfl⟩:=cD.mp ex;have li:=(bu.mp ez).1;refine goN (yo ?_);refine⟨_,rfl,iQ,λt jm=>⟨?_,bN (by rw [au];omega),ts++[t],?_,?_,?_,⟨_,rfl⟩,?_,ae⟩⟩
  .rw [aj (aw hd jm)];exact hd
  .rw [bH];rfl
  .rw [a9,ht];rfl
  .rw [cQ,ez];have jj:upd H2 t (.tup [.str z,v]) D=some (.lst (ts.map V.ref)):=by rw [aj (aw hd jm)];exact hd
   exact h_ (Paired.fc qo λt' h' z=>a7 jj ((af jm _).tup z)) (a7 jj (aS.of ae))
  intro b o hb;rw [aj (λz=>by rw [z,hD] at hb;cases hb)];exact af jm _ _ _ (sm b o hb)
 obtain⟨ts,rfl,ht,qo,_,sm,hd⟩:=h;rw [au,cH] at qo;exact q ts H2 sm hd qo
end L2
namespace M11
open PySem L2
def oC (a:List Str)(h x:Str):x∈iB a h↔x∈a\/x=h:=by
 unfold iB;split
 .constructor
  .exact .inl
  rintro(z | rfl) <;> assumption
 simp
def Cd {a:List Str}(h:Str)(n:a.Nodup):(iB a h).Nodup:=by
 unfold iB;split
 .exact n
 rename_i q
 refine j7.mpr ⟨n,by simp,λx hx y hy=>?_⟩;rw [bF.mp hy];exact λz=>q (z ▸ hx)
def Ce (a:List Str)(h:Str):a.length<=(iB a h).length:=by
 unfold iB;split <;> simp
def Ke {a:List Str}{h:Str}(e:(iB a h).length=a.length):iB a h=a:=by
 unfold iB at e ⊢;split
 .rfl
 rename_i q
 rw [ay q,a9] at e;simp at e
theorem ir:∀(hs bW:List Str)(x:Str),x∈wV bW hs↔x∈bW\/x∈hs
 | [],bW,x=>by simp [wV]
 | h::r,bW,x=>by
  show x∈wV (iB bW h) r↔_;rw [ir r,oC,bX,or_assoc]
theorem pI:∀(hs:List Str){bW:List Str},bW.Nodup->(wV bW hs).Nodup
 | [],_,n=>n
 | h::r,_,n=>pI r (Cd h n)
theorem AQ:∀(hs bW:List Str),bW.length<=(wV bW hs).length
 | [],_=>aF _
 | h::r,bW=>dY (Ce bW h) (AQ r _)
theorem Hr:∀(hs bW:List Str),(wV bW hs).length=bW.length->wV bW hs=bW
 | [],_,_=>rfl
 | h::r,bW,e=>by
  have h1:=Ce bW h;have h2:=AQ r (iB bW h);have e':(wV (iB bW h) r).length=bW.length:=e;show wV (iB bW h) r=bW;rw [Hr r _ ∅];exact Ke ∅
inductive N3 (aa:List ar)(s:Str):Str->Prop
 | start:N3 aa s s
 | step {ru:ar}{x:Str}:N3 aa s ru.1->ru∈aa->x∈ru.2->N3 aa s x
def HU (aa:List ar) (n:Nat) (ms:List Str):Prop:=∀ru∈aa.take n,ru.1∈ms->∀x∈ru.2,x∈ms
def N3.among {aa:List ar}{s x:Str}(h:N3 aa s x):x∈s::aa.flatMap (·.2):=by
 cases h with
 | start=>exact cI
 | step _ h1 h2=>exact dB _ (q8.mpr ⟨_,h1,h2⟩)
end M11
namespace hV
open PySem L2 M11
section
def Kt (K:ba):Sp:=λvs H Q _=>∃(R:Addr)(rs:List Addr)(aa:List ar)(jJ:ar),vs=[.ref R]/\aH K H R (rs.map V.ref)/\bL K H rs aa/\aa[0]?=some jJ/\aa.length<=1000/\(∀ru∈aa,ru.2.length<=8) /\
 ∀d kvs ms H',H d=none->aA H H'->H' d=some (.dK kvs)->kvs.map (·.1)=ms.map Sum.inr->jJ.1∈ms->(∀x∈ms,N3 aa jJ.1 x)->HU aa aa.length ms->Q (.ref d) H'
def uu:aK ["rules","met","many","head","parts"] ["rules"] (av LZ):=iN rfl rfl rfl rfl nofun
structure OX (K:ba)(aa:List ar)(s0:Str)(H H5:Hp)(d:Addr) (ms:List Str)(kvs:List (aR×V)):Prop where
 sm:aA H H5
 hd:H5 d=some (.dK kvs)
 keys:kvs.map (·.1)=ms.map Sum.inr
 nd:ms.Nodup
 st:s0∈ms
 So:∀x∈ms,N3 aa s0 x
def OX.len {aa:List ar}{s0:Str}{H H5:Hp}{d:Addr}{ms:List Str}{kvs:List (aR×V)}(h:OX K aa s0 H H5 d ms kvs)(hl:aa.length<=1000)(h8:∀ru∈aa,ru.2.length<=8):kvs.length=ms.length/\ms.length<=8001:=by
 refine⟨?_,?_⟩
 .have:=congrArg List.length h.keys;simpa using this
 have h1:=gP ms _ h.nd λx hx=>(h.So x hx).among;have h2:=jD aa 1000 hl h8;rw [dZ] at h1;omega
def My (F:iC K "names_met" "names_met" LZ f fd)(T:Txt mg):bS P w K mg base gp 1 f fd ["rules"] (Kt K):=by
 refine F.ok uu (λvs H Q E h=>?_) (λeY A outer s H vs Q E hr h=>?_)
 .obtain⟨R,rs,aa,jJ,rfl,_⟩:=h;rfl
 obtain⟨R,rs,aa,jJ,rfl,hR,cA,Ov,bE,h8,q⟩:=h;have hu:=gi hr;refine⟨_,ai (az (i:=1) uu.nd rfl (bC rfl) (Jp (Fp (aL aZ (aL bB (pv 0) ao (λ_ _=>rfl)) ao (λ_ _=>rfl)) gb Jj) rfl rfl (by simp) (show 1<=15 by decide)))
  (ai (az (i:=2) uu.nd rfl (bC rfl) ao)
  (ai (kT cq (aX nV (pv 2) (aD uW rfl T.len cZ (ab (pv 1) ag)) (bK _))
   (ai (az (i:=2) uu.nd rfl (bC rfl) (aD uW rfl T.len cZ (ab (pv 1) ag)))
   (ak (bM cq rfl (a8 (pv 0)) (g8 rfl (aB (aq (i:=3) uu.nd rfl (bC rfl)) (aB (aq (i:=4) uu.nd rfl (bC rfl)) cf)))
    (ak (bJ (eK (jh hu (pv 3) (pv 1)))
     (ak (cJ (Jo rfl (pv 1) (bD ["part"] [] rfl (f_ (pv 4)) (br rfl rfl) nofun rfl nofun
       (λ_ _ _ _ _=>aq (i:=0) (show (["part"]:List Str).Nodup by decide +kernel) rfl (bC rfl)) (λ_ _ _ _ _=>b9) (λ_ _ _ _ _=>bo (ab (pv 0) (ab gb ag)))) ⟨rfl,rfl,rfl,rfl⟩))) aQ))))))
  (ak (aN (pv 1))))),?_⟩
 nofun
 intro d hd;have ll:=aU cA;have l0:=(bu.mp Ov).1;obtain⟨r0,Rk⟩:∃r,rs[0]?=some r:=⟨rs[0]'∅,dH ∅⟩;obtain⟨aaa,e0,p0,w1,w2⟩:=cA.get Rk;rw [Ov] at e0;cases e0;have Ys:=af hd (.dK []);refine⟨_,rfl,R,_,_,.ref r0,rfl,rfl,Ys.seq hR,?_,r0,_,_,_,rfl,rfl,Ys.tup w1,rfl,?_⟩
 .have e7:(rs.map V.ref)[0]?=some (.ref r0):=by rw [bz,Rk];rfl
  exact b0 (j:=0) e7
 refine⟨ae,[((Sum.inr jJ.1:aR),.bl true)],rfl,(by show 1<=15;decide),?_⟩;have S0:OX K aa jJ.1 H (upd (upd H d (.dK [])) d (.dK (mE [] [((Sum.inr jJ.1:aR),.bl true)]))) d [jJ.1] [((Sum.inr jJ.1:aR),.bl true)]:=by
  rw [nj];exact⟨af hd _,ae,rfl,by simp,by simp,λx hx=>by rw [bF.mp hx];exact .start⟩
 generalize upd (upd H d (.dK [])) d (.dK (mE [] [((Sum.inr jJ.1:aR),.bl true)]))=H0 at S0;refine⟨λm σ H5=>∃(ms:List Str)(kvs:List (aR×V)) (many:Int)(y3 y4:Option V),σ=[aM R,aM d,some (.int many),y3,y4]/\OX K aa jJ.1 H H5 d ms kvs/\0<=many/\many<=ms.length/\(many=ms.length->HU aa aa.length ms)/\(m:Int)=8002 - many,
  ⟨8002,[jJ.1],_,0,none,none,rfl,S0,∅,by simp,by simp,∅⟩,?_⟩
 rintro m σ H5 ⟨ms,kvs,many,y3,y4,rfl,S,b1,b2,cl,em⟩;obtain⟨lk,lm⟩:=S.len bE h8;refine⟨_,rfl,_,rfl,d,_,rfl,S.hd,_,_,rfl,rfl,_,rfl,?_⟩;refine cg (λc=>?_) (λc=>?_)
 .have c':=c_ c;rw [lk] at c';refine⟨λσ H5=>∃(qF:List Str)(gw:List (aR×V))(y3 y4:Option V),σ=[aM R,aM d,some (.int (ms.length:Int)),y3,y4]/\OX K aa jJ.1 H H5 d qF gw/\ms.length<=qF.length/\(qF.length=ms.length->HU aa aa.length qF),?_,?_⟩
  .rintro σ H6 ⟨qF,gw,y3,y4,rfl,S2,l2,c2⟩;exact⟨(8002 - ms.length:Int).toNat,∅,qF,gw,_,_,_,rfl,S2,∅,∅,λz=>c2 ∅,∅⟩
  refine⟨_,rfl,d,_,rfl,S.hd,?_⟩;rw [lk];refine⟨_,rfl,R,rfl,⟨_,S.sm.seq hR⟩,?_⟩;refine cK (xs:=rs.map V.ref) (λi σ H6=>∃(qF:List Str)(gw:List (aR×V))(y3 y4:Option V),σ=[aM R,aM d,some (.int (ms.length:Int)),y3,y4]/\OX K aa jJ.1 H H6 d qF gw/\ms.length<=qF.length/\(qF.length=ms.length->HU aa i qF))
   ⟨ms,kvs,_,_,rfl,S,aF _,λ_ ru iZ=>by simp at iZ⟩ ?_ ?_ ?_
  .rintro i σ H6 _ ⟨qF,gw,y3,y4,rfl,S2,_⟩;exact S2.sm.seq hR
  .rintro i x σ H6 ex ⟨qF,gw,y3,y4,rfl,S2,l2,c2⟩
   ac_nf0
   rw [bz] at ex;obtain⟨r,er,rfl⟩:=cD.mp ex;obtain⟨ru,e1,p,v1,v2⟩:=cA.get er;have OC:=h8 ru (b_ e1);have tk:aa.take (i+1)=aa.take i++[ru]:=by rw [cQ,e1];rfl
   obtain⟨Om,lm2⟩:=S2.len bE h8;have mem:(bw gw (Sum.inr ru.1)).isSome=true↔ru.1∈qF:=by rw [eF,S2.keys];exact cO
   refine⟨r,_,rfl,S2.sm.tup v1,rfl,_,_,rfl,_,_,rfl,rfl,?_⟩;refine⟨_,rfl,_,rfl,d,_,rfl,cu.k (k:=Sum.inr ru.1) S2.hd,_,rfl,?_⟩;refine cg (λc3=>?_) (λc3=>?_)
   .have im:=mem.mp c3;refine⟨_,rfl,d,rfl,.inl ⟨_,.inl S2.hd⟩,_,rfl,p,rfl,⟨_,S2.sm.tup v2⟩,λD2 jc=>yA (S2.sm.tup v2) ∅ jc λts H8 Ob Q3 Zs=>?_⟩;have kp:Paired (λt (kv:aR×V)=>aS K H8 t [kV kv.1,kv.2]) ts (ru.2.map λh=>((Sum.inr h:aR),V.bl true)):=cy Zs λ_ _ z=>z;refine⟨D2,ts,gw,_,rfl,Ob _ _ S2.hd,Q3,kp,fits (by rw [au];omega),?_⟩;have aao:=AQ ru.2 qF;refine⟨wV qF ru.2,di (ru.2.map λh=>((Sum.inr h:aR),V.bl true)) gw,_,_,rfl,⟨λb o hb=>?_,ae,nX ru.2 gw qF S2.keys,pI ru.2 S2.nd,(ir ru.2 qF _).mpr (.inl S2.st),λx hx=>?_⟩,∅,λz CA yj hh=>?_⟩
    .rw [aj (λz=>by rw [z,hd] at hb;cases hb)];exact Ob _ _ (S2.sm b o hb)
    .rcases (ir ru.2 qF x).mp hx with h | h
     .exact S2.So x h
     exact .step (S2.So _ im) (b_ e1) h
    have e9:=Hr ru.2 qF ∅;rw [e9] at hh ⊢;rw [tk] at yj;rcases bR.mp yj with h | h
    .exact c2 ∅ CA h hh
    rw [bF.mp h];intro x hx;rw [<-e9];exact(ir ru.2 qF x).mpr (.inr hx)
   refine⟨qF,gw,_,_,rfl,S2,l2,λz CA yj hh=>?_⟩;rw [tk] at yj;rcases bR.mp yj with h | h
   .exact c2 z CA h hh
   rw [bF.mp h] at hh;exact absurd (mem.mpr hh) c3
  rintro σ H6 ⟨qF,gw,y3,y4,rfl,S2,l2,c2⟩;rw [au,ll] at c2;exact⟨qF,gw,_,_,rfl,S2,l2,c2⟩
 have c':=of_decide_eq_false (rf.mpr c);rw [lk] at c';exact⟨_,rfl,q d kvs ms H5 hd S.sm S.hd S.keys S.st S.So (cl ∅)⟩
end
end hV
namespace M11
open PySem L2
abbrev G:=Str->Option Int
def fq (g:G)(h:Str) (n:Int):G:=λz=>if z=h then some n else g z
def aV (g:G)(ru:ar):Int:=1+(ru.2.map λp=>(g p).getD 0).sum
def lC (g:G)(ru:ar):Bool:=ru.2.all λp=>(g p).isSome
def cW (bt:Int->Int->Bool)(g:G)(ru:ar):Bool:=lC g ru && (!(g ru.1).isSome || bt (aV g ru) ((g ru.1).getD 0))
def sstep (bt:Int->Int->Bool)(a:G×Bool)(ru:ar):G×Bool:=if cW bt a.1 ru=true then (fq a.1 ru.1 (aV a.1 ru),true) else a
def tT (bt:Int->Int->Bool)(aa:List ar)(g:G):G×Bool:=aa.foldl (sstep bt) (g,false)
inductive fk (bt:Int->Int->Bool)(aa:List ar):G->G->Prop
 | refl {g:G}:fk bt aa g g
 | step {g g1:G}{ru:ar}:fk bt aa g g1->ru∈aa->cW bt g1 ru=true->fk bt aa g (fq g1 ru.1 (aV g1 ru))
def jd (bt:Int->Int->Bool)(aa:List ar)(g:G):Prop:=∀ru∈aa,cW bt g ru=false
def pN (bt:Int->Int->Bool)(aa:List ar):Nat->G->Prop
 | 0,g=>(tT bt aa g).2=false
 | n+1,g=>(tT bt aa g).2=false\/pN bt aa n (tT bt aa g).1
def fk.trans {bt:Int->Int->Bool}{aa:List ar}{g g1 g2:G}(h:fk bt aa g g1)(k:fk bt aa g1 g2):fk bt aa g g2:=by
 induction k with
 | refl=>exact h
 | step _ a b ih=>exact .step ih a b
theorem sJ (bt:Int->Int->Bool)(aa:List ar):∀(l:List ar)(a:G×Bool),(∀ru∈l,ru∈aa)->fk bt aa a.1 (l.foldl (sstep bt) a).1
 | [],a,_=>.refl
 | ru::l,a,h=>by
  have ih:=sJ bt aa l (sstep bt a ru) λx hx=>h x (dB _ hx);refine fk.trans ?_ ih;unfold sstep;by_cases c:cW bt a.1 ru=true
  .rw [ax c];exact .step .refl (h ru cI) c
  rw [ay c];exact .refl
theorem uL (bt:Int->Int->Bool):∀(l:List ar)(a:G×Bool),a.2=true->(l.foldl (sstep bt) a).2=true
 | [],a,h=>h
 | ru::l,a,h=>by
  refine uL bt l (sstep bt a ru) ?_;unfold sstep
  split
  .rfl
  exact h
theorem sM (bt:Int->Int->Bool):∀(l:List ar)(a:G×Bool),(l.foldl (sstep bt) a).2=false->(l.foldl (sstep bt) a).1=a.1/\∀ru∈l,cW bt a.1 ru=false
 | [],a,_=>⟨rfl,λ_ h=>nomatch h⟩
 | ru::l,a,h=>by
  by_cases c:cW bt a.1 ru=true
  .have e:sstep bt a ru=(fq a.1 ru.1 (aV a.1 ru),true):=ax c;have h':(l.foldl (sstep bt) (sstep bt a ru)).2=false:=h;rw [e,uL bt l _ rfl] at h';cases h'
  have e:sstep bt a ru=a:=ay c;have h':(l.foldl (sstep bt) (sstep bt a ru)).2=false:=h;rw [e] at h';obtain⟨i1,i2⟩:=sM bt l a h';refine⟨by rw [List.foldl_cons,e];exact i1,λCA hr=>?_⟩;rcases bX.mp hr with z | z
  .rw [z];exact rf.mpr c
  exact i2 CA z
end M11
namespace L2
open PySem M11
def cX.tup {K:ba}{H H':Hp}{d a:Addr}{kvs:List (aR×V)}{xs:List V}(s:cX d H H')(hd:H d=some (.dK kvs))(h:aS K H a xs):aS K H' a xs:=by
 rcases h with (h | ⟨u,h⟩) | h
 .exact .inl (.inl (s _ _ (λz=>by rw [z,hd] at h;cases h) h))
 .exact .inl (.inr ⟨u,s _ _ (λz=>by rw [z,hd] at h;cases h) h⟩)
 exact .inr h
def cX.seq {K:ba}{H H':Hp}{d a:Addr}{kvs:List (aR×V)}{xs:List V}(s:cX d H H')(hd:H d=some (.dK kvs))(h:aH K H a xs):aH K H' a xs:=by
 rcases h with (h | ⟨u,h⟩) | h
 .exact .inl (.inl (s _ _ (λz=>by rw [z,hd] at h;cases h) h))
 .exact .inl (.inr ⟨u,s _ _ (λz=>by rw [z,hd] at h;cases h) h⟩)
 exact .inr h
def DN {K:ba}{H:Hp}{p D d:Addr}{zs:List Str}{kvs:List (aR×V)}{g:G}{σ:St}{js:List (Nat×Str)}{Qp:Hp->Prop}(hσ:eV ["part"] js σ=[none,aM d])(hp:aS K H p (zs.map V.str))(hz:zs.length<=1000)
  (hd:H d=some (.dK kvs))(hv:∀z,bw kvs (Sum.inr z)=(g z).map V.int)(ha:∀z∈zs,(g z).isSome=true)(hD:H D=none)(q:∀H2,aA H H2->H2 D=some (.lst ((zs.map λz=>(g z).getD 0).map V.int))->Qp H2) :
  ∃W:Nat->Nat->List V->St->Hp->Prop,(∃m,W 0 m [] (eV ["part"] js σ) (upd H D (.lst []))) /\
 ∀i m ys σ' H,W i m ys σ' H->((oE K p).stop i H/\Qp H)\/((oE K p).go i H/\∃m',m' < m/\∀x H',(oE K p).mQ i H x H'->dP 0 x σ' H' λσ2 H2=>iw σ2 H2 λb H3 =>
  if b=true then Ba (gT 1) (gT 0) σ2 H3 λy H4=>H4 D=some (.lst ys)/\ys.length < sizeLine/\W (i+1) m' (ys++[y]) σ2 (upd H4 D (.lst (ys++[y]))) else W (i+1) m' ys σ2 H3):=by
 refine gR (xs:=zs.map V.str) (λi ys σ2 H2=>ys=(((zs.take i).map λz=>(g z).getD 0).map V.int)/\(∃y0,σ2=[y0,aM d])/\aA H H2/\H2 D=some (.lst ys))
  ⟨rfl,⟨none,hσ⟩,af hD _,ae⟩ (λi ys σ2 H2 _ h=>h.2.2.1.tup hp) (λi x ys σ2 H2 ex h=>?_) (λys σ2 H2 h=>?_)
 .obtain⟨rfl,⟨y0,rfl⟩,sm,hd2⟩:=h;rw [bz] at ex;obtain⟨z,ez,rfl⟩:=cD.mp ex;have li:=(bu.mp ez).1;obtain⟨n,en⟩:=lY.mp (ha z (b_ ez));have hg:cu H2 d (.str z) (some (.int n)):=by
   have:=cu.k (k:=Sum.inr z) (sm _ _ hd);rw [hv,en] at this;exact this
  refine goN (yo ?_);refine⟨_,rfl,_,rfl,d,_,rfl,hg,hd2,bN (by rw [au,au,bQ];omega),?_,⟨_,rfl⟩,?_,ae⟩
  .rw [cQ,ez,bH,bH];show _=_++[V.int ((g z).getD 0)];rw [en];rfl
  intro b o hb;rw [aj (λz=>by rw [z,hD] at hb;cases hb)];exact sm b o hb
 obtain⟨rfl,_,sm,hd2⟩:=h;rw [au,cH] at hd2;exact q H2 sm hd2
end L2
namespace hV
open PySem L2 M11
section
def iT (K:ba)(q:Str)(params:Arguments)(body:Expr)(scope:Scope)(bt:Int->Int->Bool):Sp:=λvs H Q _=>∃(R:Addr)(rs:List Addr)(aa:List ar)(d fl c':Addr)(pm gW:Value)(kvs:List (aR×V)) (ks:List Str)(g:G),
 vs=[.ref R,.ref d,.ref fl]/\aH K H R (rs.map V.ref)/\bL K H rs aa/\aa.length<=1000/\(∀ru∈aa,ru.2.length<=8)/\H d=some (.dK kvs)/\kvs.map (·.1)=ks.map Sum.inr/\ks.Nodup/\ks.length<=10000 /\
 (∀z,bw kvs (Sum.inr z)=(g z).map V.int)/\(∃n,pN bt aa n g)/\H fl=some (pq fl (PySem.W.kla_obj "<lambda>" q params body scope [] pm c' gW))/\H c'=some (kc c' q) /\
 ∀(mI:List (aR×V)) (Qo:List Str)(g':G)(H':Hp),cX d H H'->H' d=some (.dK mI)->mI.map (·.1)=Qo.map Sum.inr->(∀z,bw mI (Sum.inr z)=(g' z).map V.int)->fk bt aa g g'->jd bt aa g'->mI.length<=20000->Q (.ref d) H'
def iU:aK ["rules","sizes","better","changed","head","parts","size"] ["rules","sizes","better"] (av nN):=iN rfl rfl rfl rfl nofun
structure Er (K:ba)(aa:List ar) (Ii:List Str)(H H5:Hp)(d:Addr)(kvs:List (aR×V)) (ks:List Str)(g:G):Prop where
 sm:cX d H H5
 hd:H5 d=some (.dK kvs)
 keys:kvs.map (·.1)=ks.map Sum.inr
 nd:ks.Nodup
 sub:∀x∈ks,x∈Ii++aa.map (·.1)
 val:∀z,bw kvs (Sum.inr z)=(g z).map V.int
def Er.len {aa:List ar}{Ii:List Str}{H H5:Hp}{d:Addr}{kvs:List (aR×V)}{ks:List Str}{g:G}(h:Er K aa Ii H H5 d kvs ks g):kvs.length<=Ii.length+aa.length:=by
 have h1:=congrArg List.length h.keys;have h2:=gP ks _ h.nd h.sub;rw [a9,au] at h2;rw [au,au] at h1;omega
def Er.same {aa:List ar}{Ii:List Str}{H H5 H6:Hp}{d:Addr}{kvs:List (aR×V)}{ks:List Str}{g:G}(h:Er K aa Ii H H5 d kvs ks g)(s:aA H5 H6):Er K aa Ii H H6 d kvs ks g :=
 ⟨λb o n e=>s _ _ (h.sm b o n e),s _ _ h.hd,h.keys,h.nd,h.sub,h.val⟩
def Er.put {aa:List ar}{Ii:List Str}{H H5:Hp}{d:Addr}{kvs:List (aR×V)}{ks:List Str}{g:G}(h:Er K aa Ii H H5 d kvs ks g){ru:ar}(hr:ru∈aa) (n:Int) :
  Er K aa Ii H (upd H5 d (.dK (bU kvs (Sum.inr ru.1) (.int n)))) d (bU kvs (Sum.inr ru.1) (.int n)) (iB ks ru.1) (fq g ru.1 n):=by
 refine⟨λb o nb e=>by rw [aj nb];exact h.sm b o nb e,ae,kZ h.keys ru.1,Cd ru.1 h.nd,λx hx=>?_,λz=>?_⟩
 .rcases (oC ks ru.1 x).mp hx with z | z
  .exact h.sub x z
  rw [z];exact fR _ (j8 hr)
 rw [rD];unfold fq;by_cases c:z=ru.1
 .rw [ax c,ax (by rw [c])];rfl
 rw [ay c,ay (λe=>c (mh e)),h.val]
def uE (F:iC K "settled_sizes" "settled_sizes" nN f fd)(T:Txt mg){q:Str}{params:Arguments}{body:Expr}{scope:Scope}{bt:Int->Int->Bool}{te:TE}(S:aK ["size","known"] ["size","known"] scope)
  (og:∀(pm gW:Value)(c':Addr)(us:List Value),us.length=(["size","known"]:List Str).length->bindArgs (PySem.W.kla_fn "<lambda>" q params body scope [] pm (.ref c') gW) ⟨us,[]⟩=pure ((["size","known"]:List Str).zip us))
  (jB:∀(f c':Addr)(A:Around)(outer:List Env)(s:Shared)(H:Hp),PE (pJ gp P w K mg base ["size","known"] q scope f (.ref c') A outer s H λ_ _ _=>False) body te)
  (QD:∀a b H Q,Q (.bl (bt a b)) H->te [some (.int a),some (.int b)] H Q):bS P w K mg base gp 2 f fd ["rules","sizes","better"] (iT K q params body scope bt):=by
 refine F.ok iU (λvs H Q E h=>?_) (λeY A outer s H vs Q E hr h=>?_)
 .obtain⟨R,rs,aa,d,fl,c',pm,gW,kvs,ks,g,rfl,_⟩:=h;rfl
 obtain⟨R,rs,aa,d,fl,c',pm,gW,kvs,ks,g,rfl,hR,cA,bE,h8,hd,hk,Il,hkl,hv,⟨n0,SK⟩,GK,lR,qq⟩:=h;have hu:=gi hr;refine⟨_,ai (az (i:=3) iU.nd rfl (bC rfl) gb)
  (ai (kT cq (eJ (pv 3))
   (ai (az (i:=3) iU.nd rfl (bC rfl) gb)
   (ak (bM cq rfl (a8 (pv 0)) (g8 rfl (aB (aq (i:=4) iU.nd rfl (bC rfl)) (aB (aq (i:=5) iU.nd rfl (bC rfl)) cf)))
    (ak (bJ (eJ (aD (ip rfl) rfl T.all boot_all (ab (bD ["part"] [(1,"sizes")] rfl (f_ (pv 5)) (br rfl rfl) nofun rfl nofun
       (λ_ _ _ _ _=>aq (i:=0) (show (["part","sizes"]:List Str).Nodup by decide +kernel) rfl (bC rfl)) (λ_ _ _ _ _=>b9) (λ_ _ _ _ _=>z8 (jh hu (pv 0) (pv 1)))) ag)))
     (ai (az (i:=6) iU.nd rfl (bC rfl) (aI dw ao (aD (uV rfl) rfl T.sum PyProof.Rows.boot_sum (ab (bD ["part"] [(1,"sizes")] rfl (f_ (pv 5)) (br rfl rfl) nofun rfl nofun
       (λ_ _ _ _ _=>aq (i:=0) (show (["part","sizes"]:List Str).Nodup by decide +kernel) rfl (bC rfl)) (λ_ _ _ _ _=>b9) (λ_ _ _ _ _=>fu hu (pv 1) (pv 0) (λ_ _=>rfl))) ag))))
     (ak (bJ (PW.pt (lZ (eK (eQ hu (pv 4) (pv 1))) (jT (eJ (z9 (i:=2) (k:=0) rfl rfl S hr og jB (ab (pv 6) (ab (fu hu (pv 1) (pv 4) (λ_ _=>rfl)) ag)))))))
      (ai (iK hu (pv 1) (pv 4) (pv 6) rfl) (ak (az (i:=3) iU.nd rfl (bC rfl) gb))) aQ))) aQ))))))
  (ak (aN (pv 1)))),?_⟩
 nofun
 have ll:=aU cA;have S0:Er K aa ks H H d kvs ks g:=⟨λ_ _ _ e=>e,hd,hk,Il,λx hx=>ib _ hx,hv⟩;refine⟨λm σ H5=>∃(gw:List (aR×V)) (SD:List Str)(g2:G)(ch:Bool)(y4 y5 y6:Option V),σ=[aM R,aM d,aM fl,some (.bl ch),y4,y5,y6]/\Er K aa ks H H5 d gw SD g2/\fk bt aa g g2 /\
  ((ch=true/\∃n,m=n+1/\pN bt aa n g2)\/(ch=false/\jd bt aa g2)),⟨n0+1,kvs,ks,g,true,none,none,none,rfl,S0,.refl,.inl ⟨rfl,n0,rfl,SK⟩⟩,?_⟩
 rintro m σ H5 ⟨gw,SD,g2,ch,y4,y5,y6,rfl,S2,Ib,cs⟩;refine⟨_,rfl,ch,rfl,?_⟩;refine cg (λc=>?_) (λc=>?_)
 .rcases cs with ⟨_,n,em,en⟩ | ⟨c',_⟩
  case inr=>rw [c'] at c;cases c
  refine⟨λσ H6=>∃(mH:List (aR×V)) (Ef:List Str)(g3:G)(yG:Bool)(y4 y5 y6:Option V),σ=[aM R,aM d,aM fl,some (.bl yG),y4,y5,y6]/\Er K aa ks H H6 d mH Ef g3/\(g3,yG)=tT bt aa g2,?_,?_⟩
  .rintro σ H6 ⟨mH,Ef,g3,yG,y4,y5,y6,rfl,S3,e3⟩;have Xe:g3=(tT bt aa g2).1:=congrArg Prod.fst e3;have NK:yG=(tT bt aa g2).2:=congrArg Prod.snd e3;have Pt:fk bt aa g g3:=by
    rw [Xe];exact Ib.trans (sJ bt aa aa (g2,false) λ_ h=>h)
   cases h3:yG with
   | false =>
    rw [h3] at NK;obtain⟨f1,f2⟩:=sM bt aa (g2,false) NK.symm;refine⟨0,∅,mH,Ef,g3,false,_,_,_,rfl,S3,Pt,.inr ⟨rfl,?_⟩⟩;have e33:g3=g2:=Xe.trans f1;rw [e33];exact f2
   | true =>
    rw [h3] at NK;cases n with
    | zero=>rw [show (tT bt aa g2).2=false from en] at NK;cases NK
    | succ n' =>
     rcases en with en | en
     .rw [en] at NK;cases NK
     exact⟨n'+1,∅,mH,Ef,g3,true,_,_,_,rfl,S3,Pt,.inl ⟨rfl,n',rfl,by rw [Xe];exact en⟩⟩
  refine⟨_,rfl,R,rfl,⟨_,S2.sm.seq hd hR⟩,?_⟩;refine cK (xs:=rs.map V.ref) (λi σ H6=>∃(mH:List (aR×V)) (Ef:List Str)(g3:G)(yG:Bool)(y4 y5 y6:Option V),σ=[aM R,aM d,aM fl,some (.bl yG),y4,y5,y6]/\Er K aa ks H H6 d mH Ef g3/\(g3,yG)=(aa.take i).foldl (sstep bt) (g2,false))
   ⟨gw,SD,g2,false,_,_,_,rfl,S2,rfl⟩ ?_ ?_ ?_
  .rintro i σ H6 _ ⟨mH,Ef,g3,yG,y4,y5,y6,rfl,S3,_⟩;exact S3.sm.seq hd hR
  .rintro i x σ H6 ex ⟨mH,Ef,g3,yG,y4,y5,y6,rfl,S3,e3⟩;rw [bz] at ex;obtain⟨r,er,rfl⟩:=cD.mp ex;obtain⟨ru,e1,p,v1,v2⟩:=cA.get er;have lQ:=b_ e1;have OC:=h8 ru lQ;have fo:(aa.take (i+1)).foldl (sstep bt) (g2,false)=sstep bt (g3,yG) ru:=by
    rw [cQ,e1,vi,<-e3];rfl
   rw [fo];have T4:=S3.sm.tup hd v2;refine⟨r,_,rfl,S3.sm.tup hd v1,rfl,_,_,rfl,_,_,rfl,rfl,?_⟩;refine⟨_,rfl,p,rfl,⟨_,T4⟩,λD2 jc=>uU rfl T4 ∅ S3.hd jc λH7 Yr hd7=>?_⟩;have S4:=S3.same Yr;have v4:=Yr.tup T4;have eb:(ru.2.map λz=>(bw mH (Sum.inr z)).isSome).all id=lC g3 ru:=by
    unfold lC;rw [List.all_map];refine List.all_congr rfl λz=>?_;show (bw mH (Sum.inr z)).isSome=_;rw [S3.val,oX]
   refine⟨D2,_,rfl,aH.of hd7,_,rfl,?_⟩;rw [eb];refine cg (λc4=>?_) (λc4=>?_)
   .have al:∀z∈ru.2,(g3 z).isSome=true:=λz hz=>gL.mp c4 z hz;refine⟨_,rfl,p,rfl,⟨_,v4⟩,λD3 ym=>DN (g:=g3) rfl v4 ∅ S4.hd S4.val al ym λH8 Ob Q3=>?_⟩;have S5:=S4.same Ob;have esz:1+(ru.2.map λz=>(g3 z).getD 0).sum=aV g3 ru:=rfl;refine⟨D3,_,rfl,aH.of Q3,_,_,rfl,rfl,?_⟩;have mem:(bw mH (Sum.inr ru.1)).isSome=(g3 ru.1).isSome:=by rw [S5.val,oX]
    have fl5:=S5.sm fl _ (λz=>by rw [z,hd] at GK;cases GK) GK;have c5':=S5.sm c' _ (λz=>by rw [z,hd] at lR;cases lR) lR;have l5:=S5.len;refine⟨_,rfl,_,rfl,d,_,rfl,cu.k (k:=Sum.inr ru.1) S5.hd,_,rfl,?_⟩;refine cg (λc5=>?_) (λc5=>?_)
    .have fr:cW bt g3 ru=true:=by
      unfold cW;rw [<-mem,c4,c5];rfl
     refine⟨_,rfl,_,rfl,_,rfl,d,_,rfl,pO.k (k:=Sum.inr ru.1) S5.hd (bN ∅),?_⟩;exact⟨_,_,fq g3 ru.1 (aV g3 ru),true,_,_,_,rfl,S5.put lQ (aV g3 ru),(ax fr).symm⟩
    have isS:(g3 ru.1).isSome=true:=by
     rw [mem] at c5;cases hq:(g3 ru.1).isSome with
     | true=>rfl
     | false=>rw [hq] at c5;exact absurd rfl c5
    obtain⟨k,ek⟩:=lY.mp isS;have hg:cu H8 d (.str ru.1) (some (.int k)):=by
     have:=cu.k (k:=Sum.inr ru.1) S5.hd;rw [S5.val,ek] at this;exact this
    refine⟨fl,pm,c',gW,rfl,_,rfl,_,rfl,_,rfl,d,_,rfl,hg,fl5,c5',rfl,QD (aV g3 ru) k _ _ ⟨_,rfl,?_⟩⟩;refine cg (λc6=>?_) (λc6=>?_)
    .have fr:cW bt g3 ru=true:=by
      unfold cW;rw [c4,ek];show (true && (false || bt (aV g3 ru) k))=true
      rw [c6];rfl
     refine⟨_,rfl,_,rfl,_,rfl,d,_,rfl,pO.k (k:=Sum.inr ru.1) S5.hd (bN ∅),?_⟩;exact⟨_,_,fq g3 ru.1 (aV g3 ru),true,_,_,_,rfl,S5.put lQ (aV g3 ru),(ax fr).symm⟩
    have fr:¬cW bt g3 ru=true:=by
     unfold cW;rw [c4,ek];show ¬(true && (false || bt (aV g3 ru) k))=true
     rw [rf.mpr c6];exact nofun
    exact⟨mH,Ef,g3,yG,_,_,_,rfl,S5,(ay fr).symm⟩
   have e5:sstep bt (g3,yG) ru=(g3,yG):=ay (λz=>c4 (by unfold cW at z;exact(gF.mp z).1));exact⟨mH,Ef,g3,yG,_,_,_,rfl,S4,e5.symm⟩
  rintro σ H6 ⟨mH,Ef,g3,yG,y4,y5,y6,rfl,S3,e3⟩;rw [au,ll,cH] at e3;exact⟨mH,Ef,g3,yG,_,_,_,rfl,S3,e3⟩
 rcases cs with ⟨c',_⟩ | ⟨_,se⟩
 .rw [c'] at c;exact absurd rfl c
 exact⟨_,rfl,qq gw SD g2 H5 S2.sm S2.hd S2.keys S2.val Ib se (by have:=S2.len;omega)⟩
end
end hV
namespace M11
open PySem L2
theorem fold_lt {bt:Int->Int->Bool}{aa:List ar}{J:G->Prop}{r:G->G->Prop}(tr:∀a b c,r a b->r b c->r a c)
  (yX:∀g ru,J g->ru∈aa->cW bt g ru=true->J (fq g ru.1 (aV g ru))/\r (fq g ru.1 (aV g ru)) g) :
  ∀(l:List ar)(a:G×Bool),(∀ru∈l,ru∈aa)->J a.1->J (l.foldl (sstep bt) a).1/\(l.foldl (sstep bt) a=a\/r (l.foldl (sstep bt) a).1 a.1)
 | [],a,_,j=>⟨j,.inl rfl⟩
 | ru::l,a,h,j=>by
  by_cases c:cW bt a.1 ru=true
  .have e:sstep bt a ru=(fq a.1 ru.1 (aV a.1 ru),true):=ax c;obtain⟨j1,r1⟩:=yX a.1 ru j (h ru cI) c;obtain⟨j2,r2⟩:=fold_lt tr yX l (fq a.1 ru.1 (aV a.1 ru),true) (λx hx=>h x (dB _ hx)) j1;rw [List.foldl_cons,e];refine⟨j2,.inr ?_⟩;rcases r2 with r2 | r2
   .rw [r2];exact r1
   exact tr _ _ _ r2 r1
  have e:sstep bt a ru=a:=ay c;rw [List.foldl_cons,e];exact fold_lt tr yX l a (λx hx=>h x (dB _ hx)) j
def yt {bt:Int->Int->Bool}{aa:List ar}{J:G->Prop}{r:G->G->Prop}(tr:∀a b c,r a b->r b c->r a c)
  (yX:∀g ru,J g->ru∈aa->cW bt g ru=true->J (fq g ru.1 (aV g ru))/\r (fq g ru.1 (aV g ru)) g){g:G}(h:Acc r g)(j:J g):∃n,pN bt aa n g:=by
 induction h with
 | intro g _ ih =>
  cases c:(tT bt aa g).2 with
  | false=>exact⟨0,c⟩
  | true =>
   obtain⟨j2,r2⟩:=fold_lt tr yX aa (g,false) (λ_ h=>h) j;have r3:r (tT bt aa g).1 g:=by
    rcases r2 with r2 | r2
    .have e:(tT bt aa g)=(g,false):=r2;rw [e] at c;cases c
    exact r2
   obtain⟨n,hn⟩:=ih _ r3 j2;exact⟨n+1,.inr hn⟩
def fk.keep {bt:Int->Int->Bool}{aa:List ar}{J:G->Prop}(yX:∀g ru,J g->ru∈aa->cW bt g ru=true->J (fq g ru.1 (aV g ru))){g g':G}(h:fk bt aa g g')(j:J g):J g':=by
 induction h with
 | refl=>exact j
 | step _ a b ih=>exact yX _ _ ih a b
def fZ (f:Str->Nat) (hs:List Str):Nat:=(hs.map f).sum
theorem xx {f k:Str->Nat}:∀{hs:List Str},(∀x∈hs,f x<=k x)->fZ f hs<=fZ k hs
 | [],_=>aF _
 | h::r,q=>by
  have h1:=q h cI;have h2:=xx (hs:=r) λx hx=>q x (dB _ hx);show f h+fZ f r<=k h+fZ k r;omega
theorem nr {f k:Str->Nat}:∀{hs:List Str}{h:Str},(∀x∈hs,f x<=k x)->h∈hs->f h < k h->fZ f hs < fZ k hs
 | a::r,h,q,m,l=>by
  have h1:=q a cI;have h2:∀x∈r,f x<=k x:=λx hx=>q x (dB _ hx);show f a+fZ f r < k a+fZ k r;rcases bX.mp m with z | z
  .have:=xx h2;rw [z] at l;omega
  have:=nr h2 z l;omega
theorem jP (g:G)(J:∀z n,g z=some n->(0:Int)<=n):∀ps:List Str,0<=(ps.map λp=>(g p).getD 0).sum
 | []=>by simp
 | p::r=>by
  have h1:=jP g J r;have h2:0<=(g p).getD 0:=by
   cases e:g p with
   | none=>exact oH _
   | some n=>exact J p n e
  rw [cP,kK];omega
def NN (g:G):Prop:=∀z n,g z=some n->(0:Int)<=n
def wt {g:G}(j:NN g)(ru:ar):NN (fq g ru.1 (aV g ru)):=λz n e=>by
 unfold fq at e;by_cases c:z=ru.1
 .rw [ax c] at e;cases e;have:=jP g j ru.2;unfold aV;omega
 rw [ay c] at e;exact j z n e
def bl (a b:Int):Bool:=decide (a < b)
def bg (a b:Int):Bool:=decide (a > b)
def Ap (hs:List Str)(g' g:G):Prop :=
 fZ (λh=>if (g' h).isSome then 0 else 1) hs < fZ (λh=>if (g h).isSome then 0 else 1) hs \/
 (fZ (λh=>if (g' h).isSome then 0 else 1) hs=fZ (λh=>if (g h).isSome then 0 else 1) hs/\fZ (λh=>((g' h).getD 0).toNat) hs < fZ (λh=>((g h).getD 0).toNat) hs)
def JH (hs:List Str)(g:G):Acc (Ap hs) g:=by
 have wf:=(Prod.lex (β:=Nat) (α:=Nat) ⟨(· < ·),Nat.lt_wfRel.wf⟩ ⟨(· < ·),Nat.lt_wfRel.wf⟩).wf;have key:∀p:Nat×Nat,∀g:G,(fZ (λh=>if (g h).isSome then 0 else 1) hs,fZ (λh=>((g h).getD 0).toNat) hs)=p->Acc (Ap hs) g:=λp=>by
  induction p using wf.induction with
  | _ p ih =>
   intro g e;refine⟨g,λg' r=>ih _ ?_ g' rfl⟩;rw [<-e];rcases r with r | ⟨r1,r2⟩
   .exact Prod.Lex.left _ _ r
   show Prod.Lex _ _ (fZ (λh=>if (g' h).isSome then 0 else 1) hs,_) _;rw [r1];exact Prod.Lex.right _ r2
 exact key _ g rfl
def MJ (hs:List Str)(a b c:G)(h:Ap hs a b)(k:Ap hs b c):Ap hs a c:=by
 unfold Ap at *;omega
def Gd {aa:List ar}(g:G)(ru:ar)(j:NN g)(m:ru∈aa)(f:cW bl g ru=true):NN (fq g ru.1 (aV g ru))/\Ap (aa.map (·.1)) (fq g ru.1 (aV g ru)) g:=by
 refine⟨wt j ru,?_⟩;have hm:ru.1∈aa.map (·.1):=j8 m;have nn:=wt j ru;have qM:fq g ru.1 (aV g ru) ru.1=some (aV g ru):=ax rfl;have ne:∀z,z≠ru.1->fq g ru.1 (aV g ru) z=g z:=λz n=>ay n;unfold cW at f;have f2:=(gF.mp f).2;cases e:g ru.1 with
 | none =>
  refine .inl (nr (λx _=>?_) hm ?_)
  .by_cases c:x=ru.1
   .show (if (fq g ru.1 (aV g ru) x).isSome then 0 else 1)<=_;rw [c,qM];exact dX _
   show (if (fq g ru.1 (aV g ru) x).isSome then 0 else 1)<=_;rw [ne x c];exact aF _
  show (if (fq g ru.1 (aV g ru) ru.1).isSome then 0 else 1) < (if (g ru.1).isSome then 0 else 1);rw [qM,e];show 0 < 1;exact Nat.one_pos
 | some k =>
  rw [e] at f2;have lt:aV g ru < k:=c_ (by simpa [bl] using f2);have h0:=nn ru.1 _ qM;refine .inr ⟨?_,nr (λx _=>?_) hm ?_⟩
  .unfold fZ
   congr 1
   refine List.map_congr_left λx _=>?_;by_cases c:x=ru.1
   .show (if (fq g ru.1 (aV g ru) x).isSome then 0 else 1)=(if (g x).isSome then 0 else 1);rw [c,qM,e];rfl
   show (if (fq g ru.1 (aV g ru) x).isSome then 0 else 1)=(if (g x).isSome then 0 else 1);rw [ne x c]
  .by_cases c:x=ru.1
   .show ((fq g ru.1 (aV g ru) x).getD 0).toNat<=((g x).getD 0).toNat;rw [c,qM,e];show (aV g ru).toNat<=k.toNat;omega
   show ((fq g ru.1 (aV g ru) x).getD 0).toNat<=((g x).getD 0).toNat;rw [ne x c];exact aF _
  show ((fq g ru.1 (aV g ru) ru.1).getD 0).toNat < ((g ru.1).getD 0).toNat;rw [qM,e];show (aV g ru).toNat < k.toNat;omega
def Aq (aa:List ar)(g:G)(j:NN g):∃n,pN bl aa n g:=yt (MJ (aa.map (·.1))) (λg ru=>Gd g ru) (JH _ g) j
inductive Em (aa:List ar):Str->Prop
 | mk {ru:ar}:ru∈aa->(∀p∈ru.2,Em aa p)->Em aa ru.1
def yS (aa:List ar)(b:Str->Int):Prop:=(∀z,0<=b z)/\∀ru∈aa,(∀p∈ru.2,Em aa p)->1+(ru.2.map b).sum<=b ru.1
def GJ (aa:List ar)(b:Str->Int)(g:G):Prop:=∀z n,g z=some n->0<=n/\n<=b z/\Em aa z
theorem Bc {aa:List ar}{b:Str->Int}{g:G}(j:GJ aa b g)(hb:∀z,0<=b z):∀ps:List Str,(ps.map λp=>(g p).getD 0).sum<=(ps.map b).sum
 | []=>by simp
 | p::r=>by
  have h1:=Bc j hb r;have h2:(g p).getD 0<=b p:=by
   cases e:g p with
   | none=>exact hb p
   | some n=>exact(j p n e).2.1
  rw [cP,kK,cP,kK];omega
def gm (b:Str->Int)(g:G)(h:Str):Nat:=if (g h).isSome then (b h - (g h).getD 0).toNat else (b h).toNat+1
def sE {aa:List ar}{b:Str->Int}(B:yS aa b)(g:G)(ru:ar)(j:GJ aa b g)(m:ru∈aa)(f:cW bg g ru=true) :
  GJ aa b (fq g ru.1 (aV g ru))/\fZ (gm b (fq g ru.1 (aV g ru))) (aa.map (·.1)) < fZ (gm b g) (aa.map (·.1)):=by
 have hm:ru.1∈aa.map (·.1):=j8 m;have qM:fq g ru.1 (aV g ru) ru.1=some (aV g ru):=ax rfl;have ne:∀z,z≠ru.1->fq g ru.1 (aV g ru) z=g z:=λz n=>ay n;unfold cW at f;obtain⟨f1,f2⟩:=gF.mp f;have em:∀p∈ru.2,Em aa p:=λp hp=>by
  obtain⟨n,en⟩:=lY.mp (gL.mp f1 p hp);exact(j p n en).2.2
 have bd:=B.2 ru m em;have sb:=Bc j B.1 ru.2;have s0:=jP g (λz n e=>(j z n e).1) ru.2;have sz:0<=aV g ru/\aV g ru<=b ru.1:=by unfold aV;omega
 refine⟨λz n e=>?_,nr (λx _=>?_) hm ?_⟩
 .by_cases c:z=ru.1
  .rw [c,qM] at e;cases e;rw [c];exact⟨sz.1,sz.2,.mk m em⟩
  rw [ne z c] at e;exact j z n e
 .by_cases c:x=ru.1
  .rw [c];unfold gm;rw [qM];show (b ru.1 - aV g ru).toNat<=_;cases e:g ru.1 with
   | none=>show _<=(b ru.1).toNat+1;omega
   | some k =>
    rw [e] at f2;have lt:aV g ru > k:=c_ (by simpa [bg] using f2);show _<=(b ru.1 - k).toNat;omega
  unfold gm;rw [ne x c];exact aF _
 unfold gm;rw [qM];show (b ru.1 - aV g ru).toNat < _;cases e:g ru.1 with
 | none=>show _ < (b ru.1).toNat+1;omega
 | some k =>
  rw [e] at f2;have lt:aV g ru > k:=c_ (by simpa [bg] using f2);show _ < (b ru.1 - k).toNat;omega
def AA {aa:List ar}{b:Str->Int}(B:yS aa b)(g:G)(j:GJ aa b g):∃n,pN bg aa n g :=
 yt (r:=λg' g=>fZ (gm b g') (aa.map (·.1)) < fZ (gm b g) (aa.map (·.1))) (λ_ _ _ h k=>mj h k) (sE B) ((InvImage.wf (λg:G=>fZ (gm b g) (aa.map λx:ar=>x.1)) Nat.lt_wfRel.wf).apply g) j
def yn {aa:List ar}{b:Str->Int}(B:yS aa b){g g':G}(h:fk bg aa g g')(j:GJ aa b g):GJ aa b g':=h.keep (λg ru a m f=>(sE B g ru a m f).1) j
end M11
namespace L2
open PySem
def qc {K:ba}{H:Hp}{p D:Addr}{zs:List Str}{σ:St}{v:V}{x:Str}{Qp:Hp->Prop}(hp:aH K H p (zs.map V.str))(hz:zs.length<=10000)(hD:H D=none)
  (q:∀ts H2,aA H H2->H2 D=some (.lst (ts.map V.ref))->Paired (λt h=>aS K H2 t [.str h,v]) ts zs->Qp H2) :
  ∃W:Nat->Nat->List V->St->Hp->Prop,(∃m,W 0 m [] (eV [x] [] σ) (upd H D (.lst []))) /\
 ∀i m ys σ' H,W i m ys σ' H->((ki K p).stop i H/\Qp H)\/((ki K p).go i H/\∃m',m' < m/\∀x H',(ki K p).mQ i H x H'->dP 0 x σ' H' λσ2 H2=>iw σ2 H2 λb H3 =>
  if b=true then tS (gZ (gT 0) (gZ (tC v) rE)) σ2 H3 λy H4=>H4 D=some (.lst ys)/\ys.length < sizeLine/\W (i+1) m' (ys++[y]) σ2 (upd H4 D (.lst (ys++[y]))) else W (i+1) m' ys σ2 H3):=by
 refine cN (xs:=zs.map V.str) (λi ys σ2 H2=>∃ts:List Addr,ys=ts.map V.ref/\ts.length=i/\Paired (λt h=>aS K H2 t [.str h,v]) ts (zs.take i)/\(∃y0,σ2=[y0])/\aA H H2/\H2 D=some (.lst ys))
  ⟨[],rfl,rfl,.nil,⟨none,rfl⟩,af hD _,ae⟩ (λi ys σ2 H2 _ h=>?_) (λi x ys σ2 H2 ex h=>?_) (λys σ2 H2 h=>?_)
 .obtain⟨_,_,_,_,_,sm,_⟩:=h;exact sm.seq hp
 .obtain⟨ts,rfl,ht,qo,⟨y0,rfl⟩,sm,hd⟩:=h;rw [bz] at ex;obtain⟨z,ez,rfl⟩:=cD.mp ex;have li:=(bu.mp ez).1;refine goN (yo ?_);refine⟨_,rfl,iQ,λt jm=>⟨?_,bN (by rw [au];omega),ts++[t],?_,?_,?_,⟨_,rfl⟩,?_,ae⟩⟩
  .rw [aj (aw hd jm)];exact hd
  .rw [bH];rfl
  .rw [a9,ht];rfl
  .rw [cQ,ez];have jj:upd H2 t (.tup [.str z,v]) D=some (.lst (ts.map V.ref)):=by rw [aj (aw hd jm)];exact hd
   exact h_ (Paired.fc qo λt' h' z=>a7 jj ((af jm _).tup z)) (a7 jj (aS.of ae))
  intro b o hb;rw [aj (λz=>by rw [z,hD] at hb;cases hb)];exact af jm _ _ _ (sm b o hb)
 obtain⟨ts,rfl,ht,qo,_,sm,hd⟩:=h;rw [au,cH] at qo;exact q ts H2 sm hd qo
def Tab.same {T:Addr}{pos:Pos}{qual:Str}{H H':Hp}(h:Tab T pos qual H)(s:aA H H'):Tab T pos qual H':=by
 obtain⟨ps,a,b,c⟩:=h;refine⟨ps,s _ _ a,b,c.imp id ?_⟩;rintro⟨c',e,g⟩;exact⟨c',e,s _ _ g⟩
def Tab.xJ {T d:Addr}{pos:Pos}{qual:Str}{H H':Hp}{kvs:List (aR×V)}(h:Tab T pos qual H)(s:cX d H H')(hd:H d=some (.dK kvs)):Tab T pos qual H':=by
 obtain⟨ps,a,b,c⟩:=h;refine⟨ps,s _ _ (λz=>by rw [z,hd] at a;cases a) a,b,c.imp id ?_⟩;rintro⟨c',e,g⟩;exact⟨c',e,s _ _ (λz=>by rw [z,hd] at g;cases g) g⟩
structure yO (K:ba)(x qual:Str)(st:Stmt)(f:Addr)(fd:FuncData)(T:Addr):Prop where
 ex:∃(oc:Value)(od:Option Addr)(kV doc pm:Value)(an:Option Addr)(c:Addr)(ct:Value)(xU:Array (Option Value)),
  fd=PySem.W.fnOf x qual (dJ st) (cC st) (av st) .none kV doc pm an (.ref c) ct/\K.lookup f=some ⟨oc,od,.func fd,xU⟩/\PySem.W.codeIn K (.ref c) qual=true/\PySem.W.codeHdIn K c T=true
 kp:PySem.W.keepIn K (.ref f)=true
def yO.ok {P:Program}{w:World}{K:ba}{mg:Str->Option Value}{base:Heap}{x qual:Str}{st:Stmt}{f:Addr}{fd:FuncData}{T:Addr}{N ps:List Str}{k:Nat}{sp:Sp}(F:yO K x qual st f fd T)(S:aK N ps (av st))(len:∀vs H Q E,sp vs H Q E->vs.length=ps.length)
  (jB:∀(c:Addr)(A:Around)(outer:List Env)(s:Shared)(H:Hp)(vs:List V)(Q:VK)(E:XK),PySem.W.codeHdIn K c T=true->fY k (A.deeper (PyProof.Rows.envOfC qual (av st) s.heap.objs.size f (.ref c)))->sp vs H Q E ->
   ∃t,AZ (pJ gp P w K mg base N qual (av st) f (.ref c) A outer s H E).CW (cC st) t/\t { nx:=λ_ H'=>Q .fh H',rt:=Q } (start N vs) H):bS P w K mg base gp (k+1) f fd ps sp:=by
 obtain⟨oc,od,kV,doc,pm,an,c,ct,xU,rfl,lk,wM,hC⟩:=F.ex;refine G6 lk wM S len λA outer s H vs Q E hr yY=>?_;obtain⟨t,h,q⟩:=jB c A outer s H vs Q E hC hr yY;exact⟨t,h.CW,q⟩
theorem uG {v:V}:∀(hs:List Str)(bW:List (aR×V)) (as:List Str),bW.map (·.1)=as.map Sum.inr->(di (hs.map λh=>((Sum.inr h:aR),v)) bW).map (·.1)=(M11.wV as hs).map Sum.inr
 | [],bW,as,e=>e
 | h::r,bW,as,e=>uG r (bU bW (Sum.inr h) v) (M11.iB as h) (hV.kZ e h)
theorem ng {v:V}:∀(hs:List Str)(bW:List (aR×V))(z:Str),bw (di (hs.map λh=>((Sum.inr h:aR),v)) bW) (Sum.inr z)=if z∈hs then some v else bw bW (Sum.inr z)
 | [],bW,z=>by simp [di]
 | h::r,bW,z=>by
  have ih:=ng (v:=v) r (bU bW (Sum.inr h) v) z;show bw (di (r.map λh=>((Sum.inr h:aR),v)) (bU bW (Sum.inr h) v)) (Sum.inr z)=_;rw [ih,rD];by_cases c:z∈r
  .rw [ax c,ax (dB _ c)]
  rw [ay c];by_cases c2:z=h
  .rw [ax (by rw [c2]),ax (by rw [c2];exact cI)]
  rw [ay (λe=>c2 (mh e)),ay (λe=>(bX.mp e).elim c2 c)]
end L2
namespace hV
open PySem L2 M11
def Qk:List Stmt->Arguments×Expr×Scope×Pos
 | [.Return (some (.Call _ [_,_,.Lambda p b s pos] _ _)) _]=>(p,b,s,pos)
 | _=>(⟨[],[],none,[],[],none,[]⟩,.Constant .none 0 ⟨0,0,0,0⟩,av rR,⟨0,0,0,0⟩)
abbrev r9:=Qk (cC rR)
abbrev Ao:=Qk (cC v7)
abbrev yW:Str := "least_sizes" ++ ".<locals>." ++ "<lambda>"
abbrev KQ:Str := "greatest_empty_sizes" ++ ".<locals>." ++ "<lambda>"
def LU:aK ["size","known"] ["size","known"] r9.2.2.1:=iN rfl rfl rfl rfl nofun
def LV:aK ["size","known"] ["size","known"] Ao.2.2.1:=iN rfl rfl rfl rfl nofun
section
def Ab (F:iC K "settled_sizes" "settled_sizes" nN f fd)(T:Txt mg):bS P w K mg base gp 2 f fd ["rules","sizes","better"] (iT K yW r9.1 r9.2.1 r9.2.2.1 M11.bl) :=
 uE F T LU (λpm gW c' us hl=>match us,hl with | [_,_],_=>rfl) (λ_ _ _ _ _ _=>fA nV (pv 0) (pv 1) (bK _)) (λa b H Q h=>⟨_,rfl,_,rfl,_,_,rfl,rfl,h⟩)
def Ac (F:iC K "settled_sizes" "settled_sizes" nN f fd)(T:Txt mg):bS P w K mg base gp 2 f fd ["rules","sizes","better"] (iT K KQ Ao.1 Ao.2.1 Ao.2.2.1 M11.bg) :=
 uE F T LV (λpm gW c' us hl=>match us,hl with | [_,_],_=>rfl) (λ_ _ _ _ _ _=>fA xX (pv 0) (pv 1) (bK _)) (λa b H Q h=>⟨_,rfl,_,rfl,_,_,rfl,rfl,h⟩)
def zc (aa:List ar):G:=λz=>if z∈tN (hd aa) [] (aa.flatMap (·.2)) then some 0 else none
def qA (K:ba)(T1:Addr):Sp:=λvs H Q _=>∃(R:Addr)(rs:List Addr)(aa:List ar),vs=[.ref R]/\aH K H R (rs.map V.ref)/\bL K H rs aa/\aa.length<=1000/\(∀ru∈aa,ru.2.length<=8)/\Tab T1 r9.2.2.2 yW H /\
 ∀(d:Addr)(kvs:List (aR×V)) (ks:List Str)(g:G)(H':Hp),H d=none->cX T1 H H'->Tab T1 r9.2.2.2 yW H'->H' d=some (.dK kvs)->kvs.map (·.1)=ks.map Sum.inr->(∀z,bw kvs (Sum.inr z)=(g z).map V.int)->fk M11.bl aa (zc aa) g->jd M11.bl aa g->kvs.length<=20000->Q (.ref d) H'
def IY:aK ["rules"] ["rules"] (av rR):=iN rfl rfl rfl rfl nofun
def FR {T1:Addr}(F:yO K "least_sizes" "least_sizes" rR f fd T1)(T:Txt mg)(hB:tM mg base)(GW:aC P w K mg base 1 "words_in" ["rules"] (Bi K))
  (GS:aC P w K mg base 2 "settled_sizes" ["rules","sizes","better"] (iT K yW r9.1 r9.2.1 r9.2.2.1 M11.bl)):bS P w K mg base gp 3 f fd ["rules"] (qA K T1):=by
 refine F.ok IY (λvs H Q E h=>?_) (λc A outer s H vs Q E hC hr h=>?_)
 .obtain⟨R,rs,aa,rfl,_⟩:=h;rfl
 obtain⟨R,rs,aa,rfl,hR,cA,bE,h8,hT,q⟩:=h;refine⟨_,ak (aN (bp GS hr rfl (ab (pv 0) (ab (bc (dW rfl) rfl T.AR gk (ab
  (bD ["word"] [] rfl (a8 (bp (GW.mono (by decide:1<=2)) hr rfl (ab (pv 0) ag))) (br rfl rfl) nofun rfl nofun
   (λ_ _ _ _ _=>aq (i:=0) (show (["word"]:List Str).Nodup by decide +kernel) rfl (bC rfl)) (λ_ _ _ _ _=>b9)
   (λ_ _ _ _ _=>bo (ab (pv 0) (ab ao ag)))) ag)) (ab (Fu (T:=T1) rfl hC hB nofun) ag))))),?_⟩
 dsimp only [yz];refine⟨_,rfl,_,rfl,R,rs,aa,rfl,hR,cA,bE,h8,λD1 H1 f1 s1 e1=>?_⟩;have lw:(tN (hd aa) [] (aa.flatMap (·.2))).length<=8000:=by
  have h1:=vH (hd aa) (aa.flatMap (·.2)) [];have h2:=jD aa 1000 bE h8;simp only [jq] at h1;omega
 refine⟨D1,rfl,⟨_,aH.of e1⟩,λD2 jc=>qc (aH.of e1) ∅ jc λts H2 s2 e2 p2=>?_⟩;have kp:Paired (λt (kv:aR×V)=>aS K H2 t [kV kv.1,kv.2]) ts ((tN (hd aa) [] (aa.flatMap (·.2))).map λh=>((Sum.inr h:aR),V.int 0)):=cy p2 λ_ _ z=>z;refine⟨D2,ts,_,rfl,e2,kp,λd hd2=>?_⟩;have k1:=uG (v:=.int 0) (tN (hd aa) [] (aa.flatMap (·.2))) [] [] rfl;have k2:∀z,bw (di ((tN (hd aa) [] (aa.flatMap (·.2))).map λh=>((Sum.inr h:aR),V.int 0)) []) (Sum.inr z)=(zc aa z).map V.int:=λz=>by
  rw [ng];unfold zc
  split <;> rfl
 have lk:=iP (tN (hd aa) [] (aa.flatMap (·.2))) [];simp only [jq] at lk;generalize di ((tN (hd aa) [] (aa.flatMap (·.2))).map λh=>((Sum.inr h:aR),V.int 0)) []=Qn at k1 k2;have s3:=(s1.trans s2).trans (af hd2 (.dK Qn));have e3:upd H2 d (.dK Qn) d=some (.dK Qn):=ae;have ze:H d=none:=(s1.trans s2).free hd2;generalize upd H2 d (.dK Qn)=H3 at s3 e3;refine⟨hT.same s3,λfl c' gW H4 s4 t4 ffl e4 WY=>?_⟩;have nT:d≠T1:=λz=>by
  obtain⟨ps,a,_⟩:=hT.same s3;rw [<-z,e3] at a;cases a
 have Eh:=s4 d _ nT e3;have U6:∀{a xs},aS K H a xs->aS K H4 a xs:=λ{a xs} h=>by
  obtain⟨ps,b,_⟩:=hT;rcases h with (h | ⟨u,h⟩) | h
  .exact .inl (.inl (s4 _ _ (λz=>by rw [z,b] at h;cases h) (s3 _ _ h)))
  .exact .inl (.inr ⟨u,s4 _ _ (λz=>by rw [z,b] at h;cases h) (s3 _ _ h)⟩)
  exact .inr h
 have U7:∀{a xs},aH K H a xs->aH K H4 a xs:=λ{a xs} h=>by
  obtain⟨ps,b,_⟩:=hT;rcases h with (h | ⟨u,h⟩) | h
  .exact .inl (.inl (s4 _ _ (λz=>by rw [z,b] at h;cases h) (s3 _ _ h)))
  .exact .inl (.inr ⟨u,s4 _ _ (λz=>by rw [z,b] at h;cases h) (s3 _ _ h)⟩)
  exact .inr h
 refine⟨R,rs,aa,d,fl,c',_,gW,Qn,_,zc aa,rfl,U7 hR,cA.keep λ_ _ z=>U6 z,bE,h8,Eh,k1,pI _ ku,∅,k2,Aq aa _ λz n e=>?_,e4,WY,λmI Qo g' H5 s5 e5 k5 v5 st se Y1=>?_⟩
 .unfold zc at e
  split at e
  .cases e;exact oH _
  cases e
 refine q d mI Qo g' H5 ze (λb o n hb=>s5 b o (λz=>?_) (s4 b o n (s3 b o hb))) (t4.xJ s5 Eh) e5 k5 v5 st se Y1;rw [z,ze] at hb;cases hb
def vP (K:ba)(T2:Addr):Sp:=λvs H Q _=>∃(R:Addr)(rs:List Addr)(aa:List ar)(b:Str->Int),vs=[.ref R]/\aH K H R (rs.map V.ref)/\bL K H rs aa/\aa.length<=1000/\(∀ru∈aa,ru.2.length<=8)/\yS aa b/\Tab T2 Ao.2.2.2 KQ H /\
 ∀(d:Addr)(kvs:List (aR×V)) (ks:List Str)(g:G)(H':Hp),H d=none->cX T2 H H'->Tab T2 Ao.2.2.2 KQ H'->H' d=some (.dK kvs)->kvs.map (·.1)=ks.map Sum.inr->(∀z,bw kvs (Sum.inr z)=(g z).map V.int)->GJ aa b g->fk M11.bg aa (λ_=>none) g->jd M11.bg aa g->Q (.ref d) H'
def Ja:aK ["rules"] ["rules"] (av v7):=iN rfl rfl rfl rfl nofun
def FU {T2:Addr}(F:yO K "greatest_empty_sizes" "greatest_empty_sizes" v7 f fd T2)(hB:tM mg base)
  (GS:aC P w K mg base 2 "settled_sizes" ["rules","sizes","better"] (iT K KQ Ao.1 Ao.2.1 Ao.2.2.1 M11.bg)):bS P w K mg base gp 3 f fd ["rules"] (vP K T2):=by
 refine F.ok Ja (λvs H Q E h=>?_) (λc A outer s H vs Q E hC hr h=>?_)
 .obtain⟨R,rs,aa,b,rfl,_⟩:=h;rfl
 obtain⟨R,rs,aa,b,rfl,hR,cA,bE,h8,ZK,hT,q⟩:=h;refine⟨_,ak (aN (bp GS hr rfl (ab (pv 0) (ab g9 (ab (Fu (T:=T2) rfl hC hB nofun) ag))))),?_⟩;refine⟨_,rfl,λd ze=>?_⟩;have s3:=af ze (.dK []);have e3:upd H d (.dK []) d=some (.dK []):=ae;generalize upd H d (.dK [])=H3 at s3 e3;refine⟨hT.same s3,λfl c' gW H4 s4 t4 ffl e4 WY=>?_⟩;have nT:d≠T2:=λz=>by
  obtain⟨ps,a,_⟩:=hT.same s3;rw [<-z,e3] at a;cases a
 have Eh:=s4 d _ nT e3;have U6:∀{a xs},aS K H a xs->aS K H4 a xs:=λ{a xs} h=>by
  obtain⟨ps,b,_⟩:=hT;rcases h with (h | ⟨u,h⟩) | h
  .exact .inl (.inl (s4 _ _ (λz=>by rw [z,b] at h;cases h) (s3 _ _ h)))
  .exact .inl (.inr ⟨u,s4 _ _ (λz=>by rw [z,b] at h;cases h) (s3 _ _ h)⟩)
  exact .inr h
 have U7:∀{a xs},aH K H a xs->aH K H4 a xs:=λ{a xs} h=>by
  obtain⟨ps,b,_⟩:=hT;rcases h with (h | ⟨u,h⟩) | h
  .exact .inl (.inl (s4 _ _ (λz=>by rw [z,b] at h;cases h) (s3 _ _ h)))
  .exact .inl (.inr ⟨u,s4 _ _ (λz=>by rw [z,b] at h;cases h) (s3 _ _ h)⟩)
  exact .inr h
 have j0:GJ aa b (λ_=>none):=λz n e=>nomatch e;refine⟨R,rs,aa,d,fl,c',_,gW,[],[],λ_=>none,rfl,U7 hR,cA.keep λ_ _ z=>U6 z,bE,h8,Eh,rfl,ku,dX _,λ_=>rfl,AA ZK _ j0,e4,WY,λmI Qo g' H5 s5 e5 k5 v5 st se Y1=>?_⟩;refine q d mI Qo g' H5 ze (λb o n hb=>s5 b o (λz=>?_) (s4 b o n (s3 b o hb))) (t4.xJ s5 Eh) e5 k5 v5 (yn ZK st j0) st se;rw [z,ze] at hb;cases hb
end
end hV
namespace L2
open PySem PySem.Spec PyProof.Rows
def NA (o:Obj):Nat:=match o.data with
 | .dict _ ep=>ep
 | _=>0
def RV (d:Addr)(o:Obj)(kvs:List (aR×V)):It :=
 ⟨λi H=>H d=some (.kr o (.dK kvs))/\i < kvs.length,λi H x H'=>H'=H/\∃kv,kvs[i]?=some kv/\x=kV kv.1,λi H=>H d=some (.kr o (.dK kvs))/\kvs.length<=i⟩
def AH {X:Cx}{ah:List (Addr×Obj)}{σ:St}{H:Hp}{s:Shared}{d:Addr}{o:Obj}{kvs:List (aR×V)}(I:Inv X ah σ H s)(e:H d=some (.kr o (.dK kvs))) :
  (d == sysModules)=false/\∃vs,KV kvs vs/\s.heap.DictAt (bA X.prog X.w) d vs (NA o):=by
 obtain⟨ho,hz,hs,vs,r,o',es,ep,h1,h2,h3,h4⟩:=(show cS X.prog X.w H s.heap d (.kr o (.dK kvs)) from I.cx d _ e);rw [ho] at h1;cases h1;refine⟨hs,vs,r,o,es,ho,h2,?_,h4⟩;unfold NA;rw [h3]
def Cs {P:Program}{w:World}{K:ba}{tg:Expr}(d it:Addr)(o:Obj)(kvs:List (aR×V)):Turn P w K tg (RV d o kvs) [it] it (λi h=>h.IsKeyIter it d i kvs.length (NA o)) where
 mem:=by simp
 obj:=λi h st b hb=>by
  have e:b=it:=by simpa using hb
  subst e;obtain⟨o,e,c,d⟩:=st;exact⟨o,e,λv z=>by rw [d] at z;cases z⟩
 keep:=λi h h' st k=>let ⟨o,e,r⟩:=st;⟨o,k it (by simp) o e,r⟩
 item:=by
  intro X hP hw hK hc i ah s σ H E I hf st hg;subst hP hw hK;obtain⟨hq,hi⟩:=hg;obtain⟨hs,vs,r,da⟩:=AH I hq;have l:=r.length;obtain⟨kv,Tb⟩:∃kv,kvs[i]?=some kv:=⟨kvs[i],dH hi⟩;obtain⟨q,eq⟩:∃q,vs[i]?=some q:=⟨vs[i]'∅,dH ∅⟩;have ek:kv.1=q.1:=by
   have:=congrArg (λl:List aR=>l[i]?) r.keys;simp only [bz,Tb,eq] at this;exact iu this
  obtain⟨f0,f1,f2,f3,f4,f5⟩:=hf it (by simp);rw [l] at st;refine wpAny_pyNext_dict_item (k:=q.1) (v:=q.2) st da eq λkey h' hk xi sb=>?_;have I1:Inv X ah σ H { s with heap:=h' }:=I.turned (t':=s.toks) (λb o hb e=>(sb.2 b hb).trans e) f0 f1 f3 f4 f5;obtain⟨o2,e,c,dd⟩:=id xi;rw [<-l] at xi;exact⟨key,rfl,BV (s:={ s with heap:=h' }) e c dd nofun ⟨kV kv.1,H,I1,by rw [ek];exact K1 hk,⟨rfl,kv,Tb,rfl⟩,xi,λb hb=>(hf b hb).1⟩⟩
 done:=by
  intro X hP hw hK hc i ah s σ H E I hf st hg;subst hP hw hK;obtain⟨hq,hi⟩:=hg;obtain⟨hs,vs,r,da⟩:=AH I hq;have l:=r.length;obtain⟨f0,f1,f2,f3,f4,f5⟩:=hf it (by simp);rw [l] at st;exact wpAny_pyNext_dict_end (I.ok.hd hc) st da (vy ∅) λh' eb=>⟨rfl,I.turned (t':=s.toks) (λb o hb e=>eb b o hb e) f0 f1 f3 f4 f5⟩
 self:=λ_ _ _ _ _ st h=>wpAny_pyIter_keyiter st h
def Qx (tl:TE):TI:=λσ H R=>tl σ H λx H1=>∃d kvs,x=.ref d/\H1 d=some (.dK kvs)/\∀o,R (RV d o kvs) (upd H1 d (.kr o (.dK kvs)))
def BI {X:Cx}{tg l:Expr}{tl:TE}(hl:PE X l tl):PI X tg l (Qx tl):=by
 intro ah s σ H R I h;refine cR (hl ah s σ H _ I h) λv s1 bG=>?_;obtain⟨x,H1,I1,r1,q1⟩:=bG;obtain⟨d,kvs,e,hd,q⟩:=q1;subst e;cases r1;obtain⟨hz,hs,vs,r,o,es,ep,h1,h2⟩:=(show cS X.prog X.w H1 s1.heap d (.dK kvs) from I1.cx d _ hd);have I2:Inv X ah σ (upd H1 d (.kr o (.dK kvs))) { s1 with heap:=s1.heap,toks:=s1.toks }:=I1.write (x:=d) (e:=d) (by rw [hd];exact True.intro) (.inl rfl) (λb u _ e=>e) ⟨o,h1⟩ ⟨h1,hz,hs,vs,r,o,es,ep,h1,h2⟩;have e2:upd H1 d (.kr o (.dK kvs)) d=some (.kr o (.dK kvs)):=ae;obtain⟨_,Kl,r2,da⟩:=AH I2 e2;have q2:=q o;generalize upd H1 d (.kr o (.dK kvs))=H2 at I2 e2 q2;refine wpAny_pyIter_dict hs da ?_;refine⟨s1.heap.objs.size,[s1.heap.objs.size],_,_,H2,rfl,I2.kept (t':=s1.toks) λb o e=>cv _ e,Cs d _ o kvs,⟨_,d0 _ rfl,rfl,by rw [r2.length];rfl⟩,λb hb=>?_,q2⟩;have e:b=s1.heap.objs.size:=by simpa using hb
 subst e;exact I2.wO (aF _) (I2.cx.fresh (aF _))
section
variable {d D:Addr}{o:Obj}{kvs:List (aR×V)}{ts:List Str}{js:List (Nat×Str)}{g:TG}{tif:TT}{te:TE}{R:Hp->Prop}{σ:St}{H:Hp}
def tE (Pv:Nat->List V->St->Hp->Prop)(h0:Pv 0 [] (eV ts js σ) (upd H D (.lst [])))(hl:∀i ys σ H,i<=kvs.length->Pv i ys σ H->H d=some (.kr o (.dK kvs)))
  (hs:∀i kv ys σ H,kvs[i]?=some kv->Pv i ys σ H->g (kV kv.1) σ H λσ2 H2=>tif σ2 H2 λb H3=>if b=true then te σ2 H3 λy H4=>H4 D=some (.lst ys)/\ys.length < sizeLine/\Pv (i+1) (ys++[y]) σ2 (upd H4 D (.lst (ys++[y]))) else Pv (i+1) ys σ2 H3)
  (hd:∀ys σ H,Pv kvs.length ys σ H->R H) :
  ∃W:Nat->Nat->List V->St->Hp->Prop,(∃m,W 0 m [] (eV ts js σ) (upd H D (.lst []))) /\
 ∀i m ys σ' H,W i m ys σ' H->((RV d o kvs).stop i H/\R H)\/((RV d o kvs).go i H/\∃m',m' < m/\∀x H',(RV d o kvs).mQ i H x H'->g x σ' H' λσ2 H2=>tif σ2 H2 λb H3 =>
  if b=true then te σ2 H3 λy H4=>H4 D=some (.lst ys)/\ys.length < sizeLine/\W (i+1) m' (ys++[y]) σ2 (upd H4 D (.lst (ys++[y]))) else W (i+1) m' ys σ2 H3):=by
 refine⟨λi m ys σ H=>m=kvs.length - i/\i<=kvs.length/\Pv i ys σ H,⟨kvs.length,by simp,dX _,h0⟩,?_⟩;rintro i m ys σ' H ⟨rfl,hi,p⟩;have q:=hl i ys σ' H hi p;by_cases kn:i < kvs.length
 .refine .inr ⟨⟨q,kn⟩,kvs.length - (i+1),∅,λx H' y=>?_⟩;obtain⟨e,kv,Tb,rfl⟩:=y;subst e;have z:=hs i kv ys σ' _ Tb p;have h1:(i+1<=kvs.length)=True:=eq_true kn;simp only [h1,true_and];exact z
 have e:i=kvs.length:=by omega
 subst e;exact .inl ⟨⟨q,aF _⟩,hd ys σ' H p⟩
end
def uQ {A:Around}{s:Shared}{l b:Addr}{ys xs:List Int}{aT dG:List Value}(r:bf (ys.map V.int) aT)(r2:bf (xs.map V.int) dG)(hl:s.heap.IsList l aT.toArray)(hb:s.heap.IsList b dG.toArray)(ne:l≠b)(hu:A.units < cLine) :
  SeqAt.EqAt A s (.ref l) (.ref b) (decide (ys=xs)):=by
 have l1:=r.length;have l2:=r2.length;rw [au] at l1 l2;by_cases bE:ys.length=xs.length
 .have h:=SeqAt.RcAt.lists (A:=A) (e:=λj=>decide (ys[j]?=xs[j]?)) hl hb (by simp only [bY];omega) hu λj h1 h2=>?_
  .have e:((List.range aT.toArray.size).all λj=>decide (ys[j]?=xs[j]?))=decide (ys=xs):=by
    rw [mT,gL,decide_eq_true_iff];constructor
    .intro h;refine List.ext_getElem? λj=>?_;by_cases c:j < ys.length
     .exact c_ (h j (pP.mpr (by simp only [bY];omega)))
     rw [vy ∅,vy ∅]
    intro h j _;rw [h];exact bh rfl
   rw [e] at h;exact .of_refs ne h
  have k1:j < aT.length:=by simpa using h1
  have k2:j < dG.length:=by simpa using h2
  have e1:ys[j]?=some (ys[j]'∅):=dH ∅;have e2:xs[j]?=some (xs[j]'∅):=dH ∅;obtain⟨u1,f1,q1⟩:=r.get (show (ys.map V.int)[j]?=some (.int (ys[j]'∅)) by rw [bz,e1];rfl);obtain⟨u2,f2,q2⟩:=r2.get (show (xs.map V.int)[j]?=some (.int (xs[j]'∅)) by rw [bz,e2];rfl);have g1:aT.toArray[j]=u1:=by
   have:=(bu.mp f1).2;simpa using this
  have g2:dG.toArray[j]=u2:=by
   have:=(bu.mp f2).2;simpa using this
  rw [g1,g2,e1,e2];obtain⟨t1,rfl⟩:=q1;obtain⟨t2,rfl⟩:=q2;have:=SeqAt.EqAt.int_int (A:=A.in1) (s:=s) (ys[j]'∅) t1 (xs[j]'∅) t2;have e3:(ys[j]'∅ == xs[j]'∅)=decide (some (ys[j]'∅)=some (xs[j]'∅)):=by
   rw [mT,beq_iff_eq,decide_eq_true_iff,Option.some.injEq]
  rw [e3] at this;exact this
 have h:=SeqAt.RcAt.lists_lengths (A:=A) hl hb (by simp only [bY,bne_iff_ne];omega) hu;rw [b8 (λz=>bE (by rw [z]))];exact .of_refs ne h
def CH {X:Cx}(hu:X.A.units+1 < cLine):jH X (compareOp .In) (λx y H Q=>∃t a l1 l2 xs ys zs,x=.ref a/\y=.ref t/\aS X.K H t [.ref l1,.ref l2]/\aH X.K H a (List.map V.int xs)/\aH X.K H l1 (List.map V.int ys)/\aH X.K H l2 (List.map V.int zs)/\l1≠a/\l2≠a /\
  Q (.bl (decide (ys=xs) || decide (zs=xs))) H):=by
 intro ah s σ H x y v u Q I rx ry h;obtain⟨t,a,l1,l2,xs,ys,zs,rfl,rfl,ht,ha,h1,h2,n1,n2,q⟩:=h;cases rx;cases ry;obtain⟨aT,r,pl,hz⟩:=I.tuple ht;obtain⟨u1,u2,rfl,q1,q2⟩:=vals2 r;cases (show u1=Value.ref l1 from q1);cases (show u2=Value.ref l2 from q2);obtain⟨xa,ra,pa,za⟩:=I.list ha;obtain⟨x1,r1,p1,z1⟩:=I.list h1;obtain⟨x2,r2,p2,z2⟩:=I.list h2;have e1:=uQ (A:=X.A.in1) (s:=s) r1 ra p1.isList pa.isList n1 hu;have e2:=uQ (A:=X.A.in1) (s:=s) r2 ra p2.isList pa.isList n2 hu;refine SeqAt.in_tupleAt (λy=>if y == .ref l1 then decide (ys=xs) else decide (zs=xs)) (show s.heap.IsTuple t #[.ref l1,.ref l2] from pl) (λy hy=>?_) ?_
 .have Vz:y=.ref l1\/y=.ref l2:=by simpa using hy
  by_cases c:y=.ref l1
  .subst c;rw [ax (oU _)];exact e1
  rcases Vz with z | z
  .exact absurd z c
  subst z;rw [ay (λq=>c (eq_of_beq q))];exact e2
 refine⟨.bl (decide (ys=xs) || decide (zs=xs)),H,I,?_,q⟩
 show Value.bool _=Value.bool _
 congr 1
 by_cases c:l2=l1
 .subst c;have e3:=I.r_ h1 h2;have e4:ys=zs:=by
   have:=congrArg (List.map λv:V=>match v with | .int n=>n | _=>0) e3
   simpa [jn,Function.comp_def] using this
  subst e4;simp
 simp [c]
end L2
namespace M11
open PySem L2
def Du (b:Str->Bool) (zs:List Str) (i:Nat):List Int:=((List.range i).filter λj=>!(zs[j]?.elim true b)).map λj:Nat=>(j:Int)
def yq (b:Str->Bool) (zs:List Str) (i:Nat){z:Str}(e:zs[i]?=some z):Du b zs (i+1)=Du b zs i++(if b z=true then [] else [(i:Int)]):=by
 unfold Du;rw [List.range_succ,oY,bH]
 congr 1
 by_cases h:b z=true
 .rw [ax h];simp [e,h]
 rw [ay h];simp [e,h]
def JV (b:Str->Bool) (zs:List Str) (i:Nat):(Du b zs i).length<=i:=by
 unfold Du;rw [au];have:=rB (λj=>!(zs[j]?.elim true b)) (List.range i);rw [vj] at this;exact this
def JF (b:Str->Bool) (zs:List Str) (j:Nat):Bool:=decide ([]=Du b zs zs.length) || decide ([(j:Int)]=Du b zs zs.length)
def OZ (aa:List ar) (names:List Str)(b:Str->Bool)(n:Str) (k j:Nat):Prop:=∃ru z,aa[k]?=some ru/\ru.1=n/\ru.2[j]?=some z/\z∈names/\JF b ru.2 j=true
end M11
namespace L2
open PySem M11
def jK (p:Str×Addr):aR×V:=(Sum.inr p.1,.ref p.2)
theorem ot:∀(ps bW:List (aR×V)),((bW++ps).map (·.1)).Nodup->di ps bW=bW++ps
 | [],bW,_=>by simp [di]
 | p::r,bW,h=>by
  have n:bw bW p.1=none:=by
   cases e:bw bW p.1 with
   | none=>rfl
   | some v =>
    have hm:=(eF bW p.1).mp (by rw [e];rfl);rw [bH,cP] at h;exact absurd rfl ((j7.mp h).2.2 p.1 hm p.1 cI)
  show di r (bU bW p.1 p.2)=_;rw [xP p.2 n,ot r (bW++[(p.1,p.2)]) (by rw [lX];exact h),lX];rfl
theorem ig:∀(ps:List (Str×Addr)),(ps.map (·.1)).Nodup->∀p∈ps,bw (ps.map jK) (Sum.inr p.1)=some (.ref p.2)
 | q::r,h,p,hp=>by
  rw [cP] at h ⊢;rcases bX.mp hp with z | z
  .rw [z];exact fJ rfl
  rw [fK,ig r (mU.mp h).2 p z];intro e;have e':q.1=p.1:=mh e;exact(mU.mp h).1 (by rw [e'];exact j8 z)
def nW (ps:List (Str×Addr)):(ps.map jK).map (·.1)=(ps.map (·.1)).map Sum.inr:=by
 rw [jn,jn];rfl
def tD {K:ba}{H:Hp}{p D:Addr}{zs:List Str}{σ:St}{x:Str}{Qp:Hp->Prop}(hp:aH K H p (zs.map V.str))(hz:zs.length<=10000)(hD:H D=none)
  (q:∀ts (ps:List (Str×Addr)) H2,aA H H2->H2 D=some (.lst (ts.map V.ref))->ps.map (·.1)=zs->Paired (λt (p:Str×Addr)=>aS K H2 t [.str p.1,.ref p.2]) ts ps->(∀p∈ps,H2 p.2=some (.lst [])/\H p.2=none/\p.2≠D)->(ps.map (·.2)).Nodup->Qp H2) :
  ∃W:Nat->Nat->List V->St->Hp->Prop,(∃m,W 0 m [] (eV [x] [] σ) (upd H D (.lst []))) /\
 ∀i m ys σ' H,W i m ys σ' H->((ki K p).stop i H/\Qp H)\/((ki K p).go i H/\∃m',m' < m/\∀x H',(ki K p).mQ i H x H'->dP 0 x σ' H' λσ2 H2=>iw σ2 H2 λb H3 =>
  if b=true then tS (gZ (gT 0) (gZ (Pg rE) rE)) σ2 H3 λy H4=>H4 D=some (.lst ys)/\ys.length < sizeLine/\W (i+1) m' (ys++[y]) σ2 (upd H4 D (.lst (ys++[y]))) else W (i+1) m' ys σ2 H3):=by
 refine cN (xs:=zs.map V.str) (λi ys σ2 H2=>∃(ts:List Addr)(ps:List (Str×Addr)),ys=ts.map V.ref/\ts.length=i/\ps.map (·.1)=zs.take i/\Paired (λt (p:Str×Addr)=>aS K H2 t [.str p.1,.ref p.2]) ts ps /\
   (∀p∈ps,H2 p.2=some (.lst [])/\H p.2=none/\p.2≠D)/\(ps.map (·.2)).Nodup/\(∃y0,σ2=[y0])/\aA H H2/\H2 D=some (.lst ys))
  ⟨[],[],rfl,rfl,rfl,.nil,by simp,by simp,⟨none,rfl⟩,af hD _,ae⟩ (λi ys σ2 H2 _ h=>?_) (λi x ys σ2 H2 ex h=>?_) (λys σ2 H2 h=>?_)
 .obtain⟨_,_,_,_,_,_,_,_,_,sm,_⟩:=h;exact sm.seq hp
 .obtain⟨ts,ps,rfl,ht,hm,qo,hl,hn,⟨y0,rfl⟩,sm,hd⟩:=h;rw [bz] at ex;obtain⟨z,ez,rfl⟩:=cD.mp ex;have li:=(bu.mp ez).1;refine goN (yo ?_);refine⟨_,rfl,rC,λl tX=>⟨iQ,λt jm=>?_⟩⟩;have ME:l≠D:=(aw hd tX).symm;have nt:t≠l:=λe=>by rw [e,ae] at jm;cases jm
  have QG:H2 t=none:=by rw [aj nt] at jm;exact jm
  have ntD:t≠D:=(aw hd QG).symm;have vR:aA H2 (upd (upd H2 l (.lst [])) t (.tup [.str z,.ref l])):=(af tX _).trans (af jm _);have jj:=vR _ _ hd;have el:upd (upd H2 l (.lst [])) t (.tup [.str z,.ref l]) l=some (.lst []):=by rw [aj nt.symm,ae]
  have et:aS K (upd (upd H2 l (.lst [])) t (.tup [.str z,.ref l])) t [.str z,.ref l]:=aS.of ae;generalize upd (upd H2 l (.lst [])) t (.tup [.str z,.ref l])=H4 at vR jj el et;refine⟨jj,bN (by rw [au];omega),ts++[t],ps++[(z,l)],by rw [bH];rfl,by rw [a9,ht];rfl,by rw [bH,hm,cQ,ez];rfl,?_,?_,?_,⟨_,rfl⟩,?_,ae⟩
  .exact h_ (Paired.fc qo λt' h' z=>a7 jj (vR.tup z)) (a7 jj et)
  .intro p' n5;rcases bR.mp n5 with h | h
   .obtain⟨a1,a2,a3⟩:=hl p' h;exact⟨by rw [aj a3];exact vR _ _ a1,a2,a3⟩
   rw [bF.mp h];exact⟨by rw [aj ME];exact el,sm.free tX,ME⟩
  .rw [bH];refine j7.mpr ⟨hn,by simp,λa ha b hb e=>?_⟩;rw [uc,bF] at hb;obtain⟨p',n5,rfl⟩:=cY.mp ha;have:=(hl p' n5).1;rw [e,hb] at this;rw [show H2 l=none from tX] at this;cases this
  intro b o hb;rw [aj (λz=>by rw [z,hD] at hb;cases hb)];exact vR _ _ (sm b o hb)
 obtain⟨ts,ps,rfl,ht,hm,qo,hl,hn,_,sm,hd⟩:=h;rw [au,cH] at hm;exact q ts ps H2 sm hd hm qo hl hn
def yD {K:ba}{H:Hp}{p D d:Addr}{zs:List Str}{kvs:List (aR×V)}{σ:St}{js:List (Nat×Str)}{Qp:Hp->Prop}(hσ:eV ["place","part"] js σ=[none,none,aM d])(hp:aS K H p (zs.map V.str))(hz:zs.length<=1000)
  (hd:H d=some (.dK kvs))(hD:H D=none)(q:∀H2,aA H H2->H2 D=some (.lst ((Du (λz=>(bw kvs (Sum.inr z)).isSome) zs zs.length).map V.int))->Qp H2) :
  ∃W:Nat->Nat->List V->St->Hp->Prop,(∃m,W 0 m [] (eV ["place","part"] js σ) (upd H D (.lst []))) /\
 ∀i m ys σ' H,W i m ys σ' H->((tL K p).stop i H/\Qp H)\/((tL K p).go i H/\∃m',m' < m/\∀x H',(tL K p).mQ i H x H'->AE K 2 (jC (dP 0) (jC (dP 1) Dn)) x σ' H' λσ2 H2=>tB (A_ (gT 1) (gT 2)) σ2 H2 λb H3 =>
  if b=true then gT 0 σ2 H3 λy H4=>H4 D=some (.lst ys)/\ys.length < sizeLine/\W (i+1) m' (ys++[y]) σ2 (upd H4 D (.lst (ys++[y]))) else W (i+1) m' ys σ2 H3):=by
 refine yE (xs:=zs.map V.str) (λi ys σ2 H2=>ys=(Du (λz=>(bw kvs (Sum.inr z)).isSome) zs i).map V.int/\(∃y0 y1,σ2=[y0,y1,aM d])/\aA H H2/\H2 D=some (.lst ys))
  ⟨rfl,⟨none,none,hσ⟩,af hD _,ae⟩ (λi ys σ2 H2 _ h=>h.2.2.1.tup hp) (λi x ys σ2 H2 t ex h ht=>?_) (λys σ2 H2 h=>?_)
 .obtain⟨rfl,⟨y0,y1,rfl⟩,sm,hd2⟩:=h;rw [bz] at ex;obtain⟨z,ez,rfl⟩:=cD.mp ex;have li:=(bu.mp ez).1;have vR:=sm.trans (af ht (.tup [.int (i:Int),.str z]));have jj:upd H2 t (.tup [.int (i:Int),.str z]) D=some (.lst ((Du (λz=>(bw kvs (Sum.inr z)).isSome) zs i).map V.int)):=by rw [aj (aw hd2 ht)];exact hd2
  have hv:aS K (upd H2 t (.tup [.int (i:Int),.str z])) t [.int (i:Int),.str z]:=aS.of ae;generalize upd H2 t (.tup [.int (i:Int),.str z])=H3 at vR jj hv;have fl:=JV (λz=>(bw kvs (Sum.inr z)).isSome) zs i;refine⟨t,_,rfl,hv,rfl,_,_,rfl,_,_,rfl,rfl,?_⟩;refine⟨_,rfl,_,rfl,d,_,rfl,cu.k (k:=Sum.inr z) (vR _ _ hd),_,rfl,?_⟩;refine cg (λc=>?_) (λc=>?_)
  .refine⟨_,rfl,jj,bN (by rw [au];omega),?_,⟨_,_,rfl⟩,?_,ae⟩
   .rw [yq _ zs i ez,ay (λe=>by rw [e] at c;exact absurd c nofun),bH];rfl
   intro b o hb;rw [aj (λz=>by rw [z,hD] at hb;cases hb)];exact vR b o hb
  refine⟨?_,⟨_,_,rfl⟩,vR,jj⟩;rw [yq _ zs i ez,ax,iS];cases hq:(bw kvs (Sum.inr z)).isSome with
  | true=>rfl
  | false=>exact absurd (by rw [hq];rfl) c
 obtain⟨rfl,_,sm,hd2⟩:=h;rw [au] at hd2;exact q H2 sm hd2
open PySem PySem.Spec PyProof.Rows
def i_ {X:Cx}{elt iter tg:Expr}{iy:Nat}{y:Str}{py Pu:Pos}{ifs:List Expr}{scope:Scope}{pos:Pos}{wi:TI}{g:TG}{tif:TT}{te:TE}(ts:List Str)(js:List (Nat×Str))(hN:X.N.Nodup)(hiy:X.N[iy]?=some y)(hy:X.env.scope.names.lookup y=some .local)(hc:X.calm=true)(hi:PI X tg iter wi)
  (cp:Kj X scope js)(jA:∀y∈scope.names,y.2≠.cell)(jz:scope.kind=.function)
  (Ax:∀y∈scope.names,y.2=.local->scope.names.lookup y.1=some .local)
  (hg:∀cl C s1 H1 fp,PG (sZ X scope cl C s1 H1 (ts++js.map (·.2)) fp) tg g)
  (V5:∀cl C s1 H1 fp,DZ (sZ X scope cl C s1 H1 (ts++js.map (·.2)) fp) ifs tif)(he:∀cl C s1 H1 fp,PE (sZ X scope cl C s1 H1 (ts++js.map (·.2)) fp) elt te)
  (hsw:swapsWith (.ListComp elt [⟨tg,iter,ifs,0⟩] scope pos) (some (.Name y py)) Pu.line X.env=pure true:=by rfl)(hs:∀x,foldedSetIterable iter X.env x=pure x:=by intro _;rfl) :
  PS X (.Assign [.Name y py] (.ListComp elt [⟨tg,iter,ifs,0⟩] scope pos) Pu) (LQ (EC wi ts js g tif te) (dP iy)):=by
 intro ah s σ H DD I h;rw [exec_Assign_Name_used _ _ _ _ hsw];refine aE (wpAny_standAt (aE ?_));show wpAny _ _ (do let _ <-comprehension (.ListComp elt [⟨tg,iter,ifs,0⟩] scope pos) scope X.env _ (newList []) false (eval iter X.env) (some (assign (.Name y py) X.env))) _ _ s;obtain⟨cl,pD⟩:=wW (env:=X.env) (scope:=scope) λy hy=>I.ok.has y (.inl (cp.all y hy));refine aE (dM (wpAny_comprehension_free (use:=some (assign (.Name y py) X.env)) (Q:=λ_ s'=>SP X ah DD .next s') rfl hs pD.eq jz Ax (cR (hi ah s σ H _ I h) λv s1 h1=>cR h1 λSE s2 h2=>?_)) (λ_ s' hq=>aP (aP hq)) λ_ _ e=>e);obtain⟨it,fp,tn,J,H2,e,I2,T,Ib,f2,h2⟩:=h2;subst e;obtain⟨W,⟨m0,w0⟩,turn⟩:=h2 s2.heap.objs.size I2.fresh;have GK:∀b∈fp,b < s2.heap.objs.size:=λb hb=>by obtain⟨o,e,_⟩:=T.obj _ _ Ib b hb;exact bO e
 refine jr (wpAny_newFunctionEnv jA (by intro y hy;simp at hy) (λh₁ Aw wJ=>?_) jz);dsimp only at Aw wJ ⊢;generalize Nk:s2.heap.push { cls:=.type "list",dict:=none,data:=.seq ([]:List Value).toArray }=G2 at Aw wJ ⊢;have JS:G2.objs.size=s2.heap.objs.size+1:=by rw [<-Nk,oK]
 have Wo:s2.heap.objs.size≠G2.objs.size:=by rw [JS];exact cw (pS _)
 have old:∀b o,s2.heap.get? b=some o->h₁.get? b=some o:=λb o e =>
  wJ.extBut b o (by rw [JS];exact cw (vk (bO e))) (cv _ (Nk ▸ cv _ e))
 have Dm:h₁.get? s2.heap.objs.size=some { cls:=.type "list",data:=.seq ([]:List Value).toArray 0 }:=wJ.extBut _ _ Wo (cv _ (Nk ▸ d0 _ rfl));generalize oh:sZ X scope cl G2.objs.size s2 H2 (ts++js.map (·.2)) fp=X2;have I4:Inv X2 [] (eV ts js σ) (upd H2 s2.heap.objs.size (.lst [])) { s2 with heap:=h₁,toks:=s2.toks+([]:List (Str×Value)).length }:=by
  rw [<-oh];exact uJ I2 f2 GK jz jA cp pD (by rw [JS];exact pS _) rfl rfl old Aw Dm
 have x1:X2.prog=X.prog:=by rw [<-oh];rfl
 have x2:X2.w=X.w:=by rw [<-oh];rfl
 have x3:X2.K=X.K:=by rw [<-oh];rfl
 have x4:X2.calm=true:=by rw [<-oh];exact hc
 have x5:X2.A=X.A:=by rw [<-oh];rfl
 have x6:X2.env=compEnvC scope cl G2.objs.size X.env:=by rw [<-oh];rfl
 have x7:X2.xe=λ_ _=>False:=by rw [<-oh];rfl
 have V7:PG X2 tg g:=by rw [<-oh];exact hg _ _ _ _ _
 have M8:DZ X2 ifs tif:=by rw [<-oh];exact V5 _ _ _ _ _
 have Az:PE X2 elt te:=by rw [<-oh];exact he _ _ _ _ _
 have Pr:tn 0 h₁:=T.keep _ _ _ Ib λb _ o e=>old b o e;have rG:∀{H':Hp}{j_:List (Addr×Obj)},(∀b∈fp,H' b=none)->(∀p∈j_,p.1∉fp)->∀b∈fp,xb X2 j_ H' b:=λ{H' j_} hn hp b hb=>by
  have o4:=I4.ok;subst oh;exact⟨hn b hb,(o4.OH b hb).1,o4.Dv b hb,.inl hb,(o4.OH b hb).2,λp n5=>by
   have oF:p∈([]:List (Addr×Obj))++j_:=n5;rw [pQ] at oF;intro z;exact hp p oF (by rw [z];exact hb)⟩
 have fin:∀{s':Shared}{σ':St}{H':Hp},Inv X2 [] σ' H' s'->DD.nx (σ.set iy (some (.ref s2.heap.objs.size))) H' ->
   compPost (model X.prog X.w) X.A X.xe (some (assign (.Name y py) X.env)) (λ_ s'=>SP X ah DD .next s') (.ref s2.heap.objs.size) G2.objs.size (.ok .next) s':=λ{s' σ' H'} J' q=>by
  subst oh;obtain⟨m',JN,_⟩:=J'.loc;have I5:Inv X ah σ H' s':=I2.Lp (s':=s') J'.os J'.base J'.cx J'.bare λb hb=>by
   obtain⟨_,f1,_,f3,f4,f5⟩:=f2 b hb;exact⟨f3,f1,f4,f5⟩
  obtain⟨f0,f1,_,f3,f4,f5⟩:=I2.wO (H':=H') (b:=G2.objs.size) (by rw [JS];exact mf _) J'.free;show wpAny _ _ (assign (.Name y py) X.env (.ref s2.heap.objs.size)) _ _ s';refine wpAny_assign_Name (uk I5 hN hiy (.inl hy) (v:=.ref s2.heap.objs.size) rfl (λPF I6 bG=>?_) (.inr hy));obtain⟨a,sb,ha⟩:=bG;have nCa:G2.objs.size≠a:=by
   rcases ha with ha | ha
   .rw [ha];exact f1
   exact(f4 _ _ ha).symm
  refine⟨m',JN.sameBut sb nCa,λh' Ou=>?_⟩;exact⟨_,H',I6.turned (t':=PF.toks) (λb o hb e=>(Ou.2 b hb).trans e) f0 f1 f3 f4 f5,q⟩
 have loop:∀s₃:Shared,s₃={ s2 with heap:=h₁,toks:=s2.toks+([]:List (Str×Value)).length } ->
   codeAny (model X.prog X.w) X.A (.compLoop (.ListComp elt [⟨tg,iter,ifs,0⟩] scope pos) 0 (.ref it) (.ref s2.heap.objs.size) (compEnvC scope cl G2.objs.size X.env))
    (compPost (model X.prog X.w) X.A X.xe (some (assign (.Name y py) X.env)) (λ_ s'=>SP X ah DD .next s') (.ref s2.heap.objs.size) G2.objs.size) s₃:=by
  rintro s₃ rfl;subst oh;refine qe (λn s'=>∃i ys σ' H',Inv (sZ X scope cl G2.objs.size s2 H2 (ts++js.map (·.2)) fp) [] σ' H' s'/\tn i s'.heap/\(∀b∈fp,H' b=none)/\W i n ys σ' H') ?_ m0
   ⟨0,[],_,_,I4,Pr,λb hb=>by rw [aj (cw (GK b hb))];exact(f2 b hb).1,w0⟩
  rintro n s' ⟨i,ys,σ0,H',J',xi,Rb,w'⟩;rcases turn i n ys σ0 H' w' with ⟨stop,q⟩ | ⟨go,m',hm,step⟩
  .refine dM (T.done (sZ X scope cl G2.objs.size s2 H2 (ts++js.map (·.2)) fp) rfl rfl rfl hc i [] s' _ H' (λ_ _=>False) J' (rG Rb (by simp)) xi stop) (λr s4 ⟨hr,J4⟩=>?_) λ_ _ z=>z;subst hr;exact fin J4 q
  refine dM (T.item (sZ X scope cl G2.objs.size s2 H2 (ts++js.map (·.2)) fp) rfl rfl rfl hc i [] s' _ H' (λ_ _=>False) J' (rG Rb (by simp)) xi go) (λr s4 ⟨u,hr,h4⟩=>?_) λ_ _ z=>z;subst hr;refine dM h4 (λ_ s5 bG=>?_) λ_ _ z=>z;obtain⟨xv,H5,J5,r5,y5,Cv,Ra⟩:=bG;have X3:=J5.pinned (rG Ra (by simp)) (T.obj _ _ Cv);have back:∀{s7:Shared}{σ7:St}{H7:Hp},Inv (sZ X scope cl G2.objs.size s2 H2 (ts++js.map (·.2)) fp) ([]++pj fp s5.heap) σ7 H7 s7->Inv (sZ X scope cl G2.objs.size s2 H2 (ts++js.map (·.2)) fp) [] σ7 H7 s7/\tn (i+1) s7.heap/\∀b∈fp,H7 b=none:=λ{s7 σ7 H7} J7=>by
   refine⟨J7.kN,T.keep _ _ _ Cv λb hb o e=>(J7.pin (b,o) (fR _ (fR _ (ik hb e)))).1,λb hb=>?_⟩;obtain⟨o,e,d⟩:=T.obj _ _ Cv b hb;exact(J7.pin (b,o) (fR _ (fR _ (ik hb e)))).2.1
  show wpAny _ _ (assign tg (sZ X scope cl G2.objs.size s2 H2 (ts++js.map (·.2)) fp).env u) _ _ s5;refine dM (V7 _ s5 _ H5 xv u _ X3 r5 (step xv H5 y5)) (λ_ s6 bG=>?_) λ_ _ z=>z;obtain⟨σ6,H6,J6,q6⟩:=bG;refine dM (M8 _ s6 _ H6 _ J6 q6) (λb s7 bG=>?_) λ_ _ z=>z;obtain⟨H7,J7,q7⟩:=bG;cases b with
  | false =>
   rw [ay eG] at q7 ⊢;obtain⟨J8,Uo,WC⟩:=back J7;exact⟨m',hm,i+1,ys,σ6,H7,J8,Uo,WC,q7⟩
  | true =>
   rw [ax rfl] at q7 ⊢;refine dM (Az _ s7 _ H7 _ J7 q7) (λyv s8 bG=>?_) λ_ _ z=>z;obtain⟨y,H8,J8,r8,Wr,Vx,w8⟩:=bG;refine dM (bV (X:=sZ X scope cl G2.objs.size s2 H2 (ts++js.map (·.2)) fp) _ s8 _ H8 (.ref s2.heap.objs.size) [y] (.ref s2.heap.objs.size) [yv] (λv H'=>W (i+1) m' (ys++[y]) σ6 H') J8 rfl (.cons r8 .nil) ⟨s2.heap.objs.size,ys,y,rfl,rfl,Wr,Vx,w8⟩)
    (λ_ s9 ⟨_,H9,J9,_,w9⟩=>?_) λ_ _ z=>z
   obtain⟨X4,LR,Nu⟩:=back J9;exact⟨m',hm,i+1,ys++[y],σ6,H9,X4,LR,Nu,w9⟩
 exact codeAny_compStart_list (loop _ rfl) (T.self _ _ _ _ _ Pr (loop _ rfl))
end L2
namespace hV
open PySem L2 M11
section
def wu {l:List Str}(h:l.Nodup):(l.map (Sum.inr:Str->aR)).Nodup:=List.Pairwise.map _ (λa b hab e=>hab (mh e)) h
structure Eo (K:ba)(ps:List (Str×Addr))(st:Str->List (Nat×Nat))(H:Hp)(d:Addr):Prop where
 hd:Rd H d (.dK (ps.map jK))
 n1:(ps.map (·.1)).Nodup
 n2:(ps.map (·.2)).Nodup
 lst:∀p∈ps,∃ts,H p.2=some (.lst (ts.map V.ref))/\Paired (λt (e:Nat×Nat)=>aS K H t [.int (e.1:Int),.int (e.2:Int)]) ts (st p.1)
def Rd.same {H H':Hp}{a:Addr}{u:HO}(h:Rd H a u)(s:aA H H'):Rd H' a u:=h.elim (λz=>.inl (s _ _ z)) λ⟨o,z⟩=>.inr ⟨o,s _ _ z⟩
theorem Eo.same {ps:List (Str×Addr)}{st:Str->List (Nat×Nat)}{H H':Hp}{d:Addr}(h:Eo K ps st H d)(s:aA H H'):Eo K ps st H' d :=
 ⟨Rd.same h.hd s,h.n1,h.n2,λp hp=>let ⟨ts,a,b⟩:=h.lst p hp;⟨ts,s _ _ a,Paired.fc b λ_ _ z=>s.tup z⟩⟩
def vb (st:Str->List (Nat×Nat))(n:Str)(e:Nat×Nat):Str->List (Nat×Nat):=λz=>if z=n then st z++[e] else st z
def Eo.more {ps:List (Str×Addr)}{st:Str->List (Nat×Nat)}{H:Hp}{d:Addr}(h:Eo K ps st H d){p:Str×Addr}(hp:p∈ps){ts:List Addr}{t:Addr}{e:Nat×Nat}(a:H p.2=some (.lst (ts.map V.ref)))
  (b:Paired (λt (e:Nat×Nat)=>aS K H t [.int (e.1:Int),.int (e.2:Int)]) ts (st p.1))(c:aS K H t [.int (e.1:Int),.int (e.2:Int)]) :
  Eo K ps (vb st p.1 e) (upd H p.2 (.lst (ts.map V.ref++[.ref t]))) d:=by
 have nd:d≠p.2:=λz=>by
  rcases h.hd with q | ⟨o,q⟩
  .rw [z,a] at q;cases q
  rw [z,a] at q;cases q
 refine⟨?_,h.n1,h.n2,λp' n5=>?_⟩
 .rcases h.hd with q | ⟨o,q⟩
  .exact .inl (by rw [aj nd];exact q)
  exact .inr ⟨o,by rw [aj nd];exact q⟩
 by_cases z:p'=p
 .rw [z];refine⟨ts++[t],by rw [ae,bH];rfl,?_⟩;have e1:vb st p.1 e p.1=st p.1++[e]:=ax rfl;rw [e1];exact h_ (Paired.fc b λ_ _ z=>a7 a z) (a7 a c)
 have n1:p'.1≠p.1:=λq=>z (by
  have w1:=ig ps h.n1 p' n5;have w2:=ig ps h.n1 p hp;rw [q,w2] at w1;injection w1 with w3;injection w3 with w4;exact Prod.ext q w4.symm)
 have n2:p'.2≠p.2:=λq=>by
  obtain⟨i,hi,ei⟩:=qQ.mp n5;obtain⟨j,hj,ej⟩:=qQ.mp hp;have JO:i=j:=by
   refine(vf (xs:=ps.map (·.2)) (h₀:=by simpa using hi) (h₁:=by simpa using hj) h.n2).mp ?_;rw [oT,oT,ei,ej];exact q
  subst JO;exact z (ei.symm.trans ej)
 obtain⟨gJ,a',b'⟩:=h.lst p' n5;refine⟨gJ,by rw [aj n2];exact a',?_⟩;have e1:vb st p.1 e p'.1=st p'.1:=ay n1;rw [e1];exact Paired.fc b' λ_ _ z=>a7 a z
def Bl (K:ba):Sp:=λvs H Q _=>∃(R:Addr)(rs:List Addr)(aa:List ar),vs=[.ref R]/\aH K H R (rs.map V.ref)/\bL K H rs aa/\aa.length<=1000/\(∀ru∈aa,ru.2.length<=8) /\
 ∀(d:Addr)(ps:List (Str×Addr))(st:Str->List (Nat×Nat))(bI:List (Str×Nat))(H':Hp),H d=none->aA H H'->H' d=some (.dK (ps.map jK))->Eo K ps st H' d->ps.map (·.1)=hd aa->(∀p∈ps,H p.2=none)->xc aa bI->yQ aa aa.length bI ->
  (∀n k j,n∈hd aa->((k,j)∈st n↔OZ aa (hd aa) (λz=>decide (z∈bI.map (·.1))) n k j))->Q (.ref d) H'
def i8:aK ["rules","empty","steps","number","rule","place","part","filled"] ["rules"] (av zK):=iN rfl rfl rfl rfl nofun
def FK (F:iC K "steps_with_like_rows" "steps_with_like_rows" zK f fd)(T:Txt mg)(GE:aC P w K mg base 1 "found_empties" ["rules"] (o7 K))(GH:aC P w K mg base 1 "heads_of" ["rules"] (jQ K)):bS P w K mg base gp 2 f fd ["rules"] (Bl K):=by
 refine F.ok i8 (λvs H Q E h=>?_) (λeY A outer s H vs Q E hr h=>?_)
 .obtain⟨R,rs,aa,rfl,_⟩:=h;rfl
 obtain⟨R,rs,aa,rfl,hR,cA,bE,h8,q⟩:=h;have hu:=gi hr;refine⟨_,ai (az (i:=1) i8.nd rfl (Or.inr rfl) (bc (dW rfl) rfl T.AR gk (ab (bp GE hr rfl (ab (pv 0) ag)) ag)))
  (ai (az (i:=2) i8.nd rfl (bC rfl) (bc (dW rfl) rfl T.AR gk (ab
   (bD ["name"] [] rfl (a8 (bp GH hr rfl (ab (pv 0) ag))) (br rfl rfl) nofun rfl nofun
    (λ_ _ _ _ _=>aq (i:=0) (show (["name"]:List Str).Nodup by decide +kernel) rfl (bC rfl)) (λ_ _ _ _ _=>b9)
    (λ_ _ _ _ _=>bo (ab (pv 0) (ab (a_ ag) ag)))) ag)))
  (ai (bM cq rfl (nU rfl T.JW (ab (pv 0) ag)) (g8 rfl (aB (aq (i:=3) i8.nd rfl (bC rfl)) (aB (aq (i:=4) i8.nd rfl (bC rfl)) cf)))
   (ai (i_ (iy:=7) ["place","part"] [(1,"empty")] i8.nd rfl rfl rfl (nQ rfl T.JW (ab (aL aZ (pv 4) ao (λ_ _=>rfl)) ag)) (br rfl rfl) nofun rfl nofun
    (λ_ _ _ _ _=>fS (n:=2) K rfl (aB (aq (i:=0) (show (["place","part","empty"]:List Str).Nodup by decide +kernel) rfl (bC rfl)) (aB (aq (i:=1) (show (["place","part","empty"]:List Str).Nodup by decide +kernel) rfl (bC rfl)) cf)))
    (λ_ _ _ _ _=>iq (eK (eQ hu (pv 1) (pv 2)))) (λ_ _ _ _ _=>pv 0))
   (ak (bM cq rfl (nQ rfl T.JW (ab (aL aZ (pv 4) ao (λ_ _=>rfl)) ag)) (g8 rfl (aB (aq (i:=5) i8.nd rfl (bC rfl)) (aB (aq (i:=6) i8.nd rfl (bC rfl)) cf)))
    (ak (bJ (PW.pt (kS (eK (jh hu (pv 6) (pv 2))) (i9 (aX (CH hu) (pv 7) (bo (ab (a_ ag) (ab (a_ (ab (pv 5) ag)) ag))) rfl))))
     (ak (cJ (g_ gG gX gY bV (fu hu (pv 2) (aL aZ (pv 4) ao (λ_ _=>rfl)) (λ_ _=>rfl)) (ab (bo (ab (pv 3) (ab (pv 5) ag))) ag)))) aQ)))))
   )
  (ak (aN (pv 2))))),?_⟩
 nofun
 have ll:=aU cA;refine⟨_,rfl,R,rs,aa,rfl,hR,cA,bE,h8,λD1 Ct bI H1 f1 s1 e1 w1 emp DA=>?_⟩;have Vq:Paired (λt (kv:aR×V)=>aS K H1 t [kV kv.1,kv.2]) Ct (bI.map λp=>((Sum.inr p.1:aR),V.int (p.2:Int))):=cy w1 λ_ _ z=>z;refine⟨D1,Ct,_,rfl,e1,Vq,λe he=>?_⟩;have ekE:di (bI.map λp=>((Sum.inr p.1:aR),V.int (p.2:Int))) []=bI.map λp=>((Sum.inr p.1:aR),V.int (p.2:Int)):=ot _ [] (by
  rw [pQ,jn];have:=wu emp.nd;rw [jn] at this;exact this)
 rw [ekE];have CY:∀z,(bw (bI.map λp=>((Sum.inr p.1:aR),V.int (p.2:Int))) (Sum.inr z)).isSome=decide (z∈bI.map (·.1)):=λz=>by
  rw [mT,eF,decide_eq_true_iff,jn];have:(bI.map λp:Str×Nat=>(Sum.inr p.1:aR))=(bI.map (·.1)).map Sum.inr:=by rw [jn];rfl
  show _∈(bI.map λp:Str×Nat=>(Sum.inr p.1:aR))↔_;rw [this];exact cO
 generalize (bI.map λp=>((Sum.inr p.1:aR),V.int (p.2:Int)))=kE at CY ⊢;have s2:=s1.trans (af he (.dK kE));have e2:upd H1 e (.dK kE) e=some (.dK kE):=ae;generalize upd H1 e (.dK kE)=H2 at s2 e2;refine⟨_,rfl,R,rs,aa,rfl,s2.seq hR,cA.same s2,bE,λD2 H3 f3 s3 e3=>?_⟩;have JG:=iP (aa.map (·.1)) [];simp only [jq,au] at JG;refine⟨D2,rfl,⟨_,aH.of e3⟩,λD3 ym=>tD (aH.of e3) ∅ ym λts ps H4 s4 e4 m4 p4 l4 n4=>?_⟩;have n1:(ps.map (·.1)).Nodup:=by rw [m4];exact pI _ ku
 have Gg:Paired (λt (kv:aR×V)=>aS K H4 t [kV kv.1,kv.2]) ts (ps.map jK):=cy p4 λ_ _ z=>z;refine⟨D3,ts,_,rfl,e4,Gg,λd tQ=>?_⟩;have Rn:di (ps.map jK) []=ps.map jK:=ot _ [] (by
  rw [pQ,nW];exact wu n1)
 rw [Rn];have s5:=((s2.trans s3).trans s4).trans (af tQ (.dK (ps.map jK)));have tP:=af tQ (.dK (ps.map jK));have e5:upd H4 d (.dK (ps.map jK)) d=some (.dK (ps.map jK)):=ae;have Rr:=tP _ _ (s4 _ _ (s3 _ _ e2));have ze:H d=none:=((s2.trans s3).trans s4).free tQ;have S5:Eo K ps (λ_=>[]) (upd H4 d (.dK (ps.map jK))) d:=⟨.inl e5,n1,n4,λp hp=>⟨[],tP _ _ (l4 p hp).1,.nil⟩⟩;have OF:∀p∈ps,H p.2=none:=λp hp=>(s2.trans s3).free (l4 p hp).2.1;generalize upd H4 d (.dK (ps.map jK))=H5 at s5 e5 Rr S5;clear tP;have eb:(λz=>(bw kE (Sum.inr z)).isSome)=λz=>decide (z∈bI.map (·.1)):=funext CY;refine⟨_,rfl,R,_,rfl,s5.seq hR,?_⟩
 let qw:pL:=λi σ H6=>∃(st:Str->List (Nat×Nat))(y3 y4 y5 y6 y7:Option V),σ=[aM R,aM e,aM d,y3,y4,y5,y6,y7]/\aA H H6/\H6 e=some (.dK kE)/\H6 d=some (.dK (ps.map jK))/\Eo K ps st H6 d /\
  (∀n,(st n).length<=8 * i)/\∀n k j,n∈hd aa->((k,j)∈st n↔k < i/\OZ aa (hd aa) (λz=>decide (z∈bI.map (·.1))) n k j)
 refine k_ (xs:=rs.map V.ref) qw
  ⟨λ_=>[],none,none,none,none,none,rfl,s5,Rr,e5,S5,by simp,by simp⟩ ?_ ?_ ?_
 .rintro i σ H6 _ ⟨st,y3,y4,y5,y6,y7,rfl,s6,_⟩;exact s6.seq hR
 .rintro i x σ H6 t ex ⟨st,y3,y4,y5,y6,y7,rfl,s6,NF,Lh,S6,l6,c6⟩ ht
  ac_nf0
  rw [bz] at ex;obtain⟨r,er,rfl⟩:=cD.mp ex;obtain⟨ru,sS,p,v1,v2⟩:=cA.get er;have lQ:=b_ sS;have OC:=h8 ru lQ;have li:=(bu.mp sS).1;have uv:=af ht (.tup [.int (i:Int),.ref r]);have K6:aS K (upd H6 t (.tup [.int (i:Int),.ref r])) t [.int (i:Int),.ref r]:=aS.of ae;have s7:=s6.trans uv;have ND:=uv _ _ NF;have Z8:=uv _ _ Lh;have S7:=S6.same uv;generalize upd H6 t (.tup [.int (i:Int),.ref r])=H7 at K6 s7 ND Z8 S7;refine⟨t,_,rfl,K6,rfl,_,_,rfl,_,_,rfl,rfl,?_⟩;refine⟨_,rfl,r,_,_,_,rfl,rfl,s7.tup v1,rfl,p,_,rfl,s7.tup v2,λD5 OB=>yD rfl (s7.tup v2) ∅ ND OB λH8 Of e8=>?_⟩;rw [eb] at e8;have s8:=s7.trans Of;have ee8:=Of _ _ ND;have WX:=Of _ _ Z8;have S8:=S7.same Of;have nD5:∀p∈ps,p.2≠D5:=λp hp z=>by
   obtain⟨gJ,a,_⟩:=S7.lst p hp;rw [z,OB] at a;cases a
  obtain⟨pn,yk,zf⟩:∃pn∈ps,pn.1=ru.1:=by
   have:ru.1∈ps.map (·.1):=by rw [m4];exact(ir _ _ _).mpr (.inr (j8 lQ))
   obtain⟨pn,a,b⟩:=cY.mp this;exact⟨pn,a,b⟩
  refine⟨_,rfl,r,_,_,_,rfl,rfl,s8.tup v1,rfl,p,_,rfl,s8.tup v2,?_⟩
  let A3:pL:=λj σ H9=>∃(st:Str->List (Nat×Nat))(y5 y6:Option V),σ=[aM R,aM e,aM d,some (.int (i:Int)),aM r,y5,y6,aM D5]/\aA H H9/\H9 e=some (.dK kE)/\H9 d=some (.dK (ps.map jK))/\Eo K ps st H9 d /\
   H9 D5=some (.lst ((Du (λz=>decide (z∈bI.map (·.1))) ru.2 ru.2.length).map V.int))/\(∀n,(st n).length<=8 * i+j)/\∀n k j',n∈hd aa->((k,j')∈st n↔(k < i\/(k=i/\j' < j))/\OZ aa (hd aa) (λz=>decide (z∈bI.map (·.1))) n k j')
  refine pF (xs:=ru.2.map V.str) A3
   ⟨st,_,_,rfl,s8,ee8,WX,S8,e8,λn=>l6 n,λn k j' hn=>by rw [c6 n k j' hn];simp⟩ ?_ ?_ ?_
  .rintro j σ H9 _ ⟨st,y5,y6,rfl,s9,_⟩;exact s9.tup v2
  .rintro j x σ H9 t2 pG ⟨st,y5,y6,rfl,s9,WV,NH,S9,e9,l9,c9⟩ jm
   ac_nf0
   rw [bz] at pG;obtain⟨z,ez,rfl⟩:=cD.mp pG;have lj:=(bu.mp ez).1;have xK:=af jm (.tup [.int (j:Int),.str z]);have Gu:aS K (upd H9 t2 (.tup [.int (j:Int),.str z])) t2 [.int (j:Int),.str z]:=aS.of ae;have wj:=s9.trans xK;have wR:=xK _ _ WV;have qt:=xK _ _ NH;have Ej:=xK _ _ e9;have Ly:=S9.same xK;generalize upd H9 t2 (.tup [.int (j:Int),.str z])=A5 at Gu wj wR qt Ej Ly;have mem:(bw (ps.map jK) (Sum.inr z)).isSome=true↔z∈hd aa:=by rw [eF,nW,m4];exact cO
   have kP:¬(z∈hd aa/\JF (λz=>decide (z∈bI.map (·.1))) ru.2 j=true)->∀n k j',n∈hd aa->((k,j')∈st n↔(k < i\/(k=i/\j' < j+1))/\OZ aa (hd aa) (λz=>decide (z∈bI.map (·.1))) n k j'):=λhn n k j' VX=>by
    rw [c9 n k j' VX];constructor
    .rintro⟨h1,h3⟩;exact⟨∅,h3⟩
    rintro⟨h1,h3⟩;refine⟨?_,h3⟩;by_cases c:k=i/\j'=j
    .obtain⟨CA,z',a1,a2,a3,a4,a5⟩:=h3;rw [c.1,sS] at a1;cases a1;rw [c.2] at a5;rw [c.2,ez] at a3;cases a3;exact absurd ⟨a4,a5⟩ hn
    omega
   have Y5:∀n,(st n).length<=8 * i+(j+1):=λn=>by have:=l9 n;omega
   refine⟨t2,_,rfl,Gu,rfl,_,_,rfl,_,_,rfl,rfl,?_⟩;refine⟨_,rfl,_,rfl,d,_,rfl,cu.k (k:=Sum.inr z) qt,_,rfl,?_⟩;refine cg (λc=>?_) (λc=>?_)
   .have hz:=mem.mp c;refine⟨_,rfl,rC,λl1 Zv=>?_⟩;have Jf:=af Zv (.lst []);have Iy:upd A5 l1 (.lst []) l1=some (.lst []):=ae;have nl1:l1≠D5:=(aw Ej Zv).symm;generalize upd A5 l1 (.lst [])=Ea at Jf Iy;refine⟨_,rfl,qi,λl2 tX=>?_⟩;have Kz:=af tX (.lst [.int (j:Int)]);have Ll:upd Ea l2 (.lst [.int (j:Int)]) l2=some (.lst [.int (j:Int)]):=ae;have U1:l2≠D5:=(aw (Jf _ _ Ej) tX).symm;generalize upd Ea l2 (.lst [.int (j:Int)])=yN at Kz Ll;refine⟨iQ,λt3 QG=>?_⟩;have yV:=af QG (.tup [.ref l1,.ref l2]);have e13:aS K (upd yN t3 (.tup [.ref l1,.ref l2])) t3 [.ref l1,.ref l2]:=aS.of ae;generalize upd yN t3 (.tup [.ref l1,.ref l2])=Cj at yV e13;have ql:=(Jf.trans Kz).trans yV;refine⟨t3,D5,l1,l2,_,[],[(j:Int)],rfl,rfl,e13,aH.of (ql _ _ Ej),aH.of (yV _ _ (Kz _ _ Iy)),aH.of (yV _ _ Ll),nl1,U1,_,rfl,?_⟩;have HN:=Ly.same ql;have Me:=wj.trans ql;refine cg (λc2=>?_) (λc2=>?_)
    .obtain⟨Yl,an,bn⟩:=HN.lst pn yk;have vn:=ig ps n1 pn yk;rw [zf] at vn;have hg:cu Cj d (.str ru.1) (some (.ref pn.2)):=by
      have:=cu.k (k:=Sum.inr ru.1) (ql _ _ qt);rw [vn] at this;exact this
     have ltn:=aU bn;have l9n:=l9 pn.1;refine⟨_,rfl,_,rfl,r,_,_,_,rfl,rfl,Me.tup v1,rfl,d,_,rfl,hg,.inl ⟨rfl,_,aH.of an⟩,_,rfl,_,rfl,iQ,λt4 C_=>?_⟩;have zV:=af C_ (.tup [.int (i:Int),.int (j:Int)]);have e14:aS K (upd Cj t4 (.tup [.int (i:Int),.int (j:Int)])) t4 [.int (i:Int),.int (j:Int)]:=aS.of ae;generalize upd Cj t4 (.tup [.int (i:Int),.int (j:Int)])=H14 at zV e14;have RO:=HN.same zV;have Kc:=zV _ _ an;have Xq:=Paired.fc bn λt' (e':Nat×Nat)(z:aS K Cj t' [.int (e'.1:Int),.int (e'.2:Int)])=>zV.tup z;refine⟨pn.2,_,_,rfl,rfl,Kc,bN (by rw [au];omega),?_⟩;have XY:=RO.more (e:=(i,j)) yk Kc Xq e14;have ne1:e≠pn.2:=λz=>by have:=zV _ _ (ql _ _ wR);rw [z,Kc] at this;cases this
     have ne2:d≠pn.2:=λz=>by have:=zV _ _ (ql _ _ qt);rw [z,Kc] at this;cases this
     refine⟨vb st pn.1 (i,j),_,_,rfl,λb o hb=>?_,by rw [aj ne1];exact zV _ _ (ql _ _ wR),by rw [aj ne2];exact zV _ _ (ql _ _ qt),XY,by rw [aj (nD5 pn yk).symm];exact zV _ _ (ql _ _ Ej),λn=>?_,λn k j' VX=>?_⟩
     .rw [aj (λz=>by rw [z,OF pn yk] at hb;cases hb)];exact zV _ _ (Me b o hb)
     .have:=l9 n;unfold vb
      split
      .rw [a9];simp;omega
      omega
     have hit:OZ aa (hd aa) (λz=>decide (z∈bI.map (·.1))) ru.1 i j:=⟨ru,z,sS,rfl,ez,hz,c2⟩;have Lr:=c9 n k j' VX;unfold vb;by_cases cn:n=pn.1
     .rw [ax cn,bR,bF,Lr];constructor
      .rintro(⟨h1,h3⟩ | h1)
       .exact⟨∅,h3⟩
       cases h1;exact⟨∅,by rw [cn,zf];exact hit⟩
      rintro⟨h1,h3⟩;by_cases cc:k=i/\j'=j
      .exact .inr (by rw [cc.1,cc.2])
      exact .inl ⟨∅,h3⟩
     rw [ay cn,Lr];constructor
     .rintro⟨h1,h3⟩;exact⟨∅,h3⟩
     rintro⟨h1,h3⟩;refine⟨?_,h3⟩;by_cases cc:k=i/\j'=j
     .obtain⟨CA,z',a1,a2,_⟩:=h3;rw [cc.1,sS] at a1;cases a1;exact absurd (a2.symm.trans zf.symm) cn
     omega
    exact⟨st,_,_,rfl,Me,ql _ _ wR,ql _ _ qt,HN,ql _ _ Ej,Y5,kP λ⟨_,h⟩=>c2 h⟩
   exact⟨st,_,_,rfl,wj,wR,qt,Ly,Ej,Y5,kP λ⟨h,_⟩=>c (mem.mpr h)⟩
  rintro σ H9 ⟨st,y5,y6,rfl,s9,WV,NH,S9,e9,l9,c9⟩;rw [au] at l9 c9;refine⟨st,_,_,_,_,_,rfl,s9,WV,NH,S9,λn=>?_,λn k j' hn=>?_⟩
  .have:=l9 n;omega
  rw [c9 n k j' hn];constructor
  .rintro⟨h1 | ⟨h1,h2⟩,h3⟩
   .exact⟨∅,h3⟩
   exact⟨∅,h3⟩
  rintro⟨h1,h3⟩;refine⟨?_,h3⟩;by_cases c:k < i
  .exact .inl c
  refine .inr ⟨∅,?_⟩;obtain⟨CA,z',a1,_,a3,_⟩:=h3;have:k=i:=by omega
  rw [this,sS] at a1;cases a1;exact(bu.mp a3).1
 rintro σ H6 ⟨st,y3,y4,y5,y6,y7,rfl,s6,NF,Lh,S6,l6,c6⟩;rw [au,ll] at c6;refine⟨_,rfl,q d ps st bI H6 ze s6 Lh S6 m4 OF emp DA λn k j hn=>?_⟩;rw [c6 n k j hn];constructor
 .exact λh=>h.2
 intro h;obtain⟨CA,_,a1,_⟩:=id h;exact⟨(bu.mp a1).1,h⟩
end
end hV
namespace L2
open PySem
def cu.r {H:Hp}{a:Addr}{kvs:List (aR×V)}{k:aR}(e:Rd H a (.dK kvs)):cu H a (kV k) (bw kvs k):=.inl ⟨kvs,k,e,rfl,rfl⟩
end L2
namespace hV
open PySem L2 M11
section
def Down (aa:List ar) (names:List Str)(st:Str->List (Nat×Nat))(rk:Str->Nat):Prop:=∀n∈names,∀e∈st n,∃ru z,aa[e.1]?=some ru/\ru.2[e.2]?=some z/\z∈names/\rk z < rk n
def Kr (K:ba):Sp:=λvs H Q _=>∃(R d:Addr)(rs:List Addr)(aa:List ar)(ps:List (Str×Addr))(st:Str->List (Nat×Nat))(name:Str)(rk:Str->Nat),vs=[.ref R,.ref d,.str name]/\aH K H R (rs.map V.ref)/\bL K H rs aa/\aa.length<=1000 /\
 Eo K ps st H d/\ps.length<=1000/\name∈ps.map (·.1)/\Down aa (ps.map (·.1)) st rk/\∀(D:Addr)(H':Hp),H D=none->aA H H'->H' D=some (.lst [])->Q (.ref D) H'
structure El (K:ba) (names:List Str)(rk:Str->Nat)(name:Str)(H H5:Hp)(D m:Addr)(mw:List Addr)(j9:List (Str×Addr)) (ms:List Str)(kvs:List (aR×V)):Prop where
 sm:aA H H5
 hD:H5 D=some (.lst (mw.map V.ref))
 hm:H5 m=some (.dK kvs)
 keys:kvs.map (·.1)=ms.map Sum.inr
 nd:ms.Nodup
 sub:∀x∈ms,x∈names
 wl:j9.length=ms.length+1
 wv:Paired (λt (e:Str×Addr)=>aS K H5 t [.str e.1,.ref e.2]) mw j9
 we:∀e∈j9,e.1∈names/\rk e.1<=rk name/\∃xs,H5 e.2=some (.lst xs)/\xs.length<=j9.length/\e.2≠D
def El.same {names:List Str}{rk:Str->Nat}{name:Str}{H H5 H6:Hp}{D m:Addr}{mw:List Addr}{j9:List (Str×Addr)}{ms:List Str}{kvs:List (aR×V)}(h:El K names rk name H H5 D m mw j9 ms kvs)(s:aA H5 H6):El K names rk name H H6 D m mw j9 ms kvs :=
 ⟨h.sm.trans s,s _ _ h.hD,s _ _ h.hm,h.keys,h.nd,h.sub,h.wl,Paired.fc h.wv λ_ _ z=>s.tup z,λe he=>let ⟨a,b,xs,c,d⟩:=h.we e he;⟨a,b,xs,s _ _ c,d⟩⟩
def El.len {names:List Str}{rk:Str->Nat}{name:Str}{H H5:Hp}{D m:Addr}{mw:List Addr}{j9:List (Str×Addr)}{ms:List Str}{kvs:List (aR×V)}(h:El K names rk name H H5 D m mw j9 ms kvs):mw.length=j9.length/\kvs.length=ms.length/\ms.length<=names.length:=by
 refine⟨aU h.wv,?_,gP _ _ h.nd h.sub⟩;have:=congrArg List.length h.keys;simpa using this
def El.more {names:List Str}{rk:Str->Nat}{name z:Str}{H H5 H9:Hp}{D m t c:Addr}{mw:List Addr}{j9:List (Str×Addr)}{ms:List Str}{kvs:List (aR×V)}{xs:List V}(h:El K names rk name H H5 D m mw j9 ms kvs)(fD:H D=none)(fm:H m=none)
  (hz:z∈names)(hr:rk z<=rk name)(hn:z∉ms)(s:aA (upd H5 m (.dK (bU kvs (Sum.inr z) (.bl true)))) H9)(ht:aS K H9 t [.str z,.ref c])(hc:H9 c=some (.lst xs))(hx:xs.length<=j9.length+1)(nc:c≠D) :
  El K names rk name H (upd H9 D (.lst (mw.map V.ref++[.ref t]))) D m (mw++[t]) (j9++[(z,c)]) (ms++[z]) (bU kvs (Sum.inr z) (.bl true)):=by
 have Sy:D≠m:=λe=>by have:=h.hD;rw [e,h.hm] at this;cases this
 have K_:H9 D=some (.lst (mw.map V.ref)):=s _ _ (by rw [aj Sy];exact h.hD);have hm9:H9 m=some (.dK (bU kvs (Sum.inr z) (.bl true))):=s _ _ ae;refine⟨λb o hb=>?_,by rw [ae,bH];rfl,by rw [aj Sy.symm];exact hm9,?_,?_,?_,?_,?_,?_⟩
 .rw [aj (λe=>by rw [e,fD] at hb;cases hb)];exact s _ _ (by rw [aj (λe=>by rw [e,fm] at hb;cases hb)];exact h.sm b o hb)
 .rw [iJ (by rw [h.keys];exact λe=>hn (cO.mp e)),h.keys,bH];rfl
 .refine j7.mpr ⟨h.nd,by simp,λa ha b hb e=>?_⟩;rw [bF.mp hb] at e;exact hn (e ▸ ha)
 .intro x VA;rcases bR.mp VA with e | e
  .exact h.sub x e
  rw [bF.mp e];exact hz
 .rw [a9,a9,h.wl];rfl
 .exact h_ (Paired.fc h.wv λ_ _ e=>a7 K_ (s.tup (ix h.hm e))) (a7 K_ ht)
 intro e he;rw [a9];rcases bR.mp he with e' | e'
 .obtain⟨a,b,ys,c1,d1,n1⟩:=h.we e e';exact⟨a,b,ys,by rw [aj n1];exact s _ _ (by rw [aj (λq=>by rw [q,h.hm] at c1;cases c1)];exact c1),∅,n1⟩
 rw [bF.mp e'];exact⟨hz,hr,xs,by rw [aj nc];exact hc,hx,nc⟩
def ny:aK ["rules","steps","name","ways","met","at","way","number","place","part"] ["rules","steps","name"] (av LX):=iN rfl rfl rfl rfl nofun
def Mw (F:iC K "way_back" "way_back" LX f fd)(T:Txt mg):bS P w K mg base gp 1 f fd ["rules","steps","name"] (Kr K):=by
 refine F.ok ny (λvs H Q E h=>?_) (λeY A outer s H vs Q E hr h=>?_)
 .obtain⟨R,d,rs,aa,ps,st,name,rk,rfl,_⟩:=h;rfl
 obtain⟨R,d,rs,aa,ps,st,name,rk,rfl,hR,cA,bE,S,Zr,Gy,Wd,q⟩:=h;have hu:=gi hr;refine⟨_,ai (az (i:=3) ny.nd rfl (bC rfl) (a_ (ab (bo (ab (pv 2) (ab (a_ ag) ag))) ag)))
  (ai (az (i:=4) ny.nd rfl (bC rfl) g9)
  (ai (az (i:=5) ny.nd rfl (bC rfl) ao)
  (ai (kT cq (aX nV (pv 5) (aD aG rfl T.len cZ (ab (pv 3) ag)) (bK _))
   (ai (az (i:=6) ny.nd rfl (bC rfl) (aL aZ (aL bB (pv 3) (pv 5) (λ_ _=>rfl)) ao (λ_ _=>rfl)))
   (ai (bM cq rfl (a8 (fu hu (pv 1) (aL aZ (aL bB (pv 3) (pv 5) (λ_ _=>rfl)) ao (λ_ _=>rfl)) (λ_ _=>rfl))) (g8 rfl (aB (aq (i:=7) ny.nd rfl (bC rfl)) (aB (aq (i:=8) ny.nd rfl (bC rfl)) cf)))
    (ai (az (i:=9) ny.nd rfl (bC rfl) (aL aZ (aL aZ (aL bB (pv 0) (pv 7) (λ_ _=>rfl)) ao (λ_ _=>rfl)) (pv 8) (λ_ _=>rfl)))
    (ai (bJ (aX hU (pv 9) (pv 2) (bK _)) (ak iX) aQ)
    (ak (bJ (eK (eQ hu (pv 9) (pv 4)))
     (ai (iK hu (pv 4) (pv 9) gb rfl) (ak (cJ (g_ gG gX gY bV (pv 3) (ab (bo (ab (pv 9) (ab (aI dI (pv 6) (a_ (ab (bo (ab (pv 7) (ab (pv 8) ag))) ag))) ag))) ag))))) aQ)))))
   (ak (Mm (i:=5) ny.nd rfl (bC rfl) ao MT)))))
  (ak (aN (a_ ag)))))),?_⟩
 nofun
 have BS:(ps.map (·.1)).length=ps.length:=au _;refine⟨_,rfl,rC,λl0 SN=>?_⟩;have s1:=af SN (.lst []);have e1:upd H l0 (.lst []) l0=some (.lst []):=ae;generalize upd H l0 (.lst [])=H1 at s1 e1;refine⟨iQ,λt0 ht0=>?_⟩;have s2:=af ht0 (.tup [.str name,.ref l0]);have e2:aS K (upd H1 t0 (.tup [.str name,.ref l0])) t0 [.str name,.ref l0]:=aS.of ae;generalize upd H1 t0 (.tup [.str name,.ref l0])=H2 at s2 e2;refine⟨qi,λD hD=>?_⟩;have s3:=af hD (.lst [.ref t0]);have e3:upd H2 D (.lst [.ref t0]) D=some (.lst ([t0].map V.ref)):=ae;have nl0:l0≠D:=aw (s2 _ _ e1) hD;generalize upd H2 D (.lst [.ref t0])=H3 at s3 e3;intro m hm;have s4:=af hm (.dK []);have e4:upd H3 m (.dK []) m=some (.dK []):=ae;generalize upd H3 m (.dK [])=H4 at s4 e4;have fD:H D=none:=(s1.trans s2).free hD;have fm:H m=none:=((s1.trans s2).trans s3).free hm;have W0:El K (ps.map (·.1)) rk name H H4 D m [t0] [(name,l0)] [] []:=⟨((s1.trans s2).trans s3).trans s4,s4 _ _ e3,e4,rfl,ku,by simp,rfl,.cons ((s3.trans s4).tup e2) .nil,λe he=>by
  rw [bF.mp he];exact⟨Gy,aF _,[],s4 _ _ (s3 _ _ (s2 _ _ e1)),by simp,nl0⟩⟩
 refine⟨λmm σ H5=>∃(mw:List Addr)(j9:List (Str×Addr)) (ms:List Str)(kvs:List (aR×V)) (at_:Nat)(y6 y7 y8 y9:Option V),σ=[aM R,aM d,some (.str name),aM D,aM m,some (.int (at_:Int)),y6,y7,y8,y9]/\El K (ps.map (·.1)) rk name H H5 D m mw j9 ms kvs /\
  at_<=j9.length/\mm=1002 - at_,⟨1002,[t0],[(name,l0)],[],[],0,none,none,none,none,rfl,W0,by simp,rfl⟩,?_⟩
 rintro mm σ H5 ⟨mw,j9,ms,kvs,at_,y6,y7,y8,y9,rfl,W,hat,rfl⟩;obtain⟨lw,lk,lm⟩:=W.len;have aad:=W.wl;refine⟨_,rfl,_,rfl,D,_,rfl,.inl (aH.of W.hD),_,_,rfl,rfl,_,rfl,?_⟩;refine cg (λc=>?_) (λc=>?_)
 .have c':=c_ c;rw [au,lw] at c';have kn:at_ < j9.length:=by omega
  obtain⟨n,l,en⟩:∃n l,j9[at_]?=some (n,l):=⟨(j9[at_]).1,(j9[at_]).2,dH kn⟩;obtain⟨t1,et1,BR⟩:=Paired.at_ W.wv at_ (n,l) en;have at1:ke (mw.map V.ref) (at_:Int)=some (.ref t1):=b0 (by rw [bz,et1];rfl);obtain⟨hn,hrn,xs,hl,hxl,ME⟩:=W.we (n,l) (b_ en);dsimp only at hn hrn hl ME;obtain⟨pn,yk,zf⟩:=cY.mp hn;have vn:=ig ps S.n1 pn yk;rw [zf] at vn;obtain⟨Yl,an,bn⟩:=S.lst pn yk;rw [zf] at bn;refine⟨λσ H5=>∃(mw:List Addr)(j9:List (Str×Addr)) (ms:List Str)(kvs:List (aR×V))(y6 y7 y8 y9:Option V),σ=[aM R,aM d,some (.str name),aM D,aM m,some (.int ((at_+1:Nat):Int)),y6,y7,y8,y9]/\El K (ps.map (·.1)) rk name H H5 D m mw j9 ms kvs/\at_+1<=j9.length,?_,?_⟩
  .rintro σ H6 ⟨mw,j9,ms,kvs,y6,y7,y8,y9,rfl,W2,h2⟩;exact⟨1002 - (at_+1),∅,mw,j9,ms,kvs,at_+1,_,_,_,_,rfl,W2,h2,rfl⟩
  refine⟨_,rfl,_,rfl,D,_,_,_,rfl,rfl,aH.of W.hD,at1,t1,_,_,_,rfl,rfl,BR,rfl,?_⟩;have hg:cu H5 d (.str n) (some (.ref pn.2)):=by
   have:=cu.r (k:=Sum.inr n) (Rd.same S.hd W.sm);rw [vn] at this;exact this
  refine⟨_,rfl,_,rfl,_,rfl,D,_,_,_,rfl,rfl,aH.of W.hD,at1,t1,_,_,_,rfl,rfl,BR,rfl,d,_,rfl,hg,pn.2,rfl,⟨_,aH.of (W.sm _ _ an)⟩,?_⟩
  let qw:pL:=λi σ H6=>∃(mw:List Addr)(j9:List (Str×Addr)) (ms:List Str)(kvs:List (aR×V))(y7 y8 y9:Option V),σ=[aM R,aM d,some (.str name),aM D,aM m,some (.int (at_:Int)),aM l,y7,y8,y9]/\El K (ps.map (·.1)) rk name H H6 D m mw j9 ms kvs /\
   at_+1<=j9.length/\∃e∈j9,e.2=l
  refine cK (xs:=Yl.map V.ref) qw ⟨mw,j9,ms,kvs,_,_,_,rfl,W,kn,(n,l),b_ en,rfl⟩ ?_ ?_ ?_
  .rintro i σ H6 _ ⟨mw,j9,ms,kvs,y7,y8,y9,rfl,W2,_⟩;exact aH.of (W2.sm _ _ an)
  .rintro i x σ H6 ex ⟨mw,j9,ms,kvs,y7,y8,y9,rfl,W2,h2,e0,Wc,WW⟩
   ac_nf0
   rw [bz] at ex;obtain⟨ti,ZV,rfl⟩:=cD.mp ex;have lbn:=aU bn;have lti:=(bu.mp ZV).1;obtain⟨⟨k,j⟩,Z5⟩:∃e,(st n)[i]?=some e:=⟨(st n)[i]'∅,dH ∅⟩;obtain⟨ti',Ri,hti⟩:=Paired.at_ bn i (k,j) Z5;rw [ZV] at Ri;cases Ri;obtain⟨ru,z,er,ez,hz,hrk⟩:=Wd n hn (k,j) (b_ Z5);obtain⟨r,G9,p,v1,v2⟩:=Paired.at_ cA k ru er;have atr:ke (rs.map V.ref) (k:Int)=some (.ref r):=b0 (by rw [bz,G9];rfl);have XC:ke (ru.2.map V.str) (j:Int)=some (.str z):=b0 (by rw [bz,ez];rfl);obtain⟨lw2,Om,lm2⟩:=W2.len;have YY:=W2.wl;refine⟨ti,_,rfl,W2.sm.tup hti,rfl,_,_,rfl,_,_,rfl,rfl,?_⟩;refine⟨_,rfl,_,rfl,R,_,_,_,rfl,rfl,W2.sm.seq hR,atr,r,_,_,_,rfl,rfl,W2.sm.tup v1,rfl,_,rfl,p,_,_,_,rfl,rfl,W2.sm.tup v2,XC,?_⟩;refine⟨_,rfl,_,rfl,rfl,_,rfl,?_⟩;have nz:z≠name:=λe=>by rw [e] at hrk;omega
   refine cg (λc=>absurd (c_ c) (λe=>nz (by injection e))) (λ_=>?_);have mem:(bw kvs (Sum.inr z)).isSome=true↔z∈ms:=by rw [eF,W2.keys];exact cO
   refine⟨_,rfl,_,rfl,m,_,rfl,cu.k (k:=Sum.inr z) W2.hm,_,rfl,?_⟩;refine cg (λc=>?_) (λc=>?_)
   .have nm:z∉ms:=λh=>by rw [mem.mpr h] at c;exact absurd c nofun
    refine⟨_,rfl,_,rfl,m,_,rfl,pO.k (k:=Sum.inr z) W2.hm (bN ∅),?_⟩;obtain⟨_,_,IL,tX,aak,U1⟩:=W2.we e0 Wc;rw [WW] at tX U1;have Sy:D≠m:=λe=>by have:=W2.hD;rw [e,W2.hm] at this;cases this
    have nlm:l≠m:=λe=>by rw [e,W2.hm] at tX;cases tX
    have Nl:upd H6 m (.dK (bU kvs (Sum.inr z) (.bl true))) D=some (.lst (mw.map V.ref)):=by rw [aj Sy];exact W2.hD
    have hlu:upd H6 m (.dK (bU kvs (Sum.inr z) (.bl true))) l=some (.lst IL):=by rw [aj nlm];exact tX
    refine⟨_,rfl,.inl ⟨rfl,_,aH.of Nl⟩,_,rfl,_,rfl,_,rfl,_,rfl,iQ,λt4 C_=>?_⟩;have YA:=af C_ (.tup [.int (k:Int),.int (j:Int)]);generalize upd (upd H6 m (.dK (bU kvs (Sum.inr z) (.bl true)))) t4 (.tup [.int (k:Int),.int (j:Int)])=H7 at YA;refine⟨qi,λl4 hl4=>?_⟩;have Yy:=af hl4 (.lst [.ref t4]);have e5':upd H7 l4 (.lst [.ref t4]) l4=some (.lst [.ref t4]):=ae;generalize upd H7 l4 (.lst [.ref t4])=H8 at Yy e5';have Og:=YA.trans Yy;refine⟨l,l4,IL,[.ref t4],rfl,rfl,Og _ _ hlu,e5',fits (by simp;omega),λc0 ZH=>?_⟩;have Yw:=af ZH (.lst (IL++[.ref t4]));have e6':upd H8 c0 (.lst (IL++[.ref t4])) c0=some (.lst (IL++[.ref t4])):=ae;have nc0:c0≠D:=(aw (Og _ _ Nl) ZH).symm;generalize upd H8 c0 (.lst (IL++[.ref t4]))=H9 at Yw e6';refine⟨iQ,λt5 QF=>?_⟩;have Uz:=af QF (.tup [.str z,.ref c0]);have e7':aS K (upd H9 t5 (.tup [.str z,.ref c0])) t5 [.str z,.ref c0]:=aS.of ae;generalize upd H9 t5 (.tup [.str z,.ref c0])=A5 at Uz e7';have sA:=(Og.trans Yw).trans Uz;refine⟨D,_,_,rfl,rfl,sA _ _ Nl,bN (by rw [au];omega),?_⟩;exact⟨mw++[t5],j9++[(z,c0)],ms++[z],_,_,_,_,rfl,W2.more fD fm hz ∅ nm sA e7' (Uz _ _ e6') (by rw [a9];simp;omega) nc0,by rw [a9];omega,e0,ib _ Wc,WW⟩
   exact⟨mw,j9,ms,kvs,_,_,_,rfl,W2,h2,e0,Wc,WW⟩
  rintro σ H6 ⟨mw,j9,ms,kvs,y7,y8,y9,rfl,W2,h2,_⟩;exact⟨_,rfl,_,_,rfl,rfl,mw,j9,ms,kvs,_,_,_,_,rfl,W2,h2⟩
 refine⟨rC,λD9 K_=>q D9 _ (W.sm.free K_) (W.sm.trans (af K_ _)) ae⟩
end
end hV
namespace L2
open PySem PySem.Spec PyProof.Rows
section
variable {prog:Program}{w:World}{A:Around}{E:Value->Shared->Prop}{s:Shared}
def yK (a b c:Value):argsOk "min" ⟨[a],[("key",b),("default",c)]⟩:=by unfold argsOk;kernel_rfl
def t_ {l:Addr}{kf dv:Value}{Q:Value->Shared->Prop}(hh:A.handled=none)(hl:s.heap.IsList l #[])(h:∀h' tk,(∀b o,s.heap.get? b=some o->h'.get? b=some o)->Q dv { s with heap:=h',toks:=tk }) :
  wpAny (model prog w) A (call (.builtin "min") [.ref l] [("key",kf),("default",dv)]) Q E s:=by
 have Gy:(toString "min" ++ toString ".loop":String) = "min.loop" := by decide
 refine wpAny_call (codeAny_call_builtin F.plain_min F.entry_min ?_);have core:wpAny (model prog w) A.in1 (Builtin.«min» ⟨[.ref l],[("key",kf),("default",dv)]⟩) (λfin s'=>match fin with
   | .done f=>(match (Except.ok f:Result) with | .ok (.ret v)=>Q v s' | .ok _=>False | .error e=>E e s')
   | .again c'=>c'.quiet=true/\codeAny (model prog w) A c' (λr s'=>match r with | .ok (.ret v)=>Q v s' | .ok _=>False | .error e=>E e s') s') E s:=by
  show wpAny _ A.in1 (Builtin.Builtins.bindParams "min" ["key","default"] 0 ⟨[],[("key",kf),("default",dv)]⟩ >>= _) _ _ s;refine aE (wpAny_of_eq (show Builtin.Builtins.bindParams "min" ["key","default"] 0 ⟨[],[("key",kf),("default",dv)]⟩=pure [some kf,some dv] from rfl) ?_);refine aE (aP ?_);refine aE (oR hl ?_);refine aE (jr ?_);rw [Gy];obtain⟨ol,h1,h2⟩:=id hl;generalize hG:s.heap.push { cls:=.type "list_iterator",data:=.fields #[.ref l,.int 0 0] }=G;have k1:∀b o,s.heap.get? b=some o->G.get? b=some o:=λb o e=>by rw [<-hG];exact cv _ e
  have hi:G.get? s.heap.objs.size=some { cls:=.type "list_iterator",data:=.fields #[.ref l,.int 0 0] }:=by rw [<-hG];exact d0 _ rfl
  refine aP ⟨oI F.plain_min_loop _,qV F.entry_min_loop ?_⟩;rw [rj F.plain_min_loop _];show wpAny _ A.in1 (seqItems? (.ref G.objs.size) >>= _) _ _ _;refine aE (qS (d0 _ rfl) rfl ?_);show wpAny _ A.in1 (tryCatch (pyNext (.ref s.heap.objs.size)) _ >>= _) _ _ _;refine aE (wpAny_tryCatch (vx (show A.in1.handled=none from hh) ⟨_,cv _ hi,rfl,rfl⟩ ⟨ol,cv _ (k1 _ _ h1),h2⟩ (by simp) λh' eb=>?_));refine aE (wpAny_rule (aP ?_));exact h h' _ λb o e=>eb b o (cw (bO e)) (cv _ (k1 b o e))
 simp only [checkBuiltinCall,F.kind_min];cases VI:Manifest.signature? "min" with
 | none=>exact aP core
 | some sig =>
  have Wi:Bind.checkArgs "min" sig ⟨[.ref l],[("key",kf),("default",dv)]⟩=pure ():=by have:=yK (.ref l) kf dv;simpa only [argsOk,VI] using this
  simp only [Wi];exact aP core
end
def Pd (K:ba)(t:TA)(td:TE):TE:=λσ H Q=>t σ H λvs H1=>td σ H1 λdv H2=>∃a,vs=[.ref a]/\aH K H2 a []/\Q dv H2
def Jl {X:Cx}{p pos lp Vq Gg:Pos}{e e2:Expr}{t:TA}{td:TE}(hc:X.calm=true)(hg:Gl X "min")(hm:X.mg "min"=none)(V6:Gl X "len")(VZ:X.mg "len"=none)(ha:PA X [e] t)(hd:PE X e2 td)
  (he:backTo pos (starEach [e] X.env)=(false,eval e X.env)::backTo pos (starEach [] X.env):=by rfl)(hp:(backTo pos (starEach [e] X.env)).any (·.1)=false:=by rfl) :
  PE X (.Call (.Name "min" p) [e] [⟨some "key",.Name "len" lp,Vq⟩,⟨some "default",e2,Gg⟩] pos) (Pd X.K t td):=by
 intro ah s σ H Q I h;refine qO (jW I hg hm boot_min ?_);refine callWith_kw (cR (ha pos ah s σ H _ I h) λus s1 bG=>?_) he hp rfl rfl;obtain⟨vs,H1,I1,r1,q1⟩:=bG;refine kws_cons (jW I1 V6 VZ cZ (kws_cons (cR (hd ah s1 σ H1 _ I1 q1) λu2 s2 bG=>?_)));obtain⟨dv,H2,I2,r2,a,ev,hs,q⟩:=bG;refine kws_nil ?_;subst ev;obtain⟨u,rfl,rx⟩:=vals1 r1;cases (show u=Value.ref a from rx);obtain⟨aT,rv,pl,hz⟩:=I2.list hs;cases rv;exact t_ (I2.ok.hd hc) pl.isList λh' tk kk=>⟨dv,H2,I2.kept (t':=tk) kk,r2,q⟩
open PySem
def DQ {K:ba}{H:Hp}{p D:Addr}{ls:List Addr}{σ:St}{x:Str}{Qp:Hp->Prop}(hp:H p=some (.lst (ls.map V.ref)))(hl:∀l∈ls,H l=some (.lst []))(hD:H D=none)(q:∀H2,aA H H2->H2 D=some (.lst [])->Qp H2) :
  ∃W:Nat->Nat->List V->St->Hp->Prop,(∃m,W 0 m [] (eV [x] [] σ) (upd H D (.lst []))) /\
 ∀i m ys σ' H,W i m ys σ' H->((ki K p).stop i H/\Qp H)\/((ki K p).go i H/\∃m',m' < m/\∀x H',(ki K p).mQ i H x H'->dP 0 x σ' H' λσ2 H2=>gT 0 σ2 H2 λx H'=>∃k,HM K x H' k/\(λb H3 =>
  if b=true then gT 0 σ2 H3 λy H4=>H4 D=some (.lst ys)/\ys.length < sizeLine/\W (i+1) m' (ys++[y]) σ2 (upd H4 D (.lst (ys++[y]))) else W (i+1) m' ys σ2 H3) k H'):=by
 refine cN (tif:=λσ H Q=>gT 0 σ H λx H'=>∃k,HM K x H' k/\Q k H') (xs:=ls.map V.ref) (λi ys σ2 H5=>ys=[]/\(∃y0,σ2=[y0])/\aA H H5/\H5 D=some (.lst [])) ⟨rfl,⟨none,rfl⟩,af hD _,ae⟩ (λi ys σ2 H5 _ h=>aH.of (h.2.2.1 _ _ hp)) (λi x ys σ2 H5 ex h=>?_) (λys σ2 H5 h=>?_)
 .obtain⟨rfl,⟨y0,rfl⟩,s5,e5⟩:=h;rw [bz] at ex;obtain⟨l,el,rfl⟩:=cD.mp ex;refine goN ?_;refine⟨_,rfl,false,.inl ⟨[],aH.of (s5 _ _ (hl l (b_ el))),rfl⟩,?_⟩;refine cU ?_;exact⟨rfl,⟨_,rfl⟩,s5,e5⟩
 obtain⟨rfl,_,s5,e5⟩:=h;exact q H5 s5 e5
end L2
namespace hV
open PySem L2 M11
section
def HS (aa:List ar)(rk:Str->Nat):Prop:=∀bI,xc aa bI->yQ aa aa.length bI->∀n k j,OZ aa (hd aa) (λz=>decide (z∈bI.map (·.1))) n k j->∀ru z,aa[k]?=some ru->ru.2[j]?=some z->rk z < rk n
def EN (K:ba):Sp:=λvs H Q _=>∃(R:Addr)(rs:List Addr)(aa:List ar)(rk:Str->Nat),vs=[.ref R]/\aH K H R (rs.map V.ref)/\bL K H rs aa/\aa.length<=1000/\(∀ru∈aa,ru.2.length<=8)/\HS aa rk /\
 ∀(D:Addr)(H':Hp),H D=none->aA H H'->H' D=some (.lst [])->Q (.ref D) H'
def zF:aK ["rules","steps","loops"] ["rules"] (av E4):=iN rfl rfl rfl rfl nofun
def Jw (F:iC K "find_loop" "find_loop" E4 f fd)(T:Txt mg)(GS:aC P w K mg base 2 "steps_with_like_rows" ["rules"] (Bl K))(GW:aC P w K mg base 1 "way_back" ["rules","steps","name"] (Kr K)):bS P w K mg base gp 3 f fd ["rules"] (EN K):=by
 refine F.ok zF (λvs H Q E h=>?_) (λeY A outer s H vs Q E hr h=>?_)
 .obtain⟨R,rs,aa,rk,rfl,_⟩:=h;rfl
 obtain⟨R,rs,aa,rk,rfl,hR,cA,bE,h8,hnl,q⟩:=h;refine⟨_,ai (az (i:=1) zF.nd rfl (Or.inr rfl) (bp GS hr rfl (ab (pv 0) ag)))
  (ai (i_ (iy:=2) ["name"] [(0,"rules"),(1,"steps")] zF.nd rfl rfl rfl (BI (pv 1)) (br rfl rfl) nofun rfl nofun
   (λ_ _ _ _ _=>aq (i:=0) (show (["name","rules","steps"]:List Str).Nodup by decide +kernel) rfl (bC rfl)) (λ_ _ _ _ _=>b9)
   (λ_ _ _ _ _=>bp (GW.mono (by decide:1<=2)) hr rfl (ab (pv 1) (ab (pv 2) (ab (pv 0) ag)))))
  (ak (aN (Jl rfl rfl T.min rfl T.len (ab (bD ["loop"] [] rfl (a8 (pv 2)) (br rfl rfl) nofun rfl nofun
   (λ_ _ _ _ _=>aq (i:=0) (show (["loop"]:List Str).Nodup by decide +kernel) rfl (bC rfl)) (λ_ _ _ _ _=>iq (CD K (pv 0) (λ_=>rfl))) (λ_ _ _ _ _=>pv 0)) ag) (a_ ag))))),?_⟩
 nofun
 refine⟨_,rfl,R,rs,aa,rfl,hR,cA,bE,h8,λd ps st bI H1 fd1 s1 e1 S1 m1 OF emp DA hits=>?_⟩;have lps:ps.length<=1000:=by
  have h1:=congrArg List.length m1;have h2:=iP (aa.map (·.1)) [];simp only [jq,au] at h2;rw [au] at h1;have h3:(hd aa).length=(wV [] (aa.map (·.1))).length:=rfl;omega
 have Wd:Down aa (ps.map (·.1)) st rk:=λn hn e he=>by
  rw [m1] at hn ⊢;have hit:=(hits n e.1 e.2 hn).mp he;obtain⟨ru,z,er,_,ez,hz,_⟩:=id hit;exact⟨ru,z,er,ez,hz,hnl bI emp DA n e.1 e.2 hit ru z er ez⟩
 refine⟨_,rfl,d,_,rfl,e1,λo D hD=>?_⟩;have UX:∀p∈ps,p.2≠d:=λp hp z=>by
  obtain⟨ts,a,_⟩:=S1.lst p hp;rw [z,e1] at a;cases a
 have s2:aA H (upd H1 d (.kr o (.dK (ps.map jK)))):=λb u hb=>by
  rw [aj (λz=>by rw [z,fd1] at hb;cases hb)];exact s1 b u hb
 have S2:Eo K ps st (upd H1 d (.kr o (.dK (ps.map jK)))) d:=⟨.inr ⟨o,ae⟩,S1.n1,S1.n2,λp hp=>by
  obtain⟨ts,a,b⟩:=S1.lst p hp;exact⟨ts,by rw [aj (UX p hp)];exact a,Paired.fc b λ_ _ z=>ix e1 z⟩⟩
 have e2:upd H1 d (.kr o (.dK (ps.map jK))) d=some (.kr o (.dK (ps.map jK))):=ae;generalize upd H1 d (.kr o (.dK (ps.map jK)))=H2 at hD s2 S2 e2 ⊢;refine tE (λi ys σ2 H3=>∃ls:List Addr,ys=ls.map V.ref/\ls.length=i/\(∀l∈ls,H3 l=some (.lst [])/\l≠D)/\(∃y0,σ2=[y0,aM R,aM d])/\aA H2 H3/\H3 D=some (.lst ys))
  ⟨[],rfl,rfl,by simp,⟨none,rfl⟩,af hD _,ae⟩ (λi ys σ2 H3 _ h=>?_) (λi kv ys σ2 H3 ex h=>?_) (λys σ2 H3 h=>?_)
 .obtain⟨_,_,_,_,_,sm,_⟩:=h;exact sm _ _ e2
 .obtain⟨ls,rfl,Zu,hl,⟨y0,rfl⟩,sm,jj⟩:=h;rw [bz] at ex;obtain⟨p,ep,rfl⟩:=cD.mp ex;have hp:=b_ ep;have li:=(bu.mp ep).1;refine goN (yo ?_);have s3:=s2.trans sm;refine⟨_,rfl,_,rfl,_,rfl,R,d,rs,aa,ps,st,p.1,rk,rfl,s3.seq hR,cA.same s3,bE,S2.same sm,lps,j8 hp,Wd,λD4 H4 f4 s4 e4=>?_⟩;have Eh:=s4 _ _ jj;have YV:D4≠D:=λz=>by rw [z,jj] at f4;cases f4
  refine⟨Eh,bN (by rw [au];omega),ls++[D4],by rw [bH];rfl,by rw [a9,Zu];rfl,λl V2=>?_,⟨_,rfl⟩,λb u hb=>?_,ae⟩
  .rcases bR.mp V2 with h | h
   .obtain⟨a1,a2⟩:=hl l h;exact⟨by rw [aj a2];exact s4 _ _ a1,a2⟩
   rw [bF.mp h];exact⟨by rw [aj YV];exact e4,YV⟩
  rw [aj (λz=>by rw [z,hD] at hb;cases hb)];exact s4 _ _ (sm b u hb)
 obtain⟨ls,rfl,Zu,hl,_,sm,jj⟩:=h;have s3:=s2.trans sm;refine⟨_,rfl,D,rfl,⟨_,aH.of jj⟩,λD5 OB=>?_⟩;refine DQ jj (λl V2=>(hl l V2).1) OB λH5 s5 e5=>?_;refine⟨rC,λD6 Wt=>⟨D5,rfl,aH.of (af Wt _ _ _ e5),?_⟩⟩;exact q D6 _ ((s3.trans s5).free Wt) ((s3.trans s5).trans (af Wt _)) ae
end
end hV
namespace L2
open PySem
def A8 {K:ba}{T:Addr}{pos:Pos}{qu:Str}{H H':Hp}{a:Addr}{xs:List V}(s:cX T H H')(t:Tab T pos qu H)(h:aS K H a xs):aS K H' a xs:=by
 obtain⟨ps,b,_⟩:=t;rcases h with (h | ⟨u,h⟩) | h
 .exact .inl (.inl (s _ _ (λz=>by rw [z,b] at h;cases h) h))
 .exact .inl (.inr ⟨u,s _ _ (λz=>by rw [z,b] at h;cases h) h⟩)
 exact .inr h
def Bx {K:ba}{T:Addr}{pos:Pos}{qu:Str}{H H':Hp}{a:Addr}{xs:List V}(s:cX T H H')(t:Tab T pos qu H)(h:aH K H a xs):aH K H' a xs:=by
 obtain⟨ps,b,_⟩:=t;rcases h with (h | ⟨u,h⟩) | h
 .exact .inl (.inl (s _ _ (λz=>by rw [z,b] at h;cases h) h))
 .exact .inl (.inr ⟨u,s _ _ (λz=>by rw [z,b] at h;cases h) h⟩)
 exact .inr h
def A9 {T T':Addr}{pos pos':Pos}{qu Ig:Str}{H H':Hp}(s:cX T H H')(t:Tab T pos qu H)(h:Tab T' pos' Ig H)(n:T'≠T):Tab T' pos' Ig H':=by
 obtain⟨ps,b,_⟩:=t;obtain⟨BG,a,o,c⟩:=h;refine⟨BG,s _ _ n a,o,c.imp id ?_⟩;rintro⟨c',e,g⟩;exact⟨c',e,s _ _ (λz=>by rw [z,b] at g;cases g) g⟩
def tq {K:ba}{H:Hp}{p D:Addr}{zs:List Str}{σ:St}{js:List (Nat×Str)}{cs:List (Option V)}{tif:TT}{te:TE}{Qp:Hp->Prop}(hσ:eV ["name"] js σ=none::cs)(hp:aH K H p (zs.map V.str))(hD:H D=none)
  (ht:∀z∈zs,∀H2 Q,aA H H2->Q false H2->tif (some (.str z)::cs) H2 Q)(q:∀H2,aA H H2->H2 D=some (.lst [])->Qp H2) :
  ∃W:Nat->Nat->List V->St->Hp->Prop,(∃m,W 0 m [] (eV ["name"] js σ) (upd H D (.lst []))) /\
 ∀i m ys σ' H,W i m ys σ' H->((ki K p).stop i H/\Qp H)\/((ki K p).go i H/\∃m',m' < m/\∀x H',(ki K p).mQ i H x H'->dP 0 x σ' H' λσ2 H2=>tif σ2 H2 λb H3 =>
  if b=true then te σ2 H3 λy H4=>H4 D=some (.lst ys)/\ys.length < sizeLine/\W (i+1) m' (ys++[y]) σ2 (upd H4 D (.lst (ys++[y]))) else W (i+1) m' ys σ2 H3):=by
 refine cN (xs:=zs.map V.str) (λi ys σ2 H5=>ys=[]/\(∃y0,σ2=y0::cs)/\aA H H5/\H5 D=some (.lst [])) ⟨rfl,⟨none,hσ⟩,af hD _,ae⟩ (λi ys σ2 H5 _ h=>h.2.2.1.seq hp) (λi x ys σ2 H5 ex h=>?_) (λys σ2 H5 h=>?_)
 .obtain⟨rfl,⟨y0,rfl⟩,s5,e5⟩:=h;rw [bz] at ex;obtain⟨z,ez,rfl⟩:=cD.mp ex;refine goN ?_;refine ht z (b_ ez) H5 _ s5 ?_;refine cU ?_;exact⟨rfl,⟨_,rfl⟩,s5,e5⟩
 obtain⟨rfl,_,s5,e5⟩:=h;exact q H5 s5 e5
end L2
namespace hV
open PySem L2 M11
section
structure Good (aa:List ar)(rk:Str->Nat)(b:Str->Int):Prop where
 least:∀g,fk M11.bl aa (zc aa) g->jd M11.bl aa g->∀h∈hd aa,∃n,g h=some n/\n<=60
 met:∀jJ ms,aa[0]?=some jJ->jJ.1∈ms->HU aa aa.length ms->∀h∈hd aa,h∈ms
 loop:HS aa rk
 Tq:yS aa b
 most:∀h∈hd aa,b h<=60
def md (T1 T2:Addr)(H H':Hp):Prop:=∀b o,b≠T1->b≠T2->H b=some o->H' b=some o
def rJ (K:ba)(T1 T2:Addr):Sp:=λvs H Q _=>∃(R S:Addr)(rs ss:List Addr)(aa str:List ar)(rk:Str->Nat)(b:Str->Int),vs=[.ref R,.ref S]/\aH K H R (rs.map V.ref)/\bL K H rs aa/\aa.length<=1000/\(∀ru∈aa,ru.2.length<=8)/\aa≠[] /\
 aH K H S (ss.map V.ref)/\bL K H ss str/\str.length<=1000/\(∀ru∈str,ru.2.length<=8)/\(str.flatMap (·.2)).Nodup/\Good aa rk b/\Tab T1 r9.2.2.2 yW H/\Tab T2 Ao.2.2.2 KQ H/\T1≠T2 /\
 ∀H',md T1 T2 H H'->Tab T1 r9.2.2.2 yW H'->Tab T2 Ao.2.2.2 KQ H'->Q .fh H'
def iA:aK ["rules","strengths","least","endless","met","unmet","steps","greatest","vast"] ["rules","strengths"] (av vX):=iN rfl rfl rfl rfl nofun
def CL {T1 T2:Addr}{tm:Tok}(F:iC K "refuse_faults" "refuse_faults" vX f fd)(T:Txt mg)(hM:mg "MOST_RULES"=some (.int 60 tm))(GT:aC P w K mg base 1 "refuse_twice" ["strengths"] (Bk K))(GL:aC P w K mg base 3 "least_sizes" ["rules"] (qA K T1))
  (GH:aC P w K mg base 1 "heads_of" ["rules"] (jQ K))(GM:aC P w K mg base 1 "names_met" ["rules"] (Kt K))(GF:aC P w K mg base 3 "find_loop" ["rules"] (EN K))(GG:aC P w K mg base 3 "greatest_empty_sizes" ["rules"] (vP K T2)) :
  bS P w K mg base gp 4 f fd ["rules","strengths"] (rJ K T1 T2):=by
 refine F.ok iA (λvs H Q E h=>?_) (λeY A outer s H vs Q E hr h=>?_)
 .obtain⟨R,S,rs,ss,aa,str,rk,b,rfl,_⟩:=h;rfl
 obtain⟨R,S,rs,ss,aa,str,rk,b,rfl,hR,cA,bE,h8,qI,hS,SG,VE,VM,VL,gd,JR,SW,nT,q⟩:=h;have hu:=gi hr;refine⟨_,ai (bJ (iF (iW (pv 0) (λ_=>rfl))) (ak iX) aQ)
  (ai (cJ (bp (GT.mono (by decide:1<=3)) hr rfl (ab (pv 1) ag)))
  (ai (az (i:=2) iA.nd rfl (Or.inr rfl) (bp GL hr rfl (ab (pv 0) ag)))
  (ai (i_ (iy:=3) ["name"] [(2,"least")] iA.nd rfl rfl rfl (a8 (bp (GH.mono (by decide:1<=3)) hr rfl (ab (pv 0) ag))) (br rfl rfl) nofun rfl nofun
   (λ_ _ _ _ _=>aq (i:=0) (show (["name","least"]:List Str).Nodup by decide +kernel) rfl (bC rfl)) (λ_ _ _ _ _=>iq (eK (eQ hu (pv 0) (pv 1)))) (λ_ _ _ _ _=>pv 0))
  (ai (bJ (iW (pv 3) (λ_=>rfl)) (ak iX) aQ)
  (ai (az (i:=4) iA.nd rfl (Or.inr rfl) (bp (GM.mono (by decide:1<=3)) hr rfl (ab (pv 0) ag)))
  (ai (i_ (iy:=5) ["name"] [(4,"met")] iA.nd rfl rfl rfl (a8 (bp (GH.mono (by decide:1<=3)) hr rfl (ab (pv 0) ag))) (br rfl rfl) nofun rfl nofun
   (λ_ _ _ _ _=>aq (i:=0) (show (["name","met"]:List Str).Nodup by decide +kernel) rfl (bC rfl)) (λ_ _ _ _ _=>iq (eK (eQ hu (pv 0) (pv 1)))) (λ_ _ _ _ _=>pv 0))
  (ai (bJ (iW (pv 5) (λ_=>rfl)) (ak iX) aQ)
  (ai (az (i:=6) iA.nd rfl (bC rfl) (bp GF hr rfl (ab (pv 0) ag)))
  (ai (bJ (iW (pv 6) (λ_=>rfl)) (ak iX) aQ)
  (ai (az (i:=7) iA.nd rfl (Or.inr rfl) (bp GG hr rfl (ab (pv 0) ag)))
  (ai (i_ (iy:=8) ["name"] [(2,"least"),(7,"greatest")] iA.nd rfl rfl rfl (a8 (bp (GH.mono (by decide:1<=3)) hr rfl (ab (pv 0) ag))) (br rfl rfl) nofun rfl nofun
   (λ_ _ _ _ _=>aq (i:=0) (show (["name","least","greatest"]:List Str).Nodup by decide +kernel) rfl (bC rfl)) (λ_ _ _ _ _=>iq (aX xX (aD (DT rfl) rfl T.max PyProof.Rows.boot_max (ab (fu hu (pv 1) (pv 0) (λ_ _=>rfl)) (ab (xT hu (pv 2) (pv 0) ao ⟨rfl,rfl,rfl,rfl⟩) ag))) (Jn (v:=.int 60) rfl hM ⟨tm,rfl⟩) (bK _))) (λ_ _ _ _ _=>pv 0))
  (ak (bJ (iW (pv 8) (λ_=>rfl)) (ak iX) aQ))))))))))))),?_⟩
 nofun
 have ll:=aU cA;obtain⟨jJ,Ov⟩:∃jJ,aa[0]?=some jJ:=by
  cases aa with
  | nil=>exact absurd rfl qI
  | cons a r=>exact⟨a,rfl⟩
 have eR:(rs.map V.ref).isEmpty=false:=by
  have l0:=(bu.mp Ov).1;cases rs with
  | nil=>simp at ll;omega
  | cons a r=>rfl
 refine⟨_,rfl,true,.inl ⟨_,hR,by rw [eR];rfl⟩,?_⟩;refine cU ?_;refine⟨_,rfl,S,ss,str,rfl,hS,SG,VE,VM,VL,λH1 s1=>?_⟩;have Se:=JR.same s1;have t21:=SW.same s1;refine⟨_,rfl,R,rs,aa,rfl,s1.seq hR,cA.same s1,bE,h8,Se,λdl kl ksl gl H2 fl s2 t12 el kkl vl stl sel _=>?_⟩;have Iq:=Bx s2 Se (s1.seq hR);have Df:=(cA.same s1).keep λ_ _ z=>A8 s2 Se z;have t22:=A9 s2 Se t21 nT.symm;have hl:=gd.least gl stl sel;have S02:md T1 T2 H H2:=λb o n1 _ hb=>s2 b o n1 (s1 b o hb);refine⟨_,rfl,R,rs,aa,rfl,Iq,Df,bE,λD3 H3 f3 s3 e3=>⟨D3,rfl,⟨_,aH.of e3⟩,λD4 hD4=>tq rfl (aH.of e3) hD4 (λz hz H' Q' s' hQ=>?_) λH4 s4 e4=>?_⟩⟩
 .obtain⟨n,en,_⟩:=hl z hz;have hg:cu H' dl (.str z) (some (.int n)):=by
   have:=cu.k (k:=Sum.inr z) (s' _ _ (s3 _ _ el));rw [vl,en] at this;exact this
  exact⟨_,rfl,_,rfl,dl,_,rfl,hg,_,rfl,hQ⟩
 refine⟨_,rfl,false,.inl ⟨[],aH.of e4,rfl⟩,?_⟩;refine cU ?_;have Je:=s3.trans s4;refine⟨_,rfl,R,rs,aa,jJ,rfl,Je.seq Iq,Df.same Je,Ov,bE,h8,λdm km ms H5 f5 s5 em kkm Cv _ mc5=>?_⟩;have UA:=Je.trans s5;refine⟨_,rfl,R,rs,aa,rfl,UA.seq Iq,Df.same UA,bE,λD6 H6 f6 s6 e6=>⟨D6,rfl,⟨_,aH.of e6⟩,λD7 Ws=>tq rfl (aH.of e6) Ws (λz hz H' Q' s' hQ=>?_) λH7 s7 e7=>?_⟩⟩
 .have hm:=gd.met jJ ms Ov Cv mc5 z hz;have hv:(bw km (Sum.inr z)).isSome=true:=by rw [eF,kkm];exact cO.mpr hm
  refine⟨_,rfl,_,rfl,dm,_,rfl,cu.k (k:=Sum.inr z) (s' _ _ (s6 _ _ em)),_,rfl,?_⟩;rw [hv];exact hQ
 refine⟨_,rfl,false,.inl ⟨[],aH.of e7,rfl⟩,?_⟩;refine cU ?_;have Md:=(UA.trans s6).trans s7;refine⟨_,rfl,R,rs,aa,rk,rfl,Md.seq Iq,Df.same Md,bE,h8,gd.loop,λD8 H8 f8 s8 e8=>?_⟩;refine⟨_,rfl,false,.inl ⟨[],aH.of e8,rfl⟩,?_⟩;refine cU ?_;have Kx:=Md.trans s8;have t18:=t12.same Kx;have Pq:=t22.same Kx;refine⟨_,rfl,R,rs,aa,b,rfl,Kx.seq Iq,Df.same Kx,bE,h8,gd.Tq,Pq,λdg kg ksg gg H9 f9 s9 t29 eg kkg vg jg _ _=>?_⟩;have hR9:=Bx s9 Pq (Kx.seq Iq);have VN:=(Df.same Kx).keep λ_ _ z=>A8 s9 Pq z;have Um:=A9 s9 Pq t18 nT;have Z4:=Kx _ _ el;have el9:=s9 _ _ (λz=>by obtain⟨ps,a,_⟩:=Pq;rw [<-z,Z4] at a;cases a) Z4;refine⟨_,rfl,R,rs,aa,rfl,hR9,VN,bE,λX8 A5 f10 wj Ej=>⟨X8,rfl,⟨_,aH.of Ej⟩,λD11 Wu=>tq rfl (aH.of Ej) Wu (λz hz H' Q' s' hQ=>?_) λEa Jf Iy=>?_⟩⟩
 .obtain⟨n,en,aam⟩:=hl z hz;have JP:cu H' dl (.str z) (some (.int n)):=by
   have:=cu.k (k:=Sum.inr z) (s' _ _ (wj _ _ el9));rw [vl,en] at this;exact this
  have Z7:=s' _ _ (wj _ _ eg);obtain⟨v,C9,hv2⟩:∃v:Int,((gg z).map V.int).getD (.int 0)=.int v/\v<=60:=by
   cases e:gg z with
   | none=>exact⟨0,rfl,nofun⟩
   | some v=>exact⟨v,rfl,Int.le_trans (jg z v e).2.1 (gd.most z hz)⟩
  have V6:cu H' dg (.str z) ((gg z).map V.int):=by
   have:=cu.k (k:=Sum.inr z) Z7;rw [vg] at this;exact this
  refine⟨_,rfl,_,rfl,dl,_,rfl,JP,_,rfl,dg,rfl,.inl ⟨_,.inl Z7⟩,_,rfl,_,V6,?_⟩;rw [C9];refine⟨n,v,rfl,_,_,rfl,rfl,_,rfl,?_⟩;rw [b8 (by split <;> omega)]
  exact hQ
 refine⟨_,rfl,false,.inl ⟨[],aH.of Iy,rfl⟩,?_⟩;refine cU ?_;have Mc:=wj.trans Jf;exact q Ea (λc o n1 n2 hc=>Mc c o (s9 c o n2 (Kx c o (S02 c o n1 n2 hc)))) (Um.same Mc) (t29.same Mc)
end
end hV
namespace M11
open PySem L2
abbrev Be:=Str×Str×Nat×Nat
def gU (cT:List Be):List (Str×Str):=cT.map λb=>(b.1,b.2.1)
def oo (cT:List Be)(n:Str):List Str:=(cT.filter λb=>decide (b.1=n)).map (·.2.1)
def qk (names:List Str)(cT:List Be)(z:Str):List Str:=if z∈names then oo cT z else [z]
inductive xo (aa:List ar) (names:List Str)(b:Str->Bool):List Be->Prop
 | nil:xo aa names b []
 | snoc {cT:List Be}{k j:Nat}{ru:ar}{z w:Str}:xo aa names b cT->aa[k]?=some ru->ru.2[j]?=some z->j < Ds b ru.2->w∈qk names cT z->(ru.1,w)∉gU cT->xo aa names b (cT++[(ru.1,w,k,j)])
def AF {cT:List Be}{n w:Str}:w∈oo cT n↔(n,w)∈gU cT:=by
 unfold oo gU;rw [cY,cY];constructor
 .rintro⟨b,hb,rfl⟩;obtain⟨h1,h2⟩:=lW.mp hb;exact⟨b,h1,by rw [c_ h2]⟩
 rintro⟨b,hb,e⟩;cases e;exact⟨b,lW.mpr ⟨hb,bh rfl⟩,rfl⟩
def BX (cT:List Be)(b:Be)(n:Str):oo (cT++[b]) n=oo cT n++(if b.1=n then [b.2.1] else []):=by
 unfold oo;rw [oY,bH];by_cases c:b.1=n
 .rw [ax c];simp [c]
 rw [ay c];simp [c]
end M11
namespace hV
open PySem L2 M11
def J_:Stmt->List Stmt
 | .ClassDef _ _ _ b _ _ _ _ _ _ _=>b
 | _=>[]
abbrev Qe (st:Stmt) (i:Nat):Stmt:=(J_ st).getD i (.Pass ⟨0,0,0,0⟩)
abbrev zT:Stmt:=Qe zS 0
abbrev E8:Stmt:=Qe zS 1
abbrev zM:Stmt:=Qe zS 2
abbrev v8:Stmt:=Qe E5 0
section
structure BC (K:ba)(C:Addr):Prop where
 cls:Ec K C
 a1:eX K C "empties"
 a2:eX K C "empty"
 a3:eX K C "begins"
 a4:eX K C "firsts"
structure ub (K:ba)(C:Addr)(H0 H:Hp)(a e d bg:Addr)(kE:List (aR×V))(bI:List (Str×Nat))(ps:List (Str×Addr))(cT:List Be):Prop where
 sm:aA H0 H
 ia:∃dx fs,H a=some (.ins C dx fs)/\fs.lookup ("empty":Str)=some (.ref e)/\fs.lookup ("begins":Str)=some (.ref bg)/\fs.lookup ("firsts":Str)=some (.ref d)/\fs.lookup ("find_begins":Str)=none/\fs.lookup ("words_of_part":Str)=none
 he:H e=some (.dK kE)
 hd:H d=some (.dK (ps.map jK))
 n1:(ps.map (·.1)).Nodup
 n2:(ps.map (·.2)).Nodup
 dk:∀p∈ps,(∃kvs,H p.2=some (.dK kvs)/\kvs.map (·.1)=(oo cT p.1).map Sum.inr)/\H0 p.2=none/\p.2≠e/\p.2≠d
 lb:∃ts,H bg=some (.lst (ts.map V.ref))/\Paired (λt (b:Be)=>aS K H t [.str b.1,.str b.2.1,.int (b.2.2.1:Int),.int (b.2.2.2:Int)]) ts cT
 fb:H0 bg=none
 em:∃e1 ts,(∃dx fs,H a=some (.ins C dx fs)/\fs.lookup ("empties":Str)=some (.ref e1))/\H e1=some (.lst (ts.map V.ref))/\pM K H ts bI/\e1≠bg
def ub.same {C:Addr}{H0 H H':Hp}{a e d bg:Addr}{kE:List (aR×V)}{bI:List (Str×Nat)}{ps:List (Str×Addr)}{cT:List Be}(h:ub K C H0 H a e d bg kE bI ps cT)(s:aA H H'):ub K C H0 H' a e d bg kE bI ps cT:=by
 refine⟨h.sm.trans s,?_,s _ _ h.he,s _ _ h.hd,h.n1,h.n2,λp hp=>?_,?_,h.fb,?_⟩
 .obtain⟨dx,fs,q,r⟩:=h.ia;exact⟨dx,fs,s _ _ q,r⟩
 .obtain⟨⟨kvs,q,r⟩,t⟩:=h.dk p hp;exact⟨⟨kvs,s _ _ q,r⟩,t⟩
 .obtain⟨ts,q,r⟩:=h.lb;exact⟨ts,s _ _ q,Paired.fc r λ_ _ z=>s.tup z⟩
 obtain⟨e1,ts,⟨dx,fs,q1,q2⟩,q3,q4,q5⟩:=h.em;exact⟨e1,ts,⟨dx,fs,s _ _ q1,q2⟩,s _ _ q3,q4.keep λ_ _ z=>s.tup z,q5⟩
def Bn (K:ba)(C:Addr):Sp:=λvs H Q _=>∃(H0:Hp)(a e d bg:Addr)(kE:List (aR×V))(bI:List (Str×Nat))(ps:List (Str×Addr))(cT:List Be)(z:Str),vs=[.ref a,.str z]/\ub K C H0 H a e d bg kE bI ps cT /\
 ∀(D:Addr)(H':Hp),H D=none->aA H H'->H' D=some (.lst ((qk (ps.map (·.1)) cT z).map V.str))->Q (.ref D) H'
def IX:aK ["self","part"] ["self","part"] (av zM):=iN rfl rfl rfl rfl nofun
def FO {C:Addr}(F:iC K "words_of_part" "BeginTable.words_of_part" zM f fd)(T:Txt mg)(B:BC K C):bS P w K mg base gp 1 f fd ["self","part"] (Bn K C):=by
 refine F.ok IX (λvs H Q E h=>?_) (λeY A outer s H vs Q E hr h=>?_)
 .obtain⟨H0,a,e,d,bg,kE,bI,ps,cT,z,rfl,_⟩:=h;rfl
 obtain⟨H0,a,e,d,bg,kE,bI,ps,cT,z,rfl,S,q⟩:=h;have hu:=gi hr;obtain⟨dx,fs,ea,f1,f2,f3,f4,f5⟩:=S.ia;refine⟨_,ak (aN (rX (eK (jh hu (pv 1) (fQ (pv 0) rfl))) (bc (mN rfl) rfl T.lst gI (ab (fu hu (fQ (pv 0) rfl) (pv 1) (λ_ _=>rfl)) ag)) (a_ (ab (pv 1) ag)))),?_⟩;dsimp only [yz];have mem:(bw (ps.map jK) (Sum.inr z)).isSome=true↔z∈ps.map (·.1):=by rw [eF,nW];exact cO
 refine⟨_,rfl,_,rfl,a,C,dx,fs,_,rfl,ea,B.cls,B.a4,f3,d,_,rfl,cu.k (k:=Sum.inr z) S.hd,_,rfl,?_⟩;refine cg (λc=>?_) (λc=>?_)
 .have hz:=mem.mp c;obtain⟨p,hp,ep⟩:=cY.mp hz;obtain⟨⟨kvs,hk,kk⟩,_⟩:=S.dk p hp;have vn:=ig ps S.n1 p hp;rw [ep] at vn;have hg:cu H d (.str z) (some (.ref p.2)):=by
   have:=cu.k (k:=Sum.inr z) S.hd;rw [vn] at this;exact this
  refine⟨_,rfl,a,C,dx,fs,_,rfl,ea,B.cls,B.a4,f3,_,rfl,d,_,rfl,hg,p.2,kvs,rfl,hk,λD hD=>?_⟩;refine q D _ hD (af hD _) ?_;rw [ae,keys_str kk,ep];unfold qk;rw [ax hz]
 refine⟨_,rfl,qi,λD hD=>?_⟩;refine q D _ hD (af hD _) ?_;rw [ae];unfold qk;rw [ay (λh=>c (mem.mpr h))];rfl
def ub.more {C:Addr}{H0 H H2:Hp}{a e d bg t:Addr}{kE kvs:List (aR×V)}{bI:List (Str×Nat)}{ps:List (Str×Addr)}{cT:List Be}{p:Str×Addr}{wd:Str}{k j:Nat}{ts:List Addr}(h:ub K C H0 H a e d bg kE bI ps cT)(hp:p∈ps)(hk:H p.2=some (.dK kvs))(kk:kvs.map (·.1)=(oo cT p.1).map Sum.inr)
  (hn:(p.1,wd)∉gU cT)(hb:H bg=some (.lst (ts.map V.ref)))(Oy:Paired (λt (b:Be)=>aS K H t [.str b.1,.str b.2.1,.int (b.2.2.1:Int),.int (b.2.2.2:Int)]) ts cT)
  (s:aA (upd H p.2 (.dK (bU kvs (Sum.inr wd) (.bl true)))) H2)(ht:aS K H2 t [.str p.1,.str wd,.int (k:Int),.int (j:Int)]) :
  ub K C H0 (upd H2 bg (.lst (ts.map V.ref++[.ref t]))) a e d bg kE bI ps (cT++[(p.1,wd,k,j)]):=by
 have Sx:bg≠p.2:=λz=>by rw [z,hk] at hb;cases hb
 have GX:H2 bg=some (.lst (ts.map V.ref)):=s _ _ (by rw [aj Sx];exact hb);obtain⟨_,fp,YM,YN⟩:=h.dk p hp;have up:∀c o,c≠bg->c≠p.2->H c=some o->upd H2 bg (.lst (ts.map V.ref++[.ref t])) c=some o:=λc o n1 n2 q=>by
  rw [aj n1];exact s _ _ (by rw [aj n2];exact q)
 refine⟨λc o hc=>up c o (λz=>by rw [z,h.fb] at hc;cases hc) (λz=>by rw [z,fp] at hc;cases hc) (h.sm c o hc),?_,up _ _ (λz=>by have:=h.he;rw [z,hb] at this;cases this) YM.symm h.he,up _ _ (λz=>by have:=h.hd;rw [z,hb] at this;cases this) YN.symm h.hd,h.n1,h.n2,λp' n5=>?_,⟨ts++[t],by rw [ae,bH];rfl,?_⟩,h.fb,?_⟩
 .obtain⟨dx,fs,q,r⟩:=h.ia;exact⟨dx,fs,up _ _ (λz=>by rw [z,hb] at q;cases q) (λz=>by rw [z,hk] at q;cases q) q,r⟩
 .obtain⟨⟨mI,q,r⟩,t'⟩:=h.dk p' n5;refine⟨?_,t'⟩;by_cases z:p'=p
  .rw [z];refine⟨bU kvs (Sum.inr wd) (.bl true),by rw [aj Sx.symm];exact s _ _ ae,?_⟩;rw [iJ (by rw [kk];exact λq=>hn (AF.mp (cO.mp q))),kk,BX,ax rfl,bH];rfl
  have n1:p'.1≠p.1:=λq'=>z (by
   have w1:=ig ps h.n1 p' n5;have w2:=ig ps h.n1 p hp;rw [q',w2] at w1;injection w1 with w3;injection w3 with w4;exact Prod.ext q' w4.symm)
  have n2:p'.2≠p.2:=λq'=>by
   obtain⟨i,hi,ei⟩:=qQ.mp n5;obtain⟨j',hj,ej⟩:=qQ.mp hp;have JO:i=j':=by
    refine(vf (xs:=ps.map (·.2)) (h₀:=by simpa using hi) (h₁:=by simpa using hj) h.n2).mp ?_;rw [oT,oT,ei,ej];exact q'
   subst JO;exact z (ei.symm.trans ej)
  refine⟨mI,up _ _ (λz=>by rw [z,hb] at q;cases q) n2 q,?_⟩;rw [r,BX,ay (λq'=>n1 q'.symm),iS]
 .exact h_ (Paired.fc Oy λ_ _ z=>a7 GX (s.tup (ix hk z))) (a7 GX ht)
 obtain⟨e1,te,⟨dx,fs,q1,q2⟩,q3,q4,q5⟩:=h.em;exact⟨e1,te,⟨dx,fs,up _ _ (λz=>by rw [z,hb] at q1;cases q1) (λz=>by rw [z,hk] at q1;cases q1) q1,q2⟩,up _ _ q5 (λz=>by rw [z,hk] at q3;cases q3) q3,q4.keep λ_ _ z=>a7 GX (s.tup (ix hk z)),q5⟩
def Nq (l m:List Be)(n:Str):oo (l++m) n=oo l n++oo m n:=by
 unfold oo;rw [oY,bH]
def IM {names:List Str}(l m:List Be){z x:Str}(h:x∈qk names l z):x∈qk names (l++m) z:=by
 unfold qk at h ⊢
 split
 .rename_i c
  rw [ax c] at h;rw [Nq];exact ib _ h
 rename_i c
 rw [ay c] at h;exact h
def Np (cT:List Be)(n:Str):(oo cT n).length<=cT.length:=by
 unfold oo;rw [au];exact rB _ _
def NV {n i:Nat}(h:i < n):(cnt n)[i]?=some (.int (i:Int)):=by
 unfold cnt;rw [bz,List.getElem?_range h];rfl
def B7 (n:Nat):(cnt n).length=n:=by unfold cnt;rw [au,vj]
def ET (K:ba)(C:Addr):Sp:=λvs H Q _=>∃(H0:Hp)(a e d bg r:Addr)(kE:List (aR×V))(bI:List (Str×Nat))(ps:List (Str×Addr))(cT:List Be) (k:Nat)(ru:ar)(aa:List ar),vs=[.ref a,.int (k:Int),.ref r]/\ub K C H0 H a e d bg kE bI ps cT/\Ci K H0 r ru/\aa[k]?=some ru/\ru.2.length<=8 /\
 ru.1∈ps.map (·.1)/\(∀wX:List Be,xo aa (ps.map (·.1)) (λz=>(bw kE (Sum.inr z)).isSome) wX->wX.length<=900000)/\xo aa (ps.map (·.1)) (λz=>(bw kE (Sum.inr z)).isSome) cT /\
 ∀(wX:List Be)(H':Hp),ub K C H0 H' a e d bg kE bI ps wX->xo aa (ps.map (·.1)) (λz=>(bw kE (Sum.inr z)).isSome) wX->cT.length<=wX.length->(wX.length=cT.length->wX=cT/\∀j z,j < Ds (λz=>(bw kE (Sum.inr z)).isSome) ru.2->ru.2[j]?=some z->∀wd∈qk (ps.map (·.1)) cT z,(ru.1,wd)∈gU cT)->Q .fh H'
def vU:aK ["self","number","rule","own","place","word"] ["self","number","rule"] (av E8):=iN rfl rfl rfl rfl nofun
def Jz {C fW:Addr}{ZO:FuncData}(F:iC K "find_begins" "BeginTable.find_begins" E8 f fd)(T:Txt mg)(B:BC K C)(GP:aC P w K mg base 1 "first_places" ["parts","empty"] (xC K))(FW:bS P w K mg base gp 1 fW ZO ["self","part"] (Bn K C))(MW:Meth K C "words_of_part" fW)(BW:Binds K ZO ["self","part"] []) :
  bS P w K mg base gp 2 f fd ["self","number","rule"] (ET K C):=by
 refine F.ok vU (λvs H Q E h=>?_) (λeY A outer s H vs Q E hr h=>?_)
 .obtain⟨H0,a,e,d,bg,r,kE,bI,ps,cT,k,ru,aa,rfl,_⟩:=h;rfl
 obtain⟨H0,a,e,d,bg,r,kE,bI,ps,cT,k,ru,aa,rfl,S,⟨p,v1,v2⟩,er,h8,hh,hbd,Wh,q⟩:=h;have hu:=gi hr;refine⟨_,ai (az (i:=3) vU.nd rfl (bC rfl) (fu hu (fQ (pv 0) rfl) (aL aZ (pv 2) ao (λ_ _=>rfl)) (λ_ _=>rfl)))
  (ak (bM cq rfl (a8 (bp GP hr rfl (ab (aL aZ (pv 2) ao (λ_ _=>rfl)) (ab (fQ (pv 0) rfl) ag)))) (aq (i:=4) vU.nd rfl (bC rfl))
   (ak (bM cq rfl (a8 (BJ (pv 0) B.cls MW FW hr BW .nil uA (ab (aL aZ (aL aZ (pv 2) ao (λ_ _=>rfl)) (pv 4) (λ_ _=>rfl)) ag))) (aq (i:=5) vU.nd rfl (bC rfl))
    (ak (bJ (eK (eQ hu (pv 5) (pv 3)))
     (ai (iK hu (pv 3) (pv 5) gb rfl)
     (ak (cJ (g_ gG gX gY bV (fQ (pv 0) rfl) (ab (bo (ab (aL aZ (pv 2) ao (λ_ _=>rfl)) (ab (pv 5) (ab (pv 1) (ab (pv 4) ag))))) ag))))) aQ)))))),?_⟩
 nofun
 obtain⟨pn,yk,zf⟩:=cY.mp hh;have vn:=ig ps S.n1 pn yk;rw [zf] at vn;obtain⟨dx,fs,ea,f1,f2,f3,f4,f5⟩:=S.ia;have hg:cu H d (.str ru.1) (some (.ref pn.2)):=by
  have:=cu.k (k:=Sum.inr ru.1) S.hd;rw [vn] at this;exact this
 refine⟨_,rfl,a,C,dx,fs,_,rfl,ea,B.cls,B.a4,f3,_,rfl,r,_,_,_,rfl,rfl,S.sm.tup v1,rfl,d,_,rfl,hg,?_⟩;refine⟨_,rfl,r,_,_,_,rfl,rfl,S.sm.tup v1,rfl,_,rfl,a,C,dx,fs,_,rfl,ea,B.cls,B.a2,f1,p,e,ru.2,kE,rfl,S.sm.tup v2,∅,S.he,λD5 H5 f6 s5 e5=>⟨D5,rfl,⟨_,aH.of e5⟩,?_⟩⟩;obtain⟨ts0,hb0,_⟩:=S.lb;have nDb:D5≠bg:=λz=>by rw [z,hb0] at f6;cases f6
 have fle:=G4 (λz=>(bw kE (Sum.inr z)).isSome) ru.2;generalize hb:(λz=>(bw kE (Sum.inr z)).isSome)=b at *;generalize hn:Ds b ru.2=n at *
 let qw:pL:=λi σ H6=>∃(ff:List Be)(y4 y5:Option V),σ=[aM a,some (.int (k:Int)),aM r,some (.ref pn.2),y4,y5]/\ub K C H0 H6 a e d bg kE bI ps ff/\H6 D5=some (.lst (cnt n))/\xo aa (ps.map (·.1)) b ff/\cT.length<=ff.length /\
  (ff.length=cT.length->ff=cT/\∀j z,j < i->ru.2[j]?=some z->∀wd∈qk (ps.map (·.1)) cT z,(ru.1,wd)∈gU cT)
 refine cK (xs:=cnt n) qw ⟨cT,none,none,rfl,S.same s5,e5,Wh,aF _,λ_=>⟨rfl,λj z hj=>by omega⟩⟩ ?_ ?_ ?_
 .rintro i σ H6 _ ⟨ff,y4,y5,rfl,S2,e6,_⟩;exact aH.of e6
 .intro i x σ H6 ex jX
  ac_nf0
  obtain⟨ff,y4,y5,rfl,S2,e6,Xr,l2,c2⟩:=jX;have li:i < n:=by have:=(bu.mp ex).1;rw [B7] at this;exact this
  rw [NV li] at ex;cases ex;have lz:i < ru.2.length:=by omega
  obtain⟨z,ez⟩:∃z,ru.2[i]?=some z:=⟨ru.2[i],dH lz⟩;have XC:ke (ru.2.map V.str) (i:Int)=some (.str z):=b0 (by rw [bz,ez];rfl);obtain⟨Tn,tY,Ru,g1,g2,g3,g4,g5⟩:=S2.ia;refine goN ?_
  ac_nf
  refine⟨_,rfl,a,Tn,tY,rfl,Ru,g5,_,rfl,r,_,_,_,rfl,rfl,S2.sm.tup v1,rfl,_,rfl,p,_,_,_,rfl,rfl,S2.sm.tup v2,XC,H0,a,e,d,bg,kE,bI,ps,ff,z,rfl,S2,λD6 H7 f7 s7 e7=>⟨D6,rfl,⟨_,aH.of e7⟩,?_⟩⟩;obtain⟨xg,GX,_⟩:=S2.lb;have nD6:D6≠bg:=λz=>by rw [z,GX] at f7;cases f7
  generalize Zk:qk (ps.map (·.1)) ff z=ws at *
  let A3:pL:=λm σ H8=>∃(l:List Be)(y5:Option V),σ=[aM a,some (.int (k:Int)),aM r,some (.ref pn.2),some (.int (i:Int)),y5]/\ub K C H0 H8 a e d bg kE bI ps (ff++l)/\H8 D5=some (.lst (cnt n))/\H8 D6=some (.lst (ws.map V.str))/\xo aa (ps.map (·.1)) b (ff++l) /\
   (l=[]->∀wd∈ws.take m,(ru.1,wd)∈gU ff)
  refine cK (xs:=ws.map V.str) A3 ⟨[],_,rfl,by rw [iS];exact S2.same s7,s7 _ _ e6,e7,by rw [iS];exact Xr,λ_ wd h=>by simp at h⟩ ?_ ?_ ?_
  .rintro m σ H8 _ ⟨l,y5,rfl,S3,e8,e9,_⟩;exact aH.of e9
  .intro m x σ H8 ex jX
   ac_nf0
   obtain⟨l,y5,rfl,S3,e8,e9,RG,c3⟩:=jX;rw [bz] at ex;obtain⟨wd,ew,rfl⟩:=cD.mp ex;obtain⟨⟨kvs,hk,kk⟩,fp,YM,YN⟩:=S3.dk pn yk;obtain⟨Sa,SU,Q5⟩:=S3.lb;have lim:=hbd _ RG;have ltk:kvs.length<=900000:=by
    have h1:=congrArg List.length kk;rw [au,au] at h1;have:=Np (ff++l) pn.1;omega
   have ltt:=aU Q5;have mem:(bw kvs (Sum.inr wd)).isSome=true↔(ru.1,wd)∈gU (ff++l):=by rw [eF,kk,cO,AF,zf]
   refine goN ?_
   ac_nf
   refine⟨_,rfl,_,rfl,pn.2,_,rfl,cu.k (k:=Sum.inr wd) hk,_,rfl,?_⟩;refine cg (λc=>?_) (λc=>?_)
   .have nm:(ru.1,wd)∉gU (ff++l):=λh=>by rw [mem.mpr h] at c;exact absurd c nofun
    refine⟨_,rfl,_,rfl,_,_,rfl,pO.k (k:=Sum.inr wd) hk (bN ∅),?_⟩;obtain⟨dx3,Ir,WZ,k1,k2,k3,k4,k5⟩:=S3.ia;have nap:a≠pn.2:=λz=>by rw [z,hk] at WZ;cases WZ
    have Sx:bg≠pn.2:=λz=>by rw [z,hk] at SU;cases SU
    have NJ:upd H8 pn.2 (.dK (bU kvs (Sum.inr wd) (.bl true))) a=some (.ins C dx3 Ir):=by rw [aj nap];exact WZ
    have ZI:upd H8 pn.2 (.dK (bU kvs (Sum.inr wd) (.bl true))) bg=some (.lst (Sa.map V.ref)):=by rw [aj Sx];exact SU
    refine⟨_,rfl,a,C,dx3,Ir,_,rfl,NJ,B.cls,B.a3,k2,.inl ⟨rfl,_,aH.of ZI⟩,_,rfl,r,_,_,_,rfl,rfl,ix hk (S3.sm.tup v1),rfl,_,rfl,_,rfl,_,rfl,zl4,λt4 C_=>?_⟩;have s4:=af C_ (.tup [.str ru.1,.str wd,.int (k:Int),.int (i:Int)]);have e4:aS K (upd (upd H8 pn.2 (.dK (bU kvs (Sum.inr wd) (.bl true)))) t4 (.tup [.str ru.1,.str wd,.int (k:Int),.int (i:Int)])) t4 [.str ru.1,.str wd,.int (k:Int),.int (i:Int)]:=aS.of ae;generalize upd (upd H8 pn.2 (.dK (bU kvs (Sum.inr wd) (.bl true)))) t4 (.tup [.str ru.1,.str wd,.int (k:Int),.int (i:Int)])=H9 at s4 e4;refine⟨bg,_,_,rfl,rfl,s4 _ _ ZI,bN (by rw [au];omega),?_⟩;have nm':(pn.1,wd)∉gU (ff++l):=by rw [zf];exact nm
    have S4:=S3.more (k:=k) (j:=i) yk hk kk nm' SU Q5 s4 (by rw [zf];exact e4);have KW:∀D ys,H8 D=some (.lst ys)->D≠bg->upd H9 bg (.lst (Sa.map V.ref++[.ref t4])) D=some (.lst ys):=λD ys hD nb=>by
     rw [aj nb];exact s4 _ _ (by rw [aj (λz=>by rw [z,hk] at hD;cases hD)];exact hD)
    rw [lX,zf] at S4;refine⟨l++[(ru.1,wd,k,i)],_,rfl,S4,KW _ _ e8 nDb,KW _ _ e9 nD6,?_,λh=>by simp at h⟩;rw [<-lX];refine .snoc RG er ez (by rw [hn];exact li) (IM ff l (by rw [Zk];exact b_ ew)) nm
   refine⟨l,_,rfl,S3,e8,e9,RG,λhl x hx=>?_⟩;rw [cQ,ew] at hx;rcases bR.mp hx with h | h
   .exact c3 hl x h
   rw [Option.toList_some,bF] at h;subst h;have hm:(ru.1,x)∈gU (ff++l):=mem.mp (by
    cases hq:(bw kvs (Sum.inr x)).isSome with
    | true=>rfl
    | false=>exact absurd (by rw [hq];rfl) c)
   rw [hl,iS] at hm;exact hm
  rintro σ H8 ⟨l,y5,rfl,S3,e8,e9,RG,c3⟩;rw [au,cH] at c3;refine⟨ff++l,_,_,rfl,S3,e8,RG,by rw [a9];omega,λQT=>?_⟩;rw [a9] at QT;have SN:l=[]:=zk.mp ∅;obtain⟨Nh,pD⟩:=c2 ∅;rw [SN,iS];refine⟨Nh,λj z' hj WI wd Zm=>?_⟩;by_cases cj:j < i
  .exact pD j z' cj WI wd Zm
  have:j=i:=by omega
  subst this;rw [ez] at WI;cases WI;have:=c3 SN wd (by rw [<-Zk,Nh];exact Zm);rw [Nh] at this;exact this
 rintro σ H6 ⟨ff,y4,y5,rfl,S2,e6,Xr,l2,c2⟩;rw [B7] at c2;exact q ff H6 S2 Xr l2 c2
end
end hV
namespace L2
open PySem M11
def yC {K:ba}{H:Hp}{p D:Addr}{zs:List Str}{σ:St}{x:Str}{Qp:Hp->Prop}(hp:aH K H p (zs.map V.str))(hz:zs.length<=10000)(hD:H D=none)
  (q:∀ts (ps:List (Str×Addr)) H2,aA H H2->H2 D=some (.lst (ts.map V.ref))->ps.map (·.1)=zs->Paired (λt (p:Str×Addr)=>aS K H2 t [.str p.1,.ref p.2]) ts ps->(∀p∈ps,H2 p.2=some (.dK [])/\H p.2=none/\p.2≠D)->(ps.map (·.2)).Nodup->Qp H2) :
  ∃W:Nat->Nat->List V->St->Hp->Prop,(∃m,W 0 m [] (eV [x] [] σ) (upd H D (.lst []))) /\
 ∀i m ys σ' H,W i m ys σ' H->((ki K p).stop i H/\Qp H)\/((ki K p).go i H/\∃m',m' < m/\∀x H',(ki K p).mQ i H x H'->dP 0 x σ' H' λσ2 H2=>iw σ2 H2 λb H3 =>
  if b=true then tS (gZ (gT 0) (gZ (EA) rE)) σ2 H3 λy H4=>H4 D=some (.lst ys)/\ys.length < sizeLine/\W (i+1) m' (ys++[y]) σ2 (upd H4 D (.lst (ys++[y]))) else W (i+1) m' ys σ2 H3):=by
 refine cN (xs:=zs.map V.str) (λi ys σ2 H2=>∃(ts:List Addr)(ps:List (Str×Addr)),ys=ts.map V.ref/\ts.length=i/\ps.map (·.1)=zs.take i/\Paired (λt (p:Str×Addr)=>aS K H2 t [.str p.1,.ref p.2]) ts ps /\
   (∀p∈ps,H2 p.2=some (.dK [])/\H p.2=none/\p.2≠D)/\(ps.map (·.2)).Nodup/\(∃y0,σ2=[y0])/\aA H H2/\H2 D=some (.lst ys))
  ⟨[],[],rfl,rfl,rfl,.nil,by simp,by simp,⟨none,rfl⟩,af hD _,ae⟩ (λi ys σ2 H2 _ h=>?_) (λi x ys σ2 H2 ex h=>?_) (λys σ2 H2 h=>?_)
 .obtain⟨_,_,_,_,_,_,_,_,_,sm,_⟩:=h;exact sm.seq hp
 .obtain⟨ts,ps,rfl,ht,hm,qo,hl,hn,⟨y0,rfl⟩,sm,hd⟩:=h;rw [bz] at ex;obtain⟨z,ez,rfl⟩:=cD.mp ex;have li:=(bu.mp ez).1;refine goN (yo ?_);refine⟨_,rfl,λl tX=>⟨iQ,λt jm=>?_⟩⟩;have ME:l≠D:=(aw hd tX).symm;have nt:t≠l:=λe=>by rw [e,ae] at jm;cases jm
  have QG:H2 t=none:=by rw [aj nt] at jm;exact jm
  have ntD:t≠D:=(aw hd QG).symm;have vR:aA H2 (upd (upd H2 l (.dK [])) t (.tup [.str z,.ref l])):=(af tX _).trans (af jm _);have jj:=vR _ _ hd;have el:upd (upd H2 l (.dK [])) t (.tup [.str z,.ref l]) l=some (.dK []):=by rw [aj nt.symm,ae]
  have et:aS K (upd (upd H2 l (.dK [])) t (.tup [.str z,.ref l])) t [.str z,.ref l]:=aS.of ae;generalize upd (upd H2 l (.dK [])) t (.tup [.str z,.ref l])=H4 at vR jj el et;refine⟨jj,bN (by rw [au];omega),ts++[t],ps++[(z,l)],by rw [bH];rfl,by rw [a9,ht];rfl,by rw [bH,hm,cQ,ez];rfl,?_,?_,?_,⟨_,rfl⟩,?_,ae⟩
  .exact h_ (Paired.fc qo λt' h' z=>a7 jj (vR.tup z)) (a7 jj et)
  .intro p' n5;rcases bR.mp n5 with h | h
   .obtain⟨a1,a2,a3⟩:=hl p' h;exact⟨by rw [aj a3];exact vR _ _ a1,a2,a3⟩
   rw [bF.mp h];exact⟨by rw [aj ME];exact el,sm.free tX,ME⟩
  .rw [bH];refine j7.mpr ⟨hn,by simp,λa ha b hb e=>?_⟩;rw [uc,bF] at hb;obtain⟨p',n5,rfl⟩:=cY.mp ha;have:=(hl p' n5).1;rw [e,hb] at this;rw [show H2 l=none from tX] at this;cases this
  intro b o hb;rw [aj (λz=>by rw [z,hD] at hb;cases hb)];exact vR _ _ (sm b o hb)
 obtain⟨ts,ps,rfl,ht,hm,qo,hl,hn,_,sm,hd⟩:=h;rw [au,cH] at hm;exact q ts ps H2 sm hd hm qo hl hn
def iz {K:ba}{H:Hp}{D a C dx:Addr}{xs:List V}{fs:List (Str×V)}{o:HO}(hD:H D=some (.ins C dx fs))(h:aS K H a xs):aS K (upd H D o) a xs:=by
 rcases h with (h | ⟨u,h⟩) | h
 .exact .inl (.inl (by rw [aj (λz=>by rw [z,hD] at h;cases h)];exact h))
 .exact .inl (.inr ⟨u,by rw [aj (λz=>by rw [z,hD] at h;cases h)];exact h⟩)
 exact .inr h
def yB {K:ba}{H:Hp}{R D:Addr}{rs:List Addr}{es:List (Str×Nat)}{σ:St}{x1 x2:Str}{Qp:Hp->Prop}(hR:aH K H R (rs.map V.ref))(cA:Paired (λt (e:Str×Nat)=>aS K H t [.str e.1,.int (e.2:Int)]) rs es)(bE:es.length<=1000)(hD:H D=none)
  (q:∀ts H2,aA H H2->H2 D=some (.lst (ts.map V.ref))->Paired (λt h=>aS K H2 t [.str h,.bl true]) ts (es.map (·.1))->Qp H2) :
  ∃W:Nat->Nat->List V->St->Hp->Prop,(∃m,W 0 m [] (eV [x1,x2] [] σ) (upd H D (.lst []))) /\
 ∀i m ys σ' H,W i m ys σ' H->((ki K R).stop i H/\Qp H)\/((ki K R).go i H/\∃m',m' < m/\∀x H',(ki K R).mQ i H x H'->AE K 2 (jC (dP 0) (jC (dP 1) Dn)) x σ' H' λσ2 H2=>iw σ2 H2 λb H3 =>
  if b=true then tS (gZ (gT 0) (gZ (tC (.bl true)) rE)) σ2 H3 λy H4=>H4 D=some (.lst ys)/\ys.length < sizeLine/\W (i+1) m' (ys++[y]) σ2 (upd H4 D (.lst (ys++[y]))) else W (i+1) m' ys σ2 H3):=by
 have ll:=aU cA;refine cN (xs:=rs.map V.ref) (λi ys σ2 H2=>∃ts:List Addr,ys=ts.map V.ref/\ts.length=i/\Paired (λt h=>aS K H2 t [.str h,.bl true]) ts ((es.take i).map (·.1))/\(∃y0 y1,σ2=[y0,y1])/\aA H H2/\H2 D=some (.lst ys))
  ⟨[],rfl,rfl,.nil,⟨none,none,rfl⟩,af hD _,ae⟩ (λi ys σ2 H2 _ h=>?_) (λi x ys σ2 H2 ex h=>?_) (λys σ2 H2 h=>?_)
 .obtain⟨_,_,_,_,_,sm,_⟩:=h;exact sm.seq hR
 .obtain⟨ts,rfl,ht,hp,⟨y0,y1,rfl⟩,sm,hd⟩:=h;rw [bz] at ex;obtain⟨r,er,rfl⟩:=cD.mp ex;have lr:=(bu.mp er).1;obtain⟨ru,e1⟩:∃ru,es[i]?=some ru:=⟨es[i]'∅,dH ∅⟩;obtain⟨r',Rl,v1⟩:=Paired.at_ cA i ru e1;rw [er] at Rl;cases Rl;have li:=(bu.mp e1).1;refine⟨r,_,rfl,sm.tup v1,rfl,_,_,rfl,_,_,rfl,rfl,?_⟩;refine yo ?_;refine⟨_,rfl,iQ,λt jm=>⟨?_,bN (by rw [au];omega),ts++[t],?_,?_,?_,⟨_,_,rfl⟩,?_,ae⟩⟩
  .rw [aj (aw hd jm)];exact hd
  .rw [bH];rfl
  .rw [a9,ht];rfl
  .rw [cQ,e1,bH];have jj:upd H2 t (.tup [.str ru.1,.bl true]) D=some (.lst (ts.map V.ref)):=by rw [aj (aw hd jm)];exact hd
   exact h_ (Paired.fc hp λt' h' z=>a7 jj ((af jm _).tup z)) (a7 jj (aS.of ae))
  intro b o hb;rw [aj (λz=>by rw [z,hD] at hb;cases hb)];exact af jm _ _ _ (sm b o hb)
 obtain⟨ts,rfl,ht,hp,_,sm,hd⟩:=h;rw [au,ll,cH] at hp;exact q ts H2 sm hd hp
end L2
namespace M11
open PySem L2
def xo.sub {aa:List ar}{names:List Str}{b:Str->Bool}{cT:List Be}(h:xo aa names b cT):∀q∈gU cT,q.1∈aa.map (·.1)/\q.2∈aa.flatMap (·.2):=by
 induction h with
 | nil=>intro q hq;cases hq
 | @snoc cT k j ru z wd hb er ez _ hw _ ih =>
  intro q hq;unfold gU at hq;rw [bH] at hq;rcases bR.mp hq with hq | hq
  .exact ih q hq
  rw [uc,bF] at hq;rw [hq];have hm:=b_ er;refine⟨j8 hm,?_⟩;unfold qk at hw
  split at hw
  .exact(ih (z,wd) (AF.mp hw)).2
  rw [bF.mp hw];exact q8.mpr ⟨ru,hm,b_ ez⟩
def xo.nd {aa:List ar}{names:List Str}{b:Str->Bool}{cT:List Be}(h:xo aa names b cT):(gU cT).Nodup:=by
 induction h with
 | nil=>exact ku
 | @snoc cT k j ru z wd hb er ez _ hw hn ih =>
  unfold gU;rw [bH];refine j7.mpr ⟨ih,by simp,λx hx y hy e=>?_⟩;rw [uc,bF] at hy;rw [e,hy] at hx;exact hn hx
theorem xQ (m:List Str):∀l:List Str,(l.flatMap λn=>m.map λwd=>(n,wd)).length=l.length * m.length
 | []=>by simp
 | n::l=>by
  rw [mV,a9,xQ m l,au,dZ,Nat.add_mul];omega
def xo.len {aa:List ar}{names:List Str}{b:Str->Bool}{cT:List Be}(h:xo aa names b cT)(hl:aa.length<=100)(h8:∀ru∈aa,ru.2.length<=8):cT.length<=80000:=by
 have h1:=gP (gU cT) ((aa.map (·.1)).flatMap λn=>(aa.flatMap (·.2)).map λwd=>(n,wd)) h.nd λq hq=>by
  obtain⟨a,c⟩:=h.sub q hq;exact q8.mpr ⟨q.1,a,cY.mpr ⟨q.2,c,rfl⟩⟩
 rw [xQ] at h1;have h2:=hV.jD aa 100 hl h8;unfold gU at h1;rw [au,au] at h1;have h3:aa.length * (aa.flatMap (·.2)).length<=100 * 800:=Nat.mul_le_mul hl h2;omega
def Kk (aa:List ar) (names:List Str)(b:Str->Bool) (n:Nat)(cT:List Be):Prop:=∀k ru,k < n->aa[k]?=some ru->∀j z,j < Ds b ru.2->ru.2[j]?=some z->∀wd∈qk names cT z,(ru.1,wd)∈gU cT
end M11
namespace hV
open PySem L2 M11
section
def Bv (K:ba)(C:Addr):Sp:=λvs H Q _=>∃(H0:Hp)(a dx R:Addr)(rs:List Addr)(aa:List ar),vs=[.ref a,.ref R]/\aA H0 H/\H0 a=none/\H a=some (.ins C dx [])/\aH K H0 R (rs.map V.ref)/\bL K H0 rs aa/\aa.length<=100/\(∀ru∈aa,ru.2.length<=8) /\
 ∀(e d bg:Addr)(kE:List (aR×V))(bI:List (Str×Nat))(ps:List (Str×Addr))(cT:List Be)(H':Hp),ub K C H0 H' a e d bg kE bI ps cT->ps.map (·.1)=hd aa->xc aa bI->yQ aa aa.length bI->(∀z,(bw kE (Sum.inr z)).isSome=decide (z∈bI.map (·.1))) ->
  xo aa (hd aa) (λz=>decide (z∈bI.map (·.1))) cT->Kk aa (hd aa) (λz=>decide (z∈bI.map (·.1))) aa.length cT->Q .fh H'
def nK:aK ["self","rules","number","many","rule"] ["self","rules"] (av zT):=iN rfl rfl rfl rfl nofun
def FZ {C fF:Addr}{ZR:FuncData}(F:iC K "__init__" "BeginTable.__init__" zT f fd)(T:Txt mg)(B:BC K C)(GE:aC P w K mg base 1 "found_empties" ["rules"] (o7 K))(GH:aC P w K mg base 1 "heads_of" ["rules"] (jQ K))
  (FF:bS P w K mg base gp 2 fF ZR ["self","number","rule"] (ET K C))(MF:Meth K C "find_begins" fF)(BF:Binds K ZR ["self","number","rule"] []):bS P w K mg base gp 3 f fd ["self","rules"] (Bv K C):=by
 refine F.ok nK (λvs H Q E h=>?_) (λeY A outer s H vs Q E hr h=>?_)
 .obtain⟨H0,a,dx,R,rs,aa,rfl,_⟩:=h;rfl
 obtain⟨H0,a,dx,R,rs,aa,rfl,s0,f0,ea,hR,cA,bE,h8,q⟩:=h;refine⟨_,ai (g7 (pv 0) (bp (GE.mono (by decide:1<=2)) hr rfl (ab (pv 1) ag)) rfl)
  (ai (g7 (pv 0) (bc (dW rfl) rfl T.AR gk (ab (bD ["name","number"] [] rfl (a8 (fQ (pv 0) rfl)) (br rfl rfl) nofun rfl nofun
   (λ_ _ _ _ _=>fS (n:=2) K rfl (aB (aq (i:=0) (show (["name","number"]:List Str).Nodup by decide +kernel) rfl (bC rfl)) (aB (aq (i:=1) (show (["name","number"]:List Str).Nodup by decide +kernel) rfl (bC rfl)) cf))) (λ_ _ _ _ _=>b9)
   (λ_ _ _ _ _=>bo (ab (pv 0) (ab gb ag)))) ag)) rfl)
  (ai (g7 (pv 0) (a_ ag) rfl)
  (ai (g7 (pv 0) (bc (dW rfl) rfl T.AR gk (ab (bD ["name"] [] rfl (a8 (bp (GH.mono (by decide:1<=2)) hr rfl (ab (pv 1) ag))) (br rfl rfl) nofun rfl nofun
   (λ_ _ _ _ _=>aq (i:=0) (show (["name"]:List Str).Nodup by decide +kernel) rfl (bC rfl)) (λ_ _ _ _ _=>b9)
   (λ_ _ _ _ _=>bo (ab (pv 0) (ab g9 ag)))) ag)) rfl)
  (ai (az (i:=3) nK.nd rfl (bC rfl) (ka iE ao))
  (ak (kT cq (aX nV (pv 3) (aD aG rfl T.len cZ (ab (fQ (pv 0) rfl) ag)) (bK _))
   (ai (az (i:=3) nK.nd rfl (bC rfl) (aD aG rfl T.len cZ (ab (fQ (pv 0) rfl) ag)))
   (ak (bM cq rfl (nU rfl T.JW (ab (pv 1) ag)) (g8 rfl (aB (aq (i:=2) nK.nd rfl (bC rfl)) (aB (aq (i:=4) nK.nd rfl (bC rfl)) cf)))
    (ak (cJ (BJ (pv 0) B.cls MF FF hr BF .nil uA (ab (pv 2) (ab (pv 4) ag)))))))))))))),?_⟩
 nofun
 have ll:=aU cA;refine⟨_,rfl,R,rs,aa,rfl,s0.seq hR,cA.same s0,∅,h8,λD1 Ct bI H1 f1 s1 e1 w1 emp DA=>?_⟩;have W3:=s1 _ _ ea;refine⟨_,rfl,a,C,dx,[],rfl,W3,B.cls,B.a1,(by show 0 < 1000;decide),?_⟩;have e2:upd H1 a (.ins C dx (eI "empties" (.ref D1) [])) D1=some (.lst (Ct.map V.ref)):=by rw [aj (λz=>by rw [z,W3] at e1;cases e1)];exact e1
 have w2:pM K (upd H1 a (.ins C dx (eI "empties" (.ref D1) []))) Ct bI:=w1.keep λ_ _ z=>iz W3 z;have Fb:aA H0 (upd H1 a (.ins C dx (eI "empties" (.ref D1) []))):=λc o hc=>by rw [aj (λz=>by rw [z,f0] at hc;cases hc)];exact s1 _ _ (s0 c o hc)
 have Ru:upd H1 a (.ins C dx (eI "empties" (.ref D1) [])) a=some (.ins C dx (eI "empties" (.ref D1) [])):=ae;generalize upd H1 a (.ins C dx (eI "empties" (.ref D1) []))=H2 at e2 w2 Fb Ru;have lets:=emp.len;refine⟨_,rfl,a,C,dx,_,_,rfl,Ru,B.cls,B.a1,rfl,D1,rfl,⟨_,aH.of e2⟩,λD2 jc=>yB (aH.of e2) w2 ∅ jc λxg H3 s3 e3 p3=>?_⟩;have kp:Paired (λt (kv:aR×V)=>aS K H3 t [kV kv.1,kv.2]) xg ((bI.map (·.1)).map λh=>((Sum.inr h:aR),V.bl true)):=cy p3 λ_ _ z=>z;refine⟨D2,xg,_,rfl,e3,kp,λe he=>?_⟩;have CY:∀z,(bw (di ((bI.map (·.1)).map λh=>((Sum.inr h:aR),V.bl true)) []) (Sum.inr z)).isSome=decide (z∈bI.map (·.1)):=λz=>by
  rw [ng];by_cases c:z∈bI.map (·.1)
  .rw [ax c,bh c];rfl
  rw [ay c,b8 c];rfl
 generalize di ((bI.map (·.1)).map λh=>((Sum.inr h:aR),V.bl true)) []=kE at CY;have xN:=(Fb.trans s3).trans (af he (.dK kE));have NJ:=af he (.dK kE) _ _ (s3 _ _ Ru);have Tf:upd H3 e (.dK kE) e=some (.dK kE):=ae;have Je:aA H2 (upd H3 e (.dK kE)):=s3.trans (af he (.dK kE));generalize upd H3 e (.dK kE)=H4 at xN NJ Tf Je;have Xk:=Je _ _ e2;have wE4:pM K H4 Ct bI:=w2.keep λ_ _ z=>Je.tup z;refine⟨_,rfl,a,C,dx,_,rfl,NJ,B.cls,B.a2,(by show 1 < 1000;decide),?_⟩;generalize V_:eI "empty" (.ref e) (eI "empties" (.ref D1) [])=La;have Rr:upd H4 a (.ins C dx La) e=some (.dK kE):=by rw [aj (λz=>by rw [z,NJ] at Tf;cases Tf)];exact Tf
 have xM:aA H0 (upd H4 a (.ins C dx La)):=λc o hc=>by rw [aj (λz=>by rw [z,f0] at hc;cases hc)];exact xN c o hc
 have ea5:upd H4 a (.ins C dx La) a=some (.ins C dx La):=ae;have Xj:upd H4 a (.ins C dx La) D1=some (.lst (Ct.map V.ref)):=by rw [aj (λz=>by rw [z,NJ] at Xk;cases Xk)];exact Xk
 have Yh:pM K (upd H4 a (.ins C dx La)) Ct bI:=wE4.keep λ_ _ z=>iz NJ z;generalize upd H4 a (.ins C dx La)=H5 at Rr xM ea5 Xj Yh;refine⟨rC,λbg Nf=>?_⟩;have fbg:H0 bg=none:=xM.free Nf;have Tg:upd H5 bg (.lst []) bg=some (.lst []):=ae;have E_:=xM.trans (af Nf (.lst []));have NF:=af Nf (.lst []) _ _ Rr;have Iv:=af Nf (.lst []) _ _ ea5;have U8:D1≠bg:=aw Xj Nf;have To:=af Nf (.lst []) _ _ Xj;have Yg:pM K (upd H5 bg (.lst [])) Ct bI:=Yh.keep λ_ _ z=>(af Nf (.lst [])).tup z;generalize upd H5 bg (.lst [])=H6 at Tg E_ NF Iv To Yg;refine⟨_,rfl,a,C,dx,_,rfl,Iv,B.cls,B.a3,(by rw [<-V_];show 2 < 1000;decide),?_⟩;generalize ZC:eI "begins" (.ref bg) La=JU;have ND:upd H6 a (.ins C dx JU) e=some (.dK kE):=by rw [aj (λz=>by rw [z,Iv] at NF;cases NF)];exact NF
 have eb7:upd H6 a (.ins C dx JU) bg=some (.lst []):=by rw [aj (λz=>by rw [z,Iv] at Tg;cases Tg)];exact Tg
 have Ic:aA H0 (upd H6 a (.ins C dx JU)):=λc o hc=>by rw [aj (λz=>by rw [z,f0] at hc;cases hc)];exact E_ c o hc
 have ea7:upd H6 a (.ins C dx JU) a=some (.ins C dx JU):=ae;have dE7:upd H6 a (.ins C dx JU) D1=some (.lst (Ct.map V.ref)):=by rw [aj (λz=>by rw [z,Iv] at To;cases To)];exact To
 have Ye:pM K (upd H6 a (.ins C dx JU)) Ct bI:=Yg.keep λ_ _ z=>iz Iv z;generalize upd H6 a (.ins C dx JU)=H7 at ND eb7 Ic ea7 dE7 Ye;refine⟨_,rfl,R,rs,aa,rfl,Ic.seq hR,cA.same Ic,∅,λD4 H8 f8 s8 e8=>?_⟩;have JG:=iP (aa.map (·.1)) [];simp only [jq,au] at JG;refine⟨D4,rfl,⟨_,aH.of e8⟩,λD5 OB=>yC (aH.of e8) ∅ OB λts ps H9 s9 e9 m9 p9 l9 n9=>?_⟩;have n1:(ps.map (·.1)).Nodup:=by rw [m9];exact pI _ ku
 have Gg:Paired (λt (kv:aR×V)=>aS K H9 t [kV kv.1,kv.2]) ts (ps.map jK):=cy p9 λ_ _ z=>z;refine⟨D5,ts,_,rfl,e9,Gg,λd tQ=>?_⟩;have Rn:di (ps.map jK) []=ps.map jK:=ot _ [] (by
  rw [pQ,nW];exact wu n1)
 rw [Rn];have Of:=s8.trans s9;have sd:=af tQ (.dK (ps.map jK));have zU:=Of.trans sd;have qt:upd H9 d (.dK (ps.map jK)) d=some (.dK (ps.map jK)):=ae;have MI:∀p∈ps,upd H9 d (.dK (ps.map jK)) p.2=some (.dK [])/\p.2≠d:=λp hp=>⟨sd _ _ (l9 p hp).1,λz=>by have:=(l9 p hp).1;rw [z,tQ] at this;cases this⟩;generalize upd H9 d (.dK (ps.map jK))=A5 at zU qt MI;have AO:=zU _ _ ea7;have wR:=zU _ _ ND;have NI:=zU _ _ eb7;have UC:=Ic.trans zU;have NS:=zU _ _ dE7;have TV:pM K A5 Ct bI:=Ye.keep λ_ _ z=>zU.tup z;refine⟨_,rfl,a,C,dx,_,rfl,AO,B.cls,B.a4,(by rw [<-ZC,<-V_];show 3 < 1000;decide),?_⟩;have fp:∀p∈ps,H0 p.2=none/\p.2≠e:=λp hp=>by
  have ZL:H8 p.2=none:=(l9 p hp).2.1;refine⟨(Ic.trans s8).free ZL,λz=>?_⟩;have:=s8 _ _ ND;rw [<-z,ZL] at this;cases this
 have hfs:∃fs,eI "firsts" (.ref d) JU=fs/\fs.lookup ("empty":Str)=some (.ref e)/\fs.lookup ("begins":Str)=some (.ref bg)/\fs.lookup ("firsts":Str)=some (.ref d)/\fs.lookup ("find_begins":Str)=none/\fs.lookup ("words_of_part":Str)=none/\fs.lookup ("empties":Str)=some (.ref D1):=by
  refine⟨_,rfl,?_⟩;rw [<-ZC,<-V_];refine⟨?_,?_,?_,?_,?_,?_⟩ <;> rfl
 obtain⟨fs,efs,k1,k2,k3,k4,k5,k6⟩:=hfs;rw [efs];have Es:ub K C H0 (upd A5 a (.ins C dx fs)) a e d bg kE bI ps []:=by
  refine⟨λc o hc=>by rw [aj (λz=>by rw [z,f0] at hc;cases hc)];exact UC c o hc,⟨dx,fs,ae,k1,k2,k3,k4,k5⟩,?_,?_,n1,n9,λp hp=>⟨⟨[],?_,rfl⟩,(fp p hp).1,(fp p hp).2,(MI p hp).2⟩,⟨[],?_,.nil⟩,fbg,⟨D1,Ct,⟨dx,fs,ae,k6⟩,by rw [aj (λz=>by rw [z,AO] at NS;cases NS)];exact NS,TV.keep λ_ _ z=>iz AO z,U8⟩⟩
  .rw [aj (λz=>by rw [z,AO] at wR;cases wR)];exact wR
  .rw [aj (λz=>by rw [z,AO] at qt;cases qt)];exact qt
  .have:=(MI p hp).1;rw [aj (λz=>by rw [z,AO] at this;cases this)];exact this
  rw [aj (λz=>by rw [z,AO] at NI;cases NI)];exact NI
 generalize upd A5 a (.ins C dx fs)=Ea at Es;have eb:(λz=>(bw kE (Sum.inr z)).isSome)=λz=>decide (z∈bI.map (·.1)):=funext CY;refine⟨1,rfl,?_⟩;refine⟨λmm σ yN=>∃(cT:List Be) (many:Int)(y2 y4:Option V),σ=[aM a,aM R,y2,some (.int many),y4]/\ub K C H0 yN a e d bg kE bI ps cT/\xo aa (hd aa) (λz=>decide (z∈bI.map (·.1))) cT/\-1<=many/\many<=cT.length /\
  (many=cT.length->Kk aa (hd aa) (λz=>decide (z∈bI.map (·.1))) aa.length cT)/\(mm:Int)=80001 - many,⟨80002,[],-1,none,none,rfl,Es,.nil,∅,by simp,by simp,∅⟩,?_⟩
 rintro mm σ yN ⟨cT,many,y2,y4,rfl,IE,NZ,b1,b2,cl,em⟩;obtain⟨Tn,tY,q1,q2,q3,q4,q5,q6⟩:=IE.ia;obtain⟨tb,Oz,GX⟩:=IE.lb;have lb:=aU GX;have MM:=NZ.len bE h8;refine⟨_,rfl,_,rfl,a,C,Tn,tY,_,rfl,q1,B.cls,B.a3,q3,bg,_,rfl,.inl (aH.of Oz),_,_,rfl,rfl,_,rfl,?_⟩;refine cg (λc=>?_) (λc=>?_)
 .have c':=c_ c;rw [au,lb] at c';refine⟨λσ Cj=>∃(ff:List Be)(y2 y4:Option V),σ=[aM a,aM R,y2,some (.int (cT.length:Int)),y4]/\ub K C H0 Cj a e d bg kE bI ps ff/\xo aa (hd aa) (λz=>decide (z∈bI.map (·.1))) ff/\cT.length<=ff.length /\
   (ff.length=cT.length->ff=cT/\Kk aa (hd aa) (λz=>decide (z∈bI.map (·.1))) aa.length cT),?_,?_⟩
  .rintro σ Cj ⟨ff,y2,y4,rfl,HN,DV,SA,Hv⟩;have:=DV.len bE h8;refine⟨(80001 - cT.length:Int).toNat,∅,ff,_,_,_,rfl,HN,DV,∅,∅,λz=>?_,∅⟩;obtain⟨JY,DF⟩:=Hv ∅;rw [JY];exact DF
  refine⟨_,rfl,a,C,Tn,tY,_,rfl,q1,B.cls,B.a3,q3,bg,_,rfl,.inl (aH.of Oz),?_⟩;rw [au,lb];refine⟨_,rfl,R,_,rfl,IE.sm.seq hR,?_⟩;refine k_ (xs:=rs.map V.ref) (λi σ Cj=>∃(ff:List Be)(y2 y4:Option V),σ=[aM a,aM R,y2,some (.int (cT.length:Int)),y4]/\ub K C H0 Cj a e d bg kE bI ps ff/\xo aa (hd aa) (λz=>decide (z∈bI.map (·.1))) ff/\cT.length<=ff.length /\
   (ff.length=cT.length->ff=cT/\Kk aa (hd aa) (λz=>decide (z∈bI.map (·.1))) i cT)) ⟨cT,_,_,rfl,IE,NZ,aF _,λ_=>⟨rfl,λk ru hk=>by omega⟩⟩ ?_ ?_ ?_
  .rintro i σ Cj _ ⟨ff,y2,y4,rfl,HN,_⟩;exact HN.sm.seq hR
  .rintro i x σ Cj t ex ⟨ff,y2,y4,rfl,HN,DV,SA,Hv⟩ ht
   ac_nf0
   rw [bz] at ex;obtain⟨r,er,rfl⟩:=cD.mp ex;obtain⟨ru,sS,rv⟩:=cA.get er;have lQ:=b_ sS;have RO:=HN.same (af ht (.tup [.int (i:Int),.ref r]));have QC:aS K (upd Cj t (.tup [.int (i:Int),.ref r])) t [.int (i:Int),.ref r]:=aS.of ae;generalize upd Cj t (.tup [.int (i:Int),.ref r])=H14 at RO QC;obtain⟨dx4,OE,r1,r2,r3,r4,r5,r6⟩:=RO.ia;refine⟨t,_,rfl,QC,rfl,_,_,rfl,_,_,rfl,rfl,?_⟩;refine⟨_,rfl,a,dx4,OE,rfl,r1,r5,_,rfl,_,rfl,H0,a,e,d,bg,r,kE,bI,ps,ff,i,ru,aa,rfl,RO,rv,sS,h8 ru lQ,by rw [m9];exact(ir _ _ _).mpr (.inr (j8 lQ)),?_,?_,?_⟩
   .intro wX Ip;have:=Ip.len bE h8;omega
   .rw [m9,eb];exact DV
   rw [m9,eb];intro Xu H15 XY Xs l15 Xp;refine⟨Xu,_,_,rfl,XY,Xs,∅,λhl3=>?_⟩;obtain⟨x1,x2⟩:=Hv ∅;obtain⟨x3,x4⟩:=Xp ∅;refine⟨x3.trans x1,λk CA hk WM j z hj ez wd hw=>?_⟩;by_cases ck:k < i
   .exact x2 k CA ck WM j z hj ez wd hw
   have:k=i:=by omega
   subst this;rw [sS] at WM;cases WM;rw [<-x1] at hw ⊢;exact x4 j z hj ez wd hw
  rintro σ Cj ⟨ff,y2,y4,rfl,HN,DV,SA,Hv⟩;rw [au,ll] at Hv;exact⟨ff,_,_,rfl,HN,DV,SA,Hv⟩
 have c':=of_decide_eq_false (rf.mpr c);rw [au,lb] at c';exact q e d bg kE bI ps cT yN IE m9 emp DA CY NZ (cl ∅)
end
end hV
namespace L2
open PySem PySem.W
section
variable {X:Cx}{ah:List (Addr×Obj)}{σ:St}{H:Hp}{s:Shared}{a:Addr}{kvs:List (aR×V)}{k:aR}{u:Value}{A:Around}{E:Value->Shared->Prop}
def NQ {z:V}{r:Value}{Q:Value->Shared->Prop}(I:Inv X ah σ H s)(e:H a=some (.dK kvs))(hl:kvs.length < sizeLine)(ry:RelV (kV k) u)(rz:RelV z r)
  (h1:∀v w' s',bw kvs k=some v->Inv X ah σ H s'->RelV v w'->Q w' s')(h2:bw kvs k=none->∀s',Inv X ah σ (upd H a (.dK (bU kvs k z))) s'->Q r s') :
  wpAny (model X.prog X.w) A (call (.builtin "dict.setdefault") [.ref a,u,r]) Q E s:=by
 obtain⟨zl,hd,vs,rel,dd⟩:=yu I.cx e;refine call_meetsIn PySem.F.slot_dict_setdefault dd.typeIs PySem.F.entry_dict_setdefault (PySem.F.args_dict_setdefault_3 _ _ _) (kt_meets_setdefault (bA X.prog X.w) a (l8 ry) hd r)
  ⟨vs,dd,by rw [<-rel.length];exact zl,λv hv=>?_,λhn h' Iz hs=>?_⟩
 .have rv:=rel.val k;rw [hv] at rv;cases e2:bw kvs k with
  | none=>rw [e2] at rv;cases rv
  | some x=>rw [e2] at rv;exact h1 x v _ e2 (I.tok _) rv
 have Gz:bw kvs k=none:=by
  have rv:=rel.val k;rw [hn] at rv;cases e2:bw kvs k with
  | none=>rfl
  | some x=>rw [e2] at rv;cases rv
 have he:∃q,h'.get? a=some q:=let ⟨q,_,_,hq,_⟩:=Iz;⟨q,hq⟩;exact h2 Gz _ (qL I (by rw [e];exact True.intro) hs he (sX (by have:=gh kvs k z;omega) hd (rel.put k rz) Iz))
end
section
variable {X:Cx}{o e f:Expr}{apos hX:Pos}{td ty tx:TE}
def LO (td ty tx:TE):TE:=λσ H Q=>td σ H λx H1=>∃a,x=.ref a/\Tx H1 a/\ty σ H1 λy H2=>tx σ H2 λz H3=>∃kvs k,H3 a=some (.dK kvs)/\y=kV k/\kvs.length < sizeLine /\
 (∀v,bw kvs k=some v->Q v H3)/\(bw kvs k=none->Q z (upd H3 a (.dK (bU kvs k z))))
def Fv (ho:PE X o td)(he:PE X e ty)(hf:PE X f tx)(m:M2 X o "setdefault" apos e f hX):PE X (.Call (.Attribute o "setdefault" apos) [e,f] [] hX) (LO td ty tx):=by
 intro ah s σ H Q I h;refine wpAny_Call_method m.base m.xl m.line zp PySem.F.slot_dict_setdefault PySem.F.type_dict_setdefault (cR (ho ah s σ H _ I h) λu s1 bG=>?_);obtain⟨x,H1,I1,rx,a,ex,d,q1⟩:=bG;subst ex;obtain rfl:u=Value.ref a:=rx;obtain⟨t1,t2,_⟩:=Av I1 d;refine⟨t1,t2,?_⟩;rw [m.trees];refine rA rfl (vm (oV (cR (he ah s1 σ H1 _ I1 q1) λiv s2 ⟨y,H2,I2,ry,q2⟩ =>
  oV (cR (hf ah s2 σ H2 _ I2 q2) λfv s3 ⟨z,H3,I3,rz,kvs,k,ea,ey,hl,q3,q4⟩=>Calls.spliced_nil ?_))))
 subst ey;exact NQ I3 ea hl ry rz (λv w' s4 l I4 zW=>⟨v,_,I4,zW,q3 v l⟩) λl s4 I4=>⟨z,_,I4,rz,q4 l⟩
end
end L2
namespace hV
open PySem L2 M11
section
def PR {ps:List (Str×Addr)}(n1:(ps.map (·.1)).Nodup)(n2:(ps.map (·.2)).Nodup){p p':Str×Addr}(hp:p∈ps)(n5:p'∈ps)(z:p'≠p):p'.1≠p.1/\p'.2≠p.2:=by
 refine⟨λq=>z ?_,λq=>z ?_⟩
 .have w1:=ig ps n1 p' n5;have w2:=ig ps n1 p hp;rw [q,w2] at w1;injection w1 with w3;injection w3 with w4;exact Prod.ext q w4.symm
 obtain⟨i,hi,ei⟩:=qQ.mp n5;obtain⟨j,hj,ej⟩:=qQ.mp hp;have JO:i=j:=by
  refine(vf (xs:=ps.map (·.2)) (h₀:=by simpa using hi) (h₁:=by simpa using hj) n2).mp ?_;rw [oT,oT,ei,ej];exact q
 subst JO;exact ei.symm.trans ej
structure IF (ps:List (Str×Addr))(st:Str->List Int)(H:Hp)(d:Addr):Prop where
 hd:H d=some (.dK (ps.map jK))
 n1:(ps.map (·.1)).Nodup
 n2:(ps.map (·.2)).Nodup
 lst:∀p∈ps,H p.2=some (.lst ((st p.1).map V.int))
def IF.same {ps:List (Str×Addr)}{st:Str->List Int}{H H':Hp}{d:Addr}(h:IF ps st H d)(s:aA H H'):IF ps st H' d:=⟨s _ _ h.hd,h.n1,h.n2,λp hp=>s _ _ (h.lst p hp)⟩
def Cc (st:Str->List Int)(n:Str) (k:Int):Str->List Int:=λz=>if z=n then st z++[k] else st z
def IF.more {ps:List (Str×Addr)}{st:Str->List Int}{H:Hp}{d:Addr}(h:IF ps st H d){p:Str×Addr}(hp:p∈ps) (k:Int):IF ps (Cc st p.1 k) (upd H p.2 (.lst ((st p.1).map V.int++[.int k]))) d:=by
 have a:=h.lst p hp;have nd:d≠p.2:=λz=>by have:=h.hd;rw [z,a] at this;cases this
 refine⟨by rw [aj nd];exact h.hd,h.n1,h.n2,λp' n5=>?_⟩;by_cases z:p'=p
 .rw [z,ae];have e1:Cc st p.1 k p.1=st p.1++[k]:=ax rfl;rw [e1,bH];rfl
 obtain⟨a1,a2⟩:=PR h.n1 h.n2 hp n5 z;have e1:Cc st p.1 k p'.1=st p'.1:=ay a1;rw [aj a2,e1];exact h.lst p' n5
def EL (K:ba):Sp:=λvs H Q _=>∃(R:Addr)(rs:List Addr)(aa:List ar),vs=[.ref R]/\aH K H R (rs.map V.ref)/\bL K H rs aa/\aa.length<=1000 /\
 ∀(d:Addr)(ps:List (Str×Addr))(H':Hp),H d=none->aA H H'->IF ps (λn=>nums aa n aa.length) H' d->ps.map (·.1)=hd aa->(∀p∈ps,H p.2=none)->Q (.ref d) H'
def vT:aK ["rules","numbers","number","rule"] ["rules"] (av E2):=iN rfl rfl rfl rfl nofun
def Ju (F:iC K "numbers_by_name" "numbers_by_name" E2 f fd)(T:Txt mg)(GH:aC P w K mg base 1 "heads_of" ["rules"] (jQ K)):bS P w K mg base gp 2 f fd ["rules"] (EL K):=by
 refine F.ok vT (λvs H Q E h=>?_) (λeY A outer s H vs Q E hr h=>?_)
 .obtain⟨R,rs,aa,rfl,_⟩:=h;rfl
 obtain⟨R,rs,aa,rfl,hR,cA,bE,q⟩:=h;have hu:=gi hr;refine⟨_,ai (az (i:=1) vT.nd rfl (bC rfl) (bc (dW rfl) rfl T.AR gk (ab
   (bD ["name"] [] rfl (a8 (bp GH hr rfl (ab (pv 0) ag))) (br rfl rfl) nofun rfl nofun
    (λ_ _ _ _ _=>aq (i:=0) (show (["name"]:List Str).Nodup by decide +kernel) rfl (bC rfl)) (λ_ _ _ _ _=>b9)
    (λ_ _ _ _ _=>bo (ab (pv 0) (ab (a_ ag) ag)))) ag)))
  (ai (bM cq rfl (nU rfl T.JW (ab (pv 0) ag)) (g8 rfl (aB (aq (i:=2) vT.nd rfl (bC rfl)) (aB (aq (i:=3) vT.nd rfl (bC rfl)) cf)))
   (ak (cJ (g_ gG gX gY bV (fu hu (pv 1) (aL aZ (pv 3) ao (λ_ _=>rfl)) (λ_ _=>rfl)) (ab (pv 2) ag)))))
  (ak (aN (pv 1)))),?_⟩
 nofun
 have ll:=aU cA;refine⟨_,rfl,R,rs,aa,rfl,hR,cA,bE,λD2 H3 f3 s3 e3=>?_⟩;have JG:=iP (aa.map (·.1)) [];simp only [jq,au] at JG;refine⟨D2,rfl,⟨_,aH.of e3⟩,λD3 ym=>tD (aH.of e3) ∅ ym λts ps H4 s4 e4 m4 p4 l4 n4=>?_⟩;have n1:(ps.map (·.1)).Nodup:=by rw [m4];exact pI _ ku
 have Gg:Paired (λt (kv:aR×V)=>aS K H4 t [kV kv.1,kv.2]) ts (ps.map jK):=cy p4 λ_ _ z=>z;refine⟨D3,ts,_,rfl,e4,Gg,λd tQ=>?_⟩;have Rn:di (ps.map jK) []=ps.map jK:=ot _ [] (by
  rw [pQ,nW];exact wu n1)
 rw [Rn];have s5:=(s3.trans s4).trans (af tQ (.dK (ps.map jK)));have tP:=af tQ (.dK (ps.map jK));have ze:H d=none:=(s3.trans s4).free tQ;have S5:IF ps (λn=>nums aa n 0) (upd H4 d (.dK (ps.map jK))) d:=⟨ae,n1,n4,λp hp=>tP _ _ (l4 p hp).1⟩;have OF:∀p∈ps,H p.2=none:=λp hp=>s3.free (l4 p hp).2.1;generalize upd H4 d (.dK (ps.map jK))=H5 at s5 S5;clear tP;refine⟨_,rfl,R,_,rfl,s5.seq hR,?_⟩
 let qw:pL:=λi σ H6=>∃(y2 y3:Option V),σ=[aM R,aM d,y2,y3]/\aA H H6/\IF ps (λn=>nums aa n i) H6 d
 refine k_ (xs:=rs.map V.ref) qw ⟨none,none,rfl,s5,S5⟩ ?_ ?_ ?_
 .rintro i σ H6 _ ⟨y2,y3,rfl,s6,_⟩;exact s6.seq hR
 .rintro i x σ H6 t ex ⟨y2,y3,rfl,s6,S6⟩ ht
  ac_nf0
  rw [bz] at ex;obtain⟨r,er,rfl⟩:=cD.mp ex;obtain⟨ru,sS,p,v1,v2⟩:=cA.get er;have lQ:=b_ sS;have li:=(bu.mp sS).1;have uv:=af ht (.tup [.int (i:Int),.ref r]);have K6:aS K (upd H6 t (.tup [.int (i:Int),.ref r])) t [.int (i:Int),.ref r]:=aS.of ae;have s7:=s6.trans uv;have S7:=S6.same uv;generalize upd H6 t (.tup [.int (i:Int),.ref r])=H7 at K6 s7 S7;obtain⟨pn,yk,zf⟩:∃pn∈ps,pn.1=ru.1:=by
   have:ru.1∈ps.map (·.1):=by rw [m4];exact(ir _ _ _).mpr (.inr (j8 lQ))
   obtain⟨pn,a,b⟩:=cY.mp this;exact⟨pn,a,b⟩
  have an:=S7.lst pn yk;have vn:=ig ps n1 pn yk;rw [zf] at vn;have hg:cu H7 d (.str ru.1) (some (.ref pn.2)):=by
   have:=cu.k (k:=Sum.inr ru.1) S7.hd;rw [vn] at this;exact this
  have ln:=x9 aa pn.1 i;refine⟨t,_,rfl,K6,rfl,_,_,rfl,_,_,rfl,rfl,?_⟩;refine⟨_,rfl,_,rfl,r,_,_,_,rfl,rfl,s7.tup v1,rfl,d,_,rfl,hg,.inl ⟨rfl,_,aH.of an⟩,_,rfl,pn.2,_,_,rfl,rfl,an,bN (by rw [au];omega),?_⟩;have S8:=S7.more yk (i:Int);refine⟨_,_,rfl,λb o hb=>by rw [aj (λz=>by rw [z,OF pn yk] at hb;cases hb)];exact s7 b o hb,S8.hd,S8.n1,S8.n2,λp' n5=>?_⟩;have:=S8.lst p' n5;rw [this]
  congr 3
  unfold Cc;rw [CV];by_cases c:p'.1=pn.1
  .rw [ax c,ax];unfold Oq;rw [sS,c,zf];simp
  rw [ay c,ay,iS];unfold Oq;rw [sS];intro z;have z2:=c_ z;injection z2 with z3;exact c (by rw [zf];exact z3.symm)
 rintro σ H6 ⟨y2,y3,rfl,s6,S6⟩;rw [au,ll] at S6;exact⟨_,rfl,q d ps H6 ze s6 S6 m4 OF⟩
def Ks (K:ba):Sp:=λvs H Q _=>∃(R:Addr)(rs:List Addr)(aa:List ar),vs=[.ref R]/\aH K H R (rs.map V.ref)/\bL K H rs aa/\aa.length<=1000/\(∀ru∈aa,ru.2.length<=8) /\
 ∀(d:Addr)(H':Hp),H d=none->aA H H'->Q (.ref d) H'
structure Ep (H0 H:Hp)(d:Addr)(kvs:List (aR×V)) (n:Nat):Prop where
 hd:H d=some (.dK kvs)
 ln:kvs.length<=n
 lst:∀kv∈kvs,∃a xs,kv.2=.ref a/\H a=some (.lst xs)/\H0 a=none/\xs.length<=n
def Ep.same {H0 H H':Hp}{d:Addr}{kvs:List (aR×V)}{n:Nat}(h:Ep H0 H d kvs n)(s:aA H H'):Ep H0 H' d kvs n:=⟨s _ _ h.hd,h.ln,λkv hk=>let ⟨a,xs,e1,e2,e3,e4⟩:=h.lst kv hk;⟨a,xs,e1,s _ _ e2,e3,e4⟩⟩
def Ep.more {H0 H:Hp}{d a:Addr}{kvs:List (aR×V)}{n:Nat}{xs:List V}{y:V}(h:Ep H0 H d kvs (n+1))(ha:H a=some (.lst xs))(lx:xs.length<=n)(l2:∀kv∈kvs,∃a xs,kv.2=.ref a/\H a=some (.lst xs)/\H0 a=none/\xs.length<=n):Ep H0 (upd H a (.lst (xs++[y]))) d kvs (n+1):=by
 have nd:d≠a:=λz=>by have:=h.hd;rw [z,ha] at this;cases this
 refine⟨by rw [aj nd];exact h.hd,h.ln,λkv hk=>?_⟩;obtain⟨b,ys,e1,e2,e3,e4⟩:=l2 kv hk;by_cases c:b=a
 .exact⟨b,xs++[y],e1,by rw [c,ae],e3,by rw [a9];simp;omega⟩
 exact⟨b,ys,e1,by rw [aj c];exact e2,e3,∅⟩
def LH {kvs:List (aR×V)}{k:aR}{v:V}(h:bw kvs k=some v):∃kv∈kvs,kv.2=v:=by
 unfold bw at h;obtain⟨kv,e1,e2⟩:=cD.mp h;exact⟨kv,List.mem_of_find?_eq_some e1,e2⟩
def ur:aK ["rules","standings","number","rule","place","part"] ["rules"] (av LY):=iN rfl rfl rfl rfl nofun
def Mx (F:iC K "standings_by_part" "standings_by_part" LY f fd)(T:Txt mg):bS P w K mg base gp 1 f fd ["rules"] (Ks K):=by
 refine F.ok ur (λvs H Q E h=>?_) (λeY A outer s H vs Q E hr h=>?_)
 .obtain⟨R,rs,aa,rfl,_⟩:=h;rfl
 obtain⟨R,rs,aa,rfl,hR,cA,bE,h8,q⟩:=h;have hu:=gi hr;refine⟨_,ai (az (i:=1) ur.nd rfl (bC rfl) g9)
  (ai (bM cq rfl (nU rfl T.JW (ab (pv 0) ag)) (g8 rfl (aB (aq (i:=2) ur.nd rfl (bC rfl)) (aB (aq (i:=3) ur.nd rfl (bC rfl)) cf)))
   (ak (bM cq rfl (nQ rfl T.JW (ab (aL aZ (pv 3) ao (λ_ _=>rfl)) ag)) (g8 rfl (aB (aq (i:=4) ur.nd rfl (bC rfl)) (aB (aq (i:=5) ur.nd rfl (bC rfl)) cf)))
    (ak (cJ (g_ gG gX gY bV (Fv (pv 1) (pv 5) (a_ ag) ⟨rfl,rfl,rfl,rfl⟩) (ab (bo (ab (pv 2) (ab (pv 4) ag))) ag)))))))
  (ak (aN (pv 1)))),?_⟩
 nofun
 have ll:=aU cA;intro d tQ;have s1:=af tQ (.dK []);have S1:Ep H (upd H d (.dK [])) d [] (8 * 0):=⟨ae,aF _,λkv hk=>by cases hk⟩;generalize upd H d (.dK [])=H1 at s1 S1;refine⟨_,rfl,R,_,rfl,s1.seq hR,?_⟩
 let A3:pL:=λi σ H6=>∃(kvs:List (aR×V))(y2 y3 y4 y5:Option V),σ=[aM R,aM d,y2,y3,y4,y5]/\aA H H6/\Ep H H6 d kvs (8 * i)
 refine k_ (xs:=rs.map V.ref) A3 ⟨[],none,none,none,none,rfl,s1,S1⟩ ?_ ?_ ?_
 .rintro i σ H6 _ ⟨kvs,y2,y3,y4,y5,rfl,s6,_⟩;exact s6.seq hR
 .rintro i x σ H6 t ex ⟨kvs,y2,y3,y4,y5,rfl,s6,S6⟩ ht
  ac_nf0
  rw [bz] at ex;obtain⟨r,er,rfl⟩:=cD.mp ex;obtain⟨ru,sS,p,v1,v2⟩:=cA.get er;have lQ:=b_ sS;have OC:=h8 ru lQ;have li:=(bu.mp sS).1;have uv:=af ht (.tup [.int (i:Int),.ref r]);have K6:aS K (upd H6 t (.tup [.int (i:Int),.ref r])) t [.int (i:Int),.ref r]:=aS.of ae;have s7:=s6.trans uv;have S7:=S6.same uv;generalize upd H6 t (.tup [.int (i:Int),.ref r])=H7 at K6 s7 S7;refine⟨t,_,rfl,K6,rfl,_,_,rfl,_,_,rfl,rfl,?_⟩;refine⟨_,rfl,r,_,_,_,rfl,rfl,s7.tup v1,rfl,p,_,rfl,s7.tup v2,?_⟩
  let RT:pL:=λj σ H9=>∃(kvs:List (aR×V))(y4 y5:Option V),σ=[aM R,aM d,some (.int (i:Int)),aM r,y4,y5]/\aA H H9/\Ep H H9 d kvs (8 * i+j)
  refine pF (xs:=ru.2.map V.str) RT ⟨kvs,_,_,rfl,s7,S7⟩ ?_ ?_ ?_
  .rintro j σ H9 _ ⟨kvs,y4,y5,rfl,s9,_⟩;exact s9.tup v2
  .rintro j x σ H9 t2 pG ⟨kvs,y4,y5,rfl,s9,S9⟩ jm
   ac_nf0
   rw [bz] at pG;obtain⟨z,ez,rfl⟩:=cD.mp pG;have lj:=(bu.mp ez).1;have xK:=af jm (.tup [.int (j:Int),.str z]);have Gu:aS K (upd H9 t2 (.tup [.int (j:Int),.str z])) t2 [.int (j:Int),.str z]:=aS.of ae;have wj:=s9.trans xK;have Ly:=S9.same xK;generalize upd H9 t2 (.tup [.int (j:Int),.str z])=A5 at Gu wj Ly;refine⟨t2,_,rfl,Gu,rfl,_,_,rfl,_,_,rfl,rfl,?_⟩;have lk:=Ly.ln;refine⟨_,rfl,d,rfl,.inl ⟨kvs,.inl Ly.hd⟩,_,rfl,rC,λl hl=>?_⟩;have Jf:=af hl (.lst []);have Iy:upd A5 l (.lst []) l=some (.lst []):=ae;have fl:H l=none:=wj.free hl;have Es:=Ly.same Jf;have sA:=wj.trans Jf;generalize upd A5 l (.lst [])=Ea at Jf Iy Es sA;have fin:∀(a:Addr)(xs:List V)(mI:List (aR×V))(yN:Hp),yN a=some (.lst xs)->H a=none->xs.length<=8 * i+j->Ep H yN d mI (8 * i+j+1)->(∀kv∈mI,∃a xs,kv.2=.ref a/\yN a=some (.lst xs)/\H a=none/\xs.length<=8 * i+j)->aA H yN ->
     ∀t4,yN t4=none->xs.length < sizeLine/\∃(kvs:List (aR×V))(y4 y5:Option V),[some (V.ref R),aM d,some (.int (i:Int)),aM r,some (.int (j:Int)),some (.str z)]=[aM R,aM d,some (.int (i:Int)),aM r,y4,y5]/\aA H (upd (upd yN t4 (.tup [.int (i:Int),.int (j:Int)])) a (.lst (xs++[.ref t4])))/\Ep H (upd (upd yN t4 (.tup [.int (i:Int),.int (j:Int)])) a (.lst (xs++[.ref t4]))) d kvs (8 * i+(j+1)) :=
    λa xs mI yN ea fa lx IE Ee Kz t4 C_=>by
     have zV:=af C_ (.tup [.int (i:Int),.int (j:Int)]);refine⟨bN ∅,mI,_,_,rfl,λb o hb=>by rw [aj (λz=>by rw [z,fa] at hb;cases hb)];exact zV _ _ (Kz b o hb),?_⟩;exact(IE.same zV).more (zV _ _ ea) lx λkv hk=>let ⟨b,ys,e1,e2,e3,e4⟩:=Ee kv hk;⟨b,ys,e1,zV _ _ e2,e3,e4⟩
   refine⟨kvs,Sum.inr z,Es.hd,rfl,bN ∅,λv hv=>?_,λhn=>?_⟩
   .obtain⟨kv,hk,ek⟩:=LH hv;obtain⟨a,xs,e1,e2,e3,e4⟩:=Es.lst kv hk;rw [e1] at ek;subst ek;refine⟨.inl ⟨rfl,_,aH.of e2⟩,_,rfl,_,rfl,iQ,λt4 C_=>?_⟩;obtain⟨g1,g2⟩:=fin a xs kvs Ea e2 e3 e4 ⟨Es.hd,∅,λkv hk=>let ⟨b,ys,e1,e2,e3,e4⟩:=Es.lst kv hk;⟨b,ys,e1,e2,e3,∅⟩⟩ Es.lst sA t4 C_;exact⟨a,_,_,rfl,rfl,af C_ _ _ _ e2,g1,g2⟩
   have nd:d≠l:=λz=>by have:=Es.hd;rw [z,Iy] at this;cases this
   have Ll:upd Ea d (.dK (bU kvs (Sum.inr z) (.ref l))) l=some (.lst []):=by rw [aj nd.symm];exact Iy
   have ze:H d=none:=tQ;have Kz:aA H (upd Ea d (.dK (bU kvs (Sum.inr z) (.ref l)))):=λb o hb=>by rw [aj (λz=>by rw [z,ze] at hb;cases hb)];exact sA b o hb
   have Ee:∀kv∈bU kvs (Sum.inr z) (.ref l),∃a xs,kv.2=.ref a/\upd Ea d (.dK (bU kvs (Sum.inr z) (.ref l))) a=some (.lst xs)/\H a=none/\xs.length<=8 * i+j:=λkv hk=>by
    rw [xP _ hn] at hk;rcases bR.mp hk with h | h
    .obtain⟨b,ys,e1,e2,e3,e4⟩:=Es.lst kv h;exact⟨b,ys,e1,by rw [aj (λz=>by rw [z,Es.hd] at e2;cases e2)];exact e2,e3,e4⟩
    rw [bF.mp h];exact⟨l,[],rfl,Ll,fl,by simp⟩
   have lp:=gh kvs (Sum.inr z:aR) (.ref l);have IE:Ep H (upd Ea d (.dK (bU kvs (Sum.inr z) (.ref l)))) d (bU kvs (Sum.inr z) (.ref l)) (8 * i+j+1):=⟨ae,∅,λkv hk=>let ⟨b,ys,e1,e2,e3,e4⟩:=Ee kv hk;⟨b,ys,e1,e2,e3,∅⟩⟩;generalize upd Ea d (.dK (bU kvs (Sum.inr z) (.ref l)))=yN at Ll Kz Ee IE;refine⟨.inl ⟨rfl,_,aH.of Ll⟩,_,rfl,_,rfl,iQ,λt4 C_=>?_⟩;obtain⟨g1,g2⟩:=fin l [] _ yN Ll fl (by simp) IE Ee Kz t4 C_;exact⟨l,_,_,rfl,rfl,af C_ _ _ _ Ll,g1,g2⟩
  rintro σ H9 ⟨kvs,y4,y5,rfl,s9,S9⟩;rw [au] at S9;refine⟨kvs,_,_,_,_,rfl,s9,S9.hd,by have:=S9.ln;omega,λkv hk=>let ⟨b,ys,e1,e2,e3,e4⟩:=S9.lst kv hk;⟨b,ys,e1,e2,e3,∅⟩⟩
 rintro σ H6 ⟨kvs,y2,y3,y4,y5,rfl,s6,S6⟩;exact⟨_,rfl,q d H6 tQ s6⟩
end
end hV
namespace L2
open PySem PySem.Spec PyProof.Rows
open PySem
def gK {X:Cx}(K:ba)(hK:X.K=K:=by rfl):jH X (compareOp .In) (Sq K false):=by
 subst hK;exact lH
def Eb (K:ba)(H:Hp):Nat->V->V->Prop
 | 0,x,y=>x=y/\w6 x
 | n+1,x,y=>(x=y/\w6 x)\/∃a b xs ys,x=.ref a/\y=.ref b/\((aH K H a xs/\aH K H b ys)\/(aS K H a xs/\aS K H b ys))/\Paired (Eb K H n) xs ys
def Eb.self {K:ba}{H:Hp}{x:V}(h:w6 x):∀n,Eb K H n x x
 | 0=>⟨rfl,h⟩
 | _+1=>.inl ⟨rfl,h⟩
def jG {A:Around}{s:Shared}{F:V->V->Prop}{xs ys:List V}{aT dG:List Value}(r:bf xs aT)(r2:bf ys dG)(p:Paired F xs ys)(hF:∀x y u v,F x y->RelV x u->RelV y v->SeqAt.EqAt A s u v true) (j:Nat)(h1:j < aT.toArray.size)(h2:j < dG.toArray.size) :
  SeqAt.EqAt A s aT.toArray[j] dG.toArray[j] true:=by
 have l1:=r.length;have l2:=r2.length;have k1:j < aT.length:=by simpa using h1
 have k2:j < dG.length:=by simpa using h2
 have g2:ys[j]?=some (ys[j]'∅):=dH ∅;obtain⟨x,g1,fx⟩:=Paired.at_ p j _ g2;obtain⟨u1,e1,q1⟩:=r.get g1;obtain⟨u2,e2,q2⟩:=r2.get g2;have f1:aT.toArray[j]=u1:=by
  have:=(bu.mp e1).2;simpa using this
 have f2:dG.toArray[j]=u2:=by
  have:=(bu.mp e2).2;simpa using this
 rw [f1,f2];exact hF _ _ _ _ fx q1 q2
theorem sY {X:Cx}{ah:List (Addr×Obj)}{σ:St}{H:Hp}{s:Shared}(I:Inv X ah σ H s):∀(n:Nat)(A:Around)(x y:V)(u v:Value),Eb X.K H n x y->RelV x u->RelV y v->A.units+n < cLine->SeqAt.EqAt A s u v true
 | 0,A,x,y,u,v,⟨e,h⟩,ru,rv,_=>by subst e;exact sU h ru rv
 | n+1,A,x,y,u,v,.inl ⟨e,h⟩,ru,rv,_=>by subst e;exact sU h ru rv
 | n+1,A,x,y,u,v,.inr ⟨a,b,xs,ys,ex,ey,hs,p⟩,ru,rv,hu=>by
  subst ex;subst ey;cases (show u=Value.ref a from ru);cases (show v=Value.ref b from rv);by_cases e:a=b
  .subst e;exact .same _
  refine .of_refs e ?_;have lp:=aU p;rcases hs with ⟨ha,hb⟩ | ⟨ha,hb⟩
  .obtain⟨aT,r,pl,_⟩:=I.list ha;obtain⟨dG,r2,uz,_⟩:=I.list hb;have l1:=r.length;have l2:=r2.length;have q:=SeqAt.RcAt.lists (A:=A) (s:=s) (e:=λ_=>true) pl.isList uz.isList (by simp only [bY];omega) ∅ (λj h1 h2=>jG r r2 p (λx y u v d r1 r2=>sY I n A.in1 x y u v d r1 r2 (by rw [mq];omega)) j h1 h2);have e:((List.range aT.toArray.size).all λ_=>true)=true:=by simp
   rw [e] at q;exact q
  obtain⟨aT,r,pl,_⟩:=I.tuple ha;obtain⟨dG,r2,uz,_⟩:=I.tuple hb;have l1:=r.length;have l2:=r2.length;have q:=SeqAt.RcAt.tuples (A:=A) (s:=s) (e:=λ_=>true) pl uz ∅ (λj h1 h2=>jG r r2 p (λx y u v d r1 r2=>sY I n A.in1 x y u v d r1 r2 (by rw [mq];omega)) j h1 h2);have e1:((List.range (min aT.toArray.size dG.toArray.size)).all (λ_=>true) && aT.toArray.size == dG.toArray.size)=true:=by
   have:aT.toArray.size=dG.toArray.size:=by simp only [bY];omega
   rw [this];simp
  rw [e1] at q;exact q
def PM (K:ba)(b:Bool) (n:Nat):V->V->Hp->VK->Prop:=λx y H Q=>∃p q xs ys,x=.ref p/\y=.ref q/\aH K H p xs/\aH K H q ys/\Paired (Eb K H n) xs ys/\Q (.bl b) H
section
variable {prog:Program}{w:World}{A:Around}{E:Value->Shared->Prop}{s:Shared}
abbrev HW (h:Heap)(z:Addr)(f0 f1:Value)(TI TO:Addr):Prop:=h.get? z=some { cls:=.type "zip",data:=.fields #[f0,f1,.bool false,.ref TI,.ref TO] }
end
structure XN (h:Heap)(z TI TO i1 i2 l1 l2:Addr)(xs ys:Array Value) (i:Nat):Prop where
 hz:∃f0 f1,HW h z f0 f1 TI TO/\(f0=.none\/∃T:Nat,f0=rawInt T)
 hI:IsPair h TI (.ref i1) (.ref i2)
 hO:∃a b,IsPair h TO a b
 h1:h.IsTupleIter i1 l1 i
 h2:h.IsTupleIter i2 l2 i
 t1:h.IsTuple l1 xs
 t2:h.IsTuple l2 ys
def xw {h h':Heap}{l:Addr}{xs:Array Value}(t:h.IsTuple l xs)(k:∀o,h.get? l=some o->h'.get? l=some o):h'.IsTuple l xs:=by
 obtain⟨o,a,b,c⟩:=t;exact⟨o,k o a,b,c⟩
def vc (h:Heap) (N:Nat)(xs ys bW:Array Value):Prop:=∃Ts:List Nat,bW.toList=Ts.map Value.ref/\Ts.Pairwise (· < ·)/\∀(j T:Nat),Ts[j]?=some T->N<=T/\∃x y:Value,IsPair h T x y/\xs[j]?=some x/\ys[j]?=some y
def vc.keep {h h':Heap}{N:Nat}{xs ys bW:Array Value}(a:vc h N xs ys bW)(k:∀(T:Nat) o,N<=T->h.get? T=some o->h'.get? T=some o):vc h' N xs ys bW:=by
 obtain⟨Ts,e1,e2,e3⟩:=a;refine⟨Ts,e1,e2,λj T hj=>?_⟩;obtain⟨l,x,y,p,q⟩:=e3 j T hj;exact⟨l,x,y,k T _ l p,q⟩
def vc.more {h:Heap}{N T0:Nat}{xs ys bW:Array Value}{x y:Value}(a:vc h N xs ys bW)(lt:∀(Ts:List Nat),bW.toList=Ts.map Value.ref->∀T∈Ts,T < T0)(hN:N<=T0)(p:IsPair h T0 x y)(hx:xs[bW.size]?=some x)(hy:ys[bW.size]?=some y):vc h N xs ys (bW.push (.ref T0)):=by
 obtain⟨Ts,e1,e2,e3⟩:=a;have el:Ts.length=bW.size:=by
  have:=congrArg List.length e1;rw [au] at this;rw [<-this];simp
 refine⟨Ts++[T0],by rw [Array.toList_push,e1,bH];rfl,List.pairwise_append.mpr ⟨e2,by simp,λT hT b hb=>by rw [bF.mp hb];exact lt Ts e1 T hT⟩,λj T hj=>?_⟩;by_cases c:j < Ts.length
 .rw [pU c] at hj;exact e3 j T hj
 rw [mZ ∅] at hj;have c2:j - Ts.length=0:=by
  have:=(bu.mp hj).1;simp at this;omega
 rw [c2] at hj;cases hj;have:j=bW.size:=by omega
 rw [this];exact⟨hN,x,y,p,hx,hy⟩
def XN.keep {h h':Heap}{z TI TO i1 i2 l1 l2:Addr}{xs ys:Array Value}{i:Nat}(st:XN h z TI TO i1 i2 l1 l2 xs ys i)(k:∀b o,h.get? b=some o->h'.get? b=some o):XN h' z TI TO i1 i2 l1 l2 xs ys i:=by
 obtain⟨⟨f0,f1,a,b⟩,hI,⟨c,d,hO⟩,h1,h2,t1,t2⟩:=st;exact⟨⟨f0,f1,k _ _ a,b⟩,k _ _ hI,⟨c,d,k _ _ hO⟩,h1.at λo q=>k _ _ q,h2.at λo q=>k _ _ q,xw t1 λo q=>k _ _ q,xw t2 λo q=>k _ _ q⟩
end L2
namespace HT
open PySem PyProof.Rows
section
variable {prog:Program}{w:World}{A:Around}{E:Value->Shared->Prop}{s:Shared}
def zZ (n:Nat):Builtin.Slice.slicePlaces ((n:Int) - 1) (-1) (-1)=n:=by
 unfold Builtin.Slice.slicePlaces;have h1:¬((-1:Int) > 0):=by omega
 simp only [h1,if_false,Int.neg_neg,Int.ediv_one]
 split <;> omega
def Fq (xs:Array Value):((List.range xs.size).filterMap λ(k:Nat)=>xs[((xs.size:Int) - 1+(k:Int) * (-1)).toNat]?).toArray=xs.toList.reverse.toArray:=by
 have e:=PySem.W.krv_pick xs;unfold slicePick at e;rw [PySem.W.krv_bounds,PySem.W.krv_sliceRange,List.filterMap_map] at e;rw [<-e];have key:∀l:List Nat,(∀k∈l,k < xs.size)->(l.filterMap λ(k:Nat)=>xs[((xs.size:Int) - 1+(k:Int) * (-1)).toNat]?)=l.filterMap ((λx=>xs[x]?) ∘ λk=>xs.size - 1 - k):=by
  intro l
  induction l with
  | nil=>exact λ_=>rfl
  | cons k r ih =>
   intro h;have hk:=h k cI;have e2:((xs.size:Int) - 1+(k:Int) * (-1)).toNat=xs.size - 1 - k:=by omega
   rw [ro,ro,ih λm hm=>h m (dB _ hm),e2];rfl
 rw [key _ λk hk=>pP.mp hk]
def o8 {sl:Addr}{n:Nat}{u:Tok}{Q:Int×Int×Nat->Shared->Prop}(hs:s.heap.IsSliceOf sl .none .none (.int (-1) u))(h:Q ((n:Int) - 1,-1,n) s):wpAny (model prog w) A (Builtin.Slice.sliceApplied (.ref sl) (pure (n:Int))) Q E s:=by
 obtain⟨os,Dg,GQ,Im⟩:=id hs;unfold Builtin.Slice.sliceApplied Builtin.Slice.sliceFields;refine aE (aE (iG Dg Im (x:=.none) rfl (aE (iG Dg Im (x:=.none) rfl (aE (iG Dg Im (x:=.int (-1) u) rfl (aP ?_)))))));refine aE (slicePart_int ?_);show wpAny _ _ (if ((-1:Int) == 0)=true then _ else _) _ _ s;rw [ay nofun];refine aE (slicePart_none (aE (slicePart_none (aE (aP ?_)))));show wpAny _ _ (pure ((n:Int) - 1,(-1:Int),Builtin.Slice.slicePlaces ((n:Int) - 1) (-1) (-1))) _ _ s;rw [zZ];exact aP h
def oi {t sl:Addr}{items:Array Value}{u:Tok}{Q:Value->Shared->Prop}(ht:IsTup s.heap t items)(hs:s.heap.IsSliceOf sl .none .none (.int (-1) u))
  (h:Q (.ref s.heap.objs.size) { s with heap:=s.heap.push { cls:=.type "tuple",data:=.seq items.toList.reverse.toArray } })(hsz:items.size<=sizeLine):wpAny (model prog w) A (getItem (.ref t) (.ref sl)) Q E s:=by
 have nZ:sizeOk (.seq items.toList.reverse.toArray):=by
  show items.toList.reverse.toArray.size<=sizeLine;rw [bY,qP,rm];exact hsz
 obtain⟨os,Dg,GQ,Im⟩:=id hs;have Q6:s.TypeIs (.ref sl) "slice" := ⟨os,Dg,GQ⟩;unfold getItem
 try with_reducible refine jN ?_
 first | refine aE (aP ?_) | skip
 refine aE (wpAny_sequenceKey ht.typeIs nofun ?_);refine aE (qR (name:=Str.ofString "__getitem__") ht.typeIs m_
  (mv m_ ht.typeIs entry_tuple_getitem ?_ (args_tuple_getitem _ _)))
 show wpAny _ _ (Builtin.Tuple.tupleItemsOf (.ref t) >>= _) _ _ s;refine aE (tupleItemsOf_ ht ?_);refine aE (lU Q6 ?_);rw [ax nofun];refine aE (o8 hs ?_);show wpAny _ _ (if (((items.size:Int) - 1 == 0) && ((-1:Int) == 1) && (items.size == items.size))=true then _ else _) _ _ s;rw [ay (by simp),Fq]
 first
  | exact aE (m:=Builtin.Tuple.tupleExact _) (jr (aP ⟨_,rfl,aP h⟩) nZ)
  | exact aE (m:=Builtin.Tuple.tupleExact _) (jr (aE (aP (aP ⟨_,rfl,aP h⟩))) nZ)
  | exact aE (aE (m:=Builtin.Tuple.tupleExact _) (jr (aP (aP ⟨_,rfl,aP h⟩)) nZ))
  | exact aE (aE (m:=Builtin.Tuple.tupleExact _) (jr (aP ⟨_,rfl,aP h⟩) nZ))
end
end HT
namespace L2
open PySem PySem.Spec PyProof.Rows
theorem Paired.Fg {α β:Type}{F:α->β->Prop}:∀{a:List α}{c:List β},Paired F a c->Paired F a.reverse c.reverse
 | _,_,.nil=>.nil
 | _,_,.cons h t=>by rw [qN,qN];exact h_ (Paired.Fg t) h
def T_ (K:ba)(te:TE):TE:=λσ H Q=>te σ H λx H1=>∃a xs,x=.ref a/\aS K H1 a xs/\∀p,H1 p=none->Q (.ref p) (upd H1 p (.tup xs.reverse))
def Mp {X:Cx}{e:Expr}{te:TE}{p2 pos pu pc:Pos}(he:PE X e te):PE X (.Subscript e (.Slice none none (some (.UnaryOp .USub (.Constant (.int 1) 0 pc) pu)) p2) pos) (T_ X.K te):=by
 intro ah s σ H Q I h;refine Subscript_ (cR (he ah s σ H _ I h) λv s1 bG=>?_);obtain⟨x,H1,I1,r1,q1⟩:=bG;obtain⟨a,xs,rfl,hx,q⟩:=q1;cases (show v=Value.ref a from r1);refine wpAny_Slice ?_;rw [evalPart_none];refine aP (aP ?_);have hs:PO X (some (.UnaryOp .USub (.Constant (.int 1) 0 pc) pu)) _:=bT (ka iE ao);refine cR (hs ah s1 σ H1 (λl H'=>l=some (-1)/\H'=H1) I1 ⟨_,rfl,_,rfl,rfl,rfl⟩) λvst s2 bG=>?_;obtain⟨l,H2,I2,pl,q2⟩:=bG;obtain⟨rfl,rfl⟩:=q2;cases pl with
 | int i u =>
  have I3:Inv X ah σ H2 { s2 with heap:=s2.heap.push { cls:=.type "slice",data:=.fields #[.none,.none,.int (-1) u] } }:=I2.kept (t':=s2.toks) λb ob q=>cv _ q;obtain⟨aT,r,ht,hz⟩:=I3.tuple hx;have bE:=r.length;refine tail_any (T := "tuple") (ops:=[.ref a,.ref s2.heap.objs.size]) ht.typeIs m_.lookup ?_ (by with_unfolding_all rfl);refine HT.oi ht (Heap.IsSliceOf.new ..) ?_ (by rw [bY];omega);refine⟨.ref _,_,I3.laid (t':=s2.toks) (o:=.tup xs.reverse) (λb ob q=>cv _ q) (aF _) ?_,rfl,q _ (I3.cx.fresh (aF _))⟩;exact⟨by rw [qP];exact hz,aT.reverse,Paired.Fg r,IsTup.new _ _⟩
open PySem
section
variable {prog:Program}{w:World}{A:Around}{E:Value->Shared->Prop}{s:Shared}
end
structure ZTn (h:Heap)(z TI TO i1 i2 l1 l2:Addr) (i:Nat):Prop where
 hz:∃f0 f1,HW h z f0 f1 TI TO/\(f0=.none\/∃T:Nat,f0=rawInt T)
 hI:IsPair h TI (.ref i1) (.ref i2)
 hO:∃a b,IsPair h TO a b
 h1:h.IsTupleIter i1 l1 i
 h2:h.IsTupleIter i2 l2 i
end L2
namespace HT
open PySem PySem.Spec PyProof.Rows
section
variable {prog:Program}{w:World}{A:Around}{E:Value->Shared->Prop}{s:Shared}
def om {t sl:Addr}{items:Array Value}{vl vu:Value}{lo hi:Option Int}{Q:Value->Shared->Prop}(ht:IsTup s.heap t items)(hs:s.heap.IsSliceOf sl vl vu .none)(pl:IsPart vl lo)(pu:IsPart vu hi)
  (hw:gA items.size 0 lo=0/\gA items.size items.size hi=items.size)(h:Q (.ref t) s):wpAny (model prog w) A (getItem (.ref t) (.ref sl)) Q E s:=by
 obtain⟨os,Dg,GQ,Im⟩:=id hs;have Q6:s.TypeIs (.ref sl) "slice" := ⟨os,Dg,GQ⟩;unfold getItem
 try with_reducible refine jN ?_
 first | refine aE (aP ?_) | skip
 refine aE (wpAny_sequenceKey ht.typeIs nofun ?_);refine aE (qR (name:=Str.ofString "__getitem__") ht.typeIs m_
  (mv m_ ht.typeIs entry_tuple_getitem ?_ (args_tuple_getitem _ _)))
 show wpAny _ _ (Builtin.Tuple.tupleItemsOf (.ref t) >>= _) _ _ s;refine aE (tupleItemsOf_ ht ?_);refine aE (lU Q6 ?_);rw [ax nofun];refine aE (jv hs pl pu ?_);have Vy:(((gA items.size 0 lo:Nat):Int) == 0 && (1:Int) == 1 && (gA items.size items.size hi - gA items.size 0 lo) == items.size)=true:=by
  rw [hw.1,hw.2];simp
 show wpAny _ _ (if (((gA items.size 0 lo:Nat):Int) == 0 && (1:Int) == 1 && (gA items.size items.size hi - gA items.size 0 lo) == items.size)=true then _ else _) _ _ s;rw [ax Vy];refine aE ?_;unfold Builtin.Tuple.tupleIsExact;refine aE (lU ht.typeIs (aP ?_));rw [ax nofun];refine aE (wpAny_rule ?_);exact aP ⟨_,rfl,aP h⟩
end
end HT
namespace L2
open PySem PySem.Spec PyProof.Rows
def PJ (K:ba):V->Option Int->Option Int->Hp->VK->Prop:=λx lo hi H Q=>XO x (aS K H) λxs=>∀p H',aA H H'->aS K H' p (d_ xs lo hi)->Q (.ref p) H'
def qB {X:Cx}:Lx X (PJ X.K):=by
 intro ah s σ H x v vl vu lo hi sl Q I rx hs pl pu h;obtain⟨a,xs,rfl,hx,q⟩:=h;by_cases hw:HT.gA xs.length 0 lo=0/\HT.gA xs.length xs.length hi=xs.length
 .have ec:d_ xs lo hi=xs:=by
   unfold d_;rw [hw.1,hw.2,ml,jM,cH]
  cases rx;obtain⟨aT,r,ht,hz⟩:=I.tuple hx;have bE:aT.toArray.size=xs.length:=by rw [bY];exact r.length.symm
  refine⟨"tuple",_,m_.lookup,ht.typeIs,?_⟩;exact HT.om ht hs pl pu (by rw [bE];exact hw) ⟨.ref a,H,I,rfl,q a H (λ_ _ h=>h) (by rw [ec];exact hx)⟩
 exact LS ah s σ H _ v vl vu lo hi sl Q I rx hs pl pu ⟨a,xs,rfl,hx,hw,λp hp=>q p _ (af hp _) (aS.of ae)⟩
def PQ (K:ba):R2:=λx y H Q=>XU (aS K H) x y λxs ys=>∀p H',aA H H'->aS K H' p (xs++ys)->Q (.ref p) H'
def wq {X:Cx}:jH X (binaryOp .Add) (PQ X.K):=by
 intro ah s σ H x y v u Q I rx ry h;obtain⟨a,b,xs,ys,rfl,rfl,ha,hb,hz,q⟩:=h;by_cases hx:xs=[]
 .cases rx;cases ry;obtain⟨aT,r1,p1,_⟩:=I.tuple ha;obtain⟨dG,r2,p2,_⟩:=I.tuple hb;have e1:aT=[]:=r1.qE.mpr hx;obtain⟨⟨cls,dd,data,sl⟩,ho,hc,n,hd⟩:=id p1;obtain⟨⟨Xl,OP,data2,Si⟩,Ik,JQ,n2,hd2⟩:=id p2;simp only at hc hd JQ hd2;subst hc hd JQ hd2;exact concat_meets ⟨_,ho,rfl⟩ ⟨_,Ik,rfl⟩ noFill_tuple_add seq_tuple_add zj zo (zq _ _)
   (tuple_addW0 a b aT.toArray dG.toArray n n2 dd OP sl Si (by simp [e1])) ⟨ho,Ik,.ref b,H,I,rfl,q b H (λ_ _ h=>h) (by rw [hx];exact hb)⟩
 refine Js ah s σ H _ _ v u Q I rx ry ⟨a,b,xs,ys,rfl,rfl,ha,hb,hx,hz,λe=>q a H (λ_ _ h=>h) (by rw [e,iS];exact ha),λ_ p hp=>q p _ (af hp _) (aS.of ae)⟩
theorem lt_trans:∀a b c:List Nat,ltCps b a=false->ltCps c b=false->ltCps c a=false
 | [],b,[],_,_=>ltCps.eq_1
 | [],b,_::_,_,_=>ltCps.eq_3 _ _
 | x::r,[],c,h,_=>by rw [ltCps.eq_2] at h;cases h
 | x::r,y::t,[],_,k=>by rw [ltCps.eq_2] at k;cases k
 | x::r,y::t,z::u,h,k=>by
  rw [ltCps.eq_4,Bool.or_eq_false_iff,decide_eq_false_iff_not] at h k ⊢;refine⟨∅,?_⟩;by_cases e:z=x
  .have e1:y=x:=by omega
   subst e;subst e1;have h2:=h.2;have k2:=k.2;rw [oU,jo] at h2 k2 ⊢;exact lt_trans r t u h2 k2
  rw [kF.mpr e,qW]
def Fi (x:Str):Nat->Str
 | 0=>Str.empty
 | 1=>x
 | _=>x++x
def Jr {X:Cx}:jH X (binaryOp .Mult) (λa b H Q=>∃x n,a=.str x/\b=.int ((n:Nat):Int)/\n<=2/\x.length=1/\Q (.str (Fi x n)) H):=by
 intro ah s σ H a b v u Q I ra rb h;obtain⟨x,n,rfl,rfl,hn,hx,q⟩:=h;obtain⟨t,rfl⟩:=ra;obtain⟨t2,rfl⟩:=rb
 match n,hn,q with
 | 0,_,q=>exact PySem.P.mul_str_none nofun nofun ⟨.str Str.empty,H,I.tok _,⟨_,rfl⟩,q⟩
 | 1,_,q =>
  refine PySem.P.mul_str nofun (λ_ h=>by simp at h) (λ_ h=>by simp at h) ?_;rw [ay nofun,ax (by rfl)];exact⟨.str x,H,I,⟨_,rfl⟩,q⟩
 | 2,_,q =>
  refine PySem.P.mul_str nofun (λ_ _=>by rw [hx];decide) (λ_ _=>by rw [hx];decide) ?_;rw [ay nofun,ay (by rw [hx];decide)];have le:(Str.mk (#[]++x.cps++x.cps)).length<=sizeLine:=by
   show (#[]++x.cps++x.cps).size<=sizeLine;rw [Array.empty_append,Array.size_append];have:x.cps.size=1:=hx;rw [this];decide
  refine⟨le,⟨.str (x++x),H,I.tok _,⟨s.toks,?_⟩,q⟩⟩;show Value.str ⟨#[]++x.cps++x.cps⟩ _=Value.str ⟨x.cps++x.cps⟩ _;rw [Array.empty_append]
section
variable {prog:Program}{w:World}{A:Around}{E:Value->Shared->Prop}{s:Shared}
end
def O_ (K:ba)(te:TE):TE:=λσ H Q=>te σ H λx H1=>∃a xs,x=.ref a/\aH K H1 a xs/\∀p,H1 p=none->Q (.ref p) (upd H1 p (.lst xs.reverse))
def Jk {X:Cx}{e:Expr}{te:TE}{p2 pos pu pc:Pos}(he:PE X e te):PE X (.Subscript e (.Slice none none (some (.UnaryOp .USub (.Constant (.int 1) 0 pc) pu)) p2) pos) (O_ X.K te):=by
 intro ah s σ H Q I h;refine Subscript_ (cR (he ah s σ H _ I h) λv s1 bG=>?_);obtain⟨x,H1,I1,r1,q1⟩:=bG;obtain⟨a,xs,rfl,hx,q⟩:=q1;cases (show v=Value.ref a from r1);refine wpAny_Slice ?_;rw [evalPart_none];refine aP (aP ?_);have hs:PO X (some (.UnaryOp .USub (.Constant (.int 1) 0 pc) pu)) _:=bT (ka iE ao);refine cR (hs ah s1 σ H1 (λl H'=>l=some (-1)/\H'=H1) I1 ⟨_,rfl,_,rfl,rfl,rfl⟩) λvst s2 bG=>?_;obtain⟨l,H2,I2,pl,q2⟩:=bG;obtain⟨rfl,rfl⟩:=q2;cases pl with
 | int i u =>
  have I3:Inv X ah σ H2 { s2 with heap:=s2.heap.push { cls:=.type "slice",data:=.fields #[.none,.none,.int (-1) u] } }:=I2.kept (t':=s2.toks) λb ob q=>cv _ q;obtain⟨aT,r,ht,hz⟩:=I3.list hx;have bE:=r.length;refine tail_any (T := "list") (ops:=[.ref a,.ref s2.heap.objs.size]) ht.isList.typeIs slot_list_getitem.lookup ?_ (by with_unfolding_all rfl);refine wpAny_getItem_list_slice ht.isList (Heap.IsSliceOf.new ..) .none .none (.int (-1) u) (by simp) ?_ (by rw [bY];omega);rw [PySem.W.krv_pick];refine⟨.ref _,_,I3.laid (t':=s2.toks) (o:=.lst xs.reverse) (λb ob q=>cv _ q) (aF _) ?_,rfl,q _ (I3.cx.fresh (aF _))⟩;exact⟨by rw [qP];exact hz,aT.reverse,0,Paired.Fg r,d0 _ rfl⟩
open PySem PySem.W PyProof.Rows
section
variable {n:Nat}{lt:Nat->Nat->Bool}{cmp:Nat->Nat->(Bool->Shared->Prop)->Shared->Prop}{s:Shared}
structure Kg (n:Nat)(lt:Nat->Nat->Bool):Prop where
 trans:∀a b c,a < n->b < n->c < n->lt b a=false->lt c b=false->lt c a=false
 XJ:∀a b,a < n->b < n->lt a b=true->lt b a=false
structure OV (n:Nat)(p:Array Nat):Prop where
 pm:p.Perm (List.range n).toArray
theorem OV.size {p:Array Nat}(h:OV n p):p.size=n:=by
 have:=h.pm.size_eq;simpa using this
def OV.K2 {p:Array Nat}(h:OV n p){i:Nat}(hi:i < n):p.getD i 0 < n:=by
 have hs:=h.size;have e:p.getD i 0=p[i]'∅:=by simp [Array.getD,hs,hi]
 rw [e];have:p[i]'∅∈(List.range n).toArray:=h.pm.mem_iff.mp (Array.getElem_mem _);simpa using this
abbrev at_ (p:Array Nat) (i:Nat):Nat:=p.getD i 0
def N2 (lt:Nat->Nat->Bool)(p:Array Nat) (k:Nat):Prop:=∀i j,i<=j->j < k->lt (at_ p j) (at_ p i)=false
def N6 (lt:Nat->Nat->Bool)(p:Array Nat) (k:Nat):Prop:=∀i j,i<=j->j < k->lt (at_ p i) (at_ p j)=false
def Kg.Zf (o:Kg n lt){a:Nat}(h:a < n):lt a a=false:=by
 cases e:lt a a with
 | false=>rfl
 | true=>rw [<-o.XJ a a h h e,e]
def N2.more {p:Array Nat}{m:Nat}(o:Kg n lt)(P:OV n p)(h:N2 lt p m)(hm:1<=m)(hn:m < n)(c:lt (at_ p m) (at_ p (m - 1))=false):N2 lt p (m+1):=by
 intro i j JO hj;by_cases e:j=m
 .subst e;by_cases e2:i=j
  .subst e2;exact o.Zf (P.K2 hn)
  exact o.trans _ (at_ p (j - 1)) _ (P.K2 ∅) (P.K2 ∅) (P.K2 hn) (h i (j - 1) ∅ ∅) c
 exact h i j JO ∅
def N6.more {p:Array Nat}{m:Nat}(o:Kg n lt)(P:OV n p)(h:N6 lt p m)(hm:1<=m)(hn:m < n)(c:lt (at_ p (m - 1)) (at_ p m)=false):N6 lt p (m+1):=by
 intro i j JO hj;by_cases e:j=m
 .subst e;by_cases e2:i=j
  .subst e2;exact o.Zf (P.K2 hn)
  exact o.trans _ (at_ p (j - 1)) _ (P.K2 hn) (P.K2 ∅) (P.K2 ∅) c (h i (j - 1) ∅ ∅)
 exact h i j JO ∅
end
def Inv.fj {X:Cx}{ah:List (Addr×Obj)}{σ:St}{H:Hp}{s:Shared}{h':Heap}{a:Addr}{o:HO}{t':Nat}(I:Inv X ah σ H s)(k:∀b u,b≠X.env.locals->s.heap.get? b=some u->h'.get? b=some u)
  (ns:∀m,s.heap.Ns X.env.locals m->h'.Ns X.env.locals m)(hp:s.heap.get? a=none)(hn:H a=none)(new:cS X.prog X.w (upd H a o) h' a o):Inv X ah σ (upd H a o) { s with heap:=h',toks:=t' }:=by
 have ne:∀b u,s.heap.get? b=some u->b≠a:=λb u q z=>by rw [z,hp] at q;cases q
 refine I.step (g':=s.gens) (d':=s.drawn) (ch:=[]) (λ_ z=>nomatch z) (λb u hb _ _ e _=>k b u hb e) (λb u hb _ _ e _=>⟨u.slots,k b u hb e⟩) (λb u _ e n=>by rw [aj (ne b u e)];exact n)
  (λb u _ e=>?_) (λb xs q=>by rw [aj (aw q hn)];exact q) (λb u xs q=>by rw [aj (aw q hn)];exact q) (λb ps q=>⟨#[],by rw [aj (aw q hn),q];simp⟩) ns (λb u e=>?_) I.bare
 .by_cases hb:b=X.env.locals
  .obtain⟨m,hm,_⟩:=I.loc;obtain⟨o',_,_,Dh,_⟩:=ns m hm;exact⟨o',by rw [hb];exact Dh⟩
  exact⟨u,k b u hb e⟩
 by_cases hb:b=a
 .subst hb;rw [ae] at e;cases e;exact new
 rw [aj hb] at e;refine(I.cx b u e).kP (λc v hc q=>k c v ?_ q) (λc q=>by rw [aj (aw q hn)];exact q) λc xs q=>by rw [aj (aw q hn)];exact q
 rintro rfl;rcases hc with rfl | hc
 .rw [I.free] at e;cases e
 rw [I.free] at hc;cases hc
def FJ {P:Program}{w:World}{H:Hp}{h:Heap}{a:Addr}{o:HO}(x:cS P w H h a o):∃u,h.get? a=some u:=by
 cases o with
 | lst xs=>obtain⟨_,_,_,_,e⟩:=x;exact⟨_,e⟩
 | tup xs=>obtain⟨_,_,_,ob,e,_⟩:=x;exact⟨_,e⟩
 | dK kvs=>obtain⟨_,_,_,_,o,_,_,e,_⟩:=x;exact⟨_,e⟩
 | dT kvs=>obtain⟨_,_,_,_,o,_,_,e,_⟩:=x;exact⟨_,e⟩
 | set S n=>obtain⟨o,_,_,_,e,_⟩:=x;exact⟨_,e⟩
 | ins C dx fs=>obtain⟨_,_,_,e,_⟩:=x;exact⟨_,e⟩
 | own y=>obtain⟨_,e⟩:=x;exact⟨_,e⟩
 | xd fs=>obtain⟨_,⟨_,_,_,e,_⟩,_⟩:=x;exact⟨_,e⟩
 | CB lo hi=>obtain⟨_,_,_,e⟩:=x;exact⟨_,e⟩
 | kr ob u=>obtain⟨e,_⟩:=x;exact⟨_,e⟩
 | tO ps=>exact⟨_,(show h.get? a=some _ from x)⟩
 | met f y=>exact⟨_,(show h.get? a=some _ from x)⟩
 | ext φ=>obtain⟨_,⟨_,e⟩,_⟩:=x;exact⟨_,e⟩
open PySem PySem.Spec PyProof.Rows PySem.W
section
variable {P:Program}{w:World}{A:Around}{E:Value->Shared->Prop}{s:Shared}
def Gm {f c' c d:Addr}{q:Str}{params:Arguments}{scope:Scope}{cl:List (Str×Addr)}{pm gW:Value}{p1 p2 p3:Pos}{xs xh:Str}{vs:List (aR×Value)}{z:Str}{t:Tok}{u:Value}{oc:Obj}{Q:Value->Shared->Prop}
  (QI:A.depth < recursionLimit)(nl:s.heap.NoLimit)(hf:s.heap.get? f=some (kla_obj "<lambda>" q params (.Subscript (.Name xs p1) (.Name xh p2) p3) scope cl pm c' gW))(hc:s.heap.CodeRec (.ref c') q)
  (hb:∀us:List Value,us.length=1->bindArgs (kla_fn "<lambda>" q params (.Subscript (.Name xs p1) (.Name xh p2) p3) scope cl pm (.ref c') gW) ⟨us,[]⟩=pure ([xh].zip us))
  (hk:scope.kind=.function)(We:scope.isCoroutine=false)(M_:scope.isGenerator=false)(VY:∀x∈scope.names,x.2≠.cell)(hh:scope.names.lookup xh=some .local)(hs:scope.names.lookup xs=some .free)
  (pD:cl.lookup xs=some c)(ho:s.heap.get? c=some oc)(yZ:oc.data=.cell (some (.ref d)))(dd:s.heap.DictOf (bA P w) d vs)(hv:valueAt vs (Sum.inr z)=some u)
  (d1:(xs == ("__debug__":Str))=false)(d2:(xh == ("__debug__":Str))=false)(d3:(xs == ("__classdict__":Str))=false)
  (h:∀h' tk,(∀b o,s.heap.get? b=some o->h'.get? b=some o)->Q u { s with heap:=h',toks:=tk }):wpAny (model P w) A (call (.ref f) [.str z t]) Q E s:=by
 refine wpAny_call (kla_callFunE QI hf rfl We M_ rfl hc ?_);rw [hb [.str z t] rfl];refine aP (wpAny_newFunctionEnv VY (λx hx=>?_) (λh₁ xj Zp=>⟨nl.fresh _ Zp,?_⟩) hk)
 .have:x=(xh,Value.str z t):=by simpa using hx
  rw [this];exact hh
 show codeAny _ _ (.expr (.Subscript (.Name xs p1) (.Name xh p2) p3) (envX q scope s.heap.objs.size f (.ref c') cl)) _ _;have k1:∀b o,s.heap.get? b=some o->h₁.get? b=some o:=λb o e=>Zp.extBut b o (cw (bO e)) (cv _ e);refine kla_codeExpr (Bd PySem.F.slot_dict_getitem.lookup (λ_ _=>rfl) ?_);refine wpAny_Name (wpAny_loadName_free hk hs pD ⟨oc,k1 _ _ ho,yZ⟩ ?_ d3) d1;refine wpAny_Name (vq hk hh xj (show ([(xh,Value.str z t)]:List (Str×Value)).reverse.lookup xh=some (.str z t) by simp [List.lookup]) ?_) d2;have dd1:h₁.DictOf (bA P w) d vs:=by
  obtain⟨o,es,ep,g,r⟩:=dd;exact⟨o,es,ep,k1 _ _ g,r⟩
 refine⟨dd1.typeIs,wpAny_getItem_of (l8 (k:=Sum.inr z) ⟨t,rfl⟩) dd1.mapOf hv ?_⟩;exact h h₁ _ k1
end
section
variable {X:Cx}{params:Arguments}{body:Expr}{scope:Scope}{pos:Pos}{c T:Addr}
abbrev ja (X:Cx)(params:Arguments)(body:Expr)(scope:Scope)(cl:List (Str×Addr))(c':Addr)(gW:Value):Obj:=kla_obj "<lambda>" (X.env.qual ++ "<lambda>") params body scope cl ((X.mg "__name__").getD .none) c' gW
def Ph (X:Cx)(params:Arguments)(body:Expr)(scope:Scope)(pos:Pos)(T:Addr):TE:=λσ H Q=>Tab T pos (X.env.qual ++ "<lambda>") H /\
 ∀f c' gW cl H',Ki X.env scope cl->cX T H H'->Tab T pos (X.env.qual ++ "<lambda>") H'->H f=none->H' f=some (pq f (ja X params body scope cl c' gW))->H' c'=some (kc c' (X.env.qual ++ "<lambda>"))->Q (.ref f) H'
def Jm (su:X.env.code=.ref c)(hC:codeHdIn X.K c T=true)(hB:tM X.mg X.base)(n8:∀y,(y,NameKind.free)∈scope.names->X.env.scope.names.lookup y=some .cell)(GO:defaultsOf params X.env=([],[]):=by rfl):PE X (.Lambda params body scope pos) (Ph X params body scope pos T):=by
 intro ah s σ H Q I h;obtain⟨⟨ps,hT,ht,GU⟩,q⟩:=h;refine kla_eval GO ?_;obtain⟨cl,pD⟩:=wW (env:=X.env) (scope:=scope) λy hy=>I.ok.has y (.inl (n8 y hy));have Ni:s.heap.get? T=some (tabObj ps):=(show cS X.prog X.w H s.heap T (.tO ps) from I.cx T _ hT);have hg:=I.mod.glob.keeps I.bk;have C:=codeHd_of_K I.wG hC;obtain⟨bm,ob,b1,b2,b3,b4,b5,b6,b7⟩:=hB;have XA:=I.bk _ _ b4;have U5:bm≠T:=λz=>by
  have:=(I.bs _ _ b4).2;rw [z,hT] at this;cases this
 have U2:mainGlobals≠T:=λz=>by
  obtain⟨o,es,ep,e,d,_⟩:=hg;rw [z,Ni] at e;cases e;cases d
 have Q_:s.heap.BuiltinsAt X.mg T:=⟨bm,ob,b1,b2,b3,U5,XA,b5,b6,b7⟩;have Ia:∀b v,H b=some v->b < s.heap.objs.size:=λb v e=>I.cx.lt e;rcases GU with QR | ⟨c',hf,lR⟩
 .refine kla_makeFunction pD.eq I.ok.glob hg su C Ni ht QR U2 Q_ λc' gW h' tk hx Na kn Gv QE=>?_;have hcr:∃oc,h'.get? c'=some oc:=by
   obtain⟨c2,oc,vs,t,e,yZ,_⟩:=Gv;cases e;exact⟨oc,yZ⟩
  have so:h'.objs.size > s.heap.objs.size:=rh Na kn;have keep:∀b o,b≠T->s.heap.get? b=some o->(h'.push (ja X params body scope cl c' gW)).get? b=some o:=λb o n e=>cv _ (hx b o n e)
  let H':Hp:=upd (upd (upd H T (.tO (ps++#[rawInt pos.line,rawInt pos.col,.ref c']))) c' (kc c' (X.env.qual ++ "<lambda>"))) h'.objs.size (pq h'.objs.size (ja X params body scope cl c' gW))
  have An:∀b v,H b=some v->b≠c'/\b≠h'.objs.size:=λb v e=>⟨cw (gM (Ia b v e) Na),cw (mj (Ia b v e) so)⟩;have U4:c'≠h'.objs.size:=cw kn;have P_:=An T _ hT;have eT:H' T=some (.tO (ps++#[rawInt pos.line,rawInt pos.col,.ref c'])):=by
   show upd (upd (upd H T _) c' _) h'.objs.size _ T=_;rw [aj P_.2,aj P_.1,ae]
  have ec:H' c'=some (kc c' (X.env.qual ++ "<lambda>")):=by
   show upd (upd (upd H T _) c' _) h'.objs.size _ c'=_;rw [aj U4,ae]
  have ef:H' h'.objs.size=some (pq h'.objs.size (ja X params body scope cl c' gW)):=ae;have eo:∀b,b≠T->b≠c'->b≠h'.objs.size->H' b=H b:=λb n1 n2 n3=>by
   show upd (upd (upd H T _) c' _) h'.objs.size _ b=_;rw [aj n3,aj n2,aj n1]
  have sT:cX T H H':=λb o n e=>by rw [eo b n (An b o e).1 (An b o e).2];exact e
  have I2:Inv X ah σ H' { s with heap:=h'.push (ja X params body scope cl c' gW),toks:=tk }:=by
   refine I.call (g':=s.gens) (t':=tk) (d':=s.drawn) (ch:=[]) ⟨λb o e n _ _=>keep b o (λz=>by rw [z,hT] at n;cases n) e,λb o e n _ _=>⟨o.slots,keep b o (λz=>by rw [z,hT] at n;cases n) e⟩,λb o e n _=>?_,λb o e _=>?_,λb xs e=>?_,λb o u e=>?_,λb BG e=>?_⟩ (λb v e=>?_) I.bare (λb hb=>nomatch hb)
   .have lb:=bO e;rw [eo b (λz=>by rw [z,hT] at n;cases n) (cw (gM lb Na)) (cw (mj lb so))];exact n
   .by_cases z:b=T
    .exact⟨_,by rw [z];exact cv _ QE⟩
    exact⟨o,keep b o z e⟩
   .exact sT b _ (λz=>by rw [z,hT] at e;cases e) e
   .exact sT b _ (λz=>by rw [z,hT] at e;cases e) e
   .by_cases z:b=T
    .subst z;rw [hT] at e;cases e;exact⟨_,eT⟩
    exact⟨#[],by rw [Array.append_empty];exact sT b _ z e⟩
   by_cases z1:b=h'.objs.size
   .subst z1;rw [ef] at e;cases e;exact qG (d0 _ rfl)
   by_cases z2:b=c'
   .subst z2;rw [ec] at e;cases e;refine yF ?_;obtain⟨c2,oc,vs,t,e',yZ,hd,hv⟩:=Gv;cases e';exact⟨_,oc,vs,t,rfl,cv _ yZ,hd,hv⟩
   by_cases z3:b=T
   .subst z3;rw [eT] at e;cases e;exact cv _ QE
   rw [eo b z3 z2 z1] at e;refine(I.cx b v e).kP (λd o Dk e'=>?_) (λd e'=>sT d _ (λz=>by rw [z,hT] at e';cases e') e') λd ys e'=>sT d _ (λz=>by rw [z,hT] at e';cases e') e';rcases Dk with rfl | Dk
   .exact keep d o z3 e'
   exact keep d o (λz=>by rw [z,hT] at Dk;cases Dk) e'
  have fresh:H h'.objs.size=none:=I.cx.fresh (kJ so);exact⟨.ref h'.objs.size,H',I2,rfl,q _ c' gW cl H' pD sT ⟨_,eT,by rw [vv];exact jO _ ht,.inr ⟨c',by rw [vv];exact codeAmong_snoc _ ht QR,ec⟩⟩ fresh ef ec⟩
 refine kla_makeFunctionHit pD.eq I.ok.glob hg su C Ni ht hf Q_ λgW h' tk hk hsz=>?_;have keep:∀b o,s.heap.get? b=some o->(h'.push (ja X params body scope cl c' gW)).get? b=some o:=λb o e=>cv _ (hk b o e);have fresh:H h'.objs.size=none:=I.cx.fresh hsz;refine⟨.ref h'.objs.size,_,I.laid (a:=h'.objs.size) (o:=pq h'.objs.size (ja X params body scope cl c' gW)) (t':=tk) keep hsz (qG (d0 _ rfl)),rfl,?_⟩;refine q _ c' gW cl _ pD (λb o _ e=>by rw [aj (aw e fresh)];exact e) ⟨ps,by rw [aj (aw hT fresh)];exact hT,ht,.inr ⟨c',hf,by rw [aj (aw lR fresh)];exact lR⟩⟩ fresh ae (by rw [aj (aw lR fresh)];exact lR)
end
theorem Bf:∀{zs:List Str}{aT:List Value},bf (zs.map V.str) aT->∀(i:Nat)(v:Value),aT[i]?=some v->∃z t,zs[i]?=some z/\v=.str z t
 | [],[],_,i,v,h=>by simp at h
 | z::r,u::aT,h,i,v,hi=>by
  cases h with
  | cons a b =>
   cases i with
   | zero =>
    cases hi;obtain⟨t,e⟩:=(show ∃t,u=Value.str z t from a);exact⟨z,t,rfl,e⟩
   | succ i=>exact Bf b i v hi
theorem ui:∀(ps:List (Str×Tok)),bf ((ps.map (·.1)).map V.str) (ps.map λp=>Value.str p.1 p.2)
 | []=>.nil
 | p::r=>.cons ⟨p.2,rfl⟩ (ui r)
theorem uj:∀{zs:List Str}{aT:List Value},bf (zs.map V.str) aT->∃ps:List (Str×Tok),ps.map (·.1)=zs/\aT=ps.map λp=>Value.str p.1 p.2
 | [],[],_=>⟨[],rfl,rfl⟩
 | z::r,u::aT,h=>by
  cases h with
  | cons a b =>
   obtain⟨t,e⟩:=(show ∃t,u=Value.str z t from a);obtain⟨ps,e1,e2⟩:=uj b;exact⟨(z,t)::ps,by rw [cP,e1],by rw [cP,e2,e]⟩
def z6 {α β:Type}{f:α->β}{l m:List β}(h:l.Perm m):∀ps:List α,m=ps.map f->∃qs:List α,l=qs.map f/\qs.Perm ps:=by
 induction h with
 | nil =>
  intro ps e;cases ps with
  | nil=>exact⟨[],rfl,.nil⟩
  | cons p r=>cases e
 | cons x h ih =>
  intro ps e;cases ps with
  | nil=>cases e
  | cons p r =>
   rw [cP] at e;injection e with e1 e2;obtain⟨qs,a,b⟩:=ih r e2;exact⟨p::qs,by rw [cP,a,e1],b.cons p⟩
 | swap x y l =>
  intro ps e
  match ps,e with
  | [],e=>cases e
  | [_],e=>cases e
  | p::p2::r,e =>
   rw [cP,cP] at e;injection e with e1 e2;injection e2 with e3 e4;exact⟨p2::p::r,by rw [cP,cP,e1,e3,e4],.swap p p2 r⟩
 | trans h1 h2 i1 i2 =>
  intro ps e;obtain⟨qs,a,b⟩:=i2 ps e;obtain⟨rs,c,d⟩:=i1 qs a;exact⟨rs,c,d.trans b⟩
def Fz {g:Str->Int}{ps:List (Str×Tok)}{out:List Value}(h:KskOut false ((ps.map (·.1)).map g) (ps.map λp=>Value.str p.1 p.2) out) :
  ∃qs:List (Str×Tok),out=qs.map (λp=>Value.str p.1 p.2)/\(qs.map (·.1)).Perm (ps.map (·.1))/\(qs.map (·.1)).Pairwise λx y=>g x<=g y:=by
 obtain⟨rs,h1,h2,h3⟩:=h;have ez:((ps.map (·.1)).map g).zip (ps.map λp=>Value.str p.1 p.2)=ps.map λp=>(g p.1,Value.str p.1 p.2):=by
  rw [jn,List.zip_map,List.zip_eq_zipWith]
  induction ps with
  | nil=>rfl
  | cons p r ih=>simp_all
 rw [ez] at h1;obtain⟨qs,q1,q2⟩:∃qs:List (Str×Tok),rs=qs.map (λp=>(g p.1,Value.str p.1 p.2))/\qs.Perm ps:=by
  exact z6 h1 ps rfl
 subst q1;refine⟨qs,by rw [h2,jn];rfl,q2.map _,?_⟩;rw [List.pairwise_map] at h3 ⊢;exact h3.imp λh=>by simpa using h
section
variable {X:Cx}{i:Nat}{xs xh:Str}{params:Arguments}{scope:Scope}{p pos yg kp p1 p2 p3:Pos}{e:Expr}{ta:TA}{c T:Addr}{k:Nat}
abbrev Ca (xs xh:Str)(p1 p2 p3:Pos):Expr:=.Subscript (.Name xs p1) (.Name xh p2) p3
def LK (X:Cx) (i:Nat)(yg:Pos)(T:Addr)(ta:TA):TE:=λσ H Q=>ta σ H λvs H1=>Tab T yg (X.env.qual ++ "<lambda>") H1/\∃(a:Addr) (zs:List Str)(d:Addr)(kvs:List (aR×V))(g:Str->Int),vs=[.ref a]/\aH X.K H1 a (zs.map V.str)/\zs.length < 64/\σ[i]?=some (some (.ref d))/\Rd H1 d (.dK kvs) /\
 (∀z∈zs,bw kvs (Sum.inr z)=some (.int (g z)))/\∀(l:Addr) (LD:List Str)(H':Hp),cX T H1 H'->Tab T yg (X.env.qual ++ "<lambda>") H'->H1 l=none->LD.Perm zs->LD.Pairwise (λx y=>g x<=g y)->H' l=some (.lst (LD.map V.str))->Q (.ref l) H'
def Ft (hr:fY (k+1) X.A)(su:X.env.code=.ref c)(hC:codeHdIn X.K c T=true)(hB:tM X.mg X.base)(hg:Gl X "sorted")(hm:X.mg "sorted"=none)(ha:PA X [e] ta)
  (hN:X.N[i]?=some xs)(hx:X.env.scope.names.lookup xs=some .cell)(n8:∀y,(y,NameKind.free)∈scope.names->X.env.scope.names.lookup y=some .cell)
  (hb:∀(q:Str)(cl:List (Str×Addr))(pm gW:Value)(c':Addr)(us:List Value),us.length=1->bindArgs (kla_fn "<lambda>" q params (Ca xs xh p1 p2 p3) scope cl pm (.ref c') gW) ⟨us,[]⟩=pure ([xh].zip us))
  (hk:scope.kind=.function)(We:scope.isCoroutine=false)(M_:scope.isGenerator=false)(VY:∀x∈scope.names,x.2≠.cell)(hh:scope.names.lookup xh=some .local)(hs:scope.names.lookup xs=some .free)
  (d1:(xs == ("__debug__":Str))=false:=by decide)(d2:(xh == ("__debug__":Str))=false:=by decide)(d3:(xs == ("__classdict__":Str))=false:=by decide)
  (GO:defaultsOf params X.env=([],[]):=by rfl)
  (he:backTo pos (starEach [e] X.env)=(false,eval e X.env)::backTo pos (starEach [] X.env):=by rfl)(hp:(backTo pos (starEach [e] X.env)).any (·.1)=false:=by rfl) :
  PE X (.Call (.Name "sorted" p) [e] [⟨some "key",.Lambda params (Ca xs xh p1 p2 p3) scope yg,kp⟩] pos) (LK X i yg T ta):=by
 intro ah s σ H Q I h;refine qO (jW I hg hm boot_sorted ?_);refine callWith_kw (cR (ha pos ah s σ H _ I h) λus s1 bG=>?_) he hp rfl rfl;obtain⟨vs,H1,I1,r1,JR,a,zs,d,kvs,g,ev,hq,h64,hσ,hd,hv,q1⟩:=bG;subst ev;have low:=Jm (X:=X) (params:=params) (body:=Ca xs xh p1 p2 p3) (scope:=scope) (pos:=yg) (c:=c) (T:=T) su hC hB n8 GO ah s1 σ H1
  (λfv H2=>∃f c' gW cl,fv=.ref f/\Ki X.env scope cl/\cX T H1 H2/\Tab T yg (X.env.qual ++ "<lambda>") H2/\H2 f=some (pq f (ja X params (Ca xs xh p1 p2 p3) scope cl c' gW))/\H2 c'=some (kc c' (X.env.qual ++ "<lambda>"))) I1
  ⟨JR,λf c' gW cl H' a1 a2 a3 a4 a5 a6=>⟨f,c',gW,cl,rfl,a1,a2,a3,a5,a6⟩⟩
 refine kws_cons (cR low λu2 s2 bG=>?_);obtain⟨fv,H2,I2,r2,f,c',gW,cl,ef,pD,st,SW,hf,lR⟩:=bG;refine kws_nil ?_;subst ef;cases (show u2=Value.ref f from r2);obtain⟨u,rfl,rx⟩:=vals1 r1;cases (show u=Value.ref a from rx);obtain⟨pt,eT,_⟩:=id JR;have hq2:aH X.K H2 a (zs.map V.str):=by
  rcases hq with (h | ⟨o,h⟩) | h
  .exact .inl (.inl (st _ _ (λz=>by rw [z,eT] at h;cases h) h))
  .exact .inl (.inr ⟨o,st _ _ (λz=>by rw [z,eT] at h;cases h) h⟩)
  exact .inr h
 have hd2:Rd H2 d (.dK kvs):=by
  rcases hd with h | ⟨o,h⟩
  .exact .inl (st _ _ (λz=>by rw [z,eT] at h;cases h) h)
  exact .inr ⟨o,st _ _ (λz=>by rw [z,eT] at h;cases h) h⟩
 obtain⟨aT,rv,pl,hz⟩:=I2.list hq2;obtain⟨pzs,ez,ei⟩:=uj rv;have uz:=pl.isList;obtain⟨oa,ga,ca,na,da⟩:=id uz;obtain⟨m,xj,lk⟩:=id I2.loc;have JC:∀b o,H2 b=some o->b≠X.env.locals:=λb o hb z=>by rw [z,I2.free] at hb;cases hb
 have P2:d≠X.env.locals:=by
  rcases hd2 with h | ⟨o,h⟩
  .exact JC d _ h
  exact JC d _ h
 have neA:a≠X.env.locals:=λz=>by
  obtain⟨o,es,ep,ho,BU,_⟩:=xj;rw [<-z,ga] at ho;cases ho;rw [da] at BU;cases BU
 obtain⟨ud,rd,lkd⟩:=lk i xs (.ref d) hN hσ (.inr (.inl hx));cases (show ud=Value.ref d from rd);obtain⟨cc,ecc,oc,QP,QO⟩:∃cc,X.env.cells.lookup xs=some cc/\s2.heap.IsCell cc (some (.ref d)):=by
  rcases lkd with ⟨l,_⟩ | ⟨_,c2,e2,h2⟩
  .have l':X.env.scope.names.lookup xs=some .local:=l;rw [hx] at l';cases l'
  exact⟨c2,e2,h2⟩
 obtain⟨cc',Z9⟩:=pD.all xs (wz hs);have e3:=pD.sub _ _ Z9;rw [ecc] at e3;cases e3;have Oi:cc≠X.env.locals:=λz=>by
  obtain⟨o,es,ep,ho,BU,_⟩:=xj;rw [<-z,QP] at ho;cases ho;rw [QO] at BU;cases BU
 obtain⟨gf,_⟩:=I2.cx f _ hf;obtain⟨gc,_⟩:=I2.cx c' _ lR;obtain⟨zl,Dc,dvs,rel,dd⟩:=ox I2.cx hd2;obtain⟨m0,F0⟩:=I2.fr;refine ksk_sorted (kz:=zs.map g) (f:=.ref f) (b:=false) (vs:=aT) (h₀:=IG.rY s2.heap) (L:=X.env.locals) (m:=m) (news:=(a,oa)::IG.ledger s2.heap X.env.locals a) (IG.Nt xj) (IG.yc neA ga) uz (by rw [au,<-rv.length,au]) (by rw [<-rv.length,au];exact h64)
  (ksk_s1 _ _) (λx=>ksk_l1 _ _) (λx=>ksk_t1 f x) (λj v kk hj Zx oF tk own F N=>?_) λD h' tk out cnt F' N' lt' ko=>?_
 .obtain⟨z,t,Tc,rfl⟩:=Bf rv j v hj;rw [bz,Tc] at Zx;cases Zx;have keep:∀b u,b≠X.env.locals->s2.heap.get? b=some u->oF.get? b=some u:=λb u nb hb=>by
   by_cases e:b=a
   .subst e;rw [ga] at hb;cases hb;exact(N (b,oa) (by simp)).1
   exact(N (b,u) (ib _ (dB _ (IG.jU.mpr ⟨nb,e,hb⟩)))).1
  have hvz:=hv z (b_ Tc);obtain⟨w',hw,zW⟩:=j4.some_of (v:=.int (g z)) (o:=valueAt dvs (Sum.inr z)) (by rw [<-hvz];exact rel.val (Sum.inr z));obtain⟨tw,rfl⟩:=(show ∃t,w'=Value.int (g z) t from zW);have OP:oF.DictOf (bA X.prog X.w) d dvs:=by
   obtain⟨o,es,ep,g1,r⟩:=dd;exact⟨o,es,ep,keep _ _ P2 g1,r⟩
  have gc2:oF.CodeRec (.ref c') (X.env.qual ++ "<lambda>"):=by
   obtain⟨c2,oc2,Kl,t2,e2,yZ,jj,Ot⟩:=gc;cases e2;exact⟨_,oc2,Kl,t2,rfl,keep _ _ (JC c' _ lR) yZ,jj,Ot⟩
  have nl:oF.NoLimit:=I2.mod.nolimit.keeps λb o e=>keep b o (cw (gM (bO e) F0.above)) (I2.bk b o e);exact Gm (s:={ s2 with heap:=oF,toks:=tk }) (A:=X.A.in1.in1) hr.depth nl (keep _ _ (JC f _ hf) gf) gc2 (λus hl=>hb _ _ _ _ _ us hl) hk We M_ VY hh hs Z9 (keep _ _ Oi QP) QO OP hw d1 d2 d3
   λh3 tk3 Y6=>KskEnd.intro (F.kept Y6) (N.grown Y6) λp hp=>hp
 have keep:∀b u,b≠X.env.locals->s2.heap.get? b=some u->h'.get? b=some u:=λb u nb hb=>by
  by_cases e:b=a
  .subst e;rw [ga] at hb;cases hb;exact(N' (b,oa) (by simp)).1
  exact(N' (b,u) (dB _ (dB _ (IG.jU.mpr ⟨nb,e,hb⟩)))).1
 have hD:s2.heap.get? D=none:=by
  cases e:s2.heap.get? D with
  | none=>rfl
  | some o =>
   exfalso;have nD:D≠X.env.locals:=(N' (D,_) cI).2.1;by_cases ea:D=a
   .have:=lt' (a,oa) cI;rw [ea] at this;exact absurd this (kM _)
   exact absurd (lt' (D,o) (dB _ (IG.jU.mpr ⟨nD,ea,e⟩))) (kM _)
 have fD:H2 D=none:=by
  cases e:H2 D with
  | none=>rfl
  | some u =>
   obtain⟨ob,g⟩:=FJ (I2.cx D u e);rw [hD] at g;cases g
 have fD1:H1 D=none:=by
  cases e:H1 D with
  | none=>rfl
  | some u =>
   by_cases z:D=T
   .obtain⟨pt2,eT2,_⟩:=SW;rw [z,eT2] at fD;cases fD
   rw [st _ _ z e] at fD;cases fD
 rw [ei,<-ez] at ko;obtain⟨qs,eo,pe,ps⟩:=Fz ko;rw [ez] at pe;have gD:=(N' (D,_) cI).1;have lq:qs.length=zs.length:=by have:=pe.length_eq;rw [au] at this;exact this
 have sl:=af fD (.lst ((qs.map (·.1)).map V.str));refine⟨.ref D,_,I2.fj (t':=tk) keep (λm' hm=>?_) hD fD (show cS X.prog X.w _ _ _ (.lst ((qs.map (·.1)).map V.str)) from ⟨by rw [au,au];exact fits ∅,qs.map (λp=>Value.str p.1 p.2),cnt,ui qs,by rw [<-eo];simpa using gD⟩),rfl,q1 D (qs.map (·.1)) _ (λb o n hb=>sl _ _ (st b o n hb)) ?_ fD1 pe ps ae⟩
 .have:=F'.ns;have e:m'=m:=by
   obtain⟨o,es,ep,ho,BU,_,hf⟩:=hm;obtain⟨o2,es2,Rm,Ik,Q0,_,QV⟩:=xj;rw [ho] at Ik;cases Ik;rw [BU] at Q0;cases Q0
   funext x
   rw [<-hf x,<-QV x]
  rw [e];exact this
 obtain⟨Ss,b1,b2,b3⟩:=SW;refine⟨Ss,sl _ _ b1,b2,b3.imp id λbG=>?_⟩;obtain⟨c3,e3,g3⟩:=bG;exact⟨c3,e3,sl _ _ g3⟩
end
open PySem M11
def AS {K:ba}{H:Hp}{p D d:Addr}{zs:List Str}{kvs:List (aR×V)}{g:G}{σ:St}{js:List (Nat×Str)}{Qp:Hp->Prop}(hσ:eV ["part"] js σ=[none,aM d])(hp:aS K H p (zs.map V.str))(hz:zs.length<=1000)
  (hd:Rd H d (.dK kvs))(hv:∀z,bw kvs (Sum.inr z)=(g z).map V.int)(ha:∀z∈zs,(g z).isSome=true)(hD:H D=none)(q:∀H2,aA H H2->H2 D=some (.lst ((zs.map λz=>(g z).getD 0).map V.int))->Qp H2) :
  ∃W:Nat->Nat->List V->St->Hp->Prop,(∃m,W 0 m [] (eV ["part"] js σ) (upd H D (.lst []))) /\
 ∀i m ys σ' H,W i m ys σ' H->((oE K p).stop i H/\Qp H)\/((oE K p).go i H/\∃m',m' < m/\∀x H',(oE K p).mQ i H x H'->dP 0 x σ' H' λσ2 H2=>iw σ2 H2 λb H3 =>
  if b=true then Ba (gT 1) (gT 0) σ2 H3 λy H4=>H4 D=some (.lst ys)/\ys.length < sizeLine/\W (i+1) m' (ys++[y]) σ2 (upd H4 D (.lst (ys++[y]))) else W (i+1) m' ys σ2 H3):=by
 refine gR (xs:=zs.map V.str) (λi ys σ2 H2=>ys=(((zs.take i).map λz=>(g z).getD 0).map V.int)/\(∃y0,σ2=[y0,aM d])/\aA H H2/\H2 D=some (.lst ys))
  ⟨rfl,⟨none,hσ⟩,af hD _,ae⟩ (λi ys σ2 H2 _ h=>h.2.2.1.tup hp) (λi x ys σ2 H2 ex h=>?_) (λys σ2 H2 h=>?_)
 .obtain⟨rfl,⟨y0,rfl⟩,sm,hd2⟩:=h;rw [bz] at ex;obtain⟨z,ez,rfl⟩:=cD.mp ex;have li:=(bu.mp ez).1;obtain⟨n,en⟩:=lY.mp (ha z (b_ ez));have hg:cu H2 d (.str z) (some (.int n)):=by
   have:=cu.r (k:=Sum.inr z) (hV.Rd.same hd sm);rw [hv,en] at this;exact this
  refine goN (yo ?_);refine⟨_,rfl,_,rfl,d,_,rfl,hg,hd2,bN (by rw [au,au,bQ];omega),?_,⟨_,rfl⟩,?_,ae⟩
  .rw [cQ,ez,bH,bH];show _=_++[V.int ((g z).getD 0)];rw [en];rfl
  intro b o hb;rw [aj (λz=>by rw [z,hD] at hb;cases hb)];exact sm b o hb
 obtain⟨rfl,_,sm,hd2⟩:=h;rw [au,cH] at hd2;exact q H2 sm hd2
end L2
namespace hV
open PySem L2 M11
section
def rH (K:ba):Sp:=λvs H Q _=>∃(d r:Addr)(kvs:List (aR×V))(g:G)(ru:ar),vs=[.ref d,.ref r]/\Rd H d (.dK kvs)/\(∀z,bw kvs (Sum.inr z)=(g z).map V.int)/\Ci K H r ru/\ru.2.length<=8/\(∀z∈ru.2,(g z).isSome=true)/\∀H',aA H H'->Q (.int (aV g ru)) H'
def zE:aK ["sizes","rule"] ["sizes","rule"] (av o9):=iN rfl rfl rfl rfl nofun
def x8 (F:iC K "rule_size" "rule_size" o9 f fd)(T:Txt mg):bS P w K mg base gp 1 f fd ["sizes","rule"] (rH K):=by
 refine F.ok zE (λvs H Q E h=>?_) (λeY A outer s H vs Q E hr h=>?_)
 .obtain⟨d,r,kvs,g,ru,rfl,_⟩:=h;rfl
 obtain⟨d,r,kvs,g,ru,rfl,hd,hv,⟨p,v1,v2⟩,h8,al,q⟩:=h;have hu:=gi hr;refine⟨_,ak (aN (aI dw ao (aD (uV rfl) rfl T.sum PyProof.Rows.boot_sum (ab (bD ["part"] [(0,"sizes")] rfl (f_ (aL aZ (pv 1) ao (λ_ _=>rfl))) (br rfl rfl) nofun rfl nofun
   (λ_ _ _ _ _=>aq (i:=0) (show (["part","sizes"]:List Str).Nodup by decide +kernel) rfl (bC rfl)) (λ_ _ _ _ _=>b9) (λ_ _ _ _ _=>fu hu (pv 1) (pv 0) (λ_ _=>rfl))) ag)))),?_⟩
 dsimp only [yz];refine⟨_,rfl,r,_,_,_,rfl,rfl,v1,rfl,p,rfl,⟨_,v2⟩,λD hD=>AS (g:=g) rfl v2 ∅ hd hv al hD λH2 s2 e2=>?_⟩;refine⟨D,_,rfl,aH.of e2,_,_,rfl,rfl,?_⟩;exact q H2 s2
end
end hV
namespace M11
open PySem
def xc.at_ {aa:List ar}{bI:List (Str×Nat)}(h:xc aa bI):∀(i:Nat)(x:Str) (k:Nat),bI[i]?=some (x,k)->∃bq,aa[k]?=some (x,bq)/\∀p∈bq,p∈(bI.take i).map (·.1):=by
 induction h with
 | nil=>intro i x k e;simp at e
 | @snoc bI k2 ru h e n p ih =>
  intro i x k ei;by_cases hi:i < bI.length
  .rw [pU hi] at ei;obtain⟨bq,a,b⟩:=ih i x k ei;exact⟨bq,a,λq hq=>by rw [pV (kJ hi)];exact b q hq⟩
  have li:=(bu.mp ei).1;rw [a9,gy] at li;have e2:i=bI.length:=by omega
  subst e2;rw [mZ (aF _),Nat.sub_self] at ei;cases ei;exact⟨ru.2,e,λq hq=>by rw [List.take_left'];exact p q hq;rfl⟩
end M11
namespace hV
open PySem L2 M11
section
def s_ {H:Hp}{p D d:Addr}{zs:List Str}{kvs:List (aR×V)}{σ:St}{js:List (Nat×Str)}{Qp:Hp->Prop}(hσ:eV ["part"] js σ=[none,aM d])(hp:aS K H p (zs.map V.str))(hz:zs.length<=1000)
  (hd:H d=some (.dK kvs))(ha:∀z∈zs,(Sum.inr z:aR)∈kvs.map (·.1))(hD:H D=none)(q:∀ys H2,ys.length=zs.length->aA H H2->H2 D=some (.lst ys)->Qp H2) :
  ∃W:Nat->Nat->List V->St->Hp->Prop,(∃m,W 0 m [] (eV ["part"] js σ) (upd H D (.lst []))) /\
 ∀i m ys σ' H,W i m ys σ' H->((oE K p).stop i H/\Qp H)\/((oE K p).go i H/\∃m',m' < m/\∀x H',(oE K p).mQ i H x H'->dP 0 x σ' H' λσ2 H2=>iw σ2 H2 λb H3 =>
  if b=true then Ba (gT 1) (gT 0) σ2 H3 λy H4=>H4 D=some (.lst ys)/\ys.length < sizeLine/\W (i+1) m' (ys++[y]) σ2 (upd H4 D (.lst (ys++[y]))) else W (i+1) m' ys σ2 H3):=by
 refine gR (xs:=zs.map V.str) (λi ys σ2 H2=>ys.length=i/\(∃y0,σ2=[y0,aM d])/\aA H H2/\H2 D=some (.lst ys))
  ⟨rfl,⟨none,hσ⟩,af hD _,ae⟩ (λi ys σ2 H2 _ h=>h.2.2.1.tup hp) (λi x ys σ2 H2 ex h=>?_) (λys σ2 H2 h=>?_)
 .obtain⟨rfl,⟨y0,rfl⟩,sm,hd2⟩:=h;rw [bz] at ex;obtain⟨z,ez,rfl⟩:=cD.mp ex;have li:=(bu.mp ez).1;obtain⟨v,ev⟩:=lY.mp ((eF kvs (Sum.inr z)).mpr (ha z (b_ ez)));have hg:cu H2 d (.str z) (some v):=by
   have:=cu.k (k:=Sum.inr z) (sm _ _ hd);rw [ev] at this;exact this
  refine goN (yo ?_);refine⟨_,rfl,_,rfl,d,_,rfl,hg,hd2,bN ∅,by rw [a9];rfl,⟨_,rfl⟩,?_,ae⟩;intro b o hb;rw [aj (λz=>by rw [z,hD] at hb;cases hb)];exact sm b o hb
 obtain⟨e,_,sm,hd2⟩:=h;rw [au] at e;exact q ys H2 e sm hd2
def uq (K:ba):Sp:=λvs H Q _=>∃(R D:Addr)(rs ts:List Addr)(aa:List ar)(bI:List (Str×Nat)),vs=[.ref R,.ref D]/\aH K H R (rs.map V.ref)/\bL K H rs aa/\aa.length<=1000/\(∀ru∈aa,ru.2.length<=8)/\aH K H D (ts.map V.ref)/\pM K H ts bI/\xc aa bI/\bI.length<=1000 /\
 ∀(d:Addr)(kvs:List (aR×V))(H':Hp),H d=none->aA H H'->H' d=some (.dK kvs)->kvs.map (·.1)=(bI.map (·.1)).map Sum.inr->Q (.ref d) H'
def lG:aK ["rules","empties","trees","name","number"] ["rules","empties"] (av rT):=iN rfl rfl rfl rfl nofun
def Ae (F:iC K "empty_by_name" "empty_by_name" rT f fd)(T:Txt mg):bS P w K mg base gp 1 f fd ["rules","empties"] (uq K):=by
 refine F.ok lG (λvs H Q E h=>?_) (λeY A outer s H vs Q E hr h=>?_)
 .obtain⟨R,D,rs,ts,aa,bI,rfl,_⟩:=h;rfl
 obtain⟨R,D,rs,ts,aa,bI,rfl,hR,cA,bE,h8,hD,ZE,QW,QY,q⟩:=h;have hu:=gi hr;refine⟨_,ai (az (i:=2) lG.nd rfl (Or.inr rfl) g9)
  (ai (bM cq rfl (a8 (pv 1)) (fS (n:=2) K rfl (aB (aq (i:=3) lG.nd rfl (bC rfl)) (aB (aq (i:=4) lG.nd rfl (bC rfl)) cf)))
   (ak (iK hu (pv 2) (pv 3) (bo (ab (pv 4) (ab (bc dS rfl T.tup mY (ab (bD ["part"] [(2,"trees")] rfl (f_ (aL aZ (aL bB (pv 0) (pv 4) (λ_ _=>rfl)) ao (λ_ _=>rfl))) (br rfl rfl) nofun rfl nofun
    (λ_ _ _ _ _=>aq (i:=0) (show (["part","trees"]:List Str).Nodup by decide +kernel) rfl (bC rfl)) (λ_ _ _ _ _=>b9) (λ_ _ _ _ _=>fu hu (pv 1) (pv 0) (λ_ _=>rfl))) ag)) ag))) rfl)))
  (ak (aN (pv 2)))),?_⟩
 nofun
 refine λd ze=>?_;have s1:=af ze (.dK []);have e1:upd H d (.dK []) d=some (.dK []):=ae;generalize upd H d (.dK [])=H1 at s1 e1;refine goN ?_
 ac_rfl
 have lt:=aU ZE;have ll:=aU cA;have nd:=QW.nd
 let qw:pL:=λi σ H3=>∃(kvs:List (aR×V))(y3 y4:Option V),σ=[aM R,aM D,aM d,y3,y4]/\aA H H3/\H3 d=some (.dK kvs)/\kvs.map (·.1)=((bI.take i).map (·.1)).map Sum.inr
 refine⟨_,rfl,D,rfl,⟨_,s1.seq hD⟩,cK (xs:=ts.map V.ref) qw ⟨[],_,_,rfl,s1,e1,rfl⟩ ?_ ?_ ?_⟩
 .rintro i σ H3 _ ⟨kvs,y3,y4,rfl,s3,_⟩;exact s3.seq hD
 .rintro i x σ H3 ex ⟨kvs,y3,y4,rfl,s3,ed,ek⟩
  ac_nf0
  rw [bz] at ex;obtain⟨t,et,rfl⟩:=cD.mp ex;have li:=(bu.mp et).1;obtain⟨e,ee⟩:∃e,bI[i]?=some e:=⟨bI[i]'∅,dH ∅⟩;obtain⟨t',ZW,vt⟩:=Paired.at_ ZE i e ee;rw [et] at ZW;cases ZW;obtain⟨x,k⟩:=e;obtain⟨bq,hk,Zr⟩:=QW.at_ i x k ee;obtain⟨r,er,p,v1,v2⟩:=Paired.at_ cA k _ hk;have u9:ke (rs.map V.ref) (k:Int)=some (.ref r):=b0 (by rw [bz,er];rfl);have Zs:bq.length<=8:=h8 _ (b_ hk);refine⟨t,_,rfl,s3.tup vt,rfl,_,_,rfl,_,_,rfl,rfl,?_⟩;refine⟨_,rfl,_,rfl,_,rfl,R,_,_,_,rfl,rfl,s3.seq hR,u9,r,_,_,_,rfl,rfl,s3.tup v1,rfl,p,rfl,⟨_,s3.tup v2⟩,λD2 jc=>s_ (zs:=bq) rfl (s3.tup v2) ∅ ed (λz hz=>by rw [ek];exact cO.mpr (Zr z hz)) jc λys H4 ly s4 e4=>?_⟩;refine⟨D2,ys,rfl,.inl ⟨aH.of e4,λt2 Nr=>⟨iQ,λtV Dt=>?_⟩⟩⟩;have k5:=(af Nr (.tup ys)).trans (af Dt (.tup [.int (k:Int),.ref t2]));generalize upd (upd H4 t2 (.tup ys)) tV (.tup [.int (k:Int),.ref t2])=H5 at k5;have ed5:=k5 _ _ (s4 _ _ ed);have lkv:kvs.length=i:=by
   have:=congrArg List.length ek;rw [au,au,au,bQ] at this;omega
  have nx:x∉(bI.take i).map (·.1):=λz=>by
   obtain⟨e2,m2,q2⟩:=cY.mp z;obtain⟨j,hj⟩:=iI m2;rw [List.getElem?_take] at hj
   split at hj
   .rename_i Zy
    have a1:(bI.map (·.1))[j]?=some x:=by rw [bz,hj];exact congrArg some q2
    have a2:(bI.map (·.1))[i]?=some x:=by rw [bz,ee];rfl
    have:=(List.getElem?_inj (by rw [au];omega) nd).mp (a1.trans a2.symm);omega
   cases hj
  refine⟨_,rfl,_,rfl,d,_,rfl,.inl ⟨kvs,Sum.inr x,ed5,rfl,bN ∅,rfl⟩,?_⟩;refine⟨_,_,_,rfl,λb o hb=>?_,ae,?_⟩
  .rw [aj (λz=>by rw [z,ze] at hb;cases hb)];exact k5 _ _ (s4 _ _ (s3 b o hb))
  rw [iJ (by rw [ek];exact λz=>nx (cO.mp z)),ek,cQ,ee,bH,bH];rfl
 rintro σ H3 ⟨kvs,y3,y4,rfl,s3,ed,ek⟩;rw [au,lt,cH] at ek;exact⟨_,rfl,q d kvs H3 ze s3 ed ek⟩
end
end hV
namespace M11
open PySem
def Le (g' g:G):Prop:=∀z n,g z=some n->∃m,g' z=some m/\m<=n
def yr {g:G}{ru:ar}(f:cW bl g ru=true):lC g ru=true/\∀n,g ru.1=some n->aV g ru < n:=by
 unfold cW at f;rw [pR] at f;refine⟨f.1,λn e=>?_⟩;have:=f.2;rw [e] at this;have:(!(some n:Option Int).isSome || bl (aV g ru) n)=true:=this
 simpa [bl] using this
def le_step {g:G}{ru:ar}(f:cW bl g ru=true):Le (fq g ru.1 (aV g ru)) g:=λz n e=>by
 unfold fq;by_cases c:z=ru.1
 .rw [ax c];subst c;exact⟨_,rfl,Int.le_of_lt ((yr f).2 n e)⟩
 rw [ay c];exact⟨n,e,oH _⟩
theorem EG {g g':G}(h:Le g' g):∀ps:List Str,(∀p∈ps,(g p).isSome=true)->(∀p∈ps,(g' p).isSome=true)/\(ps.map λp=>(g' p).getD 0).sum<=(ps.map λp=>(g p).getD 0).sum
 | [],_=>⟨λp hp=>(by cases hp),oH _⟩
 | p::r,a=>by
  obtain⟨h1,h2⟩:=EG h r λq hq=>a q (dB _ hq);obtain⟨n,en⟩:=lY.mp (a p cI);obtain⟨m,em,lm⟩:=h p n en;refine⟨λq hq=>?_,?_⟩
  .rcases bX.mp hq with rfl | hq
   .rw [em];rfl
   exact h1 q hq
  rw [cP,cP,kK,kK,en,em];show m+_<=n+_;omega
def u_ {g:G}{ru:ar}:lC g ru=true↔∀p∈ru.2,(g p).isSome=true:=by
 unfold lC;rw [gL]
def size_le {g g':G}{ru:ar}(h:Le g' g)(a:lC g ru=true):lC g' ru=true/\aV g' ru<=aV g ru:=by
 obtain⟨h1,h2⟩:=EG h ru.2 (u_.mp a);exact⟨u_.mpr h1,by unfold aV;omega⟩
def OS (aa:List ar) (hs:List Str)(g:G):Prop:=∀h n,g h=some n->h∉hs\/∃ru∈aa,ru.1=h/\lC g ru=true/\aV g ru<=n
def Eu {aa:List ar}{hs:List Str}(g:G)(ru:ar)(j:OS aa hs g)(m:ru∈aa)(f:cW bl g ru=true):OS aa hs (fq g ru.1 (aV g ru)):=λh n e=>by
 have le:=le_step f;by_cases c:h=ru.1
 .have e2:n=aV g ru:=by
   unfold fq at e;rw [ax c] at e;exact(iu e).symm
  obtain⟨a1,a2⟩:=size_le le (yr f).1;exact .inr ⟨ru,m,c.symm,a1,∅⟩
 have e2:g h=some n:=by
  unfold fq at e;rw [ay c] at e;exact e
 rcases j h n e2 with h1 | ⟨Ie,m2,q2,a2,l2⟩
 .exact .inl h1
 obtain⟨b1,b2⟩:=size_le le a2;exact .inr ⟨Ie,m2,q2,b1,∅⟩
def C4 {aa:List ar}{hs:List Str}{g0 g:G}(j0:OS aa hs g0)(st:fk bl aa g0 g)(se:jd bl aa g){h:Str}{n:Int}(hh:h∈hs)(e:g h=some n):∃ru∈aa,ru.1=h/\lC g ru=true/\aV g ru=n:=by
 have j:OS aa hs g:=fk.keep (J:=OS aa hs) (λg ru j m f=>Eu g ru j m f) st j0;rcases j h n e with z | ⟨ru,m,q,a,l⟩
 .exact absurd hh z
 refine⟨ru,m,q,a,?_⟩;have f:=se ru m;unfold cW at f;rw [a,q,e] at f;have f:(true && (!(some n:Option Int).isSome || bl (aV g ru) n))=false:=f
 have f2:¬aV g ru < n:=by simpa [bl] using f
 omega
theorem BK {g:G}(nn:NN g):∀(ps:List Str)(p:Str) (m:Int),p∈ps->g p=some m->m<=(ps.map λp=>(g p).getD 0).sum
 | q::r,p,m,hp,e=>by
  rw [cP,kK];have h1:=jP g nn r;rcases bX.mp hp with rfl | hp
  .rw [e];show m<=m+_;omega
  have h2:=BK nn r p m hp e;have h3:0<=(g q).getD 0:=by
   cases eq:g q with
   | none=>exact oH _
   | some n=>exact nn q n eq
  omega
def CG {g:G}(nn:NN g){ru:ar}{p:Str}{m:Int}(hp:p∈ru.2)(e:g p=some m):m < aV g ru:=by
 have:=BK nn ru.2 p m hp e;unfold aV;omega
theorem A6:∀(bj ps bW:List Str),(∀z∈bW,z∉bj)->∀z∈tN bj bW ps,z∉bj
 | _,[],bW,h=>h
 | bj,p::r,bW,h=>by
  show ∀z∈tN bj (addW bj bW p) r,z∉bj;refine A6 bj r _ ?_;unfold addW
  split
  .exact h
  rename_i hp
  unfold iB
  split
  .exact h
  intro z hz;rcases bR.mp hz with hz | hz
  .exact h z hz
  rw [bF.mp hz];exact hp
def vQ {g:Str->Int}{zs:List Str}(h:zs.Pairwise λx y=>g x<=g y){i:Nat}{x p:Str}(e:zs[i]?=some x)(hp:p∈zs)(l:g p < g x):p∈zs.take i:=by
 obtain⟨j,ej⟩:=iI hp;obtain⟨li,ei⟩:=bu.mp e;obtain⟨lj,ej2⟩:=bu.mp ej;have Zy:j < i:=by
  rcases Nat.lt_trichotomy j i with h1 | h1 | h1
  .exact h1
  .subst h1;rw [e] at ej;cases ej;omega
  have:=List.pairwise_iff_getElem.mp h i j li lj h1;rw [ei,ej2] at this;omega
 rw [List.mem_iff_getElem?];exact⟨j,by rw [List.getElem?_take,ax Zy];exact ej⟩
end M11
namespace hV
open PySem L2 M11
def TU (aa:List ar):OS aa (hd aa) (zc aa):=λh n e=>by
 unfold zc at e;by_cases c:h∈tN (hd aa) [] (aa.flatMap (·.2))
 .exact .inl (A6 _ _ [] (λz hz=>by cases hz) h c)
 rw [ay c] at e;cases e
def nn0 (aa:List ar):NN (zc aa):=λh n e=>by
 unfold zc at e;by_cases c:h∈tN (hd aa) [] (aa.flatMap (·.2))
 .rw [ax c] at e;cases e;exact oH _
 rw [ay c] at e;cases e
def MD {aa:List ar}{g:G}(st:fk M11.bl aa (zc aa) g):NN g:=fk.keep (J:=NN) (λg ru j m f=>wt j ru) st (nn0 aa)
theorem vI (bj:List Str):∀(ps bW:List Str)(x:Str),(x∈bW\/(x∈ps/\x∉bj))->x∈tN bj bW ps
 | [],bW,x,h=>by
  rcases h with h | ⟨h,_⟩
  .exact h
  cases h
 | p::r,bW,x,h=>by
  show x∈tN bj (addW bj bW p) r;apply vI bj r;unfold addW;by_cases c:p∈bj
  .rw [ax c];rcases h with h | ⟨h,n⟩
   .exact .inl h
   rcases bX.mp h with z | z
   .exact absurd (z ▸ c) n
   exact .inr ⟨z,n⟩
  rw [ay c];rcases h with h | ⟨h,n⟩
  .exact .inl ((oC _ _ _).mpr (.inl h))
  rcases bX.mp h with z | z
  .exact .inl ((oC _ _ _).mpr (.inr z))
  exact .inr ⟨z,n⟩
def PU:List Stmt->Pos
 | [_,_,_,.For _ (.Call _ _ [⟨_,.Lambda _ _ _ pos,_⟩] _) _ _ _,_]=>pos
 | _=>⟨0,0,0,0⟩
abbrev posB:Pos:=PU (cC nO)
abbrev Ih:Str := "least_by_part" ++ ".<locals>." ++ "<lambda>"
section
def o6 (K:ba)(T1 T3:Addr):Sp:=λvs H Q _=>∃(R:Addr)(rs:List Addr)(aa:List ar),vs=[.ref R]/\aH K H R (rs.map V.ref)/\bL K H rs aa/\aa.length < 64/\(∀ru∈aa,ru.2.length<=8)/\(∀g,fk M11.bl aa (zc aa) g->jd M11.bl aa g->∀h∈hd aa,∃n,g h=some n/\n<=60)/\Tab T1 r9.2.2.2 yW H/\Tab T3 posB Ih H/\T1≠T3 /\
 ∀(d:Addr)(kvs:List (aR×V))(H':Hp),H d=none->md T1 T3 H H'->Tab T1 r9.2.2.2 yW H'->Tab T3 posB Ih H'->H' d=some (.dK kvs)->(∀z,z∈hd aa->(Sum.inr z:aR)∈kvs.map (·.1))->Q (.ref d) H'
structure LB (K:ba)(rs:List Addr)(aa:List ar)(qH:List (aR×V))(ps:List (Str×Addr))(R dz dn T1 T3:Addr)(H5:Hp):Prop where
 hR:aH K H5 R (rs.map V.ref)
 cA:bL K H5 rs aa
 nm:IF ps (λn=>nums aa n aa.length) H5 dn
 rz:Rd H5 dz (.dK qH)
 t1:Tab T1 r9.2.2.2 yW H5
 t3:Tab T3 posB Ih H5
theorem LB.same {rs:List Addr}{aa:List ar}{qH:List (aR×V)}{ps:List (Str×Addr)}{R dz dn T1 T3:Addr}{H5 H6:Hp}(h:LB K rs aa qH ps R dz dn T1 T3 H5)(s:aA H5 H6):LB K rs aa qH ps R dz dn T1 T3 H6 :=
 ⟨s.seq h.hR,h.cA.same s,h.nm.same s,hV.Rd.same h.rz s,h.t1.same s,h.t3.same s⟩
def LB.KU {rs:List Addr}{aa:List ar}{qH:List (aR×V)}{ps:List (Str×Addr)}{R dz dn T1 T3 d:Addr}{H5 H6:Hp}{kv:List (aR×V)}(h:LB K rs aa qH ps R dz dn T1 T3 H5)(e:H5 d=some (.dK kv))(n1:dn≠d)(n2:dz≠d)(s:cX d H5 H6):LB K rs aa qH ps R dz dn T1 T3 H6:=by
 have tk:∀a xs,aS K H5 a xs->aS K H6 a xs:=λa xs z=>by
  rcases z with (z | ⟨u,z⟩) | z
  .exact .inl (.inl (s _ _ (λy=>by rw [y,e] at z;cases z) z))
  .exact .inl (.inr ⟨u,s _ _ (λy=>by rw [y,e] at z;cases z) z⟩)
  exact .inr z
 have tb:∀{T':Addr}{pos':Pos}{Ig:Str},Tab T' pos' Ig H5->Tab T' pos' Ig H6:=λ{T' pos' Ig} ⟨p,a,b,cc⟩=>⟨p,s _ _ (λy=>by rw [y,e] at a;cases a) a,b,cc.imp id λ⟨c',e1,e2⟩=>⟨c',e1,s _ _ (λy=>by rw [y,e] at e2;cases e2) e2⟩⟩;refine⟨?_,h.cA.keep tk,⟨s _ _ n1 h.nm.hd,h.nm.n1,h.nm.n2,λp hp=>s _ _ (λy=>by have a:=h.nm.lst p hp;rw [y,e] at a;cases a) (h.nm.lst p hp)⟩,?_,tb h.t1,tb h.t3⟩
 .rcases h.hR with (z | ⟨u,z⟩) | z
  .exact .inl (.inl (s _ _ (λy=>by rw [y,e] at z;cases z) z))
  .exact .inl (.inr ⟨u,s _ _ (λy=>by rw [y,e] at z;cases z) z⟩)
  exact .inr z
 rcases h.rz with z | ⟨u,z⟩
 .exact .inl (s _ _ n2 z)
 exact .inr ⟨u,s _ _ n2 z⟩
def LB.Pw {rs:List Addr}{aa:List ar}{qH:List (aR×V)}{ps:List (Str×Addr)}{R dz dn T1 T3:Addr}{H5 H6:Hp}(h:LB K rs aa qH ps R dz dn T1 T3 H5)(nT:T1≠T3)(s:cX T3 H5 H6)(t:Tab T3 posB Ih H6):LB K rs aa qH ps R dz dn T1 T3 H6:=by
 obtain⟨pt,eT,_⟩:=id h.t3;refine⟨Bx s h.t3 h.hR,h.cA.keep λ_ _ z=>A8 s h.t3 z,⟨s _ _ (λy=>by have a:=h.nm.hd;rw [y,eT] at a;cases a) h.nm.hd,h.nm.n1,h.nm.n2,λp hp=>s _ _ (λy=>by have a:=h.nm.lst p hp;rw [y,eT] at a;cases a) (h.nm.lst p hp)⟩,?_,A9 s h.t3 h.t1 nT,t⟩;rcases h.rz with z | ⟨u,z⟩
 .exact .inl (s _ _ (λy=>by rw [y,eT] at z;cases z) z)
 exact .inr ⟨u,s _ _ (λy=>by rw [y,eT] at z;cases z) z⟩
theorem pC:∀(hs:List Str)(bW:List (aR×V)) (as:List Str),bW.map (·.1)=as.map Sum.inr->(di (hs.map λh=>((Sum.inr h:aR),V.str h)) bW).map (·.1)=(M11.wV as hs).map Sum.inr
 | [],bW,as,e=>e
 | h::r,bW,as,e=>pC r (bU bW (Sum.inr h) (.str h)) (M11.iB as h) (hV.kZ e h)
def iR:aK ["rules","numbers","trees","name","least","sizes"] ["rules"] (av nO):=iN rfl rfl rfl rfl nofun
def Ad {T1 T3:Addr}(F:yO K "least_by_part" "least_by_part" nO f fd T3)(T:Txt mg)(hB:tM mg base)(hS:mg "sorted"=none)(GH:aC P w K mg base 3 "heads_of" ["rules"] (jQ K))(GL:aC P w K mg base 3 "least_sizes" ["rules"] (qA K T1))(GN:aC P w K mg base 3 "numbers_by_name" ["rules"] (EL K))(GZ:aC P w K mg base 3 "rule_size" ["sizes","rule"] (rH K)):bS P w K mg base gp 4 f fd ["rules"] (o6 K T1 T3):=by
 refine F.ok iR (λvs H Q E h=>?_) (λc A outer s H vs Q E hC hr h=>?_)
 .obtain⟨R,rs,aa,rfl,_⟩:=h;rfl
 obtain⟨R,rs,aa,rfl,hR,cA,bE,h8,GI,JR,Wj,nT,q⟩:=h;have hu:=gi hr;refine⟨_,ai (az (i:=5) iR.nd rfl (Or.inr rfl) (bp GL hr rfl (ab (pv 0) ag)))
  (ai (az (i:=1) iR.nd rfl (Or.inr rfl) (bp GN hr rfl (ab (pv 0) ag)))
  (ai (az (i:=2) iR.nd rfl (Or.inr rfl) (bc (dW rfl) rfl T.AR gk (ab (bD ["part"] [(1,"numbers")] rfl (BI (pv 5)) (br rfl rfl) nofun rfl nofun
    (λ_ _ _ _ _=>aq (i:=0) (show (["part","numbers"]:List Str).Nodup by decide +kernel) rfl (bC rfl)) (λ_ _ _ _ _=>iq (eK (eQ hu (pv 0) (pv 1)))) (λ_ _ _ _ _=>bo (ab (pv 0) (ab (pv 0) ag)))) ag)))
  (ai (bM cq rfl (a8 (Ft (i:=5) (T:=T3) hr rfl hC hB rfl hS (ab (bp GH hr rfl (ab (pv 0) ag)) ag) rfl rfl (λy hy=>by
    rcases bX.mp hy with h | h
    .cases h
    rcases bX.mp h with h | h
    .cases h;rfl
    cases h) (λq cl pm gW c' us hl=>match us,hl with | [_],_=>rfl) rfl rfl rfl nofun rfl rfl)) (aq (i:=3) iR.nd rfl (Or.inr rfl))
   (ai (i_ (iy:=4) ["number"] [(5,"sizes"),(0,"rules"),(3,"name")] iR.nd rfl rfl rfl (a8 (fu hu (pv 1) (pv 3) (λ_ _=>rfl))) (br rfl rfl) nofun rfl nofun
    (λ_ _ _ _ _=>aq (i:=0) (show (["number","sizes","rules","name"]:List Str).Nodup by decide +kernel) rfl (bC rfl)) (λ_ _ _ _ _=>iq (aX hU (bp GZ hr rfl (ab (pv 1) (ab (aL (Gp K) (pv 2) (pv 0) (λ_ _=>rfl)) ag))) (fu hu (pv 1) (pv 3) (λ_ _=>rfl)) (bK _))) (λ_ _ _ _ _=>pv 0))
   (ak (iK hu (pv 2) (pv 3) (bo (ab (aL bB (pv 4) ao (λ_ _=>rfl)) (ab (bc dS rfl T.tup mY (ab (bD ["part"] [(2,"trees")] rfl (f_ (aL aZ (aL bB (pv 0) (aL bB (pv 4) ao (λ_ _=>rfl)) (λ_ _=>rfl)) ao (λ_ _=>rfl))) (br rfl rfl) nofun rfl nofun
    (λ_ _ _ _ _=>aq (i:=0) (show (["part","trees"]:List Str).Nodup by decide +kernel) rfl (bC rfl)) (λ_ _ _ _ _=>b9) (λ_ _ _ _ _=>fu hu (pv 1) (pv 0) (λ_ _=>rfl))) ag)) ag))) rfl))))
  (ak (aN (pv 2)))))),?_⟩
 nofun
 refine⟨_,rfl,R,rs,aa,rfl,hR,cA,∅,h8,JR,λdz qH KR g H1 fz s1 t1 ez kz vz Sf Yu lz=>?_⟩;refine goN ?_
 ac_rfl
 have K8:=Bx s1 JR hR;have QL:=cA.keep λ_ _ z=>A8 s1 JR z;have Yn:=A9 s1 JR Wj (gC nT);refine⟨_,rfl,R,rs,aa,rfl,K8,QL,∅,λdn ps H2 fn s2 nm pk pf=>?_⟩;refine goN ?_
 ac_rfl
 have OG:=s2 _ _ ez;refine⟨_,rfl,dz,qH,rfl,OG,λo D hD=>?_⟩;have UX:∀p∈ps,p.2≠dz:=λp hp z=>by
  have a:=nm.lst p hp;rw [z,OG] at a;cases a
 have ndz:dn≠dz:=λz=>by rw [z,ez] at fn;cases fn
 have nz1:T1≠dz:=λz=>by
  obtain⟨p,a,_⟩:=t1;rw [z,ez] at a;cases a
 have nz3:T3≠dz:=λz=>by
  obtain⟨p,a,_⟩:=Yn;rw [z,ez] at a;cases a
 have O9:∀{T':Addr}{pos':Pos}{Ig:Str},T'≠dz->Tab T' pos' Ig H2->Tab T' pos' Ig (upd H2 dz (.kr o (.dK qH))):=λ{T' pos' Ig} n ⟨p,a,b,cc⟩=>⟨p,by rw [aj n];exact a,b,cc.imp id λ⟨c',e1,e2⟩=>⟨c',e1,by rw [aj (λz=>by rw [z,OG] at e2;cases e2)];exact e2⟩⟩;have L3:LB K rs aa qH ps R dz dn T1 T3 (upd H2 dz (.kr o (.dK qH))):=by
  refine⟨?_,(QL.same s2).keep λ_ _ z=>ix OG z,⟨by rw [aj ndz];exact nm.hd,nm.n1,nm.n2,λp hp=>by rw [aj (UX p hp)];exact nm.lst p hp⟩,.inr ⟨o,ae⟩,O9 nz1 (t1.same s2),O9 nz3 (Yn.same s2)⟩;rcases s2.seq K8 with (h | ⟨u,h⟩) | h
  .exact .inl (.inl (by rw [aj (λz=>by rw [z,OG] at h;cases h)];exact h))
  .exact .inl (.inr ⟨u,by rw [aj (λz=>by rw [z,OG] at h;cases h)];exact h⟩)
  exact .inr h
 have e3:upd H2 dz (.kr o (.dK qH)) dz=some (.kr o (.dK qH)):=ae;have Cz:md T1 T3 H (upd H2 dz (.kr o (.dK qH))):=λb u n1 n3 hb=>by
  rw [aj (λz=>by rw [z,fz] at hb;cases hb)];exact s2 _ _ (s1 b u n1 hb)
 generalize upd H2 dz (.kr o (.dK qH))=H3 at hD L3 e3 Cz ⊢;have lkz:qH.length=KR.length:=by
  have:=congrArg List.length kz;rwa [au,au] at this
 refine tE (λi ys σ2 H4=>∃ts:List Addr,ys=ts.map V.ref/\(∃y0,σ2=[y0,aM dn])/\aA H3 H4/\H4 D=some (.lst ys)/\ts.length<=i/\Paired (λt h=>aS K H4 t [.str h,.str h]) ts ((KR.take i).filter λz=>!decide (z∈hd aa)))
  ⟨[],rfl,⟨none,rfl⟩,af hD _,ae,aF _,.nil⟩ (λi ys σ2 H4 _ h=>?_) (λi kv ys σ2 H4 ex h=>?_) (λys σ2 H4 h=>?_)
 .obtain⟨_,_,_,sm,_⟩:=h;exact sm _ _ e3
 .obtain⟨ts,rfl,⟨y0,rfl⟩,sm,e4,lts,pt⟩:=h;obtain⟨z,ezz,ekz⟩:∃z,KR[i]?=some z/\kv.1=Sum.inr z:=by
   have a1:(qH.map (·.1))[i]?=some kv.1:=by rw [bz,ex];rfl
   rw [kz,bz] at a1;obtain⟨z,a2,a3⟩:=cD.mp a1;exact⟨z,a2,a3.symm⟩
  rw [ekz];have L4:=L3.same sm;have hin:(bw (ps.map jK) (Sum.inr z)).isSome=decide (z∈hd aa):=by
   rw [mT,eF,decide_eq_true_iff,<-pk];rw [jn];constructor
   .intro h;obtain⟨p,hp,e⟩:=cY.mp h;exact cY.mpr ⟨p,hp,mh e⟩
   intro h;obtain⟨p,hp,e⟩:=cY.mp h;exact cY.mpr ⟨p,hp,congrArg Sum.inr e⟩
  refine goN ?_;refine⟨_,rfl,_,rfl,dn,_,rfl,cu.k (k:=Sum.inr z) L4.nm.hd,_,rfl,?_⟩;rw [hin];have G8:((KR.take (i+1)).filter λz=>!decide (z∈hd aa))=((KR.take i).filter λz=>!decide (z∈hd aa))++(if (!decide (z∈hd aa))=true then [z] else []):=by
   rw [cQ,ezz,oY]
   congr 1
   by_cases c:z∈hd aa <;> simp [c]
  refine cg (λcc=>?_) (λcc=>?_)
  .refine⟨_,rfl,_,rfl,iQ,λt ht=>?_⟩;have k5:=af ht (.tup [kV (Sum.inr z),kV (Sum.inr z)]);have v5:aS K (upd H4 t (.tup [kV (Sum.inr z),kV (Sum.inr z)])) t [.str z,.str z]:=aS.of ae;generalize upd H4 t (.tup [kV (Sum.inr z),kV (Sum.inr z)])=H5 at k5 v5;have li:=(bu.mp ex).1;have e5:=k5 _ _ e4;refine⟨e5,bN (by rw [au];omega),ts++[t],by rw [bH];rfl,⟨_,rfl⟩,λb u hb=>?_,ae,by rw [a9,gy];omega,?_⟩
   .rw [aj (λz=>by rw [z,hD] at hb;cases hb)];exact k5 _ _ (sm b u hb)
   rw [G8,ax cc];exact h_ (Paired.fc pt λ_ _ z=>a7 e5 (k5.tup z)) (a7 e5 v5)
  refine⟨ts,rfl,⟨_,rfl⟩,sm,e4,∅,?_⟩;rw [G8,ay cc,iS];exact pt
 obtain⟨ts,rfl,_,s4,e4,lts,pt⟩:=h;rw [lkz,cH] at pt;have Zl:∀z,z∉hd aa->(g z).isSome=true->z∈KR.filter λz=>!decide (z∈hd aa):=λz hz gz=>by
  refine lW.mpr ⟨?_,by simpa using hz⟩;have a1:(bw qH (Sum.inr z)).isSome=true:=by rw [vz,oX];exact gz
  rw [eF,kz] at a1;exact cO.mp a1
 have lws:(KR.filter λz=>!decide (z∈hd aa)).length<=20000:=dY (rB _ _) ∅;generalize KR.filter (λz=>!decide (z∈hd aa))=ws at pt Zl lws;have kp:Paired (λt (kv:aR×V)=>aS K H4 t [kV kv.1,kv.2]) ts (ws.map λh=>((Sum.inr h:aR),V.str h)):=cy pt λ_ _ z=>z;refine⟨D,ts,_,rfl,e4,kp,λdt BU=>?_⟩;have kt:∀z∈ws,(Sum.inr z:aR)∈(di (ws.map λh=>((Sum.inr h:aR),V.str h)) []).map (·.1):=λz hz=>by
  rw [pC ws [] [] rfl];exact cO.mpr ((ir ws [] z).mpr (.inr hz))
 have lkt:(di (ws.map λh=>((Sum.inr h:aR),V.str h)) []).length<=20000:=by
  have a:=congrArg List.length (pC ws [] [] rfl);rw [au,au] at a;have:=iP ws [];simp only [jq] at this;omega
 generalize di (ws.map λh=>((Sum.inr h:aR),V.str h)) []=Qm at kt lkt;have s5:=s4.trans (af BU (.dK Qm));have e5:upd H4 dt (.dK Qm) dt=some (.dK Qm):=ae;have Lc:H3 dt=none:=s4.free BU;generalize upd H4 dt (.dK Qm)=H5 at s5 e5;have L5:=L3.same s5;refine goN ?_
 ac_rfl
 refine⟨_,rfl,R,rs,aa,rfl,L5.hR,L5.cA,∅,λDH H6 fH s6 eH=>?_⟩;have L6:=L5.same s6;have JG:=iP (aa.map (·.1)) [];simp only [jq,au] at JG;have gz:∀z∈hd aa,∃n,g z=some n:=λz hz=>by
  obtain⟨n,e,_⟩:=GI g Sf Yu z hz;exact⟨n,e⟩
 refine⟨L6.t3,DH,hd aa,dz,qH,λz=>(g z).getD 0,rfl,aH.of eH,by unfold hd;omega,rfl,L6.rz,λz hz=>by obtain⟨n,e⟩:=gz z hz;rw [vz,e];show _=some (V.int ((g z).getD 0));rw [e];rfl,λl LD H7 s7 t37 fl pe pw el=>?_⟩;have L7:=L6.Pw nT s7 t37;have U3:dt≠T3:=λz=>by
  obtain⟨p,a,_⟩:=L5.t3;rw [<-z,e5] at a;cases a
 have e7:=s7 _ _ U3 (s6 _ _ e5);have YS:dn≠dt:=λz=>by have a:=L3.nm.hd;rw [z,Lc] at a;cases a
 have YL:dz≠dt:=λz=>by rw [<-z,e3] at Lc;cases Lc
 have Ic:md T1 T3 H H7:=λb u n1 n3 hb=>s7 _ _ n3 (s6 _ _ (s5 _ _ (Cz b u n1 n3 hb)));have U0:l≠dt:=λz=>by rw [z,s6 _ _ e5] at fl;cases fl
 have nn:=MD Sf;have hlz:LD.length < 64:=by rw [pe.length_eq];unfold hd;omega
 have RJ:∀ru∈aa,∀p∈ru.2,(g p).isSome=true:=λru iZ p hp=>by
  by_cases hh:p∈hd aa
  .obtain⟨n,e⟩:=gz p hh;rw [e];rfl
  have j0:∃n,zc aa p=some n:=⟨0,ax (vI _ _ [] p (.inr ⟨q8.mpr ⟨ru,iZ,hp⟩,hh⟩))⟩;have:∃n,g p=some n:=fk.keep (J:=λg=>∃n,g p=some n) (λg ru ⟨n,e⟩ m f=>by obtain⟨k,a,_⟩:=le_step f p n e;exact⟨k,a⟩) Sf j0;obtain⟨n,e⟩:=this;rw [e];rfl
 have ll:=aU cA
 let qw:pL:=λi σ H8=>∃(kvs:List (aR×V))(y3 y4:Option V),σ=[aM R,aM dn,aM dt,y3,y4,aM dz]/\cX dt H7 H8/\H8 dt=some (.dK kvs)/\kvs.length<=20000+i/\(∀z∈ws,(Sum.inr z:aR)∈kvs.map (·.1))/\(∀z∈LD.take i,(Sum.inr z:aR)∈kvs.map (·.1))
 refine⟨l,rfl,⟨_,aH.of el⟩,cK (xs:=LD.map V.str) qw ⟨Qm,_,_,rfl,λ_ _ _ h=>h,e7,∅,kt,λz hz=>by cases hz⟩ ?_ ?_ ?_⟩
 .rintro i σ H8 _ ⟨kvs,y3,y4,rfl,s8,_⟩;exact aH.of (s8 _ _ U0 el)
 .rintro i x σ H8 ex ⟨kvs,y3,y4,rfl,s8,e8,Vf,Vm,Ql⟩
  ac_nf0
  rw [bz] at ex;obtain⟨z,SY,rfl⟩:=cD.mp ex;have li:=(bu.mp SY).1;have hz:z∈hd aa:=pe.mem_iff.mp (b_ SY);obtain⟨n,WT⟩:=gz z hz;have L8:=L7.KU e7 YS YL s8;obtain⟨p,hp,VR⟩:=cY.mp (show z∈ps.map (·.1) by rw [pk];exact hz);refine goN ?_
  ac_rfl
  have hgn:cu H8 dn (.str z) (some (.ref p.2)):=by
   have:=cu.k (k:=Sum.inr z) L8.nm.hd;rw [<-VR,ig ps L8.nm.n1 p hp] at this;rw [VR] at this;exact this
  have SM:=L8.nm.lst p hp;have SM:H8 p.2=some (.lst ((nums aa z aa.length).map V.int)):=by rw [<-VR];exact SM
  have numOf:∀(m:Nat) (v:Int),(nums aa z aa.length)[m]?=some v->∃(j:Nat)(ru:ar),v=(j:Int)/\aa[j]?=some ru/\ru.1=z:=λm v e=>by
   unfold nums at e;rw [bz] at e;obtain⟨j,e1,rfl⟩:=cD.mp e;have hj:=(lW.mp (b_ e1)).2;have hj:(aa[j]?.map (·.1))=some z:=c_ hj;obtain⟨ru,e2,e3⟩:=cD.mp hj;exact⟨j,ru,rfl,e2,e3⟩
  have aac:=x9 aa z aa.length
  let good:Int->Bool:=λv=>match aa[v.toNat]? with | some ru=>decide (aV g ru=n) | none=>false
  have wit:∃v∈nums aa z aa.length,good v=true:=by
   obtain⟨ru,iZ,q1,_,q3⟩:=C4 (TU aa) Sf Yu hz WT;obtain⟨j,ej⟩:=iI iZ;have lj:=(bu.mp ej).1;refine⟨(j:Int),cY.mpr ⟨j,lW.mpr ⟨pP.mpr lj,bh (by rw [ej];exact congrArg some q1)⟩,rfl⟩,?_⟩;show (match aa[(j:Int).toNat]? with | some ru=>decide (aV g ru=n) | none=>false)=true
   rw [kC,ej];exact bh q3
  refine⟨_,rfl,_,rfl,dn,_,rfl,hgn,p.2,rfl,⟨_,aH.of SM⟩,λD9 K_=>cN (xs:=(nums aa z aa.length).map V.int) (λm ys σ2 H9=>ys=(((nums aa z aa.length).take m).filter good).map V.int/\(∃y0,σ2=[y0,aM dz,aM R,some (.str z)])/\aA H8 H9/\H9 D9=some (.lst ys))
   ⟨rfl,⟨none,rfl⟩,af K_ _,ae⟩ (λm ys σ2 H9 _ h=>?_) (λm x ys σ2 H9 em h=>?_) (λys σ2 H9 h=>?_)⟩
  .obtain⟨_,_,sm,_⟩:=h;exact aH.of (sm _ _ SM)
  .obtain⟨rfl,⟨y0,rfl⟩,sm,e9⟩:=h;rw [bz] at em;obtain⟨v,ev,rfl⟩:=cD.mp em;have lm:=(bu.mp ev).1;obtain⟨j,ru,rfl,ej,Tc⟩:=numOf m v ev;have L9:=L8.same sm;obtain⟨r,er,rv⟩:=Paired.at_ L9.cA j ru ej;have u9:ke (rs.map V.ref) (j:Int)=some (.ref r):=b0 (by rw [bz,er];rfl);have gj:good (j:Int)=decide (V.int (aV g ru)=V.int n):=by
    show (match aa[(j:Int).toNat]? with | some ru=>decide (aV g ru=n) | none=>false)=_
    rw [kC,ej];show decide (aV g ru=n)=_;by_cases c:aV g ru=n
    .rw [bh c,bh (congrArg V.int c)]
    rw [b8 c,b8 (λy=>c (by injection y))]
   refine goN ?_;refine⟨_,rfl,_,rfl,_,rfl,R,_,_,_,rfl,rfl,L9.hR,u9,dz,r,qH,g,ru,rfl,L9.rz,vz,rv,h8 ru (b_ ej),RJ ru (b_ ej),λA5 wj=>?_⟩;have hgz:cu A5 dz (.str z) (some (.int n)):=by
    have:=cu.r (k:=Sum.inr z) (L9.same wj).rz;rw [vz,WT] at this;exact this
   refine⟨_,rfl,_,rfl,dz,_,rfl,hgz,rfl,_,rfl,?_⟩;rw [<-gj];have G8:((nums aa z aa.length).take (m+1)).filter good=((nums aa z aa.length).take m).filter good++(if good (j:Int)=true then [(j:Int)] else []):=by
    rw [cQ,ev,oY]
    congr 1
    show List.filter good [(j:Int)]=_;by_cases c:good (j:Int)=true
    .rw [ax c,ve,ax c,List.filter_nil]
    rw [ay c,ve,ay c,List.filter_nil]
   have lf:(((nums aa z aa.length).take m).filter good).length<=1000:=dY (rB _ _) (by rw [bQ];omega);refine cg (λcc=>?_) (λcc=>?_)
   .refine⟨_,rfl,wj _ _ e9,bN (by rw [au];omega),by rw [G8,ax cc,bH];rfl,⟨_,rfl⟩,λb u hb=>?_,ae⟩;rw [aj (λz=>by rw [z,K_] at hb;cases hb)];exact wj _ _ (sm b u hb)
   exact⟨by rw [G8,ay cc,iS],⟨_,rfl⟩,sm.trans wj,wj _ _ e9⟩
  obtain⟨rfl,_,s9,e9⟩:=h;rw [au,cH] at e9;refine goN ?_
  ac_rfl
  have L9:=L8.same s9;cases hf:(nums aa z aa.length).filter good with
  | nil =>
   obtain⟨v,hv,gv⟩:=wit;have:v∈(nums aa z aa.length).filter good:=lW.mpr ⟨hv,gv⟩;rw [hf] at this;cases this
  | cons v0 vr =>
   rw [hf] at e9;have hm0:v0∈(nums aa z aa.length).filter good:=by rw [hf];exact cI
   obtain⟨V0,SO⟩:=lW.mp hm0;obtain⟨m0,WS⟩:=iI V0;obtain⟨j,ru,rfl,ej,Tc⟩:=numOf m0 v0 WS;have hsz:aV g ru=n:=by
    have SO:(match aa[(j:Int).toNat]? with | some ru=>decide (aV g ru=n) | none=>false)=true:=SO
    rw [kC,ej] at SO;exact c_ SO
   have iZ:=b_ ej;obtain⟨r,er,pp,v1,v2⟩:=Paired.at_ L9.cA j ru ej;have u9:ke (rs.map V.ref) (j:Int)=some (.ref r):=b0 (by rw [bz,er];rfl);have qM:ke (V.int (j:Int)::vr.map V.int) 0=some (.int (j:Int)):=b0 (j:=0) rfl;have e9:H9 D9=some (.lst (V.int (j:Int)::vr.map V.int)):=e9;have e89:=s9 _ _ e8;have r8:=h8 ru iZ;have Vr:∀p∈ru.2,(Sum.inr p:aR)∈kvs.map (·.1):=λy hy=>by
    obtain⟨my,ey⟩:=lY.mp (RJ ru iZ y hy);by_cases hh:y∈hd aa
    .refine Ql y (vQ pw SY (pe.mem_iff.mpr hh) ?_);show (g y).getD 0 < (g z).getD 0;rw [ey,WT];show my < n;rw [<-hsz];exact CG nn hy ey
    exact Vm y (Zl y hh (by rw [ey];rfl))
   refine⟨_,rfl,D9,_,_,_,rfl,rfl,aH.of e9,qM,_,rfl,_,rfl,D9,_,_,_,rfl,rfl,aH.of e9,qM,R,_,_,_,rfl,rfl,L9.hR,u9,r,_,_,_,rfl,rfl,v1,rfl,pp,rfl,⟨_,v2⟩,λX8 Wv=>s_ (zs:=ru.2) rfl v2 ∅ e89 Vr Wv λys A5 ly wj Ej=>?_⟩;refine⟨X8,ys,rfl,.inl ⟨aH.of Ej,λt2 Nr=>⟨iQ,λtV Dt=>?_⟩⟩⟩;have Ze:=(af Nr (.tup ys)).trans (af Dt (.tup [.int (j:Int),.ref t2]));generalize upd (upd A5 t2 (.tup ys)) tV (.tup [.int (j:Int),.ref t2])=Ea at Ze;have PD:=(s9.trans wj).trans Ze;have Iy:=PD _ _ e8;refine⟨_,rfl,_,rfl,dt,_,rfl,.inl ⟨kvs,Sum.inr z,Iy,rfl,bN ∅,rfl⟩,?_⟩;have Gg:∀y:aR,(y∈kvs.map (·.1)\/y=Sum.inr z)->y∈(bU kvs (Sum.inr z) (.ref tV)).map (·.1):=λy hy=>by
    by_cases hk:(Sum.inr z:aR)∈kvs.map (·.1)
    .rw [zY hk];rcases hy with hy | rfl
     .exact hy
     exact hk
    rw [iJ hk];rcases hy with hy | rfl
    .exact ib _ hy
    exact fR _ cI
   have aah:(bU kvs (Sum.inr z) (.ref tV)).length<=kvs.length+1:=by
    have a:=congrArg List.length (Eq.refl ((bU kvs (Sum.inr z) (.ref tV)).map (·.1)));by_cases hk:(Sum.inr z:aR)∈kvs.map (·.1)
    .have b:=congrArg List.length (zY (v:=.ref tV) hk);rw [au,au] at b;omega
    have b:=congrArg List.length (iJ (v:=.ref tV) hk);rw [au,a9,au,gy] at b;omega
   refine⟨_,_,_,rfl,λb u nb hb=>?_,ae,∅,λy hy=>Gg _ (.inl (Vm y hy)),λy hy=>?_⟩
   .rw [aj nb];exact PD _ _ (s8 b u nb hb)
   rw [cQ,SY] at hy;rcases bR.mp hy with hy | hy
   .exact Gg _ (.inl (Ql y hy))
   exact Gg _ (.inr (by rw [bF.mp (show y∈[z] from hy)]))
 rintro σ H8 ⟨kvs,y3,y4,rfl,s8,e8,Vf,Vm,Ql⟩;rw [au,cH] at Ql;have L8:=L7.KU e7 YS YL s8;refine⟨_,rfl,q dt kvs H8 ?_ (λb u n1 n3 hb=>?_) L8.t1 L8.t3 e8 λz hz=>Ql z (pe.mem_iff.mpr hz)⟩
 .cases c:H dt with
  | none=>rfl
  | some u =>
   by_cases h1:dt=T1
   .obtain⟨pp,a,_⟩:=L3.t1;rw [<-h1,Lc] at a;cases a
   rw [Cz dt u h1 U3 c] at Lc;cases Lc
 refine s8 _ _ (λz=>?_) (Ic b u n1 n3 hb);rw [z] at hb;rw [Cz dt u (λy=>n1 (z.trans y)) U3 hb] at Lc;cases Lc
end
end hV
namespace L2
open PySem PySem.Spec PyProof.Rows
section
variable {prog:Program}{w:World}{A:Around}{E:Value->Shared->Prop}
def vL {h h':Heap}{ks:List aR}{a:Addr}(p:(tupleKind (bA prog w)).is h ks a)(k:∀b o,o.cls=.type "tuple" -> h.get? b=some o->h'.get? b=some o):(tupleKind (bA prog w)).is h' ks a :=
 let ⟨o,aT,n,h1,h2,h3,h4⟩:=p;⟨o,aT,n,k a o h2 h1,h2,h3,h4⟩
def wU {h h':Heap}{d:Addr}{xs:List (List aR×Addr×Value)}(hd:h.DictOfH (tupleKind (bA prog w)) d xs)(kd:∀o,h.get? d=some o->h'.get? d=some o)(k:∀b o,o.cls=.type "tuple" -> h.get? b=some o->h'.get? b=some o) :
  h'.DictOfH (tupleKind (bA prog w)) d xs :=
 let ⟨o,es,ep,q,c,dd,e,is,n⟩:=hd;⟨o,es,ep,kd o q,c,dd,e,λx hx=>vL (is x hx) k,n⟩
def lL (prog:Program)(w:World)(h:Heap)(u:Value)(kv:List aR×Addr×Value):Prop :=
 ∃t n o,u=.ref t/\(tupleKind (bA prog w)).is h kv.1 kv.2.1/\h.get? t=some o/\o.cls=.type "tuple" /\ o.data=.seq #[.ref kv.2.1,kv.2.2] n
def lL.keep {h h':Heap}{u:Value}{kv:List aR×Addr×Value}(p:lL prog w h u kv)(k:∀b o,o.cls=.type "tuple" -> h.get? b=some o->h'.get? b=some o):lL prog w h' u kv :=
 let ⟨t,n,o,a,b,c,d,e⟩:=p;⟨t,n,o,a,vL b k,k t o d c,d,e⟩
def BZ (more xs:List (List aR×Addr×Value)):List (List aR×Addr×Value):=more.foldl (λa p=>storedH a p.1 p.2.1 p.2.2) xs
def JZ {R:Result->Shared->Prop}{d it l:Addr}{items:Array Value}(hh:A.handled=none)(hu:A.units+1 < cLine):∀(more:List (List aR×Addr×Value)) (i:Nat)(s:Shared)(kvs:List (List aR×Addr×Value)) (j:Int)(tk:Tok),items.size=i+more.length ->
  s.heap.DictOfH (tupleKind (bA prog w)) d kvs->s.heap.IsListIter it l i->s.heap.IsList l items->(∀m kv,more[m]?=some kv->∃u,items[i+m]?=some u/\lL prog w s.heap u kv)->kvs.length+more.length<=sizeLine ->
  (∀h' t',h'.DictOfH (tupleKind (bA prog w)) d (BZ more kvs)->(∀b o,b≠d->b≠it->s.heap.get? b=some o->h'.get? b=some o)->R (.ok (.ret .none)) { s with heap:=h',toks:=t' }) ->
  codeAny (model prog w) A (.builtin "dict.update.loop" ⟨[.ref d,.ref it,.int j tk,.none],[]⟩) R s:=by
 intro more
 induction more with
 | nil =>
  intro i s kvs j tk hi hd hit hl hp hz hR;refine qV lI ?_;rw [rj gu _];unfold Builtin.«dict.update.loop»;have hs:items[i]?=none:=Array.getElem?_eq_none (by rw [hi];exact aF _);refine aE (vx hh hit hl hs λh1 eb=>?_);have nd:d≠it:=λz=>by
   obtain⟨o,_,_,q,_,c,_⟩:=hd;obtain⟨o',q',_,c'⟩:=hit;rw [z,q'] at q;cases q;rw [c'] at c;cases c
  have nt:∀b o,o.cls=.type "tuple" -> s.heap.get? b=some o->b≠it:=λb o c q z=>by
   obtain⟨o',q',c',_⟩:=hit;rw [z,q'] at q;cases q;rw [c'] at c;exact absurd c nofun
  show wpAny _ _ (Builtin.Dict.addKeywords d [] >>= _) _ _ _;exact aE (aP (aP (hR h1 s.toks (wU hd (λo q=>eb d o nd q) λb o c q=>eb b o (nt b o c q) q) λb o n1 n2 q=>eb b o n2 q)))
 | cons kv more ih =>
  intro i s kvs j tk hi hd hit hl hp hz hR;refine qV lI ?_;rw [rj gu _];unfold Builtin.«dict.update.loop»;obtain⟨u,yi,t,n,o,rfl,hk,ho,hc,BU⟩:=hp 0 kv rfl;refine aE (wpAny_pyNext_list_item hit hl yi λh1 Vu sb=>?_);have nd:d≠it:=λz=>by
   obtain⟨o,_,_,q,_,c,_⟩:=hd;obtain⟨o',q',_,c'⟩:=hit;rw [z,q'] at q;cases q;rw [c'] at c;cases c
  have n2:∀b o,(o.cls=.type "tuple" \/ o.cls=.type "list")->s.heap.get? b=some o->b≠d/\b≠it:=by
   intro b o c q;constructor
   .intro z;obtain⟨o',q',c'⟩:=hd.typeIs;rw [z,q'] at q;cases q;rw [c'] at c;rcases c with c | c <;> exact absurd c nofun
   intro z;obtain⟨o',q',c',_⟩:=hit;rw [z,q'] at q;cases q;rw [c'] at c;rcases c with c | c <;> exact absurd c nofun
  have nt:∀b o,o.cls=.type "tuple" -> s.heap.get? b=some o->b≠d/\b≠it:=λb o c q=>n2 b o (.inl c) q;have nl:l≠d/\l≠it:=by
   obtain⟨o,q,c,_⟩:=hl;exact n2 l o (.inr c) q
  have Vo:∀b o,o.cls=.type "tuple" -> s.heap.get? b=some o->h1.get? b=some o:=λb o c q=>(sb.2 b (nt b o c q).2).trans q;have QQ:h1.get? t=some o:=Vo t o hc ho;have wL:h1.DictOfH (tupleKind (bA prog w)) d kvs:=wU hd (λo q=>(sb.2 d nd).trans q) Vo;refine aE (jN (aE (wpAny_tryCatch ?_)));unfold Builtin.Dict.pairItems;refine aE (lU (T := "tuple") ⟨o,QQ,hc⟩ ?_);rw [ax nofun];refine aE (qS QQ BU (aP ?_));show wpAny _ _ (holding [.ref kv.2.1,kv.2.2] (dictSet d (.ref kv.2.1) kv.2.2)) _ _ _;rw [dZ] at hz hi;refine jN (wpAny_dictSet_heap (s:={ s with heap:=h1 }) (oW hu) (vL hk Vo) wL (λh2 hd2 Pz=>?_) ∅);have kk:∀b o,b≠d->b≠it->s.heap.get? b=some o->h2.get? b=some o:=λb o n1 n2 q=>(Pz.2 b n1).trans ((sb.2 b n2).trans q);have ln:(storedH kvs kv.1 kv.2.1 kv.2.2).length<=kvs.length+1:=by
   unfold storedH
   split
   .simp
   simp
  refine aP ⟨oI gu _,ih (i+1) _ _ _ _ ∅ hd2 (Vu.at λo q=>(Pz.2 it (gC nd)).trans q) (hl.at λo q=>kk l o nl.1 nl.2 q) (λm Vn e=>?_) ∅ λh3 t3 jj k3=>?_⟩
  .obtain⟨u',e1,e2⟩:=hp (m+1) Vn e;exact⟨u',by rw [<-e1];congr 1;omega,e2.keep λb o c q=>kk b o (nt b o c q).1 (nt b o c q).2 q⟩
  exact hR h3 t3 jj λb o n1 n2 q=>k3 b o n1 n2 (kk b o n1 n2 q)
def qv {s:Shared}{l:Addr}{items:Array Value}{n:Nat}{more:List (List aR×Addr×Value)}{Q:Value->Shared->Prop}(hh:A.handled=none)(hu:A.units+2 < cLine)(hx:s.heap.get? l=some { cls:=.type "list",data:=.seq items n })
  (hi:items.size=more.length)(hp:∀(m:Nat) kv,more[m]?=some kv->∃u,items[m]?=some u/\lL prog w s.heap u kv)(hz:more.length<=sizeLine)
  (h:∀h' t',h'.DictOfH (tupleKind (bA prog w)) s.heap.objs.size (BZ more [])->(∀b o,s.heap.get? b=some o->h'.get? b=some o)->Q (.ref s.heap.objs.size) { s with heap:=h',toks:=t' }) :
  wpAny (model prog w) A (call (.type "dict") [.ref l]) Q E s:=by
 refine callType_codes (Q₁:=λobj s₁=>obj=.ref s.heap.objs.size/\s₁={ s with heap:=s.heap.push { cls:=.type "dict",data:=.dict #[] } }) F.kt_called_dict (F.kt_typeCall_dict_1 _) F.entry_dict_init (kt_code_dict_new _ ⟨rfl,rfl⟩) ?_;rintro obj s₁ ⟨rfl,rfl⟩;have Aj:(s.heap.push { cls:=.type "dict",data:=.dict #[] }).DictOfH (tupleKind (bA prog w)) s.heap.objs.size []:=Heap.DictOfH.new s.heap;have l0:=cv { cls:=.type "dict",data:=.dict #[] } hx;refine⟨Aj.typeIs,F.args_dict_init_2 _ _,?_⟩;unfold Builtin.«dict.__init__» Builtin.Dict.selfAndRest;refine aE (aE (wpAny_notOrdered_dict Aj.typeIs (aP ?_)));show wpAny _ _ (Builtin.Dict.updateFrom "dict.__init__" s.heap.objs.size (.ref l) [] .none) _ _ _;unfold Builtin.Dict.updateFrom;refine aE (lU (T := "list") ⟨_,l0,rfl⟩ ?_);rw [ax zB];refine aE (pz l0 hh λh1 t1 k1=>?_);refine aE (wpAny_rule ?_);have l1:=k1 _ _ l0;refine aE (oR ⟨_,l1,rfl,_,rfl⟩ ?_);have k2:∀b o,s.heap.get? b=some o->(h1.push { cls:=.type "list_iterator",data:=.fields #[.ref l,.int 0 0] }).get? b=some o:=λb o q=>cv _ (k1 _ _ (cv _ q));refine aP ⟨oI gu _,JZ (A:=A.in1) (l:=l) (items:=items) (show A.in1.handled=none from hh) (show A.in1.units+1 < cLine by rw [mq];omega) more 0 _ [] _ _ (by rw [hi,oJ]) ?_ ⟨_,d0 _ rfl,rfl,rfl⟩ ⟨_,k2 _ _ hx,rfl,n,rfl⟩ (λm kv e=>?_) (by simpa using hz) λh' t' hd k3=>?_⟩
 .exact wU Aj (λo q=>cv _ (k1 _ _ q)) λb o _ q=>cv _ (k1 _ _ q)
 .obtain⟨u,e1,e2⟩:=hp m kv e;exact⟨u,by rw [oJ];exact e1,e2.keep λb o _ q=>k2 b o q⟩
 refine⟨rfl,h h' t' hd λb o q=>k3 b o (cw (bO q)) ?_ (k2 b o q)⟩;have:=bO (k1 _ _ (cv { cls:=.type "dict",data:=.dict #[] } q));exact cw this
end
def ou (kvs bW:List (List aR×V)):List (List aR×V):=kvs.foldl (λa p=>bU a p.1 p.2) bW
theorem uM {H:Hp}:∀{kvs:List (List aR×V)}{vs:List (List aR×Addr×Value)}{bW:List (List aR×V)}{HE:List (List aR×Addr×Value)},KT H kvs vs->KT H bW HE->KT H (ou kvs bW) (BZ vs HE)
 | _,_,_,_,.nil,h=>h
 | _,_,_,_,.cons (a:=p) (b:=q) r t,h=>by
  obtain⟨e,hb,rv⟩:=r;show KT H (ou _ (bU _ p.1 p.2)) (BZ _ (storedH _ q.1 q.2.1 q.2.2));rw [<-e];exact uM t (h.put p.1 hb rv)
theorem uN:∀(kvs bW:List (List aR×V)),(ou kvs bW).length<=bW.length+kvs.length
 | [],bW=>by simp [ou]
 | p::r,bW=>by
  have:=uN r (bU bW p.1 p.2);have:=gh bW p.1 p.2;show (ou r (bU bW p.1 p.2)).length<=_;rw [dZ];omega
section
variable {X:Cx}{ah:List (Addr×Obj)}{σ:St}{H:Hp}{s:Shared}
abbrev OU (K:ba)(H:Hp)(t:Addr)(kv:List aR×V):Prop:=∃b,aS K H t [.ref b,kv.2]/\H b=some (.tup (kv.1.map kV))
theorem uB (I:Inv X ah σ H s):∀{ts:List Addr}{kvs:List (List aR×V)}{aT:List Value},Paired (OU X.K H) ts kvs->bf (ts.map V.ref) aT ->
  ∃vs:List (List aR×Addr×Value),KT H kvs vs/\Paired (λu kv=>lL X.prog X.w s.heap u kv) aT vs
 | [],_,_,.nil,r=>by
  rw [mi] at r;cases r;exact⟨[],.nil,.nil⟩
 | t::ts,kv::kvs,_,.cons h p,r=>by
  rw [cP] at r;cases r with
  | cons r1 r2 =>
   obtain⟨vs,e1,e2⟩:=uB I p r2;obtain⟨b,h0,hb⟩:=h;obtain⟨aT,rv,⟨o,h1,h2,n,h3⟩,_⟩:=I.tuple h0;obtain⟨u1,u2,rfl,q1,q2⟩:=vals2 rv;cases (show u1=Value.ref b from q1);exact⟨(kv.1,b,u2)::vs,.cons ⟨rfl,hb,q2⟩ e1,.cons ⟨t,n,o,r1,mJ I.cx hb,h1,h2,h3⟩ e2⟩
def yJ (hc:X.calm=true)(hu:X.A.units+2 < cLine):iD X (.type "dict") (λxs H Q=>∃a ts kvs,xs=[.ref a]/\H a=some (.lst (ts.map V.ref))/\Paired (OU X.K H) ts kvs/\∀d,H d=none->Q (.ref d) (upd H d (.dT (ou kvs [])))):=by
 intro ah s σ H xs us Q I r h;obtain⟨a,ts,kvs,rfl,e,p,q⟩:=h;obtain⟨u,rfl,rx⟩:=vals1 r;cases (show u=Value.ref a from rx);obtain⟨z,aT,n,rv,ho⟩:=(show cS X.prog X.w H s.heap a (.lst _) from I.cx a _ e);obtain⟨vs,r1,r2⟩:=uB I p rv;have l1:=aU r2;have l2:=aU r1;have l3:=aU p;rw [au] at z;refine qv (I.ok.hd hc) hu ho (by simpa using l1) (λm kv em=>?_) ∅ λh' t' hd kk=>?_
 .obtain⟨u,e1,e2⟩:=Paired.at_ r2 m kv em;exact⟨u,by simpa using e1,e2⟩
 have fr:=I.cx.fresh (aF s.heap.objs.size);have new:cS X.prog X.w (upd H s.heap.objs.size (.dT (ou kvs []))) h' s.heap.objs.size (.dT (ou kvs [])):=by
  obtain⟨o,es,ep,hq,h2,h3,h4,_,h5⟩:=hd;refine⟨?_,?_,_,(uM r1 .nil).keeps λc ys ec=>?_,o,es,ep,hq,h2,h3,h4,h5⟩
  .have:=uN kvs [];simp at this;omega
  .have:=I.big;exact kF.mpr (lV this)
  rw [aj (aw ec fr)];exact ec
 exact⟨.ref s.heap.objs.size,_,I.laid (t':=t') kk (aF _) new,rfl,q _ fr⟩
end
open PySem M11
def DS {K:ba}{H:Hp}{bg D:Addr}{ts:List Addr}{cT:List Be}{σ:St}{x1 x2 x3 x4:Str}{Qp:Hp->Prop}(hb:aH K H bg (ts.map V.ref))(Oy:Paired (λt (b:Be)=>aS K H t [.str b.1,.str b.2.1,.int (b.2.2.1:Int),.int (b.2.2.2:Int)]) ts cT)(bE:cT.length<=900000)(hD:H D=none)
  (q:∀us H2,aA H H2->H2 D=some (.lst (us.map V.ref))->Paired (λu (b:Be)=>∃v,OU K H2 u ([Sum.inr b.1,Sum.inr b.2.1],.ref v)) us cT->Qp H2) :
  ∃W:Nat->Nat->List V->St->Hp->Prop,(∃m,W 0 m [] (eV [x1,x2,x3,x4] [] σ) (upd H D (.lst []))) /\
 ∀i m ys σ' H,W i m ys σ' H->((ki K bg).stop i H/\Qp H)\/((ki K bg).go i H/\∃m',m' < m/\∀x H',(ki K bg).mQ i H x H'->AE K 4 (jC (dP 0) (jC (dP 1) (jC (dP 2) (jC (dP 3) Dn)))) x σ' H' λσ2 H2=>iw σ2 H2 λb H3 =>
  if b=true then tS (gZ (tS (gZ (gT 0) (gZ (gT 1) rE))) (gZ (tS (gZ (gT 2) (gZ (gT 3) rE))) rE)) σ2 H3 λy H4=>H4 D=some (.lst ys)/\ys.length < sizeLine/\W (i+1) m' (ys++[y]) σ2 (upd H4 D (.lst (ys++[y]))) else W (i+1) m' ys σ2 H3):=by
 have ll:=aU Oy;refine cN (xs:=ts.map V.ref) (λi ys σ2 H2=>∃us:List Addr,ys=us.map V.ref/\us.length=i/\Paired (λu (b:Be)=>∃v,OU K H2 u ([Sum.inr b.1,Sum.inr b.2.1],.ref v)) us (cT.take i)/\(∃y0 y1 y2 y3,σ2=[y0,y1,y2,y3])/\aA H H2/\H2 D=some (.lst ys))
  ⟨[],rfl,rfl,.nil,⟨none,none,none,none,rfl⟩,af hD _,ae⟩ (λi ys σ2 H2 _ h=>?_) (λi x ys σ2 H2 ex h=>?_) (λys σ2 H2 h=>?_)
 .obtain⟨_,_,_,_,_,sm,_⟩:=h;exact sm.seq hb
 .obtain⟨us,rfl,hu,hp,⟨y0,y1,y2,y3,rfl⟩,sm,hd⟩:=h;rw [bz] at ex;obtain⟨r,er,rfl⟩:=cD.mp ex;have lr:=(bu.mp er).1;obtain⟨b,e1⟩:∃b,cT[i]?=some b:=⟨cT[i]'∅,dH ∅⟩;obtain⟨r',Rl,v1⟩:=Paired.at_ Oy i b e1;rw [er] at Rl;cases Rl;have li:=(bu.mp e1).1;refine⟨r,_,rfl,sm.tup v1,rfl,_,_,rfl,_,_,rfl,_,_,rfl,_,_,rfl,rfl,?_⟩;refine yo ?_;refine⟨_,rfl,_,rfl,iQ,λk hk=>⟨_,rfl,_,rfl,iQ,λv hv=>⟨iQ,λu BQ=>?_⟩⟩⟩;have s3:=(af hk (.tup [V.str b.1,V.str b.2.1])).trans ((af hv (.tup [V.int (b.2.2.1:Int),V.int (b.2.2.2:Int)])).trans (af BQ (.tup [.ref k,.ref v])));have ek:=((af hv (.tup [V.int (b.2.2.1:Int),V.int (b.2.2.2:Int)])).trans (af BQ (.tup [.ref k,.ref v]))) k _ ae;have eu:aS K (upd (upd (upd H2 k (.tup [V.str b.1,V.str b.2.1])) v (.tup [V.int (b.2.2.1:Int),V.int (b.2.2.2:Int)])) u (.tup [.ref k,.ref v])) u [.ref k,.ref v]:=aS.of ae;generalize upd (upd (upd H2 k (.tup [V.str b.1,V.str b.2.1])) v (.tup [V.int (b.2.2.1:Int),V.int (b.2.2.2:Int)])) u (.tup [.ref k,.ref v])=H4 at s3 ek eu;have Eh:=s3 _ _ hd;refine⟨Eh,bN (by rw [au];omega),us++[u],by rw [bH];rfl,by rw [a9,hu];rfl,?_,⟨_,_,_,_,rfl⟩,?_,ae⟩
  .rw [cQ,e1];have kD:k≠D:=λz=>by rw [z,Eh] at ek;cases ek
   refine h_ (Paired.fc hp λu' b' bG=>?_) ⟨v,k,a7 Eh eu,by rw [aj kD];exact ek⟩;obtain⟨v',bb,p1,p2⟩:=bG;exact⟨v',bb,a7 Eh (s3.tup p1),by rw [aj (λz=>by rw [z,hd] at p2;cases p2)];exact s3 _ _ p2⟩
  intro c o hc;rw [aj (λz=>by rw [z,hD] at hc;cases hc)];exact s3 _ _ (sm c o hc)
 obtain⟨us,rfl,hu,hp,_,sm,hd⟩:=h;rw [au,ll,cH] at hp;exact q us H2 sm hd hp
theorem Fo {K:ba}{H:Hp}:∀{us:List Addr}{cT:List Be},Paired (λu (b:Be)=>∃v,OU K H u ([Sum.inr b.1,Sum.inr b.2.1],.ref v)) us cT->∃kvs,Paired (OU K H) us kvs
 | _,_,.nil=>⟨[],.nil⟩
 | _,_,.cons ⟨v,h⟩ t=>let ⟨kvs,p⟩:=Fo t;⟨_::kvs,.cons h p⟩
end L2
namespace hV
open PySem L2 M11
def Tab.s2 {T T1 T2:Addr}{p p1 p2:Pos}{q q1 q2:Str}{H H':Hp}(h:Tab T p q H)(s:md T1 T2 H H')(t1:Tab T1 p1 q1 H)(t2:Tab T2 p2 q2 H)(n1:T≠T1)(n2:T≠T2):Tab T p q H':=by
 obtain⟨ps,a,b,c⟩:=h;obtain⟨Ss,b1,_⟩:=t1;obtain⟨Sr,b2,_⟩:=t2;refine⟨ps,s _ _ n1 n2 a,b,c.imp id ?_⟩;rintro⟨c',e,g⟩;exact⟨c',e,s _ _ (λz=>by rw [z,b1] at g;cases g) (λz=>by rw [z,b2] at g;cases g) g⟩
def kO {T a C dx:Addr}{pos:Pos}{qu:Str}{H:Hp}{fs:List (Str×V)}{o:HO}(h:Tab T pos qu H)(ha:H a=some (.ins C dx fs)):Tab T pos qu (upd H a o):=by
 obtain⟨ps,p,r,c⟩:=h;refine⟨ps,by rw [aj (λz=>by rw [z,ha] at p;cases p)];exact p,r,c.imp id ?_⟩;rintro⟨c',e,g⟩;exact⟨c',e,by rw [aj (λz=>by rw [z,ha] at g;cases g)];exact g⟩
def Kp (H H':Hp):Prop:=∀b o,H b=some o->(∀ps,o≠.tO ps)->H' b=some o
def Kp.trans {H H1 H2:Hp}(a:Kp H H1)(b:Kp H1 H2):Kp H H2:=λc o h n=>b c o (a c o h n) n
def Kp.of {H H':Hp}(s:aA H H'):Kp H H':=λb o h _=>s b o h
def Kp.of2 {T1 T2:Addr}{p1 p2:Pos}{q1 q2:Str}{H H':Hp}(s:md T1 T2 H H')(t1:Tab T1 p1 q1 H)(t2:Tab T2 p2 q2 H):Kp H H':=λc o hc hn=>by
 obtain⟨Ss,b1,_⟩:=t1;obtain⟨Sr,b2,_⟩:=t2;exact s c o (λz=>by rw [z,b1] at hc;cases hc;exact hn _ rfl) (λz=>by rw [z,b2] at hc;cases hc;exact hn _ rfl) hc
section
theorem Kp.lst {H H':Hp}(k:Kp H H'){a:Addr}{xs:List V}(h:H a=some (.lst xs)):H' a=some (.lst xs):=k a _ h (λ_ z=>by cases z)
def Kp.tup {H H':Hp}(k:Kp H H'){a:Addr}{xs:List V}(h:aS K H a xs):aS K H' a xs:=by
 rcases h with (h | ⟨u,h⟩) | h
 .exact .inl (.inl (k _ _ h (λ_ z=>by cases z)))
 .exact .inl (.inr ⟨u,k _ _ h (λ_ z=>by cases z)⟩)
 exact .inr h
def Kp.seq {H H':Hp}(k:Kp H H'){a:Addr}{xs:List V}(h:aH K H a xs):aH K H' a xs:=by
 rcases h with (h | ⟨u,h⟩) | h
 .exact .inl (.inl (k _ _ h (λ_ z=>by cases z)))
 .exact .inl (.inr ⟨u,k _ _ h (λ_ z=>by cases z)⟩)
 exact .inr h
theorem Kp.aa {H H':Hp}(k:Kp H H'){rs:List Addr}{aa:List ar}(h:bL K H rs aa):bL K H' rs aa:=h.keep λ_ _ z=>k.tup z
abbrev zO:Stmt:=Qe sLT 0
structure LC (K:ba)(C:Addr):Prop where
 cls:Ec K C
 a1:eX K C "rules"
 a2:eX K C "empty"
 a3:eX K C "least"
 a4:eX K C "hollow"
 a5:eX K C "beginnings"
structure Et (C3 T1 T3:Addr)(H0 H:Hp)(a dx:Addr)(fs:List (Str×V)):Prop where
 sm:md T1 T3 H0 H
 ia:H a=some (.ins C3 dx fs)
 fa:H0 a=none
 t1:Tab T1 r9.2.2.2 yW H
 t3:Tab T3 posB Ih H
 o1:Tab T1 r9.2.2.2 yW H0
 o3:Tab T3 posB Ih H0
def Et.kp {C3 T1 T3 a dx:Addr}{H0 H:Hp}{fs:List (Str×V)}(h:Et C3 T1 T3 H0 H a dx fs):Kp H0 H:=Kp.of2 h.sm h.o1 h.o3
def Et.set {C3 T1 T3 a dx:Addr}{H0 H:Hp}{fs:List (Str×V)}(h:Et C3 T1 T3 H0 H a dx fs)(Iu:List (Str×V)):Et C3 T1 T3 H0 (upd H a (.ins C3 dx Iu)) a dx Iu :=
 ⟨λb o n1 n3 hb=>by rw [aj (λz=>by rw [z,h.fa] at hb;cases hb)];exact h.sm b o n1 n3 hb,ae,h.fa,kO h.t1 h.ia,kO h.t3 h.ia,h.o1,h.o3⟩
def Et.next {C3 T1 T3 a dx:Addr}{H0 H H':Hp}{fs:List (Str×V)}(h:Et C3 T1 T3 H0 H a dx fs)(s:aA H H'):Et C3 T1 T3 H0 H' a dx fs :=
 ⟨λb o n1 n3 hb=>s _ _ (h.sm b o n1 n3 hb),s _ _ h.ia,h.fa,h.t1.same s,h.t3.same s,h.o1,h.o3⟩
def Et.P7 {C3 T1 T3 a dx:Addr}{H0 H H':Hp}{fs:List (Str×V)}(h:Et C3 T1 T3 H0 H a dx fs)(s:md T1 T3 H H')(t1:Tab T1 r9.2.2.2 yW H')(t3:Tab T3 posB Ih H'):Et C3 T1 T3 H0 H' a dx fs :=
 ⟨λb o n1 n3 hb=>s _ _ n1 n3 (h.sm b o n1 n3 hb),Kp.of2 s h.t1 h.t3 _ _ h.ia (λ_ z=>by cases z),h.fa,t1,t3,h.o1,h.o3⟩
def Bq (K:ba)(C C3 T1 T3:Addr):Sp:=λvs H Q _=>∃(H0 Hb:Hp)(a dx R x e d bg:Addr)(rs:List Addr)(aa:List ar)(kE:List (aR×V))(bI:List (Str×Nat))(ps:List (Str×Addr))(cT:List Be),vs=[.ref a,.ref R,.ref x]/\aA H0 H/\H0 a=none/\H a=some (.ins C3 dx [])/\aH K H0 R (rs.map V.ref)/\bL K H0 rs aa /\
 aa.length < 64/\(∀ru∈aa,ru.2.length<=8)/\(∀g,fk M11.bl aa (zc aa) g->jd M11.bl aa g->∀h∈hd aa,∃n,g h=some n/\n<=60)/\ub K C Hb H0 x e d bg kE bI ps cT/\xc aa bI/\cT.length<=80000/\Tab T1 r9.2.2.2 yW H0/\Tab T3 posB Ih H0/\T1≠T3 /\
 ∀H',md T1 T3 H0 H'->Tab T1 r9.2.2.2 yW H'->Tab T3 posB Ih H'->Q .fh H'
def IZ:aK ["self","rules","begin_table"] ["self","rules","begin_table"] (av zO):=iN rfl rfl rfl rfl nofun
def FQ {C C3 T1 T3:Addr}(F:iC K "__init__" "LeastTrees.__init__" zO f fd)(T:Txt mg)(B:BC K C)(L:LC K C3)(GL:aC P w K mg base 4 "least_by_part" ["rules"] (o6 K T1 T3))(GE:aC P w K mg base 4 "empty_by_name" ["rules","empties"] (uq K)) :
  bS P w K mg base gp 5 f fd ["self","rules","begin_table"] (Bq K C C3 T1 T3):=by
 refine F.ok IZ (λvs H Q E h=>?_) (λeY A outer s H vs Q E hr h=>?_)
 .obtain⟨H0,Hb,a,dx,R,x,e,d,bg,rs,aa,kE,bI,ps,cT,rfl,_⟩:=h;rfl
 obtain⟨H0,Hb,a,dx,R,x,e,d,bg,rs,aa,kE,bI,ps,cT,rfl,s0,f0,ea,hR,cA,bE,h8,GI,S,emp,MM,t1,t3,nT,q⟩:=h;have hu:=rh (Nat.add_le_add_left (by decide:2<=64) _) hr.units;refine⟨_,ai (g7 (pv 0) (pv 1) rfl)
  (ai (g7 (pv 0) (fQ (pv 2) rfl) rfl)
  (ai (g7 (pv 0) (bp GL hr rfl (ab (pv 1) ag)) rfl)
  (ai (g7 (pv 0) (bp GE hr rfl (ab (pv 1) (ab (fQ (pv 2) rfl) ag))) rfl)
  (ak (g7 (pv 0) (bc (yJ rfl hu) rfl T.AR gk (ab (bD ["name","word","number","place"] [] rfl (a8 (fQ (pv 2) rfl)) (br rfl rfl) nofun rfl nofun
   (λ_ _ _ _ _=>fS (n:=4) K rfl (aB (aq (i:=0) (show (["name","word","number","place"]:List Str).Nodup by decide +kernel) rfl (bC rfl)) (aB (aq (i:=1) (show (["name","word","number","place"]:List Str).Nodup by decide +kernel) rfl (bC rfl)) (aB (aq (i:=2) (show (["name","word","number","place"]:List Str).Nodup by decide +kernel) rfl (bC rfl)) (aB (aq (i:=3) (show (["name","word","number","place"]:List Str).Nodup by decide +kernel) rfl (bC rfl)) cf))))) (λ_ _ _ _ _=>b9)
   (λ_ _ _ _ _=>bo (ab (bo (ab (pv 0) (ab (pv 1) ag))) (ab (bo (ab (pv 2) (ab (pv 3) ag))) ag)))) ag)) rfl))))),?_⟩
 nofun
 have S0:Et C3 T1 T3 H0 H a dx []:=⟨λb o _ _ hb=>s0 b o hb,ea,f0,t1.same s0,t3.same s0,t1,t3⟩;obtain⟨e1,te,⟨OO,OD,Ta,leb⟩,ee1,evb,_⟩:=S.em;obtain⟨aas,aap,Rf,l1,l2,_⟩:=S.ia;rw [Ta] at Rf;cases Rf;obtain⟨tb,ebg,Oy⟩:=S.lb;have lets:=emp.len;refine⟨_,rfl,_,rfl,a,C3,dx,[],rfl,S0.ia,L.cls,L.a1,(by show 0 < 1000;decide),?_⟩;have S1:=S0.set (eI "rules" (.ref R) []);generalize SQ:eI "rules" (.ref R) []=SX at S1;generalize upd H a (.ins C3 dx SX)=H1 at S1;have x1:H1 x=some (.ins C OO OD):=S1.kp _ _ Ta (λ_ z=>by cases z);refine⟨_,rfl,x,C,OO,OD,_,rfl,x1,B.cls,B.a2,l1,_,rfl,a,C3,dx,SX,rfl,S1.ia,L.cls,L.a2,(by rw [<-SQ];show 1 < 1000;decide),?_⟩;have S2:=S1.set (eI "empty" (.ref e) SX);generalize QV:eI "empty" (.ref e) SX=tY at S2;generalize upd H1 a (.ins C3 dx tY)=H2 at S2;refine⟨_,rfl,R,rs,aa,rfl,S2.kp.seq hR,S2.kp.aa cA,bE,h8,GI,S2.t1,S2.t3,nT,λdl kl H3 fdl s3 yU t33 edl kdl=>?_⟩;have S3:=S2.P7 s3 yU t33;refine⟨_,rfl,a,C3,dx,tY,rfl,S3.ia,L.cls,L.a3,(by rw [<-QV,<-SQ];show 2 < 1000;decide),?_⟩;have S4:=S3.set (eI "least" (.ref dl) tY);generalize ZD:eI "least" (.ref dl) tY=OE at S4;generalize upd H3 a (.ins C3 dx OE)=H4 at S4;have x4:H4 x=some (.ins C OO OD):=S4.kp _ _ Ta (λ_ z=>by cases z);refine⟨_,rfl,_,rfl,x,C,OO,OD,_,rfl,x4,B.cls,B.a1,leb,R,e1,rs,te,aa,bI,rfl,S4.kp.seq hR,S4.kp.aa cA,∅,h8,aH.of (S4.kp.lst ee1),evb.keep λ_ _ z=>S4.kp.tup z,emp,∅,λdh kh H5 fdh s5 edh kdh=>?_⟩;have S5:=S4.next s5;refine⟨_,rfl,a,C3,dx,OE,rfl,S5.ia,L.cls,L.a4,(by rw [<-ZD,<-QV,<-SQ];show 3 < 1000;decide),?_⟩;have S6:=S5.set (eI "hollow" (.ref dh) OE);generalize hf6:eI "hollow" (.ref dh) OE=zd at S6;generalize upd H5 a (.ins C3 dx zd)=H6 at S6;have x6:H6 x=some (.ins C OO OD):=S6.kp _ _ Ta (λ_ z=>by cases z);have b6:=S6.kp.lst ebg;have v6:Paired (λt (b:Be)=>aS K H6 t [.str b.1,.str b.2.1,.int (b.2.2.1:Int),.int (b.2.2.2:Int)]) tb cT:=Paired.fc Oy λ_ _ z=>S6.kp.tup z;refine⟨_,rfl,x,C,OO,OD,_,rfl,x6,B.cls,B.a3,l2,bg,rfl,⟨_,aH.of b6⟩,λD7 Ws=>DS (aH.of b6) v6 ∅ Ws λus H7 s7 e7 p7=>?_⟩;obtain⟨kvs,pk⟩:=Fo p7;refine⟨D7,us,kvs,rfl,e7,pk,λdb Dj=>?_⟩;have S8:=(S6.next s7).next (af Dj (.dT (ou kvs [])));refine⟨_,rfl,a,C3,dx,zd,rfl,S8.ia,L.cls,L.a5,(by rw [<-hf6,<-ZD,<-QV,<-SQ];show 4 < 1000;decide),?_⟩;have S9:=S8.set (eI "beginnings" (.ref db) zd);exact q _ S9.sm S9.t1 S9.t3
structure HX (K:ba)(x qual:Str)(st:Stmt)(f:Addr)(fd:FuncData):Prop where
 ex:∃(oc:Value)(od:Option Addr)(kV doc pm:Value)(an:Option Addr)(eY ct:Value)(xU:Array (Option Value))(T:Addr)(o:Obj) (n:Nat),
  fd=PySem.W.fnOf x qual (dJ st) (cC st) (av st) (.ref T) kV doc pm an eY ct/\K.lookup f=some ⟨oc,od,.func fd,xU⟩/\PySem.W.codeIn K eY qual=true/\K.lookup T=some o/\o.data=.seq #[.none] n
 kp:PySem.W.keepIn K (.ref f)=true
def HX.ok {x qual:Str}{st:Stmt}{f:Addr}{fd:FuncData}{N ps:List Str}{k:Nat}{sp:Sp}(F:HX K x qual st f fd)(S:aK N ps (av st))(len:∀vs H Q E,sp vs H Q E->vs.length=ps.length)
  (jB:∀(eY:Value)(A:Around)(outer:List Env)(s:Shared)(H:Hp)(vs:List V)(Q:VK)(E:XK),fY k (A.deeper (PyProof.Rows.envOfC qual (av st) s.heap.objs.size f eY))->sp vs H Q E ->
   ∃t,AZ (pJ gp P w K mg base N qual (av st) f eY A outer s H E).CW (cC st) t/\t { nx:=λ_ H'=>Q .fh H',rt:=Q } (start N vs) H):bS P w K mg base gp (k+1) f fd ps sp:=by
 obtain⟨oc,od,kV,doc,pm,an,eY,ct,xU,T,o,n,rfl,lk,wM,_⟩:=F.ex;refine G6 lk wM S len λA outer s H vs Q E hr yY=>?_;obtain⟨t,h,q⟩:=jB eY A outer s H vs Q E hr yY;exact⟨t,h.CW,q⟩
def G0 {f:Addr}{fd:FuncData}(F:HX K "__init__" "Grammar.__init__" v8 f fd):Binds K fd ["self","rules","strengths"] [.none]:=by
 obtain⟨oc,od,kV,doc,pm,an,eY,ct,xU,T,o,n,rfl,lk,wM,lT,dT⟩:=F.ex;intro s us KI hl;have tX:us.length=2:=by
  have:(us++[Value.none]).length=3:=hl;rw [a9] at this;exact Nat.succ.inj this
 match us,tX with
 | [u1,u2],_=>exact BindsTo.of_defaults rfl (KI T o lT) dT rfl rfl
structure GC (K:ba)(C:Addr):Prop where
 cls:Ec K C
 a1:eX K C "rules"
 a2:eX K C "strengths"
 a3:eX K C "begin_table"
 a4:eX K C "standings"
 a5:eX K C "small_trees"
def StrIn (K:ba)(H:Hp)(sv:V)(ss:List Addr)(str:List ar):Prop:=(sv=.fh/\ss=[]/\str=[])\/∃S,sv=.ref S/\aH K H S (ss.map V.ref)/\bL K H ss str
def GrV (H0 H:Hp)(Cg g:Addr)(rs ss:List Addr)(bt:Addr):Prop:=∃gx fs R2 S2,H g=some (.ins Cg gx fs)/\fs.lookup ("rules":Str)=some (.ref R2)/\fs.lookup ("strengths":Str)=some (.ref S2)/\fs.lookup ("begin_table":Str)=some (.ref bt)/\fs.lookup ("start":Str)=none /\
 H R2=some (.lst (rs.map V.ref))/\H S2=some (.lst (ss.map V.ref))/\H0 R2=none/\H0 S2=none
def qg (T1 T2 T3:Addr)(H H':Hp):Prop:=∀b o,b≠T1->b≠T2->b≠T3->H b=some o->H' b=some o
structure Cf (T1 T2 T3:Addr)(H:Hp):Prop where
 t1:Tab T1 r9.2.2.2 yW H
 t2:Tab T2 Ao.2.2.2 KQ H
 t3:Tab T3 posB Ih H
 KN:T1≠T2
 KL:T1≠T3
 KJ:T2≠T3
theorem Cf.same {T1 T2 T3:Addr}{H H':Hp}(h:Cf T1 T2 T3 H)(s:aA H H'):Cf T1 T2 T3 H':=⟨h.t1.same s,h.t2.same s,h.t3.same s,h.KN,h.KL,h.KJ⟩
def Cf.Ex {T1 T2 T3 a C dx:Addr}{H:Hp}{fs:List (Str×V)}{o:HO}(h:Cf T1 T2 T3 H)(ha:H a=some (.ins C dx fs)):Cf T1 T2 T3 (upd H a o):=⟨kO h.t1 ha,kO h.t2 ha,kO h.t3 ha,h.KN,h.KL,h.KJ⟩
def Kp.of3 {T1 T2 T3:Addr}{H H':Hp}(s:qg T1 T2 T3 H H')(t:Cf T1 T2 T3 H):Kp H H':=λc o hc hn=>by
 obtain⟨Ss,b1,_⟩:=t.t1;obtain⟨Sr,b2,_⟩:=t.t2;obtain⟨ps3,b3,_⟩:=t.t3;exact s c o (λz=>by rw [z,b1] at hc;cases hc;exact hn _ rfl) (λz=>by rw [z,b2] at hc;cases hc;exact hn _ rfl) (λz=>by rw [z,b3] at hc;cases hc;exact hn _ rfl) hc
def Br (K:ba)(Cg C T1 T2 T3:Addr):Sp:=λvs H Q _=>∃(H0:Hp)(g gx R:Addr)(sv:V)(rs ss:List Addr)(aa str:List ar)(rk:Str->Nat)(b:Str->Int),vs=[.ref g,.ref R,sv]/\aA H0 H/\H0 g=none/\H g=some (.ins Cg gx [])/\aH K H0 R (rs.map V.ref)/\bL K H0 rs aa/\aa.length < 64/\(∀ru∈aa,ru.2.length<=8)/\aa≠[] /\
 StrIn K H0 sv ss str/\str.length<=1000/\(∀ru∈str,ru.2.length<=8)/\(str.flatMap (·.2)).Nodup/\Good aa rk b/\Cf T1 T2 T3 H0 /\
 ∀(bt:Addr)(H':Hp),qg T1 T2 T3 H0 H'->Cf T1 T2 T3 H'->GrV H0 H' Cg g rs ss bt->Q .fh H'
def ub.Ex {C:Addr}{H0 H:Hp}{a e d bg:Addr}{kE:List (aR×V)}{bI:List (Str×Nat)}{ps:List (Str×Addr)}{cT:List Be}{g Cg gx:Addr}{fs Iu:List (Str×V)}(h:ub K C H0 H a e d bg kE bI ps cT)(hg:H0 g=some (.ins Cg gx fs))(na:a≠g) :
  ub K C (upd H0 g (.ins Cg gx Iu)) (upd H g (.ins Cg gx Iu)) a e d bg kE bI ps cT:=by
 have JP:=h.sm _ _ hg;have up:∀c o,c≠g->H c=some o->upd H g (.ins Cg gx Iu) c=some o:=λc o n q=>by rw [aj n];exact q
 refine⟨λc o hc=>?_,?_,up _ _ (λz=>by have:=h.he;rw [z,JP] at this;cases this) h.he,up _ _ (λz=>by have:=h.hd;rw [z,JP] at this;cases this) h.hd,h.n1,h.n2,λp hp=>?_,?_,?_,?_⟩
 .by_cases z:c=g
  .rw [z,ae] at hc ⊢;exact hc
  rw [aj z] at hc ⊢;exact h.sm _ _ hc
 .obtain⟨dx,fs,q,r⟩:=h.ia;exact⟨dx,fs,up _ _ na q,r⟩
 .obtain⟨⟨kvs,q,r⟩,t1,t2⟩:=h.dk p hp;exact⟨⟨kvs,up _ _ (λz=>by rw [z,JP] at q;cases q) q,r⟩,by rw [aj (λz=>by rw [z,hg] at t1;cases t1)];exact t1,t2⟩
 .obtain⟨ts,q,r⟩:=h.lb;exact⟨ts,up _ _ (λz=>by rw [z,JP] at q;cases q) q,Paired.fc r λ_ _ z=>iz JP z⟩
 .have t1:=h.fb;rw [aj (λz=>by rw [z,hg] at t1;cases t1)];exact t1
 obtain⟨e1,ts,⟨dx,fs,q1,q2⟩,q3,q4,q5⟩:=h.em;exact⟨e1,ts,⟨dx,fs,up _ _ na q1,q2⟩,up _ _ (λz=>by rw [z,JP] at q3;cases q3) q3,q4.keep λ_ _ z=>iz JP z,q5⟩
def Jb:aK ["self","rules","strengths"] ["self","rules","strengths"] (av v8):=iN rfl rfl rfl rfl nofun
def FV {Cg C C3 T1 T2 T3 fB fL:Addr}{ZS ZP:FuncData}(F:HX K "__init__" "Grammar.__init__" v8 f fd)(T:Txt mg)(G:GC K Cg)(GR:aC P w K mg base 6 "refuse_faults" ["rules","strengths"] (rJ K T1 T2))(GS:aC P w K mg base 6 "standings_by_part" ["rules"] (Ks K))
  (FB:bS P w K mg base gp 5 fB ZS ["self","rules"] (Bv K C))(MB:Mk K C fB)(BB:Binds K ZS ["self","rules"] [])(mB:mg "BeginTable"=some (.ref C))
  (FL:bS P w K mg base gp 5 fL ZP ["self","rules","begin_table"] (Bq K C C3 T1 T3))(ML:Mk K C3 fL)(BL:Binds K ZP ["self","rules","begin_table"] [])(mL:mg "LeastTrees"=some (.ref C3)):bS P w K mg base gp 7 f fd ["self","rules","strengths"] (Br K Cg C T1 T2 T3):=by
 refine F.ok Jb (λvs H Q E h=>?_) (λeY A outer s H vs Q E hr h=>?_)
 .obtain⟨H0,g,gx,R,sv,rs,ss,aa,str,rk,b,rfl,_⟩:=h;rfl
 obtain⟨H0,g,gx,R,sv,rs,ss,aa,str,rk,b,rfl,s0,f0,eg,hR,cA,bE,h8,qI,yX,VE,VM,VL,gd,Wj,q⟩:=h;refine⟨_,ai (g7 (pv 0) (bc fI rfl T.lst gI (ab (pv 1) ag)) rfl)
  (ai (iL (g7 (pv 0) (rX (eK (Fy (pv 2))) (a_ ag) (bc fI rfl T.lst gI (ab (pv 2) ag))) rfl))
  (ai (cJ (bp GR hr rfl (ab (fQ (pv 0) rfl) (ab (fQ (pv 0) rfl) ag))))
  (ai (g7 (pv 0) (bp GS hr rfl (ab (fQ (pv 0) rfl) ag)) rfl)
  (ai (g7 (pv 0) (wo MB FB hr rfl mB BB .nil uA (ab (fQ (pv 0) rfl) ag)) rfl)
  (ak (g7 (pv 0) (wo ML FL hr rfl mL BL .nil uA (ab (fQ (pv 0) rfl) (ab (fQ (pv 0) rfl) ag))) rfl)))))),?_⟩
 nofun
 refine⟨_,rfl,R,_,rfl,.inl (s0.seq hR),λR2 Iq=>?_⟩;have WU:=af Iq (.lst (rs.map V.ref)) _ _ eg;have sS:upd H R2 (.lst (rs.map V.ref)) R2=some (.lst (rs.map V.ref)):=ae;have YB:=s0.trans (af Iq (.lst (rs.map V.ref)));generalize upd H R2 (.lst (rs.map V.ref))=H1 at WU sS YB;refine⟨_,rfl,g,Cg,gx,[],rfl,WU,G.cls,G.a1,(by show 0 < 1000;decide),?_⟩;generalize n6:eI "rules" (.ref R2) []=tY;have G9:upd H1 g (.ins Cg gx tY) R2=some (.lst (rs.map V.ref)):=by rw [aj (λz=>by rw [z,WU] at sS;cases sS)];exact sS
 have Fb:aA H0 (upd H1 g (.ins Cg gx tY)):=λc o hc=>by rw [aj (λz=>by rw [z,f0] at hc;cases hc)];exact YB c o hc
 have Te:upd H1 g (.ins Cg gx tY) g=some (.ins Cg gx tY):=ae;generalize upd H1 g (.ins Cg gx tY)=H2 at G9 Fb Te;refine⟨λσ H3=>σ=[aM g,aM R,some sv]/\∃S2 fs,aA H0 H3/\H3 g=some (.ins Cg gx fs)/\fs=eI "strengths" (.ref S2) tY/\H3 R2=some (.lst (rs.map V.ref))/\H3 S2=some (.lst (ss.map V.ref))/\H0 S2=none,?_,?_⟩
 .have fin:∀S2,H2 S2=none->(λH3=>∃S2 fs,aA H0 H3/\H3 g=some (.ins Cg gx fs)/\fs=eI "strengths" (.ref S2) tY/\H3 R2=some (.lst (rs.map V.ref))/\H3 S2=some (.lst (ss.map V.ref))/\H0 S2=none) (upd (upd H2 S2 (.lst (ss.map V.ref))) g (.ins Cg gx (eI "strengths" (.ref S2) tY)))/\upd H2 S2 (.lst (ss.map V.ref)) g=some (.ins Cg gx tY):=λS2 Ei=>by
   have sl:=af Ei (.lst (ss.map V.ref));have eS:upd H2 S2 (.lst (ss.map V.ref)) S2=some (.lst (ss.map V.ref)):=ae;have Rq:=sl _ _ Te;refine⟨⟨S2,_,λc o hc=>?_,ae,rfl,?_,?_,Fb.free Ei⟩,Rq⟩
   .rw [aj (λz=>by rw [z,f0] at hc;cases hc)];exact sl _ _ (Fb c o hc)
   .rw [aj (λz=>by rw [z,Te] at G9;cases G9)];exact sl _ _ G9
   rw [aj (λz=>by rw [z,Te] at Ei;cases Ei)];exact eS
  rcases yX with ⟨rfl,rfl,rfl⟩ | ⟨S,rfl,hS,SG⟩
  .refine⟨_,rfl,_,rfl,?_⟩;refine d8 ?_;refine⟨rC,λS2 Ei=>?_⟩;obtain⟨x1,x2⟩:=fin S2 Ei;exact⟨_,rfl,g,Cg,gx,tY,rfl,x2,G.cls,G.a2,(by rw [<-n6];show 1 < 1000;decide),rfl,x1⟩
  refine⟨_,rfl,_,rfl,?_⟩;refine cU ?_;refine⟨_,rfl,S,_,rfl,.inl (Fb.seq hS),λS2 Ei=>?_⟩;obtain⟨x1,x2⟩:=fin S2 Ei;exact⟨_,rfl,g,Cg,gx,tY,rfl,x2,G.cls,G.a2,(by rw [<-n6];show 1 < 1000;decide),rfl,x1⟩
 rintro σ H3 ⟨rfl,S2,Ir,Cz,Rq,qp,Z1,ZZ,fS2⟩;have Y0:Ir.lookup ("rules":Str)=some (.ref R2):=by rw [qp,<-n6];rfl
 have Om:Ir.lookup ("strengths":Str)=some (.ref S2):=by rw [qp,<-n6];rfl
 have VH:bL K H3 ss str:=by
  rcases yX with ⟨_,rfl,rfl⟩ | ⟨S,_,_,SG⟩
  .exact .nil
  exact SG.same Cz
 have yU:=Wj.same Cz;refine⟨_,rfl,g,Cg,gx,Ir,_,rfl,Rq,G.cls,G.a1,Y0,_,rfl,g,Cg,gx,Ir,_,rfl,Rq,G.cls,G.a2,Om,R2,S2,rs,ss,aa,str,rk,b,rfl,aH.of Z1,cA.same Cz,∅,h8,qI,aH.of ZZ,VH,VE,VM,VL,gd,yU.t1,yU.t2,yU.KN,λH4 Sk Yp Yo=>?_⟩;have JJ:=Kp.of2 Sk yU.t1 yU.t2;have t4:Cf T1 T2 T3 H4:=⟨Yp,Yo,Tab.s2 yU.t3 Sk yU.t1 yU.t2 yU.KL.symm yU.KJ.symm,yU.KN,yU.KL,yU.KJ⟩;have S04:qg T1 T2 T3 H0 H4:=λc o n1 n2 _ hc=>Sk c o n1 n2 (Cz c o hc);have Z6:=JJ _ _ Rq (λ_ z=>by cases z);have Z0:=JJ.lst Z1;have es4:=JJ.lst ZZ;have QK:bL K H4 rs aa:=JJ.aa (cA.same Cz);clear Yp Yo Sk yU;refine⟨_,rfl,g,Cg,gx,Ir,_,rfl,Z6,G.cls,G.a1,Y0,R2,rs,aa,rfl,aH.of Z0,QK,∅,h8,λds H5 fds tP=>?_⟩;have OJ:=tP _ _ Z6;have er5:=tP _ _ Z0;have es5:=tP _ _ es4;have VP:=QK.same tP;have t5:=t4.same tP;have S05:qg T1 T2 T3 H0 H5:=λc o n1 n2 n3 hc=>tP _ _ (S04 c o n1 n2 n3 hc);refine⟨_,rfl,g,Cg,gx,Ir,rfl,OJ,G.cls,G.a4,(by rw [qp,<-n6];show 2 < 1000;decide),?_⟩;generalize wK:eI "standings" (.ref ds) Ir=zd;have UU:∀{Hx:Hp}{fx fy:List (Str×V)},Hx g=some (.ins Cg gx fx)->qg T1 T2 T3 H0 Hx->qg T1 T2 T3 H0 (upd Hx g (.ins Cg gx fy)):=λ{Hx fx fy} hg hs c o n1 n2 n3 hc=>by
  rw [aj (λz=>by rw [z,f0] at hc;cases hc)];exact hs c o n1 n2 n3 hc
 have Ol:∀{Hx:Hp}{fx fy:List (Str×V)}{b:Addr}{xs:List V},Hx g=some (.ins Cg gx fx)->Hx b=some (.lst xs)->upd Hx g (.ins Cg gx fy) b=some (.lst xs):=λ{Hx fx fy b xs} hg hb=>by
  rw [aj (λz=>by rw [z,hg] at hb;cases hb)];exact hb
 have S06:=UU (fy:=zd) OJ S05;have WO:=Ol (fy:=zd) OJ er5;have ZY:=Ol (fy:=zd) OJ es5;have MY:bL K (upd H5 g (.ins Cg gx zd)) rs aa:=VP.keep λ_ _ z=>iz OJ z;have t6:Cf T1 T2 T3 (upd H5 g (.ins Cg gx zd)):=t5.Ex OJ;have Rp:upd H5 g (.ins Cg gx zd) g=some (.ins Cg gx zd):=ae;generalize upd H5 g (.ins Cg gx zd)=H6 at S06 WO ZY MY t6 Rp;have lk6:zd.lookup ("rules":Str)=some (.ref R2):=by rw [<-wK,qp,<-n6];rfl
 refine⟨_,rfl,g,Cg,gx,zd,_,rfl,Rp,G.cls,G.a1,lk6,λx dx hx hdx ndx=>?_⟩;have sx:aA H6 (upd (upd H6 dx (.own x)) x (.ins C dx [])):=(af hdx _).trans (af (by rw [aj ndx.symm];exact hx) _);refine⟨H6,x,dx,R2,rs,aa,rfl,sx,hx,ae,aH.of WO,MY,∅,h8,λe d bg kE bI ps cT H7 S7 m7 emp _ _ beg _=>⟨rfl,?_⟩⟩;have OI:=S7.sm _ _ Rp;have er7:=S7.sm _ _ WO;have es7:=S7.sm _ _ ZY;have t7:=t6.same S7.sm;have VO:=MY.same S7.sm;have S07:qg T1 T2 T3 H0 H7:=λc o n1 n2 n3 hc=>S7.sm _ _ (S06 c o n1 n2 n3 hc);refine⟨_,rfl,g,Cg,gx,zd,rfl,OI,G.cls,G.a3,(by rw [<-wK,qp,<-n6];show 3 < 1000;decide),?_⟩;generalize Ay:eI "begin_table" (.ref x) zd=AG;have S08:=UU (fy:=AG) OI S07;have WN:=Ol (fy:=AG) OI er7;have ZX:=Ol (fy:=AG) OI es7;have QJ:bL K (upd H7 g (.ins Cg gx AG)) rs aa:=VO.keep λ_ _ z=>iz OI z;have t8:Cf T1 T2 T3 (upd H7 g (.ins Cg gx AG)):=t7.Ex OI;have Td:upd H7 g (.ins Cg gx AG) g=some (.ins Cg gx AG):=ae;have B8:ub K C (upd H6 g (.ins Cg gx AG)) (upd H7 g (.ins Cg gx AG)) x e d bg kE bI ps cT:=S7.Ex Rp (λz=>by rw [z,Rp] at hx;cases hx);generalize upd H7 g (.ins Cg gx AG)=H8 at S08 WN ZX QJ t8 Td B8;have Vf:AG.lookup ("rules":Str)=some (.ref R2):=by rw [<-Ay,<-wK,qp,<-n6];rfl
 have lb8:AG.lookup ("begin_table":Str)=some (.ref x):=by rw [<-Ay,<-wK,qp,<-n6];rfl
 refine⟨_,rfl,g,Cg,gx,AG,_,rfl,Td,G.cls,G.a1,Vf,_,rfl,g,Cg,gx,AG,_,rfl,Td,G.cls,G.a3,lb8,λy dy hy hdy ndy=>?_⟩;have sy:aA H8 (upd (upd H8 dy (.own y)) y (.ins C3 dy [])):=(af hdy _).trans (af (by rw [aj ndy.symm];exact hy) _);have MM:=beg.len ∅ h8;refine⟨H8,_,y,dy,R2,x,e,d,bg,rs,aa,kE,bI,ps,cT,rfl,sy,hy,ae,aH.of WN,QJ,bE,h8,gd.least,B8,emp,MM,t8.t1,t8.t3,t8.KL,λH9 Uy Um t39=>⟨rfl,?_⟩⟩;have MO:=Kp.of2 Uy t8.t1 t8.t3;have Ro:=MO _ _ Td (λ_ z=>by cases z);have er9:=MO.lst WN;have Rj:=MO.lst ZX;have t9:Cf T1 T2 T3 H9:=⟨Um,Tab.s2 t8.t2 Uy t8.t1 t8.t3 t8.KN.symm t8.KJ,t39,t8.KN,t8.KL,t8.KJ⟩;have S09:qg T1 T2 T3 H0 H9:=λc o n1 n2 n3 hc=>Uy _ _ n1 n3 (S08 c o n1 n2 n3 hc);refine⟨_,rfl,g,Cg,gx,AG,rfl,Ro,G.cls,G.a5,(by rw [<-Ay,<-wK,qp,<-n6];show 4 < 1000;decide),?_⟩;refine q x _ (UU Ro S09) (t9.Ex Ro) ⟨gx,_,R2,S2,ae,?_,?_,?_,?_,Ol Ro er9,Ol Ro Rj,s0.free Iq,fS2⟩
 .rw [<-Ay,<-wK,qp,<-n6];rfl
 .rw [<-Ay,<-wK,qp,<-n6];rfl
 .rw [<-Ay,<-wK,qp,<-n6];rfl
 rw [<-Ay,<-wK,qp,<-n6];rfl
end
def Eg:List Str->Str->Nat
 | [],_=>0
 | a::r,x=>if a=x then 0 else Eg r x+1
theorem sg:∀(l:List Str)(x:Str),x∈l->l[Eg l x]?=some x
 | [],x,h=>by cases h
 | a::r,x,h=>by
  unfold Eg;by_cases c:a=x
  .rw [ax c];exact congrArg some c
  rw [ay c];rcases bX.mp h with e | e
  .exact absurd e.symm c
  rw [List.getElem?_cons_succ];exact sg r x e
theorem nY:∀(l:List Str)(x:Str) (i:Nat),x∈l.take i->Eg l x < i
 | [],x,i,h=>by simp at h
 | a::r,x,0,h=>by simp at h
 | a::r,x,i+1,h=>by
  unfold Eg;by_cases c:a=x
  .rw [ax c];omega
  rw [ay c];rw [List.take_succ_cons] at h;rcases bX.mp h with e | e
  .exact absurd e.symm c
  have:=nY r x i e;omega
def qy {l:List Str}{x:Str}{i:Nat}(h:x∈l.take i):∃j,j < i/\l[j]?=some x:=by
 obtain⟨j,hj⟩:=iI h;have lj:=(bu.mp hj).1;rw [bQ] at lj;rw [xq ∅] at hj;exact⟨j,∅,hj⟩
def n_ {aa:List ar}{ru:ar}(h:ru∈aa):ru.1∈hd aa:=(ir _ _ _).mpr (.inr (j8 h))
def K7 {aa:List ar}{x:Str}(h:x∈hd aa):∃ru∈aa,ru.1=x:=by
 rcases (ir _ _ _).mp h with h | h
 .cases h
 obtain⟨ru,a,b⟩:=cY.mp h;exact⟨ru,a,b⟩
def Lg {aa:List ar}{x:Str}(h:Em aa x):x∈hd aa:=by
 cases h with
 | mk h _=>exact n_ h
def NC {aa:List ar}{bI:List (Str×Nat)}(h:xc aa bI):∀y∈bI.map (·.1),Em aa y:=by
 induction h with
 | nil=>intro y hy;cases hy
 | @snoc bI k ru _ e _ p ih =>
  intro y hy;rw [bH] at hy;rcases bR.mp hy with h | h
  .exact ih y h
  rw [bF.mp h];exact .mk (b_ e) λq hq=>ih q (p q hq)
def Gb {b:Str->Bool}{zs:List Str}{i j:Nat}{x:Str}(h:JF b zs j=true)(e:zs[i]?=some x)(n:i≠j):b x=true:=by
 cases hb:b x with
 | true=>rfl
 | false =>
  have li:=(bu.mp e).1;have m:((i:Nat):Int)∈Du b zs zs.length:=by
   unfold Du;exact cY.mpr ⟨i,lW.mpr ⟨pP.mpr li,by rw [e];show (!(b x))=true;rw [hb];rfl⟩,rfl⟩
  unfold JF at h;rcases Bool.or_eq_true_iff.mp h with h | h
  .rw [<-c_ h] at m;cases m
  rw [<-c_ h] at m;have:=bF.mp m;omega
theorem Bb {f:Str->Int}{c:Int}:∀(ps:List Str),(∀x∈ps,f x<=c)->(ps.map f).sum<=ps.length * c
 | [],_=>by simp
 | p::r,h=>by
  have h1:=Bb r λx hx=>h x (dB _ hx);have h2:=h p cI;rw [cP,kK,dZ];have:((r.length+1:Nat):Int) * c=(r.length:Int) * c+c:=by rw [Int.natCast_add,Int.add_mul];omega
  omega
structure yM (aa:List ar) (ns E M Pl:List Str):Prop where
 n3:ns.length<=3
 xj:∀ru∈aa,ru.1∈ns
 p3:∀ru∈aa,ru.2.length<=3
 eN:E.Nodup
 eNs:∀x∈E,x∈ns
 eO:∀(i:Nat)(h:Str),E[i]?=some h->∃bq,(h,bq)∈aa/\∀p∈bq,p∈E.take i\/p∉hd aa
 eA:∀h∈hd aa,h∈E
 mO:∀(i:Nat)(h:Str),M[i]?=some h->(∃jJ,aa[0]?=some jJ/\h=jJ.1)\/∃ru∈aa,ru.1∈M.take i/\h∈ru.2
 mA:∀h∈hd aa,h∈M
 lN:Pl.Nodup
 Y3:∀x∈Pl,x∈ns
 lO:∀(i:Nat)(h:Str),Pl[i]?=some h->∀ru∈aa,ru.1=h->∀(j:Nat)(z:Str),ru.2[j]?=some z->z∈hd aa->(∀(k:Nat)(y:Str),k≠j->ru.2[k]?=some y->Em aa y)->z∈Pl.take i
 lA:∀h∈hd aa,h∈Pl
def b3:Nat->Int
 | 0=>1
 | 1=>4
 | _=>13
def c3:Nat->Int
 | 0=>0
 | 1=>1
 | _=>4
def Lu {i j:Nat}(hi:i < 3)(h:j < i):b3 j<=c3 i:=by
 have:∀i:Nat,i < 3->∀j:Nat,j < i->b3 j<=c3 i:=by decide
 exact this i hi j h
def RF {i:Nat}:1+3 * c3 i=b3 i:=by
 match i with
 | 0=>rfl
 | 1=>rfl
 | _+2=>rfl
def Lq {i:Nat}:0<=c3 i:=by
 match i with
 | 0=>decide
 | 1=>decide
 | _+2=>exact(by decide:(0:Int)<=4)
def Hw {i:Nat}:0<=b3 i/\b3 i<=60:=by
 match i with
 | 0=>decide
 | 1=>decide
 | _+2=>exact(by decide:(0:Int)<=13/\(13:Int)<=60)
def Kv {f:Str->Int}{i:Nat}{ps:List Str}(h3:ps.length<=3)(h:∀x∈ps,f x<=c3 i):1+(ps.map f).sum<=b3 i:=by
 have h1:=Bb ps h;have h2:(ps.length:Int) * c3 i<=3 * c3 i:=Int.mul_le_mul_of_nonneg_right ∅ Lq;have:=@RF i;omega
def bP (Pl:List Str)(x:Str):Int:=if x∈Pl then b3 (Eg Pl x) else 0
def yM.good {aa:List ar}{ns E M Pl:List Str}(O:yM aa ns E M Pl):Good aa (Eg Pl) (bP Pl) where
 least g st se:=by
  have Qj:E.length<=3:=dY (gP E ns O.eN O.eNs) O.n3;have aY:∀x,x∉hd aa->∀ru∈aa,x∈ru.2->g x=some 0:=by
   intro x nn ru iZ hm;refine fk.keep (J:=λg=>g x=some 0) (λg Ie j h2 _=>?_) st ?_
   .show fq g Ie.1 _ x=some 0;unfold fq;have:x≠Ie.1:=λz=>nn (z ▸ n_ h2);rw [ay this];exact j
   show zc aa x=some 0;unfold zc;rw [ax (vI _ _ _ _ (.inr ⟨q8.mpr ⟨ru,iZ,hm⟩,nn⟩))]
  have key:∀(n i:Nat),i < n->∀h:Str,E[i]?=some h->∃m,g h=some m/\m<=b3 i:=by
   intro n
   induction n with
   | zero=>intro i hi;omega
   | succ n ih =>
    intro i hi h e;have li:=(bu.mp e).1;obtain⟨ps,hm,hp⟩:=O.eO i h e;have hv:∀p∈ps,∃m,g p=some m/\m<=c3 i:=λp Gw=>by
     rcases hp p Gw with h1 | h1
     .obtain⟨j,lj,ej⟩:=qy h1;obtain⟨m,e1,e2⟩:=ih j ∅ p ej;exact⟨m,e1,Int.le_trans e2 (Lu ∅ lj)⟩
     exact⟨0,aY p h1 _ hm Gw,Lq⟩
    have hs:=se _ hm;unfold cW at hs;have a1:lC g (h,ps)=true:=gL.mpr λp hp=>by obtain⟨m,e1,_⟩:=hv p hp;show (g p).isSome=true;rw [e1];rfl
    have s0:aV g (h,ps)<=b3 i:=by
     unfold aV;exact Kv (O.p3 _ hm) λp hp=>by obtain⟨m,e1,e2⟩:=hv p hp;show (g p).getD 0<=_;rw [e1];exact e2
    rw [a1,jo] at hs;cases gn:g h with
    | none=>rw [show g (h,ps).1=none from gn] at hs;cases hs
    | some m =>
     rw [show g (h,ps).1=some m from gn] at hs;refine⟨m,rfl,?_⟩;have:¬aV g (h,ps) < m:=by simpa [M11.bl] using hs
     omega
  intro h hh;obtain⟨i,hi⟩:=iI (O.eA h hh);obtain⟨m,e1,e2⟩:=key (i+1) i ∅ h hi;exact⟨m,e1,Int.le_trans e2 Hw.2⟩
 met jJ ms e0 h0 mc:=by
  have key:∀(n i:Nat),i < n->∀h:Str,M[i]?=some h->h∈ms:=by
   intro n
   induction n with
   | zero=>intro i hi;omega
   | succ n ih =>
    intro i hi h e;rcases O.mO i h e with ⟨r0,e1,e2⟩ | ⟨ru,iZ,h1,h2⟩
    .rw [e0] at e1;cases e1;rw [e2];exact h0
    obtain⟨j,lj,ej⟩:=qy h1;exact mc ru (by rw [cH];exact iZ) (ih j ∅ _ ej) h h2
  intro h hh;obtain⟨i,hi⟩:=iI (O.mA h hh);exact key (i+1) i ∅ h hi
 loop:=by
  rintro bI emp DA n k j ⟨jJ,z0,e1,e2,e3,e4,e5⟩ ru z er ez;rw [er] at e1;obtain rfl:ru=jJ:=iu e1;rw [ez] at e3;obtain rfl:z=z0:=iu e3;have iZ:=b_ er;have hn:n∈Pl:=O.lA n (e2 ▸ n_ iZ);refine nY Pl z _ (O.lO _ n (sg Pl n hn) ru iZ e2 j z ez e4 λk' y nk ey=>?_);have:=Gb e5 ey nk;exact NC emp y (c_ this)
 Tq:=by
  refine⟨λz=>?_,λru iZ Ox=>?_⟩
  .unfold bP
   split
   .exact Hw.1
   decide
  have hn:ru.1∈Pl:=O.lA _ (n_ iZ);have li:=(bu.mp (sg Pl ru.1 hn)).1;have Qj:Pl.length<=3:=dY (gP Pl ns O.lN O.Y3) O.n3;have e:bP Pl ru.1=b3 (Eg Pl ru.1):=ax hn;rw [e];refine Kv (O.p3 ru iZ) λp hp=>?_;obtain⟨j,ej⟩:=iI hp;have ht:=O.lO _ ru.1 (sg Pl ru.1 hn) ru iZ rfl j p ej (Lg (Ox p hp)) λk' y _ ey=>Ox y (b_ ey);have e2:bP Pl p=b3 (Eg Pl p):=ax (i7 ht);rw [e2];exact Lu ∅ (nY Pl p _ ht)
 most h hh:=by
  unfold bP
  split
  .exact Hw.2
  decide
end hV
namespace M11
open PySem
def dN (aY:Bool) (bj e:List Str)(ru:ar):List Str:=if ((ru.2.all λp=>decide (p∈e) || (aY && !decide (p∈bj))) && !decide (ru.1∈e))=true then e++[ru.1] else e
def gB (aY:Bool) (bj e:List Str)(aa:List ar):List Str:=aa.foldl (dN aY bj) e
def passes {α:Type}(f:α->α):Nat->α->α
 | 0,a=>a
 | n+1,a=>f (passes f n a)
def cM (aY:Bool)(aa:List ar):List Str:=passes (λe=>gB aY (aa.map (·.1)) e aa) aa.length []
structure EO (aY:Bool) (bj:List Str)(aa:List ar) (e:List Str):Prop where
 nd:e.Nodup
 ord:∀(i:Nat)(h:Str),e[i]?=some h->∃bq,(h,bq)∈aa/\∀p∈bq,p∈e.take i\/(aY=true/\p∉bj)
def EO.step {aY:Bool}{bj:List Str}{aa:List ar}{e:List Str}(h:EO aY bj aa e){ru:ar}(hr:ru∈aa):EO aY bj aa (dN aY bj e ru):=by
 unfold dN
 split
 .rename_i c
  obtain⟨c1,c2⟩:=gF.mp c;have OR:ru.1∉e:=by simpa using c2
  refine⟨j7.mpr ⟨h.nd,by simp,λa ha b hb z=>OR (by rw [<-bF.mp hb,<-z];exact ha)⟩,λi x hx=>?_⟩;by_cases l:i < e.length
  .rw [pU l] at hx;obtain⟨bq,a,b⟩:=h.ord i x hx;refine⟨bq,a,λp hp=>?_⟩;rw [pV ∅];exact b p hp
  have li:=(bu.mp hx).1;rw [a9,gy] at li;have:i=e.length:=by omega
  subst this;rw [mZ (aF _),Nat.sub_self] at hx;cases hx;refine⟨ru.2,hr,λp hp=>?_⟩;rw [pV (aF _),cH];have:=gL.mp c1 p hp;simp only [Bool.or_eq_true,decide_eq_true_eq,pR,Bool.not_eq_true',decide_eq_false_iff_not] at this;exact this
 exact h
theorem EO.pass {aY:Bool}{bj:List Str}{aa:List ar}:∀(rs:List ar){e:List Str},(∀ru∈rs,ru∈aa)->EO aY bj aa e->EO aY bj aa (rs.foldl (dN aY bj) e)
 | [],_,_,h=>h
 | ru::rs,_,hs,h=>EO.pass rs (λr hr=>hs r (dB _ hr)) (h.step (hs ru cI))
def Hd (aY:Bool)(aa:List ar):EO aY (aa.map (·.1)) aa (cM aY aa):=by
 have:∀n,EO aY (aa.map (·.1)) aa (passes (λe=>gB aY (aa.map (·.1)) e aa) n []):=by
  intro n
  induction n with
  | zero=>exact⟨ku,λi h e=>by cases e⟩
  | succ n ih=>exact EO.pass aa (λ_ h=>h) ih
 exact this _
def um (aY:Bool) (bj e:List Str)(ru:ar):dN aY bj e ru=e\/e.length < (dN aY bj e ru).length:=by
 unfold dN
 split
 .right;simp
 left;rfl
theorem yp (aY:Bool) (bj:List Str):∀(rs:List ar) (e:List Str),e.length<=(rs.foldl (dN aY bj) e).length
 | [],_=>aF _
 | ru::rs,e=>by
  have h1:=yp aY bj rs (dN aY bj e ru);have h2:=um aY bj e ru;show _<=(rs.foldl (dN aY bj) (dN aY bj e ru)).length;rcases h2 with h | h
  .rw [h] at h1 ⊢;exact h1
  omega
theorem sL (aY:Bool) (bj:List Str):∀(rs:List ar) (e:List Str),(rs.foldl (dN aY bj) e=e/\∀ru∈rs,dN aY bj e ru=e)\/e.length < (rs.foldl (dN aY bj) e).length
 | [],_=>.inl ⟨rfl,λ_ h=>by cases h⟩
 | ru::rs,e=>by
  show (rs.foldl (dN aY bj) (dN aY bj e ru)=e/\_)\/_ < (rs.foldl (dN aY bj) (dN aY bj e ru)).length;rcases um aY bj e ru with h | h
  .rw [h];rcases sL aY bj rs e with ⟨a,b⟩ | c
   .refine .inl ⟨a,λr hr=>?_⟩;rcases bX.mp hr with rfl | hr
    .exact h
    exact b r hr
   exact .inr c
  right;have:=yp aY bj rs (dN aY bj e ru);omega
theorem iY:∀(l m:List Str),l.Nodup->(∀z∈l,z∈m)->l.length<=m.length
 | [],m,_,_=>dX _
 | x::r,m,hn,hs=>by
  have hx:=hs x cI;have Gz:=mU.mp hn;have:=iY r (m.erase x) Gz.2 λz hz=>(List.mem_erase_of_ne (λe=>Gz.1 (by rw [<-e];exact hz))).mpr (hs z (dB _ hz));rw [List.length_erase_of_mem hx] at this;have:0 < m.length:=List.length_pos_of_mem hx;rw [dZ];omega
def EO.sub {aY:Bool}{bj:List Str}{aa:List ar}{e:List Str}(h:EO aY bj aa e):∀x∈e,x∈aa.map (·.1):=λx hx=>by
 obtain⟨i,hi⟩:=iI hx;obtain⟨bq,a,_⟩:=h.ord i x hi;exact cY.mpr ⟨_,a,rfl⟩
def Dy (aY:Bool)(aa:List ar):∀ru∈aa,dN aY (aa.map (·.1)) (cM aY aa) ru=cM aY aa:=by
 have eo:∀n,EO aY (aa.map (·.1)) aa (passes (λe=>gB aY (aa.map (·.1)) e aa) n []):=by
  intro n
  induction n with
  | zero=>exact⟨ku,λi h e=>by cases e⟩
  | succ n ih=>exact EO.pass aa (λ_ h=>h) ih
 have key:∀n,(passes (λe=>gB aY (aa.map (·.1)) e aa) (n+1) []=passes (λe=>gB aY (aa.map (·.1)) e aa) n []/\∀ru∈aa,dN aY (aa.map (·.1)) (passes (λe=>gB aY (aa.map (·.1)) e aa) n []) ru=passes (λe=>gB aY (aa.map (·.1)) e aa) n [])\/n < (passes (λe=>gB aY (aa.map (·.1)) e aa) (n+1) []).length:=by
  intro n
  induction n with
  | zero =>
   rcases sL aY (aa.map (·.1)) aa [] with h | h
   .exact .inl h
   exact .inr h
  | succ n ih =>
   rcases ih with ⟨a,b⟩ | c
   .left;rw [show passes (λe=>gB aY (aa.map (·.1)) e aa) (n+1+1) []=gB aY (aa.map (·.1)) (passes (λe=>gB aY (aa.map (·.1)) e aa) (n+1) []) aa from rfl,a];exact⟨a,b⟩
   rcases sL aY (aa.map (·.1)) aa (passes (λe=>gB aY (aa.map (·.1)) e aa) (n+1) []) with h | h
   .exact .inl h
   right;have h2:(passes (λe=>gB aY (aa.map (·.1)) e aa) (n+1) []).length < (passes (λe=>gB aY (aa.map (·.1)) e aa) (n+1+1) []).length:=h;omega
 rcases key aa.length with ⟨_,b⟩ | c
 .exact b
 have e1:=eo (aa.length+1);have:=iY _ _ e1.nd e1.sub;rw [au] at this;omega
def ow {aY:Bool}{aa:List ar}{ru:ar}(hr:ru∈aa)(h:∀p∈ru.2,p∈cM aY aa\/(aY=true/\p∉aa.map (·.1))):ru.1∈cM aY aa:=by
 have:=Dy aY aa ru hr;unfold dN at this;by_cases c:ru.1∈cM aY aa
 .exact c
 rw [ax] at this
 .have:=congrArg List.length this;rw [a9] at this;simp at this
 refine gF.mpr ⟨gL.mpr λp hp=>?_,by simpa using c⟩;simp only [Bool.or_eq_true,decide_eq_true_eq,pR,Bool.not_eq_true',decide_eq_false_iff_not];exact h p hp
def Hf {aa:List ar}{x:Str}(h:Em aa x):x∈cM false aa:=by
 induction h with
 | mk hr _ ih=>exact ow hr λp hp=>.inl (ih p hp)
end M11
namespace hV
open PySem L2 M11
abbrev E9:Stmt:=top 46
abbrev zN:Stmt:=top 47
abbrev vV:Stmt:=top 48
abbrev wc:Stmt:=top 49
abbrev EZ:Stmt:=top 50
abbrev E3:Stmt:=top 51
abbrev zQ:Stmt:=top 52
abbrev E7:Stmt:=top 53
abbrev E6:Stmt:=top 54
def XH {zs:List Str}{m:Int}(h:(zs.length:Int)=m)(hm:0 < m) (n:Int):∃z∈zs,ke (zs.map V.str) (n % m)=some (.str z):=by
 subst h;have h1:=vp n hm;have h2:=qX n (show (zs.length:Int)≠0 by omega);have l:(n % (zs.length:Int)).toNat < zs.length:=by omega
 have e:n % (zs.length:Int)=(((n % (zs.length:Int)).toNat:Nat):Int):=by omega
 refine⟨zs[(n % (zs.length:Int)).toNat],qZ l,?_⟩;have t:ke (zs.map V.str) (((n % (zs.length:Int)).toNat:Nat):Int)=some (.str zs[(n % (zs.length:Int)).toNat]):=b0 (by rw [bz,dH l];rfl);rw [<-e] at t;exact t
def xS {α:Type}(i:Nat)(x y z:α):α:=match i with | 0=>x | 1=>y | _=>z
def Qf {H:Hp}{L1 L2 L3 LL:Addr}{xs ys zs:List V}(h1:H L1=none)(h2:upd H L1 (.lst xs) L2=none)(h3:upd (upd H L1 (.lst xs)) L2 (.lst ys) L3=none)
  (h4:upd (upd (upd H L1 (.lst xs)) L2 (.lst ys)) L3 (.lst zs) LL=none):aA H (upd (upd (upd (upd H L1 (.lst xs)) L2 (.lst ys)) L3 (.lst zs)) LL (.lst [.ref L1,.ref L2,.ref L3]))/\∀i:Nat,i < 3->∃Li,ke [V.ref L1,V.ref L2,V.ref L3] (i:Int)=some (.ref Li)/\H Li=none /\
   upd (upd (upd (upd H L1 (.lst xs)) L2 (.lst ys)) L3 (.lst zs)) LL (.lst [.ref L1,.ref L2,.ref L3]) Li=some (.lst (xS i xs ys zs)):=by
 have s1:=af h1 (.lst xs);have s2:=af h2 (.lst ys);have s3:=af h3 (.lst zs);have s4:=af h4 (.lst [.ref L1,.ref L2,.ref L3]);refine⟨s1.trans (s2.trans (s3.trans s4)),λi hi=>?_⟩
 match i,hi with
 | 0,_=>exact⟨L1,rfl,h1,s4 _ _ (s3 _ _ (s2 _ _ ae))⟩
 | 1,_=>exact⟨L2,rfl,s1.free h2,s4 _ _ (s3 _ _ ae)⟩
 | 2,_=>exact⟨L3,rfl,s1.free (s2.free h3),s4 _ _ ae⟩
def BO (i:Nat):List Str:=xS i ["s","t","u"] ["b","aa","k"] ["a","ab","n"]
def R9 (i:Nat):List Str:=xS i ["a","b","c"] ["ab","a","c"] ["b","+","ba"]
def Oh (i j:Nat):List Str:=(BO i).map λz=>z++Fi "y" j
def JD (i:Nat):xS i [V.str "s",V.str "t",V.str "u"] [V.str "b",V.str "aa",V.str "k"] [V.str "a",V.str "ab",V.str "n"]=(BO i).map V.str:=by
 match i with
 | 0=>rfl
 | 1=>rfl
 | _+2=>rfl
def IP (i:Nat):xS i [V.str "a",V.str "b",V.str "c"] [V.str "ab",V.str "a",V.str "c"] [V.str "b",V.str "+",V.str "ba"]=(R9 i).map V.str:=by
 match i with
 | 0=>rfl
 | 1=>rfl
 | _+2=>rfl
def F6 (i:Nat):(BO i).length=3:=by
 match i with
 | 0=>rfl
 | 1=>rfl
 | _+2=>rfl
def LG (i:Nat):(R9 i).length=3:=by
 match i with
 | 0=>rfl
 | 1=>rfl
 | _+2=>rfl
def F5 (i:Nat):∀z∈BO i,z.length<=2:=by
 match i with
 | 0=>decide +kernel
 | 1=>decide +kernel
 | n+2=>exact(by decide +kernel:∀z∈BO 2,z.length<=2)
def CC {j:Nat}(h:j < 3):(Fi "y" j).length<=2:=by
 match j,h with
 | 0,_=>decide +kernel
 | 1,_=>decide +kernel
 | 2,_=>decide +kernel
section
def cellAt (ns:List Int) (k:Nat):Int:=(ns[k]?).getD 0
def rL (K:ba):Sp:=λvs H Q _=>∃(a:Addr)(ns:List Int) (k:Nat),vs=[.ref a,.int (k:Int)]/\aH K H a (ns.map V.int)/\ns.length<=1000/\∀n:Int,n=cellAt ns k->Q (.int n) H
def LW:aK ["_law_script","_law_k"] ["_law_script","_law_k"] (av E9):=iN rfl rfl rfl rfl nofun
def JA (F:iC K "_law_cell_at" "_law_cell_at" E9 f fd)(T:Txt mg):bS P w K mg base gp 1 f fd ["_law_script","_law_k"] (rL K):=by
 refine F.ok LW (λvs H Q E h=>?_) (λeY A outer s H vs Q E hr h=>?_)
 .obtain⟨a,ns,k,rfl,_⟩:=h;rfl
 obtain⟨a,ns,k,rfl,hS,hn,q⟩:=h;refine⟨_,ai (bJ (aX nV (pv 1) (aD aG rfl T.len cZ (ab (pv 0) ag)) (bK _)) (ak (aN (aL bB (pv 0) (pv 1) (λ_ _=>rfl)))) aQ) (ak (aN ao)),?_⟩
 nofun
 refine⟨_,rfl,_,rfl,a,_,rfl,.inl hS,_,_,rfl,rfl,_,rfl,?_⟩;refine cg (λcc=>?_) (λcc=>q 0 ?_)
 rotate_left
 .have ge:¬((k:Int) < ((ns.map V.int).length:Int)):=λz=>cc (bh z);rw [au] at ge;unfold cellAt;rw [vy ∅];rfl
 have lt:=c_ cc;rw [au] at lt;have lt':k < ns.length:=by omega
 refine⟨_,rfl,_,rfl,a,_,_,.int ns[k],rfl,rfl,hS,b0 (by rw [bz,dH lt'];rfl),q _ (by unfold cellAt;rw [dH lt'];rfl)⟩
def rK:Sp:=λvs H Q _=>∃(c:Int) (m:Nat)(S:Addr) (zs:List Str),vs=[.int c,.int (m:Int),.ref S]/\m<=100/\H S=some (.lst (zs.map V.str))/\0 < zs.length/\zs.length<=1000/\∀(p:Addr) (ps:List Str)(H':Hp),aA H H'->H' p=some (.tup (ps.map V.str))->ps.length=m->(∀x∈ps,x∈zs)->Q (.ref p) H'
def jw:aK ["_law_cell","_law_many","_law_some","_law_parts","_law_seed","_law_k"] ["_law_cell","_law_many","_law_some"] (av wc):=iN rfl rfl rfl rfl nofun
def CT (F:iC K "_law_digits" "_law_digits" wc f fd)(T:Txt mg):bS P w K mg base gp 1 f fd ["_law_cell","_law_many","_law_some"] rK:=by
 refine F.ok jw (λvs H Q E h=>?_) (λeY A outer s H vs Q E hr h=>?_)
 .obtain⟨c,m,S,zs,rfl,_⟩:=h;rfl
 obtain⟨c,m,S,zs,rfl,hm,hS,hz0,hz1,q⟩:=h;refine⟨_,ai (az (i:=3) jw.nd rfl (bC rfl) (a_ ag))
  (ai (az (i:=4) jw.nd rfl (bC rfl) (aI dw (aI df (pv 0) ao) ao))
  (ai (bM cq rfl (gO rfl T.CB (ab (pv 1) ag)) (aq (i:=5) jw.nd rfl (bC rfl))
   (ak (bJ (aX xX (pv 0) ao (bK _))
    (ai (cJ (g_ gG gX gY bV (pv 3) (ab (aL bB (pv 2) (aI df (aI mC (pv 0) ao) (aD aG rfl T.len cZ (ab (pv 2) ag))) (λ_ _=>rfl)) ag)))
    (ak (az (i:=0) jw.nd rfl (bC rfl) (aI fU (aI mC (pv 0) ao) (aD aG rfl T.len cZ (ab (pv 2) ag))))))
    (ai (az (i:=4) jw.nd rfl (bC rfl) (aI df (aI FC (pv 4) ao) ao))
    (ak (cJ (g_ gG gX gY bV (pv 3) (ab (aL bB (pv 2) (aI df (aI fU (pv 4) ao) (aD aG rfl T.len cZ (ab (pv 2) ag))) (λ_ _=>rfl)) ag))))))))
  (ak (aN (bc dS rfl T.tup mY (ab (pv 3) ag)))))),?_⟩
 nofun
 have QA:(0:Int) < (zs.length:Int):=by omega
 refine⟨rC,λL hL=>?_⟩;have hS1:=af hL (.lst []) _ _ hS;have nS:S≠L:=λz=>by rw [z,hL] at hS;cases hS
 refine⟨_,rfl,_,_,rfl,rfl,(by show (0:Int) < 2147483647;decide),_,_,rfl,rfl,?_⟩;refine⟨_,rfl,(m:Int),rfl,∅,∅,?_⟩;rw [kC m];refine gQ (n:=m) (λi σ H2=>∃(c2 c4:Int)(k2:Option V) (ps:List Str),σ=[some (.int c2),some (.int (m:Int)),aM S,aM L,some (.int c4),k2]/\H2=upd H L (.lst (ps.map V.str))/\ps.length=i/\∀x∈ps,x∈zs) ⟨c,_,none,[],rfl,rfl,rfl,λ_ h=>(by cases h)⟩ ?_ ?_
 .rintro i σ H2 hi ⟨c2,c4,k2,ps,rfl,rfl,hp,Gw⟩
  ac_nf0
  have eS:upd H L (.lst (ps.map V.str)) S=some (.lst (zs.map V.str)):=by rw [aj nS];exact hS
  refine goN ?_
  ac_nf
  refine⟨_,rfl,_,_,rfl,rfl,_,rfl,?_⟩;refine cg (λ_=>?_) (λ_=>?_)
  .obtain⟨z,Qz,ez⟩:=XH (zs:=zs) rfl QA (c2 - 1);refine⟨_,rfl,.inl ⟨rfl,_,aH.of ae⟩,_,rfl,_,rfl,_,_,rfl,rfl,_,rfl,S,_,rfl,.inl (aH.of eS),_,_,rfl,rfl,(by rw [au];exact QA),?_⟩;rw [au];refine⟨S,_,_,_,rfl,rfl,aH.of eS,ez,L,_,_,rfl,rfl,ae,bN (by rw [au];omega),?_⟩;rw [nj];have eS2:upd H L (.lst (ps.map V.str++[.str z])) S=some (.lst (zs.map V.str)):=by rw [aj nS];exact hS
   refine⟨_,rfl,_,_,rfl,rfl,_,rfl,S,_,rfl,.inl (aH.of eS2),_,_,rfl,rfl,(by rw [au];exact⟨QA,by show (zs.length:Int) < 1073741824;omega⟩),?_⟩;rw [au];exact⟨_,_,_,ps++[z],rfl,by rw [bH];rfl,by rw [a9,hp];rfl,λx hx=>(bR.mp hx).elim (Gw x) λh=>(bF.mp h) ▸ Qz⟩
  refine⟨_,rfl,_,_,rfl,rfl,.inr ⟨nofun,nofun⟩,_,_,rfl,rfl,(by show (0:Int) < 2147483647;decide),?_⟩;obtain⟨z,Qz,ez⟩:=XH (zs:=zs) rfl QA (c4 * 48271 % 2147483647 / 3);refine⟨_,rfl,.inl ⟨rfl,_,aH.of ae⟩,_,rfl,_,rfl,_,_,rfl,rfl,⟨nofun,nofun⟩,_,rfl,S,_,rfl,.inl (aH.of eS),_,_,rfl,rfl,(by rw [au];exact QA),?_⟩;rw [au];refine⟨S,_,_,_,rfl,rfl,aH.of eS,ez,L,_,_,rfl,rfl,ae,bN (by rw [au];omega),?_⟩;rw [nj];exact⟨_,_,_,ps++[z],rfl,by rw [bH];rfl,by rw [a9,hp];rfl,λx hx=>(bR.mp hx).elim (Gw x) λh=>(bF.mp h) ▸ Qz⟩
 rintro σ H2 ⟨c2,c4,k2,ps,rfl,rfl,hp,Gw⟩;refine⟨_,rfl,L,_,rfl,.inl ⟨aH.of ae,λp oF=>?_⟩⟩;exact q p ps _ ((af hL _).trans (af oF _)) ae hp Gw
def i3 (c:Int):Nat:=(c / 72 % 3).toNat
def j3 (c:Int):Nat:=(c / 3 % 3).toNat
def k3 (c:Int):Nat:=(1+c % 3).toNat
def BP (c:Int):i3 c < 3/\c / 72 % 3=(i3 c:Int):=by unfold i3;omega
def Gn (c:Int):j3 c < 3/\c / 3 % 3=(j3 c:Int):=by unfold j3;omega
def KY (c:Int):1<=k3 c/\k3 c<=3/\1+c % 3=(k3 c:Int):=by unfold k3;omega
def dA (c:Int):List Str:=(Oh (i3 c) (j3 c)).take (k3 c)
def i0 (c:Int):List Str:=R9 (i3 c)
def F7 {i j:Nat}(hi:i < 3)(hj:j < 3):(Oh i j).Nodup/\∀x∈Oh i j,x∉R9 i:=by
 match i,j,hi,hj with
 | 0,0,_,_=>decide +kernel
 | 0,1,_,_=>decide +kernel
 | 0,2,_,_=>decide +kernel
 | 1,0,_,_=>decide +kernel
 | 1,1,_,_=>decide +kernel
 | 1,2,_,_=>decide +kernel
 | 2,0,_,_=>decide +kernel
 | 2,1,_,_=>decide +kernel
 | 2,2,_,_=>decide +kernel
def Dp (c:Int):(dA c).Nodup:=(F7 (BP c).1 (Gn c).1).1.sublist (List.take_sublist _ _)
def Dq (c:Int):∀x∈dA c,x∉i0 c:=λx hx=>(F7 (BP c).1 (Gn c).1).2 x (i7 hx)
def JE (i j:Nat):(Oh i j).length=3:=by unfold Oh;rw [au];exact F6 i
def sG (c:Int):1<=(dA c).length/\(dA c).length<=3:=by
 have:=KY c;unfold dA;rw [bQ,JE];omega
def AD (c:Int):(i0 c).length=3:=LG _
def Bo:Sp:=λvs H Q _=>∃(c:Int),vs=[.int c]/\∀(N:Addr)(H':Hp),H N=none->aA H H'->H' N=some (.lst ((dA c).map V.str))->Q (.ref N) H'
def By:aK ["_law_cell","_law_some"] ["_law_cell"] (av zN):=iN rfl rfl rfl rfl nofun
def FP (F:iC K "_law_names" "_law_names" zN f fd)(T:Txt mg):bS P w K mg base gp 1 f fd ["_law_cell"] Bo:=by
 refine F.ok By (λvs H Q E h=>?_) (λeY A outer s H vs Q E hr h=>?_)
 .obtain⟨c,rfl,_⟩:=h;rfl
 obtain⟨c,rfl,q⟩:=h;refine⟨_,@ai _ _ _ _ _ (@az _ _ 1 _ _ _ _ By.nd rfl (bC rfl) (@aL _ _ _ _ _ _ _ bB (@a_ _ _ _ _ (@ab _ _ _ _ _ (@a_ _ _ _ _ (@ab _ _ _ _ _ (@bx _ _ _ _) (@ab _ _ _ _ _ (@bx _ _ _ _) (@ab _ _ _ _ _ (@bx _ _ _ _) (@ag _) rfl) rfl) rfl)) (@ab _ _ _ _ _ (@a_ _ _ _ _ (@ab _ _ _ _ _ (@bx _ _ _ _) (@ab _ _ _ _ _ (@bx _ _ _ _) (@ab _ _ _ _ _ (@bx _ _ _ _) (@ag _) rfl) rfl) rfl)) (@ab _ _ _ _ _ (@a_ _ _ _ _ (@ab _ _ _ _ _ (@bx _ _ _ _) (@ab _ _ _ _ _ (@bx _ _ _ _) (@ab _ _ _ _ _ (@bx _ _ _ _) (@ag _) rfl) rfl) rfl)) (@ag _) rfl) rfl) rfl)) (aI df (aI fU (pv 0) ao) ao) (λ_ _=>rfl)) rfl (.inr rfl))
  (ak (aN (bD ["_law_name"] [(0,"_law_cell")] rfl (a8 (bZ dr (pv 1) du (bT (aI dw ao (aI df (pv 0) ao))))) (br rfl rfl) nofun rfl nofun
   (λ_ _ _ _ _=>aq (i:=0) (show (["_law_name","_law_cell"]:List Str).Nodup by decide +kernel) rfl (bC rfl)) (λ_ _ _ _ _=>b9)
   (λ_ _ _ _ _=>aI z_ (pv 0) (aI Jr bx (aI df (aI fU (pv 1) ao) ao)))))),?_⟩
 nofun
 obtain⟨hi,ei⟩:=BP c;obtain⟨hj,ej⟩:=Gn c;obtain⟨hk1,hk3,ek⟩:=KY c;refine⟨II,λL1 h1=>⟨II,λL2 h2=>⟨II,λL3 h3=>⟨II,λLL Wm=>?_⟩⟩⟩⟩;obtain⟨s1,p1⟩:=Qf h1 h2 h3 Wm;obtain⟨Li,a1,f1,e1⟩:=p1 (i3 c) hi;rw [JD] at e1;refine⟨_,rfl,_,_,rfl,rfl,⟨nofun,nofun⟩,_,_,rfl,rfl,(by show (0:Int) < 3;decide),?_⟩;refine⟨LL,_,(i3 c:Int),.ref Li,rfl,congrArg V.int ei,aH.of ae,a1,?_⟩;generalize upd (upd (upd (upd H L1 _) L2 _) L3 _) LL _=H1 at s1 e1;refine⟨_,rfl,_,rfl,_,_,rfl,rfl,(by show (0:Int) < 3;decide),_,_,rfl,rfl,_,rfl,Li,_,rfl,aH.of e1,λM hM=>?_⟩;have cut:d_ ((BO (i3 c)).map V.str) none (some (1+c % 3))=((BO (i3 c)).take (k3 c)).map V.str:=by
  rw [ek];unfold d_;rw [show HT.gA ((BO (i3 c)).map V.str).length 0 none=0 from rfl,HT.g6,ml,jM,mS,<-List.take_eq_take_min]
 rw [cut];have s2:=s1.trans (af hM (.lst (((BO (i3 c)).take (k3 c)).map V.str)));have eM:upd H1 M (.lst (((BO (i3 c)).take (k3 c)).map V.str)) M=some (.lst (((BO (i3 c)).take (k3 c)).map V.str)):=ae;generalize upd H1 M (.lst (((BO (i3 c)).take (k3 c)).map V.str))=H2 at s2 eM;have gN:dA c=((BO (i3 c)).take (k3 c)).map λz=>z++Fi "y" (j3 c):=by
  unfold dA Oh;rw [mS]
 refine⟨M,rfl,⟨_,aH.of eM⟩,λD hD=>cN (xs:=((BO (i3 c)).take (k3 c)).map V.str) (λk ys σ2 H3=>ys=((dA c).take k).map V.str/\(∃y0,σ2=[y0,some (.int c)])/\aA H2 H3/\H3 D=some (.lst ys))
    ⟨rfl,⟨none,rfl⟩,af hD _,ae⟩ (λk ys σ2 H3 _ h=>?_) (λk x ys σ2 H3 ex h=>?_) (λys σ2 H3 h=>?_)⟩
 .obtain⟨_,_,sm,_⟩:=h;exact aH.of (sm _ _ eM)
 .obtain⟨rfl,⟨y0,rfl⟩,sm,eD⟩:=h;have lk:=(bu.mp ex).1;rw [au,bQ,F6] at lk;rw [bz] at ex;obtain⟨z,ez,rfl⟩:=cD.mp ex;have hz:=F5 (i3 c) z (i7 (b_ ez));have hy:=CC hj;refine goN (yo ?_);refine⟨_,rfl,_,rfl,_,_,rfl,rfl,⟨nofun,nofun⟩,_,_,rfl,rfl,(by show (0:Int) < 3;decide),?_⟩;have ly:("y":Str).length=1:=by decide +kernel
  refine⟨"y",j3 c,rfl,congrArg V.int ej,∅,ly,_,_,rfl,rfl,fits ∅,?_⟩;refine⟨eD,bN (by rw [au,bQ];omega),?_,⟨_,rfl⟩,λb o hb=>?_,ae⟩
  .have:(dA c)[k]?=some (z++Fi "y" (j3 c)):=by rw [gN,bz,ez];rfl
   rw [cQ,this,bH];rfl
  rw [aj (λz=>by rw [z,hD] at hb;cases hb)];exact sm b o hb
 obtain⟨rfl,_,sm,eD⟩:=h;rw [mX (by rw [gN,au,au];exact aF _)] at eD;exact q D _ (s2.free hD) (s2.trans sm) eD
def xA:Sp:=λvs H Q _=>∃(c:Int),vs=[.int c]/\∀(N:Addr)(H':Hp),H N=none->aA H H'->H' N=some (.lst ((i0 c).map V.str))->Q (.ref N) H'
def EW:aK ["_law_cell"] ["_law_cell"] (av vV):=iN rfl rfl rfl rfl nofun
def CJ (F:iC K "_law_words" "_law_words" vV f fd)(T:Txt mg):bS P w K mg base gp 1 f fd ["_law_cell"] xA:=by
 refine F.ok EW (λvs H Q E h=>?_) (λeY A outer s H vs Q E hr h=>?_)
 .obtain⟨c,rfl,_⟩:=h;rfl
 obtain⟨c,rfl,q⟩:=h;refine⟨_,ak (aN (@aL _ _ _ _ _ _ _ bB (@a_ _ _ _ _ (@ab _ _ _ _ _ (@a_ _ _ _ _ (@ab _ _ _ _ _ (@bx _ _ _ _) (@ab _ _ _ _ _ (@bx _ _ _ _) (@ab _ _ _ _ _ (@bx _ _ _ _) (@ag _) rfl) rfl) rfl)) (@ab _ _ _ _ _ (@a_ _ _ _ _ (@ab _ _ _ _ _ (@bx _ _ _ _) (@ab _ _ _ _ _ (@bx _ _ _ _) (@ab _ _ _ _ _ (@bx _ _ _ _) (@ag _) rfl) rfl) rfl)) (@ab _ _ _ _ _ (@a_ _ _ _ _ (@ab _ _ _ _ _ (@bx _ _ _ _) (@ab _ _ _ _ _ (@bx _ _ _ _) (@ab _ _ _ _ _ (@bx _ _ _ _) (@ag _) rfl) rfl) rfl)) (@ag _) rfl) rfl) rfl)) (aI df (aI fU (pv 0) ao) ao) (λ_ _=>rfl))),?_⟩;dsimp only [yz];obtain⟨hi,ei⟩:=BP c;refine⟨II,λL1 h1=>⟨II,λL2 h2=>⟨II,λL3 h3=>⟨II,λLL Wm=>?_⟩⟩⟩⟩;obtain⟨s1,p1⟩:=Qf h1 h2 h3 Wm;obtain⟨Li,a1,f1,e1⟩:=p1 (i3 c) hi;rw [IP] at e1;refine⟨_,rfl,_,_,rfl,rfl,⟨nofun,nofun⟩,_,_,rfl,rfl,(by show (0:Int) < 3;decide),?_⟩;refine⟨LL,_,(i3 c:Int),.ref Li,rfl,congrArg V.int ei,aH.of ae,a1,?_⟩;exact q Li _ f1 s1 e1
def EM (K:ba):Sp:=λvs H Q _=>∃(S N W:Addr)(ns:List Int) (at_ m:Nat) (fM ws:List Str),vs=[.ref S,.int (at_:Int),.ref N,.int (m:Int),.ref W]/\aH K H S (ns.map V.int)/\ns.length<=1000/\H N=some (.lst (fM.map V.str))/\H W=some (.lst (ws.map V.str))/\0 < fM.length/\fM.length<=5/\ws.length<=10/\m<=10 /\
 ∀(R:Addr)(rs:List Addr)(aa:List ar)(H':Hp),H R=none->aA H H'->H' R=some (.lst (rs.map V.ref))->bL K H' rs aa->aa.length=m->(∀ru∈aa,ru.1∈fM/\ru.2.length<=3/\∀x∈ru.2,x∈fM++ws)->Q (.ref R) H'
def rN:aK ["_law_script","_law_at","_law_names_here","_law_many","_law_words_here","_law_rules","_law_some","_law_k","_law_cell"] ["_law_script","_law_at","_law_names_here","_law_many","_law_words_here"] (av E3):=iN rfl rfl rfl rfl nofun
def Jv (F:iC K "_law_more" "_law_more" E3 f fd)(T:Txt mg)(GC:aC P w K mg base 1 "_law_cell_at" ["_law_script","_law_k"] (rL K))(GD:aC P w K mg base 1 "_law_digits" ["_law_cell","_law_many","_law_some"] rK):bS P w K mg base gp 2 f fd ["_law_script","_law_at","_law_names_here","_law_many","_law_words_here"] (EM K):=by
 refine F.ok rN (λvs H Q E h=>?_) (λeY A outer s H vs Q E hr h=>?_)
 .obtain⟨S,N,W,ns,at_,m,fM,ws,rfl,_⟩:=h;rfl
 obtain⟨S,N,W,ns,at_,m,fM,ws,rfl,hS,hn,hN,hW,SK,hn1,hw1,hm,q⟩:=h;refine⟨_,ai (az (i:=5) rN.nd rfl (bC rfl) (a_ ag))
  (ai (az (i:=6) rN.nd rfl (bC rfl) (aI dI (pv 2) (pv 4)))
  (ai (bM cq rfl (gO rfl T.CB (ab (pv 3) ag)) (aq (i:=7) rN.nd rfl (bC rfl))
   (ai (az (i:=8) rN.nd rfl (bC rfl) (bp GC hr rfl (ab (pv 0) (ab (aI dw (pv 1) (pv 7)) ag))))
   (ak (cJ (g_ gG gX gY bV (pv 5) (ab (bo (ab (aL bB (pv 2) (aI df (pv 8) (aD aG rfl T.len cZ (ab (pv 2) ag))) (λ_ _=>rfl))
    (ab (bp GD hr rfl (ab (aI fU (pv 8) ao) (ab (aI df (aI fU (pv 8) ao) ao) (ab (pv 6) ag)))) ag))) ag))))))
  (ak (aN (pv 5))))),?_⟩
 nofun
 refine⟨rC,λL hL=>?_⟩;have s1:=af hL (.lst []);have e1:upd H L (.lst []) L=some (.lst []):=ae;generalize upd H L (.lst [])=H1 at s1 e1;refine⟨_,rfl,_,rfl,N,W,_,_,rfl,rfl,s1 _ _ hN,s1 _ _ hW,fits (by rw [au,au];omega),λM hM=>?_⟩;rw [<-bH];have k2:=af hM (.lst ((fM++ws).map V.str));have s2:=s1.trans k2;have e2:=k2 _ _ e1;have m2:upd H1 M (.lst ((fM++ws).map V.str)) M=some (.lst ((fM++ws).map V.str)):=ae;have nM:M≠L:=λz=>by rw [z,e1] at hM;cases hM
 generalize upd H1 M (.lst ((fM++ws).map V.str))=H2 at k2 s2 e2 m2;refine⟨_,rfl,(m:Int),rfl,∅,∅,?_⟩;rw [kC m];refine gQ (n:=m) (λi σ H3=>∃(rs:List Addr)(aa:List ar)(y7 y8:Option V),σ=[aM S,some (.int (at_:Int)),aM N,some (.int (m:Int)),aM W,aM L,aM M,y7,y8]/\aA H H3/\H3 L=some (.lst (rs.map V.ref))/\H3 M=some (.lst ((fM++ws).map V.str))/\bL K H3 rs aa/\aa.length=i/\∀ru∈aa,ru.1∈fM/\ru.2.length<=3/\∀x∈ru.2,x∈fM++ws) ⟨[],[],none,none,rfl,s2,e2,m2,.nil,rfl,λ_ h=>by cases h⟩ ?_ ?_
 .intro i σ H3 hi jX
  ac_nf0
  obtain⟨rs,aa,y7,y8,rfl,s3,eL,eM,rl,hl,hf⟩:=jX;have lr:=aU rl;refine goN ?_
  ac_rfl
  refine⟨_,rfl,_,rfl,_,rfl,_,_,rfl,rfl,?_⟩;refine⟨S,ns,at_+i,(by show [V.ref S,V.int ((at_:Int)+(0+(i:Int)))]=_;congr 3;push_cast;omega),s3.seq hS,hn,λc _=>?_⟩;have Zt:(0:Int) < (fM.length:Int):=by omega
  obtain⟨z,Qz,ez⟩:=XH (zs:=fM) rfl Zt c;obtain⟨d,hd⟩:∃d:Nat,c / 3 % 4=(d:Int):=⟨(c / 3 % 4).toNat,∅⟩;refine⟨_,rfl,.inl ⟨rfl,_,aH.of eL⟩,_,rfl,_,rfl,_,rfl,N,_,rfl,.inl (aH.of (s3 _ _ hN)),_,_,rfl,rfl,(by rw [au];exact Zt),?_⟩;rw [au];refine⟨N,_,_,_,rfl,rfl,aH.of (s3 _ _ hN),ez,?_⟩;refine⟨_,rfl,_,_,rfl,rfl,⟨nofun,nofun⟩,_,rfl,_,_,rfl,rfl,⟨nofun,nofun⟩,_,_,rfl,rfl,(by show (0:Int) < 4;decide),_,rfl,?_⟩;refine⟨_,d,M,fM++ws,(by show [_,V.int (c / 3 % 4),_]=_;rw [hd]),∅,eM,by rw [a9];omega,by rw [a9];omega,λp ps H4 s4 e4 l4 Gw=>⟨iQ,λR hR=>?_⟩⟩;have k5:=s4.trans (af hR (.tup [.str z,.ref p]));have v1:aS K (upd H4 R (.tup [.str z,.ref p])) R [.str z,.ref p]:=aS.of ae;have v2:aS K (upd H4 R (.tup [.str z,.ref p])) p (ps.map V.str):=(af hR _).tup (aS.of e4);generalize upd H4 R (.tup [.str z,.ref p])=H5 at k5 v1 v2;have DC:=k5 _ _ eL;refine⟨L,_,_,rfl,rfl,DC,bN (by rw [au];omega),?_⟩;refine⟨rs++[R],aa++[(z,ps)],_,_,rfl,λb o hb=>?_,by rw [ae,bH];rfl,by rw [aj nM];exact k5 _ _ eM,h_ (rl.keep λb xs z=>a7 DC (k5.tup z)) ⟨p,a7 DC v1,a7 DC v2⟩,by rw [a9,hl];rfl,λru iZ=>?_⟩
  .rw [aj (λz=>by rw [z,hL] at hb;cases hb)];exact k5 _ _ (s3 b o hb)
  rcases bR.mp iZ with h | h
  .exact hf ru h
  rw [bF.mp h];exact⟨Qz,by show ps.length<=3;omega,Gw⟩
 rintro σ H3 ⟨rs,aa,y7,y8,rfl,s3,eL,eM,rl,hl,hf⟩;exact⟨_,rfl,q L rs aa H3 hL s3 eL rl hl hf⟩
def pK (ns ws:List Str) (a:Nat) (bq:List Str):Prop :=
 (∃n' wx,ns[a+1]?=some n'/\wx≠[]/\(∀x∈wx,x∈ws)/\wx.length<=2/\(bq=wx++[n']\/bq=n'::wx))\/(ns.length<=a+1/\(∀x∈bq,x∈ws)/\bq.length<=2)
def Ht (l:List Str)(n:Str):d_ ((l++[n]).map V.str) (some (-1)) none=[V.str n]:=by
 unfold d_;have h1:HT.gA ((l++[n]).map V.str).length 0 (some (-1))=l.length:=by
  rw [au,a9,gy];show (if (-1:Int) < 0 then ((-1:Int)+((l.length+1:Nat):Int)).toNat else min (-1:Int).toNat (l.length+1))=l.length;rw [ax nofun];omega
 rw [h1,HT.gH,<-oM,List.drop_append_of_le_length (aF _),oS,pQ];rw [au,a9,gy,show l.length+1 - l.length=1 by omega];rfl
def Hu (l:List Str)(n:Str):d_ ((l++[n]).map V.str) none (some (-1))=l.map V.str:=by
 unfold d_;have h1:HT.gA ((l++[n]).map V.str).length ((l++[n]).map V.str).length (some (-1))=l.length:=by
  rw [au,a9,gy];show (if (-1:Int) < 0 then ((-1:Int)+((l.length+1:Nat):Int)).toNat else min (-1:Int).toNat (l.length+1))=l.length;rw [ax nofun];omega
 rw [h1,HT.gH,ml,jM,<-mS,pV (aF _),cH]
def EK (K:ba):Sp:=λvs H Q _=>∃(S N W:Addr)(ns:List Int) (at_:Nat) (fM ws:List Str),vs=[.ref S,.int (at_:Int),.ref N,.ref W]/\aH K H S (ns.map V.int)/\ns.length<=1000/\H N=some (.lst (fM.map V.str))/\H W=some (.lst (ws.map V.str))/\0 < fM.length/\fM.length<=5/\0 < ws.length/\ws.length<=10 /\
 ∀(R:Addr)(rs:List Addr)(aa:List ar)(H':Hp),H R=none->aA H H'->H' R=some (.lst (rs.map V.ref))->bL K H' rs aa->aa.length=fM.length->(∀(j:Nat)(ru:ar),aa[j]?=some ru->fM[j]?=some ru.1/\pK fM ws j ru.2)->Q (.ref R) H'
def mx:aK ["_law_script","_law_at","_law_names_here","_law_words_here","_law_rules","_law_k","_law_cell","_law_parts"] ["_law_script","_law_at","_law_names_here","_law_words_here"] (av EZ):=iN rfl rfl rfl rfl nofun
def Jt (F:iC K "_law_skeleton" "_law_skeleton" EZ f fd)(T:Txt mg)(GC:aC P w K mg base 1 "_law_cell_at" ["_law_script","_law_k"] (rL K))(GD:aC P w K mg base 1 "_law_digits" ["_law_cell","_law_many","_law_some"] rK):bS P w K mg base gp 2 f fd ["_law_script","_law_at","_law_names_here","_law_words_here"] (EK K):=by
 refine F.ok mx (λvs H Q E h=>?_) (λeY A outer s H vs Q E hr h=>?_)
 .obtain⟨S,N,W,ns,at_,fM,ws,rfl,_⟩:=h;rfl
 obtain⟨S,N,W,ns,at_,fM,ws,rfl,hS,hn,hN,hW,SK,hn1,Zn,hw1,q⟩:=h;refine⟨_,ai (az (i:=4) mx.nd rfl (bC rfl) (a_ ag))
  (ai (bM cq rfl (gO rfl T.CB (ab (aD aG rfl T.len cZ (ab (pv 2) ag)) ag)) (aq (i:=5) mx.nd rfl (bC rfl))
   (ai (az (i:=6) mx.nd rfl (bC rfl) (bp GC hr rfl (ab (pv 0) (ab (aI dw (pv 1) (pv 5)) ag))))
   (ai (az (i:=7) mx.nd rfl (bC rfl) (bp GD hr rfl (ab (aI fU (pv 6) ao) (ab (aI df (pv 6) ao) (ab (pv 3) ag)))))
   (ai (iL (bJ (aX nV (aI dw (pv 5) ao) (aD aG rfl T.len cZ (ab (pv 2) ag)) (bK _))
    (ai (az (i:=7) mx.nd rfl (bC rfl) (aI wq (bp GD hr rfl (ab (aI fU (pv 6) ao) (ab (aI dw ao (aI df (pv 6) ao)) (ab (pv 3) ag)))) (bo (ab (aL bB (pv 2) (aI dw (pv 5) ao) (λ_ _=>rfl)) ag))))
    (ak (bJ (aX hU (aI df (aI fU (pv 6) ao) ao) ao (bK _))
     (ak (az (i:=7) mx.nd rfl (bC rfl) (aI wq (bZ qB (pv 7) (bT (ka iE ao)) du) (bZ qB (pv 7) du (bT (ka iE ao)))))) aQ))) aQ))
   (ak (cJ (g_ gG gX gY bV (pv 4) (ab (bo (ab (aL bB (pv 2) (pv 5) (λ_ _=>rfl)) (ab (pv 7) ag))) ag))))))))
  (ak (aN (pv 4)))),?_⟩
 nofun
 refine⟨rC,λL hL=>?_⟩;have s1:=af hL (.lst []);have e1:upd H L (.lst []) L=some (.lst []):=ae;generalize upd H L (.lst [])=H1 at s1 e1;refine⟨_,rfl,N,_,rfl,.inl (aH.of (s1 _ _ hN)),((fM.map V.str).length:Int),rfl,by rw [au];omega,by rw [au];omega,?_⟩;rw [au,kC];refine gQ (n:=fM.length) (λi σ H3=>∃(rs:List Addr)(aa:List ar)(y5 y6 y7:Option V),σ=[aM S,some (.int (at_:Int)),aM N,aM W,aM L,y5,y6,y7]/\aA H H3/\H3 L=some (.lst (rs.map V.ref))/\bL K H3 rs aa/\aa.length=i/\∀(j:Nat)(ru:ar),aa[j]?=some ru->fM[j]?=some ru.1/\pK fM ws j ru.2) ⟨[],[],none,none,none,rfl,s1,e1,.nil,rfl,λj ru e=>by cases e⟩ ?_ ?_
 .intro i σ H3 hi jX
  ac_nf0
  obtain⟨rs,aa,y5,y6,y7,rfl,s3,eL,rl,hl,hf⟩:=jX;have lr:=aU rl;obtain⟨nm,M3⟩:∃nm,fM[i]?=some nm:=⟨fM[i],dH hi⟩;have atn:ke (fM.map V.str) (0+(i:Int))=some (.str nm):=by
   rw [j6];exact b0 (by rw [bz,M3];rfl)
  refine goN ?_
  ac_rfl
  refine⟨_,rfl,_,rfl,_,rfl,_,_,rfl,rfl,?_⟩;refine⟨S,ns,at_+i,(by show [V.ref S,V.int ((at_:Int)+(0+(i:Int)))]=_;congr 3;push_cast;omega),s3.seq hS,hn,λc _=>?_⟩;obtain⟨d,hd⟩:∃d:Nat,c % 3=(d:Int):=⟨(c % 3).toNat,∅⟩;refine⟨_,rfl,_,_,rfl,rfl,⟨nofun,nofun⟩,_,rfl,_,_,rfl,rfl,(by show (0:Int) < 3;decide),_,rfl,?_⟩;refine⟨_,d,W,ws,(by show [_,V.int (c % 3),_]=_;rw [hd]),∅,s3 _ _ hW,Zn,∅,λp ps H4 s4 e4 l4 Gw=>?_⟩;have xN:=s3.trans s4;have OL:=s4 _ _ eL;have Sm:=rl.same s4;refine⟨λσ H5=>∃(p5:Addr) (bq:List Str),σ=[aM S,some (.int (at_:Int)),aM N,aM W,aM L,some (.int (0+(i:Int))),some (.int c),aM p5]/\aA H4 H5/\aS K H5 p5 (bq.map V.str)/\pK fM ws i bq,?_,?_⟩
  .refine⟨_,rfl,_,_,rfl,rfl,_,rfl,N,_,rfl,.inl (aH.of (xN _ _ hN)),_,_,rfl,rfl,_,rfl,?_⟩;refine cg (λcc=>?_) (λcc=>?_)
   .have lt:=c_ cc;rw [au] at lt;have lt':i+1 < fM.length:=by omega
    obtain⟨n',JN⟩:∃n',fM[i+1]?=some n':=⟨fM[i+1],dH lt'⟩;have XE:ke (fM.map V.str) (0+(i:Int)+1)=some (.str n'):=by
     rw [j6,show (i:Int)+1=((i+1:Nat):Int) by push_cast;rfl];exact b0 (by rw [bz,JN];rfl)
    obtain⟨d2,hd2⟩:∃d2:Nat,1+c % 2=(d2:Int):=⟨(1+c % 2).toNat,∅⟩;refine⟨_,rfl,_,_,rfl,rfl,⟨nofun,nofun⟩,_,rfl,_,_,rfl,rfl,(by show (0:Int) < 2;decide),_,_,rfl,rfl,_,rfl,?_⟩;refine⟨_,d2,W,ws,(by show [_,V.int (1+c % 2),_]=_;rw [hd2]),∅,xN _ _ hW,Zn,∅,λp6 wx H6 s6 e6 l6 Zj=>?_⟩;have E_:=xN.trans s6;refine⟨_,rfl,_,rfl,_,_,rfl,rfl,N,_,_,_,rfl,rfl,aH.of (E_ _ _ hN),XE,qi,λu hu=>?_⟩;have k7:=af hu (.tup [V.str n']);refine⟨p6,u,_,_,rfl,rfl,k7.tup (aS.of e6),aS.of ae,(by rw [au];show wx.length+1<=sizeLine;exact fits ∅),λp8 H8 s8 e8=>?_⟩;have Xd:aS K H8 p8 ((wx++[n']).map V.str):=by rw [bH];exact e8
    have Og:=s6.trans (k7.trans s8);have R8:wx≠[]:=λz=>by rw [z] at l6;simp at l6;omega
    refine⟨_,rfl,_,_,rfl,rfl,⟨nofun,nofun⟩,_,_,rfl,rfl,(by show (0:Int) < 2;decide),rfl,_,rfl,?_⟩;refine cg (λc2=>?_) (λc2=>?_)
    .refine⟨_,rfl,_,rfl,_,rfl,p8,_,rfl,Xd,λp9 H9 s9 e9=>?_⟩;rw [Ht] at e9;refine⟨_,rfl,_,rfl,_,rfl,p8,_,rfl,s9.tup Xd,λpA HA sA eA=>?_⟩;rw [Hu] at eA;refine⟨p9,pA,_,_,rfl,rfl,sA.tup e9,eA,(by rw [au];show 1+wx.length<=sizeLine;exact fits ∅),λpB HB sB eB=>?_⟩;exact⟨pB,n'::wx,rfl,Og.trans (s9.trans (sA.trans sB)),eB,.inl ⟨n',wx,JN,R8,Zj,∅,.inr rfl⟩⟩
    exact⟨p8,wx++[n'],rfl,Og,Xd,.inl ⟨n',wx,JN,R8,Zj,∅,.inl rfl⟩⟩
   have ge:¬(0+(i:Int)+1 < ((fM.map V.str).length:Int)):=λz=>cc (bh z);rw [au] at ge;exact⟨p,ps,rfl,aA.refl _,aS.of e4,.inr ⟨∅,Gw,∅⟩⟩
  rintro σ H5 ⟨p5,bq,rfl,s5,e5,sk⟩;have xM:=xN.trans s5;have DC:=s5 _ _ OL;refine⟨_,rfl,.inl ⟨rfl,_,aH.of DC⟩,_,rfl,_,rfl,N,_,_,_,rfl,rfl,aH.of (xM _ _ hN),atn,_,rfl,iQ,λR hR=>?_⟩;have k6:=af hR (.tup [.str nm,.ref p5]);have v1:aS K (upd H5 R (.tup [.str nm,.ref p5])) R [.str nm,.ref p5]:=aS.of ae;have v2:=k6.tup e5;generalize upd H5 R (.tup [.str nm,.ref p5])=H6 at k6 v1 v2;have Hg:=k6 _ _ DC;refine⟨L,_,_,rfl,rfl,Hg,bN (by rw [au];omega),?_⟩;refine⟨rs++[R],aa++[(nm,bq)],_,_,_,rfl,λb o hb=>?_,by rw [ae,bH];rfl,h_ ((Sm.same (s5.trans k6)).keep λb xs z=>a7 Hg z) ⟨p5,a7 Hg v1,a7 Hg v2⟩,by rw [a9,hl];rfl,λj ru e=>?_⟩
  .rw [aj (λz=>by rw [z,hL] at hb;cases hb)];exact k6 _ _ (xM b o hb)
  by_cases cj:j < aa.length
  .rw [pU cj] at e;exact hf j ru e
  have lj:=(bu.mp e).1;rw [a9,gy] at lj;have ej:j=aa.length:=by omega
  subst ej;rw [mZ (aF _),Nat.sub_self] at e;cases e;rw [hl];exact⟨M3,sk⟩
 rintro σ H3 ⟨rs,aa,y5,y6,y7,rfl,s3,eL,rl,hl,hf⟩;exact⟨_,rfl,q L rs aa H3 hL s3 eL rl hl hf⟩
end
end hV
namespace L2
open PySem
def ji {X:Cx}(K:ba)(hK:X.K=K:=by rfl):jH X (compareOp .NotIn) (Sq K true):=by
 subst hK;exact iM
def fV (h:Str) (zs:List Str):K3 (.str h) (zs.map V.str)=decide (h∈zs):=by
 have:K3 (.str h) (zs.map V.str)=true↔h∈zs:=by
  unfold K3;rw [List.any_eq_true];constructor
  .rintro⟨x,h1,h2⟩;obtain⟨z,hz,rfl⟩:=cY.mp h1;have:z=h:=by simpa [uO] using h2
   rw [<-this];exact hz
  intro hm;exact⟨.str h,cY.mpr ⟨h,hm,rfl⟩,by simp [uO]⟩
 by_cases c:h∈zs
 .rw [bh c];exact this.mpr c
 rw [b8 c];cases e:K3 (.str h) (zs.map V.str) with
 | false=>rfl
 | true=>exact absurd (this.mp e) c
def cV (zs:List Str):(zs.map V.str).all ie=true:=by
 rw [gL];intro x hx;obtain⟨z,_,rfl⟩:=cY.mp hx;rfl
section
variable {K:ba}{H:Hp}{p D:Addr}{zs:List Str}{σ:St}{x:Str}{js:List (Nat×Str)}{te:TE}{Qp:Hp->Prop}
def lh (rest:St)(pr:Str->Bool)(hc:eV [x] js σ=none::rest)(hp:aS K H p (zs.map V.str))(hz:zs.length<=1000)(hD:H D=none)
  (QD:∀z∈zs,∀(H':Hp)(Qy:VK),aA H H'->Qy (.bl (pr z)) H'->te (some (.str z)::rest) H' Qy)
  (q:∀H2,aA H H2->H2 D=some (.lst ((zs.map pr).map V.bl))->Qp H2) :
  ∃W:Nat->Nat->List V->St->Hp->Prop,(∃m,W 0 m [] (eV [x] js σ) (upd H D (.lst []))) /\
 ∀i m ys σ' H,W i m ys σ' H->((oE K p).stop i H/\Qp H)\/((oE K p).go i H/\∃m',m' < m/\∀x H',(oE K p).mQ i H x H'->dP 0 x σ' H' λσ2 H2=>iw σ2 H2 λb H3 =>
  if b=true then te σ2 H3 λy H4=>H4 D=some (.lst ys)/\ys.length < sizeLine/\W (i+1) m' (ys++[y]) σ2 (upd H4 D (.lst (ys++[y]))) else W (i+1) m' ys σ2 H3):=by
 refine gR (xs:=zs.map V.str) (λi ys σ2 H2=>ys=((zs.take i).map pr).map V.bl/\(∃y0,σ2=y0::rest)/\aA H H2/\H2 D=some (.lst ys))
  ⟨rfl,⟨none,hc⟩,af hD _,ae⟩ (λi ys σ2 H2 _ h=>?_) (λi v ys σ2 H2 ex h=>?_) (λys σ2 H2 h=>?_)
 .obtain⟨_,_,sm,_⟩:=h;exact sm.tup hp
 .obtain⟨rfl,⟨y0,rfl⟩,sm,hd⟩:=h;rw [bz] at ex;obtain⟨z,ez,rfl⟩:=cD.mp ex;have li:=(bu.mp ez).1;refine goN (yo (QD z (b_ ez) _ _ sm ⟨hd,bN (by rw [au,au,bQ];omega),?_,⟨_,rfl⟩,λb o hb=>?_,ae⟩))
  .rw [cQ,ez,bH,bH];rfl
  rw [aj (λz=>by rw [z,hD] at hb;cases hb)];exact sm b o hb
 obtain⟨rfl,_,sm,hd⟩:=h;rw [au,cH] at hd;exact q H2 sm hd
def qd (rest:St)(pr:Str->Bool)(hc:eV [x] js σ=none::rest)(hp:aH K H p (zs.map V.str))(hz:zs.length<=1000)(hD:H D=none)
  (QD:∀z∈zs,∀(H':Hp)(Qy:VK),aA H H'->Qy (.bl (pr z)) H'->te (some (.str z)::rest) H' Qy)
  (q:∀H2,aA H H2->H2 D=some (.lst ((zs.map pr).map V.bl))->Qp H2) :
  ∃W:Nat->Nat->List V->St->Hp->Prop,(∃m,W 0 m [] (eV [x] js σ) (upd H D (.lst []))) /\
 ∀i m ys σ' H,W i m ys σ' H->((ki K p).stop i H/\Qp H)\/((ki K p).go i H/\∃m',m' < m/\∀x H',(ki K p).mQ i H x H'->dP 0 x σ' H' λσ2 H2=>iw σ2 H2 λb H3 =>
  if b=true then te σ2 H3 λy H4=>H4 D=some (.lst ys)/\ys.length < sizeLine/\W (i+1) m' (ys++[y]) σ2 (upd H4 D (.lst (ys++[y]))) else W (i+1) m' ys σ2 H3):=by
 refine cN (xs:=zs.map V.str) (λi ys σ2 H2=>ys=((zs.take i).map pr).map V.bl/\(∃y0,σ2=y0::rest)/\aA H H2/\H2 D=some (.lst ys))
  ⟨rfl,⟨none,hc⟩,af hD _,ae⟩ (λi ys σ2 H2 _ h=>?_) (λi v ys σ2 H2 ex h=>?_) (λys σ2 H2 h=>?_)
 .obtain⟨_,_,sm,_⟩:=h;exact sm.seq hp
 .obtain⟨rfl,⟨y0,rfl⟩,sm,hd⟩:=h;rw [bz] at ex;obtain⟨z,ez,rfl⟩:=cD.mp ex;have li:=(bu.mp ez).1;refine goN (yo (QD z (b_ ez) _ _ sm ⟨hd,bN (by rw [au,au,bQ];omega),?_,⟨_,rfl⟩,λb o hb=>?_,ae⟩))
  .rw [cQ,ez,bH,bH];rfl
  rw [aj (λz=>by rw [z,hD] at hb;cases hb)];exact sm b o hb
 obtain⟨rfl,_,sm,hd⟩:=h;rw [au,cH] at hd;exact q H2 sm hd
end
theorem all_map (zs:List Str)(pr:Str->Bool):(zs.map pr).all id=zs.all pr:=by
 rw [List.all_map];rfl
end L2
namespace hV
open PySem M11
abbrev hm (aa:List ar):List Str:=aa.map (·.1)
structure Small (aa:List ar):Prop where
 one:1<=aa.length
 most:aa.length<=8
 xl:∀ru∈aa,ru.2.length<=4
open PySem L2 M11
section
def jZ {H:Hp}{R D:Addr}{rs:List Addr}{aa:List ar}{σ:St}{Qp:Hp->Prop}(hR:aH K H R (rs.map V.ref))(cA:bL K H rs aa)(bE:aa.length<=1000)(hD:H D=none)
  (q:∀H2,aA H H2->H2 D=some (.lst ((hm aa).map V.str))->Qp H2) :
  ∃W:Nat->Nat->List V->St->Hp->Prop,(∃m,W 0 m [] (eV ["_law_head","_law_parts"] [] σ) (upd H D (.lst []))) /\
 ∀i m ys σ' H,W i m ys σ' H->((ki K R).stop i H/\Qp H)\/((ki K R).go i H/\∃m',m' < m/\∀x H',(ki K R).mQ i H x H'->AE K 2 (jC (dP 0) (jC (dP 1) Dn)) x σ' H' λσ2 H2=>iw σ2 H2 λb H3 =>
  if b=true then gT 0 σ2 H3 λy H4=>H4 D=some (.lst ys)/\ys.length < sizeLine/\W (i+1) m' (ys++[y]) σ2 (upd H4 D (.lst (ys++[y]))) else W (i+1) m' ys σ2 H3):=by
 have ll:=aU cA;refine cN (xs:=rs.map V.ref) (λi ys σ2 H2=>ys=((hm aa).take i).map V.str/\(∃y0 y1,σ2=[y0,y1])/\aA H H2/\H2 D=some (.lst ys))
  ⟨rfl,⟨none,none,rfl⟩,af hD _,ae⟩ (λi ys σ2 H2 _ h=>?_) (λi x ys σ2 H2 ex h=>?_) (λys σ2 H2 h=>?_)
 .obtain⟨_,_,sm,_⟩:=h;exact sm.seq hR
 .obtain⟨rfl,⟨y0,y1,rfl⟩,sm,wL⟩:=h;rw [bz] at ex;obtain⟨r,er,rfl⟩:=cD.mp ex;obtain⟨ru,e1,p,v1,v2⟩:=cA.get er;have li:=(bu.mp e1).1;refine⟨r,_,rfl,sm.tup v1,rfl,_,_,rfl,_,_,rfl,rfl,?_⟩;refine yo ?_;refine⟨_,rfl,wL,bN (by rw [au,bQ];omega),?_,⟨_,_,rfl⟩,λb o hb=>?_,ae⟩
  .have:(hm aa)[i]?=some ru.1:=by unfold hm;rw [bz,e1];rfl
   rw [cQ,this,bH];rfl
  rw [aj (λz=>by rw [z,hD] at hb;cases hb)];exact sm b o hb
 obtain⟨rfl,_,sm,wL⟩:=h;rw [au,ll,mX (by unfold hm;rw [au];exact aF _)] at wL;exact q H2 sm wL
def Bs (K:ba):Sp:=λvs H Q _=>∃(R:Addr)(rs:List Addr)(aa:List ar)(b:Bool),vs=[.ref R,.bl b]/\aH K H R (rs.map V.ref)/\bL K H rs aa/\Small aa /\
 ∀(D:Addr)(H':Hp),H D=none->aA H H'->H' D=some (.lst ((cM b aa).map V.str))->(cM b aa).length<=64->Q (.ref D) H'
abbrev NE:List Str:=["_law_rules","_law_words_here","_law_head","_law_parts","_law_heads","_law_ended_here","_law_again","_law_good_here"]
def jS:aK NE ["_law_rules","_law_words_here"] (av zQ):=iN rfl rfl rfl rfl nofun
def FX (F:iC K "_law_ended" "_law_ended" zQ f fd)(T:Txt mg):bS P w K mg base gp 1 f fd ["_law_rules","_law_words_here"] (Bs K):=by
 refine F.ok jS (λvs H Q E h=>?_) (λeY A outer s H vs Q E hr h=>?_)
 .obtain⟨R,rs,aa,b,rfl,_⟩:=h;rfl
 obtain⟨R,rs,aa,b,rfl,hR,cA,Dc,q⟩:=h;have VG:=Dc.one;have VF:=Dc.most;refine⟨_,ai (az (i:=4) jS.nd rfl (Or.inr rfl) (bD ["_law_head","_law_parts"] [] rfl (a8 (pv 0)) (br rfl rfl) nofun rfl nofun
   (λ_ _ _ _ _=>fS (n:=2) K rfl (aB (aq (i:=0) (show (["_law_head","_law_parts"]:List Str).Nodup by decide +kernel) rfl (bC rfl)) (aB (aq (i:=1) (show (["_law_head","_law_parts"]:List Str).Nodup by decide +kernel) rfl (bC rfl)) cf))) (λ_ _ _ _ _=>b9)
   (λ_ _ _ _ _=>pv 0)))
  (ai (az (i:=5) jS.nd rfl (Or.inr rfl) (a_ ag))
  (ai (bM cq rfl (a8 (pv 0)) (aq (i:=6) jS.nd rfl (bC rfl))
   (ak (bM cq rfl (a8 (pv 0)) (fS (n:=2) K rfl (aB (aq (i:=2) jS.nd rfl (bC rfl)) (aB (aq (i:=3) jS.nd rfl (bC rfl)) cf)))
    (ai (az (i:=7) jS.nd rfl (bC rfl) (aD (ip rfl) rfl T.all boot_all (ab
      (bD ["_law_part"] [(5,"_law_ended_here"),(4,"_law_heads"),(1,"_law_words_here")] rfl (f_ (pv 3)) (br rfl rfl) nofun rfl nofun
       (λ_ _ _ _ _=>aq (i:=0) (show (["_law_part","_law_ended_here","_law_heads","_law_words_here"]:List Str).Nodup by decide +kernel) rfl (bC rfl)) (λ_ _ _ _ _=>b9)
       (λ_ _ _ _ _=>KG (fA (gK K) (pv 0) (pv 1) rfl) (kU (kW (pv 3) (kU (fA (ji K) (pv 0) (pv 2) rfl)))))) ag)))
    (ak (bJ (PW.pt (kS (eJ (pv 7)) (i9 (aX iM (pv 2) (pv 5) rfl))))
     (ak (cJ (g_ gG gX gY bV (pv 5) (ab (pv 2) ag)))) aQ))))))
  (ak (aN (pv 5))))),?_⟩
 nofun
 refine⟨_,rfl,R,rfl,⟨_,hR⟩,λD hD=>jZ hR cA ∅ hD λH1 s1 eD=>?_⟩;refine goN ?_
 ac_rfl
 refine⟨rC,λL hL=>?_⟩;have s2:=s1.trans (af hL (.lst []));have Hh:=af hL (.lst []) _ _ eD;have nL:L≠D:=λz=>by rw [z,eD] at hL;cases hL
 have fL:H L=none:=s1.free hL;have e2:upd H1 L (.lst []) L=some (.lst []):=ae;generalize upd H1 L (.lst [])=H2 at s2 Hh e2;refine goN ?_
 ac_rfl
 have ll:=aU cA
 let qw:pL:=λi σ H3=>∃(es:List Str)(y2 y3 y6 y7:Option V),σ=[aM R,some (.bl b),y2,y3,aM D,aM L,y6,y7]/\aA H H3/\H3 D=some (.lst ((hm aa).map V.str))/\H3 L=some (.lst (es.map V.str))/\es=passes (λe=>gB b (hm aa) e aa) i []/\es.length<=8 * i
 refine⟨_,rfl,R,rfl,⟨_,s2.seq hR⟩,cK (xs:=rs.map V.ref) qw ⟨[],_,_,_,_,rfl,s2,Hh,e2,rfl,by simp⟩ ?_ ?_ ?_⟩
 .rintro i σ H3 _ ⟨es,y2,y3,y6,y7,rfl,s3,_⟩;exact s3.seq hR
 .intro i x σ H3 ex jX
  ac_nf0
  obtain⟨es,y2,y3,y6,y7,rfl,s3,Iw,W7,he,QY⟩:=jX;have li:=(bu.mp ex).1;rw [au] at li;refine goN ?_
  ac_nf
  let A3:pL:=λj σ H4=>∃(i5:List Str)(y2 y3 y7:Option V),σ=[aM R,some (.bl b),y2,y3,aM D,aM L,some x,y7]/\aA H H4/\H4 D=some (.lst ((hm aa).map V.str))/\H4 L=some (.lst (i5.map V.str))/\i5=gB b (hm aa) es (aa.take j)/\i5.length<=8 * i+j
  refine⟨_,rfl,R,rfl,⟨_,s3.seq hR⟩,cK (xs:=rs.map V.ref) A3 ⟨es,_,_,_,rfl,s3,Iw,W7,rfl,∅⟩ ?_ ?_ ?_⟩
  .rintro j σ H4 _ ⟨i5,y2,y3,y7,rfl,s4,_⟩;exact s4.seq hR
  .intro j x2 σ H4 pG jX
   ac_nf0
   obtain⟨i5,y2,y3,y7,rfl,s4,DE,OL,Az,QX⟩:=jX;have lj:=(bu.mp pG).1;rw [au] at lj;rw [bz] at pG;obtain⟨r,er,rfl⟩:=cD.mp pG;obtain⟨ru,e1,p,v1,v2⟩:=cA.get er;have iZ:=Dc.xl ru (b_ e1);refine⟨r,_,rfl,s4.tup v1,rfl,_,_,rfl,_,_,rfl,rfl,?_⟩;refine⟨_,rfl,p,rfl,⟨_,s4.tup v2⟩,λD2 jc=>lh (zs:=ru.2) [aM L,aM D,some (.bl b)] (λz=>decide (z∈i5) || (b && !decide (z∈hm aa))) rfl (s4.tup v2) ∅ jc (λz _ H5 Qy s5 hq=>?_) λH5 s5 W_=>?_⟩
   .refine⟨_,rfl,_,rfl,L,_,rfl,.inl (aH.of (s5 _ _ OL)),rfl,cV _,?_⟩;refine⟨_,rfl,?_⟩;rw [fV];show if decide (z∈i5)=true then _ else _;refine cg (λc=>?_) (λc=>?_)
    .rw [c] at hq;exact hq
    have c':decide (z∈i5)=false:=by simpa using c
    rw [c',Bool.false_or] at hq;refine⟨_,rfl,b,rfl,?_⟩;refine cg (λcb=>?_) (λcb=>?_)
    .rw [cb,jo] at hq;refine⟨_,rfl,_,rfl,D,_,rfl,.inl (aH.of (s5 _ _ DE)),rfl,cV _,?_⟩;rw [fV];exact hq
    have cb':b=false:=by simpa using cb
    rw [cb',qW] at hq;exact hq
   refine⟨D2,_,rfl,aH.of W_,?_⟩;rw [all_map];refine goN ?_
   ac_rfl
   have tP:=s4.trans s5;have DC:=s5 _ _ OL;have pe:gB b (hm aa) es (aa.take (j+1))=dN b (hm aa) i5 ru:=by
    rw [Az,cQ,e1];unfold gB;rw [vi];rfl
   refine⟨_,rfl,_,rfl,?_⟩;refine cg (λc=>?_) (λc=>?_)
   .refine⟨_,rfl,_,rfl,L,_,rfl,.inl (aH.of DC),rfl,cV _,_,rfl,?_⟩;rw [fV];show if (!decide (ru.1∈i5))=true then _ else _;refine cg (λc2=>?_) (λc2=>?_)
    .refine⟨_,rfl,.inl ⟨rfl,_,aH.of DC⟩,_,rfl,L,_,_,rfl,rfl,DC,bN (by rw [au];omega),?_⟩;refine⟨i5++[ru.1],_,_,_,rfl,λb o hb=>?_,by rw [aj (gC nL)];exact s5 _ _ DE,by rw [ae,bH];rfl,?_,by rw [a9];simp;omega⟩
     .rw [aj (λz=>by rw [z,fL] at hb;cases hb)];exact tP b o hb
     rw [pe];unfold dN;rw [c,jo,ax c2]
    refine⟨i5,_,_,_,rfl,tP,s5 _ _ DE,DC,?_,∅⟩;rw [pe];unfold dN;rw [c,jo,ay c2]
   refine⟨i5,_,_,_,rfl,tP,s5 _ _ DE,DC,?_,∅⟩;rw [pe];unfold dN;rw [ay (λz=>c (gF.mp z).1)]
  rintro σ H4 ⟨i5,y2,y3,y7,rfl,s4,DE,OL,Az,QX⟩;rw [au,ll] at QX;rw [au,ll,cH] at Az;exact⟨i5,_,_,_,_,rfl,s4,DE,OL,by rw [Az,he];rfl,∅⟩
 rintro σ H3 ⟨es,y2,y3,y6,y7,rfl,s3,Iw,W7,he,QY⟩;rw [au,ll] at he QY;refine⟨_,rfl,?_⟩;have e:cM b aa=es:=he.symm;exact q L H3 fL s3 (by rw [e];exact W7) (by rw [e];omega)
end
def uR (zs:List Str) (j:Nat):d_ (zs.map V.str) none (some (0+(j:Int)))=(zs.take j).map V.str:=by
 rw [j6];unfold d_;rw [HT.gH,HT.g6,ml,jM,au,mS]
 conv=>rhs;rw [List.take_eq_take_min,au]
def DL (zs:List Str) (j:Nat):d_ (zs.map V.str) (some (0+(j:Int)+1)) none=(zs.drop (j+1)).map V.str:=by
 rw [j6,show (j:Int)+1=((j+1:Nat):Int) by push_cast;rfl];unfold d_;rw [HT.gH,HT.g6,au,oM];by_cases h:j+1<=zs.length
 .rw [mr h,mX (by rw [fg,au];exact aF _)]
 rw [q9 ∅,Nat.sub_self,oP,zh (by rw [au];omega)]
def A1 (aa:List ar) (ms:List Str):Prop:=∀(i:Nat)(h:Str),ms[i]?=some h->(∃jJ,aa[0]?=some jJ/\h=jJ.1)\/∃ru∈aa,ru.1∈ms.take i/\h∈ru.2
def HV (aa:List ar)(ru:ar) (j:Nat)(z:Str):Prop:=ru.2[j]?=some z/\z∈hm aa/\∀(k:Nat)(y:Str),k≠j->ru.2[k]?=some y->y∈cM false aa
def PlO (aa:List ar) (cs:List Str):Prop:=∀(i:Nat)(h:Str),cs[i]?=some h->∀ru∈aa,ru.1=h->∀(j:Nat)(z:Str),HV aa ru j z->z∈cs.take i
structure Ck (aa:List ar) (ms cs:List Str):Prop where
 en:∀z∈hm aa,z∈cM true aa
 mo:A1 aa ms
 ma:∀z∈hm aa,z∈ms
 cn:cs.Nodup
 ch:∀x∈cs,x∈hm aa
 co:PlO aa cs
 ca:∀z∈hm aa,z∈cs
def A1.app {aa:List ar}{ms zs:List Str}{ru:ar}(h:A1 aa ms)(hr:ru∈aa)(h1:ru.1∈ms)(h2:∀z∈zs,z∈ru.2):A1 aa (ms++zs):=by
 intro i x hx;by_cases l:i < ms.length
 .rw [pU l] at hx;rcases h i x hx with a | ⟨r,a,b,c⟩
  .exact .inl a
  exact .inr ⟨r,a,by rw [pV ∅];exact b,c⟩
 rw [mZ ∅] at hx;refine .inr ⟨ru,hr,?_,h2 x (b_ hx)⟩;rw [List.take_append,mX ∅];exact ib _ h1
def Yc (aa:List ar)(ri:List ar)(gU:List (Str×Str)):Prop:=∀ru∈ri,∀(j:Nat)(z:Str),HV aa ru j z->(ru.1,z)∈gU
structure O0 (aa:List ar)(gU:List (Str×Str)) (cs:List Str):Prop where
 cn:cs.Nodup
 ch:∀x∈cs,x∈hm aa
 co:∀(i:Nat)(h:Str),cs[i]?=some h->∀z,(h,z)∈gU->z∈cs.take i
def O0.add {aa:List ar}{gU:List (Str×Str)}{cs:List Str}{nm:Str}(h:O0 aa gU cs)(n:nm∉cs)(hh:nm∈hm aa)(a:∀z,(nm,z)∈gU->z∈cs):O0 aa gU (cs++[nm]):=by
 refine⟨j7.mpr ⟨h.cn,by simp,λx hx y hy z=>n (by rw [<-bF.mp hy,<-z];exact hx)⟩,λx hx=>?_,λi x hx z hz=>?_⟩
 .rcases bR.mp hx with q | q
  .exact h.ch x q
  rw [bF.mp q];exact hh
 by_cases l:i < cs.length
 .rw [pU l] at hx;rw [pV ∅];exact h.co i x hx z hz
 have li:=(bu.mp hx).1;rw [a9,gy] at li;have:i=cs.length:=by omega
 subst this;rw [mZ (aF _),Nat.sub_self] at hx;cases hx;rw [pV (aF _),cH];exact a z hz
section
def ES (K:ba):Sp:=λvs H Q _=>∃(R:Addr)(rs:List Addr)(aa:List ar),vs=[.ref R]/\aH K H R (rs.map V.ref)/\bL K H rs aa/\Small aa /\
 ∀(b:Bool)(H':Hp),aA H H'->(b=true->∃ms cs,Ck aa ms cs)->Q (.bl b) H'
abbrev NG:List Str:=["_law_rules","_law_head","_law_parts","_law_heads","_law_ended_here","_law_met","_law_again","_law_empty","_law_alone","_law_k","_law_others","_law_placed","_law_name","_law_later"]
def fP:aK NG ["_law_rules"] (av E7):=iN rfl rfl rfl rfl nofun
def Jy (F:iC K "_law_good" "_law_good" E7 f fd)(T:Txt mg)(GE:aC P w K mg base 1 "_law_ended" ["_law_rules","_law_words_here"] (Bs K)):bS P w K mg base gp 2 f fd ["_law_rules"] (ES K):=by
 refine F.ok fP (λvs H Q E h=>?_) (λeY A outer s H vs Q E hr h=>?_)
 .obtain⟨R,rs,aa,rfl,_⟩:=h;rfl
 obtain⟨R,rs,aa,rfl,hR,cA,Dc,q⟩:=h;have VG:=Dc.one;have VF:=Dc.most;refine⟨_,ai (az (i:=3) fP.nd rfl (Or.inr rfl) (bD ["_law_head","_law_parts"] [] rfl (a8 (pv 0)) (br rfl rfl) nofun rfl nofun
   (λ_ _ _ _ _=>fS (n:=2) K rfl (aB (aq (i:=0) (show (["_law_head","_law_parts"]:List Str).Nodup by decide +kernel) rfl (bC rfl)) (aB (aq (i:=1) (show (["_law_head","_law_parts"]:List Str).Nodup by decide +kernel) rfl (bC rfl)) cf))) (λ_ _ _ _ _=>b9)
   (λ_ _ _ _ _=>pv 0)))
  (ai (az (i:=4) fP.nd rfl (Or.inr rfl) (bp GE hr rfl (ab (pv 0) (ab gb ag))))
  (ai (az (i:=5) fP.nd rfl (Or.inr rfl) (bZ dr (pv 3) du (bT ao)))
  (ai (bM cq rfl (a8 (pv 0)) (aq (i:=6) fP.nd rfl (bC rfl))
   (ak (bM cq rfl (a8 (pv 0)) (fS (n:=2) K rfl (aB (aq (i:=1) fP.nd rfl (bC rfl)) (aB (aq (i:=2) fP.nd rfl (bC rfl)) cf)))
    (ak (bJ (aX lH (pv 1) (pv 5) rfl)
     (ak (az (i:=5) fP.nd rfl (Or.inr rfl) (aI dI (pv 5)
      (bD ["_law_part"] [(3,"_law_heads"),(5,"_law_met")] rfl (f_ (pv 2)) (br rfl rfl) nofun rfl nofun
       (λ_ _ _ _ _=>aq (i:=0) (show (["_law_part","_law_heads","_law_met"]:List Str).Nodup by decide +kernel) rfl (bC rfl))
       (λ_ _ _ _ _=>iq (PW.pt (kS (aX (gK K) (pv 0) (pv 1) rfl) (i9 (aX (ji K) (pv 0) (pv 2) rfl)))))
       (λ_ _ _ _ _=>pv 0))))) aQ)))))
  (ai (az (i:=7) fP.nd rfl (Or.inr rfl) (bp GE hr rfl (ab (pv 0) (ab gb ag))))
  (ai (az (i:=8) fP.nd rfl (bC rfl) (a_ ag))
  (ai (bM cq rfl (a8 (pv 0)) (fS (n:=2) K rfl (aB (aq (i:=1) fP.nd rfl (bC rfl)) (aB (aq (i:=2) fP.nd rfl (bC rfl)) cf)))
   (ak (bM cq rfl (gO rfl T.CB (ab (aD aG rfl T.len cZ (ab (pv 2) ag)) ag)) (aq (i:=9) fP.nd rfl (bC rfl))
    (ai (az (i:=10) fP.nd rfl (bC rfl) (aI wq (bZ qB (pv 2) du (bT (pv 9))) (bZ qB (pv 2) (bT (aI dw (pv 9) ao)) du)))
    (ak (bJ (PW.pt (kS (aX lH (aL aZ (pv 2) (pv 9) (λ_ _=>rfl)) (pv 3) rfl) (i9 (eJ (aD (ip rfl) rfl T.all boot_all (ab
      (bD ["_law_part"] [(7,"_law_empty")] rfl (f_ (pv 10)) (br rfl rfl) nofun rfl nofun
       (λ_ _ _ _ _=>aq (i:=0) (show (["_law_part","_law_empty"]:List Str).Nodup by decide +kernel) rfl (bC rfl)) (λ_ _ _ _ _=>b9)
       (λ_ _ _ _ _=>fA (gK K) (pv 0) (pv 1) rfl)) ag))))))
     (ak (cJ (g_ gG gX gY bV (pv 8) (ab (bo (ab (pv 1) (ab (aL aZ (pv 2) (pv 9) (λ_ _=>rfl)) ag))) ag)))) aQ))))))
  (ai (az (i:=11) fP.nd rfl (Or.inr rfl) (a_ ag))
  (ai (bM cq rfl (a8 (pv 0)) (aq (i:=6) fP.nd rfl (bC rfl))
   (ak (bM cq rfl (a8 (pv 3)) (aq (i:=12) fP.nd rfl (Or.inr rfl))
    (ai (i_ (iy:=13) ["_law_pair"] [(12,"_law_name")] fP.nd rfl rfl rfl (a8 (pv 8)) (br rfl rfl) nofun rfl nofun
      (λ_ _ _ _ _=>aq (i:=0) (show (["_law_pair","_law_name"]:List Str).Nodup by decide +kernel) rfl (bC rfl))
      (λ_ _ _ _ _=>iq (aX hU (aL (wH K) (pv 0) ao (λ_ _=>rfl)) (pv 1) (bK _))) (λ_ _ _ _ _=>aL (wH K) (pv 0) ao (λ_ _=>rfl)))
    (ak (bJ (PW.pt (kS (eJ (aD (ip rfl) rfl T.all boot_all (ab
      (bD ["_law_other"] [(11,"_law_placed")] rfl (a8 (pv 13)) (br rfl rfl) nofun rfl nofun
       (λ_ _ _ _ _=>aq (i:=0) (show (["_law_other","_law_placed"]:List Str).Nodup by decide +kernel) rfl (bC rfl)) (λ_ _ _ _ _=>b9)
       (λ_ _ _ _ _=>fA (gK K) (pv 0) (pv 1) rfl)) ag))) (i9 (aX iM (pv 12) (pv 11) rfl))))
     (ak (cJ (g_ gG gX gY bV (pv 11) (ab (pv 12) ag)))) aQ))))))
  (ak (aN (aD (ip rfl) rfl T.all boot_all (ab
   (bD ["_law_name"] [(4,"_law_ended_here"),(5,"_law_met"),(11,"_law_placed")] rfl (a8 (pv 3)) (br rfl rfl) nofun rfl nofun
    (λ_ _ _ _ _=>aq (i:=0) (show (["_law_name","_law_ended_here","_law_met","_law_placed"]:List Str).Nodup by decide +kernel) rfl (bC rfl)) (λ_ _ _ _ _=>b9)
    (λ_ _ _ _ _=>kW (fA (gK K) (pv 0) (pv 1) rfl) (kW (fA (gK K) (pv 0) (pv 2) rfl) (kU (fA (gK K) (pv 0) (pv 3) rfl))))) ag)))))))))))),?_⟩
 nofun
 have ll:=aU cA;refine⟨_,rfl,R,rfl,⟨_,hR⟩,λD hD=>jZ hR cA ∅ hD λH1 s1 eD=>?_⟩;refine goN ?_
 ac_rfl
 refine⟨_,rfl,R,rs,aa,true,rfl,s1.seq hR,cA.same s1,Dc,λEn H2 fE s2 eE lE=>?_⟩;refine goN ?_
 ac_rfl
 have WS:d_ ((hm aa).map V.str) none (some 1)=((hm aa).take 1).map V.str:=uR (hm aa) 1;have Q2:(hm aa).length=aa.length:=by unfold hm;rw [au]
 refine⟨_,rfl,_,rfl,D,_,rfl,aH.of (s2 _ _ eD),λM0 hM0=>?_⟩;rw [WS];have lm0:((hm aa).take 1).length<=1:=by rw [bQ];omega
 have YX:A1 aa ((hm aa).take 1):=λi h e=>by
  have li:=(bu.mp e).1;have:i=0:=by omega
  subst this;rw [xq ∅] at e;rw [bz] at e;obtain⟨r0,e0,rfl⟩:=cD.mp e;exact .inl ⟨r0,e0,rfl⟩
 generalize (hm aa).take 1=m0 at lm0 YX;have k3:=af hM0 (.lst (m0.map V.str));have s3:=(s1.trans s2).trans k3;have Iw:=k3 _ _ (s2 _ _ eD);have W8:=k3 _ _ eE;have eM3:upd H2 M0 (.lst (m0.map V.str)) M0=some (.lst (m0.map V.str)):=ae;generalize upd H2 M0 (.lst (m0.map V.str))=H3 at k3 s3 Iw W8 eM3;refine goN ?_
 ac_rfl
 let qw:pL:=λi σ H4=>∃(M:Addr) (ms:List Str)(y1 y2 y6:Option V),σ=[aM R,y1,y2,aM D,aM En,aM M,y6,none,none,none,none,none,none,none]/\aA H3 H4/\H4 M=some (.lst (ms.map V.str))/\ms.length<=8+40 * i/\A1 aa ms
 refine⟨_,rfl,R,rfl,⟨_,s3.seq hR⟩,cK (xs:=rs.map V.ref) qw ⟨M0,m0,_,_,_,rfl,λ_ _ h=>h,eM3,∅,YX⟩ ?_ ?_ ?_⟩
 .rintro i σ H4 _ ⟨M,ms,y1,y2,y6,rfl,s4,_⟩;exact s4.seq (s3.seq hR)
 .intro i x σ H4 ex jX
  ac_nf0
  obtain⟨M,ms,y1,y2,y6,rfl,s4,eM,lM,mO⟩:=jX;have li:=(bu.mp ex).1;rw [au] at li;refine goN ?_
  ac_nf
  let A3:pL:=λj σ H5=>∃(M:Addr) (ms:List Str)(y1 y2:Option V),σ=[aM R,y1,y2,aM D,aM En,aM M,some x,none,none,none,none,none,none,none]/\aA H3 H5/\H5 M=some (.lst (ms.map V.str))/\ms.length<=8+40 * i+4 * j/\A1 aa ms
  refine⟨_,rfl,R,rfl,⟨_,s4.seq (s3.seq hR)⟩,cK (xs:=rs.map V.ref) A3 ⟨M,ms,_,_,rfl,s4,eM,∅,mO⟩ ?_ ?_ ?_⟩
  .rintro j σ H5 _ ⟨M,ms,y1,y2,rfl,s5,_⟩;exact s5.seq (s3.seq hR)
  .intro j x2 σ H5 pG jX
   ac_nf0
   obtain⟨M,ms,y1,y2,rfl,s5,eM,lM,mO⟩:=jX;have lj:=(bu.mp pG).1;rw [au] at lj;rw [bz] at pG;obtain⟨r,er,rfl⟩:=cD.mp pG;obtain⟨ru,e1,p,v1,v2⟩:=cA.get er;have iZ:=Dc.xl ru (b_ e1);have xM:=s3.trans s5;refine⟨r,_,rfl,xM.tup v1,rfl,_,_,rfl,_,_,rfl,rfl,?_⟩;refine⟨_,rfl,_,rfl,M,_,rfl,.inl (aH.of eM),rfl,cV _,_,rfl,?_⟩;refine cg (λc=>?_) (λc=>?_)
   .refine⟨_,rfl,_,rfl,p,rfl,⟨_,xM.tup v2⟩,λD2 jc=>gR (xs:=ru.2.map V.str) (λk ys σ2 H6=>∃zs:List Str,ys=zs.map V.str/\zs.length<=k/\(∃y0,σ2=[y0,aM D,aM M])/\aA H5 H6/\H6 D2=some (.lst ys)/\∀z∈zs,z∈ru.2)
     ⟨[],rfl,aF _,⟨none,rfl⟩,af jc _,ae,λ_ h=>(by cases h)⟩ (λk ys σ2 H6 _ h=>?_) (λk v ys σ2 H6 ex h=>?_) (λys σ2 H6 h=>?_)⟩
    .obtain⟨_,_,_,_,s6,_⟩:=h;exact s6.tup (xM.tup v2)
    .obtain⟨zs,rfl,lz,⟨y0,rfl⟩,s6,Hh,zm⟩:=h;have lk:=(bu.mp ex).1;rw [au] at lk;rw [bz] at ex;obtain⟨z,ez,rfl⟩:=cD.mp ex;refine goN ?_;refine⟨_,rfl,_,rfl,D,_,rfl,.inl (aH.of (s6 _ _ (s5 _ _ Iw))),rfl,cV _,_,rfl,?_⟩;refine cg (λc1=>?_) (λc1=>?_)
     .refine⟨_,rfl,_,rfl,M,_,rfl,.inl (aH.of (s6 _ _ eM)),rfl,cV _,_,rfl,?_⟩;refine cg (λc2=>?_) (λc2=>?_)
      .refine⟨_,rfl,Hh,bN (by rw [au];omega),zs++[z],by rw [bH];rfl,by rw [a9];simp;omega,⟨_,rfl⟩,λb o hb=>?_,ae,λy hy=>(bR.mp hy).elim (zm y) λq=>(bF.mp q) ▸ b_ ez⟩;rw [aj (λz=>by rw [z,jc] at hb;cases hb)];exact s6 b o hb
      exact⟨zs,rfl,∅,⟨_,rfl⟩,s6,Hh,zm⟩
     refine cU ?_;exact⟨zs,rfl,∅,⟨_,rfl⟩,s6,Hh,zm⟩
    obtain⟨zs,rfl,lz,_,s6,Hh,zm⟩:=h;have cm:ru.1∈ms:=c_ ((fV _ _).symm.trans c);rw [au] at lz;refine⟨M,D2,_,_,rfl,rfl,s6 _ _ eM,Hh,fits (by rw [au,au];omega),λM2 hM2=>?_⟩;rw [<-bH];refine⟨M2,ms++zs,_,_,rfl,(s5.trans s6).trans (af hM2 _),ae,by rw [a9];omega,mO.app (b_ e1) cm zm⟩
   exact⟨M,ms,_,_,rfl,s5,eM,∅,mO⟩
  rintro σ H5 ⟨M,ms,y1,y2,rfl,s5,eM,lM,mO⟩;rw [au,ll] at lM;exact⟨M,ms,_,_,_,rfl,s5,eM,∅,mO⟩
 rintro σ H4 ⟨M,ms,y1,y2,y6,rfl,s4,eM,lM,mO⟩;have xN:=s3.trans s4;refine⟨_,rfl,R,rs,aa,false,rfl,xN.seq hR,cA.same xN,Dc,λEm H5 fEm s5 eEm lEm=>?_⟩;refine goN ?_
 ac_rfl
 refine⟨rC,λAl Wz=>?_⟩;have k6:=af Wz (.lst []);have s6:=(xN.trans s5).trans k6;have Tj:=k6 _ _ (s5 _ _ (s4 _ _ Iw));have eE6:=k6 _ _ (s5 _ _ (s4 _ _ W8));have eM6:=k6 _ _ (s5 _ _ eM);have Rw:=k6 _ _ eEm;have eA6:upd H5 Al (.lst []) Al=some (.lst []):=ae;have nA:∀b o,H5 b=some o->b≠Al:=λb o h z=>by rw [z,Wz] at h;cases h
 have nAD:=nA _ _ (s5 _ _ (s4 _ _ Iw));have nAE:=nA _ _ (s5 _ _ (s4 _ _ W8));have nAM:=nA _ _ (s5 _ _ eM);have nAm:=nA _ _ eEm;have fAl:H Al=none:=(xN.trans s5).free Wz;generalize upd H5 Al (.lst [])=H6 at k6 s6 Tj eE6 eM6 Rw eA6;refine goN ?_
 ac_rfl
 let Kp:Hp->Prop:=λH7=>aA H H7/\H7 D=some (.lst ((hm aa).map V.str))/\H7 En=some (.lst ((cM true aa).map V.str))/\H7 M=some (.lst (ms.map V.str))/\H7 Em=some (.lst ((cM false aa).map V.str))
 have jb:∀{H7 H8:Hp},Kp H7->aA H7 H8->Kp H8:=λh s=>⟨h.1.trans s,s _ _ h.2.1,s _ _ h.2.2.1,s _ _ h.2.2.2.1,s _ _ h.2.2.2.2⟩;have Qr:∀{H7:Hp}{xs:List V},Kp H7->Kp (upd H7 Al (.lst xs)):=λh=>⟨λb o hb=>by rw [aj (λz=>by rw [z,fAl] at hb;cases hb)];exact h.1 b o hb,by rw [aj nAD];exact h.2.1,by rw [aj nAE];exact h.2.2.1,by rw [aj nAM];exact h.2.2.2.1,by rw [aj nAm];exact h.2.2.2.2⟩
 let Lz:Hp->List Addr->List (Str×Str)->Prop:=λH7 as gU=>Paired (λa (pr:Str×Str)=>aS K H7 a [.str pr.1,.str pr.2]) as gU
 let RT:pL:=λi σ H7=>∃(as:List Addr)(gU:List (Str×Str))(y1 y2 y6 y9 yT:Option V),σ=[aM R,y1,y2,aM D,aM En,aM M,y6,aM Em,aM Al,y9,yT,none,none,none]/\Kp H7/\H7 Al=some (.lst (as.map V.ref))/\Lz H7 as gU/\as.length<=4 * i/\Yc aa (aa.take i) gU
 refine⟨_,rfl,R,rfl,⟨_,s6.seq hR⟩,cK (xs:=rs.map V.ref) RT ⟨[],[],_,_,_,_,_,rfl,⟨s6,Tj,eE6,eM6,Rw⟩,eA6,.nil,by simp,λru h=>(by simp at h)⟩ ?_ ?_ ?_⟩
 .rintro i σ H7 _ ⟨as,gU,y1,y2,y6,y9,yT,rfl,kp,_⟩;exact kp.1.seq hR
 .intro i x2 σ H7 pG jX
  ac_nf0
  obtain⟨as,gU,y1,y2,y6,y9,yT,rfl,kp,eA,pA,lA,aO⟩:=jX;have lj:=(bu.mp pG).1;rw [au] at lj;rw [bz] at pG;obtain⟨r,er,rfl⟩:=cD.mp pG;obtain⟨ru,e1,p,v1,v2⟩:=cA.get er;have iZ:=Dc.xl ru (b_ e1);refine⟨r,_,rfl,kp.1.tup v1,rfl,_,_,rfl,_,_,rfl,rfl,?_⟩;refine⟨_,rfl,p,_,rfl,.inr (kp.1.tup v2),_,rfl,by rw [au];omega,by rw [au];omega,?_⟩;rw [au,kC]
  let Iz4:pL:=λj σ H8=>∃(as:List Addr)(gU:List (Str×Str))(y9 yT:Option V),σ=[aM R,some (.str ru.1),aM p,aM D,aM En,aM M,y6,aM Em,aM Al,y9,yT,none,none,none]/\Kp H8/\H8 Al=some (.lst (as.map V.ref))/\Lz H8 as gU/\as.length<=4 * i+j/\Yc aa (aa.take i) gU/\∀(j2:Nat)(z2:Str),j2 < j->HV aa ru j2 z2->(ru.1,z2)∈gU
  refine gQ (n:=ru.2.length) Iz4 ⟨as,gU,_,_,rfl,kp,eA,pA,∅,aO,λj2 _ h=>by omega⟩ ?_ ?_
  .intro j σ H8 hj jX
   ac_nf0
   obtain⟨as,gU,y9,yT,rfl,kp,eA,pA,lA,aO,aJ⟩:=jX;obtain⟨z,ez⟩:∃z,ru.2[j]?=some z:=⟨ru.2[j]'∅,dH ∅⟩;have atj:ke (ru.2.map V.str) (0+(j:Int))=some (.str z):=by
    rw [j6];exact b0 (by rw [bz,ez];rfl)
   have eq1:=uR ru.2 j;have eq2:=DL ru.2 j;have lq1:(ru.2.take j).length<=ru.2.length:=by rw [bQ];omega
   have lq2:(ru.2.drop (j+1)).length<=ru.2.length:=by rw [fg];omega
   have Mr:∀y,y∈ru.2.take j++ru.2.drop (j+1)->∃k,k≠j/\ru.2[k]?=some y:=λy hy=>by
    rcases bR.mp hy with h | h
    .obtain⟨k,lk,ek⟩:=qy h;exact⟨k,∅,ek⟩
    obtain⟨k,ek⟩:=iI h;rw [rg] at ek;exact⟨j+1+k,∅,ek⟩
   generalize ru.2.take j=q1 at eq1 lq1 Mr;generalize ru.2.drop (j+1)=q2 at eq2 lq2 Mr;refine goN ?_
   ac_rfl
   refine⟨_,rfl,_,rfl,_,rfl,p,_,rfl,kp.1.tup v2,λt1 H9 s9 e9=>?_⟩;rw [eq1] at e9;refine⟨_,rfl,_,rfl,_,_,rfl,rfl,_,rfl,p,_,rfl,s9.tup (kp.1.tup v2),λt2 HA sA eA2=>?_⟩;rw [eq2] at eA2;refine⟨t1,t2,_,_,rfl,rfl,sA.tup e9,eA2,fits (by rw [au,au];omega),λt3 HB sB eB=>?_⟩;rw [<-bH] at eB;refine goN ?_
   ac_rfl
   have Ux:=s9.trans (sA.trans sB);have Gf:=jb kp Ux;have Xc:=Ux _ _ eA;have YH:Lz HB as gU:=Paired.fc pA λa pr z=>Ux.tup z;have yb:∀{HC:Hp},aA HB HC->¬HV aa ru j z->∃(as:List Addr)(gU:List (Str×Str))(y9' TQ:Option V),[aM R,some (.str ru.1),aM p,aM D,aM En,aM M,y6,aM Em,aM Al,some (.int (0+(j:Int))),aM t3,none,none,none]=[aM R,some (.str ru.1),aM p,aM D,aM En,aM M,y6,aM Em,aM Al,y9',TQ,none,none,none]/\Kp HC/\HC Al=some (.lst (as.map V.ref))/\Lz HC as gU/\as.length<=4 * i+(j+1)/\Yc aa (aa.take i) gU/\∀(j2:Nat)(z2:Str),j2 < j+1->HV aa ru j2 z2->(ru.1,z2)∈gU:=λ{HC} sC nl=>⟨as,gU,_,_,rfl,jb Gf sC,sC _ _ Xc,Paired.fc YH λa pr z=>sC.tup z,∅,aO,λj2 z2 h lo=>by
    by_cases c:j2 < j
    .exact aJ j2 z2 c lo
    have:j2=j:=by omega
    subst this;have e2:=lo.1;rw [ez] at e2;cases e2;exact absurd lo nl⟩
   refine⟨_,rfl,_,rfl,p,_,_,_,rfl,rfl,Gf.1.tup v2,atj,_,rfl,D,_,rfl,.inl (aH.of Gf.2.1),rfl,cV _,_,rfl,?_⟩;refine cg (λc1=>?_) (λc1=>?_)
   .refine⟨_,rfl,t3,rfl,⟨_,eB⟩,λD2 jc=>lh (zs:=q1++q2) [aM Em] (λz=>decide (z∈cM false aa)) rfl eB (by rw [a9];omega) jc (λz _ H5 Qy s5 hq=>?_) λHC sC eC=>?_⟩
    .refine⟨_,rfl,_,rfl,Em,_,rfl,.inl (aH.of (s5 _ _ Gf.2.2.2.2)),rfl,cV _,?_⟩;rw [fV];exact hq
    refine⟨D2,_,rfl,aH.of eC,_,rfl,?_⟩;refine cg (λc2=>?_) (λc2=>?_)
    .have kpC:=jb Gf sC;refine⟨_,rfl,.inl ⟨rfl,_,aH.of (sC _ _ Xc)⟩,_,rfl,_,rfl,_,rfl,p,_,_,_,rfl,rfl,kpC.1.tup v2,atj,iQ,λt ht=>?_⟩;have kD:=af ht (.tup [.str ru.1,.str z]);have sD:=sC.trans kD;have vD:aS K (upd HC t (.tup [.str ru.1,.str z])) t [.str ru.1,.str z]:=aS.of ae;generalize upd HC t (.tup [.str ru.1,.str z])=HD at kD sD vD;have Xb:=sD _ _ Xc;refine⟨Al,_,_,rfl,rfl,Xb,bN (by rw [au];omega),?_⟩;exact⟨as++[t],gU++[(ru.1,z)],_,_,rfl,Qr (jb Gf sD),by rw [ae,bH];rfl,h_ (Paired.fc YH λa pr z=>a7 Xb (sD.tup z)) (a7 Xb vD),by rw [a9];simp;omega,λr SH j2 z2 lo=>ib _ (aO r SH j2 z2 lo),λj2 z2 h lo=>by
      by_cases c:j2 < j
      .exact ib _ (aJ j2 z2 c lo)
      have:j2=j:=by omega
      subst this;have e2:=lo.1;rw [ez] at e2;cases e2;exact fR _ cI⟩
    refine yb sC λlo=>c2 ?_;rw [all_map];refine gL.mpr λy hy=>bh ?_;obtain⟨k,nk,ek⟩:=Mr y hy;exact lo.2.2 k y nk ek
   refine cU ?_;exact yb (λ_ _ h=>h) λlo=>c1 ((fV _ _).trans (bh lo.2.1))
  rintro σ H8 ⟨as,gU,y9,yT,rfl,kp,eA,pA,lA,aO,aJ⟩;refine⟨as,gU,_,_,_,_,_,rfl,kp,eA,pA,∅,λr SH j2 z2 lo=>?_⟩;rw [cQ,e1] at SH;rcases bR.mp SH with h | h
  .exact aO r h j2 z2 lo
  have:r=ru:=bF.mp h;subst this;exact aJ j2 z2 (bu.mp lo.1).1 lo
 rintro σ H7 ⟨as,gU,y1,y2,y6,y9,yT,rfl,kp,eA,pA,lA,aO⟩;rw [au,ll] at lA aO;rw [cH] at aO;refine⟨rC,λCm Wx=>?_⟩;have k8:=af Wx (.lst []);have Vp:=jb kp k8;have eA8:=k8 _ _ eA;have YJ:Lz (upd H7 Cm (.lst [])) as gU:=Paired.fc pA λa pr z=>k8.tup z;have eC8:upd H7 Cm (.lst []) Cm=some (.lst []):=ae;have nC:∀b o,H7 b=some o->b≠Cm:=λb o h z=>by rw [z,Wx] at h;cases h
 have nCA:=nC _ _ eA;have nCD:=nC _ _ kp.2.1;have nCE:=nC _ _ kp.2.2.1;have nCM:=nC _ _ kp.2.2.2.1;have nCm:=nC _ _ kp.2.2.2.2;have fCm:H Cm=none:=kp.1.free Wx;have Qq:∀{H7:Hp}{xs:List V},Kp H7->Kp (upd H7 Cm (.lst xs)):=λh=>⟨λb o hb=>by rw [aj (λz=>by rw [z,fCm] at hb;cases hb)];exact h.1 b o hb,by rw [aj nCD];exact h.2.1,by rw [aj nCE];exact h.2.2.1,by rw [aj nCM];exact h.2.2.2.1,by rw [aj nCm];exact h.2.2.2.2⟩;generalize upd H7 Cm (.lst [])=H8 at k8 Vp eA8 YJ eC8;refine goN ?_
 ac_rfl
 have lap:=aU pA
 let Iz5:pL:=λi σ H9=>∃(cs:List Str)(y1 y2 y6 y9 yT IK IJ:Option V),σ=[aM R,y1,y2,aM D,aM En,aM M,y6,aM Em,aM Al,y9,yT,aM Cm,IK,IJ]/\Kp H9/\H9 Al=some (.lst (as.map V.ref))/\Lz H9 as gU/\H9 Cm=some (.lst (cs.map V.str))/\cs.length<=8 * i/\O0 aa gU cs
 refine⟨_,rfl,R,rfl,⟨_,Vp.1.seq hR⟩,cK (xs:=rs.map V.ref) Iz5 ⟨[],_,_,_,_,_,_,_,rfl,Vp,eA8,YJ,eC8,by simp,⟨by simp,λ_ h=>(by cases h),λi h e=>(by cases e)⟩⟩ ?_ ?_ ?_⟩
 .rintro i σ H9 _ ⟨cs,y1,y2,y6,y9,yT,IK,IJ,rfl,Ij,_⟩;exact Ij.1.seq hR
 .intro i x σ H9 ex jX
  ac_nf0
  obtain⟨cs,y1,y2,y6,y9,yT,IK,IJ,rfl,Ij,eA9,YI,Lk,lC9,RE⟩:=jX;have li:=(bu.mp ex).1;rw [au] at li;refine goN ?_
  ac_nf
  let Iz6:pL:=λj σ HA=>∃(cs:List Str)(IK IJ:Option V),σ=[aM R,y1,y2,aM D,aM En,aM M,some x,aM Em,aM Al,y9,yT,aM Cm,IK,IJ]/\Kp HA/\HA Al=some (.lst (as.map V.ref))/\Lz HA as gU/\HA Cm=some (.lst (cs.map V.str))/\cs.length<=8 * i+j/\O0 aa gU cs
  refine⟨_,rfl,D,rfl,⟨_,aH.of Ij.2.1⟩,cK (xs:=(hm aa).map V.str) Iz6 ⟨cs,_,_,rfl,Ij,eA9,YI,Lk,∅,RE⟩ ?_ ?_ ?_⟩
  .rintro j σ HA _ ⟨cs,IK,IJ,rfl,Qs,_⟩;exact aH.of Qs.2.1
  .intro j x2 σ HA pG jX
   ac_nf0
   obtain⟨cs,IK,IJ,rfl,Qs,ON,PV,OM,Y4,Tp⟩:=jX;have lj:=(bu.mp pG).1;rw [au] at lj;rw [bz] at pG;obtain⟨nm,enm,rfl⟩:=cD.mp pG;refine goN ?_
   ac_rfl
   refine⟨_,rfl,Al,rfl,⟨_,aH.of ON⟩,λD2 jc=>cN (xs:=as.map V.ref) (λk ys σ2 HB=>∃zs:List Str,ys=zs.map V.str/\zs.length<=k/\(∃y0,σ2=[y0,some (.str nm)])/\aA HA HB/\HB D2=some (.lst ys)/\∀pr∈gU.take k,pr.1=nm->pr.2∈zs)
    ⟨[],rfl,aF _,⟨none,rfl⟩,af jc _,ae,λ_ h=>(by simp at h)⟩ (λk ys σ2 HB _ h=>?_) (λk v ys σ2 HB ex h=>?_) (λys σ2 HB h=>?_)⟩
   .obtain⟨_,_,_,_,sB,_⟩:=h;exact aH.of (sB _ _ ON)
   .obtain⟨zs,rfl,lz,⟨u0,rfl⟩,sB,eB,zA⟩:=h;have lk:=(bu.mp ex).1;rw [au] at lk;rw [bz] at ex;obtain⟨a,ea,rfl⟩:=cD.mp ex;obtain⟨pr,Z2⟩:∃pr,gU[k]?=some pr:=⟨gU[k]'∅,dH ∅⟩;obtain⟨a',Lj,va⟩:=Paired.at_ PV k pr Z2;rw [ea] at Lj;cases Lj;refine goN ?_;have tk:gU.take (k+1)=gU.take k++[pr]:=by rw [cQ,Z2];rfl
    refine⟨_,rfl,a,_,_,_,rfl,rfl,sB.tup va,rfl,_,rfl,rfl,_,rfl,?_⟩;refine cg (λc1=>?_) (λc1=>?_)
    .refine⟨_,rfl,a,_,_,_,rfl,rfl,sB.tup va,rfl,eB,bN (by rw [au];omega),zs++[pr.2],by rw [bH];rfl,by rw [a9];simp;omega,⟨_,rfl⟩,λb o hb=>?_,ae,λp2 oF e2=>?_⟩
     .rw [aj (λz=>by rw [z,jc] at hb;cases hb)];exact sB b o hb
     rw [tk] at oF;rcases bR.mp oF with h | h
     .exact ib _ (zA p2 h e2)
     rw [bF.mp h];exact fR _ cI
    refine⟨zs,rfl,∅,⟨_,rfl⟩,sB,eB,λp2 oF e2=>?_⟩;rw [tk] at oF;rcases bR.mp oF with h | h
    .exact zA p2 h e2
    have:p2=pr:=bF.mp h;rw [this] at e2;exact absurd (bh (congrArg V.str e2)) c1
   obtain⟨zs,rfl,lz,_,sB,eB,zA⟩:=h;rw [au] at lz zA;rw [lap,cH] at zA;refine goN ?_
   ac_rfl
   have Gf:=jb Qs sB;have yb:∀{HC:Hp},aA HB HC->∃(cs:List Str)(TN TM:Option V),[aM R,y1,y2,aM D,aM En,aM M,some x,aM Em,aM Al,y9,yT,aM Cm,some (.str nm),aM D2]=[aM R,y1,y2,aM D,aM En,aM M,some x,aM Em,aM Al,y9,yT,aM Cm,TN,TM]/\Kp HC/\HC Al=some (.lst (as.map V.ref))/\Lz HC as gU/\HC Cm=some (.lst (cs.map V.str))/\cs.length<=8 * i+(j+1)/\O0 aa gU cs:=λ{HC} sC=>⟨cs,_,_,rfl,jb Gf sC,sC _ _ (sB _ _ ON),Paired.fc PV λa pr z=>sC.tup (sB.tup z),sC _ _ (sB _ _ OM),∅,Tp⟩;refine⟨_,rfl,D2,rfl,⟨_,aH.of eB⟩,λD3 ym=>qd (zs:=zs) [aM Cm] (λz=>decide (z∈cs)) rfl (aH.of eB) ∅ ym (λz _ H5 Qy s5 hq=>?_) λHC sC eC=>?_⟩
   .refine⟨_,rfl,_,rfl,Cm,_,rfl,.inl (aH.of (s5 _ _ (sB _ _ OM))),rfl,cV _,?_⟩;rw [fV];exact hq
   refine⟨D3,_,rfl,aH.of eC,_,rfl,?_⟩;refine cg (λc2=>?_) (λc2=>?_)
   .refine⟨_,rfl,_,rfl,Cm,_,rfl,.inl (aH.of (sC _ _ (sB _ _ OM))),rfl,cV _,_,rfl,?_⟩;refine cg (λc1=>?_) (λc1=>?_)
    .have Xa:=sC _ _ (sB _ _ OM);have nc:nm∉cs:=λh=>by
      have c1':(!K3 (V.str nm) (cs.map V.str))=true:=c1;rw [fV,bh h] at c1';cases c1'
     have ac:∀z∈zs,z∈cs:=λz hz=>by
      rw [all_map] at c2;exact c_ (gL.mp c2 z hz)
     refine⟨_,rfl,.inl ⟨rfl,_,aH.of Xa⟩,_,rfl,Cm,_,_,rfl,rfl,Xa,bN (by rw [au];omega),?_⟩;exact⟨cs++[nm],_,_,rfl,Qq (jb Gf sC),by rw [aj nCA];exact sC _ _ (sB _ _ ON),Paired.fc PV λa pr z=>a7 Xa (sC.tup (sB.tup z)),by rw [ae,bH];rfl,by rw [a9];simp;omega,Tp.add nc (b_ enm) λz hz=>ac z (zA (nm,z) hz rfl)⟩
    exact yb sC
   refine cU ?_;exact yb sC
  rintro σ HA ⟨cs,IK,IJ,rfl,Qs,ON,PV,OM,Y4,Tp⟩;rw [au,Q2] at Y4;exact⟨cs,_,_,_,_,_,_,_,rfl,Qs,ON,PV,OM,∅,Tp⟩
 rintro σ H9 ⟨cs,y1,y2,y6,y9,yT,IK,IJ,rfl,Ij,eA9,YI,Lk,lC9,RE⟩;refine⟨_,rfl,D,rfl,⟨_,aH.of Ij.2.1⟩,λD3 ym=>qd (zs:=hm aa) [aM En,aM M,aM Cm] (λz=>decide (z∈cM true aa) && (decide (z∈ms) && decide (z∈cs))) rfl (aH.of Ij.2.1) ∅ ym (λz _ H5 Qy s5 hq=>?_) λHC sC eC=>?_⟩
 .refine⟨_,rfl,_,rfl,En,_,rfl,.inl (aH.of (s5 _ _ Ij.2.2.1)),rfl,cV _,_,rfl,?_⟩;rw [fV];show if decide (z∈cM true aa)=true then _ else _;refine cg (λc=>?_) (λc=>?_)
  .rw [c,jo] at hq;refine⟨_,rfl,_,rfl,M,_,rfl,.inl (aH.of (s5 _ _ Ij.2.2.2.1)),rfl,cV _,_,rfl,?_⟩;rw [fV];show if decide (z∈ms)=true then _ else _;refine cg (λc=>?_) (λc=>?_)
   .rw [c,jo] at hq;refine⟨_,rfl,_,rfl,Cm,_,rfl,.inl (aH.of (s5 _ _ Lk)),rfl,cV _,?_⟩;rw [fV];exact hq
   have c':decide (z∈ms)=false:=by simpa using c
   rw [c',qW] at hq;exact hq
  have c':decide (z∈cM true aa)=false:=by simpa using c
  rw [c',qW] at hq;exact hq
 refine⟨D3,_,rfl,aH.of eC,?_⟩;rw [all_map];refine q _ _ (Ij.1.trans sC) λhb=>⟨ms,cs,?_⟩;have al:=λz hz=>gF.mp (gL.mp hb z hz);refine⟨λz hz=>c_ (al z hz).1,mO,λz hz=>c_ (gF.mp (al z hz).2).1,RE.cn,RE.ch,λi h e ru iZ er j z lo=>?_,λz hz=>c_ (gF.mp (al z hz).2).2⟩;exact RE.co i h e z (er ▸ aO ru iZ j z lo)
end
theorem aW {α β:Type}{F:α->β->Prop}:∀{xs:List α}{ys:List β}{IL:List α}{Yd:List β},Paired F xs ys->Paired F IL Yd->Paired F (xs++IL) (ys++Yd)
 | _,_,_,_,.nil,h=>h
 | _,_,_,_,.cons a b,h=>.cons a (aW b h)
def kb {aa:List ar}{x:Str}:x∈hm aa↔x∈hd aa:=by
 constructor
 .intro h;obtain⟨ru,a,b⟩:=cY.mp h;exact b ▸ n_ a
 intro h;obtain⟨ru,a,b⟩:=K7 h;exact cY.mpr ⟨ru,a,b⟩
def Ck.PX {aa:List ar}{fM ms cs:List Str}(g:Ck aa ms cs)(n3:fM.length<=3)(xj:∀ru∈aa,ru.1∈fM)(p3:∀ru∈aa,ru.2.length<=3):yM aa fM (cM true aa) ms cs:=by
 have SF:∀x∈hm aa,x∈fM:=λx hx=>by
  obtain⟨ru,a,b⟩:=cY.mp hx;exact b ▸ xj ru a
 have eo:=Hd true aa;refine⟨n3,xj,p3,eo.nd,λx hx=>SF x (eo.sub x hx),λi h e=>?_,λh hh=>g.en h (kb.mpr hh),g.mo,λh hh=>g.ma h (kb.mpr hh),g.cn,λx hx=>SF x (g.ch x hx),λi h e ru iZ er j z ez hz Ox=>?_,λh hh=>g.ca h (kb.mpr hh)⟩
 .obtain⟨bq,a,b⟩:=eo.ord i h e;exact⟨bq,a,λp hp=>(b p hp).imp id λq z=>q.2 (kb.mpr z)⟩
 exact g.co i h e ru iZ er j z ⟨ez,kb.mpr hz,λk y nk ey=>Hf (Ox k y nk ey)⟩
def Cw {aa:List ar}{fM ws:List Str}(nd:fM.Nodup)(n0:0 < fM.length)(n3:fM.length<=3)(dj:∀x∈fM,x∉ws)(hl:aa.length=fM.length)
  (hs:∀(j:Nat)(ru:ar),aa[j]?=some ru->fM[j]?=some ru.1/\pK fM ws j ru.2):yM aa fM fM.reverse fM fM:=by
 have at_:∀(a:Nat)(h:Str),fM[a]?=some h->∃bq,aa[a]?=some (h,bq)/\pK fM ws a bq:=λa h e=>by
  have la:=(bu.mp e).1;have e2:aa[a]?=some (aa[a]'∅):=dH ∅;obtain⟨x1,x2⟩:=hs a _ e2;rw [e] at x1;refine⟨(aa[a]'∅).2,?_,x2⟩;rw [e2]
  congr 1
  exact Prod.ext (iu x1).symm rfl
 have BE:∀ru∈aa,∃a:Nat,fM[a]?=some ru.1/\pK fM ws a ru.2:=λru h=>by
  obtain⟨a,e⟩:=iI h;exact⟨a,hs a ru e⟩
 have SS:∀x,x∈hd aa->x∈fM:=λx hx=>by
  obtain⟨ru,a,b⟩:=K7 hx;obtain⟨k,e,_⟩:=BE ru a;exact b ▸ b_ e
 have wN:∀x∈ws,x∉hd aa:=λx hx h=>dj x (SS x h) hx;refine⟨n3,λru h=>?_,λru h=>?_,List.pairwise_reverse.mpr (nd.imp λh=>h.symm),λx hx=>List.mem_reverse.mp hx,λi h e=>?_,λh hh=>List.mem_reverse.mpr (SS h hh),λi h e=>?_,λh hh=>SS h hh,nd,λ_ h=>h,λi h e ru iZ er j z ez hz Ox=>?_,λh hh=>SS h hh⟩
 .obtain⟨a,e,_⟩:=BE ru h;exact b_ e
 .obtain⟨a,e,sk⟩:=BE ru h;rcases sk with ⟨n',wx,_,_,_,l2,h | h⟩ | ⟨_,_,l2⟩
  .rw [h,a9];simp;omega
  .rw [h,dZ];omega
  omega
 .have li:=(bu.mp e).1;rw [qP] at li;rw [vB li] at e;obtain⟨bq,e2,sk⟩:=at_ _ h e;refine⟨bq,b_ e2,λp hp=>?_⟩;rcases sk with ⟨n',wx,e3,_,hw,_,qo⟩ | ⟨_,hw,_⟩
  .have cs:p=n'\/p∈wx:=by
    rcases qo with h | h
    .rw [h] at hp;rcases bR.mp hp with q | q
     .exact .inr q
     exact .inl (bF.mp q)
    rw [h] at hp;rcases bX.mp hp with q | q
    .exact .inl q
    exact .inr q
   rcases cs with rfl | q
   .left;have l3:=(bu.mp e3).1;have e4:fM.reverse[i - 1]?=some p:=by
     rw [vB ∅,<-e3]
     congr 1
     omega
    refine b_ (i:=i - 1) ?_;rw [xq ∅];exact e4
   exact .inr (wN p (hw p q))
  exact .inr (wN p (hw p hp))
 .match i,e with
  | 0,e =>
   obtain⟨bq,e2,_⟩:=at_ 0 h e;exact .inl ⟨_,e2,rfl⟩
  | i+1,e =>
   have li:=(bu.mp e).1;have e5:fM[i]?=some (fM[i]'∅):=dH ∅;obtain⟨bq,e2,sk⟩:=at_ i _ e5;refine .inr ⟨_,b_ e2,?_,?_⟩
   .refine b_ (i:=i) ?_;rw [xq ∅];exact e5
   rcases sk with ⟨n',wx,e3,_,hw,_,qo⟩ | ⟨l,_,_⟩
   .rw [e] at e3;cases e3;show h∈bq;rcases qo with q | q
    .rw [q];exact fR _ cI
    rw [q];exact cI
   omega
 exfalso;obtain⟨a,_,sk⟩:=BE ru iZ;rcases sk with ⟨n',wx,_,R8,hw,_,qo⟩ | ⟨_,hw,_⟩
 .obtain⟨y,hy⟩:=List.exists_mem_of_ne_nil wx R8;have hy2:y∈ru.2:=by
   rcases qo with q | q
   .rw [q];exact ib _ hy
   rw [q];exact dB _ hy
  obtain⟨k,ek⟩:=iI hy2;by_cases c:k=j
  .subst c;rw [ez] at ek;cases ek;exact wN _ (hw _ hy) hz
  exact wN y (hw y hy) (Lg (Ox k y c ek))
 exact wN z (hw z (b_ ez)) hz
def yM.en {aa:List ar}{fM E M Pl:List Str}(O:yM aa fM E M Pl):∀z∈hm aa,z∈cM true aa:=λz hz=>by
 have all:∀(n i:Nat)(h:Str),i < n->E[i]?=some h->h∈cM true aa:=by
  intro n
  induction n with
  | zero=>intro i h l;omega
  | succ n ih =>
   intro i h l e;obtain⟨bq,a,b⟩:=O.eO i h e;refine ow a λp hp=>?_;rcases b p hp with q | q
   .obtain⟨j,lj,ej⟩:=qy q;exact .inl (ih j p ∅ ej)
   exact .inr ⟨rfl,λw=>q (kb.mp w)⟩
 obtain⟨i,e⟩:=iI (O.eA z (kb.mp hz));exact all (i+1) i z ∅ e
def HP (aa:List ar)(rk:Str->Nat):Prop:=(∀x,rk x<=3)/\∀ru∈aa,∀(j:Nat)(z:Str),ru.2[j]?=some z->z∈hd aa->(∀(k:Nat)(y:Str),k≠j->ru.2[k]?=some y->Em aa y)->rk z < rk ru.1
theorem Gq:∀(l:List Str)(x:Str),Eg l x<=l.length
 | [],x=>aF _
 | a::r,x=>by
  unfold Eg;by_cases c:a=x
  .rw [ax c];exact dX _
  rw [ay c];exact Nat.succ_le_succ (Gq r x)
def yM.rank {aa:List ar}{ns E M Pl:List Str}(o:yM aa ns E M Pl):HP aa (Eg Pl):=by
 refine⟨λx=>?_,λru iZ j z ez hz h=>?_⟩
 .have h1:=Gq Pl x;have h2:=iY _ _ o.lN o.Y3;have h3:=o.n3;omega
 exact nY _ _ _ (o.lO _ _ (sg Pl ru.1 (o.lA _ (n_ iZ))) ru iZ rfl j z ez hz h)
structure RW (c:Int)(aa:List ar):Prop where
 one:1<=aa.length
 six:aa.length<=6
 ins:∀ru∈aa,ru.1∈dA c/\ru.2.length<=3/\∀x∈ru.2,x∈dA c++i0 c
 en:∀z∈hm aa,z∈cM true aa
 rank:∃rk,HP aa rk
 good:∃rk b,Good aa rk b
section
def ER (K:ba):Sp:=λvs H Q _=>∃(S:Addr)(ns:List Int) (at_:Nat),vs=[.ref S,.int (at_:Int)]/\aH K H S (ns.map V.int)/\ns.length<=1000 /\
 ∀(c:Int)(R:Addr)(rs:List Addr)(aa:List ar)(H':Hp),c=cellAt ns at_->H R=none->aA H H'->H' R=some (.lst (rs.map V.ref))->bL K H' rs aa->RW c aa->Q (.ref R) H'
def mz:aK ["_law_script","_law_at","_law_cell","_law_names_here","_law_words_here","_law_rules","_law_more_here","_law_free"] ["_law_script","_law_at"] (av E6):=iN rfl rfl rfl rfl nofun
def Jx (F:iC K "_law_grammar" "_law_grammar" E6 f fd)(T:Txt mg)(GC:aC P w K mg base 2 "_law_cell_at" ["_law_script","_law_k"] (rL K))(GN:aC P w K mg base 2 "_law_names" ["_law_cell"] Bo)(GW:aC P w K mg base 2 "_law_words" ["_law_cell"] xA)
  (GS:aC P w K mg base 2 "_law_skeleton" ["_law_script","_law_at","_law_names_here","_law_words_here"] (EK K))(GM:aC P w K mg base 2 "_law_more" ["_law_script","_law_at","_law_names_here","_law_many","_law_words_here"] (EM K))(GG:aC P w K mg base 2 "_law_good" ["_law_rules"] (ES K)) :
  bS P w K mg base gp 3 f fd ["_law_script","_law_at"] (ER K):=by
 refine F.ok mz (λvs H Q E h=>?_) (λeY A outer s H vs Q E hr h=>?_)
 .obtain⟨S,ns,at_,rfl,_⟩:=h;rfl
 obtain⟨S,ns,at_,rfl,hS,hn,q⟩:=h;refine⟨_,ai (az (i:=2) mz.nd rfl (bC rfl) (bp GC hr rfl (ab (pv 0) (ab (pv 1) ag))))
  (ai (az (i:=3) mz.nd rfl (bC rfl) (bp GN hr rfl (ab (pv 2) ag)))
  (ai (az (i:=4) mz.nd rfl (bC rfl) (bp GW hr rfl (ab (pv 2) ag)))
  (ai (az (i:=5) mz.nd rfl (bC rfl) (bp GS hr rfl (ab (pv 0) (ab (aI dw (pv 1) ao) (ab (pv 3) (ab (pv 4) ag))))))
  (ai (az (i:=6) mz.nd rfl (bC rfl) (bp GM hr rfl (ab (pv 0) (ab (aI dw (pv 1) ao) (ab (pv 3) (ab (aI df (aI fU (pv 2) ao) ao) (ab (pv 4) ag)))))))
  (ai (iL (bJ (aX hU (aI df (aI fU (pv 2) ao) ao) ao (bK _))
   (ai (az (i:=7) mz.nd rfl (bC rfl) (bp GM hr rfl (ab (pv 0) (ab (aI dw (pv 1) ao) (ab (pv 3) (ab (aI dw ao (aI df (aI fU (pv 2) ao) ao)) (ab (pv 4) ag)))))))
   (ak (bJ (eJ (bp GG hr rfl (ab (pv 7) ag))) (ak (aN (pv 7))) aQ))) aQ))
  (ai (bJ (eJ (bp GG hr rfl (ab (aI dI (pv 5) (pv 6)) ag))) (ak (aN (aI dI (pv 5) (pv 6)))) aQ)
  (ak (aN (pv 5))))))))),?_⟩
 refine⟨_,rfl,_,rfl,S,ns,at_,rfl,hS,hn,λc hc=>?_⟩;have gl:=sG c;have wl:=AD c;refine⟨_,rfl,c,rfl,λN H1 fN s1 eN=>?_⟩;refine⟨_,rfl,c,rfl,λW H2 fW s2 eW=>?_⟩;have Fb:=s1.trans s2;have OK:=s2 _ _ eN;refine⟨_,rfl,_,rfl,_,_,rfl,rfl,_,rfl,_,rfl,S,N,W,ns,at_+1,dA c,i0 c,(by show [V.ref S,V.int ((at_:Int)+1),V.ref N,V.ref W]=_;congr 3),Fb.seq hS,hn,OK,eW,∅,∅,∅,∅,λR1 KA kR H3 f3 s3 e3 UD l3 Yt=>?_⟩;have Cz:=Fb.trans s3;obtain⟨m,V0⟩:∃m:Nat,c / 9 % 4=(m:Int):=⟨(c / 9 % 4).toNat,∅⟩;refine⟨_,rfl,_,rfl,_,_,rfl,rfl,_,rfl,_,rfl,_,_,rfl,rfl,⟨nofun,nofun⟩,_,_,rfl,rfl,(by show (0:Int) < 4;decide),_,rfl,S,N,W,ns,at_+4,m,dA c,i0 c,(by show [V.ref S,V.int ((at_:Int)+4),V.ref N,V.int (c / 9 % 4),V.ref W]=_;rw [V0];congr 3),Cz.seq hS,hn,s3 _ _ OK,s3 _ _ eW,∅,∅,∅,∅,λR2 Mf ph H4 f4 s4 e4 Sm l4 in4=>?_⟩;have xN:=Cz.trans s4;have e34:=s4 _ _ e3;have Mh:=UD.same s4;have O1:=Cw (Dp c) gl.1 gl.2 (Dq c) l3 Yt;have in1:∀ru∈kR,ru.1∈dA c/\ru.2.length<=3/\∀x∈ru.2,x∈dA c++i0 c:=λru h=>by
  refine⟨O1.xj ru h,O1.p3 ru h,λx hx=>?_⟩;obtain⟨a,e⟩:=iI h;rcases (Yt a ru e).2 with ⟨n',wx,en,_,hw,_,qo⟩ | ⟨_,hw,_⟩
  .have cs:x=n'\/x∈wx:=by
    rcases qo with h | h
    .rw [h] at hx;rcases bR.mp hx with q | q
     .exact .inr q
     exact .inl (bF.mp q)
    rw [h] at hx;rcases bX.mp hx with q | q
    .exact .inl q
    exact .inr q
   rcases cs with rfl | q
   .exact ib _ (b_ en)
   exact fR _ (hw x q)
  exact fR _ (hw x hx)
 have PZ:∀{aa:List ar}{ms cs:List Str},Ck aa ms cs->1<=aa.length->aa.length<=6->(∀ru∈aa,ru.1∈dA c/\ru.2.length<=3/\∀x∈ru.2,x∈dA c++i0 c)->RW c aa:=λg a b i=>⟨a,b,i,g.en,⟨_,(g.PX gl.2 (λru h=>(i ru h).1) λru h=>(i ru h).2.1).rank⟩,_,_,(g.PX gl.2 (λru h=>(i ru h).1) λru h=>(i ru h).2.1).good⟩;have Px:∀{aa:List ar},1<=aa.length->aa.length<=6->(∀ru∈aa,ru.1∈dA c/\ru.2.length<=3/\∀x∈ru.2,x∈dA c++i0 c)->Small aa:=λa b i=>⟨a,∅,λru h=>by have:=(i ru h).2.1;omega⟩;refine⟨λσ H5=>∃y7,σ=[aM S,some (.int (at_:Int)),some (.int c),aM N,aM W,aM R1,aM R2,y7]/\aA H4 H5,?_,?_⟩
 .refine⟨_,rfl,_,_,rfl,rfl,⟨nofun,nofun⟩,_,_,rfl,rfl,(by show (0:Int) < 2;decide),rfl,_,rfl,?_⟩;refine cg (λcc=>?_) (λcc=>?_)
  .have VZ:1+c / 9 % 4=((m+1:Nat):Int):=by omega
   refine⟨_,rfl,_,rfl,_,_,rfl,rfl,_,rfl,_,rfl,_,_,rfl,rfl,⟨nofun,nofun⟩,_,_,rfl,rfl,(by show (0:Int) < 4;decide),_,_,rfl,rfl,_,rfl,S,N,W,ns,at_+4,m+1,dA c,i0 c,(by show [V.ref S,V.int ((at_:Int)+4),V.ref N,V.int (1+c / 9 % 4),V.ref W]=_;rw [VZ];congr 3),xN.seq hS,hn,s4 _ _ (s3 _ _ OK),s4 _ _ (s3 _ _ eW),∅,∅,∅,∅,λR3 YC Ff H5 f5 s5 e5 YE l5 Zi=>?_⟩;have xM:=xN.trans s5;refine⟨_,rfl,R3,YC,Ff,rfl,aH.of e5,YE,Px ∅ ∅ Zi,λb H6 s6 hb=>⟨b,rfl,?_⟩⟩;refine cg (λc2=>?_) (λc2=>?_)
   .obtain⟨ms,cs,g⟩:=hb c2;exact⟨_,rfl,q c R3 YC Ff H6 hc (xN.free f5) (xM.trans s6) (s6 _ _ e5) (YE.same s6) (PZ g ∅ ∅ Zi)⟩
   exact⟨_,rfl,s5.trans s6⟩
  exact⟨_,rfl,aA.refl _⟩
 rintro σ H5 ⟨y7,rfl,s5⟩;have xM:=xN.trans s5;have eA:=s5 _ _ e34;have eB:=s5 _ _ e4;have aaf:=aU Mh;have aae:=aU Sm;have Zh:∀ru∈kR++ph,ru.1∈dA c/\ru.2.length<=3/\∀x∈ru.2,x∈dA c++i0 c:=λru h=>(bR.mp h).elim (in1 ru) (in4 ru);have Ee:1<=(kR++ph).length/\(kR++ph).length<=6:=by rw [a9];omega
 have YD:bL K H5 (KA++Mf) (kR++ph):=aW (Mh.same s5) (Sm.same s5);refine⟨_,rfl,_,rfl,R1,R2,_,_,rfl,rfl,eA,eB,fits (by rw [au,au];omega),λR4 hR4=>?_⟩;rw [<-bH];have k6:=af hR4 (.lst ((KA++Mf).map V.ref));have e6:upd H5 R4 (.lst ((KA++Mf).map V.ref)) R4=some (.lst ((KA++Mf).map V.ref)):=ae;generalize upd H5 R4 (.lst ((KA++Mf).map V.ref))=H6 at k6 e6;have E_:=xM.trans k6;refine⟨R4,KA++Mf,kR++ph,rfl,aH.of e6,YD.same k6,Px Ee.1 Ee.2 Zh,λb H7 s7 hb=>⟨b,rfl,?_⟩⟩;have uv:=k6.trans s7;refine cg (λc2=>?_) (λc2=>?_)
 .obtain⟨ms,cs,g⟩:=hb c2;refine⟨_,rfl,_,rfl,R1,R2,_,_,rfl,rfl,uv _ _ eA,uv _ _ eB,fits (by rw [au,au];omega),λR5 Wl=>?_⟩;rw [<-bH];exact q c R5 (KA++Mf) (kR++ph) _ hc ((E_.trans s7).free Wl) ((E_.trans s7).trans (af Wl _)) ae ((YD.same uv).same (af Wl _)) (PZ g Ee.1 Ee.2 Zh)
 exact⟨_,rfl,q c R1 KA kR H7 hc (Fb.free f3) (E_.trans s7) (uv _ _ eA) ((Mh.same s5).same uv) ⟨∅,∅,in1,O1.en,⟨_,O1.rank⟩,_,_,O1.good⟩⟩
end
end hV
namespace L2
open PySem PySem.Spec PyProof.Rows
def Dw:List V->List V->Bool
 | [],[]=>true
 | x::xs,y::ys=>uO x y && Dw xs ys
 | _,_=>false
theorem uP:∀(xs ys:List V),((List.range (min xs.length ys.length)).all (λj=>uO (xs.getD j .fh) (ys.getD j .fh)) && (xs.length == ys.length))=Dw xs ys
 | [],[]=>rfl
 | [],y::ys=>by simp [Dw]
 | x::xs,[]=>by simp [Dw]
 | x::xs,y::ys=>by
  have ih:=uP xs ys;show _=(uO x y && Dw xs ys);rw [<-ih,dZ,dZ,Nat.succ_min_succ,List.range_succ_eq_map,List.all_cons,List.all_map];simp only [Function.comp_def,List.getD_cons_zero,List.getD_cons_succ,Nat.succ_eq_add_one];rw [Bool.and_assoc]
  congr 2
  simp
def AI {A:Around}{s:Shared}{xs ys:List V}{aT dG:List Value}(r:bf xs aT)(r2:bf ys dG)(fx:xs.all ie=true)(fy:ys.all ie=true) (j:Nat)(h1:j < aT.toArray.size)(h2:j < dG.toArray.size) :
  SeqAt.EqAt A s aT.toArray[j] dG.toArray[j] (uO (xs.getD j .fh) (ys.getD j .fh)):=by
 have l1:=r.length;have l2:=r2.length;have k1:j < aT.length:=by simpa using h1
 have k2:j < dG.length:=by simpa using h2
 have g1:xs[j]?=some (xs[j]'∅):=dH ∅;have g2:ys[j]?=some (ys[j]'∅):=dH ∅;obtain⟨u1,e1,q1⟩:=r.get g1;obtain⟨u2,e2,q2⟩:=r2.get g2;have f1:aT.toArray[j]=u1:=by
  have:=(bu.mp e1).2;simpa using this
 have f2:dG.toArray[j]=u2:=by
  have:=(bu.mp e2).2;simpa using this
 rw [f1,f2];have d1:xs.getD j .fh=xs[j]'∅:=by rw [xr,g1];rfl
 have d2:ys.getD j .fh=ys[j]'∅:=by rw [xr,g2];rfl
 rw [d1,d2];exact AM q1 q2 (gL.mp fx _ (qZ _)) (gL.mp fy _ (qZ _))
def G_ {X:Cx}{ah:List (Addr×Obj)}{σ:St}{H:Hp}{s:Shared}(I:Inv X ah σ H s)(A:Around){a b:Addr}{xs ys:List V}(ha:aS X.K H a xs)(hb:aS X.K H b ys)(fx:xs.all ie=true)(fy:ys.all ie=true)(ne:a≠b)(hu:A.units < cLine):SeqAt.EqAt A s (.ref a) (.ref b) (Dw xs ys):=by
 refine .of_refs ne ?_;obtain⟨aT,r,pl,hz⟩:=I.tuple ha;obtain⟨dG,r2,uz,QB⟩:=I.tuple hb;have l1:=r.length;have l2:=r2.length;have q:=SeqAt.RcAt.tuples (A:=A) (s:=s) (e:=λj=>uO (xs.getD j .fh) (ys.getD j .fh)) pl uz hu (λj h1 h2=>AI r r2 fx fy j h1 h2);have e:((List.range (min aT.toArray.size dG.toArray.size)).all (λj=>uO (xs.getD j .fh) (ys.getD j .fh)) && aT.toArray.size == dG.toArray.size)=Dw xs ys:=by
  rw [<-uP];simp only [bY,<-l1,<-l2]
 rw [e] at q;exact q
def rL1 (K:ba):R2:=λx y H Q=>∃p q xs b ys,x=.ref p/\y=.ref q/\aH K H p xs/\aH K H q [.ref b]/\aS K H b ys/\ys.all ie=true /\
 ((xs=[]/\Q (.bl true) H)\/∃a zs,xs=[.ref a]/\a≠b/\aS K H a zs/\zs.all ie=true/\Q (.bl (!Dw zs ys)) H)
def xV {X:Cx}(hu:X.A.units+1 < cLine):jH X (compareOp .NotEq) (rL1 X.K):=by
 intro ah s σ H x y v u Q I rx ry h;obtain⟨p,q,xs,b,ys,rfl,rfl,hp,hq,hb,fy,h⟩:=h;cases rx;cases ry;obtain⟨aT,r,pl,hz⟩:=I.list hp;obtain⟨dG,r2,uz,QB⟩:=I.list hq;have l1:=r.length;have l2:=r2.length;rcases h with ⟨rfl,q⟩ | ⟨a,zs,rfl,ne,ha,fz,q⟩
 .refine SeqAt.RcNeAt.lists_lengths pl.isList uz.isList ?_ ∅ X.prog X.w X.xe _ ⟨.bl true,H,I,rfl,q⟩;rw [bY,bY,<-l1,<-l2];rfl
 refine SeqAt.RcNeAt.lists (e:=λ_=>Dw zs ys) pl.isList uz.isList (by simp only [bY];rw [<-l1,<-l2];rfl) ∅ (λj h1 h2=>?_) X.prog X.w X.xe _ ?_
 .have j0:j=0:=by
   simp only [bY,<-l1,gy] at h1;omega
  subst j0;obtain⟨u1,e1,q1⟩:=r.get (show [V.ref a][0]?=some (.ref a) from rfl);obtain⟨u2,e2,q2⟩:=r2.get (show [V.ref b][0]?=some (.ref b) from rfl);have f1:aT.toArray[0]=u1:=by
   have:=(bu.mp e1).2;simpa using this
  have f2:dG.toArray[0]=u2:=by
   have:=(bu.mp e2).2;simpa using this
  rw [f1,f2];cases (show u1=Value.ref a from q1);cases (show u2=Value.ref b from q2);exact G_ I X.A.in1 ha hb fz fy ne (by rw [mq];omega)
 have e:(!(List.range aT.toArray.size).all λ_=>Dw zs ys)=!Dw zs ys:=by
  rw [bY,<-l1];cases Dw zs ys <;> rfl
 rw [e];exact⟨.bl _,H,I,rfl,q⟩
def xY {X:Cx}(n:Nat)(hu:X.A.units+(n+1) < cLine):jH X (compareOp .Eq) (λx y H Q=>∃p q xs ys,x=.ref p/\y=.ref q/\aS X.K H p xs/\aS X.K H q ys/\Paired (Eb X.K H n) xs ys/\Q (.bl true) H):=by
 intro ah s σ H x y v u Q I rx ry h;obtain⟨a,b,xs,ys,rfl,rfl,ha,hb,p,q⟩:=h;cases rx;cases ry;obtain⟨aT,r,pl,hz⟩:=I.tuple ha;obtain⟨dG,r2,uz,QB⟩:=I.tuple hb;have l1:=r.length;have l2:=r2.length;have lp:=aU p;refine SeqAt.RcAt.tuples (e:=λ_=>true) pl uz ∅ (λj h1 h2=>jG r r2 p (λx y u v d r1 r2=>sY I n X.A.in1 x y u v d r1 r2 (by rw [mq];omega)) j h1 h2) X.prog X.w X.xe _ ?_;have e:((List.range (min aT.toArray.size dG.toArray.size)).all (λ_=>true) && aT.toArray.size == dG.toArray.size)=true:=by
  have:aT.toArray.size=dG.toArray.size:=by simp only [bY];omega
  rw [this];simp
 rw [e];exact⟨.bl true,H,I,rfl,q⟩
open PySem
def UJ (K:ba):R2:=λx y H Q=>∃y',y=.str y'/\((∃z,x=.str z/\Q (.bl (decide (V.str z=V.str y'))) H)\/∃a xs,x=.ref a/\aS K H a xs/\Q (.bl false) H)
def FD {X:Cx}(hu:X.A.units < cLine):jH X (compareOp .Eq) (UJ X.K):=by
 intro ah s σ H x y v u Q I rx ry h;obtain⟨y',rfl,h⟩:=h;rcases h with ⟨z,rfl,q⟩ | ⟨a,xs,rfl,ha,q⟩
 .exact hU ah s σ H _ _ v u Q I rx ry ⟨rfl,q⟩
 cases rx;obtain⟨t,rfl⟩:=ry;obtain⟨aT,r,pl,hz⟩:=I.tuple ha;exact SeqAt.RcAt.tuple_str y' t pl hu X.prog X.w X.xe _ ⟨.bl false,H,I,rfl,q⟩
end L2
namespace hV
open PySem L2 M11
abbrev zR:Stmt:=top 6
section
def wF:PySem.W.kitOne K (.type "tuple") (.type "str")=some false:=by kernel_rfl
def Gi:PySem.W.kitOne K (.type "str") (.type "tuple")=some false:=by kernel_rfl
def Gh:PySem.W.kitOne K (.type "str") (.type "int")=some false:=by kernel_rfl
def kit_is:PySem.W.kitOne K (.type "int") (.type "str")=some false:=by kernel_rfl
def Gj:PySem.W.kitOne K (.type "int") (.type "tuple")=some false:=by kernel_rfl
def Gk:PySem.W.kitOne K (.type "bool") (.type "int")=some true:=by kernel_rfl
def HR (m:Nat)(y:V):Prop:=(∃n:Int,y=.int n/\¬(0<=n/\n < (m:Int)))\/(∃t,y=.bl t)\/∃z,y=.str z
def Bu:Sp:=λvs H Q _=>∃(y:V) (m:Nat),vs=[y,.int (m:Int)]/\((∃k:Nat,y=.int (k:Int)/\k < m/\Q (.bl true) H)\/(HR m y/\Q (.bl false) H))
def Jd:aK ["number","many"] ["number","many"] (av zR):=iN rfl rfl rfl rfl nofun
def F1 (F:iC K "is_number_below" "is_number_below" zR f fd)(T:Txt mg):bS P w K mg base gp 1 f fd ["number","many"] Bu:=by
 refine F.ok Jd (λvs H Q E h=>?_) (λeY A outer s H vs Q E hr h=>?_)
 .obtain⟨y,m,rfl,_⟩:=h;rfl
 obtain⟨y,m,rfl,h⟩:=h;refine⟨_,ak (aN (kW (aD dq rfl T.Gs kI (ab (pv 0) (ab (hJ (v:=.ty "int") rfl T.int PyProof.Rows.boot_int rfl) ag)))
  (kW (z7 (aD dq rfl T.Gs kI (ab (pv 0) (ab (hJ (v:=.ty "bool") rfl T.boo PyProof.Rows.boot_bool rfl) ag))))
  (kU (Fw KH nV ao (pv 0) (pv 1)))))),?_⟩
 dsimp only [yz];rcases h with ⟨k,rfl,hk,q⟩ | ⟨⟨n,rfl,hn⟩ | ⟨t,rfl⟩ | ⟨z,rfl⟩,q⟩
 .refine⟨_,rfl,.int k,"int","int",true,rfl,.int k,eU,true,rfl,?_⟩;refine d8 ?_;refine⟨_,rfl,.int k,"int","bool",false,rfl,.int k,Ar,false,rfl,true,rfl,?_⟩;refine d8 ?_;refine⟨_,rfl,_,_,rfl,rfl,_,rfl,?_⟩;refine cg (λ_=>?_) (λc=>absurd (bh ∅) c);refine⟨_,rfl,_,_,rfl,rfl,?_⟩;show Q (.bl (decide ((k:Int) < (m:Int)))) H;rw [bh ∅];exact q
 .refine⟨_,rfl,.int n,"int","int",true,rfl,.int n,eU,true,rfl,?_⟩;refine d8 ?_;refine⟨_,rfl,.int n,"int","bool",false,rfl,.int n,Ar,false,rfl,true,rfl,?_⟩;refine d8 ?_;refine⟨_,rfl,_,_,rfl,rfl,_,rfl,?_⟩;refine cg (λc=>?_) (λc=>?_)
  .refine⟨_,rfl,_,_,rfl,rfl,?_⟩;show Q (.bl (decide (n < (m:Int)))) H;have c':=c_ c;rw [b8 (λl=>hn ⟨c',l⟩)];exact q
  have e:V.bl (decide ((0:Int)<=n))=V.bl false:=by
   cases hh:decide ((0:Int)<=n) with
   | true=>exact absurd hh c
   | false=>rfl
  first
   | exact q
   | (rw [e];exact q)
 .refine⟨_,rfl,.bl t,"bool","int",true,rfl,.bl t,Gk,true,rfl,?_⟩;refine d8 ?_;refine⟨_,rfl,.bl t,"bool","bool",true,rfl,.bl t,eU,true,rfl,false,rfl,?_⟩;refine cU ?_;exact q
 refine⟨_,rfl,.str z,"str","int",false,rfl,.str z,Gh,false,rfl,?_⟩;refine cU ?_;exact q
end
mutual
inductive Tr
 | w (z:Str)
 | n (k:Nat)(cs:gS)
inductive gS
 | nil
 | cons (t:Tr)(r:gS)
end
def gS.jl:gS->List Tr
 | .nil=>[]
 | .cons t r=>t::r.jl
mutual
def fX (K:ba)(H:Hp):Tr->V->Prop
 | .w z,v=>v=.str z
 | .n k cs,v=>∃a p vs,v=.ref a/\aS K H a [.int (k:Int),.ref p]/\aS K H p vs/\hZ K H cs vs
def hZ (K:ba)(H:Hp):gS->List V->Prop
 | .nil,vs=>vs=[]
 | .cons t r,vs=>∃v zu,vs=v::zu/\fX K H t v/\hZ K H r zu
end
mutual
def row:Tr->List Str
 | .w z=>[z]
 | .n _ cs=>rows cs
def rows:gS->List Str
 | .nil=>[]
 | .cons t r=>row t++rows r
end
mutual
def sz:Tr->Nat
 | .w _=>1
 | .n _ cs=>1+EE cs
def EE:gS->Nat
 | .nil=>0
 | .cons t r=>sz t+EE r
end
mutual
def dp:Tr->Nat
 | .w _=>0
 | .n _ cs=>1+xn cs
def xn:gS->Nat
 | .nil=>0
 | .cons t r=>max (dp t) (xn r)
end
mutual
def Is (aa:List ar):Tr->Str->Prop
 | .w z,x=>x=z/\z∉hd aa
 | .n k cs,x=>∃bq,aa[k]?=some (x,bq)/\tR aa cs bq
def tR (aa:List ar):gS->List Str->Prop
 | .nil,ps=>ps=[]
 | .cons t r,ps=>∃p BG,ps=p::BG/\Is aa t p/\tR aa r BG
end
section
variable {K:ba}
mutual
theorem fX.keep {H H':Hp}(k:∀a xs,aS K H a xs->aS K H' a xs):∀(t:Tr){v:V},fX K H t v->fX K H' t v
 | .w z,v,h=>by unfold fX at *;exact h
 | .n m cs,v,h=>by
  unfold fX at *;obtain⟨a,p,vs,e,h1,h2,h3⟩:=h;exact⟨a,p,vs,e,k _ _ h1,k _ _ h2,hZ.keep k cs h3⟩
theorem hZ.keep {H H':Hp}(k:∀a xs,aS K H a xs->aS K H' a xs):∀(ts:gS){vs:List V},hZ K H ts vs->hZ K H' ts vs
 | .nil,vs,h=>by unfold hZ at *;exact h
 | .cons t r,vs,h=>by
  unfold hZ at *;obtain⟨v,zu,e,h1,h2⟩:=h;exact⟨v,zu,e,fX.keep k t h1,hZ.keep k r h2⟩
end
theorem hZ.paired {H:Hp}:∀(ts:gS){vs:List V},hZ K H ts vs->Paired (λv t=>fX K H t v) vs ts.jl
 | .nil,vs,h=>by unfold hZ at h;subst h;exact .nil
 | .cons t r,vs,h=>by
  unfold hZ at h;obtain⟨v,zu,rfl,h1,h2⟩:=h;exact .cons h1 (hZ.paired r h2)
theorem rW:∀ts:gS,rows ts=ts.jl.flatMap row
 | .nil=>by unfold rows;rfl
 | .cons t r=>by unfold rows;rw [rW r];rfl
def EF:∀t:Tr,1<=sz t
 | .w _=>by unfold sz;exact aF _
 | .n _ cs=>by unfold sz;omega
theorem tR.paired {aa:List ar}:∀(ts:gS){ps:List Str},tR aa ts ps->ts.jl.length=ps.length/\∀(j:Nat) t p,ts.jl[j]?=some t->ps[j]?=some p->Is aa t p
 | .nil,ps,h=>by
  unfold tR at h;subst h;exact⟨rfl,λj t p e=>by simp [gS.jl] at e⟩
 | .cons t r,ps,h=>by
  unfold tR at h;obtain⟨p,BG,rfl,h1,h2⟩:=h;obtain⟨a,b⟩:=tR.paired r h2;refine⟨by show r.jl.length+1=BG.length+1;omega,λj u q e1 e2=>?_⟩;cases j with
  | zero=>cases e1;cases e2;exact h1
  | succ j=>exact b j u q e1 e2
theorem Hl:∀(ts:gS)(t:Tr),t∈ts.jl->dp t<=xn ts
 | .nil,t,h=>by cases h
 | .cons u r,t,h=>by
  unfold xn;rcases bX.mp h with e | e
  .rw [e];omega
  have:=Hl r t e;omega
end
section
def pY {α β:Type}{F:α->β->Prop}{us:List α}{ts:List β}(p:Paired F us ts)(h:us≠[]):∃ug u gJ t,us=ug++[u]/\ts=gJ++[t]/\Paired F ug gJ/\F u t:=by
 have p2:=Paired.Fg p;have hr:us.reverse≠[]:=λz=>h (List.reverse_eq_nil_iff.mp z);generalize e1:us.reverse=Cp at p2 hr;generalize e2:ts.reverse=xg at p2;cases p2 with
 | nil=>exact absurd rfl hr
 | @cons u t IQ Sa a b =>
  refine⟨IQ.reverse,u,Sa.reverse,t,?_,?_,Paired.Fg b,a⟩
  .rw [<-List.reverse_reverse us,e1,qN]
  rw [<-List.reverse_reverse ts,e2,qN]
def xR {us:List V}{u:V}:(us++[u])[(us++[u]).length - 1]?=some u:=by
 rw [a9];simp
end
inductive Dd
 | step (z:Str)
 | make (k:Nat)
def Xg:Dd->List V
 | .step z=>[.str "step",.str z]
 | .make k=>[.str "make",.int (k:Int)]
mutual
def jL:Tr->List Dd
 | .w z=>[.step z]
 | .n k cs=>jY cs++[.make k]
def jY:gS->List Dd
 | .nil=>[]
 | .cons t r=>jL t++jY r
end
def B6 (k:Nat)(cs:gS):jL (.n k cs)=jY cs++[.make k]:=by rw [jL]
theorem oy:∀ts:gS,jY ts=ts.jl.flatMap jL
 | .nil=>by unfold jY;rfl
 | .cons t r=>by unfold jY;rw [oy r];rfl
mutual
theorem oA:∀t:Tr,(jL t).length=sz t
 | .w z=>by unfold jL sz;rfl
 | .n k cs=>by
  unfold jL sz;rw [a9,oz cs,gy];omega
theorem oz:∀ts:gS,(jY ts).length=EE ts
 | .nil=>by unfold jY EE;rfl
 | .cons t r=>by unfold jY EE;rw [a9,oA t,oz r]
end
theorem YZ:∀l:List Tr,l.length<=(l.map sz).sum
 | []=>aF _
 | x::r=>by
  have:=EF x;have:=YZ r;rw [cP,kK,dZ];omega
def gS.lP:List Tr->gS
 | []=>.nil
 | t::r=>.cons t (gS.lP r)
theorem vK:∀l:List Tr,(gS.lP l).jl=l
 | []=>rfl
 | t::r=>by show t::(gS.lP r).jl=t::r;rw [vK r]
theorem hZ.P0 {K:ba}{H:Hp}:∀{vs:List V}{ts:List Tr},Paired (λv t=>fX K H t v) vs ts->hZ K H (gS.lP ts) vs
 | _,_,.nil=>by unfold gS.lP hZ;rfl
 | _,_,.cons h p=>by unfold gS.lP hZ;exact⟨_,_,rfl,h,hZ.P0 p⟩
def sq (aa:List ar) (k:Nat):Option Str:=aa[k]?.map (·.1)
def gE (aa:List ar)(t:Tr)(part:Str):Bool:=match t with
 | .w z=>!decide (part∈hd aa) && decide (z=part)
 | .n k _=>decide (part∈hd aa) && decide (sq aa k=some part)
def i4 (aa:List ar):List Tr->List Str->Bool
 | [],[]=>true
 | t::ts,p::ps=>gE aa t p && i4 aa ts ps
 | _,_=>false
def fO (aa:List ar) (k:Nat)(e_:List Tr):Option (List Tr):=match aa[k]? with
 | none=>none
 | some ru=>if (decide (ru.2.length<=e_.length) && i4 aa (e_.drop (e_.length - ru.2.length)) ru.2)=true then some (e_.take (e_.length - ru.2.length)++[.n k (gS.lP (e_.drop (e_.length - ru.2.length)))]) else none
def Xf (aa:List ar)(e_:List Tr):Dd->Option (List Tr)
 | .step z=>some (e_++[.w z])
 | .make k=>fO aa k e_
def X7 (aa:List ar):Dd->Prop
 | .step z=>z∉hd aa
 | .make k=>k < aa.length
structure N5 (aa:List ar)(ds:List Dd)(e_:List Tr):Prop where
 is:∀t∈e_,∃x,Is aa t x
 dd:e_.flatMap jL=ds
def Ny {aa:List ar}{t:Tr}{x p:Str}(h:Is aa t x)(f:gE aa t p=true):Is aa t p:=by
 cases t with
 | w z =>
  unfold gE at f;have f2:=gF.mp f;unfold Is at h ⊢;have e:=c_ f2.2;exact⟨e.symm,h.2⟩
 | n k cs =>
  unfold gE at f;have f2:=gF.mp f;unfold Is at h ⊢;obtain⟨bq,e1,e2⟩:=h;have e:=c_ f2.2;unfold sq at e;rw [e1] at e;have e3:x=p:=by
   have:some x=some p:=e;injection this
  exact⟨bq,by rw [e1,e3],e2⟩
theorem sP {aa:List ar}:∀(ts:List Tr) (ps:List Str),(∀t∈ts,∃x,Is aa t x)->i4 aa ts ps=true->tR aa (gS.lP ts) ps
 | [],[],_,_=>by unfold gS.lP tR;rfl
 | [],_::_,_,f=>by cases f
 | _::_,[],_,f=>by cases f
 | t::ts,p::ps,h,f=>by
  have f2:=gF.mp (show (gE aa t p && i4 aa ts ps)=true from f);obtain⟨x,hx⟩:=h t cI;unfold gS.lP tR;exact⟨p,ps,rfl,Ny hx f2.1,sP ts ps (λu hu=>h u (dB _ hu)) f2.2⟩
def il {aa:List ar}{k:Nat}{e_ pX:List Tr}(e:fO aa k e_=some pX):∃ru,aa[k]?=some ru/\ru.2.length<=e_.length/\i4 aa (e_.drop (e_.length - ru.2.length)) ru.2=true/\pX=e_.take (e_.length - ru.2.length)++[.n k (gS.lP (e_.drop (e_.length - ru.2.length)))]:=by
 unfold fO at e;cases er:aa[k]? with
 | none=>rw [er] at e;cases e
 | some ru =>
  rw [er] at e;have e:(if (decide (ru.2.length<=e_.length) && i4 aa (e_.drop (e_.length - ru.2.length)) ru.2)=true then some (e_.take (e_.length - ru.2.length)++[.n k (gS.lP (e_.drop (e_.length - ru.2.length)))]) else none)=some pX:=e;by_cases c:(decide (ru.2.length<=e_.length) && i4 aa (e_.drop (e_.length - ru.2.length)) ru.2)=true
  .rw [ax c] at e;obtain⟨c1,c2⟩:=gF.mp c;exact⟨ru,rfl,c_ c1,c2,(iu e).symm⟩
  rw [ay c] at e;cases e
theorem N5.Xf {aa:List ar}{ds:List Dd}{e_ pX:List Tr}{d:Dd}(h:N5 aa ds e_)(hd2:X7 aa d)(e:hV.Xf aa e_ d=some pX):N5 aa (ds++[d]) pX:=by
 cases d with
 | step z =>
  cases (show some (e_++[Tr.w z])=some pX from e);refine⟨λt ht=>?_,?_⟩
  .rcases bR.mp ht with q | q
   .exact h.is t q
   rw [bF.mp q];exact⟨z,by unfold Is;exact⟨rfl,hd2⟩⟩
  rw [i6,h.dd];simp [jL]
 | make k =>
  obtain⟨ru,er,le,fl,rfl⟩:=il (show fO aa k e_=some pX from e);refine⟨λt ht=>?_,?_⟩
  .rcases bR.mp ht with q | q
   .exact h.is t (i7 q)
   rw [bF.mp q];refine⟨ru.1,?_⟩;unfold Is;exact⟨ru.2,er,sP _ _ (λt ht=>h.is t (mW ht)) fl⟩
  rw [i6,zi,B6,oy,vK,<-lX,<-i6,pT,h.dd]
def N5.top {aa:List ar}{ds:List Dd}{e_:List Tr}(h:N5 aa ds e_){k:Nat}{cs:gS}(ht:Tr.n k cs∈e_):k < aa.length:=by
 obtain⟨x,hx⟩:=h.is _ ht;unfold Is at hx;obtain⟨bq,e,_⟩:=hx;exact(bu.mp e).1
def N5.nil {aa:List ar}:N5 aa [] []:=⟨λ_ h=>(by cases h),rfl⟩
def EI:Dd->List Str
 | .step z=>[z]
 | .make _=>[]
mutual
theorem qz:∀t:Tr,(jL t).flatMap EI=row t
 | .w z=>by unfold jL row;rfl
 | .n k cs=>by
  unfold jL row;rw [i6,xy cs];simp [EI]
theorem xy:∀ts:gS,(jY ts).flatMap EI=rows ts
 | .nil=>by unfold jY rows;rfl
 | .cons t r=>by unfold jY rows;rw [i6,qz t,xy r]
end
def jF (o:Option (List Tr)):Option Tr:=match o with
 | some [.n k cs]=>some (.n k cs)
 | _=>none
inductive De
 | d (x:Dd)
 | si (n:Int)
 | no
 | dn
def Yb (m:Nat)(xs:List V):Prop:=(∃z,xs=[.str z]/\z ≠ "done")\/(∃(z:Str) (y:Int),xs=[.str z,.int y]/\z ≠ "step" /\ z ≠ "make")\/∃y,xs=[.str "make",y]/\HR m y
def HZ (m:Nat)(H:Hp)(a:Addr):De->Prop
 | .d x=>H a=some (.tup (Xg x))
 | .si n=>H a=some (.tup [.str "step",.int n])
 | .no=>∃xs,H a=some (.tup xs)/\Yb m xs
 | .dn=>H a=some (.tup [.str "done"])
def HZ.keep {m:Nat}{H H':Hp}{a:Addr}(k:∀xs,H a=some (.tup xs)->H' a=some (.tup xs)):∀{d:De},HZ m H a d->HZ m H' a d
 | .d x,h=>k _ h
 | .si n,h=>k _ h
 | .no,⟨xs,h,b⟩=>⟨xs,k _ h,b⟩
 | .dn,h=>k _ h
def HZ.same {m:Nat}{H H':Hp}{a:Addr}(s:aA H H'){d:De}(h:HZ m H a d):HZ m H' a d:=h.keep λ_ z=>s _ _ z
abbrev lS (m:Nat)(H:Hp)(as:List Addr)(es:List De):Prop:=Paired (λa d=>HZ m H a d) as es
theorem lS.same {m:Nat}{H H':Hp}{as:List Addr}{es:List De}(h:lS m H as es)(s:aA H H'):lS m H' as es:=Paired.fc h λ_ _ z=>z.same s
def jI (aa:List ar):De->Prop
 | .d (.make k)=>k < aa.length
 | _=>True
def hz (aa:List ar):Str:=(hd aa).headD ""
def K4 {aa:List ar}(h:aa≠[]):hz aa∈hd aa:=by
 cases aa with
 | nil=>exact absurd rfl h
 | cons r rs =>
  have h1:r.1∈hd (r::rs):=n_ cI;unfold hz;cases e:hd (r::rs) with
  | nil=>rw [e] at h1;cases h1
  | cons a b=>exact cI
def sW (aa:List ar)(ts:List Tr):De->Option (List Tr)
 | .d x=>Xf aa ts x
 | .si _=>some (ts++[.w (hz aa)])
 | _=>none
def qa (aa:List ar)(ts:List Tr):De->Option (List Tr)
 | .d (.step z)=>if z∈hd aa then none else some (ts++[.w z])
 | .d (.make k)=>fO aa k ts
 | _=>none
def eZ (f:List Tr->De->Option (List Tr)):List De->List Tr->Option (List Tr)
 | [],p=>some p
 | d::r,p=>(f p d).bind (eZ f r)
theorem kQ (f:List Tr->De->Option (List Tr)):∀(ds es:List De)(p:List Tr),eZ f (ds++es) p=(eZ f ds p).bind (eZ f es)
 | [],es,p=>rfl
 | d::r,es,p=>by
  show (f p d).bind (eZ f (r++es))=((f p d).bind (eZ f r)).bind (eZ f es);cases f p d with
  | none=>rfl
  | some q=>exact kQ f r es q
def uw {f:List Tr->De->Option (List Tr)}{ds:List De}{i:Nat}{d:De}{p ts:List Tr}(e:ds[i]?=some d)(h:eZ f (ds.take i) p=some ts):eZ f (ds.take (i+1)) p=f ts d:=by
 rw [cQ,e];show eZ f (ds.take i++[d]) p=_;rw [kQ,h];show (f ts d).bind (eZ f [])=_;cases f ts d with
 | none=>rfl
 | some q=>rfl
def ux {f:List Tr->De->Option (List Tr)}{ds:List De}{i:Nat}{d:De}{p ts:List Tr}(e:ds[i]?=some d)(h:eZ f (ds.take i) p=some ts)(n:f ts d=none):eZ f ds p=none:=by
 have e1:ds=ds.take i++(d::ds.drop (i+1)):=by
  have li:=(bu.mp e).1;have e2:ds.drop i=d::ds.drop (i+1):=by
   rw [List.drop_eq_getElem_cons li]
   congr 1
   exact(bu.mp e).2
  rw [<-e2,pT]
 rw [e1,kQ,h];show (f ts d).bind _=none;rw [n];rfl
def Co (aa:List ar)(ts:List Tr):Prop:=∃h∈hd aa,Tr.w h∈ts
def jE {aa:List ar}{h p:Str}(hh:h∈hd aa):gE aa (.w h) p=false:=by
 show (!decide (p∈hd aa) && decide (h=p))=false;by_cases c:p∈hd aa
 .rw [bh c];rfl
 rw [b8 c,b8 (λ(e:h=p)=>c (e ▸ hh))];rfl
theorem sN {aa:List ar}:∀{ts:List Tr}{ps:List Str}{t:Tr},i4 aa ts ps=true->t∈ts->∃p∈ps,gE aa t p=true
 | [],_,_,_,h=>by cases h
 | _::_,[],_,f,_=>by cases f
 | a::ts,b::ps,t,f,h=>by
  have f2:=gF.mp (show (gE aa a b && i4 aa ts ps)=true from f);rcases bX.mp h with e | e
  .exact⟨b,cI,e ▸ f2.1⟩
  obtain⟨p,hp,q⟩:=sN f2.2 e;exact⟨p,dB _ hp,q⟩
def Hn {aa:List ar}{ts gJ:List Tr}{de:De}(h:Co aa ts)(e:sW aa ts de=some gJ):Co aa gJ:=by
 obtain⟨x,hx,hm⟩:=h;have app:∀u,Co aa (ts++[u]):=λu=>⟨x,hx,ib _ hm⟩;cases de with
 | d y =>
  cases y with
  | step z=>cases (show some (ts++[Tr.w z])=some gJ from e);exact app _
  | make k =>
   obtain⟨ru,er,le,fl,rfl⟩:=il (show fO aa k ts=some gJ from e);refine⟨x,hx,ib _ ?_⟩;rw [<-pT (ts.length - ru.2.length) ts] at hm;rcases bR.mp hm with q | q
   .exact q
   obtain⟨p,_,fp⟩:=sN fl q;rw [jE hx] at fp;cases fp
 | si n=>cases (show some (ts++[Tr.w (hz aa)])=some gJ from e);exact app _
 | no=>cases e
 | dn=>cases e
theorem pH {aa:List ar}:∀(ds:List De){ts:List Tr},Co aa ts->jF (eZ (sW aa) ds ts)=none
 | [],ts,⟨x,hx,hm⟩=>by
  show jF (some ts)=none
  match ts,hm with
  | [.w _],_=>rfl
  | [.n k cs],hm=>rcases bX.mp hm with q | q <;> cases q
  | .w _::_::_,_=>rfl
  | .n _ _::_::_,_=>rfl
 | d::r,ts,h=>by
  show jF ((sW aa ts d).bind (eZ (sW aa) r))=none;cases e:sW aa ts d with
  | none=>rfl
  | some q=>exact pH r (Hn h e)
theorem o_ {aa:List ar}(qI:aa≠[]):∀(ds:List De)(ts:List Tr),jF (eZ (sW aa) ds ts)=jF (eZ (qa aa) ds ts)
 | [],_=>rfl
 | d::r,ts=>by
  show jF ((sW aa ts d).bind (eZ (sW aa) r))=jF ((qa aa ts d).bind (eZ (qa aa) r));cases d with
  | d y =>
   cases y with
   | step z =>
    show jF (eZ (sW aa) r (ts++[.w z]))=jF ((if z∈hd aa then none else some (ts++[.w z])).bind (eZ (qa aa) r));by_cases c:z∈hd aa
    .rw [ax c];exact pH r ⟨z,c,fR _ cI⟩
    rw [ay c];exact o_ qI r _
   | make k =>
    show jF ((fO aa k ts).bind _)=jF ((fO aa k ts).bind _);cases fO aa k ts with
    | none=>rfl
    | some q=>exact o_ qI r q
  | si n =>
   show jF (eZ (sW aa) r (ts++[.w (hz aa)]))=none;exact pH r ⟨hz aa,K4 qI,fR _ cI⟩
  | no=>rfl
  | dn=>rfl
def qh (aa:List ar)(ts:List Tr):Prop:=∀t∈ts,(∃x,Is aa t x)\/∃h∈hd aa,t=.w h
def qh.nil {aa:List ar}:qh aa []:=λ_ h=>by cases h
def qh.make {aa:List ar}{ts gJ:List Tr}{k:Nat}(h:qh aa ts)(e:fO aa k ts=some gJ):qh aa gJ:=by
 obtain⟨ru,er,le,fl,rfl⟩:=il e;intro t ht;rcases bR.mp ht with q | q
 .exact h t (i7 q)
 rw [bF.mp q];refine .inl ⟨ru.1,?_⟩;unfold Is;refine⟨ru.2,er,sP _ _ (λt ht=>?_) fl⟩;rcases h t (mW ht) with w | ⟨x,hx,rfl⟩
 .exact w
 obtain⟨p,_,fp⟩:=sN fl ht;rw [jE hx] at fp;cases fp
def qh.push {aa:List ar}{ts:List Tr}(h:qh aa ts)(z:Str):qh aa (ts++[.w z]):=λt ht=>by
 rcases bR.mp ht with q | q
 .exact h t q
 rw [bF.mp q];by_cases c:z∈hd aa
 .exact .inr ⟨z,c,rfl⟩
 exact .inl ⟨z,by unfold Is;exact⟨rfl,c⟩⟩
theorem qh.sW {aa:List ar}{ts gJ:List Tr}{de:De}(h:qh aa ts)(e:hV.sW aa ts de=some gJ):qh aa gJ:=by
 cases de with
 | d y =>
  cases y with
  | step z=>cases (show some (ts++[Tr.w z])=some gJ from e);exact h.push z
  | make k=>exact h.make e
 | si n=>cases (show some (ts++[Tr.w (hz aa)])=some gJ from e);exact h.push _
 | no=>cases e
 | dn=>cases e
theorem qh.qa {aa:List ar}{ts gJ:List Tr}{de:De}(h:qh aa ts)(e:hV.qa aa ts de=some gJ):qh aa gJ:=by
 cases de with
 | d y =>
  cases y with
  | step z =>
   have e:(if z∈hd aa then none else some (ts++[Tr.w z]))=some gJ:=e;by_cases c:z∈hd aa
   .rw [ax c] at e;cases e
   rw [ay c] at e;cases e;exact h.push z
  | make k=>exact h.make e
 | si n=>cases e
 | no=>cases e
 | dn=>cases e
def qh.top {aa:List ar}{ts:List Tr}(h:qh aa ts){k:Nat}{cs:gS}(ht:Tr.n k cs∈ts):k < aa.length:=by
 rcases h _ ht with ⟨x,hx⟩ | ⟨x,_,e⟩
 .unfold Is at hx;obtain⟨bq,e,_⟩:=hx;exact(bu.mp e).1
 cases e
theorem qC {aa:List ar}{f:List Tr->De->Option (List Tr)}(hf:∀{ts gJ:List Tr}{de:De},qh aa ts->f ts de=some gJ->qh aa gJ):∀(ds:List De){ts gJ:List Tr},qh aa ts->eZ f ds ts=some gJ->qh aa gJ
 | [],ts,gJ,h,e=>by cases e;exact h
 | d::r,ts,gJ,h,e=>by
  have e:(f ts d).bind (eZ f r)=some gJ:=e;cases e1:f ts d with
  | none=>rw [e1] at e;cases e
  | some q=>rw [e1] at e;exact qC hf r (hf h e1) e
def resT (aa:List ar)(es:List De):Option Tr:=match es.getLast? with
 | some .dn=>jF (eZ (qa aa) es.dropLast [])
 | _=>none
abbrev vW:Stmt:=top 8
abbrev wb:Stmt:=top 9
abbrev v_:Stmt:=top 10
abbrev wa:Stmt:=top 11
abbrev rS:Stmt:=top 12
abbrev w_ (K:ba)(H:Hp)(us:List V)(ts:List Tr):Prop:=Paired (λv t=>fX K H t v) us ts
theorem w_.keep {K:ba}{H H':Hp}{us:List V}{ts:List Tr}(k:∀a xs,aS K H a xs->aS K H' a xs)(h:w_ K H us ts):w_ K H' us ts:=Paired.fc h λ_ t z=>fX.keep k t z
def j5 (H:Hp)(d:Addr)(aa:List ar):Prop:=∃kE,H d=some (.dK kE)/\∀z,(bw kE (Sum.inr z)).isSome=decide (z∈hd aa)
def j5.same {H H':Hp}{d:Addr}{aa:List ar}(h:j5 H d aa)(s:aA H H'):j5 H' d aa:=let ⟨kE,a,b⟩:=h;⟨kE,s _ _ a,b⟩
theorem j5.upd {H:Hp}{d P:Addr}{aa:List ar}{xs:List V}{o:HO}(h:j5 H d aa)(e:H P=some (.lst xs)):j5 (upd H P o) d aa:=let ⟨kE,a,b⟩:=h;⟨kE,by rw [aj (λz=>by rw [z,e] at a;cases a)];exact a,b⟩
section
def Bt (K:ba):Sp:=λvs H Q _=>∃(R d:Addr)(rs:List Addr)(aa:List ar)(v:V)(t:Tr)(part:Str),vs=[.ref R,.ref d,v,.str part]/\aH K H R (rs.map V.ref)/\bL K H rs aa/\j5 H d aa/\fX K H t v/\(∀k cs,t=.n k cs->k < aa.length)/\Q (.bl (gE aa t part)) H
def Jc:aK ["rules","heads","child","part"] ["rules","heads","child","part"] (av rS):=iN rfl rfl rfl rfl nofun
def FY (F:iC K "is_child" "is_child" rS f fd)(T:Txt mg):bS P w K mg base gp 1 f fd ["rules","heads","child","part"] (Bt K):=by
 refine F.ok Jc (λvs H Q E h=>?_) (λeY A outer s H vs Q E hr h=>?_)
 .obtain⟨R,d,rs,aa,v,t,part,rfl,_⟩:=h;rfl
 obtain⟨R,d,rs,aa,v,t,part,rfl,hR,cA,⟨kE,wL,hd2⟩,ht,hk,q⟩:=h;have hu:=gi hr;have VC:=Nat.lt_of_succ_lt hu;refine⟨_,ai (bJ (eK (jh hu (pv 3) (pv 1)))
   (ak (aN (kW (z7 (aD dq rfl T.Gs kI (ab (pv 2) (ab (hJ (v:=.ty "str") rfl T.str lB rfl) ag))))
    (kU (fA hU (aL aZ (aL bB (pv 0) (aL aZ (pv 2) ao (λ_ _=>rfl)) (λ_ _=>rfl)) ao (λ_ _=>rfl)) (pv 3) (bK _)))))) aQ)
  (ak (aN (fA (FD VC) (pv 2) (pv 3) (bK _)))),?_⟩
 nofun
 refine⟨_,rfl,_,rfl,d,_,rfl,cu.k (k:=Sum.inr part) wL,_,rfl,?_⟩;rw [hd2 part];refine cg (λc=>?_) (λc=>?_)
 .cases t with
  | w z =>
   unfold fX at ht;subst ht;have e:gE aa (.w z) part=false:=by
    unfold gE;rw [c];rfl
   rw [e] at q;refine⟨_,rfl,.str z,"str","str",true,rfl,.str z,eU,true,rfl,false,rfl,?_⟩;refine cU ?_;exact q
  | n k cs =>
   unfold fX at ht;obtain⟨a,p,us,rfl,ha,hp,_⟩:=ht;have lk:=hk k cs rfl;have er:aa[k]?=some aa[k]:=dH lk;obtain⟨r,err,p2,v1,v2⟩:=Paired.at_ cA k _ er;have u9:ke (rs.map V.ref) (k:Int)=some (.ref r):=b0 (by rw [bz,err];rfl);have e:gE aa (.n k cs) part=decide (V.str aa[k].1=V.str part):=by
    have eh:sq aa k=some aa[k].1:=by unfold sq;rw [er];rfl
    show (decide (part∈hd aa) && decide (sq aa k=some part))=_;rw [c,eh];rw [jo];by_cases h:aa[k].1=part
    .rw [bh (congrArg some h),bh (congrArg V.str h)]
    rw [b8 (λz=>h (iu z)),b8 (λz=>h (by injection z))]
   rw [e] at q;refine⟨_,rfl,.ref a,"tuple","str",false,rfl,.tup ha,wF,false,rfl,true,rfl,?_⟩;refine d8 ?_;exact⟨_,rfl,_,rfl,a,_,_,_,rfl,rfl,ha,rfl,R,_,_,_,rfl,rfl,hR,u9,r,_,_,_,rfl,rfl,v1,rfl,_,rfl,rfl,q⟩
 have c':decide (part∈hd aa)=false:=by simpa using c
 cases t with
 | w z =>
  unfold fX at ht;subst ht;have e:gE aa (.w z) part=decide (V.str z=V.str part):=by
   unfold gE;rw [c'];show (true && decide (z=part))=_;rw [jo];by_cases h:z=part
   .rw [bh h,bh (congrArg V.str h)]
   rw [b8 h,b8 (λy=>h (by injection y))]
  rw [e] at q;exact⟨_,rfl,_,rfl,part,rfl,.inl ⟨z,rfl,q⟩⟩
 | n k cs =>
  unfold fX at ht;obtain⟨a,p,us,rfl,ha,hp,_⟩:=ht;have e:gE aa (.n k cs) part=false:=by
   unfold gE;rw [c'];rfl
  rw [e] at q;exact⟨_,rfl,_,rfl,part,rfl,.inr ⟨a,_,rfl,ha,q⟩⟩
def xF (K:ba):Sp:=λvs H Q _=>∃(d Pl:Addr)(aa:List ar)(us:List V)(y:V),vs=[.ref d,.ref Pl,y]/\j5 H d aa/\H Pl=some (.lst us)/\us.length<=100000/\((∃z,y=.str z/\z∉hd aa/\Q (.bl true) (upd H Pl (.lst (us++[.str z]))))\/(∃z,y=.str z/\z∈hd aa/\Q (.bl false) H)\/∃n,y=.int n/\Q (.bl false) H)
def EX:aK ["heads","pile","word"] ["heads","pile","word"] (av v_):=iN rfl rfl rfl rfl nofun
def CP (F:iC K "do_step" "do_step" v_ f fd)(T:Txt mg):bS P w K mg base gp 1 f fd ["heads","pile","word"] (xF K):=by
 refine F.ok EX (λvs H Q E h=>?_) (λeY A outer s H vs Q E hr h=>?_)
 .obtain⟨d,Pl,aa,us,z,rfl,_⟩:=h;rfl
 obtain⟨d,Pl,aa,us,y,rfl,⟨kE,wL,hd2⟩,hP,hl,h⟩:=h;have hu:=gi hr;refine⟨_,ai (bJ (PW.pt (lZ (iF (eJ (aD dq rfl T.Gs kI (ab (pv 2) (ab (hJ (v:=.ty "str") rfl T.str lB rfl) ag)))))
   (jT (eK (jh hu (pv 2) (pv 0)))))) (ak (aN gb)) aQ)
  (ai (cJ (g_ gG gX gY bV (pv 1) (ab (pv 2) ag)))
  (ak (aN gb))),?_⟩
 nofun
 rcases h with ⟨z,rfl,hz,q⟩ | ⟨z,rfl,hz,q⟩ | ⟨n,rfl,q⟩
 .refine⟨_,rfl,.str z,"str","str",true,rfl,.str z,eU,true,rfl,?_⟩;refine cU ?_;refine⟨_,rfl,_,rfl,d,_,rfl,cu.k (k:=Sum.inr z) wL,_,rfl,?_⟩;rw [hd2 z,b8 hz];refine cU ?_;exact⟨_,rfl,.inl ⟨rfl,_,aH.of hP⟩,_,rfl,Pl,_,_,rfl,rfl,hP,bN ∅,q⟩
 .refine⟨_,rfl,.str z,"str","str",true,rfl,.str z,eU,true,rfl,?_⟩;refine cU ?_;refine⟨_,rfl,_,rfl,d,_,rfl,cu.k (k:=Sum.inr z) wL,_,rfl,?_⟩;rw [hd2 z,bh hz];refine d8 ?_;exact q
 refine⟨_,rfl,.int n,"int","str",false,rfl,.int n,kit_is,false,rfl,?_⟩;refine d8 ?_;exact q
theorem wQ {aa:List ar}:∀{ts:List Tr}{ps:List Str}{i:Nat}{t:Tr}{p:Str},i4 aa ts ps=true->ts[i]?=some t->ps[i]?=some p->gE aa t p=true
 | [],[],_,_,_,_,e,_=>by cases e
 | [],_::_,_,_,_,f,_,_=>by cases f
 | _::_,[],_,_,_,f,_,_=>by cases f
 | a::ts,b::ps,0,t,p,f,e1,e2=>by
  have f2:=gF.mp (show (gE aa a b && i4 aa ts ps)=true from f);cases e1;cases e2;exact f2.1
 | a::ts,b::ps,i+1,t,p,f,e1,e2=>by
  have f2:=gF.mp (show (gE aa a b && i4 aa ts ps)=true from f);exact wQ f2.2 e1 e2
theorem qK {aa:List ar}:∀{ts:List Tr}{ps:List Str},ts.length=ps.length->(∀(i:Nat) t p,ts[i]?=some t->ps[i]?=some p->gE aa t p=true)->i4 aa ts ps=true
 | [],[],_,_=>rfl
 | [],_::_,e,_=>by cases e
 | _::_,[],e,_=>by cases e
 | a::ts,b::ps,e,h=>by
  show (gE aa a b && i4 aa ts ps)=true;rw [h 0 a b rfl rfl,qK (Nat.succ.inj e) λi t p e1 e2=>h (i+1) t p e1 e2];rfl
end
theorem dC {α β:Type}{F:α->β->Prop}:∀{xs:List α}{ys:List β},Paired F xs ys->∀n,Paired F (xs.take n) (ys.take n)
 | _,_,_,0=>by rw [oP,oP];exact .nil
 | _,_,.nil,_+1=>.nil
 | _,_,.cons a b,n+1=>.cons a (dC b n)
theorem dD {α β:Type}{F:α->β->Prop}:∀{xs:List α}{ys:List β},Paired F xs ys->∀n,Paired F (xs.drop n) (ys.drop n)
 | _,_,h,0=>h
 | _,_,.nil,_+1=>.nil
 | _,_,.cons a b,n+1=>dD b n
def Cu {α:Type}{us:List α}{n:Nat}(h:n < us.length):us.take (n+1)=us.take n++[us[n]]:=by
 rw [cQ,dH h];rfl
section
structure X0 (K:ba)(H:Hp)(R d Pl:Addr)(rs:List Addr)(aa:List ar)(us:List V)(ts:List Tr):Prop where
 hR:H R=some (.lst (rs.map V.ref))
 cA:bL K H rs aa
 wL:j5 H d aa
 hP:H Pl=some (.lst us)
 pl:w_ K H us ts
 xl:us.length<=100000
 nR:R≠Pl
 sh:∀ru∈aa,ru.2.length<=8
 sr:aa.length<=1000
 top:∀j cs,Tr.n j cs∈ts->j < aa.length
def xG (K:ba):Sp:=λvs H Q _=>∃(R d Pl:Addr)(rs:List Addr)(aa:List ar)(us:List V)(ts:List Tr)(y:V),vs=[.ref R,.ref d,.ref Pl,y]/\X0 K H R d Pl rs aa us ts/\((HR aa.length y/\Q (.bl false) H)\/∃k:Nat,y=.int (k:Int)/\k < aa.length /\
 (∀H',cX Pl H H'->fO aa k ts=none->Q (.bl false) H')/\(∀H' ug gJ,cX Pl H H'->fO aa k ts=some gJ->H' Pl=some (.lst ug)->w_ K H' ug gJ->ug.length<=us.length+1->Q (.bl true) H'))
def rP:aK ["rules","heads","pile","number","children","part"] ["rules","heads","pile","number"] (av wa):=iN rfl rfl rfl rfl nofun
def CQ (F:iC K "do_make" "do_make" wa f fd)(T:Txt mg)(GB:aC P w K mg base 1 "is_number_below" ["number","many"] Bu)(GC:aC P w K mg base 1 "is_child" ["rules","heads","child","part"] (Bt K)):bS P w K mg base gp 2 f fd ["rules","heads","pile","number"] (xG K):=by
 refine F.ok rP (λvs H Q E h=>?_) (λeY A outer s H vs Q E hr h=>?_)
 .obtain⟨R,d,Pl,rs,aa,us,ts,k,rfl,_⟩:=h;rfl
 obtain⟨R,d,Pl,rs,aa,us,ts,y,rfl,M,h⟩:=h;refine⟨_,ai (bJ (iF (eJ (bp GB hr rfl (ab (pv 3) (ab (aD aG rfl T.len cZ (ab (pv 0) ag)) ag))))) (ak (aN gb)) aQ)
  (ai (az (i:=4) rP.nd rfl (bC rfl) (a_ ag))
  (ai (bM cq rfl (f_ (Mp (aL aZ (aL bB (pv 0) (pv 3) (λ_ _=>rfl)) ao (λ_ _=>rfl)))) (aq (i:=5) rP.nd rfl (bC rfl))
   (ai (bJ (PW.pt (lZ (iF (iW (pv 2) (λ_=>rfl))) (jT (iF (eJ (bp GC hr rfl (ab (pv 0) (ab (pv 1) (ab (aL bB (pv 2) (ka iE ao) (λ_ _=>rfl)) (ab (pv 5) ag)))))))))) (ak (aN gb)) aQ)
   (ak (cJ (g_ gG gX gY bV (pv 4) (ab (Fx gG PySem.F.slot_list_pop PySem.F.type_list_pop F8 (pv 2)) ag))))))
  (ai (cJ (g_ gG gX gY bV (pv 2) (ab (bo (ab (pv 3) (ab (bc dS rfl T.tup mY (ab (Jk (pv 4)) ag)) ag))) ag)))
  (ak (aN gb))))),?_⟩
 nofun
 have ll:=aU M.cA;rcases h with ⟨nn,q⟩ | ⟨k,rfl,lk,q0,q1⟩
 .refine⟨_,rfl,_,rfl,R,_,rfl,.inl (aH.of M.hR),y,rs.length,(by show [y,V.int ((rs.map V.ref).length:Int)]=_;rw [au]),.inr ⟨by rw [ll];exact nn,false,rfl,?_⟩⟩;refine d8 ?_;exact q
 have lp:=aU M.pl;have fw:=M.xl;have er:aa[k]?=some aa[k]:=dH lk;generalize iZ:aa[k]=ru at er;have h8:=M.sh ru (b_ er);obtain⟨r,err,p,v1,v2⟩:=Paired.at_ M.cA k ru er;have u9:ke (rs.map V.ref) (k:Int)=some (.ref r):=b0 (by rw [bz,err];rfl);refine⟨_,rfl,_,rfl,R,_,rfl,.inl (aH.of M.hR),_,(rs.map V.ref).length,rfl,.inl ⟨k,rfl,by rw [au];omega,true,rfl,?_⟩⟩;refine cU ?_;refine⟨rC,λC hC=>?_⟩;have s1:=af hC (.lst []);have YW:C≠Pl:=λz=>by rw [z,M.hP] at hC;cases hC
 have eC1:upd H C (.lst []) C=some (.lst []):=ae;generalize upd H C (.lst [])=H1 at s1 eC1;refine⟨_,rfl,_,rfl,R,_,_,_,rfl,rfl,aH.of (s1 _ _ M.hR),u9,r,_,_,_,rfl,rfl,s1.tup v1,rfl,p,_,rfl,s1.tup v2,λp2 oF=>?_⟩;have s2:=s1.trans (af oF (.tup (ru.2.map V.str).reverse));have B0:=af oF (.tup (ru.2.map V.str).reverse) _ _ eC1;have Rm:aS K (upd H1 p2 (.tup (ru.2.map V.str).reverse)) p2 (ru.2.map V.str).reverse:=aS.of ae;generalize upd H1 p2 (.tup (ru.2.map V.str).reverse)=H2 at s2 B0 Rm;rw [<-List.map_reverse] at Rm
 let Kq:Hp->Prop:=λH5=>cX Pl H H5/\aS K H5 p2 (ru.2.reverse.map V.str)
 have MN:∀{H5:Hp},Kq H5->∀a xs,aS K H a xs->aS K H5 a xs:=λkq a xs z=>by
  rcases z with (z | ⟨u,z⟩) | z
  .exact .inl (.inl (kq.1 _ _ (λy=>by rw [y,M.hP] at z;cases z) z))
  .exact .inl (.inr ⟨u,kq.1 _ _ (λy=>by rw [y,M.hP] at z;cases z) z⟩)
  exact .inr z
 have P4:∀gJ,fO aa k ts=some gJ->ru.2.length<=ts.length/\i4 aa (ts.drop (ts.length - ru.2.length)) ru.2=true:=λgJ e=>by
  obtain⟨Ie,e1,e2,e3,_⟩:=il e;rw [er] at e1;cases e1;exact⟨e2,e3⟩
 have none_of:(∀gJ,fO aa k ts≠some gJ)->fO aa k ts=none:=λh=>by
  cases e:fO aa k ts with
  | none=>rfl
  | some x=>exact absurd e (h x)
 refine⟨p2,rfl,⟨_,Rm⟩,?_⟩
 let qw:pL:=λi σ H5=>∃(y5:Option V),σ=[aM R,aM d,aM Pl,some (.int (k:Int)),aM C,y5]/\Kq H5/\i<=us.length/\H5 Pl=some (.lst (us.take (us.length - i)))/\H5 C=some (.lst (us.drop (us.length - i)).reverse) /\
  ∀(j:Nat) t x,j < i->ts[ts.length - 1 - j]?=some t->ru.2.reverse[j]?=some x->gE aa t x=true
 refine oq (xs:=ru.2.reverse.map V.str) qw ⟨none,rfl,⟨λb o _ hb=>s2 _ _ hb,Rm⟩,dX _,by rw [jM,cH];exact s2 _ _ M.hP,by rw [jM,oS];exact B0,λj _ _ h=>by omega⟩ ?_ ?_ ?_
 .rintro i σ H5 _ ⟨y5,rfl,kq,_⟩;exact kq.2
 .rintro i x σ H5 ex ⟨y5,rfl,kq,li,eP,eC,fa⟩
  ac_nf0
  rw [bz] at ex;obtain⟨x,S_,rfl⟩:=cD.mp ex;have lx:=(bu.mp S_).1;rw [qP] at lx;refine goN ?_
  ac_rfl
  refine⟨_,rfl,!(us.take (us.length - i)).isEmpty,.inl ⟨_,aH.of eP,rfl⟩,?_⟩;refine cg (λc=>?_) (λc=>?_)
  .have e0:us.take (us.length - i)=[]:=by
    cases hh:us.take (us.length - i) with
    | nil=>rfl
    | cons a b=>rw [hh] at c;cases c
   have l0:=congrArg List.length e0;rw [bQ,jq] at l0;refine q0 H5 kq.1 (none_of λgJ e=>?_);have:=(P4 gJ e).1;omega
  have ln:us.length - i≠0:=λz=>by rw [z,oP] at c;exact c rfl
  obtain⟨m,hm⟩:∃m,us.length - i=m+1:=⟨us.length - i - 1,∅⟩;have lm:m < us.length:=by omega
  have et:us.take (us.length - i)=us.take m++[us[m]]:=by rw [hm];exact Cu lm
  have em:us[m]?=some us[m]:=dH lm;have Rh:ts[m]?=some (ts[m]'∅):=dH ∅;obtain⟨u,eu,tv⟩:=Paired.at_ M.pl m _ Rh;rw [em] at eu;have eu:us[m]=u:=iu eu;generalize htm:ts[m]'∅=t0 at Rh tv;have T8:=fX.keep (MN kq) t0 tv;have atl:ke (us.take m++[u]) (-1)=some u:=Hy _ _;rw [et,eu] at eP;have tp:∀j cs,t0=.n j cs->j < aa.length:=λj cs e=>M.top j cs (e ▸ b_ Rh);refine⟨_,rfl,_,rfl,_,rfl,_,rfl,Pl,_,_,_,rfl,rfl,aH.of eP,atl,_,rfl,R,d,rs,aa,u,t0,x,rfl,aH.of (kq.1 _ _ M.nR M.hR),M.cA.keep (MN kq),?_,T8,tp,?_⟩
  .obtain⟨kE,a1,a2⟩:=M.wL;exact⟨kE,kq.1 _ _ (λz=>by rw [z,M.hP] at a1;cases a1) a1,a2⟩
  refine⟨_,rfl,?_⟩;refine cg (λc2=>?_) (λc2=>?_)
  .have OR:gE aa t0 x=false:=by simpa using c2
   refine q0 H5 kq.1 (none_of λgJ e=>?_);obtain⟨a1,a2⟩:=P4 gJ e;have a3:(ts.drop (ts.length - ru.2.length))[ru.2.length - 1 - i]?=some t0:=by
    rw [rg,<-Rh]
    congr 1
    omega
   have a4:ru.2[ru.2.length - 1 - i]?=some x:=by
    rw [vB lx] at S_;exact S_
   rw [wQ a2 a3 a4] at OR;cases OR
  have OR:gE aa t0 x=true:=by
   cases hh:gE aa t0 x with
   | true=>rfl
   | false=>rw [hh] at c2;exact absurd rfl c2
  have nPC:Pl≠C:=YW.symm;refine⟨_,rfl,.inl ⟨rfl,_,aH.of eC⟩,_,rfl,.inl ⟨rfl,_,aH.of eP⟩,Pl,_,u,rfl,rfl,eP,xR,?_⟩;rw [ue];have eC6:upd H5 Pl (.lst (us.take m)) C=some (.lst (us.drop (us.length - i)).reverse):=by rw [aj YW];exact eC
  refine⟨C,_,_,rfl,rfl,eC6,bN (by rw [qP,fg];omega),?_⟩;have Z3:us.length - (i+1)=m:=by omega
  have ed:(us.drop m).reverse=(us.drop (us.length - i)).reverse++[u]:=by
   rw [hm,List.drop_eq_getElem_cons lm,qN,eu]
  refine⟨_,rfl,⟨λb o nb hb=>?_,?_⟩,∅,?_,?_,λj t x2 hj e1 e2=>?_⟩
  .rw [aj (λz=>by rw [z,hC] at hb;cases hb),aj nb];exact kq.1 b o nb hb
  .exact a7 eC6 (a7 eP kq.2)
  .rw [Z3,aj nPC,ae]
  .rw [Z3,ae,ed]
  by_cases cj:j < i
  .exact fa j t x2 cj e1 e2
  have:j=i:=by omega
  subst this;rw [S_] at e2;cases e2;have e3:ts[ts.length - 1 - j]?=some t0:=by rw [<-Rh];congr 1;omega
  rw [e3] at e1;cases e1;exact OR
 rintro σ H5 ⟨y5,rfl,kq,li,eP,eC,fa⟩;rw [au,qP] at li eP eC fa;have fl:i4 aa (ts.drop (ts.length - ru.2.length)) ru.2=true:=qK (by rw [fg];omega) λi t x e1 e2=>by
  have l2:=(bu.mp e2).1;rw [rg] at e1;refine fa (ru.2.length - 1 - i) t x ∅ ?_ ?_
  .rw [<-e1];congr 1;omega
  rw [vB ∅,<-e2];congr 1;omega
 have mk:fO aa k ts=some (ts.take (ts.length - ru.2.length)++[.n k (gS.lP (ts.drop (ts.length - ru.2.length)))]):=by
  unfold fO;rw [er];show (if (decide (ru.2.length<=ts.length) && i4 aa (ts.drop (ts.length - ru.2.length)) ru.2)=true then _ else none)=_;rw [ax (by rw [fl,bh ∅];rfl)]
 refine⟨_,rfl,.inl ⟨rfl,_,aH.of eP⟩,_,rfl,_,rfl,C,_,rfl,aH.of eC,λL2 GY=>?_⟩;rw [List.reverse_reverse];have s6:=af GY (.lst (us.drop (us.length - ru.2.length)));have Hg:upd H5 L2 (.lst (us.drop (us.length - ru.2.length))) L2=some (.lst (us.drop (us.length - ru.2.length))):=ae;generalize upd H5 L2 (.lst (us.drop (us.length - ru.2.length)))=H6 at s6 Hg;refine⟨L2,_,rfl,.inl ⟨aH.of Hg,λt2 jm=>⟨iQ,λnd Il=>?_⟩⟩⟩;have s8:=s6.trans ((af jm (.tup (us.drop (us.length - ru.2.length)))).trans (af Il (.tup [.int (k:Int),.ref t2])));have vt:aS K (upd (upd H6 t2 (.tup (us.drop (us.length - ru.2.length)))) nd (.tup [.int (k:Int),.ref t2])) t2 (us.drop (us.length - ru.2.length)):=(af Il _).tup (aS.of ae);have vn:aS K (upd (upd H6 t2 (.tup (us.drop (us.length - ru.2.length)))) nd (.tup [.int (k:Int),.ref t2])) nd [.int (k:Int),.ref t2]:=aS.of ae;generalize upd (upd H6 t2 (.tup (us.drop (us.length - ru.2.length)))) nd (.tup [.int (k:Int),.ref t2])=H8 at s8 vt vn;have Th:=s8 _ _ eP;refine⟨Pl,_,_,rfl,rfl,Th,bN (by rw [bQ];omega),?_⟩;have kt:∀a xs,aS K H a xs->aS K (upd H8 Pl (.lst (us.take (us.length - ru.2.length)++[.ref nd]))) a xs:=λa xs z=>a7 Th (s8.tup (MN kq a xs z));have Ed:=w_.keep kt M.pl;refine q1 _ _ _ (λb o nb hb=>?_) mk ae ?_ (by rw [a9,bQ,gy];omega)
 .rw [aj nb];exact s8 _ _ (kq.1 b o nb hb)
 rw [<-lp];refine aW (dC Ed _) (.cons ?_ .nil);unfold fX;exact⟨nd,t2,us.drop (us.length - ru.2.length),rfl,a7 Th vn,a7 Th vt,hZ.P0 (dD Ed _)⟩
end
def Nz {z y:Str}(h:z≠y):uO (.str z) (.str y)=false:=by
 simp [uO,h]
def HZ.last {m:Nat}{H:Hp}{a:Addr}:∀{de:De},HZ m H a de->∃xs,H a=some (.tup xs)/\xs.all ie=true/\((de=.dn/\xs=[.str "done"])\/(de≠.dn/\Dw xs [.str "done"]=false))
 | .d (.step z),h=>⟨_,h,rfl,.inr ⟨(λe=>by cases e),by show (_ && false)=false;rw [oO]⟩⟩
 | .d (.make k),h=>⟨_,h,rfl,.inr ⟨(λe=>by cases e),by show (_ && false)=false;rw [oO]⟩⟩
 | .si n,h=>⟨_,h,rfl,.inr ⟨(λe=>by cases e),by show (_ && false)=false;rw [oO]⟩⟩
 | .no,⟨xs,h,b⟩=>by
  refine⟨xs,h,?_⟩;rcases b with ⟨z,rfl,hz⟩ | ⟨z,y,rfl,_,_⟩ | ⟨y,rfl,hn⟩
  .refine⟨rfl,.inr ⟨(λe=>by cases e),?_⟩⟩;show (uO (.str z) (.str "done") && true)=false;rw [Bool.and_true];exact Nz hz
  .exact⟨rfl,.inr ⟨(λe=>by cases e),by show (_ && false)=false;rw [oO]⟩⟩
  refine⟨?_,.inr ⟨(λe=>by cases e),by show (_ && false)=false;rw [oO]⟩⟩;rcases hn with ⟨n,rfl,_⟩ | ⟨t,rfl⟩ | ⟨z,rfl⟩ <;> rfl
 | .dn,h=>⟨_,h,rfl,.inl ⟨rfl,rfl⟩⟩
section
def xH (K:ba):Sp:=λvs H Q _=>∃(R d Pl a:Addr)(rs:List Addr)(aa:List ar)(us:List V)(ts:List Tr)(de:De),vs=[.ref R,.ref d,.ref Pl,.ref a]/\X0 K H R d Pl rs aa us ts/\HZ aa.length H a de/\jI aa de /\
 (∀H',cX Pl H H'->qa aa ts de=none->Q (.bl false) H')/\(∀H' ug gJ,cX Pl H H'->qa aa ts de=some gJ->H' Pl=some (.lst ug)->w_ K H' ug gJ->ug.length<=us.length+1->Q (.bl true) H')
def EY:aK ["rules","heads","pile","deed"] ["rules","heads","pile","deed"] (av wb):=iN rfl rfl rfl rfl nofun
def CS (F:iC K "do_deed" "do_deed" wb f fd)(T:Txt mg)(GS:aC P w K mg base 2 "do_step" ["heads","pile","word"] (xF K))(GM:aC P w K mg base 2 "do_make" ["rules","heads","pile","number"] (xG K)):bS P w K mg base gp 3 f fd ["rules","heads","pile","deed"] (xH K):=by
 refine F.ok EY (λvs H Q E h=>?_) (λeY A outer s H vs Q E hr h=>?_)
 .obtain⟨R,d,Pl,a,rs,aa,us,ts,de,rfl,_⟩:=h;rfl
 obtain⟨R,d,Pl,a,rs,aa,us,ts,de,rfl,M,hv,ok,q0,q1⟩:=h;have fw:=M.xl;have same:cX Pl H H:=λ_ _ _ h=>h;refine⟨_,ai (bJ (aX uD (aD aG rfl T.len cZ (ab (pv 3) ag)) ao (bK _)) (ak (aN gb)) aQ)
  (ai (bJ (aX hU (aL aZ (pv 3) ao (λ_ _=>rfl)) bx (bK _)) (ak (aN (bp GS hr rfl (ab (pv 1) (ab (pv 2) (ab (aL aZ (pv 3) ao (λ_ _=>rfl)) ag)))))) aQ)
  (ak (aN (kW (fA hU (aL aZ (pv 3) ao (λ_ _=>rfl)) bx (bK _)) (kU (bp GM hr rfl (ab (pv 0) (ab (pv 1) (ab (pv 2) (ab (aL aZ (pv 3) ao (λ_ _=>rfl)) ag)))))))))),?_⟩
 nofun
 have one:∀{z:Str},H a=some (.tup [.str z])->qa aa ts de=none->∃x,([some (V.ref R),aM d,aM Pl,aM a]:St)[3]?=some (some x)/\True:=λ_ _=>⟨_,rfl,trivial⟩;cases de with
 | d y =>
  cases y with
  | step z =>
   have hv:aS K H a [.str "step",.str z]:=aS.of hv;refine⟨_,rfl,a,_,rfl,.inr hv,rfl,false,rfl,?_⟩;refine cU ?_;refine⟨_,rfl,a,_,_,_,rfl,rfl,hv,rfl,rfl,true,rfl,?_⟩;refine d8 ?_;by_cases c:z∈hd aa
   .refine⟨_,rfl,_,rfl,_,rfl,a,_,_,_,rfl,rfl,hv,rfl,d,Pl,aa,us,.str z,rfl,M.wL,M.hP,fw,.inr (.inl ⟨z,rfl,c,?_⟩)⟩;exact q0 H same (show (if z∈hd aa then none else some (ts++[Tr.w z]))=_ from ax c)
   refine⟨_,rfl,_,rfl,_,rfl,a,_,_,_,rfl,rfl,hv,rfl,d,Pl,aa,us,.str z,rfl,M.wL,M.hP,fw,.inl ⟨z,rfl,c,?_⟩⟩;refine q1 _ _ (ts++[.w z]) (λb o nb hb=>by rw [aj nb];exact hb) (show (if z∈hd aa then none else some (ts++[Tr.w z]))=_ from ay c) ae ?_ (by rw [a9];simp);refine aW (w_.keep (λ_ _ z=>a7 M.hP z) M.pl) (.cons ?_ .nil);unfold fX;rfl
  | make k =>
   have hv:aS K H a [.str "make",.int (k:Int)]:=aS.of hv;refine⟨_,rfl,a,_,rfl,.inr hv,rfl,false,rfl,?_⟩;refine cU ?_;refine⟨_,rfl,a,_,_,_,rfl,rfl,hv,rfl,rfl,false,rfl,?_⟩;refine cU ?_;refine⟨_,rfl,a,_,_,_,rfl,rfl,hv,rfl,rfl,true,rfl,?_⟩;refine d8 ?_;exact⟨_,rfl,_,rfl,_,rfl,_,rfl,a,_,_,_,rfl,rfl,hv,rfl,R,d,Pl,rs,aa,us,ts,_,rfl,M,.inr ⟨k,rfl,ok,q0,q1⟩⟩
 | si n =>
  have hv:aS K H a [.str "step",.int n]:=aS.of hv;refine⟨_,rfl,a,_,rfl,.inr hv,rfl,false,rfl,?_⟩;refine cU ?_;refine⟨_,rfl,a,_,_,_,rfl,rfl,hv,rfl,rfl,true,rfl,?_⟩;refine d8 ?_;refine⟨_,rfl,_,rfl,_,rfl,a,_,_,_,rfl,rfl,hv,rfl,d,Pl,aa,us,.int n,rfl,M.wL,M.hP,fw,.inr (.inr ⟨n,rfl,?_⟩)⟩;exact q0 H same rfl
 | no =>
  obtain⟨xs,hv,bd⟩:=hv;have hv:aS K H a xs:=aS.of hv;rcases bd with ⟨z,rfl,_⟩ | ⟨z,y,rfl,n1,n2⟩ | ⟨y,rfl,hn⟩
  .refine⟨_,rfl,a,_,rfl,.inr hv,rfl,true,rfl,?_⟩;refine d8 ?_;exact q0 H same rfl
  .refine⟨_,rfl,a,_,rfl,.inr hv,rfl,false,rfl,?_⟩;refine cU ?_;refine⟨_,rfl,a,_,_,_,rfl,rfl,hv,rfl,rfl,false,?_,?_⟩
   .show V.bl (decide (V.str z=V.str "step"))=V.bl false;rw [b8 λe=>n1 (by injection e)]
   refine cU ?_;refine⟨_,rfl,a,_,_,_,rfl,rfl,hv,rfl,rfl,false,?_,?_⟩
   .show V.bl (decide (V.str z=V.str "make"))=V.bl false;rw [b8 λe=>n2 (by injection e)]
   refine cU ?_;have e:V.bl (decide (V.str z=V.str "make"))=V.bl false:=by rw [b8 λe=>n2 (by injection e)]
   first
    | exact q0 H same rfl
    | (rw [e];exact q0 H same rfl)
    | (show Q (V.bl (decide (V.str z=V.str "make"))) H;rw [e];exact q0 H same rfl)
  refine⟨_,rfl,a,_,rfl,.inr hv,rfl,false,rfl,?_⟩;refine cU ?_;refine⟨_,rfl,a,_,_,_,rfl,rfl,hv,rfl,rfl,false,rfl,?_⟩;refine cU ?_;refine⟨_,rfl,a,_,_,_,rfl,rfl,hv,rfl,rfl,true,rfl,?_⟩;refine d8 ?_;exact⟨_,rfl,_,rfl,_,rfl,_,rfl,a,_,_,_,rfl,rfl,hv,rfl,R,d,Pl,rs,aa,us,ts,_,rfl,M,.inl ⟨hn,q0 H same rfl⟩⟩
 | dn =>
  have hv:aS K H a [.str "done"]:=aS.of hv;refine⟨_,rfl,a,_,rfl,.inr hv,rfl,true,rfl,?_⟩;refine d8 ?_;exact q0 H same rfl
def uS (l:List Addr)(n:Addr):d_ ((l++[n]).map V.ref) (some (-1)) none=[V.ref n]:=by
 unfold d_;have h1:HT.gA ((l++[n]).map V.ref).length 0 (some (-1))=l.length:=by
  rw [au,a9,gy];show (if (-1:Int) < 0 then ((-1:Int)+((l.length+1:Nat):Int)).toNat else min (-1:Int).toNat (l.length+1))=l.length;rw [ax nofun];omega
 rw [h1,HT.gH,<-oM,List.drop_append_of_le_length (aF _),oS,pQ];rw [au,a9,gy,show l.length+1 - l.length=1 by omega];rfl
def uT (l:List Addr)(n:Addr):d_ ((l++[n]).map V.ref) none (some (-1))=l.map V.ref:=by
 unfold d_;have h1:HT.gA ((l++[n]).map V.ref).length ((l++[n]).map V.ref).length (some (-1))=l.length:=by
  rw [au,a9,gy];show (if (-1:Int) < 0 then ((-1:Int)+((l.length+1:Nat):Int)).toNat else min (-1:Int).toNat (l.length+1))=l.length;rw [ax nofun];omega
 rw [h1,HT.gH,ml,jM,<-mS,pV (aF _),cH]
def xB (K:ba):Sp:=λvs H Q _=>∃(R L:Addr)(rs as:List Addr)(aa:List ar)(es:List De),vs=[.ref R,.ref L]/\H R=some (.lst (rs.map V.ref))/\bL K H rs aa/\(∀ru∈aa,ru.2.length<=8)/\aa.length<=1000/\aH K H L (as.map V.ref)/\lS aa.length H as es/\(∀d∈es,jI aa d)/\es.length<=90000 /\
 ∀H',aA H H'->(resT aa es=none->Q .fh H')/\∀t v,resT aa es=some t->fX K H' t v->Q v H'
def nF:aK ["rules","deeds","heads","pile","deed"] ["rules","deeds"] (av vW):=iN rfl rfl rfl rfl nofun
def CK (F:iC K "tree_of" "tree_of" vW f fd)(T:Txt mg)(GH:aC P w K mg base 3 "heads_of" ["rules"] (jQ K))(GD:aC P w K mg base 3 "do_deed" ["rules","heads","pile","deed"] (xH K)):bS P w K mg base gp 4 f fd ["rules","deeds"] (xB K):=by
 refine F.ok nF (λvs H Q E h=>?_) (λeY A outer s H vs Q E hr h=>?_)
 .obtain⟨R,L,rs,as,aa,es,rfl,_⟩:=h;rfl
 obtain⟨R,L,rs,as,aa,es,rfl,hR,cA,h8,bE,hL,D0,J0,dl,q⟩:=h;have yi:=gi hr;refine⟨_,ai (bJ (aX (xV yi) (bZ dr (pv 1) (bT (ka iE ao)) du) (a_ (ab (bo (ab bx ag)) ag)) (bK _)) (ak (aN jf)) aQ)
  (ai (az (i:=2) nF.nd rfl (bC rfl) (bc (dW rfl) rfl T.AR gk (ab (bD ["head"] [] rfl (a8 (bp GH hr rfl (ab (pv 0) ag))) (br rfl rfl) nofun rfl nofun
   (λ_ _ _ _ _=>aq (i:=0) (show (["head"]:List Str).Nodup by decide +kernel) rfl (bC rfl)) (λ_ _ _ _ _=>b9) (λ_ _ _ _ _=>bo (ab (pv 0) (ab gb ag)))) ag)))
  (ai (az (i:=3) nF.nd rfl (bC rfl) (a_ ag))
  (ai (bM cq rfl (a8 (bZ dr (pv 1) du (bT (ka iE ao)))) (aq (i:=4) nF.nd rfl (bC rfl))
   (ak (bJ (iF (eJ (bp GD hr rfl (ab (pv 0) (ab (pv 2) (ab (pv 3) (ab (pv 4) ag))))))) (ak (aN jf)) aQ)))
  (ak (aN (rX (PW.pt (kS (aX hU (aD aG rfl T.len cZ (ab (pv 3) ag)) ao (bK _)) (i9 (iF (eJ (aD dq rfl T.Gs kI (ab (aL bB (pv 3) ao (λ_ _=>rfl)) (ab (hJ (v:=.ty "str") rfl T.str lB rfl) ag)))))))) (aL bB (pv 3) ao (λ_ _=>rfl)) jf)))))),?_⟩
 nofun
 refine⟨_,rfl,_,rfl,_,rfl,L,_,rfl,hL,λC1 Nn=>?_⟩;have Sz:=aU D0;by_cases ca:as=[]
 .subst ca;have ee:es=[]:=zk.mp Sz.symm;subst ee;have s1:=af Nn (.lst (d_ (([]:List Addr).map V.ref) (some (-1)) none));have e1:upd H C1 (.lst (d_ (([]:List Addr).map V.ref) (some (-1)) none)) C1=some (.lst []):=ae;generalize upd H C1 (.lst (d_ (([]:List Addr).map V.ref) (some (-1)) none))=H1 at s1 e1;refine⟨qi,λt1 BR=>⟨qi,λC2 y_=>?_⟩⟩;have k3:=(af BR (.tup [V.str "done"])).trans (af y_ (.lst [V.ref t1]));have et:aS K (upd (upd H1 t1 (.tup [V.str "done"])) C2 (.lst [V.ref t1])) t1 [.str "done"]:=(af y_ _).tup (aS.of ae);have B0:upd (upd H1 t1 (.tup [V.str "done"])) C2 (.lst [V.ref t1]) C2=some (.lst [V.ref t1]):=ae;generalize upd (upd H1 t1 (.tup [V.str "done"])) C2 (.lst [V.ref t1])=H3 at k3 et B0;refine⟨C1,C2,_,t1,_,rfl,rfl,aH.of (k3 _ _ e1),aH.of B0,et,rfl,.inl ⟨rfl,true,rfl,?_⟩⟩;refine d8 ?_;exact(q H3 (s1.trans k3)).1 rfl
 obtain⟨Ek,a0,AJ,e0,rfl,rfl,DP,TY⟩:=pY D0 ca;rw [uS];obtain⟨TR,K5,WB,NT⟩:=TY.last;have s1:=af Nn (.lst [V.ref a0]);have e1:upd H C1 (.lst [V.ref a0]) C1=some (.lst [V.ref a0]):=ae;generalize upd H C1 (.lst [V.ref a0])=H1 at s1 e1;refine⟨qi,λt1 BR=>⟨qi,λC2 y_=>?_⟩⟩;have na:a0≠t1:=λz=>by rw [<-z,s1 _ _ K5] at BR;cases BR
 have k3:=(af BR (.tup [V.str "done"])).trans (af y_ (.lst [V.ref t1]));have et:aS K (upd (upd H1 t1 (.tup [V.str "done"])) C2 (.lst [V.ref t1])) t1 [.str "done"]:=(af y_ _).tup (aS.of ae);have B0:upd (upd H1 t1 (.tup [V.str "done"])) C2 (.lst [V.ref t1]) C2=some (.lst [V.ref t1]):=ae;generalize upd (upd H1 t1 (.tup [V.str "done"])) C2 (.lst [V.ref t1])=H3 at k3 et B0;have s3:=s1.trans k3;refine⟨C1,C2,_,t1,_,rfl,rfl,aH.of (k3 _ _ e1),aH.of B0,et,rfl,.inr ⟨a0,TR,rfl,na,aS.of (s3 _ _ K5),WB,_,rfl,?_⟩⟩;rcases NT with ⟨rfl,rfl⟩ | ⟨nd,NT⟩
 rotate_left
 .rw [NT];refine d8 ?_;refine(q H3 s3).1 ?_;unfold resT;rw [rq,xp];cases e0 with
  | dn=>exact absurd rfl nd
  | d x=>rfl
  | si n=>rfl
  | no=>rfl
 refine cU ?_;have q2:∀H',aA H H'->(jF (eZ (qa aa) AJ [])=none->Q .fh H')/\∀t v,jF (eZ (qa aa) AJ [])=some t->fX K H' t v->Q v H':=λH' s=>by
  have:=q H' s;unfold resT at this;rw [rq,xp,ue] at this;exact this
 have NO:∀d∈AJ,jI aa d:=λd h=>J0 d (ib _ h);have dl0:AJ.length<=90000:=by rw [a9] at dl;omega
 have R3:=s3 _ _ hR;have UD:=cA.same s3;refine⟨_,rfl,R,rs,aa,rfl,aH.of R3,UD,bE,λD1 H4 f4 s4 e4=>?_⟩;have JG:=iP (aa.map (·.1)) [];simp only [jq,au] at JG;refine⟨D1,rfl,⟨_,aH.of e4⟩,λD2 jc=>qc (aH.of e4) ∅ jc λtz H5 s5 e5 p5=>?_⟩;have kp:Paired (λt (kv:aR×V)=>aS K H5 t [kV kv.1,kv.2]) tz ((hd aa).map λh=>((Sum.inr h:aR),V.bl true)):=cy p5 λ_ _ z=>z;refine⟨D2,tz,_,rfl,e5,kp,λd tQ=>?_⟩;have Qa:∀z,(bw (di ((hd aa).map λh=>((Sum.inr h:aR),V.bl true)) []) (Sum.inr z)).isSome=decide (z∈hd aa):=λz=>by
  rw [ng];by_cases c:z∈hd aa
  .rw [ax c,bh c];rfl
  rw [ay c,b8 c];rfl
 generalize di ((hd aa).map λh=>((Sum.inr h:aR),V.bl true)) []=kE at Qa;have s6:=(s4.trans s5).trans (af tQ (.dK kE));have Lh:upd H5 d (.dK kE) d=some (.dK kE):=ae;generalize upd H5 d (.dK kE)=H6 at s6 Lh;have E_:=s3.trans s6;refine⟨rC,λPl Q7=>?_⟩;have k7:=af Q7 (.lst []);have W4:upd H6 Pl (.lst []) Pl=some (.lst []):=ae;have ZT:H Pl=none:=E_.free Q7;have nRP:R≠Pl:=λz=>by rw [z,ZT] at hR;cases hR
 have Sw:d≠Pl:=λz=>by rw [z,Q7] at Lh;cases Lh
 generalize upd H6 Pl (.lst [])=H7 at k7 W4;have Ic:=E_.trans k7;refine⟨_,rfl,_,rfl,_,rfl,L,_,rfl,Ic.seq hL,λC3 JT=>?_⟩;rw [uT];have k8:=af JT (.lst (Ek.map V.ref));have Hi:upd H7 C3 (.lst (Ek.map V.ref)) C3=some (.lst (Ek.map V.ref)):=ae;have U_:C3≠Pl:=λz=>by rw [z,W4] at JT;cases JT
 generalize upd H7 C3 (.lst (Ek.map V.ref))=H8 at k8 Hi;have s08:=Ic.trans k8;have WX:=k8 _ _ (k7 _ _ Lh);have Vk:=aU DP;refine⟨C3,rfl,⟨_,aH.of Hi⟩,?_⟩
 let qw:pL:=λi σ H9=>∃(us:List V)(ts:List Tr)(y4:Option V),σ=[aM R,aM L,aM d,aM Pl,y4]/\aA H H9/\H9 C3=some (.lst (Ek.map V.ref))/\H9 d=some (.dK kE)/\H9 Pl=some (.lst us)/\w_ K H9 us ts/\eZ (qa aa) (AJ.take i) []=some ts/\us.length<=i
 refine cK (xs:=Ek.map V.ref) qw ⟨[],[],none,rfl,s08,Hi,WX,k8 _ _ W4,.nil,rfl,aF _⟩ ?_ ?_ ?_
 .rintro i σ H9 _ ⟨us,ts,y4,rfl,s9,Lk,_⟩;exact aH.of Lk
 .rintro i x σ H9 ex ⟨us,ts,y4,rfl,s9,Lk,NH,xm,Ed,pb,l9⟩
  ac_nf0
  rw [bz] at ex;obtain⟨a,ea,rfl⟩:=cD.mp ex;have li:=(bu.mp ea).1;obtain⟨de,JX⟩:∃de,AJ[i]?=some de:=⟨AJ[i]'∅,dH ∅⟩;obtain⟨a',Lj,va⟩:=Paired.at_ DP i de JX;rw [ea] at Lj;cases Lj;have UN:=NO de (b_ JX);have UM:=qC (λh e=>qh.qa h e) _ qh.nil pb;have M9:X0 K H9 R d Pl rs aa us ts:=⟨s9 _ _ hR,cA.same s9,⟨kE,NH,Qa⟩,xm,Ed,∅,nRP,h8,bE,λj cs h=>UM.top h⟩;refine goN ?_
  ac_nf
  have back:∀{HA:Hp},cX Pl H9 HA->aA H HA:=λsT b o hb=>sT b o (λz=>by rw [z,ZT] at hb;cases hb) (s9 b o hb);refine⟨_,rfl,_,rfl,_,rfl,_,rfl,R,d,Pl,a,rs,aa,us,ts,de,rfl,M9,va.same s9,UN,λHA sT e=>⟨false,rfl,?_⟩,λHA ug gJ sT e W5 UL l'=>⟨true,rfl,?_⟩⟩
  .refine d8 ?_;refine(q2 HA (back sT)).1 ?_;rw [ux JX pb e];rfl
  refine cU ?_;refine⟨ug,gJ,_,rfl,back sT,sT _ _ U_ Lk,sT _ _ Sw NH,W5,UL,?_,∅⟩;rw [uw JX pb,e]
 rintro σ H9 ⟨us,ts,y4,rfl,s9,Lk,NH,xm,Ed,pb,l9⟩;rw [au,Vk,cH] at pb;have lp:=aU Ed;have hq:=q2 H9 s9;rw [pb] at hq;refine⟨_,rfl,Pl,_,rfl,.inl (aH.of xm),rfl,decide (us.length=1),?_,?_⟩
 .show V.bl (decide (V.int (us.length:Int)=V.int 1))=V.bl (decide (us.length=1));by_cases h:us.length=1
  .rw [bh h,bh (by rw [h];rfl)]
  rw [b8 h,b8 (λy=>h (by injection y with y2;omega))]
 refine cg (λc=>?_) (λc=>?_)
 .have l1:=c_ c
  match us,ts,l1,lp,Ed,xm,hq with
  | [u],[t],_,_,.cons tv .nil,xm,hq =>
   have qM:ke [u] 0=some u:=b0 (j:=0) rfl;cases t with
   | w z =>
    unfold fX at tv;subst tv;refine⟨_,rfl,Pl,_,_,_,rfl,rfl,aH.of xm,qM,.str z,"str","str",true,rfl,.str z,eU,true,rfl,?_⟩;refine cU ?_;exact hq.1 rfl
   | n k cs =>
    have H_:=tv;unfold fX at H_;obtain⟨a,p,vs,rfl,ha,hp,_⟩:=H_;refine⟨_,rfl,Pl,_,_,_,rfl,rfl,aH.of xm,qM,.ref a,"tuple","str",false,rfl,.tup ha,wF,false,rfl,?_⟩;refine d8 ?_;exact⟨_,rfl,Pl,_,_,_,rfl,rfl,aH.of xm,qM,hq.2 _ _ rfl tv⟩
 have n1:us.length≠1:=λh=>c (bh h);refine cU ?_;refine hq.1 ?_
 match ts,lp with
 | [],_=>rfl
 | [t],lp=>exact absurd lp n1
 | a::_::_,_=>cases a <;> rfl
end
abbrev zH:Stmt:=top 59
abbrev zL:Stmt:=top 60
def PvV (K:ba)(H:Hp)(aa:List ar)(t:Tr)(v:V):Prop:=fX K H t v\/∃(n:Int)(h:Str),v=.int n/\t=.w h/\h∈hd aa
abbrev lD (K:ba)(H:Hp)(aa:List ar)(us:List V)(ts:List Tr):Prop:=Paired (λv t=>PvV K H aa t v) us ts
theorem lD.keep {K:ba}{H H':Hp}{aa:List ar}{us:List V}{ts:List Tr}(k:∀a xs,aS K H a xs->aS K H' a xs)(h:lD K H aa us ts):lD K H' aa us ts:=Paired.fc h λ_ t z=>z.imp (λy=>fX.keep k t y) id
theorem Fl {K:ba}{H:Hp}{aa:List ar}:∀{vs:List V}{ts:List Tr}{ps:List Str},lD K H aa vs ts->i4 aa ts ps=true->Paired (λv t=>fX K H t v) vs ts
 | _,_,_,.nil,_=>.nil
 | _,_,[],.cons _ _,f=>by cases f
 | _,_,p::ps,.cons a b,f=>by
  have f2:=gF.mp (show (gE aa _ p && i4 aa _ ps)=true from f);refine .cons ?_ (Fl b f2.2);rcases a with a | ⟨n,h,_,e,hh⟩
  .exact a
  rw [e,jE hh] at f2;cases f2.1
section
def Bj:Sp:=λvs H Q _=>∃(y:V),vs=[y]/\((∃n:Int,y=.int n/\Q (.bl true) H)\/(((∃t,y=.bl t)\/∃z,y=.str z)/\Q (.bl false) H))
def IW:aK ["_law_thing"] ["_law_thing"] (av zH):=iN rfl rfl rfl rfl nofun
def FH (F:iC K "_law_whole" "_law_whole" zH f fd)(T:Txt mg):bS P w K mg base gp 1 f fd ["_law_thing"] Bj:=by
 refine F.ok IW (λvs H Q E h=>?_) (λeY A outer s H vs Q E hr h=>?_)
 .obtain⟨n,rfl,_⟩:=h;rfl
 obtain⟨y,rfl,h⟩:=h;refine⟨_,ak (aN (kW (aD dq rfl T.Gs kI (ab (pv 0) (ab (hJ (v:=.ty "int") rfl T.int PyProof.Rows.boot_int rfl) ag)))
  (kU (z7 (aD dq rfl T.Gs kI (ab (pv 0) (ab (hJ (v:=.ty "bool") rfl T.boo PyProof.Rows.boot_bool rfl) ag))))))),?_⟩
 dsimp only [yz];rcases h with ⟨n,rfl,q⟩ | ⟨⟨t,rfl⟩ | ⟨z,rfl⟩,q⟩
 .refine⟨_,rfl,.int n,"int","int",true,rfl,.int n,eU,true,rfl,?_⟩;refine d8 ?_;exact⟨_,rfl,.int n,"int","bool",false,rfl,.int n,Ar,false,rfl,q⟩
 .refine⟨_,rfl,.bl t,"bool","int",true,rfl,.bl t,Gk,true,rfl,?_⟩;refine d8 ?_;exact⟨_,rfl,.bl t,"bool","bool",true,rfl,.bl t,eU,true,rfl,q⟩
 refine⟨_,rfl,.str z,"str","int",false,rfl,.str z,Gh,false,rfl,?_⟩;refine cU ?_;exact q
def DJ (us:List V) (n:Nat)(h:n<=us.length):d_ us none (some (n:Int))=us.take n:=by
 unfold d_;rw [HT.gH,HT.g6,ml,jM,mr h]
def DK (us:List V) (n:Nat)(h:n<=us.length):d_ us (some (n:Int)) none=us.drop n:=by
 unfold d_;rw [HT.gH,HT.g6,mr h,mX (by rw [fg];exact aF _)]
structure RP (K:ba)(H:Hp)(R N Pl:Addr)(rs:List Addr)(aa:List ar)(us:List V)(ts:List Tr):Prop where
 hR:aH K H R (rs.map V.ref)
 cA:bL K H rs aa
 hN:H N=some (.lst ((hm aa).map V.str))
 hP:H Pl=some (.lst us)
 pl:lD K H aa us ts
 xl:us.length<=100000
 ne:aa≠[]
 sh:∀ru∈aa,ru.2.length<=8
 sr:aa.length<=1000
 top:∀j cs,Tr.n j cs∈ts->j < aa.length
theorem RP.same {H H':Hp}{R N Pl:Addr}{rs:List Addr}{aa:List ar}{us:List V}{ts:List Tr}(h:RP K H R N Pl rs aa us ts)(s:aA H H'):RP K H' R N Pl rs aa us ts :=
 ⟨s.seq h.hR,h.cA.same s,s _ _ h.hN,s _ _ h.hP,lD.keep (λ_ _ z=>s.tup z) h.pl,h.xl,h.ne,h.sh,h.sr,h.top⟩
def Bm (K:ba):Sp:=λvs H Q _=>∃(R N Pl a:Addr)(rs:List Addr)(aa:List ar)(us:List V)(ts:List Tr)(de:De),vs=[.ref R,.ref N,.ref Pl,.ref a]/\RP K H R N Pl rs aa us ts/\HZ aa.length H a de/\jI aa de /\
 (∀H',aA H H'->sW aa ts de=none->Q .fh H')/\(∀P' H' ug gJ,aA H H'->sW aa ts de=some gJ->H P'=none->H' P'=some (.lst ug)->lD K H' aa ug gJ->ug.length<=us.length+1->Q (.ref P') H')
def nI:aK ["_law_rules","_law_heads","_law_pile","_law_deed","_law_parts","_law_rest","_law_k","_law_child"] ["_law_rules","_law_heads","_law_pile","_law_deed"] (av zL):=iN rfl rfl rfl rfl nofun
def FN (F:iC K "_law_piled" "_law_piled" zL f fd)(T:Txt mg)(GW:aC P w K mg base 1 "_law_whole" ["_law_thing"] Bj):bS P w K mg base gp 2 f fd ["_law_rules","_law_heads","_law_pile","_law_deed"] (Bm K):=by
 refine F.ok nI (λvs H Q E h=>?_) (λeY A outer s H vs Q E hr h=>?_)
 .obtain⟨R,N,Pl,a,rs,aa,us,ts,de,rfl,_⟩:=h;rfl
 obtain⟨R,N,Pl,a,rs,aa,us,ts,de,rfl,M,hv,ok,q0,q1⟩:=h;have fw:=M.xl;have lp:=aU M.pl;refine⟨_,ai (bJ (PW.pt (lZ (aX uD (aD aG rfl T.len cZ (ab (pv 3) ag)) ao (bK _)) (jT (aX iM (aL aZ (pv 3) ao (λ_ _=>rfl)) (a_ (ab bx (ab bx ag))) rfl)))) (ak (aN jf)) aQ)
  (ai (bJ (aX hU (aL aZ (pv 3) ao (λ_ _=>rfl)) bx (bK _)) (ak (aN (aI dI (pv 2) (a_ (ab (aL aZ (pv 3) ao (λ_ _=>rfl)) ag))))) aQ)
  (ai (bJ (PW.pt (lZ (iF (eJ (bp GW hr rfl (ab (aL aZ (pv 3) ao (λ_ _=>rfl)) ag)))) (lZ (iF (Fm KH nV ao (aL aZ (pv 3) ao (λ_ _=>rfl)) (aD aG rfl T.len cZ (ab (pv 0) ag))))
    (jT (aX xX (aD aG rfl T.len cZ (ab (aL aZ (aL bB (pv 0) (aL aZ (pv 3) ao (λ_ _=>rfl)) (λ_ _=>rfl)) ao (λ_ _=>rfl)) ag)) (aD aG rfl T.len cZ (ab (pv 2) ag)) (bK _)))))) (ak (aN jf)) aQ)
  (ai (az (i:=4) nI.nd rfl (bC rfl) (aL aZ (aL bB (pv 0) (aL aZ (pv 3) ao (λ_ _=>rfl)) (λ_ _=>rfl)) ao (λ_ _=>rfl)))
  (ai (az (i:=5) nI.nd rfl (bC rfl) (aI mC (aD aG rfl T.len cZ (ab (pv 2) ag)) (aD aG rfl T.len cZ (ab (pv 4) ag))))
  (ai (bM cq rfl (gO rfl T.CB (ab (aD aG rfl T.len cZ (ab (pv 4) ag)) ag)) (aq (i:=6) nI.nd rfl (bC rfl))
   (ai (az (i:=7) nI.nd rfl (bC rfl) (aL bB (pv 2) (aI dw (pv 5) (pv 6)) (λ_ _=>rfl)))
   (ak (bJ (aX lH (aL aZ (pv 4) (pv 6) (λ_ _=>rfl)) (pv 1) rfl)
    (ak (bJ (PW.pt (lZ (iF (eJ (aD dq rfl T.Gs kI (ab (pv 7) (ab (hJ (v:=.ty "tuple") rfl T.tup mY rfl) ag))))) (jT (aX uD (aL aZ (aL bB (pv 0) (aL aZ (pv 7) ao (λ_ _=>rfl)) (λ_ _=>rfl)) ao (λ_ _=>rfl)) (aL aZ (pv 4) (pv 6) (λ_ _=>rfl)) (bK _))))) (ak (aN jf)) aQ))
    (ak (bJ (PW.pt (lZ (iF (eJ (aD dq rfl T.Gs kI (ab (pv 7) (ab (hJ (v:=.ty "str") rfl T.str lB rfl) ag))))) (jT (aX uD (pv 7) (aL aZ (pv 4) (pv 6) (λ_ _=>rfl)) (bK _))))) (ak (aN jf)) aQ))))))
  (ak (aN (aI dI (bZ dr (pv 2) du (bT (pv 5))) (a_ (ab (bo (ab (aL aZ (pv 3) ao (λ_ _=>rfl)) (ab (bc dS rfl T.tup mY (ab (bZ dr (pv 2) (bT (pv 5)) du) ag)) ag))) ag)))))))))),?_⟩
 nofun
 cases de with
 | d y =>
  cases y with
  | step z =>
   have hv:aS K H a [.str "step",.str z]:=aS.of hv;refine⟨_,rfl,a,_,rfl,.inr hv,rfl,false,rfl,?_⟩;refine cU ?_;refine⟨_,rfl,a,_,_,_,rfl,rfl,hv,rfl,iQ,λL hL=>?_⟩;have s1:=af hL (.lst [V.str "step",V.str "make"]);refine⟨L,_,rfl,.inl (aH.of ae),rfl,rfl,false,nofun,?_⟩;refine cU ?_;generalize upd H L (.lst [V.str "step",V.str "make"])=H1 at s1;refine⟨_,rfl,a,_,_,_,rfl,rfl,s1.tup hv,rfl,rfl,true,rfl,?_⟩;refine d8 ?_;refine⟨_,rfl,_,rfl,a,_,_,_,rfl,rfl,s1.tup hv,rfl,qi,λL2 GY=>?_⟩;have s2:=s1.trans (af GY (.lst [V.str z]));have e2:upd H1 L2 (.lst [V.str z]) L2=some (.lst [V.str z]):=ae;generalize upd H1 L2 (.lst [V.str z])=H2 at s2 e2;refine⟨Pl,L2,_,_,rfl,rfl,s2 _ _ M.hP,e2,fits (by show us.length+1<=1000000;omega),λP' K9=>?_⟩;have s3:=s2.trans (af K9 (.lst (us++[V.str z])));refine q1 P' _ _ (ts++[.w z]) s3 rfl (s2.free K9) ae ?_ (by rw [a9];simp);refine aW (lD.keep (λ_ _ z=>s3.tup z) M.pl) (.cons (.inl (by unfold fX;rfl)) .nil)
  | make k =>
   have hv:aS K H a [.str "make",.int (k:Int)]:=aS.of hv;have lk:k < aa.length:=ok;refine⟨_,rfl,a,_,rfl,.inr hv,rfl,false,rfl,?_⟩;refine cU ?_;refine⟨_,rfl,a,_,_,_,rfl,rfl,hv,rfl,iQ,λL hL=>?_⟩;have s1:=af hL (.lst [V.str "step",V.str "make"]);refine⟨L,_,rfl,.inl (aH.of ae),rfl,rfl,false,nofun,?_⟩;refine cU ?_;generalize upd H L (.lst [V.str "step",V.str "make"])=H1 at s1;have C9:=s1.tup hv;have M1:=M.same s1;refine⟨_,rfl,a,_,_,_,rfl,rfl,C9,rfl,rfl,false,rfl,?_⟩;refine cU ?_;have ll:=aU M.cA;have er:aa[k]?=some aa[k]:=dH lk;generalize iZ:aa[k]=ru at er;have h8:=M.sh ru (b_ er);obtain⟨r,err,p,v1,v2⟩:=Paired.at_ M1.cA k ru er;have u9:ke (rs.map V.ref) (k:Int)=some (.ref r):=b0 (by rw [bz,err];rfl);have P4:∀gJ,sW aa ts (.d (.make k))=some gJ->ru.2.length<=ts.length/\i4 aa (ts.drop (ts.length - ru.2.length)) ru.2=true:=λgJ e=>by
    obtain⟨Ie,e1,e2,e3,_⟩:=il (show fO aa k ts=some gJ from e);rw [er] at e1;cases e1;exact⟨e2,e3⟩
   have none_of:(∀gJ,sW aa ts (.d (.make k))≠some gJ)->sW aa ts (.d (.make k))=none:=λh=>by
    cases e:sW aa ts (.d (.make k)) with
    | none=>rfl
    | some x=>exact absurd e (h x)
   refine⟨_,rfl,a,_,_,_,rfl,rfl,C9,rfl,_,rfl,.inl ⟨(k:Int),rfl,true,rfl,?_⟩⟩;refine cU ?_;refine⟨_,rfl,a,_,_,_,rfl,rfl,C9,rfl,_,_,rfl,rfl,_,rfl,?_⟩;refine cg (λ_=>?_) (λc=>absurd (bh ∅) c);refine⟨_,rfl,R,_,rfl,.inl M1.hR,_,_,rfl,rfl,true,?_,?_⟩
   .show V.bl (decide ((k:Int) < ((rs.map V.ref).length:Int)))=V.bl true;rw [au,bh ∅]
   refine cU ?_;refine⟨_,rfl,_,rfl,a,_,_,_,rfl,rfl,C9,rfl,R,_,_,_,rfl,rfl,M1.hR,u9,r,_,_,_,rfl,rfl,v1,rfl,p,_,rfl,.inr v2,_,rfl,Pl,_,rfl,.inl (aH.of M1.hP),_,_,rfl,rfl,_,rfl,?_⟩;refine cg (λc=>?_) (λc=>?_)
   .have c':=c_ c;rw [au] at c';refine q0 H1 s1 (none_of λgJ e=>?_);have:=(P4 gJ e).1;omega
   have c':¬(us.length:Int) < ((ru.2.map V.str).length:Int):=λz=>c (bh z);rw [au] at c';have lle:ru.2.length<=us.length:=by omega
   refine⟨_,rfl,_,rfl,a,_,_,_,rfl,rfl,C9,rfl,R,_,_,_,rfl,rfl,M1.hR,u9,r,_,_,_,rfl,rfl,v1,rfl,?_⟩;refine⟨_,rfl,Pl,_,rfl,.inl (aH.of M1.hP),_,rfl,p,_,rfl,.inr v2,_,_,rfl,rfl,?_⟩;have QM:(us.length:Int) - ((ru.2.map V.str).length:Int)=((us.length - ru.2.length:Nat):Int):=by rw [au];omega
   refine⟨_,rfl,p,_,rfl,.inr v2,((ru.2.map V.str).length:Int),rfl,by rw [au];omega,by rw [au];omega,?_⟩;rw [show (((ru.2.map V.str).length:Nat):Int).toNat=ru.2.length by rw [au];exact kC _];refine gQ (n:=ru.2.length) (λi σ H5=>∃(y6 y7:Option V),σ=[aM R,aM N,aM Pl,aM a,aM p,some (.int ((us.length - ru.2.length:Nat):Int)),y6,y7]/\aA H1 H5 /\
    ∀(j:Nat) t x,j < i->ts[us.length - ru.2.length+j]?=some t->ru.2[j]?=some x->gE aa t x=true) ⟨none,none,congrArg (λz:Int=>[some (V.ref R),aM N,aM Pl,aM a,aM p,some (.int z),none,none]) QM,aA.refl H1,λj _ _ h=>by omega⟩ ?_ ?_
   .intro i σ H5 hi jX
    ac_nf0
    obtain⟨y6,y7,rfl,s5,fa⟩:=jX;have M5:=M1.same s5;obtain⟨x,ex⟩:∃x,ru.2[i]?=some x:=⟨ru.2[i],dH hi⟩;have lt:us.length - ru.2.length+i < ts.length:=by omega
    have et:ts[us.length - ru.2.length+i]?=some (ts[us.length - ru.2.length+i]'lt):=dH lt;obtain⟨u,eu,tv⟩:=Paired.at_ M5.pl _ _ et;generalize ts[us.length - ru.2.length+i]'lt=t0 at et tv;have atu:ke us (((us.length - ru.2.length:Nat):Int)+(0+(i:Int)))=some u:=by
     rw [j6,show ((us.length - ru.2.length:Nat):Int)+(i:Int)=((us.length - ru.2.length+i:Nat):Int) by push_cast;rfl];exact b0 eu
    have XD:ke (ru.2.map V.str) (0+(i:Int))=some (.str x):=by
     rw [j6];exact b0 (by rw [bz,ex];rfl)
    have TZ:=s5.tup v2;have bad:gE aa t0 x=false->Q .fh H5:=λh=>q0 H5 (s1.trans s5) (none_of λgJ e=>by
     obtain⟨a1,a2⟩:=P4 gJ e;have a3:(ts.drop (ts.length - ru.2.length))[i]?=some t0:=by
      rw [rg,<-et]
      congr 1
      omega
     rw [wQ a2 a3 ex] at h;cases h)
    have good:gE aa t0 x=true->∃(y6' y7':Option V),[some (V.ref R),aM N,aM Pl,aM a,aM p,some (.int ((us.length - ru.2.length:Nat):Int)),some (.int (0+(i:Int))),some u]=[aM R,aM N,aM Pl,aM a,aM p,some (.int ((us.length - ru.2.length:Nat):Int)),y6',y7']/\aA H1 H5 /\
      ∀(j:Nat) t x,j < i+1->ts[us.length - ru.2.length+j]?=some t->ru.2[j]?=some x->gE aa t x=true:=λh=>⟨_,_,rfl,s5,λj t x2 hj e1 e2=>by
     by_cases cj:j < i
     .exact fa j t x2 cj e1 e2
     have:j=i:=by omega
     subst this;rw [et] at e1;rw [ex] at e2;cases e1;cases e2;exact h⟩
    refine goN ?_
    ac_rfl
    refine⟨_,rfl,_,rfl,_,rfl,_,_,rfl,rfl,Pl,_,_,_,rfl,rfl,aH.of M5.hP,atu,?_⟩;refine⟨_,rfl,_,rfl,p,_,_,_,rfl,rfl,TZ,XD,_,rfl,N,_,rfl,.inl (aH.of M5.hN),rfl,cV _,_,rfl,?_⟩;rw [fV];show if decide (x∈hm aa)=true then _ else _;refine cg (λch=>?_) (λch=>?_)
    .have Zg:decide (x∈hd aa)=true:=bh (kb.mp (c_ ch));cases t0 with
     | w z =>
      rcases tv with tv | ⟨n,h,rfl,e,hh⟩
      rotate_left
      .refine⟨_,rfl,.int n,"int","tuple",false,rfl,.int n,Gj,false,rfl,?_⟩;refine d8 ?_;exact bad (by rw [e];exact jE hh)
      unfold fX at tv;subst tv;refine⟨_,rfl,.str z,"str","tuple",false,rfl,.str z,Gi,false,rfl,?_⟩;refine d8 ?_;refine bad ?_;show (!decide (x∈hd aa) && decide (z=x))=false;rw [Zg];rfl
     | n k2 cs =>
      have Om:=M.top k2 cs (b_ et);replace tv:=tv.resolve_right λ⟨_,_,_,e,_⟩=>by cases e
      unfold fX at tv;obtain⟨a2,p3,vs,rfl,SV,hp3,_⟩:=tv;have G9:aa[k2]?=some aa[k2]:=dH Om;obtain⟨r2,WK,p4,w1,w2⟩:=Paired.at_ M5.cA k2 _ G9;have XF:ke (rs.map V.ref) (k2:Int)=some (.ref r2):=b0 (by rw [bz,WK];rfl);have ef:gE aa (.n k2 cs) x=decide (aa[k2].1=x):=by
       have eh:sq aa k2=some aa[k2].1:=by unfold sq;rw [G9];rfl
       show (decide (x∈hd aa) && decide (sq aa k2=some x))=_;rw [Zg,eh,jo];by_cases h:aa[k2].1=x
       .rw [bh (congrArg some h),bh h]
       rw [b8 (λz=>h (iu z)),b8 h]
      refine⟨_,rfl,.ref a2,"tuple","tuple",true,rfl,.tup SV,eU,true,rfl,?_⟩;refine cU ?_;refine⟨_,rfl,_,rfl,a2,_,_,_,rfl,rfl,SV,rfl,R,_,_,_,rfl,rfl,M5.hR,XF,r2,_,_,_,rfl,rfl,w1,rfl,_,rfl,_,rfl,p,_,_,_,rfl,rfl,TZ,XD,rfl,!decide (aa[k2].1=x),?_,?_⟩
      .show V.bl (!decide (V.str aa[k2].1=V.str x))=_;by_cases h:aa[k2].1=x
       .rw [bh h,bh (congrArg V.str h)]
       rw [b8 h,b8 (λy=>h (by injection y))]
      refine cg (λc3=>?_) (λc3=>?_)
      .exact bad (by rw [ef];simpa using c3)
      exact good (by rw [ef];simpa using c3)
    have P6:decide (x∈hd aa)=false:=b8 λh=>ch (bh (kb.mpr h));cases t0 with
    | w z =>
     rcases tv with tv | ⟨n,h,rfl,e,hh⟩
     rotate_left
     .refine⟨_,rfl,.int n,"int","str",false,rfl,.int n,kit_is,false,rfl,?_⟩;refine d8 ?_;exact bad (by rw [e];exact jE hh)
     unfold fX at tv;subst tv;have ef:gE aa (.w z) x=decide (z=x):=by
      show (!decide (x∈hd aa) && decide (z=x))=_;rw [P6];rfl
     refine⟨_,rfl,.str z,"str","str",true,rfl,.str z,eU,true,rfl,?_⟩;refine cU ?_;refine⟨_,rfl,_,rfl,_,rfl,p,_,_,_,rfl,rfl,TZ,XD,rfl,!decide (z=x),?_,?_⟩
     .show V.bl (!decide (V.str z=V.str x))=_;by_cases h:z=x
      .rw [bh h,bh (congrArg V.str h)]
      rw [b8 h,b8 (λy=>h (by injection y))]
     refine cg (λc3=>?_) (λc3=>?_)
     .exact bad (by rw [ef];simpa using c3)
     exact good (by rw [ef];simpa using c3)
    | n k2 cs =>
     replace tv:=tv.resolve_right λ⟨_,_,_,e,_⟩=>by cases e
     unfold fX at tv;obtain⟨a2,p3,vs,rfl,SV,hp3,_⟩:=tv;refine⟨_,rfl,.ref a2,"tuple","str",false,rfl,.tup SV,wF,false,rfl,?_⟩;refine d8 ?_;refine bad ?_;show (decide (x∈hd aa) && decide (sq aa k2=some x))=false;rw [P6];rfl
   rintro σ H5 ⟨y6,y7,rfl,s5,fa⟩;have M5:=M1.same s5;have lr:us.length - ru.2.length<=us.length:=by omega
   have fl:i4 aa (ts.drop (ts.length - ru.2.length)) ru.2=true:=qK (by rw [fg];omega) λi t x e1 e2=>by
    have l2:=(bu.mp e2).1;rw [rg,<-lp] at e1;exact fa i t x l2 e1 e2
   have mk:sW aa ts (.d (.make k))=some (ts.take (ts.length - ru.2.length)++[.n k (gS.lP (ts.drop (ts.length - ru.2.length)))]):=by
    show fO aa k ts=_;unfold fO;rw [er];show (if (decide (ru.2.length<=ts.length) && i4 aa (ts.drop (ts.length - ru.2.length)) ru.2)=true then _ else none)=_;rw [ax (by rw [fl,bh ∅];rfl)]
   have xM:=s1.trans s5;refine⟨_,rfl,_,rfl,_,rfl,Pl,_,rfl,aH.of M5.hP,λL1 OA=>?_⟩;rw [DJ us _ lr];have s6:=af OA (.lst (us.take (us.length - ru.2.length)));have e6:upd H5 L1 (.lst (us.take (us.length - ru.2.length))) L1=some (.lst (us.take (us.length - ru.2.length))):=ae;generalize upd H5 L1 (.lst (us.take (us.length - ru.2.length)))=H6 at s6 e6;refine⟨_,rfl,a,_,_,_,rfl,rfl,(s5.trans s6).tup C9,rfl,_,rfl,_,rfl,_,rfl,Pl,_,rfl,aH.of (s6 _ _ M5.hP),λL2 GY=>?_⟩;rw [DK us _ lr];have s7:=s6.trans (af GY (.lst (us.drop (us.length - ru.2.length))));have e67:=af GY (.lst (us.drop (us.length - ru.2.length))) _ _ e6;have e7:upd H6 L2 (.lst (us.drop (us.length - ru.2.length))) L2=some (.lst (us.drop (us.length - ru.2.length))):=ae;generalize upd H6 L2 (.lst (us.drop (us.length - ru.2.length)))=H7 at s7 e67 e7;refine⟨L2,_,rfl,.inl ⟨aH.of e7,λt2 jm=>⟨iQ,λnd Il=>⟨qi,λL3 Wn=>?_⟩⟩⟩⟩;have k9:=(af jm (.tup (us.drop (us.length - ru.2.length)))).trans ((af Il (.tup [.int (k:Int),.ref t2])).trans (af Wn (.lst [V.ref nd])));have vt:aS K (upd (upd (upd H7 t2 (.tup (us.drop (us.length - ru.2.length)))) nd (.tup [.int (k:Int),.ref t2])) L3 (.lst [V.ref nd])) t2 (us.drop (us.length - ru.2.length)):=((af Il _).trans (af Wn _)).tup (aS.of ae);have vn:aS K (upd (upd (upd H7 t2 (.tup (us.drop (us.length - ru.2.length)))) nd (.tup [.int (k:Int),.ref t2])) L3 (.lst [V.ref nd])) nd [.int (k:Int),.ref t2]:=(af Wn _).tup (aS.of ae);have e9:upd (upd (upd H7 t2 (.tup (us.drop (us.length - ru.2.length)))) nd (.tup [.int (k:Int),.ref t2])) L3 (.lst [V.ref nd]) L3=some (.lst [V.ref nd]):=ae;generalize upd (upd (upd H7 t2 (.tup (us.drop (us.length - ru.2.length)))) nd (.tup [.int (k:Int),.ref t2])) L3 (.lst [V.ref nd])=H9 at k9 vt vn e9;refine⟨L1,L3,_,_,rfl,rfl,k9 _ _ e67,e9,fits (by rw [bQ];show _+1<=1000000;omega),λP' K9=>?_⟩;have Yx:=s7.trans k9;have kA:=af K9 (.lst (us.take (us.length - ru.2.length)++[V.ref nd]));have sA:=(xM.trans Yx).trans kA;have YF:=lD.keep (λ_ _ z=>sA.tup z) M.pl;refine q1 P' _ _ _ sA mk ((xM.trans Yx).free K9) ae ?_ (by rw [a9,bQ,gy];omega);rw [<-lp];refine aW (dC YF _) (.cons (.inl ?_) .nil);rw [<-lp] at fl;unfold fX;exact⟨nd,t2,us.drop (us.length - ru.2.length),rfl,kA.tup vn,kA.tup vt,hZ.P0 (Fl (dD YF _) fl)⟩
 | si n =>
  have hv:aS K H a [.str "step",.int n]:=aS.of hv;refine⟨_,rfl,a,_,rfl,.inr hv,rfl,false,rfl,?_⟩;refine cU ?_;refine⟨_,rfl,a,_,_,_,rfl,rfl,hv,rfl,iQ,λL hL=>?_⟩;have s1:=af hL (.lst [V.str "step",V.str "make"]);refine⟨L,_,rfl,.inl (aH.of ae),rfl,rfl,false,nofun,?_⟩;refine cU ?_;generalize upd H L (.lst [V.str "step",V.str "make"])=H1 at s1;refine⟨_,rfl,a,_,_,_,rfl,rfl,s1.tup hv,rfl,rfl,true,rfl,?_⟩;refine d8 ?_;refine⟨_,rfl,_,rfl,a,_,_,_,rfl,rfl,s1.tup hv,rfl,qi,λL2 GY=>?_⟩;have s2:=s1.trans (af GY (.lst [V.int n]));have e2:upd H1 L2 (.lst [V.int n]) L2=some (.lst [V.int n]):=ae;generalize upd H1 L2 (.lst [V.int n])=H2 at s2 e2;refine⟨Pl,L2,_,_,rfl,rfl,s2 _ _ M.hP,e2,fits (by show us.length+1<=1000000;omega),λP' K9=>?_⟩;have s3:=s2.trans (af K9 (.lst (us++[V.int n])));refine q1 P' _ _ (ts++[.w (hz aa)]) s3 rfl (s2.free K9) ae ?_ (by rw [a9];simp);refine aW (lD.keep (λ_ _ z=>s3.tup z) M.pl) (.cons (.inr ⟨n,hz aa,rfl,rfl,K4 M.ne⟩) .nil)
 | no =>
  obtain⟨xs,hv,bd⟩:=hv;have hv:aS K H a xs:=aS.of hv;rcases bd with ⟨z,rfl,_⟩ | ⟨z,y,rfl,n1,n2⟩ | ⟨y,rfl,hn⟩
  .refine⟨_,rfl,a,_,rfl,.inr hv,rfl,true,rfl,?_⟩;refine d8 ?_;exact q0 H (aA.refl H) rfl
  .refine⟨_,rfl,a,_,rfl,.inr hv,rfl,false,rfl,?_⟩;refine cU ?_;refine⟨_,rfl,a,_,_,_,rfl,rfl,hv,rfl,iQ,λL hL=>?_⟩;have s1:=af hL (.lst [V.str "step",V.str "make"]);refine⟨L,_,rfl,.inl (aH.of ae),rfl,rfl,true,?_,?_⟩
   .show V.bl (!K3 (.str z) ((["step","make"]:List Str).map V.str))=V.bl true;rw [fV,b8 (λh=>by rcases bX.mp h with h | h;exact n1 h;exact n2 (bF.mp h))]
    rfl
   refine d8 ?_;exact q0 _ s1 rfl
  refine⟨_,rfl,a,_,rfl,.inr hv,rfl,false,rfl,?_⟩;refine cU ?_;refine⟨_,rfl,a,_,_,_,rfl,rfl,hv,rfl,iQ,λL hL=>?_⟩;have s1:=af hL (.lst [V.str "step",V.str "make"]);refine⟨L,_,rfl,.inl (aH.of ae),rfl,rfl,false,nofun,?_⟩;refine cU ?_;generalize upd H L (.lst [V.str "step",V.str "make"])=H1 at s1;have C9:=s1.tup hv;have M1:=M.same s1;have ll:=aU M.cA;refine⟨_,rfl,a,_,_,_,rfl,rfl,C9,rfl,rfl,false,rfl,?_⟩;refine cU ?_;rcases hn with ⟨n,rfl,hn⟩ | hn
  .refine⟨_,rfl,a,_,_,_,rfl,rfl,C9,rfl,_,rfl,.inl ⟨n,rfl,true,rfl,?_⟩⟩;refine cU ?_;refine⟨_,rfl,a,_,_,_,rfl,rfl,C9,rfl,_,_,rfl,rfl,_,rfl,?_⟩;refine cg (λc=>?_) (λc=>?_)
   .refine⟨_,rfl,R,_,rfl,.inl M1.hR,_,_,rfl,rfl,false,?_,?_⟩
    .show V.bl (decide (n < ((rs.map V.ref).length:Int)))=V.bl false;rw [au,b8 (λl=>hn ⟨c_ c,by rw [<-ll];exact l⟩)]
    refine d8 ?_;exact q0 _ s1 rfl
   refine⟨false,rfl,?_⟩;refine d8 ?_;exact q0 _ s1 rfl
  refine⟨_,rfl,a,_,_,_,rfl,rfl,C9,rfl,_,rfl,.inr ⟨hn,false,rfl,?_⟩⟩;refine d8 ?_;exact q0 _ s1 rfl
 | dn =>
  have hv:aS K H a [.str "done"]:=aS.of hv;refine⟨_,rfl,a,_,rfl,.inr hv,rfl,true,rfl,?_⟩;refine d8 ?_;exact q0 H (aA.refl H) rfl
end
end hV
namespace L2
open PySem PySem.Spec PyProof.Rows
def Mt {X:Cx}(n:Nat)(hu:X.A.units+(n+1) < cLine):jH X (compareOp .Eq) (PM X.K true n):=by
 intro ah s σ H x y v u Q I rx ry h;obtain⟨a,b,xs,ys,rfl,rfl,ha,hb,p,q⟩:=h;cases rx;cases ry;obtain⟨aT,r,pl,hz⟩:=I.list ha;obtain⟨dG,r2,uz,QB⟩:=I.list hb;have l1:=r.length;have l2:=r2.length;have lp:=aU p;refine SeqAt.eq_listAt (e:=λ_=>true) pl.isList uz.isList (by simp only [bY];omega) ∅ (λj h1 h2=>jG r r2 p (λx y u v d r1 r2=>sY I n X.A.in1 x y u v d r1 r2 (by rw [mq];omega)) j h1 h2) ?_;have e:((List.range aT.toArray.size).all λ_=>true)=true:=by simp
 rw [e];exact⟨.bl true,H,I,rfl,q⟩
def Ml (K:ba) (n:Nat):V->V->Hp->VK->Prop:=λx y H Q=>∃p q xs ys,x=.ref p/\y=.ref q/\aS K H p xs/\aS K H q ys/\Paired (Eb K H n) xs ys/\Q (.bl false) H
def xW {X:Cx}(n:Nat)(hu:X.A.units+(n+1) < cLine):jH X (compareOp .NotEq) (Ml X.K n):=by
 intro ah s σ H x y v u Q I rx ry h;obtain⟨a,b,xs,ys,rfl,rfl,ha,hb,p,q⟩:=h;cases rx;cases ry;obtain⟨aT,r,pl,hz⟩:=I.tuple ha;obtain⟨dG,r2,uz,QB⟩:=I.tuple hb;have l1:=r.length;have l2:=r2.length;have lp:=aU p;refine SeqAt.RcNeAt.tuples (e:=λ_=>true) pl uz ∅ (λj h1 h2=>jG r r2 p (λx y u v d r1 r2=>sY I n X.A.in1 x y u v d r1 r2 (by rw [mq];omega)) j h1 h2) X.prog X.w X.xe _ ?_;have e:(!((List.range (min aT.toArray.size dG.toArray.size)).all (λ_=>true) && aT.toArray.size == dG.toArray.size))=false:=by
  have:aT.toArray.size=dG.toArray.size:=by simp only [bY];omega
  rw [this];simp
 rw [e];exact⟨.bl false,H,I,rfl,q⟩
end L2
namespace hV
open PySem L2 M11
theorem vM:∀(ts:gS)(t:Tr),t∈ts.jl->sz t<=EE ts
 | .nil,t,h=>by cases h
 | .cons u r,t,h=>by
  unfold EE;rcases bX.mp h with e | e
  .rw [e];omega
  have:=vM r t e;omega
abbrev Ma:Stmt:=top 61
abbrev wg:Stmt:=top 57
section
def Ku (K:ba):Sp:=λvs H Q _=>∃(R L:Addr)(rs as:List Addr)(aa:List ar)(es:List De),vs=[.ref R,.ref L]/\aH K H R (rs.map V.ref)/\bL K H rs aa/\(∀ru∈aa,ru.2.length<=8)/\aa.length<=1000/\aa≠[]/\aH K H L (as.map V.ref)/\lS aa.length H as es/\(∀d∈es,jI aa d)/\es.length<=90000 /\
 ∀H',aA H H'->(resT aa es=none->Q .fh H')/\∀t v,resT aa es=some t->fX K H' t v->Q v H'
def xI:aK ["_law_rules","_law_deeds_here","_law_heads","_law_pile","_law_deed"] ["_law_rules","_law_deeds_here"] (av Ma):=iN rfl rfl rfl rfl nofun
def MA (F:iC K "_law_due" "_law_due" Ma f fd)(T:Txt mg)(GP:aC P w K mg base 2 "_law_piled" ["_law_rules","_law_heads","_law_pile","_law_deed"] (Bm K)):bS P w K mg base gp 3 f fd ["_law_rules","_law_deeds_here"] (Ku K):=by
 refine F.ok xI (λvs H Q E h=>?_) (λeY A outer s H vs Q E hr h=>?_)
 .obtain⟨R,L,rs,as,aa,es,rfl,_⟩:=h;rfl
 obtain⟨R,L,rs,as,aa,es,rfl,hR,cA,h8,bE,qI,hL,D0,J0,dl,q⟩:=h;have yi:=gi hr;refine⟨_,ai (i_ (iy:=2) ["_law_head","_law_parts"] [] xI.nd rfl rfl rfl (a8 (pv 0)) (br rfl rfl) nofun rfl nofun
   (λ_ _ _ _ _=>fS (n:=2) K rfl (aB (aq (i:=0) (show (["_law_head","_law_parts"]:List Str).Nodup by decide +kernel) rfl (bC rfl)) (aB (aq (i:=1) (show (["_law_head","_law_parts"]:List Str).Nodup by decide +kernel) rfl (bC rfl)) cf))) (λ_ _ _ _ _=>b9) (λ_ _ _ _ _=>pv 0))
  (ai (az (i:=3) xI.nd rfl (bC rfl) (a_ ag))
  (ai (bJ (aX (xV yi) (bZ dr (pv 1) (bT (ka iE ao)) du) (a_ (ab (bo (ab bx ag)) ag)) (bK _)) (ak (aN jf)) aQ)
  (ai (bM cq rfl (a8 (bZ dr (pv 1) du (bT (ka iE ao)))) (aq (i:=4) xI.nd rfl (bC rfl))
   (ai (az (i:=3) xI.nd rfl (bC rfl) (bp GP hr rfl (ab (pv 0) (ab (pv 2) (ab (pv 3) (ab (pv 4) ag))))))
   (ak (bJ (eK (Fy (pv 3))) (ak (aN jf)) aQ))))
  (ai (bJ (PW.pt (lZ (aX uD (aD aG rfl T.len cZ (ab (pv 3) ag)) ao (bK _)) (jT (iF (eJ (aD dq rfl T.Gs kI (ab (aL bB (pv 3) ao (λ_ _=>rfl)) (ab (hJ (v:=.ty "tuple") rfl T.tup mY rfl) ag)))))))) (ak (aN jf)) aQ)
  (ak (aN (aL bB (pv 3) ao (λ_ _=>rfl)))))))),?_⟩
 nofun
 have ll:=aU cA;refine⟨_,rfl,R,rfl,⟨_,hR⟩,λN hN=>jZ hR cA ∅ hN λH1 s1 eN=>?_⟩;refine goN ?_
 ac_rfl
 refine⟨rC,λPl Q7=>?_⟩;have k2:=af Q7 (.lst []);have OK:=k2 _ _ eN;have eP2:upd H1 Pl (.lst []) Pl=some (.lst []):=ae;generalize upd H1 Pl (.lst [])=H2 at k2 OK eP2;have s2:=s1.trans k2;refine goN ?_
 ac_rfl
 refine⟨_,rfl,_,rfl,_,rfl,L,_,rfl,s2.seq hL,λC1 Nn=>?_⟩;have Sz:=aU D0;by_cases ca:as=[]
 .subst ca;have ee:es=[]:=zk.mp Sz.symm;subst ee;have Oo:=af Nn (.lst (d_ (([]:List Addr).map V.ref) (some (-1)) none));have e1:upd H2 C1 (.lst (d_ (([]:List Addr).map V.ref) (some (-1)) none)) C1=some (.lst []):=ae;generalize upd H2 C1 (.lst (d_ (([]:List Addr).map V.ref) (some (-1)) none))=N8 at Oo e1;refine⟨qi,λt1 BR=>⟨qi,λC2 y_=>?_⟩⟩;have k3:=(af BR (.tup [V.str "done"])).trans (af y_ (.lst [V.ref t1]));have et:aS K (upd (upd N8 t1 (.tup [V.str "done"])) C2 (.lst [V.ref t1])) t1 [.str "done"]:=(af y_ _).tup (aS.of ae);have B0:upd (upd N8 t1 (.tup [V.str "done"])) C2 (.lst [V.ref t1]) C2=some (.lst [V.ref t1]):=ae;generalize upd (upd N8 t1 (.tup [V.str "done"])) C2 (.lst [V.ref t1])=H4 at k3 et B0;refine⟨C1,C2,_,t1,_,rfl,rfl,aH.of (k3 _ _ e1),aH.of B0,et,rfl,.inl ⟨rfl,true,rfl,?_⟩⟩;refine d8 ?_;exact(q H4 (s2.trans (Oo.trans k3))).1 rfl
 obtain⟨Ek,a0,AJ,e0,rfl,rfl,DP,TY⟩:=pY D0 ca;rw [uS];obtain⟨TR,K5,WB,NT⟩:=TY.last;have Oo:=af Nn (.lst [V.ref a0]);have e1:upd H2 C1 (.lst [V.ref a0]) C1=some (.lst [V.ref a0]):=ae;generalize upd H2 C1 (.lst [V.ref a0])=N8 at Oo e1;refine⟨qi,λt1 BR=>⟨qi,λC2 y_=>?_⟩⟩;have na:a0≠t1:=λz=>by rw [<-z,(s2.trans Oo) _ _ K5] at BR;cases BR
 have k3:=(af BR (.tup [V.str "done"])).trans (af y_ (.lst [V.ref t1]));have et:aS K (upd (upd N8 t1 (.tup [V.str "done"])) C2 (.lst [V.ref t1])) t1 [.str "done"]:=(af y_ _).tup (aS.of ae);have B0:upd (upd N8 t1 (.tup [V.str "done"])) C2 (.lst [V.ref t1]) C2=some (.lst [V.ref t1]):=ae;generalize upd (upd N8 t1 (.tup [V.str "done"])) C2 (.lst [V.ref t1])=H4 at k3 et B0;have Zc:=Oo.trans k3;have s4:=s2.trans Zc;refine⟨C1,C2,_,t1,_,rfl,rfl,aH.of (k3 _ _ e1),aH.of B0,et,rfl,.inr ⟨a0,TR,rfl,na,aS.of (s4 _ _ K5),WB,_,rfl,?_⟩⟩;rcases NT with ⟨rfl,rfl⟩ | ⟨nd,NT⟩
 rotate_left
 .rw [NT];refine d8 ?_;refine(q H4 s4).1 ?_;unfold resT;rw [rq,xp];cases e0 with
  | dn=>exact absurd rfl nd
  | d x=>rfl
  | si n=>rfl
  | no=>rfl
 refine cU ?_;have q2:∀H',aA H H'->(jF (eZ (sW aa) AJ [])=none->Q .fh H')/\∀t v,jF (eZ (sW aa) AJ [])=some t->fX K H' t v->Q v H':=λH' s=>by
  have:=q H' s;unfold resT at this;rw [rq,xp,ue] at this;rw [o_ qI];exact this
 have NO:∀d∈AJ,jI aa d:=λd h=>J0 d (ib _ h);have dl0:AJ.length<=90000:=by rw [a9] at dl;omega
 refine⟨_,rfl,_,rfl,_,rfl,L,_,rfl,s4.seq hL,λC3 JT=>?_⟩;rw [uT];have k5:=af JT (.lst (Ek.map V.ref));have Hi:upd H4 C3 (.lst (Ek.map V.ref)) C3=some (.lst (Ek.map V.ref)):=ae;generalize upd H4 C3 (.lst (Ek.map V.ref))=H5 at k5 Hi;have s5:=s4.trans k5;have Zb:=Zc.trans k5;have Vk:=aU DP;refine⟨C3,rfl,⟨_,aH.of Hi⟩,?_⟩;refine cK (xs:=Ek.map V.ref) (λi σ H9=>∃(Pl:Addr)(us:List V)(ts:List Tr)(y4:Option V),σ=[aM R,aM L,aM N,aM Pl,y4]/\aA H5 H9/\H9 Pl=some (.lst us)/\lD K H9 aa us ts/\eZ (sW aa) (AJ.take i) []=some ts/\us.length<=i) ⟨Pl,[],[],none,rfl,aA.refl H5,Zb _ _ eP2,.nil,rfl,aF _⟩ ?_ ?_ ?_
 .rintro i σ H9 _ ⟨Pl,us,ts,y4,rfl,s9,_⟩;exact aH.of (s9 _ _ Hi)
 .intro i x σ H9 ex jX
  ac_nf0
  obtain⟨Pl,us,ts,y4,rfl,s9,xm,Ed,pb,l9⟩:=jX;rw [bz] at ex;obtain⟨a,ea,rfl⟩:=cD.mp ex;have li:=(bu.mp ea).1;obtain⟨de,JX⟩:∃de,AJ[i]?=some de:=⟨AJ[i]'∅,dH ∅⟩;obtain⟨a',Lj,va⟩:=Paired.at_ DP i de JX;rw [ea] at Lj;cases Lj;have UN:=NO de (b_ JX);have UM:=qC (λh e=>qh.sW h e) _ qh.nil pb;have Sl:=s5.trans s9;have M9:RP K H9 R N Pl rs aa us ts:=⟨Sl.seq hR,cA.same Sl,s9 _ _ (Zb _ _ OK),xm,Ed,∅,qI,h8,bE,λj cs h=>UM.top h⟩;refine goN ?_
  ac_rfl
  refine⟨_,rfl,_,rfl,_,rfl,_,rfl,R,N,Pl,a,rs,aa,us,ts,de,rfl,M9,va.same Sl,UN,λHA sA e=>?_,λP' HA ug gJ sA e fP' W5 UL l'=>?_⟩
  .refine⟨_,rfl,_,rfl,?_⟩;refine d8 ?_;refine(q2 HA (Sl.trans sA)).1 ?_;rw [ux JX pb e];rfl
  refine⟨_,rfl,_,rfl,?_⟩;refine cU ?_;refine⟨P',ug,gJ,_,rfl,s9.trans sA,W5,UL,?_,∅⟩;rw [uw JX pb,e]
 rintro σ H9 ⟨Pl,us,ts,y4,rfl,s9,xm,Ed,pb,l9⟩;rw [au,Vk,cH] at pb;have lp:=aU Ed;have hq:=q2 H9 (s5.trans s9);rw [pb] at hq;refine⟨_,rfl,Pl,_,rfl,.inl (aH.of xm),rfl,!decide (us.length=1),?_,?_⟩
 .show V.bl (!decide (V.int (us.length:Int)=V.int 1))=V.bl (!decide (us.length=1));by_cases h:us.length=1
  .rw [bh h,bh (by rw [h];rfl)]
  rw [b8 h,b8 (λy=>h (by injection y with y2;omega))]
 refine cg (λc=>?_) (λc=>?_)
 .have n1:us.length≠1:=λh=>by rw [bh h] at c;cases c
  refine hq.1 ?_
  match ts,lp with
  | [],_=>rfl
  | [t],lp=>exact absurd lp n1
  | a::_::_,_=>cases a <;> rfl
 have l1:us.length=1:=by
  cases hh:decide (us.length=1) with
  | true=>exact c_ hh
  | false=>rw [hh] at c;exact absurd rfl c
 match us,ts,l1,lp,Ed,xm,hq with
 | [u],[t],_,_,.cons tv .nil,xm,hq =>
  have qM:ke [u] 0=some u:=b0 (j:=0) rfl;cases t with
  | w z =>
   rcases tv with tv | ⟨n,h,rfl,e,hh⟩
   rotate_left
   .refine⟨_,rfl,Pl,_,_,_,rfl,rfl,aH.of xm,qM,.int n,"int","tuple",false,rfl,.int n,Gj,false,rfl,?_⟩;refine d8 ?_;exact hq.1 rfl
   unfold fX at tv;subst tv;refine⟨_,rfl,Pl,_,_,_,rfl,rfl,aH.of xm,qM,.str z,"str","tuple",false,rfl,.str z,Gi,false,rfl,?_⟩;refine d8 ?_;exact hq.1 rfl
  | n k cs =>
   replace tv:=tv.resolve_right λ⟨_,_,_,e,_⟩=>by cases e
   have H_:=tv;unfold fX at H_;obtain⟨a,p,vs,rfl,ha,hp,_⟩:=H_;refine⟨_,rfl,Pl,_,_,_,rfl,rfl,aH.of xm,qM,.ref a,"tuple","tuple",true,rfl,.tup ha,eU,true,rfl,?_⟩;refine cU ?_;exact⟨_,rfl,Pl,_,_,_,rfl,rfl,aH.of xm,qM,hq.2 _ _ rfl tv⟩
def nv (K:ba) (n:Nat):Sp:=λvs H Q _=>∃(v:V)(t:Tr),vs=[v]/\fX K H t v/\dp t < n/\sz t<=100000/\∀(D:Addr)(as:List Addr)(H':Hp),H D=none->aA H H'->H' D=some (.lst (as.map V.ref))->Paired (λa d=>H' a=some (.tup (Xg d))) as (jL t)->Q (.ref D) H'
def nJ:aK ["_law_tree_here","_law_deeds_here","_law_child"] ["_law_tree_here"] (av wg):=iN rfl rfl rfl rfl nofun
theorem uF (F:iC K "_law_deeds" "_law_deeds" wg f fd)(T:Txt mg)(b1:Binds K fd ["_law_tree_here"] [])(m1:mg "_law_deeds"=some (.ref f)):∀n,bS P w K mg base gp n f fd ["_law_tree_here"] (nv K n)
 | 0=>⟨λvs H Q E ⟨_,_,e,_⟩=>by rw [e];rfl,λA outer s H args us vs Q E _ _ _ _ ⟨_,_,_,_,h,_⟩=>absurd h (Nat.not_lt_zero _)⟩
 | n+1=>by
  have G:aC P w K mg base n "_law_deeds" ["_law_tree_here"] (nv K n):=⟨f,fd,uF F T b1 m1 n,b1,F.kp,m1⟩;refine F.ok nJ (λvs H Q E h=>?_) (λeY A outer s H vs Q E hr h=>?_)
  .obtain⟨_,_,rfl,_⟩:=h;rfl
  obtain⟨v,t,rfl,ht,ZF,hsz,q⟩:=h;refine⟨_,ai (bJ (eJ (aD dq rfl T.Gs kI (ab (pv 0) (ab (hJ (v:=.ty "str") rfl T.str lB rfl) ag)))) (ak (aN (a_ (ab (bo (ab bx (ab (pv 0) ag))) ag)))) aQ)
   (ai (az (i:=1) nJ.nd rfl (bC rfl) (a_ ag))
   (ai (bM cq rfl (f_ (aL aZ (pv 0) ao (λ_ _=>rfl))) (aq (i:=2) nJ.nd rfl (bC rfl))
    (ak (az (i:=1) nJ.nd rfl (bC rfl) (aI dI (pv 1) (bp G hr rfl (ab (pv 2) ag))))))
   (ak (aN (aI dI (pv 1) (a_ (ab (bo (ab bx (ab (aL aZ (pv 0) ao (λ_ _=>rfl)) ag))) ag))))))),?_⟩
  nofun
  cases t with
  | w z =>
   unfold fX at ht;subst ht;refine⟨_,rfl,.str z,"str","str",true,rfl,.str z,eU,true,rfl,?_⟩;refine d8 ?_;refine⟨_,rfl,iQ,λu hu=>⟨qi,λD hD=>?_⟩⟩;have k1:=af hu (.tup [V.str "step",V.str z]);have e1:upd H u (.tup [V.str "step",V.str z]) u=some (.tup [.str "step",.str z]):=ae;generalize upd H u (.tup [V.str "step",V.str z])=H1 at k1 e1 hD;refine q D [u] _ (k1.free hD) (k1.trans (af hD _)) ae ?_;unfold jL;exact .cons ((af hD _) _ _ e1) .nil
  | n k cs =>
   have YZ:=oA (.n k cs);unfold fX at ht;obtain⟨a,p,us,rfl,ha,hp,GQ⟩:=ht;have YG:=hZ.paired cs GQ;have lcs:=aU YG;have wL:1+xn cs < n+1:=by unfold dp at ZF;exact ZF
   have hs1:1+EE cs<=100000:=by unfold sz at hsz;exact hsz
   refine⟨_,rfl,.ref a,"tuple","str",false,rfl,.tup ha,wF,false,rfl,?_⟩;refine cU ?_;refine⟨rC,λL hL=>?_⟩;have k1:=af hL (.lst []);have e1:upd H L (.lst []) L=some (.lst []):=ae;generalize upd H L (.lst [])=H1 at k1 e1;refine⟨_,rfl,a,_,_,_,rfl,rfl,k1.tup ha,rfl,p,rfl,⟨_,k1.tup hp⟩,?_⟩;refine oq (xs:=us) (λi σ H5=>∃(D:Addr)(as:List Addr)(y2:Option V),σ=[aM a,aM D,y2]/\aA H H5/\H D=none/\H5 D=some (.lst (as.map V.ref))/\Paired (λa d=>H5 a=some (.tup (Xg d))) as ((cs.jl.take i).flatMap jL)) ⟨L,[],none,rfl,k1,hL,e1,.nil⟩ ?_ ?_ ?_
   .rintro i σ H5 _ ⟨D,as,y2,rfl,s5,_⟩;exact s5.tup hp
   .intro i x σ H5 ex jX
    ac_nf0
    obtain⟨D,as,y2,rfl,s5,fD,eD,pd⟩:=jX;have li:=(bu.mp ex).1;obtain⟨tc,WJ⟩:∃tc,cs.jl[i]?=some tc:=⟨cs.jl[i]'∅,dH ∅⟩;obtain⟨x',Rg,tv⟩:=Paired.at_ YG i tc WJ;rw [ex] at Rg;cases Rg;have lQ:=b_ WJ;have d1:=Hl cs tc lQ;have z1:=vM cs tc lQ;have tot:((cs.jl.take (i+1)).flatMap jL).length<=100000:=by
     have h1:((cs.jl.take (i+1)).flatMap jL).length<=(cs.jl.flatMap jL).length:=by
      conv=>rhs;rw [<-pT (i+1) cs.jl,i6,a9]
      omega
     rw [<-oy,oz] at h1;omega
    refine goN ?_
    ac_nf
    refine⟨_,rfl,_,rfl,x,tc,rfl,fX.keep (λ_ _ z=>s5.tup z) tc tv,∅,∅,λD2 as2 H6 f6 s6 e6 p6=>?_⟩;have Tj:=s6 _ _ eD;have Ee:=aU pd;have l26:=aU p6;have G8:(cs.jl.take (i+1)).flatMap jL=(cs.jl.take i).flatMap jL++jL tc:=by
     rw [cQ,WJ,i6];simp
    rw [G8,a9] at tot;refine⟨D,D2,_,_,rfl,rfl,Tj,e6,fits (by rw [au,au];omega),λD3 ym=>?_⟩;rw [<-bH];have k7:=af ym (.lst ((as++as2).map V.ref));refine⟨D3,as++as2,_,rfl,(s5.trans s6).trans k7,(s5.trans s6).free ym,ae,?_⟩;rw [G8];exact aW (Paired.fc pd λ_ _ z=>k7 _ _ (s6 _ _ z)) (Paired.fc p6 λ_ _ z=>k7 _ _ z)
   rintro σ H5 ⟨D,as,y2,rfl,s5,fD,eD,pd⟩;rw [show us.length=cs.jl.length from lcs,cH,<-oy] at pd;have Ee:=aU pd;have SA:=oz cs;refine⟨_,rfl,_,rfl,a,_,_,_,rfl,rfl,s5.tup ha,rfl,iQ,λu hu=>⟨qi,λL2 GY=>?_⟩⟩;have k6:=(af hu (.tup [V.str "make",V.int (k:Int)])).trans (af GY (.lst [V.ref u]));have vu:upd (upd H5 u (.tup [V.str "make",V.int (k:Int)])) L2 (.lst [V.ref u]) u=some (.tup [.str "make",.int (k:Int)]):=(af GY _) _ _ ae;have e6:upd (upd H5 u (.tup [V.str "make",V.int (k:Int)])) L2 (.lst [V.ref u]) L2=some (.lst [V.ref u]):=ae;generalize upd (upd H5 u (.tup [V.str "make",V.int (k:Int)])) L2 (.lst [V.ref u])=H6 at k6 vu e6;refine⟨D,L2,_,_,rfl,rfl,k6 _ _ eD,e6,fits (by rw [au];show _+1<=1000000;omega),λD3 ym=>?_⟩;have k7:=af ym (.lst (as.map V.ref++[V.ref u]));refine q D3 (as++[u]) _ ((s5.trans k6).free ym) ((s5.trans k6).trans k7) (by rw [ae,bH];rfl) ?_;rw [B6];exact aW (Paired.fc pd λ_ _ z=>k7 _ _ (k6 _ _ z)) (.cons (k7 _ _ vu) .nil)
end
abbrev vZ:Stmt:=top 55
def sB:Nat->Nat
 | 0=>1
 | n+1=>1+3 * sB n
def Mb:∀n,1<=sB n
 | 0=>aF _
 | n+1=>by show 1<=1+3 * sB n;omega
def Kw:∀{m n:Nat},m<=n->sB m<=sB n:=by
 intro m n h
 induction h with
 | refl=>exact aF _
 | step _ ih=>exact dY ih (by show _<=1+3 * sB _;omega)
structure jk (aa:List ar) (m:Nat)(t:Tr)(z:Str):Prop where
 is:Is aa t z
 size:sz t<=sB m
 deep:dp t<=m
def jk.up {aa:List ar}{m n:Nat}{t:Tr}{z:Str}(h:jk aa m t z)(l:m<=n):jk aa n t z:=⟨h.is,dY h.size (Kw l),dY h.deep l⟩
def jk.word {aa:List ar}{m:Nat}{z:Str}(h:z∉hd aa):jk aa m (.w z) z:=⟨by unfold Is;exact⟨rfl,h⟩,by unfold sz;exact Mb m,by unfold dp;exact dX _⟩
theorem Gr {aa:List ar}{m:Nat}:∀{ts:List Tr}{zs:List Str},Paired (λt z=>jk aa m t z) ts zs->tR aa (gS.lP ts) zs/\EE (gS.lP ts)<=zs.length * sB m/\xn (gS.lP ts)<=m
 | _,_,.nil=>⟨by unfold gS.lP tR;rfl,by unfold gS.lP EE;simp,by unfold gS.lP xn;exact dX _⟩
 | _,_,.cons a b=>by
  obtain⟨x,y,z⟩:=Gr b;have h1:=a.size;have h2:=a.deep;refine⟨by unfold gS.lP tR;exact⟨_,_,rfl,a.is,x⟩,?_,?_⟩
  .unfold gS.lP EE;rw [dZ,Nat.succ_mul];omega
  unfold gS.lP xn;omega
def jk.node {aa:List ar}{m k:Nat}{ts:List Tr}{ru:ar}(e:aa[k]?=some ru)(h3:ru.2.length<=3)(p:Paired (λt z=>jk aa m t z) ts ru.2):jk aa (m+1) (.n k (gS.lP ts)) ru.1:=by
 obtain⟨x,y,z⟩:=Gr p;refine⟨by unfold Is;exact⟨ru.2,e,x⟩,?_,by unfold dp;omega⟩;unfold sz;show 1+_<=1+3 * sB m;have:ru.2.length * sB m<=3 * sB m:=Nat.mul_le_mul_right _ h3;omega
section
def DR {H:Hp}{p D d:Addr}{zs:List Str}{kvs:List (aR×V)}{σ:St}{js:List (Nat×Str)}{Qp:Hp->Prop}{F:Tr->Str->Prop}(hσ:eV ["_law_part"] js σ=[none,aM d])(hp:aS K H p (zs.map V.str))(hz:zs.length<=1000)
  (hd:H d=some (.dK kvs))(ha:∀z∈zs,∃t,fX K H t ((bw kvs (Sum.inr z)).getD (.str z))/\F t z)(hD:H D=none)(q:∀ys ts H2,Paired (λv t=>fX K H2 t v) ys ts->Paired F ts zs->aA H H2->H2 D=some (.lst ys)->Qp H2) :
  ∃W:Nat->Nat->List V->St->Hp->Prop,(∃m,W 0 m [] (eV ["_law_part"] js σ) (upd H D (.lst []))) /\
 ∀i m ys σ' H,W i m ys σ' H->((oE K p).stop i H/\Qp H)\/((oE K p).go i H/\∃m',m' < m/\∀x H',(oE K p).mQ i H x H'->dP 0 x σ' H' λσ2 H2=>iw σ2 H2 λb H3 =>
  if b=true then EB (gT 1) (gT 0) (gT 0) σ2 H3 λy H4=>H4 D=some (.lst ys)/\ys.length < sizeLine/\W (i+1) m' (ys++[y]) σ2 (upd H4 D (.lst (ys++[y]))) else W (i+1) m' ys σ2 H3):=by
 refine gR (xs:=zs.map V.str) (λi ys σ2 H2=>(∃ts,Paired (λv t=>fX K H t v) ys ts/\Paired F ts (zs.take i))/\(∃y0,σ2=[y0,aM d])/\aA H H2/\H2 D=some (.lst ys))
  ⟨⟨[],.nil,.nil⟩,⟨none,hσ⟩,af hD _,ae⟩ (λi ys σ2 H2 _ h=>h.2.2.1.tup hp) (λi x ys σ2 H2 ex h=>?_) (λys σ2 H2 h=>?_)
 .obtain⟨⟨ts,p1,p2⟩,⟨y0,rfl⟩,sm,hd2⟩:=h;rw [bz] at ex;obtain⟨z,ez,rfl⟩:=cD.mp ex;have li:=(bu.mp ez).1;obtain⟨t,tv,ft⟩:=ha z (b_ ez);have l1:=aU p1;have l2:=aU p2;rw [bQ] at l2;refine goN (yo ?_);refine⟨_,rfl,d,rfl,.inl ⟨_,Rd.of (sm _ _ hd)⟩,_,rfl,_,rfl,_,cu.k (k:=Sum.inr z) (sm _ _ hd),hd2,bN ∅,⟨ts++[t],aW p1 (.cons tv .nil),?_⟩,⟨_,rfl⟩,?_,ae⟩
  .rw [cQ,ez];exact aW p2 (.cons ft .nil)
  intro b o hb;rw [aj (λz=>by rw [z,hD] at hb;cases hb)];exact sm b o hb
 obtain⟨⟨ts,p1,p2⟩,_,sm,hd2⟩:=h;rw [au,cH] at p2;exact q ys ts H2 (Paired.fc p1 λ_ t z=>fX.keep (λ_ _ y=>sm.tup y) t z) p2 sm hd2
structure A2 (K:ba)(H:Hp)(L:Addr)(aa:List ar) (es:List Str)(kvs:List (aR×V)):Prop where
 hL:H L=some (.dK kvs)
 ky:kvs.map (·.1)=es.map Sum.inr
 tr:∀z v,bw kvs (Sum.inr z)=some v->∃t,fX K H t v/\jk aa es.length t z
 nd:es.Nodup
 sub:∀z∈es,z∈hm aa
def A2.same {H H':Hp}{L:Addr}{aa:List ar}{es:List Str}{kvs:List (aR×V)}(h:A2 K H L aa es kvs)(s:aA H H'):A2 K H' L aa es kvs :=
 ⟨s _ _ h.hL,h.ky,λz v e=>let ⟨t,a,b⟩:=h.tr z v e;⟨t,fX.keep (λ_ _ y=>s.tup y) t a,b⟩,h.nd,h.sub⟩
def A2.at_ {H:Hp}{L:Addr}{aa:List ar}{es:List Str}{kvs:List (aR×V)}(h:A2 K H L aa es kvs)(z:Str):(bw kvs (Sum.inr z)).isSome=decide (z∈es):=by
 by_cases c:z∈es
 .rw [bh c];exact(eF kvs (Sum.inr z)).mpr (by rw [h.ky];exact cO.mpr c)
 rw [b8 c];cases e:(bw kvs (Sum.inr z)).isSome with
 | false=>rfl
 | true=>exact absurd (cO.mp (by rw [<-h.ky];exact(eF kvs (Sum.inr z)).mp e)) c
def A2.get {H:Hp}{L:Addr}{aa:List ar}{es:List Str}{kvs:List (aR×V)}(h:A2 K H L aa es kvs){z:Str}(c:z∈es):∃v t,bw kvs (Sum.inr z)=some v/\fX K H t v/\jk aa es.length t z:=by
 have:=h.at_ z;rw [bh c] at this;obtain⟨v,e⟩:=lY.mp this;obtain⟨t,a,b⟩:=h.tr z v e;exact⟨v,t,e,a,b⟩
def xD (K:ba):Sp:=λvs H Q _=>∃(R:Addr)(rs:List Addr)(aa:List ar) (fM:List Str),vs=[.ref R]/\aH K H R (rs.map V.ref)/\bL K H rs aa/\aa.length<=8/\(∀ru∈aa,ru.2.length<=3)/\fM.length<=3/\(∀z∈hm aa,z∈fM) /\
 ∀(L:Addr)(kvs:List (aR×V))(H':Hp),H L=none->aA H H'->A2 K H' L aa (cM true aa) kvs->(cM true aa).length<=3->Q (.ref L) H'
abbrev NLs:List Str:=["_law_rules","_law_head","_law_parts","_law_heads","_law_least_here","_law_again","_law_number"]
def iV:aK NLs ["_law_rules"] (av vZ):=iN rfl rfl rfl rfl nofun
def CN (F:iC K "_law_least" "_law_least" vZ f fd)(T:Txt mg):bS P w K mg base gp 1 f fd ["_law_rules"] (xD K):=by
 refine F.ok iV (λvs H Q E h=>?_) (λeY A outer s H vs Q E hr h=>?_)
 .obtain⟨R,rs,aa,fM,rfl,_⟩:=h;rfl
 obtain⟨R,rs,aa,fM,rfl,hR,cA,bE,h3,SJ,M3,q⟩:=h;have hu:=gi hr;refine⟨_,ai (az (i:=3) iV.nd rfl (Or.inr rfl) (bD ["_law_head","_law_parts"] [] rfl (a8 (pv 0)) (br rfl rfl) nofun rfl nofun
   (λ_ _ _ _ _=>fS (n:=2) K rfl (aB (aq (i:=0) (show (["_law_head","_law_parts"]:List Str).Nodup by decide +kernel) rfl (bC rfl)) (aB (aq (i:=1) (show (["_law_head","_law_parts"]:List Str).Nodup by decide +kernel) rfl (bC rfl)) cf))) (λ_ _ _ _ _=>b9)
   (λ_ _ _ _ _=>pv 0)))
  (ai (az (i:=4) iV.nd rfl (Or.inr rfl) g9)
  (ai (bM cq rfl (a8 (pv 0)) (aq (i:=5) iV.nd rfl (bC rfl))
   (ak (bM cq rfl (gO rfl T.CB (ab (aD aG rfl T.len cZ (ab (pv 0) ag)) ag)) (aq (i:=6) iV.nd rfl (bC rfl))
    (ai (Mn (aL bB (pv 0) (pv 6) (λ_ _=>rfl)) (fS (n:=2) K rfl (aB (aq (i:=1) iV.nd rfl (bC rfl)) (aB (aq (i:=2) iV.nd rfl (bC rfl)) cf))))
    (ak (bJ (PW.pt (kS (eK (eQ hu (pv 1) (pv 4))) (i9 (eJ (aD (ip rfl) rfl T.all boot_all (ab
      (bD ["_law_part"] [(3,"_law_heads"),(4,"_law_least_here")] rfl (f_ (pv 2)) (br rfl rfl) nofun rfl nofun
       (λ_ _ _ _ _=>aq (i:=0) (show (["_law_part","_law_heads","_law_least_here"]:List Str).Nodup by decide +kernel) rfl (bC rfl)) (λ_ _ _ _ _=>b9)
       (λ_ _ _ _ _=>KG (z8 (jh hu (pv 0) (pv 2))) (kU (fA (ji K) (pv 0) (pv 1) rfl)))) ag))))))
     (ak (iK hu (pv 4) (pv 1) (bo (ab (pv 6) (ab (bc dS rfl T.tup mY (ab (bD ["_law_part"] [(4,"_law_least_here")] rfl (f_ (pv 2)) (br rfl rfl) nofun rfl nofun
      (λ_ _ _ _ _=>aq (i:=0) (show (["_law_part","_law_least_here"]:List Str).Nodup by decide +kernel) rfl (bC rfl)) (λ_ _ _ _ _=>b9) (λ_ _ _ _ _=>xT hu (pv 1) (pv 0) (pv 0) ⟨rfl,rfl,rfl,rfl⟩)) ag)) ag))) rfl)) aQ))))))
  (ak (aN (pv 4))))),?_⟩
 nofun
 have ll:=aU cA;refine⟨_,rfl,R,rfl,⟨_,hR⟩,λD hD=>jZ hR cA ∅ hD λH1 s1 eD=>?_⟩;refine goN ?_
 ac_rfl
 refine λL hL=>?_;have s2:=s1.trans (af hL (.dK []));have Hh:=af hL (.dK []) _ _ eD;have nL:D≠L:=λz=>by rw [z,hL] at eD;cases eD
 have fL:H L=none:=s1.free hL;have e2:upd H1 L (.dK []) L=some (.dK []):=ae;generalize upd H1 L (.dK [])=H2 at s2 Hh e2;refine goN ?_
 ac_rfl
 have L2:A2 K H2 L aa [] []:=⟨e2,rfl,(λz v e=>by cases e),ku,(λz h=>by cases h)⟩;refine⟨_,rfl,R,rfl,⟨_,s2.seq hR⟩,cK (xs:=rs.map V.ref) (λi σ H3=>∃(es:List Str)(kvs:List (aR×V))(y1 y2 y5 y6:Option V),σ=[aM R,y1,y2,aM D,aM L,y5,y6]/\aA H H3/\H3 D=some (.lst ((hm aa).map V.str))/\A2 K H3 L aa es kvs/\es=passes (λe=>gB true (hm aa) e aa) i []) ⟨[],[],_,_,_,_,rfl,s2,Hh,L2,rfl⟩ ?_ ?_ ?_⟩
 .rintro i σ H3 _ ⟨es,kvs,y1,y2,y5,y6,rfl,s3,_⟩;exact s3.seq hR
 .intro i x σ H3 ex jX
  ac_nf0
  obtain⟨es,kvs,y1,y2,y5,y6,rfl,s3,Iw,L3,he⟩:=jX;refine goN ?_
  ac_nf
  refine⟨_,rfl,R,_,rfl,.inl (s3.seq hR),((rs.map V.ref).length:Int),rfl,by rw [au];omega,by rw [au];omega,?_⟩;rw [show (((rs.map V.ref).length:Nat):Int).toNat=aa.length by rw [au];omega];refine gQ (n:=aa.length) (λj σ H4=>∃(i5:List Str)(kvs:List (aR×V))(y1 y2 y6:Option V),σ=[aM R,y1,y2,aM D,aM L,some x,y6]/\aA H H4/\H4 D=some (.lst ((hm aa).map V.str))/\A2 K H4 L aa i5 kvs/\i5=gB true (hm aa) es (aa.take j)) ⟨es,kvs,_,_,_,rfl,s3,Iw,L3,rfl⟩ ?_ ?_
  .intro j σ H4 lj jX
   ac_nf0
   obtain⟨i5,kvs,y1,y2,y6,rfl,s4,DE,L4,Az⟩:=jX;have e1:aa[j]?=some aa[j]:=dH lj;generalize iZ:aa[j]=ru at e1;have MX:=h3 ru (b_ e1);obtain⟨r,er,p,v1,v2⟩:=Paired.at_ cA j ru e1;have u9:ke (rs.map V.ref) (0+(j:Int))=some (.ref r):=by
    rw [j6];exact b0 (by rw [bz,er];rfl)
   have l3:i5.length<=3:=dY (iY _ _ L4.nd λz hz=>M3 z (L4.sub z hz)) SJ;have lkv:kvs.length=i5.length:=by
    have:=congrArg List.length L4.ky;rw [au,au] at this;exact this
   have pe:gB true (hm aa) es (aa.take (j+1))=dN true (hm aa) i5 ru:=by
    rw [Az,cQ,e1];unfold gB;rw [vi];rfl
   refine goN ?_
   ac_rfl
   refine⟨_,rfl,_,rfl,R,_,_,_,rfl,rfl,s4.seq hR,u9,r,_,rfl,s4.tup v1,rfl,_,_,rfl,_,_,rfl,rfl,?_⟩;refine⟨_,rfl,_,rfl,L,_,rfl,cu.k (k:=Sum.inr ru.1) L4.hL,_,rfl,?_⟩;rw [L4.at_ ru.1];show if (!decide (ru.1∈i5))=true then _ else _;refine cg (λc2=>?_) (λc2=>?_)
   .have YQ:ru.1∉i5:=λz=>by rw [bh z] at c2;cases c2
    refine⟨_,rfl,p,rfl,⟨_,s4.tup v2⟩,λD2 jc=>lh (zs:=ru.2) [aM D,aM L] (λz=>decide (z∈i5) || (true && !decide (z∈hm aa))) rfl (s4.tup v2) ∅ jc (λz _ H5 Qy s5 hq=>?_) λH5 s5 W_=>?_⟩
    .refine⟨_,rfl,_,rfl,L,_,rfl,cu.k (k:=Sum.inr z) (s5 _ _ L4.hL),?_⟩;refine⟨_,rfl,?_⟩;rw [L4.at_ z];refine cg (λc=>?_) (λc=>?_)
     .rw [c] at hq;exact hq
     have c':decide (z∈i5)=false:=by simpa using c
     rw [c',Bool.false_or,jo] at hq;refine⟨_,rfl,_,rfl,D,_,rfl,.inl (aH.of (s5 _ _ DE)),rfl,cV _,?_⟩;rw [fV];exact hq
    refine⟨D2,_,rfl,aH.of W_,?_⟩;rw [all_map];have tP:=s4.trans s5;have L5:=L4.same s5;refine⟨_,rfl,?_⟩;refine cg (λc=>?_) (λc=>?_)
    .have kid:∀z∈ru.2,∃t,fX K H5 t ((bw kvs (Sum.inr z)).getD (.str z))/\jk aa i5.length t z:=λz hz=>by
      have cz:=gL.mp c z hz;by_cases m:z∈i5
      .obtain⟨v,t,e,a,b⟩:=L5.get m;exact⟨t,by rw [e];exact a,b⟩
      rw [b8 m,Bool.false_or,jo] at cz;have nh:z∉hm aa:=λy=>by rw [bh y] at cz;cases cz
      have ev:bw kvs (Sum.inr z)=none:=by
       cases e:bw kvs (Sum.inr z) with
       | none=>rfl
       | some v =>
        have:=L5.at_ z;rw [e,b8 m] at this;cases this
      exact⟨.w z,by rw [ev];unfold fX;rfl,jk.word λy=>nh (kb.mpr y)⟩
     refine⟨_,rfl,_,rfl,p,rfl,⟨_,tP.tup v2⟩,λD3 ym=>DR (F:=λt z=>jk aa i5.length t z) (zs:=ru.2) rfl (tP.tup v2) ∅ L5.hL kid ym λys ts H6 p1 p2 s6 e6=>?_⟩;refine⟨D3,ys,rfl,.inl ⟨aH.of e6,λt2 Nr=>⟨iQ,λtV Dt=>?_⟩⟩⟩;have k7:=(af Nr (.tup ys)).trans (af Dt (.tup [.int (0+(j:Int)),.ref t2]));have vt:aS K (upd (upd H6 t2 (.tup ys)) tV (.tup [.int (0+(j:Int)),.ref t2])) t2 ys:=(af Dt _).tup (aS.of ae);have vn:aS K (upd (upd H6 t2 (.tup ys)) tV (.tup [.int (0+(j:Int)),.ref t2])) tV [.int (j:Int),.ref t2]:=by
      have:aS K (upd (upd H6 t2 (.tup ys)) tV (.tup [.int (0+(j:Int)),.ref t2])) tV [.int (0+(j:Int)),.ref t2]:=aS.of ae;rw [j6] at this ⊢;exact this
     generalize upd (upd H6 t2 (.tup ys)) tV (.tup [.int (0+(j:Int)),.ref t2])=H7 at k7 vt vn;have uv:=s6.trans k7;have L7:=L5.same uv;refine⟨_,rfl,_,rfl,L,_,rfl,.inl ⟨kvs,Sum.inr ru.1,L7.hL,rfl,bN ∅,rfl⟩,?_⟩;have kt:∀a xs,aS K H7 a xs->aS K (upd H7 L (.dK (bU kvs (Sum.inr ru.1) (.ref tV)))) a xs:=λa xs z=>by
      rcases z with (z | ⟨u,z⟩) | z
      .exact .inl (.inl (by rw [aj (λy=>by rw [y,L7.hL] at z;cases z)];exact z))
      .exact .inl (.inr ⟨u,by rw [aj (λy=>by rw [y,L7.hL] at z;cases z)];exact z⟩)
      exact .inr z
     refine⟨i5++[ru.1],bU kvs (Sum.inr ru.1) (.ref tV),_,_,_,rfl,λb o hb=>?_,?_,⟨ae,?_,λz v e=>?_,?_,λz hz=>?_⟩,?_⟩
     .rw [aj (λz=>by rw [z,fL] at hb;cases hb)];exact(tP.trans uv) b o hb
     .rw [aj nL];exact uv _ _ (s5 _ _ DE)
     .rw [iJ (by rw [L4.ky];exact λz=>YQ (cO.mp z)),L4.ky,bH];rfl
     .rw [rD] at e;rw [a9,gy];by_cases cz:(Sum.inr z:aR)=Sum.inr ru.1
      .rw [ax cz] at e;cases e;have ez:z=ru.1:=by injection cz
       refine⟨.n j (gS.lP ts),?_,?_⟩
       .unfold fX;exact⟨tV,t2,ys,rfl,kt _ _ vn,kt _ _ vt,hZ.P0 (Paired.fc p1 λ_ t y=>fX.keep (λ_ _ x=>kt _ _ (k7.tup x)) t y)⟩
       rw [ez];exact jk.node e1 MX p2
      rw [ay cz] at e;obtain⟨t,a,b⟩:=L7.tr z v e;exact⟨t,fX.keep kt t a,b.up (mf _)⟩
     .exact j7.mpr ⟨L4.nd,by simp,λa ha b hb e=>YQ (by rw [<-bF.mp hb,<-e];exact ha)⟩
     .rcases bR.mp hz with h | h
      .exact L4.sub z h
      rw [bF.mp h];exact cY.mpr ⟨ru,b_ e1,rfl⟩
     rw [pe];unfold dN;rw [c,jo,ax c2]
    refine⟨i5,kvs,_,_,_,rfl,tP,s5 _ _ DE,L5,?_⟩;rw [pe];unfold dN;rw [ay (λz=>c (gF.mp z).1)]
   refine⟨i5,kvs,_,_,_,rfl,s4,DE,L4,?_⟩;rw [pe];unfold dN;rw [ay (λz=>c2 (gF.mp z).2)]
  rintro σ H4 ⟨i5,kvs,y1,y2,y6,rfl,s4,DE,L4,Az⟩;rw [cH] at Az;exact⟨i5,kvs,_,_,_,_,rfl,s4,DE,L4,by rw [Az,he];rfl⟩
 rintro σ H3 ⟨es,kvs,y1,y2,y5,y6,rfl,s3,Iw,L3,he⟩;rw [au,ll] at he;refine⟨_,rfl,?_⟩;have e:cM true aa=es:=he.symm;rw [<-e] at L3;exact q L kvs H3 fL s3 L3 (dY (iY _ _ L3.nd λz hz=>M3 z (L3.sub z hz)) SJ)
end
end hV
namespace L2
open PySem
def cX.Sh {K:ba}{C:Addr}{H H':Hp}{xs:List V}(s:cX C H H')(h:H C=some (.lst xs)):∀a ys,aS K H a ys->aS K H' a ys:=λa ys z=>by
 rcases z with (z | ⟨u,z⟩) | z
 .exact .inl (.inl (s _ _ (λy=>by rw [y,h] at z;cases z) z))
 .exact .inl (.inr ⟨u,s _ _ (λy=>by rw [y,h] at z;cases z) z⟩)
 exact .inr z
end L2
namespace hV
open PySem L2 M11
abbrev zJ:Stmt:=top 56
abbrev v9:Stmt:=top 58
def k0 (ks:List Nat):List V:=ks.map λk:Nat=>V.int (k:Int)
def XG {ks:List Nat}(h:ks≠[]) (n:Int):(0:Int) < ((k0 ks).length:Int)/\∃k∈ks,ke (k0 ks) (n % ((k0 ks).length:Int))=some (.int (k:Int)):=by
 have l0:0 < ks.length:=List.length_pos_iff.mpr h;have le:(k0 ks).length=ks.length:=by unfold k0;rw [au]
 have hp:(0:Int) < (ks.length:Int):=by omega
 have lt:(n % (ks.length:Int)).toNat < ks.length:=by
  have:=vp n hp;have:=qX n (show (ks.length:Int)≠0 by omega);omega
 have eN:(((n % (ks.length:Int)).toNat:Nat):Int)=n % (ks.length:Int):=by
  have:=qX n (show (ks.length:Int)≠0 by omega);omega
 rw [le];refine⟨hp,ks[(n % (ks.length:Int)).toNat],qZ lt,?_⟩;have:=b0 (xs:=k0 ks) (j:=(n % (ks.length:Int)).toNat) (v:=.int ((ks[(n % (ks.length:Int)).toNat]:Nat):Int)) (by unfold k0;rw [bz,dH lt];rfl);rw [eN] at this;exact this
def A2.xJ {K:ba}{H H':Hp}{L C:Addr}{aa:List ar}{es:List Str}{kvs:List (aR×V)}{xs:List V}(l:A2 K H L aa es kvs)(s:cX C H H')(h:H C=some (.lst xs)):A2 K H' L aa es kvs :=
 ⟨s _ _ (λy=>by have:=l.hL;rw [y,h] at this;cases this) l.hL,l.ky,λz v e=>let ⟨t,a,b⟩:=l.tr z v e;⟨t,fX.keep (s.Sh h) t a,b⟩,l.nd,l.sub⟩
section
structure AY (K:ba)(H:Hp)(R L C:Addr)(rs:List Addr)(aa:List ar) (es:List Str)(kvs:List (aR×V))(cs:List Int):Prop where
 hR:H R=some (.lst (rs.map V.ref))
 cA:bL K H rs aa
 len:aa.length<=8
 h3:∀ru∈aa,ru.2.length<=3
 ls:A2 K H L aa es kvs
 all:∀z∈hm aa,z∈es
 Qj:es.length<=3
 hC:H C=some (.lst (cs.map V.int))
 xl:cs.length<=1000
 nR:R≠C
def AY.go {H H':Hp}{R L C:Addr}{rs:List Addr}{aa:List ar}{es:List Str}{kvs:List (aR×V)}{cs IC:List Int}(h:AY K H R L C rs aa es kvs cs)(s:cX C H H')(e:H' C=some (.lst (IC.map V.int)))(l:IC.length<=cs.length):AY K H' R L C rs aa es kvs IC :=
 ⟨s _ _ h.nR h.hR,h.cA.keep (s.Sh h.hC),h.len,h.h3,h.ls.xJ s h.hC,h.all,h.Qj,e,dY l h.xl,h.nR⟩
def vO (K:ba) (m:Nat):Sp:=λvs H Q _=>∃(R L C:Addr)(rs:List Addr)(aa:List ar) (es:List Str)(kvs:List (aR×V))(cs:List Int)(x:Str) (n:Nat),vs=[.ref R,.ref L,.str x,.ref C,.int (n:Int)]/\m=n+1/\AY K H R L C rs aa es kvs cs/\x∈es /\
 ∀(v:V)(t:Tr)(IC:List Int)(H':Hp),cX C H H'->H' C=some (.lst (IC.map V.int))->IC.length<=cs.length->fX K H' t v->jk aa (3+n) t x->Q v H'
abbrev NTl:List Str:=["_law_rules","_law_least_here","_law_name","_law_cells","_law_deep","_law_numbers","_law_number","_law_children","_law_part"]
def jR:aK NTl ["_law_rules","_law_least_here","_law_name","_law_cells","_law_deep"] (av zJ):=iN rfl rfl rfl rfl nofun
theorem xZ (F:iC K "_law_tree" "_law_tree" zJ f fd)(T:Txt mg)(b1:Binds K fd ["_law_rules","_law_least_here","_law_name","_law_cells","_law_deep"] [])(m1:mg "_law_tree"=some (.ref f)):∀n,bS P w K mg base gp n f fd ["_law_rules","_law_least_here","_law_name","_law_cells","_law_deep"] (vO K n)
 | 0=>⟨λvs H Q E ⟨_,_,_,_,_,_,_,_,_,_,e,_⟩=>by rw [e];rfl,λA outer s H args us vs Q E _ _ _ _ ⟨_,_,_,_,_,_,_,_,_,_,_,h,_⟩=>by cases h⟩
 | m+1=>by
  have G:aC P w K mg base m "_law_tree" ["_law_rules","_law_least_here","_law_name","_law_cells","_law_deep"] (vO K m):=⟨f,fd,xZ F T b1 m1 m,b1,F.kp,m1⟩;refine F.ok jR (λvs H Q E h=>?_) (λeY A outer s H vs Q E hr h=>?_)
  .obtain⟨_,_,_,_,_,_,_,_,_,_,rfl,_⟩:=h;rfl
  obtain⟨R,L,C,rs,aa,es,kvs,cs,x,n,rfl,em,I0,hx,q⟩:=h;obtain rfl:m=n:=Nat.succ.inj em;have hu:=gi hr;have VC:=Nat.lt_of_succ_lt hu;refine⟨_,ai (az (i:=5) jR.nd rfl (bC rfl) (a_ ag))
   (ai (bM cq rfl (gO rfl T.CB (ab (aD aG rfl T.len cZ (ab (pv 0) ag)) ag)) (aq (i:=6) jR.nd rfl (bC rfl))
    (ak (bJ (aX hU (aL aZ (aL bB (pv 0) (pv 6) (λ_ _=>rfl)) ao (λ_ _=>rfl)) (pv 2) (bK _))
     (ak (cJ (g_ gG gX gY bV (pv 5) (ab (pv 6) ag)))) aQ)))
   (ai (bJ (PW.pt (lZ (aX (CI VC) (pv 3) (a_ ag) (bK _)) (jT (aX hU (pv 4) ao (bK _))))) (ak (aN (fu hu (pv 1) (pv 2) (λ_ _=>rfl)))) aQ)
   (ai (az (i:=6) jR.nd rfl (bC rfl) (aL bB (pv 5) (aI df (Fx gG PySem.F.slot_list_pop PySem.F.type_list_pop F8 (pv 3)) (aD aG rfl T.len cZ (ab (pv 5) ag))) (λ_ _=>rfl)))
   (ai (az (i:=7) jR.nd rfl (bC rfl) (a_ ag))
   (ai (bM cq rfl (f_ (aL aZ (aL bB (pv 0) (pv 6) (λ_ _=>rfl)) ao (λ_ _=>rfl))) (aq (i:=8) jR.nd rfl (bC rfl))
    (ai (iL (bJ (eK (jh hu (pv 8) (pv 1))) (ak (az (i:=8) jR.nd rfl (bC rfl) (bp G hr rfl (ab (pv 0) (ab (pv 1) (ab (pv 8) (ab (pv 3) (ab (aI mC (pv 4) ao) ag)))))))) aQ))
    (ak (cJ (g_ gG gX gY bV (pv 7) (ab (pv 8) ag))))))
   (ak (aN (bo (ab (pv 6) (ab (bc dS rfl T.tup mY (ab (pv 7) ag)) ag)))))))))),?_⟩
  nofun
  have ll:=aU I0.cA;have len:=I0.len;have fw:=I0.xl;refine⟨rC,λN hN=>?_⟩;have k1:=af hN (.lst []);have e1:upd H N (.lst []) N=some (.lst []):=ae;have nNC:N≠C:=λz=>by rw [z,I0.hC] at hN;cases hN
  generalize upd H N (.lst [])=H1 at k1 e1;refine goN ?_
  ac_rfl
  refine⟨_,rfl,R,_,rfl,.inl (aH.of (k1 _ _ I0.hR)),((rs.map V.ref).length:Int),rfl,by rw [au];omega,by rw [au];omega,?_⟩;rw [show (((rs.map V.ref).length:Nat):Int).toNat=aa.length by rw [au];omega]
  let qw:pL:=λi σ H5=>∃(ks:List Nat)(y6:Option V),σ=[aM R,aM L,some (.str x),aM C,some (.int (m:Int)),aM N,y6,none,none]/\aA H H5/\H5 N=some (.lst (k0 ks))/\ks.length<=i/\(∀k∈ks,∃ru,aa[k]?=some ru/\ru.1=x)/\∀(k:Nat)(ru:ar),k < i->aa[k]?=some ru->ru.1=x->k∈ks
  refine gQ (n:=aa.length) qw
   ⟨[],none,rfl,k1,e1,aF _,(λk h=>by cases h),λk _ h=>by omega⟩ ?_ ?_
  .intro i σ H5 hi jX
   ac_nf0
   obtain⟨ks,y6,rfl,s5,e5,l5,m5,c5⟩:=jX;have er:aa[i]?=some aa[i]:=dH hi;generalize iZ:aa[i]=ru at er;obtain⟨r,err,p,v1,v2⟩:=Paired.at_ I0.cA i ru er;have u9:ke (rs.map V.ref) (0+(i:Int))=some (.ref r):=by
    rw [j6];exact b0 (by rw [bz,err];rfl)
   refine goN ?_
   ac_nf
   refine⟨_,rfl,_,rfl,R,_,_,_,rfl,rfl,aH.of (s5 _ _ I0.hR),u9,r,_,_,_,rfl,rfl,s5.tup v1,rfl,_,rfl,rfl,decide (ru.1=x),?_,?_⟩
   .show V.bl (decide (V.str ru.1=V.str x))=_;by_cases h:ru.1=x
    .rw [bh h,bh (congrArg V.str h)]
    rw [b8 h,b8 (λy=>h (by injection y))]
   refine cg (λc=>?_) (λc=>?_)
   .have c':=c_ c;refine⟨_,rfl,.inl ⟨rfl,_,aH.of e5⟩,_,rfl,N,_,_,rfl,rfl,e5,bN (by unfold k0;rw [au];omega),?_⟩;refine⟨ks++[i],_,rfl,?_,?_,by rw [a9,gy];omega,λk hk=>?_,λk Ie lk e2 h2=>?_⟩
    .intro b o hb;rw [aj (λz=>by rw [z,hN] at hb;cases hb)];exact s5 b o hb
    .rw [ae];unfold k0;rw [bH,j6];rfl
    .rcases bR.mp hk with h | h
     .exact m5 k h
     rw [bF.mp h];exact⟨ru,er,c'⟩
    by_cases ck:k < i
    .exact ib _ (c5 k Ie ck e2 h2)
    have:k=i:=by omega
    rw [this];exact fR _ cI
   refine⟨ks,_,rfl,s5,e5,∅,m5,λk Ie lk e2 h2=>?_⟩;by_cases ck:k < i
   .exact c5 k Ie ck e2 h2
   have:k=i:=by omega
   rw [this,er] at e2;cases e2;exact absurd (bh h2) c
  rintro σ H5 ⟨ks,y6,rfl,s5,e5,l5,m5,c5⟩;have ksn:ks≠[]:=by
   obtain⟨ru,iZ,ex⟩:=cY.mp (I0.ls.sub x hx);obtain⟨k,ek⟩:=iI iZ;have:=c5 k ru (bu.mp ek).1 ek ex;exact λz=>by rw [z] at this;cases this
  have I5:=I0.go (IC:=cs) (λb o _ h=>s5 b o h) (s5 _ _ I0.hC) (aF _);obtain⟨lv,lt,el,tl,Sv⟩:=I5.ls.get hx;have leaf:∀{H6:Hp},aA H5 H6->Q lv H6:=λs6=>q lv lt cs _ (λb o _ h=>s6 _ _ (s5 _ _ h)) (s6 _ _ I5.hC) (aF _) (fX.keep (λ_ _ y=>s6.tup y) lt tl) (Sv.up (by have:=I0.Qj;omega));have Qg:∀{H6:Hp},aA H5 H6->cu H6 L (.str x) (some lv):=λs6=>by
   have:=cu.k (k:=Sum.inr x) (s6 _ _ I5.ls.hL);rw [el] at this;exact this
  refine⟨_,rfl,rC,λL4 hL4=>?_⟩;have k6:=af hL4 (.lst []);have e6:upd H5 L4 (.lst []) L4=some (.lst []):=ae;generalize upd H5 L4 (.lst [])=H6 at k6 e6;have I6:=I5.go (IC:=cs) (λb o _ h=>k6 b o h) (k6 _ _ I5.hC) (aF _);refine⟨C,L4,_,rfl,rfl,aH.of I6.hC,aH.of e6,_,rfl,?_⟩;refine cg (λc=>?_) (λc=>?_)
  .exact⟨_,rfl,_,rfl,L,_,rfl,Qg k6,leaf k6⟩
  refine⟨_,rfl,rfl,decide ((m:Int)=0),?_,?_⟩
  .show V.bl (decide (V.int (m:Int)=V.int 0))=_;by_cases h:(m:Int)=0
   .rw [bh h,bh (congrArg V.int h)]
   rw [b8 h,b8 (λy=>h (by injection y))]
  refine cg (λc2=>?_) (λc2=>?_)
  .exact⟨_,rfl,_,rfl,L,_,rfl,Qg k6,leaf k6⟩
  have m0:(m:Int)≠0:=λz=>c2 (bh z);obtain⟨m',rfl⟩:∃m',m=m'+1:=⟨m - 1,∅⟩;have csn:cs≠[]:=λz=>by rw [z] at c;exact c rfl
  obtain⟨DM,c0,rfl⟩:∃DM c0,cs=DM++[c0]:=⟨cs.dropLast,cs.getLast csn,(List.dropLast_concat_getLast csn).symm⟩;have Wy:=I6.hC;rw [bH] at Wy;refine⟨_,rfl,_,rfl,.inl ⟨rfl,_,aH.of Wy⟩,C,_,.int c0,rfl,rfl,Wy,xR,?_⟩;rw [show (DM.map V.int++[c0].map V.int).dropLast=DM.map V.int from ue ..];have k7:cX C H6 (upd H6 C (.lst (DM.map V.int))):=λb o nb hb=>by rw [aj nb];exact hb
  have e7:upd H6 C (.lst (DM.map V.int)) C=some (.lst (DM.map V.int)):=ae;have W6:upd H6 C (.lst (DM.map V.int)) N=some (.lst (k0 ks)):=by rw [aj nNC];exact k6 _ _ e5
  generalize upd H6 C (.lst (DM.map V.int))=H7 at k7 e7 W6;have I7:=I6.go k7 e7 (by rw [a9];omega);obtain⟨hp,k,hk,ek⟩:=XG ksn c0;obtain⟨ru,er,rfl⟩:=m5 k hk;refine⟨_,rfl,N,_,rfl,.inl (aH.of W6),_,_,rfl,rfl,hp,N,_,_,_,rfl,rfl,aH.of W6,ek,?_⟩;refine⟨rC,λD hD=>?_⟩;have k8:=af hD (.lst []);have e8:upd H7 D (.lst []) D=some (.lst []):=ae;have U9:D≠C:=λz=>by rw [z,e7] at hD;cases hD
  have nRD:R≠D:=λz=>by
   have h:=I7.hR;rw [z,hD] at h;cases h
  generalize upd H7 D (.lst [])=H8 at k8 e8;have I8:=I7.go (IC:=DM) (λb o _ h=>k8 b o h) (k8 _ _ e7) (aF _);obtain⟨r,err,p,v1,v2⟩:=Paired.at_ I8.cA k ru er;have u9:ke (rs.map V.ref) (k:Int)=some (.ref r):=b0 (by rw [bz,err];rfl);have MX:=I0.h3 ru (b_ er);refine⟨_,rfl,_,rfl,R,_,_,_,rfl,rfl,aH.of I8.hR,u9,r,_,_,_,rfl,rfl,v1,rfl,p,rfl,⟨_,v2⟩,?_⟩
  let A3:pL:=λi σ H9=>∃(Lo:List Int)(ys:List V)(ts:List Tr)(y8:Option V),σ=[aM R,aM L,some (.str ru.1),aM C,some (.int ((m'+1:Nat):Int)),aM N,some (.int (k:Int)),aM D,y8]/\(∀b o,b≠C->b≠D->H8 b=some o->H9 b=some o)/\AY K H9 R L C rs aa es kvs Lo/\Lo.length<=DM.length/\H9 D=some (.lst ys)/\aS K H9 p (ru.2.map V.str)/\Paired (λv t=>fX K H9 t v) ys ts/\Paired (λt z=>jk aa (3+m') t z) ts (ru.2.take i)
  refine oq (xs:=ru.2.map V.str) A3
   ⟨DM,[],[],none,rfl,λb o _ _ h=>h,I8,aF _,e8,v2,.nil,.nil⟩ ?_ ?_ ?_
  .rintro i σ H9 _ ⟨Lo,ys,ts,y8,rfl,_,_,_,_,SI,_⟩;exact SI
  .intro i z0 σ H9 ZU jX
   ac_nf0
   obtain⟨Lo,ys,ts,y8,rfl,s9,I9,l9,W9,SI,p1,p2⟩:=jX;rw [bz] at ZU;obtain⟨z,ez,rfl⟩:=cD.mp ZU;have li:=(bu.mp ez).1;have l1:=aU p1;have l2:=aU p2;rw [bQ] at l2;refine goN ?_
   ac_rfl
   refine⟨λσ HA=>∃(OQ:List Int)(v:V)(t:Tr),σ=[aM R,aM L,some (.str ru.1),aM C,some (.int ((m'+1:Nat):Int)),aM N,some (.int (k:Int)),aM D,some v]/\cX C H9 HA/\AY K HA R L C rs aa es kvs OQ/\OQ.length<=DM.length/\fX K HA t v/\jk aa (3+m') t z,?_,?_⟩
   .refine⟨_,rfl,_,rfl,L,_,rfl,cu.k (k:=Sum.inr z) I9.ls.hL,_,rfl,?_⟩;rw [I9.ls.at_ z];refine cg (λcz=>?_) (λcz=>?_)
    .refine⟨_,rfl,_,rfl,_,rfl,_,rfl,_,rfl,_,_,rfl,rfl,?_⟩;refine⟨R,L,C,rs,aa,es,kvs,Lo,z,m',(by show [V.ref R,V.ref L,V.str z,V.ref C,V.int (((m'+1:Nat):Int) - 1)]=_;rw [show (((m'+1:Nat):Int) - 1)=(m':Int) by omega]),rfl,I9,c_ cz,λv t OQ HA sA eA lA T7 UO=>?_⟩;exact⟨OQ,v,t,rfl,sA,I9.go sA eA lA,dY lA l9,T7,UO⟩
    have nz:z∉es:=λh=>cz (bh h);exact⟨Lo,.str z,.w z,rfl,λ_ _ _ h=>h,I9,l9,by unfold fX;rfl,jk.word λh=>nz (I0.all z (kb.mpr h))⟩
   rintro σ HA ⟨OQ,v,t,rfl,sA,IA,lA,T7,UO⟩;have Ti:=sA _ _ U9 W9;have kt:∀a xs,aS K HA a xs->aS K (upd HA D (.lst (ys++[v]))) a xs:=λ_ _ z=>a7 Ti z;refine⟨_,rfl,.inl ⟨rfl,_,aH.of Ti⟩,_,rfl,D,_,_,rfl,rfl,Ti,bN ∅,?_⟩;have sB2:cX D HA (upd HA D (.lst (ys++[v]))):=λb o nb hb=>by rw [aj nb];exact hb
   refine⟨OQ,ys++[v],ts++[t],_,rfl,λb o nC nD h=>?_,⟨?_,IA.cA.keep kt,IA.len,IA.h3,IA.ls.xJ sB2 Ti,IA.all,IA.Qj,?_,IA.xl,IA.nR⟩,lA,ae,kt _ _ (sA.Sh I9.hC _ _ SI),?_,?_⟩
   .rw [aj nD];exact sA _ _ nC (s9 _ _ nC nD h)
   .rw [aj nRD];exact IA.hR
   .rw [aj (gC U9)];exact IA.hC
   .exact aW (Paired.fc p1 λ_ t y=>fX.keep (λ_ _ x=>kt _ _ (sA.Sh I9.hC _ _ x)) t y) (.cons (fX.keep kt t T7) .nil)
   rw [cQ,ez];exact aW p2 (.cons UO .nil)
  rintro σ H9 ⟨Lo,ys,ts,y8,rfl,s9,I9,l9,W9,SI,p1,p2⟩;rw [au,cH] at p2;refine⟨_,rfl,_,rfl,D,_,rfl,.inl ⟨aH.of W9,λt2 Nr=>⟨iQ,λnd ZN=>?_⟩⟩⟩;have kA:=(af Nr (.tup ys)).trans (af ZN (.tup [.int (k:Int),.ref t2]));have vt:aS K (upd (upd H9 t2 (.tup ys)) nd (.tup [.int (k:Int),.ref t2])) t2 ys:=(af ZN _).tup (aS.of ae);have vn:aS K (upd (upd H9 t2 (.tup ys)) nd (.tup [.int (k:Int),.ref t2])) nd [.int (k:Int),.ref t2]:=aS.of ae;generalize upd (upd H9 t2 (.tup ys)) nd (.tup [.int (k:Int),.ref t2])=HA at kA vt vn;refine q (.ref nd) (.n k (gS.lP ts)) Lo HA (λb o nC h=>?_) (kA _ _ I9.hC) (by rw [a9];omega) ?_ ?_
  .refine kA _ _ (s9 _ _ nC (λz=>?_) (k8 _ _ (k7 _ _ nC (k6 _ _ (s5 _ _ h)))));rw [z] at h;rw [k7 _ _ U9 (k6 _ _ (s5 _ _ h))] at hD;cases hD
  .unfold fX;exact⟨nd,t2,ys,rfl,vn,vt,hZ.P0 (Paired.fc p1 λ_ t y=>fX.keep (λ_ _ x=>kA.tup x) t y)⟩
  exact jk.node er MX p2
end
theorem wk:∀(ds:List Dd),(ds.flatMap EI).length<=ds.length
 | []=>aF _
 | .step z::r=>by rw [mV,a9,dZ];have:=wk r;show 1+_<=_;omega
 | .make k::r=>by rw [mV,a9,dZ];have:=wk r;show 0+_<=_;omega
def Mg (t:Tr):(row t).length<=sz t:=by
 have h1:=wk (jL t);have h2:=oA t;rw [qz] at h1;omega
section
def xE (K:ba):Sp:=λvs H Q _=>∃(R C:Addr)(rs:List Addr)(aa:List ar) (fM:List Str)(cs:List Int)(x:Str),vs=[.ref R,.str x,.ref C]/\H R=some (.lst (rs.map V.ref))/\bL K H rs aa/\aa.length<=8/\(∀ru∈aa,ru.2.length<=3)/\fM.length<=3/\(∀z∈hm aa,z∈fM)/\(∀z∈hm aa,z∈cM true aa)/\aH K H C (cs.map V.int)/\cs.length<=1000/\x∈hm aa /\
 ∀(v:V)(t:Tr)(H':Hp),aA H H'->fX K H' t v->jk aa 9 t x->(row t).length<=40->Q v H'
abbrev NDt:List Str:=["_law_rules","_law_name","_law_cells","_law_least_here","_law_tree_here"]
def rO:aK NDt ["_law_rules","_law_name","_law_cells"] (av v9):=iN rfl rfl rfl rfl nofun
def CO (F:iC K "_law_drawn_tree" "_law_drawn_tree" v9 f fd)(T:Txt mg)(GL:aC P w K mg base 10 "_law_least" ["_law_rules"] (xD K))(GT:aC P w K mg base 10 "_law_tree" ["_law_rules","_law_least_here","_law_name","_law_cells","_law_deep"] (vO K 7))
  (GD:aC P w K mg base 10 "_law_deeds" ["_law_tree_here"] (nv K 10)):bS P w K mg base gp 11 f fd ["_law_rules","_law_name","_law_cells"] (xE K):=by
 refine F.ok rO (λvs H Q E h=>?_) (λeY A outer s H vs Q E hr h=>?_)
 .obtain⟨R,C,rs,aa,fM,cs,x,rfl,_⟩:=h;rfl
 obtain⟨R,C,rs,aa,fM,cs,x,rfl,hR,cA,bE,h3,SJ,M3,Nb,hC,GQ,hx,q⟩:=h;have hu:=gi hr;refine⟨_,ai (az (i:=3) rO.nd rfl (bC rfl) (bp GL hr rfl (ab (pv 0) ag)))
  (ai (az (i:=4) rO.nd rfl (bC rfl) (bp GT hr rfl (ab (pv 0) (ab (pv 3) (ab (pv 1) (ab (bc fI rfl T.lst gI (ab (pv 2) ag)) (ab ao ag)))))))
  (ai (bJ (aX xX (aD aG rfl T.len cZ (ab (bD ["_law_deed"] [] rfl (a8 (bp GD hr rfl (ab (pv 4) ag))) (br rfl rfl) nofun rfl nofun
    (λ_ _ _ _ _=>aq (i:=0) (show (["_law_deed"]:List Str).Nodup by decide +kernel) rfl (bC rfl)) (λ_ _ _ _ _=>iq (aX hU (aL (wH K) (pv 0) ao (λ_ _=>rfl)) bx (bK _))) (λ_ _ _ _ _=>pv 0)) ag)) ao (bK _))
   (ak (aN (fu hu (pv 3) (pv 1) (λ_ _=>rfl)))) aQ)
  (ak (aN (pv 4))))),?_⟩
 nofun
 refine⟨_,rfl,R,rs,aa,fM,rfl,aH.of hR,cA,bE,h3,SJ,M3,λL kvs H1 fL s1 L1 l3=>?_⟩;refine⟨_,rfl,_,rfl,_,rfl,_,rfl,C,_,rfl,.inl (s1.seq hC),λC2 y_=>?_⟩;have k2:=af y_ (.lst (cs.map V.int));have e2:upd H1 C2 (.lst (cs.map V.int)) C2=some (.lst (cs.map V.int)):=ae;have fC:H C2=none:=s1.free y_;have nRC:R≠C2:=λz=>by rw [z,fC] at hR;cases hR
 generalize upd H1 C2 (.lst (cs.map V.int))=H2 at k2 e2;have s2:=s1.trans k2;have I2:AY K H2 R L C2 rs aa (cM true aa) kvs cs:=⟨s2 _ _ hR,cA.same s2,bE,h3,L1.same k2,Nb,l3,e2,GQ,nRC⟩;refine⟨R,L,C2,rs,aa,cM true aa,kvs,cs,x,6,rfl,rfl,I2,Nb x hx,λv t IC H3 sT e3 l' tv ok=>?_⟩;have s3:aA H H3:=λb o hb=>sT b o (λz=>by rw [z,fC] at hb;cases hb) (s2 b o hb);have I3:=I2.go sT e3 l';obtain⟨lv,lt,el,tl,Sv⟩:=I3.ls.get (Nb x hx);have dt:=ok.deep;have st:sz t<=29524:=dY ok.size nofun;refine⟨_,rfl,v,t,rfl,tv,∅,∅,λD as H4 fD s4 eD pd=>?_⟩;have lad:=aU pd;have Y2:=oA t;refine⟨D,rfl,⟨_,aH.of eD⟩,λD2 jc=>cN (xs:=as.map V.ref) (λk ys σ2 HC=>ys.length=(((jL t).take k).flatMap EI).length/\(∃y0,σ2=[y0])/\aA H4 HC/\HC D2=some (.lst ys))
    ⟨rfl,⟨none,rfl⟩,af jc _,ae⟩ (λk ys σ2 HC _ h=>?_) (λk y ys σ2 HC ex h=>?_) (λys σ2 HC h=>?_)⟩
 .obtain⟨_,_,sC,_⟩:=h;exact aH.of (sC _ _ eD)
 .obtain⟨ly,⟨y0,rfl⟩,sC,eC⟩:=h;rw [bz] at ex;obtain⟨ad,ead,rfl⟩:=cD.mp ex;have li:=(bu.mp ead).1;obtain⟨d,ed⟩:∃d,(jL t)[k]?=some d:=⟨(jL t)[k]'∅,dH ∅⟩;obtain⟨ad',Rt,vd⟩:=Paired.at_ pd k d ed;rw [ead] at Rt;cases Rt;have Tq:ys.length<=1000000:=by
   have:=wk ((jL t).take k);rw [bQ] at this;omega
  have G8:((jL t).take (k+1)).flatMap EI=((jL t).take k).flatMap EI++EI d:=by
   rw [cQ,ed,i6];simp
  refine goN ?_;cases d with
  | step z =>
   have vA:aS K HC ad [.str "step",.str z]:=aS.of (sC _ _ vd);refine⟨_,rfl,ad,_,_,_,rfl,rfl,vA,rfl,rfl,_,rfl,?_⟩;refine d8 ?_;refine⟨_,rfl,eC,bN Tq,?_,⟨_,rfl⟩,λb o hb=>?_,ae⟩
   .rw [G8,a9,a9,ly];rfl
   rw [aj (λz=>by rw [z,jc] at hb;cases hb)];exact sC b o hb
  | make k2 =>
   have vA:aS K HC ad [.str "make",.int (k2:Int)]:=aS.of (sC _ _ vd);refine⟨_,rfl,ad,_,_,_,rfl,rfl,vA,rfl,rfl,_,rfl,?_⟩;refine cU ?_;refine⟨?_,⟨_,rfl⟩,sC,eC⟩;rw [G8];show _=(_++[]).length;rw [iS];exact ly
 obtain⟨ly,_,sC,eC⟩:=h;rw [au,mX ∅,qz] at ly;have s5:=s4.trans sC;have T8:=fX.keep (λ_ _ z=>s5.tup z) t tv;refine⟨D2,_,rfl,.inl (aH.of eC),_,_,rfl,rfl,_,rfl,?_⟩;refine cg (λc=>?_) (λc=>?_)
 .have lg:cu HC L (.str x) (some lv):=by
   have:=cu.k (k:=Sum.inr x) (s5 _ _ I3.ls.hL);rw [el] at this;exact this
  refine⟨_,rfl,_,rfl,L,_,rfl,lg,?_⟩;refine q lv lt HC (s3.trans s5) (fX.keep (λ_ _ y=>s5.tup y) lt tl) (Sv.up ∅) ?_;have h1:=Mg lt;have h2:sB (cM true aa).length<=sB 3:=Kw l3;have h4:sB 3=40:=rfl;have:=Sv.size;omega
 refine⟨_,rfl,q v t HC (s3.trans s5) T8 ok ?_⟩;have c':¬(40:Int) < (ys.length:Int):=λh=>c (bh h);omega
end
abbrev rQ:Stmt:=top 62
def Oa:De->Nat
 | .d (.step _)=>1
 | _=>0
def mR:List De->Nat
 | []=>0
 | d::r=>Oa d+mR r
theorem gq:∀(xs ys:List De),mR (xs++ys)=mR xs+mR ys
 | [],ys=>by show mR ys=0+mR ys;omega
 | d::r,ys=>by show Oa d+mR (r++ys)=(Oa d+mR r)+mR ys;rw [gq r ys];omega
def EJ:∀d:De,Oa d<=1
 | .d (.step _)=>aF _
 | .d (.make _)=>dX _
 | .si _=>dX _
 | .no=>dX _
 | .dn=>dX _
def IU:∀xs:List De,mR (xs.take 1)<=1
 | []=>dX _
 | d::_=>EJ d
def Bh (d:De):mR [d]<=1:=EJ d
def ju (xs:List De) (n:Nat):mR (xs.take n)+mR (xs.drop n)=mR xs:=by
 rw [<-gq,pT]
def nu (xs:List De) (n:Nat):mR ((xs.drop n).take 1)+mR (xs.drop (n+1))=mR (xs.drop n):=by
 have:=ju (xs.drop n) 1;rw [List.drop_drop] at this;exact this
def OT (aa:List ar)(es i5:List De):Prop:=(∀d∈i5,jI aa d)/\mR i5<=mR es+1/\i5.length<=es.length+1
def Ut {aa:List ar}{es:List De}(h:∀d∈es,jI aa d) (a:Nat):OT aa es (es.take a++es.drop (a+1)):=by
 have h1:=ju es a;have h2:=nu es a;refine⟨λd hd=>?_,?_,?_⟩
 .rcases bR.mp hd with q | q
  .exact h d (i7 q)
  exact h d (mW q)
 .rw [gq];omega
 rw [a9,bQ,fg];omega
def Us {aa:List ar}{es:List De}(h:∀d∈es,jI aa d) (a:Nat):OT aa es (es.take a++(es.drop a).take 1++es.drop a):=by
 have h1:=ju es a;have h2:=IU (es.drop a);refine⟨λd hd=>?_,?_,?_⟩
 .rcases bR.mp hd with q | q
  .rcases bR.mp q with q | q
   .exact h d (i7 q)
   exact h d (mW (i7 q))
  exact h d (mW q)
 .rw [gq,gq];omega
 rw [a9,a9,bQ,bQ,fg];omega
def Ur {aa:List ar}{es:List De}(h:∀d∈es,jI aa d) (a:Nat):OT aa es (es.take a++((es.drop (a+1)).take 1++(es.drop a).take 1)++es.drop (a+2)):=by
 have h1:=ju es a;have h2:=nu es a;have h3:mR ((es.drop (a+1)).take 1)+mR (es.drop (a+2))=mR (es.drop (a+1)):=nu es (a+1);refine⟨λd hd=>?_,?_,?_⟩
 .rcases bR.mp hd with q | q
  .rcases bR.mp q with q | q
   .exact h d (i7 q)
   rcases bR.mp q with q | q
   .exact h d (mW (i7 q))
   exact h d (mW (i7 q))
  exact h d (mW q)
 .rw [gq,gq,gq];omega
 rw [a9,a9,a9,bQ,bQ,bQ,fg,fg,fg];omega
def Uq {aa:List ar}{es:List De}{o:De}(h:∀d∈es,jI aa d)(ho:jI aa o) (a:Nat)(la:a < es.length):OT aa es (es.take a++[o]++es.drop (a+1)):=by
 have h1:=ju es a;have h2:=nu es a;have h3:=Bh o;refine⟨λd hd=>?_,?_,?_⟩
 .rcases bR.mp hd with q | q
  .rcases bR.mp q with q | q
   .exact h d (i7 q)
   rw [bF.mp q];exact ho
  exact h d (mW q)
 .rw [gq,gq];omega
 rw [a9,a9,bQ,fg,gy];omega
def Up {aa:List ar}{es:List De}{o:De}(h:∀d∈es,jI aa d)(ho:jI aa o):OT aa es (es++[o]):=by
 have h3:=Bh o;refine⟨λd hd=>?_,?_,?_⟩
 .rcases bR.mp hd with q | q
  .exact h d q
  rw [bF.mp q];exact ho
 .rw [gq];omega
 rw [a9,gy];omega
def J3 (as:List Addr) (n:Nat):d_ (as.map V.ref) none (some (n:Int))=(as.take n).map V.ref:=by
 unfold d_;rw [HT.gH,HT.g6,ml,jM,au,<-mS];by_cases h:n<=as.length
 .rw [mr h]
 rw [q9 ∅,cH,mX ∅]
def cutD (as:List Addr) (n:Nat):d_ (as.map V.ref) (some (n:Int)) none=(as.drop n).map V.ref:=by
 unfold d_;rw [HT.gH,HT.g6,au,<-oM,<-mS];by_cases h:n<=as.length
 .rw [mr h,mX (by rw [fg];exact aF _)]
 rw [q9 ∅,oS,zh ∅];simp
def NU (as:List Addr) (n:Nat):d_ (as.map V.ref) (some (n:Int)) (some ((n+1:Nat):Int))=((as.drop n).take 1).map V.ref:=by
 unfold d_;rw [HT.g6,HT.g6,au,<-oM,<-mS];by_cases h:n+1<=as.length
 .rw [mr h,mr ∅,Nat.add_sub_cancel_left]
 rw [q9 ∅];by_cases h2:n=as.length
 .rw [h2,Nat.min_self,oS];simp
 rw [q9 ∅,oS,zh ∅];simp
def fj {m:Nat}{H:Hp}{p:Addr}{as:List Addr}{es:List De}(hp:H p=none)(h:lS m H as es):aA H (upd H p (.lst (as.map V.ref)))/\upd H p (.lst (as.map V.ref)) p=some (.lst (as.map V.ref))/\lS m (upd H p (.lst (as.map V.ref))) as es :=
 ⟨af hp _,ae,h.same (af hp _)⟩
def WQ (m n:Nat):V.bl (decide (V.int (m:Int)=V.int (n:Int)))=V.bl (decide (m=n)):=by
 by_cases h:m=n
 .rw [bh h,bh (by rw [h])]
 rw [b8 h,b8 (λy=>h (by injection y with y2;omega))]
def XI (x y z:Str) (n:Int):∃v:Str,ke [V.str x,V.str y,V.str z] (n % 3)=some (V.str v):=by
 have:n % 3=0\/n % 3=1\/n % 3=2:=by omega
 rcases this with e | e | e
 .rw [e];exact⟨x,rfl⟩
 .rw [e];exact⟨y,rfl⟩
 rw [e];exact⟨z,rfl⟩
def tK (aa:List ar)(R D:Addr) (wy a:Nat) (c:Int)(H:Hp) (n:Nat):St->Hp->Prop:=λσ HH=>∃(O:Addr)(os:List Addr)(Ah:List De),σ=[aM R,aM D,some (.int (wy:Int)),some (.int (a:Int)),some (.int c),none,aM O,none]/\aA H HH/\HH O=some (.lst (os.map V.ref))/\lS aa.length HH os Ah/\(∀d∈Ah,jI aa d)/\Ah.length=n
def tK.add {aa:List ar}{R D:Addr}{wy a:Nat}{c:Int}{H HH HI:Hp}{n:Nat}{O p:Addr}{os us:List Addr}{Ah ues:List De}(s:aA H HH)(hO:HH O=some (.lst (os.map V.ref)))(dO:lS aa.length HH os Ah)(Ag:∀d∈Ah,jI aa d)(l:Ah.length=n)(sI:aA HH HI)(dU:lS aa.length HI us ues)(okU:∀d∈ues,jI aa d)(hp:HI p=none) :
  tK aa R D wy a c H (n+ues.length) [aM R,aM D,some (.int (wy:Int)),some (.int (a:Int)),some (.int c),none,aM p,none] (upd HI p (.lst (os.map V.ref++us.map V.ref))):=by
 rw [<-bH];obtain⟨s3,e3,d3⟩:=fj hp (aW (dO.same sI) dU);exact⟨p,os++us,Ah++ues,rfl,(s.trans sI).trans s3,e3,d3,λd hd=>(bR.mp hd).elim (Ag d) (okU d),by rw [a9,l]⟩
section
def uo (K:ba):Sp:=λvs H Q _=>∃(R D:Addr)(rs as:List Addr)(aa:List ar)(es:List De) (wy a:Nat) (c:Int),vs=[.ref R,.ref D,.int (wy:Int),.int (a:Int),.int c]/\aH K H R (rs.map V.ref)/\bL K H rs aa/\aa≠[]/\aa.length<=1000/\H D=some (.lst (as.map V.ref))/\lS aa.length H as es/\(∀d∈es,jI aa d)/\es.length<=80000/\a < es.length/\wy < 16 /\
 ∀(D':Addr)(as':List Addr)(i5:List De)(H':Hp),aA H H'->H' D'=some (.lst (as'.map V.ref))->lS aa.length H' as' i5->OT aa es i5->Q (.ref D') H'
abbrev NSp:List Str:=["_law_rules","_law_deeds_here","_law_way","_law_at","_law_cell","_law_turned","_law_other","_law_spoiled_here"]
def gr:aK NSp ["_law_rules","_law_deeds_here","_law_way","_law_at","_law_cell"] (av rQ):=iN rfl rfl rfl rfl nofun
def Aa (F:iC K "_law_spoiled" "_law_spoiled" rQ f fd)(T:Txt mg):bS P w K mg base gp 1 f fd ["_law_rules","_law_deeds_here","_law_way","_law_at","_law_cell"] (uo K):=by
 refine F.ok gr (λvs H Q E h=>?_) (λeY A outer s H vs Q E hr h=>?_)
 .obtain⟨R,D,rs,as,aa,es,wy,a,c,rfl,_⟩:=h;rfl
 obtain⟨R,D,rs,as,aa,es,wy,a,c,rfl,hR,cA,qI,bE,hD,D0,J0,dl,la,lw,q⟩:=h;refine⟨_,ai (bJ (aX hU (pv 2) ao (bK _)) (ak (aN (aI dI (bZ dr (pv 1) du (bT (pv 3))) (bZ dr (pv 1) (bT (aI dw (pv 3) ao)) du)))) aQ)
  (ai (bJ (aX hU (pv 2) ao (bK _)) (ak (aN (aI dI (aI dI (bZ dr (pv 1) du (bT (pv 3))) (bZ dr (pv 1) (bT (pv 3)) (bT (aI dw (pv 3) ao)))) (bZ dr (pv 1) (bT (pv 3)) du)))) aQ)
  (ai (bJ (aX hU (pv 2) ao (bK _)) (ai (az (i:=5) gr.nd rfl (bC rfl) (aI dI (bZ dr (pv 1) (bT (aI dw (pv 3) ao)) (bT (aI dw (pv 3) ao))) (bZ dr (pv 1) (bT (pv 3)) (bT (aI dw (pv 3) ao)))))
   (ak (aN (aI dI (aI dI (bZ dr (pv 1) du (bT (pv 3))) (pv 5)) (bZ dr (pv 1) (bT (aI dw (pv 3) ao)) du))))) aQ)
  (ai (iL (az (i:=6) gr.nd rfl (bC rfl) (a_ (ab (bo (ab bx (ab (aL bB (a_ (ab bx (ab bx (ab bx ag)))) (aI df (pv 4) ao) (λ_ _=>rfl)) ag))) (ab (bo (ab bx (ab (aI df (pv 4) (aI Ms ao ao)) ag))) ag)))))
  (ai (iL (az (i:=6) gr.nd rfl (bC rfl) (aI dI (pv 6) (a_ (ab (bo (ab bx (ab (aL aZ (aL bB (pv 0) (aI df (pv 4) (aD aG rfl T.len cZ (ab (pv 0) ag))) (λ_ _=>rfl)) ao (λ_ _=>rfl)) ag))) (ab (bo (ab bx (ab (aI df (pv 4) (aD aG rfl T.len cZ (ab (pv 0) ag))) ag))) ag))))))
  (ai (iL (az (i:=6) gr.nd rfl (bC rfl) (aI dI (pv 6) (a_ (ab (bo (ab bx (ab (aI mC (ka iE ao) (aI df (pv 4) ao)) ag))) (ab (bo (ab bx (ab (aI dw (aD aG rfl T.len cZ (ab (pv 0) ag)) (aI df (pv 4) ao)) ag))) ag))))))
  (ai (iL (az (i:=6) gr.nd rfl (bC rfl) (aI dI (pv 6) (a_ (ab (bo (ab bx (ab (fA hU (aI df (pv 4) ao) ao (bK _)) ag))) (ab (bo (ab bx (ab bx ag))) (ab (bo (ab bx ag)) (ab (bo (ab bx ag)) (ab (bo (ab bx (ab ao ag))) ag)))))))))
  (ai (iL (az (i:=6) gr.nd rfl (bC rfl) (aI dI (pv 6) (a_ (ab (bo (ab bx ag)) (ab (bo (ab bx (ab ao ag))) ag))))))
  (ai (az (i:=7) gr.nd rfl (bC rfl) (aI dI (aI dI (bZ dr (pv 1) du (bT (pv 3))) (a_ (ab (aL bB (pv 6) (aI mC (pv 2) ao) (λ_ _=>rfl)) ag))) (bZ dr (pv 1) (bT (aI dw (pv 3) ao)) du)))
  (ai (bJ (aX hU (aI df (aI fU (pv 4) ao) ao) ao (bK _)) (ak (az (i:=7) gr.nd rfl (bC rfl) (aI dI (pv 1) (a_ (ab (aL bB (pv 6) (aI mC (pv 2) ao) (λ_ _=>rfl)) ag))))) aQ)
  (ak (aN (pv 7)))))))))))),?_⟩
 nofun
 have Sz:=aU D0;have ll:=aU cA;have yI:((a:Int)+1)=((a+1:Nat):Int):=rfl;have cast2:((a:Int)+2)=((a+2:Nat):Int):=rfl;refine⟨_,rfl,rfl,decide (wy=0),WQ wy 0,?_⟩;refine cg (λc0=>?_) (λc0=>?_)
 .refine⟨_,rfl,_,rfl,_,rfl,D,_,rfl,aH.of hD,λp1 h1=>?_⟩;rw [J3];obtain⟨s1,e1,d1⟩:=fj h1 (dC D0 a);generalize upd H p1 (.lst ((as.take a).map V.ref))=H1 at s1 e1 d1;refine⟨_,rfl,_,rfl,_,_,rfl,rfl,_,rfl,D,_,rfl,aH.of (s1 _ _ hD),λp2 h2=>?_⟩;rw [yI,cutD];obtain⟨s2,e2,d2⟩:=fj h2 (dD (D0.same s1) (a+1));generalize upd H1 p2 (.lst ((as.drop (a+1)).map V.ref))=H2 at s2 e2 d2;refine⟨p1,p2,_,_,rfl,rfl,s2 _ _ e1,e2,fits (by rw [au,au,bQ,fg];omega),λp3 h3=>?_⟩;rw [<-bH];obtain⟨s3,e3,d3⟩:=fj h3 (aW (d1.same s2) d2);exact q p3 _ _ _ ((s1.trans s2).trans s3) e3 d3 (Ut J0 a)
 refine⟨_,rfl,rfl,decide (wy=1),WQ wy 1,?_⟩;refine cg (λc1=>?_) (λc1=>?_)
 .refine⟨_,rfl,_,rfl,_,rfl,D,_,rfl,aH.of hD,λp1 h1=>?_⟩;rw [J3];obtain⟨s1,e1,d1⟩:=fj h1 (dC D0 a);generalize upd H p1 (.lst ((as.take a).map V.ref))=H1 at s1 e1 d1;refine⟨_,rfl,_,rfl,_,rfl,_,rfl,_,_,rfl,rfl,_,rfl,D,_,rfl,aH.of (s1 _ _ hD),λp2 h2=>?_⟩;rw [yI,NU];obtain⟨s2,e2,d2⟩:=fj h2 (dC (dD (D0.same s1) a) 1);generalize upd H1 p2 (.lst (((as.drop a).take 1).map V.ref))=H2 at s2 e2 d2;refine⟨p1,p2,_,_,rfl,rfl,s2 _ _ e1,e2,fits (by rw [au,au,bQ,bQ,fg];omega),λp3 h3=>?_⟩;rw [<-bH];obtain⟨s3,e3,d3⟩:=fj h3 (aW (d1.same s2) d2);generalize upd H2 p3 (.lst ((as.take a++(as.drop a).take 1).map V.ref))=H3 at s3 e3 d3;have yV:=(s1.trans s2).trans s3;refine⟨_,rfl,_,rfl,_,rfl,D,_,rfl,aH.of (yV _ _ hD),λp4 h4=>?_⟩;rw [cutD];obtain⟨s4,e4,d4⟩:=fj h4 (dD (D0.same yV) a);generalize upd H3 p4 (.lst ((as.drop a).map V.ref))=H4 at s4 e4 d4;refine⟨p3,p4,_,_,rfl,rfl,s4 _ _ e3,e4,fits (by rw [au,au,a9,bQ,bQ,fg];omega),λp5 h5=>?_⟩;rw [<-bH];obtain⟨s5,e5,d5⟩:=fj h5 (aW (d3.same s4) d4);exact q p5 _ _ _ (yV.trans (s4.trans s5)) e5 d5 (Us J0 a)
 refine⟨_,rfl,rfl,decide (wy=2),WQ wy 2,?_⟩;refine cg (λc2=>?_) (λc2=>?_)
 .refine⟨_,rfl,_,rfl,_,_,rfl,rfl,_,rfl,_,rfl,_,_,rfl,rfl,_,rfl,D,_,rfl,aH.of hD,λp1 h1=>?_⟩;rw [yI,cast2,NU as (a+1)];obtain⟨s1,e1,d1⟩:=fj h1 (dC (dD D0 (a+1)) 1);generalize upd H p1 (.lst (((as.drop (a+1)).take 1).map V.ref))=H1 at s1 e1 d1;refine⟨_,rfl,_,rfl,_,rfl,_,rfl,_,_,rfl,rfl,_,rfl,D,_,rfl,aH.of (s1 _ _ hD),λp2 h2=>?_⟩;rw [yI,NU];obtain⟨s2,e2,d2⟩:=fj h2 (dC (dD (D0.same s1) a) 1);generalize upd H1 p2 (.lst (((as.drop a).take 1).map V.ref))=H2 at s2 e2 d2;refine⟨p1,p2,_,_,rfl,rfl,s2 _ _ e1,e2,fits (by rw [au,au,bQ,bQ,fg,fg];omega),λp3 h3=>?_⟩;rw [<-bH];obtain⟨s3,e3,d3⟩:=fj h3 (aW (d1.same s2) d2);generalize upd H2 p3 (.lst (((as.drop (a+1)).take 1++(as.drop a).take 1).map V.ref))=H3 at s3 e3 d3;have yV:=(s1.trans s2).trans s3;refine⟨_,rfl,_,rfl,_,rfl,D,_,rfl,aH.of (yV _ _ hD),λp4 h4=>?_⟩;rw [J3];obtain⟨s4,e4,d4⟩:=fj h4 (dC (D0.same yV) a);generalize upd H3 p4 (.lst ((as.take a).map V.ref))=H4 at s4 e4 d4;refine⟨_,rfl,p4,p3,_,_,rfl,rfl,e4,s4 _ _ e3,fits (by rw [au,au,a9,bQ,bQ,bQ,fg,fg];omega),λp5 h5=>?_⟩;rw [<-bH];obtain⟨s5,e5,d5⟩:=fj h5 (aW d4 (d3.same s4));generalize upd H4 p5 (.lst ((as.take a++((as.drop (a+1)).take 1++(as.drop a).take 1)).map V.ref))=H5 at s5 e5 d5;have Ky:=yV.trans (s4.trans s5);refine⟨_,rfl,_,rfl,_,_,rfl,rfl,_,rfl,D,_,rfl,aH.of (Ky _ _ hD),λp6 h6=>?_⟩;rw [cast2,cutD];obtain⟨s6,e6,d6⟩:=fj h6 (dD (D0.same Ky) (a+2));generalize upd H5 p6 (.lst ((as.drop (a+2)).map V.ref))=H6 at s6 e6 d6;refine⟨p5,p6,_,_,rfl,rfl,s6 _ _ e5,e6,fits (by rw [au,au,a9,a9,bQ,bQ,bQ,fg,fg,fg];omega),λp7 h7=>?_⟩;rw [<-bH];obtain⟨s7,e7,d7⟩:=fj h7 (aW (d5.same s6) d6);exact q p7 _ _ _ (Ky.trans (s6.trans s7)) e7 d7 (Ur J0 a)
 have l3:3<=wy:=by
  have h0:wy≠0:=λz=>c0 (bh z);have h1:wy≠1:=λz=>c1 (bh z);have h2:wy≠2:=λz=>c2 (bh z);omega
 clear c0 c1 c2;have yg:0 < aa.length:=List.length_pos_iff.mpr qI;have hp:(0:Int) < ((rs.map V.ref).length:Int):=by rw [au];omega
 obtain⟨k,ek,lk⟩:∃k:Nat,c % ((rs.map V.ref).length:Int)=(k:Int)/\k < aa.length:=by
  have h1:=qX c (show ((rs.map V.ref).length:Int)≠0 by omega);have h2:=vp c hp;rw [au] at h1 h2 ⊢;exact⟨(c % (rs.length:Int)).toNat,∅,∅⟩
 have ee:(rs.map V.ref).length=aa.length:=by rw [au];exact ll
 refine⟨tK aa R D wy a c H 2,?_,?_⟩
 .obtain⟨z,ez⟩:=XI "a" "b" "ab" c;refine⟨II,λL1 OA=>⟨_,rfl,_,_,rfl,rfl,(by show (0:Int) < 3;decide),L1,_,_,_,rfl,rfl,aH.of ae,ez,iQ,λu1 yi=>?_⟩⟩;have k1:=(af OA (.lst [V.str "a",V.str "b",V.str "ab"])).trans (af yi (.tup [V.str "step",V.str z]));have e1:upd (upd H L1 (.lst [V.str "a",V.str "b",V.str "ab"])) u1 (.tup [V.str "step",V.str z]) u1=some (.tup [V.str "step",V.str z]):=ae;generalize upd (upd H L1 (.lst [V.str "a",V.str "b",V.str "ab"])) u1 (.tup [V.str "step",V.str z])=H1 at k1 e1;refine⟨_,rfl,_,_,rfl,rfl,⟨nofun,nofun,nofun⟩,_,_,rfl,rfl,(by show (0:Int) < 10 ^ (30:Int).toNat;decide),iQ,λu2 BQ=>?_⟩;have k2:=af BQ (.tup [V.str "step",V.int (c % (10 ^ (30:Int).toNat))]);have e2:upd H1 u2 (.tup [V.str "step",V.int (c % (10 ^ (30:Int).toNat))]) u2=some (.tup [V.str "step",V.int (c % (10 ^ (30:Int).toNat))]):=ae;generalize upd H1 u2 (.tup [V.str "step",V.int (c % (10 ^ (30:Int).toNat))])=H2 at k2 e2;refine⟨iQ,λO hO=>?_⟩;have dU:lS aa.length H2 [u1,u2] [.d (.step z),.si (c % (10 ^ (30:Int).toNat))]:=.cons (k2 _ _ e1) (.cons e2 .nil);obtain⟨s3,e3,d3⟩:=fj hO dU;refine⟨O,[u1,u2],_,rfl,(k1.trans k2).trans s3,e3,d3,λd hd=>?_,rfl⟩;rcases bX.mp hd with rfl | hd
  .exact trivial
  rw [bF.mp hd];exact trivial
 rintro σ HH ⟨O,os,Ah,rfl,sO,eO,dO,Ag,lO⟩;refine⟨tK aa R D wy a c H 4,?_,?_⟩
 .have rl:=cA.same sO;have K8:=sO.seq hR;have er:aa[k]?=some aa[k]:=dH lk;generalize aa[k]=ru at er;obtain⟨r,err,p,v1,v2⟩:=Paired.at_ rl k ru er;have u9:ke (rs.map V.ref) (c % ((rs.map V.ref).length:Int))=some (.ref r):=by
   rw [ek];exact b0 (by rw [bz,err];rfl)
  refine⟨_,rfl,_,rfl,_,rfl,_,rfl,R,_,rfl,.inl K8,_,_,rfl,rfl,hp,R,_,_,_,rfl,rfl,K8,u9,r,_,_,_,rfl,rfl,v1,rfl,iQ,λu1 yi=>?_⟩;have k1:=af yi (.tup [V.str "step",V.str ru.1]);have e1:upd HH u1 (.tup [V.str "step",V.str ru.1]) u1=some (.tup [V.str "step",V.str ru.1]):=ae;generalize upd HH u1 (.tup [V.str "step",V.str ru.1])=H1 at k1 e1;refine⟨_,rfl,_,rfl,R,_,rfl,.inl (k1.seq K8),_,_,rfl,rfl,hp,iQ,λu2 BQ=>?_⟩;have k2:=af BQ (.tup [V.str "make",V.int (c % ((rs.map V.ref).length:Int))]);have e2:upd H1 u2 (.tup [V.str "make",V.int (c % ((rs.map V.ref).length:Int))]) u2=some (.tup [V.str "make",V.int (c % ((rs.map V.ref).length:Int))]):=ae;generalize upd H1 u2 (.tup [V.str "make",V.int (c % ((rs.map V.ref).length:Int))])=H2 at k2 e2;rw [ek] at e2;refine⟨iQ,λL hL=>?_⟩;have k3:=af hL (.lst [V.ref u1,V.ref u2]);have e3:upd H2 L (.lst [V.ref u1,V.ref u2]) L=some (.lst [V.ref u1,V.ref u2]):=ae;generalize upd H2 L (.lst [V.ref u1,V.ref u2])=H3 at k3 e3;have KZ:=(k1.trans k2).trans k3;have lo:=aU dO;refine⟨O,L,_,_,rfl,rfl,KZ _ _ eO,e3,fits (by rw [au];show _+2<=1000000;omega),λO2 Nj=>?_⟩;refine tK.add (us:=[u1,u2]) (ues:=[.d (.step ru.1),.d (.make k)]) sO eO dO Ag lO KZ (.cons (k3 _ _ (k2 _ _ e1)) (.cons (k3 _ _ e2) .nil)) (λd hd=>?_) Nj;rcases bX.mp hd with rfl | hd
  .exact trivial
  rw [bF.mp hd];exact lk
 clear sO eO dO Ag lO;rintro σ HH ⟨O,os,Ah,rfl,sO,eO,dO,Ag,lO⟩;refine⟨tK aa R D wy a c H 6,?_,?_⟩
 .have K8:=sO.seq hR;refine⟨_,rfl,_,rfl,_,rfl,_,_,rfl,rfl,(by show (0:Int) < 3;decide),_,_,rfl,rfl,iQ,λu1 yi=>?_⟩;have k1:=af yi (.tup [V.str "make",V.int (-1 - c % 3)]);have e1:upd HH u1 (.tup [V.str "make",V.int (-1 - c % 3)]) u1=some (.tup [V.str "make",V.int (-1 - c % 3)]):=ae;generalize upd HH u1 (.tup [V.str "make",V.int (-1 - c % 3)])=H1 at k1 e1;refine⟨_,rfl,R,_,rfl,.inl (k1.seq K8),_,rfl,_,_,rfl,rfl,(by show (0:Int) < 2;decide),_,_,rfl,rfl,iQ,λu2 BQ=>?_⟩;have k2:=af BQ (.tup [V.str "make",V.int (((rs.map V.ref).length:Int)+c % 2)]);have e2:upd H1 u2 (.tup [V.str "make",V.int (((rs.map V.ref).length:Int)+c % 2)]) u2=some (.tup [V.str "make",V.int (((rs.map V.ref).length:Int)+c % 2)]):=ae;generalize upd H1 u2 (.tup [V.str "make",V.int (((rs.map V.ref).length:Int)+c % 2)])=H2 at k2 e2;refine⟨iQ,λL hL=>?_⟩;have k3:=af hL (.lst [V.ref u1,V.ref u2]);have e3:upd H2 L (.lst [V.ref u1,V.ref u2]) L=some (.lst [V.ref u1,V.ref u2]):=ae;generalize upd H2 L (.lst [V.ref u1,V.ref u2])=H3 at k3 e3;have KZ:=(k1.trans k2).trans k3;have lo:=aU dO;refine⟨O,L,_,_,rfl,rfl,KZ _ _ eO,e3,fits (by rw [au];show _+2<=1000000;omega),λO2 Nj=>?_⟩;refine tK.add (us:=[u1,u2]) (ues:=[.no,.no]) sO eO dO Ag lO KZ (.cons ⟨_,k3 _ _ (k2 _ _ e1),.inr (.inr ⟨_,rfl,.inl ⟨_,rfl,∅⟩⟩)⟩ (.cons ⟨_,k3 _ _ e2,.inr (.inr ⟨_,rfl,.inl ⟨_,rfl,by rw [ee];omega⟩⟩)⟩ .nil)) (λd hd=>?_) Nj;rcases bX.mp hd with rfl | hd
  .exact trivial
  rw [bF.mp hd];exact trivial
 clear sO eO dO Ag lO;rintro σ HH ⟨O,os,Ah,rfl,sO,eO,dO,Ag,lO⟩;refine⟨tK aa R D wy a c H 11,?_,?_⟩
 .refine⟨_,rfl,_,rfl,_,_,rfl,rfl,(by show (0:Int) < 2;decide),rfl,iQ,λu1 yi=>?_⟩;have k1:=af yi (.tup [V.str "make",V.bl (decide (V.int (c % 2)=V.int 1))]);have e1:upd HH u1 (.tup [V.str "make",V.bl (decide (V.int (c % 2)=V.int 1))]) u1=some (.tup [V.str "make",V.bl (decide (V.int (c % 2)=V.int 1))]):=ae;generalize upd HH u1 (.tup [V.str "make",V.bl (decide (V.int (c % 2)=V.int 1))])=H1 at k1 e1;refine⟨iQ,λu2 BQ=>?_⟩;have k2:=af BQ (.tup [V.str "make",V.str "a"]);have e2:upd H1 u2 (.tup [V.str "make",V.str "a"]) u2=some (.tup [V.str "make",V.str "a"]):=ae;generalize upd H1 u2 (.tup [V.str "make",V.str "a"])=H2 at k2 e2;refine⟨qi,λu3 hu3=>?_⟩;have k3:=af hu3 (.tup [V.str "done"]);have e3:upd H2 u3 (.tup [V.str "done"]) u3=some (.tup [V.str "done"]):=ae;generalize upd H2 u3 (.tup [V.str "done"])=H3 at k3 e3;refine⟨qi,λu4 hu4=>?_⟩;have k4:=af hu4 (.tup [V.str "step"]);have e4:upd H3 u4 (.tup [V.str "step"]) u4=some (.tup [V.str "step"]):=ae;generalize upd H3 u4 (.tup [V.str "step"])=H4 at k4 e4;refine⟨iQ,λu5 hu5=>?_⟩;have k5:=af hu5 (.tup [V.str "stop",V.int 0]);have e5:upd H4 u5 (.tup [V.str "stop",V.int 0]) u5=some (.tup [V.str "stop",V.int 0]):=ae;generalize upd H4 u5 (.tup [V.str "stop",V.int 0])=H5 at k5 e5;refine⟨zl5,λL hL=>?_⟩;have k6:=af hL (.lst [V.ref u1,V.ref u2,V.ref u3,V.ref u4,V.ref u5]);have e6:upd H5 L (.lst [V.ref u1,V.ref u2,V.ref u3,V.ref u4,V.ref u5]) L=some (.lst [V.ref u1,V.ref u2,V.ref u3,V.ref u4,V.ref u5]):=ae;generalize upd H5 L (.lst [V.ref u1,V.ref u2,V.ref u3,V.ref u4,V.ref u5])=H6 at k6 e6;have Y8:=k5.trans k6;have Y9:=k4.trans Y8;have Y_:=k3.trans Y9;have Za:=k2.trans Y_;have Zd:=k1.trans Za;have lo:=aU dO;refine⟨O,L,_,_,rfl,rfl,Zd _ _ eO,e6,fits (by rw [au];show _+5<=1000000;omega),λO2 Nj=>?_⟩;refine tK.add (us:=[u1,u2,u3,u4,u5]) (ues:=[.no,.no,.dn,.no,.no]) sO eO dO Ag lO Zd (.cons ⟨_,Za _ _ e1,.inr (.inr ⟨_,rfl,.inr (.inl ⟨_,rfl⟩)⟩)⟩ (.cons ⟨_,Y_ _ _ e2,.inr (.inr ⟨_,rfl,.inr (.inr ⟨_,rfl⟩)⟩)⟩ (.cons (Y9 _ _ e3) (.cons ⟨_,Y8 _ _ e4,.inl ⟨_,rfl,nofun⟩⟩ (.cons ⟨_,k6 _ _ e5,.inr (.inl ⟨_,_,rfl,nofun,nofun⟩)⟩ .nil))))) (λd hd=>?_) Nj;rcases bX.mp hd with rfl | hd
  .exact trivial
  rcases bX.mp hd with rfl | hd
  .exact trivial
  rcases bX.mp hd with rfl | hd
  .exact trivial
  rcases bX.mp hd with rfl | hd
  .exact trivial
  rw [bF.mp hd];exact trivial
 clear sO eO dO Ag lO;rintro σ HH ⟨O,os,Ah,rfl,sO,eO,dO,Ag,lO⟩;refine⟨tK aa R D wy a c H 13,?_,?_⟩
 .refine⟨_,rfl,qi,λu1 yi=>?_⟩;have k1:=af yi (.tup [V.str "make"]);have e1:upd HH u1 (.tup [V.str "make"]) u1=some (.tup [V.str "make"]):=ae;generalize upd HH u1 (.tup [V.str "make"])=H1 at k1 e1;refine⟨iQ,λu2 BQ=>?_⟩;have k2:=af BQ (.tup [V.str "done",V.int 0]);have e2:upd H1 u2 (.tup [V.str "done",V.int 0]) u2=some (.tup [V.str "done",V.int 0]):=ae;generalize upd H1 u2 (.tup [V.str "done",V.int 0])=H2 at k2 e2;refine⟨iQ,λL hL=>?_⟩;have k3:=af hL (.lst [V.ref u1,V.ref u2]);have e3:upd H2 L (.lst [V.ref u1,V.ref u2]) L=some (.lst [V.ref u1,V.ref u2]):=ae;generalize upd H2 L (.lst [V.ref u1,V.ref u2])=H3 at k3 e3;have KZ:=(k1.trans k2).trans k3;have lo:=aU dO;refine⟨O,L,_,_,rfl,rfl,KZ _ _ eO,e3,fits (by rw [au];show _+2<=1000000;omega),λO2 Nj=>?_⟩;refine tK.add (us:=[u1,u2]) (ues:=[.no,.no]) sO eO dO Ag lO KZ (.cons ⟨_,k3 _ _ (k2 _ _ e1),.inl ⟨_,rfl,nofun⟩⟩ (.cons ⟨_,k3 _ _ e2,.inr (.inl ⟨_,_,rfl,nofun,nofun⟩)⟩ .nil)) (λd hd=>?_) Nj;rcases bX.mp hd with rfl | hd
  .exact trivial
  rw [bF.mp hd];exact trivial
 clear sO eO dO Ag lO;rintro σ HH ⟨O,os,Ah,rfl,sO,eO,dO,Ag,lO⟩;obtain⟨o,eo⟩:∃o,Ah[wy - 3]?=some o:=⟨Ah[wy - 3]'∅,dH ∅⟩;obtain⟨oa,eoa,vo⟩:=Paired.at_ dO (wy - 3) o eo;have YK:=Ag o (b_ eo);have ato:ke (os.map V.ref) ((wy:Int) - 3)=some (.ref oa):=by
  rw [show ((wy:Int) - 3)=((wy - 3:Nat):Int) by omega];exact b0 (by rw [bz,eoa];rfl)
 have Ww:=sO _ _ hD;have DO:=D0.same sO;refine⟨_,rfl,_,rfl,_,rfl,D,_,rfl,aH.of Ww,λp1 h1=>?_⟩;rw [J3];obtain⟨s1,e1,d1⟩:=fj h1 (dC DO a);generalize upd HH p1 (.lst ((as.take a).map V.ref))=H1 at s1 e1 d1;refine⟨_,rfl,_,rfl,_,_,rfl,rfl,O,_,_,_,rfl,rfl,aH.of (s1 _ _ eO),ato,qi,λp2 h2=>?_⟩;obtain⟨s2,e2,d2⟩:=fj (as:=[oa]) (es:=[o]) h2 (.cons (vo.same s1) .nil);have e2:upd H1 p2 (.lst [V.ref oa]) p2=some (.lst ([oa].map V.ref)):=e2;have d2:lS aa.length (upd H1 p2 (.lst [V.ref oa])) [oa] [o]:=d2;have s2:aA H1 (upd H1 p2 (.lst [V.ref oa])):=s2;generalize upd H1 p2 (.lst [V.ref oa])=H2 at s2 e2 d2;refine⟨p1,p2,_,_,rfl,rfl,s2 _ _ e1,e2,fits (by rw [au,au,bQ];show _+1<=1000000;omega),λp3 h3=>?_⟩;rw [<-bH];obtain⟨s3,e3,d3⟩:=fj h3 (aW (d1.same s2) d2);generalize upd H2 p3 (.lst ((as.take a++[oa]).map V.ref))=H3 at s3 e3 d3;have yV:=(s1.trans s2).trans s3;refine⟨_,rfl,_,rfl,_,_,rfl,rfl,_,rfl,D,_,rfl,aH.of (yV _ _ Ww),λp4 h4=>?_⟩;rw [yI,cutD];obtain⟨s4,e4,d4⟩:=fj h4 (dD (DO.same yV) (a+1));generalize upd H3 p4 (.lst ((as.drop (a+1)).map V.ref))=H4 at s4 e4 d4;refine⟨p3,p4,_,_,rfl,rfl,s4 _ _ e3,e4,fits (by rw [au,au,a9,bQ,fg];show _+1+_<=1000000;omega),λp5 h5=>?_⟩;rw [<-bH];obtain⟨s5,e5,d5⟩:=fj h5 (aW (d3.same s4) d4);generalize upd H4 p5 (.lst ((as.take a++[oa]++as.drop (a+1)).map V.ref))=H5 at s5 e5 d5;have Ky:=yV.trans (s4.trans s5);refine⟨_,rfl,_,_,rfl,rfl,⟨nofun,nofun⟩,_,_,rfl,rfl,(by show (0:Int) < 7;decide),rfl,_,rfl,?_⟩;refine cg (λcc=>?_) (λcc=>?_)
 .refine⟨_,rfl,_,rfl,_,rfl,_,_,rfl,rfl,O,_,_,_,rfl,rfl,aH.of (Ky _ _ eO),ato,qi,λp6 h6=>?_⟩;obtain⟨s6,e6,d6⟩:=fj (as:=[oa]) (es:=[o]) h6 (.cons (vo.same Ky) .nil);have e6:upd H5 p6 (.lst [V.ref oa]) p6=some (.lst ([oa].map V.ref)):=e6;have d6:lS aa.length (upd H5 p6 (.lst [V.ref oa])) [oa] [o]:=d6;have s6:aA H5 (upd H5 p6 (.lst [V.ref oa])):=s6;generalize upd H5 p6 (.lst [V.ref oa])=H6 at s6 e6 d6;have UB:=Ky.trans s6;refine⟨D,p6,_,_,rfl,rfl,UB _ _ Ww,e6,fits (by rw [au,au];show _+1<=1000000;omega),λp7 h7=>?_⟩;rw [<-bH];obtain⟨s7,e7,d7⟩:=fj h7 (aW (DO.same UB) d6);exact⟨_,rfl,q p7 _ _ _ (sO.trans (UB.trans s7)) e7 d7 (Up J0 YK)⟩
 exact⟨_,rfl,q p5 _ _ _ (sO.trans Ky) e5 d5 (Uq J0 YK a la)⟩
end
def Km {A:Around}{k n:Nat}(hr:fY k A)(h:n<=16 * k+200):A.units+n < cLine:=by have:=hr.un;omega
mutual
theorem Hq {K:ba}{H:Hp}:∀(t:Tr)(v v':V) (n:Nat),fX K H t v->fX K H t v'->2 * dp t<=n->Eb K H n v v'
 | .w z,v,v',n,h,h',_=>by
  unfold fX at h h';subst h;subst h';exact Eb.self (.inl rfl) n
 | .n k cs,v,v',n,h,h',hn=>by
  unfold fX at h h';obtain⟨a,p,vs,rfl,ha,hp,hc⟩:=h;obtain⟨a',p',zu,rfl,Wi,n5,lR⟩:=h';unfold dp at hn;obtain⟨m,rfl⟩:∃m,n=m+2:=⟨n - 2,∅⟩;refine .inr ⟨a,a',_,_,rfl,rfl,.inr ⟨ha,Wi⟩,.cons (Eb.self (.inl rfl) _) (.cons ?_ .nil)⟩;exact .inr ⟨p,p',vs,zu,rfl,rfl,.inr ⟨hp,n5⟩,lJ cs vs zu m hc lR ∅⟩
theorem lJ {K:ba}{H:Hp}:∀(ts:gS)(vs zu:List V) (n:Nat),hZ K H ts vs->hZ K H ts zu->2 * xn ts<=n->Paired (Eb K H n) vs zu
 | .nil,vs,zu,n,h,h',_=>by
  unfold hZ at h h';subst h;subst h';exact .nil
 | .cons t r,vs,zu,n,h,h',hn=>by
  unfold hZ at h h';obtain⟨v,us,rfl,h1,h2⟩:=h;obtain⟨v',ug,rfl,h1',h2'⟩:=h';unfold xn at hn;exact .cons (Hq t v v' n h1 h1' ∅) (lJ r us ug n h2 h2' ∅)
end
mutual
theorem Lf {aa:List ar}:∀(t:Tr)(x:Str),Is aa t x->row t=[]->Em aa x
 | .w z,x,_,e=>by unfold row at e;cases e
 | .n k cs,x,h,e=>by
  unfold Is at h;obtain⟨bq,er,hi⟩:=h;unfold row at e;exact Em.mk (ru:=(x,bq)) (b_ er) (He cs bq hi e)
theorem He {aa:List ar}:∀(ts:gS) (ps:List Str),tR aa ts ps->rows ts=[]->∀p∈ps,Em aa p
 | .nil,ps,h,_=>by unfold tR at h;subst h;intro p hp;cases hp
 | .cons t r,ps,h,e=>by
  unfold tR at h;obtain⟨p,BG,rfl,h1,h2⟩:=h;unfold rows at e;obtain⟨e1,e2⟩:=List.append_eq_nil_iff.mp e;intro q hq;rcases bX.mp hq with rfl | hq
  .exact Lf t _ h1 e1
  exact He r BG h2 e2 q hq
end
theorem Hk:∀(ts:gS) (m:Nat),(∀t∈ts.jl,dp t<=m)->xn ts<=m
 | .nil,m,_=>by unfold xn;exact dX _
 | .cons t r,m,h=>by
  have h1:=h t cI;have h2:=Hk r m λu hu=>h u (dB _ hu);unfold xn;omega
theorem qD:∀(ts:List Tr) (j:Nat)(c:Tr),ts[j]?=some c->(row c).length<=(ts.flatMap row).length
 | [],j,c,e=>by cases e
 | t::r,0,c,e=>by cases e;rw [mV,a9];omega
 | t::r,j+1,c,e=>by
  have:=qD r j c e;rw [mV,a9];omega
theorem A7:∀(ts:List Tr) (j k:Nat)(c u:Tr),j≠k->ts[j]?=some c->ts[k]?=some u->(row c).length+(row u).length<=(ts.flatMap row).length
 | [],j,k,c,u,_,e,_=>by cases e
 | t::r,0,0,c,u,n,_,_=>absurd rfl n
 | t::r,0,k+1,c,u,_,e,e2=>by
  cases e;have:=qD r k u e2;rw [mV,a9];omega
 | t::r,j+1,0,c,u,_,e,e2=>by
  cases e2;have:=qD r j c e;rw [mV,a9];omega
 | t::r,j+1,k+1,c,u,n,e,e2=>by
  have:=A7 r j k c u (λz=>n (by rw [z])) e e2;rw [mV,a9];omega
theorem Hm {aa:List ar}{rk:Str->Nat}(R:HP aa rk):∀(n:Nat)(t:Tr)(x:Str),sz t<=n->Is aa t x->dp t<=4 * (row t).length+rk x+1
 | 0,t,x,h,_=>by have:=EF t;omega
 | n+1,.w z,x,_,_=>by unfold dp;exact dX _
 | n+1,.n k cs,x,h,hi=>by
  unfold Is at hi;obtain⟨bq,er,hp⟩:=hi;obtain⟨ln,pr⟩:=tR.paired cs hp;have G9:=b_ er;have key:xn cs<=4 * (row (.n k cs)).length+rk x:=by
   refine Hk cs _ λc hc=>?_;obtain⟨j,ej⟩:=iI hc;have lj:=(bu.mp ej).1;obtain⟨z,ez⟩:∃z,bq[j]?=some z:=⟨bq[j]'∅,dH ∅⟩;have ic:=pr j c z ej ez;have sc:sz c<=n:=by
    have:=vM cs c hc;unfold sz at h;omega
   have ih:=Hm R n c z sc ic;have r3:=R.1 z;have el:row (.n k cs)=cs.jl.flatMap row:=by unfold row;exact rW cs
   rw [el];have o1:=qD cs.jl j c ej;cases c with
   | w y=>unfold dp;exact dX _
   | n k2 IB =>
    have hz:z∈hd aa:=by
     unfold Is at ic;obtain⟨Sr,e2,_⟩:=ic;exact n_ (ru:=(z,Sr)) (b_ e2)
    by_cases c1:∀(i:Nat)(u:Tr),i≠j->cs.jl[i]?=some u->row u=[]
    .have lt:=R.2 (x,bq) G9 j z ez hz λi y ni ei=>by
      have li:i < bq.length:=(bu.mp ei).1;obtain⟨u,eu⟩:∃u,cs.jl[i]?=some u:=⟨cs.jl[i]'∅,dH ∅⟩;exact Lf u y (pr i u y eu ei) (c1 i u ni eu)
     have lt:rk z < rk x:=lt;omega
    obtain⟨i,c2⟩:=Classical.not_forall.mp c1;obtain⟨u,c3⟩:=Classical.not_forall.mp c2;obtain⟨ni,c4⟩:=Classical.not_imp.mp c3;obtain⟨eu,c5⟩:=Classical.not_imp.mp c4;have t2:=A7 cs.jl j i _ u (gC ni) ej eu;have:0 < (row u).length:=List.length_pos_iff.mpr c5;omega
  unfold dp;omega
def Jg (l:List Tr) (k:Nat):row (.n k (gS.lP l))=l.flatMap row:=by
 unfold row;rw [rW,vK]
theorem Bz {aa:List ar}:∀(ds:List De)(p p':List Tr),eZ (qa aa) ds p=some p'->(p'.flatMap row).length=(p.flatMap row).length+mR ds
 | [],p,p',e=>by cases e;rfl
 | d::r,p,p',e=>by
  have e:(qa aa p d).bind (eZ (qa aa) r)=some p':=e;cases e1:qa aa p d with
  | none=>rw [e1] at e;cases e
  | some q =>
   rw [e1] at e;have h:=Bz r q p' e;have hq:(q.flatMap row).length=(p.flatMap row).length+Oa d:=by
    cases d with
    | d y =>
     cases y with
     | step z =>
      have e1:(if z∈hd aa then none else some (p++[Tr.w z]))=some q:=e1;by_cases c:z∈hd aa
      .rw [ax c] at e1;cases e1
      rw [ay c] at e1;cases e1;rw [i6,a9];rfl
     | make k =>
      obtain⟨ru,er,le,fl,rfl⟩:=il (show fO aa k p=some q from e1);rw [i6,zi,Jg,<-i6,pT];rfl
    | si n=>cases e1
    | no=>cases e1
    | dn=>cases e1
   show _=_+(Oa d+mR r);omega
def Dz {o:Option (List Tr)}{t:Tr}(h:jF o=some t):o=some [t]/\∃k cs,t=.n k cs:=by
 cases o with
 | none=>cases h
 | some p =>
  match p,h with
  | [],h=>cases h
  | [.w z],h=>cases h
  | [.n k cs],h=>cases h;exact⟨rfl,k,cs,rfl⟩
  | .w _::_::_,h=>cases h
  | .n _ _::_::_,h=>cases h
def uy {aa:List ar}{es:List De}{t:Tr}(h:resT aa es=some t):(∃x,Is aa t x)/\(∃k cs,t=.n k cs)/\(row t).length<=mR es:=by
 unfold resT at h;cases el:es.getLast? with
 | none=>rw [el] at h;cases h
 | some d =>
  rw [el] at h;cases d with
  | d x=>cases h
  | si n=>cases h
  | no=>cases h
  | dn =>
   have h:jF (eZ (qa aa) es.dropLast [])=some t:=h;obtain⟨e,k,cs,rfl⟩:=Dz h;have o:=qC (λh e=>qh.qa h e) _ qh.nil e;refine⟨?_,⟨k,cs,rfl⟩,?_⟩
   .rcases o _ cI with q | ⟨y,_,q⟩
    .exact q
    cases q
   have r:=Bz _ _ _ e;rw [zi] at r;have r:(row (.n k cs)).length=0+mR es.dropLast:=r;have sp:=gq es.dropLast [De.dn];have:es.dropLast++[De.dn]=es:=by
    obtain⟨ys,hy⟩:=List.getLast?_eq_some_iff.mp el;rw [hy,ue]
   rw [this] at sp;omega
def Nx {aa:List ar}:∀{t:Tr}{p:Str},Is aa t p->gE aa t p=true
 | .w z,p,h=>by
  unfold Is at h;obtain⟨rfl,nh⟩:=h;show (!decide (p∈hd aa) && decide (p=p))=true;rw [b8 nh,bh rfl];rfl
 | .n k cs,p,h=>by
  unfold Is at h;obtain⟨bq,e,_⟩:=h;show (decide (p∈hd aa) && decide (sq aa k=some p))=true;rw [bh (n_ (ru:=(p,bq)) (b_ e)),bh (by unfold sq;rw [e];rfl)];rfl
theorem BN:∀ts:gS,gS.lP ts.jl=ts
 | .nil=>rfl
 | .cons t r=>by show gS.cons t (gS.lP r.jl)=_;rw [BN r]
mutual
theorem BA {aa:List ar}:∀(t:Tr)(x:Str)(p:List Tr),Is aa t x->eZ (qa aa) ((jL t).map De.d) p=some (p++[t])
 | .w z,x,p,h=>by
  unfold Is at h;unfold jL;show (if z∈hd aa then none else some (p++[Tr.w z])).bind (eZ (qa aa) [])=_;rw [ay h.2];rfl
 | .n k cs,x,p,h=>by
  unfold Is at h;obtain⟨bq,er,hi⟩:=h;rw [B6,bH,kQ,xO cs bq p hi];obtain⟨ln,pr⟩:=tR.paired cs hi;show (fO aa k (p++cs.jl)).bind (eZ (qa aa) [])=_;have em:fO aa k (p++cs.jl)=some (p++[.n k cs]):=by
   unfold fO;rw [er];have l1:(p++cs.jl).length - bq.length=p.length:=by rw [a9];omega
   show (if (decide (bq.length<=(p++cs.jl).length) && i4 aa ((p++cs.jl).drop ((p++cs.jl).length - bq.length)) bq)=true then some ((p++cs.jl).take ((p++cs.jl).length - bq.length)++[.n k (gS.lP ((p++cs.jl).drop ((p++cs.jl).length - bq.length)))]) else none)=_;rw [l1,List.drop_left,List.take_left,BN,bh (by rw [a9];omega),qK ln (λi t q et eq=>Nx (pr i t q et eq))];rfl
  rw [em];rfl
theorem xO {aa:List ar}:∀(ts:gS) (ps:List Str)(p:List Tr),tR aa ts ps->eZ (qa aa) ((jY ts).map De.d) p=some (p++ts.jl)
 | .nil,ps,p,h=>by
  unfold jY;show some p=some (p++[]);rw [iS]
 | .cons t r,ps,p,h=>by
  unfold tR at h;obtain⟨q,BG,rfl,h1,h2⟩:=h;unfold jY;rw [bH,kQ,BA t q p h1];show eZ (qa aa) ((jY r).map De.d) (p++[t])=_;rw [xO r BG (p++[t]) h2,lX];rfl
end
def Fh {aa:List ar}{t:Tr}{x:Str}(h:Is aa t x)(hx:x∈hd aa):resT aa ((jL t).map De.d++[.dn])=some t:=by
 unfold resT;rw [rq,xp,ue];show jF (eZ (qa aa) ((jL t).map De.d) [])=some t;rw [BA t x [] h];cases t with
 | w z =>
  unfold Is at h;exact absurd (h.1 ▸ hx) h.2
 | n k cs=>rfl
theorem vN:∀ds:List Dd,mR (ds.map De.d)=(ds.flatMap EI).length
 | []=>rfl
 | .step z::r=>by
  show 1+mR (r.map De.d)=(z::r.flatMap EI).length;rw [vN r,dZ];omega
 | .make k::r=>by
  show 0+mR (r.map De.d)=(r.flatMap EI).length;rw [vN r];omega
mutual
theorem B5 {aa:List ar}:∀(t:Tr)(x:Str),Is aa t x->∀k,Dd.make k∈jL t->k < aa.length
 | .w z,x,h,k,m=>by
  unfold jL at m;have:=bF.mp m;cases this
 | .n j cs,x,h,k,m=>by
  unfold Is at h;obtain⟨bq,er,hi⟩:=h;rw [B6] at m;rcases bR.mp m with q | q
  .exact yy cs bq hi k q
  cases bF.mp q;exact(bu.mp er).1
theorem yy {aa:List ar}:∀(ts:gS) (ps:List Str),tR aa ts ps->∀k,Dd.make k∈jY ts->k < aa.length
 | .nil,ps,h,k,m=>by unfold jY at m;cases m
 | .cons t r,ps,h,k,m=>by
  unfold tR at h;obtain⟨q,BG,rfl,h1,h2⟩:=h;unfold jY at m;rcases bR.mp m with y | y
  .exact B5 t q h1 k y
  exact yy r BG h2 k y
end
def NP {aa:List ar}{t:Tr}{x:Str}(h:Is aa t x):∀d∈(jL t).map De.d,jI aa d:=by
 intro d hd2;obtain⟨y,hy,rfl⟩:=cY.mp hd2;cases y with
 | step z=>exact trivial
 | make k=>exact B5 t x h k hy
abbrev L0:Stmt:=top 63
def J2 (ns:List Int):∃cs:List Int,d_ (ns.map V.int) (some 8) (some 30)=cs.map V.int/\cs.length<=22:=by
 refine⟨(ns.drop (min 8 ns.length)).take (min 30 ns.length - min 8 ns.length),?_,?_⟩
 .unfold d_;rw [show (some (8:Int))=some ((8:Nat):Int) from rfl,show (some (30:Int))=some ((30:Nat):Int) from rfl,HT.g6,HT.g6,au,<-oM,<-mS]
 rw [bQ];omega
section
def Bp (K:ba)(T1 T2 T3:Addr):Sp:=λvs H Q _=>∃(a:Addr)(ns:List Int),vs=[.ref a]/\aH K H a (ns.map V.int)/\ns.length<=63/\Cf T1 T2 T3 H/\∀H',Q (.bl true) H'
def pW:aK ["_law_script","_law_rules","_law_tree_here","_law_deeds_here","_law_cell","_law_way","_law_at","_law_spoiled_here"] ["_law_script"] (av L0):=iN rfl rfl rfl rfl nofun
def Mz {Cg C T1 T2 T3 fG:Addr}{ZQ:FuncData}(F:iC K "law" "law" L0 f fd)(T:Txt mg)
  (GG:aC P w K mg base 11 "_law_grammar" ["_law_script","_law_at"] (ER K))(GDT:aC P w K mg base 11 "_law_drawn_tree" ["_law_rules","_law_name","_law_cells"] (xE K))(GDL:aC P w K mg base 11 "_law_deeds" ["_law_tree_here"] (nv K 10))
  (GC1:aC P w K mg base 11 "_law_cell_at" ["_law_script","_law_k"] (rL K))(GS:aC P w K mg base 11 "_law_spoiled" ["_law_rules","_law_deeds_here","_law_way","_law_at","_law_cell"] (uo K))
  (GDu:aC P w K mg base 11 "_law_due" ["_law_rules","_law_deeds_here"] (Ku K))(GTo:aC P w K mg base 11 "tree_of" ["rules","deeds"] (xB K))
  (G:GC K Cg)(MG:Mk K Cg fG)(FG:bS P w K mg base gp 10 fG ZQ ["self","rules","strengths"] (Br K Cg C T1 T2 T3))(B1:Binds K ZQ ["self","rules","strengths"] [.none])(mG:mg "Grammar"=some (.ref Cg)):bS P w K mg base gp 12 f fd ["_law_script"] (Bp K T1 T2 T3):=by
 refine F.ok pW (λvs H Q E h=>?_) (λeY A outer s H vs Q E hr h=>?_)
 .obtain⟨a,ns,rfl,_⟩:=h;rfl
 obtain⟨S,ns,rfl,hS,hl,hT,q⟩:=h;have yi:=Km (n:=336+1) hr nofun;have BQ:=Km (n:=20+1) hr nofun;refine⟨_,ai (az (i:=1) pW.nd rfl (bC rfl) (fQ (wo (dvs:=[.fh]) MG FG hr rfl mG B1 (.cons rfl .nil) uA (ab (bp GG hr rfl (ab (pv 0) (ab ao ag))) ag)) rfl))
  (ai (az (i:=2) pW.nd rfl (bC rfl) (bp GDT hr rfl (ab (pv 1) (ab (aL aZ (aL bB (pv 1) ao (λ_ _=>rfl)) ao (λ_ _=>rfl)) (ab (bZ dr (pv 0) (bT ao) (bT ao)) ag)))))
  (ai (az (i:=3) pW.nd rfl (bC rfl) (aI dI (bp GDL hr rfl (ab (pv 2) ag)) (a_ (ab (bo (ab bx ag)) ag))))
  (ai (az (i:=4) pW.nd rfl (bC rfl) (bp GC1 hr rfl (ab (pv 0) (ab ao ag))))
  (ai (bM cq rfl (gO rfl T.CB (ab ao ag)) (aq (i:=5) pW.nd rfl (bC rfl))
   (ai (az (i:=6) pW.nd rfl (bC rfl) (aI df (aI dw (bp GC1 hr rfl (ab (pv 0) (ab ao ag))) (aI FC (pv 5) ao)) (aD aG rfl T.len cZ (ab (pv 3) ag))))
   (ai (az (i:=7) pW.nd rfl (bC rfl) (bp GS hr rfl (ab (pv 1) (ab (pv 3) (ab (pv 5) (ab (pv 6) (ab (aI dw (pv 4) (pv 5)) ag)))))))
   (ak (bJ (aX (uD.or (xW 336 yi)) (bp GTo hr rfl (ab (bc fI rfl T.lst gI (ab (pv 1) ag)) (ab (bc fI rfl T.lst gI (ab (pv 7) ag)) ag))) (bp GDu hr rfl (ab (pv 1) (ab (pv 7) ag))) (bK _)) (ak (aN gb)) aQ)))))
  (ak (aN (fA (xY 20 BQ) (bp GTo hr rfl (ab (bc fI rfl T.lst gI (ab (pv 1) ag)) (ab (bc fI rfl T.lst gI (ab (pv 3) ag)) ag))) (pv 2) (bK _)))))))),?_⟩
 nofun
 refine⟨_,rfl,S,ns,0,rfl,hS,∅,λc R0 rs aa H1 hc f0 s1 eR0 UE go=>?_⟩;obtain⟨rk,bb,gd⟩:=go.good;obtain⟨rk2,KD⟩:=go.rank;have six:=go.six;have one:=go.one;have h3:∀ru∈aa,ru.2.length<=3:=λru h=>(go.ins ru h).2.1;have h8:∀ru∈aa,ru.2.length<=8:=λru h=>by have:=h3 ru h;omega
 have qI:aa≠[]:=λz=>by rw [z] at one;cases one
 have t1:=hT.same s1;intro g x hg hx nx;refine⟨H1,g,x,R0,.fh,rs,[],aa,[],rk,bb,rfl,(af hx _).trans (af (by rw [aj nx.symm];exact hg) _),hg,ae,aH.of eR0,UE,∅,h8,qI,.inl ⟨rfl,rfl,rfl⟩,by simp,λru h=>(by cases h),by simp,gd,t1,λbt H2 s2 t2 gv=>⟨rfl,?_⟩⟩;have k2:=Kp.of3 s2 t1;clear s2 t2;obtain⟨gx,fs,R,S2,eg,lr,_,_,_,eR,_,_,_⟩:=gv;refine⟨g,Cg,gx,fs,_,rfl,eg,G.cls,G.a1,lr,?_⟩;have Sn:=k2.aa UE;have Ei:=k2.seq (s1.seq hS);obtain⟨jJ,Rk⟩:∃jJ,aa[0]?=some jJ:=⟨aa[0]'∅,dH ∅⟩;obtain⟨r0,WL,p0,v10,v20⟩:=Paired.at_ Sn 0 jJ Rk;have qM:ke (rs.map V.ref) 0=some (.ref r0):=b0 (j:=0) (by rw [bz,WL];rfl);have K5:jJ.1∈hm aa:=cY.mpr ⟨jJ,b_ Rk,rfl⟩;have hxd:jJ.1∈hd aa:=kb.mp K5;have SF:∀z∈hm aa,z∈dA c:=λz hz=>by
  obtain⟨ru,iZ,rfl⟩:=cY.mp hz;exact(go.ins ru iZ).1
 refine⟨_,rfl,_,rfl,R,_,_,_,rfl,rfl,aH.of eR,qM,r0,_,_,_,rfl,rfl,v10,rfl,_,rfl,_,rfl,_,rfl,S,_,rfl,Ei,λC3 JT=>?_⟩;obtain⟨cs,ecs,lcs⟩:=J2 ns;rw [ecs];have k3:=af JT (.lst (cs.map V.int));have Hi:upd H2 C3 (.lst (cs.map V.int)) C3=some (.lst (cs.map V.int)):=ae;generalize upd H2 C3 (.lst (cs.map V.int))=H3 at k3 Hi;refine⟨R,C3,rs,aa,dA c,cs,jJ.1,rfl,k3 _ _ eR,Sn.same k3,∅,h3,(sG c).2,SF,go.en,aH.of Hi,∅,K5,λv t H4 s4 tv ok aag=>?_⟩;have Je:=k3.trans s4;have dt:=ok.deep;have st:sz t<=29524:=dY ok.size nofun;refine⟨_,rfl,v,t,rfl,tv,∅,∅,λD0 as H5 f5 s5 eD0 pd=>?_⟩;have lad:=aU pd;have Y2:=oA t;refine⟨qi,λa0 ha0=>⟨qi,λL1 OA=>?_⟩⟩;have k6:=(af ha0 (.tup [V.str "done"])).trans (af OA (.lst [V.ref a0]));have Iv:upd (upd H5 a0 (.tup [V.str "done"])) L1 (.lst [V.ref a0]) a0=some (.tup [.str "done"]):=(af OA _) _ _ ae;have Hg:upd (upd H5 a0 (.tup [V.str "done"])) L1 (.lst [V.ref a0]) L1=some (.lst [V.ref a0]):=ae;generalize upd (upd H5 a0 (.tup [V.str "done"])) L1 (.lst [V.ref a0])=H6 at k6 Iv Hg;refine⟨D0,L1,_,_,rfl,rfl,k6 _ _ eD0,Hg,fits (by rw [au];show _+1<=1000000;omega),λD hD=>?_⟩;have k7:=af hD (.lst (as.map V.ref++[V.ref a0]));have Rx:upd H6 D (.lst (as.map V.ref++[V.ref a0])) D=some (.lst ((as++[a0]).map V.ref)):=by rw [ae,bH];rfl
 generalize upd H6 D (.lst (as.map V.ref++[V.ref a0]))=H7 at k7 Rx;have Y7:=k6.trans k7;have Yz:=s5.trans Y7;have Md:=Je.trans Yz;have Ho:lS aa.length H7 (as++[a0]) ((jL t).map De.d++[.dn]):=aW (cy pd λ_ _ z=>Y7 _ _ z) (.cons (k7 _ _ Iv) .nil);have NM:∀d∈(jL t).map De.d++[De.dn],jI aa d:=λd h=>by
  rcases bR.mp h with y | y
  .exact NP ok.is d y
  rw [bF.mp y];exact trivial
 have sc7:mR ((jL t).map De.d++[De.dn])<=40:=by
  rw [gq,vN,qz];show _+0<=40;omega
 have Vj:((jL t).map De.d++[De.dn]).length=sz t+1:=by rw [a9,au,gy,Y2]
 have own:=Fh ok.is hxd;have tv7:=fX.keep (λ_ _ z=>Yz.tup z) t tv;have Rv:=Md _ _ eR;have PH:=Sn.same Md;have ZJ:=Md.seq Ei;clear Hg Iv eD0 k6 k7 Hi Ei Sn tv eR0 UE;generalize (jL t).map De.d++[De.dn]=es at Ho NM sc7 Vj own;have Vl:=aU Ho;generalize as++[a0]=bs at Ho Rx Vl;refine⟨_,rfl,S,ns,31,rfl,ZJ,∅,λcl _=>?_⟩;refine⟨(16:Int),rfl,nofun,nofun,?_⟩;rw [show (16:Int).toNat=16 from rfl];refine gQ (n:=16) (λi σ H8=>∃(y5 y6 y7:Option V),σ=[aM S,aM R,some v,aM D,some (.int cl),y5,y6,y7]/\aA H7 H8) ⟨none,none,none,rfl,aA.refl _⟩ ?_ ?_
 .intro i σ H8 hi jX
  ac_nf0
  obtain⟨y5,y6,y7,rfl,s8⟩:=jX;have hp:(0:Int) < ((bs.map V.ref).length:Int):=by rw [au];omega
  refine goN ?_
  ac_rfl
  refine⟨_,rfl,S,ns,30,rfl,s8.seq ZJ,∅,λNX _=>?_⟩;refine⟨_,rfl,_,_,rfl,rfl,.inr ⟨nofun,nofun⟩,_,_,rfl,rfl,_,rfl,D,_,rfl,.inl (aH.of (s8 _ _ Rx)),_,_,rfl,rfl,hp,?_⟩;obtain⟨a,ea,la⟩:∃a:Nat,(NX+(0+(i:Int)) * 7) % ((bs.map V.ref).length:Int)=(a:Int)/\a < es.length:=by
   have h1:=qX (NX+(0+(i:Int)) * 7) (show ((bs.map V.ref).length:Int)≠0 by omega);have h2:=vp (NX+(0+(i:Int)) * 7) hp;rw [au] at h1 h2 ⊢;exact⟨((NX+(0+(i:Int)) * 7) % (bs.length:Int)).toNat,∅,∅⟩
  refine⟨_,rfl,_,rfl,_,rfl,_,rfl,_,rfl,_,rfl,_,_,rfl,rfl,?_⟩;refine⟨R,D,rs,bs,aa,es,i,a,cl+(0+(i:Int)),?_,aH.of (s8 _ _ Rv),PH.same s8,qI,∅,s8 _ _ Rx,Ho.same s8,NM,∅,la,hi,λD9 N0 Rj H9 s9 e9 d9 sp9=>?_⟩
  .show [V.ref R,V.ref D,V.int (0+(i:Int)),V.int ((NX+(0+(i:Int)) * 7) % ((bs.map V.ref).length:Int)),V.int (cl+(0+(i:Int)))]=_;rw [ea,j6]
  have Yv:=s8.trans s9;obtain⟨NL,sc9,aai⟩:=sp9;refine⟨_,rfl,R,_,rfl,.inl (aH.of (Yv _ _ Rv)),λRA Wk=>?_⟩;have kA:=af Wk (.lst (rs.map V.ref));have eA:upd H9 RA (.lst (rs.map V.ref)) RA=some (.lst (rs.map V.ref)):=ae;generalize upd H9 RA (.lst (rs.map V.ref))=HA at kA eA;refine⟨_,rfl,D9,_,rfl,.inl (aH.of (kA _ _ e9)),λDB Wq=>?_⟩;have kB:=af Wq (.lst (N0.map V.ref));have eB:upd HA DB (.lst (N0.map V.ref)) DB=some (.lst (N0.map V.ref)):=ae;generalize upd HA DB (.lst (N0.map V.ref))=HB at kB eB;have Vt:=kA.trans kB;have Oe:=Yv.trans Vt;refine⟨RA,DB,rs,N0,aa,Rj,rfl,kB _ _ eA,PH.same Oe,h8,∅,aH.of eB,d9.same Vt,NL,∅,λHC sC=>?_⟩;have Od:=Vt.trans sC;have Sj:=Oe.trans sC;refine⟨λe=>?_,λt2 v2 e H_=>?_⟩
  .refine⟨_,rfl,_,rfl,R,D9,rs,N0,aa,Rj,rfl,aH.of (Sj _ _ Rv),PH.same Sj,h8,∅,qI,aH.of (Od _ _ e9),d9.same Od,NL,∅,λHD sD=>⟨λ_=>?_,(λt3 v3 e3 _=>by rw [e] at e3;cases e3)⟩⟩;refine .inl ⟨rfl,false,rfl,?_⟩;refine cU ?_;exact⟨_,_,_,rfl,s8.trans (s9.trans (Od.trans sD))⟩
  refine⟨_,rfl,_,rfl,R,D9,rs,N0,aa,Rj,rfl,aH.of (Sj _ _ Rv),PH.same Sj,h8,∅,qI,aH.of (Od _ _ e9),d9.same Od,NL,∅,λHD sD=>⟨(λe3=>by rw [e] at e3;cases e3),λt3 v3 e3 Yk=>?_⟩⟩;rw [e] at e3;cases e3;obtain⟨⟨x2,is2⟩,⟨k,IB,rfl⟩,aab⟩:=uy e;have dpr:=Hm KD _ _ x2 (aF _) is2;have r3:=KD.1 x2;have Nc:2 * xn IB<=335:=by
   have:dp (.n k IB)=1+xn IB:=by unfold dp;rfl
   omega
  have Yi:=fX.keep (λ_ _ z=>sD.tup z) _ H_;unfold fX at Yi Yk;obtain⟨b1,p1,O6,rfl,Oz,VS,Wg⟩:=Yi;obtain⟨b2,p2,Kl,rfl,GX,oF,JQ⟩:=Yk;refine .inr ⟨b1,b2,_,_,rfl,rfl,Oz,GX,.cons (Eb.self (.inl rfl) _) (.cons (.inr ⟨p1,p2,O6,Kl,rfl,rfl,.inr ⟨VS,oF⟩,lJ IB O6 Kl 335 Wg JQ Nc⟩) .nil),false,rfl,?_⟩;refine cU ?_;exact⟨_,_,_,rfl,s8.trans (s9.trans (Od.trans sD))⟩
 rintro σ H8 ⟨y5,y6,y7,rfl,s8⟩;refine⟨_,rfl,R,_,rfl,.inl (aH.of (s8 _ _ Rv)),λRA Wk=>?_⟩;have kA:=af Wk (.lst (rs.map V.ref));have eA:upd H8 RA (.lst (rs.map V.ref)) RA=some (.lst (rs.map V.ref)):=ae;generalize upd H8 RA (.lst (rs.map V.ref))=HA at kA eA;refine⟨_,rfl,D,_,rfl,.inl (aH.of (kA _ _ (s8 _ _ Rx))),λDB Wq=>?_⟩;have kB:=af Wq (.lst (bs.map V.ref));have eB:upd HA DB (.lst (bs.map V.ref)) DB=some (.lst (bs.map V.ref)):=ae;generalize upd HA DB (.lst (bs.map V.ref))=HB at kB eB;have Oe:=s8.trans (kA.trans kB);refine⟨RA,DB,rs,bs,aa,es,rfl,kB _ _ eA,PH.same Oe,h8,∅,aH.of eB,Ho.same Oe,NM,∅,λHC sC=>⟨(λe=>by rw [own] at e;cases e),λt2 v2 e H_=>?_⟩⟩;rw [own] at e;cases e;obtain⟨_,⟨k,IB,rfl⟩,_⟩:=uy own;have Yj:=fX.keep (λ_ _ z=>(Oe.trans sC).tup z) _ tv7;have Nc:2 * xn IB<=19:=by
  have:dp (.n k IB)=1+xn IB:=by unfold dp;rfl
  omega
 unfold fX at Yj H_;obtain⟨b1,p1,O6,rfl,Oz,VS,Wg⟩:=Yj;obtain⟨b2,p2,Kl,rfl,GX,oF,JQ⟩:=H_;exact⟨_,rfl,b2,b1,_,_,rfl,rfl,GX,Oz,.cons (Eb.self (.inl rfl) _) (.cons (.inr ⟨p2,p1,Kl,O6,rfl,rfl,.inr ⟨oF,VS⟩,lJ IB Kl O6 19 JQ Wg Nc⟩) .nil),q _⟩
end
end hV
namespace L2
open PySem
def xf {C:List Value->Prop}(h:∀a,C [a]):∀us:List Value,us.length=1->C us
 | [a],_=>h a
def Cp {C:List Value->Prop}(h:∀a b,C [a,b]):∀us:List Value,us.length=2->C us
 | [a,b],_=>h a b
def IQ {C:List Value->Prop}(h:∀a b c,C [a,b,c]):∀us:List Value,us.length=3->C us
 | [a,b,c],_=>h a b c
def O7 {C:List Value->Prop}(h:∀a b c d,C [a,b,c,d]):∀us:List Value,us.length=4->C us
 | [a,b,c,d],_=>h a b c d
def T5 {C:List Value->Prop}(h:∀a b c d e,C [a,b,c,d,e]):∀us:List Value,us.length=5->C us
 | [a,b,c,d,e],_=>h a b c d e
def dQ (K:ba)(x:Str)(st:Stmt):Prop:=∃(g:Addr)(oc:Value)(od an:Option Addr)(sl:Array (Option Value))(kV dc pm cd ct:Value),PySem.W.nsIn K mainGlobals x=some (some (.ref g)) /\
 K.lookup g=some ⟨oc,od,.func (PySem.W.fnOf x x (dJ st) (cC st) (av st) .none kV dc pm an cd ct),sl⟩/\PySem.W.codeIn K cd x=true/\PySem.W.keepIn K (.ref g)=true
def dQ.get {K:ba}{h:Heap}{mg:Str->Option Value}{x:Str}{st:Stmt}(X:K.In h)(G:h.Ns mainGlobals mg)(H:dQ K x st):∃g gd,iC K x x st g gd/\mg x=some (.ref g):=by
 obtain⟨g,oc,od,an,sl,kV,dc,pm,cd,ct,a,l,c,k⟩:=H;exact⟨g,_,G3 (st:=st) l c k,oN X G a⟩
def D_ (K:ba)(x:Str)(st:Stmt)(T:Addr):Prop:=∃(g:Addr)(oc:Value)(od an:Option Addr)(sl:Array (Option Value))(kV dc pm:Value)(c:Addr)(ct:Value),PySem.W.nsIn K mainGlobals x=some (some (.ref g)) /\
 K.lookup g=some ⟨oc,od,.func (PySem.W.fnOf x x (dJ st) (cC st) (av st) .none kV dc pm an (.ref c) ct),sl⟩/\PySem.W.codeIn K (.ref c) x=true/\PySem.W.codeHdIn K c T=true/\PySem.W.keepIn K (.ref g)=true
def D_.get {K:ba}{h:Heap}{mg:Str->Option Value}{x:Str}{st:Stmt}{T:Addr}(X:K.In h)(G:h.Ns mainGlobals mg)(H:D_ K x st T):∃g gd,yO K x x st g gd T/\mg x=some (.ref g):=by
 obtain⟨g,oc,od,an,sl,kV,dc,pm,c,ct,a,l,d,e,k⟩:=H;exact⟨g,_,⟨⟨oc,od,kV,dc,pm,an,c,ct,sl,rfl,l,d,e⟩,k⟩,oN X G a⟩
def yO.binds {K:ba}{x qual:Str}{st:Stmt}{f T:Addr}{fd:FuncData}{ps:List Str}(F:yO K x qual st f fd T)
  (h:∀(kV doc pm:Value)(an:Option Addr)(eY ct:Value)(us:List Value),us.length=ps.length->bindArgs (PySem.W.fnOf x qual (dJ st) (cC st) (av st) .none kV doc pm an eY ct) ⟨us,[]⟩=pure (ps.zip us)):Binds K fd ps []:=by
 obtain⟨oc,od,kV,doc,pm,an,c,ct,xU,rfl,lk,wM,_⟩:=F.ex;exact .all (h kV doc pm an (.ref c) ct)
def A4 (K:ba)(C:Addr)(m qual:Str)(st:Stmt):Prop:=∃(g:Addr)(oc:Value)(od an:Option Addr)(sl:Array (Option Value))(kV dc pm cd ct:Value),PySem.W.findIn K (.ref C) m=some (some (.ref g)) /\
 K.lookup g=some ⟨oc,od,.func (PySem.W.fnOf m qual (dJ st) (cC st) (av st) .none kV dc pm an cd ct),sl⟩/\PySem.W.codeIn K cd qual=true/\PySem.W.keepIn K (.ref g)=true/\PySem.W.isFn K (.ref g)=true
def A4.get {K:ba}{C:Addr}{m qual:Str}{st:Stmt}(H:A4 K C m qual st):∃g gd,iC K m qual st g gd/\Meth K C m g:=by
 obtain⟨g,oc,od,an,sl,kV,dc,pm,cd,ct,a,l,c,k,i⟩:=H;exact⟨g,_,G3 (st:=st) l c k,⟨a,i,k⟩⟩
def dQ.c {K:ba}{h:Heap}{mg:Str->Option Value}{x:Str}{st:Stmt}{P:Program}{w:World}{base:Heap}{k:Nat}{ps:List Str}{sp:Sp}(H:dQ K x st)(X:K.In h)(G:h.Ns mainGlobals mg)
  (b:∀(kV doc pm:Value)(an:Option Addr)(eY ct:Value)(us:List Value),us.length=ps.length->bindArgs (PySem.W.fnOf x x (dJ st) (cC st) (av st) .none kV doc pm an eY ct) ⟨us,[]⟩=pure (ps.zip us))
  (o:∀{f:Addr}{fd:FuncData},iC K x x st f fd->mg x=some (.ref f)->Binds K fd ps []->bS P w K mg base gp k f fd ps sp):aC P w K mg base k x ps sp:=by
 obtain⟨f,fd,F,m⟩:=H.get X G;have B:=F.binds b;exact⟨f,fd,o F m B,B,F.kp,m⟩
def hD {K:ba}{x:Str}{st:Stmt}(g c:Addr)(pm:Value)(h:(PySem.W.nsIn K mainGlobals x,K.lookup g,PySem.W.codeIn K (.ref c) x,PySem.W.keepIn K (.ref g))=(some (some (.ref g)),some ⟨.type "function",none,.func (PySem.W.fnOf x x (dJ st) (cC st) (av st) .none .none .none pm none (.ref c) .none),#[]⟩,true,true)):dQ K x st:=by
 simp only [qU] at h;exact⟨g,_,_,_,_,_,_,_,_,_,h.1,h.2.1,h.2.2.1,h.2.2.2⟩
def hC {K:ba}{x:Str}{st:Stmt}{T:Addr}(g c:Addr)(pm:Value)(h:(PySem.W.nsIn K mainGlobals x,K.lookup g,PySem.W.codeIn K (.ref c) x,PySem.W.codeHdIn K c T,PySem.W.keepIn K (.ref g))=(some (some (.ref g)),some ⟨.type "function",none,.func (PySem.W.fnOf x x (dJ st) (cC st) (av st) .none .none .none pm none (.ref c) .none),#[]⟩,true,true,true)):D_ K x st T:=by
 simp only [qU] at h;exact⟨g,_,_,_,_,_,_,_,c,_,h.1,h.2.1,h.2.2.1,h.2.2.2.1,h.2.2.2.2⟩
def hM {K:ba}{C:Addr}{m qual:Str}{st:Stmt}(g c:Addr)(pm:Value)(h:(PySem.W.findIn K (.ref C) m,K.lookup g,PySem.W.codeIn K (.ref c) qual,PySem.W.keepIn K (.ref g),PySem.W.isFn K (.ref g))=(some (some (.ref g)),some ⟨.type "function",none,.func (PySem.W.fnOf m qual (dJ st) (cC st) (av st) .none .none .none pm none (.ref c) .none),#[]⟩,true,true,true)):A4 K C m qual st:=by
 simp only [qU] at h;exact⟨g,_,_,_,_,_,_,_,_,_,h.1,h.2.1,h.2.2.1,h.2.2.2.1,h.2.2.2.2⟩
end L2
namespace hV
open PySem L2 M11
def N7 (K:ba)(C:Addr)(m qual:Str)(st:Stmt):Prop:=∃(g:Addr)(oc:Value)(od an:Option Addr)(sl:Array (Option Value))(kV dc pm cd ct:Value)(T:Addr)(o:Obj) (n:Nat),PySem.W.findIn K (.ref C) m=some (some (.ref g)) /\
 K.lookup g=some ⟨oc,od,.func (PySem.W.fnOf m qual (dJ st) (cC st) (av st) (.ref T) kV dc pm an cd ct),sl⟩/\PySem.W.codeIn K cd qual=true/\K.lookup T=some o/\o.data=.seq #[.none] n/\PySem.W.keepIn K (.ref g)=true/\PySem.W.isFn K (.ref g)=true
def N7.get {K:ba}{C:Addr}{m qual:Str}{st:Stmt}(H:N7 K C m qual st):∃g gd,HX K m qual st g gd/\PySem.W.findIn K (.ref C) m=some (some (.ref g))/\PySem.W.isFn K (.ref g)=true:=by
 obtain⟨g,oc,od,an,sl,kV,dc,pm,cd,ct,T,o,n,a,l,c,t,d,k,i⟩:=H;exact⟨g,_,⟨⟨oc,od,kV,dc,pm,an,cd,ct,sl,T,o,n,rfl,l,c,t,d⟩,k⟩,a,i⟩
structure Top (K:ba)(C Cg C3 T1 T2 T3:Addr)(tm:Tok):Prop where
 nB:PySem.W.nsIn K mainGlobals "BeginTable"=some (some (.ref C))
 nG:PySem.W.nsIn K mainGlobals "Grammar"=some (some (.ref Cg))
 nL:PySem.W.nsIn K mainGlobals "LeastTrees"=some (some (.ref C3))
 nM:PySem.W.nsIn K mainGlobals "MOST_RULES"=some (some (.int 60 tm))
 IH:PySem.W.nsIn K mainGlobals "sorted"=some none
 h0:dQ K "heads_of" zP
 h1:dQ K "numbers_by_name" E2
 h2:dQ K "standings_by_part" LY
 h3:dQ K "rule_size" o9
 h4:dQ K "empty_by_name" rT
 h5:dQ K "words_in" zG
 h6:dQ K "found_empties" rV
 h7:dQ K "first_places" vY
 h8:dQ K "way_back" LX
 h9:dQ K "steps_with_like_rows" zK
 h10:dQ K "find_loop" E4
 h11:dQ K "refuse_twice" zI
 h12:dQ K "names_met" LZ
 h13:dQ K "_law_cell_at" E9
 h14:dQ K "_law_digits" wc
 WA:dQ K "_law_names" zN
 h16:dQ K "_law_words" vV
 h17:dQ K "_law_more" E3
 h18:dQ K "_law_skeleton" EZ
 h19:dQ K "_law_ended" zQ
 h20:dQ K "_law_good" E7
 h21:dQ K "_law_grammar" E6
 h22:dQ K "is_number_below" zR
 h23:dQ K "is_child" rS
 h24:dQ K "do_step" v_
 h25:dQ K "do_make" wa
 h26:dQ K "do_deed" wb
 h27:dQ K "tree_of" vW
 h28:dQ K "_law_whole" zH
 h29:dQ K "_law_piled" zL
 h30:dQ K "_law_due" Ma
 h31:dQ K "_law_deeds" wg
 h32:dQ K "_law_least" vZ
 h33:dQ K "_law_tree" zJ
 h34:dQ K "_law_drawn_tree" v9
 h35:dQ K "_law_spoiled" rQ
 V1:dQ K "law" L0
 VJ:dQ K "settled_sizes" nN
 VQ:dQ K "refuse_faults" vX
 hL:D_ K "least_sizes" rR T1
 hG:D_ K "greatest_empty_sizes" v7 T2
 hLB:D_ K "least_by_part" nO T3
 mL1:A4 K C3 "__init__" "LeastTrees.__init__" zO
 mB1:A4 K C "__init__" "BeginTable.__init__" zT
 mB2:A4 K C "find_begins" "BeginTable.find_begins" E8
 mB3:A4 K C "words_of_part" "BeginTable.words_of_part" zM
 mG1:N7 K Cg "__init__" "Grammar.__init__" v8
 pgB:PySem.W.plainGet K C Str.empty=true
 hdB:PySem.W.hasDictIn K C=true
 poB:PySem.W.plainOver K C=true
 saB:PySem.W.findIn K (.ref C) "__setattr__"=some (some (.builtin "object.__setattr__"))
 mkB:PySem.W.makesIn K C=true
 Gf:PySem.W.keepIn K (.ref C)=true
 pgG:PySem.W.plainGet K Cg Str.empty=true
 hdG:PySem.W.hasDictIn K Cg=true
 poG:PySem.W.plainOver K Cg=true
 saG:PySem.W.findIn K (.ref Cg) "__setattr__"=some (some (.builtin "object.__setattr__"))
 mkG:PySem.W.makesIn K Cg=true
 kpG:PySem.W.keepIn K (.ref Cg)=true
 pgL:PySem.W.plainGet K C3 Str.empty=true
 hdL:PySem.W.hasDictIn K C3=true
 poL:PySem.W.plainOver K C3=true
 saL:PySem.W.findIn K (.ref C3) "__setattr__"=some (some (.builtin "object.__setattr__"))
 mkL:PySem.W.makesIn K C3=true
 kpL:PySem.W.keepIn K (.ref C3)=true
 AX:PySem.W.findIn K (.ref C) "empties"=some none
 HL:PySem.W.findIn K (.ref C) "empty"=some none
 DY:PySem.W.findIn K (.ref C) "begins"=some none
 DX:PySem.W.findIn K (.ref C) "firsts"=some none
 HF:PySem.W.findIn K (.ref C3) "rules"=some none
 HJ:PySem.W.findIn K (.ref C3) "empty"=some none
 HG:PySem.W.findIn K (.ref C3) "least"=some none
 DW:PySem.W.findIn K (.ref C3) "hollow"=some none
 ua:PySem.W.findIn K (.ref C3) "beginnings"=some none
 HK:PySem.W.findIn K (.ref Cg) "rules"=some none
 wZ:PySem.W.findIn K (.ref Cg) "strengths"=some none
 tI:PySem.W.findIn K (.ref Cg) "begin_table"=some none
 w5:PySem.W.findIn K (.ref Cg) "standings"=some none
 tH:PySem.W.findIn K (.ref Cg) "small_trees"=some none
 TH:PySem.W.nsIn K mainGlobals "len"=some none
 LF:PySem.W.nsIn K mainGlobals "range"=some none
 xt:PySem.W.nsIn K mainGlobals "isinstance"=some none
 LA:PySem.W.nsIn K mainGlobals "tuple"=some none
 O3:PySem.W.nsIn K mainGlobals "list"=some none
 O4:PySem.W.nsIn K mainGlobals "dict"=some none
 TL:PySem.W.nsIn K mainGlobals "all"=some none
 TK:PySem.W.nsIn K mainGlobals "any"=some none
 TB:PySem.W.nsIn K mainGlobals "str"=some none
 TJ:PySem.W.nsIn K mainGlobals "int"=some none
 O5:PySem.W.nsIn K mainGlobals "bool"=some none
 zt:PySem.W.nsIn K mainGlobals "enumerate"=some none
 Tz:PySem.W.nsIn K mainGlobals "sum"=some none
 TF:PySem.W.nsIn K mainGlobals "max"=some none
 TC:PySem.W.nsIn K mainGlobals "min"=some none
def all_mk {l:PySem.W.OpenLaw}{w:World}{K:ba}{h:Heap}{mg:Str->Option Value}{fa C Cg C3 T1 T2 T3:Addr}{tm:Tok}(X:K.In h)(G:h.Ns mainGlobals mg)(hfa:mg "law"=some (.ref fa))(tp:Top K C Cg C3 T1 T2 T3 tm) :
  ∃fd:FuncData,(∀(s:Shared)(v:Value),BindsTo s fd ⟨[v],[]⟩ [("_law_script",v)])/\∀base:Heap,K.In base->base.Ns mainGlobals mg->tM mg base->bS l.prog w K mg base gp 12 fa fd ["_law_script"] (Bp K T1 T2 T3):=by
 have T:Txt mg:=⟨iH X G tp.TH,iH X G tp.LF,iH X G tp.xt,iH X G tp.LA,iH X G tp.O3,iH X G tp.O4,iH X G tp.TL,iH X G tp.TK,iH X G tp.TB,iH X G tp.TJ,iH X G tp.O5,iH X G tp.zt,iH X G tp.Tz,iH X G tp.TF,iH X G tp.TC⟩;obtain⟨Ld,Ln,yP,KP⟩:=tp.VJ.get X G;have Ls:=yP.binds (ps:=["rules","sizes","better"]) λ_ _ _ _ _ _=>by exact IQ λ_ _ _=>rfl
 obtain⟨Rc,Rz,HY,Qb⟩:=tp.VQ.get X G;have RH:=HY.binds (ps:=["rules","strengths"]) λ_ _ _ _ _ _=>by exact Cp λ_ _=>rfl
 obtain⟨f_L,d_L,X5,m_L⟩:=tp.hL.get X G;have b_L:=X5.binds (ps:=["rules"]) λ_ _ _ _ _ _=>by exact xf λ_=>rfl
 obtain⟨f_G,d_G,X6,m_G⟩:=tp.hG.get X G;have b_G:=X6.binds (ps:=["rules"]) λ_ _ _ _ _ _=>by exact xf λ_=>rfl
 obtain⟨WD,Xi,N9,Va⟩:=tp.hLB.get X G;have Xv:=N9.binds (ps:=["rules"]) λ_ _ _ _ _ _=>by exact xf λ_=>rfl
 obtain⟨WH,aax,R7,Qd⟩:=tp.mB1.get;have Xz:=R7.binds (ps:=["self","rules"]) λ_ _ _ _ _ _=>by exact Cp λ_ _=>rfl
 obtain⟨aar,aaw,R6,Vd⟩:=tp.mB2.get;have Xy:=R6.binds (ps:=["self","number","rule"]) λ_ _ _ _ _ _=>by exact IQ λ_ _ _=>rfl
 obtain⟨aaq,aav,RZ,Vc⟩:=tp.mB3.get;have Xx:=RZ.binds (ps:=["self","part"]) λ_ _ _ _ _ _=>by exact Cp λ_ _=>rfl
 obtain⟨WE,aat,RX,Qc⟩:=tp.mL1.get;have Xw:=RX.binds (ps:=["self","rules","begin_table"]) λ_ _ _ _ _ _=>by exact IQ λ_ _ _=>rfl
 obtain⟨WG,aau,RY,Vb,Vv⟩:=tp.mG1.get;have cB:BC K C:=⟨⟨tp.pgB,tp.hdB,tp.poB,tp.saB⟩,tp.AX,tp.HL,tp.DY,tp.DX⟩;have cG:GC K Cg:=⟨⟨tp.pgG,tp.hdG,tp.poG,tp.saG⟩,tp.HK,tp.wZ,tp.tI,tp.w5,tp.tH⟩;have cL:LC K C3:=⟨⟨tp.pgL,tp.hdL,tp.poL,tp.saL⟩,tp.HF,tp.HJ,tp.HG,tp.DW,tp.ua⟩;have kL:Mk K C3 WE:=⟨tp.mkL,Qc.at_,Qc.fn,tp.kpL⟩;have kB:Mk K C WH:=⟨tp.mkB,Qd.at_,Qd.fn,tp.Gf⟩;have kG:Mk K Cg WG:=⟨tp.mkG,Vb,Vv,tp.kpG⟩;obtain⟨f9,d9,F9,m9⟩:=tp.V1.get X G;have e:=hfa.symm.trans m9;cases e;obtain⟨oc,od,kV,doc,pm,an,eY,ct,xU,eL,lk,wM⟩:=F9.ex;refine⟨d9,λs v=>?_,λbase _ _ Q9=>?_⟩
 .rw [eL];exact .of_eq rfl
 have c0:=tp.h0.c (P:=l.prog) (w:=w) (base:=base) X G (λ_ _ _ _ _ _=>by exact xf λ_=>rfl) λF m B=>FT F T;have c1:=tp.h1.c (P:=l.prog) (w:=w) (base:=base) X G (λ_ _ _ _ _ _=>by exact xf λ_=>rfl) λF m B=>Ju F T c0;have c2:=tp.h2.c (P:=l.prog) (w:=w) (base:=base) X G (λ_ _ _ _ _ _=>by exact xf λ_=>rfl) λF m B=>Mx F T;have c3:=tp.h3.c (P:=l.prog) (w:=w) (base:=base) X G (λ_ _ _ _ _ _=>by exact Cp λ_ _=>rfl) λF m B=>x8 F T;have c4:=tp.h4.c (P:=l.prog) (w:=w) (base:=base) X G (λ_ _ _ _ _ _=>by exact Cp λ_ _=>rfl) λF m B=>Ae F T;have c5:=tp.h5.c (P:=l.prog) (w:=w) (base:=base) X G (λ_ _ _ _ _ _=>by exact xf λ_=>rfl) λF m B=>FE F T;have c6:=tp.h6.c (P:=l.prog) (w:=w) (base:=base) X G (λ_ _ _ _ _ _=>by exact xf λ_=>rfl) λF m B=>Af F T;have c7:=tp.h7.c (P:=l.prog) (w:=w) (base:=base) X G (λ_ _ _ _ _ _=>by exact Cp λ_ _=>rfl) λF m B=>CM F T;have c8:=tp.h8.c (P:=l.prog) (w:=w) (base:=base) X G (λ_ _ _ _ _ _=>by exact IQ λ_ _ _=>rfl) λF m B=>Mw F T;have c9:=tp.h9.c (P:=l.prog) (w:=w) (base:=base) X G (λ_ _ _ _ _ _=>by exact xf λ_=>rfl) λF m B=>FK F T c6 c0;have c10:=tp.h10.c (P:=l.prog) (w:=w) (base:=base) X G (λ_ _ _ _ _ _=>by exact xf λ_=>rfl) λF m B=>Jw F T c9 c8;have c11:=tp.h11.c (P:=l.prog) (w:=w) (base:=base) X G (λ_ _ _ _ _ _=>by exact xf λ_=>rfl) λF m B=>FI F T;have c12:=tp.h12.c (P:=l.prog) (w:=w) (base:=base) X G (λ_ _ _ _ _ _=>by exact xf λ_=>rfl) λF m B=>My F T;have Hv:=tp.h13.c (P:=l.prog) (w:=w) (base:=base) X G (λ_ _ _ _ _ _=>by exact Cp λ_ _=>rfl) λF m B=>JA F T;have c14:=tp.h14.c (P:=l.prog) (w:=w) (base:=base) X G (λ_ _ _ _ _ _=>by exact IQ λ_ _ _=>rfl) λF m B=>CT F T;have Xp:=tp.WA.c (P:=l.prog) (w:=w) (base:=base) X G (λ_ _ _ _ _ _=>by exact xf λ_=>rfl) λF m B=>FP F T;have c16:=tp.h16.c (P:=l.prog) (w:=w) (base:=base) X G (λ_ _ _ _ _ _=>by exact xf λ_=>rfl) λF m B=>CJ F T;have c17:=tp.h17.c (P:=l.prog) (w:=w) (base:=base) X G (λ_ _ _ _ _ _=>by exact T5 λ_ _ _ _ _=>rfl) λF m B=>Jv F T (Hv.mono nofun) (c14.mono nofun);have c18:=tp.h18.c (P:=l.prog) (w:=w) (base:=base) X G (λ_ _ _ _ _ _=>by exact O7 λ_ _ _ _=>rfl) λF m B=>Jt F T (Hv.mono nofun) (c14.mono nofun);have c19:=tp.h19.c (P:=l.prog) (w:=w) (base:=base) X G (λ_ _ _ _ _ _=>by exact Cp λ_ _=>rfl) λF m B=>FX F T;have c20:=tp.h20.c (P:=l.prog) (w:=w) (base:=base) X G (λ_ _ _ _ _ _=>by exact xf λ_=>rfl) λF m B=>Jy F T (c19.mono nofun);have c21:=tp.h21.c (P:=l.prog) (w:=w) (base:=base) X G (λ_ _ _ _ _ _=>by exact Cp λ_ _=>rfl) λF m B=>Jx F T (Hv.mono nofun) (Xp.mono nofun) (c16.mono nofun) (c18.mono nofun) (c17.mono nofun) (c20.mono nofun);have c22:=tp.h22.c (P:=l.prog) (w:=w) (base:=base) X G (λ_ _ _ _ _ _=>by exact Cp λ_ _=>rfl) λF m B=>F1 F T;have c23:=tp.h23.c (P:=l.prog) (w:=w) (base:=base) X G (λ_ _ _ _ _ _=>by exact O7 λ_ _ _ _=>rfl) λF m B=>FY F T;have c24:=tp.h24.c (P:=l.prog) (w:=w) (base:=base) X G (λ_ _ _ _ _ _=>by exact IQ λ_ _ _=>rfl) λF m B=>CP F T;have c25:=tp.h25.c (P:=l.prog) (w:=w) (base:=base) X G (λ_ _ _ _ _ _=>by exact O7 λ_ _ _ _=>rfl) λF m B=>CQ F T (c22.mono nofun) (c23.mono nofun);have c26:=tp.h26.c (P:=l.prog) (w:=w) (base:=base) X G (λ_ _ _ _ _ _=>by exact O7 λ_ _ _ _=>rfl) λF m B=>CS F T (c24.mono nofun) (c25.mono nofun);have c27:=tp.h27.c (P:=l.prog) (w:=w) (base:=base) X G (λ_ _ _ _ _ _=>by exact Cp λ_ _=>rfl) λF m B=>CK F T (c0.mono nofun) (c26.mono nofun);have c28:=tp.h28.c (P:=l.prog) (w:=w) (base:=base) X G (λ_ _ _ _ _ _=>by exact xf λ_=>rfl) λF m B=>FH F T;have c29:=tp.h29.c (P:=l.prog) (w:=w) (base:=base) X G (λ_ _ _ _ _ _=>by exact O7 λ_ _ _ _=>rfl) λF m B=>FN F T (c28.mono nofun);have NX:=tp.h30.c (P:=l.prog) (w:=w) (base:=base) X G (λ_ _ _ _ _ _=>by exact Cp λ_ _=>rfl) λF m B=>MA F T (c29.mono nofun);have c31:=tp.h31.c (P:=l.prog) (w:=w) (base:=base) X G (λ_ _ _ _ _ _=>by exact xf λ_=>rfl) λF m B=>uF F T B m 10;have c32:=tp.h32.c (P:=l.prog) (w:=w) (base:=base) X G (λ_ _ _ _ _ _=>by exact xf λ_=>rfl) λF m B=>CN F T;have c33:=tp.h33.c (P:=l.prog) (w:=w) (base:=base) X G (λ_ _ _ _ _ _=>by exact T5 λ_ _ _ _ _=>rfl) λF m B=>xZ F T B m 7;have c34:=tp.h34.c (P:=l.prog) (w:=w) (base:=base) X G (λ_ _ _ _ _ _=>by exact IQ λ_ _ _=>rfl) λF m B=>CO F T (c32.mono nofun) (c33.mono nofun) (c31.mono nofun);have c35:=tp.h35.c (P:=l.prog) (w:=w) (base:=base) X G (λ_ _ _ _ _ _=>by exact T5 λ_ _ _ _ _=>rfl) λF m B=>Aa F T;have Xm:aC l.prog w K mg base 2 "settled_sizes" ["rules","sizes","better"] (iT K yW r9.1 r9.2.1 r9.2.2.1 M11.bl):=⟨Ld,Ln,Ab yP T,Ls,yP.kp,KP⟩;have Xn:aC l.prog w K mg base 2 "settled_sizes" ["rules","sizes","better"] (iT K KQ Ao.1 Ao.2.1 Ao.2.2.1 M11.bg):=⟨Ld,Ln,Ac yP T,Ls,yP.kp,KP⟩;have c_L:aC l.prog w K mg base 3 "least_sizes" ["rules"] (qA K T1):=⟨f_L,d_L,FR X5 T Q9 c5 Xm,b_L,X5.kp,m_L⟩;have c_G:aC l.prog w K mg base 3 "greatest_empty_sizes" ["rules"] (vP K T2):=⟨f_G,d_G,FU X6 Q9 Xn,b_G,X6.kp,m_G⟩;have RD:aC l.prog w K mg base 4 "refuse_faults" ["rules","strengths"] (rJ K T1 T2):=⟨Rc,Rz,CL HY T (oN X G tp.nM) c11 c_L c0 c12 c10 c_G,RH,HY.kp,Qb⟩;have Xo:aC l.prog w K mg base 4 "least_by_part" ["rules"] (o6 K T1 T3):=⟨WD,Xi,Ad N9 T Q9 (iH X G tp.IH) (c0.mono nofun) c_L (c1.mono nofun) (c3.mono nofun),Xv,N9.kp,Va⟩;have UR:=FO (P:=l.prog) (w:=w) (base:=base) RZ T cB;have US:=Jz R6 T cB c7 UR Vc Xx;have UT:=FZ R7 T cB c6 c0 US Vd Xy;have UP:=FQ RX T cB cL Xo (c4.mono nofun);have UQ:=FV RY T cG (RD.mono nofun) (c2.mono nofun) (UT.mono nofun) kB Xz (oN X G tp.nB) UP kL Xw (oN X G tp.nL);exact Mz F9 T (c21.mono nofun) (c34.mono nofun) (c31.mono nofun) (Hv.mono nofun) (c35.mono nofun) (NX.mono nofun) (c27.mono nofun) cG kG (UQ.mono nofun) (G0 RY) (oN X G tp.nG)
def walk {l:PySem.W.OpenLaw}{q:Program}{loose:List Str}{XP:(Str->Option Value)->Heap->Prop}{YP:World->Heap->Prop}{d:DefRec}{K:Params->ba}(T1 T2 T3 c1 c2 c3:Addr)(KN:T1≠T2)(KL:T1≠T3)(KJ:T2≠T3)(hn:l.most=some 63)(Nd:d.params.defaults=[])
  (hY:∀(w:World)(h:Heap),YP w h->(K w.params).In h/\∀T∈[T3,T2,T1],h.get? T=some (PySem.W.tabObj #[]))
  (hK1:∀w:World,(K w.params).lookup T1=none)(hK2:∀w:World,(K w.params).lookup T2=none)(hK3:∀w:World,(K w.params).lookup T3=none)(Nn:∀w:World,PySem.W.codeHdIn (K w.params) c1 T1=true)(y_:∀w:World,PySem.W.codeHdIn (K w.params) c2 T2=true)(JT:∀w:World,PySem.W.codeHdIn (K w.params) c3 T3=true)
  (F:∀(w:World)(mg:Str->Option Value)(fa:Addr)(h:Heap),(K w.params).In h->h.Ns mainGlobals mg->mg d.name=some (.ref fa) ->
   ∃fd:FuncData,(∀(s:Shared)(u:Value),BindsTo s fd ⟨[u],[]⟩ [("_law_script",u)])/\∀base:Heap,(K w.params).In base->base.Ns mainGlobals mg->tM mg base->bS l.prog w (K w.params) mg base gp 12 fa fd ["_law_script"] (Bp (K w.params) T1 T2 T3)) :
  PySem.W.WalkO q loose XP YP l.row.toRowW d [] (λf vs=>PySem.call f vs) :=
 L2.Ew (n:=63) (k:=12) (x := "_law_script") (CX:=λ_=>gp) (sp:=λw=>Bp (K w.params) T1 T2 T3) hn nofun Nd ⟨rfl,nofun,nofun⟩ hY (λw T hT=>by
  rcases bX.mp hT with e | hT
  .subst e;exact⟨hK3 w,c3,JT w⟩
  rcases bX.mp hT with e | hT
  .subst e;exact⟨hK2 w,c2,y_ w⟩
  rw [bF.mp hT];exact⟨hK1 w,c1,Nn w⟩) F (λ_ H a ns hl _ hT hS=>⟨a,ns,rfl,hS,hl,⟨⟨#[],hT T1 (by simp),by trivial,.inl rfl⟩,⟨#[],hT T2 (by simp),by trivial,.inl rfl⟩,⟨#[],hT T3 (by simp),by trivial,.inl rfl⟩,KN,KL,KJ⟩,λ_=>rfl⟩) λ_ _ _ _ _ z=>z
end hV
set_option maxHeartbeats 0
end
namespace HD
open PySem PySem.W L2
def T9 (P:Params):hV.Top (K P) 145 407 378 288 293 322 591:=⟨nofun,nofun,nofun,nofun,nofun,
 hD 26 25 HD.m1 (nofun),
 hD 36 35 HD.m1 (nofun),
 hD 43 42 HD.m1 (nofun),
 hD 330 329 HD.m8 (nofun),
 hD 335 334 HD.m8 (nofun),
 hD 31 30 HD.m1 (nofun),
 hD 88 87 HD.m3 (nofun),
 hD 95 94 HD.m3 (nofun),
 hD 286 285 HD.m5 (nofun),
 hD 279 278 HD.m5 (nofun),
 hD 274 273 HD.m5 (nofun),
 hD 315 314 HD.m7 (nofun),
 hD 320 319 HD.m7 (nofun),
 hD 418 417 HD.kj (nofun),
 hD 437 436 HD.kj (nofun),
 hD 423 422 HD.kj (nofun),
 hD 430 429 HD.kj (nofun),
 hD 451 450 HD.kj (nofun),
 hD 444 443 HD.kj (nofun),
 hD 456 455 HD.kj (nofun),
 hD 461 460 HD.kj (nofun),
 hD 468 467 HD.kj (nofun),
 hD 50 49 HD.m1 (nofun),
 hD 83 82 HD.m2 (nofun),
 hD 69 68 HD.m2 (nofun),
 hD 76 75 HD.m2 (nofun),
 hD 62 61 HD.m2 (nofun),
 hD 55 54 HD.m2 (nofun),
 hD 499 498 HD.kj (nofun),
 hD 506 505 HD.kj (nofun),
 hD 511 510 HD.kj (nofun),
 hD 487 486 HD.kj (nofun),
 hD 473 472 HD.kj (nofun),
 hD 480 479 HD.kj (nofun),
 hD 492 491 HD.kj (nofun),
 hD 518 517 HD.kj (nofun),
 hD 525 524 HD.kj (nofun),
 hD 303 302 HD.m6 (nofun),
 hD 308 307 HD.m7 (nofun),
 hC 291 290 HD.m6 (nofun),
 hC 298 297 HD.m6 (nofun),
 hC 325 324 HD.m8 (nofun),
 hM 347 346 HD.m8 (nofun),
 hM 107 106 HD.m3 (nofun),
 hM 114 113 HD.m3 (nofun),
 hM 121 120 HD.m3 (nofun),
 ⟨397,.type "function",none,none,#[],.none,.none,.str "wright.grammars" 702,.ref 396,.none,390,⟨.type "tuple",none,.seq #[.none] 0,#[]⟩,0,nofun,nofun,nofun,nofun,rfl,nofun,nofun⟩,nofun,nofun,nofun,nofun,nofun,nofun,nofun,nofun,nofun,nofun,nofun,nofun,nofun,nofun,nofun,nofun,nofun,nofun,nofun,nofun,nofun,nofun,nofun,nofun,nofun,nofun,nofun,nofun,nofun,nofun,nofun,nofun,nofun,nofun,nofun,nofun,nofun,nofun,nofun,nofun,nofun,nofun,nofun,nofun,nofun,nofun,nofun⟩
end HD
theorem PySem.Challenge.cw_wright_k68_deeds_of_no_tree_holds : PySem.Challenge.rw_wright_k68_deeds_of_no_tree.Holds := by
 refine HD.hold ?_ ?hw
 case hw=>w_witness2
 refine hV.walk (l:=PySem.Challenge.rw_wright_k68_deeds_of_no_tree) (K:=HD.K) 288 293 322 290 297 324 nofun nofun nofun rfl HD.ok5 (λw h Y=>⟨PySem.W.km_in_of Y,PySem.W.km_tabs_of Y⟩) (λw=>by kernel_rfl) (λw=>by kernel_rfl) (λw=>by kernel_rfl) (λw=>by kernel_rfl) (λw=>by kernel_rfl) (λw=>by kernel_rfl) ?F;intro w mg fa h KX G M4;exact hV.all_mk KX G M4 (HD.T9 w.params)
