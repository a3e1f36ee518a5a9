import PyProof.Rows.All
import Wide.All
import OpenK.AllK
import Wide.FinOn
import Lean
import PyProof.EqAt
import PyProof.EqKinds
import PyProof.TupleCall
import KE.KNestM
import PyProof.IsiH_list
import PyProof.RaisesAny
import KE.KDictOf
import PyProof.CollectWalk
import PyProof.CompFree
import KE.KDictList
import PyProof.NeKinds
import PyProof.ConsumeWalk
import PyProof.StrBlockI
import PyProof.EnumFor
import PyProof.TupleIter
import PyProof.EnumMake
import KE.KLam
import PyProof.DictUpdate
import PyProof.SeqI3
import PyProof.DictWalks
import PyProof.ConsumeS
import PyProof.Rows.CallKwBuiltin
import KE.KDictLaws
import PyProof.AutoListH
import PyProof.ZipIter
import PyProof.ListNew
import KE.KRevSl
import PyProof.StrOps
import PyProof.StrOps2
import KE.KSortKey
import PySem.Challenge.RW_wright_k20_what_can_be_empty
set_option Elab.async false
set_option linter.all false
set_option maxRecDepth 100000
local macro_rules | `(tactic| omega) => `(tactic| first | lia | omega (config := {}))
local macro_rules | `(∅) => `(by omega)
local macro_rules | `(nofun) => `(by first | decide +kernel | kernel_rfl)
def ba:=@Or.inl
abbrev a8:=PySem.W.Frag
def tE:0<=PySem.sizeLine:=by decide
def G9:1<=PySem.sizeLine:=by decide
def kW:2<=PySem.sizeLine:=by decide
def FK:3<=PySem.sizeLine:=by decide
def V0:4<=PySem.sizeLine:=by decide
def OM:5<=PySem.sizeLine:=by decide
def av.{u,v}:=@List.length_map.{u,v}
def bc.{u}:=@List.getElem?_eq_some_iff.{u}
def bo.{u,v}:=@List.getElem?_map.{u,v}
def bW:=@PySem.Heap.get?_push_of_some
def b9.{u,v}:=@Option.map_eq_some_iff.{u,v}
def aE:=@PySem.wpAny_bind
def bO.{u}:=@List.length_append.{u}
def cy.{u}:=@List.mem_of_getElem?.{u}
def bC.{u,v}:=@List.map_append.{u,v}
def cT.{u}:=@List.mem_singleton.{u}
def aG:=@Nat.le_refl
def cz.{u}:=@List.mem_cons_of_mem.{u}
def b0.{u}:=@List.mem_cons_self.{u}
def c_.{u}:=@List.getElem?_eq_getElem.{u}
def bB:=@PySem.Paired.length
def aR:=@PySem.wpAny_pure
def cI.{u}:=@List.take_add_one.{u}
def cC.{u}:=@List.take_length.{u}
def bA:=@PySem.Heap.lt_size
def b_:=@PySem.PassesOwn.never
def cM.{u}:=@List.size_toArray.{u}
def bM.{u}:=@List.mem_cons.{u}
def dO.{u}:=@List.mem_append_right.{u}
def ff:=@PySem.F.type_list_append
def fc:=@PySem.F.slot_list_append
def dq:=@PySem.Heap.get?_push_size
def cD.{u}:=@List.mem_append.{u}
def ax.{u}:=@if_pos.{u}
def cZ:=@Bool.false_ne_true
def e_:=@PySem.F.plainAttrs_list
def ay.{u}:=@if_neg.{u}
def bZ.{u,v}:=@List.map_cons.{u,v}
def bQ:=@Nat.ne_of_lt
def eV.{u}:=@List.mem_append_left.{u}
def dA:=@of_decide_eq_true
def fI.{u}:=@List.getElem?_of_mem.{u}
def eZ:=@Nat.lt_of_lt_of_le
def cH.{u,v}:=@List.mem_map.{u,v}
def d7.{u}:=@List.length_take.{u}
def d6.{u}:=@List.length_cons.{u}
def d5.{u}:=@List.all_eq_true.{u}
def gO.{u}:=@List.length_singleton.{u}
def gE:=@PySem.W.mg_none_of
def eU:=@decide_eq_true
def gW.{u,v}:=@List.mem_map_of_mem.{u,v}
def lF.{u}:=@List.take_append_of_le_length.{u}
def jZ.{u}:=@List.getElem?_append_right.{u}
def ir:=@Bool.and_eq_true_iff
def cY:=@PySem.wpAny_mono
def gC.{u}:=@Option.some.inj.{u}
def gb:=@PySem.boot_len
def lD.{u}:=@List.getElem?_append_left.{u}
def lC.{u}:=@Option.isSome_iff_exists.{u}
def fU:=@Nat.le_trans
def jk.{u}:=@beq_eq_false_iff_ne.{u}
def hU:=@decide_eq_false
def iq.{u}:=@List.append_nil.{u}
def qV:=@PyProof.Rows.slot_tuple_getitem
def jj.{u}:=@List.nodup_append.{u}
def f_:=@PySem.Paired.snoc
def jY:=@Int.toNat_natCast
def i4.{u}:=@List.nodup_nil.{u}
def gN:=@Nat.zero_le
def ji.{u}:=@List.nodup_cons.{u}
def jh.{u}:=@List.length_nil.{u}
def jX:=@Bool.and_eq_true
def lB.{u}:=@List.append_assoc.{u}
def jW.{u}:=@List.mem_filter.{u}
def ip.{u,v,w}:=@List.map_map.{u,v,w}
def lh:=@PySem.wpAny_truthy_bool
def k_:=@PySem.wpAny_newObj_type
def oM.{u}:=@List.mem_iff_getElem.{u}
def uZ:=@PyProof.Rows.boot_isinstance
def jf.{u}:=@List.sum_cons.{u}
def jV:=@List.mem_range
def k0:=@Bool.eq_iff_iff
def qU:=@PySem.wpAny_callSpecial?_slot
def nK:=@Nat.lt_succ_self
def il:=@PySem.wpAny_field
def jU:=@Bool.true_and
def i0:=@Int.le_refl
def oK:=@PySem.wpAny_Call_Name_kw
def oJ.{u,v}:=@Option.isSome_map.{u,v}
def jT:=@Nat.ne_of_gt
def oI.{u}:=@beq_self_eq_true.{u}
def uY.{u}:=@List.take_of_length_le.{u}
def qT.{u}:=@List.pairwise_cons.{u}
def qS.{u,v}:=@List.map_singleton.{u,v}
def qR.{u}:=@List.filter_append.{u}
def yw:=@PyProof.Rows.callWith_type1
def oH.{u}:=@List.nil_append.{u}
def uX.{u}:=@List.length_filter_le.{u}
def nJ:=@Nat.lt_irrefl
def qQ:=@PySem.tupleKind_room_in1
def qP:=@PySem.Calls.spliced_cons
def uW.{u}:=@List.mem_of_mem_take.{u}
def kZ:=@PySem.wpAny_typeOf
def oG:=@PySem.wpAny_passesOwn
def qO.{u,v}:=@List.mem_flatMap.{u,v}
def qN.{u,v}:=@List.getElem_map.{u,v}
def mQ:=@PySem.wpAny_pyIter_list
def jq:=@PySem.wpAny_holding
def oX:=@PySem.mem_of_lookup
def jo:=@Nat.lt_trans
def jn:=@Nat.le_of_lt
def tD.{u}:=@List.getElem?_take_of_lt.{u}
def tu:=@PySem.F.slot_tuple_iterator_next
def oW:=@PySem.Around.under_plainId
def tq:=@PyProof.Rows.boot_tuple
def oV:=@Nat.lt_of_le_of_lt
def mP.{u}:=@List.find?_cons.{u}
def mN:=@PySem.wpAny_call_entry
def s_:=@PySem.F.slot_list_getattribute
def jm.{u,v}:=@Sum.inr.inj.{u,v}
def fu.{u}:=@Ne.symm.{u}
def jl:=@Nat.le_succ
def oU:=@Bool.eq_false_iff
def mM:=@Bool.false_and
def oT:=@PySem.wpAny_setField_rec
def sZ:=@PySem.wpAny_loadPart'
def sY:=@PyProof.Rows.boot_sum
def j_.{u,v}:=@List.map_nil.{u,v}
def sX.{u}:=@List.getElem?_eq_none.{u}
def sW:=@PySem.Calls.callWith_builtin
def mK:=@PySem.W.mg_of
def mJ:=@PySem.Heap.size_push
def sV:=@PySem.wpAny_pyNext_list_end
def oS:=@PySem.W.kia_one
def oR.{u,v}:=@Option.map_some.{u,v}
def sU:=@PySem.F.slot_enumerate_next
def sS.{u}:=@Array.toList_append.{u}
def sR.{u}:=@Array.length_toList.{u}
def wR.{u}:=@List.getD_eq_getElem?_getD.{u}
def sQ:=@PySem.wpAny_loadName_local
def mI:=@Nat.zero_add
def mH:=@Nat.sub_self
def mF:=@Int.zero_add
def mE:=@Int.le_trans
def sP:=@PySem.Calls.evalArgs_plain
def mD:=@PySem.plainId_quiet
def oQ:=@PySem.codeAny_builtin
def wQ:=@PySem.F.slot_dict_update
def wO:=@PySem.F.args_tuple_add_2
def wM:=@PyProof.Rows.boot_sorted
def sO:=@Nat.lt_succ_of_lt
def sN:=@List.length_range
def sM.{u,v}:=@List.foldl_append.{u,v}
def wL:=@PySem.F.plainAttrs_dict
def wK:=@PySem.F.entry_tuple_add
def oP.{u,v}:=@Prod.mk.injEq.{u,v}
def oO.{u}:=@List.any_cons.{u}
def sL:=@PySem.wpAny_pyIter_tuple
def mC:=@PySem.codeAny_mono
def sJ.{u}:=@List.length_drop.{u}
def sI.{u}:=@List.getElem_inj.{u}
def sH.{u}:=@List.filter_cons.{u}
def oN:=@PySem.wpAny_seqItems
def wJ:=@PySem.F.slot_tuple_add
namespace L2
open PySem PySem.Spec PyProof.Rows
abbrev aK:=Sum Int Str
def pN:aK->Value->Bool
 | .inl k,v=>Value.isInt k v
 | .inr x,v=>Value.isStrOf x v
def Qf (w:World):aK->Int
 | .inl k=>hashInt k
 | .inr x=>hashStr w x
def cR:∀{k:aK}{v:Value},pN k v=true->(∃i t,k=Sum.inl i/\v=Value.int i t)\/(∃x t,k=Sum.inr x/\v=Value.str x t)
 | .inl i,v,h=>by
  obtain⟨t,e⟩:=Value.isInt_shape (k:=i) (v:=v) h;exact .inl ⟨i,t,rfl,e⟩
 | .inr x,v,h=>by
  obtain⟨t,e⟩:=Value.isStrOf_shape (x:=x) (v:=v) h;exact .inr ⟨x,t,rfl,e⟩
def Ak (i:Int)(t:Tok):pN (.inl i) (.int i t)=true:=by simp [pN,Value.isInt]
def Aj (x:Str)(t:Tok):pN (.inr x) (.str x t)=true:=by simp [pN,Value.isStrOf]
def IC (a b:Int):decide ((Sum.inl a:aK)=Sum.inl b)=(a == b):=by
 by_cases e:a=b
 .subst e;simp
 have h:¬(Sum.inl a:aK)=Sum.inl b:=λq=>e (Sum.inl.inj q);rw [hU h];exact(jk.mpr e).symm
def Iz (a b:Str):decide ((Sum.inr a:aK)=Sum.inr b)=decide (a=b):=by
 by_cases e:a=b
 .subst e;simp
 have h:¬(Sum.inr a:aK)=Sum.inr b:=λq=>e (jm q);rw [hU h,hU e]
def IB (a:Int)(b:Str):decide ((Sum.inl a:aK)=Sum.inr b)=false:=hU (λq=>nomatch q)
def IA (a:Str) (b:Int):decide ((Sum.inr a:aK)=Sum.inl b)=false:=hU (λq=>nomatch q)
def a7 (prog:Program)(w:World):PySem.KeyKind prog w aK where
 is:=pN
 hash:=Qf w
 inj:=λv a b ha hb=>by
  rcases cR ha with ⟨i,t,rfl,rfl⟩ | ⟨x,t,rfl,rfl⟩
  .rcases cR hb with ⟨j,u,rfl,e⟩ | ⟨y,u,rfl,e⟩
   .injection e with e1 _;rw [e1]
   exact nomatch e
  rcases cR hb with ⟨j,u,rfl,e⟩ | ⟨y,u,rfl,e⟩
  .exact nomatch e
  injection e with e1 _;rw [e1]
 byValue:=λk v h=>by
  rcases cR h with ⟨i,t,rfl,rfl⟩ | ⟨x,t,rfl,rfl⟩ <;> rfl
 pyHash:=λhv h=>by
  rcases cR hv with ⟨i,t,rfl,rfl⟩ | ⟨x,t,rfl,rfl⟩
  .exact wpAny_pyHash_int h
  exact wpAny_pyHash_str h
 eqBool:=λhu hv h=>by
  rcases cR hu with ⟨i,t,rfl,rfl⟩ | ⟨x,t,rfl,rfl⟩
  .rcases cR hv with ⟨j,u,rfl,rfl⟩ | ⟨y,u,rfl,rfl⟩
   .rw [IC] at h;exact wpAny_eqBool_int h
   rw [IB] at h;exact SeqAt.EqAt.int_str i t y u _ _ _ _ h
  rcases cR hv with ⟨j,u,rfl,rfl⟩ | ⟨y,u,rfl,rfl⟩
  .rw [IA] at h;exact SeqAt.EqAt.str_int x t j u _ _ _ _ h
  rw [Iz] at h;exact wpAny_eqBool_str h
 «strs»:=λk x t v h=>by
  rcases cR h with ⟨i,u,rfl,e⟩ | ⟨y,u,rfl,e⟩
  .exact nomatch e
  injection e with e1 _;subst e1;cases v <;> rfl
def vF (prog:Program)(w:World) (i:Int)(t:Tok):(a7 prog w).is (.inl i) (.int i t)=true:=Ak i t
def vE (prog:Program)(w:World)(x:Str)(t:Tok):(a7 prog w).is (.inr x) (.str x t)=true:=Aj x t
inductive V where
 | fJ | bl (b:Bool) | int (i:Int) | str (x:Str) | ym (b:Array UInt8) | Jf (b:UInt64) | ref (a:Addr) | ty (n:String)
 deriving DecidableEq
def RelV:V->Value->Prop
 | .fJ,u=>u=Value.none
 | .bl b,u=>u=Value.bool b
 | .int i,u=>∃t,u=Value.int i t
 | .str x,u=>∃t,u=Value.str x t
 | .ym b,u=>∃t,u=Value.bytes b t
 | .Jf b,u=>∃t,u=Value.float b t
 | .ref a,u=>u=Value.ref a
 | .ty n,u=>u=Value.type n
abbrev a9:List V->List Value->Prop:=Paired RelV
theorem a9.length {xs:List V}{us:List Value}(r:a9 xs us):xs.length=us.length:=bB r
theorem a9.get:∀{xs:List V}{us:List Value}{i:Nat}{x:V},a9 xs us->xs[i]?=some x->∃u,us[i]?=some u/\RelV x u
 | _,_,_,_,.nil,e=>by simp at e
 | _,_,0,_,.cons r _,e=>by simp at e;subst e;exact⟨_,rfl,r⟩
 | _,_,i+1,x,.cons _ t,e=>by
  obtain⟨u,h1,h2⟩:=a9.get (i:=i) (x:=x) t (by simpa using e);exact⟨u,by simpa using h1,h2⟩
theorem a9.set {x:V}{u:Value}(r:RelV x u):∀{xs:List V}{us:List Value}(i:Nat),a9 xs us->a9 (xs.set i x) (us.set i u)
 | _,_,_,.nil=>.nil
 | _,_,0,.cons _ t=>.cons r t
 | _,_,i+1,.cons q t=>.cons q (a9.set r i t)
theorem a9.append:∀{xs ys:List V}{us ws:List Value},a9 xs us->a9 ys ws->a9 (xs++ys) (us++ws)
 | _,_,_,_,.nil,s=>s
 | _,_,_,_,.cons r t,s=>.cons r (a9.append t s)
theorem a9.take:∀{xs:List V}{us:List Value}(n:Nat),a9 xs us->a9 (xs.take n) (us.take n)
 | _,_,0,_=>.nil
 | _,_,_+1,.nil=>.nil
 | _,_,n+1,.cons r t=>.cons r (a9.take n t)
theorem a9.drop:∀{xs:List V}{us:List Value}(n:Nat),a9 xs us->a9 (xs.drop n) (us.drop n)
 | _,_,0,r=>r
 | _,_,_+1,.nil=>.nil
 | _,_,n+1,.cons _ t=>a9.drop n t
def a9.none_of:∀{xs:List V}{us:List Value}{i:Nat},a9 xs us->xs[i]?=none->us[i]?=none:=λ{xs us i} r e=>by
 have h1:=r.length;have h2:xs.length<=i:=List.getElem?_eq_none_iff.mp e;exact List.getElem?_eq_none_iff.mpr ∅
def iZ:Option V->Option Value->Prop
 | some v,some u=>RelV v u
 | none,none=>True
 | _,_=>False
def KV {κ:Type}:List (κ×V)->List (κ×Value)->Prop:=Paired λ(p:κ×V)(q:κ×Value)=>p.1=q.1/\RelV p.2 q.2
def kV:aK->V
 | .inl i=>.int i
 | .inr x=>.str x
inductive HO where
 | lst (xs:List V)
 | tup (xs:List V)
 | dK (kvs:List (aK×V)) | dT (kvs:List (List aK×V))
 | set (S:Int->Bool) (n:Nat)
 | ins (C dx:Addr)(fs:List (Str×V))
 | own (x:Addr)
 | xd (fs:List (Str×V))
 | met (f x:Addr)
 | DT (lo hi:Int)
 | je (o:Obj)(u:HO)
 | qA (ps:Array Value)
 | ext (φ:Heap->Prop)
abbrev Hp:=Addr->Option HO
def upd (H:Hp)(a:Addr)(o:HO):Hp:=λb=>if b=a then some o else H b
def ae {H:Hp}{a:Addr}{o:HO}:upd H a o a=some o:=by unfold upd;rw [ax rfl]
def ai {H:Hp}{a b:Addr}{o:HO}(h:b≠a):upd H a o b=H b:=by unfold upd;rw [ay h]
def lG {H:Hp}{a:Addr}{o u:HO}:upd (upd H a o) a u=upd H a u:=by
 funext b;unfold upd;split <;> rfl
def Ls {H:Hp}{a b:Addr}{o u:HO}(h:H a=some o)(h':H b=some u)(d:o≠u):a≠b:=by
 intro e;subst e;rw [h] at h';exact d (gC h')
def aw {H:Hp}{a b:Addr}{o:HO}(h:H a=some o)(h':H b=none):a≠b:=by
 intro e;subst e;rw [h] at h';cases h'
section
variable (P:Program)(w:World)
def cv (H:Hp)(h:Heap)(a:Addr):HO->Prop
 | .lst xs=>xs.length<=sizeLine/\∃(aU:List Value) (n:Nat),a9 xs aU/\h.get? a=some { cls:=.type "list",data:=.seq aU.toArray n }
 | .tup xs=>xs.length<=sizeLine/\∃aU:List Value,a9 xs aU/\IsTup h a aU.toArray
 | .dK kvs=>kvs.length<=sizeLine/\(a == sysModules)=false/\∃vs,KV kvs vs/\h.DictOf (a7 P w) a vs
 | .dT kvs=>kvs.length<=sizeLine/\(a == sysModules)=false/\∃xs:List (List aK×Addr×Value),
   Paired (λ(p:List aK×V)(q:List aK×Addr×Value)=>p.1=q.1/\H q.2.1=some (.tup (p.1.map kV))/\RelV p.2 q.2.2) kvs xs /\
   ∃o es ep,h.get? a=some o/\o.ExactDict/\o.data=.dict es ep/\es.toList=xs.map (entryOfKey (tupleKind (a7 P w)))/\(xs.map (·.1)).Nodup
 | .set S n=>h.SetOf (intKind P w) a S n
 | .ins C dx fs=>H dx=some (.own a)/\fs.length<=1000/\dx≠a/\h.get? a=some (PySem.W.instObj C dx) /\
   ∃mA,h.Ns1 dx mA/\(∀f,iZ (fs.lookup f) (mA f))/\PySem.Within mA (fs.map (·.1))
 | .own _=>∃o,h.get? a=some o
 | .xd fs=>∃mA,h.Ns1 a mA/\∀f,iZ (fs.lookup f) (mA f)
 | .DT lo hi=>∃t u v,h.get? a=some { cls:=.type "range",data:=.fields #[.int lo t,.int hi u,.int 1 v] }
 | .je o u=>h.get? a=some o/\cv H h a u
 | .qA ps=>h.get? a=some { cls:=.none,data:=.fields ps }
 | .met f x=>h.get? a=some (PySem.W.methodObj (.ref f) (.ref x))
 | .ext φ=>φ h/\(∃o,h.get? a=some o)/\∀h1 h2:Heap,φ h1->(∀o,h1.get? a=some o->h2.get? a=some o)->φ h2
def j9 (H:Hp)(h:Heap):Prop:=∀a o,H a=some o->cv P w H h a o
end
section
variable {P:Program}{w:World}{H H':Hp}{h h':Heap}{a:Addr}{o:HO}
theorem cv.lt (x:cv P w H h a o):a < h.objs.size:=by
 cases o with
 | lst xs=>obtain⟨_,_,_,_,e⟩:=x;exact bA e
 | tup xs=>obtain⟨_,_,_,p⟩:=x;exact p.lt
 | dK kvs=>obtain⟨_,_,_,_,o,_,_,e,_⟩:=x;exact bA e
 | dT kvs=>obtain⟨_,_,_,_,o,_,_,e,_⟩:=x;exact bA e
 | set S n=>obtain⟨o,_,_,_,e,_⟩:=x;exact bA e
 | ins C dx fs=>obtain⟨_,_,_,e,_⟩:=x;exact bA e
 | own y=>obtain⟨_,e⟩:=x;exact bA e
 | xd fs=>obtain⟨_,⟨_,_,_,e,_⟩,_⟩:=x;exact bA e
 | DT lo hi=>obtain⟨_,_,_,e⟩:=x;exact bA e
 | je ob u=>obtain⟨e,_⟩:=x;exact bA e
 | qA ps=>exact bA (show h.get? a=some _ from x)
 | met f y=>exact bA (show h.get? a=some _ from x)
 | ext φ=>obtain⟨_,⟨_,e⟩,_⟩:=x;exact bA e
theorem Paired.fj {α β:Type}{F G:α->β->Prop}:∀{l₁:List α}{l₂:List β},Paired F l₁ l₂->(∀a b,F a b->G a b)->Paired G l₁ l₂
 | _,_,.nil,_=>.nil
 | _,_,.cons r t,f=>.cons (f _ _ r) (Paired.fj t f)
def cv.ju (x:cv P w H h a o)(k:∀b u,(b=a\/H b=some (.own a))->h.get? b=some u->h'.get? b=some u)
  (ho:∀b,H b=some (.own a)->H' b=some (.own a))(ht:∀b xs,H b=some (.tup xs)->H' b=some (.tup xs)):cv P w H' h' a o:=by
 induction o with
 | lst xs=>obtain⟨z,aU,n,r,e⟩:=x;exact⟨z,aU,n,r,k _ _ (.inl rfl) e⟩
 | tup xs=>obtain⟨z,aU,r,ob,e,c⟩:=x;exact⟨z,aU,r,ob,k _ _ (.inl rfl) e,c⟩
 | dK kvs=>obtain⟨z,y,vs,r,ob,es,ep,e,c⟩:=x;exact⟨z,y,vs,r,ob,es,ep,k _ _ (.inl rfl) e,c⟩
 | dT kvs =>
  obtain⟨z,y,xs,r,ob,es,ep,e,c⟩:=x;exact⟨z,y,xs,Paired.fj r λp q z=>⟨z.1,ht _ _ z.2.1,z.2.2⟩,ob,es,ep,k _ _ (.inl rfl) e,c⟩
 | set S n=>obtain⟨ob,es,ep,t,e,c⟩:=x;exact⟨ob,es,ep,t,k _ _ (.inl rfl) e,c⟩
 | ins C dx fs =>
  obtain⟨d,z,ne,e,mA,⟨od,es,ep,e2,c⟩,r⟩:=x;exact⟨ho _ d,z,ne,k _ _ (.inl rfl) e,mA,⟨od,es,ep,k _ _ (.inr d) e2,c⟩,r⟩
 | own y=>obtain⟨ob,e⟩:=x;exact⟨ob,k _ _ (.inl rfl) e⟩
 | xd fs=>obtain⟨mA,⟨od,es,ep,e,c⟩,r⟩:=x;exact⟨mA,⟨od,es,ep,k _ _ (.inl rfl) e,c⟩,r⟩
 | DT lo hi=>obtain⟨t,u,v,e⟩:=x;exact⟨t,u,v,k _ _ (.inl rfl) e⟩
 | je ob u ih=>obtain⟨e,q⟩:=x;exact⟨k _ _ (.inl rfl) e,ih q⟩
 | qA ps =>
  have e:h.get? a=some { cls:=.none,data:=.fields ps }:=x;show h'.get? a=some { cls:=.none,data:=.fields ps };exact k a _ (.inl rfl) e
 | met f y =>
  have e:h.get? a=some (PySem.W.methodObj (.ref f) (.ref y)):=x;show h'.get? a=some (PySem.W.methodObj (.ref f) (.ref y));exact k a _ (.inl rfl) e
 | ext φ=>obtain⟨p,⟨o,e⟩,st⟩:=x;exact⟨st _ _ p λo q=>k _ _ (.inl rfl) q,⟨o,k _ _ (.inl rfl) e⟩,st⟩
theorem j9.lt (x:j9 P w H h)(e:H a=some o):a < h.objs.size:=(x a o e).lt
def j9.fresh (x:j9 P w H h)(e:h.objs.size<=a):H a=none:=by
 cases q:H a with
 | none=>rfl
 | some u=>exact absurd (eZ (x.lt q) e) (nJ _)
def j9.kept (x:j9 P w H h)(k:∀b u,h.get? b=some u->h'.get? b=some u):j9 P w H h':=λa o e =>
 (x a o e).ju (λb u _ q=>k b u q) (λ_ q=>q) λ_ _ q=>q
def j9.laid (x:j9 P w H h)(k:∀b u,h.get? b=some u->h'.get? b=some u)(hp:h.objs.size<=a)(new:cv P w (upd H a o) h' a o):j9 P w (upd H a o) h':=λb u e=>by
 have hn:=x.fresh hp;by_cases hb:b=a
 .subst hb;rw [ae] at e;cases e;exact new
 rw [ai hb] at e;exact(x b u e).ju (λc v _ q=>k c v q) (λc q=>by rw [ai (aw q hn)];exact q) λc xs q=>by rw [ai (aw q hn)];exact q
end
def Rd (H:Hp)(a:Addr)(u:HO):Prop:=H a=some u\/∃o,H a=some (.je o u)
def Rd.of {H:Hp}{a:Addr}{u:HO}(h:H a=some u):Rd H a u:=.inl h
def Rd.ok {P:Program}{w:World}{H:Hp}{h:Heap}{a:Addr}{u:HO}(r:Rd H a u)(x:j9 P w H h):cv P w H h a u:=by
 rcases r with r | ⟨o,r⟩
 .exact x a u r
 obtain⟨_,q⟩:=x a _ r;exact q
def Nv:Option HO->Prop
 | some (.lst _)=>True
 | some (.dK _)=>True
 | some (.dT _)=>True
 | some (.set _ _)=>True
 | some (.ins _ _ _)=>True
 | some (.ext _)=>True
 | _=>False
section
variable {P:Program}{w:World}{H:Hp}{h h':Heap}{x e:Addr}{o':HO}
def j9.write (ok:j9 P w H h)(mu:Nv (H x))(he:e=x\/H e=some (.own x))(k:∀b u,b≠e->h.get? b=some u->h'.get? b=some u)(J_:∃u,h'.get? e=some u)
  (new:cv P w (upd H x o') h' x o'):j9 P w (upd H x o') h':=λb u q=>by
 have Lo:∀c y,H c=some (.own y)->c≠x:=λc y r z=>by subst z;rw [r] at mu;exact mu
 have PD:∀c xs,H c=some (.tup xs)->c≠x:=λc xs r z=>by subst z;rw [r] at mu;exact mu
 by_cases hb:b=x
 .subst hb;rw [ae] at q;cases q;exact new
 rw [ai hb] at q;by_cases IW:b=e
 .have q':H b=some (.own x):=by
   rcases he with z | z
   .exact absurd (IW.trans z) hb
   rw [IW];exact z
  rw [q] at q';cases q';obtain⟨v,hv⟩:=J_;exact⟨v,by rw [IW];exact hv⟩
 refine(ok b u q).ju (λc v hc r=>k c v ?_ r) (λc r=>by rw [ai (Lo c b r)];exact r) λc xs r=>by rw [ai (PD c xs r)];exact r
 rcases hc with rfl | hc
 .exact IW
 rintro rfl;rcases he with z | z
 .exact Lo c b hc z
 rw [hc] at z;cases z;exact hb rfl
end
structure Un (fs ex:List Addr)(H H':Hp)(h h':Heap):Prop where
 keep:∀b o,h.get? b=some o->H b=none->b∉fs->b∉ex->h'.get? b=some o
 slot:∀b o,h.get? b=some o->H b=none->b∈fs->b∉ex->∃sl,h'.get? b=some { o with slots:=sl }
 free:∀b o,h.get? b=some o->H b=none->b∉ex->H' b=none
 there:∀b o,h.get? b=some o->b∉ex->∃o',h'.get? b=some o'
 mS:∀b xs,H b=some (.tup xs)->H' b=some (.tup xs)
 kO:∀b o u,H b=some (.je o u)->H' b=some (.je o u)
 lH:∀b ps,H b=some (.qA ps)->∃more,H' b=some (.qA (ps++more))
section
variable {fs Eg ex UX:List Addr}{H H1 H2:Hp}{h h1 h2 h':Heap}{a x e:Addr}{o:HO}
def Un.any (u:Un fs ex H H1 h h1){b:Addr}{ob:Obj}(q:h.get? b=some ob)(n:H b=none)(hx:b∉ex):∃sl,h1.get? b=some { ob with slots:=sl }:=by
 by_cases hb:b∈fs
 .exact u.slot b ob q n hb hx
 exact⟨ob.slots,u.keep b ob q n hb hx⟩
def Un.trans (a:Un fs ex H H1 h h1)(b:Un fs ex H1 H2 h1 h2):Un fs ex H H2 h h2 where
 keep:=λc ob q n hc hx=>b.keep c ob (a.keep c ob q n hc hx) (a.free c ob q n hx) hc hx
 slot:=λc ob q n hc hx=>by
  obtain⟨sl,e1⟩:=a.slot c ob q n hc hx;obtain⟨O_,e2⟩:=b.slot c _ e1 (a.free c ob q n hx) hc hx;exact⟨O_,e2⟩
 free:=λc ob q n hx=>by
  obtain⟨o',e1⟩:=a.there c ob q hx;exact b.free c o' e1 (a.free c ob q n hx) hx
 there:=λc ob q hx=>by
  obtain⟨o',e1⟩:=a.there c ob q hx;exact b.there c o' e1 hx
 mS:=λc xs q=>b.mS c xs (a.mS c xs q)
 kO:=λc ob xs q=>b.kO c ob xs (a.kO c ob xs q)
 lH:=λc ps q=>by
  obtain⟨m1,e1⟩:=a.lH c ps q;obtain⟨m2,e2⟩:=b.lH c _ e1;exact⟨m1++m2,by rw [e2,Array.append_assoc]⟩
def Un.kept (k:∀b u,h.get? b=some u->h'.get? b=some u):Un fs ex H H h h' :=
 ⟨λb ob q _ _ _=>k b ob q,λb ob q _ _ _=>⟨ob.slots,k b ob q⟩,λ_ _ _ n _=>n,λb ob q _=>⟨ob,k b ob q⟩,λ_ _ q=>q,λ_ _ _ q=>q,λ_ ps q=>⟨#[],by rw [q];simp⟩⟩
def Un.refl:Un fs ex H H h h:=Un.kept λ_ _ q=>q
def Un.laid (k:∀b u,h.get? b=some u->h'.get? b=some u)(hp:h.objs.size<=a)(hn:H a=none):Un fs ex H (upd H a o) h h' where
 keep:=λb u q _ _ _=>k b u q
 slot:=λb u q _ _ _=>⟨u.slots,k b u q⟩
 free:=λb u q n _=>by rw [ai (bQ (eZ (bA q) hp))];exact n
 there:=λb u q _=>⟨u,k b u q⟩
 mS:=λb xs q=>by rw [ai (aw q hn)];exact q
 kO:=λb u xs q=>by rw [ai (aw q hn)];exact q
 lH:=λb ps q=>⟨#[],by rw [ai (aw q hn),q];simp⟩
def Un.write (mu:Nv (H x))(he:e=x\/H e=some (.own x))(k:∀b u,b≠e->h.get? b=some u->h'.get? b=some u)(J_:∃u,h'.get? e=some u):Un fs ex H (upd H x o) h h':=by
 have hx:∀b,H b=none->b≠x:=λb n z=>by subst z;rw [n] at mu;exact mu
 have hb:∀b,H b=none->b≠e:=λb n z=>by
  subst z;rcases he with r | r
  .exact hx b n r
  rw [n] at r;cases r
 have hm:∀b u,H b=some u->¬Nv (some u)->b≠x:=λb u q nm z=>by subst z;rw [q] at mu;exact nm mu
 refine⟨λb u q n _ _=>k b u (hb b n) q,λb u q n _ _=>⟨u.slots,k b u (hb b n) q⟩,λb u q n _=>by rw [ai (hx b n)];exact n,λb u q _=>?_,
  λb xs q=>by rw [ai (hm b _ q λz=>z)];exact q,λb u xs q=>by rw [ai (hm b _ q λz=>z)];exact q,λb ps q=>⟨#[],by rw [ai (hm b _ q λz=>z),q];simp⟩⟩
 by_cases IW:b=e
 .subst IW;exact J_
 exact⟨u,k b u IW q⟩
def Un.mono (u:Un fs ex H H1 h h1)(hs:∀b∈fs,b∈Eg)(hx:∀b∈ex,b∈UX):Un Eg UX H H1 h h1 :=
 ⟨λb ob q n hb he=>u.keep b ob q n (λz=>hb (hs b z)) λz=>he (hx b z),λ_ _ q n _ he=>u.any q n λz=>he (hx _ z),λb ob q n he=>u.free b ob q n λz=>he (hx b z),λb ob q he=>u.there b ob q λz=>he (hx b z),u.mS,u.kO,u.lH⟩
end
def DQ (h:Heap)(H:Hp):List Addr:=(List.range h.objs.size).filter λa=>(H a).isSome
def kM (h:Heap)(H:Hp):Heap:=PySem.W.hideAll h (DQ h H)
def rN (h:Heap)(H:Hp):(kM h H).objs.size=h.objs.size:=PySem.W.hideAll_size _ _
def vN {h:Heap}{H:Hp}{b:Addr}{o:Obj}(e:h.get? b=some o)(n:H b=none):(kM h H).get? b=some o :=
 PySem.W.hideAll_get _ e λhm=>by
  have q:(H b).isSome=true:=(jW.mp hm).2;rw [n] at q;simp at q
def ze {h:Heap}{H:Hp}{b:Addr}{o:Obj}(e:(kM h H).get? b=some o):h.get? b=some o/\H b=none:=by
 have e':h.get? b=some o:=PySem.W.of_hideAll (DQ h H) e;refine⟨e',?_⟩;cases q:H b with
 | none=>rfl
 | some x =>
  have hm:b∈DQ h H:=jW.mpr ⟨jV.mpr (bA e'),by simp [q]⟩;have z:(kM h H).get? b=none:=PySem.W.hideAll_none (DQ h H) hm;rw [z] at e;cases e
def FC (g h:Heap)(L:Addr):List (Addr×Obj):=(List.range h.objs.size).filterMap λa=>if a=L\/(g.get? a).isSome=true then none else (h.get? a).map λo=>(a,o)
def rest (g h:Heap)(L d:Addr):List (Addr×Obj):=(FC g h L).filter λp=>decide (p.1≠d)
structure Mod (K:a8)(mg:Str->Option Value)(base:Heap):Prop where
 LS:K.In base
 glob:base.Ns mainGlobals mg
 blt:∃mb,base.Ns builtinsNs mb/\∀x:Str,x ≠ "__name__" -> mb x=bootBuiltins x
 nolimit:base.NoLimit
structure Cx where
 prog:Program
 w:World
 K:a8
 mg:Str->Option Value
 base:Heap
 A:Around
 N:List Str
 s₀:Shared
 H₀:Hp
 env:Env
 outer:List Env
 stack:List Env
 ex:List Addr
 fn:Str->Bool
 calm:Bool
 pn:List (Addr×Obj)
 xe:Value->Shared->Prop
def Aw (l:List Env):List Addr:=l.filterMap (·.frame)
abbrev Cx.fs (X:Cx):List Addr:=Aw X.outer
def OB (sc:Scope)(x:Str):Prop:=sc.names.lookup x=some .local\/sc.names.lookup x=some .cell\/sc.names.lookup x=some .free
def Loc (sc:Scope)(x:Str):Prop:=sc.names.lookup x=some .local\/sc.names.lookup x=some .cell
def Look (env:Env)(h:Heap)(m:Str->Option Value)(x:Str)(u:Value):Prop :=
 (env.kindOf x=some .local/\m x=some u)\/((env.kindOf x=some .cell\/env.kindOf x=some .free)/\∃c,env.cells.lookup x=some c/\h.IsCell c (some u))
structure Cx.Ok (X:Cx):Prop where
 mod:Mod X.K X.mg X.base
 kind:X.env.scope.kind=.function
 glob:X.env.globals=mainGlobals
 blt:X.env.builtins=builtinsNs
 above:X.s₀.heap.objs.size<=X.env.locals
 inj:∀x y c,X.env.cells.lookup x=some c->X.env.cells.lookup y=some c->x=y
 has:∀x,(X.env.kindOf x=some .cell\/X.env.kindOf x=some .free)->∃c,X.env.cells.lookup x=some c
 Nb:∀x c,X.fn x=true->X.env.cells.lookup x=some c->X.s₀.heap.objs.size<=c
 hd:X.calm=true->X.A.handled=none
 frames:X.A.frames=some X.stack
 NR:X.stack=X.outer\/(X.stack=X.env::X.outer/\X.env.frame=some X.env.locals)
 Kg:∀b∈X.ex,b≠X.env.locals/\∀x c,X.env.cells.lookup x=some c->c≠b
 bs:∀b o,X.base.get? b=some o->X.s₀.heap.get? b=some o/\X.H₀ b=none
 El:X.base.objs.size<=X.s₀.heap.objs.size
 CB:∀b o,X.base.get? b=some o->b∉X.ex
 Az:∀b∈X.ex,b∉X.fs
 nv:X.s₀.heap.FunFrames X.base X.outer
 Gv:∀b∈X.fs,X.H₀ b=none
structure Inv (X:Cx)(ag:List (Addr×Obj))(σ:List (Option V))(H:Hp)(s:Shared):Prop where
 ok:X.Ok
 os:s.os=X.s₀.os
 bare:AllBare s.gens
 base:Un X.fs X.ex X.H₀ H X.s₀.heap s.heap
 loc:∃m,s.heap.Ns X.env.locals m/\∀(i:Nat)(x:Str)(v:V),X.N[i]?=some x->σ[i]?=some (some v)->OB X.env.scope x->∃u,RelV v u/\Look X.env s.heap m x u
 cell:∀x c,X.env.cells.lookup x=some c->∃v,s.heap.IsCell c v
 free:H X.env.locals=none
 j7:∀x c,X.env.cells.lookup x=some c->H c=none
 pin:∀p∈X.pn++ag,s.heap.get? p.1=some p.2/\H p.1=none/\p.1≠X.env.locals/\p.1∉X.fs/\∀v,p.2.data≠.cell v
 bS:j9 X.prog X.w H s.heap
 len:σ.length=X.N.length
section
variable {X:Cx}{ag:List (Addr×Obj)}{σ:List (Option V)}{H H':Hp}{s:Shared}{h':Heap}
def Cx.Ok.PJ (ok:X.Ok){b:Addr}{o:Obj}(e:X.base.get? b=some o):b∉X.fs:=λhb=>by
 have:=(ok.nv.mem hb).1;rw [e] at this;cases this
theorem Inv.bs (I:Inv X ag σ H s):∀b o,X.base.get? b=some o->s.heap.get? b=some o/\H b=none:=λb o e =>
 ⟨I.base.keep b o (I.ok.bs b o e).1 (I.ok.bs b o e).2 (I.ok.PJ e) (I.ok.CB b o e),I.base.free b o (I.ok.bs b o e).1 (I.ok.bs b o e).2 (I.ok.CB b o e)⟩
def Inv.bk (I:Inv X ag σ H s):∀b o,X.base.get? b=some o->s.heap.get? b=some o:=λb o e=>(I.bs b o e).1
theorem Inv.mod (I:Inv X ag σ H s):Mod X.K X.mg X.base:=I.ok.mod
def Inv.rH (I:Inv X ag σ H s):X.K.In s.heap:=I.ok.mod.LS.keeps I.bk
theorem Inv.nolimit (I:Inv X ag σ H s):s.heap.NoLimit:=I.ok.mod.nolimit.keeps I.bk
def Inv.fr (I:Inv X ag σ H s):∃m,Fr X.base X.env.locals s.heap m :=
 let ⟨m,hn,_⟩:=I.loc
 ⟨m,hn,I.bk,fU I.ok.El I.ok.above⟩
theorem Inv.lt (I:Inv X ag σ H s):X.env.locals < s.heap.objs.size:=let ⟨_,hn,_⟩:=I.loc;hn.lt
def Inv.sz (I:Inv X ag σ H s):X.s₀.heap.objs.size<=s.heap.objs.size:=fU I.ok.above (jn I.lt)
def Inv.PH (I:Inv X ag σ H s){a:Addr}(h:s.heap.objs.size<=a):a∉X.fs:=λhb=>by
 obtain⟨_,o,ho,_⟩:=I.ok.nv.mem hb;exact absurd (eZ (bA ho) (fU I.sz h)) (nJ _)
def Inv.Ju (I:Inv X ag σ H s):∀x c,X.env.cells.lookup x=some c->c≠X.env.locals:=λx c e z=>by
 obtain⟨v,o,ho,hd⟩:=I.cell x c e;obtain⟨m,⟨o',es,ep,CW,As,_⟩,_⟩:=I.loc;rw [z,CW] at ho;cases ho;rw [As] at hd;cases hd
theorem Inv.nv (I:Inv X ag σ H s):s.heap.FunFrames X.base X.outer:=by
 have all:∀(l:List Env),(∀b∈Aw l,b∈X.fs)->X.s₀.heap.FunFrames X.base l->s.heap.FunFrames X.base l:=by
  intro l
  induction l with
  | nil=>intro _ _;trivial
  | cons env r ih =>
   intro hs hl;obtain⟨hk,⟨L,o,hf,hn,ho,hd⟩,hr⟩:=hl;have hL:L∈X.fs:=hs L (by unfold Aw;rw [List.filterMap_cons,hf];exact b0);obtain⟨sl,e⟩:=I.base.slot L o ho (I.ok.Gv L hL) hL λz=>I.ok.Az L z hL;exact⟨hk,⟨L,_,hf,hn,e,hd⟩,ih (λb hb=>hs b (by unfold Aw;rw [List.filterMap_cons,hf];exact cz _ hb)) hr⟩
 exact all X.outer (λ_ hb=>hb) I.ok.nv
theorem Inv.stack (I:Inv X ag σ H s):s.heap.FunFrames X.base X.stack:=by
 rcases I.ok.NR with e | ⟨e,hf⟩
 .rw [e];exact I.nv
 rw [e];obtain⟨m,hn,_⟩:=I.loc;refine .cons (by rw [I.ok.kind];decide) hf hn ?_ I.nv;exact Heap.get?_none_of_le (fU I.ok.El I.ok.above)
def Inv.w5 (I:Inv X ag σ H s):∀b∈Aw X.stack,b∈X.env.locals::X.fs:=λb hb=>by
 rcases I.ok.NR with e | ⟨e,hf⟩
 .rw [e] at hb;exact cz _ hb
 rw [e] at hb;unfold Aw at hb;rw [List.filterMap_cons,hf] at hb;exact hb
def Inv.yJ (I:Inv X ag σ H s):∀b∈Aw X.stack,H b=none:=λb hb=>by
 rcases bM.mp (I.w5 b hb) with e | hb
 .rw [e];exact I.free
 obtain⟨_,o,ho,_⟩:=I.ok.nv.mem hb;exact I.base.free b o ho (I.ok.Gv b hb) λz=>I.ok.Az b z hb
def Inv.step {g':Array GenState}{t':Nat}{d':Drawn}{ch:List Addr}(I:Inv X ag σ H s)
  (Ec:∀b∈ch,(b∈X.ex\/X.s₀.heap.objs.size<=b)/\b≠X.env.locals/\(∀x c,X.env.cells.lookup x=some c->c≠b)/\∀p∈X.pn++ag,p.1≠b)
  (keep:∀b o,b≠X.env.locals->b∉X.fs->b∉ch->s.heap.get? b=some o->H b=none->h'.get? b=some o)
  (slot:∀b o,b≠X.env.locals->b∈X.fs->b∉ch->s.heap.get? b=some o->H b=none->∃sl,h'.get? b=some { o with slots:=sl })(free:∀b o,b∉ch->s.heap.get? b=some o->H b=none->H' b=none)
  (there:∀b o,b∉ch->s.heap.get? b=some o->∃o',h'.get? b=some o')
  (mS:∀b xs,H b=some (.tup xs)->H' b=some (.tup xs))(kO:∀b o u,H b=some (.je o u)->H' b=some (.je o u))(lH:∀b ps,H b=some (.qA ps)->∃more,H' b=some (.qA (ps++more)))
  (ns:∀m,s.heap.Ns X.env.locals m->h'.Ns X.env.locals m)(bS:j9 X.prog X.w H' h')(hg:AllBare g') :
  Inv X ag σ H' { s with heap:=h',gens:=g',drawn:=d',toks:=t' }:=by
 have TH:∀b o,X.s₀.heap.get? b=some o->b≠X.env.locals:=λb o e=>bQ (eZ (bA e) I.ok.above);have JR:∀b o,X.s₀.heap.get? b=some o->b∉X.ex->b∉ch:=λb o e hx hb=>by
  rcases (Ec b hb).1 with z | z
  .exact hx z
  exact absurd (eZ (bA e) z) (nJ _)
 have cellK:∀x c,X.env.cells.lookup x=some c->∀v,s.heap.IsCell c v->h'.IsCell c v:=λx c e v ⟨o,ho,hd⟩=>by
  have Lu:c∉ch:=λz=>(Ec c z).2.2.1 x c e rfl;by_cases hc:c∈X.fs
  .obtain⟨sl,q⟩:=slot c o (I.Ju x c e) hc Lu ho (I.j7 x c e);exact⟨_,q,hd⟩
  exact⟨o,keep c o (I.Ju x c e) hc Lu ho (I.j7 x c e),hd⟩
 refine⟨I.ok,I.os,hg,⟨λb o e n hb hx=>?_,λb o e n hb hx=>?_,λb o e n hx=>?_,λb o e hx=>?_,λb xs e=>mS b xs (I.base.mS b xs e),λb o xs e=>kO b o xs (I.base.kO b o xs e),λb ps e=>?_⟩,?_,λx c e=>?_,?_,λx c e=>?_,λp hp=>?_,bS,I.len⟩
 .exact keep b o (TH b o e) hb (JR b o e hx) (I.base.keep b o e n hb hx) (I.base.free b o e n hx)
 .obtain⟨sl,e1⟩:=I.base.slot b o e n hb hx;obtain⟨O_,e2⟩:=slot b _ (TH b o e) hb (JR b o e hx) e1 (I.base.free b o e n hx);exact⟨O_,e2⟩
 .obtain⟨o',e1⟩:=I.base.there b o e hx;exact free b o' (JR b o e hx) e1 (I.base.free b o e n hx)
 .obtain⟨o',e1⟩:=I.base.there b o e hx;exact there b o' (JR b o e hx) e1
 .obtain⟨m1,e1⟩:=I.base.lH b ps e;obtain⟨m2,e2⟩:=lH b _ e1;exact⟨m1++m2,by rw [e2,Array.append_assoc]⟩
 .obtain⟨m,hn,hl⟩:=I.loc;refine⟨m,ns m hn,λi x v e1 e2 e3=>?_⟩;obtain⟨u,r,l⟩:=hl i x v e1 e2 e3;refine⟨u,r,?_⟩;rcases l with l | ⟨k,c,e,z⟩
  .exact .inl l
  exact .inr ⟨k,c,e,cellK x c e _ z⟩
 .obtain⟨v,z⟩:=I.cell x c e;exact⟨v,cellK x c e v z⟩
 .obtain⟨m,⟨o,_,_,ho,_⟩,_⟩:=I.loc;exact free _ o (λz=>(Ec _ z).2.1 rfl) ho I.free
 .obtain⟨v,o,ho,hd⟩:=I.cell x c e;exact free c o (λz=>(Ec c z).2.2.1 x c e rfl) ho (I.j7 x c e)
 obtain⟨e,n,ne,nf,d⟩:=I.pin p hp;have Lu:p.1∉ch:=λz=>(Ec p.1 z).2.2.2 p hp rfl;exact⟨keep p.1 p.2 ne nf Lu e n,free p.1 p.2 Lu e n,ne,nf,d⟩
def Inv.un {t':Nat}(I:Inv X ag σ H s)(u:Un X.fs [] H H' s.heap h')(bS:j9 X.prog X.w H' h'):Inv X ag σ H' { s with heap:=h',toks:=t' }:=by
 obtain⟨m,⟨o,es,ep,ho,r⟩,_⟩:=id I.loc;obtain⟨sl,hL⟩:=u.any ho I.free (by simp);exact I.step (g':=s.gens) (d':=s.drawn) (ch:=[]) (λ_ z=>nomatch z) (λb o _ hb _ e n=>u.keep b o e n hb (by simp)) (λb o _ hb _ e n=>u.slot b o e n hb (by simp)) (λb o _ e n=>u.free b o e n (by simp)) (λb o _ e=>u.there b o e (by simp)) u.mS u.kO u.lH (λm' hm=>by
  obtain⟨o',uE,Rp,CW,r'⟩:=hm;rw [ho] at CW;cases CW;exact⟨_,uE,Rp,hL,r'⟩) bS I.bare
def Inv.call {g':Array GenState}{t':Nat}{d':Drawn}{ch:List Addr}(I:Inv X ag σ H s)(u:Un (Aw X.stack) ch H H' s.heap h')(bS:j9 X.prog X.w H' h')(hg:AllBare g')
  (Ec:∀b∈ch,(b∈X.ex\/X.s₀.heap.objs.size<=b)/\b≠X.env.locals/\(∀x c,X.env.cells.lookup x=some c->c≠b)/\∀p∈X.pn++ag,p.1≠b) :
  Inv X ag σ H' { s with heap:=h',gens:=g',drawn:=d',toks:=t' }:=by
 obtain⟨m,⟨o,es,ep,ho,r⟩,_⟩:=id I.loc;obtain⟨sl,hL⟩:=u.any ho I.free λz=>(Ec _ z).2.1 rfl;exact I.step (ch:=ch) Ec (λb o hL hb hc e n=>u.keep b o e n (λz=>(bM.mp (I.w5 b z)).elim hL hb) hc) (λb o _ _ hc e n=>u.any e n hc) (λb o hc e n=>u.free b o e n hc) (λb o hc e=>u.there b o e hc) u.mS u.kO u.lH (λm' hm=>by
  obtain⟨o',uE,Rp,CW,r'⟩:=hm;rw [ho] at CW;cases CW;exact⟨_,uE,Rp,hL,r'⟩) bS hg
def Inv.turned {t':Nat}{it:Addr}(I:Inv X ag σ H s)(k:∀b o,b≠it->s.heap.get? b=some o->h'.get? b=some o)(hn:H it=none)(hL:it≠X.env.locals)
  (h1:it∈X.ex\/X.s₀.heap.objs.size<=it)(h2:∀x c,X.env.cells.lookup x=some c->c≠it)(h3:∀p∈X.pn++ag,p.1≠it):Inv X ag σ H { s with heap:=h',toks:=t' }:=by
 have TC:∀b u,H b=some u->b≠it:=λb u e z=>by rw [z,hn] at e;cases e
 refine I.step (g':=s.gens) (d':=s.drawn) (ch:=[it]) (λb hb=>?_) (λb o _ _ hc e _=>k b o (λz=>hc (by simp [z])) e) (λb o _ _ hc e _=>⟨o.slots,k b o (λz=>hc (by simp [z])) e⟩) (λ_ _ _ _ n=>n)
  (λb o hc e=>⟨o,k b o (λz=>hc (by simp [z])) e⟩) (λ_ _ e=>e) (λ_ _ _ e=>e) (λb ps e=>⟨#[],by rw [e];simp⟩) (λm hm=>?_) (λb u e=>?_) I.bare
 .have e:b=it:=by simpa using hb
  subst e;exact⟨h1,hL,h2,h3⟩
 .obtain⟨o,es,ep,ho,r⟩:=hm;exact⟨o,es,ep,k _ o (fu hL) ho,r⟩
 refine(I.bS b u e).ju (λc v hc q=>k c v ?_ q) (λ_ q=>q) λ_ _ q=>q;rcases hc with z | z
 .rw [z];exact TC b u e
 exact TC c _ z
def Inv.tok (I:Inv X ag σ H s) (t:Nat):Inv X ag σ H { s with toks:=t }:=I.un (h':=s.heap) (t':=t) Un.refl I.bS
theorem Inv.kept {t':Nat}(I:Inv X ag σ H s)(k:∀b u,s.heap.get? b=some u->h'.get? b=some u):Inv X ag σ H { s with heap:=h',toks:=t' }:=I.un (Un.kept k) (I.bS.kept k)
theorem Inv.laid {a:Addr}{o:HO}{t':Nat}(I:Inv X ag σ H s)(k:∀b u,s.heap.get? b=some u->h'.get? b=some u)(hp:s.heap.objs.size<=a)(new:cv X.prog X.w (upd H a o) h' a o) :
  Inv X ag σ (upd H a o) { s with heap:=h',toks:=t' }:=I.un (Un.laid k hp (I.bS.fresh hp)) (I.bS.laid k hp new)
theorem Inv.write {x e:Addr}{o:HO}{t':Nat}(I:Inv X ag σ H s)(mu:Nv (H x))(he:e=x\/H e=some (.own x))(k:∀b u,b≠e->s.heap.get? b=some u->h'.get? b=some u)(J_:∃u,h'.get? e=some u)
  (new:cv X.prog X.w (upd H x o) h' x o):Inv X ag σ (upd H x o) { s with heap:=h',toks:=t' }:=I.un (Un.write mu he k J_) (I.bS.write mu he k J_ new)
def Inv.yY {i7:List (Addr×Obj)}(I:Inv X ag σ H s)(h:∀p∈i7,s.heap.get? p.1=some p.2/\H p.1=none/\p.1≠X.env.locals/\p.1∉X.fs/\∀v,p.2.data≠.cell v):Inv X i7 σ H s :=
 ⟨I.ok,I.os,I.bare,I.base,I.loc,I.cell,I.free,I.j7,λp hp=>(cD.mp hp).elim (λz=>I.pin p (eV _ z)) (h p),I.bS,I.len⟩
def vy {N:List Str}(hN:N.Nodup){i j:Nat}{x:Str}(a:N[i]?=some x)(b:N[j]?=some x):i=j:=by
 obtain⟨h1,e1⟩:=bc.mp a;obtain⟨h2,e2⟩:=bc.mp b;exact(sI hN).mp (e1.trans e2.symm)
def rf {M:Model}{A:Around}{E:Value->Shared->Prop}{i:Nat}{x:Str}{v:V}{u:Value}{Q:Unit->Shared->Prop}(I:Inv X ag σ H s)(hN:X.N.Nodup)(hi:X.N[i]?=some x)(hx:Loc X.env.scope x)(r:RelV v u)
  (h:∀s',Inv X ag (σ.set i (some v)) H s'->(∃a,Heap.SameBut a s.heap s'.heap/\(a=X.env.locals\/X.env.cells.lookup x=some a))->Q () s')(hf:X.fn x=true\/X.env.scope.names.lookup x=some .local:=by first | exact .inl rfl | exact .inr rfl | assumption):wpAny M A (storeName X.env x u) Q E s:=by
 obtain⟨m,hn,hl⟩:=id I.loc;have QV:(X.env.scope.kind == .class || (X.env.scope.kind == .module && X.env.locals != X.env.globals))=false:=by rw [I.ok.kind];rfl
 have UA:i < σ.length:=by rw [I.len];exact(bc.mp hi).1
 have Ju:=I.Ju;have tracked:∀{a:Addr}{h':Heap},(∃o,s.heap.get? a=some o/\H a=none)->Heap.SameBut a s.heap h'->j9 X.prog X.w H h':=λ{a h'} ha hs b ob e=>by
  obtain⟨_,_,mf⟩:=ha;refine(I.bS b ob e).ju (λc w' hc q=>(hs.2 c ?_).trans q) (λ_ q=>q) λ_ _ q=>q;rintro rfl;rcases hc with rfl | hc
  .rw [mf] at e;cases e
  rw [mf] at hc;cases hc
 rcases hx with hk | hk
 .refine wpAny_storeName_local hk hn (λh' C0 hs=>?_) QV;obtain⟨oL,_,_,YB,_⟩:=id hn;refine h _ ⟨I.ok,I.os,I.bare,⟨λb o e n hb hx=>?_,λb o e n hb hx=>?_,I.base.free,λb o e hx=>?_,I.base.mS,I.base.kO,I.base.lH⟩,⟨_,C0,λj y v' e1 e2 e3=>?_⟩,λy c e=>?_,I.free,I.j7,λp hp=>?_,tracked ⟨oL,YB,I.free⟩ hs,by simpa using I.len⟩ ⟨_,hs,.inl rfl⟩
  .exact(hs.2 b (bQ (eZ (bA e) I.ok.above))).trans (I.base.keep b o e n hb hx)
  .obtain⟨sl,e1⟩:=I.base.slot b o e n hb hx;exact⟨sl,(hs.2 b (bQ (eZ (bA e) I.ok.above))).trans e1⟩
  .obtain⟨o',e1⟩:=I.base.there b o e hx;exact⟨o',(hs.2 b (bQ (eZ (bA e) I.ok.above))).trans e1⟩
  .by_cases hj:j=i
   .subst hj;rw [hi] at e1;cases e1;rw [List.getElem?_set_self UA] at e2;cases e2;exact⟨u,r,.inl ⟨hk,by simp⟩⟩
   rw [List.getElem?_set_ne (fu hj)] at e2;obtain⟨u',r',q⟩:=hl j y v' e1 e2 e3;refine⟨u',r',?_⟩;rcases q with ⟨k,e⟩ | ⟨k,c,e,z⟩
   .refine .inl ⟨k,?_⟩;have:y≠x:=λe=>hj (vy hN e1 (e ▸ hi));simp [this,e]
   exact .inr ⟨k,c,e,z.sameBut hs (Ju y c e)⟩
  .obtain⟨w',z⟩:=I.cell y c e;exact⟨w',z.sameBut hs (Ju y c e)⟩
  obtain⟨e,n,ne,nf,d⟩:=I.pin p hp;exact⟨(hs.2 p.1 ne).trans e,n,ne,nf,d⟩
 have QN:X.fn x=true:=by
  rcases hf with z | z
  .exact z
  rw [z] at hk;cases hk
 obtain⟨c,hc⟩:=I.ok.has x (.inl hk);obtain⟨w',z⟩:=I.cell x c hc;refine wpAny_storeName_cell I.ok.kind hk hc z (λh' kN hs=>?_);obtain⟨oc,wC,QC⟩:=id z;refine h { s with heap:=h' } ⟨I.ok,I.os,I.bare,⟨λb o e n hb hx=>?_,λb o e n hb hx=>?_,I.base.free,λb o e hx=>?_,I.base.mS,I.base.kO,I.base.lH⟩,⟨m,hn.sameBut hs (fu (Ju x c hc)),λj y v' e1 e2 e3=>?_⟩,λy c' e=>?_,I.free,I.j7,λp hp=>?_,tracked ⟨oc,wC,I.j7 x c hc⟩ hs,by simpa using I.len⟩ ⟨c,hs,.inr hc⟩
 .exact(hs.2 b (bQ (eZ (bA e) (I.ok.Nb x c QN hc)))).trans (I.base.keep b o e n hb hx)
 .obtain⟨sl,e1⟩:=I.base.slot b o e n hb hx;exact⟨sl,(hs.2 b (bQ (eZ (bA e) (I.ok.Nb x c QN hc)))).trans e1⟩
 .obtain⟨o',e1⟩:=I.base.there b o e hx;exact⟨o',(hs.2 b (bQ (eZ (bA e) (I.ok.Nb x c QN hc)))).trans e1⟩
 .by_cases hj:j=i
  .subst hj;rw [hi] at e1;cases e1;rw [List.getElem?_set_self UA] at e2;cases e2;exact⟨u,r,.inr ⟨.inl hk,c,hc,kN⟩⟩
  rw [List.getElem?_set_ne (fu hj)] at e2;obtain⟨u',r',q⟩:=hl j y v' e1 e2 e3;refine⟨u',r',?_⟩;rcases q with q | ⟨k,c',e,z'⟩
  .exact .inl q
  refine .inr ⟨k,c',e,z'.sameBut hs ?_⟩;rintro rfl;exact hj (vy hN e1 (I.ok.inj _ _ _ e hc ▸ hi))
 .by_cases UH:c'=c
  .subst UH;exact⟨_,kN⟩
  obtain⟨w2,z2⟩:=I.cell y c' e;exact⟨w2,z2.sameBut hs UH⟩
 obtain⟨e,n,ne,nf,d⟩:=I.pin p hp;refine⟨(hs.2 p.1 ?_).trans e,n,ne,nf,d⟩;intro q;rw [q,wC] at e;have q':oc=p.2:=gC e;exact d w' (by rw [<-q'];exact QC)
def o9 {M:Model}{A:Around}{E:Value->Shared->Prop}{i:Nat}{x:Str}{v:V}{u:Value}{Q:Unit->Shared->Prop}(I:Inv X ag σ H s)(hN:X.N.Nodup)(hi:X.N[i]?=some x)(hx:Loc X.env.scope x)(r:RelV v u)
  (h:∀s',Inv X ag (σ.set i (some v)) H s'->Q () s')(hf:X.fn x=true\/X.env.scope.names.lookup x=some .local:=by first | exact .inl rfl | exact .inr rfl | assumption):wpAny M A (storeName X.env x u) Q E s :=
 rf I hN hi hx r (λs' I' _=>h s' I') hf
def Inv.GO {s':Shared}{ch:List Addr}(I:Inv X ag σ H s)(ho:s'.os=s.os)(u:Un (Aw X.stack) ch H H' s.heap s'.heap)(bS:j9 X.prog X.w H' s'.heap)(hg:AllBare s'.gens)
  (Ec:∀b∈ch,(b∈X.ex\/X.s₀.heap.objs.size<=b)/\b≠X.env.locals/\(∀x c,X.env.cells.lookup x=some c->c≠b)/\∀p∈X.pn++ag,p.1≠b):Inv X ag σ H' s':=by
 obtain⟨h',g',d',t',o'⟩:=s';have e:o'=s.os:=ho;subst e;exact I.call (g':=g') (t':=t') (d':=d') u bS hg Ec
end
abbrev XK:=Value->Option Addr->Hp->Prop
abbrev St:=List (Option V)
abbrev aI (a:Addr):Option V:=some (.ref a)
abbrev VK:=V->Hp->Prop
abbrev TE:=St->Hp->VK->Prop
abbrev TT:=St->Hp->(Bool->Hp->Prop)->Prop
abbrev TA:=St->Hp->(List V->Hp->Prop)->Prop
structure Ends where
 nx:St->Hp->Prop
 rt:VK
 bk:St->Hp->Prop:=λ_ _=>False
 ct:St->Hp->Prop:=λ_ _=>False
abbrev TS:=Ends->St->Hp->Prop
def EP (X:Cx)(ag:List (Addr×Obj))(σ:St)(Q:VK)(u:Value)(s':Shared):Prop:=∃v H',Inv X ag σ H' s'/\RelV v u/\Q v H'
def TP (X:Cx)(ag:List (Addr×Obj))(σ:St)(Q:Bool->Hp->Prop)(b:Bool)(s':Shared):Prop:=∃H',Inv X ag σ H' s'/\Q b H'
def AP (X:Cx)(ag:List (Addr×Obj))(σ:St)(Q:List V->Hp->Prop)(us:List Value)(s':Shared):Prop:=∃vs H',Inv X ag σ H' s'/\a9 vs us/\Q vs H'
def SP (X:Cx)(ag:List (Addr×Obj))(D:Ends)(f:Flow)(s':Shared):Prop :=
 match f with
 | .next=>∃σ' H',Inv X ag σ' H' s'/\D.nx σ' H'
 | .brk=>∃σ' H',Inv X ag σ' H' s'/\D.bk σ' H'
 | .cont=>∃σ' H',Inv X ag σ' H' s'/\D.ct σ' H'
 | .ret u=>∃v σ' H',Inv X ag σ' H' s'/\RelV v u/\D.rt v H'
def PE (X:Cx)(e:Expr)(t:TE):Prop :=
 ∀(ag:List (Addr×Obj))(s:Shared)(σ:St)(H:Hp)(Q:VK),Inv X ag σ H s->t σ H Q->wpAny (model X.prog X.w) X.A (eval e X.env) (EP X ag σ Q) X.xe s
def PT (X:Cx)(e:Expr)(t:TT):Prop :=
 ∀(ag:List (Addr×Obj))(s:Shared)(σ:St)(H:Hp)(Q:Bool->Hp->Prop),Inv X ag σ H s->t σ H Q->wpAny (model X.prog X.w) X.A (isTrue e X.env (eval e X.env)) (TP X ag σ Q) X.xe s
def PW (X:Cx)(e:Expr)(t:TT):Prop :=
 ∀(whole:Sem Value)(ag:List (Addr×Obj))(s:Shared)(σ:St)(H:Hp)(Q:Bool->Hp->Prop),Inv X ag σ H s->t σ H Q->wpAny (model X.prog X.w) X.A (isTrue e X.env whole) (TP X ag σ Q) X.xe s
def PW.pt {X:Cx}{e:Expr}{t:TT}(h:PW X e t):PT X e t:=h _
def PA (X:Cx)(es:List Expr)(t:TA):Prop :=
 ∀(pos:Pos)(ag:List (Addr×Obj))(s:Shared)(σ:St)(H:Hp)(Q:List V->Hp->Prop),Inv X ag σ H s->t σ H Q->wpAny (model X.prog X.w) X.A (spliced (backTo pos (starEach es X.env))) (AP X ag σ Q) X.xe s
def PS (X:Cx)(st:Stmt)(t:TS):Prop :=
 ∀(ag:List (Addr×Obj))(s:Shared)(σ:St)(H:Hp)(D:Ends),Inv X ag σ H s->t D σ H->wpAny (model X.prog X.w) X.A (exec st X.env) (SP X ag D) X.xe s
def yp (X:Cx)(st:List Stmt)(t:TS):Prop :=
 ∀(ag:List (Addr×Obj))(s:Shared)(σ:St)(H:Hp)(D:Ends),Inv X ag σ H s->t D σ H->wpAny (model X.prog X.w) X.A (execs st X.env) (SP X ag D) X.xe s
def cJ {α:Type}{t:Sem α}{Q Q':α->Shared->Prop}{M:Model}{A:Around}{E:Value->Shared->Prop}{s:Shared}(h:wpAny M A t Q E s)(hQ:∀a s,Q a s->Q' a s):wpAny M A t Q' E s:=cY h hQ λ_ _ x=>x
section
variable {X:Cx}
def bin {a b:Expr}{ta tb:TE}(ha:PE X a ta)(hb:PE X b tb){ag:List (Addr×Obj)}{s:Shared}{σ:St}{H:Hp}{R:V->V->Hp->Prop}(I:Inv X ag σ H s)(h:ta σ H λx H1=>tb σ H1 λy H2=>R x y H2)
  {α:Type}{Q:α->Shared->Prop}{f:Value->Value->Sem α}
  (hf:∀v u s2 x y H2,Inv X ag σ H2 s2->RelV x v->RelV y u->R x y H2->wpAny (model X.prog X.w) X.A (f v u) Q X.xe s2) :
  wpAny (model X.prog X.w) X.A (eval a X.env) (λv s₁=>wpAny (model X.prog X.w) X.A (eval b X.env) (λu s₂=>wpAny (model X.prog X.w) X.A (f v u) Q X.xe s₂) X.xe s₁) X.xe s:=by
 refine cJ (ha ag s σ H _ I h) λv s1 bj=>?_;obtain⟨x,H1,I1,r1,q1⟩:=bj;refine cJ (hb ag s1 σ H1 _ I1 q1) λu s2 bj=>?_;obtain⟨y,H2,I2,r2,q2⟩:=bj;exact hf v u s2 x y H2 I2 r1 r2 q2
inductive Nk (o:Option (Option V))(R:V->Prop):Prop
|mk(v:V)(e:o=some (some v))(q:R v)
inductive XB (x:V)(R:Bool->Prop):Prop
|mk(c:Bool)(e:x=.bl c)(q:R c)
inductive Sm (x:V)(R:Int->Prop):Prop
|mk(i:Int)(e:x=.int i)(q:R i)
inductive VO (x y:V)(R:Int->Int->Prop):Prop
|mk(i j:Int)(e:x=.int i)(e2:y=.int j)(q:R i j)
inductive VN (x y:V)(C:Int->Int->Prop)(R:Int->Int->Prop):Prop
|mk(i j:Int)(e:x=.int i)(e2:y=.int j)(c:C i j)(q:R i j)
inductive G0 (vs:List V)(R:V->List V->Prop):Prop
|mk(v:V)(r:List V)(e:vs=v::r)(q:R v r)
inductive Nl (v:V)(S:Addr->List V->Prop) (n:Nat)(R:List V->Prop):Prop
|mk(a:Addr)(xs:List V)(e:v=.ref a)(s:S a xs)(l:xs.length=n)(q:R xs)
inductive OA (x:V)(S:Addr->Prop)(R:Addr->Prop):Prop
|mk(a:Addr)(e:x=.ref a)(s:S a)(q:R a)
inductive Sk (x:V)(S:Addr->List V->Prop)(R:List V->Prop):Prop
|mk(a:Addr)(xs:List V)(e:x=.ref a)(s:S a xs)(q:R xs)
inductive Sq (S:Addr->List V->Prop)(x y:V)(R:List V->List V->Prop):Prop
|mk(a b:Addr)(xs ys:List V)(e:x=.ref a)(e2:y=.ref b)(s:S a xs)(s2:S b ys)(z:xs.length+ys.length<=sizeLine)(q:R xs ys)
inductive VJ (vs:List V)(R:Int->Prop):Prop
|mk(j:Int)(e:vs=[.int j])(l:-(2 ^ 62)<=j)(u:j < 2 ^ 62)(q:R j)
inductive Sn (vs:List V)(S:Addr->List V->Prop)(R:Addr->Prop):Prop
|mk(a:Addr)(xs:List V)(e:vs=[.ref a])(s:S a xs)(q:R a)
inductive JA (xs:List V)(S:Addr->List V->Prop)(R:List V->Prop):Prop
|mk(p:Addr)(ys:List V)(e:xs=[.ref p])(s:S p ys)(q:R ys)
def fO (i:Nat):TE:=λσ H Q=>Nk σ[i]? λv=>Q v H
def tC (v:V):TE:=λ_ H Q=>Q v H
def HX {i:Nat}{x:Str}{pos:Pos}(hN:X.N[i]?=some x)(hv:OB X.env.scope x)(hd:(x == ("__debug__":Str))=false:=by decide)(uA:(x == ("__classdict__":Str))=false:=by decide):PE X (.Name x pos) (fO i):=by
 intro ag s σ H Q I h;obtain⟨v,e,h⟩:=h;obtain⟨m,hn,hl⟩:=I.loc;obtain⟨u,r,l⟩:=hl i x v hN e hv;have fin:EP X ag σ Q u s:=⟨v,H,I,r,h⟩;rcases l with ⟨hk,hm⟩ | ⟨hk,c,hc,iG⟩
 .exact wpAny_Name (sQ I.ok.kind hk hn hm fin) hd
 rcases hk with hk | hk
 .exact wpAny_Name (wpAny_loadName_cell I.ok.kind hk hc iG fin) hd
 exact wpAny_Name (wpAny_loadName_free I.ok.kind hk hc iG fin uA) hd
def ar {i j pos}:PE X (.Constant (.int i) j pos) (tC (.int i)):=λ_ _ _ H _ I h=>wpAny_Constant_int ⟨.int i,H,I.tok _,⟨_,rfl⟩,h⟩
def eX {b j pos}:PE X (.Constant (.bool b) j pos) (tC (.bl b)):=λ_ _ _ H _ I h=>Constant_bool ⟨.bl b,H,I,rfl,h⟩
def bx {x j pos}:PE X (.Constant (.str x) j pos) (tC (.str x)):=λ_ _ _ H _ I h=>Calls.Constant_str ⟨.str x,H,I.tok _,⟨_,rfl⟩,h⟩
def Gl (X:Cx)(x:Str):Prop:=X.env.kindOf x=some .globalImplicit
def uu {E:Value->Shared->Prop}{ag:List (Addr×Obj)}{s:Shared}{σ:St}{H:Hp}{x:Str}{u:Value}{pos:Pos}{Q:Value->Shared->Prop}(I:Inv X ag σ H s)(hg:Gl X x)(hm:X.mg x=some u)(h:Q u s)
  (hd:(x == ("__debug__":Str))=false:=by decide):wpAny (model X.prog X.w) X.A (eval (.Name x pos) X.env) Q E s :=
 Calls.Name_function_global I.ok.kind hg (Calls.loadGlobal_global (by rw [I.ok.glob];exact I.mod.glob.keeps I.bk) hm h) hd
def iV {E:Value->Shared->Prop}{ag:List (Addr×Obj)}{s:Shared}{σ:St}{H:Hp}{x:Str}{u:Value}{pos:Pos}{Q:Value->Shared->Prop}(I:Inv X ag σ H s)(hg:Gl X x)(hm:X.mg x=none)(hv:bootBuiltins x=some u)(h:Q u s)
  (hn:x ≠ "__name__" := by decide)(hd:(x == ("__debug__":Str))=false:=by decide):wpAny (model X.prog X.w) X.A (eval (.Name x pos) X.env) Q E s:=by
 obtain⟨mb,h1,h2⟩:=I.mod.blt;exact Calls.Name_function_global I.ok.kind hg (Calls.loadGlobal_builtin (by rw [I.ok.glob];exact I.mod.glob.keeps I.bk) hm (by rw [I.ok.blt];exact h1.keeps I.bk) ((h2 x hn).trans hv) h) hd
def EM {x:Str}{v:V}{u:Value}{pos:Pos}(hg:Gl X x)(hm:X.mg x=some u)(r:RelV v u)(hd:(x == ("__debug__":Str))=false:=by decide):PE X (.Name x pos) (tC v) :=
 λ_ _ _ H _ I h=>uu I hg hm ⟨v,H,I,r,h⟩ hd
def l7 {x:Str}{v:V}{u:Value}{pos:Pos}(hg:Gl X x)(hm:X.mg x=none)(hv:bootBuiltins x=some u)(r:RelV v u)(hn:x ≠ "__name__" := by decide)(hd:(x == ("__debug__":Str))=false:=by decide):PE X (.Name x pos) (tC v) :=
 λ_ _ _ H _ I h=>iV I hg hm hv ⟨v,H,I,r,h⟩ hn hd
variable {a b:Expr}{ta tb:TE}{pos:Pos}
def PC (X:Cx)(op:CmpOp)(a b:Expr)(t:TE):Prop :=
 ∀(ag:List (Addr×Obj))(s:Shared)(σ:St)(H:Hp)(Q:VK),Inv X ag σ H s->t σ H Q ->
  wpAny (model X.prog X.w) X.A (eval a X.env) (λv s₁=>wpAny (model X.prog X.w) X.A (eval b X.env) (λu s₂=>wpAny (model X.prog X.w) X.A (compareOp op v u) (EP X ag σ Q) X.xe s₂) X.xe s₁) X.xe s
def vA (b:Expr){op:CmpOp}(h:op≠.In)(h2:op≠.NotIn):behindInMarks op b=false:=by
 have e1:(op == CmpOp.In)=false:=by cases op <;> first | rfl | exact absurd rfl h
 have e2:(op == CmpOp.NotIn)=false:=by cases op <;> first | rfl | exact absurd rfl h2
 cases b <;> simp [behindInMarks,e1,e2]
def O2 (ta:TE):TE:=λσ H Q=>ta σ H λx H1=>Q (.bl (decide (x=.fJ))) H1
def RelV.CA {x:V}{v:Value}(r:RelV x v):(v == Value.none)=decide (x=.fJ):=by
 cases x with
 | fJ=>cases r;rfl
 | bl _=>cases r;rfl
 | int _=>obtain⟨t,rfl⟩:=r;rfl
 | str _=>obtain⟨t,rfl⟩:=r;rfl
 | ym _=>obtain⟨t,rfl⟩:=r;rfl
 | Jf _=>obtain⟨t,rfl⟩:=r;rfl
 | ref _=>cases r;rfl
 | ty _=>cases r;rfl
def HY {j pos'}(ha:PE X a ta):PC X .Is a (.Constant .none j pos') (O2 ta):=by
 intro ag s σ H Q I h;refine cJ (ha ag s σ H _ I h) λv s1 bj=>?_;obtain⟨x,H1,I1,r1,q1⟩:=bj;exact Constant_none (is_none_gen ⟨.bl _,H1,I1,by rw [r1.CA];rfl,q1⟩)
def tB (t:TE):TT:=λσ H Q=>t σ H λx H1=>XB x λc=>Q c H1
def xA {op:CmpOp}{t:TE}(h:PC X op a b t)(h1:behindInMarks op b=false:=by first | exact vA _ nofun nofun | rfl):PE X (.Compare a [op] [b] pos) t:=λag s σ H Q I hw=>wpAny_Compare1 (h ag s σ H Q I hw) h1
def fw {op:CmpOp}{t:TE}(h:PC X op a b t)(h1:behindInMarks op b=false:=by first | exact vA _ nofun nofun | rfl):PT X (.Compare a [op] [b] pos) (tB t):=by
 intro ag s σ H Q I hw;refine wpAny_isTrue_Compare1 (cJ (h ag s σ H _ I hw) λv s1 h1=>cJ h1 λu s2 h2=>cJ h2 λc s3 bj=>?_) h1;obtain⟨x,H1,I1,r1,q1⟩:=bj;obtain⟨d,rfl,q⟩:=q1;cases r1;exact lh ⟨H1,I1,q⟩
def dY {e:Expr}{t:TE}(h:PE X e t)(he:∀whole,isTrue e X.env whole=(do let v <-whole;standAt e.pos;holding [v] (truthy v)):=by intro _;rfl):PT X e (tB t):=by
 intro ag s σ H Q I hw;refine isTrue_plain (cJ (h ag s σ H _ I hw) λv s1 bj=>?_) (he _);obtain⟨x,H1,I1,r1,q1⟩:=bj;obtain⟨d,rfl,q⟩:=q1;cases r1;exact lh ⟨H1,I1,q⟩
variable {tA NO:TT}{rest:List Expr}
def O7 (t u:TT):TT:=λσ H Q=>t σ H λc H1=>if c=true then u σ H1 Q else Q false H1
def Wb (t u:TT):TT:=λσ H Q=>t σ H λc H1=>if c=true then Q true H1 else u σ H1 Q
def OZ (t:TT):TT:=λσ H Q=>t σ H λc H1=>Q (!c) H1
def iR (ha:PT X a tA):PW X (.BoolOp .And [a] pos) tA:=by
 intro wh ag s σ H Q I h;refine isTrue_and (cJ (ha ag s σ H Q I h) λc s1 e=>?_);cases c with
 | true=>exact isTrue_and_nil e
 | false=>exact e
def pG (ha:PT X a tA):PW X (.BoolOp .Or [a] pos) tA:=by
 intro wh ag s σ H Q I h;refine isTrue_or (cJ (ha ag s σ H Q I h) λc s1 e=>?_);cases c with
 | false=>exact isTrue_or_nil e
 | true=>exact e
def kn (ha:PT X a tA)(hb:PW X (.BoolOp .And (b::rest) pos) NO):PW X (.BoolOp .And (a::b::rest) pos) (O7 tA NO):=by
 intro wh ag s σ H Q I h;refine isTrue_and (cJ (ha ag s σ H _ I h) λc s1 bj=>?_);obtain⟨H1,I1,q1⟩:=bj;cases c with
 | true=>exact hb wh ag s1 σ H1 Q I1 q1
 | false=>exact⟨H1,I1,q1⟩
def nO (ha:PT X a tA)(hb:PW X (.BoolOp .Or (b::rest) pos) NO):PW X (.BoolOp .Or (a::b::rest) pos) (Wb tA NO):=by
 intro wh ag s σ H Q I h;refine isTrue_or (cJ (ha ag s σ H _ I h) λc s1 bj=>?_);obtain⟨H1,I1,q1⟩:=bj;cases c with
 | true=>exact⟨H1,I1,q1⟩
 | false=>exact hb wh ag s1 σ H1 Q I1 q1
def jy (ha:PT X a tA):PT X (.UnaryOp .Not a pos) (OZ tA):=by
 intro ag s σ H Q I h;exact isTrue_not (ha ag s σ H (λc H1=>Q (!c) H1) I h)
def K0 (ta tb:TE):TE:=λσ H Q=>ta σ H λx H1=>XB x λc=>if c=true then tb σ H1 Q else Q (.bl false) H1
def OY (ta tb:TE):TE:=λσ H Q=>ta σ H λx H1=>XB x λc=>if c=true then Q (.bl true) H1 else tb σ H1 Q
def kq {op}{t:TE}(h:PE X a t):PE X (.BoolOp op [a] pos) t:=λag s σ H Q I hw=>BoolOp_one (h ag s σ H Q I hw)
def m_ (ha:PE X a ta)(hb:PE X (.BoolOp .And (b::rest) pos) tb):PE X (.BoolOp .And (a::b::rest) pos) (K0 ta tb):=by
 intro ag s σ H Q I h;refine BoolOp_and (cJ (ha ag s σ H _ I h) λv s1 bj=>?_);obtain⟨x,H1,I1,r1,q1⟩:=bj;obtain⟨c,rfl,q1⟩:=q1;cases r1;refine lh ?_;cases c with
 | true=>exact hb ag s1 σ H1 Q I1 q1
 | false=>exact⟨.bl false,H1,I1,rfl,q1⟩
def F6 (ha:PE X a ta)(hb:PE X (.BoolOp .Or (b::rest) pos) tb):PE X (.BoolOp .Or (a::b::rest) pos) (OY ta tb):=by
 intro ag s σ H Q I h;refine BoolOp_or (cJ (ha ag s σ H _ I h) λv s1 bj=>?_);obtain⟨x,H1,I1,r1,q1⟩:=bj;obtain⟨c,rfl,q1⟩:=q1;cases r1;refine lh ?_;cases c with
 | false=>exact hb ag s1 σ H1 Q I1 q1
 | true=>exact⟨.bl true,H1,I1,rfl,q1⟩
def Wc (t:TT)(ta tb:TE):TE:=λσ H Q=>t σ H λc H1=>if c=true then ta σ H1 Q else tb σ H1 Q
def vq {c:Expr}(hc:PT X c tA)(ha:PE X a ta)(hb:PE X b tb):PE X (.IfExp c a b pos) (Wc tA ta tb):=by
 intro ag s σ H Q I h;refine wpAny_IfExp (cJ (hc ag s σ H _ I h) λd s1 bj=>?_);obtain⟨H1,I1,q1⟩:=bj;cases d with
 | true=>exact ha ag s1 σ H1 Q I1 q1
 | false=>exact hb ag s1 σ H1 Q I1 q1
end
def aH (K:a8)(H:Hp)(a:Addr)(xs:List V):Prop :=
 Rd H a (.lst xs) \/
  ∃(o:Obj)(aU:Array Value) (n:Nat),K.lookup a=some o/\o.cls=.type "list" /\ o.dict=none/\o.data=.seq aU n/\aU.size<=sizeLine/\a9 xs aU.toList
def aZ (K:a8)(H:Hp)(a:Addr)(xs:List V):Prop :=
 Rd H a (.tup xs) \/
  ∃(o:Obj)(aU:Array Value) (n:Nat),K.lookup a=some o/\o.cls=.type "tuple" /\ o.data=.seq aU n/\aU.size<=sizeLine/\a9 xs aU.toList
def Si:Value->Option V
 | .none=>some .fJ
 | .bool b=>some (.bl b)
 | .int i _=>some (.int i)
 | .str x _=>some (.str x)
 | .bytes b _=>some (.ym b)
 | .float b _=>some (.Jf b)
 | .ref a=>some (.ref a)
 | .type n=>some (.ty n)
 | _=>none
def RelV.abs {x:V}{u:Value}(r:RelV x u):Si u=some x:=by
 cases x with
 | fJ=>cases r;rfl
 | bl _=>cases r;rfl
 | int _=>obtain⟨t,rfl⟩:=r;rfl
 | str _=>obtain⟨t,rfl⟩:=r;rfl
 | ym _=>obtain⟨t,rfl⟩:=r;rfl
 | Jf _=>obtain⟨t,rfl⟩:=r;rfl
 | ref _=>cases r;rfl
 | ty _=>cases r;rfl
def RelV.inj {x y:V}{u:Value}(r:RelV x u)(q:RelV y u):x=y:=gC (r.abs.symm.trans q.abs)
theorem a9.inj:∀{xs ys:List V}{us:List Value},a9 xs us->a9 ys us->xs=ys
 | _,_,_,.nil,.nil=>rfl
 | _,_,_,.cons r t,.cons r' t'=>by rw [r.inj r',a9.inj t t']
section
variable {X:Cx}{ag:List (Addr×Obj)}{σ:St}{H:Hp}{s:Shared}{a:Addr}{xs ys:List V}
def aH.of {K:a8}(h:H a=some (.lst xs)):aH K H a xs:=.inl (.inl h)
def aZ.of {K:a8}(h:H a=some (.tup xs)):aZ K H a xs:=.inl (.inl h)
def Inv.list (I:Inv X ag σ H s)(h:aH X.K H a xs):∃aU:List Value,a9 xs aU/\PlainL s.heap a aU.toArray/\xs.length<=sizeLine:=by
 rcases h with h | ⟨o,aU,n,hk,hc,hd,hs,hz,r⟩
 .obtain⟨z,aU,n,r,e⟩:=h.ok I.bS;exact⟨aU,r,⟨_,n,e,rfl,rfl,rfl⟩,z⟩
 refine⟨aU.toList,r,⟨o,n,I.rH a o hk,hc,hd,by simpa using hs⟩,?_⟩;have e:=r.length;simp only [sR] at e;omega
def Inv.tuple (I:Inv X ag σ H s)(h:aZ X.K H a xs):∃aU:List Value,a9 xs aU/\IsTup s.heap a aU.toArray/\xs.length<=sizeLine:=by
 rcases h with h | ⟨o,aU,n,hk,hc,hs,hz,r⟩
 .obtain⟨z,aU,r,p⟩:=h.ok I.bS;exact⟨aU,r,p,z⟩
 refine⟨aU.toList,r,⟨o,I.rH a o hk,hc,n,by simpa using hs⟩,?_⟩;have e:=r.length;simp only [sR] at e;omega
def Inv.pM (I:Inv X ag σ H s)(h:aH X.K H a xs)(h':aH X.K H a ys):xs=ys:=by
 obtain⟨aU,r,⟨o,n,e,_,_,d⟩,_⟩:=I.list h;obtain⟨uw,r',⟨o',n',e',_,_,d'⟩,_⟩:=I.list h';rw [e] at e';cases e';rw [d] at d';injection d' with d1 _;have:aU=uw:=by simpa using congrArg Array.toList d1
 subst this;exact r.inj r'
def Inv.qZ (I:Inv X ag σ H s)(h:aZ X.K H a xs)(h':aZ X.K H a ys):xs=ys:=by
 obtain⟨aU,r,⟨o,e,_,n,d⟩,_⟩:=I.tuple h;obtain⟨uw,r',⟨o',e',_,n',d'⟩,_⟩:=I.tuple h';rw [e] at e';cases e';rw [d] at d';injection d' with d1 _;have:aU=uw:=by simpa using congrArg Array.toList d1
 subst this;exact r.inj r'
end
abbrev Cx.n8 (X:Cx)(E:Value->Shared->Prop):Cx:={ X with xe:=E }
abbrev Cx.Ad (X:Cx):Cx:=X.n8 λ_ _=>False
theorem Cx.Ok.n8 {X:Cx}(ok:X.Ok)(E:Value->Shared->Prop):(X.n8 E).Ok :=
 ⟨ok.mod,ok.kind,ok.glob,ok.blt,ok.above,ok.inj,ok.has,ok.Nb,ok.hd,ok.frames,ok.NR,ok.Kg,ok.bs,ok.El,ok.CB,ok.Az,ok.nv,ok.Gv⟩
def Cx.Ok.ic {X:Cx}{E:Value->Shared->Prop}(ok:(X.n8 E).Ok):X.Ok :=
 ⟨ok.mod,ok.kind,ok.glob,ok.blt,ok.above,ok.inj,ok.has,ok.Nb,ok.hd,ok.frames,ok.NR,ok.Kg,ok.bs,ok.El,ok.CB,ok.Az,ok.nv,ok.Gv⟩
section
variable {X:Cx}{ag:List (Addr×Obj)}{σ:St}{H:Hp}{s:Shared}{E:Value->Shared->Prop}
theorem Inv.n8 (I:Inv X ag σ H s)(E:Value->Shared->Prop):Inv (X.n8 E) ag σ H s:=⟨I.ok.n8 E,I.os,I.bare,I.base,I.loc,I.cell,I.free,I.j7,I.pin,I.bS,I.len⟩
theorem Inv.ic (I:Inv (X.n8 E) ag σ H s):Inv X ag σ H s:=⟨I.ok.ic,I.os,I.bare,I.base,I.loc,I.cell,I.free,I.j7,I.pin,I.bS,I.len⟩
theorem SP.ic {D:Ends}{f:Flow}{s':Shared}(h:SP (X.n8 E) ag D f s'):SP X ag D f s':=by
 cases f with
 | next=>obtain⟨σ',H',I,q⟩:=h;exact⟨σ',H',I.ic,q⟩
 | brk=>obtain⟨σ',H',I,q⟩:=h;exact⟨σ',H',I.ic,q⟩
 | cont=>obtain⟨σ',H',I,q⟩:=h;exact⟨σ',H',I.ic,q⟩
 | ret u=>obtain⟨v,σ',H',I,r,q⟩:=h;exact⟨v,σ',H',I.ic,r,q⟩
theorem PE.Ad {e:Expr}{t:TE}(h:PE X.Ad e t):PE X e t:=λag s σ H Q I hw =>
 cY (h ag s σ H Q (I.n8 _) hw) (λ_ _ ⟨v,H',I',r,q⟩=>⟨v,H',I'.ic,r,q⟩) λ_ _ z=>False.elim z
theorem PT.Ad {e:Expr}{t:TT}(h:PT X.Ad e t):PT X e t:=λag s σ H Q I hw =>
 cY (h ag s σ H Q (I.n8 _) hw) (λ_ _ ⟨H',I',q⟩=>⟨H',I'.ic,q⟩) λ_ _ z=>False.elim z
theorem yp.Ad {st:List Stmt}{t:TS}(h:yp X.Ad st t):yp X st t:=λag s σ H D I hw =>
 cY (h ag s σ H D (I.n8 _) hw) (λ_ _ q=>q.ic) λ_ _ z=>False.elim z
end
section
variable {X:Cx}{st:Stmt}{rest:List Stmt}{t u:TS}{e:Expr}{te:TE}{pos:Pos}
def KL:TS:=λD σ H=>D.nx σ H
def Hg (t u:TS):TS:=λD σ H=>t { D with nx:=u D } σ H
def aY:yp X [] KL:=λ_ _ σ H _ I h=>wpAny_execs_nil ⟨σ,H,I,h⟩
def ak (h1:PS X st t)(h2:yp X rest u):yp X (st::rest) (Hg t u):=by
 intro ag s σ H D I h;refine wpAny_execs_cons (cJ (h1 ag s σ H { D with nx:=u D } I h) λf s1 q=>?_);cases f with
 | next =>
  obtain⟨σ',H',I',q⟩:=q;exact h2 ag s1 σ' H' D I' q
 | ret v=>exact q
 | brk=>exact q
 | cont=>exact q
def ao (h1:PS X st t):yp X [st] t:=by
 intro ag s σ H D I h;refine wpAny_execs_cons (cJ (h1 ag s σ H D I h) λf s1 q=>?_);cases f with
 | next=>exact wpAny_execs_nil q
 | ret v=>exact q
 | brk=>exact q
 | cont=>exact q
def Hk:TS:=λD σ H=>D.bk σ H
def B5:PS X (.Break pos) Hk:=λ_ _ σ H _ I h=>wpAny_Break ⟨σ,H,I,h⟩
def Inv.quiet {ag:List (Addr×Obj)}{σ:St}{H:Hp}{s:Shared}(I:Inv X ag σ H s):interactive X.env=false:=by simp [interactive,I.ok.kind]
def KS (te:TE):TS:=λD σ H=>te σ H λ_ H1=>D.nx σ H1
def bT (he:PE X e te)(hs:swapsWith e none pos.line X.env=pure false:=by rfl):PS X (.Expr e pos) (KS te):=by
 intro ag s σ H D I h;refine wpAny_Expr_any (cJ (he ag s σ H _ I h) λv s1 bj=>?_) I.quiet hs;obtain⟨x,H1,I1,r1,q1⟩:=bj;exact⟨σ,H1,I1,q1⟩
def OX (te:TE):TS:=λD σ H=>te σ H D.rt
def bu (he:PE X e te):PS X (.Return (some e) pos) (OX te):=by
 intro ag s σ H D I h;refine wpAny_Return_some (cJ (he ag s σ H _ I h) λv s1 bj=>?_);obtain⟨x,H1,I1,r1,q1⟩:=bj;exact⟨x,σ,H1,I1,r1,q1⟩
def O3 (c:TT)(t u:TS):TS:=λD σ H=>c σ H λb H1=>if b=true then t D σ H1 else u D σ H1
def b8 {c:Expr}{a b:List Stmt}{tc:TT}(hc:PT X c tc)(ha:yp X a t)(hb:yp X b u):PS X (.If c a b pos) (O3 tc t u):=by
 intro ag s σ H D I h;refine wpAny_If (cJ (hc ag s σ H _ I h) λd s1 bj=>?_);obtain⟨H1,I1,q1⟩:=bj;cases d with
 | true=>exact ha ag s1 σ H1 D I1 q1
 | false=>exact hb ag s1 σ H1 D I1 q1
def Hh:TS:=λ_ _ _=>False
def gZ:PS X st Hh:=λ_ _ _ _ _ _ h=>h.elim
end
abbrev TG:=V->St->Hp->(St->Hp->Prop)->Prop
abbrev G1:=List V->St->Hp->(St->Hp->Prop)->Prop
def PG (X:Cx)(target:Expr)(t:TG):Prop :=
 ∀(ag:List (Addr×Obj))(s:Shared)(σ:St)(H:Hp)(v:V)(u:Value)(Q:St->Hp->Prop),Inv X ag σ H s->RelV v u->t v σ H Q ->
  wpAny (model X.prog X.w) X.A (assign target X.env u) (λ_ s'=>∃σ' H',Inv X ag σ' H' s'/\Q σ' H') X.xe s
def Nq (X:Cx)(ts:List Expr)(t:G1):Prop :=
 ∀(ag:List (Addr×Obj))(s:Shared)(σ:St)(H:Hp)(vs:List V)(us:List Value)(Q:St->Hp->Prop),Inv X ag σ H s->a9 vs us->t vs σ H Q ->
  wpAny (model X.prog X.w) X.A (assignInOrder ((assignEach ts X.env).map (·.2)) us) (λ_ s'=>∃σ' H',Inv X ag σ' H' s'/\Q σ' H') X.xe s
abbrev OC:=V->V->Hp->VK->Prop
def VW (X:Cx)(op:Operator)(t:OC):Prop :=
 ∀(ag:List (Addr×Obj))(s:Shared)(σ:St)(H:Hp)(x y:V)(v u:Value)(Q:VK),Inv X ag σ H s->RelV x v->RelV y u->t x y H Q ->
  wpAny (model X.prog X.w) X.A (inplaceOp op v u) (EP X ag σ Q) X.xe s
section
variable {X:Cx}{pos:Pos}
def cU (i:Nat):TG:=λv σ H Q=>Q (σ.set i (some v)) H
def aq {i:Nat}{x:Str}(hN:X.N.Nodup)(hi:X.N[i]?=some x)(hx:Loc X.env.scope x)(hf:X.fn x=true\/X.env.scope.names.lookup x=some .local:=by first | exact .inl rfl | exact .inr rfl | assumption):PG X (.Name x pos) (cU i):=by
 intro ag s σ H v u Q I r h;exact wpAny_assign_Name (o9 I hN hi hx r (λs' I'=>⟨_,H,I',h⟩) hf)
def ya:G1:=λvs σ H Q=>vs=[]/\Q σ H
def g_ (t:TG)(u:G1):G1:=λvs σ H Q=>G0 vs λv r=>t v σ H λσ' H'=>u r σ' H' Q
def bF:Nq X [] ya:=by
 intro ag s σ H vs us Q I r h;obtain⟨e,h⟩:=h;subst e;cases r;exact assignInOrder_nil ⟨σ,H,I,h⟩
def aA {e:Expr}{es:List Expr}{t:TG}{u:G1}(h1:PG X e t)(h2:Nq X es u)
  (hs:(assignEach (e::es) X.env).map (·.2)=assign e X.env::(assignEach es X.env).map (·.2):=by rfl):Nq X (e::es) (g_ t u):=by
 intro ag s σ H vs us Q I r h;obtain⟨v,vr,e1,h⟩:=h;subst e1;cases r with
 | cons r rr =>
  rw [hs];refine assignInOrder_cons (cJ (h1 ag s σ H _ _ _ I r h) λ_ s1 bj=>?_);obtain⟨σ1,H1,I1,q1⟩:=bj;exact h2 ag s1 σ1 H1 _ _ Q I1 rr q1
def vP (K:a8) (n:Nat)(t:G1):TG:=λv σ H Q=>Nl v (aZ K H) n λxs=>t xs σ H Q
def fA {es:List Expr}{k:Nat}{t:G1}{n:Nat}(hc:X.calm=true)(h:Nq X es t)
  (hn:(assignEach es X.env).length=n:=by rfl)(wA:(assignEach es X.env).findIdx? (·.1)=none:=by rfl):PG X (.Tuple es k pos) (vP X.K n t):=by
 intro ag s σ H v u Q I r hw;obtain⟨a,xs,e1,hq,hl,hw⟩:=hw;subst e1;cases r;obtain⟨aU,rv,ht,hz⟩:=I.tuple hq;refine assign_Tuple_tuple (I.ok.hd hc) ht (by simp [hn,<-hl,rv.length]) wA λh' hx=>?_;have I1:Inv X ag σ H { s with heap:=h' }:=I.kept (t':=s.toks) λb o e=>hx b o (bQ (bA e)) e;exact h ag _ σ H xs _ Q I1 (by simpa using rv) hw
def Hl (te:TE)(g:TG):TS:=λD σ H=>te σ H λx H1=>g x σ H1 D.nx
def HW {tg e:Expr}{te:TE}{g:TG}(he:PE X e te)(hg:PG X tg g)(hs:swapsWithSole [tg] e pos.line X.env=pure false:=by rfl)(hw:swappedStores [tg] e X.env=pure none:=by rfl)
  (h1:(assignEach [tg] X.env).map (·.2)=[assign tg X.env]:=by rfl):PS X (.Assign [tg] e pos) (Hl te g):=by
 intro ag s σ H D I h;refine wpAny_Assign_stores (cJ (he ag s σ H _ I h) λv s1 bj=>?_) hs hw;obtain⟨x,H1,I1,r1,q1⟩:=bj;rw [h1];exact cJ (hg ag s1 σ H1 x v _ I1 r1 q1) λ_ s2 q=>q
def aB {i:Nat}{x:Str}{e:Expr}{te:TE}{pos':Pos}(hN:X.N.Nodup)(hi:X.N[i]?=some x)(hx:Loc X.env.scope x)(he:PE X e te)(hs:swapsWith e (some (.Name x pos')) pos.line X.env=pure false:=by rfl)(hf:X.fn x=true\/X.env.scope.names.lookup x=some .local:=by first | exact .inl rfl | exact .inr rfl | assumption) :
  PS X (.Assign [.Name x pos'] e pos) (Hl te (cU i)):=by
 intro ag s σ H D I h;refine wpAny_Assign_Name (cJ (he ag s σ H _ I h) λv s1 bj=>?_) hs;obtain⟨y,H1,I1,r1,q1⟩:=bj;exact o9 I1 hN hi hx r1 (λs2 I2=>⟨_,H1,I2,q1⟩) hf
def O6 (i:Nat)(te:TE)(ti:OC):TS:=λD σ H=>∃x,σ[i]?=some (some x)/\te σ H λy H1=>ti x y H1 λz H2=>D.nx (σ.set i (some z)) H2
def HV {i:Nat}{x:Str}{e:Expr}{te:TE}{op:Operator}{ti:OC}{pos':Pos}(hN:X.N.Nodup)(hi:X.N[i]?=some x)(hx:Loc X.env.scope x)(he:PE X e te)(ho:VW X op ti)(hf:X.fn x=true\/X.env.scope.names.lookup x=some .local:=by first | exact .inl rfl | exact .inr rfl | assumption) :
  PS X (.AugAssign (.Name x pos') op e pos) (O6 i te ti):=by
 intro ag s σ H D I h;obtain⟨v,e1,h⟩:=h;obtain⟨m,hn,hl⟩:=I.loc;have V5:OB X.env.scope x:=by rcases hx with k | k;exact .inl k;exact .inr (.inl k)
 obtain⟨u,r,l⟩:=hl i x v hi e1 V5;refine wpAny_AugAssign_Name ?_;have go:wpAny (model X.prog X.w) X.A (eval e X.env) (λw s₂=>wpAny (model X.prog X.w) X.A (inplaceOp op u w) (λr s₃=>wpAny (model X.prog X.w) X.A (storeName X.env x r) (λ_=>SP X ag D .next) X.xe s₃) X.xe s₂) X.xe s:=by
  refine cJ (he ag s σ H _ I h) λw s1 bj=>?_;obtain⟨y,H1,I1,r1,q1⟩:=bj;refine cJ (ho ag s1 σ H1 v y u w _ I1 r r1 q1) λz s2 bj=>?_;obtain⟨zv,H2,I2,r2,q2⟩:=bj;exact o9 I2 hN hi hx r2 (λs3 I3=>⟨_,H2,I3,q2⟩) hf
 rcases l with ⟨hk,hm⟩ | ⟨hk,c,hc,iG⟩
 .exact sQ I.ok.kind hk hn hm go
 rcases hk with hk | hk
 .exact wpAny_loadName_cell I.ok.kind hk hc iG go
 rcases hx with k | k
 .have:X.env.scope.names.lookup x=some .free:=hk;rw [k] at this;cases this
 have:X.env.scope.names.lookup x=some .free:=hk;rw [k] at this;cases this
def Yc (f:Int->Int->Int):OC:=λx y H Q=>∃i j,x=.int i/\y=.int j/\Q (.int (f i j)) H
def IE:VW X .Add (Yc λi j=>i+j):=by
 intro ag s σ H x y v u Q I r1 r2 h;obtain⟨i,j,e1,e2,q⟩:=h;subst e1;subst e2;obtain⟨t,rfl⟩:=r1;obtain⟨t',rfl⟩:=r2;exact iadd_int ⟨.int _,H,I.tok _,⟨_,rfl⟩,q⟩
end
section
variable {X:Cx}{pos:Pos}
def He (c:TT)(tb:TS):TS:=λD σ H=>∃W:Nat->St->Hp->Prop,(∃m,W m σ H)/\∀m σ H,W m σ H ->
 c σ H λb H1=>if b=true then ∃N:St->Hp->Prop,(∀σ' H',N σ' H'->∃m',m' < m/\W m' σ' H')/\tb { D with nx:=N,ct:=N,bk:=D.nx } σ H1 else D.nx σ H1
def jz {c:Expr}{body:List Stmt}{tc:TT}{tb:TS}(hp:PassesOwn (model X.prog X.w) X.A X.env X.xe)(hc:PT X c tc)(hb:yp X body tb):PS X (.While c body [] pos) (He tc tb):=by
 intro ag s σ H D I h;obtain⟨W,⟨m0,w0⟩,turn⟩:=h;refine wpAny_While (codeAny_whileLoop (λn s'=>∃σ' H',Inv X ag σ' H' s'/\W n σ' H') ?_ m0 ⟨σ,H,I,w0⟩);rintro n s1 ⟨σ1,H1,I1,w1⟩;refine oG hp (cJ (hc ag s1 σ1 H1 _ I1 (turn n σ1 H1 w1)) λb s2 bj=>?_);obtain⟨H2,I2,q2⟩:=bj;cases b with
 | true =>
  obtain⟨N,hN,q2⟩:=q2;rw [ax rfl];refine oG hp (cJ (hb ag s2 σ1 H2 _ I2 q2) λf s3 q3=>?_);cases f with
  | next =>
   obtain⟨σ3,H3,I3,n3⟩:=q3;obtain⟨m',hm,w3⟩:=hN σ3 H3 n3;exact⟨m',hm,σ3,H3,I3,w3⟩
  | cont =>
   obtain⟨σ3,H3,I3,n3⟩:=q3;obtain⟨m',hm,w3⟩:=hN σ3 H3 n3;exact⟨m',hm,σ3,H3,I3,w3⟩
  | brk=>exact q3
  | ret v=>exact q3
 | false =>
  rw [ay cZ];exact wpAny_execs_nil ⟨σ1,H2,I2,q2⟩
end
structure It where
 go:Nat->Hp->Prop
 ka:Nat->Hp->V->Hp->Prop
 stop:Nat->Hp->Prop
def uS (X:Cx)(ag:List (Addr×Obj))(H:Hp)(b:Addr):Prop :=
 H b=none/\b≠X.env.locals/\b∉X.fs/\(b∈X.ex\/X.s₀.heap.objs.size<=b)/\(∀x c,X.env.cells.lookup x=some c->c≠b)/\∀p∈X.pn++ag,p.1≠b
def Inv.uC {X:Cx}{ag:List (Addr×Obj)}{σ:St}{H H':Hp}{s:Shared}{b:Addr}(I:Inv X ag σ H s)(hb:s.heap.objs.size<=b)(hn:H' b=none):uS X ag H' b:=by
 refine⟨hn,jT (eZ I.lt hb),I.PH hb,.inr (fU I.sz hb),λx c e z=>?_,λp hp z=>?_⟩
 .obtain⟨v,q⟩:=I.cell x c e;exact absurd (eZ q.lt (by rw [z];exact hb)) (nJ _)
 exact absurd (eZ (bA (I.pin p hp).1) (by rw [z];exact hb)) (nJ _)
structure Turn (P:Program)(w:World)(K:a8)(tg:Expr)(J:It)(fp:List Addr)(it:Addr)(tn:Nat->Heap->Prop):Prop where
 mem:it∈fp
 obj:∀i h,tn i h->∀b∈fp,∃o,h.get? b=some o/\∀v,o.data≠.cell v
 keep:∀i h h',tn i h->(∀b∈fp,∀o,h.get? b=some o->h'.get? b=some o)->tn i h'
 item:∀(X:Cx),X.prog=P->X.w=w->X.K=K->X.calm=true->∀(i:Nat)(ag:List (Addr×Obj))(s:Shared)(σ:St)(H:Hp)(E:Value->Shared->Prop),Inv X ag σ H s->(∀b∈fp,uS X ag H b)->tn i s.heap->J.go i H ->
  wpAny (model P w) X.A (pyNext (.ref it)) (λr s1=>∃u,r=some u /\
   wpAny (model P w) X.A (letOwnedTupleGo tg (.ref it) u) (λ_ s2=>∃x H',Inv X ag σ H' s2/\RelV x u/\J.ka i H x H'/\tn (i+1) s2.heap/\∀b∈fp,H' b=none) E s1) E s
 done:∀(X:Cx),X.prog=P->X.w=w->X.K=K->X.calm=true->∀(i:Nat)(ag:List (Addr×Obj))(s:Shared)(σ:St)(H:Hp)(E:Value->Shared->Prop),Inv X ag σ H s->(∀b∈fp,uS X ag H b)->tn i s.heap->J.stop i H ->
  wpAny (model P w) X.A (pyNext (.ref it)) (λr s1=>r=none/\Inv X ag σ H s1) E s
 self:∀(A:Around) (i:Nat)(s:Shared)(Q:Value->Shared->Prop)(E:Value->Shared->Prop),tn i s.heap->Q (.ref it) s->wpAny (model P w) A (pyIter (.ref it)) Q E s
abbrev TI:=St->Hp->(It->Hp->Prop)->Prop
def VX (X:Cx)(ag:List (Addr×Obj))(σ:St)(tg:Expr)(R:It->Hp->Prop)(N6:Value)(s2:Shared):Prop :=
 ∃(it:Addr)(fp:List Addr)(tn:Nat->Heap->Prop)(J:It)(H':Hp),N6=.ref it/\Inv X ag σ H' s2/\Turn X.prog X.w X.K tg J fp it tn/\tn 0 s2.heap/\(∀b∈fp,uS X ag H' b)/\R J H'
def PI (X:Cx)(tg iter:Expr)(wi:TI):Prop :=
 ∀(ag:List (Addr×Obj))(s:Shared)(σ:St)(H:Hp)(R:It->Hp->Prop),Inv X ag σ H s->wi σ H R ->
  wpAny (model X.prog X.w) X.A (eval iter X.env) (λv s1=>wpAny (model X.prog X.w) X.A (pyIter v) (VX X ag σ tg R) X.xe s1) X.xe s
def zq {M:Model}{A:Around}{E:Value->Shared->Prop}{s:Shared}{tg:Expr}{it:Addr}{u:Value}{o:Obj}{n:String}{vs:Array Value}{Q:Unit->Shared->Prop}(ho:s.heap.get? it=some o)(hc:o.cls=.type n)(hd:o.data=.fields vs)
  (hn:["enumerate","zip","dict_itemiterator","dict_reverseitemiterator","odict_iterator","itertools.zip_longest","itertools.pairwise"].contains n=false)(hQ:Q () s):wpAny M A (letOwnedTupleGo tg (.ref it) u) Q E s:=by
 unfold letOwnedTupleGo;cases tg <;> first
  | exact aR hQ
  | (cases u <;> first
    | exact aR hQ
    | (refine aE (wpAny_load ho ?_)
       rw [hc,hd];show wpAny M A (if (["enumerate","zip","dict_itemiterator","dict_reverseitemiterator","odict_iterator","itertools.zip_longest","itertools.pairwise"].contains n && vs[0]? == some (rawInt _))=true then _ else _) Q E s;rw [ay (by intro h;rw [hn,mM] at h;cases h)];exact aR hQ))
def iL (K:a8)(a:Addr):It :=
 ⟨λi H=>∃xs x,aH K H a xs/\xs[i]?=some x,λi H x H'=>H'=H/\∀xs,aH K H a xs->xs[i]?=some x,λi H=>∃xs,aH K H a xs/\xs.length<=i⟩
def mz (K:a8)(a:Addr):It :=
 ⟨λi H=>∃xs x,aZ K H a xs/\xs[i]?=some x,λi H x H'=>H'=H/\∀xs,aZ K H a xs->xs[i]?=some x,λi H=>∃xs,aZ K H a xs/\xs.length<=i⟩
def Kw (lo:Int) (n:Nat):It:=⟨λi _=>i < n,λi H x H'=>H'=H/\x=.int (lo+i),λi _=>n<=i⟩
def zP {P:Program}{w:World}{K:a8}{tg:Expr}(a it:Addr):Turn P w K tg (iL K a) [it] it (λi h=>h.IsListIter it a i) where
 mem:=by simp
 obj:=λi h st b hb=>by
  have e:b=it:=by simpa using hb
  subst e;obtain⟨o,e,c,d⟩:=st;exact⟨o,e,λv z=>by rw [d] at z;cases z⟩
 keep:=λi h h' st k=>st.at λo e=>k it (by simp) o e
 item:=by
  intro X hP hw hK hc i ag s σ H E I hf st hg;subst hP hw hK;obtain⟨xs,x,hq,hx⟩:=hg;obtain⟨aU,rv,p,hz⟩:=I.list hq;obtain⟨u,hu,ru⟩:=rv.get hx;obtain⟨f0,f1,f2,f3,f4,f5⟩:=hf it (by simp);refine wpAny_pyNext_list_item st p.isList (x:=u) (by simpa using hu) λh' uT sb=>?_;have I1:Inv X ag σ H { s with heap:=h' }:=I.turned (t':=s.toks) (λb o hb e=>(sb.2 b hb).trans e) f0 f1 f3 f4 f5;obtain⟨o,e,c,d⟩:=id uT;exact⟨u,rfl,zq (s:={ s with heap:=h' }) e c d nofun ⟨x,H,I1,ru,⟨rfl,λys hy=>by rw [I.pM hy hq];exact hx⟩,uT,λb hb=>(hf b hb).1⟩⟩
 done:=by
  intro X hP hw hK hc i ag s σ H E I hf st hg;subst hP hw hK;obtain⟨xs,hq,hx⟩:=hg;obtain⟨aU,rv,p,hz⟩:=I.list hq;obtain⟨f0,f1,f2,f3,f4,f5⟩:=hf it (by simp);have hl:=rv.length;exact sV (I.ok.hd hc) st p.isList (by simp;omega) λh' eb=>⟨rfl,I.turned (t':=s.toks) (λb o hb e=>eb b o hb e) f0 f1 f3 f4 f5⟩
 self:=λ_ _ _ _ _ st h=>wpAny_pyIter_listiter st h
def wV {P:Program}{w:World}{K:a8}{tg:Expr}(a it:Addr):Turn P w K tg (mz K a) [it] it (λi h=>h.IsTupleIter it a i) where
 mem:=by simp
 obj:=λi h st b hb=>by
  have e:b=it:=by simpa using hb
  subst e;obtain⟨o,e,c,d⟩:=st;exact⟨o,e,λv z=>by rw [d] at z;cases z⟩
 keep:=λi h h' st k=>st.at λo e=>k it (by simp) o e
 item:=by
  intro X hP hw hK hc i ag s σ H E I hf st hg;subst hP hw hK;obtain⟨xs,x,hq,hx⟩:=hg;obtain⟨aU,rv,p,hz⟩:=I.tuple hq;obtain⟨u,hu,ru⟩:=rv.get hx;obtain⟨f0,f1,f2,f3,f4,f5⟩:=hf it (by simp);refine wpAny_pyNext_tuple_item st (show s.heap.IsTuple a aU.toArray from p) (x:=u) (by simpa using hu) λh' uT sb=>?_;have I1:Inv X ag σ H { s with heap:=h' }:=I.turned (t':=s.toks) (λb o hb e=>(sb.2 b hb).trans e) f0 f1 f3 f4 f5;obtain⟨o,e,c,d⟩:=id uT;exact⟨u,rfl,zq (s:={ s with heap:=h' }) e c d nofun ⟨x,H,I1,ru,⟨rfl,λys hy=>by rw [I.qZ hy hq];exact hx⟩,uT,λb hb=>(hf b hb).1⟩⟩
 done:=by
  intro X hP hw hK hc i ag s σ H E I hf st hg;subst hP hw hK;obtain⟨xs,hq,hx⟩:=hg;obtain⟨aU,rv,p,hz⟩:=I.tuple hq;obtain⟨f0,f1,f2,f3,f4,f5⟩:=hf it (by simp);have hl:=rv.length;exact wpAny_pyNext_tuple_end (I.ok.hd hc) st (show s.heap.IsTuple a aU.toArray from p) (by simp;omega) λh' eb=>⟨rfl,I.turned (t':=s.toks) (λb o hb e=>eb b o hb e) f0 f1 f3 f4 f5⟩
 self:=λ_ _ _ _ _ st h=>wpAny_pyIter_tupleiter st h
def wW {P:Program}{w:World}{K:a8}{tg:Expr}(it:Addr) (lo:Int) (n:Nat):Turn P w K tg (Kw lo n) [it] it (λi h=>IsRangeIter h it (lo+(i:Nat) * 1) ((n:Int) - (i:Nat)) 1) where
 mem:=by simp
 obj:=λi h st b hb=>by
  have e:b=it:=by simpa using hb
  subst e;exact⟨_,st,λv z=>by
   have z':Data.fields _=Data.cell v:=z;cases z'⟩
 keep:=λi h h' st k=>k it (by simp) _ st
 item:=by
  intro X hP hw hK hc i ag s σ H E I hf st hg;subst hP hw hK;obtain⟨f0,f1,f2,f3,f4,f5⟩:=hf it (by simp);have W:=Walks.range (prog:=X.prog) (w:=X.w) (I.ok.hd hc) it lo 1 n;refine W.item i s _ _ hg st λv h' tk hv uT kk=>?_;obtain⟨t,rfl⟩:=hv;have I1:Inv X ag σ H { s with heap:=h',toks:=tk }:=I.turned (λb o hb e=>kk b o (by simpa using hb) e) f0 f1 f3 f4 f5;refine⟨_,rfl,zq (s:={ s with heap:=h',toks:=tk }) (n := "range_iterator") uT rfl rfl nofun ⟨.int (lo+i),H,I1,⟨t,?_⟩,⟨rfl,rfl⟩,uT,λb hb=>(hf b hb).1⟩⟩;rw [Int.mul_one]
 done:=by
  intro X hP hw hK hc i ag s σ H E I hf st hg;subst hP hw hK;obtain⟨f0,f1,f2,f3,f4,f5⟩:=hf it (by simp);exact wpAny_pyNext_range_end (I.ok.hd hc) st (by have:n<=i:=hg;omega) λh' eb=>⟨rfl,I.turned (t':=s.toks) (λb o hb e=>eb b o hb e) f0 f1 f3 f4 f5⟩
 self:=λ_ _ _ _ _ st h=>wpAny_pyIter_rangeiter st h
section
variable {X:Cx}{tg:Expr}
def LX (K:a8)(tl:TE):TI:=λσ H R=>tl σ H λx H1=>OA x (λa=>∃xs,aH K H1 a xs) λa=>R (iL K a) H1
def Qi (K:a8)(tl:TE):TI:=λσ H R=>tl σ H λx H1=>OA x (λa=>∃xs,aZ K H1 a xs) λa=>R (mz K a) H1
def aS {l:Expr}{tl:TE}(hl:PE X l tl):PI X tg l (LX X.K tl):=by
 intro ag s σ H R I h;refine cJ (hl ag s σ H _ I h) λv s1 bj=>?_;obtain⟨x,H1,I1,r1,q1⟩:=bj;obtain⟨a,e,⟨xs,hq⟩,q⟩:=q1;subst e;cases r1;obtain⟨aU,rv,p,hz⟩:=I1.list hq;refine mQ p.isList ?_;refine⟨s1.heap.objs.size,[s1.heap.objs.size],_,_,H1,rfl,I1.kept (t':=s1.toks) λb o e=>bW _ e,zP a _,⟨_,dq _ rfl,rfl,rfl⟩,λb hb=>?_,q⟩;have e:b=s1.heap.objs.size:=by simpa using hb
 subst e;exact I1.uC (aG _) (I1.bS.fresh (aG _))
def d_ {l:Expr}{tl:TE}(hl:PE X l tl):PI X tg l (Qi X.K tl):=by
 intro ag s σ H R I h;refine cJ (hl ag s σ H _ I h) λv s1 bj=>?_;obtain⟨x,H1,I1,r1,q1⟩:=bj;obtain⟨a,e,⟨xs,hq⟩,q⟩:=q1;subst e;cases r1;obtain⟨aU,rv,p,hz⟩:=I1.tuple hq;refine sL (show s1.heap.IsTuple a aU.toArray from p) ?_;refine⟨s1.heap.objs.size,[s1.heap.objs.size],_,_,H1,rfl,I1.kept (t':=s1.toks) λb o e=>bW _ e,wV a _,⟨_,dq _ rfl,rfl,rfl⟩,λb hb=>?_,q⟩;have e:b=s1.heap.objs.size:=by simpa using hb
 subst e;exact I1.uC (aG _) (I1.bS.fresh (aG _))
def B3 {ag:List (Addr×Obj)}{σ:St}{H:Hp}{s:Shared}{R:It->Hp->Prop}{E:Value->Shared->Prop}{lo hi:Int}{t u v:Tok}{tk:Nat}(I:Inv X ag σ H s)(h1:-(2 ^ 62)<=lo)(h2:lo < 2 ^ 62)(h3:-(2 ^ 62)<=hi)(h4:hi < 2 ^ 62)
  (q:R (Kw lo (hi - lo).toNat) H):wpAny (model X.prog X.w) X.A (pyIter (.ref s.heap.objs.size)) (VX X ag σ tg R) E { s with heap:=s.heap.push { cls:=.type "range",data:=.fields #[.int lo t,.int hi u,.int 1 v] },toks:=tk }:=by
 refine wpAny_pyIter_range (IsRange.new ..) (small_one h1 h2 h3 h4) ?_;have I1:Inv X ag σ H { s with heap:=s.heap.push { cls:=.type "range",data:=.fields #[.int lo t,.int hi u,.int 1 v] },toks:=tk }:=I.kept λb o e=>bW _ e;refine⟨(s.heap.push { cls:=.type "range",data:=.fields #[.int lo t,.int hi u,.int 1 v] }).objs.size,[(s.heap.push { cls:=.type "range",data:=.fields #[.int lo t,.int hi u,.int 1 v] }).objs.size],_,_,H,rfl,
  I1.kept (t':=tk) λb o e=>bW _ e,wW _ lo (hi - lo).toNat,?_,λb hb=>?_,q⟩
 .have e1:lo+((0:Nat):Int) * 1=lo:=by simp
  have e2:(((hi - lo).toNat:Nat):Int) - ((0:Nat):Int)=Builtin.Range.rangeSize lo hi 1:=by rw [rangeSize_one];split <;> omega
  show IsRangeIter _ _ (lo+((0:Nat):Int) * 1) ((((hi - lo).toNat:Nat):Int) - ((0:Nat):Int)) 1;rw [e1,e2];exact dq _ rfl
 have e:b=(s.heap.push { cls:=.type "range",data:=.fields #[.int lo t,.int hi u,.int 1 v] }).objs.size:=by simpa using hb
 subst e;exact I1.uC (aG _) (I1.bS.fresh (aG _))
def LW (ta:TA):TI:=λσ H R=>ta σ H λvs H1=>VJ vs λj=>R (Kw 0 j.toNat) H1
def iA {a:Expr}{ta:TA}{p pos:Pos}(hg:Gl X "range")(hm:X.mg "range"=none)(ha:PA X [a] ta)(hs:starEach [a] X.env=[(false,eval a X.env)]:=by rfl):PI X tg (.Call (.Name "range" p) [a] [] pos) (LW ta):=by
 intro ag s σ H R I h;refine Call_ (iV I hg hm boot_range (yw (cJ (ha pos ag s σ H _ I h) λus s1 bj=>?_) hs rfl));obtain⟨vs,H1,I1,r1,q1⟩:=bj;obtain⟨j,e,q1,q2,q⟩:=q1;subst e;cases r1 with
 | cons r rr =>
  cases rr;obtain⟨t,rfl⟩:=r;exact call_range_1 (B3 I1 ∅ ∅ q1 q2 (by simpa using q))
def O4 (wi:TI)(g:TG)(tb:TS):TS:=λD σ H=>wi σ H λJ H1=>∃W:Nat->Nat->St->Hp->Prop,(∃m,W 0 m σ H1)/\∀i m σ H,W i m σ H ->
 (J.stop i H/\D.nx σ H)\/(J.go i H/\∃N:St->Hp->Prop,(∀σ' H',N σ' H'->∃m',m' < m/\W (i+1) m' σ' H')/\∀x H',J.ka i H x H'->g x σ H' λσ2 H2=>tb { D with nx:=N,ct:=N,bk:=D.nx } σ2 H2)
def mZ (fp:List Addr)(h:Heap):List (Addr×Obj):=fp.filterMap λb=>(h.get? b).map λo=>(b,o)
def gu {fp:List Addr}{h:Heap}{b:Addr}{o:Obj}(hb:b∈fp)(e:h.get? b=some o):(b,o)∈mZ fp h:=List.mem_filterMap.mpr ⟨b,hb,by rw [e];rfl⟩
def Ab {fp:List Addr}{h:Heap}{p:Addr×Obj}(hp:p∈mZ fp h):p.1∈fp/\h.get? p.1=some p.2:=by
 obtain⟨b,hb,e⟩:=List.mem_filterMap.mp hp;cases q:h.get? b with
 | none=>rw [q] at e;cases e
 | some o =>
  rw [q] at e;have e':(b,o)=p:=gC e;subst e';exact⟨hb,q⟩
def Inv.pinned {ag:List (Addr×Obj)}{σ:St}{H:Hp}{s:Shared}{fp:List Addr}(I:Inv X ag σ H s)(hf:∀b∈fp,uS X ag H b)(ho:∀b∈fp,∃o,s.heap.get? b=some o/\∀v,o.data≠.cell v):Inv X (ag++mZ fp s.heap) σ H s :=
 I.yY λp hp=>(cD.mp hp).elim (λz=>I.pin p (dO _ z)) λz=>by
  obtain⟨hb,e⟩:=Ab z;obtain⟨f0,f1,f2,_⟩:=hf p.1 hb;obtain⟨o,e',d⟩:=ho p.1 hb;rw [e] at e';cases e';exact⟨e,f0,f1,f2,d⟩
def Inv.jr {ag pl:List (Addr×Obj)}{σ:St}{H:Hp}{s:Shared}(I:Inv X (ag++pl) σ H s):Inv X ag σ H s:=I.yY λp hp=>I.pin p (dO _ (eV _ hp))
def bL {iter:Expr}{body:List Stmt}{wi:TI}{g:TG}{tb:TS}{pos:Pos}(hp:PassesOwn (model X.prog X.w) X.A X.env X.xe)(hc:X.calm=true)(hi:PI X tg iter wi)(hg:PG X tg g)(hb:yp X body tb)
  (hs:∀x,foldedSetIterable iter X.env x=pure x:=by intro _;rfl):PS X (.For tg iter body [] pos) (O4 wi g tb):=by
 intro ag s σ H D I h;refine wpAny_For (cJ (hi ag s σ H _ I h) λv s1 h1=>cJ h1 λN6 s2 h2=>?_) hs;obtain⟨it,fp,tn,J,H2,e,I2,T,DR,f2,W,⟨m0,w0⟩,turn⟩:=h2;subst e;have o_:∀{H':Hp},(∀b∈fp,H' b=none)->∀b∈fp,uS X ag H' b:=λhn b hb=>⟨hn b hb,(f2 b hb).2⟩;refine codeAny_forLoop_any (λn s'=>∃i σ' H',Inv X ag σ' H' s'/\tn i s'.heap/\(∀b∈fp,H' b=none)/\W i n σ' H') ?_ m0 ⟨0,σ,H2,I2,DR,λb hb=>(f2 b hb).1,w0⟩;rintro n s3 ⟨i,σ3,H3,I3,K3,UP,w3⟩;rcases turn i n σ3 H3 w3 with ⟨stop,qn⟩ | ⟨go,N,hN,step⟩
 .refine oG hp (cJ (T.done X rfl rfl rfl hc i ag s3 σ3 H3 X.xe I3 (o_ UP) K3 stop) λr s4 ⟨hr,I4⟩=>?_);subst hr;exact wpAny_execs_nil ⟨σ3,H3,I4,qn⟩
 refine oG hp (cJ (T.item X rfl rfl rfl hc i ag s3 σ3 H3 X.xe I3 (o_ UP) K3 go) λr s4 ⟨u,hr,h4⟩=>?_);subst hr;refine oG hp (cJ h4 λ_ s5 bj=>?_);obtain⟨x,H5,I5,r5,y5,zT,MQ⟩:=bj;have I5':=I5.pinned (o_ MQ) (T.obj _ _ zT);refine oG hp (cJ (hg _ s5 σ3 H5 x u _ I5' r5 (step x H5 y5)) λ_ s6 bj=>?_);obtain⟨σ6,H6,I6,q6⟩:=bj;refine oG hp (cJ (hb _ s6 σ6 H6 _ I6 q6) λf s7 q7=>?_);have again:∀{σ7:St}{H7:Hp},Inv X (ag++mZ fp s5.heap) σ7 H7 s7->N σ7 H7->∃m,m < n/\∃i σ' H',Inv X ag σ' H' s7/\tn i s7.heap/\(∀b∈fp,H' b=none)/\W i m σ' H':=λ{σ7 H7} I7 n7=>by
  obtain⟨m',hm,w7⟩:=hN σ7 H7 n7;refine⟨m',hm,i+1,σ7,H7,I7.jr,T.keep _ _ _ zT λb hb o e=>(I7.pin (b,o) (dO _ (dO _ (gu hb e)))).1,λb hb=>?_,w7⟩;obtain⟨o,e,d⟩:=T.obj _ _ zT b hb;exact(I7.pin (b,o) (dO _ (dO _ (gu hb e)))).2.1
 cases f with
 | next=>obtain⟨σ7,H7,I7,n7⟩:=q7;exact again I7 n7
 | cont=>obtain⟨σ7,H7,I7,n7⟩:=q7;exact again I7 n7
 | brk=>obtain⟨σ7,H7,I7,q7⟩:=q7;exact⟨σ7,H7,I7.jr,q7⟩
 | ret v=>obtain⟨x7,σ7,H7,I7,r7,q7⟩:=q7;exact⟨x7,σ7,H7,I7.jr,r7,q7⟩
end
def cf {K:a8}{a:Addr}{xs:List V}{g:TG}{tb:TS}{D:Ends}{σ:St}{H:Hp}(Pv:Nat->St->Hp->Prop)(h0:Pv 0 σ H)(hl:∀i σ H,i<=xs.length->Pv i σ H->aH K H a xs)
  (hs:∀i x σ H,xs[i]?=some x->Pv i σ H->g x σ H λσ2 H2=>tb { D with nx:=Pv (i+1),ct:=Pv (i+1),bk:=D.nx } σ2 H2)(hd:∀σ H,Pv xs.length σ H->D.nx σ H) :
  ∃W:Nat->Nat->St->Hp->Prop,(∃m,W 0 m σ H)/\∀i m σ H,W i m σ H ->
   ((iL K a).stop i H/\D.nx σ H)\/((iL K a).go i H/\∃N:St->Hp->Prop,(∀σ' H',N σ' H'->∃m',m' < m/\W (i+1) m' σ' H')/\∀x H',(iL K a).ka i H x H'->g x σ H' λσ2 H2=>tb { D with nx:=N,ct:=N,bk:=D.nx } σ2 H2):=by
 refine⟨λi m σ H=>m=xs.length - i/\i<=xs.length/\Pv i σ H,⟨xs.length,by simp,gN _,h0⟩,?_⟩;rintro i m σ H ⟨rfl,hi,p⟩;have q:=hl i σ H hi p;by_cases jd:i < xs.length
 .refine .inr ⟨⟨xs,xs[i],q,by simp [jd]⟩,Pv (i+1),λσ' H' p'=>⟨xs.length - (i+1),∅,rfl,jd,p'⟩,λx H' y=>?_⟩;obtain⟨e,y⟩:=y;subst e;exact hs i x σ _ (y xs q) p
 have e:i=xs.length:=by omega
 subst e;exact .inl ⟨⟨xs,q,aG _⟩,hd σ H p⟩
def zu {K:a8}{a:Addr}{xs:List V}{g:TG}{tb:TS}{D:Ends}{σ:St}{H:Hp}(Pv:Nat->St->Hp->Prop)(h0:Pv 0 σ H)(hl:∀i σ H,i<=xs.length->Pv i σ H->aZ K H a xs)
  (hs:∀i x σ H,xs[i]?=some x->Pv i σ H->g x σ H λσ2 H2=>tb { D with nx:=Pv (i+1),ct:=Pv (i+1),bk:=D.nx } σ2 H2)(hd:∀σ H,Pv xs.length σ H->D.nx σ H) :
  ∃W:Nat->Nat->St->Hp->Prop,(∃m,W 0 m σ H)/\∀i m σ H,W i m σ H ->
   ((mz K a).stop i H/\D.nx σ H)\/((mz K a).go i H/\∃N:St->Hp->Prop,(∀σ' H',N σ' H'->∃m',m' < m/\W (i+1) m' σ' H')/\∀x H',(mz K a).ka i H x H'->g x σ H' λσ2 H2=>tb { D with nx:=N,ct:=N,bk:=D.nx } σ2 H2):=by
 refine⟨λi m σ H=>m=xs.length - i/\i<=xs.length/\Pv i σ H,⟨xs.length,by simp,gN _,h0⟩,?_⟩;rintro i m σ H ⟨rfl,hi,p⟩;have q:=hl i σ H hi p;by_cases jd:i < xs.length
 .refine .inr ⟨⟨xs,xs[i],q,by simp [jd]⟩,Pv (i+1),λσ' H' p'=>⟨xs.length - (i+1),∅,rfl,jd,p'⟩,λx H' y=>?_⟩;obtain⟨e,y⟩:=y;subst e;exact hs i x σ _ (y xs q) p
 have e:i=xs.length:=by omega
 subst e;exact .inl ⟨⟨xs,q,aG _⟩,hd σ H p⟩
def iI {lo:Int}{n:Nat}{g:TG}{tb:TS}{D:Ends}{σ:St}{H:Hp}(Pv:Nat->St->Hp->Prop)(h0:Pv 0 σ H)
  (hs:∀i σ H,i < n->Pv i σ H->g (.int (lo+i)) σ H λσ2 H2=>tb { D with nx:=Pv (i+1),ct:=Pv (i+1),bk:=D.nx } σ2 H2)(hd:∀σ H,Pv n σ H->D.nx σ H) :
  ∃W:Nat->Nat->St->Hp->Prop,(∃m,W 0 m σ H)/\∀i m σ H,W i m σ H ->
   ((Kw lo n).stop i H/\D.nx σ H)\/((Kw lo n).go i H/\∃N:St->Hp->Prop,(∀σ' H',N σ' H'->∃m',m' < m/\W (i+1) m' σ' H')/\∀x H',(Kw lo n).ka i H x H'->g x σ H' λσ2 H2=>tb { D with nx:=N,ct:=N,bk:=D.nx } σ2 H2):=by
 refine⟨λi m σ H=>m=n - i/\i<=n/\Pv i σ H,⟨n,by simp,gN _,h0⟩,?_⟩;rintro i m σ H ⟨rfl,hi,p⟩;by_cases jd:i < n
 .refine .inr ⟨jd,Pv (i+1),λσ' H' p'=>⟨n - (i+1),∅,rfl,jd,p'⟩,λx H' y=>?_⟩;obtain⟨e,y⟩:=y;subst e y;exact hs i σ _ jd p
 have e:i=n:=by omega
 subst e;exact .inl ⟨aG _,hd σ H p⟩
abbrev R2:=V->V->Hp->VK->Prop
def jS (X:Cx)(f:Value->Value->Sem Value)(r:R2):Prop :=
 ∀(ag:List (Addr×Obj))(s:Shared)(σ:St)(H:Hp)(x y:V)(v u:Value)(Q:VK),Inv X ag σ H s->RelV x v->RelV y u->r x y H Q ->
  wpAny (model X.prog X.w) X.A (f v u) (EP X ag σ Q) X.xe s
def Sr (X:Cx)(f:Value->Sem Value)(r:V->Hp->VK->Prop):Prop :=
 ∀(ag:List (Addr×Obj))(s:Shared)(σ:St)(H:Hp)(x:V)(v:Value)(Q:VK),Inv X ag σ H s->RelV x v->r x H Q ->
  wpAny (model X.prog X.w) X.A (f v) (EP X ag σ Q) X.xe s
def ft (X:Cx)(f:Value)(r:List V->Hp->VK->Prop):Prop :=
 ∀(ag:List (Addr×Obj))(s:Shared)(σ:St)(H:Hp)(xs:List V)(us:List Value)(Q:VK),Inv X ag σ H s->a9 xs us->r xs H Q ->
  wpAny (model X.prog X.w) X.A (call f us) (EP X ag σ Q) X.xe s
def Ss (X:Cx)(r:V->Hp->(Bool->Hp->Prop)->Prop):Prop :=
 ∀(ag:List (Addr×Obj))(s:Shared)(σ:St)(H:Hp)(x:V)(v:Value)(Q:Bool->Hp->Prop),Inv X ag σ H s->RelV x v->r x H Q ->
  wpAny (model X.prog X.w) X.A (truthy v) (TP X ag σ Q) X.xe s
def NM (r:R2)(ta tb:TE):TE:=λσ H Q=>ta σ H λx H1=>tb σ H1 λy H2=>r x y H2 Q
def V_ (r:V->Hp->VK->Prop)(ta:TE):TE:=λσ H Q=>ta σ H λx H1=>r x H1 Q
def rI (C:Int->Int->Prop)(g:Int->Int->V):R2:=λx y H Q=>VN x y C λi j=>Q (g i j) H
def HU (g:Int->Int->V):R2:=λx y H Q=>VO x y λi j=>Q (g i j) H
def rU (g:Int->V):V->Hp->VK->Prop:=λx H Q=>Sm x λi=>Q (g i) H
section
variable {X:Cx}{a b c:Expr}{ta tb tc:TE}{pos:Pos}
def Jx (ha:PE X a ta)(hb:PE X b tb){ag:List (Addr×Obj)}{s:Shared}{σ:St}{H:Hp}{R:V->V->Hp->Prop}(I:Inv X ag σ H s)
  (h:ta σ H λx H1=>tb σ H1 λy H2=>R x y H2){Q:Value->Shared->Prop}{f:Value->Value->Sem Value}
  (hf:∀v u s2 x y H2,Inv X ag σ H2 s2->RelV x v->RelV y u->R x y H2->wpAny (model X.prog X.w) X.A (f v u) Q X.xe s2) :
  wpAny (model X.prog X.w) X.A (eval a X.env) (λv s₁=>wpAny (model X.prog X.w) X.A (eval b X.env) (λu s₂=>wpAny (model X.prog X.w) X.A (f v u) Q X.xe s₂) X.xe s₁) X.xe s:=by
 refine cJ (ha ag s σ H _ I h) λv s1 bj=>?_;obtain⟨x,H1,I1,r1,q1⟩:=bj;refine cJ (hb ag s1 σ H1 _ I1 q1) λu s2 bj=>?_;obtain⟨y,H2,I2,r2,q2⟩:=bj;exact hf v u s2 x y H2 I2 r1 r2 q2
def aM {op:Operator}{r:R2}(ho:jS X (binaryOp op) r)(ha:PE X a ta)(hb:PE X b tb):PE X (.BinOp a op b pos) (NM r ta tb):=by
 intro ag s σ H Q I h;exact wpAny_BinOp (Jx ha hb I h λv u s2 x y H2 I2 rx ry q=>ho ag s2 σ H2 x y v u Q I2 rx ry q)
def y_ {op:UnaryOp}{r:V->Hp->VK->Prop}(ho:Sr X (unaryOp op) r)(ha:PE X a ta):PE X (.UnaryOp op a pos) (V_ r ta):=by
 intro ag s σ H Q I h;refine UnaryOp_ (cJ (ha ag s σ H _ I h) λv s1 bj=>?_);obtain⟨x,H1,I1,r1,q1⟩:=bj;exact ho ag s1 σ H1 x v Q I1 r1 q1
def Pr {f:Value->Value->Sem Value}{C:Int->Int->Prop}{g:Int->Int->Int}
  (rule:∀(i j:Int)(t u:Tok)(s:Shared)(Q:Value->Shared->Prop)(E:Value->Shared->Prop),C i j->Q (.int (g i j) s.toks) { s with toks:=s.toks+1 }->wpAny (model X.prog X.w) X.A (f (.int i t) (.int j u)) Q E s) :
  jS X f (rI C λi j=>.int (g i j)):=by
 intro ag s σ H x y v u Q I rx ry h;obtain⟨i,j,rfl,rfl,hc,q⟩:=h;obtain⟨t,rfl⟩:=rx;obtain⟨t',rfl⟩:=ry;exact rule i j t t' s _ _ hc ⟨.int (g i j),H,I.tok _,⟨_,rfl⟩,q⟩
def Lm {f:Value->Value->Sem Value}{g:Int->Int->Int}
  (rule:∀(i j:Int)(t u:Tok)(s:Shared)(Q:Value->Shared->Prop)(E:Value->Shared->Prop),Q (.int (g i j) s.toks) { s with toks:=s.toks+1 }->wpAny (model X.prog X.w) X.A (f (.int i t) (.int j u)) Q E s) :
  jS X f (HU λi j=>.int (g i j)):=by
 intro ag s σ H x y v u Q I rx ry h;obtain⟨i,j,rfl,rfl,q⟩:=h;obtain⟨t,rfl⟩:=rx;obtain⟨t',rfl⟩:=ry;exact rule i j t t' s _ _ ⟨.int (g i j),H,I.tok _,⟨_,rfl⟩,q⟩
def Ib {f:Value->Value->Sem Value}{g:Int->Int->Bool}
  (rule:∀(i j:Int)(t u:Tok)(s:Shared)(Q:Value->Shared->Prop)(E:Value->Shared->Prop),Q (.bool (g i j)) s->wpAny (model X.prog X.w) X.A (f (.int i t) (.int j u)) Q E s) :
  jS X f (HU λi j=>.bl (g i j)):=by
 intro ag s σ H x y v u Q I rx ry h;obtain⟨i,j,rfl,rfl,q⟩:=h;obtain⟨t,rfl⟩:=rx;obtain⟨t',rfl⟩:=ry;exact rule i j t t' s _ _ ⟨.bl (g i j),H,I,rfl,q⟩
def SH (i j:Int):Prop:=0 < j/\j < 1073741824
def JI (i j:Int):Prop:=(-(2 ^ 64) < i/\i < 2 ^ 64)\/(-(2 ^ 64) < j/\j < 2 ^ 64)
def JI.ok {i j:Int}(h:JI i j):IntMulOk i j:=by
 rcases h with ⟨h1,h2⟩ | ⟨h1,h2⟩
 .exact .of_left (intBits_le_64 h1 h2)
 exact .of_right (intBits_le_64 h1 h2)
def dH:jS X (binaryOp .Add) (HU λi j=>.int (i+j)):=Lm λ_ _ _ _ _ _ _ q=>add_int q
def Ce:jS X (binaryOp .Sub) (HU λi j=>.int (i - j)):=Lm λ_ _ _ _ _ _ _ q=>sub_int q
def Ia:jS X (binaryOp .Mult) (rI JI λi j=>.int (i * j)):=Pr λ_ _ _ _ _ _ _ hc q=>mul_int q hc.ok
def cV:jS X (binaryOp .FloorDiv) (rI SH λi j=>.int (i / j)):=Pr λi j _ _ _ _ _ hc q=>by
 have h1:(0:Int) < j:=hc.1;have h2:j < 1073741824:=hc.2;exact floordiv_int ∅ (by rw [Int.fdiv_eq_ediv_of_nonneg i ∅];exact q) (.inl (PyProof.noPylong_small ∅))
def cK:jS X (binaryOp .Mod) (rI (λ_ j=>0 < j) λi j=>.int (i % j)):=Pr λi j _ _ _ _ _ hc q=>by
 have h1:(0:Int) < j:=hc;exact mod_int' ∅ (by rw [Int.fmod_eq_emod_of_nonneg i ∅];exact q)
def V9 {f:Value->Sem Value}{g:Int->Int}
  (rule:∀(i:Int)(t:Tok)(s:Shared)(Q:Value->Shared->Prop)(E:Value->Shared->Prop),Q (.int (g i) s.toks) { s with toks:=s.toks+1 }->wpAny (model X.prog X.w) X.A (f (.int i t)) Q E s) :
  Sr X f (rU λi=>.int (g i)):=by
 intro ag s σ H x v Q I rx h;obtain⟨i,rfl,q⟩:=h;obtain⟨t,rfl⟩:=rx;exact rule i t s _ _ ⟨.int (g i),H,I.tok _,⟨_,rfl⟩,q⟩
def tH:Sr X (unaryOp .USub) (rU λi=>.int (-i)):=V9 λ_ _ _ _ _ q=>neg_int q
end
def K7:V->V->Bool
 | .fJ,.fJ=>true | .fJ,.int _=>true | .int _,.fJ=>true | .fJ,.bl _=>true | .bl _,.fJ=>true | .fJ,.str _=>true | .str _,.fJ=>true
 | .int _,.int _=>true | .bl _,.bl _=>true | .str _,.str _=>true | .ym _,.ym _=>true
 | .int _,.str _=>true | .str _,.int _=>true | .bl _,.str _=>true | .str _,.bl _=>true
 | _,_=>false
def Wz:R2:=λx y H Q=>K7 x y=true/\Q (.bl (decide (x=y))) H
def Wy:R2:=λx y H Q=>K7 x y=true/\Q (.bl (!decide (x=y))) H
def zz {i j:Int}:decide (V.int i=V.int j)=(i == j):=by
 rw [k0];simp
def Dl {i j:Bool}:decide (V.bl i=V.bl j)=(i == j):=by
 rw [k0];simp
def zy {i j:Str}:decide (V.str i=V.str j)=(i == j):=by
 rw [k0];simp
def zB {i j:Array UInt8}:decide (V.ym i=V.ym j)=(i.toList == j.toList):=by
 rw [k0];cases i;cases j;simp
section
variable {X:Cx}{a b c:Expr}{ta tb tc:TE}{pos:Pos}
def bY {ag:List (Addr×Obj)}{σ:St}{H:Hp}{s:Shared}{Q:VK}{k k':Bool}(I:Inv X ag σ H s)(q:Q (.bl k) H)(e:k=k'):EP X ag σ Q (.bool k') s:=by
 subst e;exact⟨.bl k,H,I,rfl,q⟩
def i8:jS X (compareOp .Eq) Wz:=by
 intro ag s σ H x y v u Q I rx ry h;obtain⟨hs,q⟩:=h;cases x with
 | fJ =>
  cases rx;cases y with
  | fJ=>cases ry;exact PySem.EqNone.eq_none_none (bY I q (by simp))
  | bl j=>cases ry;exact PySem.EqNone.eq_none_bool (bY I q (by simp))
  | int j=>obtain⟨t',rfl⟩:=ry;exact PySem.EqNone.eq_none_int (bY I q (by simp))
  | str j=>obtain⟨t',rfl⟩:=ry;exact PySem.EqNone.eq_none_str (bY I q (by simp))
  | _=>exact absurd (show false=true from hs) cZ
 | bl i =>
  cases rx;cases y with
  | fJ=>cases ry;exact PySem.EqNone.eq_bool_none (bY I q (by simp))
  | bl j=>cases ry;exact eq_bool (bY I q Dl)
  | str j=>obtain⟨t',rfl⟩:=ry;exact PySem.EqMixed.eq_bool_str (bY I q (by simp))
  | _=>exact absurd (show false=true from hs) cZ
 | int i =>
  obtain⟨t,rfl⟩:=rx;cases y with
  | fJ=>cases ry;exact PySem.EqNone.eq_int_none (bY I q (by simp))
  | int j=>obtain⟨t',rfl⟩:=ry;exact eq_int (bY I q zz)
  | str j=>obtain⟨t',rfl⟩:=ry;exact PySem.EqMixed.eq_int_str (bY I q (by simp))
  | _=>exact absurd (show false=true from hs) cZ
 | str i =>
  obtain⟨t,rfl⟩:=rx;cases y with
  | fJ=>cases ry;exact PySem.EqNone.eq_str_none (bY I q (by simp))
  | bl j=>cases ry;exact PySem.EqMixed.eq_str_bool (bY I q (by simp))
  | int j=>obtain⟨t',rfl⟩:=ry;exact PySem.EqMixed.eq_str_int (bY I q (by simp))
  | str j=>obtain⟨t',rfl⟩:=ry;exact eq_str (bY I q zy)
  | _=>exact absurd (show false=true from hs) cZ
 | ym i =>
  obtain⟨t,rfl⟩:=rx;cases y with
  | ym j=>obtain⟨t',rfl⟩:=ry;exact PySem.W.eq_bytes (bY I q zB)
  | _=>exact absurd (show false=true from hs) cZ
 | _=>cases y <;> exact absurd (show false=true from hs) cZ
def F7:jS X (compareOp .NotEq) Wy:=by
 intro ag s σ H x y v u Q I rx ry h;obtain⟨hs,q⟩:=h;cases x with
 | fJ =>
  cases rx;cases y with
  | fJ=>cases ry;exact PySem.EqNone.ne_none_none (bY I q (by simp))
  | bl j=>cases ry;exact PySem.EqNone.ne_none_bool (bY I q (by simp))
  | int j=>obtain⟨t',rfl⟩:=ry;exact PySem.EqNone.ne_none_int (bY I q (by simp))
  | str j=>obtain⟨t',rfl⟩:=ry;exact PySem.EqNone.ne_none_str (bY I q (by simp))
  | _=>exact absurd (show false=true from hs) cZ
 | bl i =>
  cases rx;cases y with
  | fJ=>cases ry;exact PySem.EqNone.ne_bool_none (bY I q (by simp))
  | bl j=>cases ry;exact ne_bool (bY I q (congrArg not Dl))
  | str j=>obtain⟨t',rfl⟩:=ry;exact PySem.EqMixed.ne_bool_str (bY I q (by simp))
  | _=>exact absurd (show false=true from hs) cZ
 | int i =>
  obtain⟨t,rfl⟩:=rx;cases y with
  | fJ=>cases ry;exact PySem.EqNone.ne_int_none (bY I q (by simp))
  | int j=>obtain⟨t',rfl⟩:=ry;exact ne_int (bY I q (congrArg not zz))
  | str j=>obtain⟨t',rfl⟩:=ry;exact PySem.EqMixed.ne_int_str (bY I q (by simp))
  | _=>exact absurd (show false=true from hs) cZ
 | str i =>
  obtain⟨t,rfl⟩:=rx;cases y with
  | fJ=>cases ry;exact PySem.EqNone.ne_str_none (bY I q (by simp))
  | bl j=>cases ry;exact PySem.EqMixed.ne_str_bool (bY I q (by simp))
  | int j=>obtain⟨t',rfl⟩:=ry;exact PySem.EqMixed.ne_str_int (bY I q (by simp))
  | str j=>obtain⟨t',rfl⟩:=ry;exact ne_str (bY I q (congrArg not zy))
  | _=>exact absurd (show false=true from hs) cZ
 | ym i =>
  obtain⟨t,rfl⟩:=rx;cases y with
  | ym j=>obtain⟨t',rfl⟩:=ry;exact PySem.W.ne_bytes (bY I q (congrArg not zB))
  | _=>exact absurd (show false=true from hs) cZ
 | _=>cases y <;> exact absurd (show false=true from hs) cZ
def nQ:jS X (compareOp .Lt) (HU λi j=>.bl (decide (i < j))):=Ib λ_ _ _ _ _ _ _ q=>lt_int q
def Cf:jS X (compareOp .LtE) (HU λi j=>.bl (decide (i<=j))):=Ib λ_ _ _ _ _ _ _ q=>le_int q
def Ci:jS X (compareOp .Gt) (HU λi j=>.bl (decide (j < i))):=Ib λ_ _ _ _ _ _ _ q=>gt_int q
def jS.or {f:Value->Value->Sem Value}{r r':R2}(h:jS X f r)(h':jS X f r'):jS X f (λx y H Q=>r x y H Q\/r' x y H Q):=by
 intro ag s σ H x y v u Q I rx ry q;rcases q with q | q
 .exact h ag s σ H x y v u Q I rx ry q
 exact h' ag s σ H x y v u Q I rx ry q
def cw (b:Expr){op:CmpOp}(h:op≠.In:=by decide)(h2:op≠.NotIn:=by decide):behindInMarks op b=false:=by
 have e1:(op == CmpOp.In)=false:=by cases op <;> first | rfl | exact absurd rfl h
 have e2:(op == CmpOp.NotIn)=false:=by cases op <;> first | rfl | exact absurd rfl h2
 cases b <;> simp [behindInMarks,e1,e2]
def dF {op:CmpOp}{r:R2}(ho:jS X (compareOp op) r)(ha:PE X a ta)(hb:PE X b tb)(hm:behindInMarks op b=false):PE X (.Compare a [op] [b] pos) (NM r ta tb):=by
 intro ag s σ H Q I h;exact wpAny_Compare1 (Jx ha hb I h λv u s2 x y H2 I2 rx ry q=>ho ag s2 σ H2 x y v u Q I2 rx ry q) hm
def FQ (t:TE):TT:=λσ H Q=>t σ H λx H'=>XB x λk=>Q k H'
def br {op:CmpOp}{r:R2}(ho:jS X (compareOp op) r)(ha:PE X a ta)(hb:PE X b tb)(hm:behindInMarks op b=false):PT X (.Compare a [op] [b] pos) (FQ (NM r ta tb)):=by
 intro ag s σ H Q I h;refine wpAny_isTrue_Compare1 (cJ (ha ag s σ H _ I h) λv s1 ⟨x,H1,I1,r1,q1⟩=>cJ (hb ag s1 σ H1 _ I1 q1) λu s2 ⟨y,H2,I2,r2,q2⟩ =>
  cJ (ho ag s2 σ H2 x y v u _ I2 r1 r2 q2) λc s3 ⟨z,H3,I3,r3,k,e,q3⟩=>?_) hm
 subst e;cases r3;exact lh ⟨H3,I3,q3⟩
def Hj (r r':R2)(ta tb tc:TE):TE:=λσ H Q=>ta σ H λx H1=>tb σ H1 λy H2=>r x y H2 λz H3=>∃k,z=.bl k /\
 (if k=true then tc σ H3 λw' H4=>r' y w' H4 Q else Q (.bl false) H3)
def B4 {op Pt:CmpOp}{r r':R2}(ho:jS X (compareOp op) r)(CW:jS X (compareOp Pt) r')(ha:PE X a ta)(hb:PE X b tb)(hc:PE X c tc)
  (hm:lastMarks [op,Pt] [b,c]=false:=by with_unfolding_all rfl):PT X (.Compare a [op,Pt] [b,c] pos) (FQ (Hj r r' ta tb tc)):=by
 intro ag s σ H Q I h;refine isTrue_chain (cJ (ha ag s σ H _ I h) λv s1 ⟨x,H1,I1,r1,q1⟩=>test_link (cJ (hb ag s1 σ H1 _ I1 q1) λu s2 ⟨y,H2,I2,r2,q2⟩ =>
  cJ (ho ag s2 σ H2 x y v u _ I2 r1 r2 q2) λd s3 ⟨z,H3,I3,r3,k,e,q3⟩=>?_)) hm
 subst e;cases r3;refine lh ?_;cases k with
 | false =>
  obtain⟨k',e',q'⟩:=q3;cases e';exact ite_ff ⟨H3,I3,q'⟩
 | true =>
  refine ite_tt (test_last (cJ (hc ag s3 σ H3 _ I3 q3) λw' s4 bj=>?_));obtain⟨z',H4,I4,r4,q4⟩:=bj;refine cJ (CW ag s4 σ H4 y z' u w' _ I4 r2 r4 q4) λd' s5 bj=>?_;obtain⟨z2,H5,I5,r5,k2,e2,q5⟩:=bj;subst e2;cases r5;exact lh ⟨H5,I5,q5⟩
def DE (K:a8)(x:V)(H:Hp)(k:Bool):Prop :=
 match x with
 | .fJ=>k=false
 | .bl b=>k=b
 | .int i=>k=(i != 0)
 | .str y=>y.length<=sizeLine/\k=((y.length:Int) != 0)
 | .ym y=>y.size<=sizeLine/\k=((y.size:Int) != 0)
 | .ref p=>(∃xs,aH K H p xs/\k=!xs.isEmpty)\/(∃xs,aZ K H p xs/\k=!xs.isEmpty)\/∃kvs,H p=some (.dK kvs)/\k=!kvs.isEmpty
 | _=>False
def xV {κ:Type}{kvs:List (κ×V)}{vs:List (κ×Value)}(r:KV kvs vs):(!vs.isEmpty)=!kvs.isEmpty:=by
 cases r <;> rfl
def pP {xs:List V}{aU:List Value}(r:a9 xs aU):(!aU.toArray.isEmpty)=!xs.isEmpty:=by
 cases r <;> simp
def uq:(sizeLine:Nat) < 2 ^ 63:=by rw [sizeLine_eq];decide
def Hd:Ss X (λx H Q=>∃k,DE X.K x H k/\Q k H):=by
 intro ag s σ H x v Q I rx h;obtain⟨k,e,q⟩:=h;have hl:=uq;have hs:sizeLine=16777216:=sizeLine_eq;cases x with
 | fJ =>
  cases rx;have e':k=false:=e;subst e';exact truthy_none ⟨H,I,q⟩
 | bl b =>
  cases rx;have e':k=b:=e;subst e';exact lh ⟨H,I,q⟩
 | int i =>
  obtain⟨t,rfl⟩:=rx;have e':k=(i != 0):=e;subst e';exact PySem.P.truthy_int ⟨H,I,q⟩
 | str y =>
  obtain⟨t,rfl⟩:=rx;obtain⟨hy,e'⟩:y.length<=sizeLine/\k=((y.length:Int) != 0):=e;subst e';exact PySem.P.truthy_str ∅ ⟨H,I.tok _,q⟩
 | ym y =>
  obtain⟨t,rfl⟩:=rx;obtain⟨hy,e'⟩:y.size<=sizeLine/\k=((y.size:Int) != 0):=e;subst e';exact PySem.W.truthy_bytes ∅ ⟨H,I.tok _,q⟩
 | ref p =>
  cases rx;have e':(∃xs,aH X.K H p xs/\k=!xs.isEmpty)\/(∃xs,aZ X.K H p xs/\k=!xs.isEmpty)\/∃kvs,H p=some (.dK kvs)/\k=!kvs.isEmpty:=e;rcases e' with ⟨xs,hx,e'⟩ | ⟨xs,hx,e'⟩ | ⟨kvs,hx,e'⟩
  .subst e';obtain⟨aU,r,pl,hz⟩:=I.list hx;have bq:=r.length;exact wpAny_truthy_list pl.isList (by simp only [cM];omega) ⟨H,I.tok _,by rw [pP r];exact q⟩
  .subst e';obtain⟨aU,r,pl,hz⟩:=I.tuple hx;have bq:=r.length;exact truthy_tuple pl (by simp only [cM];omega) ⟨H,I.tok _,by rw [pP r];exact q⟩
  subst e';obtain⟨hz,hS,vs,r,m⟩:kvs.length<=sizeLine/\(p == sysModules)=false/\∃vs,KV kvs vs/\s.heap.DictOf (a7 X.prog X.w) p vs:=I.bS p _ hx;have bq:kvs.length=vs.length:=bB r;exact wpAny_truthy_dict hS m ∅ ⟨H,I.tok _,by rw [xV r];exact q⟩
 | _=>exact(show False from e).elim
def iz (ha:PE X a ta)(he:∀whole,isTrue a X.env whole=(do let v <-whole;standAt a.pos;holding [v] (truthy v))) :
  PT X a (λσ H Q=>ta σ H λx H'=>∃k,DE X.K x H' k/\Q k H'):=by
 intro ag s σ H Q I h;refine isTrue_plain (cJ (ha ag s σ H _ I h) λv s1 bj=>?_) (he _);obtain⟨x,H1,I1,r1,q1⟩:=bj;exact Hd ag s1 σ H1 x v Q I1 r1 q1
def eh:jS X (binaryOp .Add) (λx y H Q=>∃i j,x=.str i/\y=.str j/\i.length+j.length<=sizeLine/\Q (.str (i++j)) H):=by
 intro ag s σ H x y v u Q I rx ry h;obtain⟨i,j,rfl,rfl,hz,q⟩:=h;obtain⟨t,rfl⟩:=rx;obtain⟨t',rfl⟩:=ry;exact add_str (λt' tk=>⟨.str (i++j),H,I.tok _,⟨_,rfl⟩,q⟩) hz
def vals1 {x:V}{us:List Value}(r:a9 [x] us):∃u,us=[u]/\RelV x u:=by
 cases r with
 | cons r1 r2=>cases r2;exact⟨_,rfl,r1⟩
def vals2 {x y:V}{us:List Value}(r:a9 [x,y] us):∃u w',us=[u,w']/\RelV x u/\RelV y w':=by
 cases r with
 | cons r1 r2 =>
  cases r2 with
  | cons r3 r4=>cases r4;exact⟨_,_,rfl,r1,r3⟩
def rZ (hc:X.calm=true):ft X (.builtin "max") (λxs H Q=>∃i j,xs=[.int i,.int j]/\Q (.int (if j > i then j else i)) H):=by
 intro ag s σ H xs us Q I r h;obtain⟨i,j,rfl,q⟩:=h;obtain⟨u,w',rfl,⟨t,rfl⟩,⟨t',rfl⟩⟩:=vals2 r;refine max_two_ints (I.ok.hd hc) λh' tk k=>⟨_,H,I.kept k,?_,q⟩;by_cases hj:j > i
 .rw [ax hj,ax hj];exact⟨_,rfl⟩
 rw [ay hj,ay hj];exact⟨_,rfl⟩
def AM (hc:X.calm=true):ft X (.builtin "min") (λxs H Q=>∃i j,xs=[.int i,.int j]/\Q (.int (if j < i then j else i)) H):=by
 intro ag s σ H xs us Q I r h;obtain⟨i,j,rfl,q⟩:=h;obtain⟨u,w',rfl,⟨t,rfl⟩,⟨t',rfl⟩⟩:=vals2 r;refine min_two_ints (I.ok.hd hc) λh' tk k=>⟨_,H,I.kept k,?_,q⟩;by_cases hj:j < i
 .rw [ax hj,ax hj];exact⟨_,rfl⟩
 rw [ay hj,ay hj];exact⟨_,rfl⟩
def dJ:ft X (.type "str") (λxs H Q=>∃i,xs=[.int i]/\i.natAbs.log2 < 1920/\Q (.str (toString i)) H):=by
 intro ag s σ H xs us Q I r h;obtain⟨i,rfl,hz,q⟩:=h;obtain⟨u,rfl,t,rfl⟩:=vals1 r;exact PySem.P.str_of_int hz ⟨.str _,H,I.tok _,⟨_,rfl⟩,q⟩
end
structure yq (h:Heap)(x dx C:Addr)(mA:Str->Option Value):Prop where
 obj:h.get? x=some (PySem.W.instObj C dx)
 ns:h.Ns1 dx mA
 ne:dx≠x
def Af {h:Heap}{dx:Addr}{mA:Str->Option Value}(n:h.Ns1 dx mA):∃od,h.get? dx=some od/\∀name,PySem.W.lookIn name od=some (mA name):=by
 obtain⟨o,es,ep,ho,hd,hk,_,hm⟩:=n;refine⟨o,ho,λname=>?_⟩;have e:=hm name;unfold nsFind findBy at e;rw [<-Array.find?_toList] at e;unfold PySem.W.lookIn;rw [hd];dsimp only
 split
 .rename_i y q
  rw [q] at e;exact congrArg some e
 rename_i q
 rw [q] at e;have a:es.toList.any (·.refKey)=false:=by
  rw [List.any_eq_false];intro y hy;obtain⟨z,t,QI⟩:=hk y (Array.mem_toList_iff.mp hy);simp [DictEntry.refKey,QI]
 have a':¬es.toList.any (·.refKey)=true:=by rw [a];exact cZ
 rw [ay a'];exact congrArg some e
def yq.look {h:Heap}{x dx C:Addr}{mA:Str->Option Value}(I:yq h x dx C mA):∃od,PySem.W.InstAt h x (PySem.W.instObj C dx) C (some od)/\∀name,PySem.W.lookIn name od=some (mA name) :=
 let ⟨od,ho,hl⟩:=Af I.ns
 ⟨od,⟨I.obj,rfl,rfl,ho⟩,hl⟩
section
variable {prog:Program}{w:World}{A:Around}{E:Value->Shared->Prop}{s:Shared}{K:a8}{x dx C f:Addr}{mA:Str->Option Value}{name:Str}{v:Value}
def get_map {expr:Bool}{Q:Value->Shared->Prop}(X:K.In s.heap)(I:yq s.heap x dx C mA)(hg:PySem.W.plainGet K C name=true)(hh:PySem.W.hasDictIn K C=true)
  (ha:PySem.W.findIn K (.ref C) name=some none)(hv:mA name=some v)(Yl:PySem.W.handedIn v=true)(h:Q v { s with toks:=s.toks+1 }) :
  wpAny (model prog w) A (getAttr (.ref x) name expr) Q E s:=by
 obtain⟨od,J,hl⟩:=I.look;exact PySem.W.get_value X J (PySem.W.plainGet_of hg).1 (PySem.W.findObj_own hh ha rfl (by rw [hl,hv])) Yl h
def C7 {pl:Sem Bool}{Q:Value×List Value->Shared->Prop}(X:K.In s.heap)(I:yq s.heap x dx C mA)(hg:PySem.W.plainGet K C name=true)
  (hf:PySem.W.findIn K (.ref C) name=some (some (.ref f)))(ht:PySem.W.isFn K (.ref f)=true)(hv:mA name=none)(h:Q (.ref f,[.ref x]) s) :
  wpAny (model prog w) A (getMethod (.ref x) name pl) Q E s:=by
 obtain⟨od,J,hl⟩:=I.look;exact PySem.W.method_fn X J (PySem.W.plainGet_of hg).1 (PySem.W.plainGet_of hg).2 hf (beq_iff_eq.mp ht) (by show (PySem.W.lookIn name od).map (·.isSome)=some false;rw [hl,hv];rfl) h
def Ez {ns:List Str}{Q:Unit->Shared->Prop}(X:K.In s.heap)(I:yq s.heap x dx C mA)
  (hs:PySem.W.findIn K (.ref C) "__setattr__"=some (some (.builtin "object.__setattr__")))(hp:PySem.W.plainOver K C=true)(ht:PySem.W.takerIn K C name=some none)(hh:PySem.W.hasDictIn K C=true)
  (hw:PySem.Within mA ns)(hsz:ns.length<=sizeLine)
  (h:∀h',yq h' x dx C (λy=>if y=name then some v else mA y)->Heap.SameBut dx s.heap h'->Q () { s with heap:=h',toks:=s.toks+2 }) :
  wpAny (model prog w) A (setAttr (.ref x) name v) Q E s:=by
 obtain⟨od,J,hl⟩:=I.look;refine PySem.W.set_plain X J hs (PySem.W.osa_open (s:={ s with toks:=s.toks+1 }) (r:=none) X J hp ht λb=>?_);obtain⟨cd,hc,As⟩:=PySem.W.any_some hh;have hx:s.heap.get? x=some ⟨.ref C,some dx,.plain,#[]⟩:=I.obj;refine aE (aR (aE (aE (wpAny_loadPart hx (aE (PySem.W.Looks.here (s:={ s with toks:=s.toks+1 }) (PySem.W.looks_clsIn X hc) ?_))))));rw [As];refine aR (a:=some dx) (aE (aR (aE ?_)));refine wpAny_nsSet1 (s:={ s with toks:=s.toks+1 }) I.ns λh' CZ Ur=>?_;obtain⟨oD,esD,epD,YC,Y7,Za⟩:=CZ.count (PySem.Within.cons name v hw);refine aE (wpAny_lookBehind YC (by rw [Y7];exact pastItsLine_dict (fU Za (by rw [d6];omega))) ?_);exact aR (h _ ⟨(Ur.2 _ (fu I.ne)).trans I.obj,CZ,I.ne⟩ Ur)
def CI {R:Result->Shared->Prop}{vs:List Value}{kw:List (Str×Value)}(X:K.In s.heap)(hm:PySem.W.makesIn K C=true)
  (hi:PySem.W.findIn K (.ref C) "__init__"=some (some (.ref f)))(hf:PySem.W.typeIn K (.ref f)=some (.type "function"))
  (h:codeAny (model prog w) (A.under (.builtin "type.__call__" ⟨.ref C::vs,kw⟩)) (.call (.ref f) ⟨.ref (s.heap.objs.size+1)::vs,kw⟩) (PySem.W.InitBack (s.heap.objs.size+1) R)
   { s with heap:=(s.heap.push PySem.W.emptyDict).push (PySem.W.instObj C s.heap.objs.size) }) :
  codeAny (model prog w) A (.call (.ref C) ⟨vs,kw⟩) R s:=by
 obtain⟨hh,g,d,t,os⟩:=s;exact PySem.W.make_core (PySem.W.makes_of X hm) (PySem.W.looks_findIn X hi) (λself=>PySem.W.bind_fn X self hf) (.inl rfl) h
end
def dr (f:Str)(v:V):List (Str×V)->List (Str×V)
 | []=>[(f,v)]
 | (g,x)::r=>if g=f then (g,v)::r else (g,x)::dr f v r
theorem nV (f g:Str)(v:V):∀fs:List (Str×V),(dr f v fs).lookup g=if g=f then some v else fs.lookup g
 | []=>by
  show List.lookup g [(f,v)]=_;by_cases h:g=f
  .have hb:(g == f)=true:=beq_iff_eq.mpr h;simp only [List.lookup,hb,ax h]
  have hb:(g == f)=false:=jk.mpr h;simp only [List.lookup,hb,ay h]
 | (k,x)::r=>by
  have ih:=nV f g v r;rw [show dr f v ((k,x)::r)=(if k=f then (k,v)::r else (k,x)::dr f v r) from rfl];by_cases hk:k=f
  .rw [ax hk];by_cases h:g=k
   .have hb:(g == k)=true:=beq_iff_eq.mpr h;simp only [List.lookup,hb,ax (h.trans hk)]
   have hb:(g == k)=false:=jk.mpr h;simp only [List.lookup,hb,ay (λe:g=f=>h (e.trans hk.symm))]
  rw [ay hk];by_cases h:g=k
  .have hb:(g == k)=true:=beq_iff_eq.mpr h;simp only [List.lookup,hb,ay (λe:g=f=>hk (h.symm.trans e))]
  have hb:(g == k)=false:=jk.mpr h;simp only [List.lookup,hb];exact ih
theorem nh (f:Str)(v:V):∀fs:List (Str×V),f∈(dr f v fs).map (·.1)/\∀g,g∈fs.map (·.1)->g∈(dr f v fs).map (·.1)
 | []=>⟨by simp [dr],λg h=>by simp at h⟩
 | (k,x)::r=>by
  obtain⟨i1,i2⟩:=nh f v r;rw [show dr f v ((k,x)::r)=(if k=f then (k,v)::r else (k,x)::dr f v r) from rfl];by_cases hk:k=f
  .rw [ax hk];subst hk;exact⟨by simp,λg h=>by simpa using h⟩
  rw [ay hk];refine⟨?_,λg h=>?_⟩
  .rw [bZ];exact cz _ i1
  rw [bZ] at h ⊢;rcases bM.mp h with e | e
  .exact bM.mpr (.inl e)
  exact cz _ (i2 g e)
theorem nW (f:Str)(v:V):∀fs:List (Str×V),(dr f v fs).length<=fs.length+1
 | []=>by simp [dr]
 | (k,x)::r=>by
  have ih:=nW f v r;rw [show dr f v ((k,x)::r)=(if k=f then (k,v)::r else (k,x)::dr f v r) from rfl];by_cases hk:k=f
  .rw [ax hk,d6,d6];omega
  rw [ay hk,d6,d6];omega
def iZ.some_of {v:V}{o:Option Value}(r:iZ (some v) o):∃u,o=some u/\RelV v u:=by
 cases o with
 | none=>exact(show False from r).elim
 | some u=>exact⟨u,rfl,r⟩
def iZ.none_of {o:Option Value}(r:iZ none o):o=none:=by
 cases o with
 | none=>rfl
 | some u=>exact(show False from r).elim
def Au {v:V}{u:Value}(r:RelV v u):PySem.W.handedIn u=true:=by
 cases v with
 | fJ=>cases (show u=Value.none from r);rfl
 | bl b=>cases (show u=Value.bool b from r);rfl
 | int i=>obtain⟨t,e⟩:=(show ∃t,u=Value.int i t from r);cases e;rfl
 | str x=>obtain⟨t,e⟩:=(show ∃t,u=Value.str x t from r);cases e;rfl
 | ym b=>obtain⟨t,e⟩:=(show ∃t,u=Value.bytes b t from r);cases e;rfl
 | Jf b=>obtain⟨t,e⟩:=(show ∃t,u=Value.float b t from r);cases e;rfl
 | ref a=>cases (show u=Value.ref a from r);rfl
 | ty n=>cases (show u=Value.type n from r);rfl
section
variable {P:Program}{w:World}{H H':Hp}{h h':Heap}{a C dx:Addr}{fs Eg:List (Str×V)}
def ux (bS:j9 P w H h)(e:H a=some (.ins C dx fs)):∃mA,yq h a dx C mA/\(∀f,iZ (fs.lookup f) (mA f))/\PySem.Within mA (fs.map (·.1))/\fs.length<=1000/\H dx=some (.own a):=by
 obtain⟨d,z,ne,ob,mA,n,r,q⟩:=(show cv P w H h a (.ins C dx fs) from bS a _ e);exact⟨mA,⟨ob,n,ne⟩,r,q,z,d⟩
end
structure A0 (K:a8)(C:Addr):Prop where
 pg:PySem.W.plainGet K C Str.empty=true
 hd:PySem.W.hasDictIn K C=true
 po:PySem.W.plainOver K C=true
 sa:PySem.W.findIn K (.ref C) "__setattr__"=some (some (.builtin "object.__setattr__"))
def A0.get {K:a8}{C:Addr}(c:A0 K C)(f:Str):PySem.W.plainGet K C f=true:=c.pg
def du (K:a8)(C:Addr)(f:Str):Prop:=PySem.W.findIn K (.ref C) f=some none
def du.KG {K:a8}{C:Addr}{f:Str}(n:du K C f):PySem.W.takerIn K C f=some none:=by
 unfold PySem.W.takerIn;rw [show PySem.W.findIn K (.ref C) f=some none from n];rfl
structure Con (K:a8)(C:Addr)(f:Str)(v:V)(u:Value):Prop where
 at_:PySem.W.findIn K (.ref C) f=some (some u)
 rel:RelV v u
 get:PySem.W.specialIn K u "__get__"=some none
 cp:PySem.W.copiedNames.contains f=false
structure Meth (K:a8)(C:Addr)(m:Str)(f:Addr):Prop where
 at_:PySem.W.findIn K (.ref C) m=some (some (.ref f))
 fn:PySem.W.isFn K (.ref f)=true
 kp:PySem.W.keepIn K (.ref f)=true
section
variable {X:Cx}{ag:List (Addr×Obj)}{σ:St}{H:Hp}{s:Shared}{a C dx:Addr}{fs:List (Str×V)}{f:Str}{v:V}{A:Around}{E:Value->Shared->Prop}
def x9 {b:Bool}{Q:Value->Shared->Prop}(I:Inv X ag σ H s)(e:H a=some (.ins C dx fs))(c:A0 X.K C)(n:du X.K C f)(l:fs.lookup f=some v)
  (h:∀u s',Inv X ag σ H s'->RelV v u->Q u s'):wpAny (model X.prog X.w) A (getAttr (.ref a) f b) Q E s:=by
 obtain⟨mA,O,r,_,_,_⟩:=ux I.bS e;obtain⟨u,hu,ru⟩:=iZ.some_of (v:=v) (o:=mA f) (by rw [<-l];exact r f);exact get_map I.rH O (c.get f) c.hd n hu (Au ru) (h u _ (I.tok _) ru)
def pT {m:Str}{g:Addr}{pl:Sem Bool}{Q:Value×List Value->Shared->Prop}(I:Inv X ag σ H s)(e:H a=some (.ins C dx fs))(c:A0 X.K C)(k:Meth X.K C m g)(l:fs.lookup m=none)
  (h:Q (.ref g,[.ref a]) s):wpAny (model X.prog X.w) A (getMethod (.ref a) m pl) Q E s:=by
 obtain⟨mA,O,r,_,_,_⟩:=ux I.bS e;have hn:mA m=none:=iZ.none_of (by rw [<-l];exact r m);exact C7 I.rH O (c.get m) k.at_ k.fn hn h
def w6 {y:V}{u:Value}{Q:Unit->Shared->Prop}(I:Inv X ag σ H s)(e:H a=some (.ins C dx fs))(c:A0 X.K C)(n:du X.K C f)(hl:fs.length < 1000)(ry:RelV y u)
  (h:∀s',Inv X ag σ (upd H a (.ins C dx (dr f y fs))) s'->Q () s'):wpAny (model X.prog X.w) A (setAttr (.ref a) f u) Q E s:=by
 obtain⟨mA,O,r,wi,_,ho⟩:=ux I.bS e;have hz:(fs.map (·.1)).length<=sizeLine:=by rw [av,sizeLine_eq];omega
 refine Ez I.rH O c.sa c.po n.KG c.hd wi hz λh' O' sb=>h _ ?_;have hd:∃o,h'.get? dx=some o:=let ⟨o,_,_,e',_⟩:=O'.ns;⟨o,e'⟩;refine I.write (x:=a) (e:=dx) (by rw [e];exact True.intro) (.inr ho) (λb q hb z=>(sb.2 b hb).trans z) hd ?_;refine⟨by rw [ai O.ne];exact ho,?_,O.ne,O'.obj,_,O'.ns,λg=>?_,λg hg=>?_⟩
 .have:=nW f y fs;omega
 .show iZ ((dr f y fs).lookup g) (if g=f then some u else mA g);rw [nV];by_cases q:g=f
  .rw [ax q,ax q];exact ry
  rw [ay q,ay q];exact r g
 by_cases q:g=f
 .rw [q];exact(nh f y fs).1
 refine(nh f y fs).2 g (wi g λz=>hg ?_);show (if g=f then some u else mA g)=none;rw [ay q];exact z
def Inv.made (I:Inv X ag σ H s):Inv X ag σ (upd (upd H s.heap.objs.size (.own (s.heap.objs.size+1))) (s.heap.objs.size+1) (.ins C s.heap.objs.size []))
  { s with heap:=(s.heap.push PySem.W.emptyDict).push (PySem.W.instObj C s.heap.objs.size) }:=by
 have e1:(s.heap.push PySem.W.emptyDict).get? s.heap.objs.size=some PySem.W.emptyDict:=dq s.heap rfl;have e2:((s.heap.push PySem.W.emptyDict).push (PySem.W.instObj C s.heap.objs.size)).get? (s.heap.objs.size+1)=some (PySem.W.instObj C s.heap.objs.size):=by
  have:=dq (s.heap.push PySem.W.emptyDict) (o:=PySem.W.instObj C s.heap.objs.size) rfl;rwa [mJ] at this
 have e3:(s.heap.push PySem.W.emptyDict).Ns s.heap.objs.size (λ_=>none):=⟨PySem.W.emptyDict,#[],_,e1,rfl,(λe he=>absurd he (by simp)),λ_=>rfl⟩;have I1:=I.laid (a:=s.heap.objs.size) (o:=.own (s.heap.objs.size+1)) (h':=s.heap.push PySem.W.emptyDict) (t':=s.toks) (λb u q=>bW _ q) (aG _) ⟨_,e1⟩;refine I1.laid (a:=s.heap.objs.size+1) (o:=.ins C s.heap.objs.size []) (t':=s.toks) (λb u q=>bW _ q) (Nat.le_of_eq (mJ _ _)) ?_;have ne:s.heap.objs.size≠s.heap.objs.size+1:=bQ (nK _);refine⟨by rw [ai ne,ae],gN _,ne,e2,λ_=>none,(Heap.Ns1.of_empty e3).at λo q=>bW _ q,λ_=>True.intro,λy hy=>absurd rfl hy⟩
def Fz {prog:Program}{w:World}{env:Env}{e:Expr}{f:Str}{pos:Pos}{s:Shared}{Q:Value->Shared->Prop}(hb:attributeBase e f env (eval e env)=eval e env)
  (h:wpAny (model prog w) A (eval e env) (λo s₁=>wpAny (model prog w) A (getAttr o f true) Q E s₁) E s):wpAny (model prog w) A (eval (.Attribute e f pos) env) Q E s :=
 Attribute_any_ h (by rw [arm_eval_Attribute,hb])
end
inductive Nm (K:a8)(H:Hp)(f:Str)(x:V)(R:V->Prop):Prop
|mk(a C dx:Addr)(fs:List (Str×V))(v:V)(e:x=.ref a)(h:H a=some (.ins C dx fs))(c:A0 K C)(n:du K C f)(l:fs.lookup f=some v)(q:R v)
inductive VI (K:a8)(H:Hp)(f:Str)(x:V)(R:Addr->Addr->Addr->List (Str×V)->Prop):Prop
|mk(a C dx:Addr)(fs:List (Str×V))(e:x=.ref a)(h:H a=some (.ins C dx fs))(c:A0 K C)(n:du K C f)(l:fs.length < 1000)(q:R a C dx fs)
def O5 (K:a8)(ta:TE)(f:Str):TE:=λσ H Q=>ta σ H λx H1=>Nm K H1 f x λv=>Q v H1
def Pc (K:a8)(ta tv:TE)(f:Str):TS:=λD σ H=>tv σ H λy H1=>ta σ H1 λx H2=>VI K H2 f x λa C dx fs=>D.nx σ (upd H2 a (.ins C dx (dr f y fs)))
section
variable {X:Cx}{o e value:Expr}{f:Str}{pos pos' tK:Pos}{ta tv:TE}
def dD (he:PE X e ta)(hb:attributeBase e f X.env (eval e X.env)=eval e X.env):PE X (.Attribute e f pos) (O5 X.K ta f):=by
 intro ag s σ H Q I h;refine Fz hb (cJ (he ag s σ H _ I h) λu s1 bj=>?_);obtain⟨x,H1,I1,rx,a,C,dx,fs,v,ex,ea,c,n,l,q⟩:=bj;subst ex;obtain rfl:u=Value.ref a:=rx;exact x9 I1 ea c n l λu' s2 I2 ru=>⟨v,H1,I2,ru,q⟩
def fY (ha:PE X o ta)(hv:PE X value tv)(hs:swapsWith value (some (.Attribute o f pos')) pos.line X.env=pure false):PS X (.Assign [.Attribute o f pos'] value pos) (Pc X.K ta tv f):=by
 intro ag s σ H D I h;refine plainObj_wpAny_Assign_Attribute (cJ (hv ag s σ H _ I h) λu s1 bj=>?_) hs;obtain⟨y,H1,I1,ry,q⟩:=bj;refine cJ (ha ag s1 σ H1 _ I1 q) λov s2 bj=>?_;obtain⟨x,H2,I2,rx,a,C,dx,fs,ex,ea,c,n,l,q2⟩:=bj;subst ex;obtain rfl:ov=Value.ref a:=rx;exact w6 I2 ea c n l ry λs3 I3=>⟨σ,_,I3,q2⟩
def Gb {pl:Sem Bool}{m:Str}{apos:Pos}{args:List Expr}{ag:List (Addr×Obj)}{s:Shared}{σ:St}{H:Hp}{Q:Value->Shared->Prop}{te:TE}(he:PE X e te)(I:Inv X ag σ H s)
  (h:te σ H λx H1=>∃a C dx fs g,x=.ref a/\H1 a=some (.ins C dx fs)/\A0 X.K C/\Meth X.K C m g/\fs.lookup m=none /\
   ∀s1,Inv X ag σ H1 s1->wpAny (model X.prog X.w) X.A (callWith pos (.ref g) [.ref a] (backTo pos (starEach args X.env)) (backToKw pos (keywordEach [] X.env))) Q X.xe s1)
  (ht:eval (.Call (.Attribute e m apos) args [] pos) X.env=(do
   let ov <-eval e X.env
   standAt apos.atName
   let (f,first) <-holding [ov] (getMethod ov m pl)
   callWith pos f first (backTo pos (starEach args X.env)) (backToKw pos (keywordEach [] X.env)))) :
  wpAny (model X.prog X.w) X.A (eval (.Call (.Attribute e m apos) args [] pos) X.env) Q X.xe s:=by
 refine PySem.W.methodCall_KW (pl:=pl) (cJ (he ag s σ H _ I h) λu s1 bj=>?_) ht;obtain⟨x,H1,I1,rx,a,C,dx,fs,g,ex,ea,c,k,l,q⟩:=bj;subst ex;obtain rfl:u=Value.ref a:=rx;exact pT I1 ea c k l (q s1 I1)
end
section
variable {X:Cx}{ag:List (Addr×Obj)}{σ:St}{H:Hp}{s:Shared}{A:Around}{E:Value->Shared->Prop}{Q:Value->Shared->Prop}{c:Value}{b:Bool}
inductive qr (K:a8)(H:Hp):V->Value->Prop where
 | fJ:qr K H .fJ (.type "NoneType")
 | bl (x:Bool):qr K H (.bl x) (.type "bool")
 | int (i:Int):qr K H (.int i) (.type "int")
 | str (x:Str):qr K H (.str x) (.type "str")
 | Jf (x:UInt64):qr K H (.Jf x) (.type "float")
 | lst {a:Addr}{xs:List V}(e:H a=some (.lst xs)):qr K H (.ref a) (.type "list")
 | je {a:Addr}{o:Obj}{xs:List V}(e:H a=some (.je o (.lst xs))):qr K H (.ref a) (.type "list")
 | tup {a:Addr}{xs:List V}(e:H a=some (.tup xs)):qr K H (.ref a) (.type "tuple")
 | dK {a:Addr}{kvs:List (aK×V)}(e:H a=some (.dK kvs)):qr K H (.ref a) (.type "dict")
 | dT {a:Addr}{kvs:List (List aK×V)}(e:H a=some (.dT kvs)):qr K H (.ref a) (.type "dict")
 | ins {a C dx:Addr}{fs:List (Str×V)}(e:H a=some (.ins C dx fs))(cl:A0 K C)(ha:PySem.W.findIn K (.ref C) "__class__"=some (some (.builtin "object.__class__")))
   (hn:PySem.W.specialIn K (.builtin "object.__class__") "__get__"=some (some (.builtin "getset_descriptor.__get__")))(htk:PySem.W.takesIn K (.builtin "object.__class__")=some true)
   (hm:PySem.W.mroIn K C (.type "object")=some true):qr K H (.ref a) (.ref C)
end
structure eI (k:Nat)(A:Around):Prop where
 hd:A.handled=none
 dp:A.depth+3 * k+5 < recursionLimit
 un:A.units+16 * k+200 < cLine
def eI.mono {j k:Nat}{A:Around}(r:eI k A)(h:j<=k):eI j A:=⟨r.hd,by have:=r.dp;omega,by have:=r.un;omega⟩
theorem eI.deeper {k:Nat}{A:Around}(r:eI (k+1) A)(env:Env):eI k (A.deeper env) :=
 ⟨r.hd,by have:=r.dp;show A.depth+1+3 * k+5 < _;omega,by have:=r.un;show A.units+3+16 * k+200 < _;omega⟩
theorem eI.in1 {k:Nat}{A:Around}(r:eI (k+1) A):eI k A.in1 :=
 ⟨r.hd,by have:=r.dp;show A.depth+3 * k+5 < _;omega,by have:=r.un;show A.units+1+16 * k+200 < _;omega⟩
def xO {A:Around}{C:Addr}{us:List Value}{kw:List (Str×Value)}:(A.under (.builtin "type.__call__" ⟨.ref C::us,kw⟩)).depth=A.depth+1:=by
 first | rfl | simp [Around.under,Code.weight,Code.isCreation,Code.isGuard,Code.isCaller,Code.frames,Code.isFrame,guardIds]
def xM {A:Around}{C:Addr}{us:List Value}{kw:List (Str×Value)}:(A.under (.builtin "type.__call__" ⟨.ref C::us,kw⟩)).units=A.units+1:=by
 first | rfl | simp [Around.under,Code.cUnits,Code.frames,Code.isFrame]
def eI.make {k:Nat}{A:Around}(r:eI (k+1) A)(C:Addr)(us:List Value)(kw:List (Str×Value)):eI k (A.under (.builtin "type.__call__" ⟨.ref C::us,kw⟩)) :=
 ⟨r.hd,by have:=r.dp;rw [xO];omega,by have:=r.un;rw [xM];omega⟩
theorem eI.depth {k:Nat}{A:Around}(r:eI k A):A.depth < recursionLimit:=by have:=r.dp;omega
theorem eI.units {k:Nat}{A:Around}(r:eI k A):A.units+64 < cLine:=by have:=r.un;omega
def o8:TA:=λ_ H Q=>Q [] H
def fV (ta:TE)(tr:TA):TA:=λσ H Q=>ta σ H λx H1=>tr σ H1 λxs H2=>Q (x::xs) H2
section
variable {X:Cx}{e:Expr}{es:List Expr}{te:TE}{t:TA}{pos:Pos}
def aj:PA X [] o8:=λ_ _ _ _ H Q I h=>Calls.spliced_nil ⟨[],H,I,.nil,h⟩
def ab (ha:PE X e te)(hr:PA X es t)(hs:starEach (e::es) X.env=(false,eval e X.env)::starEach es X.env:=by rfl):PA X (e::es) (fV te t):=by
 intro pos ag s σ H Q I h;rw [hs];show wpAny _ _ (spliced ((false,eval e X.env)::backTo pos (starEach es X.env))) _ _ s;refine qP (cJ (ha ag s σ H _ I h) λu s1 bj=>?_);obtain⟨x,H1,I1,r1,q1⟩:=bj;refine cJ (hr pos ag s1 σ H1 _ I1 q1) λus s2 bj=>?_;obtain⟨xs,H2,I2,r2,q2⟩:=bj;exact⟨x::xs,H2,I2,.cons r1 r2,q2⟩
def qD (t:TA):TE:=λσ H Q=>t σ H λxs H1=>xs.length<=sizeLine/\∀p,H1 p=none->Q (.ref p) (upd H1 p (.tup xs))
def KQ (t:TA):TE:=λσ H Q=>t σ H λxs H1=>xs.length<=sizeLine/\∀p,H1 p=none->Q (.ref p) (upd H1 p (.lst xs))
def bD {x1}(h:PA X es t):PE X (.Tuple es x1 pos) (qD t):=by
 intro ag s σ H Q I hq;refine wpAny_Tuple_spliced (cJ (h pos ag s σ H _ I hq) λus s1 bj=>?_);obtain⟨xs,H1,I1,r,z,q⟩:=bj;refine⟨by rw [<-r.length];exact z,?_⟩;have hf:H1 s1.heap.objs.size=none:=I1.bS.fresh (aG _);refine⟨.ref s1.heap.objs.size,upd H1 s1.heap.objs.size (.tup xs),I1.laid (t':=s1.toks) (λb u e=>bW _ e) (aG _) ?_,rfl,q _ hf⟩;exact⟨z,us,r,⟨_,dq _ rfl,rfl,_,rfl⟩⟩
def bR (h:PA X es t):PE X (.List es pos) (KQ t):=by
 intro ag s σ H Q I hq;refine wpAny_List_spliced (cJ (h pos ag s σ H _ I hq) λus s1 bj=>?_);obtain⟨xs,H1,I1,r,z,q⟩:=bj;refine⟨by rw [<-r.length];exact z,?_⟩;have hf:H1 s1.heap.objs.size=none:=I1.bS.fresh (aG _);refine⟨.ref s1.heap.objs.size,upd H1 s1.heap.objs.size (.lst xs),I1.laid (t':=s1.toks) (λb u e=>bW _ e) (aG _) ?_,rfl,q _ hf⟩;exact⟨z,us,0,r,dq _ rfl⟩
end
abbrev Sp:=List V->Hp->VK->XK->Prop
abbrev wI:=List Env->Hp->Shared->XK->Value->Shared->Prop
structure oq (P:Program)(w:World)(K:a8)(mg:Str->Option Value)(base:Heap)(A:Around)(outer:List Env)(s:Shared)(H:Hp):Prop where
 frames:A.frames=some outer
 mod:Mod K mg base
 bs:∀b o,base.get? b=some o->s.heap.get? b=some o/\H b=none
 El:base.objs.size<=s.heap.objs.size
 nv:s.heap.FunFrames base outer
 Gv:∀b∈Aw outer,H b=none
 bS:j9 P w H s.heap
 bare:AllBare s.gens
def CE (outer:List Env)(P:Program)(w:World)(H:Hp)(s:Shared)(Q:VK)(u:Value)(s':Shared):Prop :=
 ∃v H',s'.os=s.os/\AllBare s'.gens/\Un (Aw outer) [] H H' s.heap s'.heap/\j9 P w H' s'.heap/\RelV v u/\Q v H'
def CR (CX:wI)(outer:List Env)(P:Program)(w:World)(H:Hp)(s:Shared)(Q:VK)(E:XK)(r:Result)(s':Shared):Prop :=
 match r with
 | .ok (.ret u)=>CE outer P w H s Q u s'
 | .ok _=>False
 | .error e=>CX outer H s E e s'
structure bN (P:Program)(w:World)(K:a8)(mg:Str->Option Value)(base:Heap)(CX:wI) (k:Nat)(f:Addr)(fd:FuncData) (ps:List Str)(sp:Sp):Prop where
 len:∀vs H Q E,sp vs H Q E->vs.length=ps.length
 run:∀(A:Around)(outer:List Env)(s:Shared)(H:Hp)(args:Args)(us:List Value)(vs:List V)(Q:VK)(E:XK),eI k A->oq P w K mg base A outer s H->BindsTo s fd args (ps.zip us)->a9 vs us->sp vs H Q E ->
  codeAny (model P w) A (.call (.ref f) args) (CR CX outer P w H s Q E) s
theorem bN.mono {P:Program}{w:World}{K:a8}{mg:Str->Option Value}{base:Heap}{CX:wI}{j k:Nat}{f:Addr}{fd:FuncData}{ps:List Str}{sp:Sp}(F:bN P w K mg base CX j f fd ps sp)(h:j<=k) :
  bN P w K mg base CX k f fd ps sp:=⟨F.len,λA outer s H args us vs Q E hr=>F.run A outer s H args us vs Q E (hr.mono h)⟩
def bN.imp {P:Program}{w:World}{K:a8}{mg:Str->Option Value}{base:Heap}{CX:wI}{k:Nat}{f:Addr}{fd:FuncData}{ps:List Str}{sp Ta:Sp}(F:bN P w K mg base CX k f fd ps sp)
  (h:∀vs H Q E,Ta vs H Q E->sp vs H Q E):bN P w K mg base CX k f fd ps Ta :=
 ⟨λvs H Q E q=>F.len vs H Q E (h _ _ _ _ q),λA outer s H args us vs Q E hr he hb hv hs=>F.run A outer s H args us vs Q E hr he hb hv (h _ _ _ _ hs)⟩
def oq.make {P:Program}{w:World}{K:a8}{mg:Str->Option Value}{base:Heap}{A:Around}{outer:List Env}{s:Shared}{H:Hp}(e:oq P w K mg base A outer s H)(C:Addr)(us:List Value)(kw:List (Str×Value)) :
  oq P w K mg base (A.under (.builtin "type.__call__" ⟨.ref C::us,kw⟩)) outer s H:=⟨by first | exact e.frames | (simpa [Around.under,Code.envs,Code.isFrame,pushEnvs] using e.frames),e.mod,e.bs,e.El,e.nv,e.Gv,e.bS,e.bare⟩
theorem oq.in1 {P:Program}{w:World}{K:a8}{mg:Str->Option Value}{base:Heap}{A:Around}{outer:List Env}{s:Shared}{H:Hp}(e:oq P w K mg base A outer s H) :
  oq P w K mg base A.in1 outer s H:=⟨e.frames,e.mod,e.bs,e.El,e.nv,e.Gv,e.bS,e.bare⟩
section
variable {X:Cx}{ag:List (Addr×Obj)}{σ:St}{H:Hp}{s s':Shared}
def Inv.Jh (I:Inv X ag σ H s):oq X.prog X.w X.K X.mg X.base X.A X.stack s H :=
 ⟨I.ok.frames,I.ok.mod,I.bs,fU I.ok.El I.sz,I.stack,I.yJ,I.bS,I.bare⟩
def Inv.after {Q:VK}{u:Value}(I:Inv X ag σ H s)(h:CE X.stack X.prog X.w H s Q u s'):EP X ag σ Q u s':=by
 obtain⟨v,H',os,bare,un,bS,r,q⟩:=h;obtain⟨hh,g,d,t,WI⟩:=s';obtain rfl:WI=s.os:=os;exact⟨v,H',I.call (h':=hh) (g':=g) (d':=d) (t':=t) (ch:=[]) un bS bare (λb z=>absurd z (by simp)),r,q⟩
end
def FR (sp:Sp)(dvs:List V)(E:XK)(t:TA):TE:=λσ H Q=>t σ H λvs H1=>sp (vs++dvs) H1 Q E
def KO (C:Addr)(m:Str)(sp:Sp)(dvs:List V)(E:XK)(ta:TE)(t:TA):TE:=λσ H Q=>ta σ H λx H1=>∃a dx fs,x=.ref a/\H1 a=some (.ins C dx fs)/\fs.lookup m=none /\
 t σ H1 λvs H2=>sp (x::(vs++dvs)) H2 Q E
def KP (C:Addr)(sp:Sp)(dvs:List V)(E:XK)(t:TA):TE:=λσ H Q=>t σ H λvs H1=>∀x dx,H1 x=none->H1 dx=none->dx≠x ->
 sp (.ref x::(vs++dvs)) (upd (upd H1 dx (.own x)) x (.ins C dx [])) (λv H2=>v=.fJ/\Q (.ref x) H2) E
def Binds (K:a8)(fd:FuncData) (ps:List Str)(ds:List Value):Prop :=
 ∀(s:Shared)(us:List Value),K.In s.heap->(us++ds).length=ps.length->BindsTo s fd ⟨us,[]⟩ (ps.zip (us++ds))
def Binds.all {K:a8}{fd:FuncData}{ps:List Str}(h:∀us:List Value,us.length=ps.length->bindArgs fd ⟨us,[]⟩=pure (ps.zip us)):Binds K fd ps []:=λs us _ hl=>by
 rw [iq] at hl ⊢;exact .of_eq (h us hl)
def Passes (CX:wI)(X:Cx)(E:XK):Prop:=∀(ag:List (Addr×Obj))(σ:St)(H:Hp)(s:Shared)(e:Value)(s':Shared),Inv X ag σ H s->CX X.stack H s E e s'->X.xe e s'
section
variable {X:Cx}{CX:wI}{k:Nat}{f C:Addr}{fd:FuncData}{ps:List Str}{sp:Sp}{dvs:List V}{ds:List Value}{E:XK}{x m:Str}{p pos apos:Pos}{e o:Expr}{es:List Expr}{ta:TE}{t:TA}
def BZ {ag:List (Addr×Obj)}{σ:St}{H:Hp}{s:Shared}{Q:VK}{us:List Value}{vs:List V}(F:bN X.prog X.w X.K X.mg X.base CX k f fd ps sp)(hr:eI k X.A)(hb:Binds X.K fd ps ds)(hd:a9 dvs ds)(hx:Passes CX X E)
  (I:Inv X ag σ H s)(r:a9 vs us)(h:sp (vs++dvs) H Q E):wpAny (model X.prog X.w) X.A (call (.ref f) us) (EP X ag σ Q) X.xe s:=by
 have r2:a9 (vs++dvs) (us++ds):=r.append hd;have hl:(us++ds).length=ps.length:=by rw [<-r2.length];exact F.len _ _ _ _ h
 refine wpAny_call (mC (F.run X.A X.stack s H ⟨us,[]⟩ (us++ds) (vs++dvs) Q E hr I.Jh (hb s us I.rH hl) r2 h) λr s' hq=>?_);cases r with
 | error e=>exact hx ag σ H s e s' I hq
 | ok fl =>
  cases fl with
  | ret u=>exact I.after hq
  | next=>exact False.elim hq
  | brk=>exact False.elim hq
  | cont=>exact False.elim hq
def ES (F:bN X.prog X.w X.K X.mg X.base CX k f fd ps sp)(hr:eI k X.A)(hg:Gl X x)(hm:X.mg x=some (.ref f))(hk:PySem.W.keepIn X.K (.ref f)=true)(hb:Binds X.K fd ps ds)(hd:a9 dvs ds)(hx:Passes CX X E)
  (ha:PA X (e::es) t)(Aq:(x == ("__debug__":Str))=false:=by decide)(he:starEach (e::es) X.env=(false,eval e X.env)::starEach es X.env:=by rfl)(zj:(backTo pos (starEach es X.env)).any (·.1)=false:=by rfl) :
  PE X (.Call (.Name x p) (e::es) [] pos) (FR sp dvs E t):=by
 intro ag s σ H Q I h;refine oK (uu I hg hm ?_ Aq);refine PySem.W.callWith_K (h₀:=X.base) I.ok.mod.LS hk (cJ (ha pos ag s σ H _ I h) λus s1 bj=>?_) he zj;obtain⟨vs,H1,I1,r,q⟩:=bj;refine⟨I1.rH,?_⟩;exact BZ F hr hb hd hx I1 r q
def zc {pl:Sem Bool}(he:PE X o ta)(c:A0 X.K C)(hm:Meth X.K C m f)(F:bN X.prog X.w X.K X.mg X.base CX k f fd ps sp)(hr:eI k X.A)(hb:Binds X.K fd ps ds)(hd:a9 dvs ds)(hx:Passes CX X E)(ha:PA X (e::es) t)
  (wA:starEach (e::es) X.env=(false,eval e X.env)::starEach es X.env:=by rfl)(zj:(backTo pos (starEach es X.env)).any (·.1)=false:=by rfl)
  (ht:eval (.Call (.Attribute o m apos) (e::es) [] pos) X.env=(do
   let ov <-eval o X.env
   standAt apos.atName
   let (f,first) <-holding [ov] (getMethod ov m pl)
   callWith pos f first (backTo pos (starEach (e::es) X.env)) (backToKw pos (keywordEach [] X.env))):=by rfl) :
  PE X (.Call (.Attribute o m apos) (e::es) [] pos) (KO C m sp dvs E ta t):=by
 intro ag s σ H Q I h;refine PySem.W.methodCall_KW (pl:=pl) (cJ (he ag s σ H _ I h) λu s1 bj=>?_) ht;obtain⟨x,H1,I1,rx,a,dx,fs,ex,ea,l,q⟩:=bj;subst ex;obtain rfl:u=Value.ref a:=rx;refine pT I1 ea c hm l ?_;refine PySem.W.callWith_K (first:=[.ref a]) (h₀:=X.base) I.ok.mod.LS hm.kp (cJ (ha pos ag s1 σ H1 _ I1 q) λus s2 bj=>?_) wA zj;obtain⟨vs,H2,I2,r,q2⟩:=bj;refine⟨I2.rH,?_⟩;exact BZ (us:=.ref a::us) (vs:=.ref a::vs) F hr hb hd hx I2 (.cons rfl r) q2
structure Mk (K:a8)(C f:Addr):Prop where
 makes:PySem.W.makesIn K C=true
 init:PySem.W.findIn K (.ref C) "__init__"=some (some (.ref f))
 fn:PySem.W.isFn K (.ref f)=true
 kp:PySem.W.keepIn K (.ref C)=true
def BY {ag:List (Addr×Obj)}{σ:St}{H:Hp}{s:Shared}{Q:VK}{us:List Value}{vs:List V}(M:Mk X.K C f)(F:bN X.prog X.w X.K X.mg X.base CX k f fd ps sp)(hr:eI (k+1) X.A)(hb:Binds X.K fd ps ds)(hd:a9 dvs ds)
  (hx:Passes CX X E)(I:Inv X ag σ H s)(r:a9 vs us)
  (h:∀x dx,H x=none->H dx=none->dx≠x->sp (.ref x::(vs++dvs)) (upd (upd H dx (.own x)) x (.ins C dx [])) (λv H2=>v=.fJ/\Q (.ref x) H2) E) :
  wpAny (model X.prog X.w) X.A (call (.ref C) us) (EP X ag σ Q) X.xe s:=by
 have hq:=h (s.heap.objs.size+1) s.heap.objs.size (I.bS.fresh (jl _)) (I.bS.fresh (aG _)) (bQ (nK _));have I2:=Inv.made (C:=C) I;have r2:a9 (V.ref (s.heap.objs.size+1)::(vs++dvs)) (Value.ref (s.heap.objs.size+1)::(us++ds)):=.cons rfl (r.append hd);have hl:(Value.ref (s.heap.objs.size+1)::us++ds).length=ps.length:=by
  have e:=r2.length;rw [F.len _ _ _ _ hq] at e;exact e.symm
 refine wpAny_call (CI (f:=f) I.rH M.makes M.init (beq_iff_eq.mp M.fn) (mC (F.run _ X.stack _ _ ⟨Value.ref (s.heap.objs.size+1)::us,[]⟩ (Value.ref (s.heap.objs.size+1)::(us++ds)) _ _ E (hr.make C us [])
  (I2.Jh.make C us []) (hb _ (Value.ref (s.heap.objs.size+1)::us) I2.rH hl) r2 hq) λr s' Ml=>?_))
 cases r with
 | error e=>exact hx ag σ _ _ e s' I2 Ml
 | ok fl =>
  cases fl with
  | ret u =>
   obtain⟨v,H',I3,rv,ev,q3⟩:=I2.after Ml;subst ev;exact⟨rv,⟨V.ref (s.heap.objs.size+1),H',I3,rfl,q3⟩⟩
  | next=>exact False.elim Ml
  | brk=>exact False.elim Ml
  | cont=>exact False.elim Ml
def uf (M:Mk X.K C f)(F:bN X.prog X.w X.K X.mg X.base CX k f fd ps sp)(hr:eI (k+1) X.A)(hg:Gl X x)(hm:X.mg x=some (.ref C))(hb:Binds X.K fd ps ds)(hd:a9 dvs ds)(hx:Passes CX X E)
  (ha:PA X (e::es) t)(Aq:(x == ("__debug__":Str))=false:=by decide)(he:starEach (e::es) X.env=(false,eval e X.env)::starEach es X.env:=by rfl)(zj:(backTo pos (starEach es X.env)).any (·.1)=false:=by rfl) :
  PE X (.Call (.Name x p) (e::es) [] pos) (KP C sp dvs E t):=by
 intro ag s σ H Q I h;refine oK (uu I hg hm ?_ Aq);refine PySem.W.callWith_K (h₀:=X.base) I.ok.mod.LS M.kp (cJ (ha pos ag s σ H _ I h) λus s1 bj=>?_) he zj;obtain⟨vs,H1,I1,r,q⟩:=bj;refine⟨I1.rH,?_⟩;exact BY M F hr hb hd hx I1 r q
end
section
variable {X:Cx}{CX:wI}{k:Nat}{f C:Addr}{fd:FuncData}{ps ks:List Str}{sp:Sp}{E:XK}{x m:Str}{p pos apos X6:Pos}{e o:Expr}{es:List Expr}{kws:List Keyword}{te ta:TE}{t tk:TA}{nm:Option Str}
structure Sw (K:a8)(fd:FuncData) (ps ks:List Str)(g:List Value->List Value->List Value)(gV:List V->List V->List V):Prop where
 to:∀(s:Shared)(us ws:List Value),K.In s.heap->(g us ws).length=ps.length->BindsTo s fd ⟨us,ks.zip ws⟩ (ps.zip (g us ws))
 rel:∀{vs:List V}{us:List Value}{zs:List V}{ws:List Value},a9 vs us->a9 zs ws->a9 (gV vs zs) (g us ws)
variable {g:List Value->List Value->List Value}{gV:List V->List V->List V}
end
structure aN (N P:List Str)(sc:Scope):Prop where
 kind:sc.kind=.function
 co:sc.isCoroutine=false
 gen:sc.isGenerator=false
 nd:N.Nodup
 pre:N.take P.length=P
 par:∀x∈P,sc.names.lookup x=some .local\/sc.names.lookup x=some .cell
 Ii:∀y∈sc.names,y.2≠.free
def iY {N P:List Str}{sc:Scope}(a:sc.kind=.function)(b:sc.isCoroutine=false)(c:sc.isGenerator=false)(d:N.take P.length=P)(e:N.Nodup/\(∀x∈P,sc.names.lookup x=some .local\/sc.names.lookup x=some .cell)/\∀y∈sc.names,y.2≠.free):aN N P sc:=⟨a,b,c,e.1,d,e.2.1,e.2.2⟩
theorem sf {kindOf:Str->Option NameKind}{x:Str}:∀{binds:List (Str×Value)}{m:Str->Option Value},(∀v,(x,v)∉binds)->bindL kindOf binds m x=m x
 | [],_,_=>rfl
 | (n,v)::r,m,h=>by
  unfold bindL;rw [sf λw hw=>h w (cz _ hw)]
  split
  .have:x≠n:=by rintro rfl;exact h v b0
   simp [this]
  rfl
theorem sj {kindOf:Str->Option NameKind}{x:Str}:∀{binds:List (Str×Value)}{m:Str->Option Value},(∀v,(x,v)∉binds)->bindC kindOf binds m x=m x
 | [],_,_=>rfl
 | (n,v)::r,m,h=>by
  unfold bindC;rw [sj λw hw=>h w (cz _ hw)]
  split
  .rfl
  have:x≠n:=by rintro rfl;exact h v b0
  simp [this]
theorem si {kindOf:Str->Option NameKind}{x:Str}{v:Value}:∀{P:List Str}{vs:List Value}{i:Nat}{m:Str->Option Value},P.Nodup->P[i]?=some x->vs[i]?=some v->kindOf x=some .local ->
  bindL kindOf (P.zip vs) m x=some v
 | [],_,_,_,_,h,_,_=>by simp at h
 | _::_,[],_,_,_,_,h,_=>by simp at h
 | p::P,w::vs,0,m,nd,h1,h2,hk=>by
  simp at h1 h2;subst h1;subst h2;show bindL kindOf ((p,w)::P.zip vs) m p=_;unfold bindL;rw [sf λv hv=>(ji.mp nd).1 (List.of_mem_zip hv).1,ax hk];simp
 | p::P,w::vs,i+1,m,nd,h1,h2,hk=>by
  show bindL kindOf ((p,w)::P.zip vs) m x=_;unfold bindL;exact si (i:=i) (ji.mp nd).2 (by simpa using h1) (by simpa using h2) hk
theorem so {kindOf:Str->Option NameKind}{x:Str}{v:Value}:∀{P:List Str}{vs:List Value}{i:Nat}{m:Str->Option Value},P.Nodup->P[i]?=some x->vs[i]?=some v->kindOf x≠some .local ->
  bindC kindOf (P.zip vs) m x=some v
 | [],_,_,_,_,h,_,_=>by simp at h
 | _::_,[],_,_,_,_,h,_=>by simp at h
 | p::P,w::vs,0,m,nd,h1,h2,hk=>by
  simp at h1 h2;subst h1;subst h2;show bindC kindOf ((p,w)::P.zip vs) m p=_;unfold bindC;rw [sj λv hv=>(ji.mp nd).1 (List.of_mem_zip hv).1,ay hk];simp
 | p::P,w::vs,i+1,m,nd,h1,h2,hk=>by
  show bindC kindOf ((p,w)::P.zip vs) m x=_;unfold bindC;exact so (i:=i) (ji.mp nd).2 (by simpa using h1) (by simpa using h2) hk
def start (N:List Str)(vs:List V):St:=vs.map some++List.replicate (N.length - vs.length) none
def nF (CX:wI)(P:Program)(w:World)(K:a8)(mg:Str->Option Value)(base:Heap) (N:List Str)(qual:Str)(scope:Scope)(f:Addr)(cd:Value)(A:Around)(outer:List Env)(s:Shared)(H:Hp)(E:XK):Cx where
 prog:=P
 w:=w
 K:=K
 mg:=mg
 base:=base
 A:=A.deeper (envOfC qual scope s.heap.objs.size f cd)
 N:=N
 s₀:=s
 H₀:=H
 env:=envOfC qual scope s.heap.objs.size f cd
 outer:=outer
 stack:=envOfC qual scope s.heap.objs.size f cd::outer
 ex:=[]
 calm:=true
 fn:=λ_=>true
 pn:=[]
 xe:=λe s'=>wpAny (model P w) (A.deeper (envOfC qual scope s.heap.objs.size f cd)) (leaving (envOfC qual scope s.heap.objs.size f cd) e) (λ_ La=>CX outer H s E e La) (λe' La=>CX outer H s E e' La) s'
def wa {sc:Scope}{n:Nat}{x:Str}(h:sc.names.lookup x=some .cell):∃c,(cellsFrom n sc.names []).lookup x=some c:=by
 have q:=PySem.W.cellsFrom_some sc.names n [] (.inl h);exact lC.mp q
def rK {CX:wI}{P:Program}{w:World}{K:a8}{mg:Str->Option Value}{base:Heap}{N ps:List Str}{qual:Str}{scope:Scope}{f:Addr}{cd:Value}{A:Around}{outer:List Env}{s s1:Shared}{H:Hp}{E:XK}{us:List Value}{vs:List V}
  (S:aN N ps scope)(hd:A.handled=none)(e0:oq P w K mg base A outer s H)(hl:vs.length=ps.length)(r:a9 vs us)
  (x:InCallC s s.heap.objs.size (bindL (envOfC qual scope s.heap.objs.size f cd).kindOf (ps.zip us) λ_=>none) (cellsFrom (s.heap.objs.size+1) scope.names []) (bindC (envOfC qual scope s.heap.objs.size f cd).kindOf (ps.zip us) λ_=>none) s1) :
  Inv (nF CX P w K mg base N qual scope f cd A outer s H E) [] (start N vs) H s1:=by
 have zj:ps.length<=N.length:=by have:=congrArg List.length S.pre;rw [d7] at this;omega
 obtain⟨h1,tk,rfl,hk⟩:=x.done;have Lq:∀b:Addr,b∉(nF CX P w K mg base N qual scope f cd A outer s H E).ex:=λb z=>absurd (show b∈([]:List Addr) from z) (by simp);refine⟨⟨e0.mod,S.kind,rfl,rfl,aG _,λy z c h1 h2=>?_,λy hy=>?_,λy c _ h=>?_,λ_=>hd,Around.frames_deeper e0.frames,.inr ⟨rfl,rfl⟩,λb z=>absurd z (Lq b),e0.bs,e0.El,λb _ _=>Lq b,λb z=>absurd z (Lq b),e0.nv,e0.Gv⟩,
  rfl,e0.bare,Un.kept hk,⟨_,x.toInCall.ns,λi y v h1 h2 h3=>?_⟩,λy c h=>⟨_,x.cell y c h⟩,e0.bS.fresh (aG _),λy c h=>?_,λp hp=>absurd (show p∈([]:List (Addr×Obj)) from hp) (by simp),e0.bS.kept hk,?_⟩
 .exact name_of_addr x.apart (oX h1) (oX h2)
 .have hy:scope.names.lookup y=some .cell\/scope.names.lookup y=some .free:=hy;rcases hy with hy | hy
  .exact wa hy
  exact absurd rfl (S.Ii _ (oX hy))
 .exact jn (x.above y c (oX h))
 .have hi:i < vs.length:=by
   unfold start at h2;by_cases hi:i < vs.length
   .exact hi
   rw [jZ (by simpa using hi)] at h2;rw [List.getElem?_replicate] at h2
   split at h2 <;> cases h2
  have ha:vs[i]?=some v:=by
   unfold start at h2;rw [lD (by simpa using hi),bo] at h2;cases e:vs[i]? with
   | none=>rw [e] at h2;cases h2
   | some a=>rw [e] at h2;cases h2;rfl
  obtain⟨u,hu,rv⟩:=r.get ha;have hp:ps[i]?=some y:=by
   rw [<-S.pre,tD ∅];exact h1
  have TK:ps.Nodup:=by rw [<-S.pre];exact S.nd.sublist (List.take_sublist _ _)
  refine⟨u,rv,?_⟩;rcases S.par y (cy hp) with k | k
  .exact .inl ⟨k,si TK hp hu k⟩
  obtain⟨c,e⟩:=wa (n:=s.heap.objs.size+1) k;refine .inr ⟨.inl k,c,e,?_⟩;have q:=x.cell y c e;rw [so TK hp hu (by show scope.names.lookup y≠_;rw [k];decide)] at q;exact q
 .exact e0.bS.fresh (jn (x.above y c (oX h)))
 unfold start;show _=N.length;rw [bO,av,List.length_replicate];omega
def Dc {CX:wI}{P:Program}{w:World}{K:a8}{mg:Str->Option Value}{base:Heap}{k:Nat}{f:Addr}{name qual:Str}{params:Arguments}{body:List Stmt}{scope:Scope}{dV kV doc pm d0 ct oc:Value}{an od:Option Addr}
  {vv:Array (Option Value)}{N ps:List Str}{sp:Sp}(lk:K.lookup f=some ⟨oc,od,.func (PySem.W.fnOf name qual params body scope dV kV doc pm an d0 ct),vv⟩)(uA:PySem.W.codeIn K d0 qual=true)(S:aN N ps scope)
  (len:∀vs H Q E,sp vs H Q E->vs.length=ps.length)
  (iH:∀(A:Around)(outer:List Env)(s:Shared)(H:Hp)(vs:List V)(Q:VK)(E:XK),eI k (A.deeper (envOfC qual scope s.heap.objs.size f d0))->sp vs H Q E ->
   ∃t,yp (nF CX P w K mg base N qual scope f d0 A outer s H E) body t/\t { nx:=λ_ H'=>Q .fJ H',rt:=Q } (start N vs) H) :
  bN P w K mg base CX (k+1) f (PySem.W.fnOf name qual params body scope dV kV doc pm an d0 ct) ps sp:=by
 refine⟨len,λA outer s H args us vs Q E hr e0 hb r wB=>?_⟩;have hl:=len _ _ _ _ wB;have KX:K.In s.heap:=e0.mod.LS.keeps λb o e=>(e0.bs b o e).1;have lim:s.heap.NoLimit:=e0.mod.nolimit.keeps λb o e=>(e0.bs b o e).1;have iF:∀y∈ps.zip us,scope.names.lookup y.1=some .local\/(scope.names.lookup y.1=some .cell/\((cellsFrom (s.heap.objs.size+1) scope.names []).lookup y.1).isSome=true):=λ⟨n,v⟩ hy=>by
  rcases S.par n (List.of_mem_zip hy).1 with q | q
  .exact .inl q
  exact .inr ⟨q,PySem.W.cellsFrom_some _ _ _ (.inl q)⟩
 refine codeAny_call_function hr.depth (KX _ _ lk) rfl S.co S.gen rfl (PySem.W.codeRec_of KX uA) (hb _ _ _ _ ?_);refine wpAny_newFunctionEnv_cells S.kind iF λenv he s1 x=>?_;subst he;refine⟨lim.keeps x.toInCall.keep,codeAny_func ?_⟩;obtain⟨t,ht,hq⟩:=iH A outer s H vs Q E (hr.deeper _) wB;have I:Inv (nF CX P w K mg base N qual scope f d0 A outer s H E) [] (start N vs) H s1:=rK S hr.hd e0 hl r x;refine cY (ht [] s1 (start N vs) H _ I hq) (λfl s' hs=>?_) λe s' hs=>hs;have fin:∀{σ':St}{H':Hp}{v:V}{u:Value},Inv (nF CX P w K mg base N qual scope f d0 A outer s H E) [] σ' H' s'->RelV v u->Q v H'->CE outer P w H s Q u s' :=
  λ{σ' H' v u} J rv q=>⟨v,H',J.os,J.bare,J.base,J.bS,rv,q⟩
 cases fl with
 | ret u =>
  obtain⟨v,σ',H',J,rv,q⟩:=hs;exact fin J rv q
 | next =>
  obtain⟨σ',H',J,q⟩:=hs;exact fin (v:=V.fJ) (u:=Value.none) J rfl q
 | brk =>
  obtain⟨_,_,_,q⟩:=hs;exact False.elim q
 | cont =>
  obtain⟨_,_,_,q⟩:=hs;exact False.elim q
section
variable {X:Cx}{x:Str}{p pos:Pos}{e:Expr}{es:List Expr}{t:TA}{id T:String}{r:List V->Hp->VK->Prop}
def SV (r:List V->Hp->VK->Prop)(t:TA):TE:=λσ H Q=>t σ H λvs H1=>r vs H1 Q
def aL (hc:ft X (.builtin id) r)(hg:Gl X x)(hm:X.mg x=none)(hv:bootBuiltins x=some (.builtin id))(ha:PA X (e::es) t)(hn:x ≠ "__name__" := by decide)(Aq:(x == ("__debug__":Str))=false:=by decide)
  (he:starEach (e::es) X.env=(false,eval e X.env)::starEach es X.env:=by rfl)(zj:(backTo pos (starEach es X.env)).any (·.1)=false:=by rfl):PE X (.Call (.Name x p) (e::es) [] pos) (SV r t):=by
 intro ag s σ H Q I h;refine oK (iV I hg hm hv ?_ hn Aq);refine PyProof.Rows.callWith_builtin1 (cJ (ha pos ag s σ H _ I h) λus s1 bj=>?_) he zj;obtain⟨vs,H1,I1,r1,q1⟩:=bj;exact hc ag s1 σ H1 vs us Q I1 r1 q1
def a0 (hc:ft X (.type T) r)(hg:Gl X x)(hm:X.mg x=none)(hv:bootBuiltins x=some (.type T))(ha:PA X (e::es) t)(hn:x ≠ "__name__" := by decide)(Aq:(x == ("__debug__":Str))=false:=by decide)
  (he:starEach (e::es) X.env=(false,eval e X.env)::starEach es X.env:=by rfl)(zj:(backTo pos (starEach es X.env)).any (·.1)=false:=by rfl):PE X (.Call (.Name x p) (e::es) [] pos) (SV r t):=by
 intro ag s σ H Q I h;refine oK (iV I hg hm hv ?_ hn Aq);refine yw (cJ (ha pos ag s σ H _ I h) λus s1 bj=>?_) he zj;obtain⟨vs,H1,I1,r1,q1⟩:=bj;exact hc ag s1 σ H1 vs us Q I1 r1 q1
end
end L2
namespace HT
open PySem PyProof.Rows
section
open PySem.SeqAt
open PySem.AutoSeq1 (wpAny_loadPart')
open PySem.MeetsSeq PySem.MeetsSeq2 PySem.MeetsSeq3
end
section
variable {prog:Program}{w:World}{A:Around}{E:Value->Shared->Prop}{s:Shared}
def Fy {t b:Addr}{vs ws:List Value}{Q:Value->Shared->Prop}(ht:IsTup s.heap t vs.toArray)(hb:IsTup s.heap b ws.toArray)(hv:vs≠[])
  (h1:ws=[]->Q (.ref t) s)(h2:ws≠[]->Q (.ref s.heap.objs.size) { s with heap:=s.heap.push { cls:=.type "tuple",data:=.seq (vs++ws).toArray } })
  (hsz:vs.length+ws.length<=sizeLine):wpAny (model prog w) A (binaryOp .Add (.ref t) (.ref b)) Q E s:=by
 obtain⟨⟨cls,dd,data,sl⟩,ho,hc,n,hd⟩:=id ht;obtain⟨⟨RS,Kq,data2,NS⟩,D_,MD,n2,hd2⟩:=id hb;simp only at hc hd MD hd2;subst hc hd MD hd2;have e:vs.toArray++ws.toArray=(vs++ws).toArray:=by simp
 by_cases hw:ws=[]
 .exact concat_meets ⟨_,ho,rfl⟩ ⟨_,D_,rfl⟩ noFill_tuple_add seq_tuple_add wJ wK (wO _ _)
   (tuple_addW1 t b vs.toArray ws.toArray n n2 dd Kq sl NS (by simpa using hv) (by simp [hw])) ⟨ho,D_,h1 hw⟩
 refine concat_meets ⟨_,ho,rfl⟩ ⟨_,D_,rfl⟩ noFill_tuple_add seq_tuple_add wJ wK (wO _ _)
  (tuple_addW2 t b vs.toArray ws.toArray n n2 dd Kq sl NS (by simpa using hv) (by simpa using hw) (by rw [cM,cM];exact hsz)) ⟨ho,D_,?_⟩
 rw [e];exact h2 hw
def eY (n d:Nat):Option Int->Nat
 | none=>d
 | some v=>if v < 0 then (v+(n:Int)).toNat else min v.toNat n
def lW (n d:Nat):eY n d none=d:=rfl
def tX (n d k:Nat):eY n d (some (k:Int))=min k n:=by
 show (if (k:Int) < 0 then ((k:Int)+(n:Int)).toNat else min (k:Int).toNat n)=min k n;rw [ay ∅,jY]
def Hw (n d:Nat)(hd:d<=n)(o:Option Int):eY n d o<=n:=by
 cases o with
 | none=>exact hd
 | some v =>
  show (if v < 0 then (v+(n:Int)).toNat else min v.toNat n)<=n;by_cases hv:v < 0
  .rw [ax hv];omega
  rw [ay hv];exact Nat.min_le_right _ _
def zE (v:Int) (n d:Nat):(if v < 0 then max (v+(n:Int)) 0 else min v (n:Int))=((eY n d (some v):Nat):Int):=by
 show (if v < 0 then max (v+(n:Int)) 0 else min v (n:Int))=(((if v < 0 then (v+(n:Int)).toNat else min v.toNat n):Nat):Int);by_cases hv:v < 0
 .simp only [ax hv];omega
 simp only [ay hv];omega
def yn (lo hi:Option Int) (n:Nat):Builtin.Slice.sliceAdjust lo hi 1 (n:Int)=(((eY n 0 lo:Nat):Int),((eY n n hi:Nat):Int)):=by
 have h1:¬((1:Int) < 0):=by omega
 unfold Builtin.Slice.sliceAdjust;simp only [h1,if_false];refine Prod.ext ?_ ?_
 .cases lo with
  | none=>rfl
  | some v=>exact zE v n 0
 cases hi with
 | none=>rfl
 | some v=>exact zE v n n
def xx (i j:Nat):Builtin.Slice.slicePlaces (i:Int) (j:Int) 1=j - i:=by
 unfold Builtin.Slice.slicePlaces;have h1:(1:Int) > 0:=by omega
 simp only [h1,if_true,Int.ediv_one]
 split <;> omega
def pq {v:Value}{o:Option Int}{Q:Option Int->Shared->Prop}(p:IsPart v o)(h:Q o s):wpAny (model prog w) A (Builtin.Slice.slicePartIndex v) Q E s:=by
 cases p with
 | none=>exact slicePart_none h
 | int i t=>exact slicePart_int h
def iw {sl:Addr}{vl vu:Value}{lo hi:Option Int}{n:Nat}{Q:Int×Int×Nat->Shared->Prop}(hs:s.heap.IsSliceOf sl vl vu .none)(pl:IsPart vl lo)(pu:IsPart vu hi)
  (h:Q (((eY n 0 lo:Nat):Int),1,eY n n hi - eY n 0 lo) s):wpAny (model prog w) A (Builtin.Slice.sliceApplied (.ref sl) (pure (n:Int))) Q E s:=by
 obtain⟨os,IK,Of,Fl⟩:=id hs;unfold Builtin.Slice.sliceApplied Builtin.Slice.sliceFields;refine aE (aE (il IK Fl (x:=vl) rfl (aE (il IK Fl (x:=vu) rfl (aE (il IK Fl (x:=.none) rfl (aR ?_)))))));refine aE (slicePart_none ?_);show wpAny _ _ (if ((1:Int) == 0)=true then _ else _) _ _ s;rw [ay nofun];refine aE (pq pl (aE (pq pu (aE (aR ?_)))));show wpAny _ _ (match Builtin.Slice.sliceAdjust lo hi 1 (n:Int) with | (lo,hi)=>pure (lo,(1:Int),Builtin.Slice.slicePlaces lo hi 1)) _ _ s
 rw [yn lo hi n];show wpAny _ _ (pure (((eY n 0 lo:Nat):Int),(1:Int),Builtin.Slice.slicePlaces ((eY n 0 lo:Nat):Int) ((eY n n hi:Nat):Int) 1)) _ _ s;rw [xx];exact aR h
def B9 (xs:Array Value) (i k:Nat):((List.range k).filterMap λ(m:Nat)=>xs[((i:Int)+(m:Int) * 1).toNat]?).toArray=((xs.toList.drop i).take k).toArray:=by
 have e:(λ(m:Nat)=>xs[((i:Int)+(m:Int) * 1).toNat]?)=λm=>xs[i+m]?:=by
  funext m
  have:((i:Int)+(m:Int) * 1).toNat=i+m:=by omega
  rw [this]
 rw [e];have:=pick_run xs i k;rw [List.filterMap_map] at this;have e2:((λx=>xs[x]?) ∘ λx=>i+x)=λm=>xs[i+m]?:=rfl;rw [e2] at this;rw [this]
def mj {t sl:Addr}{items:Array Value}{vl vu:Value}{lo hi:Option Int}{Q:Value->Shared->Prop}(ht:IsTup s.heap t items)(hs:s.heap.IsSliceOf sl vl vu .none)(pl:IsPart vl lo)(pu:IsPart vu hi)
  (hw:¬(eY items.size 0 lo=0/\eY items.size items.size hi=items.size))
  (h:Q (.ref s.heap.objs.size) { s with heap:=s.heap.push { cls:=.type "tuple",data:=.seq ((items.toList.drop (eY items.size 0 lo)).take (eY items.size items.size hi - eY items.size 0 lo)).toArray } })
  (hsz:items.size<=sizeLine):wpAny (model prog w) A (getItem (.ref t) (.ref sl)) Q E s:=by
 have zi:sizeOk (.seq ((items.toList.drop (eY items.size 0 lo)).take (eY items.size items.size hi - eY items.size 0 lo)).toArray):=by
  show ((items.toList.drop (eY items.size 0 lo)).take (eY items.size items.size hi - eY items.size 0 lo)).toArray.size<=sizeLine;rw [cM,d7,sJ,sR];omega
 have hj:eY items.size items.size hi<=items.size:=Hw _ _ (aG _) hi;obtain⟨os,IK,Of,Fl⟩:=id hs;have QX:s.TypeIs (.ref sl) "slice" := ⟨os,IK,Of⟩;unfold getItem
 try with_reducible refine jq ?_
 first | refine aE (aR ?_) | skip
 refine aE (wpAny_sequenceKey ht.typeIs nofun ?_);refine aE (qU (name:=Str.ofString "__getitem__") ht.typeIs qV
  (mN qV ht.typeIs entry_tuple_getitem ?_ (args_tuple_getitem _ _)))
 show wpAny _ _ (Builtin.Tuple.tupleItemsOf (.ref t) >>= _) _ _ s;refine aE (tupleItemsOf_ ht ?_);refine aE (kZ QX ?_);rw [ax nofun];refine aE (iw hs pl pu ?_);have YD:¬((((eY items.size 0 lo:Nat):Int) == 0 && (1:Int) == 1 && (eY items.size items.size hi - eY items.size 0 lo) == items.size)=true):=by
  intro q;rw [jX,jX] at q;have q1:((eY items.size 0 lo:Nat):Int)=0:=eq_of_beq q.1.1;have q2:eY items.size items.size hi - eY items.size 0 lo=items.size:=eq_of_beq q.2;exact hw ⟨∅,∅⟩
 show wpAny _ _ (if (((eY items.size 0 lo:Nat):Int) == 0 && (1:Int) == 1 && (eY items.size items.size hi - eY items.size 0 lo) == items.size)=true then _ else _) _ _ s;rw [ay YD,B9]
 first
  | exact aE (m:=Builtin.Tuple.tupleExact _) (k_ (aR ⟨_,rfl,aR h⟩) zi)
  | exact aE (m:=Builtin.Tuple.tupleExact _) (k_ (aE (aR (aR ⟨_,rfl,aR h⟩))) zi)
  | exact aE (aE (m:=Builtin.Tuple.tupleExact _) (k_ (aR (aR ⟨_,rfl,aR h⟩)) zi))
  | exact aE (aE (m:=Builtin.Tuple.tupleExact _) (k_ (aR ⟨_,rfl,aR h⟩) zi))
end
end HT
namespace L2
open PySem PySem.Spec PyProof.Rows
abbrev TO:=St->Hp->(Option Int->Hp->Prop)->Prop
def PO (X:Cx)(e:Option Expr)(t:TO):Prop :=
 ∀(ag:List (Addr×Obj))(s:Shared)(σ:St)(H:Hp)(Q:Option Int->Hp->Prop),Inv X ag σ H s->t σ H Q ->
  wpAny (model X.prog X.w) X.A (evalPart e X.env) (λu s'=>∃o H',Inv X ag σ H' s'/\IsPart u o/\Q o H') X.xe s
def Ey:TO:=λ_ H Q=>Q none H
def KJ (t:TE):TO:=λσ H Q=>t σ H λx H1=>Sm x λi=>Q (some i) H1
def intsAre_of {ns:List Int}:∀{us:List Value},a9 (ns.map V.int) us->IntsAre us ns:=by
 induction ns with
 | nil=>intro us r;rw [j_] at r;cases r;exact .nil
 | cons n ns ih =>
  intro us r;rw [bZ] at r;cases r with
  | cons r1 r2 =>
   obtain⟨t,e⟩:=r1;subst e;exact .cons n t (ih r2)
section
variable {X:Cx}{e:Expr}{te:TE}{lo hi:Option Expr}{tl th:TO}{pos p2:Pos}
def jM:PO X none Ey:=by
 intro ag s σ H Q I h;rw [evalPart_none];exact aR ⟨none,H,I,.none,h⟩
def jL (h:PE X e te):PO X (some e) (KJ te):=by
 intro ag s σ H Q I hw;rw [evalPart_some];refine cJ (h ag s σ H _ I hw) λu s1 bj=>?_;obtain⟨x,H1,I1,r1,q1⟩:=bj;obtain⟨i,rfl,q⟩:=q1;obtain⟨t,rfl⟩:=r1;exact⟨some i,H1,I1,.int i t,q⟩
def G3 (X:Cx)(r:V->Option Int->Option Int->Hp->VK->Prop):Prop :=
 ∀(ag:List (Addr×Obj))(s:Shared)(σ:St)(H:Hp)(x:V)(v vl vu:Value)(lo hi:Option Int)(sl:Addr)(Q:VK),Inv X ag σ H s->RelV x v->s.heap.IsSliceOf sl vl vu .none->IsPart vl lo->IsPart vu hi->r x lo hi H Q ->
  ∃T id,typeLookup (.type T) "__getitem__"=pure (some (.builtin id))/\s.TypeIs v T/\wpAny (model X.prog X.w) X.A (getItem v (.ref sl)) (EP X ag σ Q) X.xe s
def G3.or {r r':V->Option Int->Option Int->Hp->VK->Prop}(h:G3 X r)(h':G3 X r'):G3 X (λx lo hi H Q=>r x lo hi H Q\/r' x lo hi H Q):=by
 intro ag s σ H x v vl vu lo hi sl Q I rx hs pl pu q;rcases q with q | q
 .exact h ag s σ H x v vl vu lo hi sl Q I rx hs pl pu q
 exact h' ag s σ H x v vl vu lo hi sl Q I rx hs pl pu q
def Wa (r:V->Option Int->Option Int->Hp->VK->Prop)(te:TE)(tl th:TO):TE:=λσ H Q=>te σ H λx H1=>tl σ H1 λl H2=>th σ H2 λu H3=>r x l u H3 Q
def iB {r:V->Option Int->Option Int->Hp->VK->Prop}(hr:G3 X r)(he:PE X e te)(hl:PO X lo tl)(hu:PO X hi th):PE X (.Subscript e (.Slice lo hi none p2) pos) (Wa r te tl th):=by
 intro ag s σ H Q I h;refine Subscript_ (cJ (he ag s σ H _ I h) λv s1 bj=>?_);obtain⟨x,H1,I1,r1,q1⟩:=bj;refine wpAny_Slice (cJ (hl ag s1 σ H1 _ I1 q1) λvl s2 bj=>?_);obtain⟨l,H2,I2,pl,q2⟩:=bj;refine cJ (hu ag s2 σ H2 _ I2 q2) λvu s3 bj=>?_;obtain⟨u,H3,I3,pu,q3⟩:=bj;rw [evalPart_none];refine aR ?_;have I4:Inv X ag σ H3 { s3 with heap:=s3.heap.push { cls:=.type "slice",data:=.fields #[vl,vu,.none] } }:=I3.kept (t':=s3.toks) λb ob q=>bW _ q;obtain⟨T,id,hT,ht,hg⟩:=hr ag { s3 with heap:=s3.heap.push { cls:=.type "slice",data:=.fields #[vl,vu,.none] } } σ H3 x v vl vu l u s3.heap.objs.size Q I4 r1 (Heap.IsSliceOf.new ..) pl pu q3;show wpAny (model X.prog X.w) X.A (subscriptTail e (.Slice lo hi none p2) v (.ref s3.heap.objs.size)) (EP X ag σ Q) X.xe { s3 with heap:=s3.heap.push { cls:=.type "slice",data:=.fields #[vl,vu,.none] } };exact tail_any (ops:=[.ref s3.heap.objs.size,v]) ht hT hg (by with_unfolding_all rfl)
def iK (xs:List V)(lo hi:Option Int):List V:=(xs.drop (HT.eY xs.length 0 lo)).take (HT.eY xs.length xs.length hi - HT.eY xs.length 0 lo)
def nX (xs:List V)(lo hi:Option Int):(iK xs lo hi).length<=xs.length:=by
 unfold iK;rw [d7,sJ];omega
def Pm (K:a8):V->Option Int->Option Int->Hp->VK->Prop:=λx lo hi H Q=>∃a xs,x=.ref a/\aZ K H a xs /\
 ¬(HT.eY xs.length 0 lo=0/\HT.eY xs.length xs.length hi=xs.length)/\∀p,H p=none->Q (.ref p) (upd H p (.tup (iK xs lo hi)))
def Hn:G3 X (Pm X.K):=by
 intro ag s σ H x v vl vu lo hi sl Q I rx hs pl pu h;obtain⟨a,xs,rfl,hx,hw,q⟩:=h;cases rx;obtain⟨aU,r,ht,hz⟩:=I.tuple hx;have bq:aU.toArray.size=xs.length:=by rw [cM];exact r.length.symm
 refine⟨"tuple",_,qV.lookup,ht.typeIs,?_⟩;refine HT.mj ht hs pl pu (by rw [bq];exact hw) ?_ (by rw [bq];exact hz);rw [bq];refine⟨.ref s.heap.objs.size,_,I.laid (t':=s.toks) (o:=.tup (iK xs lo hi)) (λb ob q=>bW _ q) (aG _) ?_,rfl,q _ (I.bS.fresh (aG _))⟩;exact⟨fU (nX xs lo hi) hz,_,(r.drop (HT.eY xs.length 0 lo)).take (HT.eY xs.length xs.length hi - HT.eY xs.length 0 lo),IsTup.new _ _⟩
def Lf (K:a8):R2:=λx y H Q=>∃a b xs ys,x=.ref a/\y=.ref b/\aZ K H a xs/\aZ K H b ys/\xs≠[]/\xs.length+ys.length<=sizeLine /\
 (ys=[]->Q (.ref a) H)/\(ys≠[]->∀p,H p=none->Q (.ref p) (upd H p (.tup (xs++ys))))
def a9.oy {xs:List V}{us:List Value}(r:a9 xs us):us=[]↔xs=[]:=by
 cases r with
 | nil=>simp
 | cons _ _=>simp
def EU:jS X (binaryOp .Add) (Lf X.K):=by
 intro ag s σ H x y v u Q I rx ry h;obtain⟨a,b,xs,ys,rfl,rfl,ha,hb,hx,hz,q1,q2⟩:=h;cases rx;cases ry;obtain⟨aU,r1,p1,_⟩:=I.tuple ha;obtain⟨g9,r2,p2,_⟩:=I.tuple hb;refine HT.Fy p1 p2 (λz=>hx (r1.oy.mp z)) (λz=>⟨.ref a,H,I,rfl,q1 (r2.oy.mp z)⟩) (λz=>?_) (by rw [<-r1.length,<-r2.length];exact hz);refine⟨.ref s.heap.objs.size,_,I.laid (t':=s.toks) (o:=.tup (xs++ys)) (λb ob q=>bW _ q) (aG _) ?_,rfl,q2 (λw=>z (r2.oy.mpr w)) _ (I.bS.fresh (aG _))⟩;exact⟨by rw [bO];exact hz,_,r1.append r2,IsTup.new _ _⟩
end
def JU (n:Nat) (i:Int):Option Nat:=if 0<=i then (if i < n then some i.toNat else none) else if -(n:Int)<=i then some (i+n).toNat else none
def qL {α:Type}(xs:List α) (i:Int):Option α:=(JU xs.length i).bind λj=>xs[j]?
def Ff {n:Nat}{i:Int}{j:Nat}(h:JU n i=some j):seqIndex? i n=some j/\j < n/\-(n:Int)<=i/\i < n:=by
 unfold JU at h;by_cases h0:0<=i
 .rw [ax h0] at h;by_cases h1:i < n
  .rw [ax h1] at h;have e:i.toNat=j:=gC h;exact⟨by rw [seqIndex_of h0 h1,e],∅,∅,h1⟩
  rw [ay h1] at h;cases h
 rw [ay h0] at h;by_cases h1:-(n:Int)<=i
 .rw [ax h1] at h;have e:(i+n).toNat=j:=gC h;exact⟨by rw [seqIndex_neg ∅ h1,e],∅,h1,∅⟩
 rw [ay h1] at h;cases h
def zH {α:Type}{xs:List α}{i:Int}{v:α}(h:qL xs i=some v):∃j,seqIndex? i xs.length=some j/\xs[j]?=some v/\j < xs.length/\-(xs.length:Int)<=i/\i < xs.length:=by
 unfold qL at h;cases e:JU xs.length i with
 | none=>rw [e] at h;cases h
 | some j =>
  rw [e] at h;obtain⟨h1,h2,h3,h4⟩:=Ff e;exact⟨j,h1,h,h2,h3,h4⟩
def dN {α:Type}{xs:List α}{j:Nat}{v:α}(h:xs[j]?=some v):qL xs (j:Int)=some v:=by
 have hj:j < xs.length:=(bc.mp h).1;have e:JU xs.length (j:Int)=some j:=by
  unfold JU;rw [ax ∅,ax ∅];simp
 unfold qL;rw [e];exact h
def FE (b:Expr):Prop:=∀o i,subscripted b false o i=operate [o,i] (getItem o i)
def G6 (X:Cx)(r:R2):Prop :=
 ∀(value slice:Expr)(ag:List (Addr×Obj))(s:Shared)(σ:St)(H:Hp)(x y:V)(v u:Value)(Q:VK),Inv X ag σ H s->RelV x v->RelV y u->r x y H Q ->
  subscripted slice false v u=operate [v,u] (getItem v u)->wpAny (model X.prog X.w) X.A (subscriptTail value slice v u) (EP X ag σ Q) X.xe s
def Nw (X:Cx)(id:String)(r:V->List V->Hp->VK->Prop):Prop :=
 ∀(ag:List (Addr×Obj))(s:Shared)(σ:St)(H:Hp)(x:V)(xs:List V)(v:Value)(us:List Value)(Q:VK),Inv X ag σ H s->RelV x v->a9 xs us->r x xs H Q ->
  wpAny (model X.prog X.w) X.A (call (.builtin id) (v::us)) (EP X ag σ Q) X.xe s
section
variable {X:Cx}{a b:Expr}{ta tb:TE}{pos:Pos}
def G6.or {r r':R2}(h:G6 X r)(h':G6 X r'):G6 X (λx y H Q=>r x y H Q\/r' x y H Q):=by
 intro value slice ag s σ H x y v u Q I rx ry q hs;rcases q with q | q
 .exact h value slice ag s σ H x y v u Q I rx ry q hs
 exact h' value slice ag s σ H x y v u Q I rx ry q hs
def Nw.or {id:String}{r r':V->List V->Hp->VK->Prop}(h:Nw X id r)(h':Nw X id r'):Nw X id (λx xs H Q=>r x xs H Q\/r' x xs H Q):=by
 intro ag s σ H x xs v us Q I rx rs q;rcases q with q | q
 .exact h ag s σ H x xs v us Q I rx rs q
 exact h' ag s σ H x xs v us Q I rx rs q
def bJ {r:R2}(hr:G6 X r)(ha:PE X a ta)(hb:PE X b tb)(hs:FE b):PE X (.Subscript a b pos) (NM r ta tb):=by
 intro ag s σ H Q I h;exact Subscript_ (Jx ha hb I h λv u s2 x y H2 I2 rx ry q=>hr a b ag s2 σ H2 x y v u Q I2 rx ry q (hs _ _))
inductive Sl (S:Addr->List V->Prop)(x y:V)(R:V->Prop):Prop
|mk(p:Addr)(xs:List V) (i:Int)(v:V)(e:x=.ref p)(e2:y=.int i)(s:S p xs)(a:qL xs i=some v)(q:R v)
def Ld (K:a8):R2:=λx y H Q=>Sl (aH K H) x y λv=>Q v H
def Po (K:a8):R2:=λx y H Q=>Sl (aZ K H) x y λv=>Q v H
def cO:G6 X (Ld X.K):=by
 intro value slice ag s σ H x y v u Q I rx ry h hs;obtain⟨p,xs,i,z,rfl,rfl,hq,he,q⟩:=h;cases rx;obtain⟨t,rfl⟩:=ry;obtain⟨aU,r,pl,hz⟩:=I.list hq;obtain⟨j,h1,h2,h3,h4,h5⟩:=zH he;obtain⟨w,ew,xt⟩:=r.get h2;have hl:=r.length;have hn:=uq;have fin:EP X ag σ Q w s:=⟨z,H,I,xt,q⟩;by_cases h0:0<=i
 .have hj:i.toNat=j:=by
   rw [seqIndex_of h0 h5] at h1;exact gC h1
  exact item_listR pl.isList h0 ∅ (by rw [hj];simpa using ew) fin hs
 have hj:(i+(aU.toArray.size:Int)).toNat=j:=by
  rw [seqIndex_neg ∅ h4] at h1;rw [cM,<-hl];exact gC h1
 exact subscriptTail_builtinR (x:=w) pl.isList.typeIs slot_list_getitem.lookup
  (wpAny_getItem_list_neg (Q:=λr s'=>r=w/\EP X ag σ Q r s') pl.isList ∅ (by rw [cM] <;> omega) ∅ (by rw [hj];simpa using ew) ⟨rfl,fin⟩) hs
def bX:G6 X (Po X.K):=by
 intro value slice ag s σ H x y v u Q I rx ry h hs;obtain⟨p,xs,i,z,rfl,rfl,hq,he,q⟩:=h;cases rx;obtain⟨t,rfl⟩:=ry;obtain⟨aU,r,pl,hz⟩:=I.tuple hq;obtain⟨j,h1,h2,h3,h4,h5⟩:=zH he;obtain⟨w,ew,xt⟩:=r.get h2;have hl:=r.length;have hn:=uq;have fin:EP X ag σ Q w s:=⟨z,H,I,xt,q⟩;exact subscriptTail_builtinR (x:=w) pl.typeIs slot_tuple_getitem.lookup
  (getItem_tuple (j:=j) (Q:=λr s'=>r=w/\EP X ag σ Q r s') pl ∅ ∅ (by rw [cM,<-hl];exact h1) (by simpa using ew) ⟨rfl,fin⟩) hs
theorem Inv.lst {ag:List (Addr×Obj)}{σ:St}{H:Hp}{s:Shared}{p:Addr}{xs:List V}(I:Inv X ag σ H s)(h:H p=some (.lst xs)) :
  ∃(aU:List Value) (n:Nat),a9 xs aU/\s.heap.get? p=some { cls:=.type "list",data:=.seq aU.toArray n }/\xs.length<=sizeLine:=by
 obtain⟨z,aU,n,r,e⟩:=I.bS p _ h;exact⟨aU,n,r,e,z⟩
def tQ (lo hi:Option Int) (n:Nat):(sliceBounds lo hi none n).1=((HT.eY n 0 lo:Nat):Int)/\(sliceBounds lo hi none n).2.1=((HT.eY n n hi:Nat):Int)/\(sliceBounds lo hi none n).2.2=1:=by
 refine⟨?_,?_,rfl⟩
 .cases lo with
  | none=>simp [sliceBounds,HT.eY]
  | some i =>
   simp only [sliceBounds,HT.eY,Option.getD_none,show (1:Int) > 0 by decide,if_true];by_cases h:i < 0
   .simp only [h,if_true] <;> omega
   simp only [h,if_false] <;> omega
 cases hi with
 | none=>simp [sliceBounds,HT.eY]
 | some i =>
  simp only [sliceBounds,HT.eY,Option.getD_none,show (1:Int) > 0 by decide,if_true];by_cases h:i < 0
  .simp only [h,if_true] <;> omega
  simp only [h,if_false] <;> omega
def qF (aU:List Value)(lo hi:Option Int):slicePick aU.toArray lo hi none=((aU.drop (HT.eY aU.length 0 lo)).take (HT.eY aU.length aU.length hi - HT.eY aU.length 0 lo)).toArray:=by
 obtain⟨h1,h2,h3⟩:=tQ lo hi aU.toArray.size;unfold slicePick;rw [h1,h2,h3];simp only [sliceRange_one,pick_run,cM] <;> rfl
def Pn (K:a8):V->Option Int->Option Int->Hp->VK->Prop:=λx lo hi H Q=>Sk x (aH K H) λxs=>∀p,H p=none->Q (.ref p) (upd H p (.lst (iK xs lo hi)))
def yU:G3 X (Pn X.K):=by
 intro ag s σ H x v vl vu lo hi sl Q I rx hs pl pu h;obtain⟨a,xs,rfl,hx,q⟩:=h;cases rx;obtain⟨aU,r,ht,hz⟩:=I.list hx;have bq:=r.length;refine⟨"list",_,slot_list_getitem.lookup,ht.isList.typeIs,?_⟩;refine wpAny_getItem_list_slice ht.isList hs pl pu .none (by simp) ?_ (by rw [cM] <;> omega)
 rw [qF,<-bq];refine⟨.ref s.heap.objs.size,_,I.laid (t':=s.toks) (o:=.lst (iK xs lo hi)) (λb ob q=>bW _ q) (aG _) ?_,rfl,q _ (I.bS.fresh (aG _))⟩;exact⟨fU (nX xs lo hi) hz,_,0,(r.drop (HT.eY xs.length 0 lo)).take (HT.eY xs.length xs.length hi - HT.eY xs.length 0 lo),dq _ rfl⟩
def jE:V->Bool
 | .fJ=>true
 | .bl _=>true
 | .int _=>true
 | .str _=>true
 | _=>false
def Df:V->V->Bool
 | .fJ,.fJ=>true
 | .bl a,.bl b=>a == b
 | .bl a,.int b=>(if a then 1 else 0) == b
 | .int a,.bl b=>a == (if b then 1 else 0)
 | .int a,.int b=>a == b
 | .str a,.str b=>a == b
 | _,_=>false
def Dh {A:Around}{s:Shared}{y x:V}{u v:Value}(ry:RelV y u)(rx:RelV x v)(fy:jE y=true)(fx:jE x=true):SeqAt.EqAt A s u v (Df y x):=by
 cases y with
 | fJ =>
  cases ry;cases x with
  | fJ=>cases rx;exact SeqAt.EqAt.same _
  | bl b=>cases rx;exact SeqAt.EqAt.none_bool b
  | int b=>obtain⟨t,rfl⟩:=rx;exact SeqAt.EqAt.none_int b t
  | str b=>obtain⟨t,rfl⟩:=rx;exact SeqAt.EqAt.none_str b t
  | _=>exact absurd (show false=true from fx) cZ
 | bl a =>
  cases ry;cases x with
  | fJ=>cases rx;exact SeqAt.EqAt.bool_none a
  | bl b=>cases rx;exact SeqAt.EqAt.bool_bool a b
  | int b=>obtain⟨t,rfl⟩:=rx;exact SeqAt.EqAt.bool_int a b t
  | str b=>obtain⟨t,rfl⟩:=rx;exact SeqAt.EqAt.bool_str a b t
  | _=>exact absurd (show false=true from fx) cZ
 | int a =>
  obtain⟨t',rfl⟩:=ry;cases x with
  | fJ=>cases rx;exact SeqAt.EqAt.int_none a t'
  | bl b=>cases rx;exact SeqAt.EqAt.int_bool a t' b
  | int b=>obtain⟨t,rfl⟩:=rx;exact SeqAt.EqAt.int_int a t' b t
  | str b=>obtain⟨t,rfl⟩:=rx;exact SeqAt.EqAt.int_str a t' b t
  | _=>exact absurd (show false=true from fx) cZ
 | str a =>
  obtain⟨t',rfl⟩:=ry;cases x with
  | fJ=>cases rx;exact SeqAt.EqAt.str_none a t'
  | bl b=>cases rx;exact SeqAt.EqAt.str_bool a t' b
  | int b=>obtain⟨t,rfl⟩:=rx;exact SeqAt.EqAt.str_int a t' b t
  | str b=>obtain⟨t,rfl⟩:=rx;exact SeqAt.EqAt.str_str a t' b t
  | _=>exact absurd (show false=true from fx) cZ
 | _=>exact absurd (show false=true from fy) cZ
def yf (x:V)(u:Value):Bool:=match u with
 | .none=>Df .fJ x
 | .bool b=>Df (.bl b) x
 | .int i _=>Df (.int i) x
 | .str z _=>Df (.str z) x
 | _=>false
def Dg {x y:V}{u:Value}(r:RelV y u)(f:jE y=true):yf x u=Df y x:=by
 cases y with
 | fJ=>cases r;rfl
 | bl b=>cases r;rfl
 | int i=>obtain⟨t,rfl⟩:=r;rfl
 | str z=>obtain⟨t,rfl⟩:=r;rfl
 | _=>exact absurd (show false=true from f) cZ
theorem mx {x:V}:∀{xs:List V}{us:List Value},a9 xs us->xs.all jE=true->us.any (yf x)=xs.any λy=>Df y x
 | _,_,.nil,_=>rfl
 | y::xs,u::us,.cons r t,f=>by
  rw [List.all_cons,jX] at f;rw [oO,oO,Dg r f.1,mx t f.2]
theorem jA {A:Around}{s:Shared}{x:V}{v:Value}(rx:RelV x v)(fx:jE x=true):∀{xs:List V}{us:List Value},a9 xs us->xs.all jE=true->∀u∈us,SeqAt.EqAt A s u v (yf x u)
 | _,_,.nil,_=>λu hu=>by cases hu
 | y::xs,u::us,.cons r t,f=>λu' hu=>by
  rw [List.all_cons,jX] at f;rcases bM.mp hu with rfl | hu
  .rw [Dg r f.1];exact Dh r rx f.1 fx
  exact jA rx fx t f.2 u' hu
def IF (x:V)(xs:List V):Bool:=xs.any λy=>Df y x
inductive VM (S:Addr->List V->Prop)(x y:V)(R:List V->Prop):Prop
|mk(p:Addr)(xs:List V)(e:y=.ref p)(s:S p xs)(f:jE x=true)(g:xs.all jE=true)(q:R xs)
def NZ (K:a8)(neg:Bool):R2:=λx y H Q=>VM (λp xs=>aH K H p xs\/aZ K H p xs) x y λxs=>Q (.bl (if neg then !IF x xs else IF x xs)) H
def jN:jS X (compareOp .In) (NZ X.K false):=by
 intro ag s σ H x y v u Q I rx ry h;obtain⟨p,xs,rfl,hq,fx,fs,q⟩:=h;cases ry;rcases hq with hq | hq
 .obtain⟨aU,r,pl,hz⟩:=I.list hq;refine SeqAt.in_listAt (yf x) pl.isList (λw hw=>jA rx fx r fs w (by simpa using hw)) ⟨.bl _,H,I,rfl,?_⟩;rw [show aU.toArray.any (yf x)=aU.any (yf x) by simp,mx r fs];exact q
 obtain⟨aU,r,pl,hz⟩:=I.tuple hq;refine SeqAt.in_tupleAt (yf x) pl (λw hw=>jA rx fx r fs w (by simpa using hw)) ⟨.bl _,H,I,rfl,?_⟩;rw [show aU.toArray.any (yf x)=aU.any (yf x) by simp,mx r fs];exact q
def iS:jS X (compareOp .NotIn) (NZ X.K true):=by
 intro ag s σ H x y v u Q I rx ry h;obtain⟨p,xs,rfl,hq,fx,fs,q⟩:=h;cases ry;rcases hq with hq | hq
 .obtain⟨aU,r,pl,hz⟩:=I.list hq;refine SeqAt.notIn_listAt (yf x) pl.isList (λw hw=>jA rx fx r fs w (by simpa using hw)) ⟨.bl _,H,I,rfl,?_⟩;rw [show aU.toArray.any (yf x)=aU.any (yf x) by simp,mx r fs];exact q
 obtain⟨aU,r,pl,hz⟩:=I.tuple hq;refine SeqAt.notIn_tupleAt (yf x) pl (λw hw=>jA rx fx r fs w (by simpa using hw)) ⟨.bl _,H,I,rfl,?_⟩;rw [show aU.toArray.any (yf x)=aU.any (yf x) by simp,mx r fs];exact q
def bz:ft X (.builtin "len") (λxs H Q=>JA xs (λp ys=>aH X.K H p ys\/aZ X.K H p ys) λys=>Q (.int ys.length) H):=by
 intro ag s σ H xs us Q I r h;obtain⟨p,ys,rfl,hq,q⟩:=h;obtain⟨u,rfl,rx⟩:=vals1 r;cases rx;have hn:=uq;rcases hq with hq | hq
 .obtain⟨aU,r',pl,hz⟩:=I.list hq;have bq:=r'.length;exact Calls.call_len_list pl.isList (by simp only [cM] <;> omega) ⟨.int ys.length,H,I.tok _,⟨s.toks+1,by rw [cM,bq]⟩,q⟩
 obtain⟨aU,r',pl,hz⟩:=I.tuple hq;have bq:=r'.length;exact len_tuple pl (by simp only [cM] <;> omega) ⟨.int ys.length,H,I.tok _,⟨s.toks+1,by rw [cM,bq]⟩,q⟩
def ft.or {f:Value}{r r':List V->Hp->VK->Prop}(h:ft X f r)(h':ft X f r'):ft X f (λxs H Q=>r xs H Q\/r' xs H Q):=by
 intro ag s σ H xs us Q I rs q;rcases q with q | q
 .exact h ag s σ H xs us Q I rs q
 exact h' ag s σ H xs us Q I rs q
def gR:ft X (.type "list") (λxs H Q=>JA xs (λp ys=>aH X.K H p ys\/aZ X.K H p ys) λys=>∀l,H l=none->Q (.ref l) (upd H l (.lst ys))):=by
 intro ag s σ H xs us Q I r h;obtain⟨p,ys,rfl,hq,q⟩:=h;obtain⟨u,rfl,rx⟩:=vals1 r;cases rx;have fin:∀(aU:List Value),a9 ys aU->ys.length<=sizeLine->∀(h':Heap) (c':Nat),(∀b o',s.heap.get? b=some o'->h'.get? b=some o') ->
   h'.get? s.heap.objs.size=some { cls:=.type "list",dict:=none,data:=.seq aU.toArray c',slots:=#[] }->EP X ag σ Q (.ref s.heap.objs.size) { s with heap:=h' }:=λaU r' hz h' c' kp e =>
  ⟨.ref s.heap.objs.size,_,I.laid (t':=s.toks) kp (aG _) (show cv X.prog X.w _ h' _ (.lst ys) from ⟨hz,aU,c',r',e⟩),rfl,q _ (I.bS.fresh (aG _))⟩
 rcases hq with hq | hq
 .obtain⟨aU,r',pl,hz⟩:=I.list hq;have bq:=r'.length;obtain⟨o,ho,hc,n,hd⟩:=pl.isList;exact call_list_seq p (.inl rfl) ho hc hd (λh' c' kp e=>fin aU r' hz h' c' kp e) (by simp only [cM] <;> omega)
 obtain⟨aU,r',pl,hz⟩:=I.tuple hq;have bq:=r'.length;obtain⟨o,ho,hc,n,hd⟩:=pl;exact call_list_seq p (.inr rfl) ho hc hd (λh' c' kp e=>fin aU r' hz h' c' kp e) (by simp only [cM] <;> omega)
def ij:ft X (.type "tuple") (λxs H Q=>∃p ys,xs=[.ref p]/\((aH X.K H p ys/\∀l,H l=none->Q (.ref l) (upd H l (.tup ys)))\/(aZ X.K H p ys/\Q (.ref p) H))):=by
 intro ag s σ H xs us Q I r h;obtain⟨p,ys,rfl,h⟩:=h;obtain⟨u,rfl,rx⟩:=vals1 r;cases rx;rcases h with ⟨hq,q⟩ | ⟨hq,q⟩
 .obtain⟨aU,r',pl,hz⟩:=I.list hq;have bq:=r'.length;refine call_tuple_list pl.isList (λh' kp=>?_) (by simp only [cM] <;> omega)
  have I1:Inv X ag σ H { s with heap:=h' }:=I.kept (t':=s.toks) kp;have I2:Inv X ag σ (upd H h'.objs.size (.tup ys)) { s with heap:=h'.push { cls:=.type "tuple",data:=.seq aU.toArray } } :=
   I1.laid (t':=s.toks) (λb o e=>bW _ e) (aG _) (show cv X.prog X.w _ _ _ (.tup ys) from ⟨hz,aU,r',IsTup.new _ _⟩)
  exact⟨.ref h'.objs.size,_,I2,rfl,q _ (I1.bS.fresh (aG _))⟩
 obtain⟨aU,r',pl,hz⟩:=I.tuple hq;exact call_tuple_same pl ⟨.ref p,H,I,rfl,q⟩
def SQ (K:a8)(T:String)(x:V)(H:Hp):Prop:=match x with
 | .str _=>T = "str"
 | .int _=>T = "int"
 | .ref p=>(T = "list" /\ ∃xs,aH K H p xs)\/(T = "tuple" /\ ∃o,K.lookup p=some o/\o.cls=.type "tuple" /\ o.dict=none) \/
   (T = "dict" /\ ((∃kvs,H p=some (.dK kvs))\/∃kvs,H p=some (.dT kvs)))\/(T = "set" /\ ∃S n,H p=some (.set S n))
 | _=>False
def Hc {ag:List (Addr×Obj)}{σ:St}{H:Hp}{s:Shared}{T:String}{x:V}{v:Value}(I:Inv X ag σ H s)(r:RelV x v)(ty:SQ X.K T x H) :
  s.TypeIs v T/\∀a,v=.ref a->∃ob,s.heap.get? a=some ob/\ob.dict=none:=by
 cases x with
 | str z =>
  obtain⟨t,rfl⟩:=r;cases (show T = "str" from ty);exact⟨typeIs_str s z t,λ_ e=>nomatch e⟩
 | int i =>
  obtain⟨t,rfl⟩:=r;cases (show T = "int" from ty);exact⟨typeIs_int s i t,λ_ e=>nomatch e⟩
 | ref p =>
  cases r;rcases ty with ⟨rfl,xs,hq⟩ | ⟨rfl,o,hk,hc,hd⟩ | ⟨rfl,hk⟩ | ⟨rfl,S,n,hk⟩
  .obtain⟨aU,_,pl,_⟩:=I.list hq;refine⟨pl.isList.typeIs,λa e=>?_⟩;cases e;obtain⟨o,n,e,c,hd,_⟩:=pl;exact⟨o,e,hd⟩
  .refine⟨⟨o,I.rH p o hk,hc⟩,λa e=>?_⟩;cases e;exact⟨o,I.rH _ o hk,hd⟩
  .have z:∃o,s.heap.get? p=some o/\o.ExactDict:=by
    rcases hk with ⟨kvs,hk⟩ | ⟨kvs,hk⟩
    .obtain⟨_,_,_,_,o,_,_,e,ex,_⟩:=I.bS p _ hk;exact⟨o,e,ex⟩
    obtain⟨_,_,_,_,o,_,_,e,ex,_⟩:=I.bS p _ hk;exact⟨o,e,ex⟩
   obtain⟨o,e,ex⟩:=z;refine⟨⟨o,e,ex.1⟩,λa e2=>?_⟩;cases e2;exact⟨o,e,ex.2.1⟩
  obtain⟨o,_,_,_,e,ex,_⟩:=I.bS p _ hk;refine⟨⟨o,e,ex.1⟩,λa e2=>?_⟩;cases e2;exact⟨o,e,ex.2.1⟩
 | _=>exact False.elim ty
def Wd (K:a8)(T:String)(r:V->List V->Hp->VK->Prop)(to:TE)(t:TA):TE:=λσ H Q=>to σ H λx H1=>SQ K T x H1/\t σ H1 λxs H2=>r x xs H2 Q
variable {o e:Expr}{es:List Expr}{to:TE}{t:TA}{name:Str}{apos gI:Pos}{T id:String}{r:V->List V->Hp->VK->Prop}
def fh (pa:PlainAttrs T)(slot:Slot T name id)(Yn:typeOf (.builtin id)=pure (.type "method_descriptor"))(hm:Nw X id r)(ho:PE X o to)(ha:PA X (e::es) t)
  (MH:attributeBase o name X.env (eval o X.env)=eval o X.env:=by rfl)
  (QO:((backTo gI (starEach (e::es) X.env)).all (λx=>!x.1) && (backToKw gI (keywordEach [] X.env)).all (λx=>x.1.isSome)
   && decide ((e::es).length+([]:List Keyword).length+(if ([]:List Keyword).isEmpty then 0 else 1) < 30))=true:=by rfl)
  (Mr:(apos.endLine == gI.line)=true:=by rfl)(hs:starEach (e::es) X.env=(false,eval e X.env)::starEach es X.env:=by rfl)(IJ:(backTo gI (starEach es X.env)).any (·.1)=false:=by rfl) :
  PE X (.Call (.Attribute o name apos) (e::es) [] gI) (Wd X.K T r to t):=by
 intro ag s σ H Q I h;refine wpAny_Call_method_late MH QO Mr rfl (cJ (ho ag s σ H _ I h) λv s1 bj=>?_);obtain⟨x,H1,I1,r1,ty,q1⟩:=bj;obtain⟨h1,h2⟩:=Hc I1 r1 ty;refine⟨T,id,pa,slot,Yn,h1,h2,?_⟩;have hA:=ha gI ag s1 σ H1 _ I1 q1;rw [hs] at hA ⊢;refine sW (by show (false || (backTo gI (starEach es X.env)).any (·.1))=false;rw [IJ] <;> rfl) (sP ?_)
 refine cJ hA λus s2 bj=>?_;obtain⟨vs,H2,I2,r2,q2⟩:=bj;exact hm ag s2 σ H2 x vs v us Q I2 r1 r2 q2
end
def VY (X:Cx)(id:String)(r:V->List V->Hp->VK->Prop):Prop :=
 ∀(ag:List (Addr×Obj))(s:Shared)(σ:St)(H:Hp)(x:V)(xs:List V)(v:Value)(us:List Value)(Q:VK),Inv X ag σ H s->RelV x v->a9 xs us->r x xs H Q ->
  wpAny (model X.prog X.w) X.A (call (.builtin id) (v::us)) (EP X ag σ Q) X.xe s
def a9.one:∀{x:V}{us:List Value},a9 [x] us->∃u,us=[u]/\RelV x u
 | _,_,.cons r .nil=>⟨_,rfl,r⟩
def a9.two:∀{x y:V}{us:List Value},a9 [x,y] us->∃u v,us=[u,v]/\RelV x u/\RelV y v
 | _,_,_,.cons r (.cons q .nil)=>⟨_,_,rfl,r,q⟩
def a9.zero:∀{us:List Value},a9 [] us->us=[]
 | _,.nil=>rfl
theorem a9.reverse {xs:List V}{us:List Value}(h:a9 xs us):a9 xs.reverse us.reverse:=by
 induction h with
 | nil=>exact .nil
 | cons r t ih=>rw [List.reverse_cons,List.reverse_cons];exact a9.append ih (.cons r .nil)
section
variable {X:Cx}{ag:List (Addr×Obj)}{σ:St}{H:Hp}{s:Shared}{l b:Addr}{xs ys zs:List V}
def Inv.LA {aU uw:List Value}{n:Nat}{f:Array Value->Array Value}{t':Nat}(I:Inv X ag σ H s)(hH:H l=some (.lst xs))
  (e:s.heap.get? l=some { cls:=.type "list",data:=.seq aU.toArray n })(hf:f aU.toArray=uw.toArray)(hv:a9 ys uw)(hz:ys.length<=sizeLine) :
  Inv X ag σ (upd H l (.lst ys)) { s with heap:=s.heap.update l (Obj.mapSeq f),toks:=t' }:=by
 have q:=PySem.IsL.update e f;rw [hf] at q;refine I.write (x:=l) (e:=l) (by rw [hH];exact trivial) (.inl rfl) (λb' u hb hu=>(Heap.get?_update_other s.heap (Obj.mapSeq f) (fu hb)).trans hu) ⟨_,q⟩ ?_;exact⟨hz,uw,_,hv,q⟩
def Inv.P4 {aU:List Value}{t':Nat}(I:Inv X ag σ H s)(hv:a9 ys aU)(hz:ys.length<=sizeLine) :
  Inv X ag σ (upd H s.heap.objs.size (.lst ys)) { s with heap:=s.heap.push { cls:=.type "list",data:=.seq aU.toArray },toks:=t' } :=
 I.laid (λ_ _ q=>bW _ q) (aG _) ⟨hz,aU,0,hv,dq _ rfl⟩
theorem Inv.fresh (I:Inv X ag σ H s):H s.heap.objs.size=none:=I.bS.fresh (aG _)
def Inv.CJ (I:Inv X ag σ H s)(hH:H l=some (.lst xs)):xs.length<=sizeLine/\∃(aU:List Value) (n:Nat),a9 xs aU/\xs.length=aU.length/\s.heap.get? l=some { cls:=.type "list",data:=.seq aU.toArray n }:=by
 obtain⟨z,aU,n,r,e⟩:=I.bS l _ hH;exact⟨z,aU,n,r,r.length,e⟩
def Cz {n:Nat}(h:n<=sizeLine):Builtin.List.listTooLong n=false:=by
 unfold Builtin.List.listTooLong;exact hU ∅
end
section
variable {X:Cx}
inductive Nn (H:Hp)(x:V)(vs:List V)(R:Addr->List V->V->Prop):Prop
|mk(l:Addr)(xs:List V)(y:V)(e:x=.ref l)(e2:vs=[y])(h:H l=some (.lst xs))(z:xs.length < sizeLine)(q:R l xs y)
def EI:V->List V->Hp->VK->Prop:=λx vs H Q=>Nn H x vs λl xs y=>Q .fJ (upd H l (.lst (xs++[y])))
def bh:VY X "list.append" EI:=by
 intro ag s σ H x vs v us Q I rx rv h;obtain⟨l,xs,y,rfl,rfl,hH,hz,q⟩:=h;cases rx;obtain⟨u,rfl,ru⟩:=rv.one;obtain⟨z,aU,n,r,hl,e⟩:=I.CJ hH;refine call_meets F.slot_list_append ⟨_,e,rfl⟩ F.entry_list_append (F.args_list_append_2 _ _) (PySem.list_append l aU.toArray n u (by rw [cM];omega)) ⟨e,?_⟩;refine⟨.fJ,_,I.LA (uw:=aU++[u]) hH e (by simp) (r.append (.cons ru .nil)) ?_,rfl,q⟩;rw [bO,gO];omega
def EH:V->List V->Hp->VK->Prop:=λx vs H Q=>∃l b xs zs,x=.ref l/\vs=[.ref b]/\H l=some (.lst xs)/\H b=some (.lst zs)/\xs.length+zs.length<=sizeLine/\Q .fJ (upd H l (.lst (xs++zs)))
def JS:VY X "list.extend" EH:=by
 intro ag s σ H x vs v us Q I rx rv h;obtain⟨l,b,xs,zs,rfl,rfl,hH,hB,hz,q⟩:=h;cases rx;obtain⟨u,rfl,ru⟩:=rv.one;cases ru;obtain⟨z,aU,n,r,hl,e⟩:=I.CJ hH;obtain⟨z2,g9,n2,r2,qH,e2⟩:=I.CJ hB;have hsz:aU.toArray.size+g9.toArray.size<=sizeLine:=by rw [cM,cM];omega
 have Mq:¬(!aU.toArray.isEmpty && Builtin.List.listTooLong (aU.toArray.size+g9.toArray.size))=true:=by
  rw [Cz hsz,Bool.and_false];exact cZ
 refine call_meets F.slot_list_extend ⟨_,e,rfl⟩ F.entry_list_extend (F.args_list_extend_2 _ _)
  (AutoSeq1.list_extend_list_list_0 l aU.toArray n b g9.toArray n2 Mq (by rw [cM];omega) ∅) ⟨e,e2,?_⟩
 refine⟨.fJ,_,I.LA (uw:=aU++g9) hH e (by simp) (r.append r2) ?_,rfl,q⟩;rw [bO];omega
def Pp:R2:=λx y H Q=>Sq (λl xs=>H l=some (.lst xs)) x y λxs zs=>∀p,H p=none->Q (.ref p) (upd H p (.lst (xs++zs)))
def pH:jS X (binaryOp .Add) Pp:=by
 intro ag s σ H x y v u Q I rx ry h;obtain⟨l,b,xs,zs,rfl,rfl,hH,hB,hz,q⟩:=h;cases rx;cases ry;obtain⟨z,aU,n,r,hl,e⟩:=I.CJ hH;obtain⟨z2,g9,n2,r2,qH,e2⟩:=I.CJ hB;refine PySem.P.add_list e e2 ?_ (by rw [cM,cM];omega);have ea:aU.toArray++g9.toArray=(aU++g9).toArray:=by simp
 rw [ea];exact⟨.ref _,_,I.P4 (t':=s.toks) (r.append r2) (by rw [bO];omega),rfl,q _ I.fresh⟩
end
section
variable {prog:Program}{w:World}{A:Around}{E:Value->Shared->Prop}{s:Shared}
set_option maxRecDepth 100000 in
end
section
variable {X:Cx}
end
end L2
namespace Er
open PySem PySem.W PySem.Calls PyProof.Rows
def oh {P:Params}{h:Heap}:∀(ns:List Int)(vs:List Value),WellAll P h vs (ns.map WData.int)->IntsAre vs ns:=by
 intro ns
 induction ns with
 | nil =>
  intro vs w;rw [j_] at w;cases w;exact .nil
 | cons n ns ih =>
  intro vs w;rw [bZ] at w;cases w with
  | cons a b =>
   cases a;exact .cons _ _ (ih _ b)
def zU {l:OpenLaw}{n:Nat}(hn:l.most=some n){P:Params}{h:Heap}{args:List WData}{vals:List Value}
  (Fg:l.row.toRowW.claim.pre args=true)(Qm:WellAll P h vals args) :
  ∃a vs ns,vals=[Value.ref a]/\args=[WData.list (ns.map WData.int)]/\h.get? a=some { cls:=.type "list",data:=.seq vs.toArray }/\IntsAre vs ns/\ns.length<=n:=by
 have N8:WShape.hasAll [] args [.list .int]=true:=(pre_splitW Fg).1;have hc:l.pre.holds [] { args:=args }=true:=(pre_splitW Fg).2;obtain⟨d,r,rfl,h1,h2⟩:=hasAllW_cons N8;obtain rfl:=hasAllW_nil h2;obtain⟨xs,rfl,h3⟩:=hasW_list h1;obtain⟨ns,rfl⟩:=items_int h3;have bq:ns.length<=n:=by
  unfold OpenLaw.pre at hc;have h4:(WTm.not (.lt (.lit (.int (n:Int))) (.len (.arg 0)))).holds [] { args:=[.list (ns.map .int)] }=true:=by
   have h4:=(holds_andW hc).1;rw [hn] at h4;exact h4
  have h5:=condW_of h4 (w_not (w_lt w_lit (w_len_list (w_arg rfl))));rw [av] at h5;refine Nat.le_of_not_lt λq=>?_;have q':(n:Int) < ((ns.length:Nat):Int):=by omega
  first
   | (rw [eU q'] at h5;exact absurd h5 nofun)
   | (simp at h5;omega)
 cases Qm with
 | cons w1 w2 =>
  cases w2;cases w1 with
  | list ho oj=>exact⟨_,_,ns,rfl,rfl,ho,oh ns _ oj,bq⟩
def zZ (l:OpenLaw)(args:List WData):l.row.toRowW.claim.post args (.bool true) args=true :=
 postW_of (r:=l.row.toRowW) (X:=(true == true))
  (show WShape.has [] (.bool true) .bool=true by first | rfl | decide | simp [WShape.has,WShape.arms,WShape.armsAll])
  (show (WTm.eq .res (.lit (.bool true))).value [] { args:=args,res:=some (.bool true),after:=args }=some (.bool (true == true)) from w_eq_bool (w_res rfl) w_lit) rfl
def n5 {l:OpenLaw}{n:Nat}{q:Program}{loose:List Str}{XP:(Str->Option Value)->Heap->Prop}{YP:World->Heap->Prop}{d:DefRec}
  (hn:l.most=some n)(IU:d.params.defaults=[])
  (call:∀(w:World)(s₀ s₁:Shared)(mg mb:Str->Option Value)(fa:Addr)(o:Obj)(pm cd doc:Value)(a:Addr)(vs:List Value)(ns:List Int),
   Ground q loose [] XP w s₀ mg mb s₁.heap->YP w s₁.heap ->
   s₁.heap.get? fa=some o->o.data=.func (docDef d.name d.params d.body d.scope pm cd doc)->s₁.heap.CodeRec cd d.name->mg d.name=some (.ref fa) ->
   s₁.heap.get? a=some { cls:=.type "list",data:=.seq vs.toArray }->IntsAre vs ns->ns.length<=n->s₁.gens=#[] ->
   codeAny (model l.prog w) callerA (.call (.ref fa) ⟨[.ref a],[]⟩) (λr s'=>r=.ok (.ret (.bool true))/\OldK s₁.heap s'.heap/\s'.os=s₁.os/\AllBare s'.gens) s₁) :
  WalkO q loose XP YP l.row.toRowW d [] (λf vs=>PySem.call f vs):=by
 intro w s₀ s₁ mg mb G Y fa o pm cd doc dV kV ho hd uA hD IL hg args vals as Fg YL hrd Qm hlo;obtain rfl:dV=.none:=Dflts.none hD IU;obtain rfl:kV=.none:=Dflts.noKw hD;obtain⟨a,vs,ns,rfl,rfl,CV,hints,bq⟩:=zU hn Fg Qm;refine enter_call (mC (call w s₀ s₁ mg mb fa o pm cd doc a vs ns G Y ho (fd_plain hd) uA IL CV hints bq hg) λr s' hq=>?_);obtain⟨rfl,h2,h3,h4⟩:=hq;exact⟨.inl ⟨.bool true,.bool true,[],rfl,λ_=>rfl,.bool true,zZ l _,λ_=>⟨List.Pairwise.nil,λ_ hm=>(nomatch hm)⟩⟩,h2,h3,h4⟩
section
variable {prog:Program}{w:World}{A:Around}{E:Value->Shared->Prop}{s:Shared}{K:Frag}
def pI (h:Heap):Heap:={ h with objs:=#[] }
def ku (h:Heap)(b:Addr):(pI h).get? b=none:=by
 cases e:(pI h).get? b with
 | none=>rfl
 | some o=>exact absurd (bA e) (Nat.not_lt_zero _)
def ledger (h:Heap)(L d:Addr):List (Addr×Obj):=(List.range h.objs.size).filterMap λa=>if a=L\/a=d then none else (h.get? a).map λo=>(a,o)
def iT {h:Heap}{L d a:Addr}{o:Obj}:(a,o)∈ledger h L d↔a≠L/\a≠d/\h.get? a=some o:=by
 unfold ledger;rw [List.mem_filterMap];constructor
 .rintro⟨b,_,e⟩
  split at e
  .cases e
  rename_i hb
  obtain⟨o',ho,e'⟩:=b9.mp e;cases e';exact⟨λq=>hb (.inl q),λq=>hb (.inr q),ho⟩
 rintro⟨n1,n2,ho⟩;refine⟨a,jV.mpr (bA ho),?_⟩;rw [ay (show ¬(a=L\/a=d) from λq=>q.elim n1 n2),ho] <;> rfl
def vC {h:Heap}{L d:Addr}{od:Obj}(A4:d≠L)(ho:h.get? d=some od):News (pI h) L h ([]++(d,od)::ledger h L d):=by
 rintro⟨a,o⟩ hp;rcases bM.mp hp with e | hp
 .cases e;exact⟨ho,A4,ku _ _⟩
 obtain⟨n1,n2,e⟩:=iT.mp hp;exact⟨e,n1,ku _ _⟩
def Jb {h:Heap}{L:Addr}{m:Str->Option Value}(n:h.Ns L m):Fr (pI h) L h m :=
 ⟨n,λb o e=>(by rw [ku] at e;cases e),gN _⟩
end
end Er
namespace L2
open PySem PySem.Spec PyProof.Rows
theorem mR:∀{vs:List Value}{ns:List Int},IntsAre vs ns->a9 (ns.map V.int) vs
 | _,_,.nil=>.nil
 | _,_,.cons n t h=>.cons ⟨t,rfl⟩ (mR h)
def JE (H:Hp):Prop:=∀b,H b=none\/∃o xs,H b=some (.je o (.lst xs))
def CM {P:Program}{w:World}{K:a8}{mg mb:Str->Option Value}{CX:wI}{k:Nat}{fa a:Addr}{fd:FuncData}{x:Str}{sp:Sp}{s₁:Shared}{vs:List Value}{ns:List Int}
  (KX:K.In s₁.heap)(vL:s₁.heap.Ns mainGlobals mg)(hb:s₁.heap.Ns builtinsNs mb)(IX:∀x:Str,x ≠ "__name__" -> mb x=bootBuiltins x)(IM:s₁.heap.NoLimit)(hg:s₁.gens=#[])
  (ha:s₁.heap.get? a=some { cls:=.type "list",data:=.seq vs.toArray })(hi:IntsAre vs ns)(hl:ns.length<=sizeLine)(hr:eI k callerA)
  (F:∀base:Heap,K.In base->base.Ns mainGlobals mg->bN P w K mg base CX k fa fd [x] sp)(mh:∀(s:Shared)(u:Value),BindsTo s fd ⟨[u],[]⟩ [(x,u)])
  (wB:∀H:Hp,JE H->aH K H a (ns.map V.int)->sp [.ref a] H (λv _=>v=.bl true) λ_ _ _=>False)
  (I9:∀H e s',CX [] H s₁ (λ_ _ _=>False) e s'->False) :
  codeAny (model P w) callerA (.call (.ref fa) ⟨[.ref a],[]⟩) (λr s'=>r=.ok (.ret (.bool true))/\OldK s₁.heap s'.heap/\s'.os=s₁.os/\AllBare s'.gens) s₁:=by
 have rv:=mR hi;have Iu:=hi.length;have core:∀H:Hp,JE H->aH K H a (ns.map V.int)->j9 P w H s₁.heap->(∀b,H b≠none->b=a)->(H a≠none->K.lookup a=none) ->
   codeAny (model P w) callerA (.call (.ref fa) ⟨[.ref a],[]⟩) (λr s'=>r=.ok (.ret (.bool true))/\OldK s₁.heap s'.heap/\s'.os=s₁.os/\AllBare s'.gens) s₁:=by
  intro H hO hS bS hA hK;have jQ:∀{b:Addr}{o:Obj},s₁.heap.get? b=some o->H b=none->(kM s₁.heap H).get? b=some o:=λe n=>vN e n;have Lq:∀{b:Addr}{o:Obj}{es:Array DictEntry}{ep:Nat},s₁.heap.get? b=some o->o.data=.dict es ep->H b=none:=λ{b o es ep} e d=>by
   cases q:H b with
   | none=>rfl
   | some u =>
    have e':b=a:=hA b (by rw [q];simp);subst e';rw [ha] at e;cases e;have d':Data.seq vs.toArray _=Data.dict es ep:=d;cases d'
  have E7:∀{b:Addr}{m:Str->Option Value},s₁.heap.Ns b m->(kM s₁.heap H).Ns b m:=λ{b m} ⟨o,es,ep,e,d,r⟩=>⟨o,es,ep,jQ e (Lq e d),d,r⟩;have MK:K.In (kM s₁.heap H):=λb o e=>jQ (KX b o e) (by
   cases q:H b with
   | none=>rfl
   | some u =>
    have e':b=a:=hA b (by rw [q];simp);subst e';rw [hK (by rw [q];simp)] at e;cases e)
  have hM:Mod K mg (kM s₁.heap H):=⟨MK,E7 vL,⟨mb,E7 hb,IX⟩,let ⟨mc,h1,h2⟩:=IM;⟨mc,E7 h1,h2⟩⟩;have e0:oq P w K mg (kM s₁.heap H) callerA [] s₁ H:=⟨rfl,hM,λb o e=>ze e,Nat.le_of_eq (rN _ _),trivial,λb hb=>absurd (show b∈([]:List Addr) from hb) (by simp),bS,.of_eq hg⟩;refine mC ((F _ MK (E7 vL)).run callerA [] s₁ H ⟨[.ref a],[]⟩ [.ref a] [.ref a] _ _ hr e0 (mh s₁ (.ref a)) (.cons rfl .nil) (wB H hO hS)) λr s' h=>?_;cases r with
  | error e=>exact(I9 H e s' h).elim
  | ok fl =>
   cases fl with
   | next=>exact False.elim h
   | brk=>exact False.elim h
   | cont=>exact False.elim h
   | ret u =>
    obtain⟨v,H',os,bare,un,Fh,r',q⟩:=h;have q':v=.bl true:=q;subst q';obtain rfl:u=Value.bool true:=r';refine⟨rfl,OldK.of_keep λb o e=>?_,os,bare⟩;cases q:H b with
    | none=>exact un.keep b o e q (by intro z;exact absurd (show b∈([]:List Addr) from z) (by simp)) (by simp)
    | some u =>
     rcases hO b with z | ⟨ob,xs,z⟩
     .rw [q] at z;cases z
     have z2:=un.kO b ob _ z;obtain⟨e1,_⟩:=bS b _ z;obtain⟨e2,_⟩:=Fh b _ z2;rw [e] at e1;cases e1;exact e2
 cases hk:K.lookup a with
 | some o =>
  have e:=KX a o hk;rw [ha] at e;cases e;refine core (λ_=>none) (λ_=>.inl rfl) (.inr ⟨_,vs.toArray,_,hk,rfl,rfl,rfl,by rw [cM,Iu];exact hl,by simpa using rv⟩) (λb u z=>by have z':(none:Option HO)=some u:=z;cases z') (λb z=>absurd rfl z) λz=>absurd rfl z
 | none =>
  refine core (λb=>if b=a then some (.je { cls:=.type "list",data:=.seq vs.toArray } (.lst (ns.map V.int))) else none) (λb=>?_) (.inl (.inr ⟨{ cls:=.type "list",data:=.seq vs.toArray },ax rfl⟩)) (λb u z=>?_) (λb z=>?_) λ_=>hk
  .by_cases hb:b=a
   .exact .inr ⟨_,_,ax hb⟩
   exact .inl (ay hb)
  .by_cases hb:b=a
   .have z':=(ax hb).symm.trans z;cases z';subst hb;exact⟨ha,by rw [av];exact hl,vs,_,rv,ha⟩
   have z':=(ay hb).symm.trans z;cases z'
  by_cases hb:b=a
  .exact hb
  exact absurd (ay hb) z
abbrev KOf {K:a8}{h:Heap}(_:K.In h):a8:=K
def NL {l:PySem.W.OpenLaw}{n k:Nat}{q:Program}{loose:List Str}{XP:(Str->Option Value)->Heap->Prop}{YP:World->Heap->Prop}{d:DefRec}{K:Params->a8}{CX:World->wI}{sp:World->Sp}{x:Str}
  (hn:l.most=some n)(CZ:n<=sizeLine)(IU:d.params.defaults=[])(hr:eI k callerA)
  (hY:∀(w:World)(h:Heap),YP w h->(K w.params).In h)
  (F:∀(w:World)(mg:Str->Option Value)(fa:Addr)(h:Heap),(K w.params).In h->h.Ns mainGlobals mg->mg d.name=some (.ref fa) ->
   ∃fd:FuncData,(∀(s:Shared)(u:Value),BindsTo s fd ⟨[u],[]⟩ [(x,u)]) /\
    ∀base:Heap,(K w.params).In base->base.Ns mainGlobals mg->bN l.prog w (K w.params) mg base (CX w) k fa fd [x] (sp w))
  (wB:∀(w:World)(H:Hp)(a:Addr)(ns:List Int),ns.length<=n->JE H->aH (K w.params) H a (ns.map V.int)->sp w [.ref a] H (λv _=>v=.bl true) λ_ _ _=>False)
  (I9:∀(w:World)(H:Hp)(s:Shared)(e:Value)(s':Shared),CX w [] H s (λ_ _ _=>False) e s'->False) :
  PySem.W.WalkO q loose XP YP l.row.toRowW d [] (λf vs=>PySem.call f vs):=by
 refine Er.n5 hn IU λw s₀ s₁ mg mb fa o pm cd doc a vs ns G Y ho hd uA IL CV hints bq hg=>?_;have KX:=hY w _ Y;obtain⟨fd,hb,hF⟩:=F w mg fa _ KX G.T.g IL;exact CM KX G.T.g G.T.b G.T.builtins G.T.nolimit hg CV hints (fU bq CZ) hr hF hb (λH hO hS=>wB w H a ns bq hO hS) λH e s'=>I9 w H s₁ e s'
def cW (s:Stmt):Arguments:=match s with
 | .FunctionDef _ a _ _ _ _ _ _ _ _=>a
 | _=>{ posonlyargs:=[],args:=[],vararg:=none,kwonlyargs:=[],kw_defaults:=[],kwarg:=none,defaults:=[] }
def bV (s:Stmt):List Stmt:=match s with
 | .FunctionDef _ _ b _ _ _ _ _ _ _=>b
 | _=>[]
def az (s:Stmt):Scope:=match s with
 | .FunctionDef _ _ _ _ _ _ sc _ _ _=>sc
 | _=>{ kind:=.function,names:=[],isGenerator:=false,isCoroutine:=false }
abbrev fS:wI:=λ_ _ _ _ _ _=>False
abbrev E0:XK:=λ_ _ _=>False
def rB {X:Cx}:Passes fS X E0:=λ_ _ _ _ _ _ _ h=>h.elim
structure ik (K:a8)(x qual:Str)(st:Stmt)(f:Addr)(fd:FuncData):Prop where
 ex:∃(oc:Value)(od:Option Addr)(kV doc pm:Value)(an:Option Addr)(d0 ct:Value)(vv:Array (Option Value)),
  fd=PySem.W.fnOf x qual (cW st) (bV st) (az st) .none kV doc pm an d0 ct/\K.lookup f=some ⟨oc,od,.func fd,vv⟩/\PySem.W.codeIn K d0 qual=true
 kp:PySem.W.keepIn K (.ref f)=true
section
variable {P:Program}{w:World}{K:a8}{mg:Str->Option Value}{base:Heap}
def ik.ok {x qual:Str}{st:Stmt}{f:Addr}{fd:FuncData}{N ps:List Str}{k:Nat}{sp:Sp}(F:ik K x qual st f fd)(S:aN N ps (az st))(len:∀vs H Q E,sp vs H Q E->vs.length=ps.length)
  (iH:∀(d0:Value)(A:Around)(outer:List Env)(s:Shared)(H:Hp)(vs:List V)(Q:VK)(E:XK),eI k (A.deeper (envOfC qual (az st) s.heap.objs.size f d0))->sp vs H Q E ->
   ∃t,yp (nF fS P w K mg base N qual (az st) f d0 A outer s H E).Ad (bV st) t/\t { nx:=λ_ H'=>Q .fJ H',rt:=Q } (start N vs) H):bN P w K mg base fS (k+1) f fd ps sp:=by
 obtain⟨oc,od,kV,doc,pm,an,d0,ct,vv,rfl,lk,uA⟩:=F.ex;refine Dc lk uA S len λA outer s H vs Q E hr wB=>?_;obtain⟨t,h,q⟩:=iH d0 A outer s H vs Q E hr wB;exact⟨t,h.Ad,q⟩
def ik.binds {x qual:Str}{st:Stmt}{f:Addr}{fd:FuncData}{ps:List Str}(F:ik K x qual st f fd)
  (h:∀(kV doc pm:Value)(an:Option Addr)(d0 ct:Value)(us:List Value),us.length=ps.length->bindArgs (PySem.W.fnOf x qual (cW st) (bV st) (az st) .none kV doc pm an d0 ct) ⟨us,[]⟩=pure (ps.zip us)):Binds K fd ps []:=by
 obtain⟨oc,od,kV,doc,pm,an,d0,ct,vv,rfl,lk,uA⟩:=F.ex;exact .all (h kV doc pm an d0 ct)
def C8 {x qual:Str}{st:Stmt}{f:Addr}{oc:Value}{od an:Option Addr}{vv:Array (Option Value)}{kV doc pm d0 ct:Value}(l:K.lookup f=some ⟨oc,od,.func (PySem.W.fnOf x qual (cW st) (bV st) (az st) .none kV doc pm an d0 ct),vv⟩)
  (c:PySem.W.codeIn K d0 qual=true)(k:PySem.W.keepIn K (.ref f)=true):ik K x qual st f (PySem.W.fnOf x qual (cW st) (bV st) (az st) .none kV doc pm an d0 ct):=⟨⟨oc,od,kV,doc,pm,an,d0,ct,vv,rfl,l,c⟩,k⟩
end
def gp {A:Around}{k:Nat}(hr:eI k A):A.units+1 < cLine:=oV (Nat.add_le_add_left (by decide:1<=64) _) hr.units
section
variable {X:Cx}
def pv (i:Nat){x:Str}{pos:Pos}(hN:X.N[i]?=some x:=by rfl)(hv:OB X.env.scope x:=by first | exact Or.inl rfl | exact Or.inr (ba rfl) | exact Or.inr (Or.inr rfl))(hd:(x == ("__debug__":Str))=false:=by decide)
  (uA:(x == ("__classdict__":Str))=false:=by decide):PE X (.Name x pos) (fO i):=HX hN hv hd uA
end
def hJ {A B:Prop}(h:B):if false=true then A else B:=by
 rw [ay cZ];exact h
def ID {A B:Prop}(h:A):if true=true then A else B:=by
 rw [ax rfl];exact h
def cu {c A B:Prop} [Decidable c] (h1:c->A)(h2:¬c->B):if c then A else B:=by
 by_cases h:c
 .rw [ax h];exact h1 h
 rw [ay h];exact h2 h
def aC (H H':Hp):Prop:=∀b o,H b=some o->H' b=some o
def aC.refl (H:Hp):aC H H:=λ_ _ h=>h
def aC.trans {H H1 H2:Hp}(a:aC H H1)(b:aC H1 H2):aC H H2:=λc o h=>b c o (a c o h)
def aC.free {H H':Hp}(e:aC H H'){l:Addr}(h:H' l=Option.none):H l=Option.none:=by
 cases q:H l with
 | none=>rfl
 | some o =>
  rw [e l o q] at h;cases h
def aC.seq {K:a8}{H H':Hp}{a:Addr}{xs:List V}(e:aC H H')(h:aH K H a xs):aH K H' a xs:=by
 rcases h with (h | ⟨o,h⟩) | h
 .exact .inl (.inl (e _ _ h))
 .exact .inl (.inr ⟨o,e _ _ h⟩)
 exact .inr h
end L2
namespace HD
open PySem PySem.W
def B0 (st:SharedT->Thread->Option (SharedT×Thread))(ok:Thread->Bool):Nat->SharedT->Thread->Option SharedT
 | 0,_,_=>none
 | n+1,s,t=>match through t with
  | true=>some s
  | false=>match ok t with
   | false=>none
   | true=>match st s t with
    | some (s',t')=>B0 st ok n s' t'
    | none=>none
theorem yX {tb:String->Option Builtin}{p:Program}{w:World}{n₀:Nat}{ann:Option Value}:∀{n:Nat}{s s':SharedT}{t:Thread},B0 (stepT (denote tb) p w) (stepOk n₀ ann) n s t=some s'->topRun tb p w n₀ ann n s.abs t=some s'.abs
 | 0,_,_,_,h=>by cases h
 | n+1,s,s',t,h=>by
  unfold B0 at h;unfold topRun;cases he:through t with
  | true=>rw [he] at h;cases h;rfl
  | false =>
   rw [he] at h;cases hk:stepOk n₀ ann t with
   | false=>rw [hk] at h;cases h
   | true =>
    rw [hk] at h;cases hs:stepT (denote tb) p w s t with
    | none=>rw [hs] at h;cases h
    | some r=>obtain⟨s₂,t₂⟩:=r;rw [hs] at h;rw [stepT_spec hs];exact yX h
def Tw:List Obj->Nat->BT->BT
 | [],_,t=>t
 | o::r,i,t=>Tw r (i+1) (t.ins i o)
noncomputable def zF (P:Params):BT:=Tw (boot_heap P).objs.toList 0 .nil
def AN (P:Params):absHeap (zF P) 11 {}=boot_heap P:=by kernel_rfl
def Jd {β:Type}:Obj->(Obj->β)->β
 | ⟨c,d,t,s⟩,k=>k ⟨c,d,t,s⟩
def oC {β:Type}:List Obj->(List Obj->β)->β
 | [],k=>k []
 | x::r,k=>Jd x λy=>oC r λys=>k (y::ys)
theorem pU {β:Type}:∀(l:List Obj)(k:List Obj->β),oC l k=k l
 | [],_=>rfl
 | ⟨c,d,t,s⟩::r,k=>by
  show oC r (λys=>k (⟨c,d,t,s⟩::ys))=_;rw [pU r]
def CK (p q:Program) (loose:List Str)(Xt:Shared->Bool){α:Type}(Yf:Shared->α)(g0:Bool)(h₀:Heap)(s:Shared) :=
 ((staticsOk (importedModules p.main.body) h₀ s.heap && namesBound p s.heap && gensDone s && laidKept h₀ s.heap),openSeen q loose (importedModules p.main.body) Xt g0 s,Yf s)
def BH {β:Type}(f:Shared->β)(s:SharedT):β:=oC (s.tree.list s.n) λl=>f ⟨⟨l.toArray,s.life⟩,s.gens,s.drawn,s.toks,s.os⟩
def BG {β:Type}(f:Shared->β)(s:SharedT):BH f s=f s.abs:=pU _ _
def LG {p q:Program}{loose:List Str}{Xt:Shared->Bool}{α:Type}{Yf:Shared->α}{Ya:World->α}{N:Nat}{g0:Bool}{ann:Option Value}{M:Nat}
  (Cd:∀w:World,(fencedOpening treeTable p w N).map (λs=>(s.heap,s.gens,s.drawn,s.toks))=some (boot_heap w.params,Array.mk [],boot_drawn,boot_toks))
  (size:∀w:World,((boot_heap w.params).isNs mainGlobals && (Array.mk []:Array GenState).size == 0,(boot_heap w.params).objs.size,(boot_heap w.params).nsMap mainGlobals "__annotations__")=(true,11,ann))
  (run:∀(w:World)(os:OsState),(B0 (stepT (denote treeTable) p w) (stepOk 11 ann) M ⟨zF w.params,11,{},Array.mk [],boot_drawn,boot_toks,os⟩ (topStub p)).map (BH (CK p q loose Xt Yf g0 (boot_heap w.params)))=some (true,openGood q loose,Ya w))
  (le:Nat.ble M N=true):LeftO p q loose Xt Yf Ya N g0:=λw=>by
 obtain⟨⟨h,gs,d,k,os⟩,e,e'⟩:=b9.mp (Cd w);obtain⟨rfl,rfl,rfl,rfl⟩:h=boot_heap w.params/\gs=Array.mk []/\d=boot_drawn/\k=boot_toks:=by simpa using e'
 obtain⟨z1,z2,z3⟩:_/\_/\_:=by simpa only [oP] using size w
 obtain⟨s',r0,l0⟩:=b9.mp (run w os);rw [BG] at l0;obtain⟨l1,l2,l3⟩:_/\_/\_:=by simpa only [CK,oP] using l0
 have r:=yX r0;have ea:SharedT.abs ⟨zF w.params,11,{},Array.mk [],boot_drawn,boot_toks,os⟩=⟨boot_heap w.params,Array.mk [],boot_drawn,boot_toks,os⟩:=by
  unfold SharedT.abs;rw [AN]
 rw [ea] at r;have r:=topRun_mono (N - M) _ _ _ _ r;rw [show M+(N - M)=N by have:=Nat.le_of_ble_eq_true le;omega] at r;have t:topFrom treeTable p w N ⟨boot_heap w.params,Array.mk [],boot_drawn,boot_toks,os⟩=some s'.abs:=by
  unfold topFrom;dsimp only;rw [z1,z2,z3,r];show (match staticsOk (importedModules p.main.body) (boot_heap w.params) s'.abs.heap && namesBound p s'.abs.heap && gensDone s'.abs && laidKept (boot_heap w.params) s'.abs.heap with | true=>_ | false=>_)=_
  rw [l1]
 unfold openEnds;rw [e];show (topFrom treeTable p w N _).map _=_;rw [t];exact congrArg some (Prod.ext l2 l3)
end HD
set_option maxHeartbeats 0
namespace HD
open PySem PySem.W L2 PySem.Challenge
def dE (P:Params)(x:Str)(t:Tok)(v:Value):DictEntry:=⟨PyData.keyHash P x,.str x t,v⟩
def top (p:Program) (i:Nat):Stmt:=p.main.body.getD i (.Pass ⟨0,0,0,0⟩)
def iC (p:Program) (i j:Nat):Stmt:=match top p i with
 | .ClassDef _ _ _ body _ _ _ _ _ _ _=>body.getD j (.Pass ⟨0,0,0,0⟩)
 | _=>.Pass ⟨0,0,0,0⟩
def posOf (s:Stmt):Pos:=match s with
 | .FunctionDef _ _ _ _ _ _ _ _ _ p=>p
 | _=>⟨0,0,0,0⟩
def cF (a:Addr)(n q:Str)(i:Nat)(l m:Int)(x y:Addr)(u v s t:Value)(z:Int)(w:Nat):Addr×Obj:=(a,⟨.type "code",none,.fields #[.str n i,.str q (i+1),.str "/claim/cut.py" (i+2),.int l 0,.int m 0,.int 0 0,.int 0 0,.int 3 0,.ref x,.bool true,.int 181 0,.ref y,u,v,s,t,.int z 0,.int l 0,.str "/claim/cut.py" w],#[]⟩)
def fF (a:Addr)(n q:Str)(s:Stmt)(m:Value):Addr×Obj:=(a,⟨.type "function",none,.func (fnOf n q (cW s) (bV s) (az s) .none .none .none m none (.ref (a-1)) .none),#[]⟩)
def dR (P:Params)(x:Str)(t:Tok)(a:Addr):DictEntry:=dE P x t (.ref a)
def m0:Value:=.str "__main__" 164
def m1:Value:=.str "wright.begins" 194
def m2:Value:=.str "wright.rules" 203
def m3:Value:=.str "wright.begin_tables" 235
def m4:Value:=.str "wright.errors" 329
def m5:Value:=.str "wright.loops" 490
def m6:Value:=.str "wright.tree_sizes" 520
def m7:Value:=.str "wright.grammar_faults" 541
def m8:Value:=.str "wright.least_trees" 568
def m9:Value:=.str "wright.grammars" 654
def nR:Value:=.str "law_wright_k20_what_can_be_empty" 697
noncomputable def K' (p:Program)(P:Params):Frag:=[
 (2,⟨.none,none,.dict #[] 0,#[]⟩),
 (3,⟨.type "dict",none,.dict #[dE P "__name__" 165 (.str "law_wright_k20_what_can_be_empty" 697),dE P "__doc__" 166 (.none),dE P "__package__" 167 (.none),dE P "__loader__" 168 (.builtin "__main__.__loader__#opaque"),dE P "__spec__" 169 (.none),dR P "__annotations__" 170 6,dR P "__builtins__" 171 4,dE P "__file__" 173 (.str "/claim/cut.py" 172),dE P "__cached__" 174 (.none),dR P "_wall" 193 21,dR P "empties_of" 202 28,dR P "heads_of" 210 33,dR P "words_in" 216 38,dR P "numbers_by_name" 222 43,dR P "standings_by_part" 234 50,dR P "found_empties" 242 55,dR P "first_places" 253 62,dR P "BeginTable" 328 112,dR P "WrightError" 348 126,dR P "NoRules" 364 139,dR P "Twice" 389 158,dR P "Endless" 414 177,dR P "Unmet" 439 196,dR P "Loop" 464 215,dR P "Vast" 489 234,dR P "find_loop" 497 241,dR P "steps_with_like_rows" 503 246,dR P "way_back" 519 253,dR P "least_sizes" 527 258,dR P "greatest_empty_sizes" 534 265,dR P "settled_sizes" 540 270,dE P "MOST_RULES" 544 (.int (60) 543),dR P "refuse_faults" 550 275,dR P "refuse_twice" 561 282,dR P "names_met" 567 287,dR P "least_by_part" 575 292,dR P "rule_size" 581 297,dR P "empty_by_name" 587 302,dR P "LeastTrees" 653 345,dR P "Grammar" 696 374,dR P "_law_cell_at" 706 385,dR P "_law_names" 712 390,dR P "_law_words" 719 397,dR P "_law_digits" 731 404,dR P "_law_skeleton" 745 411,dR P "_law_more" 761 418,dR P "_law_ended" 767 423,dR P "_law_not_vast" 773 428,dR P "_law_good" 779 433,dR P "_law_grammar" 793 440,dR P "_law_deep" 804 447,dR P "_law_stands" 810 452,dR P "law" 816 457] 53,#[]⟩),
 (cF 20 "_wall" "_wall" 187 1 1 15 16 .none (.ref 17) (.ref 18) (.ref 19) 191 192),
 (fF 21 "_wall" "_wall" (top p 0) m0),
 (cF 27 "empties_of" "empties_of" 196 5 1 22 23 .none (.ref 24) (.ref 25) (.ref 26) 200 201),
 (fF 28 "empties_of" "empties_of" (top p 2) m1),
 (cF 32 "heads_of" "heads_of" 205 8 1 29 30 .none .none .none (.ref 31) 208 209),
 (fF 33 "heads_of" "heads_of" (top p 4) m2),
 (cF 37 "words_in" "words_in" 211 10 1 34 35 .none .none .none (.ref 36) 214 215),
 (fF 38 "words_in" "words_in" (top p 5) m2),
 (cF 42 "numbers_by_name" "numbers_by_name" 217 18 1 39 40 .none .none .none (.ref 41) 220 221),
 (fF 43 "numbers_by_name" "numbers_by_name" (top p 6) m2),
 (cF 49 "standings_by_part" "standings_by_part" 223 23 1 44 45 .none (.ref 46) (.ref 47) (.ref 48) 232 233),
 (fF 50 "standings_by_part" "standings_by_part" (top p 7) m2),
 (cF 54 "found_empties" "found_empties" 237 30 1 51 52 .none .none .none (.ref 53) 240 241),
 (fF 55 "found_empties" "found_empties" (top p 9) m3),
 (cF 61 "first_places" "first_places" 243 41 2 56 57 .none (.ref 58) (.ref 59) (.ref 60) 251 252),
 (fF 62 "first_places" "first_places" (top p 10) m3),
 (cF 73 "__init__" "BeginTable.__init__" 266 50 2 70 71 .none .none .none (.ref 72) 269 270),
 (fF 74 "__init__" "BeginTable.__init__" (iC p 11 0) m3),
 (cF 80 "find_begins" "BeginTable.find_begins" 272 61 3 75 76 .none (.ref 77) (.ref 78) (.ref 79) 281 282),
 (fF 81 "find_begins" "BeginTable.find_begins" (iC p 11 1) m3),
 (cF 87 "words_of_part" "BeginTable.words_of_part" 284 69 2 82 83 .none (.ref 84) (.ref 85) (.ref 86) 289 290),
 (fF 88 "words_of_part" "BeginTable.words_of_part" (iC p 11 2) m3),
 (cF 94 "first_words" "BeginTable.first_words" 292 72 2 89 90 .none (.ref 91) (.ref 92) (.ref 93) 297 298),
 (fF 95 "first_words" "BeginTable.first_words" (iC p 11 3) m3),
 (cF 101 "all_empty" "BeginTable.all_empty" 300 75 2 96 97 .none (.ref 98) (.ref 99) (.ref 100) 305 306),
 (fF 102 "all_empty" "BeginTable.all_empty" (iC p 11 4) m3),
 (cF 108 "words_of_parts" "BeginTable.words_of_parts" 308 78 3 103 104 .none (.ref 105) (.ref 106) (.ref 107) 314 315),
 (fF 109 "words_of_parts" "BeginTable.words_of_parts" (iC p 11 5) m3),
 (111,⟨.type "dict",none,.dict #[dE P "__module__" 261 (.str "wright.begin_tables" 235),dE P "__firstlineno__" 265 (.int (48) 264),dR P "__init__" 271 74,dR P "find_begins" 283 81,dR P "words_of_part" 291 88,dR P "first_words" 299 95,dR P "all_empty" 307 102,dR P "words_of_parts" 316 109,dR P "__static_attributes__" 321 110,dR P "__dict__" 323 113,dR P "__weakref__" 325 114,dE P "__doc__" 326 (.none)] 4,#[]⟩),
 (112,⟨.type "type",none,.cls ⟨"BeginTable",[.type "object"],[.ref 112,.type "object"],111,"BeginTable",true,[],[],false,none,false⟩,#[none,none,some (.str "BeginTable" 254),some (.str "BeginTable" 262),some (.builtin "object.__new__"),some (.bool true)]⟩),
 (113,⟨.type "getset_descriptor",none,.fields #[.str "__dict__" 322,.ref 112,.builtin "function.__dict__",.builtin "function.__dict__#set"],#[]⟩),
 (114,⟨.type "getset_descriptor",none,.fields #[.str "__weakref__" 324,.ref 112,.builtin "ExceptionGroup.__weakref__",.none],#[]⟩),
 (125,⟨.type "dict",none,.dict #[dE P "__module__" 338 (.str "wright.errors" 329),dE P "__firstlineno__" 342 (.int (81) 341),dR P "__static_attributes__" 343 124,dR P "__weakref__" 345 127,dE P "__doc__" 346 (.none)] 3,#[]⟩),
 (126,⟨.type "type",none,.cls ⟨"WrightError",[.type "ValueError"],[.ref 126,.type "ValueError",.type "Exception",.type "BaseException",.type "object"],125,"WrightError",true,[],[.ref 139,.ref 158,.ref 177,.ref 196,.ref 215,.ref 234],false,none,false⟩,#[some (.ref 117),none,some (.str "WrightError" 331),some (.str "WrightError" 339),some (.builtin "ValueError.__new__"),some (.bool true)]⟩),
 (127,⟨.type "getset_descriptor",none,.fields #[.str "__weakref__" 344,.ref 126,.builtin "ExceptionGroup.__weakref__",.none],#[]⟩),
 (138,⟨.type "dict",none,.dict #[dE P "__module__" 356 (.str "wright.errors" 329),dE P "__firstlineno__" 360 (.int (83) 359),dR P "__static_attributes__" 361 137,dE P "__doc__" 362 (.none)] 2,#[]⟩),
 (139,⟨.type "type",none,.cls ⟨"NoRules",[.ref 126],[.ref 139,.ref 126,.type "ValueError",.type "Exception",.type "BaseException",.type "object"],138,"NoRules",true,[],[],false,none,false⟩,#[some (.ref 130),none,some (.str "NoRules" 349),some (.str "NoRules" 357),some (.builtin "ValueError.__new__"),some (.bool true)]⟩),
 (cF 154 "__init__" "Twice.__init__" 377 87 2 149 150 .none (.ref 151) (.ref 152) (.ref 153) 382 383),
 (fF 155 "__init__" "Twice.__init__" (iC p 15 0) m4),
 (157,⟨.type "dict",none,.dict #[dE P "__module__" 372 (.str "wright.errors" 329),dE P "__firstlineno__" 376 (.int (85) 375),dR P "__init__" 384 155,dR P "__static_attributes__" 386 156,dE P "__doc__" 387 (.none)] 2,#[]⟩),
 (158,⟨.type "type",none,.cls ⟨"Twice",[.ref 126],[.ref 158,.ref 126,.type "ValueError",.type "Exception",.type "BaseException",.type "object"],157,"Twice",true,[],[],false,none,false⟩,#[some (.ref 142),none,some (.str "Twice" 365),some (.str "Twice" 373),some (.builtin "ValueError.__new__"),some (.bool true)]⟩),
 (cF 173 "__init__" "Endless.__init__" 402 92 2 168 169 .none (.ref 170) (.ref 171) (.ref 172) 407 408),
 (fF 174 "__init__" "Endless.__init__" (iC p 16 0) m4),
 (176,⟨.type "dict",none,.dict #[dE P "__module__" 397 (.str "wright.errors" 329),dE P "__firstlineno__" 401 (.int (90) 400),dR P "__init__" 409 174,dR P "__static_attributes__" 411 175,dE P "__doc__" 412 (.none)] 2,#[]⟩),
 (177,⟨.type "type",none,.cls ⟨"Endless",[.ref 126],[.ref 177,.ref 126,.type "ValueError",.type "Exception",.type "BaseException",.type "object"],176,"Endless",true,[],[],false,none,false⟩,#[some (.ref 161),none,some (.str "Endless" 390),some (.str "Endless" 398),some (.builtin "ValueError.__new__"),some (.bool true)]⟩),
 (cF 192 "__init__" "Unmet.__init__" 427 97 2 187 188 .none (.ref 189) (.ref 190) (.ref 191) 432 433),
 (fF 193 "__init__" "Unmet.__init__" (iC p 17 0) m4),
 (195,⟨.type "dict",none,.dict #[dE P "__module__" 422 (.str "wright.errors" 329),dE P "__firstlineno__" 426 (.int (95) 425),dR P "__init__" 434 193,dR P "__static_attributes__" 436 194,dE P "__doc__" 437 (.none)] 2,#[]⟩),
 (196,⟨.type "type",none,.cls ⟨"Unmet",[.ref 126],[.ref 196,.ref 126,.type "ValueError",.type "Exception",.type "BaseException",.type "object"],195,"Unmet",true,[],[],false,none,false⟩,#[some (.ref 180),none,some (.str "Unmet" 415),some (.str "Unmet" 423),some (.builtin "ValueError.__new__"),some (.bool true)]⟩),
 (cF 211 "__init__" "Loop.__init__" 452 102 2 206 207 .none (.ref 208) (.ref 209) (.ref 210) 457 458),
 (fF 212 "__init__" "Loop.__init__" (iC p 18 0) m4),
 (214,⟨.type "dict",none,.dict #[dE P "__module__" 447 (.str "wright.errors" 329),dE P "__firstlineno__" 451 (.int (100) 450),dR P "__init__" 459 212,dR P "__static_attributes__" 461 213,dE P "__doc__" 462 (.none)] 2,#[]⟩),
 (215,⟨.type "type",none,.cls ⟨"Loop",[.ref 126],[.ref 215,.ref 126,.type "ValueError",.type "Exception",.type "BaseException",.type "object"],214,"Loop",true,[],[],false,none,false⟩,#[some (.ref 199),none,some (.str "Loop" 440),some (.str "Loop" 448),some (.builtin "ValueError.__new__"),some (.bool true)]⟩),
 (cF 230 "__init__" "Vast.__init__" 477 107 2 225 226 .none (.ref 227) (.ref 228) (.ref 229) 482 483),
 (fF 231 "__init__" "Vast.__init__" (iC p 19 0) m4),
 (233,⟨.type "dict",none,.dict #[dE P "__module__" 472 (.str "wright.errors" 329),dE P "__firstlineno__" 476 (.int (105) 475),dR P "__init__" 484 231,dR P "__static_attributes__" 486 232,dE P "__doc__" 487 (.none)] 2,#[]⟩),
 (234,⟨.type "type",none,.cls ⟨"Vast",[.ref 126],[.ref 234,.ref 126,.type "ValueError",.type "Exception",.type "BaseException",.type "object"],233,"Vast",true,[],[],false,none,false⟩,#[some (.ref 218),none,some (.str "Vast" 465),some (.str "Vast" 473),some (.builtin "ValueError.__new__"),some (.bool true)]⟩),
 (cF 240 "find_loop" "find_loop" 492 111 1 237 238 .none .none .none (.ref 239) 495 496),
 (fF 241 "find_loop" "find_loop" (top p 21) m5),
 (cF 245 "steps_with_like_rows" "steps_with_like_rows" 498 115 1 242 243 .none .none .none (.ref 244) 501 502),
 (fF 246 "steps_with_like_rows" "steps_with_like_rows" (top p 22) m5),
 (cF 252 "way_back" "way_back" 504 124 3 247 248 .none (.ref 249) (.ref 250) (.ref 251) 517 518),
 (fF 253 "way_back" "way_back" (top p 23) m5),
 (cF 257 "least_sizes" "least_sizes" 522 140 1 254 255 .none .none .none (.ref 256) 525 526),
 (fF 258 "least_sizes" "least_sizes" (top p 25) m6),
 (cF 264 "greatest_empty_sizes" "greatest_empty_sizes" 528 142 1 259 260 .none (.ref 261) (.ref 262) (.ref 263) 532 533),
 (fF 265 "greatest_empty_sizes" "greatest_empty_sizes" (top p 26) m6),
 (cF 269 "settled_sizes" "settled_sizes" 535 144 3 266 267 .none .none .none (.ref 268) 538 539),
 (fF 270 "settled_sizes" "settled_sizes" (top p 27) m6),
 (cF 274 "refuse_faults" "refuse_faults" 545 157 2 271 272 .none .none .none (.ref 273) 548 549),
 (fF 275 "refuse_faults" "refuse_faults" (top p 30) m7),
 (cF 281 "refuse_twice" "refuse_twice" 551 176 1 276 277 .none (.ref 278) (.ref 279) (.ref 280) 559 560),
 (fF 282 "refuse_twice" "refuse_twice" (top p 31) m7),
 (cF 286 "names_met" "names_met" 562 183 1 283 284 .none .none .none (.ref 285) 565 566),
 (fF 287 "names_met" "names_met" (top p 32) m7),
 (cF 291 "least_by_part" "least_by_part" 570 193 1 288 289 .none .none .none (.ref 290) 573 574),
 (fF 292 "least_by_part" "least_by_part" (top p 34) m8),
 (cF 296 "rule_size" "rule_size" 576 201 2 293 294 .none .none .none (.ref 295) 579 580),
 (fF 297 "rule_size" "rule_size" (top p 35) m8),
 (cF 301 "empty_by_name" "empty_by_name" 582 203 2 298 299 .none .none .none (.ref 300) 585 586),
 (fF 302 "empty_by_name" "empty_by_name" (top p 36) m8),
 (cF 313 "__init__" "LeastTrees.__init__" 600 210 3 310 311 .none .none .none (.ref 312) 603 604),
 (fF 314 "__init__" "LeastTrees.__init__" (iC p 37 0) m8),
 (cF 320 "least_of" "LeastTrees.least_of" 606 217 2 315 316 .none (.ref 317) (.ref 318) (.ref 319) 611 612),
 (fF 321 "least_of" "LeastTrees.least_of" (iC p 37 1) m8),
 (cF 327 "hollow_of" "LeastTrees.hollow_of" 614 220 2 322 323 .none (.ref 324) (.ref 325) (.ref 326) 619 620),
 (fF 328 "hollow_of" "LeastTrees.hollow_of" (iC p 37 2) m8),
 (cF 334 "begun_place" "LeastTrees.begun_place" 622 223 3 329 330 .none (.ref 331) (.ref 332) (.ref 333) 628 629),
 (fF 335 "begun_place" "LeastTrees.begun_place" (iC p 37 3) m8),
 (cF 341 "begun_of" "LeastTrees.begun_of" 631 226 4 336 337 .none (.ref 338) (.ref 339) (.ref 340) 638 639),
 (fF 342 "begun_of" "LeastTrees.begun_of" (iC p 37 4) m8),
 (344,⟨.type "dict",none,.dict #[dE P "__module__" 595 (.str "wright.least_trees" 568),dE P "__firstlineno__" 599 (.int (208) 598),dR P "__init__" 605 314,dR P "least_of" 613 321,dR P "hollow_of" 621 328,dR P "begun_place" 630 335,dR P "begun_of" 640 342,dR P "__static_attributes__" 646 343,dR P "__dict__" 648 346,dR P "__weakref__" 650 347,dE P "__doc__" 651 (.none)] 4,#[]⟩),
 (345,⟨.type "type",none,.cls ⟨"LeastTrees",[.type "object"],[.ref 345,.type "object"],344,"LeastTrees",true,[],[],false,none,false⟩,#[none,none,some (.str "LeastTrees" 588),some (.str "LeastTrees" 596),some (.builtin "object.__new__"),some (.bool true)]⟩),
 (346,⟨.type "getset_descriptor",none,.fields #[.str "__dict__" 647,.ref 345,.builtin "function.__dict__",.builtin "function.__dict__#set"],#[]⟩),
 (347,⟨.type "getset_descriptor",none,.fields #[.str "__weakref__" 649,.ref 345,.builtin "ExceptionGroup.__weakref__",.none],#[]⟩),
 (357,⟨.type "tuple",none,.seq #[.none] 0,#[]⟩),
 (cF 363 "__init__" "Grammar.__init__" 668 231 3 358 359 .none (.ref 360) (.ref 361) (.ref 362) 674 675),
 (364,⟨.type "function",none,.func (fnOf "__init__" "Grammar.__init__" (cW (iC p 39 0)) (bV (iC p 39 0)) (az (iC p 39 0)) (.ref 357) (.none) (.none) (.str "wright.grammars" 654) (none) (.ref 363) (.none)),#[]⟩),
 (cF 370 "start" "Grammar.start" 677 239 1 365 366 .none (.ref 367) (.ref 368) (.ref 369) 681 682),
 (fF 371 "start" "Grammar.start" (iC p 39 1) m9),
 (373,⟨.type "dict",none,.dict #[dE P "__module__" 663 (.str "wright.grammars" 654),dE P "__firstlineno__" 667 (.int (229) 666),dR P "__init__" 676 364,dR P "start" 683 371,dR P "__static_attributes__" 689 372,dR P "__dict__" 691 375,dR P "__weakref__" 693 376,dE P "__doc__" 694 (.none)] 4,#[]⟩),
 (374,⟨.type "type",none,.cls ⟨"Grammar",[.type "object"],[.ref 374,.type "object"],373,"Grammar",true,[],[],false,none,false⟩,#[none,none,some (.str "Grammar" 656),some (.str "Grammar" 664),some (.builtin "object.__new__"),some (.bool true)]⟩),
 (375,⟨.type "getset_descriptor",none,.fields #[.str "__dict__" 690,.ref 374,.builtin "function.__dict__",.builtin "function.__dict__#set"],#[]⟩),
 (376,⟨.type "getset_descriptor",none,.fields #[.str "__weakref__" 692,.ref 374,.builtin "ExceptionGroup.__weakref__",.none],#[]⟩),
 (cF 384 "_law_cell_at" "_law_cell_at" 699 242 2 379 380 .none (.ref 381) (.ref 382) (.ref 383) 704 705),
 (fF 385 "_law_cell_at" "_law_cell_at" (top p 41) nR),
 (cF 389 "_law_names" "_law_names" 707 246 1 386 387 .none .none .none (.ref 388) 710 711),
 (fF 390 "_law_names" "_law_names" (top p 42) nR),
 (cF 396 "_law_words" "_law_words" 713 252 1 391 392 .none (.ref 393) (.ref 394) (.ref 395) 717 718),
 (fF 397 "_law_words" "_law_words" (top p 43) nR),
 (cF 403 "_law_digits" "_law_digits" 720 254 3 398 399 .none (.ref 400) (.ref 401) (.ref 402) 729 730),
 (fF 404 "_law_digits" "_law_digits" (top p 44) nR),
 (cF 410 "_law_skeleton" "_law_skeleton" 732 265 4 405 406 .none (.ref 407) (.ref 408) (.ref 409) 743 744),
 (fF 411 "_law_skeleton" "_law_skeleton" (top p 45) nR),
 (cF 417 "_law_more" "_law_more" 746 276 5 412 413 .none (.ref 414) (.ref 415) (.ref 416) 759 760),
 (fF 418 "_law_more" "_law_more" (top p 46) nR),
 (cF 422 "_law_ended" "_law_ended" 762 286 2 419 420 .none .none .none (.ref 421) 765 766),
 (fF 423 "_law_ended" "_law_ended" (top p 47) nR),
 (cF 427 "_law_not_vast" "_law_not_vast" 768 295 2 424 425 .none .none .none (.ref 426) 771 772),
 (fF 428 "_law_not_vast" "_law_not_vast" (top p 48) nR),
 (cF 432 "_law_good" "_law_good" 774 308 1 429 430 .none .none .none (.ref 431) 777 778),
 (fF 433 "_law_good" "_law_good" (top p 49) nR),
 (cF 439 "_law_grammar" "_law_grammar" 780 330 2 434 435 .none (.ref 436) (.ref 437) (.ref 438) 791 792),
 (fF 440 "_law_grammar" "_law_grammar" (top p 50) nR),
 (cF 446 "_law_deep" "_law_deep" 794 343 1 441 442 .none (.ref 443) (.ref 444) (.ref 445) 802 803),
 (fF 447 "_law_deep" "_law_deep" (top p 51) nR),
 (cF 451 "_law_stands" "_law_stands" 805 358 2 448 449 .none .none .none (.ref 450) 808 809),
 (fF 452 "_law_stands" "_law_stands" (top p 52) nR),
 (cF 456 "law" "law" 811 370 1 453 454 .none .none .none (.ref 455) 814 815),
 (fF 457 "law" "law" (top p 53) nR)]
def as:List Addr:=[2,3,20,21,27,28,32,33,37,38,42,43,49,50,54,55,61,62,73,74,80,81,87,88,94,95,101,102,108,109,111,112,113,114,125,126,127,138,139,154,155,157,158,173,174,176,177,192,193,195,196,211,212,214,215,230,231,233,234,240,241,245,246,252,253,257,258,264,265,269,270,274,275,281,282,286,287,291,292,296,297,301,302,313,314,320,321,327,328,334,335,341,342,344,345,346,347,357,363,364,370,371,373,374,375,376,384,385,389,390,396,397,403,404,410,411,417,418,422,423,427,428,432,433,439,440,446,447,451,452,456,457]
def q' (p:Program):Program:=view p [0,2,4,5,6,7,9,10,11,13,14,15,16,17,18,19,21,22,23,25,26,27,29,30,31,32,34,35,36,37,39,41,42,43,44,45,46,47,48,49,50,51,52,53]
abbrev loose:List Str:=[]
abbrev steps:Nat:=3699
abbrev bound:Nat:=8378
abbrev Ai:OpenLaw:=rw_wright_k20_what_can_be_empty
noncomputable abbrev K (P:Params):Frag:=K' pw_wright_k20_what_can_be_empty P
theorem Ni (P:Params):as=(K P).map (·.1):=by kernel_rfl
noncomputable abbrev hook:Hook:=kmHook K as Ni [289,260,255]
def pre (h:Ai.row.wellSaid=true->Ai.row.Holds):Ai.Holds:=by
 o_law
 exact h (by assumption)
abbrev Xt:Shared->Bool:=λs=>xlAt (q' pw_wright_k20_what_can_be_empty) [] s && recOk (RowW.records (OpenRow.toRowW (OpenLaw.row rw_wright_k20_what_can_be_empty))) s
def run (w:World)(os:OsState):(B0 (stepT (denote treeTable) pw_wright_k20_what_can_be_empty w) (stepOk 11 (some (.ref 6))) steps ⟨zF w.params,11,{},Array.mk [],boot_drawn,boot_toks,os⟩ (topStub pw_wright_k20_what_can_be_empty)).map
  (BH (CK pw_wright_k20_what_can_be_empty (q' pw_wright_k20_what_can_be_empty) loose Xt (Hook.obs hook) true (boot_heap w.params)))=some (true,openGood (q' pw_wright_k20_what_can_be_empty) loose,Hook.val hook w):=by
 rw [PySem.W.Fast.te10156331382660048174,PySem.W.Fast.te11892475500146522536,PySem.W.Fast.te14364793385576792824,PySem.W.Fast.te6613529449190102663,PySem.W.Fast.te16885189253843818917]
 kernel_rfl
theorem size (w:World):((boot_heap w.params).isNs mainGlobals && (Array.mk []:Array GenState).size == 0,(boot_heap w.params).objs.size,(boot_heap w.params).nsMap mainGlobals "__annotations__")=(true,11,some (.ref 6)):=by kernel_rfl
def Cd:∀w:World,(fencedOpening treeTable pw_wright_k20_what_can_be_empty w bound).map (λs=>(s.heap,s.gens,s.drawn,s.toks))=some (boot_heap w.params,Array.mk [],boot_drawn,boot_toks) :=
 boot_open (nofun) nofun (λs=>by kernel_rfl)
def left:LeftO (OpenRow.toRowW Ai.row).prog (q' pw_wright_k20_what_can_be_empty) loose Xt (Hook.obs hook) (Hook.val hook) bound:=LG Cd size run nofun
def jB:DefRec:={ name := "law",params:=cW (top pw_wright_k20_what_can_be_empty 53),body:=bV (top pw_wright_k20_what_can_be_empty 53),scope:=az (top pw_wright_k20_what_can_be_empty 53),pos:=posOf (top pw_wright_k20_what_can_be_empty 53) }
def WN:defOf (q' pw_wright_k20_what_can_be_empty) Ai.row.name=some (jB,[]):=by kernel_rfl
def WM:Ai.row.prog.theDef Ai.row.name=some (jB.params,jB.body,jB.scope):=by kernel_rfl
def WL:kwWritten? jB.params.kwonlyargs jB.params.kw_defaults=some []:=by kernel_rfl
def WK:(chainsOk (q' pw_wright_k20_what_can_be_empty) && opensWell Ai.row.prog && (frees Ai.row.toRowW && Ai.row.within.isEmpty))=true:=by kernel_rfl
def WJ:jB.params.defaults=[]:=by kernel_rfl
def hold (h:WalkO (q' pw_wright_k20_what_can_be_empty) loose (XL (q' pw_wright_k20_what_can_be_empty) []) (Hook.says hook) Ai.row.toRowW jB [] λf vs=>PySem.call f vs)(hw:Ai.row.toRowW.promised):Ai.Holds :=
 pre λPb=>holds_open (q:=q' pw_wright_k20_what_can_be_empty) (loose:=loose) (Xt:=Xt) (XP:=XL (q' pw_wright_k20_what_can_be_empty) []) (Yf:=Hook.obs hook) (Ya:=Hook.val hook) (YP:=Hook.says hook) (N:=bound) left (Hook.of hook) (Hook.keeps hook) (λs e=>xl_of s (ir.mp e).1) XL.keeps WN WM WL (λs e=>recFacts_of (ir.mp e).2) rfl Pb WK ⟨rfl,rfl,rfl,rfl,rfl,nofun⟩ hw h
end HD
set_option maxHeartbeats 4000000
namespace L2
open PySem PySem.Spec PyProof.Rows
abbrev qt:=Nat->St->Hp->Prop
def Dn {CX:wI}{P:Program}{w:World}{K:a8}{mg:Str->Option Value}{base:Heap}{N:List Str}{qual:Str}{scope:Scope}{f:Addr}{cd:Value}{A:Around}{outer:List Env}{s:Shared}{H:Hp}{E:XK}:(nF CX P w K mg base N qual scope f cd A outer s H E).Ad.K=K:=rfl
def P8 {t:TS}{D:Ends}{σ:St}{H:Hp}(h:let E:=D;t E σ H):t D σ H:=h
def P6 {t u:TS}{D:Ends}{σ:St}{H:Hp}(h:let E:={ D with nx:=u D };t E σ H):Hg t u D σ H:=h
def LF {t u:TS}{D:Ends}{σ:St}{H:Hp}(h:let E:=D;let F:={ E with nx:=u E };t F σ H):Hg t u D σ H:=h
def P7 {g:TG}{x:V}{σ:St}{H:Hp}{t:TS}{D:Ends}(h:let E:=D;g x σ H λσ2 H2=>t E σ2 H2):g x σ H λσ2 H2=>t D σ2 H2:=h
end L2
local macro_rules | `(tactic| nofun) => `(tactic| (dsimp only [L2.Dn];refine L2.P6 ?_;intro _))
local macro_rules | `(tactic| ac_rfl) => `(tactic| (refine L2.LF ?_;intro _ _))
local macro_rules | `(tactic| ac_nf0) => `(tactic| (refine L2.P7 ?_;intro _))
local macro_rules | `(tactic| ac_nf) => `(tactic| (refine L2.P8 ?_;intro _))
set_option maxHeartbeats 0
namespace L2
open PySem PySem.Spec PyProof.Rows
section
variable {κ:Type} [DecidableEq κ]
def a_ (kvs:List (κ×V))(k:κ):Option V:=(kvs.find? λkv=>decide (kv.1=k)).map (·.2)
def bH (kvs:List (κ×V))(k:κ)(v:V):List (κ×V) :=
 if (kvs.any λkv=>decide (kv.1=k))=true then kvs.map (λkv=>if kv.1=k then (kv.1,v) else kv) else kvs++[(k,v)]
def GI (kvs:List (κ×V))(k:κ):List (κ×V):=kvs.filter λkv=>decide (kv.1≠k)
def dP {p:κ×V}{r:List (κ×V)}{k:κ}(e:p.1=k):a_ (p::r) k=some p.2:=by simp [a_,mP,e]
def dQ {p:κ×V}{r:List (κ×V)}{k:κ}(e:¬p.1=k):a_ (p::r) k=a_ r k:=by simp [a_,mP,e]
theorem iu (k:κ):∀kvs:List (κ×V),(kvs.any λkv=>decide (kv.1=k))=(a_ kvs k).isSome
 | []=>rfl
 | p::r=>by
  rw [oO];by_cases e:p.1=k
  .simp only [dP e,eU e,Bool.true_or,Option.isSome_some]
  rw [dQ e,hU e,Bool.false_or];exact iu k r
theorem u5 (k j:κ)(y:V):∀kvs:List (κ×V),a_ (kvs.map λkv=>if kv.1=k then (kv.1,y) else kv) j=(a_ kvs j).map λx=>if j=k then y else x
 | []=>rfl
 | p::r=>by
  have ih:=u5 k j y r;rw [bZ];by_cases h:p.1=k
  .rw [ax h];by_cases e:p.1=j
   .rw [dP (p:=(p.1,y)) e,dP e,oR,ax (e.symm.trans h)]
   rw [dQ (p:=(p.1,y)) e,dQ e,ih]
  rw [ay h];by_cases e:p.1=j
  .rw [dP (p:=p) e,dP e,oR,ay (λz=>h (e.trans z))]
  rw [dQ (p:=p) e,dQ e,ih]
theorem qY (k j:κ)(y:V):∀kvs:List (κ×V),a_ kvs k=none->a_ (kvs++[(k,y)]) j=if j=k then some y else a_ kvs j
 | [],_=>by
  by_cases e:k=j
  .rw [ax e.symm];exact dP (p:=(k,y)) e
  rw [ay (λz=>e z.symm)];exact dQ (p:=(k,y)) e
 | p::r,hn=>by
  rw [List.cons_append];have hk:¬p.1=k:=λz=>by rw [dP z] at hn;cases hn
  rw [dQ hk] at hn;have ih:=qY k j y r hn;by_cases e:p.1=j
  .rw [dP e,dP e,ay (λz=>hk (e.trans z))]
  rw [dQ e,dQ e,ih]
def o7 (kvs:List (κ×V))(k j:κ)(y:V):a_ (bH kvs k y) j=if j=k then some y else a_ kvs j:=by
 unfold bH;by_cases a:(kvs.any λkv=>decide (kv.1=k))=true
 .rw [ax a,u5];rw [iu] at a;by_cases e:j=k
  .obtain⟨x,hx⟩:=lC.mp a;rw [ax e,e,hx,oR,ax rfl]
  rw [ay e];cases a_ kvs j with
  | none=>rfl
  | some x=>rw [oR,ay e]
 rw [ay a];refine qY k j y kvs ?_;rw [iu] at a;cases q:a_ kvs k with
 | none=>rfl
 | some x=>rw [q] at a;exact(a rfl).elim
def eG (kvs:List (κ×V))(k:κ)(v:V):(bH kvs k v).length<=kvs.length+1:=by
 unfold bH
 split
 .rw [av];omega
 rw [bO,d6,jh];omega
def vk {kvs:List (κ×V)}{k:κ}(v:V)(h:a_ kvs k=none):bH kvs k v=kvs++[(k,v)]:=by
 unfold bH;rw [iu,h];exact ay nofun
def iZ.iE {o:Option V}{u:Option Value}(r:iZ o u):o.isSome=u.isSome:=by
 cases o with
 | none=>cases u with
  | none=>rfl
  | some _=>exact(show False from r).elim
 | some _=>cases u with
  | none=>exact(show False from r).elim
  | some _=>rfl
theorem iZ.getD {o:Option V}{u:Option Value}{d:V}{d':Value}(r:iZ o u)(rd:RelV d d'):RelV (o.getD d) (u.getD d'):=by
 cases o with
 | none=>cases u with
  | none=>exact rd
  | some _=>exact(show False from r).elim
 | some _=>cases u with
  | none=>exact(show False from r).elim
  | some _=>exact r
def KV.val {kvs:List (κ×V)}{vs:List (κ×Value)}(r:KV kvs vs)(k:κ):iZ (a_ kvs k) (valueAt vs k):=by
 unfold KV at r
 induction r with
 | nil=>exact True.intro
 | @cons p q ps qs h t ih =>
  obtain⟨h1,h2⟩:=h;by_cases e:p.1=k
  .have e':q.1=k:=h1.symm.trans e;have b:valueAt (q::qs) k=some q.2:=by simp [valueAt,mP,e']
   rw [dP e,b];exact h2
  have e':¬q.1=k:=λz=>e (h1.trans z);have b:valueAt (q::qs) k=valueAt qs k:=by simp [valueAt,mP,e']
  rw [dQ e,b];exact ih
theorem KV.any {kvs:List (κ×V)}{vs:List (κ×Value)}(r:KV kvs vs)(k:κ):(kvs.any λkv=>decide (kv.1=k))=vs.any λkv=>decide (kv.1=k):=by
 unfold KV at r
 induction r with
 | nil=>rfl
 | cons h t ih=>rw [oO,oO,ih,h.1]
def KV.HS {kvs:List (κ×V)}{vs:List (κ×Value)}(r:KV kvs vs)(k:κ){y:V}{u:Value}(ry:RelV y u) :
  KV (kvs.map λkv=>if kv.1=k then (kv.1,y) else kv) (vs.map λkv=>if kv.1=k then (kv.1,u) else kv):=by
 unfold KV at r ⊢
 induction r with
 | nil=>exact .nil
 | @cons p q ps qs h t ih =>
  rw [bZ,bZ];refine .cons ?_ ih;obtain⟨h1,h2⟩:=h;by_cases e:p.1=k
  .rw [ax e,ax (h1.symm.trans e)];exact⟨h1,ry⟩
  rw [ay e,ay (λz=>e (h1.trans z))];exact⟨h1,h2⟩
def KV.put {kvs:List (κ×V)}{vs:List (κ×Value)}(r:KV kvs vs)(k:κ){y:V}{u:Value}(ry:RelV y u):KV (bH kvs k y) (stored vs k u):=by
 unfold bH stored;rw [r.any k];by_cases e:(vs.any λkv=>decide (kv.1=k))=true
 .rw [ax e,ax e];exact r.HS k ry
 rw [ay e,ay e];exact f_ r ⟨rfl,ry⟩
def KV.drop {kvs:List (κ×V)}{vs:List (κ×Value)}(r:KV kvs vs)(k:κ):KV (GI kvs k) (without vs k):=by
 unfold KV at r ⊢;unfold GI without
 induction r with
 | nil=>exact .nil
 | @cons p q ps qs h t ih =>
  obtain⟨h1,h2⟩:=h;rw [sH,sH];by_cases e:p.1=k
  .have a:¬decide (p.1≠k)=true:=by simp [e]
   have b:¬decide (q.1≠k)=true:=by simp [h1.symm.trans e]
   rw [ay a,ay b];exact ih
  have e':¬q.1=k:=λz=>e (h1.trans z);have a:decide (p.1≠k)=true:=by simp [e]
  have b:decide (q.1≠k)=true:=by simp [e']
  rw [ax a,ax b];exact .cons ⟨h1,h2⟩ ih
def KV.keys {kvs:List (κ×V)}{vs:List (κ×Value)}(r:KV kvs vs):kvs.map (·.1)=vs.map (·.1):=by
 unfold KV at r
 induction r with
 | nil=>rfl
 | cons h t ih=>rw [bZ,bZ,ih,h.1]
theorem KV.length {kvs:List (κ×V)}{vs:List (κ×Value)}(r:KV kvs vs):kvs.length=vs.length:=bB r
end
def j6 {P:Program}{w:World}{k:aK}{u:Value}(r:RelV (kV k) u):(a7 P w).is k u=true:=by
 cases k with
 | inl i=>obtain⟨t,e⟩:=(show ∃t,u=Value.int i t from r);subst e;exact vF P w i t
 | inr x=>obtain⟨t,e⟩:=(show ∃t,u=Value.str x t from r);subst e;exact vE P w x t
theorem rJ {P:Program}{w:World}:∀{ks:List aK}{us:List Value},a9 (ks.map kV) us->ItemsAre (a7 P w) ks us
 | [],_,r=>by rw [j_] at r;cases r;exact .nil
 | k::ks,_,r=>by
  rw [bZ] at r;cases r with
  | cons h t=>exact .cons (j6 h) (rJ t)
abbrev KT (H:Hp):List (List aK×V)->List (List aK×Addr×Value)->Prop:=Paired λp q=>p.1=q.1/\H q.2.1=some (.tup (p.1.map kV))/\RelV p.2 q.2.2
def KT.val {H:Hp}{kvs:List (List aK×V)}{xs:List (List aK×Addr×Value)}(r:KT H kvs xs)(k:List aK):iZ (a_ kvs k) ((atKey xs k).map (·.2)):=by
 induction r with
 | nil=>exact True.intro
 | @cons p q ps qs h t ih =>
  obtain⟨h1,_,h2⟩:=h;by_cases e:p.1=k
  .have e':q.1=k:=h1.symm.trans e;have b:atKey (q::qs) k=some q.2:=by simp [atKey,mP,e']
   rw [dP e,b];exact h2
  have e':¬q.1=k:=λz=>e (h1.trans z);have b:atKey (q::qs) k=atKey qs k:=by simp [atKey,mP,e']
  rw [dQ e,b];exact ih
def KT.HS {H:Hp}{kvs:List (List aK×V)}{xs:List (List aK×Addr×Value)}(r:KT H kvs xs)(k:List aK){y:V}{u:Value}(ry:RelV y u) :
  KT H (kvs.map λkv=>if kv.1=k then (kv.1,y) else kv) (xs.map (putAt k u)):=by
 induction r with
 | nil=>exact .nil
 | @cons p q ps qs h t ih =>
  rw [bZ,bZ];refine .cons ?_ ih;obtain⟨h1,h2,h3⟩:=h;unfold putAt;by_cases e:p.1=k
  .rw [ax e,ax (h1.symm.trans e)];exact⟨h1,h2,ry⟩
  rw [ay e,ay (λz=>e (h1.trans z))];exact⟨h1,h2,h3⟩
def KT.put {H:Hp}{kvs:List (List aK×V)}{xs:List (List aK×Addr×Value)}(r:KT H kvs xs)(k:List aK){b:Addr}{y:V}{u:Value}(hb:H b=some (.tup (k.map kV)))(ry:RelV y u) :
  KT H (bH kvs k y) (storedH xs k b u):=by
 have e:(kvs.any λkv=>decide (kv.1=k))=(atKey xs k).isSome:=by
  rw [iu,(r.val k).iE,oJ]
 unfold bH storedH;rw [e];by_cases q:(atKey xs k).isSome=true
 .rw [ax q,ax q];exact r.HS k ry
 rw [ay q,ay q];exact f_ r ⟨rfl,hb,ry⟩
def KT.keeps {H H':Hp}{kvs:List (List aK×V)}{xs:List (List aK×Addr×Value)}(r:KT H kvs xs)(ht:∀b ys,H b=some (.tup ys)->H' b=some (.tup ys)):KT H' kvs xs :=
 Paired.fj r λ_ _ z=>⟨z.1,ht _ _ z.2.1,z.2.2⟩
section
variable {P:Program}{w:World}{H:Hp}{h:Heap}{a:Addr}
def F4 {u:HO}(ok:j9 P w H h)(e:Rd H a u):cv P w H h a u:=e.ok ok
def mw {kvs:List (aK×V)}(ok:j9 P w H h)(e:Rd H a (.dK kvs)):kvs.length<=sizeLine/\(a == sysModules)=false/\∃vs,KV kvs vs/\h.DictOf (a7 P w) a vs :=
 show cv P w H h a (.dK kvs) from F4 ok e
def vU {kvs:List (aK×V)}(ok:j9 P w H h)(e:H a=some (.dK kvs)):kvs.length<=sizeLine/\(a == sysModules)=false/\∃vs,KV kvs vs/\h.DictOf (a7 P w) a vs:=mw ok (.inl e)
def kJ {ks:List aK}(ok:j9 P w H h)(e:H a=some (.tup (ks.map kV))):(tupleKind (a7 P w)).is h ks a:=by
 obtain⟨_,aU,r,o,h1,h2,n,h3⟩:=(show cv P w H h a (.tup (ks.map kV)) from ok a _ e);exact⟨o,aU.toArray,n,h1,h2,h3,by simpa using rJ r⟩
def qc {kvs:List (List aK×V)}(ok:j9 P w H h)(e:Rd H a (.dT kvs)):kvs.length<=sizeLine/\(a == sysModules)=false /\
  ∃xs,KT H kvs xs/\h.DictOfH (tupleKind (a7 P w)) a xs:=by
 obtain⟨z,y,xs,r,o,es,ep,h1,h2,h3,h4,h5⟩:=(show cv P w H h a (.dT kvs) from F4 ok e);refine⟨z,y,xs,r,o,es,ep,h1,h2,h3,h4,λx hx=>?_,h5⟩;have all:∀{l:List (List aK×V)}{m:List (List aK×Addr×Value)},KT H l m->∀x∈m,(tupleKind (a7 P w)).is h x.1 x.2.1:=by
  intro l m q
  induction q with
  | nil=>intro x hx;exact nomatch hx
  | @cons p q ps qs hq t ih =>
   intro x hx;rcases bM.mp hx with e | hx
   .subst e;exact kJ ok (by rw [<-hq.1];exact hq.2.1)
   exact ih x hx
 exact all r x hx
def M9 {kvs:List (List aK×V)}(ok:j9 P w H h)(e:H a=some (.dT kvs)):kvs.length<=sizeLine/\(a == sysModules)=false /\
  ∃xs,KT H kvs xs/\h.DictOfH (tupleKind (a7 P w)) a xs:=qc ok (.inl e)
end
def cq (H:Hp)(a:Addr)(y:V)(r:Option V):Prop :=
 (∃kvs k,Rd H a (.dK kvs)/\y=kV k/\r=a_ kvs k)\/∃kvs k b,Rd H a (.dT kvs)/\y=.ref b/\H b=some (.tup (k.map kV))/\r=a_ kvs k
def kU (H:Hp)(a:Addr)(y v:V)(H':Hp):Prop :=
 (∃kvs k,H a=some (.dK kvs)/\y=kV k/\kvs.length < sizeLine/\H'=upd H a (.dK (bH kvs k v))) \/
 ∃kvs k b,H a=some (.dT kvs)/\y=.ref b/\H b=some (.tup (k.map kV))/\kvs.length < sizeLine/\H'=upd H a (.dT (bH kvs k v))
theorem cq.k {H:Hp}{a:Addr}{kvs:List (aK×V)}{k:aK}(e:H a=some (.dK kvs)):cq H a (kV k) (a_ kvs k):=.inl ⟨kvs,k,.inl e,rfl,rfl⟩
def cq.t {H:Hp}{a b:Addr}{kvs:List (List aK×V)}{k:List aK}(e:H a=some (.dT kvs))(eb:H b=some (.tup (k.map kV))):cq H a (.ref b) (a_ kvs k):=.inr ⟨kvs,k,b,.inl e,rfl,eb,rfl⟩
theorem kU.k {H:Hp}{a:Addr}{kvs:List (aK×V)}{k:aK}{v:V}(e:H a=some (.dK kvs))(hl:kvs.length < sizeLine):kU H a (kV k) v (upd H a (.dK (bH kvs k v))):=.inl ⟨kvs,k,e,rfl,hl,rfl⟩
def kU.t {H:Hp}{a b:Addr}{kvs:List (List aK×V)}{k:List aK}{v:V}(e:H a=some (.dT kvs))(eb:H b=some (.tup (k.map kV)))(hl:kvs.length < sizeLine) :
  kU H a (.ref b) v (upd H a (.dT (bH kvs k v))):=.inr ⟨kvs,k,b,e,rfl,eb,hl,rfl⟩
section
variable {X:Cx}{ag:List (Addr×Obj)}{σ:St}{H:Hp}{s:Shared}{a:Addr}{y v:V}{u r:Value}{o:Option V}{A:Around}{E:Value->Shared->Prop}
def Inv.big (I:Inv X ag σ H s):sysModules < s.heap.objs.size:=by
 have h:mainGlobals < s.heap.objs.size:=(I.mod.glob.keeps I.bk).lt;exact jo nofun h
def AH {Q:Value->Shared->Prop}(hu:A.units+1 < cLine)(I:Inv X ag σ H s)(g:cq H a y (some v))(ry:RelV y u)(h:∀w' s',Inv X ag σ H s'->RelV v w'->Q w' s') :
  wpAny (model X.prog X.w) A (getItem (.ref a) u) Q E s:=by
 rcases g with ⟨kvs,k,e,ey,l⟩ | ⟨kvs,k,b,e,ey,eb,l⟩
 .subst ey;obtain⟨z,hd,vs,rel,dd⟩:=mw I.bS e;obtain⟨w',hw,xt⟩:=iZ.some_of (v:=v) (o:=valueAt vs k) (by rw [l];exact rel.val k);exact wpAny_getItem_of (j6 ry) dd.mapOf hw (h w' _ (I.tok _) xt)
 subst ey;cases (show u=Value.ref b from ry);obtain⟨z,hd,xs,rel,dd⟩:=qc I.bS e;obtain⟨w',hw,xt⟩:=iZ.some_of (v:=v) (o:=(atKey xs k).map (·.2)) (by rw [l];exact rel.val k);obtain⟨p,hp,qG⟩:=b9.mp hw;refine wpAny_getItem_heap (qQ hu) (kJ I.bS eb) dd hp ?_;rw [qG];exact h w' _ (I.tok _) xt
def RO {Q:Value->Shared->Prop}(hu:A.units+1 < cLine)(I:Inv X ag σ H s)(g:cq H a y o)(ry:RelV y u)(h:∀s',Inv X ag σ H s'->Q (.bool o.isSome) s') :
  wpAny (model X.prog X.w) A (compareOp .In u (.ref a)) Q E s:=by
 rcases g with ⟨kvs,k,e,ey,l⟩ | ⟨kvs,k,b,e,ey,eb,l⟩
 .subst ey;obtain⟨z,hd,vs,rel,dd⟩:=mw I.bS e;refine wpAny_in_of (j6 ry) hd dd.mapOf ?_;rw [<-(rel.val k).iE,<-l];exact h _ (I.tok _)
 subst ey;cases (show u=Value.ref b from ry);obtain⟨z,hd,xs,rel,dd⟩:=qc I.bS e;refine wpAny_in_heap (qQ hu) (kJ I.bS eb) hd dd ?_;have q:=(rel.val k).iE;rw [oJ] at q;rw [<-q,<-l];exact h _ (I.tok _)
def Fw {Q:Value->Shared->Prop}(hu:A.units+1 < cLine)(I:Inv X ag σ H s)(g:cq H a y o)(ry:RelV y u)(h:∀s',Inv X ag σ H s'->Q (.bool (!o.isSome)) s') :
  wpAny (model X.prog X.w) A (compareOp .NotIn u (.ref a)) Q E s:=by
 rcases g with ⟨kvs,k,e,ey,l⟩ | ⟨kvs,k,b,e,ey,eb,l⟩
 .subst ey;obtain⟨z,hd,vs,rel,dd⟩:=mw I.bS e;refine wpAny_notIn_of (j6 ry) hd dd.mapOf ?_;rw [<-(rel.val k).iE,<-l];exact h _ (I.tok _)
 subst ey;cases (show u=Value.ref b from ry);obtain⟨z,hd,xs,rel,dd⟩:=qc I.bS e;refine wpAny_notIn_heap (qQ hu) (kJ I.bS eb) hd dd ?_;have q:=(rel.val k).iE;rw [oJ] at q;rw [<-q,<-l];exact h _ (I.tok _)
def oE {h':Heap}{t':Nat}{ob:HO}(I:Inv X ag σ H s)(mu:Nv (H a))(hs:Heap.SameBut a s.heap h')(he:∃q,h'.get? a=some q)(new:cv X.prog X.w (upd H a ob) h' a ob) :
  Inv X ag σ (upd H a ob) { s with heap:=h',toks:=t' } :=
 I.write (x:=a) (e:=a) mu (.inl rfl) (λb q hb z=>(hs.2 b hb).trans z) he new
def qd {P:Program}{w:World}{H':Hp}{h':Heap}{kvs:List (aK×V)}{vs:List (aK×Value)}(z:kvs.length<=sizeLine)(hd:(a == sysModules)=false)(rel:KV kvs vs)(dd:h'.DictOf (a7 P w) a vs) :
  cv P w H' h' a (.dK kvs):=⟨z,hd,vs,rel,dd⟩
def AG {H':Hp}{Q:Unit->Shared->Prop}(hu:A.units+1 < cLine)(I:Inv X ag σ H s)(g:kU H a y v H')(ry:RelV y u)(rv:RelV v r)(h:∀s',Inv X ag σ H' s'->Q () s') :
  wpAny (model X.prog X.w) A (setItem (.ref a) u r) Q E s:=by
 rcases g with ⟨kvs,k,e,ey,l,eH⟩ | ⟨kvs,k,b,e,ey,eb,l,eH⟩
 .subst ey eH;obtain⟨z,hd,vs,rel,dd⟩:=vU I.bS e;have hz:vs.length<=sizeLine:=by rw [<-rel.length];exact z
  have hl:(bH kvs k v).length<=sizeLine:=by have:=eG kvs k v;omega
  refine wpAny_setItem_pairs (hsz:=hz) (j6 ry) dd λh' Ek hs=>h _ ?_;have he:∃q,h'.get? a=some q:=let ⟨q,_,_,hq,_⟩:=Ek;⟨q,hq⟩;exact oE I (by rw [e];exact True.intro) hs he (qd hl hd (rel.put k rv) Ek)
 subst ey eH;cases (show u=Value.ref b from ry);obtain⟨z,hd,xs,rel,dd⟩:=M9 I.bS e;have hz:xs.length<=sizeLine:=by rw [<-bB rel];exact z
 have hl:(bH kvs k v).length<=sizeLine:=by have:=eG kvs k v;omega
 refine wpAny_setItem_heap (hsz:=hz) (qQ hu) (kJ I.bS eb) dd λh' Ek hs=>h _ ?_;obtain⟨q,es,ep,hq,h2,h3,h4,_,h5⟩:=Ek;refine oE I (by rw [e];exact True.intro) hs ⟨q,hq⟩ ⟨hl,hd,_,(rel.put k eb rv).keeps λc ys ec=>?_,q,es,ep,hq,h2,h3,h4,h5⟩;rw [ai (Ls ec e (λz=>nomatch z))];exact ec
end
section
variable {X:Cx}{ag:List (Addr×Obj)}{σ:St}{H:Hp}{s:Shared}{a:Addr}{kvs:List (aK×V)}{k:aK}{u:Value}{A:Around}{E:Value->Shared->Prop}
def Na {Q:Value->Shared->Prop}(I:Inv X ag σ H s)(e:Rd H a (.dK kvs))(h:∀t s',Inv X ag σ H s'->Q (.int kvs.length t) s'):wpAny (model X.prog X.w) A (call (.builtin "len") [.ref a]) Q E s:=by
 obtain⟨z,hd,vs,rel,dd⟩:=mw I.bS e;refine call_len_dict hd dd (by rw [<-rel.length];rw [sizeLine_eq] at z;omega) ?_;rw [<-rel.length];exact h _ _ (I.tok _)
end
def Nt (i:Expr):Prop:=∀ov iv,subscripted i false ov iv=operate [ov,iv] (getItem ov iv)
def yH {prog:Program}{w:World}{A:Around}{E:Value->Shared->Prop}{s:Shared}{env:Env}{value slice:Expr}{pos:Pos}{T id:String}{Q:Value->Shared->Prop}
  (hl:typeLookup (.type T) "__getitem__"=pure (some (.builtin id)))(hs:Nt slice)
  (h:wpAny (model prog w) A (eval value env) (λo s₁=>wpAny (model prog w) A (eval slice env) (λi s₂=>s₂.TypeIs o T/\wpAny (model prog w) A (getItem o i) Q E s₂) E s₁) E s) :
  wpAny (model prog w) A (eval (.Subscript value slice pos) env) Q E s:=by
 refine Subscript_ (cY h (λo s₁ h₁=>cY h₁ (λi s₂ h₂=>?_) λ_ _ x=>x) λ_ _ x=>x);obtain⟨hT,h₂⟩:=h₂;unfold subscriptTail;refine aE ?_;rw [getitemInPython_of_ne hT.not_modules];refine aE (wpAny_specialOf hT hl ?_);have fin:wpAny (model prog w) A (subscripted slice false o i) (λr s₃=>wpAny (model prog w) A (letTemporaryGo value o r >>= λ_=>pure r) Q E s₃) E s₂:=by
  rw [hs o i];exact wpAny_operating (cY h₂ (λr s₃ h₃=>aE (wpAny_letTemporaryGo (aR h₃))) λ_ _ x=>x)
 first
  | exact aR (aE fin)
  | exact aE (aR (aE fin))
  | exact aE fin
def vW {X:Cx}{ag:List (Addr×Obj)}{σ:St}{H:Hp}{s:Shared}{a:Addr}{y:V}{o:Option V}(I:Inv X ag σ H s)(g:cq H a y o):s.TypeIs (.ref a) "dict" := by
 rcases g with ⟨kvs,k,e,_,_⟩ | ⟨kvs,k,b,e,_,_,_⟩
 .obtain⟨_,_,vs,_,dd⟩:=mw I.bS e;exact dd.typeIs
 obtain⟨_,_,xs,_,dd⟩:=qc I.bS e;exact dd.typeIs
inductive VP (x:V)(S:Addr->Hp->Prop)(R:Hp->Prop):Prop
|mk(a:Addr)(H4:Hp)(e:x=.ref a)(s:S a H4)(q:R H4)
inductive VQ (S:Option V->Prop)(R:Option V->Prop):Prop
|mk(o:Option V)(s:S o)(q:R o)
inductive VR (x:V)(S:Addr->V->Prop)(R:V->Prop):Prop
|mk(a:Addr)(v:V)(e:x=.ref a)(s:S a v)(q:R v)
inductive So (x:V)(S:Addr->Option V->Prop)(R:Option V->Prop):Prop
|mk(a:Addr)(o:Option V)(e:x=.ref a)(s:S a o)(q:R o)
def yD (td ty:TE):TE:=λσ H Q=>td σ H λx H1=>ty σ H1 λy H2=>VR x (λa v=>cq H2 a y (some v)) λv=>Q v H2
def KY (ty td:TE):TE:=λσ H Q=>ty σ H λy H1=>td σ H1 λx H2=>So x (λa o=>cq H2 a y o) λo=>Q (.bl o.isSome) H2
def yC (ty td:TE):TE:=λσ H Q=>ty σ H λy H1=>td σ H1 λx H2=>So x (λa o=>cq H2 a y o) λo=>Q (.bl (!o.isSome)) H2
def K9 (td ty tv:TE):TS:=λD σ H=>tv σ H λv H1=>td σ H1 λx H2=>ty σ H2 λy H3=>VP x (λa H4=>kU H3 a y v H4) λH4=>D.nx σ H4
section
variable {X:Cx}{o i e value:Expr}{pos pos' tK:Pos}{td ty tv:TE}
def eK (hu:X.A.units+1 < cLine)(ho:PE X o td)(hi:PE X i ty)(hs:Nt i):PE X (.Subscript o i pos) (yD td ty):=by
 intro ag s σ H Q I h;refine yH PySem.F.slot_dict_getitem.lookup hs (cJ (ho ag s σ H _ I h) λu s1 bj=>?_);obtain⟨x,H1,I1,rx,q1⟩:=bj;refine cJ (hi ag s1 σ H1 _ I1 q1) λiv s2 bj=>?_;obtain⟨y,H2,I2,ry,a,v,ex,g,q2⟩:=bj;subst ex;obtain rfl:u=Value.ref a:=rx;exact⟨vW I2 g,AH hu I2 g ry λw' s3 I3 xt=>⟨v,H2,I3,xt,q2⟩⟩
def kr (hu:X.A.units+1 < cLine)(hi:PE X i ty)(ho:PE X o td):PC X .In i o (KY ty td):=by
 intro ag s σ H Q I h;refine cJ (hi ag s σ H _ I h) λiv s1 bj=>?_;obtain⟨y,H1,I1,ry,q1⟩:=bj;refine cJ (ho ag s1 σ H1 _ I1 q1) λu s2 bj=>?_;obtain⟨x,H2,I2,rx,a,ov,ex,g,q2⟩:=bj;subst ex;obtain rfl:u=Value.ref a:=rx;exact RO hu I2 g ry λs3 I3=>⟨.bl ov.isSome,H2,I3,rfl,q2⟩
def dU (hu:X.A.units+1 < cLine)(hi:PE X i ty)(ho:PE X o td):PC X .NotIn i o (yC ty td):=by
 intro ag s σ H Q I h;refine cJ (hi ag s σ H _ I h) λiv s1 bj=>?_;obtain⟨y,H1,I1,ry,q1⟩:=bj;refine cJ (ho ag s1 σ H1 _ I1 q1) λu s2 bj=>?_;obtain⟨x,H2,I2,rx,a,ov,ex,g,q2⟩:=bj;subst ex;obtain rfl:u=Value.ref a:=rx;exact Fw hu I2 g ry λs3 I3=>⟨.bl (!ov.isSome),H2,I3,rfl,q2⟩
def gy (hu:X.A.units+1 < cLine)(ho:PE X o td)(hi:PE X i ty)(hv:PE X value tv)(hs:swapsWith value (some (.Subscript o i pos')) pos.line X.env=pure false) :
  PS X (.Assign [.Subscript o i pos'] value pos) (K9 td ty tv):=by
 intro ag s σ H D I h;refine wpAny_Assign_Subscript (cJ (hv ag s σ H _ I h) λr s1 bj=>?_) hs;obtain⟨v,H1,I1,rv,q1⟩:=bj;refine cJ (ho ag s1 σ H1 _ I1 q1) λu s2 bj=>?_;obtain⟨x,H2,I2,rx,q2⟩:=bj;refine cJ (hi ag s2 σ H2 _ I2 q2) λiv s3 bj=>?_;obtain⟨y,H3,I3,ry,a,H4,ex,g,q3⟩:=bj;subst ex;obtain rfl:u=Value.ref a:=rx;exact AG hu I3 g ry rv λs4 I4=>⟨σ,H4,I4,q3⟩
end
def vV {P:Program}{w:World}{H:Hp}(h:Heap)(hb:sysModules < h.objs.size):cv P w H (h.push { cls:=.type "dict",data:=.dict #[] }) h.objs.size (.dK []) :=
 ⟨gN _,jk.mpr (fu (bQ hb)),[],.nil,Heap.DictOf.new h⟩
def Bo:TE:=λ_ H Q=>∀p,H p=none->Q (.ref p) (upd H p (.dK []))
section
variable {X:Cx}{pos:Pos}
def fg:PE X (.Dict [] [] pos) Bo:=λag s σ H Q I h =>
 wpAny_Dict_empty ⟨.ref s.heap.objs.size,_,I.laid (a:=s.heap.objs.size) (o:=.dK []) (t':=s.toks) (λ_ _ q=>bW _ q) (aG _) (vV s.heap I.big),rfl,h _ (I.bS.fresh (aG _))⟩
end
def wY:List (TE×TE)->St->Hp->(List (V×V)->Hp->Prop)->Prop
 | [],_,H,Q=>Q [] H
 | (tk,tv)::r,σ,H,Q=>tk σ H λx H1=>tv σ H1 λy H2=>wY r σ H2 λps H3=>Q ((x,y)::ps) H3
abbrev VV:List (V×V)->List (Value×Value)->Prop:=Paired λp q=>RelV p.1 q.1/\RelV p.2 q.2
def OD (X:Cx)(pos:Pos)(keys:List (Option Expr))(values:List Expr)(Ex:List (TE×TE)):Prop :=
 ∀(ag:List (Addr×Obj))(s:Shared)(σ:St)(H:Hp)(Q:List (V×V)->Hp->Prop),Inv X ag σ H s->wY Ex σ H Q ->
  wpAny (model X.prog X.w) X.A (evalPairs (pairTrees keys values X.env pos)) (λvs s'=>∃ps H',Inv X ag σ H' s'/\VV ps vs/\Q ps H') X.xe s
def EJ {X:Cx}{pos:Pos}:OD X pos [] [] []:=λag s σ H Q I h=>pairTrees_nil_walk ⟨[],H,I,.nil,h⟩
def B7 {X:Cx}{pos:Pos}{k v:Expr}{ks:List (Option Expr)}{vs:List Expr}{tk tv:TE}{Ex:List (TE×TE)}(hk:PE X k tk)(hv:PE X v tv)(hr:OD X pos ks vs Ex) :
  OD X pos (some k::ks) (v::vs) ((tk,tv)::Ex):=λag s σ H Q I h =>
 pairTrees_cons_walk (cJ (hk ag s σ H _ I h) λu s1 ⟨x,H1,I1,rx,q1⟩=>cJ (hv ag s1 σ H1 _ I1 q1) λw2 s2 ⟨y,H2,I2,ry,q2⟩ =>
  cJ (hr ag s2 σ H2 _ I2 q2) λws s3 ⟨ps,H3,I3,rel,q3⟩=>⟨(x,y)::ps,H3,I3,.cons ⟨rx,ry⟩ rel,q3⟩)
def kx (kvs more:List (aK×V)):List (aK×V):=more.foldl (λbI kv=>bH bI kv.1 kv.2) kvs
def KV.merge:∀{more:List (aK×V)}{rs:List (aK×Value)}{kvs:List (aK×V)}{vs:List (aK×Value)},KV more rs->KV kvs vs->KV (kx kvs more) (merged vs rs):=by
 intro more rs kvs vs r;unfold KV at r
 induction r generalizing kvs vs with
 | nil=>intro q;exact q
 | @cons p q ps qs h t ih =>
  intro r0;have e:KV (bH kvs p.1 p.2) (stored vs q.1 q.2):=by
   have:=r0.put p.1 h.2;rw [<-h.1];exact this
  exact ih e
theorem j5:∀(more kvs:List (aK×V)),(kx kvs more).length<=kvs.length+more.length
 | [],kvs=>by show kvs.length<=kvs.length+0;omega
 | p::r,kvs=>by
  have h1:=j5 r (bH kvs p.1 p.2);have h2:=eG kvs p.1 p.2;show (kx (bH kvs p.1 p.2) r).length<=_;rw [d6];omega
theorem ql {P:Program}{w:World}:∀{kvs:List (aK×V)}{ws:List (Value×Value)},VV (kvs.map λkv=>(kV kv.1,kv.2)) ws->∃rs,Carries (a7 P w) ws rs/\KV kvs rs
 | [],_,r=>by rw [j_] at r;cases r;exact⟨[],True.intro,.nil⟩
 | p::kvs,_,r=>by
  rw [bZ] at r;cases r with
  | @cons a b as bs h t =>
   obtain⟨rs,c,q⟩:=ql (P:=P) (w:=w) t;obtain⟨b1,b2⟩:=b;exact⟨(p.1,b2)::rs,⟨j6 h.1,rfl,c⟩,.cons ⟨rfl,h.2⟩ q⟩
def KU (Ex:List (TE×TE)):TE:=λσ H Q=>∀p,H p=none->wY Ex σ (upd H p (.dK [])) λps H2=>H2 p=some (.dK [])/\∃kvs:List (aK×V),ps=kvs.map (λkv=>(kV kv.1,kv.2))/\kvs.length<=15/\Q (.ref p) (upd H2 p (.dK (kx [] kvs)))
def ER {X:Cx}{pos:Pos}{keys:List (Option Expr)}{values:List Expr}{Ex:List (TE×TE)}(h:OD X pos keys values Ex)(oj:keys.all (·.isSome)=true)(hl:keys.length=values.length)(h0:keys≠[])
  (Q_:keys.length<=15):PE X (.Dict keys values pos) (KU Ex):=by
 intro ag s σ H Q I q;have hn:=I.bS.fresh (aG s.heap.objs.size);have I1:=I.laid (a:=s.heap.objs.size) (o:=.dK []) (h':=s.heap.push { cls:=.type "dict",data:=.dict #[] }) (t':=s.toks) (λ_ _ q=>bW _ q) (aG _) (vV s.heap I.big);refine wpAny_Dict_walk (knd:=a7 X.prog X.w) oj hl h0 Q_ (cJ (h ag _ σ _ _ I1 (q _ hn)) λws s2 bj=>?_);obtain⟨ps,H2,I2,rel,e,kvs,ep,lk,q2⟩:=bj;subst ep;obtain⟨rs,c,rk⟩:=ql (P:=X.prog) (w:=X.w) rel;obtain⟨z,hd,vs0,r0,dd⟩:=vU I2.bS e;cases r0;refine⟨rs,c,dd,λh' Ek hs=>⟨.ref s.heap.objs.size,_,?_,rfl,q2⟩⟩;have hz:(kx [] kvs).length<=sizeLine:=by
  have h1:=j5 kvs [];rw [jh] at h1;rw [sizeLine_eq];omega
 have he:∃q,h'.get? s.heap.objs.size=some q:=let ⟨q,_,_,hq,_⟩:=Ek;⟨q,hq⟩;exact oE I2 (by rw [e];exact True.intro) hs he (qd hz hd (rk.merge .nil) Ek)
structure M1 (X:Cx)(o:Expr)(m:Str)(apos:Pos)(e:Expr)(gI:Pos):Prop where
 base:attributeBase o m X.env (eval o X.env)=eval o X.env
 uD:((backTo gI (starEach [e] X.env)).all (λx=>!x.1) && (backToKw gI (keywordEach [] X.env)).all (λx=>x.1.isSome)
  && decide (([e]:List Expr).length+([]:List Keyword).length+(if ([]:List Keyword).isEmpty then 0 else 1) < 30))=true
 line:(apos.endLine == gI.line)=true
 trees:backTo gI (starEach [e] X.env)=[(false,eval e X.env)]
structure M2 (X:Cx)(o:Expr)(m:Str)(apos:Pos)(e f:Expr)(gI:Pos):Prop where
 base:attributeBase o m X.env (eval o X.env)=eval o X.env
 uD:((backTo gI (starEach [e,f] X.env)).all (λx=>!x.1) && (backToKw gI (keywordEach [] X.env)).all (λx=>x.1.isSome)
  && decide (([e,f]:List Expr).length+([]:List Keyword).length+(if ([]:List Keyword).isEmpty then 0 else 1) < 30))=true
 line:(apos.endLine == gI.line)=true
 trees:backTo gI (starEach [e,f] X.env)=[(false,eval e X.env),(false,eval f X.env)]
def OE (H:Hp)(a:Addr):Prop:=(∃kvs,Rd H a (.dK kvs))\/∃kvs,Rd H a (.dT kvs)
def xW {X:Cx}{ag:List (Addr×Obj)}{σ:St}{H:Hp}{s:Shared}{a:Addr}(I:Inv X ag σ H s)(d:OE H a) :
  s.TypeIs (.ref a) "dict" /\ (∀b,Value.ref a=.ref b->∃ob,s.heap.get? b=some ob/\ob.dict=none)/\(a == sysModules)=false:=by
 rcases d with ⟨kvs,e⟩ | ⟨kvs,e⟩
 .obtain⟨_,hd,vs,_,dd⟩:=mw I.bS e;refine⟨dd.typeIs,λb q=>?_,hd⟩;cases q;obtain⟨ob,_,_,h1,h2,_⟩:=dd;exact⟨ob,h1,h2.2.1⟩
 obtain⟨_,hd,xs,_,dd⟩:=qc I.bS e;refine⟨dd.typeIs,λb q=>?_,hd⟩;cases q;obtain⟨ob,_,_,h1,h2,_⟩:=dd;exact⟨ob,h1,h2.2.1⟩
section
variable {X:Cx}{ag:List (Addr×Obj)}{σ:St}{H:Hp}{s:Shared}{a:Addr}{y d:V}{u r:Value}{o:Option V}{A:Around}{E:Value->Shared->Prop}
def Jr {Q:Value->Shared->Prop}(hu:A.units+1 < cLine)(I:Inv X ag σ H s)(g:cq H a y o)(ry:RelV y u)(rd:RelV d r)(h:∀w' s',Inv X ag σ H s'->RelV (o.getD d) w'->Q w' s') :
  wpAny (model X.prog X.w) A (call (.builtin "dict.get") [.ref a,u,r]) Q E s:=by
 rcases g with ⟨kvs,k,e,ey,l⟩ | ⟨kvs,k,b,e,ey,eb,l⟩
 .subst ey;obtain⟨z,hd,vs,rel,dd⟩:=mw I.bS e;refine call_meetsIn PySem.F.slot_dict_get dd.typeIs PySem.F.entry_dict_get (PySem.F.args_dict_get_3 _ _ _) (meets_dict_get_default (a7 X.prog X.w) a (j6 ry) hd r) ⟨_,dd.mapOf,h _ _ (I.tok _) ?_⟩;rw [l];exact(rel.val k).getD rd
 subst ey;cases (show u=Value.ref b from ry);obtain⟨z,hd,xs,rel,dd⟩:=qc I.bS e;refine call_meetsIn PySem.F.slot_dict_get dd.typeIs PySem.F.entry_dict_get (PySem.F.args_dict_get_3 _ _ _) (meetsH_dict_get_default (tupleKind (a7 X.prog X.w)) a b hd r) ⟨qQ hu,k,xs,kJ I.bS eb,dd,h _ _ (I.tok _) ?_⟩;rw [l];exact(rel.val k).getD rd
end
def Bp (td ty tx:TE):TE:=λσ H Q=>td σ H λx H1=>OA x (OE H1) λa=>ty σ H1 λy H2=>tx σ H2 λz H3=>VQ (cq H3 a y) λo=>Q (o.getD z) H3
section
variable {X:Cx}{o e f:Expr}{apos gI:Pos}{td ty tx:TE}
def g8 (hu:X.A.units+1 < cLine)(ho:PE X o td)(he:PE X e ty)(hf:PE X f tx)(m:M2 X o "get" apos e f gI):PE X (.Call (.Attribute o "get" apos) [e,f] [] gI) (Bp td ty tx):=by
 intro ag s σ H Q I h;refine wpAny_Call_method m.base m.uD m.line wL PySem.F.slot_dict_get PySem.F.type_dict_get (cJ (ho ag s σ H _ I h) λu s1 bj=>?_);obtain⟨x,H1,I1,rx,a,ex,d,q1⟩:=bj;subst ex;obtain rfl:u=Value.ref a:=rx;obtain⟨t1,t2,_⟩:=xW I1 d;refine⟨t1,t2,?_⟩;rw [m.trees];refine sW rfl (sP (qP (cJ (he ag s1 σ H1 _ I1 q1) λiv s2 ⟨y,H2,I2,ry,q2⟩ =>
  qP (cJ (hf ag s2 σ H2 _ I2 q2) λfv s3 ⟨z,H3,I3,rz,ov,g,q3⟩=>Calls.spliced_nil ?_))))
 exact Jr hu I3 g ry rz λw' s4 I4 xt=>⟨_,H3,I4,xt,q3⟩
end
section
variable {X:Cx}{ag:List (Addr×Obj)}{σ:St}{H:Hp}{s:Shared}{a:Addr}{kvs:List (aK×V)}{A:Around}{E:Value->Shared->Prop}
end
section
variable {X:Cx}{ag:List (Addr×Obj)}{σ:St}{H:Hp}{s:Shared}{a:Addr}{y:V}{u:Value}{A:Around}{E:Value->Shared->Prop}
end
end L2
set_option maxHeartbeats 4000000
namespace L2
open PySem
def um:typeLookup (.type "list") "keys"=pure none:=by rw [typeLookup_type,builtinLookup_eq_fast];kernel_rfl
def uo:typeLookup (.type "list") "__getattr__"=pure none:=by rw [typeLookup_type,builtinLookup_eq_fast];kernel_rfl
section
variable {prog:Program}{w:World}{A:Around}{E:Value->Shared->Prop}{h:Heap}{g:Array GenState}{d:Drawn}{t:Nat}{os:OsState}{a:Addr}{o:Obj}
def Bs:isSubtype (.type "AttributeError") (.type "AttributeError")=pure true:=by rw [isSubtype_type];kernel_rfl
def HZ {m:Str}{tk:Tok}:ownMembersOf (.type "AttributeError") [.str m tk]=#[unsetMember,unsetMember]:=by kernel_rfl
def Dd {m:Str}{tk:Tok}:firstArgMember (.type "AttributeError") [.str m tk]=pure .none:=by kernel_rfl
def xu {α:Type}{self:Value}{name msg:Str}{Q:α->Shared->Prop}(hm:msg.length<=sizeLine)(hh:A.handled=none)
  (hq:∀h' t' e oe,(∀b o,h.get? b=some o->h'.get? b=some o)->h'.get? e=some oe->oe.cls=.type "AttributeError" -> E (.ref e) ⟨h',g,d,t',os⟩) :
  wpAny (model prog w) A (raiseAttrError self name msg) Q E ⟨h,g,d,t,os⟩:=by
 have f1:=Bs;unfold raiseAttrError newExc;refine aE (wpAny_mkStr ?_ hm);have fe:=Dd (m:=msg) (tk:=t);rw [HZ]
 repeat (any_goals (first | assumption | wp_step))
 unfold raiseNew;refine aE (wpAny_handled ?_);rw [hh];refine aE (aR ?_);refine wpAny_throw ?_;refine hq _ _ _ _ (λb o q=>?_) (Heap.get?_update_self _ (dq _ rfl) rfl) rfl;have lt:=bA q;rw [Heap.get?_update_other _ _ (by rw [mJ];exact jT (sO lt))];exact bW _ (bW _ q)
def xU {tk:Tok}{aU:Array Value}{n:Nat}{Q:Fin->Shared->Prop}(hx:h.get? a=some { cls:=.type "list",data:=.seq aU n })(hh:A.handled=none)
  (hq:∀h' t' e oe,(∀b o,h.get? b=some o->h'.get? b=some o)->h'.get? e=some oe->oe.cls=.type "AttributeError" -> E (.ref e) ⟨h',g,d,t',os⟩) :
  wpAny (model prog w) A (Builtin.«object.__getattribute__» ⟨[.ref a,.str "keys" tk],[]⟩) Q E ⟨h,g,d,t,os⟩:=by
 have hT:(⟨h,g,d,t,os⟩:Shared).TypeIs (.ref a) "list" := ⟨_,hx,rfl⟩;have f4:=um
 repeat (any_goals (first | assumption | wp_step))
 exact xu nofun hh hq
def ni {aU:Array Value}{n:Nat}{Q:Option Value->Shared->Prop}(hx:h.get? a=some { cls:=.type "list",data:=.seq aU n })(hh:A.handled=none)
  (hq:∀h' t',(∀b o,h.get? b=some o->h'.get? b=some o)->Q none ⟨h',g,d,t',os⟩):wpAny (model prog w) A (getAttr? (.ref a) "keys") Q E ⟨h,g,d,t,os⟩:=by
 have hT:∀t',(⟨h,g,d,t',os⟩:Shared).TypeIs (.ref a) "list" := λt'=>⟨_,hx,rfl⟩;have f1:=Bs;have f2:=s_.lookup;have f3:=s_.bind (.ref a);have f4:=uo;unfold getAttr? getAttrBy? getAttrBy;refine aE (wpAny_mkText (aE (wpAny_attempt (jq (aE (kZ (hT _) ?_))))));rw [f2];refine aE (aR ?_);show wpAny _ _ (getAttrByItsOwn _ _ _ _ _ _) _ _ _;unfold getAttrByItsOwn;refine aE (aR (a:=none) (aE (wpAny_attempt (jq ?_))));show wpAny _ _ (boundAndCalled _ _ _) _ _ _;unfold boundAndCalled;rw [f3];refine aE (aR (wpAny_call (codeAny_call_builtin s_.plain F.entry_list_ga (s_.check _ _ _ _ _ _ _ _ (hT _) (F.args_list_getattribute_2 _ _) (xU hx hh λh' t' e oe k ee ec=>?_)))));have te:(⟨h',g,d,t',os⟩:Shared).TypeIs (.ref e) "AttributeError" := ⟨oe,ee,ec⟩;show wpAny _ _ (getattributeRaised _ _ _ _ _ _ _) _ _ _;unfold getattributeRaised;refine aE (wpAny_isInstance te f1 ?_);rw [ax rfl];show wpAny _ _ (typeLookup _ _ >>= _) _ _ _;rw [f4];refine aE (aR ?_);show wpAny _ _ (throw _) _ _ _;refine wpAny_throw ?_;refine aE (wpAny_isInstance te f1 ?_);rw [ax rfl];exact aR (hq h' t' k)
end
def eJ:plainId "dict.update.loop"=true:=by decide +kernel
def jO:entryFor table "dict.update.loop"=some Builtin.«dict.update.loop»:=entryFor_of_tree (nofun)
section
variable {prog:Program}{w:World}{K:Type} [DecidableEq K] {knd:KeyKind prog w K}{A:Around}{E:Value->Shared->Prop}
def kT (knd:KeyKind prog w K)(h:Heap)(u:Value)(kv:K×Value):Prop :=
 ∃t key n o,u=.ref t/\knd.is kv.1 key=true/\h.get? t=some o/\o.cls=.type "tuple" /\ o.data=.seq #[key,kv.2] n
def kT.keep {h h':Heap}{u:Value}{kv:K×Value}(p:kT knd h u kv)(k:∀b o,o.cls=.type "tuple" -> h.get? b=some o->h'.get? b=some o):kT knd h' u kv :=
 let ⟨t,key,n,o,a,b,c,d,e⟩:=p;⟨t,key,n,o,a,b,k t o d c,d,e⟩
def Dj {R:Result->Shared->Prop}{d it l:Addr}{items:Array Value}(hh:A.handled=none):∀(more:List (K×Value)) (i:Nat)(s:Shared)(kvs:List (K×Value)) (j:Int)(tk:Tok),items.size=i+more.length ->
  s.heap.DictOf knd d kvs->s.heap.IsListIter it l i->s.heap.IsList l items->(∀m kv,more[m]?=some kv->∃u,items[i+m]?=some u/\kT knd s.heap u kv)->kvs.length+more.length<=sizeLine ->
  (∀h' t',h'.DictOf knd d (more.foldl (λa p=>stored a p.1 p.2) kvs)->(∀b o,b≠d->b≠it->s.heap.get? b=some o->h'.get? b=some o)->R (.ok (.ret .none)) { s with heap:=h',toks:=t' }) ->
  codeAny (model prog w) A (.builtin "dict.update.loop" ⟨[.ref d,.ref it,.int j tk,.none],[]⟩) R s:=by
 intro more
 induction more with
 | nil =>
  intro i s kvs j tk hi hd hit hl hp hz hR;refine oQ jO ?_;rw [oW eJ _];unfold Builtin.«dict.update.loop»;have hs:items[i]?=none:=Array.getElem?_eq_none (by rw [hi];exact aG _);refine aE (sV hh hit hl hs λh1 eb=>?_);have nd:d≠it:=λz=>by
   obtain⟨o,_,_,q,_,c,_⟩:=hd;obtain⟨o',q',_,c'⟩:=hit;rw [z,q'] at q;cases q;rw [c'] at c;cases c
  show wpAny _ _ (Builtin.Dict.addKeywords d [] >>= _) _ _ _;exact aE (aR (aR (hR h1 s.toks (hd.extBut eb nd) λb o n1 n2 q=>eb b o n2 q)))
 | cons kv more ih =>
  intro i s kvs j tk hi hd hit hl hp hz hR;refine oQ jO ?_;rw [oW eJ _];unfold Builtin.«dict.update.loop»;obtain⟨u,hu,t,key,n,o,rfl,hk,ho,hc,zk⟩:=hp 0 kv rfl;refine aE (wpAny_pyNext_list_item hit hl hu λh1 Qg sb=>?_);have nd:d≠it:=λz=>by
   obtain⟨o,_,_,q,_,c,_⟩:=hd;obtain⟨o',q',_,c'⟩:=hit;rw [z,q'] at q;cases q;rw [c'] at c;cases c
  have n2:∀b o,(o.cls=.type "tuple" \/ o.cls=.type "list")->s.heap.get? b=some o->b≠d/\b≠it:=by
   intro b o c q;constructor
   .intro z;obtain⟨o',q',c'⟩:=hd.typeIs;rw [z,q'] at q;cases q;rw [c'] at c;rcases c with c | c <;> exact absurd c nofun
   intro z;obtain⟨o',q',c',_⟩:=hit;rw [z,q'] at q;cases q;rw [c'] at c;rcases c with c | c <;> exact absurd c nofun
  have nt:∀b o,o.cls=.type "tuple" -> s.heap.get? b=some o->b≠d/\b≠it:=λb o c q=>n2 b o (.inl c) q;have nl:l≠d/\l≠it:=by
   obtain⟨o,q,c,_⟩:=hl;exact n2 l o (.inr c) q
  have Mo:h1.get? t=some o:=(sb.2 t (nt t o hc ho).2).trans ho;have Ar:h1.DictOf knd d kvs:=hd.sameBut sb nd;refine aE (jq (aE (wpAny_tryCatch ?_)));unfold Builtin.Dict.pairItems;refine aE (kZ (T := "tuple") ⟨o,Mo,hc⟩ ?_);rw [ax nofun];refine aE (oN Mo zk (aR ?_));show wpAny _ _ (holding [key,kv.2] (dictSet d key kv.2)) _ _ _;rw [d6] at hz hi;refine jq (wpAny_dictSet_pairs (s:={ s with heap:=h1 }) hk Ar (λh2 hd2 K8=>?_) ∅);have kk:∀b o,b≠d->b≠it->s.heap.get? b=some o->h2.get? b=some o:=λb o n1 n2 q=>(K8.2 b n1).trans ((sb.2 b n2).trans q);have ln:(stored kvs kv.1 kv.2).length<=kvs.length+1:=by
   unfold stored
   split
   .simp
   simp
  refine aR ⟨mD eJ _,ih (i+1) _ _ _ _ ∅ hd2 (Qg.at λo q=>(K8.2 it (fu nd)).trans q) (hl.at λo q=>kk l o nl.1 nl.2 q) (λm Qa e=>?_) ∅ λh3 t3 ig k3=>?_⟩
  .obtain⟨u',e1,e2⟩:=hp (m+1) Qa e;exact⟨u',by rw [<-e1];congr 1;omega,e2.keep λb o c q=>kk b o (nt b o c q).1 (nt b o c q).2 q⟩
  exact hR h3 t3 ig λb o n1 n2 q=>k3 b o n1 n2 (kk b o n1 n2 q)
def wZ:(Value.type "list" != Value.type "dict")=true:=by decide
def qm {s:Shared}{l:Addr}{items:Array Value}{n:Nat}{more:List (K×Value)}{Q:Value->Shared->Prop}(knd:KeyKind prog w K)(hh:A.handled=none)(hx:s.heap.get? l=some { cls:=.type "list",data:=.seq items n })
  (hi:items.size=more.length)(hp:∀(m:Nat) kv,more[m]?=some kv->∃u,items[m]?=some u/\kT knd s.heap u kv)(hz:more.length<=sizeLine)
  (h:∀h' t',h'.DictOf knd s.heap.objs.size (more.foldl (λa p=>stored a p.1 p.2) [])->(∀b o,s.heap.get? b=some o->h'.get? b=some o)->Q (.ref s.heap.objs.size) { s with heap:=h',toks:=t' }) :
  wpAny (model prog w) A (call (.type "dict") [.ref l]) Q E s:=by
 refine callType_codes (Q₁:=λobj s₁=>obj=.ref s.heap.objs.size/\s₁={ s with heap:=s.heap.push { cls:=.type "dict",data:=.dict #[] } }) F.kt_called_dict (F.kt_typeCall_dict_1 _) F.entry_dict_init (kt_code_dict_new _ ⟨rfl,rfl⟩) ?_;rintro obj s₁ ⟨rfl,rfl⟩;have xK:(s.heap.push { cls:=.type "dict",data:=.dict #[] }).DictOf knd s.heap.objs.size []:=Heap.DictOf.new s.heap;have l0:=bW { cls:=.type "dict",data:=.dict #[] } hx;refine⟨xK.typeIs,F.args_dict_init_2 _ _,?_⟩;unfold Builtin.«dict.__init__» Builtin.Dict.selfAndRest;refine aE (aE (wpAny_notOrdered_dict xK.typeIs (aR ?_)));show wpAny _ _ (Builtin.Dict.updateFrom "dict.__init__" s.heap.objs.size (.ref l) [] .none) _ _ _;unfold Builtin.Dict.updateFrom;refine aE (kZ (T := "list") ⟨_,l0,rfl⟩ ?_);rw [ax wZ];refine aE (ni l0 hh λh1 t1 k1=>?_);refine aE (wpAny_rule ?_);have l1:=k1 _ _ l0;refine aE (mQ ⟨_,l1,rfl,_,rfl⟩ ?_);have k2:∀b o,s.heap.get? b=some o->(h1.push { cls:=.type "list_iterator",data:=.fields #[.ref l,.int 0 0] }).get? b=some o:=λb o q=>bW _ (k1 _ _ (bW _ q));refine aR ⟨mD eJ _,Dj (knd:=knd) (A:=A.in1) (l:=l) (items:=items) (show A.in1.handled=none from hh) more 0 _ [] _ _ (by rw [hi,mI]) ?_ ⟨_,dq _ rfl,rfl,rfl⟩ ⟨_,k2 _ _ hx,rfl,n,rfl⟩ (λm kv e=>?_) (by simpa using hz) λh' t' hd k3=>?_⟩
 .obtain⟨o,es,ep,q,r⟩:=xK;exact⟨o,es,ep,bW _ (k1 _ _ q),r⟩
 .obtain⟨u,e1,e2⟩:=hp m kv e;exact⟨u,by rw [mI];exact e1,e2.keep λb o _ q=>k2 b o q⟩
 refine⟨rfl,h h' t' hd λb o q=>k3 b o (bQ (bA q)) ?_ (k2 b o q)⟩;have:=bA (k1 _ _ (bW { cls:=.type "dict",data:=.dict #[] } q));exact bQ this
end
open PySem PySem.Spec PyProof.Rows
def AV (X:Cx)(ifs:List Expr)(t:TT):Prop :=
 ∀(ag:List (Addr×Obj))(s:Shared)(σ:St)(H:Hp)(Q:Bool->Hp->Prop),Inv X ag σ H s->t σ H Q ->
  wpAny (model X.prog X.w) X.A (forIn ifs true λc r=>if r=true then do let ok <-isTrue c X.env (eval c X.env);pure (ForInStep.yield ok) else pure (ForInStep.yield r)) (TP X ag σ Q) X.xe s
def gh:TT:=λ_ H Q=>Q true H
def bw {X:Cx}:AV X [] gh:=λ_ _ _ H _ I h=>wpAny_tests_nil ⟨H,I,h⟩
def gP {X:Cx}{c:Expr}{t:TT}(h:PT X c t):AV X [c] t:=λag s σ H Q I hw=>wpAny_tests_one (h ag s σ H Q I hw)
def nZ {prog:Program}{w:World}{A:Around}{R:Result->Shared->Prop}{s:Shared}{elt target iter:Expr}{ifs:List Expr}{scope:Scope}{pos:Pos}{it bI:Value}{env:Env}(I:Nat->Shared->Prop)
  (turn:∀n s,I n s->wpAny (model prog w) A (pyNext it) (λr s₁=>match r with
   | none=>R (.ok .next) s₁
   | some v=>wpAny (model prog w) A (letOwnedTupleGo target it v) (λ_ s₁=>wpAny (model prog w) A (assign target env v) (λ_ s₂ =>
     wpAny (model prog w) A (forIn ifs true λc r=>if r=true then do let ok <-isTrue c env (eval c env);pure (ForInStep.yield ok) else pure (ForInStep.yield r)) (λok s₃ =>
      if ok=true then wpAny (model prog w) A (eval elt env) (λx s₄ =>
       wpAny (model prog w) A (call (.builtin "list.append") [bI,x]) (λ_ s₅=>∃m,m < n/\I m s₅) (λ_ _=>False) s₄) (λ_ _=>False) s₃
      else ∃m,m < n/\I m s₃) (λ_ _=>False) s₂) (λ_ _=>False) s₁) (λ_ _=>False) s₁) (λ_ _=>False) s)
  (n:Nat)(h:I n s) :
  codeAny (model prog w) A (.compLoop (.ListComp elt [⟨target,iter,ifs,0⟩] scope pos) 0 it bI env) R s:=by
 refine codeAny_loop rfl I (λn s hI=>?_) n h;show wpAny _ A ((compTurn (.ListComp elt [⟨target,iter,ifs,0⟩] scope pos) 0 it bI env).onRaise (λx=>do noteFrame x env;theTreesLotGoes x)) _ _ s;refine wpAny_noted ?_;rw [compTurn_list];refine aE (wpAny_standAt (aE (cY (turn n s hI) (λr s₁ h₁=>?_) λ_ _ h'=>h'.elim)));cases r with
 | none=>exact aR h₁
 | some v =>
  refine aE (cY h₁ (λ_ s₂ h₂=>?_) λ_ _ h'=>h'.elim);refine aE (cY h₂ (λ_ s₂ h₂=>aE (cY h₂ (λok s₃ h₃=>?_) λ_ _ h'=>h'.elim)) λ_ _ h'=>h'.elim);cases ok with
  | false=>exact aR ⟨rfl,h₃⟩
  | true =>
   exact aE (aE (cY h₃ (λx s₄ h₄=>aE (cY h₄ (λ_ s₅ h₅=>aR (aR ⟨rfl,h₅⟩)) λ_ _ h'=>h'.elim)) λ_ _ h'=>h'.elim))
inductive wq (K:a8)(H:Hp):V->String->Prop where
 | bl (x:Bool):wq K H (.bl x) "bool"
 | int (i:Int):wq K H (.int i) "int"
 | str (x:Str):wq K H (.str x) "str"
 | tup {a:Addr}{xs:List V}(e:aZ K H a xs):wq K H (.ref a) "tuple"
inductive VL (K:a8)(H:Hp)(xs:List V)(R:Bool->Prop):Prop
|mk(x:V)(T n:String)(b:Bool)(e:xs=[x,.ty n])(c:wq K H x T)(k:PySem.W.kitOne K (.type T) (.type n)=some b)(q:R b)
def ib {X:Cx}:ft X (.builtin "isinstance") (λxs H Q=>VL X.K H xs λb=>Q (.bl b) H):=by
 intro ag s σ H xs us Q I r h;obtain⟨x,T,n,b,rfl,ty,e,q⟩:=h;obtain⟨u,w',rfl,rx,rn⟩:=vals2 r;cases (show w'=Value.type n from rn);have fin:∀tk,EP X ag σ Q (.bool b) { s with toks:=tk }:=λtk=>⟨.bl b,H,I.tok _,rfl,q⟩;cases ty with
 | bl y=>cases (show u=Value.bool y from rx);exact oS PySem.W.kitx_bool I.rH True.intro e (λz=>nomatch z) fin
 | int i=>obtain⟨t,z⟩:=(show ∃t,u=Value.int i t from rx);cases z;exact oS PySem.W.kitx_int I.rH True.intro e (λz=>nomatch z) fin
 | str y=>obtain⟨t,z⟩:=(show ∃t,u=Value.str y t from rx);cases z;exact oS PySem.W.kitx_str I.rH True.intro e (λz=>nomatch z) fin
 | @tup a ys hq =>
  cases (show u=Value.ref a from rx);obtain⟨aU,_,⟨o,h1,h2,_⟩,_⟩:=I.tuple hq;exact oS PySem.W.kitx_tuple I.rH ⟨o,h1,h2⟩ e (λz=>nomatch z) fin
def zY {X:Cx}{a:Expr}{ta:TE}(K:a8)(ha:PE X a ta)(he:∀whole,isTrue a X.env whole=(do let v <-whole;standAt a.pos;holding [v] (truthy v)))(hK:X.K=K:=by rfl) :
  PT X a (λσ H Q=>ta σ H λx H'=>∃k,DE K x H' k/\Q k H'):=by
 subst hK;exact iz ha he
structure FI (env:Env)(scope:Scope)(cl:List (Str×Addr)):Prop where
 eq:closureFor scope env=pure cl
 sub:∀y c,cl.lookup y=some c->env.cells.lookup y=some c
 all:∀y,(y,NameKind.free)∈scope.names->∃c,cl.lookup y=some c
def iU {y n:Str}{c:Addr}{l:List (Str×Addr)}:((n,c)::l).lookup y=if y=n then some c else l.lookup y:=by
 by_cases h:y=n
 .rw [ax h];simp [List.lookup,h]
 rw [ay h];simp [List.lookup,jk.mpr h]
def uJ {env:Env}{scope:Scope}(h:∀y,(y,NameKind.free)∈scope.names->∃c,env.cells.lookup y=some c):∃cl,FI env scope cl:=by
 have go:∀(names:List (Str×NameKind))(bI:List (Str×Addr)),(∀y,(y,NameKind.free)∈names->∃c,env.cells.lookup y=some c)->(∀y c,bI.lookup y=some c->env.cells.lookup y=some c) ->
   ∃cl,(forIn names bI λ(x:Str×NameKind)(cs:List (Str×Addr))=>(if x.2 == .free then do let c <-cellOf env x.1;pure (ForInStep.yield ((x.1,c)::cs)) else pure (ForInStep.yield cs):Sem (ForInStep (List (Str×Addr)))))=pure cl /\
    (∀y c,cl.lookup y=some c->env.cells.lookup y=some c)/\(∀y,(y,NameKind.free)∈names->∃c,cl.lookup y=some c)/\∀y c,bI.lookup y=some c->∃c',cl.lookup y=some c':=by
  intro names
  induction names with
  | nil=>intro bI _ hs;exact⟨bI,rfl,hs,λy hy=>absurd hy (by simp),λy c e=>⟨c,e⟩⟩
  | cons x r ih =>
   intro bI hf hs;obtain⟨n,k⟩:=x;rw [List.forIn_cons];by_cases hk:k=.free
   .subst hk;obtain⟨c0,e0⟩:=hf n b0;obtain⟨cl,e1,e2,e3,e4⟩:=ih ((n,c0)::bI) (λy hy=>hf y (cz _ hy)) (λy c e=>by
     rw [iU] at e;by_cases z:y=n
     .rw [ax z] at e;cases e;rw [z];exact e0
     rw [ay z] at e;exact hs y c e)
    refine⟨cl,?_,e2,λy hy=>?_,λy c e=>?_⟩
    .rw [<-e1];have:cellOf env n=pure c0:=by unfold cellOf;rw [e0]
     simp only [this];rfl
    .rcases bM.mp hy with z | z
     .cases z;exact e4 n c0 (by rw [iU,ax rfl])
     exact e3 y z
    by_cases z:y=n
    .exact e4 y c0 (by rw [iU,ax z])
    exact e4 y c (by rw [iU,ay z];exact e)
   obtain⟨cl,e1,e2,e3,e4⟩:=ih bI (λy hy=>hf y (cz _ hy)) hs;refine⟨cl,?_,e2,λy hy=>?_,e4⟩
   .rw [<-e1];have:(k == NameKind.free)=false:=by simpa using hk
    simp only [this];rfl
   rcases bM.mp hy with z | z
   .cases z;exact absurd rfl hk
   exact e3 y z
 obtain⟨cl,e1,e2,e3,_⟩:=go scope.names [] h (λy c e=>by simp at e);refine⟨cl,?_,e2,e3⟩;unfold closureFor;exact Eq.trans (congrArg (λt:Sem (List (Str×Addr))=>t >>= λcs=>pure cs) e1) rfl
def ue {scope:Scope}{env:Env}{y:Str}(hk:env.scope.kind=.function)(hy:scope.names.lookup y=some .free)(he:env.kindOf y=some .cell):(relabel scope env).names.lookup y=some .cell:=by
 have go:∀l:List (Str×NameKind),l.lookup y=some .free->(l.map λ(x:Str×NameKind)=>if (x.2 == NameKind.free && env.scope.kind == .function && env.kindOf x.1 == some .cell) then (x.1,NameKind.cell) else (x.1,x.2)).lookup y=some .cell:=by
  intro l
  induction l with
  | nil=>intro z;cases z
  | cons x r ih =>
   obtain⟨n,k⟩:=x;intro hy;rw [bZ];by_cases z:y=n
   .subst z;simp [List.lookup] at hy;subst hy;simp [List.lookup,hk,he]
   have zb:(y == n)=false:=jk.mpr z;simp only [List.lookup,zb] at hy;have:=ih hy;dsimp only
   split <;> simp only [List.lookup,zb] <;> exact this
 exact go _ hy
theorem uk {α:Type}{y:Str}{v:α}:∀{l:List (Str×α)},l.lookup y=some v->(y,v)∈l
 | [],h=>by cases h
 | (n,u)::r,h=>by
  by_cases z:y=n
  .subst z;simp [List.lookup] at h;subst h;exact b0
  have zb:(y == n)=false:=jk.mpr z;simp only [List.lookup,zb] at h;exact cz _ (uk h)
def lX {scope:Scope}{env:Env}{y:Str}{k:NameKind}(h:(relabel scope env).names.lookup y=some k)(hk:k=.cell\/k=.free)(hc:∀z∈scope.names,z.2≠.cell):(y,NameKind.free)∈scope.names:=by
 have m:=uk h;unfold relabel at m;obtain⟨⟨n,k'⟩,m1,m2⟩:=cH.mp m;dsimp only at m2
 split at m2
 .rename_i q
  cases m2;simp at q;obtain⟨⟨q,_⟩,_⟩:=q;subst q;exact m1
 cases m2;rcases hk with hk | hk
 .exact absurd hk (hc _ m1)
 rw [<-hk];exact m1
def qe (X:Cx)(scope:Scope)(cl:List (Str×Addr))(C:Addr)(s1:Shared)(H1:Hp) (N:List Str)(fp:List Addr):Cx :=
 { X with N:=N,s₀:=s1,H₀:=H1,env:=compEnvC scope cl C X.env,outer:=X.stack,stack:=X.stack,ex:=fp,fn:=λ_=>false,pn:=[],xe:=λ_ _=>False }
structure FJ (X:Cx)(scope:Scope)(js:List (Nat×Str)):Prop where
 at_:∀p∈js,X.N[p.1]?=some p.2/\X.env.scope.names.lookup p.2=some .cell/\scope.names.lookup p.2=some .free
 all:∀y,(y,NameKind.free)∈scope.names->X.env.scope.names.lookup y=some .cell
def df (ts:List Str)(js:List (Nat×Str))(σ:St):St:=ts.map (λ_=>none)++js.map λp=>(σ[p.1]?).join
def rL {X:Cx}{ag:List (Addr×Obj)}{σ:St}{H:Hp}{s1 s4:Shared}{scope:Scope}{ts:List Str}{js:List (Nat×Str)}{cl:List (Str×Addr)}{fp:List Addr}{C:Addr}{m:Str->Option Value}
  (I:Inv X ag σ H s1)(hf:∀b∈fp,uS X ag H b)(C2:∀b∈fp,b < s1.heap.objs.size)(iF:scope.kind=.function)(iG:∀y∈scope.names,y.2≠.cell)(cp:FJ X scope js)(nu:FI X.env scope cl)
  (hC:s1.heap.objs.size < C)(ho:s4.os=s1.os)(hg:s4.gens=s1.gens)(old:∀b o,s1.heap.get? b=some o->s4.heap.get? b=some o)(hn:s4.heap.Ns C m)
  (hD:s4.heap.get? s1.heap.objs.size=some { cls:=.type "list",data:=.seq ([]:List Value).toArray 0 }) :
  Inv (qe X scope cl C s1 H (ts++js.map (·.2)) fp) [] (df ts js σ) (upd H s1.heap.objs.size (.lst [])) s4:=by
 have xk:X.env.scope.kind=.function:=I.ok.kind;have has:∀y,((relabel scope X.env).names.lookup y=some .cell\/(relabel scope X.env).names.lookup y=some .free)->∃c,cl.lookup y=some c:=λy hy=>nu.all y (by
  rcases hy with hy | hy
  .exact lX hy (.inl rfl) iG
  exact lX hy (.inr rfl) iG)
 have lt:∀y c,cl.lookup y=some c->c < s1.heap.objs.size:=λy c e=>by
  obtain⟨v,o,ho,_⟩:=I.cell y c (nu.sub y c e);exact bA ho
 refine⟨⟨I.ok.mod,iF,I.ok.glob,I.ok.blt,jn hC,λy z c h1 h2=>I.ok.inj y z c (nu.sub _ _ h1) (nu.sub _ _ h2),has,λy c h _=>absurd (show false=true from h) cZ,I.ok.hd,I.ok.frames,.inl rfl,
   λb hb=>⟨bQ (jo (C2 b hb) hC),λy c h=>(hf b hb).2.2.2.2.1 y c (nu.sub _ _ h)⟩,I.bs,fU I.ok.El I.sz,λb o e hb=>?_,λb hb=>?_,I.stack,I.yJ⟩,
  ho,?_,Un.laid old (aG _) I.fresh,⟨m,hn,λi y v e1 e2 _=>?_⟩,λy c h=>?_,?_,λy c h=>?_,λp hp=>absurd (show p∈([]:List (Addr×Obj)) from hp) (by simp),I.bS.laid old (aG _) ?_,?_⟩
 .obtain⟨_,_,_,h4,_⟩:=hf b hb;rcases h4 with h4 | h4
  .exact I.ok.CB b o e h4
  exact absurd (eZ (bA (I.ok.bs b o e).1) h4) (nJ _)
 .intro Ed;obtain⟨_,h2,h3,_⟩:=hf b hb;rcases bM.mp (I.w5 b Ed) with z | z
  .exact h2 z
  exact h3 z
 .rw [hg];exact I.bare
 .have Ft:(ts++js.map (·.2))[i]?=some y:=e1;have AF:(ts.map (λ_=>(none:Option V))++js.map λp=>(σ[p.1]?).join)[i]?=some (some v):=e2;by_cases hi:i < ts.length
  .rw [lD (by simpa using hi)] at AF;simp [hi] at AF
  rw [jZ ∅] at Ft;rw [jZ (by simpa using Nat.le_of_not_lt hi)] at AF;rw [av] at AF;rw [bo] at Ft AF;cases hj:js[i - ts.length]? with
  | none=>rw [hj] at Ft;cases Ft
  | some p =>
   rw [hj] at Ft AF;simp only [oR,Option.some.injEq] at Ft AF;obtain⟨a1,a2,a3⟩:=cp.at_ p (cy hj);subst Ft;have es:σ[p.1]?=some (some v):=by
    cases q:σ[p.1]? with
    | none=>rw [q] at AF;cases AF
    | some z=>rw [q] at AF;exact congrArg some AF
   obtain⟨m0,N_,lk⟩:=I.loc;obtain⟨u,ru,l⟩:=lk p.1 p.2 v a1 es (.inr (.inl a2));rcases l with l | ⟨_,c,ec,o,hc,hd⟩
   .have l1:X.env.scope.names.lookup p.2=some .local:=l.1;rw [a2] at l1;cases l1
   obtain⟨c',Vb⟩:=nu.all p.2 (uk a3);have e3:=nu.sub _ _ Vb;rw [ec] at e3;cases e3;exact⟨u,ru,.inr ⟨.inl (ue xk a3 a2),c,Vb,o,old _ _ hc,hd⟩⟩
 .obtain⟨v,o,h1,h2⟩:=I.cell y c (nu.sub y c h);exact⟨v,o,old _ _ h1,h2⟩
 .show upd H s1.heap.objs.size (.lst []) C=none;rw [ai (jT hC)];exact I.bS.fresh (jn hC)
 .show upd H s1.heap.objs.size (.lst []) c=none;rw [ai (bQ (lt y c h))];exact I.j7 y c (nu.sub y c h)
 .exact⟨by show 0<=sizeLine;decide,[],0,.nil,hD⟩
 show (df ts js σ).length=(ts++js.map (·.2)).length;simp [df]
def Bq (wi:TI) (ts:List Str)(js:List (Nat×Str))(g:TG)(tif:TT)(te:TE):TE:=λσ H Q=>wi σ H λJ H1=>∀D,H1 D=none->∃W:Nat->Nat->List V->St->Hp->Prop,(∃m,W 0 m [] (df ts js σ) (upd H1 D (.lst []))) /\
 ∀i m ys σ' H,W i m ys σ' H->(J.stop i H/\Q (.ref D) H)\/(J.go i H/\∃m',m' < m/\∀x H',J.ka i H x H'->g x σ' H' λσ2 H2=>tif σ2 H2 λb H3 =>
  if b=true then te σ2 H3 λy H4=>H4 D=some (.lst ys)/\ys.length < sizeLine/\W (i+1) m' (ys++[y]) σ2 (upd H4 D (.lst (ys++[y]))) else W (i+1) m' ys σ2 H3)
def aT {X:Cx}{elt iter tg:Expr}{ifs:List Expr}{scope:Scope}{pos:Pos}{wi:TI}{g:TG}{tif:TT}{te:TE}(ts:List Str)(js:List (Nat×Str))(hc:X.calm=true)(hi:PI X tg iter wi)
  (cp:FJ X scope js)(iG:∀y∈scope.names,y.2≠.cell)(iF:scope.kind=.function)
  (xY:∀y∈scope.names,y.2=.local->scope.names.lookup y.1=some .local)
  (hg:∀cl C s1 H1 fp,PG (qe X scope cl C s1 H1 (ts++js.map (·.2)) fp) tg g)
  (QK:∀cl C s1 H1 fp,AV (qe X scope cl C s1 H1 (ts++js.map (·.2)) fp) ifs tif)(he:∀cl C s1 H1 fp,PE (qe X scope cl C s1 H1 (ts++js.map (·.2)) fp) elt te)
  (hs:∀x,foldedSetIterable iter X.env x=pure x:=by intro _;rfl) :
  PE X (.ListComp elt [⟨tg,iter,ifs,0⟩] scope pos) (Bq wi ts js g tif te):=by
 intro ag s σ H Q I h;rw [eval_ListComp];obtain⟨cl,nu⟩:=uJ (env:=X.env) (scope:=scope) λy hy=>I.ok.has y (.inl (cp.all y hy));refine wpAny_comprehension_free (use:=none) rfl hs nu.eq iF xY (cJ (hi ag s σ H _ I h) λv s1 h1=>cJ h1 λN6 s2 h2=>?_);obtain⟨it,fp,tn,J,H2,e,I2,T,DR,f2,h2⟩:=h2;subst e;obtain⟨W,⟨m0,w0⟩,turn⟩:=h2 s2.heap.objs.size I2.fresh;have C2:∀b∈fp,b < s2.heap.objs.size:=λb hb=>by obtain⟨o,e,_⟩:=T.obj _ _ DR b hb;exact bA e
 refine k_ (wpAny_newFunctionEnv iG (by intro y hy;simp at hy) (λh₁ xX uy=>?_) iF);dsimp only at xX uy ⊢;generalize IZ:s2.heap.push { cls:=.type "list",dict:=none,data:=.seq ([]:List Value).toArray }=G2 at xX uy ⊢;have Fo:G2.objs.size=s2.heap.objs.size+1:=by rw [<-IZ,mJ]
 have Q2:s2.heap.objs.size≠G2.objs.size:=by rw [Fo];exact bQ (nK _)
 have old:∀b o,s2.heap.get? b=some o->h₁.get? b=some o:=λb o e =>
  uy.extBut b o (by rw [Fo];exact bQ (sO (bA e))) (bW _ (IZ ▸ bW _ e))
 have Av:h₁.get? s2.heap.objs.size=some { cls:=.type "list",data:=.seq ([]:List Value).toArray 0 }:=uy.extBut _ _ Q2 (bW _ (IZ ▸ dq _ rfl));generalize mi:qe X scope cl G2.objs.size s2 H2 (ts++js.map (·.2)) fp=X2;have I4:Inv X2 [] (df ts js σ) (upd H2 s2.heap.objs.size (.lst [])) { s2 with heap:=h₁,toks:=s2.toks+([]:List (Str×Value)).length }:=by
  rw [<-mi];exact rL I2 f2 C2 iF iG cp nu (by rw [Fo];exact nK _) rfl rfl old xX Av
 have x1:X2.prog=X.prog:=by rw [<-mi];rfl
 have x2:X2.w=X.w:=by rw [<-mi];rfl
 have x3:X2.K=X.K:=by rw [<-mi];rfl
 have x4:X2.calm=true:=by rw [<-mi];exact hc
 have x5:X2.A=X.A:=by rw [<-mi];rfl
 have x6:X2.env=compEnvC scope cl G2.objs.size X.env:=by rw [<-mi];rfl
 have x7:X2.xe=λ_ _=>False:=by rw [<-mi];rfl
 have QM:PG X2 tg g:=by rw [<-mi];exact hg _ _ _ _ _
 have IQ:AV X2 ifs tif:=by rw [<-mi];exact QK _ _ _ _ _
 have Eb:PE X2 elt te:=by rw [<-mi];exact he _ _ _ _ _
 have K2:tn 0 h₁:=T.keep _ _ _ DR λb _ o e=>old b o e;have o_:∀{H':Hp}{i7:List (Addr×Obj)},(∀b∈fp,H' b=none)->(∀p∈i7,p.1∉fp)->∀b∈fp,uS X2 i7 H' b:=λ{H' i7} hn hp b hb=>by
  have o4:=I4.ok;subst mi;exact⟨hn b hb,(o4.Kg b hb).1,o4.Az b hb,.inl hb,(o4.Kg b hb).2,λp nq=>by
   have qG:p∈([]:List (Addr×Obj))++i7:=nq;rw [oH] at qG;intro z;exact hp p qG (by rw [z];exact hb)⟩
 have fin:∀{s':Shared}{σ':St}{H':Hp},Inv X2 [] σ' H' s'->Q (.ref s2.heap.objs.size) H' ->
   compPost (model X.prog X.w) X.A X.xe none (EP X ag σ Q) (.ref s2.heap.objs.size) G2.objs.size (.ok .next) s':=λ{s' σ' H'} J' q=>by
  subst mi;obtain⟨m',C0,_⟩:=J'.loc;refine⟨m',C0,λh' JX=>?_⟩;have u:Un (Aw X.stack) fp H2 H' s2.heap s'.heap:=J'.base;have nC:∀b o,s2.heap.get? b=some o->b≠G2.objs.size:=λb o e=>by rw [Fo];exact bQ (sO (bA e))
  have u':Un (Aw X.stack) fp H2 H' s2.heap h':=⟨λb o e n hb hx=>(JX.2 b (nC b o e)).trans (u.keep b o e n hb hx),λb o e n hb hx=>by
    obtain⟨sl,z⟩:=u.slot b o e n hb hx;exact⟨sl,(JX.2 b (nC b o e)).trans z⟩,u.free,λb o e hx=>by
    obtain⟨o',z⟩:=u.there b o e hx;exact⟨o',(JX.2 b (nC b o e)).trans z⟩,u.mS,u.kO,u.lH⟩
  have bS:j9 X.prog X.w H' h':=λb ob e=>by
   refine(J'.bS b ob e).ju (λc w' kN q'=>(JX.2 c ?_).trans q') (λ_ q=>q) λ_ _ q=>q;intro z;have fr:H' G2.objs.size=none:=J'.free;rcases kN with z' | z'
   .rw [<-z'] at e;rw [z,fr] at e;cases e
   rw [z,fr] at z';cases z'
  have I5:Inv X ag σ H' { s' with heap:=h' }:=I2.GO (s':={ s' with heap:=h' }) J'.os u' bS J'.bare λb hb=>by
   obtain⟨_,f1,_,f3,f4,f5⟩:=f2 b hb;exact⟨f3,f1,f4,f5⟩
  exact⟨.ref s2.heap.objs.size,H',I5,rfl,q⟩
 have loop:∀s₃:Shared,s₃={ s2 with heap:=h₁,toks:=s2.toks+([]:List (Str×Value)).length } ->
   codeAny (model X.prog X.w) X.A (.compLoop (.ListComp elt [⟨tg,iter,ifs,0⟩] scope pos) 0 (.ref it) (.ref s2.heap.objs.size) (compEnvC scope cl G2.objs.size X.env))
    (compPost (model X.prog X.w) X.A X.xe none (EP X ag σ Q) (.ref s2.heap.objs.size) G2.objs.size) s₃:=by
  rintro s₃ rfl;subst mi;refine nZ (λn s'=>∃i ys σ' H',Inv (qe X scope cl G2.objs.size s2 H2 (ts++js.map (·.2)) fp) [] σ' H' s'/\tn i s'.heap/\(∀b∈fp,H' b=none)/\W i n ys σ' H') ?_ m0
   ⟨0,[],_,_,I4,K2,λb hb=>by rw [ai (bQ (C2 b hb))];exact(f2 b hb).1,w0⟩
  rintro n s' ⟨i,ys,σ0,H',J',uT,MR,w'⟩;rcases turn i n ys σ0 H' w' with ⟨stop,q⟩ | ⟨go,m',hm,step⟩
  .refine cY (T.done (qe X scope cl G2.objs.size s2 H2 (ts++js.map (·.2)) fp) rfl rfl rfl hc i [] s' _ H' (λ_ _=>False) J' (o_ MR (by simp)) uT stop) (λr s4 ⟨hr,J4⟩=>?_) λ_ _ z=>z;subst hr;exact fin J4 q
  refine cY (T.item (qe X scope cl G2.objs.size s2 H2 (ts++js.map (·.2)) fp) rfl rfl rfl hc i [] s' _ H' (λ_ _=>False) J' (o_ MR (by simp)) uT go) (λr s4 ⟨u,hr,h4⟩=>?_) λ_ _ z=>z;subst hr;refine cY h4 (λ_ s5 bj=>?_) λ_ _ z=>z;obtain⟨xv,H5,J5,r5,y5,zT,MQ⟩:=bj;have Sx:=J5.pinned (o_ MQ (by simp)) (T.obj _ _ zT);have back:∀{s7:Shared}{σ7:St}{H7:Hp},Inv (qe X scope cl G2.objs.size s2 H2 (ts++js.map (·.2)) fp) ([]++mZ fp s5.heap) σ7 H7 s7->Inv (qe X scope cl G2.objs.size s2 H2 (ts++js.map (·.2)) fp) [] σ7 H7 s7/\tn (i+1) s7.heap/\∀b∈fp,H7 b=none:=λ{s7 σ7 H7} J7=>by
   refine⟨J7.jr,T.keep _ _ _ zT λb hb o e=>(J7.pin (b,o) (dO _ (dO _ (gu hb e)))).1,λb hb=>?_⟩;obtain⟨o,e,d⟩:=T.obj _ _ zT b hb;exact(J7.pin (b,o) (dO _ (dO _ (gu hb e)))).2.1
  show wpAny _ _ (assign tg (qe X scope cl G2.objs.size s2 H2 (ts++js.map (·.2)) fp).env u) _ _ s5;refine cY (QM _ s5 _ H5 xv u _ Sx r5 (step xv H5 y5)) (λ_ s6 bj=>?_) λ_ _ z=>z;obtain⟨σ6,H6,J6,q6⟩:=bj;refine cY (IQ _ s6 _ H6 _ J6 q6) (λb s7 bj=>?_) λ_ _ z=>z;obtain⟨H7,J7,q7⟩:=bj;cases b with
  | false =>
   rw [ay cZ] at q7 ⊢;obtain⟨J8,O9,Rb⟩:=back J7;exact⟨m',hm,i+1,ys,σ6,H7,J8,O9,Rb,q7⟩
  | true =>
   rw [ax rfl] at q7 ⊢;refine cY (Eb _ s7 _ H7 _ J7 q7) (λyv s8 bj=>?_) λ_ _ z=>z;obtain⟨y,H8,J8,r8,Q3,Qj,w8⟩:=bj;refine cY (bh (X:=qe X scope cl G2.objs.size s2 H2 (ts++js.map (·.2)) fp) _ s8 _ H8 (.ref s2.heap.objs.size) [y] (.ref s2.heap.objs.size) [yv] (λv H'=>W (i+1) m' (ys++[y]) σ6 H') J8 rfl (.cons r8 .nil) ⟨s2.heap.objs.size,ys,y,rfl,rfl,Q3,Qj,w8⟩)
    (λ_ s9 ⟨_,H9,J9,_,w9⟩=>?_) λ_ _ z=>z
   obtain⟨Sy,Hm,Jc⟩:=back J9;exact⟨m',hm,i+1,ys++[y],σ6,H9,Sy,Hm,Jc,w9⟩
 exact codeAny_compStart_list (loop _ rfl) (T.self _ _ _ _ _ K2 (loop _ rfl))
def Ny (K:a8)(a:Addr):It :=
 ⟨λi H=>∃xs x,aH K H a xs/\xs[i]?=some x,λi H x H'=>∃t y,x=.ref t/\H t=none/\H'=upd H t (.tup [.int (i:Int),y])/\∀xs,aH K H a xs->xs[i]?=some y,λi H=>∃xs,aH K H a xs/\xs.length<=i⟩
def zQ {P:Program}{w:World}{K:a8}{elts:List Expr}{k:Nat}{tK:Pos}(a e it:Addr)(Mx:e≠it) :
  Turn P w K (.Tuple elts k tK) (Ny K a) [e,it] e (λi h=>(∃old,IsEnum h e it i old)/\h.IsListIter it a i) where
 mem:=by simp
 obj:=λi h st b hb=>by
  obtain⟨⟨old,he⟩,o,e1,c,d⟩:=st;rcases bM.mp hb with rfl | hb
  .exact⟨_,he,λv z=>by cases z⟩
  obtain rfl:b=it:=by simpa using hb
  exact⟨o,e1,λv z=>by rw [d] at z;cases z⟩
 keep:=λi h h' st k=>⟨⟨st.1.choose,k e (by simp) _ st.1.choose_spec⟩,st.2.at λo q=>k it (by simp) o q⟩
 item:=by
  intro X hP hw hK hc i ag s σ H E I hf st hg;subst hP hw hK;obtain⟨xs,x,hq,hx⟩:=hg;obtain⟨aU,rv,p,hz⟩:=I.list hq;obtain⟨u,hu,ru⟩:=rv.get hx;obtain⟨⟨old,he⟩,hit⟩:=st;refine wpAny_pyNext_enum_item he hit p.isList (x:=u) (by simpa using hu) Mx λh1 ho IP hT hsz hk=>?_;refine⟨_,rfl,wpAny_letOwnedTupleGo_enum ho λh2 QR sb=>?_⟩;have ne:s.heap.objs.size≠e:=jT (bA he);have kk:∀b o,b≠e->b≠it->s.heap.get? b=some o->h2.get? b=some o:=λb o n1 n2 q=>(sb.2 b n1).trans (hk b o n1 n2 q);have T2:h2.get? s.heap.objs.size=some { cls:=.type "tuple",data:=.seq #[.int i s.toks,u] }:=(sb.2 _ ne).trans hT;have fe:=hf e (by simp);have fi:=hf it (by simp);have fT:H s.heap.objs.size=none:=I.bS.fresh (aG _);have tr:∀b v,H b=some v->b≠e/\b≠it:=λb v q=>⟨λz=>(by rw [z,fe.1] at q;cases q),λz=>(by rw [z,fi.1] at q;cases q)⟩;have nc:∀b,b∉[e,it]->b≠e/\b≠it:=λb z=>⟨λq=>z (by simp [q]),λq=>z (by simp [q])⟩;have lt:∀b o,s.heap.get? b=some o->b≠s.heap.objs.size:=λb o q=>bQ (bA q);have I2:Inv X ag σ (upd H s.heap.objs.size (.tup [.int (i:Int),x])) { s with heap:=h2,toks:=s.toks+1 }:=by
   refine I.call (g':=s.gens) (t':=s.toks+1) (d':=s.drawn) (ch:=[e,it]) ⟨λb o q _ _ c=>kk b o (nc b c).1 (nc b c).2 q,λb o q _ _ c=>⟨o.slots,kk b o (nc b c).1 (nc b c).2 q⟩,
    λb o q n _=>by rw [ai (lt b o q)];exact n,λb o q c=>⟨o,kk b o (nc b c).1 (nc b c).2 q⟩,λb ys q=>by rw [ai (aw q fT)];exact q,λb o v q=>by rw [ai (aw q fT)];exact q,
    λb ps q=>⟨#[],by rw [ai (aw q fT),q];simp⟩⟩ (λb v q=>?_) I.bare (λb hb=>?_)
   .by_cases hb:b=s.heap.objs.size
    .subst hb;rw [ae] at q;cases q;exact⟨by show 2<=sizeLine;decide,[.int i s.toks,u],.cons ⟨_,rfl⟩ (.cons ru .nil),_,T2,rfl,_,rfl⟩
    rw [ai hb] at q;refine(I.bS b v q).ju (λc o kN z=>?_) (λc q'=>by rw [ai (aw q' fT)];exact q') λc ys q'=>by rw [ai (aw q' fT)];exact q'
    rcases kN with rfl | kN
    .exact kk c o (tr c _ q).1 (tr c _ q).2 z
    exact kk c o (tr c _ kN).1 (tr c _ kN).2 z
   rcases bM.mp hb with rfl | hb
   .exact⟨fe.2.2.2.1,fe.2.1,fe.2.2.2.2.1,fe.2.2.2.2.2⟩
   obtain rfl:b=it:=by simpa using hb
   exact⟨fi.2.2.2.1,fi.2.1,fi.2.2.2.2.1,fi.2.2.2.2.2⟩
  refine⟨.ref s.heap.objs.size,_,I2,rfl,⟨_,x,rfl,fT,rfl,λys hy=>by rw [I.pM hy hq];exact hx⟩,⟨⟨_,QR⟩,IP.at λo q=>(sb.2 it Mx.symm).trans q⟩,λb hb=>?_⟩;have Ed:H b=none/\∃o,s.heap.get? b=some o:=by
   rcases bM.mp hb with rfl | hb
   .exact⟨fe.1,_,he⟩
   obtain rfl:b=it:=by simpa using hb
   obtain⟨o,q,_⟩:=hit;exact⟨fi.1,o,q⟩
  obtain⟨n,o,q⟩:=Ed;rw [ai (lt b o q)];exact n
 done:=by
  intro X hP hw hK hc i ag s σ H E I hf st hg;subst hP hw hK;obtain⟨xs,hq,hx⟩:=hg;obtain⟨aU,rv,p,hz⟩:=I.list hq;obtain⟨⟨old,he⟩,hit⟩:=st;obtain⟨f0,f1,f2,f3,f4,f5⟩:=hf it (by simp);have hl:=rv.length;exact wpAny_pyNext_enum_end (I.ok.hd hc) he hit p.isList (by simp;omega) λh' eb=>⟨rfl,I.turned (t':=s.toks) (λb o hb e=>eb b o hb e) f0 f1 f3 f4 f5⟩
 self:=λ_ _ _ _ _ st h=>wpAny_pyIter_enum st.1.choose_spec h
def r_:bootBuiltins "enumerate"=some (.type "enumerate"):=by decide +kernel
def LY (K:a8)(ta:TA):TI:=λσ H R=>ta σ H λvs H1=>Sn vs (aH K H1) λa=>R (Ny K a) H1
def lZ {X:Cx}{elts:List Expr}{k:Nat}{tK:Pos}{l:Expr}{ta:TA}{p pos:Pos}(hg:Gl X "enumerate")(hm:X.mg "enumerate"=none)(ha:PA X [l] ta)(hs:starEach [l] X.env=[(false,eval l X.env)]:=by rfl) :
  PI X (.Tuple elts k tK) (.Call (.Name "enumerate" p) [l] [] pos) (LY X.K ta):=by
 intro ag s σ H R I h;refine Call_ (iV I hg hm r_ (yw (cJ (ha pos ag s σ H _ I h) λus s1 bj=>?_) hs rfl));obtain⟨vs,H1,I1,r1,q1⟩:=bj;obtain⟨a,xs,e,hq,q⟩:=q1;subst e;obtain⟨u,rfl,rx⟩:=r1.one;cases rx;obtain⟨aU,rv,pl,hz⟩:=I1.list hq;refine call_enumerate_list pl.isList λh1 he hit hsz hk=>wpAny_pyIter_enum he ?_;refine⟨s1.heap.objs.size+1,[s1.heap.objs.size+1,s1.heap.objs.size],_,_,H1,rfl,I1.kept (t':=s1.toks) λb o e=>hk b o e,zQ a _ _ (jT (nK _)),⟨⟨_,he⟩,hit⟩,λb hb=>?_,q⟩;rcases bM.mp hb with rfl | hb
 .exact I1.uC (jl _) (I1.bS.fresh (jl _))
 obtain rfl:b=s1.heap.objs.size:=by simpa using hb
 exact I1.uC (aG _) (I1.bS.fresh (aG _))
def cN (kvs bI:List (aK×V)):List (aK×V):=kvs.foldl (λa p=>bH a p.1 p.2) bI
theorem pY:∀{kvs:List (aK×V)}{vs:List (aK×Value)}{bI:List (aK×V)}{Dv:List (aK×Value)},KV kvs vs->KV bI Dv->KV (cN kvs bI) (vs.foldl (λa p=>stored a p.1 p.2) Dv)
 | _,_,_,_,.nil,h=>h
 | _,_,_,_,.cons (a:=p) (b:=q) r t,h=>by
  obtain⟨e,rv⟩:=r;show KV (cN _ (bH _ p.1 p.2)) (List.foldl _ (stored _ q.1 q.2) _);rw [<-e];exact pY t (h.put p.1 rv)
theorem pZ:∀(kvs bI:List (aK×V)),(cN kvs bI).length<=bI.length+kvs.length
 | [],bI=>by simp [cN]
 | p::r,bI=>by
  have:=pZ r (bH bI p.1 p.2);have:=eG bI p.1 p.2;show (cN r (bH bI p.1 p.2)).length<=_;rw [d6];omega
section
variable {X:Cx}{ag:List (Addr×Obj)}{σ:St}{H:Hp}{s:Shared}
theorem pairs_at (I:Inv X ag σ H s):∀{ts:List Addr}{kvs:List (aK×V)}{aU:List Value},Paired (λt kv=>aZ X.K H t [kV kv.1,kv.2]) ts kvs->a9 (ts.map V.ref) aU ->
  ∃vs:List (aK×Value),KV kvs vs/\Paired (λu kv=>kT (a7 X.prog X.w) s.heap u kv) aU vs
 | [],_,_,.nil,r=>by
  rw [j_] at r;cases r;exact⟨[],.nil,.nil⟩
 | t::ts,kv::kvs,_,.cons h p,r=>by
  rw [bZ] at r;cases r with
  | cons r1 r2 =>
   obtain⟨vs,e1,e2⟩:=pairs_at I p r2;obtain⟨aU,rv,⟨o,h1,h2,n,h3⟩,_⟩:=I.tuple h;obtain⟨u1,u2,rfl,q1,q2⟩:=vals2 rv;exact⟨(kv.1,u2)::vs,.cons ⟨rfl,q2⟩ e1,.cons ⟨t,u1,n,o,r1,j6 q1,h1,h2,h3⟩ e2⟩
theorem Paired.at_ {α β:Type}{F:α->β->Prop}:∀{xs:List α}{ys:List β},Paired F xs ys->∀(m:Nat)(y:β),ys[m]?=some y->∃x,xs[m]?=some x/\F x y
 | _,_,.nil,m,y,e=>by cases m <;> cases e
 | _,_,.cons h t,0,y,e=>by cases e;exact⟨_,rfl,h⟩
 | _,_,.cons h t,m+1,y,e=>Paired.at_ t m y e
def dM (hc:X.calm=true):ft X (.type "dict") (λxs H Q=>∃a ts kvs,xs=[.ref a]/\H a=some (.lst (ts.map V.ref))/\Paired (λt kv=>aZ X.K H t [kV kv.1,kv.2]) ts kvs/\∀d,H d=none->Q (.ref d) (upd H d (.dK (cN kvs [])))):=by
 intro ag s σ H xs us Q I r h;obtain⟨a,ts,kvs,rfl,e,p,q⟩:=h;obtain⟨u,rfl,rx⟩:=vals1 r;cases (show u=Value.ref a from rx);obtain⟨z,aU,n,rv,ho⟩:=(show cv X.prog X.w H s.heap a (.lst _) from I.bS a _ e);obtain⟨vs,r1,r2⟩:=pairs_at I p rv;have l1:=bB r2;have l2:=r1.length;have l3:=bB p;rw [av] at z;refine qm (a7 X.prog X.w) (I.ok.hd hc) ho (by simpa using l1) (λm kv em=>?_) ∅ λh' t' hd kk=>?_
 .obtain⟨u,e1,e2⟩:=Paired.at_ r2 m kv em;exact⟨u,by simpa using e1,e2⟩
 have new:cv X.prog X.w (upd H s.heap.objs.size (.dK (cN kvs []))) h' s.heap.objs.size (.dK (cN kvs [])):=by
  refine qd ?_ ?_ (pY r1 .nil) hd
  .have:=pZ kvs [];simp at this;omega
  have:=I.big;exact jk.mpr (jT this)
 exact⟨.ref s.heap.objs.size,_,I.laid (t':=t') kk (aG _) new,rfl,q _ (I.bS.fresh (aG _))⟩
theorem rD {α β:Type}{F:α->β->Prop}:∀{xs:List α}{ys:List β},xs.length=ys.length->(∀(j:Nat) x y,xs[j]?=some x->ys[j]?=some y->F x y)->Paired F xs ys
 | [],[],_,_=>.nil
 | [],_::_,e,_=>by cases e
 | _::_,[],e,_=>by cases e
 | x::xs,y::ys,e,h=>.cons (h 0 x y rfl rfl) (rD (Nat.succ.inj e) λj a b e1 e2=>h (j+1) a b e1 e2)
def Gk {P:Program}{w:World}{k:aK}{u:Value}(h:(a7 P w).is k u=true):RelV (kV k) u:=by
 rcases cR (show pN k u=true from h) with ⟨i,t,rfl,rfl⟩ | ⟨x,t,rfl,rfl⟩
 .exact⟨t,rfl⟩
 exact⟨t,rfl⟩
def kS (hc:X.calm=true):ft X (.type "list") (λxs H Q=>∃a kvs,xs=[.ref a]/\H a=some (.dK kvs)/\∀D,H D=none->Q (.ref D) (upd H D (.lst (kvs.map λp=>kV p.1)))):=by
 intro ag s σ H xs us Q I r h;obtain⟨a,kvs,rfl,e,q⟩:=h;obtain⟨u,rfl,rx⟩:=vals1 r;cases (show u=Value.ref a from rx);obtain⟨z,hs,vs,rel,dd⟩:=vU I.bS e;obtain⟨o,es,ep,d1,d2,d3,d4⟩:=dd;have l1:=rel.length;refine PySem.W.kdl_call (PySem.W.kdl_dict (knd:=a7 X.prog X.w) (kvs:=vs) (ep:=ep) hs) (I.ok.hd hc) ⟨o,es,d1,d2,d3,d4⟩ ∅ λh' tk bI c kk hD Av=>?_;have keys:=rel.keys;have vals:a9 (kvs.map λp=>kV p.1) bI.toList:=by
  refine rD (by have h1:=Av.1;simp only [av,sR];omega) λj x y e1 e2=>?_;rw [Array.getElem?_toList] at e2;obtain⟨k,v,e3,e4⟩:=Av.2 j y e2;rw [bo] at e1;obtain⟨p,e5,rfl⟩:=b9.mp e1;have e6:(kvs.map (·.1))[j]?=some p.1:=by rw [bo,e5];rfl
  rw [keys,bo,e3] at e6;cases e6;exact Gk e4
 have new:cv X.prog X.w (upd H s.heap.objs.size (.lst (kvs.map λp=>kV p.1))) h' s.heap.objs.size (.lst (kvs.map λp=>kV p.1)):=⟨by rw [av];exact z,bI.toList,c,vals,by simpa using hD⟩;exact⟨.ref s.heap.objs.size,_,I.laid (t':=tk) kk (aG _) new,rfl,q _ (I.bS.fresh (aG _))⟩
end
def nH (v:V):Prop:=jE v=true\/∃r,v=.ref r
def De {x:V}(h:jE x=true):Df x x=true:=by
 cases x with
 | fJ=>rfl
 | bl b=>exact oI b
 | int i=>exact oI i
 | str z=>exact oI z
 | _=>cases h
def ye {A:Around}{s:Shared}{x:V}{u v:Value}(h:nH x)(ru:RelV x u)(rv:RelV x v):SeqAt.EqAt A s u v true:=by
 rcases h with h | ⟨r,rfl⟩
 .have q:=Dh (A:=A) (s:=s) ru rv h h;rw [De h] at q;exact q
 cases (show u=Value.ref r from ru);cases (show v=Value.ref r from rv);exact .same _
def pO {A:Around}{s:Shared}{xs:List V}{aU g9:List Value}(r:a9 xs aU)(r2:a9 xs g9)(hx:∀v∈xs,nH v) (j:Nat)(h1:j < aU.toArray.size)(h2:j < g9.toArray.size) :
  SeqAt.EqAt A s aU.toArray[j] g9.toArray[j] true:=by
 have l1:=r.length;have k1:j < aU.length:=by simpa using h1
 have k2:j < g9.length:=by simpa using h2
 have g1:xs[j]?=some (xs[j]'∅):=c_ ∅;obtain⟨u1,e1,q1⟩:=r.get g1;obtain⟨u2,e2,q2⟩:=r2.get g1;have f1:aU.toArray[j]=u1:=by
  have:=(bc.mp e1).2;simpa using this
 have f2:g9.toArray[j]=u2:=by
  have:=(bc.mp e2).2;simpa using this
 rw [f1,f2];exact ye (hx _ (List.getElem_mem _)) q1 q2
def F5 (K:a8)(b:Bool):V->V->Hp->VK->Prop:=λx y H Q=>∃p q xs,x=.ref p/\y=.ref q/\aH K H p xs/\aH K H q xs/\(∀v∈xs,nH v)/\Q (.bl b) H
def xD {X:Cx}(hu:X.A.units < cLine):jS X (compareOp .Eq) (F5 X.K true):=by
 intro ag s σ H x y v u Q I rx ry h;obtain⟨a,b,xs,rfl,rfl,ha,hb,hx,q⟩:=h;cases rx;cases ry;obtain⟨aU,r,pl,hz⟩:=I.list ha;obtain⟨g9,r2,JQ,Yd⟩:=I.list hb;have l1:=r.length;have l2:=r2.length;refine SeqAt.eq_listAt (e:=λ_=>true) pl.isList JQ.isList (by simp only [cM];omega) hu (λj h1 h2=>pO r r2 hx j h1 h2) ?_;have e:((List.range aU.toArray.size).all λ_=>true)=true:=by simp
 rw [e];exact⟨.bl true,H,I,rfl,q⟩
def xC {X:Cx}(hu:X.A.units < cLine):jS X (compareOp .NotEq) (F5 X.K false):=by
 intro ag s σ H x y v u Q I rx ry h;obtain⟨a,b,xs,rfl,rfl,ha,hb,hx,q⟩:=h;cases rx;cases ry;obtain⟨aU,r,pl,hz⟩:=I.list ha;obtain⟨g9,r2,JQ,Yd⟩:=I.list hb;have l1:=r.length;have l2:=r2.length;refine SeqAt.RcNeAt.lists (e:=λ_=>true) pl.isList JQ.isList (by simp only [cM];omega) hu (λj h1 h2=>pO r r2 hx j h1 h2) X.prog X.w X.xe _ ?_;have e:(!(List.range aU.toArray.size).all λ_=>true)=false:=by simp
 rw [e];exact⟨.bl false,H,I,rfl,q⟩
section
variable {K:a8}{a D:Addr}{xs:List V}{ts:List Str}{js:List (Nat×Str)}{g:TG}{tif:TT}{te:TE}{R:Hp->Prop}{σ:St}{H:Hp}
def cg (Pv:Nat->List V->St->Hp->Prop)(h0:Pv 0 [] (df ts js σ) (upd H D (.lst [])))(hl:∀i ys σ H,i<=xs.length->Pv i ys σ H->aH K H a xs)
  (hs:∀i x ys σ H,xs[i]?=some x->Pv i ys σ H->g x σ H λσ2 H2=>tif σ2 H2 λb H3=>if b=true then te σ2 H3 λy H4=>H4 D=some (.lst ys)/\ys.length < sizeLine/\Pv (i+1) (ys++[y]) σ2 (upd H4 D (.lst (ys++[y]))) else Pv (i+1) ys σ2 H3)
  (hd:∀ys σ H,Pv xs.length ys σ H->R H) :
  ∃W:Nat->Nat->List V->St->Hp->Prop,(∃m,W 0 m [] (df ts js σ) (upd H D (.lst []))) /\
 ∀i m ys σ' H,W i m ys σ' H->((iL K a).stop i H/\R H)\/((iL K a).go i H/\∃m',m' < m/\∀x H',(iL K a).ka i H x H'->g x σ' H' λσ2 H2=>tif σ2 H2 λb H3 =>
  if b=true then te σ2 H3 λy H4=>H4 D=some (.lst ys)/\ys.length < sizeLine/\W (i+1) m' (ys++[y]) σ2 (upd H4 D (.lst (ys++[y]))) else W (i+1) m' ys σ2 H3):=by
 refine⟨λi m ys σ H=>m=xs.length - i/\i<=xs.length/\Pv i ys σ H,⟨xs.length,by simp,gN _,h0⟩,?_⟩;rintro i m ys σ' H ⟨rfl,hi,p⟩;have q:=hl i ys σ' H hi p;by_cases jd:i < xs.length
 .refine .inr ⟨⟨xs,xs[i],q,by simp [jd]⟩,xs.length - (i+1),∅,λx H' y=>?_⟩;obtain⟨e,y⟩:=y;subst e;have z:=hs i x ys σ' _ (y xs q) p;have h1:(i+1<=xs.length)=True:=eq_true jd;simp only [h1,true_and];exact z
 have e:i=xs.length:=by omega
 subst e;exact .inl ⟨⟨xs,q,aG _⟩,hd ys σ' H p⟩
end
def uK {X:Cx}:ft X (.builtin "isinstance") (λxs H Q=>∃a ys n b,xs=[.ref a,.ty n]/\aH X.K H a ys/\PySem.W.kitOne X.K (.type "list") (.type n)=some b/\Q (.bl b) H):=by
 intro ag s σ H xs us Q I r h;obtain⟨a,ys,n,b,rfl,hq,e,q⟩:=h;obtain⟨u,w',rfl,rx,rn⟩:=vals2 r;cases (show u=Value.ref a from rx);cases (show w'=Value.type n from rn);obtain⟨aU,_,pl,_⟩:=I.list hq;obtain⟨o,h1,h2,_⟩:=pl.isList;exact oS PySem.W.kitx_list I.rH ⟨o,h1,h2⟩ e (λz=>nomatch z) λtk=>⟨.bl b,H,I.tok _,rfl,q⟩
def l8 {K:a8}{t:Value}:PySem.W.kitOne K t t=some true:=by unfold PySem.W.kitOne;rw [ax (oI t)]
def KZ (t:TS):TS:=λD σ H=>∃R:St->Hp->Prop,t { D with nx:=R } σ H/\∀σ' H',R σ' H'->D.nx σ' H'
def fZ {X:Cx}{st:Stmt}{t:TS}(h:PS X st t):PS X st (KZ t):=by
 intro ag s σ H D I ⟨R,q,m⟩;refine cJ (h ag s σ H _ I q) λf s1 z=>?_;cases f with
 | next=>obtain⟨σ',H',I',r⟩:=z;exact⟨σ',H',I',m _ _ r⟩
 | ret v=>exact z
 | brk=>exact z
 | cont=>exact z
def aF (P:Program)(w:World)(K:a8)(mg:Str->Option Value)(base:Heap) (k:Nat)(x:Str) (ps:List Str)(sp:Sp):Prop :=
 ∃f fd,bN P w K mg base fS k f fd ps sp/\Binds K fd ps []/\PySem.W.keepIn K (.ref f)=true/\mg x=some (.ref f)
theorem aF.mono {P:Program}{w:World}{K:a8}{mg:Str->Option Value}{base:Heap}{j k:Nat}{x:Str}{ps:List Str}{sp:Sp}(c:aF P w K mg base j x ps sp)(h:j<=k):aF P w K mg base k x ps sp :=
 let ⟨f,fd,a,b⟩:=c;⟨f,fd,a.mono h,b⟩
def bp {X:Cx}{k:Nat}{x:Str}{ps:List Str}{sp:Sp}{e:Expr}{es:List Expr}{t:TA}{p pos:Pos}(c:aF X.prog X.w X.K X.mg X.base k x ps sp)(hr:eI k X.A)(hg:Gl X x)(ha:PA X (e::es) t)
  (Aq:(x == ("__debug__":Str))=false:=by decide)(he:starEach (e::es) X.env=(false,eval e X.env)::starEach es X.env:=by rfl)(zj:(backTo pos (starEach es X.env)).any (·.1)=false:=by rfl) :
  PE X (.Call (.Name x p) (e::es) [] pos) (FR sp [] E0 t):=by
 obtain⟨f,fd,G,b,kp,m⟩:=c;exact ES G hr hg m kp b .nil rB ha Aq he zj
def fits {n:Nat}(h:n<=1000000):n<=sizeLine:=fU h nofun
def bf {n:Nat}(h:n<=1000000):n < sizeLine:=oV h nofun
def af {H:Hp}{p:Addr}(h:H p=none)(o:HO):aC H (upd H p o):=λb u q=>by rw [ai (aw q h)];exact q
def aC.tup {K:a8}{H H':Hp}{a:Addr}{xs:List V}(e:aC H H')(h:aZ K H a xs):aZ K H' a xs:=by
 rcases h with (h | ⟨o,h⟩) | h
 .exact .inl (.inl (e _ _ h))
 .exact .inl (.inr ⟨o,e _ _ h⟩)
 exact .inr h
def dW {X:Cx}(hc:X.calm=true):ft X (.builtin "all") (λxs H Q=>∃(a:Addr)(bs:List Bool),xs=[.ref a]/\aH X.K H a (bs.map V.bl)/\Q (.bl (bs.all id)) H):=by
 intro ag s σ H xs us Q I r h;obtain⟨a,bs,rfl,hq,q⟩:=h;obtain⟨u,rfl,rx⟩:=vals1 r;cases (show u=Value.ref a from rx);obtain⟨aU,rv,pl,hz⟩:=I.list hq;obtain⟨o,h1,h2,m,h3⟩:=id pl.isList;have la:a < s.heap.objs.size:=bA h1;have ln:=rv.length;rw [av] at ln;have Yb:∀(i:Nat) v,aU.toArray[i]?=some v->v=.bool (bs.getD i true):=λi v e=>by
  have e':aU[i]?=some v:=by simpa using e
  obtain⟨x,e2,e3⟩:=Paired.at_ rv i v e';rw [bo] at e2;obtain⟨b,e4,rfl⟩:=b9.mp e2;rw [wR,e4];exact e3
 refine call_all_walk (mQ pl.isList ?_);refine⟨s.heap.objs.size,_,_,_,_,_,λi=>bs.getD i true,rfl,Walks.list (A:=X.A.in1) (show X.A.in1.handled=none from I.ok.hd hc) s.heap.objs.size a (bQ la) aU.toArray,⟨⟨_,dq _ rfl,rfl,rfl⟩,⟨o,bW _ h1,h2,m,h3⟩⟩,?_,λh' tk kk=>?_⟩
 .intro i v s1 Q1 E1 hP Zj;rw [Yb i v hP];exact lh Zj
 have e:((List.range aU.toArray.size).all λi=>bs.getD i true)=bs.all id:=by
  rw [cM,<-ln,k0,d5,d5];constructor
  .intro h b hb;obtain⟨i,hi,e⟩:=oM.mp hb;have:=h i (jV.mpr hi);rw [wR,c_ hi,e] at this;exact this
  intro h i hi;have UC:=jV.mp hi;rw [wR,c_ UC];exact h _ (List.getElem_mem UC)
 rw [e];exact⟨.bl _,H,I.kept (t':=tk) λb o' e'=>kk b o' (by simp;exact bQ (bA e')) (bW _ e'),rfl,q⟩
section
variable {prog:Program}{w:World}{A:Around}{E:Value->Shared->Prop}{s:Shared}
def xJ {it l:Addr}{i:Nat}{items:Array Value}{x:Value}{Q:Value->Shared->Prop}(hit:s.heap.IsTupleIter it l i)(hl:s.heap.IsTuple l items)(hx:items[i]?=some x)
  (hQ:∀h',h'.IsTupleIter it l (i+1)->Heap.SameBut it s.heap h'->Q x { s with heap:=h' }):wpAny (model prog w) A (Builtin.SmallTypes.nextOf (.ref it)) Q E s:=by
 obtain⟨o,ho,hc,hd⟩:=id hit;obtain⟨ol,QB,_,nl,zo⟩:=hl;unfold Builtin.SmallTypes.nextOf;refine aE (qU (name:=Str.ofString "__next__") hit.typeIs tu (mN tu hit.typeIs F.entry_tuple_iterator_next ?_ (F.args_tuple_iterator_next_1 _)));show wpAny _ _ (field (.ref it) 0 >>= λv=>_) _ _ s;refine aE (il ho hd (x:=.ref l) (by rfl) ?_);show wpAny _ _ (if (Value.ref l == .none)=true then _ else _) _ _ s;rw [ay (by exact cZ)];show wpAny _ _ (field (.ref it) 1 >>= λv=>_) _ _ s;refine aE (il ho hd (x:=.int i 0) (by rfl) ?_);show wpAny _ _ (seqItems? (.ref l) >>= λv=>_) _ _ s;refine aE (oN QB zo (by
  simp only [jY,hx];refine aE (wpAny_setField ho hd (by simp) (aR ⟨x,rfl,aR (hQ _ ⟨_,Heap.get?_update_self _ ho (Obj.isFreed_of_fields (Obj.data_mapFields hd _)),(Obj.cls_mapFields ..).trans hc,?_⟩ (Heap.SameBut.update ..))⟩));rw [Obj.data_mapFields hd];simp [rawInt]))
def yg {e it l:Addr}{i:Nat}{items:Array Value}{x old:Value}{Q:Option Value->Shared->Prop}(he:IsEnum s.heap e it i old)(hit:s.heap.IsTupleIter it l i)(hl:s.heap.IsTuple l items)(hx:items[i]?=some x)(A4:e≠it)
  (hQ:∀h',IsEnumOut h' e it ((i:Int)+1) x s.heap.objs.size->h'.IsTupleIter it l (i+1)->h'.get? s.heap.objs.size=some { cls:=.type "tuple",data:=.seq #[.int i s.toks,x] } ->
   (∀b o,b≠e->b≠it->s.heap.get? b=some o->h'.get? b=some o)->Q (some (.ref s.heap.objs.size)) { s with heap:=h',toks:=s.toks+1 }) :
  wpAny (model prog w) A (pyNext (.ref e)) Q E s:=by
 have hT:s.TypeIs (.ref e) "enumerate" := ⟨_,he,rfl⟩;unfold pyNext;refine aE (wpAny_attempt (qU (name:=Str.ofString "__next__") hT sU (mN sU hT F.entry_enumerate_next ?_ (F.args_enumerate_next_1 _))));obtain⟨hp,g,d,tk,os⟩:=s;show wpAny _ _ (field (.ref e) 2 >>= λv=>_) _ _ _;refine aE (il he rfl (x:=.ref it) (by rfl) (aE (xJ hit hl hx λh₁ QJ Mf=>?_)));replace Mf:Heap.SameBut it hp h₁:=Mf;have QQ:IsEnum h₁ e it i old:=(Mf.2 e A4).trans he;show wpAny _ _ (field (.ref e) 3 >>= λv=>_) _ _ ⟨h₁,g,d,tk,os⟩;refine aE (il QQ rfl (x:=rawInt i) (by rfl) ?_);show wpAny _ _ (field (.ref e) 4 >>= λv=>_) _ _ ⟨h₁,g,d,tk,os⟩;refine aE (il QQ rfl (x:=.none) (by rfl) ?_);show wpAny _ _ (mkInt i >>= λv=>_) _ _ ⟨h₁,g,d,tk,os⟩;refine aE (wpAny_mkInt ?_);show wpAny _ _ (setField (.ref e) 3 (rawInt ((i:Int)+1)) >>= λv=>_) _ _ ⟨h₁,g,d,tk+1,os⟩;refine aE (oT QQ (by simp) λh₂ f₂ Yu=>?_);have YY:IsEnum h₂ e it ((i:Int)+1) old:=f₂;have k₂:Heap.SameBut e h₁ h₂:=Yu;show wpAny _ _ (setField (.ref e) 4 .none >>= λv=>_) _ _ ⟨h₂,g,d,tk+1,os⟩;refine aE (oT YY (by simp) λh₃ f₃ Yt=>?_);have YX:IsEnum h₃ e it ((i:Int)+1) old:=f₃;have k₃:Heap.SameBut e h₂ h₃:=Yt;show wpAny _ _ (newTuple [.int i tk,x] >>= λv=>_) _ _ ⟨h₃,g,d,tk+1,os⟩;refine aE (wpAny_newTuple ?_);have Oe:IsEnum (h₃.push { cls:=.type "tuple",data:=.seq #[.int i tk,x] }) e it ((i:Int)+1) old:=bW _ YX;have hsz:h₃.objs.size=hp.objs.size:=by rw [k₃.1,k₂.1,Mf.1]
 have Ka:e < hp.objs.size:=bA he;have Uo:(h₃.push { cls:=.type "tuple",data:=.seq #[.int i tk,x] }).get? hp.objs.size=some { cls:=.type "tuple",data:=.seq #[.int i tk,x] }:=by rw [<-hsz];exact dq _ rfl
 have Ux:∀b o,b≠e->b≠it->hp.get? b=some o->(h₃.push { cls:=.type "tuple",data:=.seq #[.int i tk,x] }).get? b=some o:=λb o n1 n2 hb=>bW _ (k₃.extBut b o n1 (k₂.extBut b o n1 (Mf.extBut b o n2 hb)));have Mt:(h₃.push { cls:=.type "tuple",data:=.seq #[.int i tk,x] }).IsTupleIter it l (i+1):=QJ.at λo q=>bW _ (k₃.extBut it o (fu A4) (k₂.extBut it o (fu A4) q));generalize h₃.push { cls:=.type "tuple",data:=.seq #[.int i tk,x] }=h₄ at Oe Uo Ux Mt ⊢;rw [hsz];show wpAny _ _ (Builtin.SmallTypes.ownedTupleIsFree (.ref e) >>= λv=>_) _ _ ⟨h₄,g,d,tk+1,os⟩;refine aE (by
  unfold Builtin.SmallTypes.ownedTupleIsFree;refine aE (il Oe rfl (x:=.none) (by rfl) (aR (by
   simp only [if_true];refine aE (wpAny_rule (aE (il Oe rfl (x:=old) (by rfl) (aE (oT Oe (by simp) λh₅ f₅ Ys=>?_)))));have YW:IsEnum h₅ e it ((i:Int)+1) x:=f₅;have k₅:Heap.SameBut e h₄ h₅:=Ys;show wpAny _ _ (Builtin.SmallTypes.ownedTupleHandOut (.ref e) (.ref hp.objs.size) >>= λv=>_) _ _ ⟨h₅,g,d,tk+1,os⟩;refine aE (by
    unfold Builtin.SmallTypes.ownedTupleHandOut;refine aE (oT YW (by simp) λh₆ f₆ Yr=>?_);have YV:IsEnumOut h₆ e it ((i:Int)+1) x hp.objs.size:=f₆;have k₆:Heap.SameBut e h₅ h₆:=Yr;refine oT YV (by simp) λh₇ f₇ Yq=>?_;have YU:IsEnumOut h₇ e it ((i:Int)+1) x hp.objs.size:=f₇;have k₇:Heap.SameBut e h₆ h₇:=Yq;have up:∀b o,b≠e->h₄.get? b=some o->h₇.get? b=some o:=λb o n q=>k₇.extBut b o n (k₆.extBut b o n (k₅.extBut b o n q));exact aE (wpAny_letGo (aR ⟨_,rfl,aR (hQ h₇ YU (Mt.at λo q=>up it o (fu A4) q) (up _ _ (jT Ka) Uo) λb o n1 n2 q=>up b o n1 (Ux b o n1 n2 q))⟩)))))))
def pK {it l:Addr}{i:Nat}{items:Array Value}{Q:Value->Shared->Prop}(hh:A.handled=none)(hit:s.heap.IsTupleIter it l i)(hl:s.heap.IsTuple l items)(hx:items[i]?=none)
  (hE:∀h' e,Heap.ExtBut it s.heap h'->(∃o,h'.get? e=some o/\o.cls=.type "StopIteration")->E (.ref e) { s with heap:=h' }):wpAny (model prog w) A (Builtin.SmallTypes.nextOf (.ref it)) Q E s:=by
 obtain⟨o,ho,hc,hd⟩:=id hit;obtain⟨ol,QB,_,nl,zo⟩:=hl;unfold Builtin.SmallTypes.nextOf;refine aE (qU (name:=Str.ofString "__next__") hit.typeIs tu (mN tu hit.typeIs F.entry_tuple_iterator_next ?_ (F.args_tuple_iterator_next_1 _)));show wpAny _ _ (field (.ref it) 0 >>= λv=>_) _ _ s;refine aE (il ho hd (x:=.ref l) (by rfl) ?_);show wpAny _ _ (if (Value.ref l == .none)=true then _ else _) _ _ s;rw [ay (by exact cZ)];show wpAny _ _ (field (.ref it) 1 >>= λv=>_) _ _ s;refine aE (il ho hd (x:=.int i 0) (by rfl) ?_);show wpAny _ _ (seqItems? (.ref l) >>= λv=>_) _ _ s;refine aE (oN QB zo ?_);simp only [jY,hx];refine aE (wpAny_rule (aE (wpAny_setField ho hd (by simp) (aE ?_))));simp only [newExc,newTuple];refine aE (k_ ?_ (by size_fits));refine aE (m:=firstArgMember _ _) (wpAny_of_eq (a:=Value.none) (by first | rfl | (simp only [firstArgMember];rfl)) ?_)
 refine k_ ?_ (by size_fits);simp only [raiseNew];refine aE (wpAny_handled ?_)
 first | rw [show A.in1.handled=none from hh] | rw [hh]
 refine aE (aR (wpAny_throw (hE _ _ (((Heap.SameBut.update ..).extBut.push _).push _) ⟨_,dq _ rfl,rfl⟩)))
def AA {e it l:Addr}{i:Nat}{items:Array Value}{old:Value}{Q:Option Value->Shared->Prop}(hh:A.handled=none)(he:IsEnum s.heap e it i old)(hit:s.heap.IsTupleIter it l i)(hl:s.heap.IsTuple l items)(hx:items[i]?=none)
  (hQ:∀h',Heap.ExtBut it s.heap h'->Q none { s with heap:=h' }):wpAny (model prog w) A (pyNext (.ref e)) Q E s:=by
 have hT:s.TypeIs (.ref e) "enumerate" := ⟨_,he,rfl⟩;unfold pyNext;refine aE (wpAny_attempt (qU (name:=Str.ofString "__next__") hT sU (mN sU hT F.entry_enumerate_next ?_ (F.args_enumerate_next_1 _))));show wpAny _ _ (field (.ref e) 2 >>= λv=>_) _ _ _;refine aE (il he rfl (x:=.ref it) (by rfl) (aE (pK hh hit hl hx λh' x Eb Ql=>?_)));obtain⟨o,ho,hc⟩:=Ql;exact aE (wpAny_isInstance (T := "StopIteration") (b:=true) ⟨o,ho,hc⟩ isSubtype_stop (aR (hQ _ Eb)))
end
def vG (l:Addr)(items:Array Value) (n:Nat)(zC:Option Addr)(sl:Array (Option Value)) :
  Meets (Builtin.«enumerate.__new__» ⟨[.type "enumerate",.ref l],[]⟩) (λ_ R s=>s.heap.get? l=some { cls:=.type "tuple",dict:=zC,data:=.seq items n,slots:=sl } /\
   R (.ok (.ret (.ref (s.heap.push { cls:=.type "tuple_iterator",data:=.fields #[.ref l,.int 0 0] }).objs.size)))
    { s with heap:=(s.heap.push { cls:=.type "tuple_iterator",data:=.fields #[.ref l,.int 0 0] }).push { cls:=.type "enumerate",data:=.fields #[.none,.bool false,.ref s.heap.objs.size,rawInt 0,.none,.none] } }) :=
 .of_wp λprog w A R s h=>by
  obtain⟨hp,g,d,tk,os⟩:=s;obtain⟨hl,h⟩:=h;have Yw:=sub_enumerate;have hT:Heap.IsTuple (Shared.heap ⟨hp,g,d,tk,os⟩) l items:=⟨_,hl,rfl,n,rfl⟩
  wp_walk using sZ hl
  refine wpAny_stack_any λst=>aR ?_;split
  .rename_i c _ _ _ _ _
   cases (c == Value.type "enumerate")
   .wp_walk using sZ hl,sL hT;exact⟨_,rfl,h⟩
   wp_walk using sZ hl,sL hT;exact⟨_,rfl,h⟩
  wp_walk using sZ hl,sL hT;exact⟨_,rfl,h⟩
section
variable {prog:Program}{w:World}{A:Around}{E:Value->Shared->Prop}{s:Shared}
def yl {l:Addr}{items:Array Value}{Q:Value->Shared->Prop}(hL:s.heap.IsTuple l items)
  (h:∀h',IsEnum h' (s.heap.objs.size+1) s.heap.objs.size 0 .none->h'.IsTupleIter s.heap.objs.size l 0->(∀b o,s.heap.get? b=some o->h'.get? b=some o)->Q (.ref (s.heap.objs.size+1)) { s with heap:=h' }) :
  wpAny (model prog w) A (call (.type "enumerate") [.ref l]) Q E s:=by
 obtain⟨⟨c,zC,dt,sl⟩,hl,hc,n,hd⟩:=hL;replace hc:c=.type "tuple" := hc;replace hd:dt=.seq items n:=hd;subst hc hd;refine callType_new F.called_enumerate nofun (F.typeCall_enumerate_1 _) (F.newCall_enumerate_1 _) (λobj=>F.args_object_init_2 obj _) F.entry_enumerate_new (vG l items n zC sl) ⟨hl,?_⟩;have hz:(s.heap.push { cls:=.type "tuple_iterator",data:=.fields #[.ref l,.int 0 0] }).objs.size=s.heap.objs.size+1:=mJ ..;show _/\_;rw [hz];have he:IsEnum ((s.heap.push { cls:=.type "tuple_iterator",data:=.fields #[.ref l,.int 0 0] }).push { cls:=.type "enumerate",data:=.fields #[.none,.bool false,.ref s.heap.objs.size,rawInt 0,.none,.none] }) (s.heap.objs.size+1) s.heap.objs.size 0 .none:=by
  have:=dq (s.heap.push { cls:=.type "tuple_iterator",data:=.fields #[.ref l,.int 0 0] }) (o:={ cls:=.type "enumerate",data:=.fields #[.none,.bool false,.ref s.heap.objs.size,rawInt 0,.none,.none] }) rfl;rw [hz] at this;exact this
 exact⟨⟨_,he,rfl⟩,h _ he ⟨_,bW _ (dq _ rfl),rfl,rfl⟩ λb o x=>bW _ (bW _ x)⟩
end
def qv (K:a8)(a:Addr):It :=
 ⟨λi H=>∃xs x,aZ K H a xs/\xs[i]?=some x,λi H x H'=>∃t y,x=.ref t/\H t=none/\H'=upd H t (.tup [.int (i:Int),y])/\∀xs,aZ K H a xs->xs[i]?=some y,λi H=>∃xs,aZ K H a xs/\xs.length<=i⟩
def wX {P:Program}{w:World}{K:a8}{elts:List Expr}{k:Nat}{tK:Pos}(a e it:Addr)(Mx:e≠it) :
  Turn P w K (.Tuple elts k tK) (qv K a) [e,it] e (λi h=>(∃old,IsEnum h e it i old)/\h.IsTupleIter it a i) where
 mem:=by simp
 obj:=λi h st b hb=>by
  obtain⟨⟨old,he⟩,o,e1,c,d⟩:=st;rcases bM.mp hb with rfl | hb
  .exact⟨_,he,λv z=>by cases z⟩
  obtain rfl:b=it:=by simpa using hb
  exact⟨o,e1,λv z=>by rw [d] at z;cases z⟩
 keep:=λi h h' st k=>⟨⟨st.1.choose,k e (by simp) _ st.1.choose_spec⟩,st.2.at λo q=>k it (by simp) o q⟩
 item:=by
  intro X hP hw hK hc i ag s σ H E I hf st hg;subst hP hw hK;obtain⟨xs,x,hq,hx⟩:=hg;obtain⟨aU,rv,p,hz⟩:=I.tuple hq;obtain⟨u,hu,ru⟩:=rv.get hx;obtain⟨⟨old,he⟩,hit⟩:=st;refine yg he hit (show s.heap.IsTuple a aU.toArray from p) (x:=u) (by simpa using hu) Mx λh1 ho IP hT hk=>?_;refine⟨_,rfl,wpAny_letOwnedTupleGo_enum ho λh2 QR sb=>?_⟩;have ne:s.heap.objs.size≠e:=jT (bA he);have kk:∀b o,b≠e->b≠it->s.heap.get? b=some o->h2.get? b=some o:=λb o n1 n2 q=>(sb.2 b n1).trans (hk b o n1 n2 q);have T2:h2.get? s.heap.objs.size=some { cls:=.type "tuple",data:=.seq #[.int i s.toks,u] }:=(sb.2 _ ne).trans hT;have fe:=hf e (by simp);have fi:=hf it (by simp);have fT:H s.heap.objs.size=none:=I.bS.fresh (aG _);have tr:∀b v,H b=some v->b≠e/\b≠it:=λb v q=>⟨λz=>(by rw [z,fe.1] at q;cases q),λz=>(by rw [z,fi.1] at q;cases q)⟩;have nc:∀b,b∉[e,it]->b≠e/\b≠it:=λb z=>⟨λq=>z (by simp [q]),λq=>z (by simp [q])⟩;have lt:∀b o,s.heap.get? b=some o->b≠s.heap.objs.size:=λb o q=>bQ (bA q);have I2:Inv X ag σ (upd H s.heap.objs.size (.tup [.int (i:Int),x])) { s with heap:=h2,toks:=s.toks+1 }:=by
   refine I.call (g':=s.gens) (t':=s.toks+1) (d':=s.drawn) (ch:=[e,it]) ⟨λb o q _ _ c=>kk b o (nc b c).1 (nc b c).2 q,λb o q _ _ c=>⟨o.slots,kk b o (nc b c).1 (nc b c).2 q⟩,
    λb o q n _=>by rw [ai (lt b o q)];exact n,λb o q c=>⟨o,kk b o (nc b c).1 (nc b c).2 q⟩,λb ys q=>by rw [ai (aw q fT)];exact q,λb o v q=>by rw [ai (aw q fT)];exact q,
    λb ps q=>⟨#[],by rw [ai (aw q fT),q];simp⟩⟩ (λb v q=>?_) I.bare (λb hb=>?_)
   .by_cases hb:b=s.heap.objs.size
    .subst hb;rw [ae] at q;cases q;exact⟨by show 2<=sizeLine;decide,[.int i s.toks,u],.cons ⟨_,rfl⟩ (.cons ru .nil),_,T2,rfl,_,rfl⟩
    rw [ai hb] at q;refine(I.bS b v q).ju (λc o kN z=>?_) (λc q'=>by rw [ai (aw q' fT)];exact q') λc ys q'=>by rw [ai (aw q' fT)];exact q'
    rcases kN with rfl | kN
    .exact kk c o (tr c _ q).1 (tr c _ q).2 z
    exact kk c o (tr c _ kN).1 (tr c _ kN).2 z
   rcases bM.mp hb with rfl | hb
   .exact⟨fe.2.2.2.1,fe.2.1,fe.2.2.2.2.1,fe.2.2.2.2.2⟩
   obtain rfl:b=it:=by simpa using hb
   exact⟨fi.2.2.2.1,fi.2.1,fi.2.2.2.2.1,fi.2.2.2.2.2⟩
  refine⟨.ref s.heap.objs.size,_,I2,rfl,⟨_,x,rfl,fT,rfl,λys hy=>by rw [I.qZ hy hq];exact hx⟩,⟨⟨_,QR⟩,IP.at λo q=>(sb.2 it Mx.symm).trans q⟩,λb hb=>?_⟩;have Ed:H b=none/\∃o,s.heap.get? b=some o:=by
   rcases bM.mp hb with rfl | hb
   .exact⟨fe.1,_,he⟩
   obtain rfl:b=it:=by simpa using hb
   obtain⟨o,q,_⟩:=hit;exact⟨fi.1,o,q⟩
  obtain⟨n,o,q⟩:=Ed;rw [ai (lt b o q)];exact n
 done:=by
  intro X hP hw hK hc i ag s σ H E I hf st hg;subst hP hw hK;obtain⟨xs,hq,hx⟩:=hg;obtain⟨aU,rv,p,hz⟩:=I.tuple hq;obtain⟨⟨old,he⟩,hit⟩:=st;obtain⟨f0,f1,f2,f3,f4,f5⟩:=hf it (by simp);have hl:=rv.length;exact AA (I.ok.hd hc) he hit (show s.heap.IsTuple a aU.toArray from p) (by simp;omega) λh' eb=>⟨rfl,I.turned (t':=s.toks) (λb o hb e=>eb b o hb e) f0 f1 f3 f4 f5⟩
 self:=λ_ _ _ _ _ st h=>wpAny_pyIter_enum st.1.choose_spec h
def IG (K:a8)(ta:TA):TI:=λσ H R=>ta σ H λvs H1=>Sn vs (aZ K H1) λa=>R (qv K a) H1
def lY {X:Cx}{elts:List Expr}{k:Nat}{tK:Pos}{l:Expr}{ta:TA}{p pos:Pos}(hg:Gl X "enumerate")(hm:X.mg "enumerate"=none)(ha:PA X [l] ta)(hs:starEach [l] X.env=[(false,eval l X.env)]:=by rfl) :
  PI X (.Tuple elts k tK) (.Call (.Name "enumerate" p) [l] [] pos) (IG X.K ta):=by
 intro ag s σ H R I h;refine Call_ (iV I hg hm r_ (yw (cJ (ha pos ag s σ H _ I h) λus s1 bj=>?_) hs rfl));obtain⟨vs,H1,I1,r1,q1⟩:=bj;obtain⟨a,xs,e,hq,q⟩:=q1;subst e;obtain⟨u,rfl,rx⟩:=r1.one;cases rx;obtain⟨aU,rv,pl,hz⟩:=I1.tuple hq;refine yl (show s1.heap.IsTuple a aU.toArray from pl) λh1 he hit hk=>wpAny_pyIter_enum he ?_;refine⟨s1.heap.objs.size+1,[s1.heap.objs.size+1,s1.heap.objs.size],_,_,H1,rfl,I1.kept (t':=s1.toks) λb o e=>hk b o e,wX a _ _ (jT (nK _)),⟨⟨_,he⟩,hit⟩,λb hb=>?_,q⟩;rcases bM.mp hb with rfl | hb
 .exact I1.uC (jl _) (I1.bS.fresh (jl _))
 obtain rfl:b=s1.heap.objs.size:=by simpa using hb
 exact I1.uC (aG _) (I1.bS.fresh (aG _))
open PySem PySem.Spec PyProof.Rows PySem.W
def i_ (c':Addr)(qual:Str):HO:=.ext λh=>h.CodeRec (.ref c') qual
def ng (f:Addr)(o:Obj):HO:=.ext λh=>h.get? f=some o
def v9 {P:Program}{w:World}{H:Hp}{h:Heap}{c':Addr}{qual:Str}(hr:h.CodeRec (.ref c') qual):cv P w H h c' (i_ c' qual):=by
 obtain⟨c2,oc,vs,t,e,wC,hd,hv⟩:=id hr;cases e;exact⟨hr,⟨oc,wC⟩,λh1 h2 ⟨c3,WQ,V3,t3,e3,QD,ig,JW⟩ k=>by cases e3;exact⟨_,WQ,V3,t3,rfl,k _ QD,ig,JW⟩⟩
def oA {P:Program}{w:World}{H:Hp}{h:Heap}{f:Addr}{o:Obj}(e:h.get? f=some o):cv P w H h f (ng f o):=⟨e,⟨o,e⟩,λ_ _ q k=>k _ q⟩
def Tab (T:Addr)(pos:Pos)(qual:Str)(H:Hp):Prop :=
 ∃ps,H T=some (.qA ps)/\TriplesOk ps.toList/\(codeAmong pos ps.toList=none\/∃c',codeAmong pos ps.toList=some (.ref c')/\H c'=some (i_ c' qual))
def fq (T:Addr)(H H':Hp):Prop:=∀b o,b≠T->H b=some o->H' b=some o
def qy (mg:Str->Option Value)(base:Heap):Prop :=
 ∃bm o,mg "__builtins__"=some (.ref bm)/\bm≠builtinsNs/\bm≠mainGlobals/\base.get? bm=some o/\o.cls=.type "module" /\ o.dict=some builtinsNs/\o.data=.plain
theorem iN {a b:Int}{ta tb:Tok}{c:Value}:∀l:List Value,TriplesOk l->TriplesOk (l++[.int a ta,.int b tb,c])
 | [],_=>trivial
 | [x],h=>by cases x <;> exact h.elim
 | [x,y],h=>by cases x <;> cases y <;> exact h.elim
 | x::y::z::r,h=>by
  cases x with
  | int i ti =>
   cases y with
   | int j tj=>exact iN r h
   | _=>exact h.elim
  | _=>exact h.elim
section
variable {X:Cx}{params:Arguments}{body:Expr}{scope:Scope}{pos:Pos}{c T:Addr}
abbrev ky (X:Cx)(params:Arguments)(body:Expr)(scope:Scope)(c':Addr)(fQ:Value):Obj:=kla_obj "<lambda>" (X.env.qual ++ "<lambda>") params body scope [] ((X.mg "__name__").getD .none) c' fQ
def O0 (X:Cx)(params:Arguments)(body:Expr)(scope:Scope)(pos:Pos)(T:Addr):TE:=λσ H Q=>Tab T pos (X.env.qual ++ "<lambda>") H /\
 ∀f c' fQ H',fq T H H'->Tab T pos (X.env.qual ++ "<lambda>") H'->H f=none->H' f=some (ng f (ky X params body scope c' fQ))->H' c'=some (i_ c' (X.env.qual ++ "<lambda>"))->Q (.ref f) H'
def Ca (pR:X.env.code=.ref c)(hC:codeHdIn X.K c T=true)(hB:qy X.mg X.base)(mf:∀y∈scope.names,y.2≠.free)(C4:defaultsOf params X.env=([],[]):=by rfl):PE X (.Lambda params body scope pos) (O0 X params body scope pos T):=by
 intro ag s σ H Q I h;obtain⟨⟨ps,hT,ht,C5⟩,q⟩:=h;refine kla_eval C4 ?_;have IY:s.heap.get? T=some (tabObj ps):=(show cv X.prog X.w H s.heap T (.qA ps) from I.bS T _ hT);have hg:=I.mod.glob.keeps I.bk;have C:=codeHd_of_K I.rH hC;obtain⟨bm,ob,b1,b2,b3,b4,b5,b6,b7⟩:=hB;have Sb:=I.bk _ _ b4;have PR:bm≠T:=λz=>by
  have:=(I.bs _ _ b4).2;rw [z,hT] at this;cases this
 have PM:mainGlobals≠T:=λz=>by
  obtain⟨o,es,ep,e,d,_⟩:=hg;rw [z,IY] at e;cases e;cases d
 have MO:s.heap.BuiltinsAt X.mg T:=⟨bm,ob,b1,b2,b3,PR,Sb,b5,b6,b7⟩;have DQ:∀b v,H b=some v->b < s.heap.objs.size:=λb v e=>I.bS.lt e;rcases C5 with Mp | ⟨c',hf,kN⟩
 .refine kla_makeFunction (closureFor_none mf) I.ok.glob hg pR C IY ht Mp PM MO λc' fQ h' tk hx IT jd CT Mc=>?_;have Y_:∃oc,h'.get? c'=some oc:=by
   obtain⟨c2,oc,vs,t,e,wC,_⟩:=CT;cases e;exact⟨oc,wC⟩
  have pQ:h'.objs.size > s.heap.objs.size:=oV IT jd;have keep:∀b o,b≠T->s.heap.get? b=some o->(h'.push (ky X params body scope c' fQ)).get? b=some o:=λb o n e=>bW _ (hx b o n e)
  let H':Hp:=upd (upd (upd H T (.qA (ps++#[rawInt pos.line,rawInt pos.col,.ref c']))) c' (i_ c' (X.env.qual ++ "<lambda>"))) h'.objs.size (ng h'.objs.size (ky X params body scope c' fQ))
  have xP:∀b v,H b=some v->b≠c'/\b≠h'.objs.size:=λb v e=>⟨bQ (eZ (DQ b v e) IT),bQ (jo (DQ b v e) pQ)⟩;have PQ:c'≠h'.objs.size:=bQ jd;have Lv:=xP T _ hT;have eT:H' T=some (.qA (ps++#[rawInt pos.line,rawInt pos.col,.ref c'])):=by
   show upd (upd (upd H T _) c' _) h'.objs.size _ T=_;rw [ai Lv.2,ai Lv.1,ae]
  have ec:H' c'=some (i_ c' (X.env.qual ++ "<lambda>")):=by
   show upd (upd (upd H T _) c' _) h'.objs.size _ c'=_;rw [ai PQ,ae]
  have ef:H' h'.objs.size=some (ng h'.objs.size (ky X params body scope c' fQ)):=ae;have eo:∀b,b≠T->b≠c'->b≠h'.objs.size->H' b=H b:=λb n1 n2 n3=>by
   show upd (upd (upd H T _) c' _) h'.objs.size _ b=_;rw [ai n3,ai n2,ai n1]
  have sT:fq T H H':=λb o n e=>by rw [eo b n (xP b o e).1 (xP b o e).2];exact e
  have I2:Inv X ag σ H' { s with heap:=h'.push (ky X params body scope c' fQ),toks:=tk }:=by
   refine I.call (g':=s.gens) (t':=tk) (d':=s.drawn) (ch:=[]) ⟨λb o e n _ _=>keep b o (λz=>by rw [z,hT] at n;cases n) e,λb o e n _ _=>⟨o.slots,keep b o (λz=>by rw [z,hT] at n;cases n) e⟩,λb o e n _=>?_,λb o e _=>?_,λb xs e=>?_,λb o u e=>?_,λb Pq e=>?_⟩ (λb v e=>?_) I.bare (λb hb=>nomatch hb)
   .have lb:=bA e;rw [eo b (λz=>by rw [z,hT] at n;cases n) (bQ (eZ lb IT)) (bQ (jo lb pQ))];exact n
   .by_cases z:b=T
    .exact⟨_,by rw [z];exact bW _ Mc⟩
    exact⟨o,keep b o z e⟩
   .exact sT b _ (λz=>by rw [z,hT] at e;cases e) e
   .exact sT b _ (λz=>by rw [z,hT] at e;cases e) e
   .by_cases z:b=T
    .subst z;rw [hT] at e;cases e;exact⟨_,eT⟩
    exact⟨#[],by rw [Array.append_empty];exact sT b _ z e⟩
   by_cases z1:b=h'.objs.size
   .subst z1;rw [ef] at e;cases e;exact oA (dq _ rfl)
   by_cases z2:b=c'
   .subst z2;rw [ec] at e;cases e;refine v9 ?_;obtain⟨c2,oc,vs,t,e',wC,hd,hv⟩:=CT;cases e';exact⟨_,oc,vs,t,rfl,bW _ wC,hd,hv⟩
   by_cases z3:b=T
   .subst z3;rw [eT] at e;cases e;exact bW _ Mc
   rw [eo b z3 z2 z1] at e;refine(I.bS b v e).ju (λd o As e'=>?_) (λd e'=>sT d _ (λz=>by rw [z,hT] at e';cases e') e') λd ys e'=>sT d _ (λz=>by rw [z,hT] at e';cases e') e';rcases As with rfl | As
   .exact keep d o z3 e'
   exact keep d o (λz=>by rw [z,hT] at As;cases As) e'
  have fresh:H h'.objs.size=none:=I.bS.fresh (jn pQ);exact⟨.ref h'.objs.size,H',I2,rfl,q _ c' fQ H' sT ⟨_,eT,by rw [sS];exact iN _ ht,.inr ⟨c',by rw [sS];exact codeAmong_snoc _ ht Mp,ec⟩⟩ fresh ef ec⟩
 refine kla_makeFunctionHit (closureFor_none mf) I.ok.glob hg pR C IY ht hf MO λfQ h' tk hk hsz=>?_;have keep:∀b o,s.heap.get? b=some o->(h'.push (ky X params body scope c' fQ)).get? b=some o:=λb o e=>bW _ (hk b o e);have fresh:H h'.objs.size=none:=I.bS.fresh hsz;refine⟨.ref h'.objs.size,_,I.laid (a:=h'.objs.size) (o:=ng h'.objs.size (ky X params body scope c' fQ)) (t':=tk) keep hsz (oA (dq _ rfl)),rfl,?_⟩;refine q _ c' fQ _ (λb o _ e=>by rw [ai (aw e fresh)];exact e) ⟨ps,by rw [ai (aw hT fresh)];exact hT,ht,.inr ⟨c',hf,by rw [ai (aw kN fresh)];exact kN⟩⟩ fresh ae (by rw [ai (aw kN fresh)];exact kN)
end
section
variable {P:Program}{w:World}{K:Frag}{mg:Str->Option Value}{base:Heap}{f c':Addr}{q:Str}{params:Arguments}{body:Expr}{scope:Scope}{pm fQ:Value}{N ps:List Str}{k:Nat}{te:TE}
def Fc (S:aN N ps scope)(mh:∀us:List Value,us.length=ps.length->bindArgs (kla_fn "<lambda>" q params body scope [] pm (.ref c') fQ) ⟨us,[]⟩=pure (ps.zip us))
  (iH:∀(A:Around)(outer:List Env)(s:Shared)(H:Hp),PE (nF fS P w K mg base N q scope f (.ref c') A outer s H λ_ _ _=>False) body te)
  (A:Around)(outer:List Env)(s:Shared)(H:Hp)(us:List Value)(vs:List V)(Q:VK)(hr:eI (k+1) A)(e0:oq P w K mg base A outer s H)(hf:H f=some (ng f (kla_obj "<lambda>" q params body scope [] pm c' fQ)))
  (hc:H c'=some (i_ c' q))(rv:a9 vs us)(hl:vs.length=ps.length)(h:te (start N vs) H Q):codeAny (model P w) A (.call (.ref f) ⟨us,[]⟩) (CR fS outer P w H s Q λ_ _ _=>False) s:=by
 obtain⟨ef,_⟩:=e0.bS f _ hf;obtain⟨ec,_⟩:=e0.bS c' _ hc;have lu:us.length=ps.length:=by rw [<-rv.length];exact hl
 have lim:s.heap.NoLimit:=e0.mod.nolimit.keeps λb o e=>(e0.bs b o e).1;have iF:∀y∈ps.zip us,scope.names.lookup y.1=some .local\/(scope.names.lookup y.1=some .cell/\((cellsFrom (s.heap.objs.size+1) scope.names []).lookup y.1).isSome=true):=λ⟨n,v⟩ hy=>by
  rcases S.par n (List.of_mem_zip hy).1 with z | z
  .exact .inl z
  exact .inr ⟨z,cellsFrom_some _ _ _ (.inl z)⟩
 refine kla_callFunE hr.depth ef rfl S.co S.gen rfl ec ?_;rw [mh us lu];refine aR (wpAny_newFunctionEnv_cells S.kind iF λenv he s1 x=>?_);subst he;refine⟨lim.keeps x.toInCall.keep,kla_codeExpr ?_⟩;have I:Inv (nF fS P w K mg base N q scope f (.ref c') A outer s H λ_ _ _=>False) [] (start N vs) H s1:=rK S hr.hd e0 hl rv x;refine cY (iH A outer s H [] s1 (start N vs) H _ I h) (λv s' bj=>?_) λe s' z=>z;obtain⟨y,H',J,r,z⟩:=bj;exact⟨y,H',J.os,J.bare,J.base,J.bS,r,z⟩
end
section
variable {X:Cx}{i:Nat}{x:Str}{e:Expr}{es:List Expr}{t:TA}{p pos:Pos}{q:Str}{params:Arguments}{body:Expr}{scope:Scope}{N ps:List Str}{k:Nat}{te:TE}
def Bn (i:Nat)(q:Str)(params:Arguments)(body:Expr)(scope:Scope) (N ps:List Str)(t:TA)(te:TE):TE:=λσ H Q=>∃f pm c' fQ,σ[i]?=some (some (.ref f)) /\
 t σ H λvs H1=>H1 f=some (ng f (kla_obj "<lambda>" q params body scope [] pm c' fQ))/\H1 c'=some (i_ c' q)/\vs.length=ps.length/\te (start N vs) H1 Q
def xB (hN:X.N[i]?=some x)(hx:X.env.scope.names.lookup x=some .local)(S:aN N ps scope)(hr:eI (k+1) X.A)
  (mh:∀(pm fQ:Value)(c':Addr)(us:List Value),us.length=ps.length->bindArgs (kla_fn "<lambda>" q params body scope [] pm (.ref c') fQ) ⟨us,[]⟩=pure (ps.zip us))
  (iH:∀(f c':Addr)(A:Around)(outer:List Env)(s:Shared)(H:Hp),PE (nF fS X.prog X.w X.K X.mg X.base N q scope f (.ref c') A outer s H λ_ _ _=>False) body te)(ha:PA X (e::es) t)
  (Aq:(x == ("__debug__":Str))=false:=by decide)(he:starEach (e::es) X.env=(false,eval e X.env)::starEach es X.env:=by rfl)(zj:(backTo pos (starEach es X.env)).any (·.1)=false:=by rfl) :
  PE X (.Call (.Name x p) (e::es) [] pos) (Bn i q params body scope N ps t te):=by
 intro ag s σ H Q I h;obtain⟨f,pm,c',fQ,hσ,h⟩:=h;obtain⟨m,hn,hl⟩:=I.loc;obtain⟨u,ru,lk⟩:=hl i x (.ref f) hN hσ (.inl hx);cases (show u=Value.ref f from ru);have hm:m x=some (.ref f):=by
  rcases lk with l | ⟨l,_⟩
  .exact l.2
  have l':X.env.scope.names.lookup x=some .cell\/X.env.scope.names.lookup x=some .free:=l;rw [hx] at l';rcases l' with l' | l' <;> cases l'
 refine oK (wpAny_Name (sQ I.ok.kind hx hn hm ?_) Aq);refine callWith_def (o:=kla_obj "<lambda>" q params body scope [] pm c' fQ) rfl (cJ (ha pos ag s σ H _ I h) λus s1 bj=>?_) he;obtain⟨vs,H1,I1,r,z1,z2,z3,z4⟩:=bj;obtain⟨ef,_⟩:=I1.bS f _ z1;refine⟨ef,wpAny_call (mC (Fc (k:=k) S (λus hl=>mh pm fQ c' us hl) (iH f c') X.A X.stack s1 H1 us vs Q hr I1.Jh z1 z2 r z3 z4) λr' s' z=>?_)⟩;cases r' with
 | error e=>exact z.elim
 | ok fl =>
  cases fl with
  | ret u=>exact I1.after z
  | next=>exact z.elim
  | brk=>exact z.elim
  | cont=>exact z.elim
end
def DJ (ts:List Addr)(H:Hp):Prop:=∀b,H b=none\/(∃o xs,H b=some (.je o (.lst xs)))\/(b∈ts/\H b=some (.qA #[]))
def Ah {P:Program}{w:World}{K:Frag}{mg mb:Str->Option Value}{CX:wI}{k:Nat}{fa a:Addr}{fd:FuncData}{x:Str}{sp:Sp}{s₁:Shared}{vs:List Value}{ns:List Int}{ts:List Addr}
  (KX:K.In s₁.heap)(vL:s₁.heap.Ns mainGlobals mg)(hb:s₁.heap.Ns builtinsNs mb)(IX:∀x:Str,x ≠ "__name__" -> mb x=bootBuiltins x)(IM:s₁.heap.NoLimit)
  (Zb:∃bm ob,mg "__builtins__"=some (.ref bm)/\bm≠builtinsNs/\s₁.heap.get? bm=some ob/\ob.cls=.type "module" /\ ob.dict=some builtinsNs/\ob.data=.plain)(hg:s₁.gens=#[])
  (Am:∀T∈ts,s₁.heap.get? T=some (tabObj #[])/\K.lookup T=none/\∃c,codeHdIn K c T=true)
  (ha:s₁.heap.get? a=some { cls:=.type "list",data:=.seq vs.toArray })(hi:IntsAre vs ns)(hl:ns.length<=sizeLine)(hr:eI k callerA)
  (F:∀base:Heap,K.In base->base.Ns mainGlobals mg->qy mg base->bN P w K mg base CX k fa fd [x] sp)(mh:∀(s:Shared)(u:Value),BindsTo s fd ⟨[u],[]⟩ [(x,u)])
  (wB:∀H:Hp,DJ ts H->(∀T∈ts,H T=some (.qA #[]))->aH K H a (ns.map V.int)->sp [.ref a] H (λv _=>v=.bl true) λ_ _ _=>False)
  (I9:∀H e s',CX [] H s₁ (λ_ _ _=>False) e s'->False) :
  codeAny (model P w) callerA (.call (.ref fa) ⟨[.ref a],[]⟩) (λr s'=>r=.ok (.ret (.bool true))/\OldK s₁.heap s'.heap/\s'.os=s₁.os/\AllBare s'.gens) s₁:=by
 have rv:=mR hi;have Iu:=hi.length;have core:∀H:Hp,DJ ts H->(∀T∈ts,H T=some (.qA #[]))->aH K H a (ns.map V.int)->j9 P w H s₁.heap->(∀b,H b≠none->b=a\/b∈ts)->(H a≠none->K.lookup a=none) ->
   codeAny (model P w) callerA (.call (.ref fa) ⟨[.ref a],[]⟩) (λr s'=>r=.ok (.ret (.bool true))/\OldK s₁.heap s'.heap/\s'.os=s₁.os/\AllBare s'.gens) s₁:=by
  intro H hO hT hS bS hA hK;have jQ:∀{b:Addr}{o:Obj},s₁.heap.get? b=some o->H b=none->(kM s₁.heap H).get? b=some o:=λe n=>vN e n;have off:∀{b:Addr}{o:Obj},s₁.heap.get? b=some o->(∀aU n,o.data≠.seq aU n)->(∀fs,o.data≠.fields fs)->H b=none:=λ{b o} e d1 d2=>by
   cases q:H b with
   | none=>rfl
   | some u =>
    rcases hA b (by rw [q];simp) with e' | e'
    .subst e';rw [ha] at e;cases e;exact(d1 _ _ rfl).elim
    rw [(Am b e').1] at e;cases e;exact(d2 _ rfl).elim
  have E7:∀{b:Addr}{m:Str->Option Value},s₁.heap.Ns b m->(kM s₁.heap H).Ns b m:=λ{b m} ⟨o,es,ep,e,d,r⟩=>⟨o,es,ep,jQ e (off e (λ_ _ z=>by rw [d] at z;cases z) λ_ z=>by rw [d] at z;cases z),d,r⟩;have MK:K.In (kM s₁.heap H):=λb o e=>jQ (KX b o e) (by
   cases q:H b with
   | none=>rfl
   | some u =>
    rcases hA b (by rw [q];simp) with e' | e'
    .subst e';rw [hK (by rw [q];simp)] at e;cases e
    rw [(Am b e').2.1] at e;cases e)
  have hM:Mod K mg (kM s₁.heap H):=⟨MK,E7 vL,⟨mb,E7 hb,IX⟩,let ⟨mc,h1,h2⟩:=IM;⟨mc,E7 h1,h2⟩⟩;have MN:qy mg (kM s₁.heap H):=by
   obtain⟨bm,ob,b1,b2,b3,b4,b5,b6⟩:=Zb;refine⟨bm,ob,b1,b2,λz=>?_,jQ b3 (off b3 (λ_ _ z=>by rw [b6] at z;cases z) λ_ z=>by rw [b6] at z;cases z),b4,b5,b6⟩;obtain⟨o,es,ep,e,d,_⟩:=vL;rw [<-z,b3] at e;cases e;rw [b6] at d;cases d
  have e0:oq P w K mg (kM s₁.heap H) callerA [] s₁ H:=⟨rfl,hM,λb o e=>ze e,Nat.le_of_eq (rN _ _),trivial,λb hb=>absurd (show b∈([]:List Addr) from hb) (by simp),bS,.of_eq hg⟩;refine mC ((F _ MK (E7 vL) MN).run callerA [] s₁ H ⟨[.ref a],[]⟩ [.ref a] [.ref a] _ _ hr e0 (mh s₁ (.ref a)) (.cons rfl .nil) (wB H hO hT hS)) λr s' h=>?_;cases r with
  | error e=>exact(I9 H e s' h).elim
  | ok fl =>
   cases fl with
   | next=>exact False.elim h
   | brk=>exact False.elim h
   | cont=>exact False.elim h
   | ret u =>
    obtain⟨v,H',os,bare,un,Fh,r',q⟩:=h;have q':v=.bl true:=q;subst q';obtain rfl:u=Value.bool true:=r';have each:∀b o,s₁.heap.get? b=some o->asItWas s₁.heap s'.heap b o/\∃o',s'.heap.get? b=some o':=λb o e=>by
     cases q:H b with
     | none =>
      have z:=un.keep b o e q (by intro z;exact absurd (show b∈([]:List Addr) from z) (by simp)) (by simp);exact⟨.inl z,o,z⟩
     | some u =>
      rcases hO b with z | ⟨ob,xs,z⟩ | ⟨Ed,z⟩
      .rw [q] at z;cases z
      .have z2:=un.kO b ob _ z;obtain⟨e1,_⟩:=bS b _ z;obtain⟨e2,_⟩:=Fh b _ z2;rw [e] at e1;cases e1;exact⟨.inl e2,_,e2⟩
      obtain⟨more,z2⟩:=un.lH b _ z;have e2:s'.heap.get? b=some (tabObj (#[]++more)):=Fh b _ z2;rw [(Am b Ed).1] at e;cases e;obtain⟨c,hc⟩:=(Am b Ed).2.2;obtain⟨oc,V4,file,tf,flags,tg,inF,text,tt,d1,d2,d3,d4,_⟩:=codeHd_of_K KX hc;exact⟨.inr (.inl ⟨⟨c,oc,V4,d1,d2,d3,d4⟩,rfl,#[],more,rfl,e2⟩),_,e2⟩
    exact⟨rfl,⟨λb o e=>(each b o e).1,λb o e=>(each b o e).2⟩,os,bare⟩
 have na:a∉ts:=λz=>by
  have:=(Am a z).1;rw [ha] at this;cases this
 cases hk:K.lookup a with
 | some o =>
  have e:=KX a o hk;rw [ha] at e;cases e;refine core (λb=>if b∈ts then some (.qA #[]) else none) (λb=>?_) (λT h=>ax h) (.inr ⟨_,vs.toArray,_,hk,rfl,rfl,rfl,by rw [cM,Iu];exact hl,by simpa using rv⟩) (λb u z=>?_) (λb z=>?_) λz=>absurd (ay na) z
  .by_cases h:b∈ts
   .exact .inr (.inr ⟨h,ax h⟩)
   exact .inl (ay h)
  .by_cases h:b∈ts
   .have z':=(ax h).symm.trans z;cases z';exact(Am b h).1
   have z':=(ay h).symm.trans z;cases z'
  by_cases h:b∈ts
  .exact .inr h
  exact absurd (ay h) z
 | none =>
  refine core (λb=>if b=a then some (.je { cls:=.type "list",data:=.seq vs.toArray } (.lst (ns.map V.int))) else if b∈ts then some (.qA #[]) else none) (λb=>?_) (λT h=>?_) (.inl (.inr ⟨{ cls:=.type "list",data:=.seq vs.toArray },ax rfl⟩)) (λb u z=>?_) (λb z=>?_) λ_=>hk
  .by_cases hb:b=a
   .exact .inr (.inl ⟨_,_,ax hb⟩)
   by_cases h:b∈ts
   .exact .inr (.inr ⟨h,(ay hb).trans (ax h)⟩)
   exact .inl ((ay hb).trans (ay h))
  .exact(ay (λz:T=a=>na (z ▸ h))).trans (ax h)
  .by_cases hb:b=a
   .have z':=(ax hb).symm.trans z;cases z';subst hb;exact⟨ha,by rw [av];exact hl,vs,_,rv,ha⟩
   by_cases h:b∈ts
   .have z':=((ay hb).trans (ax h)).symm.trans z;cases z';exact(Am b h).1
   have z':=((ay hb).trans (ay h)).symm.trans z;cases z'
  by_cases hb:b=a
  .exact .inl hb
  by_cases h:b∈ts
  .exact .inr h
  exact absurd ((ay hb).trans (ay h)) z
def Bh {l:OpenLaw}{n k:Nat}{q:Program}{loose:List Str}{XP:(Str->Option Value)->Heap->Prop}{YP:World->Heap->Prop}{d:DefRec}{K:Params->Frag}{CX:World->wI}{sp:World->Sp}{x:Str}{ts:List Addr}
  (hn:l.most=some n)(CZ:n<=sizeLine)(IU:d.params.defaults=[])(hr:eI k callerA)
  (hY:∀(w:World)(h:Heap),YP w h->(K w.params).In h/\∀T∈ts,h.get? T=some (tabObj #[]))
  (hK:∀w:World,∀T∈ts,(K w.params).lookup T=none/\∃c,codeHdIn (K w.params) c T=true)
  (F:∀(w:World)(mg:Str->Option Value)(fa:Addr)(h:Heap),(K w.params).In h->h.Ns mainGlobals mg->mg d.name=some (.ref fa) ->
   ∃fd:FuncData,(∀(s:Shared)(u:Value),BindsTo s fd ⟨[u],[]⟩ [(x,u)]) /\
    ∀base:Heap,(K w.params).In base->base.Ns mainGlobals mg->qy mg base->bN l.prog w (K w.params) mg base (CX w) k fa fd [x] (sp w))
  (wB:∀(w:World)(H:Hp)(a:Addr)(ns:List Int),ns.length<=n->DJ ts H->(∀T∈ts,H T=some (.qA #[]))->aH (K w.params) H a (ns.map V.int)->sp w [.ref a] H (λv _=>v=.bl true) λ_ _ _=>False)
  (I9:∀(w:World)(H:Hp)(s:Shared)(e:Value)(s':Shared),CX w [] H s (λ_ _ _=>False) e s'->False) :
  WalkO q loose XP YP l.row.toRowW d [] (λf vs=>PySem.call f vs):=by
 refine Er.n5 hn IU λw s₀ s₁ mg mb fa o pm cd doc a vs ns G Y ho hd uA IL CV hints bq hg=>?_;obtain⟨KX,TX⟩:=hY w _ Y;obtain⟨fd,hb,hF⟩:=F w mg fa _ KX G.T.g IL;exact Ah KX G.T.g G.T.b G.T.builtins G.T.nolimit G.T.bmain hg (λT hT=>⟨TX T hT,hK w T hT⟩) CV hints (fU bq CZ) hr hF hb (λH hO hT hS=>wB w H a ns bq hO hT hS) λH e s'=>I9 w H s₁ e s'
def aV {X:Cx}{scope:Scope}{js:List (Nat×Str)}(h:(js.all λp=>X.N[p.1]? == some p.2 && X.env.scope.names.lookup p.2 == some .cell && scope.names.lookup p.2 == some .free)=true)
  (h2:(scope.names.all λy=>y.2 != .free || X.env.scope.names.lookup y.1 == some .cell)=true):FJ X scope js:=by
 refine⟨λp hp=>?_,λy hy=>?_⟩
 .have:=d5.mp h p hp;simp only [jX,beq_iff_eq] at this;exact⟨this.1.1,this.1.2,this.2⟩
 have:=d5.mp h2 _ hy;simpa using this
def uV {σ:St}{H:Hp}{A B:Hp->Prop}(h:A H):gh σ H λb H3=>if b=true then A H3 else B H3:=by
 show if true=true then A H else B H;exact ID h
def goN {i:Nat}{v:V}{σ:St}{H:Hp}{Q:St->Hp->Prop}(h:Q (σ.set i (some v)) H):cU i v σ H Q:=h
def CP {X:Cx}(K:a8)(hK:X.K=K:=by rfl):G6 X (Ld K):=by
 subst hK;exact cO
def di {X:Cx}{es:List Expr}{k:Nat}{t:G1}{n:Nat}{pos:Pos}(K:a8)(hc:X.calm=true)(h:Nq X es t)(hK:X.K=K:=by rfl)
  (hn:(assignEach es X.env).length=n:=by rfl)(wA:(assignEach es X.env).findIdx? (·.1)=none:=by rfl):PG X (.Tuple es k pos) (vP K n t):=by
 subst hK;exact fA hc h hn wA
end L2
section
variable {P:PySem.Program}{w:PySem.World}{K:a8}{mg:PySem.Str->Option PySem.Value}{base:PySem.Heap}{f:PySem.Addr}{fd:PySem.FuncData}
namespace gT
open PySem L2
def top (i:Nat):Stmt:=PySem.Challenge.pw_wright_k20_what_can_be_empty.main.body.getD i (.Pass ⟨0,0,0,0⟩)
abbrev xm:Stmt:=top 4
abbrev xc:Stmt:=top 5
abbrev pF:Stmt:=top 9
abbrev tW:Stmt:=top 10
abbrev xo:Stmt:=top 11
abbrev BO:Stmt:=top 21
abbrev xg:Stmt:=top 22
abbrev Hs:Stmt:=top 23
abbrev pC:Stmt:=top 25
abbrev tY:Stmt:=top 26
abbrev lU:Stmt:=top 27
abbrev tV:Stmt:=top 30
abbrev xf:Stmt:=top 31
abbrev Hu:Stmt:=top 32
abbrev BP:Stmt:=top 39
abbrev BM:Stmt:=top 6
abbrev Ht:Stmt:=top 7
abbrev lV:Stmt:=top 34
abbrev mX:Stmt:=top 35
abbrev pD:Stmt:=top 36
abbrev Wr:Stmt:=top 37
structure Txt (mg:Str->Option Value):Prop where
 len:mg "len"=none
 DT:mg "range"=none
 LV:mg "isinstance"=none
 tup:mg "tuple"=none
 lst:mg "list"=none
 zC:mg "dict"=none
 all:mg "all"=none
 any:mg "any"=none
 str:mg "str"=none
 int:mg "int"=none
 boo:mg "bool"=none
 Fs:mg "enumerate"=none
 sum:mg "sum"=none
 max:mg "max"=none
 min:mg "min"=none
section
def boot_all:bootBuiltins "all"=some (.builtin "all"):=by decide +kernel
def gL:bootBuiltins "list"=some (.type "list"):=by decide +kernel
def gK:bootBuiltins "str"=some (.type "str"):=by decide +kernel
def fk:bootBuiltins "dict"=some (.type "dict"):=by decide +kernel
def Iy:PySem.W.kitOne K (.type "int") (.type "bool")=some false:=by kernel_rfl
end
end gT
namespace L2
open PySem
def aX {K:a8}{H:Hp}{D a:Addr}{xs ys:List V}{o:HO}(hD:H D=some (.lst ys))(h:aZ K H a xs):aZ K (upd H D o) a xs:=by
 rcases h with (h | ⟨u,h⟩) | h
 .exact .inl (.inl (by rw [ai (λz=>by rw [z,hD] at h;cases h)];exact h))
 .exact .inl (.inr ⟨u,by rw [ai (λz=>by rw [z,hD] at h;cases h)];exact h⟩)
 exact .inr h
def uM (kvs:List (aK×V))(k:aK):(kvs.any λkv=>decide (kv.1=k))=true↔k∈kvs.map (·.1):=by
 rw [List.any_eq_true,cH];constructor
 .rintro⟨x,h1,h2⟩;exact⟨x,h1,dA h2⟩
 rintro⟨x,h1,h2⟩;exact⟨x,h1,eU h2⟩
def xw {kvs:List (aK×V)}{k:aK}{v:V}(h:k∈kvs.map (·.1)):(bH kvs k v).map (·.1)=kvs.map (·.1):=by
 unfold bH;rw [ax ((uM kvs k).mpr h),ip];refine List.map_congr_left λx hx=>?_;show (if x.1=k then (x.1,v) else x).1=x.1
 split <;> rfl
def hX {kvs:List (aK×V)}{k:aK}{v:V}(h:¬k∈kvs.map (·.1)):(bH kvs k v).map (·.1)=kvs.map (·.1)++[k]:=by
 unfold bH;rw [ay (λz=>h ((uM kvs k).mp z)),bC];rfl
def dZ (kvs:List (aK×V))(k:aK):(a_ kvs k).isSome=true↔k∈kvs.map (·.1):=by
 rw [<-iu];exact uM kvs k
theorem cE {α β γ:Type}{F:α->β->Prop}{G:α->γ->Prop}{φ:β->γ}:∀{xs:List α}{ys:List β},Paired F xs ys->(∀a b,F a b->G a (φ b))->Paired G xs (ys.map φ)
 | _,_,.nil,_=>.nil
 | _,_,.cons h t,k=>.cons (k _ _ h) (cE t k)
def cP {z:Str}{l:List Str}:(Sum.inr z:aK)∈l.map Sum.inr↔z∈l:=by
 rw [cH];constructor
 .rintro⟨x,h1,h2⟩;rw [<-jm h2];exact h1
 intro h;exact⟨z,h,rfl⟩
end L2
namespace M11
abbrev au:=PySem.Str×List PySem.Str
def gw (a:List PySem.Str)(h:PySem.Str):List PySem.Str:=if h∈a then a else a++[h]
def uI (bI hs:List PySem.Str):List PySem.Str:=hs.foldl gw bI
def addW (aW a:List PySem.Str)(p:PySem.Str):List PySem.Str:=if p∈aW then a else gw a p
def qz (aW bI ps:List PySem.Str):List PySem.Str:=ps.foldl (addW aW) bI
def JV (aa:List au)(name:PySem.Str) (k:Nat):Bool:=decide ((aa[k]?.map (·.1))=some name)
def nums (aa:List au)(name:PySem.Str) (i:Nat):List Int:=((List.range i).filter (JV aa name)).map λk:Nat=>(k:Int)
def Ac (aa:List au)(name:PySem.Str) (i:Nat):nums aa name (i+1)=nums aa name i++(if JV aa name i=true then [(i:Int)] else []):=by
 unfold nums;rw [List.range_succ,qR,bC]
 congr 1
 by_cases h:JV aa name i=true
 .rw [ax h];simp [h]
 rw [ay h];simp [h]
def vx (aa:List au)(name:PySem.Str) (i:Nat):(nums aa name i).length<=i:=by
 unfold nums;rw [av];have:=uX (JV aa name) (List.range i);rw [sN] at this;exact this
def wg (a:List PySem.Str)(h:PySem.Str):(gw a h).length<=a.length+1:=by
 unfold gw;split <;> simp
theorem h_:∀(hs bI:List PySem.Str),(uI bI hs).length<=bI.length+hs.length
 | [],bI=>by simp [uI]
 | h::r,bI=>by
  have:=h_ r (gw bI h);have:=wg bI h;show (uI (gw bI h) r).length<=_;rw [d6];omega
def Du (aW a:List PySem.Str)(p:PySem.Str):(addW aW a p).length<=a.length+1:=by
 unfold addW;split
 .omega
 exact wg a p
theorem tF (aW:List PySem.Str):∀(ps bI:List PySem.Str),(qz aW bI ps).length<=bI.length+ps.length
 | [],bI=>by simp [qz]
 | p::r,bI=>by
  have:=tF aW r (addW aW bI p);have:=Du aW bI p;show (qz aW (addW aW bI p) r).length<=_;rw [d6];omega
end M11
namespace gT
open PySem L2 M11
def iD {bI:List (aK×V)}{as:List Str}(e:bI.map (·.1)=as.map Sum.inr)(h:Str){v:V}:(bH bI (Sum.inr h) v).map (·.1)=(gw as h).map Sum.inr:=by
 unfold gw;by_cases q:h∈as
 .rw [ax q,xw (by rw [e];exact cP.mpr q),e]
 rw [ay q,hX (by rw [e];exact λz=>q (cP.mp z)),e,bC];rfl
theorem md:∀(hs:List Str)(bI:List (aK×V)) (as:List Str),bI.map (·.1)=as.map Sum.inr->(cN (hs.map λh=>((Sum.inr h:aK),V.bl true)) bI).map (·.1)=(uI as hs).map Sum.inr
 | [],bI,as,e=>e
 | h::r,bI,as,e=>by
  refine md r (bH bI (Sum.inr h) (.bl true)) (gw as h) ?_;exact iD e h
def keys_str {kvs:List (aK×V)}{zs:List Str}(e:kvs.map (·.1)=zs.map Sum.inr):(kvs.map λp=>kV p.1)=zs.map V.str:=by
 have e2:(kvs.map λp=>kV p.1)=(kvs.map (·.1)).map kV:=by rw [ip];rfl
 rw [e2,e,ip];rfl
section
def zL (K:a8)(H:Hp)(r:Addr)(ru:au):Prop:=∃p,aZ K H r [.str ru.1,.ref p]/\aZ K H p (ru.2.map V.str)
def bE (K:a8)(H:Hp)(rs:List Addr)(aa:List au):Prop:=Paired (λr ru=>zL K H r ru) rs aa
def bE.keep {H H':Hp}{rs:List Addr}{aa:List au}(h:bE K H rs aa)(k:∀a xs,aZ K H a xs->aZ K H' a xs):bE K H' rs aa:=Paired.fj h λr ru ⟨p,a,b⟩=>⟨p,k _ _ a,k _ _ b⟩
def bE.same {H H':Hp}{rs:List Addr}{aa:List au}(h:bE K H rs aa)(s:aC H H'):bE K H' rs aa:=h.keep λ_ _ z=>s.tup z
def bE.get {H:Hp}{rs:List Addr}{aa:List au}(h:bE K H rs aa){i:Nat}{r:Addr}(e:rs[i]?=some r):∃ru,aa[i]?=some ru/\zL K H r ru:=by
 have l:=bB h;have li:=(bc.mp e).1;have e2:aa[i]?=some (aa[i]'∅):=c_ ∅;obtain⟨x,e3,e4⟩:=Paired.at_ h i _ e2;rw [e] at e3;cases e3;exact⟨_,e2,e4⟩
def qh {H:Hp}{R D:Addr}{rs:List Addr}{aa:List au}{σ:St}{Qp:Hp->Prop}(hR:aH K H R (rs.map V.ref))(cS:bE K H rs aa)(bq:aa.length<=1000)(hD:H D=none)
  (q:∀ts H2,aC H H2->H2 D=some (.lst (ts.map V.ref))->Paired (λt h=>aZ K H2 t [.str h,.bl true]) ts (aa.map (·.1))->Qp H2) :
  ∃W:Nat->Nat->List V->St->Hp->Prop,(∃m,W 0 m [] (df ["head","parts"] [] σ) (upd H D (.lst []))) /\
 ∀i m ys σ' H,W i m ys σ' H->((iL K R).stop i H/\Qp H)\/((iL K R).go i H/\∃m',m' < m/\∀x H',(iL K R).ka i H x H'->vP K 2 (g_ (cU 0) (g_ (cU 1) ya)) x σ' H' λσ2 H2=>gh σ2 H2 λb H3 =>
  if b=true then qD (fV (fO 0) (fV (tC (.bl true)) o8)) σ2 H3 λy H4=>H4 D=some (.lst ys)/\ys.length < sizeLine/\W (i+1) m' (ys++[y]) σ2 (upd H4 D (.lst (ys++[y]))) else W (i+1) m' ys σ2 H3):=by
 have ll:=bB cS;refine cg (xs:=rs.map V.ref) (λi ys σ2 H2=>∃ts:List Addr,ys=ts.map V.ref/\ts.length=i/\Paired (λt h=>aZ K H2 t [.str h,.bl true]) ts ((aa.take i).map (·.1))/\(∃y0 y1,σ2=[y0,y1])/\aC H H2/\H2 D=some (.lst ys))
  ⟨[],rfl,rfl,.nil,⟨none,none,rfl⟩,af hD _,ae⟩ (λi ys σ2 H2 _ h=>?_) (λi x ys σ2 H2 ex h=>?_) (λys σ2 H2 h=>?_)
 .obtain⟨_,_,_,_,_,sm,_⟩:=h;exact sm.seq hR
 .obtain⟨ts,rfl,ht,hp,⟨y0,y1,rfl⟩,sm,hd⟩:=h;rw [bo] at ex;obtain⟨r,er,rfl⟩:=b9.mp ex;obtain⟨ru,e1,p,v1,v2⟩:=cS.get er;have li:=(bc.mp e1).1;refine⟨r,_,rfl,sm.tup v1,rfl,_,_,rfl,_,_,rfl,rfl,?_⟩;refine uV ?_;refine⟨_,rfl,kW,λt i9=>⟨?_,bf (by rw [av];omega),ts++[t],?_,?_,?_,⟨_,_,rfl⟩,?_,ae⟩⟩
  .rw [ai (aw hd i9)];exact hd
  .rw [bC];rfl
  .rw [bO,ht];rfl
  .rw [cI,e1,bC];have ig:upd H2 t (.tup [.str ru.1,.bl true]) D=some (.lst (ts.map V.ref)):=by rw [ai (aw hd i9)];exact hd
   exact f_ (Paired.fj hp λt' h' z=>aX ig ((af i9 _).tup z)) (aX ig (aZ.of ae))
  intro b o hb;rw [ai (λz=>by rw [z,hD] at hb;cases hb)];exact af i9 _ _ _ (sm b o hb)
 obtain⟨ts,rfl,ht,hp,_,sm,hd⟩:=h;rw [av,ll,cC] at hp;exact q ts H2 sm hd hp
def jH (K:a8):Sp:=λvs H Q _=>∃(R:Addr)(rs:List Addr)(aa:List au),vs=[.ref R]/\aH K H R (rs.map V.ref)/\bE K H rs aa/\aa.length<=1000 /\
 ∀D H',H D=none->aC H H'->H' D=some (.lst ((uI [] (aa.map (·.1))).map V.str))->Q (.ref D) H'
def ED:aN ["rules"] ["rules"] (az xm):=iY rfl rfl rfl rfl nofun
def Ct (F:ik K "heads_of" "heads_of" xm f fd)(T:Txt mg):bN P w K mg base fS 1 f fd ["rules"] (jH K):=by
 refine F.ok ED (λvs H Q E h=>?_) (λd0 A outer s H vs Q E hr h=>?_)
 .obtain⟨R,rs,aa,rfl,_⟩:=h;rfl
 obtain⟨R,rs,aa,rfl,hR,cS,bq,q⟩:=h;refine⟨_,ao (bu (a0 (kS rfl) rfl T.lst gL (ab (a0 (dM rfl) rfl T.zC fk (ab
  (aT ["head","parts"] [] rfl (aS (pv 0)) (aV rfl rfl) nofun rfl nofun
   (λ_ _ _ _ _=>di (n:=2) K rfl (aA (aq (i:=0) (show (["head","parts"]:List Str).Nodup by decide +kernel) rfl (ba rfl)) (aA (aq (i:=1) (show (["head","parts"]:List Str).Nodup by decide +kernel) rfl (ba rfl)) bF))) (λ_ _ _ _ _=>bw)
   (λ_ _ _ _ _=>bD (ab (pv 0) (ab eX aj)))) aj)) aj))),?_⟩
 dsimp only [Dn];refine⟨_,rfl,R,rfl,⟨_,hR⟩,λD hD=>qh hR cS bq hD λts H2 sm hd hp=>?_⟩;have kp:Paired (λt (kv:aK×V)=>aZ K H2 t [kV kv.1,kv.2]) ts ((aa.map (·.1)).map λh=>((Sum.inr h:aK),V.bl true)):=cE hp λ_ _ z=>z;refine⟨D,ts,_,rfl,hd,kp,λd hd2=>?_⟩;refine⟨d,_,rfl,ae,λD2 jb=>?_⟩;rw [keys_str (md (aa.map (·.1)) [] [] rfl)];have nd:D2≠d:=λz=>by rw [z,ae] at jb;cases jb
 exact q D2 _ (sm.free (by rw [ai nd] at jb;exact jb)) (sm.trans ((af hd2 _).trans (af jb _))) ae
theorem iJ:∀(aa:List au) (n:Nat),aa.length<=n->(∀ru∈aa,ru.2.length<=8)->(aa.flatMap (·.2)).length<=8 * n
 | [],n,_,_=>by simp
 | ru::r,n,hl,h=>by
  rw [d6] at hl;have:=iJ r (n - 1) ∅ λx hx=>h x (cz _ hx);have:=h ru b0;rw [List.flatMap_cons,bO];omega
def hd (aa:List au):List Str:=uI [] (aa.map (·.1))
def yK (K:a8):Sp:=λvs H Q _=>∃(R:Addr)(rs:List Addr)(aa:List au),vs=[.ref R]/\aH K H R (rs.map V.ref)/\bE K H rs aa/\aa.length<=1000/\(∀ru∈aa,ru.2.length<=8) /\
 ∀D H',H D=none->aC H H'->H' D=some (.lst ((qz (hd aa) [] (aa.flatMap (·.2))).map V.str))->Q (.ref D) H'
def jI:aN ["rules","heads","words","head","parts","part"] ["rules"] (az xc):=iY rfl rfl rfl rfl nofun
def Cj (F:ik K "words_in" "words_in" xc f fd)(T:Txt mg):bN P w K mg base fS 1 f fd ["rules"] (yK K):=by
 refine F.ok jI (λvs H Q E h=>?_) (λd0 A outer s H vs Q E hr h=>?_)
 .obtain⟨R,rs,aa,rfl,_⟩:=h;rfl
 obtain⟨R,rs,aa,rfl,hR,cS,bq,h8,q⟩:=h;have hu:=gp hr;refine⟨_,ak (aB (i:=1) jI.nd rfl (ba rfl) (a0 (dM rfl) rfl T.zC fk (ab
  (aT ["head","parts"] [] rfl (aS (pv 0)) (aV rfl rfl) nofun rfl nofun
   (λ_ _ _ _ _=>di (n:=2) K rfl (aA (aq (i:=0) (show (["head","parts"]:List Str).Nodup by decide +kernel) rfl (ba rfl)) (aA (aq (i:=1) (show (["head","parts"]:List Str).Nodup by decide +kernel) rfl (ba rfl)) bF))) (λ_ _ _ _ _=>bw)
   (λ_ _ _ _ _=>bD (ab (pv 0) (ab eX aj)))) aj)))
  (ak (aB (i:=2) jI.nd rfl (ba rfl) fg)
  (ak (bL b_ rfl (aS (pv 0)) (fA rfl (aA (aq (i:=3) jI.nd rfl (ba rfl)) (aA (aq (i:=4) jI.nd rfl (ba rfl)) bF)))
   (ao (bL b_ rfl (d_ (pv 4)) (aq (i:=5) jI.nd rfl (ba rfl))
    (ao (b8 (fw (dU hu (pv 5) (pv 1))) (ao (gy hu (pv 2) (pv 5) eX rfl)) aY)))))
  (ao (bu (a0 (kS rfl) rfl T.lst gL (ab (pv 2) aj)))))),?_⟩
 nofun
 refine⟨_,rfl,R,rfl,⟨_,hR⟩,λD hD=>qh hR cS bq hD λts H2 sm hd2 hp=>?_⟩;have kp:Paired (λt (kv:aK×V)=>aZ K H2 t [kV kv.1,kv.2]) ts ((aa.map (·.1)).map λh=>((Sum.inr h:aK),V.bl true)):=cE hp λ_ _ z=>z;refine⟨D,ts,_,rfl,hd2,kp,λd Y4=>?_⟩;have Gh:(cN ((aa.map (·.1)).map λh=>((Sum.inr h:aK),V.bl true)) []).map (·.1)=(hd aa).map Sum.inr:=md (aa.map (·.1)) [] [] rfl;generalize cN ((aa.map (·.1)).map λh=>((Sum.inr h:aK),V.bl true)) []=kH at Gh ⊢;have JL:=sm.trans (af Y4 (.dK kH));have ig:upd H2 d (.dK kH) d=some (.dK kH):=ae;generalize upd H2 d (.dK kH)=H3 at JL ig;intro e he;have Y3:∀o,upd H3 e o d=some (.dK kH):=λo=>by rw [ai (aw ig he)];exact ig
 have yT:∀o,aC H (upd H3 e o):=λo=>JL.trans (af he o);have ll:=bB cS
 let uR:qt:=λi σ H5=>∃(kvs:List (aK×V))(y3 y4 y5:Option V),σ=[aI R,aI d,aI e,y3,y4,y5]/\H5=upd H3 e (.dK kvs) /\
  kvs.map (·.1)=(qz (hd aa) [] ((aa.take i).flatMap (·.2))).map Sum.inr
 refine⟨_,rfl,R,rfl,⟨_,(yT _).seq hR⟩,cf (xs:=rs.map V.ref) uR ⟨[],none,none,none,rfl,rfl,rfl⟩ ?_ ?_ ?_⟩
 .rintro i σ H5 _ ⟨kvs,y3,y4,y5,rfl,rfl,_⟩;exact(yT _).seq hR
 .rintro i x σ H5 ex ⟨kvs,y3,y4,y5,rfl,rfl,hk⟩
  ac_nf0
  rw [bo] at ex;obtain⟨r,er,rfl⟩:=b9.mp ex;obtain⟨ru,e1,p,v1,v2⟩:=cS.get er;have li:=(bc.mp e1).1;have Kd:=h8 ru (cy e1);have eT:(aa.take (i+1)).flatMap (·.2)=(aa.take i).flatMap (·.2)++ru.2:=by
   rw [cI,e1,List.flatMap_append];simp
  have lA:((aa.take i).flatMap (·.2)).length<=8 * i:=iJ (aa.take i) i (by rw [d7];omega) λru gA=>h8 ru (uW gA);refine⟨r,_,rfl,(yT _).tup v1,rfl,_,_,rfl,_,_,rfl,rfl,?_⟩
  let AX:qt:=λj σ H6=>∃(kvs:List (aK×V))(y5:Option V),σ=[aI R,aI d,aI e,some (.str ru.1),aI p,y5]/\H6=upd H3 e (.dK kvs) /\
   kvs.map (·.1)=(qz (hd aa) [] ((aa.take i).flatMap (·.2)++ru.2.take j)).map Sum.inr
  refine⟨_,rfl,p,rfl,⟨_,(yT _).tup v2⟩,zu (xs:=ru.2.map V.str) AX ⟨kvs,_,rfl,rfl,by rw [List.take_zero,iq];exact hk⟩ ?_ ?_ ?_⟩
  .rintro j σ H6 _ ⟨kvs,y5,rfl,rfl,_⟩;exact(yT _).tup v2
  .rintro j x σ H6 kY ⟨kvs,y5,rfl,rfl,Ap⟩
   ac_nf0
   rw [bo] at kY;obtain⟨z,ez,rfl⟩:=b9.mp kY;have lj:=(bc.mp ez).1;have eS:qz (hd aa) [] ((aa.take i).flatMap (·.2)++ru.2.take (j+1))=addW (hd aa) (qz (hd aa) [] ((aa.take i).flatMap (·.2)++ru.2.take j)) z:=by
    rw [cI,ez,<-lB];exact sM
   have lk:kvs.length<=8 * i+8:=by
    have h1:kvs.length=(qz (hd aa) [] ((aa.take i).flatMap (·.2)++ru.2.take j)).length:=by
     have:=congrArg List.length Ap;rw [av,av] at this;exact this
    have h2:=tF (hd aa) ((aa.take i).flatMap (·.2)++ru.2.take j) [];rw [bO,d7] at h2;simp only [jh] at h2;omega
   have mem:(a_ kH (Sum.inr z)).isSome=true↔z∈hd aa:=by rw [dZ,Gh];exact cP
   refine⟨_,rfl,_,rfl,d,_,rfl,cq.k (k:=Sum.inr z) (Y3 _),_,rfl,?_⟩;refine cu (λc=>?_) (λc=>?_)
   .have nm:z∉hd aa:=λh=>by rw [mem.mpr h] at c;exact absurd c nofun
    refine⟨_,rfl,_,rfl,e,_,rfl,kU.k (k:=Sum.inr z) ae (bf ∅),?_⟩;refine⟨bH kvs (Sum.inr z) (.bl true),_,rfl,by rw [lG],?_⟩;rw [eS];unfold addW;rw [ay nm];exact iD Ap z
   have im:z∈hd aa:=mem.mp (by
    cases h:(a_ kH (Sum.inr z)).isSome with
    | true=>rfl
    | false=>exact absurd (by rw [h];rfl) c)
   refine⟨kvs,_,rfl,rfl,?_⟩;rw [eS];unfold addW;rw [ax im];exact Ap
  rintro σ H6 ⟨kvs,y5,rfl,rfl,Ap⟩;rw [av,cC,<-eT] at Ap;exact⟨kvs,_,_,_,rfl,rfl,Ap⟩
 rintro σ H5 ⟨kvs,y3,y4,y5,rfl,rfl,hk⟩;rw [av,ll,cC] at hk;refine⟨_,rfl,e,_,rfl,ae,λD2 jb=>?_⟩;rw [keys_str hk];exact q D2 _ ((yT _).free jb) ((yT _).trans (af jb _)) ae
end
end gT
namespace L2
open PySem
section
variable {K:a8}{a D:Addr}{xs:List V}{ts:List Str}{js:List (Nat×Str)}{g:TG}{tif:TT}{te:TE}{R:Hp->Prop}{σ:St}{H:Hp}
def fM (Pv:Nat->List V->St->Hp->Prop)(h0:Pv 0 [] (df ts js σ) (upd H D (.lst [])))(hl:∀i ys σ H,i<=xs.length->Pv i ys σ H->aZ K H a xs)
  (hs:∀i x ys σ H,xs[i]?=some x->Pv i ys σ H->g x σ H λσ2 H2=>tif σ2 H2 λb H3=>if b=true then te σ2 H3 λy H4=>H4 D=some (.lst ys)/\ys.length < sizeLine/\Pv (i+1) (ys++[y]) σ2 (upd H4 D (.lst (ys++[y]))) else Pv (i+1) ys σ2 H3)
  (hd:∀ys σ H,Pv xs.length ys σ H->R H) :
  ∃W:Nat->Nat->List V->St->Hp->Prop,(∃m,W 0 m [] (df ts js σ) (upd H D (.lst []))) /\
 ∀i m ys σ' H,W i m ys σ' H->((mz K a).stop i H/\R H)\/((mz K a).go i H/\∃m',m' < m/\∀x H',(mz K a).ka i H x H'->g x σ' H' λσ2 H2=>tif σ2 H2 λb H3 =>
  if b=true then te σ2 H3 λy H4=>H4 D=some (.lst ys)/\ys.length < sizeLine/\W (i+1) m' (ys++[y]) σ2 (upd H4 D (.lst (ys++[y]))) else W (i+1) m' ys σ2 H3):=by
 refine⟨λi m ys σ H=>m=xs.length - i/\i<=xs.length/\Pv i ys σ H,⟨xs.length,by simp,gN _,h0⟩,?_⟩;rintro i m ys σ' H ⟨rfl,hi,p⟩;have q:=hl i ys σ' H hi p;by_cases jd:i < xs.length
 .refine .inr ⟨⟨xs,xs[i],q,by simp [jd]⟩,xs.length - (i+1),∅,λx H' y=>?_⟩;obtain⟨e,y⟩:=y;subst e;have z:=hs i x ys σ' _ (y xs q) p;have h1:(i+1<=xs.length)=True:=eq_true jd;simp only [h1,true_and];exact z
 have e:i=xs.length:=by omega
 subst e;exact .inl ⟨⟨xs,q,aG _⟩,hd ys σ' H p⟩
def v8 (Pv:Nat->List V->St->Hp->Prop)(h0:Pv 0 [] (df ts js σ) (upd H D (.lst [])))(hl:∀i ys σ H,i<=xs.length->Pv i ys σ H->aZ K H a xs)
  (hs:∀i x ys σ H t,xs[i]?=some x->Pv i ys σ H->H t=none->g (.ref t) σ (upd H t (.tup [.int (i:Int),x])) λσ2 H2=>tif σ2 H2 λb H3=>if b=true then te σ2 H3 λy H4=>H4 D=some (.lst ys)/\ys.length < sizeLine/\Pv (i+1) (ys++[y]) σ2 (upd H4 D (.lst (ys++[y]))) else Pv (i+1) ys σ2 H3)
  (hd:∀ys σ H,Pv xs.length ys σ H->R H) :
  ∃W:Nat->Nat->List V->St->Hp->Prop,(∃m,W 0 m [] (df ts js σ) (upd H D (.lst []))) /\
 ∀i m ys σ' H,W i m ys σ' H->((qv K a).stop i H/\R H)\/((qv K a).go i H/\∃m',m' < m/\∀x H',(qv K a).ka i H x H'->g x σ' H' λσ2 H2=>tif σ2 H2 λb H3 =>
  if b=true then te σ2 H3 λy H4=>H4 D=some (.lst ys)/\ys.length < sizeLine/\W (i+1) m' (ys++[y]) σ2 (upd H4 D (.lst (ys++[y]))) else W (i+1) m' ys σ2 H3):=by
 refine⟨λi m ys σ H=>m=xs.length - i/\i<=xs.length/\Pv i ys σ H,⟨xs.length,by simp,gN _,h0⟩,?_⟩;rintro i m ys σ' H ⟨rfl,hi,p⟩;have q:=hl i ys σ' H hi p;by_cases jd:i < xs.length
 .refine .inr ⟨⟨xs,xs[i],q,by simp [jd]⟩,xs.length - (i+1),∅,λx H' y=>?_⟩;obtain⟨t,y0,rfl,ht,rfl,y⟩:=y;have z:=hs i y0 ys σ' _ t (y xs q) p ht;have h1:(i+1<=xs.length)=True:=eq_true jd;simp only [h1,true_and];exact z
 have e:i=xs.length:=by omega
 subst e;exact .inl ⟨⟨xs,q,aG _⟩,hd ys σ' H p⟩
end
def jD {K:a8}{a:Addr}{xs:List V}{g:TG}{tb:TS}{D:Ends}{σ:St}{H:Hp}(Pv:Nat->St->Hp->Prop)(h0:Pv 0 σ H)(hl:∀i σ H,i<=xs.length->Pv i σ H->aH K H a xs)
  (hs:∀i x σ H t,xs[i]?=some x->Pv i σ H->H t=none->g (.ref t) σ (upd H t (.tup [.int (i:Int),x])) λσ2 H2=>tb { D with nx:=Pv (i+1),ct:=Pv (i+1),bk:=D.nx } σ2 H2)(hd:∀σ H,Pv xs.length σ H->D.nx σ H) :
  ∃W:Nat->Nat->St->Hp->Prop,(∃m,W 0 m σ H)/\∀i m σ H,W i m σ H ->
   ((Ny K a).stop i H/\D.nx σ H)\/((Ny K a).go i H/\∃N:St->Hp->Prop,(∀σ' H',N σ' H'->∃m',m' < m/\W (i+1) m' σ' H')/\∀x H',(Ny K a).ka i H x H'->g x σ H' λσ2 H2=>tb { D with nx:=N,ct:=N,bk:=D.nx } σ2 H2):=by
 refine⟨λi m σ H=>m=xs.length - i/\i<=xs.length/\Pv i σ H,⟨xs.length,by simp,gN _,h0⟩,?_⟩;rintro i m σ H ⟨rfl,hi,p⟩;have q:=hl i σ H hi p;by_cases jd:i < xs.length
 .refine .inr ⟨⟨xs,xs[i],q,by simp [jd]⟩,Pv (i+1),λσ' H' p'=>⟨xs.length - (i+1),∅,rfl,jd,p'⟩,λx H' y=>?_⟩;obtain⟨t,y0,rfl,ht,rfl,y⟩:=y;exact hs i y0 σ _ t (y xs q) p ht
 have e:i=xs.length:=by omega
 subst e;exact .inl ⟨⟨xs,q,aG _⟩,hd σ H p⟩
def ny {K:a8}{a:Addr}{xs:List V}{g:TG}{tb:TS}{D:Ends}{σ:St}{H:Hp}(Pv:Nat->St->Hp->Prop)(h0:Pv 0 σ H)(hl:∀i σ H,i<=xs.length->Pv i σ H->aZ K H a xs)
  (hs:∀i x σ H t,xs[i]?=some x->Pv i σ H->H t=none->g (.ref t) σ (upd H t (.tup [.int (i:Int),x])) λσ2 H2=>tb { D with nx:=Pv (i+1),ct:=Pv (i+1),bk:=D.nx } σ2 H2)(hd:∀σ H,Pv xs.length σ H->D.nx σ H) :
  ∃W:Nat->Nat->St->Hp->Prop,(∃m,W 0 m σ H)/\∀i m σ H,W i m σ H ->
   ((qv K a).stop i H/\D.nx σ H)\/((qv K a).go i H/\∃N:St->Hp->Prop,(∀σ' H',N σ' H'->∃m',m' < m/\W (i+1) m' σ' H')/\∀x H',(qv K a).ka i H x H'->g x σ H' λσ2 H2=>tb { D with nx:=N,ct:=N,bk:=D.nx } σ2 H2):=by
 refine⟨λi m σ H=>m=xs.length - i/\i<=xs.length/\Pv i σ H,⟨xs.length,by simp,gN _,h0⟩,?_⟩;rintro i m σ H ⟨rfl,hi,p⟩;have q:=hl i σ H hi p;by_cases jd:i < xs.length
 .refine .inr ⟨⟨xs,xs[i],q,by simp [jd]⟩,Pv (i+1),λσ' H' p'=>⟨xs.length - (i+1),∅,rfl,jd,p'⟩,λx H' y=>?_⟩;obtain⟨t,y0,rfl,ht,rfl,y⟩:=y;exact hs i y0 σ _ t (y xs q) p ht
 have e:i=xs.length:=by omega
 subst e;exact .inl ⟨⟨xs,q,aG _⟩,hd σ H p⟩
def rX {K:a8}{H:Hp}{p D d:Addr}{zs:List Str}{kvs:List (aK×V)}{σ:St}{js:List (Nat×Str)}{Qp:Hp->Prop}(hσ:df ["part"] js σ=[none,aI d])(hp:aZ K H p (zs.map V.str))(hz:zs.length<=1000)
  (hd:H d=some (.dK kvs))(hD:H D=none)(q:∀H2,aC H H2->H2 D=some (.lst ((zs.map λz=>(a_ kvs (Sum.inr z)).isSome).map V.bl))->Qp H2) :
  ∃W:Nat->Nat->List V->St->Hp->Prop,(∃m,W 0 m [] (df ["part"] js σ) (upd H D (.lst []))) /\
 ∀i m ys σ' H,W i m ys σ' H->((mz K p).stop i H/\Qp H)\/((mz K p).go i H/\∃m',m' < m/\∀x H',(mz K p).ka i H x H'->cU 0 x σ' H' λσ2 H2=>gh σ2 H2 λb H3 =>
  if b=true then KY (fO 0) (fO 1) σ2 H3 λy H4=>H4 D=some (.lst ys)/\ys.length < sizeLine/\W (i+1) m' (ys++[y]) σ2 (upd H4 D (.lst (ys++[y]))) else W (i+1) m' ys σ2 H3):=by
 refine fM (xs:=zs.map V.str) (λi ys σ2 H2=>ys=(((zs.take i).map λz=>(a_ kvs (Sum.inr z)).isSome).map V.bl)/\(∃y0,σ2=[y0,aI d])/\aC H H2/\H2 D=some (.lst ys))
  ⟨rfl,⟨none,hσ⟩,af hD _,ae⟩ (λi ys σ2 H2 _ h=>h.2.2.1.tup hp) (λi x ys σ2 H2 ex h=>?_) (λys σ2 H2 h=>?_)
 .obtain⟨rfl,⟨y0,rfl⟩,sm,hd2⟩:=h;rw [bo] at ex;obtain⟨z,ez,rfl⟩:=b9.mp ex;have li:=(bc.mp ez).1;refine goN (uV ?_);refine⟨_,rfl,_,rfl,d,_,rfl,cq.k (k:=Sum.inr z) (sm _ _ hd),hd2,bf (by rw [av,av,d7];omega),?_,⟨_,rfl⟩,?_,ae⟩
  .rw [cI,ez,bC,bC];rfl
  intro b o hb;rw [ai (λz=>by rw [z,hD] at hb;cases hb)];exact sm b o hb
 obtain⟨rfl,_,sm,hd2⟩:=h;rw [av,cC] at hd2;exact q H2 sm hd2
def gF {K:a8}{H:Hp}{D a:Addr}{xs:List V}{ys:List (aK×V)}{o:HO}(hD:H D=some (.dK ys))(h:aZ K H a xs):aZ K (upd H D o) a xs:=by
 rcases h with (h | ⟨u,h⟩) | h
 .exact .inl (.inl (by rw [ai (λz=>by rw [z,hD] at h;cases h)];exact h))
 .exact .inl (.inr ⟨u,by rw [ai (λz=>by rw [z,hD] at h;cases h)];exact h⟩)
 exact .inr h
theorem fK {α:Type} [DecidableEq α]:∀(l m:List α),l.Nodup->(∀x∈l,x∈m)->l.length<=m.length
 | [],m,_,_=>gN _
 | a::l,m,hn,h=>by
  have hm:=h a b0;have:=fK l (m.erase a) (ji.mp hn).2 λx hx=>(List.mem_erase_of_ne (λz:x=a=>(ji.mp hn).1 (by rw [<-z];exact hx))).mpr (h x (cz _ hx));rw [List.length_erase_of_mem hm] at this;have:=List.length_pos_of_mem hm;rw [d6];omega
end L2
namespace M11
open PySem L2
inductive oF (aa:List au):List (Str×Nat)->Prop
 | nil:oF aa []
 | snoc {aP:List (Str×Nat)}{k:Nat}{ru:au}:oF aa aP->aa[k]?=some ru->ru.1∉aP.map (·.1)->(∀p∈ru.2,p∈aP.map (·.1))->oF aa (aP++[(ru.1,k)])
def qw (aa:List au) (n:Nat)(aP:List (Str×Nat)):Prop:=∀ru∈aa.take n,(∀p∈ru.2,p∈aP.map (·.1))->ru.1∈aP.map (·.1)
def oF.nd {aa:List au}{aP:List (Str×Nat)}(h:oF aa aP):(aP.map (·.1)).Nodup:=by
 induction h with
 | nil=>exact i4
 | snoc h e n p ih =>
  rw [bC];refine jj.mpr ⟨ih,by simp,λa ha b hb=>?_⟩;rw [qS,cT] at hb;exact λz=>n (by rw [<-hb,<-z];exact ha)
def oF.head {aa:List au}{aP:List (Str×Nat)}(h:oF aa aP):∀x∈aP.map (·.1),x∈aa.map (·.1):=by
 induction h with
 | nil=>simp
 | snoc h e n p ih =>
  intro x hx;rw [bC] at hx;rcases cD.mp hx with hx | hx
  .exact ih x hx
  rw [qS,cT] at hx;rw [hx];exact gW (cy e)
def oF.len {aa:List au}{aP:List (Str×Nat)}(h:oF aa aP):aP.length<=aa.length:=by
 have:=fK _ _ h.nd h.head;rw [av,av] at this;exact this
end M11
namespace gT
open PySem L2 M11
section
def jc (K:a8)(H:Hp)(ts:List Addr)(aP:List (Str×Nat)):Prop:=Paired (λt (e:Str×Nat)=>aZ K H t [.str e.1,.int (e.2:Int)]) ts aP
def jc.keep {H H':Hp}{ts:List Addr}{aP:List (Str×Nat)}(h:jc K H ts aP)(k:∀a xs,aZ K H a xs->aZ K H' a xs):jc K H' ts aP:=Paired.fj h λt e z=>k _ _ z
structure zO (K:a8)(aa:List au)(H H5:Hp)(D d:Addr)(ts:List Addr)(aP:List (Str×Nat))(kvs:List (aK×V)):Prop where
 sm:aC H H5
 hD:H5 D=some (.lst (ts.map V.ref))
 hd:H5 d=some (.dK kvs)
 keys:kvs.map (·.1)=(aP.map (·.1)).map Sum.inr
 ev:jc K H5 ts aP
 emp:oF aa aP
def zO.same {aa:List au}{H H5 H6:Hp}{D d:Addr}{ts:List Addr}{aP:List (Str×Nat)}{kvs:List (aK×V)}(h:zO K aa H H5 D d ts aP kvs)(s:aC H5 H6):zO K aa H H6 D d ts aP kvs :=
 ⟨h.sm.trans s,s _ _ h.hD,s _ _ h.hd,h.keys,h.ev.keep λ_ _ z=>s.tup z,h.emp⟩
def zO.mem {aa:List au}{H H5:Hp}{D d:Addr}{ts:List Addr}{aP:List (Str×Nat)}{kvs:List (aK×V)}(h:zO K aa H H5 D d ts aP kvs)(z:Str):(a_ kvs (Sum.inr z)).isSome=true↔z∈aP.map (·.1):=by
 rw [dZ,h.keys];exact cP
def zO.len {aa:List au}{H H5:Hp}{D d:Addr}{ts:List Addr}{aP:List (Str×Nat)}{kvs:List (aK×V)}(h:zO K aa H H5 D d ts aP kvs):ts.length=aP.length/\kvs.length=aP.length:=by
 refine⟨bB h.ev,?_⟩;have:=congrArg List.length h.keys;simpa using this
def zO.more {aa:List au}{H H5:Hp}{D d t:Addr}{ts:List Addr}{aP:List (Str×Nat)}{kvs:List (aK×V)}(h:zO K aa H H5 D d ts aP kvs)(fD:H D=none)(fd:H d=none){k:Nat}{ru:au}(e:aa[k]?=some ru)
  (n:ru.1∉aP.map (·.1))(p:∀x∈ru.2,x∈aP.map (·.1))(ht:upd H5 d (.dK (bH kvs (Sum.inr ru.1) (.bl true))) t=none) :
  zO K aa H (upd (upd (upd H5 d (.dK (bH kvs (Sum.inr ru.1) (.bl true)))) t (.tup [.str ru.1,.int (k:Int)])) D (.lst (ts.map V.ref++[.ref t]))) D d (ts++[t]) (aP++[(ru.1,k)]) (bH kvs (Sum.inr ru.1) (.bl true)):=by
 have TN:D≠d:=λz=>by have:=h.hD;rw [z,h.hd] at this;cases this
 have nt:t≠d:=λz=>by rw [z,ae] at ht;cases ht
 have Md:H5 t=none:=by rw [ai nt] at ht;exact ht
 have Xa:D≠t:=λz=>by rw [<-z,h.hD] at Md;cases Md
 have jb:upd (upd H5 d (.dK (bH kvs (Sum.inr ru.1) (.bl true)))) t (.tup [.str ru.1,.int (k:Int)]) D=some (.lst (ts.map V.ref)):=by rw [ai Xa,ai TN];exact h.hD
 have kp:∀a xs,aZ K H5 a xs->aZ K (upd (upd (upd H5 d (.dK (bH kvs (Sum.inr ru.1) (.bl true)))) t (.tup [.str ru.1,.int (k:Int)])) D (.lst (ts.map V.ref++[.ref t]))) a xs:=λa xs z =>
  aX jb ((af ht _).tup (gF h.hd z))
 refine⟨λb o hb=>?_,by rw [ae,bC];rfl,by rw [ai TN.symm,ai nt.symm,ae],?_,f_ (h.ev.keep kp) (aX jb (aZ.of ae)),.snoc h.emp e n p⟩
 .have:=h.sm b o hb;rw [ai (λz=>by rw [z,fD] at hb;cases hb),ai (λz=>by rw [z,Md] at this;cases this),ai (λz=>by rw [z,fd] at hb;cases hb)];exact this
 rw [hX (by rw [h.keys];exact λz=>n (cP.mp z)),h.keys,bC,bC];rfl
def mU (K:a8):Sp:=λvs H Q _=>∃(R:Addr)(rs:List Addr)(aa:List au),vs=[.ref R]/\aH K H R (rs.map V.ref)/\bE K H rs aa/\aa.length<=1000/\(∀ru∈aa,ru.2.length<=8) /\
 ∀D ts aP H',H D=none->aC H H'->H' D=some (.lst (ts.map V.ref))->jc K H' ts aP->oF aa aP->qw aa aa.length aP->Q (.ref D) H'
def gr:aN ["rules","told","empty","many","number","rule"] ["rules"] (az pF):=iY rfl rfl rfl rfl nofun
def xI (F:ik K "found_empties" "found_empties" pF f fd)(T:Txt mg):bN P w K mg base fS 1 f fd ["rules"] (mU K):=by
 refine F.ok gr (λvs H Q E h=>?_) (λd0 A outer s H vs Q E hr h=>?_)
 .obtain⟨R,rs,aa,rfl,_⟩:=h;rfl
 obtain⟨R,rs,aa,rfl,hR,cS,bq,h8,q⟩:=h;have hu:=gp hr;refine⟨_,ak (aB (i:=1) gr.nd rfl (ba rfl) (bR aj))
  (ak (aB (i:=2) gr.nd rfl (Or.inr rfl) fg)
  (ak (aB (i:=3) gr.nd rfl (ba rfl) (y_ tH ar))
  (ak (jz b_ (br nQ (pv 3) (aL bz rfl T.len gb (ab (pv 1) aj)) (cw _))
   (ak (aB (i:=3) gr.nd rfl (ba rfl) (aL bz rfl T.len gb (ab (pv 1) aj)))
   (ao (bL b_ rfl (lZ rfl T.Fs (ab (pv 0) aj)) (fA rfl (aA (aq (i:=4) gr.nd rfl (ba rfl)) (aA (aq (i:=5) gr.nd rfl (ba rfl)) bF)))
    (ao (b8 (PW.pt (kn (fw (dU hu (bJ bX (pv 5) ar (λ_ _=>rfl)) (pv 2)))
      (iR (dY (aL (dW rfl) rfl T.all boot_all (ab (aT ["part"] [(2,"empty")] rfl (d_ (bJ bX (pv 5) ar (λ_ _=>rfl))) (aV rfl rfl) nofun rfl nofun
       (λ_ _ _ _ _=>aq (i:=0) (show (["part","empty"]:List Str).Nodup by decide +kernel) rfl (ba rfl)) (λ_ _ _ _ _=>bw) (λ_ _ _ _ _=>xA (kr hu (pv 0) (pv 1)))) aj))))))
     (ak (gy hu (pv 2) (bJ bX (pv 5) ar (λ_ _=>rfl)) eX rfl)
     (ao (bT (fh e_ fc ff bh (pv 1) (ab (bD (ab (bJ bX (pv 5) ar (λ_ _=>rfl)) (ab (pv 4) aj))) aj))))) aY))))))
  (ao (bu (pv 1)))))),?_⟩
 nofun
 refine⟨tE,λD hD d hd=>?_⟩;have TL:d≠D:=λz=>by rw [z,ae] at hd;cases hd
 have rP:H d=none:=by rw [ai TL] at hd;exact hd
 have e0:zO K aa H (upd (upd H D (.lst [])) d (.dK [])) D d [] [] []:=⟨(af hD _).trans (af hd _),by rw [ai TL.symm,ae];rfl,ae,rfl,.nil,.nil⟩;generalize upd (upd H D (.lst [])) d (.dK [])=H0 at e0;refine⟨1,rfl,?_⟩;refine⟨λm σ H5=>∃(ts:List Addr)(aP:List (Str×Nat))(kvs:List (aK×V)) (many:Int)(y4 y5:Option V),σ=[aI R,aI D,aI d,some (.int many),y4,y5]/\zO K aa H H5 D d ts aP kvs/\-1<=many/\many<=aP.length/\(many=aP.length->qw aa aa.length aP)/\(m:Int)=aa.length+1 - many,
  ⟨aa.length+2,[],[],[],-1,none,none,rfl,e0,∅,by simp,by simp,by simp;omega⟩,?_⟩
 rintro m σ H5 ⟨ts,aP,kvs,many,y4,y5,rfl,S,b1,b2,cl,em⟩;obtain⟨lt,lk⟩:=S.len;refine⟨_,rfl,_,rfl,D,_,rfl,.inl (aH.of S.hD),_,_,rfl,rfl,_,rfl,?_⟩;refine cu (λc=>?_) (λc=>?_)
 .have c':=dA c;rw [av,lt] at c';refine⟨λσ H5=>∃(tJ:List Addr)(gQ:List (Str×Nat))(eP:List (aK×V))(y4 y5:Option V),σ=[aI R,aI D,aI d,some (.int (aP.length:Int)),y4,y5]/\zO K aa H H5 D d tJ gQ eP/\aP.length<=gQ.length/\(gQ.length=aP.length->qw aa aa.length gQ),?_,?_⟩
  .rintro σ H6 ⟨tJ,gQ,eP,y4,y5,rfl,S2,l2,c2⟩;have:=S2.emp.len;exact⟨(aa.length+1 - aP.length:Int).toNat,∅,tJ,gQ,eP,_,_,_,rfl,S2,∅,∅,λz=>c2 ∅,∅⟩
  refine⟨_,rfl,D,_,rfl,.inl (aH.of S.hD),?_⟩;rw [av,lt];refine⟨_,rfl,R,_,rfl,S.sm.seq hR,?_⟩;refine jD (xs:=rs.map V.ref) (λi σ H6=>∃(tJ:List Addr)(gQ:List (Str×Nat))(eP:List (aK×V))(y4 y5:Option V),σ=[aI R,aI D,aI d,some (.int (aP.length:Int)),y4,y5]/\zO K aa H H6 D d tJ gQ eP/\aP.length<=gQ.length/\(gQ.length=aP.length->qw aa i gQ))
   ⟨ts,aP,kvs,_,_,rfl,S,aG _,λ_ ru gA=>by simp at gA⟩ ?_ ?_ ?_
  .rintro i σ H6 _ ⟨tJ,gQ,eP,y4,y5,rfl,S2,_⟩;exact S2.sm.seq hR
  .rintro i x σ H6 t ex ⟨tJ,gQ,eP,y4,y5,rfl,S2,l2,c2⟩ ht
   ac_nf0
   rw [bo] at ex;obtain⟨r,er,rfl⟩:=b9.mp ex;obtain⟨ru,e1,p,v1,v2⟩:=cS.get er;have Kd:=h8 ru (cy e1);have S3:=S2.same (af ht (.tup [.int (i:Int),.ref r]));have JW:aZ K (upd H6 t (.tup [.int (i:Int),.ref r])) t [.int (i:Int),.ref r]:=aZ.of ae;generalize upd H6 t (.tup [.int (i:Int),.ref r])=H7 at S3 JW;obtain⟨lt2,N4⟩:=S3.len;have el2:=S3.emp.len;have tk:aa.take (i+1)=aa.take i++[ru]:=by rw [cI,e1];rfl
   have ju:(¬((∀p∈ru.2,p∈gQ.map (·.1))/\ru.1∉gQ.map (·.1)))->(gQ.length=aP.length->qw aa (i+1) gQ):=λhn z zW vJ hp=>by
    rw [tk] at vJ;rcases cD.mp vJ with h | h
    .exact c2 z zW h hp
    rw [cT.mp h] at hp ⊢;exact Classical.byContradiction λhc=>hn ⟨hp,hc⟩
   refine⟨t,_,rfl,JW,rfl,_,_,rfl,_,_,rfl,rfl,?_⟩;refine⟨_,rfl,r,_,_,_,rfl,rfl,S3.sm.tup v1,rfl,?_⟩;refine⟨_,rfl,d,_,rfl,cq.k (k:=Sum.inr ru.1) S3.hd,_,rfl,?_⟩;refine cu (λc3=>?_) (λc3=>?_)
   .have nm:ru.1∉gQ.map (·.1):=λh=>by rw [(S3.mem _).mpr h] at c3;exact absurd c3 nofun
    refine⟨_,rfl,r,_,_,_,rfl,rfl,S3.sm.tup v1,rfl,p,rfl,⟨_,S3.sm.tup v2⟩,λD2 jb=>rX rfl (S3.sm.tup v2) ∅ S3.hd jb λH8 JK MA=>?_⟩;have S4:=S3.same JK;refine⟨D2,_,rfl,aH.of MA,_,rfl,?_⟩;refine cu (λc4=>?_) (λc4=>?_)
    .have al:∀x∈ru.2,x∈gQ.map (·.1):=λx hx=>(S4.mem x).mp (d5.mp c4 _ (gW hx));refine⟨_,rfl,_,rfl,r,_,_,_,rfl,rfl,S4.sm.tup v1,rfl,d,_,rfl,kU.k (k:=Sum.inr ru.1) S4.hd (bf ∅),?_⟩;have V6:aZ K (upd H8 d (.dK (bH eP (Sum.inr ru.1) (.bl true)))) r [.str ru.1,.ref p]:=gF S4.hd (S4.sm.tup v1);have I0:upd H8 d (.dK (bH eP (Sum.inr ru.1) (.bl true))) D=some (.lst (tJ.map V.ref)):=by rw [ai (λz=>by have:=S4.hD;rw [z,S4.hd] at this;cases this)];exact S4.hD
     refine⟨_,rfl,.inl ⟨rfl,_,aH.of I0⟩,_,rfl,r,_,_,_,rfl,rfl,V6,rfl,_,rfl,kW,λt2 i9=>?_⟩;refine⟨D,_,_,rfl,rfl,(by rw [ai (aw I0 i9)];exact I0),bf (by rw [av];omega),?_⟩;have S5:=S4.more hD rP e1 nm al i9;exact⟨tJ++[t2],gQ++[(ru.1,i)],_,_,_,rfl,S5,by rw [bO];omega,λz=>by rw [bO] at z;simp at z;omega⟩
    refine⟨tJ,gQ,eP,_,_,rfl,S4,l2,ju λ⟨ha,_⟩=>c4 (d5.mpr λb hb=>?_)⟩;obtain⟨x,hx,rfl⟩:=cH.mp hb;exact(S4.mem x).mpr (ha x hx)
   refine⟨tJ,gQ,eP,_,_,rfl,S3,l2,ju λ⟨_,hn⟩=>c3 ?_⟩;cases hq:(a_ eP (Sum.inr ru.1)).isSome with
   | true=>exact absurd ((S3.mem _).mp hq) hn
   | false=>rfl
  rintro σ H6 ⟨tJ,gQ,eP,y4,y5,rfl,S2,l2,c2⟩;rw [av,bB cS] at c2;exact⟨tJ,gQ,eP,_,_,rfl,S2,l2,c2⟩
 have c':=of_decide_eq_false (oU.mpr c);rw [av,lt] at c';exact⟨_,rfl,q D ts aP H5 hD S.sm S.hD S.ev S.emp (cl ∅)⟩
end
end gT
namespace M11
open PySem L2
def Ax (b:Str->Bool):List Str->Nat
 | []=>0
 | z::r=>if b z=true then Ax b r+1 else 1
theorem zt (b:Str->Bool):∀zs:List Str,(∀z∈zs,b z=true)->Ax b zs=zs.length
 | [],_=>rfl
 | z::r,h=>by
  unfold Ax;rw [ax (h z b0),zt b r λx hx=>h x (cz _ hx)];rfl
theorem C_ (b:Str->Bool):∀(zs:List Str) (i:Nat)(z:Str),(∀x∈zs.take i,b x=true)->zs[i]?=some z->¬b z=true->Ax b zs=i+1
 | y::r,0,z,_,e,n=>by
  cases e;unfold Ax;rw [ay n]
 | y::r,i+1,z,h,e,n=>by
  unfold Ax;rw [ax (h y (by rw [List.take_succ_cons];exact b0)),C_ b r i z (λx hx=>h x (by rw [List.take_succ_cons];exact cz _ hx)) e n]
theorem C9 (b:Str->Bool):∀zs:List Str,Ax b zs<=zs.length
 | []=>aG _
 | z::r=>by
  have:=C9 b r;unfold Ax;rw [d6]
  split <;> omega
def cnt (n:Nat):List V:=(List.range n).map λk:Nat=>V.int (k:Int)
end M11
namespace gT
open PySem L2 M11
section
def yL (K:a8):Sp:=λvs H Q _=>∃(R:Addr)(rs:List Addr)(aa:List au),vs=[.ref R]/\aH K H R (rs.map V.ref)/\bE K H rs aa/\aa.length<=1000/\(∀ru∈aa,ru.2.length<=8)/\(aa.flatMap (·.2)).Nodup /\
 ∀H',aC H H'->Q .fJ H'
def lP:aN ["strengths","met","way","words","word"] ["strengths"] (az xf):=iY rfl rfl rfl rfl nofun
def Ck (F:ik K "refuse_twice" "refuse_twice" xf f fd)(T:Txt mg):bN P w K mg base fS 1 f fd ["strengths"] (yL K):=by
 refine F.ok lP (λvs H Q E h=>?_) (λd0 A outer s H vs Q E hr h=>?_)
 .obtain⟨R,rs,aa,rfl,_⟩:=h;rfl
 obtain⟨R,rs,aa,rfl,hR,cS,bq,h8,N9,q⟩:=h;have hu:=gp hr;refine⟨_,ak (aB (i:=1) lP.nd rfl (ba rfl) fg)
  (ao (bL b_ rfl (aS (pv 0)) (fA rfl (aA (aq (i:=2) lP.nd rfl (ba rfl)) (aA (aq (i:=3) lP.nd rfl (ba rfl)) bF)))
   (ao (bL b_ rfl (d_ (pv 3)) (aq (i:=4) lP.nd rfl (ba rfl))
    (ak (b8 (fw (kr hu (pv 4) (pv 1))) (ao gZ) aY) (ao (gy hu (pv 1) (pv 4) eX rfl))))))),?_⟩
 nofun
 intro e he;have yT:∀o,aC H (upd H e o):=λo=>af he o;have ll:=bB cS
 let uR:qt:=λi σ H5=>∃(kvs:List (aK×V))(y3 y4 y5:Option V),σ=[aI R,aI e,y3,y4,y5]/\H5=upd H e (.dK kvs) /\
  kvs.map (·.1)=((aa.take i).flatMap (·.2)).map Sum.inr
 refine⟨_,rfl,R,rfl,⟨_,(yT _).seq hR⟩,cf (xs:=rs.map V.ref) uR ⟨[],none,none,none,rfl,rfl,rfl⟩ ?_ ?_ ?_⟩
 .rintro i σ H5 _ ⟨kvs,y3,y4,y5,rfl,rfl,_⟩;exact(yT _).seq hR
 .rintro i x σ H5 ex ⟨kvs,y3,y4,y5,rfl,rfl,hk⟩
  ac_nf0
  rw [bo] at ex;obtain⟨r,er,rfl⟩:=b9.mp ex;obtain⟨ru,e1,p,v1,v2⟩:=cS.get er;have li:=(bc.mp e1).1;have Kd:=h8 ru (cy e1);have eT:(aa.take (i+1)).flatMap (·.2)=(aa.take i).flatMap (·.2)++ru.2:=by
   rw [cI,e1,List.flatMap_append];simp
  have lA:((aa.take i).flatMap (·.2)).length<=8 * i:=iJ (aa.take i) i (by rw [d7];omega) λru gA=>h8 ru (uW gA);have CG:((aa.take i).flatMap (·.2)++ru.2).Nodup:=by
   have e2:aa.flatMap (·.2)=((aa.take i).flatMap (·.2)++ru.2)++(aa.drop (i+1)).flatMap (·.2):=by
    rw [<-eT,<-List.flatMap_append,List.take_append_drop]
   rw [e2] at N9;exact(jj.mp N9).1
  refine⟨r,_,rfl,(yT _).tup v1,rfl,_,_,rfl,_,_,rfl,rfl,?_⟩
  let AX:qt:=λj σ H6=>∃(kvs:List (aK×V))(y5:Option V),σ=[aI R,aI e,some (.str ru.1),aI p,y5]/\H6=upd H e (.dK kvs) /\
   kvs.map (·.1)=((aa.take i).flatMap (·.2)++ru.2.take j).map Sum.inr
  refine⟨_,rfl,p,rfl,⟨_,(yT _).tup v2⟩,zu (xs:=ru.2.map V.str) AX ⟨kvs,_,rfl,rfl,by rw [List.take_zero,iq];exact hk⟩ ?_ ?_ ?_⟩
  .rintro j σ H6 _ ⟨kvs,y5,rfl,rfl,_⟩;exact(yT _).tup v2
  .rintro j x σ H6 kY ⟨kvs,y5,rfl,rfl,Ap⟩
   ac_nf0
   rw [bo] at kY;obtain⟨z,ez,rfl⟩:=b9.mp kY;have lj:=(bc.mp ez).1;have eS:ru.2.take (j+1)=ru.2.take j++[z]:=by rw [cI,ez];rfl
   have lk:kvs.length<=8 * i+8:=by
    have h1:=congrArg List.length Ap;rw [av,av,bO,d7] at h1;omega
   have nz:z∉(aa.take i).flatMap (·.2)++ru.2.take j:=λhz=>by
    have e3:(aa.take i).flatMap (·.2)++ru.2=((aa.take i).flatMap (·.2)++ru.2.take j)++([z]++ru.2.drop (j+1)):=by
     rw [lB,<-lB (ru.2.take j),<-eS,List.take_append_drop]
    rw [e3] at CG;exact(jj.mp CG).2.2 z hz z (by simp) rfl
   have nk:¬(Sum.inr z:aK)∈kvs.map (·.1):=by rw [Ap];exact λh=>nz (cP.mp h)
   refine⟨_,rfl,_,rfl,e,_,rfl,cq.k (k:=Sum.inr z) ae,_,rfl,?_⟩;refine cu (λc=>absurd ((dZ kvs _).mp c) nk) (λ_=>?_);refine⟨_,rfl,_,rfl,e,_,rfl,kU.k (k:=Sum.inr z) ae (bf ∅),?_⟩;refine⟨bH kvs (Sum.inr z) (.bl true),_,rfl,by rw [lG],?_⟩;rw [hX nk,Ap,eS,<-lB];simp only [bC,bZ,j_]
  rintro σ H6 ⟨kvs,y5,rfl,rfl,Ap⟩;rw [av,cC,<-eT] at Ap;exact⟨kvs,_,_,_,rfl,rfl,Ap⟩
 rintro σ H5 ⟨kvs,y3,y4,y5,rfl,rfl,hk⟩;exact q _ (yT _)
def vd (K:a8):Sp:=λvs H Q _=>∃(p d:Addr) (zs:List Str)(kvs:List (aK×V)),vs=[.ref p,.ref d]/\aZ K H p (zs.map V.str)/\zs.length<=1000/\H d=some (.dK kvs) /\
 ∀D H',H D=none->aC H H'->H' D=some (.lst (cnt (Ax (λz=>(a_ kvs (Sum.inr z)).isSome) zs)))->Q (.ref D) H'
def lQ:aN ["parts","empty","places","place","part"] ["parts","empty"] (az tW):=iY rfl rfl rfl rfl nofun
def z_ (F:ik K "first_places" "first_places" tW f fd)(T:Txt mg):bN P w K mg base fS 1 f fd ["parts","empty"] (vd K):=by
 refine F.ok lQ (λvs H Q E h=>?_) (λd0 A outer s H vs Q E hr h=>?_)
 .obtain⟨p,d,zs,kvs,rfl,_⟩:=h;rfl
 obtain⟨p,d,zs,kvs,rfl,hp,hz,hd,q⟩:=h;have hu:=gp hr;refine⟨_,ak (aB (i:=2) lQ.nd rfl (ba rfl) (bR aj))
  (ak (bL b_ rfl (lY rfl T.Fs (ab (pv 0) aj)) (fA rfl (aA (aq (i:=3) lQ.nd rfl (ba rfl)) (aA (aq (i:=4) lQ.nd rfl (ba rfl)) bF)))
   (ak (bT (fh e_ fc ff bh (pv 2) (ab (pv 3) aj)))
   (ao (b8 (fw (dU hu (pv 4) (pv 1))) (ao B5) aY))))
  (ao (bu (pv 2)))),?_⟩
 nofun
 refine⟨tE,λD hD=>?_⟩;have up1:∀n,cnt n++[V.int (n:Int)]=cnt (n+1):=λn=>by
  unfold cnt;rw [List.range_succ,bC];rfl
 refine⟨_,rfl,p,_,rfl,(af hD _).tup hp,?_⟩
 let Nx:qt:=λi σ H5=>∃(y3 y4:Option V),σ=[aI p,aI d,aI D,y3,y4]/\aC H H5/\H5 D=some (.lst (cnt i))/\∀z∈zs.take i,(a_ kvs (Sum.inr z)).isSome=true
 refine ny (xs:=zs.map V.str) Nx
  ⟨none,none,rfl,af hD _,ae,by simp⟩ ?_ ?_ ?_
 .rintro i σ H5 _ ⟨y3,y4,rfl,sm,_⟩;exact sm.tup hp
 .rintro i x σ H5 t ex ⟨y3,y4,rfl,sm,MC,oj⟩ ht
  ac_nf0
  rw [bo] at ex;obtain⟨z,ez,rfl⟩:=b9.mp ex;have li:=(bc.mp ez).1;have tP:=sm.trans (af ht (.tup [.int (i:Int),.str z]));have jb:upd H5 t (.tup [.int (i:Int),.str z]) D=some (.lst (cnt i)):=by rw [ai (aw MC ht)];exact MC
  have hv:aZ K (upd H5 t (.tup [.int (i:Int),.str z])) t [.int (i:Int),.str z]:=aZ.of ae;generalize upd H5 t (.tup [.int (i:Int),.str z])=H6 at tP jb hv;have JL:aC H (upd H6 D (.lst (cnt i++[V.int (i:Int)]))):=λb o hb=>by
   rw [ai (λz=>by rw [z,hD] at hb;cases hb)];exact tP b o hb
  refine⟨t,_,rfl,hv,rfl,_,_,rfl,_,_,rfl,rfl,?_⟩;refine⟨_,rfl,.inl ⟨rfl,_,aH.of jb⟩,_,rfl,D,_,_,rfl,rfl,jb,bf (by unfold cnt;rw [av,sN];omega),?_⟩;refine⟨_,rfl,_,rfl,d,_,rfl,cq.k (k:=Sum.inr z) (JL _ _ hd),_,rfl,?_⟩;refine cu (λc=>?_) (λc=>?_)
  .refine⟨_,rfl,q D _ hD JL ?_⟩;rw [ae,up1,C_ _ zs i z oj ez (λh=>by rw [h] at c;exact absurd c nofun)]
  refine⟨_,_,rfl,JL,by rw [ae,up1],λx hx=>?_⟩;rw [cI,ez] at hx;rcases cD.mp hx with h | h
  .exact oj x h
  rw [Option.toList_some,cT] at h;subst h;cases hq:(a_ kvs (Sum.inr x)).isSome with
  | true=>rfl
  | false=>exact absurd (by rw [hq];rfl) c
 rintro σ H5 ⟨y3,y4,rfl,sm,MC,oj⟩;rw [av] at MC oj;rw [cC] at oj;exact⟨_,rfl,q D _ hD sm (by rw [zt _ zs oj];exact MC)⟩
end
end gT
namespace L2
open PySem
section
variable {prog:Program}{w:World}{K:Type} [DecidableEq K] {knd:KeyKind prog w K}{A:Around}{E:Value->Shared->Prop}
def qJ {s:Shared}{d l:Addr}{items:Array Value}{n:Nat}{kvs more:List (K×Value)}{Q:Value->Shared->Prop}(hh:A.handled=none)(rP:s.heap.DictOf knd d kvs)(hx:s.heap.get? l=some { cls:=.type "list",data:=.seq items n })
  (hi:items.size=more.length)(hp:∀(m:Nat) kv,more[m]?=some kv->∃u,items[m]?=some u/\kT knd s.heap u kv)(hz:kvs.length+more.length<=sizeLine)
  (h:∀h' t',h'.DictOf knd d (more.foldl (λa p=>stored a p.1 p.2) kvs)->(∀b o,b≠d->s.heap.get? b=some o->h'.get? b=some o)->Q .none { s with heap:=h',toks:=t' }) :
  wpAny (model prog w) A (call (.builtin "dict.update") [.ref d,.ref l]) Q E s:=by
 refine wpAny_call (codeAny_call_builtin wQ.plain PySem.F.entry_dict_update (wQ.check _ _ _ _ _ _ _ _ rP.typeIs (PySem.F.args_dict_update_2 _ _) ?_));unfold Builtin.«dict.update»;refine aE ?_;unfold Builtin.Dict.selfAndRest;refine aE (wpAny_notOrdered_dict rP.typeIs ?_);show wpAny _ _ (pure (d,[Value.ref l])) _ _ s;refine aR ?_;show wpAny _ _ (Builtin.Dict.updateFrom "dict.update" d (.ref l) [] .none) _ _ s;unfold Builtin.Dict.updateFrom;refine aE (kZ (T := "list") ⟨_,hx,rfl⟩ ?_);rw [ax wZ];refine aE (ni hx hh λh1 t1 k1=>?_);refine aE (wpAny_rule ?_);have l1:=k1 _ _ hx;refine aE (mQ ⟨_,l1,rfl,_,rfl⟩ ?_);have k2:∀b o,s.heap.get? b=some o->(h1.push { cls:=.type "list_iterator",data:=.fields #[.ref l,.int 0 0] }).get? b=some o:=λb o q=>bW _ (k1 _ _ q);refine aR ⟨mD eJ _,Dj (knd:=knd) (A:=A) (l:=l) (items:=items) hh more 0 _ kvs _ _ (by rw [hi,mI]) ?_ ⟨_,dq _ rfl,rfl,rfl⟩ ⟨_,k2 _ _ hx,rfl,n,rfl⟩ (λm kv e=>?_) hz λh' t' hd k3=>?_⟩
 .obtain⟨o,es,ep,q,r⟩:=rP;exact⟨o,es,ep,k2 _ _ q,r⟩
 .obtain⟨u,e1,e2⟩:=hp m kv e;exact⟨u,by rw [mI];exact e1,e2.keep λb o _ q=>k2 b o q⟩
 exact h h' t' hd λb o n q=>k3 b o n (bQ (bA (k1 _ _ q))) (k2 b o q)
end
section
variable {X:Cx}{o e:Expr}{apos gI:Pos}{td ty:TE}
def KW (K:a8)(td ty:TE):TE:=λσ H Q=>td σ H λx H1=>∃a,x=.ref a/\OE H1 a/\ty σ H1 λy H2=>∃l ts kvs more,y=.ref l/\H2 a=some (.dK kvs)/\H2 l=some (.lst (ts.map V.ref)) /\
 Paired (λt kv=>aZ K H2 t [kV kv.1,kv.2]) ts more/\kvs.length+more.length<=sizeLine/\Q .fJ (upd H2 a (.dK (cN more kvs)))
def EN (hc:X.calm=true)(ho:PE X o td)(he:PE X e ty)(m:M1 X o "update" apos e gI):PE X (.Call (.Attribute o "update" apos) [e] [] gI) (KW X.K td ty):=by
 intro ag s σ H Q I h;refine wpAny_Call_method m.base m.uD m.line wL wQ PySem.F.type_dict_update (cJ (ho ag s σ H _ I h) λu s1 bj=>?_);obtain⟨x,H1,I1,rx,a,ex,d,q1⟩:=bj;subst ex;obtain rfl:u=Value.ref a:=rx;obtain⟨t1,t2,_⟩:=xW I1 d;refine⟨t1,t2,?_⟩;rw [m.trees];refine sW rfl (sP (qP (cJ (he ag s1 σ H1 _ I1 q1) λiv s2 bj=>?_)));obtain⟨y,H2,I2,ry,l,ts,kvs,more,ey,ea,el,p,hz,q2⟩:=bj;refine Calls.spliced_nil ?_;subst ey;cases (show iv=Value.ref l from ry);obtain⟨z,rM,vs,rel,dd⟩:=vU I2.bS ea;obtain⟨z2,aU,n,rv,hl⟩:=(show cv X.prog X.w H2 s2.heap l (.lst _) from I2.bS l _ el);obtain⟨ms,r1,r2⟩:=pairs_at I2 p rv;have l1:=bB r2;have l2:=r1.length;have l3:=bB p;refine qJ (I2.ok.hd hc) dd hl (by simpa using l1) (λm kv em=>?_) (by rw [<-rel.length,<-l2];exact hz) λh' t' hd kk=>?_
 .obtain⟨u,e1,e2⟩:=Paired.at_ r2 m kv em;exact⟨u,by simpa using e1,e2⟩
 have hn:(cN more kvs).length<=sizeLine:=fU (pZ more kvs) hz;have he:∃q,h'.get? a=some q:=let ⟨q,_,_,hq,_⟩:=hd;⟨q,hq⟩;exact⟨.fJ,_,I2.write (x:=a) (e:=a) (by rw [ea];exact True.intro) (.inl rfl) (λb q hb z=>kk b q hb z) he (qd hn rM (pY r1 rel) hd),rfl,q2⟩
def r9 {X:Cx}:ft X (.builtin "len") (λxs H Q=>∃a kvs,xs=[.ref a]/\H a=some (.dK kvs)/\Q (.int kvs.length) H):=by
 intro ag s σ H xs us Q I r h;obtain⟨a,kvs,rfl,e,q⟩:=h;obtain⟨u,rfl,rx⟩:=vals1 r;cases (show u=Value.ref a from rx);exact Na I (.inl e) λt s' I'=>⟨.int _,H,I',⟨_,rfl⟩,q⟩
end
theorem vI:∀{us:List Value}{ns:List Int},PyProof.Rows.IntsAre us ns->∀ys:List (Int×Tok),us=ys.map (λp=>Value.int p.1 p.2)->ys.map (·.1)=ns
 | _,_,.nil,ys,e=>by
  cases ys with
  | nil=>rfl
  | cons _ _=>cases e
 | _,_,.cons n t h,ys,e=>by
  cases ys with
  | nil=>cases e
  | cons y r =>
   rw [bZ] at e;injection e with e1 e2;injection e1 with e3 e4;rw [bZ,vI h r e2,e3]
def jP {X:Cx}(hc:X.calm=true):ft X (.builtin "sum") (λxs H Q=>∃a ns,xs=[.ref a]/\aH X.K H a (List.map V.int ns)/\Q (.int ns.sum) H):=by
 intro ag s σ H xs us Q I r h;obtain⟨a,ns,rfl,hq,q⟩:=h;obtain⟨u,rfl,rx⟩:=vals1 r;cases rx;obtain⟨aU,rv,pl,hz⟩:=I.list hq;have hi:=intsAre_of rv;have oj:AllInts aU.toArray:=hi.allInts;obtain⟨xs,e⟩:=oj.items;have hl:=pl.isList;rw [e] at hl;refine sum_intListG (I.ok.hd hc) hl λh' tk t' hk=>⟨.int _,H,I.kept hk,⟨_,rfl⟩,?_⟩;have e5:xs.toList.map (·.1)=ns:=vI hi xs.toList (by
  have:=congrArg Array.toList e;simpa [intItems] using this)
 have e6:preSum (numAt xs) xs.size=ns.sum:=by
  rw [preSum_eq,e5,uY (by rw [<-e5];simp)]
 rw [e6];exact q
def vX {K:a8}{H:Hp}{p D:Addr}{zs:List Str}{σ:St}{v:V}{x:Str}{Qp:Hp->Prop}(hp:aZ K H p (zs.map V.str))(hz:zs.length<=1000)(hD:H D=none)
  (q:∀ts H2,aC H H2->H2 D=some (.lst (ts.map V.ref))->Paired (λt h=>aZ K H2 t [.str h,v]) ts zs->Qp H2) :
  ∃W:Nat->Nat->List V->St->Hp->Prop,(∃m,W 0 m [] (df [x] [] σ) (upd H D (.lst []))) /\
 ∀i m ys σ' H,W i m ys σ' H->((mz K p).stop i H/\Qp H)\/((mz K p).go i H/\∃m',m' < m/\∀x H',(mz K p).ka i H x H'->cU 0 x σ' H' λσ2 H2=>gh σ2 H2 λb H3 =>
  if b=true then qD (fV (fO 0) (fV (tC v) o8)) σ2 H3 λy H4=>H4 D=some (.lst ys)/\ys.length < sizeLine/\W (i+1) m' (ys++[y]) σ2 (upd H4 D (.lst (ys++[y]))) else W (i+1) m' ys σ2 H3):=by
 refine fM (xs:=zs.map V.str) (λi ys σ2 H2=>∃ts:List Addr,ys=ts.map V.ref/\ts.length=i/\Paired (λt h=>aZ K H2 t [.str h,v]) ts (zs.take i)/\(∃y0,σ2=[y0])/\aC H H2/\H2 D=some (.lst ys))
  ⟨[],rfl,rfl,.nil,⟨none,rfl⟩,af hD _,ae⟩ (λi ys σ2 H2 _ h=>?_) (λi x ys σ2 H2 ex h=>?_) (λys σ2 H2 h=>?_)
 .obtain⟨_,_,_,_,_,sm,_⟩:=h;exact sm.tup hp
 .obtain⟨ts,rfl,ht,iX,⟨y0,rfl⟩,sm,hd⟩:=h;rw [bo] at ex;obtain⟨z,ez,rfl⟩:=b9.mp ex;have li:=(bc.mp ez).1;refine goN (uV ?_);refine⟨_,rfl,kW,λt i9=>⟨?_,bf (by rw [av];omega),ts++[t],?_,?_,?_,⟨_,rfl⟩,?_,ae⟩⟩
  .rw [ai (aw hd i9)];exact hd
  .rw [bC];rfl
  .rw [bO,ht];rfl
  .rw [cI,ez];have ig:upd H2 t (.tup [.str z,v]) D=some (.lst (ts.map V.ref)):=by rw [ai (aw hd i9)];exact hd
   exact f_ (Paired.fj iX λt' h' z=>aX ig ((af i9 _).tup z)) (aX ig (aZ.of ae))
  intro b o hb;rw [ai (λz=>by rw [z,hD] at hb;cases hb)];exact af i9 _ _ _ (sm b o hb)
 obtain⟨ts,rfl,ht,iX,_,sm,hd⟩:=h;rw [av,cC] at iX;exact q ts H2 sm hd iX
end L2
namespace M11
open PySem L2
def jF (a:List Str)(h x:Str):x∈gw a h↔x∈a\/x=h:=by
 unfold gw;split
 .constructor
  .exact .inl
  rintro(z | rfl) <;> assumption
 simp
def uN {a:List Str}(h:Str)(n:a.Nodup):(gw a h).Nodup:=by
 unfold gw;split
 .exact n
 rename_i q
 refine jj.mpr ⟨n,by simp,λx hx y hy=>?_⟩;rw [cT.mp hy];exact λz=>q (z ▸ hx)
def zJ (a:List Str)(h:Str):a.length<=(gw a h).length:=by
 unfold gw;split <;> simp
def FD {a:List Str}{h:Str}(e:(gw a h).length=a.length):gw a h=a:=by
 unfold gw at e ⊢;split
 .rfl
 rename_i q
 rw [ay q,bO] at e;simp at e
theorem gB:∀(hs bI:List Str)(x:Str),x∈uI bI hs↔x∈bI\/x∈hs
 | [],bI,x=>by simp [uI]
 | h::r,bI,x=>by
  show x∈uI (gw bI h) r↔_;rw [gB r,jF,bM,or_assoc]
theorem nE:∀(hs:List Str){bI:List Str},bI.Nodup->(uI bI hs).Nodup
 | [],_,n=>n
 | h::r,_,n=>nE r (uN h n)
theorem yj:∀(hs bI:List Str),bI.length<=(uI bI hs).length
 | [],_=>aG _
 | h::r,bI=>fU (zJ bI h) (yj r _)
theorem Dk:∀(hs bI:List Str),(uI bI hs).length=bI.length->uI bI hs=bI
 | [],_,_=>rfl
 | h::r,bI,e=>by
  have h1:=zJ bI h;have h2:=yj r (gw bI h);have e':(uI (gw bI h) r).length=bI.length:=e;show uI (gw bI h) r=bI;rw [Dk r _ ∅];exact FD ∅
inductive JD (aa:List au)(s:Str):Str->Prop
 | start:JD aa s s
 | step {ru:au}{x:Str}:JD aa s ru.1->ru∈aa->x∈ru.2->JD aa s x
def AW (aa:List au) (n:Nat) (ms:List Str):Prop:=∀ru∈aa.take n,ru.1∈ms->∀x∈ru.2,x∈ms
def JD.among {aa:List au}{s x:Str}(h:JD aa s x):x∈s::aa.flatMap (·.2):=by
 cases h with
 | start=>exact b0
 | step _ h1 h2=>exact cz _ (qO.mpr ⟨_,h1,h2⟩)
end M11
namespace gT
open PySem L2 M11
section
def FV (K:a8):Sp:=λvs H Q _=>∃(R:Addr)(rs:List Addr)(aa:List au)(gi:au),vs=[.ref R]/\aH K H R (rs.map V.ref)/\bE K H rs aa/\aa[0]?=some gi/\aa.length<=1000/\(∀ru∈aa,ru.2.length<=8) /\
 ∀d kvs ms H',H d=none->aC H H'->H' d=some (.dK kvs)->kvs.map (·.1)=ms.map Sum.inr->gi.1∈ms->(∀x∈ms,JD aa gi.1 x)->AW aa aa.length ms->Q (.ref d) H'
def ro:aN ["rules","met","many","head","parts"] ["rules"] (az Hu):=iY rfl rfl rfl rfl nofun
structure Kv (K:a8)(aa:List au)(s0:Str)(H H5:Hp)(d:Addr) (ms:List Str)(kvs:List (aK×V)):Prop where
 sm:aC H H5
 hd:H5 d=some (.dK kvs)
 keys:kvs.map (·.1)=ms.map Sum.inr
 nd:ms.Nodup
 st:s0∈ms
 NY:∀x∈ms,JD aa s0 x
def Kv.len {aa:List au}{s0:Str}{H H5:Hp}{d:Addr}{ms:List Str}{kvs:List (aK×V)}(h:Kv K aa s0 H H5 d ms kvs)(hl:aa.length<=1000)(h8:∀ru∈aa,ru.2.length<=8):kvs.length=ms.length/\ms.length<=8001:=by
 refine⟨?_,?_⟩
 .have:=congrArg List.length h.keys;simpa using this
 have h1:=fK ms _ h.nd λx hx=>(h.NY x hx).among;have h2:=iJ aa 1000 hl h8;rw [d6] at h1;omega
def Ig (F:ik K "names_met" "names_met" Hu f fd)(T:Txt mg):bN P w K mg base fS 1 f fd ["rules"] (FV K):=by
 refine F.ok ro (λvs H Q E h=>?_) (λd0 A outer s H vs Q E hr h=>?_)
 .obtain⟨R,rs,aa,gi,rfl,_⟩:=h;rfl
 obtain⟨R,rs,aa,gi,rfl,hR,cS,JY,bq,h8,q⟩:=h;have hu:=gp hr;refine⟨_,ak (aB (i:=1) ro.nd rfl (ba rfl) (ER (B7 (bJ bX (bJ cO (pv 0) ar (λ_ _=>rfl)) ar (λ_ _=>rfl)) eX EJ) rfl rfl (by simp) (show 1<=15 by decide)))
  (ak (aB (i:=2) ro.nd rfl (ba rfl) ar)
  (ak (jz b_ (br nQ (pv 2) (aL r9 rfl T.len gb (ab (pv 1) aj)) (cw _))
   (ak (aB (i:=2) ro.nd rfl (ba rfl) (aL r9 rfl T.len gb (ab (pv 1) aj)))
   (ao (bL b_ rfl (aS (pv 0)) (fA rfl (aA (aq (i:=3) ro.nd rfl (ba rfl)) (aA (aq (i:=4) ro.nd rfl (ba rfl)) bF)))
    (ao (b8 (fw (kr hu (pv 3) (pv 1)))
     (ao (bT (EN rfl (pv 1) (aT ["part"] [] rfl (d_ (pv 4)) (aV rfl rfl) nofun rfl nofun
       (λ_ _ _ _ _=>aq (i:=0) (show (["part"]:List Str).Nodup by decide +kernel) rfl (ba rfl)) (λ_ _ _ _ _=>bw) (λ_ _ _ _ _=>bD (ab (pv 0) (ab eX aj)))) ⟨rfl,rfl,rfl,rfl⟩))) aY))))))
  (ao (bu (pv 1))))),?_⟩
 nofun
 intro d hd;have ll:=bB cS;have l0:=(bc.mp JY).1;obtain⟨r0,U4⟩:∃r,rs[0]?=some r:=⟨rs[0]'∅,c_ ∅⟩;obtain⟨Wv,e0,p0,w1,w2⟩:=cS.get U4;rw [JY] at e0;cases e0;have Tc:=af hd (.dK []);refine⟨_,rfl,R,_,_,.ref r0,rfl,rfl,Tc.seq hR,?_,r0,_,_,_,rfl,rfl,Tc.tup w1,rfl,?_⟩
 .have e7:(rs.map V.ref)[0]?=some (.ref r0):=by rw [bo,U4];rfl
  exact dN (j:=0) e7
 refine⟨ae,[((Sum.inr gi.1:aK),.bl true)],rfl,(by show 1<=15;decide),?_⟩;have S0:Kv K aa gi.1 H (upd (upd H d (.dK [])) d (.dK (kx [] [((Sum.inr gi.1:aK),.bl true)]))) d [gi.1] [((Sum.inr gi.1:aK),.bl true)]:=by
  rw [lG];exact⟨af hd _,ae,rfl,by simp,by simp,λx hx=>by rw [cT.mp hx];exact .start⟩
 generalize upd (upd H d (.dK [])) d (.dK (kx [] [((Sum.inr gi.1:aK),.bl true)]))=H0 at S0;refine⟨λm σ H5=>∃(ms:List Str)(kvs:List (aK×V)) (many:Int)(y3 y4:Option V),σ=[aI R,aI d,some (.int many),y3,y4]/\Kv K aa gi.1 H H5 d ms kvs/\0<=many/\many<=ms.length/\(many=ms.length->AW aa aa.length ms)/\(m:Int)=8002 - many,
  ⟨8002,[gi.1],_,0,none,none,rfl,S0,∅,by simp,by simp,∅⟩,?_⟩
 rintro m σ H5 ⟨ms,kvs,many,y3,y4,rfl,S,b1,b2,cl,em⟩;obtain⟨lk,lm⟩:=S.len bq h8;refine⟨_,rfl,_,rfl,d,_,rfl,S.hd,_,_,rfl,rfl,_,rfl,?_⟩;refine cu (λc=>?_) (λc=>?_)
 .have c':=dA c;rw [lk] at c';refine⟨λσ H5=>∃(oz:List Str)(eP:List (aK×V))(y3 y4:Option V),σ=[aI R,aI d,some (.int (ms.length:Int)),y3,y4]/\Kv K aa gi.1 H H5 d oz eP/\ms.length<=oz.length/\(oz.length=ms.length->AW aa aa.length oz),?_,?_⟩
  .rintro σ H6 ⟨oz,eP,y3,y4,rfl,S2,l2,c2⟩;exact⟨(8002 - ms.length:Int).toNat,∅,oz,eP,_,_,_,rfl,S2,∅,∅,λz=>c2 ∅,∅⟩
  refine⟨_,rfl,d,_,rfl,S.hd,?_⟩;rw [lk];refine⟨_,rfl,R,rfl,⟨_,S.sm.seq hR⟩,?_⟩;refine cf (xs:=rs.map V.ref) (λi σ H6=>∃(oz:List Str)(eP:List (aK×V))(y3 y4:Option V),σ=[aI R,aI d,some (.int (ms.length:Int)),y3,y4]/\Kv K aa gi.1 H H6 d oz eP/\ms.length<=oz.length/\(oz.length=ms.length->AW aa i oz))
   ⟨ms,kvs,_,_,rfl,S,aG _,λ_ ru gA=>by simp at gA⟩ ?_ ?_ ?_
  .rintro i σ H6 _ ⟨oz,eP,y3,y4,rfl,S2,_⟩;exact S2.sm.seq hR
  .rintro i x σ H6 ex ⟨oz,eP,y3,y4,rfl,S2,l2,c2⟩
   ac_nf0
   rw [bo] at ex;obtain⟨r,er,rfl⟩:=b9.mp ex;obtain⟨ru,e1,p,v1,v2⟩:=cS.get er;have Kd:=h8 ru (cy e1);have tk:aa.take (i+1)=aa.take i++[ru]:=by rw [cI,e1];rfl
   obtain⟨N4,XQ⟩:=S2.len bq h8;have mem:(a_ eP (Sum.inr ru.1)).isSome=true↔ru.1∈oz:=by rw [dZ,S2.keys];exact cP
   refine⟨r,_,rfl,S2.sm.tup v1,rfl,_,_,rfl,_,_,rfl,rfl,?_⟩;refine⟨_,rfl,_,rfl,d,_,rfl,cq.k (k:=Sum.inr ru.1) S2.hd,_,rfl,?_⟩;refine cu (λc3=>?_) (λc3=>?_)
   .have im:=mem.mp c3;refine⟨_,rfl,d,rfl,.inl ⟨_,.inl S2.hd⟩,_,rfl,p,rfl,⟨_,S2.sm.tup v2⟩,λD2 jb=>vX (S2.sm.tup v2) ∅ jb λts H8 JK MA Us=>?_⟩;have kp:Paired (λt (kv:aK×V)=>aZ K H8 t [kV kv.1,kv.2]) ts (ru.2.map λh=>((Sum.inr h:aK),V.bl true)):=cE Us λ_ _ z=>z;refine⟨D2,ts,eP,_,rfl,JK _ _ S2.hd,MA,kp,fits (by rw [av];omega),?_⟩;have Y2:=yj ru.2 oz;refine⟨uI oz ru.2,cN (ru.2.map λh=>((Sum.inr h:aK),V.bl true)) eP,_,_,rfl,⟨λb o hb=>?_,ae,md ru.2 eP oz S2.keys,nE ru.2 S2.nd,(gB ru.2 oz _).mpr (.inl S2.st),λx hx=>?_⟩,∅,λz zW vJ hh=>?_⟩
    .rw [ai (λz=>by rw [z,hd] at hb;cases hb)];exact JK _ _ (S2.sm b o hb)
    .rcases (gB ru.2 oz x).mp hx with h | h
     .exact S2.NY x h
     exact .step (S2.NY _ im) (cy e1) h
    have e9:=Dk ru.2 oz ∅;rw [e9] at hh ⊢;rw [tk] at vJ;rcases cD.mp vJ with h | h
    .exact c2 ∅ zW h hh
    rw [cT.mp h];intro x hx;rw [<-e9];exact(gB ru.2 oz x).mpr (.inr hx)
   refine⟨oz,eP,_,_,rfl,S2,l2,λz zW vJ hh=>?_⟩;rw [tk] at vJ;rcases cD.mp vJ with h | h
   .exact c2 z zW h hh
   rw [cT.mp h] at hh;exact absurd (mem.mpr hh) c3
  rintro σ H6 ⟨oz,eP,y3,y4,rfl,S2,l2,c2⟩;rw [av,ll] at c2;exact⟨oz,eP,_,_,rfl,S2,l2,c2⟩
 have c':=of_decide_eq_false (oU.mpr c);rw [lk] at c';exact⟨_,rfl,q d kvs ms H5 hd S.sm S.hd S.keys S.st S.NY (cl ∅)⟩
end
end gT
namespace M11
open PySem L2
abbrev G:=Str->Option Int
def cX (g:G)(h:Str) (n:Int):G:=λz=>if z=h then some n else g z
def aD (g:G)(ru:au):Int:=1+(ru.2.map λp=>(g p).getD 0).sum
def ja (g:G)(ru:au):Bool:=ru.2.all λp=>(g p).isSome
def cx (bt:Int->Int->Bool)(g:G)(ru:au):Bool:=ja g ru && (!(g ru.1).isSome || bt (aD g ru) ((g ru.1).getD 0))
def sstep (bt:Int->Int->Bool)(a:G×Bool)(ru:au):G×Bool:=if cx bt a.1 ru=true then (cX a.1 ru.1 (aD a.1 ru),true) else a
def qE (bt:Int->Int->Bool)(aa:List au)(g:G):G×Bool:=aa.foldl (sstep bt) (g,false)
inductive de (bt:Int->Int->Bool)(aa:List au):G->G->Prop
 | refl {g:G}:de bt aa g g
 | step {g g1:G}{ru:au}:de bt aa g g1->ru∈aa->cx bt g1 ru=true->de bt aa g (cX g1 ru.1 (aD g1 ru))
def gS (bt:Int->Int->Bool)(aa:List au)(g:G):Prop:=∀ru∈aa,cx bt g ru=false
def nI (bt:Int->Int->Bool)(aa:List au):Nat->G->Prop
 | 0,g=>(qE bt aa g).2=false
 | n+1,g=>(qE bt aa g).2=false\/nI bt aa n (qE bt aa g).1
def de.trans {bt:Int->Int->Bool}{aa:List au}{g g1 g2:G}(h:de bt aa g g1)(k:de bt aa g1 g2):de bt aa g g2:=by
 induction k with
 | refl=>exact h
 | step _ a b ih=>exact .step ih a b
theorem pV (bt:Int->Int->Bool)(aa:List au):∀(l:List au)(a:G×Bool),(∀ru∈l,ru∈aa)->de bt aa a.1 (l.foldl (sstep bt) a).1
 | [],a,_=>.refl
 | ru::l,a,h=>by
  have ih:=pV bt aa l (sstep bt a ru) λx hx=>h x (cz _ hx);refine de.trans ?_ ih;unfold sstep;by_cases c:cx bt a.1 ru=true
  .rw [ax c];exact .step .refl (h ru b0) c
  rw [ay c];exact .refl
theorem rQ (bt:Int->Int->Bool):∀(l:List au)(a:G×Bool),a.2=true->(l.foldl (sstep bt) a).2=true
 | [],a,h=>h
 | ru::l,a,h=>by
  refine rQ bt l (sstep bt a ru) ?_;unfold sstep
  split
  .rfl
  exact h
theorem pX (bt:Int->Int->Bool):∀(l:List au)(a:G×Bool),(l.foldl (sstep bt) a).2=false->(l.foldl (sstep bt) a).1=a.1/\∀ru∈l,cx bt a.1 ru=false
 | [],a,_=>⟨rfl,λ_ h=>nomatch h⟩
 | ru::l,a,h=>by
  by_cases c:cx bt a.1 ru=true
  .have e:sstep bt a ru=(cX a.1 ru.1 (aD a.1 ru),true):=ax c;have h':(l.foldl (sstep bt) (sstep bt a ru)).2=false:=h;rw [e,rQ bt l _ rfl] at h';cases h'
  have e:sstep bt a ru=a:=ay c;have h':(l.foldl (sstep bt) (sstep bt a ru)).2=false:=h;rw [e] at h';obtain⟨i1,i2⟩:=pX bt l a h';refine⟨by rw [List.foldl_cons,e];exact i1,λzW hr=>?_⟩;rcases bM.mp hr with z | z
  .rw [z];exact oU.mpr c
  exact i2 zW z
end M11
namespace L2
open PySem M11
def fq.tup {K:a8}{H H':Hp}{d a:Addr}{kvs:List (aK×V)}{xs:List V}(s:fq d H H')(hd:H d=some (.dK kvs))(h:aZ K H a xs):aZ K H' a xs:=by
 rcases h with (h | ⟨u,h⟩) | h
 .exact .inl (.inl (s _ _ (λz=>by rw [z,hd] at h;cases h) h))
 .exact .inl (.inr ⟨u,s _ _ (λz=>by rw [z,hd] at h;cases h) h⟩)
 exact .inr h
def fq.seq {K:a8}{H H':Hp}{d a:Addr}{kvs:List (aK×V)}{xs:List V}(s:fq d H H')(hd:H d=some (.dK kvs))(h:aH K H a xs):aH K H' a xs:=by
 rcases h with (h | ⟨u,h⟩) | h
 .exact .inl (.inl (s _ _ (λz=>by rw [z,hd] at h;cases h) h))
 .exact .inl (.inr ⟨u,s _ _ (λz=>by rw [z,hd] at h;cases h) h⟩)
 exact .inr h
def AJ {K:a8}{H:Hp}{p D d:Addr}{zs:List Str}{kvs:List (aK×V)}{g:G}{σ:St}{js:List (Nat×Str)}{Qp:Hp->Prop}(hσ:df ["part"] js σ=[none,aI d])(hp:aZ K H p (zs.map V.str))(hz:zs.length<=1000)
  (hd:H d=some (.dK kvs))(hv:∀z,a_ kvs (Sum.inr z)=(g z).map V.int)(ha:∀z∈zs,(g z).isSome=true)(hD:H D=none)(q:∀H2,aC H H2->H2 D=some (.lst ((zs.map λz=>(g z).getD 0).map V.int))->Qp H2) :
  ∃W:Nat->Nat->List V->St->Hp->Prop,(∃m,W 0 m [] (df ["part"] js σ) (upd H D (.lst []))) /\
 ∀i m ys σ' H,W i m ys σ' H->((mz K p).stop i H/\Qp H)\/((mz K p).go i H/\∃m',m' < m/\∀x H',(mz K p).ka i H x H'->cU 0 x σ' H' λσ2 H2=>gh σ2 H2 λb H3 =>
  if b=true then yD (fO 1) (fO 0) σ2 H3 λy H4=>H4 D=some (.lst ys)/\ys.length < sizeLine/\W (i+1) m' (ys++[y]) σ2 (upd H4 D (.lst (ys++[y]))) else W (i+1) m' ys σ2 H3):=by
 refine fM (xs:=zs.map V.str) (λi ys σ2 H2=>ys=(((zs.take i).map λz=>(g z).getD 0).map V.int)/\(∃y0,σ2=[y0,aI d])/\aC H H2/\H2 D=some (.lst ys))
  ⟨rfl,⟨none,hσ⟩,af hD _,ae⟩ (λi ys σ2 H2 _ h=>h.2.2.1.tup hp) (λi x ys σ2 H2 ex h=>?_) (λys σ2 H2 h=>?_)
 .obtain⟨rfl,⟨y0,rfl⟩,sm,hd2⟩:=h;rw [bo] at ex;obtain⟨z,ez,rfl⟩:=b9.mp ex;have li:=(bc.mp ez).1;obtain⟨n,en⟩:=lC.mp (ha z (cy ez));have hg:cq H2 d (.str z) (some (.int n)):=by
   have:=cq.k (k:=Sum.inr z) (sm _ _ hd);rw [hv,en] at this;exact this
  refine goN (uV ?_);refine⟨_,rfl,_,rfl,d,_,rfl,hg,hd2,bf (by rw [av,av,d7];omega),?_,⟨_,rfl⟩,?_,ae⟩
  .rw [cI,ez,bC,bC];show _=_++[V.int ((g z).getD 0)];rw [en];rfl
  intro b o hb;rw [ai (λz=>by rw [z,hD] at hb;cases hb)];exact sm b o hb
 obtain⟨rfl,_,sm,hd2⟩:=h;rw [av,cC] at hd2;exact q H2 sm hd2
end L2
namespace gT
open PySem L2 M11
section
def gX (K:a8)(q:Str)(params:Arguments)(body:Expr)(scope:Scope)(bt:Int->Int->Bool):Sp:=λvs H Q _=>∃(R:Addr)(rs:List Addr)(aa:List au)(d fl c':Addr)(pm fQ:Value)(kvs:List (aK×V)) (ks:List Str)(g:G),
 vs=[.ref R,.ref d,.ref fl]/\aH K H R (rs.map V.ref)/\bE K H rs aa/\aa.length<=1000/\(∀ru∈aa,ru.2.length<=8)/\H d=some (.dK kvs)/\kvs.map (·.1)=ks.map Sum.inr/\ks.Nodup/\ks.length<=10000 /\
 (∀z,a_ kvs (Sum.inr z)=(g z).map V.int)/\(∃n,nI bt aa n g)/\H fl=some (ng fl (PySem.W.kla_obj "<lambda>" q params body scope [] pm c' fQ))/\H c'=some (i_ c' q) /\
 ∀(kI:List (aK×V)) (LO:List Str)(g':G)(H':Hp),fq d H H'->H' d=some (.dK kI)->kI.map (·.1)=LO.map Sum.inr->(∀z,a_ kI (Sum.inr z)=(g' z).map V.int)->de bt aa g g'->gS bt aa g'->kI.length<=20000->Q (.ref d) H'
def gY:aN ["rules","sizes","better","changed","head","parts","size"] ["rules","sizes","better"] (az lU):=iY rfl rfl rfl rfl nofun
structure Ba (K:a8)(aa:List au) (DX:List Str)(H H5:Hp)(d:Addr)(kvs:List (aK×V)) (ks:List Str)(g:G):Prop where
 sm:fq d H H5
 hd:H5 d=some (.dK kvs)
 keys:kvs.map (·.1)=ks.map Sum.inr
 nd:ks.Nodup
 sub:∀x∈ks,x∈DX++aa.map (·.1)
 val:∀z,a_ kvs (Sum.inr z)=(g z).map V.int
def Ba.len {aa:List au}{DX:List Str}{H H5:Hp}{d:Addr}{kvs:List (aK×V)}{ks:List Str}{g:G}(h:Ba K aa DX H H5 d kvs ks g):kvs.length<=DX.length+aa.length:=by
 have h1:=congrArg List.length h.keys;have h2:=fK ks _ h.nd h.sub;rw [bO,av] at h2;rw [av,av] at h1;omega
def Ba.same {aa:List au}{DX:List Str}{H H5 H6:Hp}{d:Addr}{kvs:List (aK×V)}{ks:List Str}{g:G}(h:Ba K aa DX H H5 d kvs ks g)(s:aC H5 H6):Ba K aa DX H H6 d kvs ks g :=
 ⟨λb o n e=>s _ _ (h.sm b o n e),s _ _ h.hd,h.keys,h.nd,h.sub,h.val⟩
def Ba.put {aa:List au}{DX:List Str}{H H5:Hp}{d:Addr}{kvs:List (aK×V)}{ks:List Str}{g:G}(h:Ba K aa DX H H5 d kvs ks g){ru:au}(hr:ru∈aa) (n:Int) :
  Ba K aa DX H (upd H5 d (.dK (bH kvs (Sum.inr ru.1) (.int n)))) d (bH kvs (Sum.inr ru.1) (.int n)) (gw ks ru.1) (cX g ru.1 n):=by
 refine⟨λb o nb e=>by rw [ai nb];exact h.sm b o nb e,ae,iD h.keys ru.1,uN ru.1 h.nd,λx hx=>?_,λz=>?_⟩
 .rcases (jF ks ru.1 x).mp hx with z | z
  .exact h.sub x z
  rw [z];exact dO _ (gW hr)
 rw [o7];unfold cX;by_cases c:z=ru.1
 .rw [ax c,ax (by rw [c])];rfl
 rw [ay c,ay (λe=>c (jm e)),h.val]
def rE (F:ik K "settled_sizes" "settled_sizes" lU f fd)(T:Txt mg){q:Str}{params:Arguments}{body:Expr}{scope:Scope}{bt:Int->Int->Bool}{te:TE}(S:aN ["size","known"] ["size","known"] scope)
  (mh:∀(pm fQ:Value)(c':Addr)(us:List Value),us.length=(["size","known"]:List Str).length->bindArgs (PySem.W.kla_fn "<lambda>" q params body scope [] pm (.ref c') fQ) ⟨us,[]⟩=pure ((["size","known"]:List Str).zip us))
  (iH:∀(f c':Addr)(A:Around)(outer:List Env)(s:Shared)(H:Hp),PE (nF fS P w K mg base ["size","known"] q scope f (.ref c') A outer s H λ_ _ _=>False) body te)
  (Mb:∀a b H Q,Q (.bl (bt a b)) H->te [some (.int a),some (.int b)] H Q):bN P w K mg base fS 2 f fd ["rules","sizes","better"] (gX K q params body scope bt):=by
 refine F.ok gY (λvs H Q E h=>?_) (λd0 A outer s H vs Q E hr h=>?_)
 .obtain⟨R,rs,aa,d,fl,c',pm,fQ,kvs,ks,g,rfl,_⟩:=h;rfl
 obtain⟨R,rs,aa,d,fl,c',pm,fQ,kvs,ks,g,rfl,hR,cS,bq,h8,hd,hk,N9,hkl,hv,⟨n0,N_⟩,C2,kN,qq⟩:=h;have hu:=gp hr;refine⟨_,ak (aB (i:=3) gY.nd rfl (ba rfl) eX)
  (ak (jz b_ (dY (pv 3))
   (ak (aB (i:=3) gY.nd rfl (ba rfl) eX)
   (ao (bL b_ rfl (aS (pv 0)) (fA rfl (aA (aq (i:=4) gY.nd rfl (ba rfl)) (aA (aq (i:=5) gY.nd rfl (ba rfl)) bF)))
    (ao (b8 (dY (aL (dW rfl) rfl T.all boot_all (ab (aT ["part"] [(1,"sizes")] rfl (d_ (pv 5)) (aV rfl rfl) nofun rfl nofun
       (λ_ _ _ _ _=>aq (i:=0) (show (["part","sizes"]:List Str).Nodup by decide +kernel) rfl (ba rfl)) (λ_ _ _ _ _=>bw) (λ_ _ _ _ _=>xA (kr hu (pv 0) (pv 1)))) aj)))
     (ak (aB (i:=6) gY.nd rfl (ba rfl) (aM dH ar (aL (jP rfl) rfl T.sum sY (ab (aT ["part"] [(1,"sizes")] rfl (d_ (pv 5)) (aV rfl rfl) nofun rfl nofun
       (λ_ _ _ _ _=>aq (i:=0) (show (["part","sizes"]:List Str).Nodup by decide +kernel) rfl (ba rfl)) (λ_ _ _ _ _=>bw) (λ_ _ _ _ _=>eK hu (pv 1) (pv 0) (λ_ _=>rfl))) aj))))
     (ao (b8 (PW.pt (nO (fw (dU hu (pv 4) (pv 1))) (pG (dY (xB (i:=2) (k:=0) rfl rfl S hr mh iH (ab (pv 6) (ab (eK hu (pv 1) (pv 4) (λ_ _=>rfl)) aj)))))))
      (ak (gy hu (pv 1) (pv 4) (pv 6) rfl) (ao (aB (i:=3) gY.nd rfl (ba rfl) eX))) aY))) aY))))))
  (ao (bu (pv 1)))),?_⟩
 nofun
 have ll:=bB cS;have S0:Ba K aa ks H H d kvs ks g:=⟨λ_ _ _ e=>e,hd,hk,N9,λx hx=>eV _ hx,hv⟩;refine⟨λm σ H5=>∃(eP:List (aK×V)) (N5:List Str)(g2:G)(ch:Bool)(y4 y5 y6:Option V),σ=[aI R,aI d,aI fl,some (.bl ch),y4,y5,y6]/\Ba K aa ks H H5 d eP N5 g2/\de bt aa g g2 /\
  ((ch=true/\∃n,m=n+1/\nI bt aa n g2)\/(ch=false/\gS bt aa g2)),⟨n0+1,kvs,ks,g,true,none,none,none,rfl,S0,.refl,.inl ⟨rfl,n0,rfl,N_⟩⟩,?_⟩
 rintro m σ H5 ⟨eP,N5,g2,ch,y4,y5,y6,rfl,S2,DR,cs⟩;refine⟨_,rfl,ch,rfl,?_⟩;refine cu (λc=>?_) (λc=>?_)
 .rcases cs with ⟨_,n,em,en⟩ | ⟨c',_⟩
  case inr=>rw [c'] at c;cases c
  refine⟨λσ H6=>∃(kF:List (aK×V)) (A3:List Str)(g3:G)(v_:Bool)(y4 y5 y6:Option V),σ=[aI R,aI d,aI fl,some (.bl v_),y4,y5,y6]/\Ba K aa ks H H6 d kF A3 g3/\(g3,v_)=qE bt aa g2,?_,?_⟩
  .rintro σ H6 ⟨kF,A3,g3,v_,y4,y5,y6,rfl,S3,e3⟩;have RN:g3=(qE bt aa g2).1:=congrArg Prod.fst e3;have Jp:v_=(qE bt aa g2).2:=congrArg Prod.snd e3;have K3:de bt aa g g3:=by
    rw [RN];exact DR.trans (pV bt aa aa (g2,false) λ_ h=>h)
   cases h3:v_ with
   | false =>
    rw [h3] at Jp;obtain⟨f1,f2⟩:=pX bt aa (g2,false) Jp.symm;refine⟨0,∅,kF,A3,g3,false,_,_,_,rfl,S3,K3,.inr ⟨rfl,?_⟩⟩;have e33:g3=g2:=RN.trans f1;rw [e33];exact f2
   | true =>
    rw [h3] at Jp;cases n with
    | zero=>rw [show (qE bt aa g2).2=false from en] at Jp;cases Jp
    | succ n' =>
     rcases en with en | en
     .rw [en] at Jp;cases Jp
     exact⟨n'+1,∅,kF,A3,g3,true,_,_,_,rfl,S3,K3,.inl ⟨rfl,n',rfl,by rw [RN];exact en⟩⟩
  refine⟨_,rfl,R,rfl,⟨_,S2.sm.seq hd hR⟩,?_⟩;refine cf (xs:=rs.map V.ref) (λi σ H6=>∃(kF:List (aK×V)) (A3:List Str)(g3:G)(v_:Bool)(y4 y5 y6:Option V),σ=[aI R,aI d,aI fl,some (.bl v_),y4,y5,y6]/\Ba K aa ks H H6 d kF A3 g3/\(g3,v_)=(aa.take i).foldl (sstep bt) (g2,false))
   ⟨eP,N5,g2,false,_,_,_,rfl,S2,rfl⟩ ?_ ?_ ?_
  .rintro i σ H6 _ ⟨kF,A3,g3,v_,y4,y5,y6,rfl,S3,_⟩;exact S3.sm.seq hd hR
  .rintro i x σ H6 ex ⟨kF,A3,g3,v_,y4,y5,y6,rfl,S3,e3⟩;rw [bo] at ex;obtain⟨r,er,rfl⟩:=b9.mp ex;obtain⟨ru,e1,p,v1,v2⟩:=cS.get er;have nr:=cy e1;have Kd:=h8 ru nr;have fo:(aa.take (i+1)).foldl (sstep bt) (g2,false)=sstep bt (g3,v_) ru:=by
    rw [cI,e1,sM,<-e3];rfl
   rw [fo];have OV:=S3.sm.tup hd v2;refine⟨r,_,rfl,S3.sm.tup hd v1,rfl,_,_,rfl,_,_,rfl,rfl,?_⟩;refine⟨_,rfl,p,rfl,⟨_,OV⟩,λD2 jb=>rX rfl OV ∅ S3.hd jb λH7 Tb Y9=>?_⟩;have S4:=S3.same Tb;have v4:=Tb.tup OV;have eb:(ru.2.map λz=>(a_ kF (Sum.inr z)).isSome).all id=ja g3 ru:=by
    unfold ja;rw [List.all_map];refine List.all_congr rfl λz=>?_;show (a_ kF (Sum.inr z)).isSome=_;rw [S3.val,oJ]
   refine⟨D2,_,rfl,aH.of Y9,_,rfl,?_⟩;rw [eb];refine cu (λc4=>?_) (λc4=>?_)
   .have al:∀z∈ru.2,(g3 z).isSome=true:=λz hz=>d5.mp c4 z hz;refine⟨_,rfl,p,rfl,⟨_,v4⟩,λD3 I8=>AJ (g:=g3) rfl v4 ∅ S4.hd S4.val al I8 λH8 JK MA=>?_⟩;have S5:=S4.same JK;have esz:1+(ru.2.map λz=>(g3 z).getD 0).sum=aD g3 ru:=rfl;refine⟨D3,_,rfl,aH.of MA,_,_,rfl,rfl,?_⟩;have mem:(a_ kF (Sum.inr ru.1)).isSome=(g3 ru.1).isSome:=by rw [S5.val,oJ]
    have ZQ:=S5.sm fl _ (λz=>by rw [z,hd] at C2;cases C2) C2;have c5':=S5.sm c' _ (λz=>by rw [z,hd] at kN;cases kN) kN;have l5:=S5.len;refine⟨_,rfl,_,rfl,d,_,rfl,cq.k (k:=Sum.inr ru.1) S5.hd,_,rfl,?_⟩;refine cu (λc5=>?_) (λc5=>?_)
    .have fr:cx bt g3 ru=true:=by
      unfold cx;rw [<-mem,c4,c5];rfl
     refine⟨_,rfl,_,rfl,_,rfl,d,_,rfl,kU.k (k:=Sum.inr ru.1) S5.hd (bf ∅),?_⟩;exact⟨_,_,cX g3 ru.1 (aD g3 ru),true,_,_,_,rfl,S5.put nr (aD g3 ru),(ax fr).symm⟩
    have X_:(g3 ru.1).isSome=true:=by
     rw [mem] at c5;cases hq:(g3 ru.1).isSome with
     | true=>rfl
     | false=>rw [hq] at c5;exact absurd rfl c5
    obtain⟨k,ek⟩:=lC.mp X_;have hg:cq H8 d (.str ru.1) (some (.int k)):=by
     have:=cq.k (k:=Sum.inr ru.1) S5.hd;rw [S5.val,ek] at this;exact this
    refine⟨fl,pm,c',fQ,rfl,_,rfl,_,rfl,_,rfl,d,_,rfl,hg,ZQ,c5',rfl,Mb (aD g3 ru) k _ _ ⟨_,rfl,?_⟩⟩;refine cu (λc6=>?_) (λc6=>?_)
    .have fr:cx bt g3 ru=true:=by
      unfold cx;rw [c4,ek];show (true && (false || bt (aD g3 ru) k))=true
      rw [c6];rfl
     refine⟨_,rfl,_,rfl,_,rfl,d,_,rfl,kU.k (k:=Sum.inr ru.1) S5.hd (bf ∅),?_⟩;exact⟨_,_,cX g3 ru.1 (aD g3 ru),true,_,_,_,rfl,S5.put nr (aD g3 ru),(ax fr).symm⟩
    have fr:¬cx bt g3 ru=true:=by
     unfold cx;rw [c4,ek];show ¬(true && (false || bt (aD g3 ru) k))=true
     rw [oU.mpr c6];exact nofun
    exact⟨kF,A3,g3,v_,_,_,_,rfl,S5,(ay fr).symm⟩
   have e5:sstep bt (g3,v_) ru=(g3,v_):=ay (λz=>c4 (by unfold cx at z;exact(ir.mp z).1));exact⟨kF,A3,g3,v_,_,_,_,rfl,S4,e5.symm⟩
  rintro σ H6 ⟨kF,A3,g3,v_,y4,y5,y6,rfl,S3,e3⟩;rw [av,ll,cC] at e3;exact⟨kF,A3,g3,v_,_,_,_,rfl,S3,e3⟩
 rcases cs with ⟨c',_⟩ | ⟨_,se⟩
 .rw [c'] at c;exact absurd rfl c
 exact⟨_,rfl,qq eP N5 g2 H5 S2.sm S2.hd S2.keys S2.val DR se (by have:=S2.len;omega)⟩
end
end gT
namespace M11
open PySem L2
theorem fold_lt {bt:Int->Int->Bool}{aa:List au}{J:G->Prop}{r:G->G->Prop}(tr:∀a b c,r a b->r b c->r a c)
  (wA:∀g ru,J g->ru∈aa->cx bt g ru=true->J (cX g ru.1 (aD g ru))/\r (cX g ru.1 (aD g ru)) g) :
  ∀(l:List au)(a:G×Bool),(∀ru∈l,ru∈aa)->J a.1->J (l.foldl (sstep bt) a).1/\(l.foldl (sstep bt) a=a\/r (l.foldl (sstep bt) a).1 a.1)
 | [],a,_,j=>⟨j,.inl rfl⟩
 | ru::l,a,h,j=>by
  by_cases c:cx bt a.1 ru=true
  .have e:sstep bt a ru=(cX a.1 ru.1 (aD a.1 ru),true):=ax c;obtain⟨j1,r1⟩:=wA a.1 ru j (h ru b0) c;obtain⟨j2,r2⟩:=fold_lt tr wA l (cX a.1 ru.1 (aD a.1 ru),true) (λx hx=>h x (cz _ hx)) j1;rw [List.foldl_cons,e];refine⟨j2,.inr ?_⟩;rcases r2 with r2 | r2
   .rw [r2];exact r1
   exact tr _ _ _ r2 r1
  have e:sstep bt a ru=a:=ay c;rw [List.foldl_cons,e];exact fold_lt tr wA l a (λx hx=>h x (cz _ hx)) j
def vT {bt:Int->Int->Bool}{aa:List au}{J:G->Prop}{r:G->G->Prop}(tr:∀a b c,r a b->r b c->r a c)
  (wA:∀g ru,J g->ru∈aa->cx bt g ru=true->J (cX g ru.1 (aD g ru))/\r (cX g ru.1 (aD g ru)) g){g:G}(h:Acc r g)(j:J g):∃n,nI bt aa n g:=by
 induction h with
 | intro g _ ih =>
  cases c:(qE bt aa g).2 with
  | false=>exact⟨0,c⟩
  | true =>
   obtain⟨j2,r2⟩:=fold_lt tr wA aa (g,false) (λ_ h=>h) j;have r3:r (qE bt aa g).1 g:=by
    rcases r2 with r2 | r2
    .have e:(qE bt aa g)=(g,false):=r2;rw [e] at c;cases c
    exact r2
   obtain⟨n,hn⟩:=ih _ r3 j2;exact⟨n+1,.inr hn⟩
def de.keep {bt:Int->Int->Bool}{aa:List au}{J:G->Prop}(wA:∀g ru,J g->ru∈aa->cx bt g ru=true->J (cX g ru.1 (aD g ru))){g g':G}(h:de bt aa g g')(j:J g):J g':=by
 induction h with
 | refl=>exact j
 | step _ a b ih=>exact wA _ _ ih a b
def d8 (f:Str->Nat) (hs:List Str):Nat:=(hs.map f).sum
theorem u9 {f k:Str->Nat}:∀{hs:List Str},(∀x∈hs,f x<=k x)->d8 f hs<=d8 k hs
 | [],_=>aG _
 | h::r,q=>by
  have h1:=q h b0;have h2:=u9 (hs:=r) λx hx=>q x (cz _ hx);show f h+d8 f r<=k h+d8 k r;omega
theorem lK {f k:Str->Nat}:∀{hs:List Str}{h:Str},(∀x∈hs,f x<=k x)->h∈hs->f h < k h->d8 f hs < d8 k hs
 | a::r,h,q,m,l=>by
  have h1:=q a b0;have h2:∀x∈r,f x<=k x:=λx hx=>q x (cz _ hx);show f a+d8 f r < k a+d8 k r;rcases bM.mp m with z | z
  .have:=u9 h2;rw [z] at l;omega
  have:=lK h2 z l;omega
theorem iO (g:G)(J:∀z n,g z=some n->(0:Int)<=n):∀ps:List Str,0<=(ps.map λp=>(g p).getD 0).sum
 | []=>by simp
 | p::r=>by
  have h1:=iO g J r;have h2:0<=(g p).getD 0:=by
   cases e:g p with
   | none=>exact i0 _
   | some n=>exact J p n e
  rw [bZ,jf];omega
def NN (g:G):Prop:=∀z n,g z=some n->(0:Int)<=n
def ui {g:G}(j:NN g)(ru:au):NN (cX g ru.1 (aD g ru)):=λz n e=>by
 unfold cX at e;by_cases c:z=ru.1
 .rw [ax c] at e;cases e;have:=iO g j ru.2;unfold aD;omega
 rw [ay c] at e;exact j z n e
def bl (a b:Int):Bool:=decide (a < b)
def bg (a b:Int):Bool:=decide (a > b)
def xS (hs:List Str)(g' g:G):Prop :=
 d8 (λh=>if (g' h).isSome then 0 else 1) hs < d8 (λh=>if (g h).isSome then 0 else 1) hs \/
 (d8 (λh=>if (g' h).isSome then 0 else 1) hs=d8 (λh=>if (g h).isSome then 0 else 1) hs/\d8 (λh=>((g' h).getD 0).toNat) hs < d8 (λh=>((g h).getD 0).toNat) hs)
def Fb (hs:List Str)(g:G):Acc (xS hs) g:=by
 have wf:=(Prod.lex (β:=Nat) (α:=Nat) ⟨(· < ·),Nat.lt_wfRel.wf⟩ ⟨(· < ·),Nat.lt_wfRel.wf⟩).wf;have key:∀p:Nat×Nat,∀g:G,(d8 (λh=>if (g h).isSome then 0 else 1) hs,d8 (λh=>((g h).getD 0).toNat) hs)=p->Acc (xS hs) g:=λp=>by
  induction p using wf.induction with
  | _ p ih =>
   intro g e;refine⟨g,λg' r=>ih _ ?_ g' rfl⟩;rw [<-e];rcases r with r | ⟨r1,r2⟩
   .exact Prod.Lex.left _ _ r
   show Prod.Lex _ _ (d8 (λh=>if (g' h).isSome then 0 else 1) hs,_) _;rw [r1];exact Prod.Lex.right _ r2
 exact key _ g rfl
def Ir (hs:List Str)(a b c:G)(h:xS hs a b)(k:xS hs b c):xS hs a c:=by
 unfold xS at *;omega
def CL {aa:List au}(g:G)(ru:au)(j:NN g)(m:ru∈aa)(f:cx bl g ru=true):NN (cX g ru.1 (aD g ru))/\xS (aa.map (·.1)) (cX g ru.1 (aD g ru)) g:=by
 refine⟨ui j ru,?_⟩;have hm:ru.1∈aa.map (·.1):=gW m;have nn:=ui j ru;have AQ:cX g ru.1 (aD g ru) ru.1=some (aD g ru):=ax rfl;have ne:∀z,z≠ru.1->cX g ru.1 (aD g ru) z=g z:=λz n=>ay n;unfold cx at f;have f2:=(ir.mp f).2;cases e:g ru.1 with
 | none =>
  refine .inl (lK (λx _=>?_) hm ?_)
  .by_cases c:x=ru.1
   .show (if (cX g ru.1 (aD g ru) x).isSome then 0 else 1)<=_;rw [c,AQ];exact gN _
   show (if (cX g ru.1 (aD g ru) x).isSome then 0 else 1)<=_;rw [ne x c];exact aG _
  show (if (cX g ru.1 (aD g ru) ru.1).isSome then 0 else 1) < (if (g ru.1).isSome then 0 else 1);rw [AQ,e];show 0 < 1;exact Nat.one_pos
 | some k =>
  rw [e] at f2;have lt:aD g ru < k:=dA (by simpa [bl] using f2);have h0:=nn ru.1 _ AQ;refine .inr ⟨?_,lK (λx _=>?_) hm ?_⟩
  .unfold d8
   congr 1
   refine List.map_congr_left λx _=>?_;by_cases c:x=ru.1
   .show (if (cX g ru.1 (aD g ru) x).isSome then 0 else 1)=(if (g x).isSome then 0 else 1);rw [c,AQ,e];rfl
   show (if (cX g ru.1 (aD g ru) x).isSome then 0 else 1)=(if (g x).isSome then 0 else 1);rw [ne x c]
  .by_cases c:x=ru.1
   .show ((cX g ru.1 (aD g ru) x).getD 0).toNat<=((g x).getD 0).toNat;rw [c,AQ,e];show (aD g ru).toNat<=k.toNat;omega
   show ((cX g ru.1 (aD g ru) x).getD 0).toNat<=((g x).getD 0).toNat;rw [ne x c];exact aG _
  show ((cX g ru.1 (aD g ru) ru.1).getD 0).toNat < ((g ru.1).getD 0).toNat;rw [AQ,e];show (aD g ru).toNat < k.toNat;omega
def xT (aa:List au)(g:G)(j:NN g):∃n,nI bl aa n g:=vT (Ir (aa.map (·.1))) (λg ru=>CL g ru) (Fb _ g) j
inductive Em (aa:List au):Str->Prop
 | mk {ru:au}:ru∈aa->(∀p∈ru.2,Em aa p)->Em aa ru.1
def qx (aa:List au)(b:Str->Int):Prop:=(∀z,0<=b z)/\∀ru∈aa,(∀p∈ru.2,Em aa p)->1+(ru.2.map b).sum<=b ru.1
def GJ (aa:List au)(b:Str->Int)(g:G):Prop:=∀z n,g z=some n->0<=n/\n<=b z/\Em aa z
theorem yG {aa:List au}{b:Str->Int}{g:G}(j:GJ aa b g)(hb:∀z,0<=b z):∀ps:List Str,(ps.map λp=>(g p).getD 0).sum<=(ps.map b).sum
 | []=>by simp
 | p::r=>by
  have h1:=yG j hb r;have h2:(g p).getD 0<=b p:=by
   cases e:g p with
   | none=>exact hb p
   | some n=>exact(j p n e).2.1
  rw [bZ,jf,bZ,jf];omega
def gm (b:Str->Int)(g:G)(h:Str):Nat:=if (g h).isSome then (b h - (g h).getD 0).toNat else (b h).toNat+1
def pS {aa:List au}{b:Str->Int}(B:qx aa b)(g:G)(ru:au)(j:GJ aa b g)(m:ru∈aa)(f:cx bg g ru=true) :
  GJ aa b (cX g ru.1 (aD g ru))/\d8 (gm b (cX g ru.1 (aD g ru))) (aa.map (·.1)) < d8 (gm b g) (aa.map (·.1)):=by
 have hm:ru.1∈aa.map (·.1):=gW m;have AQ:cX g ru.1 (aD g ru) ru.1=some (aD g ru):=ax rfl;have ne:∀z,z≠ru.1->cX g ru.1 (aD g ru) z=g z:=λz n=>ay n;unfold cx at f;obtain⟨f1,f2⟩:=ir.mp f;have em:∀p∈ru.2,Em aa p:=λp hp=>by
  obtain⟨n,en⟩:=lC.mp (d5.mp f1 p hp);exact(j p n en).2.2
 have bd:=B.2 ru m em;have sb:=yG j B.1 ru.2;have s0:=iO g (λz n e=>(j z n e).1) ru.2;have sz:0<=aD g ru/\aD g ru<=b ru.1:=by unfold aD;omega
 refine⟨λz n e=>?_,lK (λx _=>?_) hm ?_⟩
 .by_cases c:z=ru.1
  .rw [c,AQ] at e;cases e;rw [c];exact⟨sz.1,sz.2,.mk m em⟩
  rw [ne z c] at e;exact j z n e
 .by_cases c:x=ru.1
  .rw [c];unfold gm;rw [AQ];show (b ru.1 - aD g ru).toNat<=_;cases e:g ru.1 with
   | none=>show _<=(b ru.1).toNat+1;omega
   | some k =>
    rw [e] at f2;have lt:aD g ru > k:=dA (by simpa [bg] using f2);show _<=(b ru.1 - k).toNat;omega
  unfold gm;rw [ne x c];exact aG _
 unfold gm;rw [AQ];show (b ru.1 - aD g ru).toNat < _;cases e:g ru.1 with
 | none=>show _ < (b ru.1).toNat+1;omega
 | some k =>
  rw [e] at f2;have lt:aD g ru > k:=dA (by simpa [bg] using f2);show _ < (b ru.1 - k).toNat;omega
def x8 {aa:List au}{b:Str->Int}(B:qx aa b)(g:G)(j:GJ aa b g):∃n,nI bg aa n g :=
 vT (r:=λg' g=>d8 (gm b g') (aa.map (·.1)) < d8 (gm b g) (aa.map (·.1))) (λ_ _ _ h k=>jo h k) (pS B) ((InvImage.wf (λg:G=>d8 (gm b g) (aa.map λx:au=>x.1)) Nat.lt_wfRel.wf).apply g) j
def vO {aa:List au}{b:Str->Int}(B:qx aa b){g g':G}(h:de bg aa g g')(j:GJ aa b g):GJ aa b g':=h.keep (λg ru a m f=>(pS B g ru a m f).1) j
end M11
namespace L2
open PySem
def vY {K:a8}{H:Hp}{p D:Addr}{zs:List Str}{σ:St}{v:V}{x:Str}{Qp:Hp->Prop}(hp:aH K H p (zs.map V.str))(hz:zs.length<=10000)(hD:H D=none)
  (q:∀ts H2,aC H H2->H2 D=some (.lst (ts.map V.ref))->Paired (λt h=>aZ K H2 t [.str h,v]) ts zs->Qp H2) :
  ∃W:Nat->Nat->List V->St->Hp->Prop,(∃m,W 0 m [] (df [x] [] σ) (upd H D (.lst []))) /\
 ∀i m ys σ' H,W i m ys σ' H->((iL K p).stop i H/\Qp H)\/((iL K p).go i H/\∃m',m' < m/\∀x H',(iL K p).ka i H x H'->cU 0 x σ' H' λσ2 H2=>gh σ2 H2 λb H3 =>
  if b=true then qD (fV (fO 0) (fV (tC v) o8)) σ2 H3 λy H4=>H4 D=some (.lst ys)/\ys.length < sizeLine/\W (i+1) m' (ys++[y]) σ2 (upd H4 D (.lst (ys++[y]))) else W (i+1) m' ys σ2 H3):=by
 refine cg (xs:=zs.map V.str) (λi ys σ2 H2=>∃ts:List Addr,ys=ts.map V.ref/\ts.length=i/\Paired (λt h=>aZ K H2 t [.str h,v]) ts (zs.take i)/\(∃y0,σ2=[y0])/\aC H H2/\H2 D=some (.lst ys))
  ⟨[],rfl,rfl,.nil,⟨none,rfl⟩,af hD _,ae⟩ (λi ys σ2 H2 _ h=>?_) (λi x ys σ2 H2 ex h=>?_) (λys σ2 H2 h=>?_)
 .obtain⟨_,_,_,_,_,sm,_⟩:=h;exact sm.seq hp
 .obtain⟨ts,rfl,ht,iX,⟨y0,rfl⟩,sm,hd⟩:=h;rw [bo] at ex;obtain⟨z,ez,rfl⟩:=b9.mp ex;have li:=(bc.mp ez).1;refine goN (uV ?_);refine⟨_,rfl,kW,λt i9=>⟨?_,bf (by rw [av];omega),ts++[t],?_,?_,?_,⟨_,rfl⟩,?_,ae⟩⟩
  .rw [ai (aw hd i9)];exact hd
  .rw [bC];rfl
  .rw [bO,ht];rfl
  .rw [cI,ez];have ig:upd H2 t (.tup [.str z,v]) D=some (.lst (ts.map V.ref)):=by rw [ai (aw hd i9)];exact hd
   exact f_ (Paired.fj iX λt' h' z=>aX ig ((af i9 _).tup z)) (aX ig (aZ.of ae))
  intro b o hb;rw [ai (λz=>by rw [z,hD] at hb;cases hb)];exact af i9 _ _ _ (sm b o hb)
 obtain⟨ts,rfl,ht,iX,_,sm,hd⟩:=h;rw [av,cC] at iX;exact q ts H2 sm hd iX
def Tab.same {T:Addr}{pos:Pos}{qual:Str}{H H':Hp}(h:Tab T pos qual H)(s:aC H H'):Tab T pos qual H':=by
 obtain⟨ps,a,b,c⟩:=h;refine⟨ps,s _ _ a,b,c.imp id ?_⟩;rintro⟨c',e,g⟩;exact⟨c',e,s _ _ g⟩
def Tab.FY {T d:Addr}{pos:Pos}{qual:Str}{H H':Hp}{kvs:List (aK×V)}(h:Tab T pos qual H)(s:fq d H H')(hd:H d=some (.dK kvs)):Tab T pos qual H':=by
 obtain⟨ps,a,b,c⟩:=h;refine⟨ps,s _ _ (λz=>by rw [z,hd] at a;cases a) a,b,c.imp id ?_⟩;rintro⟨c',e,g⟩;exact⟨c',e,s _ _ (λz=>by rw [z,hd] at g;cases g) g⟩
structure wm (K:a8)(x qual:Str)(st:Stmt)(f:Addr)(fd:FuncData)(T:Addr):Prop where
 ex:∃(oc:Value)(od:Option Addr)(kV doc pm:Value)(an:Option Addr)(c:Addr)(ct:Value)(vv:Array (Option Value)),
  fd=PySem.W.fnOf x qual (cW st) (bV st) (az st) .none kV doc pm an (.ref c) ct/\K.lookup f=some ⟨oc,od,.func fd,vv⟩/\PySem.W.codeIn K (.ref c) qual=true/\PySem.W.codeHdIn K c T=true
 kp:PySem.W.keepIn K (.ref f)=true
def wm.ok {P:Program}{w:World}{K:a8}{mg:Str->Option Value}{base:Heap}{x qual:Str}{st:Stmt}{f:Addr}{fd:FuncData}{T:Addr}{N ps:List Str}{k:Nat}{sp:Sp}(F:wm K x qual st f fd T)(S:aN N ps (az st))(len:∀vs H Q E,sp vs H Q E->vs.length=ps.length)
  (iH:∀(c:Addr)(A:Around)(outer:List Env)(s:Shared)(H:Hp)(vs:List V)(Q:VK)(E:XK),PySem.W.codeHdIn K c T=true->eI k (A.deeper (PyProof.Rows.envOfC qual (az st) s.heap.objs.size f (.ref c)))->sp vs H Q E ->
   ∃t,yp (nF fS P w K mg base N qual (az st) f (.ref c) A outer s H E).Ad (bV st) t/\t { nx:=λ_ H'=>Q .fJ H',rt:=Q } (start N vs) H):bN P w K mg base fS (k+1) f fd ps sp:=by
 obtain⟨oc,od,kV,doc,pm,an,c,ct,vv,rfl,lk,uA,hC⟩:=F.ex;refine Dc lk uA S len λA outer s H vs Q E hr wB=>?_;obtain⟨t,h,q⟩:=iH c A outer s H vs Q E hC hr wB;exact⟨t,h.Ad,q⟩
theorem rG {v:V}:∀(hs:List Str)(bI:List (aK×V)) (as:List Str),bI.map (·.1)=as.map Sum.inr->(cN (hs.map λh=>((Sum.inr h:aK),v)) bI).map (·.1)=(M11.uI as hs).map Sum.inr
 | [],bI,as,e=>e
 | h::r,bI,as,e=>rG r (bH bI (Sum.inr h) v) (M11.gw as h) (gT.iD e h)
theorem o6 {v:V}:∀(hs:List Str)(bI:List (aK×V))(z:Str),a_ (cN (hs.map λh=>((Sum.inr h:aK),v)) bI) (Sum.inr z)=if z∈hs then some v else a_ bI (Sum.inr z)
 | [],bI,z=>by simp [cN]
 | h::r,bI,z=>by
  have ih:=o6 (v:=v) r (bH bI (Sum.inr h) v) z;show a_ (cN (r.map λh=>((Sum.inr h:aK),v)) (bH bI (Sum.inr h) v)) (Sum.inr z)=_;rw [ih,o7];by_cases c:z∈r
  .rw [ax c,ax (cz _ c)]
  rw [ay c];by_cases c2:z=h
  .rw [ax (by rw [c2]),ax (by rw [c2];exact b0)]
  rw [ay (λe=>c2 (jm e)),ay (λe=>(bM.mp e).elim c2 c)]
end L2
namespace gT
open PySem L2 M11
def LH:List Stmt->Arguments×Expr×Scope×Pos
 | [.Return (some (.Call _ [_,_,.Lambda p b s pos] _ _)) _]=>(p,b,s,pos)
 | _=>(⟨[],[],none,[],[],none,[]⟩,.Constant .none 0 ⟨0,0,0,0⟩,az pC,⟨0,0,0,0⟩)
abbrev pL:=LH (bV pC)
abbrev xR:=LH (bV tY)
abbrev wz:Str := "least_sizes" ++ ".<locals>." ++ "<lambda>"
abbrev Ge:Str := "greatest_empty_sizes" ++ ".<locals>." ++ "<lambda>"
def Ho:aN ["size","known"] ["size","known"] pL.2.2.1:=iY rfl rfl rfl rfl nofun
def Hq:aN ["size","known"] ["size","known"] xR.2.2.1:=iY rfl rfl rfl rfl nofun
section
def xE (F:ik K "settled_sizes" "settled_sizes" lU f fd)(T:Txt mg):bN P w K mg base fS 2 f fd ["rules","sizes","better"] (gX K wz pL.1 pL.2.1 pL.2.2.1 M11.bl) :=
 rE F T Ho (λpm fQ c' us hl=>match us,hl with | [_,_],_=>rfl) (λ_ _ _ _ _ _=>dF nQ (pv 0) (pv 1) (cw _)) (λa b H Q h=>⟨_,rfl,_,rfl,_,_,rfl,rfl,h⟩)
def xF (F:ik K "settled_sizes" "settled_sizes" lU f fd)(T:Txt mg):bN P w K mg base fS 2 f fd ["rules","sizes","better"] (gX K Ge xR.1 xR.2.1 xR.2.2.1 M11.bg) :=
 rE F T Hq (λpm fQ c' us hl=>match us,hl with | [_,_],_=>rfl) (λ_ _ _ _ _ _=>dF Ci (pv 0) (pv 1) (cw _)) (λa b H Q h=>⟨_,rfl,_,rfl,_,_,rfl,rfl,h⟩)
def uB (aa:List au):G:=λz=>if z∈qz (hd aa) [] (aa.flatMap (·.2)) then some 0 else none
def ou (K:a8)(T1:Addr):Sp:=λvs H Q _=>∃(R:Addr)(rs:List Addr)(aa:List au),vs=[.ref R]/\aH K H R (rs.map V.ref)/\bE K H rs aa/\aa.length<=1000/\(∀ru∈aa,ru.2.length<=8)/\Tab T1 pL.2.2.2 wz H /\
 ∀(d:Addr)(kvs:List (aK×V)) (ks:List Str)(g:G)(H':Hp),H d=none->fq T1 H H'->Tab T1 pL.2.2.2 wz H'->H' d=some (.dK kvs)->kvs.map (·.1)=ks.map Sum.inr->(∀z,a_ kvs (Sum.inr z)=(g z).map V.int)->de M11.bl aa (uB aa) g->gS M11.bl aa g->kvs.length<=20000->Q (.ref d) H'
def EB:aN ["rules"] ["rules"] (az pC):=iY rfl rfl rfl rfl nofun
def Cs {T1:Addr}(F:wm K "least_sizes" "least_sizes" pC f fd T1)(T:Txt mg)(hB:qy mg base)(GW:aF P w K mg base 1 "words_in" ["rules"] (yK K))
  (GS:aF P w K mg base 2 "settled_sizes" ["rules","sizes","better"] (gX K wz pL.1 pL.2.1 pL.2.2.1 M11.bl)):bN P w K mg base fS 3 f fd ["rules"] (ou K T1):=by
 refine F.ok EB (λvs H Q E h=>?_) (λc A outer s H vs Q E hC hr h=>?_)
 .obtain⟨R,rs,aa,rfl,_⟩:=h;rfl
 obtain⟨R,rs,aa,rfl,hR,cS,bq,h8,hT,q⟩:=h;refine⟨_,ao (bu (bp GS hr rfl (ab (pv 0) (ab (a0 (dM rfl) rfl T.zC fk (ab
  (aT ["word"] [] rfl (aS (bp (GW.mono (by decide:1<=2)) hr rfl (ab (pv 0) aj))) (aV rfl rfl) nofun rfl nofun
   (λ_ _ _ _ _=>aq (i:=0) (show (["word"]:List Str).Nodup by decide +kernel) rfl (ba rfl)) (λ_ _ _ _ _=>bw)
   (λ_ _ _ _ _=>bD (ab (pv 0) (ab ar aj)))) aj)) (ab (Ca (T:=T1) rfl hC hB nofun) aj))))),?_⟩
 dsimp only [Dn];refine⟨_,rfl,_,rfl,R,rs,aa,rfl,hR,cS,bq,h8,λD1 H1 f1 s1 e1=>?_⟩;have lw:(qz (hd aa) [] (aa.flatMap (·.2))).length<=8000:=by
  have h1:=tF (hd aa) (aa.flatMap (·.2)) [];have h2:=iJ aa 1000 bq h8;simp only [jh] at h1;omega
 refine⟨D1,rfl,⟨_,aH.of e1⟩,λD2 jb=>vY (aH.of e1) ∅ jb λts H2 s2 e2 p2=>?_⟩;have kp:Paired (λt (kv:aK×V)=>aZ K H2 t [kV kv.1,kv.2]) ts ((qz (hd aa) [] (aa.flatMap (·.2))).map λh=>((Sum.inr h:aK),V.int 0)):=cE p2 λ_ _ z=>z;refine⟨D2,ts,_,rfl,e2,kp,λd hd2=>?_⟩;have k1:=rG (v:=.int 0) (qz (hd aa) [] (aa.flatMap (·.2))) [] [] rfl;have k2:∀z,a_ (cN ((qz (hd aa) [] (aa.flatMap (·.2))).map λh=>((Sum.inr h:aK),V.int 0)) []) (Sum.inr z)=(uB aa z).map V.int:=λz=>by
  rw [o6];unfold uB
  split <;> rfl
 have lk:=h_ (qz (hd aa) [] (aa.flatMap (·.2))) [];simp only [jh] at lk;generalize cN ((qz (hd aa) [] (aa.flatMap (·.2))).map λh=>((Sum.inr h:aK),V.int 0)) []=LN at k1 k2;have s3:=(s1.trans s2).trans (af hd2 (.dK LN));have e3:upd H2 d (.dK LN) d=some (.dK LN):=ae;have wG:H d=none:=(s1.trans s2).free hd2;generalize upd H2 d (.dK LN)=H3 at s3 e3;refine⟨hT.same s3,λfl c' fQ H4 s4 t4 ZR e4 Rx=>?_⟩;have nT:d≠T1:=λz=>by
  obtain⟨ps,a,_⟩:=hT.same s3;rw [<-z,e3] at a;cases a
 have zp:=s4 d _ nT e3;have PU:∀{a xs},aZ K H a xs->aZ K H4 a xs:=λ{a xs} h=>by
  obtain⟨ps,b,_⟩:=hT;rcases h with (h | ⟨u,h⟩) | h
  .exact .inl (.inl (s4 _ _ (λz=>by rw [z,b] at h;cases h) (s3 _ _ h)))
  .exact .inl (.inr ⟨u,s4 _ _ (λz=>by rw [z,b] at h;cases h) (s3 _ _ h)⟩)
  exact .inr h
 have PV:∀{a xs},aH K H a xs->aH K H4 a xs:=λ{a xs} h=>by
  obtain⟨ps,b,_⟩:=hT;rcases h with (h | ⟨u,h⟩) | h
  .exact .inl (.inl (s4 _ _ (λz=>by rw [z,b] at h;cases h) (s3 _ _ h)))
  .exact .inl (.inr ⟨u,s4 _ _ (λz=>by rw [z,b] at h;cases h) (s3 _ _ h)⟩)
  exact .inr h
 refine⟨R,rs,aa,d,fl,c',_,fQ,LN,_,uB aa,rfl,PV hR,cS.keep λ_ _ z=>PU z,bq,h8,zp,k1,nE _ i4,∅,k2,xT aa _ λz n e=>?_,e4,Rx,λkI LO g' H5 s5 e5 k5 v5 st se T4=>?_⟩
 .unfold uB at e
  split at e
  .cases e;exact i0 _
  cases e
 refine q d kI LO g' H5 wG (λb o n hb=>s5 b o (λz=>?_) (s4 b o n (s3 b o hb))) (t4.FY s5 zp) e5 k5 v5 st se T4;rw [z,wG] at hb;cases hb
def tM (K:a8)(T2:Addr):Sp:=λvs H Q _=>∃(R:Addr)(rs:List Addr)(aa:List au)(b:Str->Int),vs=[.ref R]/\aH K H R (rs.map V.ref)/\bE K H rs aa/\aa.length<=1000/\(∀ru∈aa,ru.2.length<=8)/\qx aa b/\Tab T2 xR.2.2.2 Ge H /\
 ∀(d:Addr)(kvs:List (aK×V)) (ks:List Str)(g:G)(H':Hp),H d=none->fq T2 H H'->Tab T2 xR.2.2.2 Ge H'->H' d=some (.dK kvs)->kvs.map (·.1)=ks.map Sum.inr->(∀z,a_ kvs (Sum.inr z)=(g z).map V.int)->GJ aa b g->de M11.bg aa (λ_=>none) g->gS M11.bg aa g->Q (.ref d) H'
def EE:aN ["rules"] ["rules"] (az tY):=iY rfl rfl rfl rfl nofun
def Cu {T2:Addr}(F:wm K "greatest_empty_sizes" "greatest_empty_sizes" tY f fd T2)(hB:qy mg base)
  (GS:aF P w K mg base 2 "settled_sizes" ["rules","sizes","better"] (gX K Ge xR.1 xR.2.1 xR.2.2.1 M11.bg)):bN P w K mg base fS 3 f fd ["rules"] (tM K T2):=by
 refine F.ok EE (λvs H Q E h=>?_) (λc A outer s H vs Q E hC hr h=>?_)
 .obtain⟨R,rs,aa,b,rfl,_⟩:=h;rfl
 obtain⟨R,rs,aa,b,rfl,hR,cS,bq,h8,UN,hT,q⟩:=h;refine⟨_,ao (bu (bp GS hr rfl (ab (pv 0) (ab fg (ab (Ca (T:=T2) rfl hC hB nofun) aj))))),?_⟩;refine⟨_,rfl,λd wG=>?_⟩;have s3:=af wG (.dK []);have e3:upd H d (.dK []) d=some (.dK []):=ae;generalize upd H d (.dK [])=H3 at s3 e3;refine⟨hT.same s3,λfl c' fQ H4 s4 t4 ZR e4 Rx=>?_⟩;have nT:d≠T2:=λz=>by
  obtain⟨ps,a,_⟩:=hT.same s3;rw [<-z,e3] at a;cases a
 have zp:=s4 d _ nT e3;have PU:∀{a xs},aZ K H a xs->aZ K H4 a xs:=λ{a xs} h=>by
  obtain⟨ps,b,_⟩:=hT;rcases h with (h | ⟨u,h⟩) | h
  .exact .inl (.inl (s4 _ _ (λz=>by rw [z,b] at h;cases h) (s3 _ _ h)))
  .exact .inl (.inr ⟨u,s4 _ _ (λz=>by rw [z,b] at h;cases h) (s3 _ _ h)⟩)
  exact .inr h
 have PV:∀{a xs},aH K H a xs->aH K H4 a xs:=λ{a xs} h=>by
  obtain⟨ps,b,_⟩:=hT;rcases h with (h | ⟨u,h⟩) | h
  .exact .inl (.inl (s4 _ _ (λz=>by rw [z,b] at h;cases h) (s3 _ _ h)))
  .exact .inl (.inr ⟨u,s4 _ _ (λz=>by rw [z,b] at h;cases h) (s3 _ _ h)⟩)
  exact .inr h
 have j0:GJ aa b (λ_=>none):=λz n e=>nomatch e;refine⟨R,rs,aa,d,fl,c',_,fQ,[],[],λ_=>none,rfl,PV hR,cS.keep λ_ _ z=>PU z,bq,h8,zp,rfl,i4,gN _,λ_=>rfl,x8 UN _ j0,e4,Rx,λkI LO g' H5 s5 e5 k5 v5 st se T4=>?_⟩;refine q d kI LO g' H5 wG (λb o n hb=>s5 b o (λz=>?_) (s4 b o n (s3 b o hb))) (t4.FY s5 zp) e5 k5 v5 (vO UN st j0) st se;rw [z,wG] at hb;cases hb
end
end gT
namespace L2
open PySem PySem.Spec PyProof.Rows
def Jg (o:Obj):Nat:=match o.data with
 | .dict _ ep=>ep
 | _=>0
def Nz (d:Addr)(o:Obj)(kvs:List (aK×V)):It :=
 ⟨λi H=>H d=some (.je o (.dK kvs))/\i < kvs.length,λi H x H'=>H'=H/\∃kv,kvs[i]?=some kv/\x=kV kv.1,λi H=>H d=some (.je o (.dK kvs))/\kvs.length<=i⟩
def yd {X:Cx}{ag:List (Addr×Obj)}{σ:St}{H:Hp}{s:Shared}{d:Addr}{o:Obj}{kvs:List (aK×V)}(I:Inv X ag σ H s)(e:H d=some (.je o (.dK kvs))) :
  (d == sysModules)=false/\∃vs,KV kvs vs/\s.heap.DictAt (a7 X.prog X.w) d vs (Jg o):=by
 obtain⟨ho,hz,hs,vs,r,o',es,ep,h1,h2,h3,h4⟩:=(show cv X.prog X.w H s.heap d (.je o (.dK kvs)) from I.bS d _ e);rw [ho] at h1;cases h1;refine⟨hs,vs,r,o,es,ho,h2,?_,h4⟩;unfold Jg;rw [h3]
def zR {P:Program}{w:World}{K:a8}{tg:Expr}(d it:Addr)(o:Obj)(kvs:List (aK×V)):Turn P w K tg (Nz d o kvs) [it] it (λi h=>h.IsKeyIter it d i kvs.length (Jg o)) where
 mem:=by simp
 obj:=λi h st b hb=>by
  have e:b=it:=by simpa using hb
  subst e;obtain⟨o,e,c,d⟩:=st;exact⟨o,e,λv z=>by rw [d] at z;cases z⟩
 keep:=λi h h' st k=>let ⟨o,e,r⟩:=st;⟨o,k it (by simp) o e,r⟩
 item:=by
  intro X hP hw hK hc i ag s σ H E I hf st hg;subst hP hw hK;obtain⟨hq,hi⟩:=hg;obtain⟨hs,vs,r,da⟩:=yd I hq;have l:=r.length;obtain⟨kv,Om⟩:∃kv,kvs[i]?=some kv:=⟨kvs[i],c_ hi⟩;obtain⟨q,eq⟩:∃q,vs[i]?=some q:=⟨vs[i]'∅,c_ ∅⟩;have ek:kv.1=q.1:=by
   have:=congrArg (λl:List aK=>l[i]?) r.keys;simp only [bo,Om,eq] at this;exact gC this
  obtain⟨f0,f1,f2,f3,f4,f5⟩:=hf it (by simp);rw [l] at st;refine wpAny_pyNext_dict_item (k:=q.1) (v:=q.2) st da eq λkey h' hk uT sb=>?_;have I1:Inv X ag σ H { s with heap:=h' }:=I.turned (t':=s.toks) (λb o hb e=>(sb.2 b hb).trans e) f0 f1 f3 f4 f5;obtain⟨o2,e,c,dd⟩:=id uT;rw [<-l] at uT;exact⟨key,rfl,zq (s:={ s with heap:=h' }) e c dd nofun ⟨kV kv.1,H,I1,by rw [ek];exact Gk hk,⟨rfl,kv,Om,rfl⟩,uT,λb hb=>(hf b hb).1⟩⟩
 done:=by
  intro X hP hw hK hc i ag s σ H E I hf st hg;subst hP hw hK;obtain⟨hq,hi⟩:=hg;obtain⟨hs,vs,r,da⟩:=yd I hq;have l:=r.length;obtain⟨f0,f1,f2,f3,f4,f5⟩:=hf it (by simp);rw [l] at st;exact wpAny_pyNext_dict_end (I.ok.hd hc) st da (sX ∅) λh' eb=>⟨rfl,I.turned (t':=s.toks) (λb o hb e=>eb b o hb e) f0 f1 f3 f4 f5⟩
 self:=λ_ _ _ _ _ st h=>wpAny_pyIter_keyiter st h
def LZ (tl:TE):TI:=λσ H R=>tl σ H λx H1=>∃d kvs,x=.ref d/\H1 d=some (.dK kvs)/\∀o,R (Nz d o kvs) (upd H1 d (.je o (.dK kvs)))
def yZ {X:Cx}{tg l:Expr}{tl:TE}(hl:PE X l tl):PI X tg l (LZ tl):=by
 intro ag s σ H R I h;refine cJ (hl ag s σ H _ I h) λv s1 bj=>?_;obtain⟨x,H1,I1,r1,q1⟩:=bj;obtain⟨d,kvs,e,hd,q⟩:=q1;subst e;cases r1;obtain⟨hz,hs,vs,r,o,es,ep,h1,h2⟩:=(show cv X.prog X.w H1 s1.heap d (.dK kvs) from I1.bS d _ hd);have I2:Inv X ag σ (upd H1 d (.je o (.dK kvs))) { s1 with heap:=s1.heap,toks:=s1.toks }:=I1.write (x:=d) (e:=d) (by rw [hd];exact True.intro) (.inl rfl) (λb u _ e=>e) ⟨o,h1⟩ ⟨h1,hz,hs,vs,r,o,es,ep,h1,h2⟩;have e2:upd H1 d (.je o (.dK kvs)) d=some (.je o (.dK kvs)):=ae;obtain⟨_,SO,r2,da⟩:=yd I2 e2;have q2:=q o;generalize upd H1 d (.je o (.dK kvs))=H2 at I2 e2 q2;refine wpAny_pyIter_dict hs da ?_;refine⟨s1.heap.objs.size,[s1.heap.objs.size],_,_,H2,rfl,I2.kept (t':=s1.toks) λb o e=>bW _ e,zR d _ o kvs,⟨_,dq _ rfl,rfl,by rw [r2.length];rfl⟩,λb hb=>?_,q2⟩;have e:b=s1.heap.objs.size:=by simpa using hb
 subst e;exact I2.uC (aG _) (I2.bS.fresh (aG _))
section
variable {d D:Addr}{o:Obj}{kvs:List (aK×V)}{ts:List Str}{js:List (Nat×Str)}{g:TG}{tif:TT}{te:TE}{R:Hp->Prop}{σ:St}{H:Hp}
def qk (Pv:Nat->List V->St->Hp->Prop)(h0:Pv 0 [] (df ts js σ) (upd H D (.lst [])))(hl:∀i ys σ H,i<=kvs.length->Pv i ys σ H->H d=some (.je o (.dK kvs)))
  (hs:∀i kv ys σ H,kvs[i]?=some kv->Pv i ys σ H->g (kV kv.1) σ H λσ2 H2=>tif σ2 H2 λb H3=>if b=true then te σ2 H3 λy H4=>H4 D=some (.lst ys)/\ys.length < sizeLine/\Pv (i+1) (ys++[y]) σ2 (upd H4 D (.lst (ys++[y]))) else Pv (i+1) ys σ2 H3)
  (hd:∀ys σ H,Pv kvs.length ys σ H->R H) :
  ∃W:Nat->Nat->List V->St->Hp->Prop,(∃m,W 0 m [] (df ts js σ) (upd H D (.lst []))) /\
 ∀i m ys σ' H,W i m ys σ' H->((Nz d o kvs).stop i H/\R H)\/((Nz d o kvs).go i H/\∃m',m' < m/\∀x H',(Nz d o kvs).ka i H x H'->g x σ' H' λσ2 H2=>tif σ2 H2 λb H3 =>
  if b=true then te σ2 H3 λy H4=>H4 D=some (.lst ys)/\ys.length < sizeLine/\W (i+1) m' (ys++[y]) σ2 (upd H4 D (.lst (ys++[y]))) else W (i+1) m' ys σ2 H3):=by
 refine⟨λi m ys σ H=>m=kvs.length - i/\i<=kvs.length/\Pv i ys σ H,⟨kvs.length,by simp,gN _,h0⟩,?_⟩;rintro i m ys σ' H ⟨rfl,hi,p⟩;have q:=hl i ys σ' H hi p;by_cases jd:i < kvs.length
 .refine .inr ⟨⟨q,jd⟩,kvs.length - (i+1),∅,λx H' y=>?_⟩;obtain⟨e,kv,Om,rfl⟩:=y;subst e;have z:=hs i kv ys σ' _ Om p;have h1:(i+1<=kvs.length)=True:=eq_true jd;simp only [h1,true_and];exact z
 have e:i=kvs.length:=by omega
 subst e;exact .inl ⟨⟨q,aG _⟩,hd ys σ' H p⟩
end
def rV {A:Around}{s:Shared}{l b:Addr}{ys xs:List Int}{aU g9:List Value}(r:a9 (ys.map V.int) aU)(r2:a9 (xs.map V.int) g9)(hl:s.heap.IsList l aU.toArray)(hb:s.heap.IsList b g9.toArray)(ne:l≠b)(hu:A.units < cLine) :
  SeqAt.EqAt A s (.ref l) (.ref b) (decide (ys=xs)):=by
 have l1:=r.length;have l2:=r2.length;rw [av] at l1 l2;by_cases bq:ys.length=xs.length
 .have h:=SeqAt.RcAt.lists (A:=A) (e:=λj=>decide (ys[j]?=xs[j]?)) hl hb (by simp only [cM];omega) hu λj h1 h2=>?_
  .have e:((List.range aU.toArray.size).all λj=>decide (ys[j]?=xs[j]?))=decide (ys=xs):=by
    rw [k0,d5,decide_eq_true_iff];constructor
    .intro h;refine List.ext_getElem? λj=>?_;by_cases c:j < ys.length
     .exact dA (h j (jV.mpr (by simp only [cM];omega)))
     rw [sX ∅,sX ∅]
    intro h j _;rw [h];exact eU rfl
   rw [e] at h;exact .of_refs ne h
  have k1:j < aU.length:=by simpa using h1
  have k2:j < g9.length:=by simpa using h2
  have e1:ys[j]?=some (ys[j]'∅):=c_ ∅;have e2:xs[j]?=some (xs[j]'∅):=c_ ∅;obtain⟨u1,f1,q1⟩:=r.get (show (ys.map V.int)[j]?=some (.int (ys[j]'∅)) by rw [bo,e1];rfl);obtain⟨u2,f2,q2⟩:=r2.get (show (xs.map V.int)[j]?=some (.int (xs[j]'∅)) by rw [bo,e2];rfl);have g1:aU.toArray[j]=u1:=by
   have:=(bc.mp f1).2;simpa using this
  have g2:g9.toArray[j]=u2:=by
   have:=(bc.mp f2).2;simpa using this
  rw [g1,g2,e1,e2];obtain⟨t1,rfl⟩:=q1;obtain⟨t2,rfl⟩:=q2;have:=SeqAt.EqAt.int_int (A:=A.in1) (s:=s) (ys[j]'∅) t1 (xs[j]'∅) t2;have e3:(ys[j]'∅ == xs[j]'∅)=decide (some (ys[j]'∅)=some (xs[j]'∅)):=by
   rw [k0,beq_iff_eq,decide_eq_true_iff,Option.some.injEq]
  rw [e3] at this;exact this
 have h:=SeqAt.RcAt.lists_lengths (A:=A) hl hb (by simp only [cM,bne_iff_ne];omega) hu;rw [hU (λz=>bq (by rw [z]))];exact .of_refs ne h
def z6 {X:Cx}(hu:X.A.units+1 < cLine):jS X (compareOp .In) (λx y H Q=>∃t a l1 l2 xs ys zs,x=.ref a/\y=.ref t/\aZ X.K H t [.ref l1,.ref l2]/\aH X.K H a (List.map V.int xs)/\aH X.K H l1 (List.map V.int ys)/\aH X.K H l2 (List.map V.int zs)/\l1≠a/\l2≠a /\
  Q (.bl (decide (ys=xs) || decide (zs=xs))) H):=by
 intro ag s σ H x y v u Q I rx ry h;obtain⟨t,a,l1,l2,xs,ys,zs,rfl,rfl,ht,ha,h1,h2,n1,n2,q⟩:=h;cases rx;cases ry;obtain⟨aU,r,pl,hz⟩:=I.tuple ht;obtain⟨u1,u2,rfl,q1,q2⟩:=vals2 r;cases (show u1=Value.ref l1 from q1);cases (show u2=Value.ref l2 from q2);obtain⟨xa,ra,pa,za⟩:=I.list ha;obtain⟨x1,r1,p1,z1⟩:=I.list h1;obtain⟨x2,r2,p2,z2⟩:=I.list h2;have e1:=rV (A:=X.A.in1) (s:=s) r1 ra p1.isList pa.isList n1 hu;have e2:=rV (A:=X.A.in1) (s:=s) r2 ra p2.isList pa.isList n2 hu;refine SeqAt.in_tupleAt (λy=>if y == .ref l1 then decide (ys=xs) else decide (zs=xs)) (show s.heap.IsTuple t #[.ref l1,.ref l2] from pl) (λy hy=>?_) ?_
 .have Yg:y=.ref l1\/y=.ref l2:=by simpa using hy
  by_cases c:y=.ref l1
  .subst c;rw [ax (oI _)];exact e1
  rcases Yg with z | z
  .exact absurd z c
  subst z;rw [ay (λq=>c (eq_of_beq q))];exact e2
 refine⟨.bl (decide (ys=xs) || decide (zs=xs)),H,I,?_,q⟩
 show Value.bool _=Value.bool _
 congr 1
 by_cases c:l2=l1
 .subst c;have e3:=I.pM h1 h2;have e4:ys=zs:=by
   have:=congrArg (List.map λv:V=>match v with | .int n=>n | _=>0) e3
   simpa [ip,Function.comp_def] using this
  subst e4;simp
 simp [c]
end L2
namespace M11
open PySem L2
def Ay (b:Str->Bool) (zs:List Str) (i:Nat):List Int:=((List.range i).filter λj=>!(zs[j]?.elim true b)).map λj:Nat=>(j:Int)
def vR (b:Str->Bool) (zs:List Str) (i:Nat){z:Str}(e:zs[i]?=some z):Ay b zs (i+1)=Ay b zs i++(if b z=true then [] else [(i:Int)]):=by
 unfold Ay;rw [List.range_succ,qR,bC]
 congr 1
 by_cases h:b z=true
 .rw [ax h];simp [e,h]
 rw [ay h];simp [e,h]
def Fq (b:Str->Bool) (zs:List Str) (i:Nat):(Ay b zs i).length<=i:=by
 unfold Ay;rw [av];have:=uX (λj=>!(zs[j]?.elim true b)) (List.range i);rw [sN] at this;exact this
def E_ (b:Str->Bool) (zs:List Str) (j:Nat):Bool:=decide ([]=Ay b zs zs.length) || decide ([(j:Int)]=Ay b zs zs.length)
def Kx (aa:List au) (names:List Str)(b:Str->Bool)(n:Str) (k j:Nat):Prop:=∃ru z,aa[k]?=some ru/\ru.1=n/\ru.2[j]?=some z/\z∈names/\E_ b ru.2 j=true
end M11
namespace L2
open PySem M11
def iM (p:Str×Addr):aK×V:=(Sum.inr p.1,.ref p.2)
theorem mq:∀(ps bI:List (aK×V)),((bI++ps).map (·.1)).Nodup->cN ps bI=bI++ps
 | [],bI,_=>by simp [cN]
 | p::r,bI,h=>by
  have n:a_ bI p.1=none:=by
   cases e:a_ bI p.1 with
   | none=>rfl
   | some v =>
    have hm:=(dZ bI p.1).mp (by rw [e];rfl);rw [bC,bZ] at h;exact absurd rfl ((jj.mp h).2.2 p.1 hm p.1 b0)
  show cN r (bH bI p.1 p.2)=_;rw [vk p.2 n,mq r (bI++[(p.1,p.2)]) (by rw [lB];exact h),lB];rfl
theorem gq:∀(ps:List (Str×Addr)),(ps.map (·.1)).Nodup->∀p∈ps,a_ (ps.map iM) (Sum.inr p.1)=some (.ref p.2)
 | q::r,h,p,hp=>by
  rw [bZ] at h ⊢;rcases bM.mp hp with z | z
  .rw [z];exact dP rfl
  rw [dQ,gq r (ji.mp h).2 p z];intro e;have e':q.1=p.1:=jm e;exact(ji.mp h).1 (by rw [e'];exact gW z)
def l_ (ps:List (Str×Addr)):(ps.map iM).map (·.1)=(ps.map (·.1)).map Sum.inr:=by
 rw [ip,ip];rfl
def qj {K:a8}{H:Hp}{p D:Addr}{zs:List Str}{σ:St}{x:Str}{Qp:Hp->Prop}(hp:aH K H p (zs.map V.str))(hz:zs.length<=10000)(hD:H D=none)
  (q:∀ts (ps:List (Str×Addr)) H2,aC H H2->H2 D=some (.lst (ts.map V.ref))->ps.map (·.1)=zs->Paired (λt (p:Str×Addr)=>aZ K H2 t [.str p.1,.ref p.2]) ts ps->(∀p∈ps,H2 p.2=some (.lst [])/\H p.2=none/\p.2≠D)->(ps.map (·.2)).Nodup->Qp H2) :
  ∃W:Nat->Nat->List V->St->Hp->Prop,(∃m,W 0 m [] (df [x] [] σ) (upd H D (.lst []))) /\
 ∀i m ys σ' H,W i m ys σ' H->((iL K p).stop i H/\Qp H)\/((iL K p).go i H/\∃m',m' < m/\∀x H',(iL K p).ka i H x H'->cU 0 x σ' H' λσ2 H2=>gh σ2 H2 λb H3 =>
  if b=true then qD (fV (fO 0) (fV (KQ o8) o8)) σ2 H3 λy H4=>H4 D=some (.lst ys)/\ys.length < sizeLine/\W (i+1) m' (ys++[y]) σ2 (upd H4 D (.lst (ys++[y]))) else W (i+1) m' ys σ2 H3):=by
 refine cg (xs:=zs.map V.str) (λi ys σ2 H2=>∃(ts:List Addr)(ps:List (Str×Addr)),ys=ts.map V.ref/\ts.length=i/\ps.map (·.1)=zs.take i/\Paired (λt (p:Str×Addr)=>aZ K H2 t [.str p.1,.ref p.2]) ts ps /\
   (∀p∈ps,H2 p.2=some (.lst [])/\H p.2=none/\p.2≠D)/\(ps.map (·.2)).Nodup/\(∃y0,σ2=[y0])/\aC H H2/\H2 D=some (.lst ys))
  ⟨[],[],rfl,rfl,rfl,.nil,by simp,by simp,⟨none,rfl⟩,af hD _,ae⟩ (λi ys σ2 H2 _ h=>?_) (λi x ys σ2 H2 ex h=>?_) (λys σ2 H2 h=>?_)
 .obtain⟨_,_,_,_,_,_,_,_,_,sm,_⟩:=h;exact sm.seq hp
 .obtain⟨ts,ps,rfl,ht,hm,iX,hl,hn,⟨y0,rfl⟩,sm,hd⟩:=h;rw [bo] at ex;obtain⟨z,ez,rfl⟩:=b9.mp ex;have li:=(bc.mp ez).1;refine goN (uV ?_);refine⟨_,rfl,tE,λl qH=>⟨kW,λt i9=>?_⟩⟩;have Im:l≠D:=(aw hd qH).symm;have nt:t≠l:=λe=>by rw [e,ae] at i9;cases i9
  have Me:H2 t=none:=by rw [ai nt] at i9;exact i9
  have WV:t≠D:=(aw hd Me).symm;have tP:aC H2 (upd (upd H2 l (.lst [])) t (.tup [.str z,.ref l])):=(af qH _).trans (af i9 _);have ig:=tP _ _ hd;have el:upd (upd H2 l (.lst [])) t (.tup [.str z,.ref l]) l=some (.lst []):=by rw [ai nt.symm,ae]
  have et:aZ K (upd (upd H2 l (.lst [])) t (.tup [.str z,.ref l])) t [.str z,.ref l]:=aZ.of ae;generalize upd (upd H2 l (.lst [])) t (.tup [.str z,.ref l])=H4 at tP ig el et;refine⟨ig,bf (by rw [av];omega),ts++[t],ps++[(z,l)],by rw [bC];rfl,by rw [bO,ht];rfl,by rw [bC,hm,cI,ez];rfl,?_,?_,?_,⟨_,rfl⟩,?_,ae⟩
  .exact f_ (Paired.fj iX λt' h' z=>aX ig (tP.tup z)) (aX ig et)
  .intro p' nq;rcases cD.mp nq with h | h
   .obtain⟨a1,a2,a3⟩:=hl p' h;exact⟨by rw [ai a3];exact tP _ _ a1,a2,a3⟩
   rw [cT.mp h];exact⟨by rw [ai Im];exact el,sm.free qH,Im⟩
  .rw [bC];refine jj.mpr ⟨hn,by simp,λa ha b hb e=>?_⟩;rw [qS,cT] at hb;obtain⟨p',nq,rfl⟩:=cH.mp ha;have:=(hl p' nq).1;rw [e,hb] at this;rw [show H2 l=none from qH] at this;cases this
  intro b o hb;rw [ai (λz=>by rw [z,hD] at hb;cases hb)];exact tP _ _ (sm b o hb)
 obtain⟨ts,ps,rfl,ht,hm,iX,hl,hn,_,sm,hd⟩:=h;rw [av,cC] at hm;exact q ts ps H2 sm hd hm iX hl hn
def v7 {K:a8}{H:Hp}{p D d:Addr}{zs:List Str}{kvs:List (aK×V)}{σ:St}{js:List (Nat×Str)}{Qp:Hp->Prop}(hσ:df ["place","part"] js σ=[none,none,aI d])(hp:aZ K H p (zs.map V.str))(hz:zs.length<=1000)
  (hd:H d=some (.dK kvs))(hD:H D=none)(q:∀H2,aC H H2->H2 D=some (.lst ((Ay (λz=>(a_ kvs (Sum.inr z)).isSome) zs zs.length).map V.int))->Qp H2) :
  ∃W:Nat->Nat->List V->St->Hp->Prop,(∃m,W 0 m [] (df ["place","part"] js σ) (upd H D (.lst []))) /\
 ∀i m ys σ' H,W i m ys σ' H->((qv K p).stop i H/\Qp H)\/((qv K p).go i H/\∃m',m' < m/\∀x H',(qv K p).ka i H x H'->vP K 2 (g_ (cU 0) (g_ (cU 1) ya)) x σ' H' λσ2 H2=>tB (yC (fO 1) (fO 2)) σ2 H2 λb H3 =>
  if b=true then fO 0 σ2 H3 λy H4=>H4 D=some (.lst ys)/\ys.length < sizeLine/\W (i+1) m' (ys++[y]) σ2 (upd H4 D (.lst (ys++[y]))) else W (i+1) m' ys σ2 H3):=by
 refine v8 (xs:=zs.map V.str) (λi ys σ2 H2=>ys=(Ay (λz=>(a_ kvs (Sum.inr z)).isSome) zs i).map V.int/\(∃y0 y1,σ2=[y0,y1,aI d])/\aC H H2/\H2 D=some (.lst ys))
  ⟨rfl,⟨none,none,hσ⟩,af hD _,ae⟩ (λi ys σ2 H2 _ h=>h.2.2.1.tup hp) (λi x ys σ2 H2 t ex h ht=>?_) (λys σ2 H2 h=>?_)
 .obtain⟨rfl,⟨y0,y1,rfl⟩,sm,hd2⟩:=h;rw [bo] at ex;obtain⟨z,ez,rfl⟩:=b9.mp ex;have li:=(bc.mp ez).1;have tP:=sm.trans (af ht (.tup [.int (i:Int),.str z]));have ig:upd H2 t (.tup [.int (i:Int),.str z]) D=some (.lst ((Ay (λz=>(a_ kvs (Sum.inr z)).isSome) zs i).map V.int)):=by rw [ai (aw hd2 ht)];exact hd2
  have hv:aZ K (upd H2 t (.tup [.int (i:Int),.str z])) t [.int (i:Int),.str z]:=aZ.of ae;generalize upd H2 t (.tup [.int (i:Int),.str z])=H3 at tP ig hv;have fl:=Fq (λz=>(a_ kvs (Sum.inr z)).isSome) zs i;refine⟨t,_,rfl,hv,rfl,_,_,rfl,_,_,rfl,rfl,?_⟩;refine⟨_,rfl,_,rfl,d,_,rfl,cq.k (k:=Sum.inr z) (tP _ _ hd),_,rfl,?_⟩;refine cu (λc=>?_) (λc=>?_)
  .refine⟨_,rfl,ig,bf (by rw [av];omega),?_,⟨_,_,rfl⟩,?_,ae⟩
   .rw [vR _ zs i ez,ay (λe=>by rw [e] at c;exact absurd c nofun),bC];rfl
   intro b o hb;rw [ai (λz=>by rw [z,hD] at hb;cases hb)];exact tP b o hb
  refine⟨?_,⟨_,_,rfl⟩,tP,ig⟩;rw [vR _ zs i ez,ax,iq];cases hq:(a_ kvs (Sum.inr z)).isSome with
  | true=>rfl
  | false=>exact absurd (by rw [hq];rfl) c
 obtain⟨rfl,_,sm,hd2⟩:=h;rw [av] at hd2;exact q H2 sm hd2
open PySem PySem.Spec PyProof.Rows
def jK {X:Cx}{elt iter tg:Expr}{iy:Nat}{y:Str}{py K4:Pos}{ifs:List Expr}{scope:Scope}{pos:Pos}{wi:TI}{g:TG}{tif:TT}{te:TE}(ts:List Str)(js:List (Nat×Str))(hN:X.N.Nodup)(YN:X.N[iy]?=some y)(hy:X.env.scope.names.lookup y=some .local)(hc:X.calm=true)(hi:PI X tg iter wi)
  (cp:FJ X scope js)(iG:∀y∈scope.names,y.2≠.cell)(iF:scope.kind=.function)
  (xY:∀y∈scope.names,y.2=.local->scope.names.lookup y.1=some .local)
  (hg:∀cl C s1 H1 fp,PG (qe X scope cl C s1 H1 (ts++js.map (·.2)) fp) tg g)
  (QK:∀cl C s1 H1 fp,AV (qe X scope cl C s1 H1 (ts++js.map (·.2)) fp) ifs tif)(he:∀cl C s1 H1 fp,PE (qe X scope cl C s1 H1 (ts++js.map (·.2)) fp) elt te)
  (Yv:swapsWith (.ListComp elt [⟨tg,iter,ifs,0⟩] scope pos) (some (.Name y py)) K4.line X.env=pure true:=by rfl)(hs:∀x,foldedSetIterable iter X.env x=pure x:=by intro _;rfl) :
  PS X (.Assign [.Name y py] (.ListComp elt [⟨tg,iter,ifs,0⟩] scope pos) K4) (Hl (Bq wi ts js g tif te) (cU iy)):=by
 intro ag s σ H DD I h;rw [exec_Assign_Name_used _ _ _ _ Yv];refine aE (wpAny_standAt (aE ?_));show wpAny _ _ (do let _ <-comprehension (.ListComp elt [⟨tg,iter,ifs,0⟩] scope pos) scope X.env _ (newList []) false (eval iter X.env) (some (assign (.Name y py) X.env))) _ _ s;obtain⟨cl,nu⟩:=uJ (env:=X.env) (scope:=scope) λy hy=>I.ok.has y (.inl (cp.all y hy));refine aE (cY (wpAny_comprehension_free (use:=some (assign (.Name y py) X.env)) (Q:=λ_ s'=>SP X ag DD .next s') rfl hs nu.eq iF xY (cJ (hi ag s σ H _ I h) λv s1 h1=>cJ h1 λN6 s2 h2=>?_)) (λ_ s' hq=>aR (aR hq)) λ_ _ e=>e);obtain⟨it,fp,tn,J,H2,e,I2,T,DR,f2,h2⟩:=h2;subst e;obtain⟨W,⟨m0,w0⟩,turn⟩:=h2 s2.heap.objs.size I2.fresh;have C2:∀b∈fp,b < s2.heap.objs.size:=λb hb=>by obtain⟨o,e,_⟩:=T.obj _ _ DR b hb;exact bA e
 refine k_ (wpAny_newFunctionEnv iG (by intro y hy;simp at hy) (λh₁ xX uy=>?_) iF);dsimp only at xX uy ⊢;generalize IZ:s2.heap.push { cls:=.type "list",dict:=none,data:=.seq ([]:List Value).toArray }=G2 at xX uy ⊢;have Fo:G2.objs.size=s2.heap.objs.size+1:=by rw [<-IZ,mJ]
 have Q2:s2.heap.objs.size≠G2.objs.size:=by rw [Fo];exact bQ (nK _)
 have old:∀b o,s2.heap.get? b=some o->h₁.get? b=some o:=λb o e =>
  uy.extBut b o (by rw [Fo];exact bQ (sO (bA e))) (bW _ (IZ ▸ bW _ e))
 have Av:h₁.get? s2.heap.objs.size=some { cls:=.type "list",data:=.seq ([]:List Value).toArray 0 }:=uy.extBut _ _ Q2 (bW _ (IZ ▸ dq _ rfl));generalize mi:qe X scope cl G2.objs.size s2 H2 (ts++js.map (·.2)) fp=X2;have I4:Inv X2 [] (df ts js σ) (upd H2 s2.heap.objs.size (.lst [])) { s2 with heap:=h₁,toks:=s2.toks+([]:List (Str×Value)).length }:=by
  rw [<-mi];exact rL I2 f2 C2 iF iG cp nu (by rw [Fo];exact nK _) rfl rfl old xX Av
 have x1:X2.prog=X.prog:=by rw [<-mi];rfl
 have x2:X2.w=X.w:=by rw [<-mi];rfl
 have x3:X2.K=X.K:=by rw [<-mi];rfl
 have x4:X2.calm=true:=by rw [<-mi];exact hc
 have x5:X2.A=X.A:=by rw [<-mi];rfl
 have x6:X2.env=compEnvC scope cl G2.objs.size X.env:=by rw [<-mi];rfl
 have x7:X2.xe=λ_ _=>False:=by rw [<-mi];rfl
 have QM:PG X2 tg g:=by rw [<-mi];exact hg _ _ _ _ _
 have IQ:AV X2 ifs tif:=by rw [<-mi];exact QK _ _ _ _ _
 have Eb:PE X2 elt te:=by rw [<-mi];exact he _ _ _ _ _
 have K2:tn 0 h₁:=T.keep _ _ _ DR λb _ o e=>old b o e;have o_:∀{H':Hp}{i7:List (Addr×Obj)},(∀b∈fp,H' b=none)->(∀p∈i7,p.1∉fp)->∀b∈fp,uS X2 i7 H' b:=λ{H' i7} hn hp b hb=>by
  have o4:=I4.ok;subst mi;exact⟨hn b hb,(o4.Kg b hb).1,o4.Az b hb,.inl hb,(o4.Kg b hb).2,λp nq=>by
   have qG:p∈([]:List (Addr×Obj))++i7:=nq;rw [oH] at qG;intro z;exact hp p qG (by rw [z];exact hb)⟩
 have fin:∀{s':Shared}{σ':St}{H':Hp},Inv X2 [] σ' H' s'->DD.nx (σ.set iy (some (.ref s2.heap.objs.size))) H' ->
   compPost (model X.prog X.w) X.A X.xe (some (assign (.Name y py) X.env)) (λ_ s'=>SP X ag DD .next s') (.ref s2.heap.objs.size) G2.objs.size (.ok .next) s':=λ{s' σ' H'} J' q=>by
  subst mi;obtain⟨m',C0,_⟩:=J'.loc;have I5:Inv X ag σ H' s':=I2.GO (s':=s') J'.os J'.base J'.bS J'.bare λb hb=>by
   obtain⟨_,f1,_,f3,f4,f5⟩:=f2 b hb;exact⟨f3,f1,f4,f5⟩
  obtain⟨f0,f1,_,f3,f4,f5⟩:=I2.uC (H':=H') (b:=G2.objs.size) (by rw [Fo];exact jl _) J'.free;show wpAny _ _ (assign (.Name y py) X.env (.ref s2.heap.objs.size)) _ _ s';refine wpAny_assign_Name (rf I5 hN YN (.inl hy) (v:=.ref s2.heap.objs.size) rfl (λLa I6 bj=>?_) (.inr hy));obtain⟨a,sb,ha⟩:=bj;have Xi:G2.objs.size≠a:=by
   rcases ha with ha | ha
   .rw [ha];exact f1
   exact(f4 _ _ ha).symm
  refine⟨m',C0.sameBut sb Xi,λh' JX=>?_⟩;exact⟨_,H',I6.turned (t':=La.toks) (λb o hb e=>(JX.2 b hb).trans e) f0 f1 f3 f4 f5,q⟩
 have loop:∀s₃:Shared,s₃={ s2 with heap:=h₁,toks:=s2.toks+([]:List (Str×Value)).length } ->
   codeAny (model X.prog X.w) X.A (.compLoop (.ListComp elt [⟨tg,iter,ifs,0⟩] scope pos) 0 (.ref it) (.ref s2.heap.objs.size) (compEnvC scope cl G2.objs.size X.env))
    (compPost (model X.prog X.w) X.A X.xe (some (assign (.Name y py) X.env)) (λ_ s'=>SP X ag DD .next s') (.ref s2.heap.objs.size) G2.objs.size) s₃:=by
  rintro s₃ rfl;subst mi;refine nZ (λn s'=>∃i ys σ' H',Inv (qe X scope cl G2.objs.size s2 H2 (ts++js.map (·.2)) fp) [] σ' H' s'/\tn i s'.heap/\(∀b∈fp,H' b=none)/\W i n ys σ' H') ?_ m0
   ⟨0,[],_,_,I4,K2,λb hb=>by rw [ai (bQ (C2 b hb))];exact(f2 b hb).1,w0⟩
  rintro n s' ⟨i,ys,σ0,H',J',uT,MR,w'⟩;rcases turn i n ys σ0 H' w' with ⟨stop,q⟩ | ⟨go,m',hm,step⟩
  .refine cY (T.done (qe X scope cl G2.objs.size s2 H2 (ts++js.map (·.2)) fp) rfl rfl rfl hc i [] s' _ H' (λ_ _=>False) J' (o_ MR (by simp)) uT stop) (λr s4 ⟨hr,J4⟩=>?_) λ_ _ z=>z;subst hr;exact fin J4 q
  refine cY (T.item (qe X scope cl G2.objs.size s2 H2 (ts++js.map (·.2)) fp) rfl rfl rfl hc i [] s' _ H' (λ_ _=>False) J' (o_ MR (by simp)) uT go) (λr s4 ⟨u,hr,h4⟩=>?_) λ_ _ z=>z;subst hr;refine cY h4 (λ_ s5 bj=>?_) λ_ _ z=>z;obtain⟨xv,H5,J5,r5,y5,zT,MQ⟩:=bj;have Sx:=J5.pinned (o_ MQ (by simp)) (T.obj _ _ zT);have back:∀{s7:Shared}{σ7:St}{H7:Hp},Inv (qe X scope cl G2.objs.size s2 H2 (ts++js.map (·.2)) fp) ([]++mZ fp s5.heap) σ7 H7 s7->Inv (qe X scope cl G2.objs.size s2 H2 (ts++js.map (·.2)) fp) [] σ7 H7 s7/\tn (i+1) s7.heap/\∀b∈fp,H7 b=none:=λ{s7 σ7 H7} J7=>by
   refine⟨J7.jr,T.keep _ _ _ zT λb hb o e=>(J7.pin (b,o) (dO _ (dO _ (gu hb e)))).1,λb hb=>?_⟩;obtain⟨o,e,d⟩:=T.obj _ _ zT b hb;exact(J7.pin (b,o) (dO _ (dO _ (gu hb e)))).2.1
  show wpAny _ _ (assign tg (qe X scope cl G2.objs.size s2 H2 (ts++js.map (·.2)) fp).env u) _ _ s5;refine cY (QM _ s5 _ H5 xv u _ Sx r5 (step xv H5 y5)) (λ_ s6 bj=>?_) λ_ _ z=>z;obtain⟨σ6,H6,J6,q6⟩:=bj;refine cY (IQ _ s6 _ H6 _ J6 q6) (λb s7 bj=>?_) λ_ _ z=>z;obtain⟨H7,J7,q7⟩:=bj;cases b with
  | false =>
   rw [ay cZ] at q7 ⊢;obtain⟨J8,O9,Rb⟩:=back J7;exact⟨m',hm,i+1,ys,σ6,H7,J8,O9,Rb,q7⟩
  | true =>
   rw [ax rfl] at q7 ⊢;refine cY (Eb _ s7 _ H7 _ J7 q7) (λyv s8 bj=>?_) λ_ _ z=>z;obtain⟨y,H8,J8,r8,Q3,Qj,w8⟩:=bj;refine cY (bh (X:=qe X scope cl G2.objs.size s2 H2 (ts++js.map (·.2)) fp) _ s8 _ H8 (.ref s2.heap.objs.size) [y] (.ref s2.heap.objs.size) [yv] (λv H'=>W (i+1) m' (ys++[y]) σ6 H') J8 rfl (.cons r8 .nil) ⟨s2.heap.objs.size,ys,y,rfl,rfl,Q3,Qj,w8⟩)
    (λ_ s9 ⟨_,H9,J9,_,w9⟩=>?_) λ_ _ z=>z
   obtain⟨Sy,Hm,Jc⟩:=back J9;exact⟨m',hm,i+1,ys++[y],σ6,H9,Sy,Hm,Jc,w9⟩
 exact codeAny_compStart_list (loop _ rfl) (T.self _ _ _ _ _ K2 (loop _ rfl))
end L2
namespace gT
open PySem L2 M11
section
def uj {l:List Str}(h:l.Nodup):(l.map (Sum.inr:Str->aK)).Nodup:=List.Pairwise.map _ (λa b Ze e=>Ze (jm e)) h
structure A9 (K:a8)(ps:List (Str×Addr))(st:Str->List (Nat×Nat))(H:Hp)(d:Addr):Prop where
 hd:Rd H d (.dK (ps.map iM))
 n1:(ps.map (·.1)).Nodup
 n2:(ps.map (·.2)).Nodup
 lst:∀p∈ps,∃ts,H p.2=some (.lst (ts.map V.ref))/\Paired (λt (e:Nat×Nat)=>aZ K H t [.int (e.1:Int),.int (e.2:Int)]) ts (st p.1)
def Rd.same {H H':Hp}{a:Addr}{u:HO}(h:Rd H a u)(s:aC H H'):Rd H' a u:=h.elim (λz=>.inl (s _ _ z)) λ⟨o,z⟩=>.inr ⟨o,s _ _ z⟩
theorem A9.same {ps:List (Str×Addr)}{st:Str->List (Nat×Nat)}{H H':Hp}{d:Addr}(h:A9 K ps st H d)(s:aC H H'):A9 K ps st H' d :=
 ⟨Rd.same h.hd s,h.n1,h.n2,λp hp=>let ⟨ts,a,b⟩:=h.lst p hp;⟨ts,s _ _ a,Paired.fj b λ_ _ z=>s.tup z⟩⟩
def sr (st:Str->List (Nat×Nat))(n:Str)(e:Nat×Nat):Str->List (Nat×Nat):=λz=>if z=n then st z++[e] else st z
def A9.more {ps:List (Str×Addr)}{st:Str->List (Nat×Nat)}{H:Hp}{d:Addr}(h:A9 K ps st H d){p:Str×Addr}(hp:p∈ps){ts:List Addr}{t:Addr}{e:Nat×Nat}(a:H p.2=some (.lst (ts.map V.ref)))
  (b:Paired (λt (e:Nat×Nat)=>aZ K H t [.int (e.1:Int),.int (e.2:Int)]) ts (st p.1))(c:aZ K H t [.int (e.1:Int),.int (e.2:Int)]) :
  A9 K ps (sr st p.1 e) (upd H p.2 (.lst (ts.map V.ref++[.ref t]))) d:=by
 have nd:d≠p.2:=λz=>by
  rcases h.hd with q | ⟨o,q⟩
  .rw [z,a] at q;cases q
  rw [z,a] at q;cases q
 refine⟨?_,h.n1,h.n2,λp' nq=>?_⟩
 .rcases h.hd with q | ⟨o,q⟩
  .exact .inl (by rw [ai nd];exact q)
  exact .inr ⟨o,by rw [ai nd];exact q⟩
 by_cases z:p'=p
 .rw [z];refine⟨ts++[t],by rw [ae,bC];rfl,?_⟩;have e1:sr st p.1 e p.1=st p.1++[e]:=ax rfl;rw [e1];exact f_ (Paired.fj b λ_ _ z=>aX a z) (aX a c)
 have n1:p'.1≠p.1:=λq=>z (by
  have w1:=gq ps h.n1 p' nq;have w2:=gq ps h.n1 p hp;rw [q,w2] at w1;injection w1 with w3;injection w3 with w4;exact Prod.ext q w4.symm)
 have n2:p'.2≠p.2:=λq=>by
  obtain⟨i,hi,ei⟩:=oM.mp nq;obtain⟨j,hj,ej⟩:=oM.mp hp;have Fi:i=j:=by
   refine(sI (xs:=ps.map (·.2)) (h₀:=by simpa using hi) (h₁:=by simpa using hj) h.n2).mp ?_;rw [qN,qN,ei,ej];exact q
  subst Fi;exact z (ei.symm.trans ej)
 obtain⟨SU,a',b'⟩:=h.lst p' nq;refine⟨SU,by rw [ai n2];exact a',?_⟩;have e1:sr st p.1 e p'.1=st p'.1:=ay n1;rw [e1];exact Paired.fj b' λ_ _ z=>aX a z
def yM (K:a8):Sp:=λvs H Q _=>∃(R:Addr)(rs:List Addr)(aa:List au),vs=[.ref R]/\aH K H R (rs.map V.ref)/\bE K H rs aa/\aa.length<=1000/\(∀ru∈aa,ru.2.length<=8) /\
 ∀(d:Addr)(ps:List (Str×Addr))(st:Str->List (Nat×Nat))(aP:List (Str×Nat))(H':Hp),H d=none->aC H H'->H' d=some (.dK (ps.map iM))->A9 K ps st H' d->ps.map (·.1)=hd aa->(∀p∈ps,H p.2=none)->oF aa aP->qw aa aa.length aP ->
  (∀n k j,n∈hd aa->((k,j)∈st n↔Kx aa (hd aa) (λz=>decide (z∈aP.map (·.1))) n k j))->Q (.ref d) H'
def hV:aN ["rules","empty","steps","number","rule","place","part","filled"] ["rules"] (az xg):=iY rfl rfl rfl rfl nofun
def Co (F:ik K "steps_with_like_rows" "steps_with_like_rows" xg f fd)(T:Txt mg)(GE:aF P w K mg base 1 "found_empties" ["rules"] (mU K))(GH:aF P w K mg base 1 "heads_of" ["rules"] (jH K)):bN P w K mg base fS 2 f fd ["rules"] (yM K):=by
 refine F.ok hV (λvs H Q E h=>?_) (λd0 A outer s H vs Q E hr h=>?_)
 .obtain⟨R,rs,aa,rfl,_⟩:=h;rfl
 obtain⟨R,rs,aa,rfl,hR,cS,bq,h8,q⟩:=h;have hu:=gp hr;refine⟨_,ak (aB (i:=1) hV.nd rfl (Or.inr rfl) (a0 (dM rfl) rfl T.zC fk (ab (bp GE hr rfl (ab (pv 0) aj)) aj)))
  (ak (aB (i:=2) hV.nd rfl (ba rfl) (a0 (dM rfl) rfl T.zC fk (ab
   (aT ["name"] [] rfl (aS (bp GH hr rfl (ab (pv 0) aj))) (aV rfl rfl) nofun rfl nofun
    (λ_ _ _ _ _=>aq (i:=0) (show (["name"]:List Str).Nodup by decide +kernel) rfl (ba rfl)) (λ_ _ _ _ _=>bw)
    (λ_ _ _ _ _=>bD (ab (pv 0) (ab (bR aj) aj)))) aj)))
  (ak (bL b_ rfl (lZ rfl T.Fs (ab (pv 0) aj)) (fA rfl (aA (aq (i:=3) hV.nd rfl (ba rfl)) (aA (aq (i:=4) hV.nd rfl (ba rfl)) bF)))
   (ak (jK (iy:=7) ["place","part"] [(1,"empty")] hV.nd rfl rfl rfl (lY rfl T.Fs (ab (bJ bX (pv 4) ar (λ_ _=>rfl)) aj)) (aV rfl rfl) nofun rfl nofun
    (λ_ _ _ _ _=>di (n:=2) K rfl (aA (aq (i:=0) (show (["place","part","empty"]:List Str).Nodup by decide +kernel) rfl (ba rfl)) (aA (aq (i:=1) (show (["place","part","empty"]:List Str).Nodup by decide +kernel) rfl (ba rfl)) bF)))
    (λ_ _ _ _ _=>gP (fw (dU hu (pv 1) (pv 2)))) (λ_ _ _ _ _=>pv 0))
   (ao (bL b_ rfl (lY rfl T.Fs (ab (bJ bX (pv 4) ar (λ_ _=>rfl)) aj)) (fA rfl (aA (aq (i:=5) hV.nd rfl (ba rfl)) (aA (aq (i:=6) hV.nd rfl (ba rfl)) bF)))
    (ao (b8 (PW.pt (kn (fw (kr hu (pv 6) (pv 2))) (iR (br (z6 hu) (pv 7) (bD (ab (bR aj) (ab (bR (ab (pv 5) aj)) aj))) rfl))))
     (ao (bT (fh e_ fc ff bh (eK hu (pv 2) (bJ bX (pv 4) ar (λ_ _=>rfl)) (λ_ _=>rfl)) (ab (bD (ab (pv 3) (ab (pv 5) aj))) aj)))) aY)))))
   )
  (ao (bu (pv 2))))),?_⟩
 nofun
 have ll:=bB cS;refine⟨_,rfl,R,rs,aa,rfl,hR,cS,bq,h8,λD1 zS aP H1 f1 s1 e1 w1 emp kP=>?_⟩;have Qd:Paired (λt (kv:aK×V)=>aZ K H1 t [kV kv.1,kv.2]) zS (aP.map λp=>((Sum.inr p.1:aK),V.int (p.2:Int))):=cE w1 λ_ _ z=>z;refine⟨D1,zS,_,rfl,e1,Qd,λe he=>?_⟩;have ekE:cN (aP.map λp=>((Sum.inr p.1:aK),V.int (p.2:Int))) []=aP.map λp=>((Sum.inr p.1:aK),V.int (p.2:Int)):=mq _ [] (by
  rw [oH,ip];have:=uj emp.nd;rw [ip] at this;exact this)
 rw [ekE];have Ae:∀z,(a_ (aP.map λp=>((Sum.inr p.1:aK),V.int (p.2:Int))) (Sum.inr z)).isSome=decide (z∈aP.map (·.1)):=λz=>by
  rw [k0,dZ,decide_eq_true_iff,ip];have:(aP.map λp:Str×Nat=>(Sum.inr p.1:aK))=(aP.map (·.1)).map Sum.inr:=by rw [ip];rfl
  show _∈(aP.map λp:Str×Nat=>(Sum.inr p.1:aK))↔_;rw [this];exact cP
 generalize (aP.map λp=>((Sum.inr p.1:aK),V.int (p.2:Int)))=kE at Ae ⊢;have s2:=s1.trans (af he (.dK kE));have e2:upd H1 e (.dK kE) e=some (.dK kE):=ae;generalize upd H1 e (.dK kE)=H2 at s2 e2;refine⟨_,rfl,R,rs,aa,rfl,s2.seq hR,cS.same s2,bq,λD2 H3 f3 s3 e3=>?_⟩;have Iq:=h_ (aa.map (·.1)) [];simp only [jh,av] at Iq;refine⟨D2,rfl,⟨_,aH.of e3⟩,λD3 I8=>qj (aH.of e3) ∅ I8 λts ps H4 s4 e4 m4 p4 l4 n4=>?_⟩;have n1:(ps.map (·.1)).Nodup:=by rw [m4];exact nE _ i4
 have CN:Paired (λt (kv:aK×V)=>aZ K H4 t [kV kv.1,kv.2]) ts (ps.map iM):=cE p4 λ_ _ z=>z;refine⟨D3,ts,_,rfl,e4,CN,λd rP=>?_⟩;have MY:cN (ps.map iM) []=ps.map iM:=mq _ [] (by
  rw [oH,l_];exact uj n1)
 rw [MY];have s5:=((s2.trans s3).trans s4).trans (af rP (.dK (ps.map iM)));have vi:=af rP (.dK (ps.map iM));have e5:upd H4 d (.dK (ps.map iM)) d=some (.dK (ps.map iM)):=ae;have M4:=vi _ _ (s4 _ _ (s3 _ _ e2));have wG:H d=none:=((s2.trans s3).trans s4).free rP;have S5:A9 K ps (λ_=>[]) (upd H4 d (.dK (ps.map iM))) d:=⟨.inl e5,n1,n4,λp hp=>⟨[],vi _ _ (l4 p hp).1,.nil⟩⟩;have Kf:∀p∈ps,H p.2=none:=λp hp=>(s2.trans s3).free (l4 p hp).2.1;generalize upd H4 d (.dK (ps.map iM))=H5 at s5 e5 M4 S5;clear vi;have eb:(λz=>(a_ kE (Sum.inr z)).isSome)=λz=>decide (z∈aP.map (·.1)):=funext Ae;refine⟨_,rfl,R,_,rfl,s5.seq hR,?_⟩
 let uR:qt:=λi σ H6=>∃(st:Str->List (Nat×Nat))(y3 y4 y5 y6 y7:Option V),σ=[aI R,aI e,aI d,y3,y4,y5,y6,y7]/\aC H H6/\H6 e=some (.dK kE)/\H6 d=some (.dK (ps.map iM))/\A9 K ps st H6 d /\
  (∀n,(st n).length<=8 * i)/\∀n k j,n∈hd aa->((k,j)∈st n↔k < i/\Kx aa (hd aa) (λz=>decide (z∈aP.map (·.1))) n k j)
 refine jD (xs:=rs.map V.ref) uR
  ⟨λ_=>[],none,none,none,none,none,rfl,s5,M4,e5,S5,by simp,by simp⟩ ?_ ?_ ?_
 .rintro i σ H6 _ ⟨st,y3,y4,y5,y6,y7,rfl,s6,_⟩;exact s6.seq hR
 .rintro i x σ H6 t ex ⟨st,y3,y4,y5,y6,y7,rfl,s6,Jl,Rw,S6,l6,c6⟩ ht
  ac_nf0
  rw [bo] at ex;obtain⟨r,er,rfl⟩:=b9.mp ex;obtain⟨ru,p_,p,v1,v2⟩:=cS.get er;have nr:=cy p_;have Kd:=h8 ru nr;have li:=(bc.mp p_).1;have wy:=af ht (.tup [.int (i:Int),.ref r]);have Gp:aZ K (upd H6 t (.tup [.int (i:Int),.ref r])) t [.int (i:Int),.ref r]:=aZ.of ae;have s7:=s6.trans wy;have Jk:=wy _ _ Jl;have U_:=wy _ _ Rw;have S7:=S6.same wy;generalize upd H6 t (.tup [.int (i:Int),.ref r])=H7 at Gp s7 Jk U_ S7;refine⟨t,_,rfl,Gp,rfl,_,_,rfl,_,_,rfl,rfl,?_⟩;refine⟨_,rfl,r,_,_,_,rfl,rfl,s7.tup v1,rfl,p,_,rfl,s7.tup v2,λD5 Kc=>v7 rfl (s7.tup v2) ∅ Jk Kc λH8 JM e8=>?_⟩;rw [eb] at e8;have s8:=s7.trans JM;have ee8:=JM _ _ Jk;have ed8:=JM _ _ U_;have S8:=S7.same JM;have Xg:∀p∈ps,p.2≠D5:=λp hp z=>by
   obtain⟨SU,a,_⟩:=S7.lst p hp;rw [z,Kc] at a;cases a
  obtain⟨pn,vK,wH⟩:∃pn∈ps,pn.1=ru.1:=by
   have:ru.1∈ps.map (·.1):=by rw [m4];exact(gB _ _ _).mpr (.inr (gW nr))
   obtain⟨pn,a,b⟩:=cH.mp this;exact⟨pn,a,b⟩
  refine⟨_,rfl,r,_,_,_,rfl,rfl,s8.tup v1,rfl,p,_,rfl,s8.tup v2,?_⟩
  let AX:qt:=λj σ H9=>∃(st:Str->List (Nat×Nat))(y5 y6:Option V),σ=[aI R,aI e,aI d,some (.int (i:Int)),aI r,y5,y6,aI D5]/\aC H H9/\H9 e=some (.dK kE)/\H9 d=some (.dK (ps.map iM))/\A9 K ps st H9 d /\
   H9 D5=some (.lst ((Ay (λz=>decide (z∈aP.map (·.1))) ru.2 ru.2.length).map V.int))/\(∀n,(st n).length<=8 * i+j)/\∀n k j',n∈hd aa->((k,j')∈st n↔(k < i\/(k=i/\j' < j))/\Kx aa (hd aa) (λz=>decide (z∈aP.map (·.1))) n k j')
  refine ny (xs:=ru.2.map V.str) AX
   ⟨st,_,_,rfl,s8,ee8,ed8,S8,e8,λn=>l6 n,λn k j' hn=>by rw [c6 n k j' hn];simp⟩ ?_ ?_ ?_
  .rintro j σ H9 _ ⟨st,y5,y6,rfl,s9,_⟩;exact s9.tup v2
  .rintro j x σ H9 t2 kY ⟨st,y5,y6,rfl,s9,Rt,Rv,S9,e9,l9,c9⟩ i9
   ac_nf0
   rw [bo] at kY;obtain⟨z,ez,rfl⟩:=b9.mp kY;have lj:=(bc.mp ez).1;have vh:=af i9 (.tup [.int (j:Int),.str z]);have CS:aZ K (upd H9 t2 (.tup [.int (j:Int),.str z])) t2 [.int (j:Int),.str z]:=aZ.of ae;have ua:=s9.trans vh;have uG:=vh _ _ Rt;have om:=vh _ _ Rv;have A6:=vh _ _ e9;have G4:=S9.same vh;generalize upd H9 t2 (.tup [.int (j:Int),.str z])=yu at CS ua uG om A6 G4;have mem:(a_ (ps.map iM) (Sum.inr z)).isSome=true↔z∈hd aa:=by rw [dZ,l_,m4];exact cP
   have ju:¬(z∈hd aa/\E_ (λz=>decide (z∈aP.map (·.1))) ru.2 j=true)->∀n k j',n∈hd aa->((k,j')∈st n↔(k < i\/(k=i/\j' < j+1))/\Kx aa (hd aa) (λz=>decide (z∈aP.map (·.1))) n k j'):=λhn n k j' QE=>by
    rw [c9 n k j' QE];constructor
    .rintro⟨h1,h3⟩;exact⟨∅,h3⟩
    rintro⟨h1,h3⟩;refine⟨?_,h3⟩;by_cases c:k=i/\j'=j
    .obtain⟨zW,z',a1,a2,a3,a4,a5⟩:=h3;rw [c.1,p_] at a1;cases a1;rw [c.2] at a5;rw [c.2,ez] at a3;cases a3;exact absurd ⟨a4,a5⟩ hn
    omega
   have T6:∀n,(st n).length<=8 * i+(j+1):=λn=>by have:=l9 n;omega
   refine⟨t2,_,rfl,CS,rfl,_,_,rfl,_,_,rfl,rfl,?_⟩;refine⟨_,rfl,_,rfl,d,_,rfl,cq.k (k:=Sum.inr z) om,_,rfl,?_⟩;refine cu (λc=>?_) (λc=>?_)
   .have hz:=mem.mp c;refine⟨_,rfl,tE,λl1 Uw=>?_⟩;have EG:=af Uw (.lst []);have Ej:upd yu l1 (.lst []) l1=some (.lst []):=ae;have W3:l1≠D5:=(aw A6 Uw).symm;generalize upd yu l1 (.lst [])=AZ at EG Ej;refine⟨_,rfl,G9,λl2 qH=>?_⟩;have F1:=af qH (.lst [.int (j:Int)]);have GB:upd AZ l2 (.lst [.int (j:Int)]) l2=some (.lst [.int (j:Int)]):=ae;have PL:l2≠D5:=(aw (EG _ _ A6) qH).symm;generalize upd AZ l2 (.lst [.int (j:Int)])=wk at F1 GB;refine⟨kW,λt3 Me=>?_⟩;have NW:=af Me (.tup [.ref l1,.ref l2]);have Vw:aZ K (upd wk t3 (.tup [.ref l1,.ref l2])) t3 [.ref l1,.ref l2]:=aZ.of ae;generalize upd wk t3 (.tup [.ref l1,.ref l2])=zM at NW Vw;have og:=(EG.trans F1).trans NW;refine⟨t3,D5,l1,l2,_,[],[(j:Int)],rfl,rfl,Vw,aH.of (og _ _ A6),aH.of (NW _ _ (F1 _ _ Ej)),aH.of (NW _ _ GB),W3,PL,_,rfl,?_⟩;have DG:=G4.same og;have HG:=ua.trans og;refine cu (λc2=>?_) (λc2=>?_)
    .obtain⟨SR,an,bn⟩:=DG.lst pn vK;have vn:=gq ps n1 pn vK;rw [wH] at vn;have hg:cq zM d (.str ru.1) (some (.ref pn.2)):=by
      have:=cq.k (k:=Sum.inr ru.1) (og _ _ om);rw [vn] at this;exact this
     have ltn:=bB bn;have l9n:=l9 pn.1;refine⟨_,rfl,_,rfl,r,_,_,_,rfl,rfl,HG.tup v1,rfl,d,_,rfl,hg,.inl ⟨rfl,_,aH.of an⟩,_,rfl,_,rfl,kW,λt4 An=>?_⟩;have xr:=af An (.tup [.int (i:Int),.int (j:Int)]);have Vv:aZ K (upd zM t4 (.tup [.int (i:Int),.int (j:Int)])) t4 [.int (i:Int),.int (j:Int)]:=aZ.of ae;generalize upd zM t4 (.tup [.int (i:Int),.int (j:Int)])=H14 at xr Vv;have Np:=DG.same xr;have FA:=xr _ _ an;have RX:=Paired.fj bn λt' (e':Nat×Nat)(z:aZ K zM t' [.int (e'.1:Int),.int (e'.2:Int)])=>xr.tup z;refine⟨pn.2,_,_,rfl,rfl,FA,bf (by rw [av];omega),?_⟩;have Su:=Np.more (e:=(i,j)) vK FA RX Vv;have ne1:e≠pn.2:=λz=>by have:=xr _ _ (og _ _ uG);rw [z,FA] at this;cases this
     have ne2:d≠pn.2:=λz=>by have:=xr _ _ (og _ _ om);rw [z,FA] at this;cases this
     refine⟨sr st pn.1 (i,j),_,_,rfl,λb o hb=>?_,by rw [ai ne1];exact xr _ _ (og _ _ uG),by rw [ai ne2];exact xr _ _ (og _ _ om),Su,by rw [ai (Xg pn vK).symm];exact xr _ _ (og _ _ A6),λn=>?_,λn k j' QE=>?_⟩
     .rw [ai (λz=>by rw [z,Kf pn vK] at hb;cases hb)];exact xr _ _ (HG b o hb)
     .have:=l9 n;unfold sr
      split
      .rw [bO];simp;omega
      omega
     have hit:Kx aa (hd aa) (λz=>decide (z∈aP.map (·.1))) ru.1 i j:=⟨ru,z,p_,rfl,ez,hz,c2⟩;have GU:=c9 n k j' QE;unfold sr;by_cases cn:n=pn.1
     .rw [ax cn,cD,cT,GU];constructor
      .rintro(⟨h1,h3⟩ | h1)
       .exact⟨∅,h3⟩
       cases h1;exact⟨∅,by rw [cn,wH];exact hit⟩
      rintro⟨h1,h3⟩;by_cases cc:k=i/\j'=j
      .exact .inr (by rw [cc.1,cc.2])
      exact .inl ⟨∅,h3⟩
     rw [ay cn,GU];constructor
     .rintro⟨h1,h3⟩;exact⟨∅,h3⟩
     rintro⟨h1,h3⟩;refine⟨?_,h3⟩;by_cases cc:k=i/\j'=j
     .obtain⟨zW,z',a1,a2,_⟩:=h3;rw [cc.1,p_] at a1;cases a1;exact absurd (a2.symm.trans wH.symm) cn
     omega
    exact⟨st,_,_,rfl,HG,og _ _ uG,og _ _ om,DG,og _ _ A6,T6,ju λ⟨_,h⟩=>c2 h⟩
   exact⟨st,_,_,rfl,ua,uG,om,G4,A6,T6,ju λ⟨h,_⟩=>c (mem.mpr h)⟩
  rintro σ H9 ⟨st,y5,y6,rfl,s9,Rt,Rv,S9,e9,l9,c9⟩;rw [av] at l9 c9;refine⟨st,_,_,_,_,_,rfl,s9,Rt,Rv,S9,λn=>?_,λn k j' hn=>?_⟩
  .have:=l9 n;omega
  rw [c9 n k j' hn];constructor
  .rintro⟨h1 | ⟨h1,h2⟩,h3⟩
   .exact⟨∅,h3⟩
   exact⟨∅,h3⟩
  rintro⟨h1,h3⟩;refine⟨?_,h3⟩;by_cases c:k < i
  .exact .inl c
  refine .inr ⟨∅,?_⟩;obtain⟨zW,z',a1,_,a3,_⟩:=h3;have:k=i:=by omega
  rw [this,p_] at a1;cases a1;exact(bc.mp a3).1
 rintro σ H6 ⟨st,y3,y4,y5,y6,y7,rfl,s6,Jl,Rw,S6,l6,c6⟩;rw [av,ll] at c6;refine⟨_,rfl,q d ps st aP H6 wG s6 Rw S6 m4 Kf emp kP λn k j hn=>?_⟩;rw [c6 n k j hn];constructor
 .exact λh=>h.2
 intro h;obtain⟨zW,_,a1,_⟩:=id h;exact⟨(bc.mp a1).1,h⟩
end
end gT
namespace L2
open PySem
def cq.r {H:Hp}{a:Addr}{kvs:List (aK×V)}{k:aK}(e:Rd H a (.dK kvs)):cq H a (kV k) (a_ kvs k):=.inl ⟨kvs,k,e,rfl,rfl⟩
end L2
namespace gT
open PySem L2 M11
section
def Down (aa:List au) (names:List Str)(st:Str->List (Nat×Nat))(rk:Str->Nat):Prop:=∀n∈names,∀e∈st n,∃ru z,aa[e.1]?=some ru/\ru.2[e.2]?=some z/\z∈names/\rk z < rk n
def FT (K:a8):Sp:=λvs H Q _=>∃(R d:Addr)(rs:List Addr)(aa:List au)(ps:List (Str×Addr))(st:Str->List (Nat×Nat))(name:Str)(rk:Str->Nat),vs=[.ref R,.ref d,.str name]/\aH K H R (rs.map V.ref)/\bE K H rs aa/\aa.length<=1000 /\
 A9 K ps st H d/\ps.length<=1000/\name∈ps.map (·.1)/\Down aa (ps.map (·.1)) st rk/\∀(D:Addr)(H':Hp),H D=none->aC H H'->H' D=some (.lst [])->Q (.ref D) H'
structure A8 (K:a8) (names:List Str)(rk:Str->Nat)(name:Str)(H H5:Hp)(D m:Addr)(kb:List Addr)(i5:List (Str×Addr)) (ms:List Str)(kvs:List (aK×V)):Prop where
 sm:aC H H5
 hD:H5 D=some (.lst (kb.map V.ref))
 hm:H5 m=some (.dK kvs)
 keys:kvs.map (·.1)=ms.map Sum.inr
 nd:ms.Nodup
 sub:∀x∈ms,x∈names
 wl:i5.length=ms.length+1
 wv:Paired (λt (e:Str×Addr)=>aZ K H5 t [.str e.1,.ref e.2]) kb i5
 we:∀e∈i5,e.1∈names/\rk e.1<=rk name/\∃xs,H5 e.2=some (.lst xs)/\xs.length<=i5.length/\e.2≠D
def A8.same {names:List Str}{rk:Str->Nat}{name:Str}{H H5 H6:Hp}{D m:Addr}{kb:List Addr}{i5:List (Str×Addr)}{ms:List Str}{kvs:List (aK×V)}(h:A8 K names rk name H H5 D m kb i5 ms kvs)(s:aC H5 H6):A8 K names rk name H H6 D m kb i5 ms kvs :=
 ⟨h.sm.trans s,s _ _ h.hD,s _ _ h.hm,h.keys,h.nd,h.sub,h.wl,Paired.fj h.wv λ_ _ z=>s.tup z,λe he=>let ⟨a,b,xs,c,d⟩:=h.we e he;⟨a,b,xs,s _ _ c,d⟩⟩
def A8.len {names:List Str}{rk:Str->Nat}{name:Str}{H H5:Hp}{D m:Addr}{kb:List Addr}{i5:List (Str×Addr)}{ms:List Str}{kvs:List (aK×V)}(h:A8 K names rk name H H5 D m kb i5 ms kvs):kb.length=i5.length/\kvs.length=ms.length/\ms.length<=names.length:=by
 refine⟨bB h.wv,?_,fK _ _ h.nd h.sub⟩;have:=congrArg List.length h.keys;simpa using this
def A8.more {names:List Str}{rk:Str->Nat}{name z:Str}{H H5 H9:Hp}{D m t c:Addr}{kb:List Addr}{i5:List (Str×Addr)}{ms:List Str}{kvs:List (aK×V)}{xs:List V}(h:A8 K names rk name H H5 D m kb i5 ms kvs)(fD:H D=none)(fm:H m=none)
  (hz:z∈names)(hr:rk z<=rk name)(hn:z∉ms)(s:aC (upd H5 m (.dK (bH kvs (Sum.inr z) (.bl true)))) H9)(ht:aZ K H9 t [.str z,.ref c])(hc:H9 c=some (.lst xs))(hx:xs.length<=i5.length+1)(nc:c≠D) :
  A8 K names rk name H (upd H9 D (.lst (kb.map V.ref++[.ref t]))) D m (kb++[t]) (i5++[(z,c)]) (ms++[z]) (bH kvs (Sum.inr z) (.bl true)):=by
 have N3:D≠m:=λe=>by have:=h.hD;rw [e,h.hm] at this;cases this
 have wD:H9 D=some (.lst (kb.map V.ref)):=s _ _ (by rw [ai N3];exact h.hD);have YH:H9 m=some (.dK (bH kvs (Sum.inr z) (.bl true))):=s _ _ ae;refine⟨λb o hb=>?_,by rw [ae,bC];rfl,by rw [ai N3.symm];exact YH,?_,?_,?_,?_,?_,?_⟩
 .rw [ai (λe=>by rw [e,fD] at hb;cases hb)];exact s _ _ (by rw [ai (λe=>by rw [e,fm] at hb;cases hb)];exact h.sm b o hb)
 .rw [hX (by rw [h.keys];exact λe=>hn (cP.mp e)),h.keys,bC];rfl
 .refine jj.mpr ⟨h.nd,by simp,λa ha b hb e=>?_⟩;rw [cT.mp hb] at e;exact hn (e ▸ ha)
 .intro x Ql;rcases cD.mp Ql with e | e
  .exact h.sub x e
  rw [cT.mp e];exact hz
 .rw [bO,bO,h.wl];rfl
 .exact f_ (Paired.fj h.wv λ_ _ e=>aX wD (s.tup (gF h.hm e))) (aX wD ht)
 intro e he;rw [bO];rcases cD.mp he with e' | e'
 .obtain⟨a,b,ys,c1,d1,n1⟩:=h.we e e';exact⟨a,b,ys,by rw [ai n1];exact s _ _ (by rw [ai (λq=>by rw [q,h.hm] at c1;cases c1)];exact c1),∅,n1⟩
 rw [cT.mp e'];exact⟨hz,hr,xs,by rw [ai nc];exact hc,hx,nc⟩
def lL:aN ["rules","steps","name","ways","met","at","way","number","place","part"] ["rules","steps","name"] (az Hs):=iY rfl rfl rfl rfl nofun
def Ic (F:ik K "way_back" "way_back" Hs f fd)(T:Txt mg):bN P w K mg base fS 1 f fd ["rules","steps","name"] (FT K):=by
 refine F.ok lL (λvs H Q E h=>?_) (λd0 A outer s H vs Q E hr h=>?_)
 .obtain⟨R,d,rs,aa,ps,st,name,rk,rfl,_⟩:=h;rfl
 obtain⟨R,d,rs,aa,ps,st,name,rk,rfl,hR,cS,bq,S,JZ,CY,QT,q⟩:=h;have hu:=gp hr;refine⟨_,ak (aB (i:=3) lL.nd rfl (ba rfl) (bR (ab (bD (ab (pv 2) (ab (bR aj) aj))) aj)))
  (ak (aB (i:=4) lL.nd rfl (ba rfl) fg)
  (ak (aB (i:=5) lL.nd rfl (ba rfl) ar)
  (ak (jz b_ (br nQ (pv 5) (aL bz rfl T.len gb (ab (pv 3) aj)) (cw _))
   (ak (aB (i:=6) lL.nd rfl (ba rfl) (bJ bX (bJ cO (pv 3) (pv 5) (λ_ _=>rfl)) ar (λ_ _=>rfl)))
   (ak (bL b_ rfl (aS (eK hu (pv 1) (bJ bX (bJ cO (pv 3) (pv 5) (λ_ _=>rfl)) ar (λ_ _=>rfl)) (λ_ _=>rfl))) (fA rfl (aA (aq (i:=7) lL.nd rfl (ba rfl)) (aA (aq (i:=8) lL.nd rfl (ba rfl)) bF)))
    (ak (aB (i:=9) lL.nd rfl (ba rfl) (bJ bX (bJ bX (bJ cO (pv 0) (pv 7) (λ_ _=>rfl)) ar (λ_ _=>rfl)) (pv 8) (λ_ _=>rfl)))
    (ak (b8 (br i8 (pv 9) (pv 2) (cw _)) (ao gZ) aY)
    (ao (b8 (fw (dU hu (pv 9) (pv 4)))
     (ak (gy hu (pv 4) (pv 9) eX rfl) (ao (bT (fh e_ fc ff bh (pv 3) (ab (bD (ab (pv 9) (ab (aM pH (pv 6) (bR (ab (bD (ab (pv 7) (ab (pv 8) aj))) aj))) aj))) aj))))) aY)))))
   (ao (HV (i:=5) lL.nd rfl (ba rfl) ar IE)))))
  (ao (bu (bR aj)))))),?_⟩
 nofun
 have zj:(ps.map (·.1)).length=ps.length:=av _;refine⟨_,rfl,tE,λl0 Ob=>?_⟩;have s1:=af Ob (.lst []);have e1:upd H l0 (.lst []) l0=some (.lst []):=ae;generalize upd H l0 (.lst [])=H1 at s1 e1;refine⟨kW,λt0 Yp=>?_⟩;have s2:=af Yp (.tup [.str name,.ref l0]);have e2:aZ K (upd H1 t0 (.tup [.str name,.ref l0])) t0 [.str name,.ref l0]:=aZ.of ae;generalize upd H1 t0 (.tup [.str name,.ref l0])=H2 at s2 e2;refine⟨G9,λD hD=>?_⟩;have s3:=af hD (.lst [.ref t0]);have e3:upd H2 D (.lst [.ref t0]) D=some (.lst ([t0].map V.ref)):=ae;have W4:l0≠D:=aw (s2 _ _ e1) hD;generalize upd H2 D (.lst [.ref t0])=H3 at s3 e3;intro m hm;have s4:=af hm (.dK []);have e4:upd H3 m (.dK []) m=some (.dK []):=ae;generalize upd H3 m (.dK [])=H4 at s4 e4;have fD:H D=none:=(s1.trans s2).free hD;have fm:H m=none:=((s1.trans s2).trans s3).free hm;have W0:A8 K (ps.map (·.1)) rk name H H4 D m [t0] [(name,l0)] [] []:=⟨((s1.trans s2).trans s3).trans s4,s4 _ _ e3,e4,rfl,i4,by simp,rfl,.cons ((s3.trans s4).tup e2) .nil,λe he=>by
  rw [cT.mp he];exact⟨CY,aG _,[],s4 _ _ (s3 _ _ (s2 _ _ e1)),by simp,W4⟩⟩
 refine⟨λmm σ H5=>∃(kb:List Addr)(i5:List (Str×Addr)) (ms:List Str)(kvs:List (aK×V)) (at_:Nat)(y6 y7 y8 y9:Option V),σ=[aI R,aI d,some (.str name),aI D,aI m,some (.int (at_:Int)),y6,y7,y8,y9]/\A8 K (ps.map (·.1)) rk name H H5 D m kb i5 ms kvs /\
  at_<=i5.length/\mm=1002 - at_,⟨1002,[t0],[(name,l0)],[],[],0,none,none,none,none,rfl,W0,by simp,rfl⟩,?_⟩
 rintro mm σ H5 ⟨kb,i5,ms,kvs,at_,y6,y7,y8,y9,rfl,W,UL,rfl⟩;obtain⟨lw,lk,lm⟩:=W.len;have XF:=W.wl;refine⟨_,rfl,_,rfl,D,_,rfl,.inl (aH.of W.hD),_,_,rfl,rfl,_,rfl,?_⟩;refine cu (λc=>?_) (λc=>?_)
 .have c':=dA c;rw [av,lw] at c';have jd:at_ < i5.length:=by omega
  obtain⟨n,l,en⟩:∃n l,i5[at_]?=some (n,l):=⟨(i5[at_]).1,(i5[at_]).2,c_ jd⟩;obtain⟨t1,Z7,Up⟩:=Paired.at_ W.wv at_ (n,l) en;have VH:qL (kb.map V.ref) (at_:Int)=some (.ref t1):=dN (by rw [bo,Z7];rfl);obtain⟨hn,Yx,xs,hl,hxl,Im⟩:=W.we (n,l) (cy en);dsimp only at hn Yx hl Im;obtain⟨pn,vK,wH⟩:=cH.mp hn;have vn:=gq ps S.n1 pn vK;rw [wH] at vn;obtain⟨SR,an,bn⟩:=S.lst pn vK;rw [wH] at bn;refine⟨λσ H5=>∃(kb:List Addr)(i5:List (Str×Addr)) (ms:List Str)(kvs:List (aK×V))(y6 y7 y8 y9:Option V),σ=[aI R,aI d,some (.str name),aI D,aI m,some (.int ((at_+1:Nat):Int)),y6,y7,y8,y9]/\A8 K (ps.map (·.1)) rk name H H5 D m kb i5 ms kvs/\at_+1<=i5.length,?_,?_⟩
  .rintro σ H6 ⟨kb,i5,ms,kvs,y6,y7,y8,y9,rfl,W2,h2⟩;exact⟨1002 - (at_+1),∅,kb,i5,ms,kvs,at_+1,_,_,_,_,rfl,W2,h2,rfl⟩
  refine⟨_,rfl,_,rfl,D,_,_,_,rfl,rfl,aH.of W.hD,VH,t1,_,_,_,rfl,rfl,Up,rfl,?_⟩;have hg:cq H5 d (.str n) (some (.ref pn.2)):=by
   have:=cq.r (k:=Sum.inr n) (Rd.same S.hd W.sm);rw [vn] at this;exact this
  refine⟨_,rfl,_,rfl,_,rfl,D,_,_,_,rfl,rfl,aH.of W.hD,VH,t1,_,_,_,rfl,rfl,Up,rfl,d,_,rfl,hg,pn.2,rfl,⟨_,aH.of (W.sm _ _ an)⟩,?_⟩
  let uR:qt:=λi σ H6=>∃(kb:List Addr)(i5:List (Str×Addr)) (ms:List Str)(kvs:List (aK×V))(y7 y8 y9:Option V),σ=[aI R,aI d,some (.str name),aI D,aI m,some (.int (at_:Int)),aI l,y7,y8,y9]/\A8 K (ps.map (·.1)) rk name H H6 D m kb i5 ms kvs /\
   at_+1<=i5.length/\∃e∈i5,e.2=l
  refine cf (xs:=SR.map V.ref) uR ⟨kb,i5,ms,kvs,_,_,_,rfl,W,jd,(n,l),cy en,rfl⟩ ?_ ?_ ?_
  .rintro i σ H6 _ ⟨kb,i5,ms,kvs,y7,y8,y9,rfl,W2,_⟩;exact aH.of (W2.sm _ _ an)
  .rintro i x σ H6 ex ⟨kb,i5,ms,kvs,y7,y8,y9,rfl,W2,h2,e0,QS,Ru⟩
   ac_nf0
   rw [bo] at ex;obtain⟨ti,UY,rfl⟩:=b9.mp ex;have lbn:=bB bn;have lti:=(bc.mp UY).1;obtain⟨⟨k,j⟩,U7⟩:∃e,(st n)[i]?=some e:=⟨(st n)[i]'∅,c_ ∅⟩;obtain⟨ti',MV,Yo⟩:=Paired.at_ bn i (k,j) U7;rw [UY] at MV;cases MV;obtain⟨ru,z,er,ez,hz,Yy⟩:=QT n hn (k,j) (cy U7);obtain⟨r,Kh,p,v1,v2⟩:=Paired.at_ cS k ru er;have Se:qL (rs.map V.ref) (k:Int)=some (.ref r):=dN (by rw [bo,Kh];rfl);have Sd:qL (ru.2.map V.str) (j:Int)=some (.str z):=dN (by rw [bo,ez];rfl);obtain⟨lw2,N4,XQ⟩:=W2.len;have TU:=W2.wl;refine⟨ti,_,rfl,W2.sm.tup Yo,rfl,_,_,rfl,_,_,rfl,rfl,?_⟩;refine⟨_,rfl,_,rfl,R,_,_,_,rfl,rfl,W2.sm.seq hR,Se,r,_,_,_,rfl,rfl,W2.sm.tup v1,rfl,_,rfl,p,_,_,_,rfl,rfl,W2.sm.tup v2,Sd,?_⟩;refine⟨_,rfl,_,rfl,rfl,_,rfl,?_⟩;have nz:z≠name:=λe=>by rw [e] at Yy;omega
   refine cu (λc=>absurd (dA c) (λe=>nz (by injection e))) (λ_=>?_);have mem:(a_ kvs (Sum.inr z)).isSome=true↔z∈ms:=by rw [dZ,W2.keys];exact cP
   refine⟨_,rfl,_,rfl,m,_,rfl,cq.k (k:=Sum.inr z) W2.hm,_,rfl,?_⟩;refine cu (λc=>?_) (λc=>?_)
   .have nm:z∉ms:=λh=>by rw [mem.mpr h] at c;exact absurd c nofun
    refine⟨_,rfl,_,rfl,m,_,rfl,kU.k (k:=Sum.inr z) W2.hm (bf ∅),?_⟩;obtain⟨_,_,Et,qH,Yh,PL⟩:=W2.we e0 QS;rw [Ru] at qH PL;have N3:D≠m:=λe=>by have:=W2.hD;rw [e,W2.hm] at this;cases this
    have WY:l≠m:=λe=>by rw [e,W2.hm] at qH;cases qH
    have I0:upd H6 m (.dK (bH kvs (Sum.inr z) (.bl true))) D=some (.lst (kb.map V.ref)):=by rw [ai N3];exact W2.hD
    have YK:upd H6 m (.dK (bH kvs (Sum.inr z) (.bl true))) l=some (.lst Et):=by rw [ai WY];exact qH
    refine⟨_,rfl,.inl ⟨rfl,_,aH.of I0⟩,_,rfl,_,rfl,_,rfl,_,rfl,kW,λt4 An=>?_⟩;have Ti:=af An (.tup [.int (k:Int),.int (j:Int)]);generalize upd (upd H6 m (.dK (bH kvs (Sum.inr z) (.bl true)))) t4 (.tup [.int (k:Int),.int (j:Int)])=H7 at Ti;refine⟨G9,λl4 YM=>?_⟩;have Th:=af YM (.lst [.ref t4]);have Vu:upd H7 l4 (.lst [.ref t4]) l4=some (.lst [.ref t4]):=ae;generalize upd H7 l4 (.lst [.ref t4])=H8 at Th Vu;have JN:=Ti.trans Th;refine⟨l,l4,Et,[.ref t4],rfl,rfl,JN _ _ YK,Vu,fits (by simp;omega),λc0 UI=>?_⟩;have Tf:=af UI (.lst (Et++[.ref t4]));have Vt:upd H8 c0 (.lst (Et++[.ref t4])) c0=some (.lst (Et++[.ref t4])):=ae;have W9:c0≠D:=(aw (JN _ _ I0) UI).symm;generalize upd H8 c0 (.lst (Et++[.ref t4]))=H9 at Tf Vt;refine⟨kW,λt5 Md=>?_⟩;have Pf:=af Md (.tup [.str z,.ref c0]);have Vs:aZ K (upd H9 t5 (.tup [.str z,.ref c0])) t5 [.str z,.ref c0]:=aZ.of ae;generalize upd H9 t5 (.tup [.str z,.ref c0])=yu at Pf Vs;have sA:=(JN.trans Tf).trans Pf;refine⟨D,_,_,rfl,rfl,sA _ _ I0,bf (by rw [av];omega),?_⟩;exact⟨kb++[t5],i5++[(z,c0)],ms++[z],_,_,_,_,rfl,W2.more fD fm hz ∅ nm sA Vs (Pf _ _ Vt) (by rw [bO];simp;omega) W9,by rw [bO];omega,e0,eV _ QS,Ru⟩
   exact⟨kb,i5,ms,kvs,_,_,_,rfl,W2,h2,e0,QS,Ru⟩
  rintro σ H6 ⟨kb,i5,ms,kvs,y7,y8,y9,rfl,W2,h2,_⟩;exact⟨_,rfl,_,_,rfl,rfl,kb,i5,ms,kvs,_,_,_,_,rfl,W2,h2⟩
 refine⟨tE,λD9 wD=>q D9 _ (W.sm.free wD) (W.sm.trans (af wD _)) ae⟩
end
end gT
namespace L2
open PySem PySem.Spec PyProof.Rows
section
variable {prog:Program}{w:World}{A:Around}{E:Value->Shared->Prop}{s:Shared}
def wc (a b c:Value):argsOk "min" ⟨[a],[("key",b),("default",c)]⟩:=by unfold argsOk;kernel_rfl
def qK {l:Addr}{kf dv:Value}{Q:Value->Shared->Prop}(hh:A.handled=none)(hl:s.heap.IsList l #[])(h:∀h' tk,(∀b o,s.heap.get? b=some o->h'.get? b=some o)->Q dv { s with heap:=h',toks:=tk }) :
  wpAny (model prog w) A (call (.builtin "min") [.ref l] [("key",kf),("default",dv)]) Q E s:=by
 have CY:(toString "min" ++ toString ".loop":String) = "min.loop" := by decide
 refine wpAny_call (codeAny_call_builtin F.plain_min F.entry_min ?_);have core:wpAny (model prog w) A.in1 (Builtin.«min» ⟨[.ref l],[("key",kf),("default",dv)]⟩) (λfin s'=>match fin with
   | .done f=>(match (Except.ok f:Result) with | .ok (.ret v)=>Q v s' | .ok _=>False | .error e=>E e s')
   | .again c'=>c'.quiet=true/\codeAny (model prog w) A c' (λr s'=>match r with | .ok (.ret v)=>Q v s' | .ok _=>False | .error e=>E e s') s') E s:=by
  show wpAny _ A.in1 (Builtin.Builtins.bindParams "min" ["key","default"] 0 ⟨[],[("key",kf),("default",dv)]⟩ >>= _) _ _ s;refine aE (wpAny_of_eq (show Builtin.Builtins.bindParams "min" ["key","default"] 0 ⟨[],[("key",kf),("default",dv)]⟩=pure [some kf,some dv] from rfl) ?_);refine aE (aR ?_);refine aE (mQ hl ?_);refine aE (k_ ?_);rw [CY];obtain⟨ol,h1,h2⟩:=id hl;generalize hG:s.heap.push { cls:=.type "list_iterator",data:=.fields #[.ref l,.int 0 0] }=G;have k1:∀b o,s.heap.get? b=some o->G.get? b=some o:=λb o e=>by rw [<-hG];exact bW _ e
  have hi:G.get? s.heap.objs.size=some { cls:=.type "list_iterator",data:=.fields #[.ref l,.int 0 0] }:=by rw [<-hG];exact dq _ rfl
  refine aR ⟨mD F.plain_min_loop _,oQ F.entry_min_loop ?_⟩;rw [oW F.plain_min_loop _];show wpAny _ A.in1 (seqItems? (.ref G.objs.size) >>= _) _ _ _;refine aE (oN (dq _ rfl) rfl ?_);show wpAny _ A.in1 (tryCatch (pyNext (.ref s.heap.objs.size)) _ >>= _) _ _ _;refine aE (wpAny_tryCatch (sV (show A.in1.handled=none from hh) ⟨_,bW _ hi,rfl,rfl⟩ ⟨ol,bW _ (k1 _ _ h1),h2⟩ (by simp) λh' eb=>?_));refine aE (wpAny_rule (aR ?_));exact h h' _ λb o e=>eb b o (bQ (bA e)) (bW _ (k1 b o e))
 simp only [checkBuiltinCall,F.kind_min];cases Qr:Manifest.signature? "min" with
 | none=>exact aR core
 | some sig =>
  have Zf:Bind.checkArgs "min" sig ⟨[.ref l],[("key",kf),("default",dv)]⟩=pure ():=by have:=wc (.ref l) kf dv;simpa only [argsOk,Qr] using this
  simp only [Zf];exact aR core
end
def KN (K:a8)(t:TA)(td:TE):TE:=λσ H Q=>t σ H λvs H1=>td σ H1 λdv H2=>∃a,vs=[.ref a]/\aH K H2 a []/\Q dv H2
def EK {X:Cx}{p pos lp Qd CN:Pos}{e e2:Expr}{t:TA}{td:TE}(hc:X.calm=true)(hg:Gl X "min")(hm:X.mg "min"=none)(QL:Gl X "len")(J1:X.mg "len"=none)(ha:PA X [e] t)(hd:PE X e2 td)
  (he:backTo pos (starEach [e] X.env)=(false,eval e X.env)::backTo pos (starEach [] X.env):=by rfl)(hp:(backTo pos (starEach [e] X.env)).any (·.1)=false:=by rfl) :
  PE X (.Call (.Name "min" p) [e] [⟨some "key",.Name "len" lp,Qd⟩,⟨some "default",e2,CN⟩] pos) (KN X.K t td):=by
 intro ag s σ H Q I h;refine oK (iV I hg hm boot_min ?_);refine callWith_kw (cJ (ha pos ag s σ H _ I h) λus s1 bj=>?_) he hp rfl rfl;obtain⟨vs,H1,I1,r1,q1⟩:=bj;refine kws_cons (iV I1 QL J1 gb (kws_cons (cJ (hd ag s1 σ H1 _ I1 q1) λu2 s2 bj=>?_)));obtain⟨dv,H2,I2,r2,a,ev,hs,q⟩:=bj;refine kws_nil ?_;subst ev;obtain⟨u,rfl,rx⟩:=vals1 r1;cases (show u=Value.ref a from rx);obtain⟨aU,rv,pl,hz⟩:=I2.list hs;cases rv;exact qK (I2.ok.hd hc) pl.isList λh' tk kk=>⟨dv,H2,I2.kept (t':=tk) kk,r2,q⟩
open PySem
def AK {K:a8}{H:Hp}{p D:Addr}{ls:List Addr}{σ:St}{x:Str}{Qp:Hp->Prop}(hp:H p=some (.lst (ls.map V.ref)))(hl:∀l∈ls,H l=some (.lst []))(hD:H D=none)(q:∀H2,aC H H2->H2 D=some (.lst [])->Qp H2) :
  ∃W:Nat->Nat->List V->St->Hp->Prop,(∃m,W 0 m [] (df [x] [] σ) (upd H D (.lst []))) /\
 ∀i m ys σ' H,W i m ys σ' H->((iL K p).stop i H/\Qp H)\/((iL K p).go i H/\∃m',m' < m/\∀x H',(iL K p).ka i H x H'->cU 0 x σ' H' λσ2 H2=>fO 0 σ2 H2 λx H'=>∃k,DE K x H' k/\(λb H3 =>
  if b=true then fO 0 σ2 H3 λy H4=>H4 D=some (.lst ys)/\ys.length < sizeLine/\W (i+1) m' (ys++[y]) σ2 (upd H4 D (.lst (ys++[y]))) else W (i+1) m' ys σ2 H3) k H'):=by
 refine cg (tif:=λσ H Q=>fO 0 σ H λx H'=>∃k,DE K x H' k/\Q k H') (xs:=ls.map V.ref) (λi ys σ2 H5=>ys=[]/\(∃y0,σ2=[y0])/\aC H H5/\H5 D=some (.lst [])) ⟨rfl,⟨none,rfl⟩,af hD _,ae⟩ (λi ys σ2 H5 _ h=>aH.of (h.2.2.1 _ _ hp)) (λi x ys σ2 H5 ex h=>?_) (λys σ2 H5 h=>?_)
 .obtain⟨rfl,⟨y0,rfl⟩,s5,e5⟩:=h;rw [bo] at ex;obtain⟨l,el,rfl⟩:=b9.mp ex;refine goN ?_;refine⟨_,rfl,false,.inl ⟨[],aH.of (s5 _ _ (hl l (cy el))),rfl⟩,?_⟩;refine hJ ?_;exact⟨rfl,⟨_,rfl⟩,s5,e5⟩
 obtain⟨rfl,_,s5,e5⟩:=h;exact q H5 s5 e5
end L2
namespace gT
open PySem L2 M11
section
def yr (aa:List au)(rk:Str->Nat):Prop:=∀aP,oF aa aP->qw aa aa.length aP->∀n k j,Kx aa (hd aa) (λz=>decide (z∈aP.map (·.1))) n k j->∀ru z,aa[k]?=some ru->ru.2[j]?=some z->rk z < rk n
def Bx (K:a8):Sp:=λvs H Q _=>∃(R:Addr)(rs:List Addr)(aa:List au)(rk:Str->Nat),vs=[.ref R]/\aH K H R (rs.map V.ref)/\bE K H rs aa/\aa.length<=1000/\(∀ru∈aa,ru.2.length<=8)/\yr aa rk /\
 ∀(D:Addr)(H':Hp),H D=none->aC H H'->H' D=some (.lst [])->Q (.ref D) H'
def xb:aN ["rules","steps","loops"] ["rules"] (az BO):=iY rfl rfl rfl rfl nofun
def EZ (F:ik K "find_loop" "find_loop" BO f fd)(T:Txt mg)(GS:aF P w K mg base 2 "steps_with_like_rows" ["rules"] (yM K))(GW:aF P w K mg base 1 "way_back" ["rules","steps","name"] (FT K)):bN P w K mg base fS 3 f fd ["rules"] (Bx K):=by
 refine F.ok xb (λvs H Q E h=>?_) (λd0 A outer s H vs Q E hr h=>?_)
 .obtain⟨R,rs,aa,rk,rfl,_⟩:=h;rfl
 obtain⟨R,rs,aa,rk,rfl,hR,cS,bq,h8,Ut,q⟩:=h;refine⟨_,ak (aB (i:=1) xb.nd rfl (Or.inr rfl) (bp GS hr rfl (ab (pv 0) aj)))
  (ak (jK (iy:=2) ["name"] [(0,"rules"),(1,"steps")] xb.nd rfl rfl rfl (yZ (pv 1)) (aV rfl rfl) nofun rfl nofun
   (λ_ _ _ _ _=>aq (i:=0) (show (["name","rules","steps"]:List Str).Nodup by decide +kernel) rfl (ba rfl)) (λ_ _ _ _ _=>bw)
   (λ_ _ _ _ _=>bp (GW.mono (by decide:1<=2)) hr rfl (ab (pv 1) (ab (pv 2) (ab (pv 0) aj)))))
  (ao (bu (EK rfl rfl T.min rfl T.len (ab (aT ["loop"] [] rfl (aS (pv 2)) (aV rfl rfl) nofun rfl nofun
   (λ_ _ _ _ _=>aq (i:=0) (show (["loop"]:List Str).Nodup by decide +kernel) rfl (ba rfl)) (λ_ _ _ _ _=>gP (zY K (pv 0) (λ_=>rfl))) (λ_ _ _ _ _=>pv 0)) aj) (bR aj))))),?_⟩
 nofun
 refine⟨_,rfl,R,rs,aa,rfl,hR,cS,bq,h8,λd ps st aP H1 ZV s1 e1 S1 m1 Kf emp kP hits=>?_⟩;have XO:ps.length<=1000:=by
  have h1:=congrArg List.length m1;have h2:=h_ (aa.map (·.1)) [];simp only [jh,av] at h2;rw [av] at h1;have h3:(hd aa).length=(uI [] (aa.map (·.1))).length:=rfl;omega
 have QT:Down aa (ps.map (·.1)) st rk:=λn hn e he=>by
  rw [m1] at hn ⊢;have hit:=(hits n e.1 e.2 hn).mp he;obtain⟨ru,z,er,_,ez,hz,_⟩:=id hit;exact⟨ru,z,er,ez,hz,Ut aP emp kP n e.1 e.2 hit ru z er ez⟩
 refine⟨_,rfl,d,_,rfl,e1,λo D hD=>?_⟩;have PF:∀p∈ps,p.2≠d:=λp hp z=>by
  obtain⟨ts,a,_⟩:=S1.lst p hp;rw [z,e1] at a;cases a
 have s2:aC H (upd H1 d (.je o (.dK (ps.map iM)))):=λb u hb=>by
  rw [ai (λz=>by rw [z,ZV] at hb;cases hb)];exact s1 b u hb
 have S2:A9 K ps st (upd H1 d (.je o (.dK (ps.map iM)))) d:=⟨.inr ⟨o,ae⟩,S1.n1,S1.n2,λp hp=>by
  obtain⟨ts,a,b⟩:=S1.lst p hp;exact⟨ts,by rw [ai (PF p hp)];exact a,Paired.fj b λ_ _ z=>gF e1 z⟩⟩
 have e2:upd H1 d (.je o (.dK (ps.map iM))) d=some (.je o (.dK (ps.map iM))):=ae;generalize upd H1 d (.je o (.dK (ps.map iM)))=H2 at hD s2 S2 e2 ⊢;refine qk (λi ys σ2 H3=>∃ls:List Addr,ys=ls.map V.ref/\ls.length=i/\(∀l∈ls,H3 l=some (.lst [])/\l≠D)/\(∃y0,σ2=[y0,aI R,aI d])/\aC H2 H3/\H3 D=some (.lst ys))
  ⟨[],rfl,rfl,by simp,⟨none,rfl⟩,af hD _,ae⟩ (λi ys σ2 H3 _ h=>?_) (λi kv ys σ2 H3 ex h=>?_) (λys σ2 H3 h=>?_)
 .obtain⟨_,_,_,_,_,sm,_⟩:=h;exact sm _ _ e2
 .obtain⟨ls,rfl,Uv,hl,⟨y0,rfl⟩,sm,ig⟩:=h;rw [bo] at ex;obtain⟨p,ep,rfl⟩:=b9.mp ex;have hp:=cy ep;have li:=(bc.mp ep).1;refine goN (uV ?_);have s3:=s2.trans sm;refine⟨_,rfl,_,rfl,_,rfl,R,d,rs,aa,ps,st,p.1,rk,rfl,s3.seq hR,cS.same s3,bq,S2.same sm,XO,gW hp,QT,λD4 H4 f4 s4 e4=>?_⟩;have zp:=s4 _ _ ig;have TQ:D4≠D:=λz=>by rw [z,ig] at f4;cases f4
  refine⟨zp,bf (by rw [av];omega),ls++[D4],by rw [bC];rfl,by rw [bO,Uv];rfl,λl QH=>?_,⟨_,rfl⟩,λb u hb=>?_,ae⟩
  .rcases cD.mp QH with h | h
   .obtain⟨a1,a2⟩:=hl l h;exact⟨by rw [ai a2];exact s4 _ _ a1,a2⟩
   rw [cT.mp h];exact⟨by rw [ai TQ];exact e4,TQ⟩
  rw [ai (λz=>by rw [z,hD] at hb;cases hb)];exact s4 _ _ (sm b u hb)
 obtain⟨ls,rfl,Uv,hl,_,sm,ig⟩:=h;have s3:=s2.trans sm;refine⟨_,rfl,D,rfl,⟨_,aH.of ig⟩,λD5 Kc=>?_⟩;refine AK ig (λl QH=>(hl l QH).1) Kc λH5 s5 e5=>?_;refine⟨tE,λD6 Q5=>⟨D5,rfl,aH.of (af Q5 _ _ _ e5),?_⟩⟩;exact q D6 _ ((s3.trans s5).free Q5) ((s3.trans s5).trans (af Q5 _)) ae
end
end gT
namespace L2
open PySem
def yA {K:a8}{T:Addr}{pos:Pos}{qu:Str}{H H':Hp}{a:Addr}{xs:List V}(s:fq T H H')(t:Tab T pos qu H)(h:aZ K H a xs):aZ K H' a xs:=by
 obtain⟨ps,b,_⟩:=t;rcases h with (h | ⟨u,h⟩) | h
 .exact .inl (.inl (s _ _ (λz=>by rw [z,b] at h;cases h) h))
 .exact .inl (.inr ⟨u,s _ _ (λz=>by rw [z,b] at h;cases h) h⟩)
 exact .inr h
def yV {K:a8}{T:Addr}{pos:Pos}{qu:Str}{H H':Hp}{a:Addr}{xs:List V}(s:fq T H H')(t:Tab T pos qu H)(h:aH K H a xs):aH K H' a xs:=by
 obtain⟨ps,b,_⟩:=t;rcases h with (h | ⟨u,h⟩) | h
 .exact .inl (.inl (s _ _ (λz=>by rw [z,b] at h;cases h) h))
 .exact .inl (.inr ⟨u,s _ _ (λz=>by rw [z,b] at h;cases h) h⟩)
 exact .inr h
def yB {T T':Addr}{pos pos':Pos}{qu DU:Str}{H H':Hp}(s:fq T H H')(t:Tab T pos qu H)(h:Tab T' pos' DU H)(n:T'≠T):Tab T' pos' DU H':=by
 obtain⟨ps,b,_⟩:=t;obtain⟨Pq,a,o,c⟩:=h;refine⟨Pq,s _ _ n a,o,c.imp id ?_⟩;rintro⟨c',e,g⟩;exact⟨c',e,s _ _ (λz=>by rw [z,b] at g;cases g) g⟩
def qg {K:a8}{H:Hp}{p D:Addr}{zs:List Str}{σ:St}{js:List (Nat×Str)}{cs:List (Option V)}{tif:TT}{te:TE}{Qp:Hp->Prop}(hσ:df ["name"] js σ=none::cs)(hp:aH K H p (zs.map V.str))(hD:H D=none)
  (ht:∀z∈zs,∀H2 Q,aC H H2->Q false H2->tif (some (.str z)::cs) H2 Q)(q:∀H2,aC H H2->H2 D=some (.lst [])->Qp H2) :
  ∃W:Nat->Nat->List V->St->Hp->Prop,(∃m,W 0 m [] (df ["name"] js σ) (upd H D (.lst []))) /\
 ∀i m ys σ' H,W i m ys σ' H->((iL K p).stop i H/\Qp H)\/((iL K p).go i H/\∃m',m' < m/\∀x H',(iL K p).ka i H x H'->cU 0 x σ' H' λσ2 H2=>tif σ2 H2 λb H3 =>
  if b=true then te σ2 H3 λy H4=>H4 D=some (.lst ys)/\ys.length < sizeLine/\W (i+1) m' (ys++[y]) σ2 (upd H4 D (.lst (ys++[y]))) else W (i+1) m' ys σ2 H3):=by
 refine cg (xs:=zs.map V.str) (λi ys σ2 H5=>ys=[]/\(∃y0,σ2=y0::cs)/\aC H H5/\H5 D=some (.lst [])) ⟨rfl,⟨none,hσ⟩,af hD _,ae⟩ (λi ys σ2 H5 _ h=>h.2.2.1.seq hp) (λi x ys σ2 H5 ex h=>?_) (λys σ2 H5 h=>?_)
 .obtain⟨rfl,⟨y0,rfl⟩,s5,e5⟩:=h;rw [bo] at ex;obtain⟨z,ez,rfl⟩:=b9.mp ex;refine goN ?_;refine ht z (cy ez) H5 _ s5 ?_;refine hJ ?_;exact⟨rfl,⟨_,rfl⟩,s5,e5⟩
 obtain⟨rfl,_,s5,e5⟩:=h;exact q H5 s5 e5
end L2
namespace gT
open PySem L2 M11
section
structure Good (aa:List au)(rk:Str->Nat)(b:Str->Int):Prop where
 least:∀g,de M11.bl aa (uB aa) g->gS M11.bl aa g->∀h∈hd aa,∃n,g h=some n/\n<=60
 met:∀gi ms,aa[0]?=some gi->gi.1∈ms->AW aa aa.length ms->∀h∈hd aa,h∈ms
 loop:yr aa rk
 VF:qx aa b
 most:∀h∈hd aa,b h<=60
def j8 (T1 T2:Addr)(H H':Hp):Prop:=∀b o,b≠T1->b≠T2->H b=some o->H' b=some o
def pd (K:a8)(T1 T2:Addr):Sp:=λvs H Q _=>∃(R S:Addr)(rs ss:List Addr)(aa str:List au)(rk:Str->Nat)(b:Str->Int),vs=[.ref R,.ref S]/\aH K H R (rs.map V.ref)/\bE K H rs aa/\aa.length<=1000/\(∀ru∈aa,ru.2.length<=8)/\aa≠[] /\
 aH K H S (ss.map V.ref)/\bE K H ss str/\str.length<=1000/\(∀ru∈str,ru.2.length<=8)/\(str.flatMap (·.2)).Nodup/\Good aa rk b/\Tab T1 pL.2.2.2 wz H/\Tab T2 xR.2.2.2 Ge H/\T1≠T2 /\
 ∀H',j8 T1 T2 H H'->Tab T1 pL.2.2.2 wz H'->Tab T2 xR.2.2.2 Ge H'->Q .fJ H'
def gG:aN ["rules","strengths","least","endless","met","unmet","steps","greatest","vast"] ["rules","strengths"] (az tV):=iY rfl rfl rfl rfl nofun
def z9 {T1 T2:Addr}{tm:Tok}(F:ik K "refuse_faults" "refuse_faults" tV f fd)(T:Txt mg)(hM:mg "MOST_RULES"=some (.int 60 tm))(GT:aF P w K mg base 1 "refuse_twice" ["strengths"] (yL K))(GL:aF P w K mg base 3 "least_sizes" ["rules"] (ou K T1))
  (GH:aF P w K mg base 1 "heads_of" ["rules"] (jH K))(GM:aF P w K mg base 1 "names_met" ["rules"] (FV K))(GF:aF P w K mg base 3 "find_loop" ["rules"] (Bx K))(GG:aF P w K mg base 3 "greatest_empty_sizes" ["rules"] (tM K T2)) :
  bN P w K mg base fS 4 f fd ["rules","strengths"] (pd K T1 T2):=by
 refine F.ok gG (λvs H Q E h=>?_) (λd0 A outer s H vs Q E hr h=>?_)
 .obtain⟨R,S,rs,ss,aa,str,rk,b,rfl,_⟩:=h;rfl
 obtain⟨R,S,rs,ss,aa,str,rk,b,rfl,hR,cS,bq,h8,A4,hS,N7,Qn,Qu,Qt,gd,Fn,Oh,nT,q⟩:=h;have hu:=gp hr;refine⟨_,ak (b8 (jy (iz (pv 0) (λ_=>rfl))) (ao gZ) aY)
  (ak (bT (bp (GT.mono (by decide:1<=3)) hr rfl (ab (pv 1) aj)))
  (ak (aB (i:=2) gG.nd rfl (Or.inr rfl) (bp GL hr rfl (ab (pv 0) aj)))
  (ak (jK (iy:=3) ["name"] [(2,"least")] gG.nd rfl rfl rfl (aS (bp (GH.mono (by decide:1<=3)) hr rfl (ab (pv 0) aj))) (aV rfl rfl) nofun rfl nofun
   (λ_ _ _ _ _=>aq (i:=0) (show (["name","least"]:List Str).Nodup by decide +kernel) rfl (ba rfl)) (λ_ _ _ _ _=>gP (fw (dU hu (pv 0) (pv 1)))) (λ_ _ _ _ _=>pv 0))
  (ak (b8 (iz (pv 3) (λ_=>rfl)) (ao gZ) aY)
  (ak (aB (i:=4) gG.nd rfl (Or.inr rfl) (bp (GM.mono (by decide:1<=3)) hr rfl (ab (pv 0) aj)))
  (ak (jK (iy:=5) ["name"] [(4,"met")] gG.nd rfl rfl rfl (aS (bp (GH.mono (by decide:1<=3)) hr rfl (ab (pv 0) aj))) (aV rfl rfl) nofun rfl nofun
   (λ_ _ _ _ _=>aq (i:=0) (show (["name","met"]:List Str).Nodup by decide +kernel) rfl (ba rfl)) (λ_ _ _ _ _=>gP (fw (dU hu (pv 0) (pv 1)))) (λ_ _ _ _ _=>pv 0))
  (ak (b8 (iz (pv 5) (λ_=>rfl)) (ao gZ) aY)
  (ak (aB (i:=6) gG.nd rfl (ba rfl) (bp GF hr rfl (ab (pv 0) aj)))
  (ak (b8 (iz (pv 6) (λ_=>rfl)) (ao gZ) aY)
  (ak (aB (i:=7) gG.nd rfl (Or.inr rfl) (bp GG hr rfl (ab (pv 0) aj)))
  (ak (jK (iy:=8) ["name"] [(2,"least"),(7,"greatest")] gG.nd rfl rfl rfl (aS (bp (GH.mono (by decide:1<=3)) hr rfl (ab (pv 0) aj))) (aV rfl rfl) nofun rfl nofun
   (λ_ _ _ _ _=>aq (i:=0) (show (["name","least","greatest"]:List Str).Nodup by decide +kernel) rfl (ba rfl)) (λ_ _ _ _ _=>gP (br Ci (aL (rZ rfl) rfl T.max PyProof.Rows.boot_max (ab (eK hu (pv 1) (pv 0) (λ_ _=>rfl)) (ab (g8 hu (pv 2) (pv 0) ar ⟨rfl,rfl,rfl,rfl⟩) aj))) (EM (v:=.int 60) rfl hM ⟨tm,rfl⟩) (cw _))) (λ_ _ _ _ _=>pv 0))
  (ao (b8 (iz (pv 8) (λ_=>rfl)) (ao gZ) aY))))))))))))),?_⟩
 nofun
 have ll:=bB cS;obtain⟨gi,JY⟩:∃gi,aa[0]?=some gi:=by
  cases aa with
  | nil=>exact absurd rfl A4
  | cons a r=>exact⟨a,rfl⟩
 have eR:(rs.map V.ref).isEmpty=false:=by
  have l0:=(bc.mp JY).1;cases rs with
  | nil=>simp at ll;omega
  | cons a r=>rfl
 refine⟨_,rfl,true,.inl ⟨_,hR,by rw [eR];rfl⟩,?_⟩;refine hJ ?_;refine⟨_,rfl,S,ss,str,rfl,hS,N7,Qn,Qu,Qt,λH1 s1=>?_⟩;have NP:=Fn.same s1;have Wj:=Oh.same s1;refine⟨_,rfl,R,rs,aa,rfl,s1.seq hR,cS.same s1,bq,h8,NP,λdl kl ksl gl H2 fl s2 Wl el kkl vl Wm sel _=>?_⟩;have Ee:=yV s2 NP (s1.seq hR);have Ao:=(cS.same s1).keep λ_ _ z=>yA s2 NP z;have Wi:=yB s2 NP Wj nT.symm;have hl:=gd.least gl Wm sel;have S02:j8 T1 T2 H H2:=λb o n1 _ hb=>s2 b o n1 (s1 b o hb);refine⟨_,rfl,R,rs,aa,rfl,Ee,Ao,bq,λD3 H3 f3 s3 e3=>⟨D3,rfl,⟨_,aH.of e3⟩,λD4 Zt=>qg rfl (aH.of e3) Zt (λz hz H' Q' s' hQ=>?_) λH4 s4 e4=>?_⟩⟩
 .obtain⟨n,en,_⟩:=hl z hz;have hg:cq H' dl (.str z) (some (.int n)):=by
   have:=cq.k (k:=Sum.inr z) (s' _ _ (s3 _ _ el));rw [vl,en] at this;exact this
  exact⟨_,rfl,_,rfl,dl,_,rfl,hg,_,rfl,hQ⟩
 refine⟨_,rfl,false,.inl ⟨[],aH.of e4,rfl⟩,?_⟩;refine hJ ?_;have Hz:=s3.trans s4;refine⟨_,rfl,R,rs,aa,gi,rfl,Hz.seq Ee,Ao.same Hz,JY,bq,h8,λdm km ms H5 f5 s5 em X9 zT _ Xv=>?_⟩;have Pj:=Hz.trans s5;refine⟨_,rfl,R,rs,aa,rfl,Pj.seq Ee,Ao.same Pj,bq,λD6 H6 f6 s6 e6=>⟨D6,rfl,⟨_,aH.of e6⟩,λD7 Q4=>qg rfl (aH.of e6) Q4 (λz hz H' Q' s' hQ=>?_) λH7 s7 e7=>?_⟩⟩
 .have hm:=gd.met gi ms JY zT Xv z hz;have hv:(a_ km (Sum.inr z)).isSome=true:=by rw [dZ,X9];exact cP.mpr hm
  refine⟨_,rfl,_,rfl,dm,_,rfl,cq.k (k:=Sum.inr z) (s' _ _ (s6 _ _ em)),_,rfl,?_⟩;rw [hv];exact hQ
 refine⟨_,rfl,false,.inl ⟨[],aH.of e7,rfl⟩,?_⟩;refine hJ ?_;have Ph:=(Pj.trans s6).trans s7;refine⟨_,rfl,R,rs,aa,rk,rfl,Ph.seq Ee,Ao.same Ph,bq,h8,gd.loop,λD8 H8 f8 s8 e8=>?_⟩;refine⟨_,rfl,false,.inl ⟨[],aH.of e8,rfl⟩,?_⟩;refine hJ ?_;have FZ:=Ph.trans s8;have Wk:=Wl.same FZ;have K1:=Wi.same FZ;refine⟨_,rfl,R,rs,aa,b,rfl,FZ.seq Ee,Ao.same FZ,bq,h8,gd.VF,K1,λdg kg ksg gg H9 f9 s9 Wh eg kkg vg jg _ _=>?_⟩;have Zg:=yV s9 K1 (FZ.seq Ee);have Qv:=(Ao.same FZ).keep λ_ _ z=>yA s9 K1 z;have O8:=yB s9 K1 Wk nT;have U6:=FZ _ _ el;have el9:=s9 _ _ (λz=>by obtain⟨ps,a,_⟩:=K1;rw [<-z,U6] at a;cases a) U6;refine⟨_,rfl,R,rs,aa,rfl,Zg,Qv,bq,λSG yu f10 ua A6=>⟨SG,rfl,⟨_,aH.of A6⟩,λD11 Q6=>qg rfl (aH.of A6) Q6 (λz hz H' Q' s' hQ=>?_) λAZ EG Ej=>?_⟩⟩
 .obtain⟨n,en,YE⟩:=hl z hz;have Fj:cq H' dl (.str z) (some (.int n)):=by
   have:=cq.k (k:=Sum.inr z) (s' _ _ (ua _ _ el9));rw [vl,en] at this;exact this
  have U9:=s' _ _ (ua _ _ eg);obtain⟨v,Yk,hv2⟩:∃v:Int,((gg z).map V.int).getD (.int 0)=.int v/\v<=60:=by
   cases e:gg z with
   | none=>exact⟨0,rfl,nofun⟩
   | some v=>exact⟨v,rfl,mE (jg z v e).2.1 (gd.most z hz)⟩
  have QL:cq H' dg (.str z) ((gg z).map V.int):=by
   have:=cq.k (k:=Sum.inr z) U9;rw [vg] at this;exact this
  refine⟨_,rfl,_,rfl,dl,_,rfl,Fj,_,rfl,dg,rfl,.inl ⟨_,.inl U9⟩,_,rfl,_,QL,?_⟩;rw [Yk];refine⟨n,v,rfl,_,_,rfl,rfl,_,rfl,?_⟩;rw [hU (by split <;> omega)]
  exact hQ
 refine⟨_,rfl,false,.inl ⟨[],aH.of Ej,rfl⟩,?_⟩;refine hJ ?_;have Hy:=ua.trans EG;exact q AZ (λc o n1 n2 hc=>Hy c o (s9 c o n2 (FZ c o (S02 c o n1 n2 hc)))) (O8.same Hy) (Wh.same Hy)
end
end gT
namespace M11
open PySem L2
abbrev Be:=Str×Str×Nat×Nat
def fP (bK:List Be):List (Str×Str):=bK.map λb=>(b.1,b.2.1)
def mn (bK:List Be)(n:Str):List Str:=(bK.filter λb=>decide (b.1=n)).map (·.2.1)
def n_ (names:List Str)(bK:List Be)(z:Str):List Str:=if z∈names then mn bK z else [z]
inductive su (aa:List au) (names:List Str)(b:Str->Bool):List Be->Prop
 | nil:su aa names b []
 | snoc {bK:List Be}{k j:Nat}{ru:au}{z w:Str}:su aa names b bK->aa[k]?=some ru->ru.2[j]?=some z->j < Ax b ru.2->w∈n_ names bK z->(ru.1,w)∉fP bK->su aa names b (bK++[(ru.1,w,k,j)])
def yb {bK:List Be}{n w:Str}:w∈mn bK n↔(n,w)∈fP bK:=by
 unfold mn fP;rw [cH,cH];constructor
 .rintro⟨b,hb,rfl⟩;obtain⟨h1,h2⟩:=jW.mp hb;exact⟨b,h1,by rw [dA h2]⟩
 rintro⟨b,hb,e⟩;cases e;exact⟨b,jW.mpr ⟨hb,eU rfl⟩,rfl⟩
def zr (bK:List Be)(b:Be)(n:Str):mn (bK++[b]) n=mn bK n++(if b.1=n then [b.2.1] else []):=by
 unfold mn;rw [qR,bC];by_cases c:b.1=n
 .rw [ax c];simp [c]
 rw [ay c];simp [c]
end M11
namespace gT
open PySem L2 M11
def Fx:Stmt->List Stmt
 | .ClassDef _ _ _ b _ _ _ _ _ _ _=>b
 | _=>[]
abbrev Lz (st:Stmt) (i:Nat):Stmt:=(Fx st).getD i (.Pass ⟨0,0,0,0⟩)
abbrev xp:Stmt:=Lz xo 0
abbrev BS:Stmt:=Lz xo 1
abbrev xi:Stmt:=Lz xo 2
abbrev tZ:Stmt:=Lz BP 0
section
structure BC (K:a8)(C:Addr):Prop where
 cls:A0 K C
 a1:du K C "empties"
 a2:du K C "empty"
 a3:du K C "begins"
 a4:du K C "firsts"
structure qC (K:a8)(C:Addr)(H0 H:Hp)(a e d bg:Addr)(kE:List (aK×V))(aP:List (Str×Nat))(ps:List (Str×Addr))(bK:List Be):Prop where
 sm:aC H0 H
 ia:∃dx fs,H a=some (.ins C dx fs)/\fs.lookup ("empty":Str)=some (.ref e)/\fs.lookup ("begins":Str)=some (.ref bg)/\fs.lookup ("firsts":Str)=some (.ref d)/\fs.lookup ("find_begins":Str)=none/\fs.lookup ("words_of_part":Str)=none
 he:H e=some (.dK kE)
 hd:H d=some (.dK (ps.map iM))
 n1:(ps.map (·.1)).Nodup
 n2:(ps.map (·.2)).Nodup
 dk:∀p∈ps,(∃kvs,H p.2=some (.dK kvs)/\kvs.map (·.1)=(mn bK p.1).map Sum.inr)/\H0 p.2=none/\p.2≠e/\p.2≠d
 lb:∃ts,H bg=some (.lst (ts.map V.ref))/\Paired (λt (b:Be)=>aZ K H t [.str b.1,.str b.2.1,.int (b.2.2.1:Int),.int (b.2.2.2:Int)]) ts bK
 fb:H0 bg=none
 em:∃e1 ts,(∃dx fs,H a=some (.ins C dx fs)/\fs.lookup ("empties":Str)=some (.ref e1))/\H e1=some (.lst (ts.map V.ref))/\jc K H ts aP/\e1≠bg
def qC.same {C:Addr}{H0 H H':Hp}{a e d bg:Addr}{kE:List (aK×V)}{aP:List (Str×Nat)}{ps:List (Str×Addr)}{bK:List Be}(h:qC K C H0 H a e d bg kE aP ps bK)(s:aC H H'):qC K C H0 H' a e d bg kE aP ps bK:=by
 refine⟨h.sm.trans s,?_,s _ _ h.he,s _ _ h.hd,h.n1,h.n2,λp hp=>?_,?_,h.fb,?_⟩
 .obtain⟨dx,fs,q,r⟩:=h.ia;exact⟨dx,fs,s _ _ q,r⟩
 .obtain⟨⟨kvs,q,r⟩,t⟩:=h.dk p hp;exact⟨⟨kvs,s _ _ q,r⟩,t⟩
 .obtain⟨ts,q,r⟩:=h.lb;exact⟨ts,s _ _ q,Paired.fj r λ_ _ z=>s.tup z⟩
 obtain⟨e1,ts,⟨dx,fs,q1,q2⟩,q3,q4,q5⟩:=h.em;exact⟨e1,ts,⟨dx,fs,s _ _ q1,q2⟩,s _ _ q3,q4.keep λ_ _ z=>s.tup z,q5⟩
def yN (K:a8)(C:Addr):Sp:=λvs H Q _=>∃(H0:Hp)(a e d bg:Addr)(kE:List (aK×V))(aP:List (Str×Nat))(ps:List (Str×Addr))(bK:List Be)(z:Str),vs=[.ref a,.str z]/\qC K C H0 H a e d bg kE aP ps bK /\
 ∀(D:Addr)(H':Hp),H D=none->aC H H'->H' D=some (.lst ((n_ (ps.map (·.1)) bK z).map V.str))->Q (.ref D) H'
def EA:aN ["self","part"] ["self","part"] (az xi):=iY rfl rfl rfl rfl nofun
def Cp {C:Addr}(F:ik K "words_of_part" "BeginTable.words_of_part" xi f fd)(T:Txt mg)(B:BC K C):bN P w K mg base fS 1 f fd ["self","part"] (yN K C):=by
 refine F.ok EA (λvs H Q E h=>?_) (λd0 A outer s H vs Q E hr h=>?_)
 .obtain⟨H0,a,e,d,bg,kE,aP,ps,bK,z,rfl,_⟩:=h;rfl
 obtain⟨H0,a,e,d,bg,kE,aP,ps,bK,z,rfl,S,q⟩:=h;have hu:=gp hr;obtain⟨dx,fs,ea,f1,f2,f3,f4,f5⟩:=S.ia;refine⟨_,ao (bu (vq (fw (kr hu (pv 1) (dD (pv 0) rfl))) (a0 (kS rfl) rfl T.lst gL (ab (eK hu (dD (pv 0) rfl) (pv 1) (λ_ _=>rfl)) aj)) (bR (ab (pv 1) aj)))),?_⟩;dsimp only [Dn];have mem:(a_ (ps.map iM) (Sum.inr z)).isSome=true↔z∈ps.map (·.1):=by rw [dZ,l_];exact cP
 refine⟨_,rfl,_,rfl,a,C,dx,fs,_,rfl,ea,B.cls,B.a4,f3,d,_,rfl,cq.k (k:=Sum.inr z) S.hd,_,rfl,?_⟩;refine cu (λc=>?_) (λc=>?_)
 .have hz:=mem.mp c;obtain⟨p,hp,ep⟩:=cH.mp hz;obtain⟨⟨kvs,hk,kk⟩,_⟩:=S.dk p hp;have vn:=gq ps S.n1 p hp;rw [ep] at vn;have hg:cq H d (.str z) (some (.ref p.2)):=by
   have:=cq.k (k:=Sum.inr z) S.hd;rw [vn] at this;exact this
  refine⟨_,rfl,a,C,dx,fs,_,rfl,ea,B.cls,B.a4,f3,_,rfl,d,_,rfl,hg,p.2,kvs,rfl,hk,λD hD=>?_⟩;refine q D _ hD (af hD _) ?_;rw [ae,keys_str kk,ep];unfold n_;rw [ax hz]
 refine⟨_,rfl,G9,λD hD=>?_⟩;refine q D _ hD (af hD _) ?_;rw [ae];unfold n_;rw [ay (λh=>c (mem.mpr h))];rfl
def qC.more {C:Addr}{H0 H H2:Hp}{a e d bg t:Addr}{kE kvs:List (aK×V)}{aP:List (Str×Nat)}{ps:List (Str×Addr)}{bK:List Be}{p:Str×Addr}{wd:Str}{k j:Nat}{ts:List Addr}(h:qC K C H0 H a e d bg kE aP ps bK)(hp:p∈ps)(hk:H p.2=some (.dK kvs))(kk:kvs.map (·.1)=(mn bK p.1).map Sum.inr)
  (hn:(p.1,wd)∉fP bK)(hb:H bg=some (.lst (ts.map V.ref)))(Kb:Paired (λt (b:Be)=>aZ K H t [.str b.1,.str b.2.1,.int (b.2.2.1:Int),.int (b.2.2.2:Int)]) ts bK)
  (s:aC (upd H p.2 (.dK (bH kvs (Sum.inr wd) (.bl true)))) H2)(ht:aZ K H2 t [.str p.1,.str wd,.int (k:Int),.int (j:Int)]) :
  qC K C H0 (upd H2 bg (.lst (ts.map V.ref++[.ref t]))) a e d bg kE aP ps (bK++[(p.1,wd,k,j)]):=by
 have N2:bg≠p.2:=λz=>by rw [z,hk] at hb;cases hb
 have Fm:H2 bg=some (.lst (ts.map V.ref)):=s _ _ (by rw [ai N2];exact hb);obtain⟨_,fp,Tz,TB⟩:=h.dk p hp;have up:∀c o,c≠bg->c≠p.2->H c=some o->upd H2 bg (.lst (ts.map V.ref++[.ref t])) c=some o:=λc o n1 n2 q=>by
  rw [ai n1];exact s _ _ (by rw [ai n2];exact q)
 refine⟨λc o hc=>up c o (λz=>by rw [z,h.fb] at hc;cases hc) (λz=>by rw [z,fp] at hc;cases hc) (h.sm c o hc),?_,up _ _ (λz=>by have:=h.he;rw [z,hb] at this;cases this) Tz.symm h.he,up _ _ (λz=>by have:=h.hd;rw [z,hb] at this;cases this) TB.symm h.hd,h.n1,h.n2,λp' nq=>?_,⟨ts++[t],by rw [ae,bC];rfl,?_⟩,h.fb,?_⟩
 .obtain⟨dx,fs,q,r⟩:=h.ia;exact⟨dx,fs,up _ _ (λz=>by rw [z,hb] at q;cases q) (λz=>by rw [z,hk] at q;cases q) q,r⟩
 .obtain⟨⟨kI,q,r⟩,t'⟩:=h.dk p' nq;refine⟨?_,t'⟩;by_cases z:p'=p
  .rw [z];refine⟨bH kvs (Sum.inr wd) (.bl true),by rw [ai N2.symm];exact s _ _ ae,?_⟩;rw [hX (by rw [kk];exact λq=>hn (yb.mp (cP.mp q))),kk,zr,ax rfl,bC];rfl
  have n1:p'.1≠p.1:=λq'=>z (by
   have w1:=gq ps h.n1 p' nq;have w2:=gq ps h.n1 p hp;rw [q',w2] at w1;injection w1 with w3;injection w3 with w4;exact Prod.ext q' w4.symm)
  have n2:p'.2≠p.2:=λq'=>by
   obtain⟨i,hi,ei⟩:=oM.mp nq;obtain⟨j',hj,ej⟩:=oM.mp hp;have Fi:i=j':=by
    refine(sI (xs:=ps.map (·.2)) (h₀:=by simpa using hi) (h₁:=by simpa using hj) h.n2).mp ?_;rw [qN,qN,ei,ej];exact q'
   subst Fi;exact z (ei.symm.trans ej)
  refine⟨kI,up _ _ (λz=>by rw [z,hb] at q;cases q) n2 q,?_⟩;rw [r,zr,ay (λq'=>n1 q'.symm),iq]
 .exact f_ (Paired.fj Kb λ_ _ z=>aX Fm (s.tup (gF hk z))) (aX Fm ht)
 obtain⟨e1,te,⟨dx,fs,q1,q2⟩,q3,q4,q5⟩:=h.em;exact⟨e1,te,⟨dx,fs,up _ _ (λz=>by rw [z,hb] at q1;cases q1) (λz=>by rw [z,hk] at q1;cases q1) q1,q2⟩,up _ _ q5 (λz=>by rw [z,hk] at q3;cases q3) q3,q4.keep λ_ _ z=>aX Fm (s.tup (gF hk z)),q5⟩
def Ja (l m:List Be)(n:Str):mn (l++m) n=mn l n++mn m n:=by
 unfold mn;rw [qR,bC]
def Eu {names:List Str}(l m:List Be){z x:Str}(h:x∈n_ names l z):x∈n_ names (l++m) z:=by
 unfold n_ at h ⊢
 split
 .rename_i c
  rw [ax c] at h;rw [Ja];exact eV _ h
 rename_i c
 rw [ay c] at h;exact h
def I_ (bK:List Be)(n:Str):(mn bK n).length<=bK.length:=by
 unfold mn;rw [av];exact uX _ _
def Jt {n i:Nat}(h:i < n):(cnt n)[i]?=some (.int (i:Int)):=by
 unfold cnt;rw [bo,List.getElem?_range h];rfl
def zD (n:Nat):(cnt n).length=n:=by unfold cnt;rw [av,sN]
def BA (K:a8)(C:Addr):Sp:=λvs H Q _=>∃(H0:Hp)(a e d bg r:Addr)(kE:List (aK×V))(aP:List (Str×Nat))(ps:List (Str×Addr))(bK:List Be) (k:Nat)(ru:au)(aa:List au),vs=[.ref a,.int (k:Int),.ref r]/\qC K C H0 H a e d bg kE aP ps bK/\zL K H0 r ru/\aa[k]?=some ru/\ru.2.length<=8 /\
 ru.1∈ps.map (·.1)/\(∀uL:List Be,su aa (ps.map (·.1)) (λz=>(a_ kE (Sum.inr z)).isSome) uL->uL.length<=900000)/\su aa (ps.map (·.1)) (λz=>(a_ kE (Sum.inr z)).isSome) bK /\
 ∀(uL:List Be)(H':Hp),qC K C H0 H' a e d bg kE aP ps uL->su aa (ps.map (·.1)) (λz=>(a_ kE (Sum.inr z)).isSome) uL->bK.length<=uL.length->(uL.length=bK.length->uL=bK/\∀j z,j < Ax (λz=>(a_ kE (Sum.inr z)).isSome) ru.2->ru.2[j]?=some z->∀wd∈n_ (ps.map (·.1)) bK z,(ru.1,wd)∈fP bK)->Q .fJ H'
def tS:aN ["self","number","rule","own","place","word"] ["self","number","rule"] (az BS):=iY rfl rfl rfl rfl nofun
def E4 {C fW:Addr}{UR:FuncData}(F:ik K "find_begins" "BeginTable.find_begins" BS f fd)(T:Txt mg)(B:BC K C)(GP:aF P w K mg base 1 "first_places" ["parts","empty"] (vd K))(FW:bN P w K mg base fS 1 fW UR ["self","part"] (yN K C))(MW:Meth K C "words_of_part" fW)(BW:Binds K UR ["self","part"] []) :
  bN P w K mg base fS 2 f fd ["self","number","rule"] (BA K C):=by
 refine F.ok tS (λvs H Q E h=>?_) (λd0 A outer s H vs Q E hr h=>?_)
 .obtain⟨H0,a,e,d,bg,r,kE,aP,ps,bK,k,ru,aa,rfl,_⟩:=h;rfl
 obtain⟨H0,a,e,d,bg,r,kE,aP,ps,bK,k,ru,aa,rfl,S,⟨p,v1,v2⟩,er,h8,hh,Zc,QW,q⟩:=h;have hu:=gp hr;refine⟨_,ak (aB (i:=3) tS.nd rfl (ba rfl) (eK hu (dD (pv 0) rfl) (bJ bX (pv 2) ar (λ_ _=>rfl)) (λ_ _=>rfl)))
  (ao (bL b_ rfl (aS (bp GP hr rfl (ab (bJ bX (pv 2) ar (λ_ _=>rfl)) (ab (dD (pv 0) rfl) aj)))) (aq (i:=4) tS.nd rfl (ba rfl))
   (ao (bL b_ rfl (aS (zc (pv 0) B.cls MW FW hr BW .nil rB (ab (bJ bX (bJ bX (pv 2) ar (λ_ _=>rfl)) (pv 4) (λ_ _=>rfl)) aj))) (aq (i:=5) tS.nd rfl (ba rfl))
    (ao (b8 (fw (dU hu (pv 5) (pv 3)))
     (ak (gy hu (pv 3) (pv 5) eX rfl)
     (ao (bT (fh e_ fc ff bh (dD (pv 0) rfl) (ab (bD (ab (bJ bX (pv 2) ar (λ_ _=>rfl)) (ab (pv 5) (ab (pv 1) (ab (pv 4) aj))))) aj))))) aY)))))),?_⟩
 nofun
 obtain⟨pn,vK,wH⟩:=cH.mp hh;have vn:=gq ps S.n1 pn vK;rw [wH] at vn;obtain⟨dx,fs,ea,f1,f2,f3,f4,f5⟩:=S.ia;have hg:cq H d (.str ru.1) (some (.ref pn.2)):=by
  have:=cq.k (k:=Sum.inr ru.1) S.hd;rw [vn] at this;exact this
 refine⟨_,rfl,a,C,dx,fs,_,rfl,ea,B.cls,B.a4,f3,_,rfl,r,_,_,_,rfl,rfl,S.sm.tup v1,rfl,d,_,rfl,hg,?_⟩;refine⟨_,rfl,r,_,_,_,rfl,rfl,S.sm.tup v1,rfl,_,rfl,a,C,dx,fs,_,rfl,ea,B.cls,B.a2,f1,p,e,ru.2,kE,rfl,S.sm.tup v2,∅,S.he,λD5 H5 f6 s5 e5=>⟨D5,rfl,⟨_,aH.of e5⟩,?_⟩⟩;obtain⟨ts0,Zd,_⟩:=S.lb;have Xd:D5≠bg:=λz=>by rw [z,Zd] at f6;cases f6
 have fle:=C9 (λz=>(a_ kE (Sum.inr z)).isSome) ru.2;generalize hb:(λz=>(a_ kE (Sum.inr z)).isSome)=b at *;generalize hn:Ax b ru.2=n at *
 let uR:qt:=λi σ H6=>∃(dw:List Be)(y4 y5:Option V),σ=[aI a,some (.int (k:Int)),aI r,some (.ref pn.2),y4,y5]/\qC K C H0 H6 a e d bg kE aP ps dw/\H6 D5=some (.lst (cnt n))/\su aa (ps.map (·.1)) b dw/\bK.length<=dw.length /\
  (dw.length=bK.length->dw=bK/\∀j z,j < i->ru.2[j]?=some z->∀wd∈n_ (ps.map (·.1)) bK z,(ru.1,wd)∈fP bK)
 refine cf (xs:=cnt n) uR ⟨bK,none,none,rfl,S.same s5,e5,QW,aG _,λ_=>⟨rfl,λj z hj=>by omega⟩⟩ ?_ ?_ ?_
 .rintro i σ H6 _ ⟨dw,y4,y5,rfl,S2,e6,_⟩;exact aH.of e6
 .intro i x σ H6 ex qI
  ac_nf0
  obtain⟨dw,y4,y5,rfl,S2,e6,RY,l2,c2⟩:=qI;have li:i < n:=by have:=(bc.mp ex).1;rw [zD] at this;exact this
  rw [Jt li] at ex;cases ex;have lz:i < ru.2.length:=by omega
  obtain⟨z,ez⟩:∃z,ru.2[i]?=some z:=⟨ru.2[i],c_ lz⟩;have Sd:qL (ru.2.map V.str) (i:Int)=some (.str z):=dN (by rw [bo,ez];rfl);obtain⟨M8,qB,M5,g1,g2,g3,g4,g5⟩:=S2.ia;refine goN ?_
  ac_nf
  refine⟨_,rfl,a,M8,qB,rfl,M5,g5,_,rfl,r,_,_,_,rfl,rfl,S2.sm.tup v1,rfl,_,rfl,p,_,_,_,rfl,rfl,S2.sm.tup v2,Sd,H0,a,e,d,bg,kE,aP,ps,dw,z,rfl,S2,λD6 H7 f7 s7 e7=>⟨D6,rfl,⟨_,aH.of e7⟩,?_⟩⟩;obtain⟨tJ,Fm,_⟩:=S2.lb;have Xf:D6≠bg:=λz=>by rw [z,Fm] at f7;cases f7
  generalize Ue:n_ (ps.map (·.1)) dw z=ws at *
  let AX:qt:=λm σ H8=>∃(l:List Be)(y5:Option V),σ=[aI a,some (.int (k:Int)),aI r,some (.ref pn.2),some (.int (i:Int)),y5]/\qC K C H0 H8 a e d bg kE aP ps (dw++l)/\H8 D5=some (.lst (cnt n))/\H8 D6=some (.lst (ws.map V.str))/\su aa (ps.map (·.1)) b (dw++l) /\
   (l=[]->∀wd∈ws.take m,(ru.1,wd)∈fP dw)
  refine cf (xs:=ws.map V.str) AX ⟨[],_,rfl,by rw [iq];exact S2.same s7,s7 _ _ e6,e7,by rw [iq];exact RY,λ_ wd h=>by simp at h⟩ ?_ ?_ ?_
  .rintro m σ H8 _ ⟨l,y5,rfl,S3,e8,e9,_⟩;exact aH.of e9
  .intro m x σ H8 ex qI
   ac_nf0
   obtain⟨l,y5,rfl,S3,e8,e9,Nf,c3⟩:=qI;rw [bo] at ex;obtain⟨wd,ew,rfl⟩:=b9.mp ex;obtain⟨⟨kvs,hk,kk⟩,fp,Tz,TB⟩:=S3.dk pn vK;obtain⟨SS,Og,ME⟩:=S3.lb;have lim:=Zc _ Nf;have ltk:kvs.length<=900000:=by
    have h1:=congrArg List.length kk;rw [av,av] at h1;have:=I_ (dw++l) pn.1;omega
   have ltt:=bB ME;have mem:(a_ kvs (Sum.inr wd)).isSome=true↔(ru.1,wd)∈fP (dw++l):=by rw [dZ,kk,cP,yb,wH]
   refine goN ?_
   ac_nf
   refine⟨_,rfl,_,rfl,pn.2,_,rfl,cq.k (k:=Sum.inr wd) hk,_,rfl,?_⟩;refine cu (λc=>?_) (λc=>?_)
   .have nm:(ru.1,wd)∉fP (dw++l):=λh=>by rw [mem.mpr h] at c;exact absurd c nofun
    refine⟨_,rfl,_,rfl,_,_,rfl,kU.k (k:=Sum.inr wd) hk (bf ∅),?_⟩;obtain⟨Vx,Ef,Ry,k1,k2,k3,k4,k5⟩:=S3.ia;have W_:a≠pn.2:=λz=>by rw [z,hk] at Ry;cases Ry
    have N2:bg≠pn.2:=λz=>by rw [z,hk] at Og;cases Og
    have Jn:upd H8 pn.2 (.dK (bH kvs (Sum.inr wd) (.bl true))) a=some (.ins C Vx Ef):=by rw [ai W_];exact Ry
    have UJ:upd H8 pn.2 (.dK (bH kvs (Sum.inr wd) (.bl true))) bg=some (.lst (SS.map V.ref)):=by rw [ai N2];exact Og
    refine⟨_,rfl,a,C,Vx,Ef,_,rfl,Jn,B.cls,B.a3,k2,.inl ⟨rfl,_,aH.of UJ⟩,_,rfl,r,_,_,_,rfl,rfl,gF hk (S3.sm.tup v1),rfl,_,rfl,_,rfl,_,rfl,V0,λt4 An=>?_⟩;have s4:=af An (.tup [.str ru.1,.str wd,.int (k:Int),.int (i:Int)]);have e4:aZ K (upd (upd H8 pn.2 (.dK (bH kvs (Sum.inr wd) (.bl true)))) t4 (.tup [.str ru.1,.str wd,.int (k:Int),.int (i:Int)])) t4 [.str ru.1,.str wd,.int (k:Int),.int (i:Int)]:=aZ.of ae;generalize upd (upd H8 pn.2 (.dK (bH kvs (Sum.inr wd) (.bl true)))) t4 (.tup [.str ru.1,.str wd,.int (k:Int),.int (i:Int)])=H9 at s4 e4;refine⟨bg,_,_,rfl,rfl,s4 _ _ UJ,bf (by rw [av];omega),?_⟩;have WX:(pn.1,wd)∉fP (dw++l):=by rw [wH];exact nm
    have S4:=S3.more (k:=k) (j:=i) vK hk kk WX Og ME s4 (by rw [wH];exact e4);have Gj:∀D ys,H8 D=some (.lst ys)->D≠bg->upd H9 bg (.lst (SS.map V.ref++[.ref t4])) D=some (.lst ys):=λD ys hD nb=>by
     rw [ai nb];exact s4 _ _ (by rw [ai (λz=>by rw [z,hk] at hD;cases hD)];exact hD)
    rw [lB,wH] at S4;refine⟨l++[(ru.1,wd,k,i)],_,rfl,S4,Gj _ _ e8 Xd,Gj _ _ e9 Xf,?_,λh=>by simp at h⟩;rw [<-lB];refine .snoc Nf er ez (by rw [hn];exact li) (Eu dw l (by rw [Ue];exact cy ew)) nm
   refine⟨l,_,rfl,S3,e8,e9,Nf,λhl x hx=>?_⟩;rw [cI,ew] at hx;rcases cD.mp hx with h | h
   .exact c3 hl x h
   rw [Option.toList_some,cT] at h;subst h;have hm:(ru.1,x)∈fP (dw++l):=mem.mp (by
    cases hq:(a_ kvs (Sum.inr x)).isSome with
    | true=>rfl
    | false=>exact absurd (by rw [hq];rfl) c)
   rw [hl,iq] at hm;exact hm
  rintro σ H8 ⟨l,y5,rfl,S3,e8,e9,Nf,c3⟩;rw [av,cC] at c3;refine⟨dw++l,_,_,rfl,S3,e8,Nf,by rw [bO];omega,λMs=>?_⟩;rw [bO] at Ms;have Ob:l=[]:=List.length_eq_zero_iff.mp ∅;obtain⟨IX,nu⟩:=c2 ∅;rw [Ob,iq];refine⟨IX,λj z' hj Rk wd Uh=>?_⟩;by_cases cj:j < i
  .exact nu j z' cj Rk wd Uh
  have:j=i:=by omega
  subst this;rw [ez] at Rk;cases Rk;have:=c3 Ob wd (by rw [<-Ue,IX];exact Uh);rw [IX] at this;exact this
 rintro σ H6 ⟨dw,y4,y5,rfl,S2,e6,RY,l2,c2⟩;rw [zD] at c2;exact q dw H6 S2 RY l2 c2
end
end gT
namespace L2
open PySem M11
def v3 {K:a8}{H:Hp}{p D:Addr}{zs:List Str}{σ:St}{x:Str}{Qp:Hp->Prop}(hp:aH K H p (zs.map V.str))(hz:zs.length<=10000)(hD:H D=none)
  (q:∀ts (ps:List (Str×Addr)) H2,aC H H2->H2 D=some (.lst (ts.map V.ref))->ps.map (·.1)=zs->Paired (λt (p:Str×Addr)=>aZ K H2 t [.str p.1,.ref p.2]) ts ps->(∀p∈ps,H2 p.2=some (.dK [])/\H p.2=none/\p.2≠D)->(ps.map (·.2)).Nodup->Qp H2) :
  ∃W:Nat->Nat->List V->St->Hp->Prop,(∃m,W 0 m [] (df [x] [] σ) (upd H D (.lst []))) /\
 ∀i m ys σ' H,W i m ys σ' H->((iL K p).stop i H/\Qp H)\/((iL K p).go i H/\∃m',m' < m/\∀x H',(iL K p).ka i H x H'->cU 0 x σ' H' λσ2 H2=>gh σ2 H2 λb H3 =>
  if b=true then qD (fV (fO 0) (fV (Bo) o8)) σ2 H3 λy H4=>H4 D=some (.lst ys)/\ys.length < sizeLine/\W (i+1) m' (ys++[y]) σ2 (upd H4 D (.lst (ys++[y]))) else W (i+1) m' ys σ2 H3):=by
 refine cg (xs:=zs.map V.str) (λi ys σ2 H2=>∃(ts:List Addr)(ps:List (Str×Addr)),ys=ts.map V.ref/\ts.length=i/\ps.map (·.1)=zs.take i/\Paired (λt (p:Str×Addr)=>aZ K H2 t [.str p.1,.ref p.2]) ts ps /\
   (∀p∈ps,H2 p.2=some (.dK [])/\H p.2=none/\p.2≠D)/\(ps.map (·.2)).Nodup/\(∃y0,σ2=[y0])/\aC H H2/\H2 D=some (.lst ys))
  ⟨[],[],rfl,rfl,rfl,.nil,by simp,by simp,⟨none,rfl⟩,af hD _,ae⟩ (λi ys σ2 H2 _ h=>?_) (λi x ys σ2 H2 ex h=>?_) (λys σ2 H2 h=>?_)
 .obtain⟨_,_,_,_,_,_,_,_,_,sm,_⟩:=h;exact sm.seq hp
 .obtain⟨ts,ps,rfl,ht,hm,iX,hl,hn,⟨y0,rfl⟩,sm,hd⟩:=h;rw [bo] at ex;obtain⟨z,ez,rfl⟩:=b9.mp ex;have li:=(bc.mp ez).1;refine goN (uV ?_);refine⟨_,rfl,λl qH=>⟨kW,λt i9=>?_⟩⟩;have Im:l≠D:=(aw hd qH).symm;have nt:t≠l:=λe=>by rw [e,ae] at i9;cases i9
  have Me:H2 t=none:=by rw [ai nt] at i9;exact i9
  have WV:t≠D:=(aw hd Me).symm;have tP:aC H2 (upd (upd H2 l (.dK [])) t (.tup [.str z,.ref l])):=(af qH _).trans (af i9 _);have ig:=tP _ _ hd;have el:upd (upd H2 l (.dK [])) t (.tup [.str z,.ref l]) l=some (.dK []):=by rw [ai nt.symm,ae]
  have et:aZ K (upd (upd H2 l (.dK [])) t (.tup [.str z,.ref l])) t [.str z,.ref l]:=aZ.of ae;generalize upd (upd H2 l (.dK [])) t (.tup [.str z,.ref l])=H4 at tP ig el et;refine⟨ig,bf (by rw [av];omega),ts++[t],ps++[(z,l)],by rw [bC];rfl,by rw [bO,ht];rfl,by rw [bC,hm,cI,ez];rfl,?_,?_,?_,⟨_,rfl⟩,?_,ae⟩
  .exact f_ (Paired.fj iX λt' h' z=>aX ig (tP.tup z)) (aX ig et)
  .intro p' nq;rcases cD.mp nq with h | h
   .obtain⟨a1,a2,a3⟩:=hl p' h;exact⟨by rw [ai a3];exact tP _ _ a1,a2,a3⟩
   rw [cT.mp h];exact⟨by rw [ai Im];exact el,sm.free qH,Im⟩
  .rw [bC];refine jj.mpr ⟨hn,by simp,λa ha b hb e=>?_⟩;rw [qS,cT] at hb;obtain⟨p',nq,rfl⟩:=cH.mp ha;have:=(hl p' nq).1;rw [e,hb] at this;rw [show H2 l=none from qH] at this;cases this
  intro b o hb;rw [ai (λz=>by rw [z,hD] at hb;cases hb)];exact tP _ _ (sm b o hb)
 obtain⟨ts,ps,rfl,ht,hm,iX,hl,hn,_,sm,hd⟩:=h;rw [av,cC] at hm;exact q ts ps H2 sm hd hm iX hl hn
def fX {K:a8}{H:Hp}{D a C dx:Addr}{xs:List V}{fs:List (Str×V)}{o:HO}(hD:H D=some (.ins C dx fs))(h:aZ K H a xs):aZ K (upd H D o) a xs:=by
 rcases h with (h | ⟨u,h⟩) | h
 .exact .inl (.inl (by rw [ai (λz=>by rw [z,hD] at h;cases h)];exact h))
 .exact .inl (.inr ⟨u,by rw [ai (λz=>by rw [z,hD] at h;cases h)];exact h⟩)
 exact .inr h
def vZ {K:a8}{H:Hp}{R D:Addr}{rs:List Addr}{es:List (Str×Nat)}{σ:St}{x1 x2:Str}{Qp:Hp->Prop}(hR:aH K H R (rs.map V.ref))(cS:Paired (λt (e:Str×Nat)=>aZ K H t [.str e.1,.int (e.2:Int)]) rs es)(bq:es.length<=1000)(hD:H D=none)
  (q:∀ts H2,aC H H2->H2 D=some (.lst (ts.map V.ref))->Paired (λt h=>aZ K H2 t [.str h,.bl true]) ts (es.map (·.1))->Qp H2) :
  ∃W:Nat->Nat->List V->St->Hp->Prop,(∃m,W 0 m [] (df [x1,x2] [] σ) (upd H D (.lst []))) /\
 ∀i m ys σ' H,W i m ys σ' H->((iL K R).stop i H/\Qp H)\/((iL K R).go i H/\∃m',m' < m/\∀x H',(iL K R).ka i H x H'->vP K 2 (g_ (cU 0) (g_ (cU 1) ya)) x σ' H' λσ2 H2=>gh σ2 H2 λb H3 =>
  if b=true then qD (fV (fO 0) (fV (tC (.bl true)) o8)) σ2 H3 λy H4=>H4 D=some (.lst ys)/\ys.length < sizeLine/\W (i+1) m' (ys++[y]) σ2 (upd H4 D (.lst (ys++[y]))) else W (i+1) m' ys σ2 H3):=by
 have ll:=bB cS;refine cg (xs:=rs.map V.ref) (λi ys σ2 H2=>∃ts:List Addr,ys=ts.map V.ref/\ts.length=i/\Paired (λt h=>aZ K H2 t [.str h,.bl true]) ts ((es.take i).map (·.1))/\(∃y0 y1,σ2=[y0,y1])/\aC H H2/\H2 D=some (.lst ys))
  ⟨[],rfl,rfl,.nil,⟨none,none,rfl⟩,af hD _,ae⟩ (λi ys σ2 H2 _ h=>?_) (λi x ys σ2 H2 ex h=>?_) (λys σ2 H2 h=>?_)
 .obtain⟨_,_,_,_,_,sm,_⟩:=h;exact sm.seq hR
 .obtain⟨ts,rfl,ht,hp,⟨y0,y1,rfl⟩,sm,hd⟩:=h;rw [bo] at ex;obtain⟨r,er,rfl⟩:=b9.mp ex;have lr:=(bc.mp er).1;obtain⟨ru,e1⟩:∃ru,es[i]?=some ru:=⟨es[i]'∅,c_ ∅⟩;obtain⟨r',MX,v1⟩:=Paired.at_ cS i ru e1;rw [er] at MX;cases MX;have li:=(bc.mp e1).1;refine⟨r,_,rfl,sm.tup v1,rfl,_,_,rfl,_,_,rfl,rfl,?_⟩;refine uV ?_;refine⟨_,rfl,kW,λt i9=>⟨?_,bf (by rw [av];omega),ts++[t],?_,?_,?_,⟨_,_,rfl⟩,?_,ae⟩⟩
  .rw [ai (aw hd i9)];exact hd
  .rw [bC];rfl
  .rw [bO,ht];rfl
  .rw [cI,e1,bC];have ig:upd H2 t (.tup [.str ru.1,.bl true]) D=some (.lst (ts.map V.ref)):=by rw [ai (aw hd i9)];exact hd
   exact f_ (Paired.fj hp λt' h' z=>aX ig ((af i9 _).tup z)) (aX ig (aZ.of ae))
  intro b o hb;rw [ai (λz=>by rw [z,hD] at hb;cases hb)];exact af i9 _ _ _ (sm b o hb)
 obtain⟨ts,rfl,ht,hp,_,sm,hd⟩:=h;rw [av,ll,cC] at hp;exact q ts H2 sm hd hp
end L2
namespace M11
open PySem L2
def su.sub {aa:List au}{names:List Str}{b:Str->Bool}{bK:List Be}(h:su aa names b bK):∀q∈fP bK,q.1∈aa.map (·.1)/\q.2∈aa.flatMap (·.2):=by
 induction h with
 | nil=>intro q hq;cases hq
 | @snoc bK k j ru z wd hb er ez _ hw _ ih =>
  intro q hq;unfold fP at hq;rw [bC] at hq;rcases cD.mp hq with hq | hq
  .exact ih q hq
  rw [qS,cT] at hq;rw [hq];have hm:=cy er;refine⟨gW hm,?_⟩;unfold n_ at hw
  split at hw
  .exact(ih (z,wd) (yb.mp hw)).2
  rw [cT.mp hw];exact qO.mpr ⟨ru,hm,cy ez⟩
def su.nd {aa:List au}{names:List Str}{b:Str->Bool}{bK:List Be}(h:su aa names b bK):(fP bK).Nodup:=by
 induction h with
 | nil=>exact i4
 | @snoc bK k j ru z wd hb er ez _ hw hn ih =>
  unfold fP;rw [bC];refine jj.mpr ⟨ih,by simp,λx hx y hy e=>?_⟩;rw [qS,cT] at hy;rw [e,hy] at hx;exact hn hx
theorem vm (m:List Str):∀l:List Str,(l.flatMap λn=>m.map λwd=>(n,wd)).length=l.length * m.length
 | []=>by simp
 | n::l=>by
  rw [List.flatMap_cons,bO,vm m l,av,d6,Nat.add_mul];omega
def su.len {aa:List au}{names:List Str}{b:Str->Bool}{bK:List Be}(h:su aa names b bK)(hl:aa.length<=100)(h8:∀ru∈aa,ru.2.length<=8):bK.length<=80000:=by
 have h1:=fK (fP bK) ((aa.map (·.1)).flatMap λn=>(aa.flatMap (·.2)).map λwd=>(n,wd)) h.nd λq hq=>by
  obtain⟨a,c⟩:=h.sub q hq;exact qO.mpr ⟨q.1,a,cH.mpr ⟨q.2,c,rfl⟩⟩
 rw [vm] at h1;have h2:=gT.iJ aa 100 hl h8;unfold fP at h1;rw [av,av] at h1;have h3:aa.length * (aa.flatMap (·.2)).length<=100 * 800:=Nat.mul_le_mul hl h2;omega
def A1 (aa:List au) (names:List Str)(b:Str->Bool) (n:Nat)(bK:List Be):Prop:=∀k ru,k < n->aa[k]?=some ru->∀j z,j < Ax b ru.2->ru.2[j]?=some z->∀wd∈n_ names bK z,(ru.1,wd)∈fP bK
end M11
namespace gT
open PySem L2 M11
section
def yS (K:a8)(C:Addr):Sp:=λvs H Q _=>∃(H0:Hp)(a dx R:Addr)(rs:List Addr)(aa:List au),vs=[.ref a,.ref R]/\aC H0 H/\H0 a=none/\H a=some (.ins C dx [])/\aH K H0 R (rs.map V.ref)/\bE K H0 rs aa/\aa.length<=100/\(∀ru∈aa,ru.2.length<=8) /\
 ∀(e d bg:Addr)(kE:List (aK×V))(aP:List (Str×Nat))(ps:List (Str×Addr))(bK:List Be)(H':Hp),qC K C H0 H' a e d bg kE aP ps bK->ps.map (·.1)=hd aa->oF aa aP->qw aa aa.length aP->(∀z,(a_ kE (Sum.inr z)).isSome=decide (z∈aP.map (·.1))) ->
  su aa (hd aa) (λz=>decide (z∈aP.map (·.1))) bK->A1 aa (hd aa) (λz=>decide (z∈aP.map (·.1))) aa.length bK->Q .fJ H'
def lR:aN ["self","rules","number","many","rule"] ["self","rules"] (az xp):=iY rfl rfl rfl rfl nofun
def Cy {C fF:Addr}{UU:FuncData}(F:ik K "__init__" "BeginTable.__init__" xp f fd)(T:Txt mg)(B:BC K C)(GE:aF P w K mg base 1 "found_empties" ["rules"] (mU K))(GH:aF P w K mg base 1 "heads_of" ["rules"] (jH K))
  (FF:bN P w K mg base fS 2 fF UU ["self","number","rule"] (BA K C))(MF:Meth K C "find_begins" fF)(BF:Binds K UU ["self","number","rule"] []):bN P w K mg base fS 3 f fd ["self","rules"] (yS K C):=by
 refine F.ok lR (λvs H Q E h=>?_) (λd0 A outer s H vs Q E hr h=>?_)
 .obtain⟨H0,a,dx,R,rs,aa,rfl,_⟩:=h;rfl
 obtain⟨H0,a,dx,R,rs,aa,rfl,s0,f0,ea,hR,cS,bq,h8,q⟩:=h;refine⟨_,ak (fY (pv 0) (bp (GE.mono (by decide:1<=2)) hr rfl (ab (pv 1) aj)) rfl)
  (ak (fY (pv 0) (a0 (dM rfl) rfl T.zC fk (ab (aT ["name","number"] [] rfl (aS (dD (pv 0) rfl)) (aV rfl rfl) nofun rfl nofun
   (λ_ _ _ _ _=>di (n:=2) K rfl (aA (aq (i:=0) (show (["name","number"]:List Str).Nodup by decide +kernel) rfl (ba rfl)) (aA (aq (i:=1) (show (["name","number"]:List Str).Nodup by decide +kernel) rfl (ba rfl)) bF))) (λ_ _ _ _ _=>bw)
   (λ_ _ _ _ _=>bD (ab (pv 0) (ab eX aj)))) aj)) rfl)
  (ak (fY (pv 0) (bR aj) rfl)
  (ak (fY (pv 0) (a0 (dM rfl) rfl T.zC fk (ab (aT ["name"] [] rfl (aS (bp (GH.mono (by decide:1<=2)) hr rfl (ab (pv 1) aj))) (aV rfl rfl) nofun rfl nofun
   (λ_ _ _ _ _=>aq (i:=0) (show (["name"]:List Str).Nodup by decide +kernel) rfl (ba rfl)) (λ_ _ _ _ _=>bw)
   (λ_ _ _ _ _=>bD (ab (pv 0) (ab fg aj)))) aj)) rfl)
  (ak (aB (i:=3) lR.nd rfl (ba rfl) (y_ tH ar))
  (ao (jz b_ (br nQ (pv 3) (aL bz rfl T.len gb (ab (dD (pv 0) rfl) aj)) (cw _))
   (ak (aB (i:=3) lR.nd rfl (ba rfl) (aL bz rfl T.len gb (ab (dD (pv 0) rfl) aj)))
   (ao (bL b_ rfl (lZ rfl T.Fs (ab (pv 1) aj)) (fA rfl (aA (aq (i:=2) lR.nd rfl (ba rfl)) (aA (aq (i:=4) lR.nd rfl (ba rfl)) bF)))
    (ao (bT (zc (pv 0) B.cls MF FF hr BF .nil rB (ab (pv 2) (ab (pv 4) aj)))))))))))))),?_⟩
 nofun
 have ll:=bB cS;refine⟨_,rfl,R,rs,aa,rfl,s0.seq hR,cS.same s0,∅,h8,λD1 zS aP H1 f1 s1 e1 w1 emp kP=>?_⟩;have Rz:=s1 _ _ ea;refine⟨_,rfl,a,C,dx,[],rfl,Rz,B.cls,B.a1,(by show 0 < 1000;decide),?_⟩;have e2:upd H1 a (.ins C dx (dr "empties" (.ref D1) [])) D1=some (.lst (zS.map V.ref)):=by rw [ai (λz=>by rw [z,Rz] at e1;cases e1)];exact e1
 have w2:jc K (upd H1 a (.ins C dx (dr "empties" (.ref D1) []))) zS aP:=w1.keep λ_ _ z=>fX Rz z;have BX:aC H0 (upd H1 a (.ins C dx (dr "empties" (.ref D1) []))):=λc o hc=>by rw [ai (λz=>by rw [z,f0] at hc;cases hc)];exact s1 _ _ (s0 c o hc)
 have M5:upd H1 a (.ins C dx (dr "empties" (.ref D1) [])) a=some (.ins C dx (dr "empties" (.ref D1) [])):=ae;generalize upd H1 a (.ins C dx (dr "empties" (.ref D1) []))=H2 at e2 w2 BX M5;have lets:=emp.len;refine⟨_,rfl,a,C,dx,_,_,rfl,M5,B.cls,B.a1,rfl,D1,rfl,⟨_,aH.of e2⟩,λD2 jb=>vZ (aH.of e2) w2 ∅ jb λtJ H3 s3 e3 p3=>?_⟩;have kp:Paired (λt (kv:aK×V)=>aZ K H3 t [kV kv.1,kv.2]) tJ ((aP.map (·.1)).map λh=>((Sum.inr h:aK),V.bl true)):=cE p3 λ_ _ z=>z;refine⟨D2,tJ,_,rfl,e3,kp,λe he=>?_⟩;have Ae:∀z,(a_ (cN ((aP.map (·.1)).map λh=>((Sum.inr h:aK),V.bl true)) []) (Sum.inr z)).isSome=decide (z∈aP.map (·.1)):=λz=>by
  rw [o6];by_cases c:z∈aP.map (·.1)
  .rw [ax c,eU c];rfl
  rw [ay c,hU c];rfl
 generalize cN ((aP.map (·.1)).map λh=>((Sum.inr h:aK),V.bl true)) []=kE at Ae;have vj:=(BX.trans s3).trans (af he (.dK kE));have Jn:=af he (.dK kE) _ _ (s3 _ _ M5);have Ou:upd H3 e (.dK kE) e=some (.dK kE):=ae;have Hz:aC H2 (upd H3 e (.dK kE)):=s3.trans (af he (.dK kE));generalize upd H3 e (.dK kE)=H4 at vj Jn Ou Hz;have RR:=Hz _ _ e2;have V2:jc K H4 zS aP:=w2.keep λ_ _ z=>Hz.tup z;refine⟨_,rfl,a,C,dx,_,rfl,Jn,B.cls,B.a2,(by show 1 < 1000;decide),?_⟩;generalize QP:dr "empty" (.ref e) (dr "empties" (.ref D1) [])=Gu;have M4:upd H4 a (.ins C dx Gu) e=some (.dK kE):=by rw [ai (λz=>by rw [z,Jn] at Ou;cases Ou)];exact Ou
 have yW:aC H0 (upd H4 a (.ins C dx Gu)):=λc o hc=>by rw [ai (λz=>by rw [z,f0] at hc;cases hc)];exact vj c o hc
 have Ve:upd H4 a (.ins C dx Gu) a=some (.ins C dx Gu):=ae;have RQ:upd H4 a (.ins C dx Gu) D1=some (.lst (zS.map V.ref)):=by rw [ai (λz=>by rw [z,Jn] at RR;cases RR)];exact RR
 have SN:jc K (upd H4 a (.ins C dx Gu)) zS aP:=V2.keep λ_ _ z=>fX Jn z;generalize upd H4 a (.ins C dx Gu)=H5 at M4 yW Ve RQ SN;refine⟨tE,λbg IV=>?_⟩;have ZW:H0 bg=none:=yW.free IV;have Ov:upd H5 bg (.lst []) bg=some (.lst []):=ae;have F2:=yW.trans (af IV (.lst []));have Jl:=af IV (.lst []) _ _ M4;have Kj:=af IV (.lst []) _ _ Ve;have PX:D1≠bg:=aw RQ IV;have Oy:=af IV (.lst []) _ _ RQ;have SM:jc K (upd H5 bg (.lst [])) zS aP:=SN.keep λ_ _ z=>(af IV (.lst [])).tup z;generalize upd H5 bg (.lst [])=H6 at Ov F2 Jl Kj Oy SM;refine⟨_,rfl,a,C,dx,_,rfl,Kj,B.cls,B.a3,(by rw [<-QP];show 2 < 1000;decide),?_⟩;generalize UD:dr "begins" (.ref bg) Gu=Fp;have Jk:upd H6 a (.ins C dx Fp) e=some (.dK kE):=by rw [ai (λz=>by rw [z,Kj] at Jl;cases Jl)];exact Jl
 have Vc:upd H6 a (.ins C dx Fp) bg=some (.lst []):=by rw [ai (λz=>by rw [z,Kj] at Ov;cases Ov)];exact Ov
 have HJ:aC H0 (upd H6 a (.ins C dx Fp)):=λc o hc=>by rw [ai (λz=>by rw [z,f0] at hc;cases hc)];exact F2 c o hc
 have Vd:upd H6 a (.ins C dx Fp) a=some (.ins C dx Fp):=ae;have Vz:upd H6 a (.ins C dx Fp) D1=some (.lst (zS.map V.ref)):=by rw [ai (λz=>by rw [z,Kj] at Oy;cases Oy)];exact Oy
 have SK:jc K (upd H6 a (.ins C dx Fp)) zS aP:=SM.keep λ_ _ z=>fX Kj z;generalize upd H6 a (.ins C dx Fp)=H7 at Jk Vc HJ Vd Vz SK;refine⟨_,rfl,R,rs,aa,rfl,HJ.seq hR,cS.same HJ,∅,λD4 H8 f8 s8 e8=>?_⟩;have Iq:=h_ (aa.map (·.1)) [];simp only [jh,av] at Iq;refine⟨D4,rfl,⟨_,aH.of e8⟩,λD5 Kc=>v3 (aH.of e8) ∅ Kc λts ps H9 s9 e9 m9 p9 l9 n9=>?_⟩;have n1:(ps.map (·.1)).Nodup:=by rw [m9];exact nE _ i4
 have CN:Paired (λt (kv:aK×V)=>aZ K H9 t [kV kv.1,kv.2]) ts (ps.map iM):=cE p9 λ_ _ z=>z;refine⟨D5,ts,_,rfl,e9,CN,λd rP=>?_⟩;have MY:cN (ps.map iM) []=ps.map iM:=mq _ [] (by
  rw [oH,l_];exact uj n1)
 rw [MY];have JM:=s8.trans s9;have sd:=af rP (.dK (ps.map iM));have xq:=JM.trans sd;have om:upd H9 d (.dK (ps.map iM)) d=some (.dK (ps.map iM)):=ae;have Ip:∀p∈ps,upd H9 d (.dK (ps.map iM)) p.2=some (.dK [])/\p.2≠d:=λp hp=>⟨sd _ _ (l9 p hp).1,λz=>by have:=(l9 p hp).1;rw [z,rP] at this;cases this⟩;generalize upd H9 d (.dK (ps.map iM))=yu at xq om Ip;have yi:=xq _ _ Vd;have uG:=xq _ _ Jk;have Jm:=xq _ _ Vc;have Pk:=HJ.trans xq;have Js:=xq _ _ Vz;have OU:jc K yu zS aP:=SK.keep λ_ _ z=>xq.tup z;refine⟨_,rfl,a,C,dx,_,rfl,yi,B.cls,B.a4,(by rw [<-UD,<-QP];show 3 < 1000;decide),?_⟩;have fp:∀p∈ps,H0 p.2=none/\p.2≠e:=λp hp=>by
  have UO:H8 p.2=none:=(l9 p hp).2.1;refine⟨(HJ.trans s8).free UO,λz=>?_⟩;have:=s8 _ _ Jk;rw [<-z,UO] at this;cases this
 have YR:∃fs,dr "firsts" (.ref d) Fp=fs/\fs.lookup ("empty":Str)=some (.ref e)/\fs.lookup ("begins":Str)=some (.ref bg)/\fs.lookup ("firsts":Str)=some (.ref d)/\fs.lookup ("find_begins":Str)=none/\fs.lookup ("words_of_part":Str)=none/\fs.lookup ("empties":Str)=some (.ref D1):=by
  refine⟨_,rfl,?_⟩;rw [<-UD,<-QP];refine⟨?_,?_,?_,?_,?_,?_⟩ <;> rfl
 obtain⟨fs,efs,k1,k2,k3,k4,k5,k6⟩:=YR;rw [efs];have Bb:qC K C H0 (upd yu a (.ins C dx fs)) a e d bg kE aP ps []:=by
  refine⟨λc o hc=>by rw [ai (λz=>by rw [z,f0] at hc;cases hc)];exact Pk c o hc,⟨dx,fs,ae,k1,k2,k3,k4,k5⟩,?_,?_,n1,n9,λp hp=>⟨⟨[],?_,rfl⟩,(fp p hp).1,(fp p hp).2,(Ip p hp).2⟩,⟨[],?_,.nil⟩,ZW,⟨D1,zS,⟨dx,fs,ae,k6⟩,by rw [ai (λz=>by rw [z,yi] at Js;cases Js)];exact Js,OU.keep λ_ _ z=>fX yi z,PX⟩⟩
  .rw [ai (λz=>by rw [z,yi] at uG;cases uG)];exact uG
  .rw [ai (λz=>by rw [z,yi] at om;cases om)];exact om
  .have:=(Ip p hp).1;rw [ai (λz=>by rw [z,yi] at this;cases this)];exact this
  rw [ai (λz=>by rw [z,yi] at Jm;cases Jm)];exact Jm
 generalize upd yu a (.ins C dx fs)=AZ at Bb;have eb:(λz=>(a_ kE (Sum.inr z)).isSome)=λz=>decide (z∈aP.map (·.1)):=funext Ae;refine⟨1,rfl,?_⟩;refine⟨λmm σ wk=>∃(bK:List Be) (many:Int)(y2 y4:Option V),σ=[aI a,aI R,y2,some (.int many),y4]/\qC K C H0 wk a e d bg kE aP ps bK/\su aa (hd aa) (λz=>decide (z∈aP.map (·.1))) bK/\-1<=many/\many<=bK.length /\
  (many=bK.length->A1 aa (hd aa) (λz=>decide (z∈aP.map (·.1))) aa.length bK)/\(mm:Int)=80001 - many,⟨80002,[],-1,none,none,rfl,Bb,.nil,∅,by simp,by simp,∅⟩,?_⟩
 rintro mm σ wk ⟨bK,many,y2,y4,rfl,Eo,Jy,b1,b2,cl,em⟩;obtain⟨M8,qB,q1,q2,q3,q4,q5,q6⟩:=Eo.ia;obtain⟨tb,UK,Fm⟩:=Eo.lb;have lb:=bB Fm;have Iv:=Jy.len bq h8;refine⟨_,rfl,_,rfl,a,C,M8,qB,_,rfl,q1,B.cls,B.a3,q3,bg,_,rfl,.inl (aH.of UK),_,_,rfl,rfl,_,rfl,?_⟩;refine cu (λc=>?_) (λc=>?_)
 .have c':=dA c;rw [av,lb] at c';refine⟨λσ zM=>∃(dw:List Be)(y2 y4:Option V),σ=[aI a,aI R,y2,some (.int (bK.length:Int)),y4]/\qC K C H0 zM a e d bg kE aP ps dw/\su aa (hd aa) (λz=>decide (z∈aP.map (·.1))) dw/\bK.length<=dw.length /\
   (dw.length=bK.length->dw=bK/\A1 aa (hd aa) (λz=>decide (z∈aP.map (·.1))) aa.length bK),?_,?_⟩
  .rintro σ zM ⟨dw,y2,y4,rfl,DG,AO,P9,A7⟩;have:=AO.len bq h8;refine⟨(80001 - bK.length:Int).toNat,∅,dw,_,_,_,rfl,DG,AO,∅,∅,λz=>?_,∅⟩;obtain⟨Ft,AF⟩:=A7 ∅;rw [Ft];exact AF
  refine⟨_,rfl,a,C,M8,qB,_,rfl,q1,B.cls,B.a3,q3,bg,_,rfl,.inl (aH.of UK),?_⟩;rw [av,lb];refine⟨_,rfl,R,_,rfl,Eo.sm.seq hR,?_⟩;refine jD (xs:=rs.map V.ref) (λi σ zM=>∃(dw:List Be)(y2 y4:Option V),σ=[aI a,aI R,y2,some (.int (bK.length:Int)),y4]/\qC K C H0 zM a e d bg kE aP ps dw/\su aa (hd aa) (λz=>decide (z∈aP.map (·.1))) dw/\bK.length<=dw.length /\
   (dw.length=bK.length->dw=bK/\A1 aa (hd aa) (λz=>decide (z∈aP.map (·.1))) i bK)) ⟨bK,_,_,rfl,Eo,Jy,aG _,λ_=>⟨rfl,λk ru hk=>by omega⟩⟩ ?_ ?_ ?_
  .rintro i σ zM _ ⟨dw,y2,y4,rfl,DG,_⟩;exact DG.sm.seq hR
  .rintro i x σ zM t ex ⟨dw,y2,y4,rfl,DG,AO,P9,A7⟩ ht
   ac_nf0
   rw [bo] at ex;obtain⟨r,er,rfl⟩:=b9.mp ex;obtain⟨ru,p_,rv⟩:=cS.get er;have nr:=cy p_;have Np:=DG.same (af ht (.tup [.int (i:Int),.ref r]));have Ma:aZ K (upd zM t (.tup [.int (i:Int),.ref r])) t [.int (i:Int),.ref r]:=aZ.of ae;generalize upd zM t (.tup [.int (i:Int),.ref r])=H14 at Np Ma;obtain⟨dx4,Ke,r1,r2,r3,r4,r5,r6⟩:=Np.ia;refine⟨t,_,rfl,Ma,rfl,_,_,rfl,_,_,rfl,rfl,?_⟩;refine⟨_,rfl,a,dx4,Ke,rfl,r1,r5,_,rfl,_,rfl,H0,a,e,d,bg,r,kE,aP,ps,dw,i,ru,aa,rfl,Np,rv,p_,h8 ru nr,by rw [m9];exact(gB _ _ _).mpr (.inr (gW nr)),?_,?_,?_⟩
   .intro uL Ed;have:=Ed.len bq h8;omega
   .rw [m9,eb];exact AO
   rw [m9,eb];intro R6 H15 Su RZ l15 RW;refine⟨R6,_,_,rfl,Su,RZ,∅,λhl3=>?_⟩;obtain⟨x1,x2⟩:=A7 ∅;obtain⟨x3,x4⟩:=RW ∅;refine⟨x3.trans x1,λk zW hk Rm j z hj ez wd hw=>?_⟩;by_cases ck:k < i
   .exact x2 k zW ck Rm j z hj ez wd hw
   have:k=i:=by omega
   subst this;rw [p_] at Rm;cases Rm;rw [<-x1] at hw ⊢;exact x4 j z hj ez wd hw
  rintro σ zM ⟨dw,y2,y4,rfl,DG,AO,P9,A7⟩;rw [av,ll] at A7;exact⟨dw,_,_,rfl,DG,AO,P9,A7⟩
 have c':=of_decide_eq_false (oU.mpr c);rw [av,lb] at c';exact q e d bg kE aP ps bK wk Eo m9 emp kP Ae Jy (cl ∅)
end
end gT
namespace L2
open PySem PySem.W
section
variable {X:Cx}{ag:List (Addr×Obj)}{σ:St}{H:Hp}{s:Shared}{a:Addr}{kvs:List (aK×V)}{k:aK}{u:Value}{A:Around}{E:Value->Shared->Prop}
def Jq {z:V}{r:Value}{Q:Value->Shared->Prop}(I:Inv X ag σ H s)(e:H a=some (.dK kvs))(hl:kvs.length < sizeLine)(ry:RelV (kV k) u)(rz:RelV z r)
  (h1:∀v w' s',a_ kvs k=some v->Inv X ag σ H s'->RelV v w'->Q w' s')(h2:a_ kvs k=none->∀s',Inv X ag σ (upd H a (.dK (bH kvs k z))) s'->Q r s') :
  wpAny (model X.prog X.w) A (call (.builtin "dict.setdefault") [.ref a,u,r]) Q E s:=by
 obtain⟨zl,hd,vs,rel,dd⟩:=vU I.bS e;refine call_meetsIn PySem.F.slot_dict_setdefault dd.typeIs PySem.F.entry_dict_setdefault (PySem.F.args_dict_setdefault_3 _ _ _) (kt_meets_setdefault (a7 X.prog X.w) a (j6 ry) hd r)
  ⟨vs,dd,by rw [<-rel.length];exact zl,λv hv=>?_,λhn h' Ek hs=>?_⟩
 .have rv:=rel.val k;rw [hv] at rv;cases e2:a_ kvs k with
  | none=>rw [e2] at rv;cases rv
  | some x=>rw [e2] at rv;exact h1 x v _ e2 (I.tok _) rv
 have CZ:a_ kvs k=none:=by
  have rv:=rel.val k;rw [hn] at rv;cases e2:a_ kvs k with
  | none=>rfl
  | some x=>rw [e2] at rv;cases rv
 have he:∃q,h'.get? a=some q:=let ⟨q,_,_,hq,_⟩:=Ek;⟨q,hq⟩;exact h2 CZ _ (oE I (by rw [e];exact True.intro) hs he (qd (by have:=eG kvs k z;omega) hd (rel.put k rz) Ek))
end
section
variable {X:Cx}{o e f:Expr}{apos gI:Pos}{td ty tx:TE}
def Hi (td ty tx:TE):TE:=λσ H Q=>td σ H λx H1=>∃a,x=.ref a/\OE H1 a/\ty σ H1 λy H2=>tx σ H2 λz H3=>∃kvs k,H3 a=some (.dK kvs)/\y=kV k/\kvs.length < sizeLine /\
 (∀v,a_ kvs k=some v->Q v H3)/\(a_ kvs k=none->Q z (upd H3 a (.dK (bH kvs k z))))
def Cb (ho:PE X o td)(he:PE X e ty)(hf:PE X f tx)(m:M2 X o "setdefault" apos e f gI):PE X (.Call (.Attribute o "setdefault" apos) [e,f] [] gI) (Hi td ty tx):=by
 intro ag s σ H Q I h;refine wpAny_Call_method m.base m.uD m.line wL PySem.F.slot_dict_setdefault PySem.F.type_dict_setdefault (cJ (ho ag s σ H _ I h) λu s1 bj=>?_);obtain⟨x,H1,I1,rx,a,ex,d,q1⟩:=bj;subst ex;obtain rfl:u=Value.ref a:=rx;obtain⟨t1,t2,_⟩:=xW I1 d;refine⟨t1,t2,?_⟩;rw [m.trees];refine sW rfl (sP (qP (cJ (he ag s1 σ H1 _ I1 q1) λiv s2 ⟨y,H2,I2,ry,q2⟩ =>
  qP (cJ (hf ag s2 σ H2 _ I2 q2) λfv s3 ⟨z,H3,I3,rz,kvs,k,ea,ey,hl,q3,q4⟩=>Calls.spliced_nil ?_))))
 subst ey;exact Jq I3 ea hl ry rz (λv w' s4 l I4 xt=>⟨v,_,I4,xt,q3 v l⟩) λl s4 I4=>⟨z,_,I4,rz,q4 l⟩
end
end L2
namespace gT
open PySem L2 M11
section
def Lh {ps:List (Str×Addr)}(n1:(ps.map (·.1)).Nodup)(n2:(ps.map (·.2)).Nodup){p p':Str×Addr}(hp:p∈ps)(nq:p'∈ps)(z:p'≠p):p'.1≠p.1/\p'.2≠p.2:=by
 refine⟨λq=>z ?_,λq=>z ?_⟩
 .have w1:=gq ps n1 p' nq;have w2:=gq ps n1 p hp;rw [q,w2] at w1;injection w1 with w3;injection w3 with w4;exact Prod.ext q w4.symm
 obtain⟨i,hi,ei⟩:=oM.mp nq;obtain⟨j,hj,ej⟩:=oM.mp hp;have Fi:i=j:=by
  refine(sI (xs:=ps.map (·.2)) (h₀:=by simpa using hi) (h₁:=by simpa using hj) n2).mp ?_;rw [qN,qN,ei,ej];exact q
 subst Fi;exact ei.symm.trans ej
structure Ep (ps:List (Str×Addr))(st:Str->List Int)(H:Hp)(d:Addr):Prop where
 hd:H d=some (.dK (ps.map iM))
 n1:(ps.map (·.1)).Nodup
 n2:(ps.map (·.2)).Nodup
 lst:∀p∈ps,H p.2=some (.lst ((st p.1).map V.int))
def Ep.same {ps:List (Str×Addr)}{st:Str->List Int}{H H':Hp}{d:Addr}(h:Ep ps st H d)(s:aC H H'):Ep ps st H' d:=⟨s _ _ h.hd,h.n1,h.n2,λp hp=>s _ _ (h.lst p hp)⟩
def zI (st:Str->List Int)(n:Str) (k:Int):Str->List Int:=λz=>if z=n then st z++[k] else st z
def Ep.more {ps:List (Str×Addr)}{st:Str->List Int}{H:Hp}{d:Addr}(h:Ep ps st H d){p:Str×Addr}(hp:p∈ps) (k:Int):Ep ps (zI st p.1 k) (upd H p.2 (.lst ((st p.1).map V.int++[.int k]))) d:=by
 have a:=h.lst p hp;have nd:d≠p.2:=λz=>by have:=h.hd;rw [z,a] at this;cases this
 refine⟨by rw [ai nd];exact h.hd,h.n1,h.n2,λp' nq=>?_⟩;by_cases z:p'=p
 .rw [z,ae];have e1:zI st p.1 k p.1=st p.1++[k]:=ax rfl;rw [e1,bC];rfl
 obtain⟨a1,a2⟩:=Lh h.n1 h.n2 hp nq z;have e1:zI st p.1 k p'.1=st p'.1:=ay a1;rw [ai a2,e1];exact h.lst p' nq
def Bv (K:a8):Sp:=λvs H Q _=>∃(R:Addr)(rs:List Addr)(aa:List au),vs=[.ref R]/\aH K H R (rs.map V.ref)/\bE K H rs aa/\aa.length<=1000 /\
 ∀(d:Addr)(ps:List (Str×Addr))(H':Hp),H d=none->aC H H'->Ep ps (λn=>nums aa n aa.length) H' d->ps.map (·.1)=hd aa->(∀p∈ps,H p.2=none)->Q (.ref d) H'
def tR:aN ["rules","numbers","number","rule"] ["rules"] (az BM):=iY rfl rfl rfl rfl nofun
def EX (F:ik K "numbers_by_name" "numbers_by_name" BM f fd)(T:Txt mg)(GH:aF P w K mg base 1 "heads_of" ["rules"] (jH K)):bN P w K mg base fS 2 f fd ["rules"] (Bv K):=by
 refine F.ok tR (λvs H Q E h=>?_) (λd0 A outer s H vs Q E hr h=>?_)
 .obtain⟨R,rs,aa,rfl,_⟩:=h;rfl
 obtain⟨R,rs,aa,rfl,hR,cS,bq,q⟩:=h;have hu:=gp hr;refine⟨_,ak (aB (i:=1) tR.nd rfl (ba rfl) (a0 (dM rfl) rfl T.zC fk (ab
   (aT ["name"] [] rfl (aS (bp GH hr rfl (ab (pv 0) aj))) (aV rfl rfl) nofun rfl nofun
    (λ_ _ _ _ _=>aq (i:=0) (show (["name"]:List Str).Nodup by decide +kernel) rfl (ba rfl)) (λ_ _ _ _ _=>bw)
    (λ_ _ _ _ _=>bD (ab (pv 0) (ab (bR aj) aj)))) aj)))
  (ak (bL b_ rfl (lZ rfl T.Fs (ab (pv 0) aj)) (fA rfl (aA (aq (i:=2) tR.nd rfl (ba rfl)) (aA (aq (i:=3) tR.nd rfl (ba rfl)) bF)))
   (ao (bT (fh e_ fc ff bh (eK hu (pv 1) (bJ bX (pv 3) ar (λ_ _=>rfl)) (λ_ _=>rfl)) (ab (pv 2) aj)))))
  (ao (bu (pv 1)))),?_⟩
 nofun
 have ll:=bB cS;refine⟨_,rfl,R,rs,aa,rfl,hR,cS,bq,λD2 H3 f3 s3 e3=>?_⟩;have Iq:=h_ (aa.map (·.1)) [];simp only [jh,av] at Iq;refine⟨D2,rfl,⟨_,aH.of e3⟩,λD3 I8=>qj (aH.of e3) ∅ I8 λts ps H4 s4 e4 m4 p4 l4 n4=>?_⟩;have n1:(ps.map (·.1)).Nodup:=by rw [m4];exact nE _ i4
 have CN:Paired (λt (kv:aK×V)=>aZ K H4 t [kV kv.1,kv.2]) ts (ps.map iM):=cE p4 λ_ _ z=>z;refine⟨D3,ts,_,rfl,e4,CN,λd rP=>?_⟩;have MY:cN (ps.map iM) []=ps.map iM:=mq _ [] (by
  rw [oH,l_];exact uj n1)
 rw [MY];have s5:=(s3.trans s4).trans (af rP (.dK (ps.map iM)));have vi:=af rP (.dK (ps.map iM));have wG:H d=none:=(s3.trans s4).free rP;have S5:Ep ps (λn=>nums aa n 0) (upd H4 d (.dK (ps.map iM))) d:=⟨ae,n1,n4,λp hp=>vi _ _ (l4 p hp).1⟩;have Kf:∀p∈ps,H p.2=none:=λp hp=>s3.free (l4 p hp).2.1;generalize upd H4 d (.dK (ps.map iM))=H5 at s5 S5;clear vi;refine⟨_,rfl,R,_,rfl,s5.seq hR,?_⟩
 let uR:qt:=λi σ H6=>∃(y2 y3:Option V),σ=[aI R,aI d,y2,y3]/\aC H H6/\Ep ps (λn=>nums aa n i) H6 d
 refine jD (xs:=rs.map V.ref) uR ⟨none,none,rfl,s5,S5⟩ ?_ ?_ ?_
 .rintro i σ H6 _ ⟨y2,y3,rfl,s6,_⟩;exact s6.seq hR
 .rintro i x σ H6 t ex ⟨y2,y3,rfl,s6,S6⟩ ht
  ac_nf0
  rw [bo] at ex;obtain⟨r,er,rfl⟩:=b9.mp ex;obtain⟨ru,p_,p,v1,v2⟩:=cS.get er;have nr:=cy p_;have li:=(bc.mp p_).1;have wy:=af ht (.tup [.int (i:Int),.ref r]);have Gp:aZ K (upd H6 t (.tup [.int (i:Int),.ref r])) t [.int (i:Int),.ref r]:=aZ.of ae;have s7:=s6.trans wy;have S7:=S6.same wy;generalize upd H6 t (.tup [.int (i:Int),.ref r])=H7 at Gp s7 S7;obtain⟨pn,vK,wH⟩:∃pn∈ps,pn.1=ru.1:=by
   have:ru.1∈ps.map (·.1):=by rw [m4];exact(gB _ _ _).mpr (.inr (gW nr))
   obtain⟨pn,a,b⟩:=cH.mp this;exact⟨pn,a,b⟩
  have an:=S7.lst pn vK;have vn:=gq ps n1 pn vK;rw [wH] at vn;have hg:cq H7 d (.str ru.1) (some (.ref pn.2)):=by
   have:=cq.k (k:=Sum.inr ru.1) S7.hd;rw [vn] at this;exact this
  have ln:=vx aa pn.1 i;refine⟨t,_,rfl,Gp,rfl,_,_,rfl,_,_,rfl,rfl,?_⟩;refine⟨_,rfl,_,rfl,r,_,_,_,rfl,rfl,s7.tup v1,rfl,d,_,rfl,hg,.inl ⟨rfl,_,aH.of an⟩,_,rfl,pn.2,_,_,rfl,rfl,an,bf (by rw [av];omega),?_⟩;have S8:=S7.more vK (i:Int);refine⟨_,_,rfl,λb o hb=>by rw [ai (λz=>by rw [z,Kf pn vK] at hb;cases hb)];exact s7 b o hb,S8.hd,S8.n1,S8.n2,λp' nq=>?_⟩;have:=S8.lst p' nq;rw [this]
  congr 3
  unfold zI;rw [Ac];by_cases c:p'.1=pn.1
  .rw [ax c,ax];unfold JV;rw [p_,c,wH];simp
  rw [ay c,ay,iq];unfold JV;rw [p_];intro z;have z2:=dA z;injection z2 with z3;exact c (by rw [wH];exact z3.symm)
 rintro σ H6 ⟨y2,y3,rfl,s6,S6⟩;rw [av,ll] at S6;exact⟨_,rfl,q d ps H6 wG s6 S6 m4 Kf⟩
def FU (K:a8):Sp:=λvs H Q _=>∃(R:Addr)(rs:List Addr)(aa:List au),vs=[.ref R]/\aH K H R (rs.map V.ref)/\bE K H rs aa/\aa.length<=1000/\(∀ru∈aa,ru.2.length<=8) /\
 ∀(d:Addr)(H':Hp),H d=none->aC H H'->Q (.ref d) H'
structure A_ (H0 H:Hp)(d:Addr)(kvs:List (aK×V)) (n:Nat):Prop where
 hd:H d=some (.dK kvs)
 ln:kvs.length<=n
 lst:∀kv∈kvs,∃a xs,kv.2=.ref a/\H a=some (.lst xs)/\H0 a=none/\xs.length<=n
def A_.same {H0 H H':Hp}{d:Addr}{kvs:List (aK×V)}{n:Nat}(h:A_ H0 H d kvs n)(s:aC H H'):A_ H0 H' d kvs n:=⟨s _ _ h.hd,h.ln,λkv hk=>let ⟨a,xs,e1,e2,e3,e4⟩:=h.lst kv hk;⟨a,xs,e1,s _ _ e2,e3,e4⟩⟩
def A_.more {H0 H:Hp}{d a:Addr}{kvs:List (aK×V)}{n:Nat}{xs:List V}{y:V}(h:A_ H0 H d kvs (n+1))(ha:H a=some (.lst xs))(lx:xs.length<=n)(l2:∀kv∈kvs,∃a xs,kv.2=.ref a/\H a=some (.lst xs)/\H0 a=none/\xs.length<=n):A_ H0 (upd H a (.lst (xs++[y]))) d kvs (n+1):=by
 have nd:d≠a:=λz=>by have:=h.hd;rw [z,ha] at this;cases this
 refine⟨by rw [ai nd];exact h.hd,h.ln,λkv hk=>?_⟩;obtain⟨b,ys,e1,e2,e3,e4⟩:=l2 kv hk;by_cases c:b=a
 .exact⟨b,xs++[y],e1,by rw [c,ae],e3,by rw [bO];simp;omega⟩
 exact⟨b,ys,e1,by rw [ai c];exact e2,e3,∅⟩
def Ha {kvs:List (aK×V)}{k:aK}{v:V}(h:a_ kvs k=some v):∃kv∈kvs,kv.2=v:=by
 unfold a_ at h;obtain⟨kv,e1,e2⟩:=b9.mp h;exact⟨kv,List.mem_of_find?_eq_some e1,e2⟩
def rm:aN ["rules","standings","number","rule","place","part"] ["rules"] (az Ht):=iY rfl rfl rfl rfl nofun
def Ie (F:ik K "standings_by_part" "standings_by_part" Ht f fd)(T:Txt mg):bN P w K mg base fS 1 f fd ["rules"] (FU K):=by
 refine F.ok rm (λvs H Q E h=>?_) (λd0 A outer s H vs Q E hr h=>?_)
 .obtain⟨R,rs,aa,rfl,_⟩:=h;rfl
 obtain⟨R,rs,aa,rfl,hR,cS,bq,h8,q⟩:=h;have hu:=gp hr;refine⟨_,ak (aB (i:=1) rm.nd rfl (ba rfl) fg)
  (ak (bL b_ rfl (lZ rfl T.Fs (ab (pv 0) aj)) (fA rfl (aA (aq (i:=2) rm.nd rfl (ba rfl)) (aA (aq (i:=3) rm.nd rfl (ba rfl)) bF)))
   (ao (bL b_ rfl (lY rfl T.Fs (ab (bJ bX (pv 3) ar (λ_ _=>rfl)) aj)) (fA rfl (aA (aq (i:=4) rm.nd rfl (ba rfl)) (aA (aq (i:=5) rm.nd rfl (ba rfl)) bF)))
    (ao (bT (fh e_ fc ff bh (Cb (pv 1) (pv 5) (bR aj) ⟨rfl,rfl,rfl,rfl⟩) (ab (bD (ab (pv 2) (ab (pv 4) aj))) aj)))))))
  (ao (bu (pv 1)))),?_⟩
 nofun
 have ll:=bB cS;intro d rP;have s1:=af rP (.dK []);have S1:A_ H (upd H d (.dK [])) d [] (8 * 0):=⟨ae,aG _,λkv hk=>by cases hk⟩;generalize upd H d (.dK [])=H1 at s1 S1;refine⟨_,rfl,R,_,rfl,s1.seq hR,?_⟩
 let AX:qt:=λi σ H6=>∃(kvs:List (aK×V))(y2 y3 y4 y5:Option V),σ=[aI R,aI d,y2,y3,y4,y5]/\aC H H6/\A_ H H6 d kvs (8 * i)
 refine jD (xs:=rs.map V.ref) AX ⟨[],none,none,none,none,rfl,s1,S1⟩ ?_ ?_ ?_
 .rintro i σ H6 _ ⟨kvs,y2,y3,y4,y5,rfl,s6,_⟩;exact s6.seq hR
 .rintro i x σ H6 t ex ⟨kvs,y2,y3,y4,y5,rfl,s6,S6⟩ ht
  ac_nf0
  rw [bo] at ex;obtain⟨r,er,rfl⟩:=b9.mp ex;obtain⟨ru,p_,p,v1,v2⟩:=cS.get er;have nr:=cy p_;have Kd:=h8 ru nr;have li:=(bc.mp p_).1;have wy:=af ht (.tup [.int (i:Int),.ref r]);have Gp:aZ K (upd H6 t (.tup [.int (i:Int),.ref r])) t [.int (i:Int),.ref r]:=aZ.of ae;have s7:=s6.trans wy;have S7:=S6.same wy;generalize upd H6 t (.tup [.int (i:Int),.ref r])=H7 at Gp s7 S7;refine⟨t,_,rfl,Gp,rfl,_,_,rfl,_,_,rfl,rfl,?_⟩;refine⟨_,rfl,r,_,_,_,rfl,rfl,s7.tup v1,rfl,p,_,rfl,s7.tup v2,?_⟩
  let Nx:qt:=λj σ H9=>∃(kvs:List (aK×V))(y4 y5:Option V),σ=[aI R,aI d,some (.int (i:Int)),aI r,y4,y5]/\aC H H9/\A_ H H9 d kvs (8 * i+j)
  refine ny (xs:=ru.2.map V.str) Nx ⟨kvs,_,_,rfl,s7,S7⟩ ?_ ?_ ?_
  .rintro j σ H9 _ ⟨kvs,y4,y5,rfl,s9,_⟩;exact s9.tup v2
  .rintro j x σ H9 t2 kY ⟨kvs,y4,y5,rfl,s9,S9⟩ i9
   ac_nf0
   rw [bo] at kY;obtain⟨z,ez,rfl⟩:=b9.mp kY;have lj:=(bc.mp ez).1;have vh:=af i9 (.tup [.int (j:Int),.str z]);have CS:aZ K (upd H9 t2 (.tup [.int (j:Int),.str z])) t2 [.int (j:Int),.str z]:=aZ.of ae;have ua:=s9.trans vh;have G4:=S9.same vh;generalize upd H9 t2 (.tup [.int (j:Int),.str z])=yu at CS ua G4;refine⟨t2,_,rfl,CS,rfl,_,_,rfl,_,_,rfl,rfl,?_⟩;have lk:=G4.ln;refine⟨_,rfl,d,rfl,.inl ⟨kvs,.inl G4.hd⟩,_,rfl,tE,λl hl=>?_⟩;have EG:=af hl (.lst []);have Ej:upd yu l (.lst []) l=some (.lst []):=ae;have fl:H l=none:=ua.free hl;have Bb:=G4.same EG;have sA:=ua.trans EG;generalize upd yu l (.lst [])=AZ at EG Ej Bb sA;have fin:∀(a:Addr)(xs:List V)(kI:List (aK×V))(wk:Hp),wk a=some (.lst xs)->H a=none->xs.length<=8 * i+j->A_ H wk d kI (8 * i+j+1)->(∀kv∈kI,∃a xs,kv.2=.ref a/\wk a=some (.lst xs)/\H a=none/\xs.length<=8 * i+j)->aC H wk ->
     ∀t4,wk t4=none->xs.length < sizeLine/\∃(kvs:List (aK×V))(y4 y5:Option V),[some (V.ref R),aI d,some (.int (i:Int)),aI r,some (.int (j:Int)),some (.str z)]=[aI R,aI d,some (.int (i:Int)),aI r,y4,y5]/\aC H (upd (upd wk t4 (.tup [.int (i:Int),.int (j:Int)])) a (.lst (xs++[.ref t4])))/\A_ H (upd (upd wk t4 (.tup [.int (i:Int),.int (j:Int)])) a (.lst (xs++[.ref t4]))) d kvs (8 * i+(j+1)) :=
    λa xs kI wk ea fa lx Eo DW F1 t4 An=>by
     have xr:=af An (.tup [.int (i:Int),.int (j:Int)]);refine⟨bf ∅,kI,_,_,rfl,λb o hb=>by rw [ai (λz=>by rw [z,fa] at hb;cases hb)];exact xr _ _ (F1 b o hb),?_⟩;exact(Eo.same xr).more (xr _ _ ea) lx λkv hk=>let ⟨b,ys,e1,e2,e3,e4⟩:=DW kv hk;⟨b,ys,e1,xr _ _ e2,e3,e4⟩
   refine⟨kvs,Sum.inr z,Bb.hd,rfl,bf ∅,λv hv=>?_,λhn=>?_⟩
   .obtain⟨kv,hk,ek⟩:=Ha hv;obtain⟨a,xs,e1,e2,e3,e4⟩:=Bb.lst kv hk;rw [e1] at ek;subst ek;refine⟨.inl ⟨rfl,_,aH.of e2⟩,_,rfl,_,rfl,kW,λt4 An=>?_⟩;obtain⟨g1,g2⟩:=fin a xs kvs AZ e2 e3 e4 ⟨Bb.hd,∅,λkv hk=>let ⟨b,ys,e1,e2,e3,e4⟩:=Bb.lst kv hk;⟨b,ys,e1,e2,e3,∅⟩⟩ Bb.lst sA t4 An;exact⟨a,_,_,rfl,rfl,af An _ _ _ e2,g1,g2⟩
   have nd:d≠l:=λz=>by have:=Bb.hd;rw [z,Ej] at this;cases this
   have GB:upd AZ d (.dK (bH kvs (Sum.inr z) (.ref l))) l=some (.lst []):=by rw [ai nd.symm];exact Ej
   have wG:H d=none:=rP;have F1:aC H (upd AZ d (.dK (bH kvs (Sum.inr z) (.ref l)))):=λb o hb=>by rw [ai (λz=>by rw [z,wG] at hb;cases hb)];exact sA b o hb
   have DW:∀kv∈bH kvs (Sum.inr z) (.ref l),∃a xs,kv.2=.ref a/\upd AZ d (.dK (bH kvs (Sum.inr z) (.ref l))) a=some (.lst xs)/\H a=none/\xs.length<=8 * i+j:=λkv hk=>by
    rw [vk _ hn] at hk;rcases cD.mp hk with h | h
    .obtain⟨b,ys,e1,e2,e3,e4⟩:=Bb.lst kv h;exact⟨b,ys,e1,by rw [ai (λz=>by rw [z,Bb.hd] at e2;cases e2)];exact e2,e3,e4⟩
    rw [cT.mp h];exact⟨l,[],rfl,GB,fl,by simp⟩
   have lp:=eG kvs (Sum.inr z:aK) (.ref l);have Eo:A_ H (upd AZ d (.dK (bH kvs (Sum.inr z) (.ref l)))) d (bH kvs (Sum.inr z) (.ref l)) (8 * i+j+1):=⟨ae,∅,λkv hk=>let ⟨b,ys,e1,e2,e3,e4⟩:=DW kv hk;⟨b,ys,e1,e2,e3,∅⟩⟩;generalize upd AZ d (.dK (bH kvs (Sum.inr z) (.ref l)))=wk at GB F1 DW Eo;refine⟨.inl ⟨rfl,_,aH.of GB⟩,_,rfl,_,rfl,kW,λt4 An=>?_⟩;obtain⟨g1,g2⟩:=fin l [] _ wk GB fl (by simp) Eo DW F1 t4 An;exact⟨l,_,_,rfl,rfl,af An _ _ _ GB,g1,g2⟩
  rintro σ H9 ⟨kvs,y4,y5,rfl,s9,S9⟩;rw [av] at S9;refine⟨kvs,_,_,_,_,rfl,s9,S9.hd,by have:=S9.ln;omega,λkv hk=>let ⟨b,ys,e1,e2,e3,e4⟩:=S9.lst kv hk;⟨b,ys,e1,e2,e3,∅⟩⟩
 rintro σ H6 ⟨kvs,y2,y3,y4,y5,rfl,s6,S6⟩;exact⟨_,rfl,q d H6 rP s6⟩
end
end gT
namespace L2
open PySem PySem.Spec PyProof.Rows
open PySem
def dG {X:Cx}(K:a8)(hK:X.K=K:=by rfl):jS X (compareOp .In) (NZ K false):=by
 subst hK;exact jN
def SF (K:a8)(H:Hp):Nat->V->V->Prop
 | 0,x,y=>x=y/\nH x
 | n+1,x,y=>(x=y/\nH x)\/∃a b xs ys,x=.ref a/\y=.ref b/\((aH K H a xs/\aH K H b ys)\/(aZ K H a xs/\aZ K H b ys))/\Paired (SF K H n) xs ys
def SF.self {K:a8}{H:Hp}{x:V}(h:nH x):∀n,SF K H n x x
 | 0=>⟨rfl,h⟩
 | _+1=>.inl ⟨rfl,h⟩
section
variable {prog:Program}{w:World}{A:Around}{E:Value->Shared->Prop}{s:Shared}
abbrev DL (h:Heap)(z:Addr)(f0 f1:Value)(TI TO:Addr):Prop:=h.get? z=some { cls:=.type "zip",data:=.fields #[f0,f1,.bool false,.ref TI,.ref TO] }
end
structure Sj (h:Heap)(z TI TO i1 i2 l1 l2:Addr)(xs ys:Array Value) (i:Nat):Prop where
 hz:∃f0 f1,DL h z f0 f1 TI TO/\(f0=.none\/∃T:Nat,f0=rawInt T)
 hI:IsPair h TI (.ref i1) (.ref i2)
 hO:∃a b,IsPair h TO a b
 h1:h.IsTupleIter i1 l1 i
 h2:h.IsTupleIter i2 l2 i
 t1:h.IsTuple l1 xs
 t2:h.IsTuple l2 ys
def u7 {h h':Heap}{l:Addr}{xs:Array Value}(t:h.IsTuple l xs)(k:∀o,h.get? l=some o->h'.get? l=some o):h'.IsTuple l xs:=by
 obtain⟨o,a,b,c⟩:=t;exact⟨o,k o a,b,c⟩
def sG (h:Heap) (N:Nat)(xs ys bI:Array Value):Prop:=∃Ts:List Nat,bI.toList=Ts.map Value.ref/\Ts.Pairwise (· < ·)/\∀(j T:Nat),Ts[j]?=some T->N<=T/\∃x y:Value,IsPair h T x y/\xs[j]?=some x/\ys[j]?=some y
def sG.keep {h h':Heap}{N:Nat}{xs ys bI:Array Value}(a:sG h N xs ys bI)(k:∀(T:Nat) o,N<=T->h.get? T=some o->h'.get? T=some o):sG h' N xs ys bI:=by
 obtain⟨Ts,e1,e2,e3⟩:=a;refine⟨Ts,e1,e2,λj T hj=>?_⟩;obtain⟨l,x,y,p,q⟩:=e3 j T hj;exact⟨l,x,y,k T _ l p,q⟩
def sG.more {h:Heap}{N T0:Nat}{xs ys bI:Array Value}{x y:Value}(a:sG h N xs ys bI)(lt:∀(Ts:List Nat),bI.toList=Ts.map Value.ref->∀T∈Ts,T < T0)(hN:N<=T0)(p:IsPair h T0 x y)(hx:xs[bI.size]?=some x)(hy:ys[bI.size]?=some y):sG h N xs ys (bI.push (.ref T0)):=by
 obtain⟨Ts,e1,e2,e3⟩:=a;have el:Ts.length=bI.size:=by
  have:=congrArg List.length e1;rw [av] at this;rw [<-this];simp
 refine⟨Ts++[T0],by rw [Array.toList_push,e1,bC];rfl,List.pairwise_append.mpr ⟨e2,by simp,λT hT b hb=>by rw [cT.mp hb];exact lt Ts e1 T hT⟩,λj T hj=>?_⟩;by_cases c:j < Ts.length
 .rw [lD c] at hj;exact e3 j T hj
 rw [jZ ∅] at hj;have c2:j - Ts.length=0:=by
  have:=(bc.mp hj).1;simp at this;omega
 rw [c2] at hj;cases hj;have:j=bI.size:=by omega
 rw [this];exact⟨hN,x,y,p,hx,hy⟩
def Sj.keep {h h':Heap}{z TI TO i1 i2 l1 l2:Addr}{xs ys:Array Value}{i:Nat}(st:Sj h z TI TO i1 i2 l1 l2 xs ys i)(k:∀b o,h.get? b=some o->h'.get? b=some o):Sj h' z TI TO i1 i2 l1 l2 xs ys i:=by
 obtain⟨⟨f0,f1,a,b⟩,hI,⟨c,d,hO⟩,h1,h2,t1,t2⟩:=st;exact⟨⟨f0,f1,k _ _ a,b⟩,k _ _ hI,⟨c,d,k _ _ hO⟩,h1.at λo q=>k _ _ q,h2.at λo q=>k _ _ q,u7 t1 λo q=>k _ _ q,u7 t2 λo q=>k _ _ q⟩
end L2
namespace HT
open PySem PyProof.Rows
section
variable {prog:Program}{w:World}{A:Around}{E:Value->Shared->Prop}{s:Shared}
end
end HT
namespace L2
open PySem PySem.Spec PyProof.Rows
open PySem
section
variable {prog:Program}{w:World}{A:Around}{E:Value->Shared->Prop}{s:Shared}
end
structure ZTn (h:Heap)(z TI TO i1 i2 l1 l2:Addr) (i:Nat):Prop where
 hz:∃f0 f1,DL h z f0 f1 TI TO/\(f0=.none\/∃T:Nat,f0=rawInt T)
 hI:IsPair h TI (.ref i1) (.ref i2)
 hO:∃a b,IsPair h TO a b
 h1:h.IsTupleIter i1 l1 i
 h2:h.IsTupleIter i2 l2 i
end L2
namespace HT
open PySem PySem.Spec PyProof.Rows
section
variable {prog:Program}{w:World}{A:Around}{E:Value->Shared->Prop}{s:Shared}
def ml {t sl:Addr}{items:Array Value}{vl vu:Value}{lo hi:Option Int}{Q:Value->Shared->Prop}(ht:IsTup s.heap t items)(hs:s.heap.IsSliceOf sl vl vu .none)(pl:IsPart vl lo)(pu:IsPart vu hi)
  (hw:eY items.size 0 lo=0/\eY items.size items.size hi=items.size)(h:Q (.ref t) s):wpAny (model prog w) A (getItem (.ref t) (.ref sl)) Q E s:=by
 obtain⟨os,IK,Of,Fl⟩:=id hs;have QX:s.TypeIs (.ref sl) "slice" := ⟨os,IK,Of⟩;unfold getItem
 try with_reducible refine jq ?_
 first | refine aE (aR ?_) | skip
 refine aE (wpAny_sequenceKey ht.typeIs nofun ?_);refine aE (qU (name:=Str.ofString "__getitem__") ht.typeIs qV
  (mN qV ht.typeIs entry_tuple_getitem ?_ (args_tuple_getitem _ _)))
 show wpAny _ _ (Builtin.Tuple.tupleItemsOf (.ref t) >>= _) _ _ s;refine aE (tupleItemsOf_ ht ?_);refine aE (kZ QX ?_);rw [ax nofun];refine aE (iw hs pl pu ?_);have Qk:(((eY items.size 0 lo:Nat):Int) == 0 && (1:Int) == 1 && (eY items.size items.size hi - eY items.size 0 lo) == items.size)=true:=by
  rw [hw.1,hw.2];simp
 show wpAny _ _ (if (((eY items.size 0 lo:Nat):Int) == 0 && (1:Int) == 1 && (eY items.size items.size hi - eY items.size 0 lo) == items.size)=true then _ else _) _ _ s;rw [ax Qk];refine aE ?_;unfold Builtin.Tuple.tupleIsExact;refine aE (kZ ht.typeIs (aR ?_));rw [ax nofun];refine aE (wpAny_rule ?_);exact aR ⟨_,rfl,aR h⟩
end
end HT
namespace L2
open PySem PySem.Spec PyProof.Rows
def Lc (K:a8):V->Option Int->Option Int->Hp->VK->Prop:=λx lo hi H Q=>Sk x (aZ K H) λxs=>∀p H',aC H H'->aZ K H' p (iK xs lo hi)->Q (.ref p) H'
def ow {X:Cx}:G3 X (Lc X.K):=by
 intro ag s σ H x v vl vu lo hi sl Q I rx hs pl pu h;obtain⟨a,xs,rfl,hx,q⟩:=h;by_cases hw:HT.eY xs.length 0 lo=0/\HT.eY xs.length xs.length hi=xs.length
 .have ec:iK xs lo hi=xs:=by
   unfold iK;rw [hw.1,hw.2,List.drop_zero,Nat.sub_zero,cC]
  cases rx;obtain⟨aU,r,ht,hz⟩:=I.tuple hx;have bq:aU.toArray.size=xs.length:=by rw [cM];exact r.length.symm
  refine⟨"tuple",_,qV.lookup,ht.typeIs,?_⟩;exact HT.ml ht hs pl pu (by rw [bq];exact hw) ⟨.ref a,H,I,rfl,q a H (λ_ _ h=>h) (by rw [ec];exact hx)⟩
 exact Hn ag s σ H _ v vl vu lo hi sl Q I rx hs pl pu ⟨a,xs,rfl,hx,hw,λp hp=>q p _ (af hp _) (aZ.of ae)⟩
def Lg (K:a8):R2:=λx y H Q=>Sq (aZ K H) x y λxs ys=>∀p H',aC H H'->aZ K H' p (xs++ys)->Q (.ref p) H'
def ug {X:Cx}:jS X (binaryOp .Add) (Lg X.K):=by
 intro ag s σ H x y v u Q I rx ry h;obtain⟨a,b,xs,ys,rfl,rfl,ha,hb,hz,q⟩:=h;by_cases hx:xs=[]
 .cases rx;cases ry;obtain⟨aU,r1,p1,_⟩:=I.tuple ha;obtain⟨g9,r2,p2,_⟩:=I.tuple hb;have e1:aU=[]:=r1.oy.mpr hx;obtain⟨⟨cls,dd,data,sl⟩,ho,hc,n,hd⟩:=id p1;obtain⟨⟨RS,Kq,data2,NS⟩,D_,MD,n2,hd2⟩:=id p2;simp only at hc hd MD hd2;subst hc hd MD hd2;exact concat_meets ⟨_,ho,rfl⟩ ⟨_,D_,rfl⟩ noFill_tuple_add seq_tuple_add wJ wK (wO _ _)
   (tuple_addW0 a b aU.toArray g9.toArray n n2 dd Kq sl NS (by simp [e1])) ⟨ho,D_,.ref b,H,I,rfl,q b H (λ_ _ h=>h) (by rw [hx];exact hb)⟩
 refine EU ag s σ H _ _ v u Q I rx ry ⟨a,b,xs,ys,rfl,rfl,ha,hb,hx,hz,λe=>q a H (λ_ _ h=>h) (by rw [e,iq];exact ha),λ_ p hp=>q p _ (af hp _) (aZ.of ae)⟩
theorem u_:∀{zs:List Str}{aU:List Value},a9 (zs.map V.str) aU->StrsAre aU zs
 | [],[],_=>.nil
 | z::r,u::aU,h=>by
  cases h with
  | cons a b =>
   obtain⟨t,rfl⟩:=a;exact .cons z t (u_ b)
theorem qX:∀{aU:List Value}{zs:List Str},StrsAre aU zs->a9 (zs.map V.str) aU
 | _,_,.nil=>.nil
 | _,_,.cons y t h=>.cons ⟨t,rfl⟩ (qX h)
def kR {X:Cx}:ft X (.builtin "sorted") (λxs H Q=>∃a zs,xs=[.ref a]/\aH X.K H a (List.map V.str zs)/\zs.length < 64/\∀l Bf,H l=none->Bf.Perm zs->sortedS Bf=true->Q (.ref l) (upd H l (.lst (List.map V.str Bf)))):=by
 intro ag s σ H xs us Q I r h;obtain⟨a,zs,rfl,hq,hl,q⟩:=h;obtain⟨u,rfl,rx⟩:=vals1 r;cases (show u=Value.ref a from rx);obtain⟨aU,r',pl,hz⟩:=I.list hq;have bq:=r'.length;rw [av] at bq;refine sorted_strs pl.isList (u_ r') ∅ λout S_ h1 h2 h3=>?_;obtain⟨e,he⟩:=sortedAll_at s.heap aU out;have v:=qX h1;refine⟨.ref (s.heap.objs.size+1),_,I.laid (t':=s.toks) (λb o hb=>sortedAll_old hb) (jl _) (show cv X.prog X.w _ _ _ (.lst (List.map V.str S_)) from ⟨?_,out.toList,e,v,?_⟩),rfl,q _ S_ (I.bS.fresh (jl _)) h2 h3⟩
 .rw [av,h2.length_eq];rw [av] at hz;exact hz
 rw [he]
theorem nU:∀a b:List Nat,ltCps a b=false->ltCps b a=false->a=b
 | [],[],_,_=>rfl
 | [],_::_,h,_=>by rw [ltCps.eq_2] at h;cases h
 | _::_,[],_,h=>by rw [ltCps.eq_2] at h;cases h
 | x::r,y::t,h,k=>by
  rw [ltCps.eq_4,Bool.or_eq_false_iff,decide_eq_false_iff_not] at h k;have e:x=y:=by omega
  subst e;have h2:=h.2;have k2:=k.2;rw [oI,jU] at h2 k2;rw [nU r t h2 k2]
theorem lt_trans:∀a b c:List Nat,ltCps b a=false->ltCps c b=false->ltCps c a=false
 | [],b,[],_,_=>ltCps.eq_1
 | [],b,_::_,_,_=>ltCps.eq_3 _ _
 | x::r,[],c,h,_=>by rw [ltCps.eq_2] at h;cases h
 | x::r,y::t,[],_,k=>by rw [ltCps.eq_2] at k;cases k
 | x::r,y::t,z::u,h,k=>by
  rw [ltCps.eq_4,Bool.or_eq_false_iff,decide_eq_false_iff_not] at h k ⊢;refine⟨∅,?_⟩;by_cases e:z=x
  .have e1:y=x:=by omega
   subst e;subst e1;have h2:=h.2;have k2:=k.2;rw [oI,jU] at h2 k2 ⊢;exact lt_trans r t u h2 k2
  rw [jk.mpr e,mM]
def JT (a b:Str):Prop:=ltCps b.cps.toList a.cps.toList=false
theorem rp:∀(x:Str) (r:List Str),risingS x r=true->(x::r).Pairwise JT
 | x,[],_=>List.pairwise_singleton _ _
 | x,y::r,h=>by
  rw [risingS.eq_2,jX,Bool.not_eq_true'] at h;have ih:=rp y r h.2;refine qT.mpr ⟨λz hz=>?_,ih⟩;rcases bM.mp hz with e | e
  .rw [e];exact h.1
  exact lt_trans _ _ _ h.1 ((qT.mp ih).1 z e)
def rj:∀{l:List Str},sortedS l=true->l.Pairwise JT
 | [],_=>.nil
 | x::r,h=>rp x r h
def ur {a b:Str}(h:JT a b)(k:JT b a):a=b:=by
 have:=nU _ _ h k;cases a with
 | mk x=>cases b with
  | mk y=>rw [show x=y from (Array.toList_inj.mp this.symm)]
theorem j4:∀{l m:List Str},l.Pairwise JT->m.Pairwise JT->l.Perm m->l=m
 | [],m,_,_,p=>by rw [List.nil_perm.mp p]
 | x::r,[],_,_,p=>absurd p.length_eq (by simp)
 | x::r,y::t,h,k,p=>by
  have e:x=y:=by
   have h1:=qT.mp h;have k1:=qT.mp k;rcases bM.mp (p.mem_iff.mp (b0 (a:=x) (l:=r))) with e | e
   .exact e
   rcases bM.mp (p.mem_iff.mpr (b0 (a:=y) (l:=t))) with e2 | e2
   .exact e2.symm
   exact ur (h1.1 y e2) (k1.1 x e)
  subst e;rw [j4 (qT.mp h).2 (qT.mp k).2 (List.perm_cons x |>.mp p)]
def jv {l m:List Str}(h:sortedS l=true)(k:sortedS m=true)(p:l.Perm m):l=m:=j4 (rj h) (rj k) p
def uc (x:Str):Nat->Str
 | 0=>Str.empty
 | 1=>x
 | _=>x++x
def ET {X:Cx}:jS X (binaryOp .Mult) (λa b H Q=>∃x n,a=.str x/\b=.int ((n:Nat):Int)/\n<=2/\x.length=1/\Q (.str (uc x n)) H):=by
 intro ag s σ H a b v u Q I ra rb h;obtain⟨x,n,rfl,rfl,hn,hx,q⟩:=h;obtain⟨t,rfl⟩:=ra;obtain⟨t2,rfl⟩:=rb
 match n,hn,q with
 | 0,_,q=>exact PySem.P.mul_str_none nofun nofun ⟨.str Str.empty,H,I.tok _,⟨_,rfl⟩,q⟩
 | 1,_,q =>
  refine PySem.P.mul_str nofun (λ_ h=>by simp at h) (λ_ h=>by simp at h) ?_;rw [ay nofun,ax (by rfl)];exact⟨.str x,H,I,⟨_,rfl⟩,q⟩
 | 2,_,q =>
  refine PySem.P.mul_str nofun (λ_ _=>by rw [hx];decide) (λ_ _=>by rw [hx];decide) ?_;rw [ay nofun,ay (by rw [hx];decide)];have le:(Str.mk (#[]++x.cps++x.cps)).length<=sizeLine:=by
   show (#[]++x.cps++x.cps).size<=sizeLine;rw [Array.empty_append,Array.size_append];have:x.cps.size=1:=hx;rw [this];decide
  refine⟨le,⟨.str (x++x),H,I.tok _,⟨s.toks,?_⟩,q⟩⟩;show Value.str ⟨#[]++x.cps++x.cps⟩ _=Value.str ⟨x.cps++x.cps⟩ _;rw [Array.empty_append]
section
variable {prog:Program}{w:World}{A:Around}{E:Value->Shared->Prop}{s:Shared}
end
open PySem PySem.W PyProof.Rows
section
variable {n:Nat}{lt:Nat->Nat->Bool}{cmp:Nat->Nat->(Bool->Shared->Prop)->Shared->Prop}{s:Shared}
structure FH (n:Nat)(lt:Nat->Nat->Bool):Prop where
 trans:∀a b c,a < n->b < n->c < n->lt b a=false->lt c b=false->lt c a=false
 Sh:∀a b,a < n->b < n->lt a b=true->lt b a=false
structure Ku (n:Nat)(p:Array Nat):Prop where
 pm:p.Perm (List.range n).toArray
theorem Ku.size {p:Array Nat}(h:Ku n p):p.size=n:=by
 have:=h.pm.size_eq;simpa using this
def Ku.Gm {p:Array Nat}(h:Ku n p){i:Nat}(hi:i < n):p.getD i 0 < n:=by
 have hs:=h.size;have e:p.getD i 0=p[i]'∅:=by simp [Array.getD,hs,hi]
 rw [e];have:p[i]'∅∈(List.range n).toArray:=h.pm.mem_iff.mp (Array.getElem_mem _);simpa using this
abbrev at_ (p:Array Nat) (i:Nat):Nat:=p.getD i 0
def JC (lt:Nat->Nat->Bool)(p:Array Nat) (k:Nat):Prop:=∀i j,i<=j->j < k->lt (at_ p j) (at_ p i)=false
def JF (lt:Nat->Nat->Bool)(p:Array Nat) (k:Nat):Prop:=∀i j,i<=j->j < k->lt (at_ p i) (at_ p j)=false
def FH.T_ (o:FH n lt){a:Nat}(h:a < n):lt a a=false:=by
 cases e:lt a a with
 | false=>rfl
 | true=>rw [<-o.Sh a a h h e,e]
def JC.more {p:Array Nat}{m:Nat}(o:FH n lt)(P:Ku n p)(h:JC lt p m)(hm:1<=m)(hn:m < n)(c:lt (at_ p m) (at_ p (m - 1))=false):JC lt p (m+1):=by
 intro i j Fi hj;by_cases e:j=m
 .subst e;by_cases e2:i=j
  .subst e2;exact o.T_ (P.Gm hn)
  exact o.trans _ (at_ p (j - 1)) _ (P.Gm ∅) (P.Gm ∅) (P.Gm hn) (h i (j - 1) ∅ ∅) c
 exact h i j Fi ∅
def JF.more {p:Array Nat}{m:Nat}(o:FH n lt)(P:Ku n p)(h:JF lt p m)(hm:1<=m)(hn:m < n)(c:lt (at_ p (m - 1)) (at_ p m)=false):JF lt p (m+1):=by
 intro i j Fi hj;by_cases e:j=m
 .subst e;by_cases e2:i=j
  .subst e2;exact o.T_ (P.Gm hn)
  exact o.trans _ (at_ p (j - 1)) _ (P.Gm hn) (P.Gm ∅) (P.Gm ∅) c (h i (j - 1) ∅ ∅)
 exact h i j Fi ∅
end
def Inv.LI {X:Cx}{ag:List (Addr×Obj)}{σ:St}{H:Hp}{s:Shared}{h':Heap}{a:Addr}{o:HO}{t':Nat}(I:Inv X ag σ H s)(k:∀b u,b≠X.env.locals->s.heap.get? b=some u->h'.get? b=some u)
  (ns:∀m,s.heap.Ns X.env.locals m->h'.Ns X.env.locals m)(hp:s.heap.get? a=none)(hn:H a=none)(new:cv X.prog X.w (upd H a o) h' a o):Inv X ag σ (upd H a o) { s with heap:=h',toks:=t' }:=by
 have ne:∀b u,s.heap.get? b=some u->b≠a:=λb u q z=>by rw [z,hp] at q;cases q
 refine I.step (g':=s.gens) (d':=s.drawn) (ch:=[]) (λ_ z=>nomatch z) (λb u hb _ _ e _=>k b u hb e) (λb u hb _ _ e _=>⟨u.slots,k b u hb e⟩) (λb u _ e n=>by rw [ai (ne b u e)];exact n)
  (λb u _ e=>?_) (λb xs q=>by rw [ai (aw q hn)];exact q) (λb u xs q=>by rw [ai (aw q hn)];exact q) (λb ps q=>⟨#[],by rw [ai (aw q hn),q];simp⟩) ns (λb u e=>?_) I.bare
 .by_cases hb:b=X.env.locals
  .obtain⟨m,hm,_⟩:=I.loc;obtain⟨o',_,_,CW,_⟩:=ns m hm;exact⟨o',by rw [hb];exact CW⟩
  exact⟨u,k b u hb e⟩
 by_cases hb:b=a
 .subst hb;rw [ae] at e;cases e;exact new
 rw [ai hb] at e;refine(I.bS b u e).ju (λc v hc q=>k c v ?_ q) (λc q=>by rw [ai (aw q hn)];exact q) λc xs q=>by rw [ai (aw q hn)];exact q
 rintro rfl;rcases hc with rfl | hc
 .rw [I.free] at e;cases e
 rw [I.free] at hc;cases hc
def Cn {P:Program}{w:World}{H:Hp}{h:Heap}{a:Addr}{o:HO}(x:cv P w H h a o):∃u,h.get? a=some u:=by
 cases o with
 | lst xs=>obtain⟨_,_,_,_,e⟩:=x;exact⟨_,e⟩
 | tup xs=>obtain⟨_,_,_,ob,e,_⟩:=x;exact⟨_,e⟩
 | dK kvs=>obtain⟨_,_,_,_,o,_,_,e,_⟩:=x;exact⟨_,e⟩
 | dT kvs=>obtain⟨_,_,_,_,o,_,_,e,_⟩:=x;exact⟨_,e⟩
 | set S n=>obtain⟨o,_,_,_,e,_⟩:=x;exact⟨_,e⟩
 | ins C dx fs=>obtain⟨_,_,_,e,_⟩:=x;exact⟨_,e⟩
 | own y=>obtain⟨_,e⟩:=x;exact⟨_,e⟩
 | xd fs=>obtain⟨_,⟨_,_,_,e,_⟩,_⟩:=x;exact⟨_,e⟩
 | DT lo hi=>obtain⟨_,_,_,e⟩:=x;exact⟨_,e⟩
 | je ob u=>obtain⟨e,_⟩:=x;exact⟨_,e⟩
 | qA ps=>exact⟨_,(show h.get? a=some _ from x)⟩
 | met f y=>exact⟨_,(show h.get? a=some _ from x)⟩
 | ext φ=>obtain⟨_,⟨_,e⟩,_⟩:=x;exact⟨_,e⟩
open PySem PySem.Spec PyProof.Rows PySem.W
section
variable {P:Program}{w:World}{A:Around}{E:Value->Shared->Prop}{s:Shared}
def CO {f c' c d:Addr}{q:Str}{params:Arguments}{scope:Scope}{cl:List (Str×Addr)}{pm fQ:Value}{p1 p2 p3:Pos}{xs xh:Str}{vs:List (aK×Value)}{z:Str}{t:Tok}{u:Value}{oc:Obj}{Q:Value->Shared->Prop}
  (Mg:A.depth < recursionLimit)(nl:s.heap.NoLimit)(hf:s.heap.get? f=some (kla_obj "<lambda>" q params (.Subscript (.Name xs p1) (.Name xh p2) p3) scope cl pm c' fQ))(hc:s.heap.CodeRec (.ref c') q)
  (hb:∀us:List Value,us.length=1->bindArgs (kla_fn "<lambda>" q params (.Subscript (.Name xs p1) (.Name xh p2) p3) scope cl pm (.ref c') fQ) ⟨us,[]⟩=pure ([xh].zip us))
  (hk:scope.kind=.function)(QU:scope.isCoroutine=false)(IS:scope.isGenerator=false)(QF:∀x∈scope.names,x.2≠.cell)(hh:scope.names.lookup xh=some .local)(hs:scope.names.lookup xs=some .free)
  (nu:cl.lookup xs=some c)(ho:s.heap.get? c=some oc)(wC:oc.data=.cell (some (.ref d)))(dd:s.heap.DictOf (a7 P w) d vs)(hv:valueAt vs (Sum.inr z)=some u)
  (d1:(xs == ("__debug__":Str))=false)(d2:(xh == ("__debug__":Str))=false)(d3:(xs == ("__classdict__":Str))=false)
  (h:∀h' tk,(∀b o,s.heap.get? b=some o->h'.get? b=some o)->Q u { s with heap:=h',toks:=tk }):wpAny (model P w) A (call (.ref f) [.str z t]) Q E s:=by
 refine wpAny_call (kla_callFunE Mg hf rfl QU IS rfl hc ?_);rw [hb [.str z t] rfl];refine aR (wpAny_newFunctionEnv QF (λx hx=>?_) (λh₁ vL Uq=>⟨nl.fresh _ Uq,?_⟩) hk)
 .have:x=(xh,Value.str z t):=by simpa using hx
  rw [this];exact hh
 show codeAny _ _ (.expr (.Subscript (.Name xs p1) (.Name xh p2) p3) (envX q scope s.heap.objs.size f (.ref c') cl)) _ _;have k1:∀b o,s.heap.get? b=some o->h₁.get? b=some o:=λb o e=>Uq.extBut b o (bQ (bA e)) (bW _ e);refine kla_codeExpr (yH PySem.F.slot_dict_getitem.lookup (λ_ _=>rfl) ?_);refine wpAny_Name (wpAny_loadName_free hk hs nu ⟨oc,k1 _ _ ho,wC⟩ ?_ d3) d1;refine wpAny_Name (sQ hk hh vL (show ([(xh,Value.str z t)]:List (Str×Value)).reverse.lookup xh=some (.str z t) by simp [List.lookup]) ?_) d2;have Vy:h₁.DictOf (a7 P w) d vs:=by
  obtain⟨o,es,ep,g,r⟩:=dd;exact⟨o,es,ep,k1 _ _ g,r⟩
 refine⟨Vy.typeIs,wpAny_getItem_of (j6 (k:=Sum.inr z) ⟨t,rfl⟩) Vy.mapOf hv ?_⟩;exact h h₁ _ k1
end
section
variable {X:Cx}{params:Arguments}{body:Expr}{scope:Scope}{pos:Pos}{c T:Addr}
abbrev hZ (X:Cx)(params:Arguments)(body:Expr)(scope:Scope)(cl:List (Str×Addr))(c':Addr)(fQ:Value):Obj:=kla_obj "<lambda>" (X.env.qual ++ "<lambda>") params body scope cl ((X.mg "__name__").getD .none) c' fQ
def KR (X:Cx)(params:Arguments)(body:Expr)(scope:Scope)(pos:Pos)(T:Addr):TE:=λσ H Q=>Tab T pos (X.env.qual ++ "<lambda>") H /\
 ∀f c' fQ cl H',FI X.env scope cl->fq T H H'->Tab T pos (X.env.qual ++ "<lambda>") H'->H f=none->H' f=some (ng f (hZ X params body scope cl c' fQ))->H' c'=some (i_ c' (X.env.qual ++ "<lambda>"))->Q (.ref f) H'
def EL (pR:X.env.code=.ref c)(hC:codeHdIn X.K c T=true)(hB:qy X.mg X.base)(mf:∀y,(y,NameKind.free)∈scope.names->X.env.scope.names.lookup y=some .cell)(C4:defaultsOf params X.env=([],[]):=by rfl):PE X (.Lambda params body scope pos) (KR X params body scope pos T):=by
 intro ag s σ H Q I h;obtain⟨⟨ps,hT,ht,C5⟩,q⟩:=h;refine kla_eval C4 ?_;obtain⟨cl,nu⟩:=uJ (env:=X.env) (scope:=scope) λy hy=>I.ok.has y (.inl (mf y hy));have IY:s.heap.get? T=some (tabObj ps):=(show cv X.prog X.w H s.heap T (.qA ps) from I.bS T _ hT);have hg:=I.mod.glob.keeps I.bk;have C:=codeHd_of_K I.rH hC;obtain⟨bm,ob,b1,b2,b3,b4,b5,b6,b7⟩:=hB;have Sb:=I.bk _ _ b4;have PR:bm≠T:=λz=>by
  have:=(I.bs _ _ b4).2;rw [z,hT] at this;cases this
 have PM:mainGlobals≠T:=λz=>by
  obtain⟨o,es,ep,e,d,_⟩:=hg;rw [z,IY] at e;cases e;cases d
 have MO:s.heap.BuiltinsAt X.mg T:=⟨bm,ob,b1,b2,b3,PR,Sb,b5,b6,b7⟩;have DQ:∀b v,H b=some v->b < s.heap.objs.size:=λb v e=>I.bS.lt e;rcases C5 with Mp | ⟨c',hf,kN⟩
 .refine kla_makeFunction nu.eq I.ok.glob hg pR C IY ht Mp PM MO λc' fQ h' tk hx IT jd CT Mc=>?_;have Y_:∃oc,h'.get? c'=some oc:=by
   obtain⟨c2,oc,vs,t,e,wC,_⟩:=CT;cases e;exact⟨oc,wC⟩
  have pQ:h'.objs.size > s.heap.objs.size:=oV IT jd;have keep:∀b o,b≠T->s.heap.get? b=some o->(h'.push (hZ X params body scope cl c' fQ)).get? b=some o:=λb o n e=>bW _ (hx b o n e)
  let H':Hp:=upd (upd (upd H T (.qA (ps++#[rawInt pos.line,rawInt pos.col,.ref c']))) c' (i_ c' (X.env.qual ++ "<lambda>"))) h'.objs.size (ng h'.objs.size (hZ X params body scope cl c' fQ))
  have xP:∀b v,H b=some v->b≠c'/\b≠h'.objs.size:=λb v e=>⟨bQ (eZ (DQ b v e) IT),bQ (jo (DQ b v e) pQ)⟩;have PQ:c'≠h'.objs.size:=bQ jd;have Lv:=xP T _ hT;have eT:H' T=some (.qA (ps++#[rawInt pos.line,rawInt pos.col,.ref c'])):=by
   show upd (upd (upd H T _) c' _) h'.objs.size _ T=_;rw [ai Lv.2,ai Lv.1,ae]
  have ec:H' c'=some (i_ c' (X.env.qual ++ "<lambda>")):=by
   show upd (upd (upd H T _) c' _) h'.objs.size _ c'=_;rw [ai PQ,ae]
  have ef:H' h'.objs.size=some (ng h'.objs.size (hZ X params body scope cl c' fQ)):=ae;have eo:∀b,b≠T->b≠c'->b≠h'.objs.size->H' b=H b:=λb n1 n2 n3=>by
   show upd (upd (upd H T _) c' _) h'.objs.size _ b=_;rw [ai n3,ai n2,ai n1]
  have sT:fq T H H':=λb o n e=>by rw [eo b n (xP b o e).1 (xP b o e).2];exact e
  have I2:Inv X ag σ H' { s with heap:=h'.push (hZ X params body scope cl c' fQ),toks:=tk }:=by
   refine I.call (g':=s.gens) (t':=tk) (d':=s.drawn) (ch:=[]) ⟨λb o e n _ _=>keep b o (λz=>by rw [z,hT] at n;cases n) e,λb o e n _ _=>⟨o.slots,keep b o (λz=>by rw [z,hT] at n;cases n) e⟩,λb o e n _=>?_,λb o e _=>?_,λb xs e=>?_,λb o u e=>?_,λb Pq e=>?_⟩ (λb v e=>?_) I.bare (λb hb=>nomatch hb)
   .have lb:=bA e;rw [eo b (λz=>by rw [z,hT] at n;cases n) (bQ (eZ lb IT)) (bQ (jo lb pQ))];exact n
   .by_cases z:b=T
    .exact⟨_,by rw [z];exact bW _ Mc⟩
    exact⟨o,keep b o z e⟩
   .exact sT b _ (λz=>by rw [z,hT] at e;cases e) e
   .exact sT b _ (λz=>by rw [z,hT] at e;cases e) e
   .by_cases z:b=T
    .subst z;rw [hT] at e;cases e;exact⟨_,eT⟩
    exact⟨#[],by rw [Array.append_empty];exact sT b _ z e⟩
   by_cases z1:b=h'.objs.size
   .subst z1;rw [ef] at e;cases e;exact oA (dq _ rfl)
   by_cases z2:b=c'
   .subst z2;rw [ec] at e;cases e;refine v9 ?_;obtain⟨c2,oc,vs,t,e',wC,hd,hv⟩:=CT;cases e';exact⟨_,oc,vs,t,rfl,bW _ wC,hd,hv⟩
   by_cases z3:b=T
   .subst z3;rw [eT] at e;cases e;exact bW _ Mc
   rw [eo b z3 z2 z1] at e;refine(I.bS b v e).ju (λd o As e'=>?_) (λd e'=>sT d _ (λz=>by rw [z,hT] at e';cases e') e') λd ys e'=>sT d _ (λz=>by rw [z,hT] at e';cases e') e';rcases As with rfl | As
   .exact keep d o z3 e'
   exact keep d o (λz=>by rw [z,hT] at As;cases As) e'
  have fresh:H h'.objs.size=none:=I.bS.fresh (jn pQ);exact⟨.ref h'.objs.size,H',I2,rfl,q _ c' fQ cl H' nu sT ⟨_,eT,by rw [sS];exact iN _ ht,.inr ⟨c',by rw [sS];exact codeAmong_snoc _ ht Mp,ec⟩⟩ fresh ef ec⟩
 refine kla_makeFunctionHit nu.eq I.ok.glob hg pR C IY ht hf MO λfQ h' tk hk hsz=>?_;have keep:∀b o,s.heap.get? b=some o->(h'.push (hZ X params body scope cl c' fQ)).get? b=some o:=λb o e=>bW _ (hk b o e);have fresh:H h'.objs.size=none:=I.bS.fresh hsz;refine⟨.ref h'.objs.size,_,I.laid (a:=h'.objs.size) (o:=ng h'.objs.size (hZ X params body scope cl c' fQ)) (t':=tk) keep hsz (oA (dq _ rfl)),rfl,?_⟩;refine q _ c' fQ cl _ nu (λb o _ e=>by rw [ai (aw e fresh)];exact e) ⟨ps,by rw [ai (aw hT fresh)];exact hT,ht,.inr ⟨c',hf,by rw [ai (aw kN fresh)];exact kN⟩⟩ fresh ae (by rw [ai (aw kN fresh)];exact kN)
end
theorem yI:∀{zs:List Str}{aU:List Value},a9 (zs.map V.str) aU->∀(i:Nat)(v:Value),aU[i]?=some v->∃z t,zs[i]?=some z/\v=.str z t
 | [],[],_,i,v,h=>by simp at h
 | z::r,u::aU,h,i,v,hi=>by
  cases h with
  | cons a b =>
   cases i with
   | zero =>
    cases hi;obtain⟨t,e⟩:=(show ∃t,u=Value.str z t from a);exact⟨z,t,rfl,e⟩
   | succ i=>exact yI b i v hi
theorem q0:∀(ps:List (Str×Tok)),a9 ((ps.map (·.1)).map V.str) (ps.map λp=>Value.str p.1 p.2)
 | []=>.nil
 | p::r=>.cons ⟨p.2,rfl⟩ (q0 r)
theorem q_:∀{zs:List Str}{aU:List Value},a9 (zs.map V.str) aU->∃ps:List (Str×Tok),ps.map (·.1)=zs/\aU=ps.map λp=>Value.str p.1 p.2
 | [],[],_=>⟨[],rfl,rfl⟩
 | z::r,u::aU,h=>by
  cases h with
  | cons a b =>
   obtain⟨t,e⟩:=(show ∃t,u=Value.str z t from a);obtain⟨ps,e1,e2⟩:=q_ b;exact⟨(z,t)::ps,by rw [bZ,e1],by rw [bZ,e2,e]⟩
def xy {α β:Type}{f:α->β}{l m:List β}(h:l.Perm m):∀ps:List α,m=ps.map f->∃qs:List α,l=qs.map f/\qs.Perm ps:=by
 induction h with
 | nil =>
  intro ps e;cases ps with
  | nil=>exact⟨[],rfl,.nil⟩
  | cons p r=>cases e
 | cons x h ih =>
  intro ps e;cases ps with
  | nil=>cases e
  | cons p r =>
   rw [bZ] at e;injection e with e1 e2;obtain⟨qs,a,b⟩:=ih r e2;exact⟨p::qs,by rw [bZ,a,e1],b.cons p⟩
 | swap x y l =>
  intro ps e
  match ps,e with
  | [],e=>cases e
  | [_],e=>cases e
  | p::p2::r,e =>
   rw [bZ,bZ] at e;injection e with e1 e2;injection e2 with e3 e4;exact⟨p2::p::r,by rw [bZ,bZ,e1,e3,e4],.swap p p2 r⟩
 | trans h1 h2 i1 i2 =>
  intro ps e;obtain⟨qs,a,b⟩:=i2 ps e;obtain⟨rs,c,d⟩:=i1 qs a;exact⟨rs,c,d.trans b⟩
def Cc {g:Str->Int}{ps:List (Str×Tok)}{out:List Value}(h:KskOut false ((ps.map (·.1)).map g) (ps.map λp=>Value.str p.1 p.2) out) :
  ∃qs:List (Str×Tok),out=qs.map (λp=>Value.str p.1 p.2)/\(qs.map (·.1)).Perm (ps.map (·.1))/\(qs.map (·.1)).Pairwise λx y=>g x<=g y:=by
 obtain⟨rs,h1,h2,h3⟩:=h;have ez:((ps.map (·.1)).map g).zip (ps.map λp=>Value.str p.1 p.2)=ps.map λp=>(g p.1,Value.str p.1 p.2):=by
  rw [ip,List.zip_map,List.zip_eq_zipWith]
  induction ps with
  | nil=>rfl
  | cons p r ih=>simp_all
 rw [ez] at h1;obtain⟨qs,q1,q2⟩:∃qs:List (Str×Tok),rs=qs.map (λp=>(g p.1,Value.str p.1 p.2))/\qs.Perm ps:=by
  exact xy h1 ps rfl
 subst q1;refine⟨qs,by rw [h2,ip];rfl,q2.map _,?_⟩;rw [List.pairwise_map] at h3 ⊢;exact h3.imp λh=>by simpa using h
section
variable {X:Cx}{i:Nat}{xs xh:Str}{params:Arguments}{scope:Scope}{p pos xQ kp p1 p2 p3:Pos}{e:Expr}{ta:TA}{c T:Addr}{k:Nat}
abbrev zG (xs xh:Str)(p1 p2 p3:Pos):Expr:=.Subscript (.Name xs p1) (.Name xh p2) p3
def Hf (X:Cx) (i:Nat)(xQ:Pos)(T:Addr)(ta:TA):TE:=λσ H Q=>ta σ H λvs H1=>Tab T xQ (X.env.qual ++ "<lambda>") H1/\∃(a:Addr) (zs:List Str)(d:Addr)(kvs:List (aK×V))(g:Str->Int),vs=[.ref a]/\aH X.K H1 a (zs.map V.str)/\zs.length < 64/\σ[i]?=some (some (.ref d))/\Rd H1 d (.dK kvs) /\
 (∀z∈zs,a_ kvs (Sum.inr z)=some (.int (g z)))/\∀(l:Addr) (Bf:List Str)(H':Hp),fq T H1 H'->Tab T xQ (X.env.qual ++ "<lambda>") H'->H1 l=none->Bf.Perm zs->Bf.Pairwise (λx y=>g x<=g y)->H' l=some (.lst (Bf.map V.str))->Q (.ref l) H'
def B_ (hr:eI (k+1) X.A)(pR:X.env.code=.ref c)(hC:codeHdIn X.K c T=true)(hB:qy X.mg X.base)(hg:Gl X "sorted")(hm:X.mg "sorted"=none)(ha:PA X [e] ta)
  (hN:X.N[i]?=some xs)(hx:X.env.scope.names.lookup xs=some .cell)(mf:∀y,(y,NameKind.free)∈scope.names->X.env.scope.names.lookup y=some .cell)
  (hb:∀(q:Str)(cl:List (Str×Addr))(pm fQ:Value)(c':Addr)(us:List Value),us.length=1->bindArgs (kla_fn "<lambda>" q params (zG xs xh p1 p2 p3) scope cl pm (.ref c') fQ) ⟨us,[]⟩=pure ([xh].zip us))
  (hk:scope.kind=.function)(QU:scope.isCoroutine=false)(IS:scope.isGenerator=false)(QF:∀x∈scope.names,x.2≠.cell)(hh:scope.names.lookup xh=some .local)(hs:scope.names.lookup xs=some .free)
  (d1:(xs == ("__debug__":Str))=false:=by decide)(d2:(xh == ("__debug__":Str))=false:=by decide)(d3:(xs == ("__classdict__":Str))=false:=by decide)
  (C4:defaultsOf params X.env=([],[]):=by rfl)
  (he:backTo pos (starEach [e] X.env)=(false,eval e X.env)::backTo pos (starEach [] X.env):=by rfl)(hp:(backTo pos (starEach [e] X.env)).any (·.1)=false:=by rfl) :
  PE X (.Call (.Name "sorted" p) [e] [⟨some "key",.Lambda params (zG xs xh p1 p2 p3) scope xQ,kp⟩] pos) (Hf X i xQ T ta):=by
 intro ag s σ H Q I h;refine oK (iV I hg hm boot_sorted ?_);refine callWith_kw (cJ (ha pos ag s σ H _ I h) λus s1 bj=>?_) he hp rfl rfl;obtain⟨vs,H1,I1,r1,Fn,a,zs,d,kvs,g,ev,hq,Zx,hσ,hd,hv,q1⟩:=bj;subst ev;have low:=EL (X:=X) (params:=params) (body:=zG xs xh p1 p2 p3) (scope:=scope) (pos:=xQ) (c:=c) (T:=T) pR hC hB mf C4 ag s1 σ H1
  (λfv H2=>∃f c' fQ cl,fv=.ref f/\FI X.env scope cl/\fq T H1 H2/\Tab T xQ (X.env.qual ++ "<lambda>") H2/\H2 f=some (ng f (hZ X params (zG xs xh p1 p2 p3) scope cl c' fQ))/\H2 c'=some (i_ c' (X.env.qual ++ "<lambda>"))) I1
  ⟨Fn,λf c' fQ cl H' a1 a2 a3 a4 a5 a6=>⟨f,c',fQ,cl,rfl,a1,a2,a3,a5,a6⟩⟩
 refine kws_cons (cJ low λu2 s2 bj=>?_);obtain⟨fv,H2,I2,r2,f,c',fQ,cl,ef,nu,st,Oh,hf,kN⟩:=bj;refine kws_nil ?_;subst ef;cases (show u2=Value.ref f from r2);obtain⟨u,rfl,rx⟩:=vals1 r1;cases (show u=Value.ref a from rx);obtain⟨pt,eT,_⟩:=id Fn;have Yz:aH X.K H2 a (zs.map V.str):=by
  rcases hq with (h | ⟨o,h⟩) | h
  .exact .inl (.inl (st _ _ (λz=>by rw [z,eT] at h;cases h) h))
  .exact .inl (.inr ⟨o,st _ _ (λz=>by rw [z,eT] at h;cases h) h⟩)
  exact .inr h
 have hd2:Rd H2 d (.dK kvs):=by
  rcases hd with h | ⟨o,h⟩
  .exact .inl (st _ _ (λz=>by rw [z,eT] at h;cases h) h)
  exact .inr ⟨o,st _ _ (λz=>by rw [z,eT] at h;cases h) h⟩
 obtain⟨aU,rv,pl,hz⟩:=I2.list Yz;obtain⟨pzs,ez,ei⟩:=q_ rv;have JQ:=pl.isList;obtain⟨oa,ga,ca,na,da⟩:=id JQ;obtain⟨m,vL,lk⟩:=id I2.loc;have E8:∀b o,H2 b=some o->b≠X.env.locals:=λb o hb z=>by rw [z,I2.free] at hb;cases hb
 have Lp:d≠X.env.locals:=by
  rcases hd2 with h | ⟨o,h⟩
  .exact E8 d _ h
  exact E8 d _ h
 have W5:a≠X.env.locals:=λz=>by
  obtain⟨o,es,ep,ho,zk,_⟩:=vL;rw [<-z,ga] at ho;cases ho;rw [da] at zk;cases zk
 obtain⟨ud,rd,XW⟩:=lk i xs (.ref d) hN hσ (.inr (.inl hx));cases (show ud=Value.ref d from rd);obtain⟨cc,ecc,oc,Mn,Mm⟩:∃cc,X.env.cells.lookup xs=some cc/\s2.heap.IsCell cc (some (.ref d)):=by
  rcases XW with ⟨l,_⟩ | ⟨_,c2,e2,h2⟩
  .have l':X.env.scope.names.lookup xs=some .local:=l;rw [hx] at l';cases l'
  exact⟨c2,e2,h2⟩
 obtain⟨cc',Va⟩:=nu.all xs (uk hs);have e3:=nu.sub _ _ Va;rw [ecc] at e3;cases e3;have JR:cc≠X.env.locals:=λz=>by
  obtain⟨o,es,ep,ho,zk,_⟩:=vL;rw [<-z,Mn] at ho;cases ho;rw [Mm] at zk;cases zk
 obtain⟨gf,_⟩:=I2.bS f _ hf;obtain⟨gc,_⟩:=I2.bS c' _ kN;obtain⟨zl,rM,dvs,rel,dd⟩:=mw I2.bS hd2;obtain⟨m0,F0⟩:=I2.fr;refine ksk_sorted (kz:=zs.map g) (f:=.ref f) (b:=false) (vs:=aU) (h₀:=Er.pI s2.heap) (L:=X.env.locals) (m:=m) (news:=(a,oa)::Er.ledger s2.heap X.env.locals a) (Er.Jb vL) (Er.vC W5 ga) JQ (by rw [av,<-rv.length,av]) (by rw [<-rv.length,av];exact Zx)
  (ksk_s1 _ _) (λx=>ksk_l1 _ _) (λx=>ksk_t1 f x) (λj v kk hj Uy qG tk own F N=>?_) λD h' tk out cnt F' N' lt' ko=>?_
 .obtain⟨z,t,Oo,rfl⟩:=yI rv j v hj;rw [bo,Oo] at Uy;cases Uy;have keep:∀b u,b≠X.env.locals->s2.heap.get? b=some u->qG.get? b=some u:=λb u nb hb=>by
   by_cases e:b=a
   .subst e;rw [ga] at hb;cases hb;exact(N (b,oa) (by simp)).1
   exact(N (b,u) (eV _ (cz _ (Er.iT.mpr ⟨nb,e,hb⟩)))).1
  have Yj:=hv z (cy Oo);obtain⟨w',hw,xt⟩:=iZ.some_of (v:=.int (g z)) (o:=valueAt dvs (Sum.inr z)) (by rw [<-Yj];exact rel.val (Sum.inr z));obtain⟨tw,rfl⟩:=(show ∃t,w'=Value.int (g z) t from xt);have Kq:qG.DictOf (a7 X.prog X.w) d dvs:=by
   obtain⟨o,es,ep,g1,r⟩:=dd;exact⟨o,es,ep,keep _ _ Lp g1,r⟩
  have ZO:qG.CodeRec (.ref c') (X.env.qual ++ "<lambda>"):=by
   obtain⟨c2,WR,SO,t2,e2,wC,ig,JW⟩:=gc;cases e2;exact⟨_,WR,SO,t2,rfl,keep _ _ (E8 c' _ kN) wC,ig,JW⟩
  have nl:qG.NoLimit:=I2.mod.nolimit.keeps λb o e=>keep b o (bQ (eZ (bA e) F0.above)) (I2.bk b o e);exact CO (s:={ s2 with heap:=qG,toks:=tk }) (A:=X.A.in1.in1) hr.depth nl (keep _ _ (E8 f _ hf) gf) ZO (λus hl=>hb _ _ _ _ _ us hl) hk QU IS QF hh hs Va (keep _ _ JR Mn) Mm Kq hw d1 d2 d3
   λh3 tk3 T8=>KskEnd.intro (F.kept T8) (N.grown T8) λp hp=>hp
 have keep:∀b u,b≠X.env.locals->s2.heap.get? b=some u->h'.get? b=some u:=λb u nb hb=>by
  by_cases e:b=a
  .subst e;rw [ga] at hb;cases hb;exact(N' (b,oa) (by simp)).1
  exact(N' (b,u) (cz _ (cz _ (Er.iT.mpr ⟨nb,e,hb⟩)))).1
 have hD:s2.heap.get? D=none:=by
  cases e:s2.heap.get? D with
  | none=>rfl
  | some o =>
   exfalso;have nD:D≠X.env.locals:=(N' (D,_) b0).2.1;by_cases ea:D=a
   .have:=lt' (a,oa) b0;rw [ea] at this;exact absurd this (nJ _)
   exact absurd (lt' (D,o) (cz _ (Er.iT.mpr ⟨nD,ea,e⟩))) (nJ _)
 have fD:H2 D=none:=by
  cases e:H2 D with
  | none=>rfl
  | some u =>
   obtain⟨ob,g⟩:=Cn (I2.bS D u e);rw [hD] at g;cases g
 have Z2:H1 D=none:=by
  cases e:H1 D with
  | none=>rfl
  | some u =>
   by_cases z:D=T
   .obtain⟨pt2,eT2,_⟩:=Oh;rw [z,eT2] at fD;cases fD
   rw [st _ _ z e] at fD;cases fD
 rw [ei,<-ez] at ko;obtain⟨qs,eo,pe,ps⟩:=Cc ko;rw [ez] at pe;have gD:=(N' (D,_) b0).1;have lq:qs.length=zs.length:=by have:=pe.length_eq;rw [av] at this;exact this
 have sl:=af fD (.lst ((qs.map (·.1)).map V.str));refine⟨.ref D,_,I2.LI (t':=tk) keep (λm' hm=>?_) hD fD (show cv X.prog X.w _ _ _ (.lst ((qs.map (·.1)).map V.str)) from ⟨by rw [av,av];exact fits ∅,qs.map (λp=>Value.str p.1 p.2),cnt,q0 qs,by rw [<-eo];simpa using gD⟩),rfl,q1 D (qs.map (·.1)) _ (λb o n hb=>sl _ _ (st b o n hb)) ?_ Z2 pe ps ae⟩
 .have:=F'.ns;have e:m'=m:=by
   obtain⟨o,es,ep,ho,zk,_,hf⟩:=hm;obtain⟨o2,es2,ep2,D_,My,_,Mu⟩:=vL;rw [ho] at D_;cases D_;rw [zk] at My;cases My
   funext x
   rw [<-hf x,<-Mu x]
  rw [e];exact this
 obtain⟨N0,b1,b2,b3⟩:=Oh;refine⟨N0,sl _ _ b1,b2,b3.imp id λbj=>?_⟩;obtain⟨c3,e3,g3⟩:=bj;exact⟨c3,e3,sl _ _ g3⟩
end
open PySem M11
def yk {K:a8}{H:Hp}{p D d:Addr}{zs:List Str}{kvs:List (aK×V)}{g:G}{σ:St}{js:List (Nat×Str)}{Qp:Hp->Prop}(hσ:df ["part"] js σ=[none,aI d])(hp:aZ K H p (zs.map V.str))(hz:zs.length<=1000)
  (hd:Rd H d (.dK kvs))(hv:∀z,a_ kvs (Sum.inr z)=(g z).map V.int)(ha:∀z∈zs,(g z).isSome=true)(hD:H D=none)(q:∀H2,aC H H2->H2 D=some (.lst ((zs.map λz=>(g z).getD 0).map V.int))->Qp H2) :
  ∃W:Nat->Nat->List V->St->Hp->Prop,(∃m,W 0 m [] (df ["part"] js σ) (upd H D (.lst []))) /\
 ∀i m ys σ' H,W i m ys σ' H->((mz K p).stop i H/\Qp H)\/((mz K p).go i H/\∃m',m' < m/\∀x H',(mz K p).ka i H x H'->cU 0 x σ' H' λσ2 H2=>gh σ2 H2 λb H3 =>
  if b=true then yD (fO 1) (fO 0) σ2 H3 λy H4=>H4 D=some (.lst ys)/\ys.length < sizeLine/\W (i+1) m' (ys++[y]) σ2 (upd H4 D (.lst (ys++[y]))) else W (i+1) m' ys σ2 H3):=by
 refine fM (xs:=zs.map V.str) (λi ys σ2 H2=>ys=(((zs.take i).map λz=>(g z).getD 0).map V.int)/\(∃y0,σ2=[y0,aI d])/\aC H H2/\H2 D=some (.lst ys))
  ⟨rfl,⟨none,hσ⟩,af hD _,ae⟩ (λi ys σ2 H2 _ h=>h.2.2.1.tup hp) (λi x ys σ2 H2 ex h=>?_) (λys σ2 H2 h=>?_)
 .obtain⟨rfl,⟨y0,rfl⟩,sm,hd2⟩:=h;rw [bo] at ex;obtain⟨z,ez,rfl⟩:=b9.mp ex;have li:=(bc.mp ez).1;obtain⟨n,en⟩:=lC.mp (ha z (cy ez));have hg:cq H2 d (.str z) (some (.int n)):=by
   have:=cq.r (k:=Sum.inr z) (gT.Rd.same hd sm);rw [hv,en] at this;exact this
  refine goN (uV ?_);refine⟨_,rfl,_,rfl,d,_,rfl,hg,hd2,bf (by rw [av,av,d7];omega),?_,⟨_,rfl⟩,?_,ae⟩
  .rw [cI,ez,bC,bC];show _=_++[V.int ((g z).getD 0)];rw [en];rfl
  intro b o hb;rw [ai (λz=>by rw [z,hD] at hb;cases hb)];exact sm b o hb
 obtain⟨rfl,_,sm,hd2⟩:=h;rw [av,cC] at hd2;exact q H2 sm hd2
end L2
namespace gT
open PySem L2 M11
section
def pb (K:a8):Sp:=λvs H Q _=>∃(d r:Addr)(kvs:List (aK×V))(g:G)(ru:au),vs=[.ref d,.ref r]/\Rd H d (.dK kvs)/\(∀z,a_ kvs (Sum.inr z)=(g z).map V.int)/\zL K H r ru/\ru.2.length<=8/\(∀z∈ru.2,(g z).isSome=true)/\∀H',aC H H'->Q (.int (aD g ru)) H'
def w_:aN ["sizes","rule"] ["sizes","rule"] (az mX):=iY rfl rfl rfl rfl nofun
def vw (F:ik K "rule_size" "rule_size" mX f fd)(T:Txt mg):bN P w K mg base fS 1 f fd ["sizes","rule"] (pb K):=by
 refine F.ok w_ (λvs H Q E h=>?_) (λd0 A outer s H vs Q E hr h=>?_)
 .obtain⟨d,r,kvs,g,ru,rfl,_⟩:=h;rfl
 obtain⟨d,r,kvs,g,ru,rfl,hd,hv,⟨p,v1,v2⟩,h8,al,q⟩:=h;have hu:=gp hr;refine⟨_,ao (bu (aM dH ar (aL (jP rfl) rfl T.sum sY (ab (aT ["part"] [(0,"sizes")] rfl (d_ (bJ bX (pv 1) ar (λ_ _=>rfl))) (aV rfl rfl) nofun rfl nofun
   (λ_ _ _ _ _=>aq (i:=0) (show (["part","sizes"]:List Str).Nodup by decide +kernel) rfl (ba rfl)) (λ_ _ _ _ _=>bw) (λ_ _ _ _ _=>eK hu (pv 1) (pv 0) (λ_ _=>rfl))) aj)))),?_⟩
 dsimp only [Dn];refine⟨_,rfl,r,_,_,_,rfl,rfl,v1,rfl,p,rfl,⟨_,v2⟩,λD hD=>yk (g:=g) rfl v2 ∅ hd hv al hD λH2 s2 e2=>?_⟩;refine⟨D,_,rfl,aH.of e2,_,_,rfl,rfl,?_⟩;exact q H2 s2
end
end gT
namespace M11
open PySem
def oF.at_ {aa:List au}{aP:List (Str×Nat)}(h:oF aa aP):∀(i:Nat)(x:Str) (k:Nat),aP[i]?=some (x,k)->∃cA,aa[k]?=some (x,cA)/\∀p∈cA,p∈(aP.take i).map (·.1):=by
 induction h with
 | nil=>intro i x k e;simp at e
 | @snoc aP k2 ru h e n p ih =>
  intro i x k ei;by_cases hi:i < aP.length
  .rw [lD hi] at ei;obtain⟨cA,a,b⟩:=ih i x k ei;exact⟨cA,a,λq hq=>by rw [lF (jn hi)];exact b q hq⟩
  have li:=(bc.mp ei).1;rw [bO,gO] at li;have e2:i=aP.length:=by omega
  subst e2;rw [jZ (aG _),mH] at ei;cases ei;exact⟨ru.2,e,λq hq=>by rw [List.take_left'];exact p q hq;rfl⟩
end M11
namespace gT
open PySem L2 M11
section
def qf {H:Hp}{p D d:Addr}{zs:List Str}{kvs:List (aK×V)}{σ:St}{js:List (Nat×Str)}{Qp:Hp->Prop}(hσ:df ["part"] js σ=[none,aI d])(hp:aZ K H p (zs.map V.str))(hz:zs.length<=1000)
  (hd:H d=some (.dK kvs))(ha:∀z∈zs,(Sum.inr z:aK)∈kvs.map (·.1))(hD:H D=none)(q:∀ys H2,ys.length=zs.length->aC H H2->H2 D=some (.lst ys)->Qp H2) :
  ∃W:Nat->Nat->List V->St->Hp->Prop,(∃m,W 0 m [] (df ["part"] js σ) (upd H D (.lst []))) /\
 ∀i m ys σ' H,W i m ys σ' H->((mz K p).stop i H/\Qp H)\/((mz K p).go i H/\∃m',m' < m/\∀x H',(mz K p).ka i H x H'->cU 0 x σ' H' λσ2 H2=>gh σ2 H2 λb H3 =>
  if b=true then yD (fO 1) (fO 0) σ2 H3 λy H4=>H4 D=some (.lst ys)/\ys.length < sizeLine/\W (i+1) m' (ys++[y]) σ2 (upd H4 D (.lst (ys++[y]))) else W (i+1) m' ys σ2 H3):=by
 refine fM (xs:=zs.map V.str) (λi ys σ2 H2=>ys.length=i/\(∃y0,σ2=[y0,aI d])/\aC H H2/\H2 D=some (.lst ys))
  ⟨rfl,⟨none,hσ⟩,af hD _,ae⟩ (λi ys σ2 H2 _ h=>h.2.2.1.tup hp) (λi x ys σ2 H2 ex h=>?_) (λys σ2 H2 h=>?_)
 .obtain⟨rfl,⟨y0,rfl⟩,sm,hd2⟩:=h;rw [bo] at ex;obtain⟨z,ez,rfl⟩:=b9.mp ex;have li:=(bc.mp ez).1;obtain⟨v,ev⟩:=lC.mp ((dZ kvs (Sum.inr z)).mpr (ha z (cy ez)));have hg:cq H2 d (.str z) (some v):=by
   have:=cq.k (k:=Sum.inr z) (sm _ _ hd);rw [ev] at this;exact this
  refine goN (uV ?_);refine⟨_,rfl,_,rfl,d,_,rfl,hg,hd2,bf ∅,by rw [bO];rfl,⟨_,rfl⟩,?_,ae⟩;intro b o hb;rw [ai (λz=>by rw [z,hD] at hb;cases hb)];exact sm b o hb
 obtain⟨e,_,sm,hd2⟩:=h;rw [av] at e;exact q ys H2 e sm hd2
def rh (K:a8):Sp:=λvs H Q _=>∃(R D:Addr)(rs ts:List Addr)(aa:List au)(aP:List (Str×Nat)),vs=[.ref R,.ref D]/\aH K H R (rs.map V.ref)/\bE K H rs aa/\aa.length<=1000/\(∀ru∈aa,ru.2.length<=8)/\aH K H D (ts.map V.ref)/\jc K H ts aP/\oF aa aP/\aP.length<=1000 /\
 ∀(d:Addr)(kvs:List (aK×V))(H':Hp),H d=none->aC H H'->H' d=some (.dK kvs)->kvs.map (·.1)=(aP.map (·.1)).map Sum.inr->Q (.ref d) H'
def jJ:aN ["rules","empties","trees","name","number"] ["rules","empties"] (az pD):=iY rfl rfl rfl rfl nofun
def xH (F:ik K "empty_by_name" "empty_by_name" pD f fd)(T:Txt mg):bN P w K mg base fS 1 f fd ["rules","empties"] (rh K):=by
 refine F.ok jJ (λvs H Q E h=>?_) (λd0 A outer s H vs Q E hr h=>?_)
 .obtain⟨R,D,rs,ts,aa,aP,rfl,_⟩:=h;rfl
 obtain⟨R,D,rs,ts,aa,aP,rfl,hR,cS,bq,h8,hD,UG,Mv,Ka,q⟩:=h;have hu:=gp hr;refine⟨_,ak (aB (i:=2) jJ.nd rfl (Or.inr rfl) fg)
  (ak (bL b_ rfl (aS (pv 1)) (di (n:=2) K rfl (aA (aq (i:=3) jJ.nd rfl (ba rfl)) (aA (aq (i:=4) jJ.nd rfl (ba rfl)) bF)))
   (ao (gy hu (pv 2) (pv 3) (bD (ab (pv 4) (ab (a0 ij rfl T.tup tq (ab (aT ["part"] [(2,"trees")] rfl (d_ (bJ bX (bJ cO (pv 0) (pv 4) (λ_ _=>rfl)) ar (λ_ _=>rfl))) (aV rfl rfl) nofun rfl nofun
    (λ_ _ _ _ _=>aq (i:=0) (show (["part","trees"]:List Str).Nodup by decide +kernel) rfl (ba rfl)) (λ_ _ _ _ _=>bw) (λ_ _ _ _ _=>eK hu (pv 1) (pv 0) (λ_ _=>rfl))) aj)) aj))) rfl)))
  (ao (bu (pv 2)))),?_⟩
 nofun
 refine λd wG=>?_;have s1:=af wG (.dK []);have e1:upd H d (.dK []) d=some (.dK []):=ae;generalize upd H d (.dK [])=H1 at s1 e1;refine goN ?_
 ac_rfl
 have lt:=bB UG;have ll:=bB cS;have nd:=Mv.nd
 let uR:qt:=λi σ H3=>∃(kvs:List (aK×V))(y3 y4:Option V),σ=[aI R,aI D,aI d,y3,y4]/\aC H H3/\H3 d=some (.dK kvs)/\kvs.map (·.1)=((aP.take i).map (·.1)).map Sum.inr
 refine⟨_,rfl,D,rfl,⟨_,s1.seq hD⟩,cf (xs:=ts.map V.ref) uR ⟨[],_,_,rfl,s1,e1,rfl⟩ ?_ ?_ ?_⟩
 .rintro i σ H3 _ ⟨kvs,y3,y4,rfl,s3,_⟩;exact s3.seq hD
 .rintro i x σ H3 ex ⟨kvs,y3,y4,rfl,s3,ed,ek⟩
  ac_nf0
  rw [bo] at ex;obtain⟨t,et,rfl⟩:=b9.mp ex;have li:=(bc.mp et).1;obtain⟨e,ee⟩:∃e,aP[i]?=some e:=⟨aP[i]'∅,c_ ∅⟩;obtain⟨t',Gz,vt⟩:=Paired.at_ UG i e ee;rw [et] at Gz;cases Gz;obtain⟨x,k⟩:=e;obtain⟨cA,hk,JZ⟩:=Mv.at_ i x k ee;obtain⟨r,er,p,v1,v2⟩:=Paired.at_ cS k _ hk;have Nh:qL (rs.map V.ref) (k:Int)=some (.ref r):=dN (by rw [bo,er];rfl);have Us:cA.length<=8:=h8 _ (cy hk);refine⟨t,_,rfl,s3.tup vt,rfl,_,_,rfl,_,_,rfl,rfl,?_⟩;refine⟨_,rfl,_,rfl,_,rfl,R,_,_,_,rfl,rfl,s3.seq hR,Nh,r,_,_,_,rfl,rfl,s3.tup v1,rfl,p,rfl,⟨_,s3.tup v2⟩,λD2 jb=>qf (zs:=cA) rfl (s3.tup v2) ∅ ed (λz hz=>by rw [ek];exact cP.mpr (JZ z hz)) jb λys H4 ly s4 e4=>?_⟩;refine⟨D2,ys,rfl,.inl ⟨aH.of e4,λt2 Ra=>⟨kW,λCG Je=>?_⟩⟩⟩;have k5:=(af Ra (.tup ys)).trans (af Je (.tup [.int (k:Int),.ref t2]));generalize upd (upd H4 t2 (.tup ys)) CG (.tup [.int (k:Int),.ref t2])=H5 at k5;have ed5:=k5 _ _ (s4 _ _ ed);have lkv:kvs.length=i:=by
   have:=congrArg List.length ek;rw [av,av,av,d7] at this;omega
  have nx:x∉(aP.take i).map (·.1):=λz=>by
   obtain⟨e2,m2,q2⟩:=cH.mp z;obtain⟨j,hj⟩:=fI m2;rw [List.getElem?_take] at hj
   split at hj
   .rename_i Uz
    have a1:(aP.map (·.1))[j]?=some x:=by rw [bo,hj];exact congrArg some q2
    have a2:(aP.map (·.1))[i]?=some x:=by rw [bo,ee];rfl
    have:=(List.getElem?_inj (by rw [av];omega) nd).mp (a1.trans a2.symm);omega
   cases hj
  refine⟨_,rfl,_,rfl,d,_,rfl,.inl ⟨kvs,Sum.inr x,ed5,rfl,bf ∅,rfl⟩,?_⟩;refine⟨_,_,_,rfl,λb o hb=>?_,ae,?_⟩
  .rw [ai (λz=>by rw [z,wG] at hb;cases hb)];exact k5 _ _ (s4 _ _ (s3 b o hb))
  rw [hX (by rw [ek];exact λz=>nx (cP.mp z)),ek,cI,ee,bC,bC];rfl
 rintro σ H3 ⟨kvs,y3,y4,rfl,s3,ed,ek⟩;rw [av,lt,cC] at ek;exact⟨_,rfl,q d kvs H3 wG s3 ed ek⟩
end
end gT
namespace M11
open PySem
def Le (g' g:G):Prop:=∀z n,g z=some n->∃m,g' z=some m/\m<=n
def vS {g:G}{ru:au}(f:cx bl g ru=true):ja g ru=true/\∀n,g ru.1=some n->aD g ru < n:=by
 unfold cx at f;rw [jX] at f;refine⟨f.1,λn e=>?_⟩;have:=f.2;rw [e] at this;have:(!(some n:Option Int).isSome || bl (aD g ru) n)=true:=this
 simpa [bl] using this
def le_step {g:G}{ru:au}(f:cx bl g ru=true):Le (cX g ru.1 (aD g ru)) g:=λz n e=>by
 unfold cX;by_cases c:z=ru.1
 .rw [ax c];subst c;exact⟨_,rfl,Int.le_of_lt ((vS f).2 n e)⟩
 rw [ay c];exact⟨n,e,i0 _⟩
theorem Br {g g':G}(h:Le g' g):∀ps:List Str,(∀p∈ps,(g p).isSome=true)->(∀p∈ps,(g' p).isSome=true)/\(ps.map λp=>(g' p).getD 0).sum<=(ps.map λp=>(g p).getD 0).sum
 | [],_=>⟨λp hp=>(by cases hp),i0 _⟩
 | p::r,a=>by
  obtain⟨h1,h2⟩:=Br h r λq hq=>a q (cz _ hq);obtain⟨n,en⟩:=lC.mp (a p b0);obtain⟨m,em,lm⟩:=h p n en;refine⟨λq hq=>?_,?_⟩
  .rcases bM.mp hq with rfl | hq
   .rw [em];rfl
   exact h1 q hq
  rw [bZ,bZ,jf,jf,en,em];show m+_<=n+_;omega
def sq {g:G}{ru:au}:ja g ru=true↔∀p∈ru.2,(g p).isSome=true:=by
 unfold ja;rw [d5]
def size_le {g g':G}{ru:au}(h:Le g' g)(a:ja g ru=true):ja g' ru=true/\aD g' ru<=aD g ru:=by
 obtain⟨h1,h2⟩:=Br h ru.2 (sq.mp a);exact⟨sq.mpr h1,by unfold aD;omega⟩
def Ks (aa:List au) (hs:List Str)(g:G):Prop:=∀h n,g h=some n->h∉hs\/∃ru∈aa,ru.1=h/\ja g ru=true/\aD g ru<=n
def Bg {aa:List au}{hs:List Str}(g:G)(ru:au)(j:Ks aa hs g)(m:ru∈aa)(f:cx bl g ru=true):Ks aa hs (cX g ru.1 (aD g ru)):=λh n e=>by
 have le:=le_step f;by_cases c:h=ru.1
 .have e2:n=aD g ru:=by
   unfold cX at e;rw [ax c] at e;exact(gC e).symm
  obtain⟨a1,a2⟩:=size_le le (vS f).1;exact .inr ⟨ru,m,c.symm,a1,∅⟩
 have e2:g h=some n:=by
  unfold cX at e;rw [ay c] at e;exact e
 rcases j h n e2 with h1 | ⟨HN,m2,q2,a2,l2⟩
 .exact .inl h1
 obtain⟨b1,b2⟩:=size_le le a2;exact .inr ⟨HN,m2,q2,b1,∅⟩
def Ag {aa:List au}{hs:List Str}{g0 g:G}(j0:Ks aa hs g0)(st:de bl aa g0 g)(se:gS bl aa g){h:Str}{n:Int}(hh:h∈hs)(e:g h=some n):∃ru∈aa,ru.1=h/\ja g ru=true/\aD g ru=n:=by
 have j:Ks aa hs g:=de.keep (J:=Ks aa hs) (λg ru j m f=>Bg g ru j m f) st j0;rcases j h n e with z | ⟨ru,m,q,a,l⟩
 .exact absurd hh z
 refine⟨ru,m,q,a,?_⟩;have f:=se ru m;unfold cx at f;rw [a,q,e] at f;have f:(true && (!(some n:Option Int).isSome || bl (aD g ru) n))=false:=f
 have f2:¬aD g ru < n:=by simpa [bl] using f
 omega
theorem zd {g:G}(nn:NN g):∀(ps:List Str)(p:Str) (m:Int),p∈ps->g p=some m->m<=(ps.map λp=>(g p).getD 0).sum
 | q::r,p,m,hp,e=>by
  rw [bZ,jf];have h1:=iO g nn r;rcases bM.mp hp with rfl | hp
  .rw [e];show m<=m+_;omega
  have h2:=zd nn r p m hp e;have h3:0<=(g q).getD 0:=by
   cases eq:g q with
   | none=>exact i0 _
   | some n=>exact nn q n eq
  omega
def z5 {g:G}(nn:NN g){ru:au}{p:Str}{m:Int}(hp:p∈ru.2)(e:g p=some m):m < aD g ru:=by
 have:=zd nn ru.2 p m hp e;unfold aD;omega
theorem yy:∀(aW ps bI:List Str),(∀z∈bI,z∉aW)->∀z∈qz aW bI ps,z∉aW
 | _,[],bI,h=>h
 | aW,p::r,bI,h=>by
  show ∀z∈qz aW (addW aW bI p) r,z∉aW;refine yy aW r _ ?_;unfold addW
  split
  .exact h
  rename_i hp
  unfold gw
  split
  .exact h
  intro z hz;rcases cD.mp hz with hz | hz
  .exact h z hz
  rw [cT.mp hz];exact hp
def tO {g:Str->Int}{zs:List Str}(h:zs.Pairwise λx y=>g x<=g y){i:Nat}{x p:Str}(e:zs[i]?=some x)(hp:p∈zs)(l:g p < g x):p∈zs.take i:=by
 obtain⟨j,ej⟩:=fI hp;obtain⟨li,ei⟩:=bc.mp e;obtain⟨lj,ej2⟩:=bc.mp ej;have Uz:j < i:=by
  rcases Nat.lt_trichotomy j i with h1 | h1 | h1
  .exact h1
  .subst h1;rw [e] at ej;cases ej;omega
  have:=List.pairwise_iff_getElem.mp h i j li lj h1;rw [ei,ej2] at this;omega
 rw [List.mem_iff_getElem?];exact⟨j,by rw [List.getElem?_take,ax Uz];exact ej⟩
end M11
namespace gT
open PySem L2 M11
def OT (aa:List au):Ks aa (hd aa) (uB aa):=λh n e=>by
 unfold uB at e;by_cases c:h∈qz (hd aa) [] (aa.flatMap (·.2))
 .exact .inl (yy _ _ [] (λz hz=>by cases hz) h c)
 rw [ay c] at e;cases e
def WW (aa:List au):NN (uB aa):=λh n e=>by
 unfold uB at e;by_cases c:h∈qz (hd aa) [] (aa.flatMap (·.2))
 .rw [ax c] at e;cases e;exact i0 _
 rw [ay c] at e;cases e
def Ij {aa:List au}{g:G}(st:de M11.bl aa (uB aa) g):NN g:=de.keep (J:=NN) (λg ru j m f=>ui j ru) st (WW aa)
theorem ot (aW:List Str):∀(ps bI:List Str)(x:Str),(x∈bI\/(x∈ps/\x∉aW))->x∈qz aW bI ps
 | [],bI,x,h=>by
  rcases h with h | ⟨h,_⟩
  .exact h
  cases h
 | p::r,bI,x,h=>by
  show x∈qz aW (addW aW bI p) r;apply ot aW r;unfold addW;by_cases c:p∈aW
  .rw [ax c];rcases h with h | ⟨h,n⟩
   .exact .inl h
   rcases bM.mp h with z | z
   .exact absurd (z ▸ c) n
   exact .inr ⟨z,n⟩
  rw [ay c];rcases h with h | ⟨h,n⟩
  .exact .inl ((jF _ _ _).mpr (.inl h))
  rcases bM.mp h with z | z
  .exact .inl ((jF _ _ _).mpr (.inr z))
  exact .inr ⟨z,n⟩
def Lj:List Stmt->Pos
 | [_,_,_,.For _ (.Call _ _ [⟨_,.Lambda _ _ _ pos,_⟩] _) _ _ _,_]=>pos
 | _=>⟨0,0,0,0⟩
abbrev posB:Pos:=Lj (bV lV)
abbrev DV:Str := "least_by_part" ++ ".<locals>." ++ "<lambda>"
section
def mT (K:a8)(T1 T3:Addr):Sp:=λvs H Q _=>∃(R:Addr)(rs:List Addr)(aa:List au),vs=[.ref R]/\aH K H R (rs.map V.ref)/\bE K H rs aa/\aa.length < 64/\(∀ru∈aa,ru.2.length<=8)/\(∀g,de M11.bl aa (uB aa) g->gS M11.bl aa g->∀h∈hd aa,∃n,g h=some n/\n<=60)/\Tab T1 pL.2.2.2 wz H/\Tab T3 posB DV H/\T1≠T3 /\
 ∀(d:Addr)(kvs:List (aK×V))(H':Hp),H d=none->j8 T1 T3 H H'->Tab T1 pL.2.2.2 wz H'->Tab T3 posB DV H'->H' d=some (.dK kvs)->(∀z,z∈hd aa->(Sum.inr z:aK)∈kvs.map (·.1))->Q (.ref d) H'
structure LB (K:a8)(rs:List Addr)(aa:List au)(oB:List (aK×V))(ps:List (Str×Addr))(R dz dn T1 T3:Addr)(H5:Hp):Prop where
 hR:aH K H5 R (rs.map V.ref)
 cS:bE K H5 rs aa
 nm:Ep ps (λn=>nums aa n aa.length) H5 dn
 rz:Rd H5 dz (.dK oB)
 t1:Tab T1 pL.2.2.2 wz H5
 t3:Tab T3 posB DV H5
theorem LB.same {rs:List Addr}{aa:List au}{oB:List (aK×V)}{ps:List (Str×Addr)}{R dz dn T1 T3:Addr}{H5 H6:Hp}(h:LB K rs aa oB ps R dz dn T1 T3 H5)(s:aC H5 H6):LB K rs aa oB ps R dz dn T1 T3 H6 :=
 ⟨s.seq h.hR,h.cS.same s,h.nm.same s,gT.Rd.same h.rz s,h.t1.same s,h.t3.same s⟩
def LB.Gi {rs:List Addr}{aa:List au}{oB:List (aK×V)}{ps:List (Str×Addr)}{R dz dn T1 T3 d:Addr}{H5 H6:Hp}{kv:List (aK×V)}(h:LB K rs aa oB ps R dz dn T1 T3 H5)(e:H5 d=some (.dK kv))(n1:dn≠d)(n2:dz≠d)(s:fq d H5 H6):LB K rs aa oB ps R dz dn T1 T3 H6:=by
 have tk:∀a xs,aZ K H5 a xs->aZ K H6 a xs:=λa xs z=>by
  rcases z with (z | ⟨u,z⟩) | z
  .exact .inl (.inl (s _ _ (λy=>by rw [y,e] at z;cases z) z))
  .exact .inl (.inr ⟨u,s _ _ (λy=>by rw [y,e] at z;cases z) z⟩)
  exact .inr z
 have tb:∀{T':Addr}{pos':Pos}{DU:Str},Tab T' pos' DU H5->Tab T' pos' DU H6:=λ{T' pos' DU} ⟨p,a,b,cc⟩=>⟨p,s _ _ (λy=>by rw [y,e] at a;cases a) a,b,cc.imp id λ⟨c',e1,e2⟩=>⟨c',e1,s _ _ (λy=>by rw [y,e] at e2;cases e2) e2⟩⟩;refine⟨?_,h.cS.keep tk,⟨s _ _ n1 h.nm.hd,h.nm.n1,h.nm.n2,λp hp=>s _ _ (λy=>by have a:=h.nm.lst p hp;rw [y,e] at a;cases a) (h.nm.lst p hp)⟩,?_,tb h.t1,tb h.t3⟩
 .rcases h.hR with (z | ⟨u,z⟩) | z
  .exact .inl (.inl (s _ _ (λy=>by rw [y,e] at z;cases z) z))
  .exact .inl (.inr ⟨u,s _ _ (λy=>by rw [y,e] at z;cases z) z⟩)
  exact .inr z
 rcases h.rz with z | ⟨u,z⟩
 .exact .inl (s _ _ n2 z)
 exact .inr ⟨u,s _ _ n2 z⟩
def LB.K5 {rs:List Addr}{aa:List au}{oB:List (aK×V)}{ps:List (Str×Addr)}{R dz dn T1 T3:Addr}{H5 H6:Hp}(h:LB K rs aa oB ps R dz dn T1 T3 H5)(nT:T1≠T3)(s:fq T3 H5 H6)(t:Tab T3 posB DV H6):LB K rs aa oB ps R dz dn T1 T3 H6:=by
 obtain⟨pt,eT,_⟩:=id h.t3;refine⟨yV s h.t3 h.hR,h.cS.keep λ_ _ z=>yA s h.t3 z,⟨s _ _ (λy=>by have a:=h.nm.hd;rw [y,eT] at a;cases a) h.nm.hd,h.nm.n1,h.nm.n2,λp hp=>s _ _ (λy=>by have a:=h.nm.lst p hp;rw [y,eT] at a;cases a) (h.nm.lst p hp)⟩,?_,yB s h.t3 h.t1 nT,t⟩;rcases h.rz with z | ⟨u,z⟩
 .exact .inl (s _ _ (λy=>by rw [y,eT] at z;cases z) z)
 exact .inr ⟨u,s _ _ (λy=>by rw [y,eT] at z;cases z) z⟩
theorem nj:∀(hs:List Str)(bI:List (aK×V)) (as:List Str),bI.map (·.1)=as.map Sum.inr->(cN (hs.map λh=>((Sum.inr h:aK),V.str h)) bI).map (·.1)=(M11.uI as hs).map Sum.inr
 | [],bI,as,e=>e
 | h::r,bI,as,e=>nj r (bH bI (Sum.inr h) (.str h)) (M11.gw as h) (gT.iD e h)
def gU:aN ["rules","numbers","trees","name","least","sizes"] ["rules"] (az lV):=iY rfl rfl rfl rfl nofun
def xG {T1 T3:Addr}(F:wm K "least_by_part" "least_by_part" lV f fd T3)(T:Txt mg)(hB:qy mg base)(hS:mg "sorted"=none)(GH:aF P w K mg base 3 "heads_of" ["rules"] (jH K))(GL:aF P w K mg base 3 "least_sizes" ["rules"] (ou K T1))(GN:aF P w K mg base 3 "numbers_by_name" ["rules"] (Bv K))(GZ:aF P w K mg base 3 "rule_size" ["sizes","rule"] (pb K)):bN P w K mg base fS 4 f fd ["rules"] (mT K T1 T3):=by
 refine F.ok gU (λvs H Q E h=>?_) (λc A outer s H vs Q E hC hr h=>?_)
 .obtain⟨R,rs,aa,rfl,_⟩:=h;rfl
 obtain⟨R,rs,aa,rfl,hR,cS,bq,h8,C1,Fn,QY,nT,q⟩:=h;have hu:=gp hr;refine⟨_,ak (aB (i:=5) gU.nd rfl (Or.inr rfl) (bp GL hr rfl (ab (pv 0) aj)))
  (ak (aB (i:=1) gU.nd rfl (Or.inr rfl) (bp GN hr rfl (ab (pv 0) aj)))
  (ak (aB (i:=2) gU.nd rfl (Or.inr rfl) (a0 (dM rfl) rfl T.zC fk (ab (aT ["part"] [(1,"numbers")] rfl (yZ (pv 5)) (aV rfl rfl) nofun rfl nofun
    (λ_ _ _ _ _=>aq (i:=0) (show (["part","numbers"]:List Str).Nodup by decide +kernel) rfl (ba rfl)) (λ_ _ _ _ _=>gP (fw (dU hu (pv 0) (pv 1)))) (λ_ _ _ _ _=>bD (ab (pv 0) (ab (pv 0) aj)))) aj)))
  (ak (bL b_ rfl (aS (B_ (i:=5) (T:=T3) hr rfl hC hB rfl hS (ab (bp GH hr rfl (ab (pv 0) aj)) aj) rfl rfl (λy hy=>by
    rcases bM.mp hy with h | h
    .cases h
    rcases bM.mp h with h | h
    .cases h;rfl
    cases h) (λq cl pm fQ c' us hl=>match us,hl with | [_],_=>rfl) rfl rfl rfl nofun rfl rfl)) (aq (i:=3) gU.nd rfl (Or.inr rfl))
   (ak (jK (iy:=4) ["number"] [(5,"sizes"),(0,"rules"),(3,"name")] gU.nd rfl rfl rfl (aS (eK hu (pv 1) (pv 3) (λ_ _=>rfl))) (aV rfl rfl) nofun rfl nofun
    (λ_ _ _ _ _=>aq (i:=0) (show (["number","sizes","rules","name"]:List Str).Nodup by decide +kernel) rfl (ba rfl)) (λ_ _ _ _ _=>gP (br i8 (bp GZ hr rfl (ab (pv 1) (ab (bJ (CP K) (pv 2) (pv 0) (λ_ _=>rfl)) aj))) (eK hu (pv 1) (pv 3) (λ_ _=>rfl)) (cw _))) (λ_ _ _ _ _=>pv 0))
   (ao (gy hu (pv 2) (pv 3) (bD (ab (bJ cO (pv 4) ar (λ_ _=>rfl)) (ab (a0 ij rfl T.tup tq (ab (aT ["part"] [(2,"trees")] rfl (d_ (bJ bX (bJ cO (pv 0) (bJ cO (pv 4) ar (λ_ _=>rfl)) (λ_ _=>rfl)) ar (λ_ _=>rfl))) (aV rfl rfl) nofun rfl nofun
    (λ_ _ _ _ _=>aq (i:=0) (show (["part","trees"]:List Str).Nodup by decide +kernel) rfl (ba rfl)) (λ_ _ _ _ _=>bw) (λ_ _ _ _ _=>eK hu (pv 1) (pv 0) (λ_ _=>rfl))) aj)) aj))) rfl))))
  (ao (bu (pv 2)))))),?_⟩
 nofun
 refine⟨_,rfl,R,rs,aa,rfl,hR,cS,∅,h8,Fn,λdz oB Gf g H1 fz s1 t1 ez kz vz NQ Td lz=>?_⟩;refine goN ?_
 ac_rfl
 have UM:=yV s1 Fn hR;have Mj:=cS.keep λ_ _ z=>yA s1 Fn z;have SW:=yB s1 Fn QY (fu nT);refine⟨_,rfl,R,rs,aa,rfl,UM,Mj,∅,λdn ps H2 fn s2 nm pk pf=>?_⟩;refine goN ?_
 ac_rfl
 have Gy:=s2 _ _ ez;refine⟨_,rfl,dz,oB,rfl,Gy,λo D hD=>?_⟩;have PF:∀p∈ps,p.2≠dz:=λp hp z=>by
  have a:=nm.lst p hp;rw [z,Gy] at a;cases a
 have W6:dn≠dz:=λz=>by rw [z,ez] at fn;cases fn
 have WT:T1≠dz:=λz=>by
  obtain⟨p,a,_⟩:=t1;rw [z,ez] at a;cases a
 have WS:T3≠dz:=λz=>by
  obtain⟨p,a,_⟩:=SW;rw [z,ez] at a;cases a
 have KH:∀{T':Addr}{pos':Pos}{DU:Str},T'≠dz->Tab T' pos' DU H2->Tab T' pos' DU (upd H2 dz (.je o (.dK oB))):=λ{T' pos' DU} n ⟨p,a,b,cc⟩=>⟨p,by rw [ai n];exact a,b,cc.imp id λ⟨c',e1,e2⟩=>⟨c',e1,by rw [ai (λz=>by rw [z,Gy] at e2;cases e2)];exact e2⟩⟩;have L3:LB K rs aa oB ps R dz dn T1 T3 (upd H2 dz (.je o (.dK oB))):=by
  refine⟨?_,(Mj.same s2).keep λ_ _ z=>gF Gy z,⟨by rw [ai W6];exact nm.hd,nm.n1,nm.n2,λp hp=>by rw [ai (PF p hp)];exact nm.lst p hp⟩,.inr ⟨o,ae⟩,KH WT (t1.same s2),KH WS (SW.same s2)⟩;rcases s2.seq UM with (h | ⟨u,h⟩) | h
  .exact .inl (.inl (by rw [ai (λz=>by rw [z,Gy] at h;cases h)];exact h))
  .exact .inl (.inr ⟨u,by rw [ai (λz=>by rw [z,Gy] at h;cases h)];exact h⟩)
  exact .inr h
 have e3:upd H2 dz (.je o (.dK oB)) dz=some (.je o (.dK oB)):=ae;have zV:j8 T1 T3 H (upd H2 dz (.je o (.dK oB))):=λb u n1 n3 hb=>by
  rw [ai (λz=>by rw [z,fz] at hb;cases hb)];exact s2 _ _ (s1 b u n1 hb)
 generalize upd H2 dz (.je o (.dK oB))=H3 at hD L3 e3 zV ⊢;have XT:oB.length=Gf.length:=by
  have:=congrArg List.length kz;rwa [av,av] at this
 refine qk (λi ys σ2 H4=>∃ts:List Addr,ys=ts.map V.ref/\(∃y0,σ2=[y0,aI dn])/\aC H3 H4/\H4 D=some (.lst ys)/\ts.length<=i/\Paired (λt h=>aZ K H4 t [.str h,.str h]) ts ((Gf.take i).filter λz=>!decide (z∈hd aa)))
  ⟨[],rfl,⟨none,rfl⟩,af hD _,ae,aG _,.nil⟩ (λi ys σ2 H4 _ h=>?_) (λi kv ys σ2 H4 ex h=>?_) (λys σ2 H4 h=>?_)
 .obtain⟨_,_,_,sm,_⟩:=h;exact sm _ _ e3
 .obtain⟨ts,rfl,⟨y0,rfl⟩,sm,e4,TV,pt⟩:=h;obtain⟨z,Z5,ekz⟩:∃z,Gf[i]?=some z/\kv.1=Sum.inr z:=by
   have a1:(oB.map (·.1))[i]?=some kv.1:=by rw [bo,ex];rfl
   rw [kz,bo] at a1;obtain⟨z,a2,a3⟩:=b9.mp a1;exact⟨z,a2,a3.symm⟩
  rw [ekz];have L4:=L3.same sm;have J3:(a_ (ps.map iM) (Sum.inr z)).isSome=decide (z∈hd aa):=by
   rw [k0,dZ,decide_eq_true_iff,<-pk];rw [ip];constructor
   .intro h;obtain⟨p,hp,e⟩:=cH.mp h;exact cH.mpr ⟨p,hp,jm e⟩
   intro h;obtain⟨p,hp,e⟩:=cH.mp h;exact cH.mpr ⟨p,hp,congrArg Sum.inr e⟩
  refine goN ?_;refine⟨_,rfl,_,rfl,dn,_,rfl,cq.k (k:=Sum.inr z) L4.nm.hd,_,rfl,?_⟩;rw [J3];have MU:((Gf.take (i+1)).filter λz=>!decide (z∈hd aa))=((Gf.take i).filter λz=>!decide (z∈hd aa))++(if (!decide (z∈hd aa))=true then [z] else []):=by
   rw [cI,Z5,qR]
   congr 1
   by_cases c:z∈hd aa <;> simp [c]
  refine cu (λcc=>?_) (λcc=>?_)
  .refine⟨_,rfl,_,rfl,kW,λt ht=>?_⟩;have k5:=af ht (.tup [kV (Sum.inr z),kV (Sum.inr z)]);have v5:aZ K (upd H4 t (.tup [kV (Sum.inr z),kV (Sum.inr z)])) t [.str z,.str z]:=aZ.of ae;generalize upd H4 t (.tup [kV (Sum.inr z),kV (Sum.inr z)])=H5 at k5 v5;have li:=(bc.mp ex).1;have e5:=k5 _ _ e4;refine⟨e5,bf (by rw [av];omega),ts++[t],by rw [bC];rfl,⟨_,rfl⟩,λb u hb=>?_,ae,by rw [bO,gO];omega,?_⟩
   .rw [ai (λz=>by rw [z,hD] at hb;cases hb)];exact k5 _ _ (sm b u hb)
   rw [MU,ax cc];exact f_ (Paired.fj pt λ_ _ z=>aX e5 (k5.tup z)) (aX e5 v5)
  refine⟨ts,rfl,⟨_,rfl⟩,sm,e4,∅,?_⟩;rw [MU,ay cc,iq];exact pt
 obtain⟨ts,rfl,_,s4,e4,TV,pt⟩:=h;rw [XT,cC] at pt;have Ug:∀z,z∉hd aa->(g z).isSome=true->z∈Gf.filter λz=>!decide (z∈hd aa):=λz hz gz=>by
  refine jW.mpr ⟨?_,by simpa using hz⟩;have a1:(a_ oB (Sum.inr z)).isSome=true:=by rw [vz,oJ];exact gz
  rw [dZ,kz] at a1;exact cP.mp a1
 have XE:(Gf.filter λz=>!decide (z∈hd aa)).length<=20000:=fU (uX _ _) ∅;generalize Gf.filter (λz=>!decide (z∈hd aa))=ws at pt Ug XE;have kp:Paired (λt (kv:aK×V)=>aZ K H4 t [kV kv.1,kv.2]) ts (ws.map λh=>((Sum.inr h:aK),V.str h)):=cE pt λ_ _ z=>z;refine⟨D,ts,_,rfl,e4,kp,λdt zk=>?_⟩;have kt:∀z∈ws,(Sum.inr z:aK)∈(cN (ws.map λh=>((Sum.inr h:aK),V.str h)) []).map (·.1):=λz hz=>by
  rw [nj ws [] [] rfl];exact cP.mpr ((gB ws [] z).mpr (.inr hz))
 have XU:(cN (ws.map λh=>((Sum.inr h:aK),V.str h)) []).length<=20000:=by
  have a:=congrArg List.length (nj ws [] [] rfl);rw [av,av] at a;have:=h_ ws [];simp only [jh] at this;omega
 generalize cN (ws.map λh=>((Sum.inr h:aK),V.str h)) []=LM at kt XU;have s5:=s4.trans (af zk (.dK LM));have e5:upd H4 dt (.dK LM) dt=some (.dK LM):=ae;have Gw:H3 dt=none:=s4.free zk;generalize upd H4 dt (.dK LM)=H5 at s5 e5;have L5:=L3.same s5;refine goN ?_
 ac_rfl
 refine⟨_,rfl,R,rs,aa,rfl,L5.hR,L5.cS,∅,λDH H6 fH s6 eH=>?_⟩;have L6:=L5.same s6;have Iq:=h_ (aa.map (·.1)) [];simp only [jh,av] at Iq;have gz:∀z∈hd aa,∃n,g z=some n:=λz hz=>by
  obtain⟨n,e,_⟩:=C1 g NQ Td z hz;exact⟨n,e⟩
 refine⟨L6.t3,DH,hd aa,dz,oB,λz=>(g z).getD 0,rfl,aH.of eH,by unfold hd;omega,rfl,L6.rz,λz hz=>by obtain⟨n,e⟩:=gz z hz;rw [vz,e];show _=some (V.int ((g z).getD 0));rw [e];rfl,λl Bf H7 s7 Wf fl pe pw el=>?_⟩;have L7:=L6.K5 nT s7 Wf;have PN:dt≠T3:=λz=>by
  obtain⟨p,a,_⟩:=L5.t3;rw [<-z,e5] at a;cases a
 have e7:=s7 _ _ PN (s6 _ _ e5);have TJ:dn≠dt:=λz=>by have a:=L3.nm.hd;rw [z,Gw] at a;cases a
 have Tx:dz≠dt:=λz=>by rw [<-z,e3] at Gw;cases Gw
 have HJ:j8 T1 T3 H H7:=λb u n1 n3 hb=>s7 _ _ n3 (s6 _ _ (s5 _ _ (zV b u n1 n3 hb)));have PK:l≠dt:=λz=>by rw [z,s6 _ _ e5] at fl;cases fl
 have nn:=Ij NQ;have hlz:Bf.length < 64:=by rw [pe.length_eq];unfold hd;omega
 have Nj:∀ru∈aa,∀p∈ru.2,(g p).isSome=true:=λru gA p hp=>by
  by_cases hh:p∈hd aa
  .obtain⟨n,e⟩:=gz p hh;rw [e];rfl
  have j0:∃n,uB aa p=some n:=⟨0,ax (ot _ _ [] p (.inr ⟨qO.mpr ⟨ru,gA,hp⟩,hh⟩))⟩;have:∃n,g p=some n:=de.keep (J:=λg=>∃n,g p=some n) (λg ru ⟨n,e⟩ m f=>by obtain⟨k,a,_⟩:=le_step f p n e;exact⟨k,a⟩) NQ j0;obtain⟨n,e⟩:=this;rw [e];rfl
 have ll:=bB cS
 let uR:qt:=λi σ H8=>∃(kvs:List (aK×V))(y3 y4:Option V),σ=[aI R,aI dn,aI dt,y3,y4,aI dz]/\fq dt H7 H8/\H8 dt=some (.dK kvs)/\kvs.length<=20000+i/\(∀z∈ws,(Sum.inr z:aK)∈kvs.map (·.1))/\(∀z∈Bf.take i,(Sum.inr z:aK)∈kvs.map (·.1))
 refine⟨l,rfl,⟨_,aH.of el⟩,cf (xs:=Bf.map V.str) uR ⟨LM,_,_,rfl,λ_ _ _ h=>h,e7,∅,kt,λz hz=>by cases hz⟩ ?_ ?_ ?_⟩
 .rintro i σ H8 _ ⟨kvs,y3,y4,rfl,s8,_⟩;exact aH.of (s8 _ _ PK el)
 .rintro i x σ H8 ex ⟨kvs,y3,y4,rfl,s8,e8,P5,P_,LK⟩
  ac_nf0
  rw [bo] at ex;obtain⟨z,Oj,rfl⟩:=b9.mp ex;have li:=(bc.mp Oj).1;have hz:z∈hd aa:=pe.mem_iff.mp (cy Oj);obtain⟨n,MZ⟩:=gz z hz;have L8:=L7.Gi e7 TJ Tx s8;obtain⟨p,hp,QA⟩:=cH.mp (show z∈ps.map (·.1) by rw [pk];exact hz);refine goN ?_
  ac_rfl
  have YQ:cq H8 dn (.str z) (some (.ref p.2)):=by
   have:=cq.k (k:=Sum.inr z) L8.nm.hd;rw [<-QA,gq ps L8.nm.n1 p hp] at this;rw [QA] at this;exact this
  have Oa:=L8.nm.lst p hp;have Oa:H8 p.2=some (.lst ((nums aa z aa.length).map V.int)):=by rw [<-QA];exact Oa
  have numOf:∀(m:Nat) (v:Int),(nums aa z aa.length)[m]?=some v->∃(j:Nat)(ru:au),v=(j:Int)/\aa[j]?=some ru/\ru.1=z:=λm v e=>by
   unfold nums at e;rw [bo] at e;obtain⟨j,e1,rfl⟩:=b9.mp e;have hj:=(jW.mp (cy e1)).2;have hj:(aa[j]?.map (·.1))=some z:=dA hj;obtain⟨ru,e2,e3⟩:=b9.mp hj;exact⟨j,ru,rfl,e2,e3⟩
  have WZ:=vx aa z aa.length
  let good:Int->Bool:=λv=>match aa[v.toNat]? with | some ru=>decide (aD g ru=n) | none=>false
  have wit:∃v∈nums aa z aa.length,good v=true:=by
   obtain⟨ru,gA,q1,_,q3⟩:=Ag (OT aa) NQ Td hz MZ;obtain⟨j,ej⟩:=fI gA;have lj:=(bc.mp ej).1;refine⟨(j:Int),cH.mpr ⟨j,jW.mpr ⟨jV.mpr lj,eU (by rw [ej];exact congrArg some q1)⟩,rfl⟩,?_⟩;show (match aa[(j:Int).toNat]? with | some ru=>decide (aD g ru=n) | none=>false)=true
   rw [jY,ej];exact eU q3
  refine⟨_,rfl,_,rfl,dn,_,rfl,YQ,p.2,rfl,⟨_,aH.of Oa⟩,λD9 wD=>cg (xs:=(nums aa z aa.length).map V.int) (λm ys σ2 H9=>ys=(((nums aa z aa.length).take m).filter good).map V.int/\(∃y0,σ2=[y0,aI dz,aI R,some (.str z)])/\aC H8 H9/\H9 D9=some (.lst ys))
   ⟨rfl,⟨none,rfl⟩,af wD _,ae⟩ (λm ys σ2 H9 _ h=>?_) (λm x ys σ2 H9 em h=>?_) (λys σ2 H9 h=>?_)⟩
  .obtain⟨_,_,sm,_⟩:=h;exact aH.of (sm _ _ Oa)
  .obtain⟨rfl,⟨y0,rfl⟩,sm,e9⟩:=h;rw [bo] at em;obtain⟨v,ev,rfl⟩:=b9.mp em;have lm:=(bc.mp ev).1;obtain⟨j,ru,rfl,ej,Oo⟩:=numOf m v ev;have L9:=L8.same sm;obtain⟨r,er,rv⟩:=Paired.at_ L9.cS j ru ej;have Nh:qL (rs.map V.ref) (j:Int)=some (.ref r):=dN (by rw [bo,er];rfl);have gj:good (j:Int)=decide (V.int (aD g ru)=V.int n):=by
    show (match aa[(j:Int).toNat]? with | some ru=>decide (aD g ru=n) | none=>false)=_
    rw [jY,ej];show decide (aD g ru=n)=_;by_cases c:aD g ru=n
    .rw [eU c,eU (congrArg V.int c)]
    rw [hU c,hU (λy=>c (by injection y))]
   refine goN ?_;refine⟨_,rfl,_,rfl,_,rfl,R,_,_,_,rfl,rfl,L9.hR,Nh,dz,r,oB,g,ru,rfl,L9.rz,vz,rv,h8 ru (cy ej),Nj ru (cy ej),λyu ua=>?_⟩;have YO:cq yu dz (.str z) (some (.int n)):=by
    have:=cq.r (k:=Sum.inr z) (L9.same ua).rz;rw [vz,MZ] at this;exact this
   refine⟨_,rfl,_,rfl,dz,_,rfl,YO,rfl,_,rfl,?_⟩;rw [<-gj];have MU:((nums aa z aa.length).take (m+1)).filter good=((nums aa z aa.length).take m).filter good++(if good (j:Int)=true then [(j:Int)] else []):=by
    rw [cI,ev,qR]
    congr 1
    show List.filter good [(j:Int)]=_;by_cases c:good (j:Int)=true
    .rw [ax c,sH,ax c,List.filter_nil]
    rw [ay c,sH,ay c,List.filter_nil]
   have lf:(((nums aa z aa.length).take m).filter good).length<=1000:=fU (uX _ _) (by rw [d7];omega);refine cu (λcc=>?_) (λcc=>?_)
   .refine⟨_,rfl,ua _ _ e9,bf (by rw [av];omega),by rw [MU,ax cc,bC];rfl,⟨_,rfl⟩,λb u hb=>?_,ae⟩;rw [ai (λz=>by rw [z,wD] at hb;cases hb)];exact ua _ _ (sm b u hb)
   exact⟨by rw [MU,ay cc,iq],⟨_,rfl⟩,sm.trans ua,ua _ _ e9⟩
  obtain⟨rfl,_,s9,e9⟩:=h;rw [av,cC] at e9;refine goN ?_
  ac_rfl
  have L9:=L8.same s9;cases hf:(nums aa z aa.length).filter good with
  | nil =>
   obtain⟨v,hv,gv⟩:=wit;have:v∈(nums aa z aa.length).filter good:=jW.mpr ⟨hv,gv⟩;rw [hf] at this;cases this
  | cons v0 vr =>
   rw [hf] at e9;have YJ:v0∈(nums aa z aa.length).filter good:=by rw [hf];exact b0
   obtain⟨J2,Oc⟩:=jW.mp YJ;obtain⟨m0,Rq⟩:=fI J2;obtain⟨j,ru,rfl,ej,Oo⟩:=numOf m0 v0 Rq;have hsz:aD g ru=n:=by
    have Oc:(match aa[(j:Int).toNat]? with | some ru=>decide (aD g ru=n) | none=>false)=true:=Oc
    rw [jY,ej] at Oc;exact dA Oc
   have gA:=cy ej;obtain⟨r,er,pp,v1,v2⟩:=Paired.at_ L9.cS j ru ej;have Nh:qL (rs.map V.ref) (j:Int)=some (.ref r):=dN (by rw [bo,er];rfl);have AQ:qL (V.int (j:Int)::vr.map V.int) 0=some (.int (j:Int)):=dN (j:=0) rfl;have e9:H9 D9=some (.lst (V.int (j:Int)::vr.map V.int)):=e9;have e89:=s9 _ _ e8;have r8:=h8 ru gA;have Qe:∀p∈ru.2,(Sum.inr p:aK)∈kvs.map (·.1):=λy hy=>by
    obtain⟨my,ey⟩:=lC.mp (Nj ru gA y hy);by_cases hh:y∈hd aa
    .refine LK y (tO pw Oj (pe.mem_iff.mpr hh) ?_);show (g y).getD 0 < (g z).getD 0;rw [ey,MZ];show my < n;rw [<-hsz];exact z5 nn hy ey
    exact P_ y (Ug y hh (by rw [ey];rfl))
   refine⟨_,rfl,D9,_,_,_,rfl,rfl,aH.of e9,AQ,_,rfl,_,rfl,D9,_,_,_,rfl,rfl,aH.of e9,AQ,R,_,_,_,rfl,rfl,L9.hR,Nh,r,_,_,_,rfl,rfl,v1,rfl,pp,rfl,⟨_,v2⟩,λSG Q7=>qf (zs:=ru.2) rfl v2 ∅ e89 Qe Q7 λys yu ly ua A6=>?_⟩;refine⟨SG,ys,rfl,.inl ⟨aH.of A6,λt2 Ra=>⟨kW,λCG Je=>?_⟩⟩⟩;have T9:=(af Ra (.tup ys)).trans (af Je (.tup [.int (j:Int),.ref t2]));generalize upd (upd yu t2 (.tup ys)) CG (.tup [.int (j:Int),.ref t2])=AZ at T9;have K_:=(s9.trans ua).trans T9;have Ej:=K_ _ _ e8;refine⟨_,rfl,_,rfl,dt,_,rfl,.inl ⟨kvs,Sum.inr z,Ej,rfl,bf ∅,rfl⟩,?_⟩;have CN:∀y:aK,(y∈kvs.map (·.1)\/y=Sum.inr z)->y∈(bH kvs (Sum.inr z) (.ref CG)).map (·.1):=λy hy=>by
    by_cases hk:(Sum.inr z:aK)∈kvs.map (·.1)
    .rw [xw hk];rcases hy with hy | rfl
     .exact hy
     exact hk
    rw [hX hk];rcases hy with hy | rfl
    .exact eV _ hy
    exact dO _ b0
   have XN:(bH kvs (Sum.inr z) (.ref CG)).length<=kvs.length+1:=by
    have a:=congrArg List.length (Eq.refl ((bH kvs (Sum.inr z) (.ref CG)).map (·.1)));by_cases hk:(Sum.inr z:aK)∈kvs.map (·.1)
    .have b:=congrArg List.length (xw (v:=.ref CG) hk);rw [av,av] at b;omega
    have b:=congrArg List.length (hX (v:=.ref CG) hk);rw [av,bO,av,gO] at b;omega
   refine⟨_,_,_,rfl,λb u nb hb=>?_,ae,∅,λy hy=>CN _ (.inl (P_ y hy)),λy hy=>?_⟩
   .rw [ai nb];exact K_ _ _ (s8 b u nb hb)
   rw [cI,Oj] at hy;rcases cD.mp hy with hy | hy
   .exact CN _ (.inl (LK y hy))
   exact CN _ (.inr (by rw [cT.mp (show y∈[z] from hy)]))
 rintro σ H8 ⟨kvs,y3,y4,rfl,s8,e8,P5,P_,LK⟩;rw [av,cC] at LK;have L8:=L7.Gi e7 TJ Tx s8;refine⟨_,rfl,q dt kvs H8 ?_ (λb u n1 n3 hb=>?_) L8.t1 L8.t3 e8 λz hz=>LK z (pe.mem_iff.mpr hz)⟩
 .cases c:H dt with
  | none=>rfl
  | some u =>
   by_cases h1:dt=T1
   .obtain⟨pp,a,_⟩:=L3.t1;rw [<-h1,Gw] at a;cases a
   rw [zV dt u h1 PN c] at Gw;cases Gw
 refine s8 _ _ (λz=>?_) (HJ b u n1 n3 hb);rw [z] at hb;rw [zV dt u (λy=>n1 (z.trans y)) PN hb] at Gw;cases Gw
end
end gT
namespace L2
open PySem PySem.Spec PyProof.Rows
section
variable {prog:Program}{w:World}{A:Around}{E:Value->Shared->Prop}
def tL {h h':Heap}{ks:List aK}{a:Addr}(p:(tupleKind (a7 prog w)).is h ks a)(k:∀b o,o.cls=.type "tuple" -> h.get? b=some o->h'.get? b=some o):(tupleKind (a7 prog w)).is h' ks a :=
 let ⟨o,aU,n,h1,h2,h3,h4⟩:=p;⟨o,aU,n,k a o h2 h1,h2,h3,h4⟩
def uH {h h':Heap}{d:Addr}{xs:List (List aK×Addr×Value)}(hd:h.DictOfH (tupleKind (a7 prog w)) d xs)(kd:∀o,h.get? d=some o->h'.get? d=some o)(k:∀b o,o.cls=.type "tuple" -> h.get? b=some o->h'.get? b=some o) :
  h'.DictOfH (tupleKind (a7 prog w)) d xs :=
 let ⟨o,es,ep,q,c,dd,e,is,n⟩:=hd;⟨o,es,ep,kd o q,c,dd,e,λx hx=>tL (is x hx) k,n⟩
def jR (prog:Program)(w:World)(h:Heap)(u:Value)(kv:List aK×Addr×Value):Prop :=
 ∃t n o,u=.ref t/\(tupleKind (a7 prog w)).is h kv.1 kv.2.1/\h.get? t=some o/\o.cls=.type "tuple" /\ o.data=.seq #[.ref kv.2.1,kv.2.2] n
def jR.keep {h h':Heap}{u:Value}{kv:List aK×Addr×Value}(p:jR prog w h u kv)(k:∀b o,o.cls=.type "tuple" -> h.get? b=some o->h'.get? b=some o):jR prog w h' u kv :=
 let ⟨t,n,o,a,b,c,d,e⟩:=p;⟨t,n,o,a,tL b k,k t o d c,d,e⟩
def zw (more xs:List (List aK×Addr×Value)):List (List aK×Addr×Value):=more.foldl (λa p=>storedH a p.1 p.2.1 p.2.2) xs
def Fu {R:Result->Shared->Prop}{d it l:Addr}{items:Array Value}(hh:A.handled=none)(hu:A.units+1 < cLine):∀(more:List (List aK×Addr×Value)) (i:Nat)(s:Shared)(kvs:List (List aK×Addr×Value)) (j:Int)(tk:Tok),items.size=i+more.length ->
  s.heap.DictOfH (tupleKind (a7 prog w)) d kvs->s.heap.IsListIter it l i->s.heap.IsList l items->(∀m kv,more[m]?=some kv->∃u,items[i+m]?=some u/\jR prog w s.heap u kv)->kvs.length+more.length<=sizeLine ->
  (∀h' t',h'.DictOfH (tupleKind (a7 prog w)) d (zw more kvs)->(∀b o,b≠d->b≠it->s.heap.get? b=some o->h'.get? b=some o)->R (.ok (.ret .none)) { s with heap:=h',toks:=t' }) ->
  codeAny (model prog w) A (.builtin "dict.update.loop" ⟨[.ref d,.ref it,.int j tk,.none],[]⟩) R s:=by
 intro more
 induction more with
 | nil =>
  intro i s kvs j tk hi hd hit hl hp hz hR;refine oQ jO ?_;rw [oW eJ _];unfold Builtin.«dict.update.loop»;have hs:items[i]?=none:=Array.getElem?_eq_none (by rw [hi];exact aG _);refine aE (sV hh hit hl hs λh1 eb=>?_);have nd:d≠it:=λz=>by
   obtain⟨o,_,_,q,_,c,_⟩:=hd;obtain⟨o',q',_,c'⟩:=hit;rw [z,q'] at q;cases q;rw [c'] at c;cases c
  have nt:∀b o,o.cls=.type "tuple" -> s.heap.get? b=some o->b≠it:=λb o c q z=>by
   obtain⟨o',q',c',_⟩:=hit;rw [z,q'] at q;cases q;rw [c'] at c;exact absurd c nofun
  show wpAny _ _ (Builtin.Dict.addKeywords d [] >>= _) _ _ _;exact aE (aR (aR (hR h1 s.toks (uH hd (λo q=>eb d o nd q) λb o c q=>eb b o (nt b o c q) q) λb o n1 n2 q=>eb b o n2 q)))
 | cons kv more ih =>
  intro i s kvs j tk hi hd hit hl hp hz hR;refine oQ jO ?_;rw [oW eJ _];unfold Builtin.«dict.update.loop»;obtain⟨u,Ym,t,n,o,rfl,hk,ho,hc,zk⟩:=hp 0 kv rfl;refine aE (wpAny_pyNext_list_item hit hl Ym λh1 Qg sb=>?_);have nd:d≠it:=λz=>by
   obtain⟨o,_,_,q,_,c,_⟩:=hd;obtain⟨o',q',_,c'⟩:=hit;rw [z,q'] at q;cases q;rw [c'] at c;cases c
  have n2:∀b o,(o.cls=.type "tuple" \/ o.cls=.type "list")->s.heap.get? b=some o->b≠d/\b≠it:=by
   intro b o c q;constructor
   .intro z;obtain⟨o',q',c'⟩:=hd.typeIs;rw [z,q'] at q;cases q;rw [c'] at c;rcases c with c | c <;> exact absurd c nofun
   intro z;obtain⟨o',q',c',_⟩:=hit;rw [z,q'] at q;cases q;rw [c'] at c;rcases c with c | c <;> exact absurd c nofun
  have nt:∀b o,o.cls=.type "tuple" -> s.heap.get? b=some o->b≠d/\b≠it:=λb o c q=>n2 b o (.inl c) q;have nl:l≠d/\l≠it:=by
   obtain⟨o,q,c,_⟩:=hl;exact n2 l o (.inr c) q
  have Qb:∀b o,o.cls=.type "tuple" -> s.heap.get? b=some o->h1.get? b=some o:=λb o c q=>(sb.2 b (nt b o c q).2).trans q;have Mo:h1.get? t=some o:=Qb t o hc ho;have Ar:h1.DictOfH (tupleKind (a7 prog w)) d kvs:=uH hd (λo q=>(sb.2 d nd).trans q) Qb;refine aE (jq (aE (wpAny_tryCatch ?_)));unfold Builtin.Dict.pairItems;refine aE (kZ (T := "tuple") ⟨o,Mo,hc⟩ ?_);rw [ax nofun];refine aE (oN Mo zk (aR ?_));show wpAny _ _ (holding [.ref kv.2.1,kv.2.2] (dictSet d (.ref kv.2.1) kv.2.2)) _ _ _;rw [d6] at hz hi;refine jq (wpAny_dictSet_heap (s:={ s with heap:=h1 }) (qQ hu) (tL hk Qb) Ar (λh2 hd2 K8=>?_) ∅);have kk:∀b o,b≠d->b≠it->s.heap.get? b=some o->h2.get? b=some o:=λb o n1 n2 q=>(K8.2 b n1).trans ((sb.2 b n2).trans q);have ln:(storedH kvs kv.1 kv.2.1 kv.2.2).length<=kvs.length+1:=by
   unfold storedH
   split
   .simp
   simp
  refine aR ⟨mD eJ _,ih (i+1) _ _ _ _ ∅ hd2 (Qg.at λo q=>(K8.2 it (fu nd)).trans q) (hl.at λo q=>kk l o nl.1 nl.2 q) (λm Qa e=>?_) ∅ λh3 t3 ig k3=>?_⟩
  .obtain⟨u',e1,e2⟩:=hp (m+1) Qa e;exact⟨u',by rw [<-e1];congr 1;omega,e2.keep λb o c q=>kk b o (nt b o c q).1 (nt b o c q).2 q⟩
  exact hR h3 t3 ig λb o n1 n2 q=>k3 b o n1 n2 (kk b o n1 n2 q)
def oo {s:Shared}{l:Addr}{items:Array Value}{n:Nat}{more:List (List aK×Addr×Value)}{Q:Value->Shared->Prop}(hh:A.handled=none)(hu:A.units+2 < cLine)(hx:s.heap.get? l=some { cls:=.type "list",data:=.seq items n })
  (hi:items.size=more.length)(hp:∀(m:Nat) kv,more[m]?=some kv->∃u,items[m]?=some u/\jR prog w s.heap u kv)(hz:more.length<=sizeLine)
  (h:∀h' t',h'.DictOfH (tupleKind (a7 prog w)) s.heap.objs.size (zw more [])->(∀b o,s.heap.get? b=some o->h'.get? b=some o)->Q (.ref s.heap.objs.size) { s with heap:=h',toks:=t' }) :
  wpAny (model prog w) A (call (.type "dict") [.ref l]) Q E s:=by
 refine callType_codes (Q₁:=λobj s₁=>obj=.ref s.heap.objs.size/\s₁={ s with heap:=s.heap.push { cls:=.type "dict",data:=.dict #[] } }) F.kt_called_dict (F.kt_typeCall_dict_1 _) F.entry_dict_init (kt_code_dict_new _ ⟨rfl,rfl⟩) ?_;rintro obj s₁ ⟨rfl,rfl⟩;have xK:(s.heap.push { cls:=.type "dict",data:=.dict #[] }).DictOfH (tupleKind (a7 prog w)) s.heap.objs.size []:=Heap.DictOfH.new s.heap;have l0:=bW { cls:=.type "dict",data:=.dict #[] } hx;refine⟨xK.typeIs,F.args_dict_init_2 _ _,?_⟩;unfold Builtin.«dict.__init__» Builtin.Dict.selfAndRest;refine aE (aE (wpAny_notOrdered_dict xK.typeIs (aR ?_)));show wpAny _ _ (Builtin.Dict.updateFrom "dict.__init__" s.heap.objs.size (.ref l) [] .none) _ _ _;unfold Builtin.Dict.updateFrom;refine aE (kZ (T := "list") ⟨_,l0,rfl⟩ ?_);rw [ax wZ];refine aE (ni l0 hh λh1 t1 k1=>?_);refine aE (wpAny_rule ?_);have l1:=k1 _ _ l0;refine aE (mQ ⟨_,l1,rfl,_,rfl⟩ ?_);have k2:∀b o,s.heap.get? b=some o->(h1.push { cls:=.type "list_iterator",data:=.fields #[.ref l,.int 0 0] }).get? b=some o:=λb o q=>bW _ (k1 _ _ (bW _ q));refine aR ⟨mD eJ _,Fu (A:=A.in1) (l:=l) (items:=items) (show A.in1.handled=none from hh) (show A.in1.units+1 < cLine by rw [Around.in1_units];omega) more 0 _ [] _ _ (by rw [hi,mI]) ?_ ⟨_,dq _ rfl,rfl,rfl⟩ ⟨_,k2 _ _ hx,rfl,n,rfl⟩ (λm kv e=>?_) (by simpa using hz) λh' t' hd k3=>?_⟩
 .exact uH xK (λo q=>bW _ (k1 _ _ q)) λb o _ q=>bW _ (k1 _ _ q)
 .obtain⟨u,e1,e2⟩:=hp m kv e;exact⟨u,by rw [mI];exact e1,e2.keep λb o _ q=>k2 b o q⟩
 refine⟨rfl,h h' t' hd λb o q=>k3 b o (bQ (bA q)) ?_ (k2 b o q)⟩;have:=bA (k1 _ _ (bW { cls:=.type "dict",data:=.dict #[] } q));exact bQ this
end
def mr (kvs bI:List (List aK×V)):List (List aK×V):=kvs.foldl (λa p=>bH a p.1 p.2) bI
theorem rS {H:Hp}:∀{kvs:List (List aK×V)}{vs:List (List aK×Addr×Value)}{bI:List (List aK×V)}{Dv:List (List aK×Addr×Value)},KT H kvs vs->KT H bI Dv->KT H (mr kvs bI) (zw vs Dv)
 | _,_,_,_,.nil,h=>h
 | _,_,_,_,.cons (a:=p) (b:=q) r t,h=>by
  obtain⟨e,hb,rv⟩:=r;show KT H (mr _ (bH _ p.1 p.2)) (zw _ (storedH _ q.1 q.2.1 q.2.2));rw [<-e];exact rS t (h.put p.1 hb rv)
theorem rT:∀(kvs bI:List (List aK×V)),(mr kvs bI).length<=bI.length+kvs.length
 | [],bI=>by simp [mr]
 | p::r,bI=>by
  have:=rT r (bH bI p.1 p.2);have:=eG bI p.1 p.2;show (mr r (bH bI p.1 p.2)).length<=_;rw [d6];omega
section
variable {X:Cx}{ag:List (Addr×Obj)}{σ:St}{H:Hp}{s:Shared}
abbrev Kt (K:a8)(H:Hp)(t:Addr)(kv:List aK×V):Prop:=∃b,aZ K H t [.ref b,kv.2]/\H b=some (.tup (kv.1.map kV))
theorem rC (I:Inv X ag σ H s):∀{ts:List Addr}{kvs:List (List aK×V)}{aU:List Value},Paired (Kt X.K H) ts kvs->a9 (ts.map V.ref) aU ->
  ∃vs:List (List aK×Addr×Value),KT H kvs vs/\Paired (λu kv=>jR X.prog X.w s.heap u kv) aU vs
 | [],_,_,.nil,r=>by
  rw [j_] at r;cases r;exact⟨[],.nil,.nil⟩
 | t::ts,kv::kvs,_,.cons h p,r=>by
  rw [bZ] at r;cases r with
  | cons r1 r2 =>
   obtain⟨vs,e1,e2⟩:=rC I p r2;obtain⟨b,h0,hb⟩:=h;obtain⟨aU,rv,⟨o,h1,h2,n,h3⟩,_⟩:=I.tuple h0;obtain⟨u1,u2,rfl,q1,q2⟩:=vals2 rv;cases (show u1=Value.ref b from q1);exact⟨(kv.1,b,u2)::vs,.cons ⟨rfl,hb,q2⟩ e1,.cons ⟨t,n,o,r1,kJ I.bS hb,h1,h2,h3⟩ e2⟩
def wb (hc:X.calm=true)(hu:X.A.units+2 < cLine):ft X (.type "dict") (λxs H Q=>∃a ts kvs,xs=[.ref a]/\H a=some (.lst (ts.map V.ref))/\Paired (Kt X.K H) ts kvs/\∀d,H d=none->Q (.ref d) (upd H d (.dT (mr kvs [])))):=by
 intro ag s σ H xs us Q I r h;obtain⟨a,ts,kvs,rfl,e,p,q⟩:=h;obtain⟨u,rfl,rx⟩:=vals1 r;cases (show u=Value.ref a from rx);obtain⟨z,aU,n,rv,ho⟩:=(show cv X.prog X.w H s.heap a (.lst _) from I.bS a _ e);obtain⟨vs,r1,r2⟩:=rC I p rv;have l1:=bB r2;have l2:=bB r1;have l3:=bB p;rw [av] at z;refine oo (I.ok.hd hc) hu ho (by simpa using l1) (λm kv em=>?_) ∅ λh' t' hd kk=>?_
 .obtain⟨u,e1,e2⟩:=Paired.at_ r2 m kv em;exact⟨u,by simpa using e1,e2⟩
 have fr:=I.bS.fresh (aG s.heap.objs.size);have new:cv X.prog X.w (upd H s.heap.objs.size (.dT (mr kvs []))) h' s.heap.objs.size (.dT (mr kvs [])):=by
  obtain⟨o,es,ep,hq,h2,h3,h4,_,h5⟩:=hd;refine⟨?_,?_,_,(rS r1 .nil).keeps λc ys ec=>?_,o,es,ep,hq,h2,h3,h4,h5⟩
  .have:=rT kvs [];simp at this;omega
  .have:=I.big;exact jk.mpr (jT this)
  rw [ai (aw ec fr)];exact ec
 exact⟨.ref s.heap.objs.size,_,I.laid (t':=t') kk (aG _) new,rfl,q _ fr⟩
end
open PySem M11
def AL {K:a8}{H:Hp}{bg D:Addr}{ts:List Addr}{bK:List Be}{σ:St}{x1 x2 x3 x4:Str}{Qp:Hp->Prop}(hb:aH K H bg (ts.map V.ref))(Kb:Paired (λt (b:Be)=>aZ K H t [.str b.1,.str b.2.1,.int (b.2.2.1:Int),.int (b.2.2.2:Int)]) ts bK)(bq:bK.length<=900000)(hD:H D=none)
  (q:∀us H2,aC H H2->H2 D=some (.lst (us.map V.ref))->Paired (λu (b:Be)=>∃v,Kt K H2 u ([Sum.inr b.1,Sum.inr b.2.1],.ref v)) us bK->Qp H2) :
  ∃W:Nat->Nat->List V->St->Hp->Prop,(∃m,W 0 m [] (df [x1,x2,x3,x4] [] σ) (upd H D (.lst []))) /\
 ∀i m ys σ' H,W i m ys σ' H->((iL K bg).stop i H/\Qp H)\/((iL K bg).go i H/\∃m',m' < m/\∀x H',(iL K bg).ka i H x H'->vP K 4 (g_ (cU 0) (g_ (cU 1) (g_ (cU 2) (g_ (cU 3) ya)))) x σ' H' λσ2 H2=>gh σ2 H2 λb H3 =>
  if b=true then qD (fV (qD (fV (fO 0) (fV (fO 1) o8))) (fV (qD (fV (fO 2) (fV (fO 3) o8))) o8)) σ2 H3 λy H4=>H4 D=some (.lst ys)/\ys.length < sizeLine/\W (i+1) m' (ys++[y]) σ2 (upd H4 D (.lst (ys++[y]))) else W (i+1) m' ys σ2 H3):=by
 have ll:=bB Kb;refine cg (xs:=ts.map V.ref) (λi ys σ2 H2=>∃us:List Addr,ys=us.map V.ref/\us.length=i/\Paired (λu (b:Be)=>∃v,Kt K H2 u ([Sum.inr b.1,Sum.inr b.2.1],.ref v)) us (bK.take i)/\(∃y0 y1 y2 y3,σ2=[y0,y1,y2,y3])/\aC H H2/\H2 D=some (.lst ys))
  ⟨[],rfl,rfl,.nil,⟨none,none,none,none,rfl⟩,af hD _,ae⟩ (λi ys σ2 H2 _ h=>?_) (λi x ys σ2 H2 ex h=>?_) (λys σ2 H2 h=>?_)
 .obtain⟨_,_,_,_,_,sm,_⟩:=h;exact sm.seq hb
 .obtain⟨us,rfl,hu,hp,⟨y0,y1,y2,y3,rfl⟩,sm,hd⟩:=h;rw [bo] at ex;obtain⟨r,er,rfl⟩:=b9.mp ex;have lr:=(bc.mp er).1;obtain⟨b,e1⟩:∃b,bK[i]?=some b:=⟨bK[i]'∅,c_ ∅⟩;obtain⟨r',MX,v1⟩:=Paired.at_ Kb i b e1;rw [er] at MX;cases MX;have li:=(bc.mp e1).1;refine⟨r,_,rfl,sm.tup v1,rfl,_,_,rfl,_,_,rfl,_,_,rfl,_,_,rfl,rfl,?_⟩;refine uV ?_;refine⟨_,rfl,_,rfl,kW,λk hk=>⟨_,rfl,_,rfl,kW,λv hv=>⟨kW,λu Ul=>?_⟩⟩⟩;have s3:=(af hk (.tup [V.str b.1,V.str b.2.1])).trans ((af hv (.tup [V.int (b.2.2.1:Int),V.int (b.2.2.2:Int)])).trans (af Ul (.tup [.ref k,.ref v])));have ek:=((af hv (.tup [V.int (b.2.2.1:Int),V.int (b.2.2.2:Int)])).trans (af Ul (.tup [.ref k,.ref v]))) k _ ae;have eu:aZ K (upd (upd (upd H2 k (.tup [V.str b.1,V.str b.2.1])) v (.tup [V.int (b.2.2.1:Int),V.int (b.2.2.2:Int)])) u (.tup [.ref k,.ref v])) u [.ref k,.ref v]:=aZ.of ae;generalize upd (upd (upd H2 k (.tup [V.str b.1,V.str b.2.1])) v (.tup [V.int (b.2.2.1:Int),V.int (b.2.2.2:Int)])) u (.tup [.ref k,.ref v])=H4 at s3 ek eu;have zp:=s3 _ _ hd;refine⟨zp,bf (by rw [av];omega),us++[u],by rw [bC];rfl,by rw [bO,hu];rfl,?_,⟨_,_,_,_,rfl⟩,?_,ae⟩
  .rw [cI,e1];have kD:k≠D:=λz=>by rw [z,zp] at ek;cases ek
   refine f_ (Paired.fj hp λu' b' bj=>?_) ⟨v,k,aX zp eu,by rw [ai kD];exact ek⟩;obtain⟨v',bb,p1,p2⟩:=bj;exact⟨v',bb,aX zp (s3.tup p1),by rw [ai (λz=>by rw [z,hd] at p2;cases p2)];exact s3 _ _ p2⟩
  intro c o hc;rw [ai (λz=>by rw [z,hD] at hc;cases hc)];exact s3 _ _ (sm c o hc)
 obtain⟨us,rfl,hu,hp,_,sm,hd⟩:=h;rw [av,ll,cC] at hp;exact q us H2 sm hd hp
theorem B6 {K:a8}{H:Hp}:∀{us:List Addr}{bK:List Be},Paired (λu (b:Be)=>∃v,Kt K H u ([Sum.inr b.1,Sum.inr b.2.1],.ref v)) us bK->∃kvs,Paired (Kt K H) us kvs
 | _,_,.nil=>⟨[],.nil⟩
 | _,_,.cons ⟨v,h⟩ t=>let ⟨kvs,p⟩:=B6 t;⟨_::kvs,.cons h p⟩
end L2
namespace gT
open PySem L2 M11
def Tab.s2 {T T1 T2:Addr}{p p1 p2:Pos}{q q1 q2:Str}{H H':Hp}(h:Tab T p q H)(s:j8 T1 T2 H H')(t1:Tab T1 p1 q1 H)(t2:Tab T2 p2 q2 H)(n1:T≠T1)(n2:T≠T2):Tab T p q H':=by
 obtain⟨ps,a,b,c⟩:=h;obtain⟨N0,b1,_⟩:=t1;obtain⟨Tq,b2,_⟩:=t2;refine⟨ps,s _ _ n1 n2 a,b,c.imp id ?_⟩;rintro⟨c',e,g⟩;exact⟨c',e,s _ _ (λz=>by rw [z,b1] at g;cases g) (λz=>by rw [z,b2] at g;cases g) g⟩
def jt {T a C dx:Addr}{pos:Pos}{qu:Str}{H:Hp}{fs:List (Str×V)}{o:HO}(h:Tab T pos qu H)(ha:H a=some (.ins C dx fs)):Tab T pos qu (upd H a o):=by
 obtain⟨ps,p,r,c⟩:=h;refine⟨ps,by rw [ai (λz=>by rw [z,ha] at p;cases p)];exact p,r,c.imp id ?_⟩;rintro⟨c',e,g⟩;exact⟨c',e,by rw [ai (λz=>by rw [z,ha] at g;cases g)];exact g⟩
def Kp (H H':Hp):Prop:=∀b o,H b=some o->(∀ps,o≠.qA ps)->H' b=some o
def Kp.trans {H H1 H2:Hp}(a:Kp H H1)(b:Kp H1 H2):Kp H H2:=λc o h n=>b c o (a c o h n) n
def Kp.of {H H':Hp}(s:aC H H'):Kp H H':=λb o h _=>s b o h
def Kp.of2 {T1 T2:Addr}{p1 p2:Pos}{q1 q2:Str}{H H':Hp}(s:j8 T1 T2 H H')(t1:Tab T1 p1 q1 H)(t2:Tab T2 p2 q2 H):Kp H H':=λc o hc hn=>by
 obtain⟨N0,b1,_⟩:=t1;obtain⟨Tq,b2,_⟩:=t2;exact s c o (λz=>by rw [z,b1] at hc;cases hc;exact hn _ rfl) (λz=>by rw [z,b2] at hc;cases hc;exact hn _ rfl) hc
section
theorem Kp.lst {H H':Hp}(k:Kp H H'){a:Addr}{xs:List V}(h:H a=some (.lst xs)):H' a=some (.lst xs):=k a _ h (λ_ z=>by cases z)
def Kp.tup {H H':Hp}(k:Kp H H'){a:Addr}{xs:List V}(h:aZ K H a xs):aZ K H' a xs:=by
 rcases h with (h | ⟨u,h⟩) | h
 .exact .inl (.inl (k _ _ h (λ_ z=>by cases z)))
 .exact .inl (.inr ⟨u,k _ _ h (λ_ z=>by cases z)⟩)
 exact .inr h
def Kp.seq {H H':Hp}(k:Kp H H'){a:Addr}{xs:List V}(h:aH K H a xs):aH K H' a xs:=by
 rcases h with (h | ⟨u,h⟩) | h
 .exact .inl (.inl (k _ _ h (λ_ z=>by cases z)))
 .exact .inl (.inr ⟨u,k _ _ h (λ_ z=>by cases z)⟩)
 exact .inr h
theorem Kp.aa {H H':Hp}(k:Kp H H'){rs:List Addr}{aa:List au}(h:bE K H rs aa):bE K H' rs aa:=h.keep λ_ _ z=>k.tup z
abbrev xl:Stmt:=Lz Wr 0
structure LC (K:a8)(C:Addr):Prop where
 cls:A0 K C
 a1:du K C "rules"
 a2:du K C "empty"
 a3:du K C "least"
 a4:du K C "hollow"
 a5:du K C "beginnings"
structure Bc (C3 T1 T3:Addr)(H0 H:Hp)(a dx:Addr)(fs:List (Str×V)):Prop where
 sm:j8 T1 T3 H0 H
 ia:H a=some (.ins C3 dx fs)
 fa:H0 a=none
 t1:Tab T1 pL.2.2.2 wz H
 t3:Tab T3 posB DV H
 o1:Tab T1 pL.2.2.2 wz H0
 o3:Tab T3 posB DV H0
def Bc.kp {C3 T1 T3 a dx:Addr}{H0 H:Hp}{fs:List (Str×V)}(h:Bc C3 T1 T3 H0 H a dx fs):Kp H0 H:=Kp.of2 h.sm h.o1 h.o3
def Bc.set {C3 T1 T3 a dx:Addr}{H0 H:Hp}{fs:List (Str×V)}(h:Bc C3 T1 T3 H0 H a dx fs)(Eg:List (Str×V)):Bc C3 T1 T3 H0 (upd H a (.ins C3 dx Eg)) a dx Eg :=
 ⟨λb o n1 n3 hb=>by rw [ai (λz=>by rw [z,h.fa] at hb;cases hb)];exact h.sm b o n1 n3 hb,ae,h.fa,jt h.t1 h.ia,jt h.t3 h.ia,h.o1,h.o3⟩
def Bc.next {C3 T1 T3 a dx:Addr}{H0 H H':Hp}{fs:List (Str×V)}(h:Bc C3 T1 T3 H0 H a dx fs)(s:aC H H'):Bc C3 T1 T3 H0 H' a dx fs :=
 ⟨λb o n1 n3 hb=>s _ _ (h.sm b o n1 n3 hb),s _ _ h.ia,h.fa,h.t1.same s,h.t3.same s,h.o1,h.o3⟩
def Bc.Lr {C3 T1 T3 a dx:Addr}{H0 H H':Hp}{fs:List (Str×V)}(h:Bc C3 T1 T3 H0 H a dx fs)(s:j8 T1 T3 H H')(t1:Tab T1 pL.2.2.2 wz H')(t3:Tab T3 posB DV H'):Bc C3 T1 T3 H0 H' a dx fs :=
 ⟨λb o n1 n3 hb=>s _ _ n1 n3 (h.sm b o n1 n3 hb),Kp.of2 s h.t1 h.t3 _ _ h.ia (λ_ z=>by cases z),h.fa,t1,t3,h.o1,h.o3⟩
def yQ (K:a8)(C C3 T1 T3:Addr):Sp:=λvs H Q _=>∃(H0 Hb:Hp)(a dx R x e d bg:Addr)(rs:List Addr)(aa:List au)(kE:List (aK×V))(aP:List (Str×Nat))(ps:List (Str×Addr))(bK:List Be),vs=[.ref a,.ref R,.ref x]/\aC H0 H/\H0 a=none/\H a=some (.ins C3 dx [])/\aH K H0 R (rs.map V.ref)/\bE K H0 rs aa /\
 aa.length < 64/\(∀ru∈aa,ru.2.length<=8)/\(∀g,de M11.bl aa (uB aa) g->gS M11.bl aa g->∀h∈hd aa,∃n,g h=some n/\n<=60)/\qC K C Hb H0 x e d bg kE aP ps bK/\oF aa aP/\bK.length<=80000/\Tab T1 pL.2.2.2 wz H0/\Tab T3 posB DV H0/\T1≠T3 /\
 ∀H',j8 T1 T3 H0 H'->Tab T1 pL.2.2.2 wz H'->Tab T3 posB DV H'->Q .fJ H'
def EC:aN ["self","rules","begin_table"] ["self","rules","begin_table"] (az xl):=iY rfl rfl rfl rfl nofun
def Cr {C C3 T1 T3:Addr}(F:ik K "__init__" "LeastTrees.__init__" xl f fd)(T:Txt mg)(B:BC K C)(L:LC K C3)(GL:aF P w K mg base 4 "least_by_part" ["rules"] (mT K T1 T3))(GE:aF P w K mg base 4 "empty_by_name" ["rules","empties"] (rh K)) :
  bN P w K mg base fS 5 f fd ["self","rules","begin_table"] (yQ K C C3 T1 T3):=by
 refine F.ok EC (λvs H Q E h=>?_) (λd0 A outer s H vs Q E hr h=>?_)
 .obtain⟨H0,Hb,a,dx,R,x,e,d,bg,rs,aa,kE,aP,ps,bK,rfl,_⟩:=h;rfl
 obtain⟨H0,Hb,a,dx,R,x,e,d,bg,rs,aa,kE,aP,ps,bK,rfl,s0,f0,ea,hR,cS,bq,h8,C1,S,emp,Iv,t1,t3,nT,q⟩:=h;have hu:=oV (Nat.add_le_add_left (by decide:2<=64) _) hr.units;refine⟨_,ak (fY (pv 0) (pv 1) rfl)
  (ak (fY (pv 0) (dD (pv 2) rfl) rfl)
  (ak (fY (pv 0) (bp GL hr rfl (ab (pv 1) aj)) rfl)
  (ak (fY (pv 0) (bp GE hr rfl (ab (pv 1) (ab (dD (pv 2) rfl) aj))) rfl)
  (ao (fY (pv 0) (a0 (wb rfl hu) rfl T.zC fk (ab (aT ["name","word","number","place"] [] rfl (aS (dD (pv 2) rfl)) (aV rfl rfl) nofun rfl nofun
   (λ_ _ _ _ _=>di (n:=4) K rfl (aA (aq (i:=0) (show (["name","word","number","place"]:List Str).Nodup by decide +kernel) rfl (ba rfl)) (aA (aq (i:=1) (show (["name","word","number","place"]:List Str).Nodup by decide +kernel) rfl (ba rfl)) (aA (aq (i:=2) (show (["name","word","number","place"]:List Str).Nodup by decide +kernel) rfl (ba rfl)) (aA (aq (i:=3) (show (["name","word","number","place"]:List Str).Nodup by decide +kernel) rfl (ba rfl)) bF))))) (λ_ _ _ _ _=>bw)
   (λ_ _ _ _ _=>bD (ab (bD (ab (pv 0) (ab (pv 1) aj))) (ab (bD (ab (pv 2) (ab (pv 3) aj))) aj)))) aj)) rfl))))),?_⟩
 nofun
 have S0:Bc C3 T1 T3 H0 H a dx []:=⟨λb o _ _ hb=>s0 b o hb,ea,f0,t1.same s0,t3.same s0,t1,t3⟩;obtain⟨e1,te,⟨Ko,Gs,Ol,XZ⟩,ee1,Z6,_⟩:=S.em;obtain⟨aaa,ZP,MT,l1,l2,_⟩:=S.ia;rw [Ol] at MT;cases MT;obtain⟨tb,ebg,Kb⟩:=S.lb;have lets:=emp.len;refine⟨_,rfl,_,rfl,a,C3,dx,[],rfl,S0.ia,L.cls,L.a1,(by show 0 < 1000;decide),?_⟩;have S1:=S0.set (dr "rules" (.ref R) []);generalize Od:dr "rules" (.ref R) []=Oi at S1;generalize upd H a (.ins C3 dx Oi)=H1 at S1;have x1:H1 x=some (.ins C Ko Gs):=S1.kp _ _ Ol (λ_ z=>by cases z);refine⟨_,rfl,x,C,Ko,Gs,_,rfl,x1,B.cls,B.a2,l1,_,rfl,a,C3,dx,Oi,rfl,S1.ia,L.cls,L.a2,(by rw [<-Od];show 1 < 1000;decide),?_⟩;have S2:=S1.set (dr "empty" (.ref e) Oi);generalize Mu:dr "empty" (.ref e) Oi=qB at S2;generalize upd H1 a (.ins C3 dx qB)=H2 at S2;refine⟨_,rfl,R,rs,aa,rfl,S2.kp.seq hR,S2.kp.aa cS,bq,h8,C1,S2.t1,S2.t3,nT,λdl kl H3 UQ s3 wu Wg edl kdl=>?_⟩;have S3:=S2.Lr s3 wu Wg;refine⟨_,rfl,a,C3,dx,qB,rfl,S3.ia,L.cls,L.a3,(by rw [<-Mu,<-Od];show 2 < 1000;decide),?_⟩;have S4:=S3.set (dr "least" (.ref dl) qB);generalize UE:dr "least" (.ref dl) qB=Ke at S4;generalize upd H3 a (.ins C3 dx Ke)=H4 at S4;have x4:H4 x=some (.ins C Ko Gs):=S4.kp _ _ Ol (λ_ z=>by cases z);refine⟨_,rfl,_,rfl,x,C,Ko,Gs,_,rfl,x4,B.cls,B.a1,XZ,R,e1,rs,te,aa,aP,rfl,S4.kp.seq hR,S4.kp.aa cS,∅,h8,aH.of (S4.kp.lst ee1),Z6.keep λ_ _ z=>S4.kp.tup z,emp,∅,λdh kh H5 fdh s5 edh kdh=>?_⟩;have S5:=S4.next s5;refine⟨_,rfl,a,C3,dx,Ke,rfl,S5.ia,L.cls,L.a4,(by rw [<-UE,<-Mu,<-Od];show 3 < 1000;decide),?_⟩;have S6:=S5.set (dr "hollow" (.ref dh) Ke);generalize YT:dr "hollow" (.ref dh) Ke=wF at S6;generalize upd H5 a (.ins C3 dx wF)=H6 at S6;have x6:H6 x=some (.ins C Ko Gs):=S6.kp _ _ Ol (λ_ z=>by cases z);have b6:=S6.kp.lst ebg;have v6:Paired (λt (b:Be)=>aZ K H6 t [.str b.1,.str b.2.1,.int (b.2.2.1:Int),.int (b.2.2.2:Int)]) tb bK:=Paired.fj Kb λ_ _ z=>S6.kp.tup z;refine⟨_,rfl,x,C,Ko,Gs,_,rfl,x6,B.cls,B.a3,l2,bg,rfl,⟨_,aH.of b6⟩,λD7 Q4=>AL (aH.of b6) v6 ∅ Q4 λus H7 s7 e7 p7=>?_⟩;obtain⟨kvs,pk⟩:=B6 p7;refine⟨D7,us,kvs,rfl,e7,pk,λdb Aq=>?_⟩;have S8:=(S6.next s7).next (af Aq (.dT (mr kvs [])));refine⟨_,rfl,a,C3,dx,wF,rfl,S8.ia,L.cls,L.a5,(by rw [<-YT,<-UE,<-Mu,<-Od];show 4 < 1000;decide),?_⟩;have S9:=S8.set (dr "beginnings" (.ref db) wF);exact q _ S9.sm S9.t1 S9.t3
structure DM (K:a8)(x qual:Str)(st:Stmt)(f:Addr)(fd:FuncData):Prop where
 ex:∃(oc:Value)(od:Option Addr)(kV doc pm:Value)(an:Option Addr)(d0 ct:Value)(vv:Array (Option Value))(T:Addr)(o:Obj) (n:Nat),
  fd=PySem.W.fnOf x qual (cW st) (bV st) (az st) (.ref T) kV doc pm an d0 ct/\K.lookup f=some ⟨oc,od,.func fd,vv⟩/\PySem.W.codeIn K d0 qual=true/\K.lookup T=some o/\o.data=.seq #[.none] n
 kp:PySem.W.keepIn K (.ref f)=true
def DM.ok {x qual:Str}{st:Stmt}{f:Addr}{fd:FuncData}{N ps:List Str}{k:Nat}{sp:Sp}(F:DM K x qual st f fd)(S:aN N ps (az st))(len:∀vs H Q E,sp vs H Q E->vs.length=ps.length)
  (iH:∀(d0:Value)(A:Around)(outer:List Env)(s:Shared)(H:Hp)(vs:List V)(Q:VK)(E:XK),eI k (A.deeper (PyProof.Rows.envOfC qual (az st) s.heap.objs.size f d0))->sp vs H Q E ->
   ∃t,yp (nF fS P w K mg base N qual (az st) f d0 A outer s H E).Ad (bV st) t/\t { nx:=λ_ H'=>Q .fJ H',rt:=Q } (start N vs) H):bN P w K mg base fS (k+1) f fd ps sp:=by
 obtain⟨oc,od,kV,doc,pm,an,d0,ct,vv,T,o,n,rfl,lk,uA,_⟩:=F.ex;refine Dc lk uA S len λA outer s H vs Q E hr wB=>?_;obtain⟨t,h,q⟩:=iH d0 A outer s H vs Q E hr wB;exact⟨t,h.Ad,q⟩
def C6 {f:Addr}{fd:FuncData}(F:DM K "__init__" "Grammar.__init__" tZ f fd):Binds K fd ["self","rules","strengths"] [.none]:=by
 obtain⟨oc,od,kV,doc,pm,an,d0,ct,vv,T,o,n,rfl,lk,uA,lT,dT⟩:=F.ex;intro s us KI hl;have qH:us.length=2:=by
  have:(us++[Value.none]).length=3:=hl;rw [bO] at this;exact Nat.succ.inj this
 match us,qH with
 | [u1,u2],_=>exact BindsTo.of_defaults rfl (KI T o lT) dT rfl rfl
structure GC (K:a8)(C:Addr):Prop where
 cls:A0 K C
 a1:du K C "rules"
 a2:du K C "strengths"
 a3:du K C "begin_table"
 a4:du K C "standings"
 a5:du K C "small_trees"
def StrIn (K:a8)(H:Hp)(sv:V)(ss:List Addr)(str:List au):Prop:=(sv=.fJ/\ss=[]/\str=[])\/∃S,sv=.ref S/\aH K H S (ss.map V.ref)/\bE K H ss str
def OF (H0 H:Hp)(Cg g:Addr)(rs ss:List Addr)(bt:Addr):Prop:=∃gx fs R2 S2,H g=some (.ins Cg gx fs)/\fs.lookup ("rules":Str)=some (.ref R2)/\fs.lookup ("strengths":Str)=some (.ref S2)/\fs.lookup ("begin_table":Str)=some (.ref bt)/\fs.lookup ("start":Str)=none /\
 H R2=some (.lst (rs.map V.ref))/\H S2=some (.lst (ss.map V.ref))/\H0 R2=none/\H0 S2=none
def n6 (T1 T2 T3:Addr)(H H':Hp):Prop:=∀b o,b≠T1->b≠T2->b≠T3->H b=some o->H' b=some o
structure zK (T1 T2 T3:Addr)(H:Hp):Prop where
 t1:Tab T1 pL.2.2.2 wz H
 t2:Tab T2 xR.2.2.2 Ge H
 t3:Tab T3 posB DV H
 Ga:T1≠T2
 F_:T1≠T3
 F8:T2≠T3
theorem zK.same {T1 T2 T3:Addr}{H H':Hp}(h:zK T1 T2 T3 H)(s:aC H H'):zK T1 T2 T3 H':=⟨h.t1.same s,h.t2.same s,h.t3.same s,h.Ga,h.F_,h.F8⟩
def zK.Bm {T1 T2 T3 a C dx:Addr}{H:Hp}{fs:List (Str×V)}{o:HO}(h:zK T1 T2 T3 H)(ha:H a=some (.ins C dx fs)):zK T1 T2 T3 (upd H a o):=⟨jt h.t1 ha,jt h.t2 ha,jt h.t3 ha,h.Ga,h.F_,h.F8⟩
def Kp.WO {T1 T2 T3:Addr}{H H':Hp}(s:n6 T1 T2 T3 H H')(t:zK T1 T2 T3 H):Kp H H':=λc o hc hn=>by
 obtain⟨N0,b1,_⟩:=t.t1;obtain⟨Tq,b2,_⟩:=t.t2;obtain⟨ps3,b3,_⟩:=t.t3;exact s c o (λz=>by rw [z,b1] at hc;cases hc;exact hn _ rfl) (λz=>by rw [z,b2] at hc;cases hc;exact hn _ rfl) (λz=>by rw [z,b3] at hc;cases hc;exact hn _ rfl) hc
structure Bd (K:a8)(C:Addr)(H:Hp)(a:Addr)(aa:List au)(aP:List (Str×Nat))(bK:List Be):Prop where
 ia:∃dx fs e1 bg,H a=some (.ins C dx fs)/\fs.lookup ("empties":Str)=some (.ref e1)/\fs.lookup ("begins":Str)=some (.ref bg)/\(∃ts,H e1=some (.lst (ts.map V.ref))/\jc K H ts aP) /\
  ∃ts,H bg=some (.lst (ts.map V.ref))/\Paired (λt (b:Be)=>aZ K H t [.str b.1,.str b.2.1,.int (b.2.2.1:Int),.int (b.2.2.2:Int)]) ts bK
 emp:oF aa aP
 kP:qw aa aa.length aP
 Kr:su aa (hd aa) (λz=>decide (z∈aP.map (·.1))) bK
 Ds:A1 aa (hd aa) (λz=>decide (z∈aP.map (·.1))) aa.length bK
def Bd.mv {C a:Addr}{H H':Hp}{aa:List au}{aP:List (Str×Nat)}{bK:List Be}(h:Bd K C H a aa aP bK)(k1:∀dx fs,H a=some (.ins C dx fs)->H' a=some (.ins C dx fs))(k2:∀b xs,H b=some (.lst xs)->H' b=some (.lst xs))(k3:∀b xs,aZ K H b xs->aZ K H' b xs):Bd K C H' a aa aP bK:=by
 obtain⟨dx,fs,e1,bg,q1,q2,q3,⟨t1,q4,q5⟩,t2,q6,q7⟩:=h.ia;exact⟨⟨dx,fs,e1,bg,k1 _ _ q1,q2,q3,⟨t1,k2 _ _ q4,q5.keep k3⟩,t2,k2 _ _ q6,Paired.fj q7 λ_ _ z=>k3 _ _ z⟩,h.emp,h.kP,h.Kr,h.Ds⟩
def Bd.kp {C a:Addr}{H H':Hp}{aa:List au}{aP:List (Str×Nat)}{bK:List Be}(h:Bd K C H a aa aP bK)(k:Kp H H'):Bd K C H' a aa aP bK:=h.mv (λ_ _ z=>k _ _ z (λ_ y=>by cases y)) (λ_ _ z=>k.lst z) λ_ _ z=>k.tup z
def Bd.same {C a:Addr}{H H':Hp}{aa:List au}{aP:List (Str×Nat)}{bK:List Be}(h:Bd K C H a aa aP bK)(k:aC H H'):Bd K C H' a aa aP bK:=h.kp (Kp.of k)
def Jw {C:Addr}{H0 H:Hp}{a e d bg:Addr}{kE:List (aK×V)}{aa:List au}{aP:List (Str×Nat)}{ps:List (Str×Addr)}{bK:List Be}(h:qC K C H0 H a e d bg kE aP ps bK)(emp:oF aa aP)(kP:qw aa aa.length aP)(Kr:su aa (hd aa) (λz=>decide (z∈aP.map (·.1))) bK)(Ds:A1 aa (hd aa) (λz=>decide (z∈aP.map (·.1))) aa.length bK):Bd K C H a aa aP bK:=by
 obtain⟨dx,fs,q1,_,q3,_⟩:=h.ia;obtain⟨e1,t1,⟨M8,qB,q4,q5⟩,q6,q7,_⟩:=h.em;obtain⟨t2,q8,q9⟩:=h.lb;rw [q1] at q4;cases q4;exact⟨⟨dx,fs,e1,bg,q1,q5,q3,⟨t1,q6,q7⟩,t2,q8,q9⟩,emp,kP,Kr,Ds⟩
def yR (K:a8)(Cg C T1 T2 T3:Addr):Sp:=λvs H Q _=>∃(H0:Hp)(g gx R:Addr)(sv:V)(rs ss:List Addr)(aa str:List au)(rk:Str->Nat)(b:Str->Int),vs=[.ref g,.ref R,sv]/\aC H0 H/\H0 g=none/\H g=some (.ins Cg gx [])/\aH K H0 R (rs.map V.ref)/\bE K H0 rs aa/\aa.length < 64/\(∀ru∈aa,ru.2.length<=8)/\aa≠[] /\
 StrIn K H0 sv ss str/\str.length<=1000/\(∀ru∈str,ru.2.length<=8)/\(str.flatMap (·.2)).Nodup/\Good aa rk b/\zK T1 T2 T3 H0 /\
 ∀(bt:Addr)(H':Hp),n6 T1 T2 T3 H0 H'->zK T1 T2 T3 H'->OF H0 H' Cg g rs ss bt->(∃aP bK,Bd K C H' bt aa aP bK)->Q .fJ H'
def qC.Bm {C:Addr}{H0 H:Hp}{a e d bg:Addr}{kE:List (aK×V)}{aP:List (Str×Nat)}{ps:List (Str×Addr)}{bK:List Be}{g Cg gx:Addr}{fs Eg:List (Str×V)}(h:qC K C H0 H a e d bg kE aP ps bK)(hg:H0 g=some (.ins Cg gx fs))(na:a≠g) :
  qC K C (upd H0 g (.ins Cg gx Eg)) (upd H g (.ins Cg gx Eg)) a e d bg kE aP ps bK:=by
 have Fj:=h.sm _ _ hg;have up:∀c o,c≠g->H c=some o->upd H g (.ins Cg gx Eg) c=some o:=λc o n q=>by rw [ai n];exact q
 refine⟨λc o hc=>?_,?_,up _ _ (λz=>by have:=h.he;rw [z,Fj] at this;cases this) h.he,up _ _ (λz=>by have:=h.hd;rw [z,Fj] at this;cases this) h.hd,h.n1,h.n2,λp hp=>?_,?_,?_,?_⟩
 .by_cases z:c=g
  .rw [z,ae] at hc ⊢;exact hc
  rw [ai z] at hc ⊢;exact h.sm _ _ hc
 .obtain⟨dx,fs,q,r⟩:=h.ia;exact⟨dx,fs,up _ _ na q,r⟩
 .obtain⟨⟨kvs,q,r⟩,t1,t2⟩:=h.dk p hp;exact⟨⟨kvs,up _ _ (λz=>by rw [z,Fj] at q;cases q) q,r⟩,by rw [ai (λz=>by rw [z,hg] at t1;cases t1)];exact t1,t2⟩
 .obtain⟨ts,q,r⟩:=h.lb;exact⟨ts,up _ _ (λz=>by rw [z,Fj] at q;cases q) q,Paired.fj r λ_ _ z=>fX Fj z⟩
 .have t1:=h.fb;rw [ai (λz=>by rw [z,hg] at t1;cases t1)];exact t1
 obtain⟨e1,ts,⟨dx,fs,q1,q2⟩,q3,q4,q5⟩:=h.em;exact⟨e1,ts,⟨dx,fs,up _ _ na q1,q2⟩,up _ _ (λz=>by rw [z,Fj] at q3;cases q3) q3,q4.keep λ_ _ z=>fX Fj z,q5⟩
def EF:aN ["self","rules","strengths"] ["self","rules","strengths"] (az tZ):=iY rfl rfl rfl rfl nofun
def Cv {Cg C C3 T1 T2 T3 fB fL:Addr}{UW US:FuncData}(F:DM K "__init__" "Grammar.__init__" tZ f fd)(T:Txt mg)(G:GC K Cg)(GR:aF P w K mg base 6 "refuse_faults" ["rules","strengths"] (pd K T1 T2))(GS:aF P w K mg base 6 "standings_by_part" ["rules"] (FU K))
  (FB:bN P w K mg base fS 5 fB UW ["self","rules"] (yS K C))(MB:Mk K C fB)(BB:Binds K UW ["self","rules"] [])(mB:mg "BeginTable"=some (.ref C))
  (FL:bN P w K mg base fS 5 fL US ["self","rules","begin_table"] (yQ K C C3 T1 T3))(ML:Mk K C3 fL)(BL:Binds K US ["self","rules","begin_table"] [])(mL:mg "LeastTrees"=some (.ref C3)):bN P w K mg base fS 7 f fd ["self","rules","strengths"] (yR K Cg C T1 T2 T3):=by
 refine F.ok EF (λvs H Q E h=>?_) (λd0 A outer s H vs Q E hr h=>?_)
 .obtain⟨H0,g,gx,R,sv,rs,ss,aa,str,rk,b,rfl,_⟩:=h;rfl
 obtain⟨H0,g,gx,R,sv,rs,ss,aa,str,rk,b,rfl,s0,f0,eg,hR,cS,bq,h8,A4,wA,Qn,Qu,Qt,gd,QY,q⟩:=h;refine⟨_,ak (fY (pv 0) (a0 gR rfl T.lst gL (ab (pv 1) aj)) rfl)
  (ak (fZ (fY (pv 0) (vq (fw (HY (pv 2))) (bR aj) (a0 gR rfl T.lst gL (ab (pv 2) aj))) rfl))
  (ak (bT (bp GR hr rfl (ab (dD (pv 0) rfl) (ab (dD (pv 0) rfl) aj))))
  (ak (fY (pv 0) (bp GS hr rfl (ab (dD (pv 0) rfl) aj)) rfl)
  (ak (fY (pv 0) (uf MB FB hr rfl mB BB .nil rB (ab (dD (pv 0) rfl) aj)) rfl)
  (ao (fY (pv 0) (uf ML FL hr rfl mL BL .nil rB (ab (dD (pv 0) rfl) (ab (dD (pv 0) rfl) aj))) rfl)))))),?_⟩
 nofun
 refine⟨_,rfl,R,_,rfl,.inl (s0.seq hR),λR2 Ee=>?_⟩;have Rr:=af Ee (.lst (rs.map V.ref)) _ _ eg;have p_:upd H R2 (.lst (rs.map V.ref)) R2=some (.lst (rs.map V.ref)):=ae;have Tj:=s0.trans (af Ee (.lst (rs.map V.ref)));generalize upd H R2 (.lst (rs.map V.ref))=H1 at Rr p_ Tj;refine⟨_,rfl,g,Cg,gx,[],rfl,Rr,G.cls,G.a1,(by show 0 < 1000;decide),?_⟩;generalize me:dr "rules" (.ref R2) []=qB;have Kh:upd H1 g (.ins Cg gx qB) R2=some (.lst (rs.map V.ref)):=by rw [ai (λz=>by rw [z,Rr] at p_;cases p_)];exact p_
 have BX:aC H0 (upd H1 g (.ins Cg gx qB)):=λc o hc=>by rw [ai (λz=>by rw [z,f0] at hc;cases hc)];exact Tj c o hc
 have Ot:upd H1 g (.ins Cg gx qB) g=some (.ins Cg gx qB):=ae;generalize upd H1 g (.ins Cg gx qB)=H2 at Kh BX Ot;refine⟨λσ H3=>σ=[aI g,aI R,some sv]/\∃S2 fs,aC H0 H3/\H3 g=some (.ins Cg gx fs)/\fs=dr "strengths" (.ref S2) qB/\H3 R2=some (.lst (rs.map V.ref))/\H3 S2=some (.lst (ss.map V.ref))/\H0 S2=none,?_,?_⟩
 .have fin:∀S2,H2 S2=none->(λH3=>∃S2 fs,aC H0 H3/\H3 g=some (.ins Cg gx fs)/\fs=dr "strengths" (.ref S2) qB/\H3 R2=some (.lst (rs.map V.ref))/\H3 S2=some (.lst (ss.map V.ref))/\H0 S2=none) (upd (upd H2 S2 (.lst (ss.map V.ref))) g (.ins Cg gx (dr "strengths" (.ref S2) qB)))/\upd H2 S2 (.lst (ss.map V.ref)) g=some (.ins Cg gx qB):=λS2 Gr=>by
   have sl:=af Gr (.lst (ss.map V.ref));have eS:upd H2 S2 (.lst (ss.map V.ref)) S2=some (.lst (ss.map V.ref)):=ae;have M3:=sl _ _ Ot;refine⟨⟨S2,_,λc o hc=>?_,ae,rfl,?_,?_,BX.free Gr⟩,M3⟩
   .rw [ai (λz=>by rw [z,f0] at hc;cases hc)];exact sl _ _ (BX c o hc)
   .rw [ai (λz=>by rw [z,Ot] at Kh;cases Kh)];exact sl _ _ Kh
   rw [ai (λz=>by rw [z,Ot] at Gr;cases Gr)];exact eS
  rcases wA with ⟨rfl,rfl,rfl⟩ | ⟨S,rfl,hS,N7⟩
  .refine⟨_,rfl,_,rfl,?_⟩;refine ID ?_;refine⟨tE,λS2 Gr=>?_⟩;obtain⟨x1,x2⟩:=fin S2 Gr;exact⟨_,rfl,g,Cg,gx,qB,rfl,x2,G.cls,G.a2,(by rw [<-me];show 1 < 1000;decide),rfl,x1⟩
  refine⟨_,rfl,_,rfl,?_⟩;refine hJ ?_;refine⟨_,rfl,S,_,rfl,.inl (BX.seq hS),λS2 Gr=>?_⟩;obtain⟨x1,x2⟩:=fin S2 Gr;exact⟨_,rfl,g,Cg,gx,qB,rfl,x2,G.cls,G.a2,(by rw [<-me];show 1 < 1000;decide),rfl,x1⟩
 rintro σ H3 ⟨rfl,S2,Ef,zV,M3,oi,U3,U1,Z1⟩;have TZ:Ef.lookup ("rules":Str)=some (.ref R2):=by rw [oi,<-me];rfl
 have N4:Ef.lookup ("strengths":Str)=some (.ref S2):=by rw [oi,<-me];rfl
 have Qq:bE K H3 ss str:=by
  rcases wA with ⟨_,rfl,rfl⟩ | ⟨S,_,_,N7⟩
  .exact .nil
  exact N7.same zV
 have wu:=QY.same zV;refine⟨_,rfl,g,Cg,gx,Ef,_,rfl,M3,G.cls,G.a1,TZ,_,rfl,g,Cg,gx,Ef,_,rfl,M3,G.cls,G.a2,N4,R2,S2,rs,ss,aa,str,rk,b,rfl,aH.of U3,cS.same zV,∅,h8,A4,aH.of U1,Qq,Qn,Qu,Qt,gd,wu.t1,wu.t2,wu.Ga,λH4 NV SY SX=>?_⟩;have Fe:=Kp.of2 NV wu.t1 wu.t2;have t4:zK T1 T2 T3 H4:=⟨SY,SX,Tab.s2 wu.t3 NV wu.t1 wu.t2 wu.F_.symm wu.F8.symm,wu.Ga,wu.F_,wu.F8⟩;have S04:n6 T1 T2 T3 H0 H4:=λc o n1 n2 _ hc=>NV c o n1 n2 (zV c o hc);have U8:=Fe _ _ M3 (λ_ z=>by cases z);have U2:=Fe.lst U3;have es4:=Fe.lst U1;have Mi:bE K H4 rs aa:=Fe.aa (cS.same zV);clear SY SX NV wu;refine⟨_,rfl,g,Cg,gx,Ef,_,rfl,U8,G.cls,G.a1,TZ,R2,rs,aa,rfl,aH.of U2,Mi,∅,h8,λds H5 fds vi=>?_⟩;have Di:=vi _ _ U8;have er5:=vi _ _ U2;have Z_:=vi _ _ es4;have Qx:=Mi.same vi;have t5:=t4.same vi;have S05:n6 T1 T2 T3 H0 H5:=λc o n1 n2 n3 hc=>vi _ _ (S04 c o n1 n2 n3 hc);refine⟨_,rfl,g,Cg,gx,Ef,rfl,Di,G.cls,G.a4,(by rw [oi,<-me];show 2 < 1000;decide),?_⟩;generalize uz:dr "standings" (.ref ds) Ef=wF;have PB:∀{Hx:Hp}{fx fy:List (Str×V)},Hx g=some (.ins Cg gx fx)->n6 T1 T2 T3 H0 Hx->n6 T1 T2 T3 H0 (upd Hx g (.ins Cg gx fy)):=λ{Hx fx fy} hg hs c o n1 n2 n3 hc=>by
  rw [ai (λz=>by rw [z,f0] at hc;cases hc)];exact hs c o n1 n2 n3 hc
 have Io:∀{Hx:Hp}{fx fy:List (Str×V)}{b:Addr}{xs:List V},Hx g=some (.ins Cg gx fx)->Hx b=some (.lst xs)->upd Hx g (.ins Cg gx fy) b=some (.lst xs):=λ{Hx fx fy b xs} hg hb=>by
  rw [ai (λz=>by rw [z,hg] at hb;cases hb)];exact hb
 have VT:=PB (fy:=wF) Di S05;have Ro:=Io (fy:=wF) Di er5;have U0:=Io (fy:=wF) Di Z_;have II:bE K (upd H5 g (.ins Cg gx wF)) rs aa:=Qx.keep λ_ _ z=>fX Di z;have t6:zK T1 T2 T3 (upd H5 g (.ins Cg gx wF)):=t5.Bm Di;have Eh:upd H5 g (.ins Cg gx wF) g=some (.ins Cg gx wF):=ae;generalize upd H5 g (.ins Cg gx wF)=H6 at VT Ro U0 II t6 Eh;have XX:wF.lookup ("rules":Str)=some (.ref R2):=by rw [<-uz,oi,<-me];rfl
 refine⟨_,rfl,g,Cg,gx,wF,_,rfl,Eh,G.cls,G.a1,XX,λx dx hx Y1 W8=>?_⟩;have sx:aC H6 (upd (upd H6 dx (.own x)) x (.ins C dx [])):=(af Y1 _).trans (af (by rw [ai W8.symm];exact hx) _);refine⟨H6,x,dx,R2,rs,aa,rfl,sx,hx,ae,aH.of Ro,II,∅,h8,λe d bg kE aP ps bK H7 S7 m7 emp kP _ Kr Ds=>⟨rfl,?_⟩⟩;have Ki:=S7.sm _ _ Eh;have er7:=S7.sm _ _ Ro;have Z9:=S7.sm _ _ U0;have t7:=t6.same S7.sm;have Qw:=II.same S7.sm;have S07:n6 T1 T2 T3 H0 H7:=λc o n1 n2 n3 hc=>S7.sm _ _ (VT c o n1 n2 n3 hc);refine⟨_,rfl,g,Cg,gx,wF,rfl,Ki,G.cls,G.a3,(by rw [<-uz,oi,<-me];show 3 < 1000;decide),?_⟩;generalize xZ:dr "begin_table" (.ref x) wF=yc;have VS:=PB (fy:=yc) Ki S07;have Rn:=Io (fy:=yc) Ki er7;have UZ:=Io (fy:=yc) Ki Z9;have Mh:bE K (upd H7 g (.ins Cg gx yc)) rs aa:=Qw.keep λ_ _ z=>fX Ki z;have t8:zK T1 T2 T3 (upd H7 g (.ins Cg gx yc)):=t7.Bm Ki;have Oq:upd H7 g (.ins Cg gx yc) g=some (.ins Cg gx yc):=ae;have B8:qC K C (upd H6 g (.ins Cg gx yc)) (upd H7 g (.ins Cg gx yc)) x e d bg kE aP ps bK:=S7.Bm Eh (λz=>by rw [z,Eh] at hx;cases hx);generalize upd H7 g (.ins Cg gx yc)=H8 at VS Rn UZ Mh t8 Oq B8;have P5:yc.lookup ("rules":Str)=some (.ref R2):=by rw [<-xZ,<-uz,oi,<-me];rfl
 have X1:yc.lookup ("begin_table":Str)=some (.ref x):=by rw [<-xZ,<-uz,oi,<-me];rfl
 refine⟨_,rfl,g,Cg,gx,yc,_,rfl,Oq,G.cls,G.a1,P5,_,rfl,g,Cg,gx,yc,_,rfl,Oq,G.cls,G.a3,X1,λy dy hy Y0 W7=>?_⟩;have sy:aC H8 (upd (upd H8 dy (.own y)) y (.ins C3 dy [])):=(af Y0 _).trans (af (by rw [ai W7.symm];exact hy) _);have Iv:=Kr.len ∅ h8;refine⟨H8,_,y,dy,R2,x,e,d,bg,rs,aa,kE,aP,ps,bK,rfl,sy,hy,ae,aH.of Rn,Mh,bq,h8,gd.least,B8,emp,Iv,t8.t1,t8.t3,t8.F_,λH9 Pe O8 We=>⟨rfl,?_⟩⟩;have Fd:=Kp.of2 Pe t8.t1 t8.t3;have Jj:=Fd _ _ Oq (λ_ z=>by cases z);have er9:=Fd.lst Rn;have Z8:=Fd.lst UZ;have t9:zK T1 T2 T3 H9:=⟨O8,Tab.s2 t8.t2 Pe t8.t1 t8.t3 t8.Ga.symm t8.F8,We,t8.Ga,t8.F_,t8.F8⟩;have S09:n6 T1 T2 T3 H0 H9:=λc o n1 n2 n3 hc=>Pe _ _ n1 n3 (VS c o n1 n2 n3 hc);refine⟨_,rfl,g,Cg,gx,yc,rfl,Jj,G.cls,G.a5,(by rw [<-xZ,<-uz,oi,<-me];show 4 < 1000;decide),?_⟩;refine q x _ (PB Jj S09) (t9.Bm Jj) ⟨gx,_,R2,S2,ae,?_,?_,?_,?_,Io Jj er9,Io Jj Z8,s0.free Ee,Z1⟩ ⟨aP,bK,?_⟩
 .rw [<-xZ,<-uz,oi,<-me];rfl
 .rw [<-xZ,<-uz,oi,<-me];rfl
 .rw [<-xZ,<-uz,oi,<-me];rfl
 .rw [<-xZ,<-uz,oi,<-me];rfl
 have WU:x≠g:=λz=>by rw [z,Eh] at hx;cases hx
 exact((Jw B8 emp kP Kr Ds).kp Fd).mv (λ_ _ z=>by rw [ai WU];exact z) (λ_ _ z=>Io Jj z) λ_ _ z=>fX Jj z
end
def kX:List Str->Str->Nat
 | [],_=>0
 | a::r,x=>if a=x then 0 else kX r x+1
theorem kK:∀(l:List Str)(x:Str),x∈l->l[kX l x]?=some x
 | [],x,h=>by cases h
 | a::r,x,h=>by
  unfold kX;by_cases c:a=x
  .rw [ax c];exact congrArg some c
  rw [ay c];rcases bM.mp h with e | e
  .exact absurd e.symm c
  rw [List.getElem?_cons_succ];exact kK r x e
theorem jC:∀(l:List Str)(x:Str) (i:Nat),x∈l.take i->kX l x < i
 | [],x,i,h=>by simp at h
 | a::r,x,0,h=>by simp at h
 | a::r,x,i+1,h=>by
  unfold kX;by_cases c:a=x
  .rw [ax c];omega
  rw [ay c];rw [List.take_succ_cons] at h;rcases bM.mp h with e | e
  .exact absurd e.symm c
  have:=jC r x i e;omega
def lI {l:List Str}{x:Str}{i:Nat}(h:x∈l.take i):∃j,j < i/\l[j]?=some x:=by
 obtain⟨j,hj⟩:=fI h;have lj:=(bc.mp hj).1;rw [d7] at lj;rw [tD ∅] at hj;exact⟨j,∅,hj⟩
def rO {aa:List au}{ru:au}(h:ru∈aa):ru.1∈hd aa:=(gB _ _ _).mpr (.inr (gW h))
def Gq {aa:List au}{x:Str}(h:x∈hd aa):∃ru∈aa,ru.1=x:=by
 rcases (gB _ _ _).mp h with h | h
 .cases h
 obtain⟨ru,a,b⟩:=cH.mp h;exact⟨ru,a,b⟩
def GA {aa:List au}{x:Str}(h:Em aa x):x∈hd aa:=by
 cases h with
 | mk h _=>exact rO h
def yh {aa:List au}{aP:List (Str×Nat)}(h:oF aa aP):∀y∈aP.map (·.1),Em aa y:=by
 induction h with
 | nil=>intro y hy;cases hy
 | @snoc aP k ru _ e _ p ih =>
  intro y hy;rw [bC] at hy;rcases cD.mp hy with h | h
  .exact ih y h
  rw [cT.mp h];exact .mk (cy e) λq hq=>ih q (p q hq)
def vH {b:Str->Bool}{zs:List Str}{i j:Nat}{x:Str}(h:E_ b zs j=true)(e:zs[i]?=some x)(n:i≠j):b x=true:=by
 cases hb:b x with
 | true=>rfl
 | false =>
  have li:=(bc.mp e).1;have m:((i:Nat):Int)∈Ay b zs zs.length:=by
   unfold Ay;exact cH.mpr ⟨i,jW.mpr ⟨jV.mpr li,by rw [e];show (!(b x))=true;rw [hb];rfl⟩,rfl⟩
  unfold E_ at h;rcases Bool.or_eq_true_iff.mp h with h | h
  .rw [<-dA h] at m;cases m
  rw [<-dA h] at m;have:=cT.mp m;omega
theorem yE {f:Str->Int}{c:Int}:∀(ps:List Str),(∀x∈ps,f x<=c)->(ps.map f).sum<=ps.length * c
 | [],_=>by simp
 | p::r,h=>by
  have h1:=yE r λx hx=>h x (cz _ hx);have h2:=h p b0;rw [bZ,jf,d6];have:((r.length+1:Nat):Int) * c=(r.length:Int) * c+c:=by rw [Int.natCast_add,Int.add_mul];omega
  omega
structure Nr (aa:List au) (ns E M Pl:List Str):Prop where
 n3:ns.length<=3
 vL:∀ru∈aa,ru.1∈ns
 p3:∀ru∈aa,ru.2.length<=3
 eN:E.Nodup
 eNs:∀x∈E,x∈ns
 eO:∀(i:Nat)(h:Str),E[i]?=some h->∃cA,(h,cA)∈aa/\∀p∈cA,p∈E.take i\/p∉hd aa
 eA:∀h∈hd aa,h∈E
 mO:∀(i:Nat)(h:Str),M[i]?=some h->(∃gi,aa[0]?=some gi/\h=gi.1)\/∃ru∈aa,ru.1∈M.take i/\h∈ru.2
 mA:∀h∈hd aa,h∈M
 lN:Pl.Nodup
 X4:∀x∈Pl,x∈ns
 lO:∀(i:Nat)(h:Str),Pl[i]?=some h->∀ru∈aa,ru.1=h->∀(j:Nat)(z:Str),ru.2[j]?=some z->z∈hd aa->(∀(k:Nat)(y:Str),k≠j->ru.2[k]?=some y->Em aa y)->z∈Pl.take i
 lA:∀h∈hd aa,h∈Pl
def b3:Nat->Int
 | 0=>1
 | 1=>4
 | _=>13
def c3:Nat->Int
 | 0=>0
 | 1=>1
 | _=>4
def GY {i j:Nat}(hi:i < 3)(h:j < i):b3 j<=c3 i:=by
 have:∀i:Nat,i < 3->∀j:Nat,j < i->b3 j<=c3 i:=by decide
 exact this i hi j h
def Nd {i:Nat}:1+3 * c3 i=b3 i:=by
 match i with
 | 0=>rfl
 | 1=>rfl
 | _+2=>rfl
def GQ {i:Nat}:0<=c3 i:=by
 match i with
 | 0=>decide
 | 1=>decide
 | _+2=>exact(by decide:(0:Int)<=4)
def Dt {i:Nat}:0<=b3 i/\b3 i<=60:=by
 match i with
 | 0=>decide
 | 1=>decide
 | _+2=>exact(by decide:(0:Int)<=13/\(13:Int)<=60)
def FX {f:Str->Int}{i:Nat}{ps:List Str}(h3:ps.length<=3)(h:∀x∈ps,f x<=c3 i):1+(ps.map f).sum<=b3 i:=by
 have h1:=yE ps h;have h2:(ps.length:Int) * c3 i<=3 * c3 i:=Int.mul_le_mul_of_nonneg_right ∅ GQ;have:=@Nd i;omega
def bP (Pl:List Str)(x:Str):Int:=if x∈Pl then b3 (kX Pl x) else 0
def Nr.good {aa:List au}{ns E M Pl:List Str}(O:Nr aa ns E M Pl):Good aa (kX Pl) (bP Pl) where
 least g st se:=by
  have X0:E.length<=3:=fU (fK E ns O.eN O.eNs) O.n3;have aQ:∀x,x∉hd aa->∀ru∈aa,x∈ru.2->g x=some 0:=by
   intro x nn ru gA hm;refine de.keep (J:=λg=>g x=some 0) (λg HN j h2 _=>?_) st ?_
   .show cX g HN.1 _ x=some 0;unfold cX;have:x≠HN.1:=λz=>nn (z ▸ rO h2);rw [ay this];exact j
   show uB aa x=some 0;unfold uB;rw [ax (ot _ _ _ _ (.inr ⟨qO.mpr ⟨ru,gA,hm⟩,nn⟩))]
  have key:∀(n i:Nat),i < n->∀h:Str,E[i]?=some h->∃m,g h=some m/\m<=b3 i:=by
   intro n
   induction n with
   | zero=>intro i hi;omega
   | succ n ih =>
    intro i hi h e;have li:=(bc.mp e).1;obtain⟨ps,hm,hp⟩:=O.eO i h e;have hv:∀p∈ps,∃m,g p=some m/\m<=c3 i:=λp CU=>by
     rcases hp p CU with h1 | h1
     .obtain⟨j,lj,ej⟩:=lI h1;obtain⟨m,e1,e2⟩:=ih j ∅ p ej;exact⟨m,e1,mE e2 (GY ∅ lj)⟩
     exact⟨0,aQ p h1 _ hm CU,GQ⟩
    have hs:=se _ hm;unfold cx at hs;have a1:ja g (h,ps)=true:=d5.mpr λp hp=>by obtain⟨m,e1,_⟩:=hv p hp;show (g p).isSome=true;rw [e1];rfl
    have s0:aD g (h,ps)<=b3 i:=by
     unfold aD;exact FX (O.p3 _ hm) λp hp=>by obtain⟨m,e1,e2⟩:=hv p hp;show (g p).getD 0<=_;rw [e1];exact e2
    rw [a1,jU] at hs;cases gn:g h with
    | none=>rw [show g (h,ps).1=none from gn] at hs;cases hs
    | some m =>
     rw [show g (h,ps).1=some m from gn] at hs;refine⟨m,rfl,?_⟩;have:¬aD g (h,ps) < m:=by simpa [M11.bl] using hs
     omega
  intro h hh;obtain⟨i,hi⟩:=fI (O.eA h hh);obtain⟨m,e1,e2⟩:=key (i+1) i ∅ h hi;exact⟨m,e1,mE e2 Dt.2⟩
 met gi ms e0 h0 mc:=by
  have key:∀(n i:Nat),i < n->∀h:Str,M[i]?=some h->h∈ms:=by
   intro n
   induction n with
   | zero=>intro i hi;omega
   | succ n ih =>
    intro i hi h e;rcases O.mO i h e with ⟨r0,e1,e2⟩ | ⟨ru,gA,h1,h2⟩
    .rw [e0] at e1;cases e1;rw [e2];exact h0
    obtain⟨j,lj,ej⟩:=lI h1;exact mc ru (by rw [cC];exact gA) (ih j ∅ _ ej) h h2
  intro h hh;obtain⟨i,hi⟩:=fI (O.mA h hh);exact key (i+1) i ∅ h hi
 loop:=by
  rintro aP emp kP n k j ⟨gi,z0,e1,e2,e3,e4,e5⟩ ru z er ez;rw [er] at e1;obtain rfl:ru=gi:=gC e1;rw [ez] at e3;obtain rfl:z=z0:=gC e3;have gA:=cy er;have hn:n∈Pl:=O.lA n (e2 ▸ rO gA);refine jC Pl z _ (O.lO _ n (kK Pl n hn) ru gA e2 j z ez e4 λk' y nk ey=>?_);have:=vH e5 ey nk;exact yh emp y (dA this)
 VF:=by
  refine⟨λz=>?_,λru gA Ea=>?_⟩
  .unfold bP
   split
   .exact Dt.1
   decide
  have hn:ru.1∈Pl:=O.lA _ (rO gA);have li:=(bc.mp (kK Pl ru.1 hn)).1;have X0:Pl.length<=3:=fU (fK Pl ns O.lN O.X4) O.n3;have e:bP Pl ru.1=b3 (kX Pl ru.1):=ax hn;rw [e];refine FX (O.p3 ru gA) λp hp=>?_;obtain⟨j,ej⟩:=fI hp;have ht:=O.lO _ ru.1 (kK Pl ru.1 hn) ru gA rfl j p ej (GA (Ea p hp)) λk' y _ ey=>Ea y (cy ey);have e2:bP Pl p=b3 (kX Pl p):=ax (uW ht);rw [e2];exact GY ∅ (jC Pl p _ ht)
 most h hh:=by
  unfold bP
  split
  .exact Dt.2
  decide
end gT
namespace M11
open PySem
def dC (aQ:Bool) (aW e:List Str)(ru:au):List Str:=if ((ru.2.all λp=>decide (p∈e) || (aQ && !decide (p∈aW))) && !decide (ru.1∈e))=true then e++[ru.1] else e
def gk (aQ:Bool) (aW e:List Str)(aa:List au):List Str:=aa.foldl (dC aQ aW) e
def passes {α:Type}(f:α->α):Nat->α->α
 | 0,a=>a
 | n+1,a=>f (passes f n a)
def cQ (aQ:Bool)(aa:List au):List Str:=passes (λe=>gk aQ (aa.map (·.1)) e aa) aa.length []
structure EO (aQ:Bool) (aW:List Str)(aa:List au) (e:List Str):Prop where
 nd:e.Nodup
 ord:∀(i:Nat)(h:Str),e[i]?=some h->∃cA,(h,cA)∈aa/\∀p∈cA,p∈e.take i\/(aQ=true/\p∉aW)
def EO.step {aQ:Bool}{aW:List Str}{aa:List au}{e:List Str}(h:EO aQ aW aa e){ru:au}(hr:ru∈aa):EO aQ aW aa (dC aQ aW e ru):=by
 unfold dC
 split
 .rename_i c
  obtain⟨c1,c2⟩:=ir.mp c;have c2':ru.1∉e:=by simpa using c2
  refine⟨jj.mpr ⟨h.nd,by simp,λa ha b hb z=>c2' (by rw [<-cT.mp hb,<-z];exact ha)⟩,λi x hx=>?_⟩;by_cases l:i < e.length
  .rw [lD l] at hx;obtain⟨cA,a,b⟩:=h.ord i x hx;refine⟨cA,a,λp hp=>?_⟩;rw [lF ∅];exact b p hp
  have li:=(bc.mp hx).1;rw [bO,gO] at li;have:i=e.length:=by omega
  subst this;rw [jZ (aG _),mH] at hx;cases hx;refine⟨ru.2,hr,λp hp=>?_⟩;rw [lF (aG _),cC];have:=d5.mp c1 p hp;simp only [Bool.or_eq_true,decide_eq_true_eq,jX,Bool.not_eq_true',decide_eq_false_iff_not] at this;exact this
 exact h
theorem EO.pass {aQ:Bool}{aW:List Str}{aa:List au}:∀(rs:List au){e:List Str},(∀ru∈rs,ru∈aa)->EO aQ aW aa e->EO aQ aW aa (rs.foldl (dC aQ aW) e)
 | [],_,_,h=>h
 | ru::rs,_,hs,h=>EO.pass rs (λr hr=>hs r (cz _ hr)) (h.step (hs ru b0))
def gH (aQ:Bool)(aa:List au):EO aQ (aa.map (·.1)) aa (cQ aQ aa):=by
 have:∀n,EO aQ (aa.map (·.1)) aa (passes (λe=>gk aQ (aa.map (·.1)) e aa) n []):=by
  intro n
  induction n with
  | zero=>exact⟨i4,λi h e=>by cases e⟩
  | succ n ih=>exact EO.pass aa (λ_ h=>h) ih
 exact this _
def rg (aQ:Bool) (aW e:List Str)(ru:au):dC aQ aW e ru=e\/e.length < (dC aQ aW e ru).length:=by
 unfold dC
 split
 .right;simp
 left;rfl
theorem vQ (aQ:Bool) (aW:List Str):∀(rs:List au) (e:List Str),e.length<=(rs.foldl (dC aQ aW) e).length
 | [],_=>aG _
 | ru::rs,e=>by
  have h1:=vQ aQ aW rs (dC aQ aW e ru);have h2:=rg aQ aW e ru;show _<=(rs.foldl (dC aQ aW) (dC aQ aW e ru)).length;rcases h2 with h | h
  .rw [h] at h1 ⊢;exact h1
  omega
theorem pW (aQ:Bool) (aW:List Str):∀(rs:List au) (e:List Str),(rs.foldl (dC aQ aW) e=e/\∀ru∈rs,dC aQ aW e ru=e)\/e.length < (rs.foldl (dC aQ aW) e).length
 | [],_=>.inl ⟨rfl,λ_ h=>by cases h⟩
 | ru::rs,e=>by
  show (rs.foldl (dC aQ aW) (dC aQ aW e ru)=e/\_)\/_ < (rs.foldl (dC aQ aW) (dC aQ aW e ru)).length;rcases rg aQ aW e ru with h | h
  .rw [h];rcases pW aQ aW rs e with ⟨a,b⟩ | c
   .refine .inl ⟨a,λr hr=>?_⟩;rcases bM.mp hr with rfl | hr
    .exact h
    exact b r hr
   exact .inr c
  right;have:=vQ aQ aW rs (dC aQ aW e ru);omega
theorem fC:∀(l m:List Str),l.Nodup->(∀z∈l,z∈m)->l.length<=m.length
 | [],m,_,_=>gN _
 | x::r,m,hn,hs=>by
  have hx:=hs x b0;have CZ:=ji.mp hn;have:=fC r (m.erase x) CZ.2 λz hz=>(List.mem_erase_of_ne (λe=>CZ.1 (by rw [<-e];exact hz))).mpr (hs z (cz _ hz));rw [List.length_erase_of_mem hx] at this;have:0 < m.length:=List.length_pos_of_mem hx;rw [d6];omega
def EO.sub {aQ:Bool}{aW:List Str}{aa:List au}{e:List Str}(h:EO aQ aW aa e):∀x∈e,x∈aa.map (·.1):=λx hx=>by
 obtain⟨i,hi⟩:=fI hx;obtain⟨cA,a,_⟩:=h.ord i x hi;exact cH.mpr ⟨_,a,rfl⟩
def AB (aQ:Bool)(aa:List au):∀ru∈aa,dC aQ (aa.map (·.1)) (cQ aQ aa) ru=cQ aQ aa:=by
 have eo:∀n,EO aQ (aa.map (·.1)) aa (passes (λe=>gk aQ (aa.map (·.1)) e aa) n []):=by
  intro n
  induction n with
  | zero=>exact⟨i4,λi h e=>by cases e⟩
  | succ n ih=>exact EO.pass aa (λ_ h=>h) ih
 have key:∀n,(passes (λe=>gk aQ (aa.map (·.1)) e aa) (n+1) []=passes (λe=>gk aQ (aa.map (·.1)) e aa) n []/\∀ru∈aa,dC aQ (aa.map (·.1)) (passes (λe=>gk aQ (aa.map (·.1)) e aa) n []) ru=passes (λe=>gk aQ (aa.map (·.1)) e aa) n [])\/n < (passes (λe=>gk aQ (aa.map (·.1)) e aa) (n+1) []).length:=by
  intro n
  induction n with
  | zero =>
   rcases pW aQ (aa.map (·.1)) aa [] with h | h
   .exact .inl h
   exact .inr h
  | succ n ih =>
   rcases ih with ⟨a,b⟩ | c
   .left;rw [show passes (λe=>gk aQ (aa.map (·.1)) e aa) (n+1+1) []=gk aQ (aa.map (·.1)) (passes (λe=>gk aQ (aa.map (·.1)) e aa) (n+1) []) aa from rfl,a];exact⟨a,b⟩
   rcases pW aQ (aa.map (·.1)) aa (passes (λe=>gk aQ (aa.map (·.1)) e aa) (n+1) []) with h | h
   .exact .inl h
   right;have h2:(passes (λe=>gk aQ (aa.map (·.1)) e aa) (n+1) []).length < (passes (λe=>gk aQ (aa.map (·.1)) e aa) (n+1+1) []).length:=h;omega
 rcases key aa.length with ⟨_,b⟩ | c
 .exact b
 have e1:=eo (aa.length+1);have:=fC _ _ e1.nd e1.sub;rw [av] at this;omega
def uF {aQ:Bool}{aa:List au}{ru:au}(hr:ru∈aa)(h:∀p∈ru.2,p∈cQ aQ aa\/(aQ=true/\p∉aa.map (·.1))):ru.1∈cQ aQ aa:=by
 have:=AB aQ aa ru hr;unfold dC at this;by_cases c:ru.1∈cQ aQ aa
 .exact c
 rw [ax] at this
 .have:=congrArg List.length this;rw [bO] at this;simp at this
 refine ir.mpr ⟨d5.mpr λp hp=>?_,by simpa using c⟩;simp only [Bool.or_eq_true,decide_eq_true_eq,jX,Bool.not_eq_true',decide_eq_false_iff_not];exact h p hp
def qa {aa:List au}{x:Str}(h:Em aa x):x∈cQ false aa:=by
 induction h with
 | mk hr _ ih=>exact uF hr λp hp=>.inl (ih p hp)
end M11
namespace gT
open PySem L2 M11
abbrev BV:Stmt:=top 41
abbrev xj:Stmt:=top 42
abbrev tT:Stmt:=top 43
abbrev t_:Stmt:=top 44
abbrev BK:Stmt:=top 45
abbrev BN:Stmt:=top 46
abbrev xn:Stmt:=top 47
abbrev BR:Stmt:=top 49
abbrev BQ:Stmt:=top 50
abbrev BJ:Stmt:=top 48
def Sg {zs:List Str}{m:Int}(h:(zs.length:Int)=m)(hm:0 < m) (n:Int):∃z∈zs,qL (zs.map V.str) (n % m)=some (.str z):=by
 subst h;have h1:=Int.emod_lt_of_pos n hm;have h2:=Int.emod_nonneg n (show (zs.length:Int)≠0 by omega);have l:(n % (zs.length:Int)).toNat < zs.length:=by omega
 have e:n % (zs.length:Int)=(((n % (zs.length:Int)).toNat:Nat):Int):=by omega
 refine⟨zs[(n % (zs.length:Int)).toNat],List.getElem_mem l,?_⟩;have t:qL (zs.map V.str) (((n % (zs.length:Int)).toNat:Nat):Int)=some (.str zs[(n % (zs.length:Int)).toNat]):=dN (by rw [bo,c_ l];rfl);rw [<-e] at t;exact t
def vo {α:Type}(i:Nat)(x y z:α):α:=match i with | 0=>x | 1=>y | _=>z
def LD {H:Hp}{L1 L2 L3 LL:Addr}{xs ys zs:List V}(h1:H L1=none)(h2:upd H L1 (.lst xs) L2=none)(h3:upd (upd H L1 (.lst xs)) L2 (.lst ys) L3=none)
  (h4:upd (upd (upd H L1 (.lst xs)) L2 (.lst ys)) L3 (.lst zs) LL=none):aC H (upd (upd (upd (upd H L1 (.lst xs)) L2 (.lst ys)) L3 (.lst zs)) LL (.lst [.ref L1,.ref L2,.ref L3]))/\∀i:Nat,i < 3->∃Li,qL [V.ref L1,V.ref L2,V.ref L3] (i:Int)=some (.ref Li)/\H Li=none /\
   upd (upd (upd (upd H L1 (.lst xs)) L2 (.lst ys)) L3 (.lst zs)) LL (.lst [.ref L1,.ref L2,.ref L3]) Li=some (.lst (vo i xs ys zs)):=by
 have s1:=af h1 (.lst xs);have s2:=af h2 (.lst ys);have s3:=af h3 (.lst zs);have s4:=af h4 (.lst [.ref L1,.ref L2,.ref L3]);refine⟨s1.trans (s2.trans (s3.trans s4)),λi hi=>?_⟩
 match i,hi with
 | 0,_=>exact⟨L1,rfl,h1,s4 _ _ (s3 _ _ (s2 _ _ ae))⟩
 | 1,_=>exact⟨L2,rfl,s1.free h2,s4 _ _ (s3 _ _ ae)⟩
 | 2,_=>exact⟨L3,rfl,s1.free (s2.free h3),s4 _ _ ae⟩
def zf (i:Nat):List Str:=vo i ["s","t","u","w","v"] ["b","aa","k","bb","e"] ["a","ab","n","d","aba"]
def NK (i:Nat):List Str:=vo i ["a","b","c"] ["ab","a","c"] ["b","+","ba"]
def E9 (i:Nat):vo i [V.str "s",V.str "t",V.str "u",V.str "w",V.str "v"] [V.str "b",V.str "aa",V.str "k",V.str "bb",V.str "e"] [V.str "a",V.str "ab",V.str "n",V.str "d",V.str "aba"]=(zf i).map V.str:=by
 match i with
 | 0=>rfl
 | 1=>rfl
 | _+2=>rfl
def Ew (i:Nat):vo i [V.str "a",V.str "b",V.str "c"] [V.str "ab",V.str "a",V.str "c"] [V.str "b",V.str "+",V.str "ba"]=(NK i).map V.str:=by
 match i with
 | 0=>rfl
 | 1=>rfl
 | _+2=>rfl
def Ik (i:Nat):(zf i).length=5:=by
 match i with
 | 0=>rfl
 | 1=>rfl
 | _+2=>rfl
def G_ (i:Nat):(NK i).length=3:=by
 match i with
 | 0=>rfl
 | 1=>rfl
 | _+2=>rfl
def CC (i:Nat):∀z∈zf i,z.length<=3:=by
 match i with
 | 0=>decide +kernel
 | 1=>decide +kernel
 | n+2=>exact(by decide +kernel:∀z∈zf 2,z.length<=3)
def zX {j:Nat}(h:j < 3):(uc "y" j).length<=2:=by
 match j,h with
 | 0,_=>decide +kernel
 | 1,_=>decide +kernel
 | 2,_=>decide +kernel
section
def cellAt (ns:List Int) (k:Nat):Int:=(ns[k]?).getD 0
def mV (K:a8):Sp:=λvs H Q _=>∃(a:Addr)(ns:List Int) (k:Nat),vs=[.ref a,.int (k:Int)]/\aH K H a (ns.map V.int)/\ns.length<=1000/\∀n:Int,n=cellAt ns k->Q (.int n) H
def Hr:aN ["_law_script","_law_k"] ["_law_script","_law_k"] (az BV):=iY rfl rfl rfl rfl nofun
def E6 (F:ik K "_law_cell_at" "_law_cell_at" BV f fd)(T:Txt mg):bN P w K mg base fS 1 f fd ["_law_script","_law_k"] (mV K):=by
 refine F.ok Hr (λvs H Q E h=>?_) (λd0 A outer s H vs Q E hr h=>?_)
 .obtain⟨a,ns,k,rfl,_⟩:=h;rfl
 obtain⟨a,ns,k,rfl,hS,hn,q⟩:=h;refine⟨_,ak (b8 (br nQ (pv 1) (aL bz rfl T.len gb (ab (pv 0) aj)) (cw _)) (ao (bu (bJ cO (pv 0) (pv 1) (λ_ _=>rfl)))) aY) (ao (bu ar)),?_⟩;refine⟨_,rfl,_,rfl,a,_,rfl,.inl hS,_,_,rfl,rfl,_,rfl,?_⟩;refine cu (λcc=>?_) (λcc=>q 0 ?_)
 rotate_left
 .have ge:¬((k:Int) < ((ns.map V.int).length:Int)):=λz=>cc (eU z);rw [av] at ge;unfold cellAt;rw [sX ∅];rfl
 have lt:=dA cc;rw [av] at lt;have lt':k < ns.length:=by omega
 refine⟨_,rfl,_,rfl,a,_,_,.int ns[k],rfl,rfl,hS,dN (by rw [bo,c_ lt'];rfl),q _ (by unfold cellAt;rw [c_ lt'];rfl)⟩
def pj:Sp:=λvs H Q _=>∃(c:Int) (m:Nat)(S:Addr) (zs:List Str),vs=[.int c,.int (m:Int),.ref S]/\m<=100/\H S=some (.lst (zs.map V.str))/\0 < zs.length/\zs.length<=1000/\∀(p:Addr) (ps:List Str)(H':Hp),aC H H'->H' p=some (.tup (ps.map V.str))->ps.length=m->(∀x∈ps,x∈zs)->Q (.ref p) H'
def ix:aN ["_law_cell","_law_many","_law_some","_law_parts","_law_seed","_law_k"] ["_law_cell","_law_many","_law_some"] (az t_):=iY rfl rfl rfl rfl nofun
def Aa (F:ik K "_law_digits" "_law_digits" t_ f fd)(T:Txt mg):bN P w K mg base fS 1 f fd ["_law_cell","_law_many","_law_some"] pj:=by
 refine F.ok ix (λvs H Q E h=>?_) (λd0 A outer s H vs Q E hr h=>?_)
 .obtain⟨c,m,S,zs,rfl,_⟩:=h;rfl
 obtain⟨c,m,S,zs,rfl,hm,hS,hz0,Ye,q⟩:=h;refine⟨_,ak (aB (i:=3) ix.nd rfl (ba rfl) (bR aj))
  (ak (aB (i:=4) ix.nd rfl (ba rfl) (aM dH (aM cK (pv 0) ar) ar))
  (ak (bL b_ rfl (iA rfl T.DT (ab (pv 1) aj)) (aq (i:=5) ix.nd rfl (ba rfl))
   (ao (b8 (br Ci (pv 0) ar (cw _))
    (ak (bT (fh e_ fc ff bh (pv 3) (ab (bJ cO (pv 2) (aM cK (aM Ce (pv 0) ar) (aL bz rfl T.len gb (ab (pv 2) aj))) (λ_ _=>rfl)) aj)))
    (ao (aB (i:=0) ix.nd rfl (ba rfl) (aM cV (aM Ce (pv 0) ar) (aL bz rfl T.len gb (ab (pv 2) aj))))))
    (ak (aB (i:=4) ix.nd rfl (ba rfl) (aM cK (aM Ia (pv 4) ar) ar))
    (ao (bT (fh e_ fc ff bh (pv 3) (ab (bJ cO (pv 2) (aM cK (aM cV (pv 4) ar) (aL bz rfl T.len gb (ab (pv 2) aj))) (λ_ _=>rfl)) aj))))))))
  (ao (bu (a0 ij rfl T.tup tq (ab (pv 3) aj)))))),?_⟩
 have L_:(0:Int) < (zs.length:Int):=by omega
 refine⟨tE,λL hL=>?_⟩;have hS1:=af hL (.lst []) _ _ hS;have nS:S≠L:=λz=>by rw [z,hL] at hS;cases hS
 refine⟨_,rfl,_,_,rfl,rfl,(by show (0:Int) < 2147483647;decide),_,_,rfl,rfl,?_⟩;refine⟨_,rfl,(m:Int),rfl,∅,∅,?_⟩;rw [jY m];refine iI (n:=m) (λi σ H2=>∃(c2 c4:Int)(k2:Option V) (ps:List Str),σ=[some (.int c2),some (.int (m:Int)),aI S,aI L,some (.int c4),k2]/\H2=upd H L (.lst (ps.map V.str))/\ps.length=i/\∀x∈ps,x∈zs) ⟨c,_,none,[],rfl,rfl,rfl,λ_ h=>(by cases h)⟩ ?_ ?_
 .rintro i σ H2 hi ⟨c2,c4,k2,ps,rfl,rfl,hp,CU⟩;have eS:upd H L (.lst (ps.map V.str)) S=some (.lst (zs.map V.str)):=by rw [ai nS];exact hS
  refine goN ?_;refine⟨_,rfl,_,_,rfl,rfl,_,rfl,?_⟩;refine cu (λ_=>?_) (λ_=>?_)
  .obtain⟨z,L0,ez⟩:=Sg (zs:=zs) rfl L_ (c2 - 1);refine⟨_,rfl,.inl ⟨rfl,_,aH.of ae⟩,_,rfl,_,rfl,_,_,rfl,rfl,_,rfl,S,_,rfl,.inl (aH.of eS),_,_,rfl,rfl,(by rw [av];exact L_),?_⟩;rw [av];refine⟨S,_,_,_,rfl,rfl,aH.of eS,ez,L,_,_,rfl,rfl,ae,bf (by rw [av];omega),?_⟩;rw [lG];have eS2:upd H L (.lst (ps.map V.str++[.str z])) S=some (.lst (zs.map V.str)):=by rw [ai nS];exact hS
   refine⟨_,rfl,_,_,rfl,rfl,_,rfl,S,_,rfl,.inl (aH.of eS2),_,_,rfl,rfl,(by rw [av];exact⟨L_,by show (zs.length:Int) < 1073741824;omega⟩),?_⟩;rw [av];exact⟨_,_,_,ps++[z],rfl,by rw [bC];rfl,by rw [bO,hp];rfl,λx hx=>(cD.mp hx).elim (CU x) λh=>(cT.mp h) ▸ L0⟩
  refine⟨_,rfl,_,_,rfl,rfl,.inr ⟨nofun,nofun⟩,_,_,rfl,rfl,(by show (0:Int) < 2147483647;decide),?_⟩;obtain⟨z,L0,ez⟩:=Sg (zs:=zs) rfl L_ (c4 * 48271 % 2147483647 / 3);refine⟨_,rfl,.inl ⟨rfl,_,aH.of ae⟩,_,rfl,_,rfl,_,_,rfl,rfl,⟨nofun,nofun⟩,_,rfl,S,_,rfl,.inl (aH.of eS),_,_,rfl,rfl,(by rw [av];exact L_),?_⟩;rw [av];refine⟨S,_,_,_,rfl,rfl,aH.of eS,ez,L,_,_,rfl,rfl,ae,bf (by rw [av];omega),?_⟩;rw [lG];exact⟨_,_,_,ps++[z],rfl,by rw [bC];rfl,by rw [bO,hp];rfl,λx hx=>(cD.mp hx).elim (CU x) λh=>(cT.mp h) ▸ L0⟩
 rintro σ H2 ⟨c2,c4,k2,ps,rfl,rfl,hp,CU⟩;refine⟨_,rfl,L,_,rfl,.inl ⟨aH.of ae,λp qG=>?_⟩⟩;exact q p ps _ ((af hL _).trans (af qG _)) ae hp CU
def i3 (c:Int):Nat:=(c / 72 % 3).toNat
def j3 (c:Int):Nat:=(c / 3 % 3).toNat
def Gn (c:Int):i3 c < 3/\c / 72 % 3=(i3 c:Int):=by unfold i3;omega
def LU (c:Int):j3 c < 3/\c / 3 % 3=(j3 c:Int):=by unfold j3;omega
def gM (c:Int):List Str:=NK (i3 c)
def x_ (c:Int):(gM c).length=3:=G_ _
def N1 (i j:Nat):List Str:=(zf i).map λz=>z++uc "y" j
def CD {i j:Nat}(hi:i < 3)(hj:j < 3):(N1 i j).Nodup/\∀x∈N1 i j,x∉NK i:=by
 match i,hi,j,hj with
 | 0,_,0,_=>decide +kernel
 | 0,_,1,_=>decide +kernel
 | 0,_,2,_=>decide +kernel
 | 1,_,0,_=>decide +kernel
 | 1,_,1,_=>decide +kernel
 | 1,_,2,_=>decide +kernel
 | 2,_,0,_=>decide +kernel
 | 2,_,1,_=>decide +kernel
 | 2,_,2,_=>decide +kernel
structure Nu (c:Int) (nms:List Str):Prop where
 nd:nms.Nodup
 dj:∀x∈nms,x∉gM c
 one:1<=nms.length
 Rc:nms.length<=5
def yO:Sp:=λvs H Q _=>∃(c:Int),vs=[.int c]/\∀(N:Addr) (nms:List Str)(H':Hp),H N=none->aC H H'->H' N=some (.lst (nms.map V.str))->Nu c nms->Q (.ref N) H'
def ox:aN ["_law_cell","_law_some","_law_many"] ["_law_cell"] (az xj):=iY rfl rfl rfl rfl nofun
def Cq (F:ik K "_law_names" "_law_names" xj f fd)(T:Txt mg):bN P w K mg base fS 1 f fd ["_law_cell"] yO:=by
 refine F.ok ox (λvs H Q E h=>?_) (λd0 A outer s H vs Q E hr h=>?_)
 .obtain⟨c,rfl,_⟩:=h;rfl
 obtain⟨c,rfl,q⟩:=h;refine⟨_,@ak _ _ _ _ _ (@aB _ _ 1 _ _ _ _ ox.nd rfl (ba rfl) (@bJ _ _ _ _ _ _ _ cO (@bR _ _ _ _ (@ab _ _ _ _ _ (@bR _ _ _ _ (@ab _ _ _ _ _ (@bx _ _ _ _) (@ab _ _ _ _ _ (@bx _ _ _ _) (@ab _ _ _ _ _ (@bx _ _ _ _) (@ab _ _ _ _ _ (@bx _ _ _ _) (@ab _ _ _ _ _ (@bx _ _ _ _) (@aj _) rfl) rfl) rfl) rfl) rfl)) (@ab _ _ _ _ _ (@bR _ _ _ _ (@ab _ _ _ _ _ (@bx _ _ _ _) (@ab _ _ _ _ _ (@bx _ _ _ _) (@ab _ _ _ _ _ (@bx _ _ _ _) (@ab _ _ _ _ _ (@bx _ _ _ _) (@ab _ _ _ _ _ (@bx _ _ _ _) (@aj _) rfl) rfl) rfl) rfl) rfl)) (@ab _ _ _ _ _ (@bR _ _ _ _ (@ab _ _ _ _ _ (@bx _ _ _ _) (@ab _ _ _ _ _ (@bx _ _ _ _) (@ab _ _ _ _ _ (@bx _ _ _ _) (@ab _ _ _ _ _ (@bx _ _ _ _) (@ab _ _ _ _ _ (@bx _ _ _ _) (@aj _) rfl) rfl) rfl) rfl) rfl)) (@aj _) rfl) rfl) rfl)) (aM cK (aM cV (pv 0) ar) ar) (λ_ _=>rfl)) rfl (.inr rfl))
  (ak (aB (i:=2) ox.nd rfl (ba rfl) (aM dH ar (aM cK (pv 0) ar)))
  (ak (fZ (b8 (br i8 (aM cK (aM cV (pv 0) ar) ar) ar (cw _)) (ao (aB (i:=2) ox.nd rfl (ba rfl) ar)) aY))
  (ao (bu (aT ["_law_name"] [(0,"_law_cell")] rfl (aS (iB yU (pv 1) jM (jL (pv 2)))) (aV rfl rfl) nofun rfl nofun
   (λ_ _ _ _ _=>aq (i:=0) (show (["_law_name","_law_cell"]:List Str).Nodup by decide +kernel) rfl (ba rfl)) (λ_ _ _ _ _=>bw)
   (λ_ _ _ _ _=>aM eh (pv 0) (aM ET bx (aM cK (aM cV (pv 1) ar) ar)))))))),?_⟩
 obtain⟨hi,ei⟩:=Gn c;obtain⟨hj,ej⟩:=LU c;refine⟨OM,λL1 h1=>⟨OM,λL2 h2=>⟨OM,λL3 h3=>⟨FK,λLL MJ=>?_⟩⟩⟩⟩;obtain⟨s1,p1⟩:=LD h1 h2 h3 MJ;obtain⟨Li,a1,f1,e1⟩:=p1 (i3 c) hi;rw [E9] at e1;refine⟨_,rfl,_,_,rfl,rfl,⟨nofun,nofun⟩,_,_,rfl,rfl,(by show (0:Int) < 3;decide),?_⟩;refine⟨LL,_,(i3 c:Int),.ref Li,rfl,congrArg V.int ei,aH.of ae,a1,?_⟩;generalize upd (upd (upd (upd H L1 _) L2 _) L3 _) LL _=H1 at s1 e1;refine⟨_,rfl,_,_,rfl,rfl,(by show (0:Int) < 3;decide),_,_,rfl,rfl,?_⟩;refine⟨λσ H2=>∃m:Nat,1<=m/\m<=5/\σ=[some (.int c),aI Li,some (.int (m:Int))]/\H1=H2,?_,?_⟩
 .obtain⟨m,J2,J1,em⟩:∃m:Nat,1<=m/\m<=5/\1+c % 3=(m:Int):=⟨(1+c % 3).toNat,∅,∅,∅⟩;refine⟨_,rfl,_,_,rfl,rfl,⟨nofun,nofun⟩,_,_,rfl,rfl,(by show (0:Int) < 8;decide),rfl,_,rfl,?_⟩;refine cu (λ_=>?_) (λ_=>?_)
  .exact⟨5,nofun,nofun,rfl,rfl⟩
  exact⟨m,J2,J1,by show [some (V.int c),some (V.ref Li),some (V.int (1+c % 3))]=_;rw [em],rfl⟩
 rintro σ H1' ⟨m,J2,J1,rfl,rfl⟩;refine⟨_,rfl,_,rfl,_,rfl,Li,_,rfl,aH.of e1,λM hM=>?_⟩;have cut:iK ((zf (i3 c)).map V.str) none (some (m:Int))=((zf (i3 c)).take m).map V.str:=by
  unfold iK;rw [show HT.eY ((zf (i3 c)).map V.str).length 0 none=0 from rfl,HT.tX,List.drop_zero,Nat.sub_zero,List.map_take,<-List.take_eq_take_min]
 rw [cut];have XG:((zf (i3 c)).take m).length=m:=by rw [d7,Ik];omega
 have N8:∀z∈(zf (i3 c)).take m,z.length<=3:=λz hz=>CC (i3 c) z (uW hz);have J0:(((zf (i3 c)).take m).map λz=>z++uc "y" (j3 c)).Nodup/\∀x∈((zf (i3 c)).take m).map λz=>z++uc "y" (j3 c),x∉gM c:=by
  have e:(((zf (i3 c)).take m).map λz=>z++uc "y" (j3 c))=(N1 (i3 c) (j3 c)).take m:=by unfold N1;rw [List.map_take]
  rw [e];exact⟨(CD hi hj).1.sublist (List.take_sublist _ _),λx hx=>(CD hi hj).2 x (uW hx)⟩
 generalize (zf (i3 c)).take m=zs at XG N8 J0;have s2:=s1.trans (af hM (.lst (zs.map V.str)));have eM:upd H1 M (.lst (zs.map V.str)) M=some (.lst (zs.map V.str)):=ae;generalize upd H1 M (.lst (zs.map V.str))=H2 at s2 eM;refine⟨M,rfl,⟨_,aH.of eM⟩,λD hD=>cg (xs:=zs.map V.str) (λk ys σ2 H3=>ys=((zs.map λz=>z++uc "y" (j3 c)).take k).map V.str/\(∃y0,σ2=[y0,some (.int c)])/\aC H2 H3/\H3 D=some (.lst ys))
    ⟨rfl,⟨none,rfl⟩,af hD _,ae⟩ (λk ys σ2 H3 _ h=>?_) (λk x ys σ2 H3 ex h=>?_) (λys σ2 H3 h=>?_)⟩
 .obtain⟨_,_,sm,_⟩:=h;exact aH.of (sm _ _ eM)
 .obtain⟨rfl,⟨y0,rfl⟩,sm,eD⟩:=h;have lk:=(bc.mp ex).1;rw [av] at lk;rw [bo] at ex;obtain⟨z,ez,rfl⟩:=b9.mp ex;have hz:=N8 z (cy ez);have hy:=zX hj;refine goN (uV ?_);refine⟨_,rfl,_,rfl,_,_,rfl,rfl,⟨nofun,nofun⟩,_,_,rfl,rfl,(by show (0:Int) < 3;decide),?_⟩;have ly:("y":Str).length=1:=by decide +kernel
  refine⟨"y",j3 c,rfl,congrArg V.int ej,∅,ly,_,_,rfl,rfl,fits ∅,?_⟩;refine⟨eD,bf (by rw [av,d7];omega),?_,⟨_,rfl⟩,λb o hb=>?_,ae⟩
  .have:(zs.map λz=>z++uc "y" (j3 c))[k]?=some (z++uc "y" (j3 c)):=by rw [bo,ez];rfl
   rw [cI,this,bC];rfl
  rw [ai (λz=>by rw [z,hD] at hb;cases hb)];exact sm b o hb
 obtain⟨rfl,_,sm,eD⟩:=h;rw [uY (by rw [av,av];exact aG _)] at eD;exact q D _ _ (s2.free hD) (s2.trans sm) eD ⟨J0.1,J0.2,by rw [av];omega,by rw [av];omega⟩
def vb:Sp:=λvs H Q _=>∃(c:Int),vs=[.int c]/\∀(N:Addr)(H':Hp),H N=none->aC H H'->H' N=some (.lst ((gM c).map V.str))->Q (.ref N) H'
def BI:aN ["_law_cell"] ["_law_cell"] (az tT):=iY rfl rfl rfl rfl nofun
def z7 (F:ik K "_law_words" "_law_words" tT f fd)(T:Txt mg):bN P w K mg base fS 1 f fd ["_law_cell"] vb:=by
 refine F.ok BI (λvs H Q E h=>?_) (λd0 A outer s H vs Q E hr h=>?_)
 .obtain⟨c,rfl,_⟩:=h;rfl
 obtain⟨c,rfl,q⟩:=h;refine⟨_,ao (bu (@bJ _ _ _ _ _ _ _ cO (@bR _ _ _ _ (@ab _ _ _ _ _ (@bR _ _ _ _ (@ab _ _ _ _ _ (@bx _ _ _ _) (@ab _ _ _ _ _ (@bx _ _ _ _) (@ab _ _ _ _ _ (@bx _ _ _ _) (@aj _) rfl) rfl) rfl)) (@ab _ _ _ _ _ (@bR _ _ _ _ (@ab _ _ _ _ _ (@bx _ _ _ _) (@ab _ _ _ _ _ (@bx _ _ _ _) (@ab _ _ _ _ _ (@bx _ _ _ _) (@aj _) rfl) rfl) rfl)) (@ab _ _ _ _ _ (@bR _ _ _ _ (@ab _ _ _ _ _ (@bx _ _ _ _) (@ab _ _ _ _ _ (@bx _ _ _ _) (@ab _ _ _ _ _ (@bx _ _ _ _) (@aj _) rfl) rfl) rfl)) (@aj _) rfl) rfl) rfl)) (aM cK (aM cV (pv 0) ar) ar) (λ_ _=>rfl))),?_⟩;obtain⟨hi,ei⟩:=Gn c;refine⟨FK,λL1 h1=>⟨FK,λL2 h2=>⟨FK,λL3 h3=>⟨FK,λLL MJ=>?_⟩⟩⟩⟩;obtain⟨s1,p1⟩:=LD h1 h2 h3 MJ;obtain⟨Li,a1,f1,e1⟩:=p1 (i3 c) hi;rw [Ew] at e1;refine⟨_,rfl,_,_,rfl,rfl,⟨nofun,nofun⟩,_,_,rfl,rfl,(by show (0:Int) < 3;decide),?_⟩;refine⟨LL,_,(i3 c:Int),.ref Li,rfl,congrArg V.int ei,aH.of ae,a1,?_⟩;exact q Li _ f1 s1 e1
def Bw (K:a8):Sp:=λvs H Q _=>∃(S N W:Addr)(ns:List Int) (at_ m:Nat) (nms ws:List Str),vs=[.ref S,.int (at_:Int),.ref N,.int (m:Int),.ref W]/\aH K H S (ns.map V.int)/\ns.length<=1000/\H N=some (.lst (nms.map V.str))/\H W=some (.lst (ws.map V.str))/\0 < nms.length/\nms.length<=5/\ws.length<=10/\m<=10 /\
 ∀(R:Addr)(rs:List Addr)(aa:List au)(H':Hp),H R=none->aC H H'->H' R=some (.lst (rs.map V.ref))->bE K H' rs aa->aa.length=m->(∀ru∈aa,ru.1∈nms/\ru.2.length<=6/\∀x∈ru.2,x∈nms++ws)->Q (.ref R) H'
def ke:aN ["_law_script","_law_at","_law_names_here","_law_many","_law_words_here","_law_rules","_law_some","_law_k","_law_cell","_law_size"] ["_law_script","_law_at","_law_names_here","_law_many","_law_words_here"] (az BN):=iY rfl rfl rfl rfl nofun
def EY (F:ik K "_law_more" "_law_more" BN f fd)(T:Txt mg)(GC:aF P w K mg base 1 "_law_cell_at" ["_law_script","_law_k"] (mV K))(GD:aF P w K mg base 1 "_law_digits" ["_law_cell","_law_many","_law_some"] pj):bN P w K mg base fS 2 f fd ["_law_script","_law_at","_law_names_here","_law_many","_law_words_here"] (Bw K):=by
 refine F.ok ke (λvs H Q E h=>?_) (λd0 A outer s H vs Q E hr h=>?_)
 .obtain⟨S,N,W,ns,at_,m,nms,ws,rfl,_⟩:=h;rfl
 obtain⟨S,N,W,ns,at_,m,nms,ws,rfl,hS,hn,hN,hW,N_,YF,Yi,hm,q⟩:=h;refine⟨_,ak (aB (i:=5) ke.nd rfl (ba rfl) (bR aj))
  (ak (aB (i:=6) ke.nd rfl (ba rfl) (aM pH (pv 2) (pv 4)))
  (ak (bL b_ rfl (iA rfl T.DT (ab (pv 3) aj)) (aq (i:=7) ke.nd rfl (ba rfl))
   (ak (aB (i:=8) ke.nd rfl (ba rfl) (bp GC hr rfl (ab (pv 0) (ab (aM dH (pv 1) (pv 7)) aj))))
   (ak (aB (i:=9) ke.nd rfl (ba rfl) (aM cK (aM cV (pv 8) ar) ar))
   (ak (fZ (b8 (PW.pt (kn (br i8 (pv 7) ar (cw _)) (iR (br i8 (aM cK (aM cV (pv 8) ar) ar) ar (cw _))))) (ao (aB (i:=9) ke.nd rfl (ba rfl) (aM dH ar (aM cK (aM cV (pv 8) ar) ar)))) aY))
   (ao (bT (fh e_ fc ff bh (pv 5) (ab (bD (ab (bJ cO (pv 2) (aM cK (aM cK (pv 8) ar) (aL bz rfl T.len gb (ab (pv 2) aj))) (λ_ _=>rfl))
    (ab (bp GD hr rfl (ab (aM cV (pv 8) ar) (ab (pv 9) (ab (pv 6) aj)))) aj))) aj))))))))
  (ao (bu (pv 5))))),?_⟩
 refine⟨tE,λL hL=>?_⟩;have s1:=af hL (.lst []);have e1:upd H L (.lst []) L=some (.lst []):=ae;generalize upd H L (.lst [])=H1 at s1 e1;refine⟨_,rfl,_,rfl,N,W,_,_,rfl,rfl,s1 _ _ hN,s1 _ _ hW,fits (by rw [av,av];omega),λM hM=>?_⟩;rw [<-bC];have k2:=af hM (.lst ((nms++ws).map V.str));have s2:=s1.trans k2;have e2:=k2 _ _ e1;have m2:upd H1 M (.lst ((nms++ws).map V.str)) M=some (.lst ((nms++ws).map V.str)):=ae;have nM:M≠L:=λz=>by rw [z,e1] at hM;cases hM
 generalize upd H1 M (.lst ((nms++ws).map V.str))=H2 at k2 s2 e2 m2;refine⟨_,rfl,(m:Int),rfl,∅,∅,?_⟩;rw [jY m];refine iI (n:=m) (λi σ H3=>∃(rs:List Addr)(aa:List au)(y7 y8 y9:Option V),σ=[aI S,some (.int (at_:Int)),aI N,some (.int (m:Int)),aI W,aI L,aI M,y7,y8,y9]/\aC H H3/\H3 L=some (.lst (rs.map V.ref))/\H3 M=some (.lst ((nms++ws).map V.str))/\bE K H3 rs aa/\aa.length=i/\∀ru∈aa,ru.1∈nms/\ru.2.length<=6/\∀x∈ru.2,x∈nms++ws) ⟨[],[],none,none,none,rfl,s2,e2,m2,.nil,rfl,λ_ h=>by cases h⟩ ?_ ?_
 .rintro i σ H3 hi ⟨rs,aa,y7,y8,y9,rfl,s3,eL,eM,rl,hl,hf⟩;have lr:=bB rl;refine goN ?_;refine⟨_,rfl,_,rfl,_,rfl,_,_,rfl,rfl,?_⟩;refine⟨S,ns,at_+i,(by show [V.ref S,V.int ((at_:Int)+(0+(i:Int)))]=_;congr 3;push_cast;omega),s3.seq hS,hn,λc _=>?_⟩;have Uu:(0:Int) < (nms.length:Int):=by omega
  obtain⟨z,L0,ez⟩:=Sg (zs:=nms) rfl Uu (c % 5);refine⟨_,rfl,_,_,rfl,rfl,⟨nofun,nofun⟩,_,_,rfl,rfl,(by show (0:Int) < 4;decide),?_⟩;refine⟨λσ H4=>∃d:Nat,d<=6/\H3=H4/\σ=[aI S,some (.int (at_:Int)),aI N,some (.int (m:Int)),aI W,aI L,aI M,some (.int (0+(i:Int))),some (.int c),some (.int (d:Int))],?_,?_⟩
  .obtain⟨d,hd,zp⟩:∃d:Nat,c / 5 % 4=(d:Int)/\d<=6:=⟨(c / 5 % 4).toNat,∅,∅⟩;have no:∃d:Nat,d<=6/\H3=H3/\[some (V.ref S),some (.int (at_:Int)),aI N,some (.int (m:Int)),aI W,aI L,aI M,some (.int (0+(i:Int))),some (.int c),some (.int (c / 5 % 4))]=[some (V.ref S),some (.int (at_:Int)),aI N,some (.int (m:Int)),aI W,aI L,aI M,some (.int (0+(i:Int))),some (.int c),some (.int (d:Int))]:=⟨d,zp,rfl,by rw [hd]⟩;refine⟨_,rfl,rfl,_,rfl,?_⟩;refine cu (λ_=>?_) (λ_=>no);refine⟨_,rfl,_,_,rfl,rfl,⟨nofun,nofun⟩,_,_,rfl,rfl,(by show (0:Int) < 8;decide),rfl,_,rfl,?_⟩;refine cu (λ_=>?_) (λ_=>no);obtain⟨e,he,YZ⟩:∃e:Nat,4+c / 160 % 3=(e:Int)/\e<=6:=⟨(4+c / 160 % 3).toNat,∅,∅⟩;refine⟨_,rfl,_,_,rfl,rfl,⟨nofun,nofun⟩,_,_,rfl,rfl,(by show (0:Int) < 3;decide),_,_,rfl,rfl,?_⟩;exact⟨e,YZ,rfl,by rw [<-he];rfl⟩
  rintro σ H3' ⟨d,hd6,rfl,rfl⟩;refine⟨_,rfl,.inl ⟨rfl,_,aH.of eL⟩,_,rfl,_,rfl,_,_,rfl,rfl,(by show (0:Int) < 5;decide),_,rfl,N,_,rfl,.inl (aH.of (s3 _ _ hN)),_,_,rfl,rfl,(by rw [av];exact Uu),?_⟩;rw [av];refine⟨N,_,_,_,rfl,rfl,aH.of (s3 _ _ hN),ez,?_⟩;refine⟨_,rfl,_,_,rfl,rfl,⟨nofun,nofun⟩,_,rfl,_,rfl,?_⟩;refine⟨_,d,M,nms++ws,rfl,∅,eM,by rw [bO];omega,by rw [bO];omega,λp ps H4 s4 e4 l4 CU=>⟨kW,λR hR=>?_⟩⟩;have k5:=s4.trans (af hR (.tup [.str z,.ref p]));have v1:aZ K (upd H4 R (.tup [.str z,.ref p])) R [.str z,.ref p]:=aZ.of ae;have v2:aZ K (upd H4 R (.tup [.str z,.ref p])) p (ps.map V.str):=(af hR _).tup (aZ.of e4);generalize upd H4 R (.tup [.str z,.ref p])=H5 at k5 v1 v2;have AE:=k5 _ _ eL;refine⟨L,_,_,rfl,rfl,AE,bf (by rw [av];omega),?_⟩;refine⟨rs++[R],aa++[(z,ps)],_,_,_,rfl,λb o hb=>?_,by rw [ae,bC];rfl,by rw [ai nM];exact k5 _ _ eM,f_ (rl.keep λb xs z=>aX AE (k5.tup z)) ⟨p,aX AE v1,aX AE v2⟩,by rw [bO,hl];rfl,λru gA=>?_⟩
  .rw [ai (λz=>by rw [z,hL] at hb;cases hb)];exact k5 _ _ (s3 b o hb)
  rcases cD.mp gA with h | h
  .exact hf ru h
  rw [cT.mp h];exact⟨L0,by show ps.length<=6;omega,CU⟩
 rintro σ H3 ⟨rs,aa,y7,y8,y9,rfl,s3,eL,eM,rl,hl,hf⟩;exact⟨_,rfl,q L rs aa H3 hL s3 eL rl hl hf⟩
def uQ (ns ws:List Str) (a:Nat) (cA:List Str):Prop :=
 (∃n' wx,ns[a+1]?=some n'/\wx≠[]/\(∀x∈wx,x∈ws)/\wx.length<=2/\(cA=wx++[n']\/cA=n'::wx))\/(ns.length<=a+1/\(∀x∈cA,x∈ws)/\cA.length<=2)
def Dq (l:List Str)(n:Str):iK ((l++[n]).map V.str) (some (-1)) none=[V.str n]:=by
 unfold iK;have h1:HT.eY ((l++[n]).map V.str).length 0 (some (-1))=l.length:=by
  rw [av,bO,gO];show (if (-1:Int) < 0 then ((-1:Int)+((l.length+1:Nat):Int)).toNat else min (-1:Int).toNat (l.length+1))=l.length;rw [ax nofun];omega
 rw [h1,HT.lW,<-List.map_drop,List.drop_append_of_le_length (aG _),List.drop_length,oH];rw [av,bO,gO,show l.length+1 - l.length=1 by omega];rfl
def Dr (l:List Str)(n:Str):iK ((l++[n]).map V.str) none (some (-1))=l.map V.str:=by
 unfold iK;have h1:HT.eY ((l++[n]).map V.str).length ((l++[n]).map V.str).length (some (-1))=l.length:=by
  rw [av,bO,gO];show (if (-1:Int) < 0 then ((-1:Int)+((l.length+1:Nat):Int)).toNat else min (-1:Int).toNat (l.length+1))=l.length;rw [ax nofun];omega
 rw [h1,HT.lW,List.drop_zero,Nat.sub_zero,<-List.map_take,lF (aG _),cC]
def Bu (K:a8):Sp:=λvs H Q _=>∃(S N W:Addr)(ns:List Int) (at_:Nat) (nms ws:List Str),vs=[.ref S,.int (at_:Int),.ref N,.ref W]/\aH K H S (ns.map V.int)/\ns.length<=1000/\H N=some (.lst (nms.map V.str))/\H W=some (.lst (ws.map V.str))/\0 < nms.length/\nms.length<=5/\0 < ws.length/\ws.length<=10 /\
 ∀(R:Addr)(rs:List Addr)(aa:List au)(H':Hp),H R=none->aC H H'->H' R=some (.lst (rs.map V.ref))->bE K H' rs aa->aa.length=nms.length->(∀(j:Nat)(ru:au),aa[j]?=some ru->nms[j]?=some ru.1/\uQ nms ws j ru.2)->Q (.ref R) H'
def kc:aN ["_law_script","_law_at","_law_names_here","_law_words_here","_law_rules","_law_k","_law_cell","_law_parts"] ["_law_script","_law_at","_law_names_here","_law_words_here"] (az BK):=iY rfl rfl rfl rfl nofun
def EW (F:ik K "_law_skeleton" "_law_skeleton" BK f fd)(T:Txt mg)(GC:aF P w K mg base 1 "_law_cell_at" ["_law_script","_law_k"] (mV K))(GD:aF P w K mg base 1 "_law_digits" ["_law_cell","_law_many","_law_some"] pj):bN P w K mg base fS 2 f fd ["_law_script","_law_at","_law_names_here","_law_words_here"] (Bu K):=by
 refine F.ok kc (λvs H Q E h=>?_) (λd0 A outer s H vs Q E hr h=>?_)
 .obtain⟨S,N,W,ns,at_,nms,ws,rfl,_⟩:=h;rfl
 obtain⟨S,N,W,ns,at_,nms,ws,rfl,hS,hn,hN,hW,N_,YF,Ui,Yi,q⟩:=h;refine⟨_,ak (aB (i:=4) kc.nd rfl (ba rfl) (bR aj))
  (ak (bL b_ rfl (iA rfl T.DT (ab (aL bz rfl T.len gb (ab (pv 2) aj)) aj)) (aq (i:=5) kc.nd rfl (ba rfl))
   (ak (aB (i:=6) kc.nd rfl (ba rfl) (bp GC hr rfl (ab (pv 0) (ab (aM dH (pv 1) (pv 5)) aj))))
   (ak (aB (i:=7) kc.nd rfl (ba rfl) (bp GD hr rfl (ab (aM cV (pv 6) ar) (ab (aM cK (pv 6) ar) (ab (pv 3) aj)))))
   (ak (fZ (b8 (br nQ (aM dH (pv 5) ar) (aL bz rfl T.len gb (ab (pv 2) aj)) (cw _))
    (ak (aB (i:=7) kc.nd rfl (ba rfl) (aM ug (bp GD hr rfl (ab (aM cV (pv 6) ar) (ab (aM dH ar (aM cK (pv 6) ar)) (ab (pv 3) aj)))) (bD (ab (bJ cO (pv 2) (aM dH (pv 5) ar) (λ_ _=>rfl)) aj))))
    (ao (b8 (br i8 (aM cK (aM cV (pv 6) ar) ar) ar (cw _))
     (ao (aB (i:=7) kc.nd rfl (ba rfl) (aM ug (iB ow (pv 7) (jL (y_ tH ar)) jM) (iB ow (pv 7) jM (jL (y_ tH ar)))))) aY))) aY))
   (ao (bT (fh e_ fc ff bh (pv 4) (ab (bD (ab (bJ cO (pv 2) (pv 5) (λ_ _=>rfl)) (ab (pv 7) aj))) aj))))))))
  (ao (bu (pv 4)))),?_⟩
 nofun
 refine⟨tE,λL hL=>?_⟩;have s1:=af hL (.lst []);have e1:upd H L (.lst []) L=some (.lst []):=ae;generalize upd H L (.lst [])=H1 at s1 e1;refine⟨_,rfl,N,_,rfl,.inl (aH.of (s1 _ _ hN)),((nms.map V.str).length:Int),rfl,by rw [av];omega,by rw [av];omega,?_⟩;rw [av,jY];refine iI (n:=nms.length) (λi σ H3=>∃(rs:List Addr)(aa:List au)(y5 y6 y7:Option V),σ=[aI S,some (.int (at_:Int)),aI N,aI W,aI L,y5,y6,y7]/\aC H H3/\H3 L=some (.lst (rs.map V.ref))/\bE K H3 rs aa/\aa.length=i/\∀(j:Nat)(ru:au),aa[j]?=some ru->nms[j]?=some ru.1/\uQ nms ws j ru.2) ⟨[],[],none,none,none,rfl,s1,e1,.nil,rfl,λj ru e=>by cases e⟩ ?_ ?_
 .intro i σ H3 hi qI
  ac_nf0
  obtain⟨rs,aa,y5,y6,y7,rfl,s3,eL,rl,hl,hf⟩:=qI;have lr:=bB rl;obtain⟨nm,J0⟩:∃nm,nms[i]?=some nm:=⟨nms[i],c_ hi⟩;have atn:qL (nms.map V.str) (0+(i:Int))=some (.str nm):=by
   rw [mF];exact dN (by rw [bo,J0];rfl)
  refine goN ?_
  ac_rfl
  refine⟨_,rfl,_,rfl,_,rfl,_,_,rfl,rfl,?_⟩;refine⟨S,ns,at_+i,(by show [V.ref S,V.int ((at_:Int)+(0+(i:Int)))]=_;congr 3;push_cast;omega),s3.seq hS,hn,λc _=>?_⟩;obtain⟨d,hd⟩:∃d:Nat,c % 3=(d:Int):=⟨(c % 3).toNat,∅⟩;refine⟨_,rfl,_,_,rfl,rfl,⟨nofun,nofun⟩,_,rfl,_,_,rfl,rfl,(by show (0:Int) < 3;decide),_,rfl,?_⟩;refine⟨_,d,W,ws,(by show [_,V.int (c % 3),_]=_;rw [hd]),∅,s3 _ _ hW,Ui,∅,λp ps H4 s4 e4 l4 CU=>?_⟩;have vj:=s3.trans s4;have Kk:=s4 _ _ eL;have NX:=rl.same s4;refine⟨λσ H5=>∃(p5:Addr) (cA:List Str),σ=[aI S,some (.int (at_:Int)),aI N,aI W,aI L,some (.int (0+(i:Int))),some (.int c),aI p5]/\aC H4 H5/\aZ K H5 p5 (cA.map V.str)/\uQ nms ws i cA,?_,?_⟩
  .refine⟨_,rfl,_,_,rfl,rfl,_,rfl,N,_,rfl,.inl (aH.of (vj _ _ hN)),_,_,rfl,rfl,_,rfl,?_⟩;refine cu (λcc=>?_) (λcc=>?_)
   .have lt:=dA cc;rw [av] at lt;have lt':i+1 < nms.length:=by omega
    obtain⟨n',C0⟩:∃n',nms[i+1]?=some n':=⟨nms[i+1],c_ lt'⟩;have Sf:qL (nms.map V.str) (0+(i:Int)+1)=some (.str n'):=by
     rw [mF,show (i:Int)+1=((i+1:Nat):Int) by push_cast;rfl];exact dN (by rw [bo,C0];rfl)
    obtain⟨d2,hd2⟩:∃d2:Nat,1+c % 2=(d2:Int):=⟨(1+c % 2).toNat,∅⟩;refine⟨_,rfl,_,_,rfl,rfl,⟨nofun,nofun⟩,_,rfl,_,_,rfl,rfl,(by show (0:Int) < 2;decide),_,_,rfl,rfl,_,rfl,?_⟩;refine⟨_,d2,W,ws,(by show [_,V.int (1+c % 2),_]=_;rw [hd2]),∅,vj _ _ hW,Ui,∅,λp6 wx H6 s6 e6 l6 Ud=>?_⟩;have F2:=vj.trans s6;refine⟨_,rfl,_,rfl,_,_,rfl,rfl,N,_,_,_,rfl,rfl,aH.of (F2 _ _ hN),Sf,G9,λu hu=>?_⟩;have k7:=af hu (.tup [V.str n']);refine⟨p6,u,_,_,rfl,rfl,k7.tup (aZ.of e6),aZ.of ae,(by rw [av];show wx.length+1<=sizeLine;exact fits ∅),λp8 H8 s8 e8=>?_⟩;have RM:aZ K H8 p8 ((wx++[n']).map V.str):=by rw [bC];exact e8
    have JN:=s6.trans (k7.trans s8);have NJ:wx≠[]:=λz=>by rw [z] at l6;simp at l6;omega
    refine⟨_,rfl,_,_,rfl,rfl,⟨nofun,nofun⟩,_,_,rfl,rfl,(by show (0:Int) < 2;decide),rfl,_,rfl,?_⟩;refine cu (λc2=>?_) (λc2=>?_)
    .refine⟨_,rfl,_,rfl,_,rfl,p8,_,rfl,RM,λp9 H9 s9 e9=>?_⟩;rw [Dq] at e9;refine⟨_,rfl,_,rfl,_,rfl,p8,_,rfl,s9.tup RM,λpA HA sA eA=>?_⟩;rw [Dr] at eA;refine⟨p9,pA,_,_,rfl,rfl,sA.tup e9,eA,(by rw [av];show 1+wx.length<=sizeLine;exact fits ∅),λpB HB sB eB=>?_⟩;exact⟨pB,n'::wx,rfl,JN.trans (s9.trans (sA.trans sB)),eB,.inl ⟨n',wx,C0,NJ,Ud,∅,.inr rfl⟩⟩
    exact⟨p8,wx++[n'],rfl,JN,RM,.inl ⟨n',wx,C0,NJ,Ud,∅,.inl rfl⟩⟩
   have ge:¬(0+(i:Int)+1 < ((nms.map V.str).length:Int)):=λz=>cc (eU z);rw [av] at ge;exact⟨p,ps,rfl,aC.refl _,aZ.of e4,.inr ⟨∅,CU,∅⟩⟩
  rintro σ H5 ⟨p5,cA,rfl,s5,e5,sk⟩;have yW:=vj.trans s5;have AE:=s5 _ _ Kk;refine⟨_,rfl,.inl ⟨rfl,_,aH.of AE⟩,_,rfl,_,rfl,N,_,_,_,rfl,rfl,aH.of (yW _ _ hN),atn,_,rfl,kW,λR hR=>?_⟩;have k6:=af hR (.tup [.str nm,.ref p5]);have v1:aZ K (upd H5 R (.tup [.str nm,.ref p5])) R [.str nm,.ref p5]:=aZ.of ae;have v2:=k6.tup e5;generalize upd H5 R (.tup [.str nm,.ref p5])=H6 at k6 v1 v2;have Ow:=k6 _ _ AE;refine⟨L,_,_,rfl,rfl,Ow,bf (by rw [av];omega),?_⟩;refine⟨rs++[R],aa++[(nm,cA)],_,_,_,rfl,λb o hb=>?_,by rw [ae,bC];rfl,f_ ((NX.same (s5.trans k6)).keep λb xs z=>aX Ow z) ⟨p5,aX Ow v1,aX Ow v2⟩,by rw [bO,hl];rfl,λj ru e=>?_⟩
  .rw [ai (λz=>by rw [z,hL] at hb;cases hb)];exact k6 _ _ (yW b o hb)
  by_cases cj:j < aa.length
  .rw [lD cj] at e;exact hf j ru e
  have lj:=(bc.mp e).1;rw [bO,gO] at lj;have ej:j=aa.length:=by omega
  subst ej;rw [jZ (aG _),mH] at e;cases e;rw [hl];exact⟨J0,sk⟩
 rintro σ H3 ⟨rs,aa,y5,y6,y7,rfl,s3,eL,rl,hl,hf⟩;exact⟨_,rfl,q L rs aa H3 hL s3 eL rl hl hf⟩
end
end gT
namespace L2
open PySem
def ie {X:Cx}(K:a8)(hK:X.K=K:=by rfl):jS X (compareOp .NotIn) (NZ K true):=by
 subst hK;exact iS
def dI (h:Str) (zs:List Str):IF (.str h) (zs.map V.str)=decide (h∈zs):=by
 have:IF (.str h) (zs.map V.str)=true↔h∈zs:=by
  unfold IF;rw [List.any_eq_true];constructor
  .rintro⟨x,h1,h2⟩;obtain⟨z,hz,rfl⟩:=cH.mp h1;have:z=h:=by simpa [Df] using h2
   rw [<-this];exact hz
  intro hm;exact⟨.str h,cH.mpr ⟨h,hm,rfl⟩,by simp [Df]⟩
 by_cases c:h∈zs
 .rw [eU c];exact this.mpr c
 rw [hU c];cases e:IF (.str h) (zs.map V.str) with
 | false=>rfl
 | true=>exact absurd (this.mp e) c
def bU (zs:List Str):(zs.map V.str).all jE=true:=by
 rw [d5];intro x hx;obtain⟨z,_,rfl⟩:=cH.mp hx;rfl
section
variable {K:a8}{H:Hp}{p D:Addr}{zs:List Str}{σ:St}{x:Str}{js:List (Nat×Str)}{te:TE}{Qp:Hp->Prop}
def gJ (rest:St)(pr:Str->Bool)(hc:df [x] js σ=none::rest)(hp:aZ K H p (zs.map V.str))(hz:zs.length<=1000)(hD:H D=none)
  (Mb:∀z∈zs,∀(H':Hp)(Qy:VK),aC H H'->Qy (.bl (pr z)) H'->te (some (.str z)::rest) H' Qy)
  (q:∀H2,aC H H2->H2 D=some (.lst ((zs.map pr).map V.bl))->Qp H2) :
  ∃W:Nat->Nat->List V->St->Hp->Prop,(∃m,W 0 m [] (df [x] js σ) (upd H D (.lst []))) /\
 ∀i m ys σ' H,W i m ys σ' H->((mz K p).stop i H/\Qp H)\/((mz K p).go i H/\∃m',m' < m/\∀x H',(mz K p).ka i H x H'->cU 0 x σ' H' λσ2 H2=>gh σ2 H2 λb H3 =>
  if b=true then te σ2 H3 λy H4=>H4 D=some (.lst ys)/\ys.length < sizeLine/\W (i+1) m' (ys++[y]) σ2 (upd H4 D (.lst (ys++[y]))) else W (i+1) m' ys σ2 H3):=by
 refine fM (xs:=zs.map V.str) (λi ys σ2 H2=>ys=((zs.take i).map pr).map V.bl/\(∃y0,σ2=y0::rest)/\aC H H2/\H2 D=some (.lst ys))
  ⟨rfl,⟨none,hc⟩,af hD _,ae⟩ (λi ys σ2 H2 _ h=>?_) (λi v ys σ2 H2 ex h=>?_) (λys σ2 H2 h=>?_)
 .obtain⟨_,_,sm,_⟩:=h;exact sm.tup hp
 .obtain⟨rfl,⟨y0,rfl⟩,sm,hd⟩:=h;rw [bo] at ex;obtain⟨z,ez,rfl⟩:=b9.mp ex;have li:=(bc.mp ez).1;refine goN (uV (Mb z (cy ez) _ _ sm ⟨hd,bf (by rw [av,av,d7];omega),?_,⟨_,rfl⟩,λb o hb=>?_,ae⟩))
  .rw [cI,ez,bC,bC];rfl
  rw [ai (λz=>by rw [z,hD] at hb;cases hb)];exact sm b o hb
 obtain⟨rfl,_,sm,hd⟩:=h;rw [av,cC] at hd;exact q H2 sm hd
def nY (rest:St)(pr:Str->Bool)(hc:df [x] js σ=none::rest)(hp:aH K H p (zs.map V.str))(hz:zs.length<=1000)(hD:H D=none)
  (Mb:∀z∈zs,∀(H':Hp)(Qy:VK),aC H H'->Qy (.bl (pr z)) H'->te (some (.str z)::rest) H' Qy)
  (q:∀H2,aC H H2->H2 D=some (.lst ((zs.map pr).map V.bl))->Qp H2) :
  ∃W:Nat->Nat->List V->St->Hp->Prop,(∃m,W 0 m [] (df [x] js σ) (upd H D (.lst []))) /\
 ∀i m ys σ' H,W i m ys σ' H->((iL K p).stop i H/\Qp H)\/((iL K p).go i H/\∃m',m' < m/\∀x H',(iL K p).ka i H x H'->cU 0 x σ' H' λσ2 H2=>gh σ2 H2 λb H3 =>
  if b=true then te σ2 H3 λy H4=>H4 D=some (.lst ys)/\ys.length < sizeLine/\W (i+1) m' (ys++[y]) σ2 (upd H4 D (.lst (ys++[y]))) else W (i+1) m' ys σ2 H3):=by
 refine cg (xs:=zs.map V.str) (λi ys σ2 H2=>ys=((zs.take i).map pr).map V.bl/\(∃y0,σ2=y0::rest)/\aC H H2/\H2 D=some (.lst ys))
  ⟨rfl,⟨none,hc⟩,af hD _,ae⟩ (λi ys σ2 H2 _ h=>?_) (λi v ys σ2 H2 ex h=>?_) (λys σ2 H2 h=>?_)
 .obtain⟨_,_,sm,_⟩:=h;exact sm.seq hp
 .obtain⟨rfl,⟨y0,rfl⟩,sm,hd⟩:=h;rw [bo] at ex;obtain⟨z,ez,rfl⟩:=b9.mp ex;have li:=(bc.mp ez).1;refine goN (uV (Mb z (cy ez) _ _ sm ⟨hd,bf (by rw [av,av,d7];omega),?_,⟨_,rfl⟩,λb o hb=>?_,ae⟩))
  .rw [cI,ez,bC,bC];rfl
  rw [ai (λz=>by rw [z,hD] at hb;cases hb)];exact sm b o hb
 obtain⟨rfl,_,sm,hd⟩:=h;rw [av,cC] at hd;exact q H2 sm hd
end
theorem all_map (zs:List Str)(pr:Str->Bool):(zs.map pr).all id=zs.all pr:=by
 rw [List.all_map];rfl
end L2
namespace gT
open PySem M11
abbrev hm (aa:List au):List Str:=aa.map (·.1)
structure Small (aa:List au):Prop where
 one:1<=aa.length
 most:aa.length<=32
 uD:∀ru∈aa,ru.2.length<=6
open PySem L2 M11
section
def kQ {H:Hp}{R D:Addr}{rs:List Addr}{aa:List au}{σ:St}{Qp:Hp->Prop}(hR:aH K H R (rs.map V.ref))(cS:bE K H rs aa)(bq:aa.length<=1000)(hD:H D=none)
  (q:∀H2,aC H H2->H2 D=some (.lst ((hm aa).map V.str))->Qp H2) :
  ∃W:Nat->Nat->List V->St->Hp->Prop,(∃m,W 0 m [] (df ["_law_head","_law_parts"] [] σ) (upd H D (.lst []))) /\
 ∀i m ys σ' H,W i m ys σ' H->((iL K R).stop i H/\Qp H)\/((iL K R).go i H/\∃m',m' < m/\∀x H',(iL K R).ka i H x H'->vP K 2 (g_ (cU 0) (g_ (cU 1) ya)) x σ' H' λσ2 H2=>gh σ2 H2 λb H3 =>
  if b=true then fO 0 σ2 H3 λy H4=>H4 D=some (.lst ys)/\ys.length < sizeLine/\W (i+1) m' (ys++[y]) σ2 (upd H4 D (.lst (ys++[y]))) else W (i+1) m' ys σ2 H3):=by
 have ll:=bB cS;refine cg (xs:=rs.map V.ref) (λi ys σ2 H2=>ys=((hm aa).take i).map V.str/\(∃y0 y1,σ2=[y0,y1])/\aC H H2/\H2 D=some (.lst ys))
  ⟨rfl,⟨none,none,rfl⟩,af hD _,ae⟩ (λi ys σ2 H2 _ h=>?_) (λi x ys σ2 H2 ex h=>?_) (λys σ2 H2 h=>?_)
 .obtain⟨_,_,sm,_⟩:=h;exact sm.seq hR
 .obtain⟨rfl,⟨y0,y1,rfl⟩,sm,Ar⟩:=h;rw [bo] at ex;obtain⟨r,er,rfl⟩:=b9.mp ex;obtain⟨ru,e1,p,v1,v2⟩:=cS.get er;have li:=(bc.mp e1).1;refine⟨r,_,rfl,sm.tup v1,rfl,_,_,rfl,_,_,rfl,rfl,?_⟩;refine uV ?_;refine⟨_,rfl,Ar,bf (by rw [av,d7];omega),?_,⟨_,_,rfl⟩,λb o hb=>?_,ae⟩
  .have:(hm aa)[i]?=some ru.1:=by unfold hm;rw [bo,e1];rfl
   rw [cI,this,bC];rfl
  rw [ai (λz=>by rw [z,hD] at hb;cases hb)];exact sm b o hb
 obtain⟨rfl,_,sm,Ar⟩:=h;rw [av,ll,uY (by unfold hm;rw [av];exact aG _)] at Ar;exact q H2 sm Ar
def tN (K:a8):Sp:=λvs H Q _=>∃(R:Addr)(rs:List Addr)(aa:List au)(b:Bool),vs=[.ref R,.bl b]/\aH K H R (rs.map V.ref)/\bE K H rs aa/\Small aa /\
 ∀(D:Addr)(H':Hp),H D=none->aC H H'->H' D=some (.lst ((cQ b aa).map V.str))->(cQ b aa).length<=64->Q (.ref D) H'
abbrev NE:List Str:=["_law_rules","_law_words_here","_law_head","_law_parts","_law_heads","_law_ended_here","_law_again","_law_good_here"]
def iQ:aN NE ["_law_rules","_law_words_here"] (az xn):=iY rfl rfl rfl rfl nofun
def Cw (F:ik K "_law_ended" "_law_ended" xn f fd)(T:Txt mg):bN P w K mg base fS 1 f fd ["_law_rules","_law_words_here"] (tN K):=by
 refine F.ok iQ (λvs H Q E h=>?_) (λd0 A outer s H vs Q E hr h=>?_)
 .obtain⟨R,rs,aa,b,rfl,_⟩:=h;rfl
 obtain⟨R,rs,aa,b,rfl,hR,cS,rM,q⟩:=h;have Qo:=rM.one;have IH:=rM.most;refine⟨_,ak (aB (i:=4) iQ.nd rfl (Or.inr rfl) (aT ["_law_head","_law_parts"] [] rfl (aS (pv 0)) (aV rfl rfl) nofun rfl nofun
   (λ_ _ _ _ _=>di (n:=2) K rfl (aA (aq (i:=0) (show (["_law_head","_law_parts"]:List Str).Nodup by decide +kernel) rfl (ba rfl)) (aA (aq (i:=1) (show (["_law_head","_law_parts"]:List Str).Nodup by decide +kernel) rfl (ba rfl)) bF))) (λ_ _ _ _ _=>bw)
   (λ_ _ _ _ _=>pv 0)))
  (ak (aB (i:=5) iQ.nd rfl (Or.inr rfl) (bR aj))
  (ak (bL b_ rfl (aS (pv 0)) (aq (i:=6) iQ.nd rfl (ba rfl))
   (ao (bL b_ rfl (aS (pv 0)) (di (n:=2) K rfl (aA (aq (i:=2) iQ.nd rfl (ba rfl)) (aA (aq (i:=3) iQ.nd rfl (ba rfl)) bF)))
    (ak (aB (i:=7) iQ.nd rfl (ba rfl) (aL (dW rfl) rfl T.all boot_all (ab
      (aT ["_law_part"] [(5,"_law_ended_here"),(4,"_law_heads"),(1,"_law_words_here")] rfl (d_ (pv 3)) (aV rfl rfl) nofun rfl nofun
       (λ_ _ _ _ _=>aq (i:=0) (show (["_law_part","_law_ended_here","_law_heads","_law_words_here"]:List Str).Nodup by decide +kernel) rfl (ba rfl)) (λ_ _ _ _ _=>bw)
       (λ_ _ _ _ _=>F6 (dF (dG K) (pv 0) (pv 1) rfl) (kq (m_ (pv 3) (kq (dF (ie K) (pv 0) (pv 2) rfl)))))) aj)))
    (ao (b8 (PW.pt (kn (dY (pv 7)) (iR (br iS (pv 2) (pv 5) rfl))))
     (ao (bT (fh e_ fc ff bh (pv 5) (ab (pv 2) aj)))) aY))))))
  (ao (bu (pv 5))))),?_⟩
 nofun
 refine⟨_,rfl,R,rfl,⟨_,hR⟩,λD hD=>kQ hR cS ∅ hD λH1 s1 eD=>?_⟩;refine goN ?_
 ac_rfl
 refine⟨tE,λL hL=>?_⟩;have s2:=s1.trans (af hL (.lst []));have A5:=af hL (.lst []) _ _ eD;have nL:L≠D:=λz=>by rw [z,eD] at hL;cases hL
 have fL:H L=none:=s1.free hL;have e2:upd H1 L (.lst []) L=some (.lst []):=ae;generalize upd H1 L (.lst [])=H2 at s2 A5 e2;refine goN ?_
 ac_rfl
 have ll:=bB cS
 let uR:qt:=λi σ H3=>∃(es:List Str)(y2 y3 y6 y7:Option V),σ=[aI R,some (.bl b),y2,y3,aI D,aI L,y6,y7]/\aC H H3/\H3 D=some (.lst ((hm aa).map V.str))/\H3 L=some (.lst (es.map V.str))/\es=passes (λe=>gk b (hm aa) e aa) i []/\es.length<=32 * i
 refine⟨_,rfl,R,rfl,⟨_,s2.seq hR⟩,cf (xs:=rs.map V.ref) uR ⟨[],_,_,_,_,rfl,s2,A5,e2,rfl,by simp⟩ ?_ ?_ ?_⟩
 .rintro i σ H3 _ ⟨es,y2,y3,y6,y7,rfl,s3,_⟩;exact s3.seq hR
 .intro i x σ H3 ex qI
  ac_nf0
  obtain⟨es,y2,y3,y6,y7,rfl,s3,Jo,RF,he,Ka⟩:=qI;have li:=(bc.mp ex).1;rw [av] at li;refine goN ?_
  ac_nf
  let AX:qt:=λj σ H4=>∃(uE:List Str)(y2 y3 y7:Option V),σ=[aI R,some (.bl b),y2,y3,aI D,aI L,some x,y7]/\aC H H4/\H4 D=some (.lst ((hm aa).map V.str))/\H4 L=some (.lst (uE.map V.str))/\uE=gk b (hm aa) es (aa.take j)/\uE.length<=32 * i+j
  refine⟨_,rfl,R,rfl,⟨_,s3.seq hR⟩,cf (xs:=rs.map V.ref) AX ⟨es,_,_,_,rfl,s3,Jo,RF,rfl,∅⟩ ?_ ?_ ?_⟩
  .rintro j σ H4 _ ⟨uE,y2,y3,y7,rfl,s4,_⟩;exact s4.seq hR
  .intro j x2 σ H4 kY qI
   ac_nf0
   obtain⟨uE,y2,y3,y7,rfl,s4,Kl,Kk,Eb,Mw⟩:=qI;have lj:=(bc.mp kY).1;rw [av] at lj;rw [bo] at kY;obtain⟨r,er,rfl⟩:=b9.mp kY;obtain⟨ru,e1,p,v1,v2⟩:=cS.get er;have gA:=rM.uD ru (cy e1);refine⟨r,_,rfl,s4.tup v1,rfl,_,_,rfl,_,_,rfl,rfl,?_⟩;refine⟨_,rfl,p,rfl,⟨_,s4.tup v2⟩,λD2 jb=>gJ (zs:=ru.2) [aI L,aI D,some (.bl b)] (λz=>decide (z∈uE) || (b && !decide (z∈hm aa))) rfl (s4.tup v2) ∅ jb (λz _ H5 Qy s5 hq=>?_) λH5 s5 eD5=>?_⟩
   .refine⟨_,rfl,_,rfl,L,_,rfl,.inl (aH.of (s5 _ _ Kk)),rfl,bU _,?_⟩;refine⟨_,rfl,?_⟩;rw [dI];show if decide (z∈uE)=true then _ else _;refine cu (λc=>?_) (λc=>?_)
    .rw [c] at hq;exact hq
    have c':decide (z∈uE)=false:=by simpa using c
    rw [c',Bool.false_or] at hq;refine⟨_,rfl,b,rfl,?_⟩;refine cu (λcb=>?_) (λcb=>?_)
    .rw [cb,jU] at hq;refine⟨_,rfl,_,rfl,D,_,rfl,.inl (aH.of (s5 _ _ Kl)),rfl,bU _,?_⟩;rw [dI];exact hq
    have cb':b=false:=by simpa using cb
    rw [cb',mM] at hq;exact hq
   refine⟨D2,_,rfl,aH.of eD5,?_⟩;rw [all_map];refine goN ?_
   ac_rfl
   have vi:=s4.trans s5;have AE:=s5 _ _ Kk;have pe:gk b (hm aa) es (aa.take (j+1))=dC b (hm aa) uE ru:=by
    rw [Eb,cI,e1];unfold gk;rw [sM];rfl
   refine⟨_,rfl,_,rfl,?_⟩;refine cu (λc=>?_) (λc=>?_)
   .refine⟨_,rfl,_,rfl,L,_,rfl,.inl (aH.of AE),rfl,bU _,_,rfl,?_⟩;rw [dI];show if (!decide (ru.1∈uE))=true then _ else _;refine cu (λc2=>?_) (λc2=>?_)
    .refine⟨_,rfl,.inl ⟨rfl,_,aH.of AE⟩,_,rfl,L,_,_,rfl,rfl,AE,bf (by rw [av];omega),?_⟩;refine⟨uE++[ru.1],_,_,_,rfl,λb o hb=>?_,by rw [ai (fu nL)];exact s5 _ _ Kl,by rw [ae,bC];rfl,?_,by rw [bO];simp;omega⟩
     .rw [ai (λz=>by rw [z,fL] at hb;cases hb)];exact vi b o hb
     rw [pe];unfold dC;rw [c,jU,ax c2]
    refine⟨uE,_,_,_,rfl,vi,s5 _ _ Kl,AE,?_,∅⟩;rw [pe];unfold dC;rw [c,jU,ay c2]
   refine⟨uE,_,_,_,rfl,vi,s5 _ _ Kl,AE,?_,∅⟩;rw [pe];unfold dC;rw [ay (λz=>c (ir.mp z).1)]
  rintro σ H4 ⟨uE,y2,y3,y7,rfl,s4,Kl,Kk,Eb,Mw⟩;rw [av,ll] at Mw;rw [av,ll,cC] at Eb;exact⟨uE,_,_,_,_,rfl,s4,Kl,Kk,by rw [Eb,he];rfl,∅⟩
 rintro σ H3 ⟨es,y2,y3,y6,y7,rfl,s3,Jo,RF,he,Ka⟩;rw [av,ll] at he Ka;refine⟨_,rfl,?_⟩;have e:cQ b aa=es:=he.symm;have l5:=fC _ _ (gH b aa).nd (gH b aa).sub;rw [av] at l5;exact q L H3 fL s3 (by rw [e];exact RF) ∅
end
def vM {aa:List au}{x:Str}:x∈hm aa↔x∈hd aa:=by
 constructor
 .intro h;obtain⟨ru,a,b⟩:=cH.mp h;exact b ▸ rO a
 intro h;obtain⟨ru,a,b⟩:=Gq h;exact cH.mpr ⟨ru,a,b⟩
def UB (aa:List au)(h:Str) (v:Int):Prop:=∀g,de M11.bl aa (uB aa) g->gS M11.bl aa g->∃m,g h=some m/\m<=v
def UB.le {aa:List au}{h:Str}{v u:Int}(a:UB aa h v)(l:v<=u):UB aa h u:=λg s t=>by
 obtain⟨m,e,k⟩:=a g s t;exact⟨m,e,mE k l⟩
def yz {aa:List au}{x:Str}(nn:x∉hd aa){ru:au}(gA:ru∈aa)(hm:x∈ru.2):UB aa x 0:=λg st _=>by
 refine⟨0,?_,i0 _⟩;refine de.keep (J:=λg=>g x=some 0) (λg HN j h2 _=>?_) st ?_
 .show cX g HN.1 _ x=some 0;unfold cX;have:x≠HN.1:=λz=>nn (z ▸ rO h2);rw [ay this];exact j
 show uB aa x=some 0;unfold uB;rw [ax (ot _ _ _ _ (.inr ⟨qO.mpr ⟨ru,gA,hm⟩,nn⟩))]
theorem yF {f g:Str->Int}:∀(ps:List Str),(∀x∈ps,f x<=g x)->(ps.map f).sum<=(ps.map g).sum
 | [],_=>i0 _
 | a::r,h=>by
  have h1:=h a b0;have h2:=yF r λx hx=>h x (cz _ hx);simp only [bZ,jf];omega
def tI {aa:List au}{h:Str}{ps:List Str}(hm:(h,ps)∈aa){f:Str->Int}(hf:∀p∈ps,UB aa p (f p)):UB aa h (1+(ps.map f).sum):=λg st se=>by
 have hv:∀p∈ps,∃m,g p=some m/\m<=f p:=λp hp=>hf p hp g st se;have hs:=se _ hm;unfold cx at hs;have a1:ja g (h,ps)=true:=d5.mpr λp hp=>by obtain⟨m,e1,_⟩:=hv p hp;show (g p).isSome=true;rw [e1];rfl
 have s0:aD g (h,ps)<=1+(ps.map f).sum:=by
  unfold aD;have:=yF (f:=λp=>(g p).getD 0) (g:=f) ps λp hp=>by obtain⟨m,e1,e2⟩:=hv p hp;show (g p).getD 0<=_;rw [e1];exact e2
  show 1+(ps.map λp=>(g p).getD 0).sum<=_;omega
 rw [a1,jU] at hs;cases gn:g h with
 | none=>rw [show g (h,ps).1=none from gn] at hs;cases hs
 | some m =>
  rw [show g (h,ps).1=some m from gn] at hs;refine⟨m,rfl,?_⟩;have:¬aD g (h,ps) < m:=by simpa [M11.bl] using hs
  omega
def bG (g:G)(z:Str):Int:=(g z).getD 0
def dB (ns:List Str)(g:G)(ru:au):G:=if (ru.2.all λp=>decide (p∈ns))=true then cX g ru.1 (if aD g ru > bG g ru.1 then aD g ru else bG g ru.1) else g
def qW (ns:List Str)(aa:List au)(g:G):G:=aa.foldl (dB ns) g
def tG (ns:List Str)(g:G)(ru:au)(x:Str):bG (dB ns g ru) x=if (ru.2.all λp=>decide (p∈ns))=true/\x=ru.1 then (if aD g ru > bG g ru.1 then aD g ru else bG g ru.1) else bG g x:=by
 unfold dB;by_cases c:(ru.2.all λp=>decide (p∈ns))=true
 .rw [ax c];by_cases e:x=ru.1
  .rw [ax (show (ru.2.all λp=>decide (p∈ns))=true/\x=ru.1 from ⟨c,e⟩)];show (if x=ru.1 then some _ else g x).getD 0=_;rw [ax e];rfl
  rw [ay (show ¬((ru.2.all λp=>decide (p∈ns))=true/\x=ru.1) from λz=>e z.2)];show (if x=ru.1 then some _ else g x).getD 0=_;rw [ay e];rfl
 rw [ay c,ay (show ¬((ru.2.all λp=>decide (p∈ns))=true/\x=ru.1) from λz=>c z.1)]
def Bi (ns:List Str)(g:G)(ru:au)(x:Str):bG g x<=bG (dB ns g ru) x:=by
 rw [tG]
 split
 .rename_i h
  rw [h.2]
  split <;> omega
 exact i0 _
theorem oY (ns:List Str):∀(rs:List au)(g:G)(x:Str),bG g x<=bG (rs.foldl (dB ns) g) x
 | [],_,_=>i0 _
 | r::rs,g,x=>mE (Bi ns g r x) (oY ns rs (dB ns g r) x)
def ve {g g':G}{ru:au}(h:∀p∈ru.2,bG g p=bG g' p):aD g ru=aD g' ru:=by
 unfold aD;rw [show (ru.2.map λp=>(g p).getD 0)=ru.2.map λp=>(g' p).getD 0 from List.map_congr_left h]
section
variable {aa:List au}{ns cs:List Str}
def JJ (aa:List au) (ns cs:List Str):Prop:=∀ru∈aa,(∀p∈ru.2,p∈ns)->ru.1∈cs/\∀p∈ru.2,kX cs p < kX cs ru.1
def Lk (aa:List au) (ns cs:List Str) (k:Nat)(g:G):Prop:=∀ru∈aa,(∀p∈ru.2,p∈ns)->kX cs ru.1 < k->aD g ru<=bG g ru.1
def Jz {ru:au}(h:(ru.2.all λp=>decide (p∈ns))=true):∀p∈ru.2,p∈ns:=λp hp=>dA (d5.mp h p hp)
def jG {k:Nat}{g:G}{ru:au}(h:Lk aa ns cs k g)(hr:ru∈aa){x:Str}(hx:kX cs x < k):bG (dB ns g ru) x=bG g x:=by
 rw [tG]
 split
 .rename_i c
  have:=h ru hr (Jz c.1) (c.2 ▸ hx);rw [ay ∅,c.2]
 rfl
def u4 (a:JJ aa ns cs){k:Nat}{g:G}{ru:au}(h:Lk aa ns cs k g)(hr:ru∈aa):Lk aa ns cs k (dB ns g ru):=λr2 h2 e2 l2=>by
 rw [<-ve (g:=g) λp hp=>(jG h hr (jo ((a r2 h2 e2).2 p hp) l2)).symm,jG h hr l2];exact h r2 h2 e2 l2
theorem o5 (a:JJ aa ns cs){k:Nat}:∀(rs:List au)(g:G),(∀ru∈rs,ru∈aa)->Lk aa ns cs k g->Lk aa ns cs k (rs.foldl (dB ns) g)/\∀x,kX cs x < k->bG (rs.foldl (dB ns) g) x=bG g x
 | [],_,_,h=>⟨h,λ_ _=>rfl⟩
 | r::rs,g,hs,h=>by
  have h1:=u4 a h (hs r b0);obtain⟨i1,i2⟩:=o5 a rs _ (λru hr=>hs ru (cz _ hr)) h1;exact⟨i1,λx hx=>(i2 x hx).trans (jG h (hs r b0) hx)⟩
theorem oZ (a:JJ aa ns cs){k:Nat}:∀(rs:List au)(g:G),(∀ru∈rs,ru∈aa)->Lk aa ns cs k g->∀ru∈rs,(∀p∈ru.2,p∈ns)->kX cs ru.1=k->aD (rs.foldl (dB ns) g) ru<=bG (rs.foldl (dB ns) g) ru.1
 | [],_,_,_,_,h,_,_=>(by cases h)
 | r::rs,g,hs,h,ru,gA,hp,hk=>by
  have hr:=hs r b0;have h1:=u4 a h hr;rcases bM.mp gA with e | e
  .subst e;have ah:=a ru hr hp;have lt:∀p∈ru.2,kX cs p < k:=λp iX=>hk ▸ ah.2 p iX;obtain⟨_,i2⟩:=o5 a rs (dB ns g ru) (λru hr=>hs ru (cz _ hr)) h1;have e1:aD (List.foldl (dB ns) g (ru::rs)) ru=aD g ru:=ve λp iX=>(i2 p (lt p iX)).trans (jG h hr (lt p iX));rw [e1];have e2:=oY ns rs (dB ns g ru) ru.1;have e3:=tG ns g ru ru.1;rw [ax ⟨d5.mpr λp iX=>eU (hp p iX),rfl⟩] at e3;show _<=bG (List.foldl (dB ns) (dB ns g ru) rs) ru.1;have e4:aD g ru<=(if aD g ru > bG g ru.1 then aD g ru else bG g ru.1):=by split <;> omega
   omega
  exact oZ a rs _ (λru hr=>hs ru (cz _ hr)) h1 ru e hp hk
def Bj (a:JJ aa ns cs){k:Nat}{g:G}(h:Lk aa ns cs k g):Lk aa ns cs (k+1) (qW ns aa g):=λru hr hp hk=>by
 by_cases c:kX cs ru.1 < k
 .exact(o5 a aa g (λ_ z=>z) h).1 ru hr hp c
 exact oZ a aa g (λ_ z=>z) h ru hr hp ∅
theorem rA (a:JJ aa ns cs):∀n,Lk aa ns cs n (passes (qW ns aa) n λ_=>none)
 | 0=>λ_ _ _ h=>absurd h (Nat.not_lt_zero _)
 | n+1=>Bj a (rA a n)
theorem rq (ns:List Str)(aa:List au)(x:Str):∀n,0<=bG (passes (qW ns aa) n λ_=>none) x
 | 0=>i0 _
 | n+1=>mE (rq ns aa x n) (oY ns aa _ x)
def CQ:∀(l:List Str)(x:Str),x∈l->kX l x < l.length:=λl x h=>(bc.mp (kK l x h)).1
def Bk (vL:∀x,Em aa x->x∈ns)(a:JJ aa ns cs){n:Nat}(hl:cs.length<=n):qx aa (bG (passes (qW ns aa) n λ_=>none)) :=
 ⟨λz=>rq ns aa z n,λru hr hp=>rA a n ru hr (λp iX=>vL p (hp p iX)) (eZ (CQ cs ru.1 (a ru hr λp iX=>vL p (hp p iX)).1) hl)⟩
end
def wj (aa:List au) (ms:List Str):Prop:=∀(i:Nat)(h:Str),ms[i]?=some h->(∃gi,aa[0]?=some gi/\h=gi.1)\/∃ru∈aa,ru.1∈ms.take i/\h∈ru.2
def DK (aa:List au)(ru:au) (j:Nat)(z:Str):Prop:=ru.2[j]?=some z/\z∈hm aa/\∀(k:Nat)(y:Str),k≠j->ru.2[k]?=some y->y∈cQ false aa
def VU (aa:List au) (cs:List Str):Prop:=∀(i:Nat)(h:Str),cs[i]?=some h->∀ru∈aa,ru.1=h->∀(j:Nat)(z:Str),DK aa ru j z->z∈cs.take i
structure zN (aa:List au) (ms cs:List Str):Prop where
 mo:wj aa ms
 ma:∀z∈hm aa,z∈ms
 cn:cs.Nodup
 ch:∀x∈cs,x∈hm aa
 co:VU aa cs
 ca:∀z∈hm aa,z∈cs
 ub:∀z∈hm aa,UB aa z 60
 bd:∃b,qx aa b/\∀h∈hd aa,b h<=60
def CH {aa:List au}{M:List Str}(O:wj aa M)(mA:∀h∈hd aa,h∈M):∀gi ms,aa[0]?=some gi->gi.1∈ms->AW aa aa.length ms->∀h∈hd aa,h∈ms:=λgi ms e0 h0 mc=>by
 have key:∀(n i:Nat),i < n->∀h:Str,M[i]?=some h->h∈ms:=by
  intro n
  induction n with
  | zero=>intro i hi;omega
  | succ n ih =>
   intro i hi h e;rcases O i h e with ⟨r0,e1,e2⟩ | ⟨ru,gA,h1,h2⟩
   .rw [e0] at e1;cases e1;rw [e2];exact h0
   obtain⟨j,lj,ej⟩:=lI h1;exact mc ru (by rw [cC];exact gA) (ih j ∅ _ ej) h h2
 intro h hh;obtain⟨i,hi⟩:=fI (mA h hh);exact key (i+1) i ∅ h hi
def zh {aa:List au}{rk:Str->Nat}(h:∀ru∈aa,∀(j:Nat)(z:Str),ru.2[j]?=some z->z∈hd aa->(∀(k:Nat)(y:Str),k≠j->ru.2[k]?=some y->Em aa y)->rk z < rk ru.1):yr aa rk:=by
 rintro aP emp kP n k j ⟨gi,z0,e1,e2,e3,e4,e5⟩ ru z er ez;rw [er] at e1;obtain rfl:ru=gi:=gC e1;rw [ez] at e3;obtain rfl:z=z0:=gC e3;rw [<-e2];refine h ru (cy er) j z ez e4 λk' y nk ey=>?_;have:=vH e5 ey nk;exact yh emp y (dA this)
def zN.good {aa:List au}{ms cs:List Str}(g:zN aa ms cs):∃rk b,Good aa rk b:=by
 obtain⟨b,hb,YI⟩:=g.bd;refine⟨kX cs,b,λgg st se h hh=>?_,CH g.mo λh hh=>g.ma h (vM.mpr hh),zh λru gA j z ez hz Ea=>?_,hb,YI⟩
 .exact g.ub h (vM.mpr hh) gg st se
 exact jC cs z _ (g.co _ _ (kK cs ru.1 (g.ca _ (gW gA))) ru gA rfl j z ⟨ez,vM.mpr hz,λk y nk ey=>qa (Ea k y nk ey)⟩)
structure OG (aa:List au) (nms ws:List Str):Prop where
 nd:nms.Nodup
 uD:nms.length<=9
 dj:∀x∈nms,x∉ws
 first:∀gi,aa[0]?=some gi->nms[0]?=some gi.1
 Fl:∀ru∈aa,ru.1∈nms
 on:∀(a:Nat)(h:Str),nms[a]?=some h->∃cA,(h,cA)∈aa/\((∃n' us vs,nms[a+1]?=some n'/\cA=us++n'::vs/\(∀p∈us,p∈ws)/\∀p∈vs,p∈ws)\/(nms.length=a+1/\∀p∈cA,p∈ws))
 sh:∀ru∈aa,(∃p∈ru.2,p∈ws)\/ru.2=[]\/∃n',nms[kX nms ru.1+1]?=some n'/\ru.2=[n']
theorem uv:∀{l:List Str},l.Nodup->∀{a:Nat}{x:Str},l[a]?=some x->kX l x=a
 | y::l,nd,0,x,e=>by
  cases e;unfold kX;rw [ax rfl]
 | y::l,nd,a+1,x,e=>by
  have e':l[a]?=some x:=e;have ne:y≠x:=λz=>(ji.mp nd).1 (z ▸ cy e');unfold kX;rw [ay ne,uv (ji.mp nd).2 e']
theorem lJ {f:Str->Int}:∀(ps:List Str),(∀x∈ps,f x=0)->(ps.map f).sum=0
 | [],_=>rfl
 | a::r,h=>by
  rw [bZ,jf,h a b0,lJ r λx hx=>h x (cz _ hx)];rfl
def OG.good {aa:List au}{nms ws:List Str}(c:OG aa nms ws):∃rk b,Good aa rk b:=by
 have hN:∀x,x∈hd aa->x∈nms:=λx hx=>by
  obtain⟨ru,a,b⟩:=Gq hx;exact b ▸ c.Fl ru a
 have wN:∀x∈ws,x∉hd aa:=λx hx h=>c.dj x (hN x h) hx;have TM:∀x∈ws,¬Em aa x:=λx hx h=>wN x hx (GA h);have ub:∀(n a:Nat)(h:Str),a+n=nms.length->nms[a]?=some h->UB aa h (n:Int):=by
  intro n
  induction n with
  | zero =>
   intro a h l e;have:=(bc.mp e).1;omega
  | succ n ih =>
   intro a h l e;obtain⟨cA,hm,hp⟩:=c.on a h e;have wd:∀p∈ws,p∈cA->UB aa p 0:=λp YA iX=>yz (wN p YA) hm iX;rcases hp with ⟨n',us,vs,en,rfl,Uk,Uj⟩ | ⟨_,hw⟩
   .have C0:=ih (a+1) n' ∅ en;have ne:∀p∈ws,p≠n':=λp hp z=>c.dj n' (cy en) (z ▸ hp);have h1:=tI hm (f:=λp=>if p=n' then (n:Int) else 0) λp hp=>by
     by_cases cc:p=n'
     .rw [ax cc,cc];exact C0
     rw [ay cc];refine wd p ?_ hp;rcases cD.mp hp with q | q
     .exact Uk p q
     rcases bM.mp q with q | q
     .exact absurd q cc
     exact Uj p q
    refine h1.le ?_;rw [bC,List.sum_append,bZ,jf,ax rfl,lJ us λx hx=>ay (ne x (Uk x hx)),lJ vs λx hx=>ay (ne x (Uj x hx))];push_cast;omega
   have h1:=tI hm (f:=λ_=>0) λp hp=>wd p (hw p hp) hp;refine h1.le ?_;rw [lJ cA λ_ _=>rfl];push_cast;omega
 refine⟨λx=>nms.length - kX nms x,λx=>if x∈nms then ((nms.length - kX nms x:Nat):Int) else 0,λgg st se h hh=>?_,CH (M:=nms) (λi h e=>?_) λh hh=>hN h hh,zh λru gA j z ez hz Ea=>?_,⟨λz=>?_,λru gA Ea=>?_⟩,λh hh=>?_⟩
 .obtain⟨a,e⟩:=fI (hN h hh);have la:=(bc.mp e).1;have:=c.uD;exact((ub (nms.length - a) a h ∅ e).le (show ((nms.length - a:Nat):Int)<=60 by omega)) gg st se
 .match i,e with
  | 0,e =>
   obtain⟨cA,hm,_⟩:=c.on 0 h e;obtain⟨k,ek⟩:=fI hm;have l0:0 < aa.length:=by have:=(bc.mp ek).1;omega
   refine .inl ⟨aa[0],c_ l0,?_⟩;have:=c.first _ (c_ l0);rw [e] at this;exact gC this
  | i+1,e =>
   have li:=(bc.mp e).1;have e5:nms[i]?=some (nms[i]'∅):=c_ ∅;obtain⟨cA,hm,hp⟩:=c.on i _ e5;refine .inr ⟨_,hm,?_,?_⟩
   .refine cy (i:=i) ?_;rw [tD ∅];exact e5
   rcases hp with ⟨n',us,vs,en,rfl,_⟩ | ⟨l,_⟩
   .rw [e] at en;cases en;exact dO _ b0
   omega
 .rcases c.sh ru gA with ⟨p,hp,hw⟩ | h | ⟨n',en,h⟩
  .exfalso;obtain⟨k,ek⟩:=fI hp;by_cases ck:k=j
   .subst ck;rw [ez] at ek;cases ek;exact wN _ hw hz
   exact TM p hw (Ea k p ck ek)
  .rw [h] at ez;cases ez
  rw [h] at ez;have Gy:z=n':=by
   match j,ez with
   | 0,e=>exact(gC e).symm
   | _+1,e=>cases e
  subst Gy;have i1:=uv c.nd en;have:=(bc.mp en).1;show nms.length - kX nms z < nms.length - kX nms ru.1;omega
 .show (0:Int)<=if z∈nms then _ else 0
  split
  .omega
  exact i0 _
 .have hn:=c.Fl ru gA;show 1+(ru.2.map λx=>if x∈nms then ((nms.length - kX nms x:Nat):Int) else 0).sum<=if ru.1∈nms then ((nms.length - kX nms ru.1:Nat):Int) else 0;rw [ax hn];have li:=CQ nms ru.1 hn;rcases c.sh ru gA with ⟨p,hp,hw⟩ | h | ⟨n',en,h⟩
  .exact absurd (Ea p hp) (TM p hw)
  .rw [h];show 1+0<=_;omega
  rw [h];have i1:=uv c.nd en;have:=(bc.mp en).1;rw [bZ,jf,ax (cy en),i1];show 1+(_+0)<=_;omega
 show (if h∈nms then ((nms.length - kX nms h:Nat):Int) else 0)<=60;have:=c.uD
 split
 .omega
 decide
structure DS (hs:List Str)(H5:Hp)(d:Addr)(kvs:List (aK×V)) (ks:List Str)(g:G):Prop where
 hd:H5 d=some (.dK kvs)
 keys:kvs.map (·.1)=ks.map Sum.inr
 nd:ks.Nodup
 sub:∀x∈ks,x∈hs
 val:∀z,a_ kvs (Sum.inr z)=(g z).map V.int
def DS.len {hs:List Str}{H5:Hp}{d:Addr}{kvs:List (aK×V)}{ks:List Str}{g:G}(h:DS hs H5 d kvs ks g):kvs.length<=hs.length:=by
 have h1:=congrArg List.length h.keys;have h2:=fC ks _ h.nd h.sub;rw [av,av] at h1;omega
def DS.same {hs:List Str}{H5 H6:Hp}{d:Addr}{kvs:List (aK×V)}{ks:List Str}{g:G}(h:DS hs H5 d kvs ks g)(s:aC H5 H6):DS hs H6 d kvs ks g:=⟨s _ _ h.hd,h.keys,h.nd,h.sub,h.val⟩
def DS.other {hs:List Str}{H5:Hp}{d e:Addr}{o:HO}{kvs:List (aK×V)}{ks:List Str}{g:G}(h:DS hs H5 d kvs ks g)(n:d≠e):DS hs (upd H5 e o) d kvs ks g:=⟨by rw [ai n];exact h.hd,h.keys,h.nd,h.sub,h.val⟩
def DS.get {hs:List Str}{H5:Hp}{d:Addr}{kvs:List (aK×V)}{ks:List Str}{g:G}(h:DS hs H5 d kvs ks g)(z:Str):cq H5 d (.str z) ((g z).map V.int):=by
 have:=cq.k (k:=Sum.inr z) h.hd;rw [h.val] at this;exact this
def DS.put {hs:List Str}{H5:Hp}{d:Addr}{kvs:List (aK×V)}{ks:List Str}{g:G}(h:DS hs H5 d kvs ks g){x:Str}(hr:x∈hs) (n:Int) :
  DS hs (upd H5 d (.dK (bH kvs (Sum.inr x) (.int n)))) d (bH kvs (Sum.inr x) (.int n)) (gw ks x) (cX g x n):=by
 refine⟨ae,iD h.keys x,uN x h.nd,λy hy=>?_,λz=>?_⟩
 .rcases (jF ks x y).mp hy with z | z
  .exact h.sub y z
  rw [z];exact hr
 rw [o7];unfold cX;by_cases c:z=x
 .rw [ax c,ax (by rw [c])];rfl
 rw [ay c,ay (λe=>c (jm e)),h.val]
def getD_map (o:Option Int) (n:Int):(o.map V.int).getD (.int n)=.int (o.getD n):=by cases o <;> rfl
def rY {K:a8}{H:Hp}{p D d:Addr}{zs hs:List Str}{kvs:List (aK×V)}{ks:List Str}{g:G}{σ:St}{js:List (Nat×Str)}{Qp:Hp->Prop}(hσ:df ["_law_part"] js σ=[none,aI d])(hp:aZ K H p (zs.map V.str))(hz:zs.length<=1000)
  (hg:DS hs H d kvs ks g)(hD:H D=none)(q:∀H2,aC H H2->H2 D=some (.lst ((zs.map λz=>(g z).getD 0).map V.int))->Qp H2) :
  ∃W:Nat->Nat->List V->St->Hp->Prop,(∃m,W 0 m [] (df ["_law_part"] js σ) (upd H D (.lst []))) /\
 ∀i m ys σ' H,W i m ys σ' H->((mz K p).stop i H/\Qp H)\/((mz K p).go i H/\∃m',m' < m/\∀x H',(mz K p).ka i H x H'->cU 0 x σ' H' λσ2 H2=>gh σ2 H2 λb H3 =>
  if b=true then Bp (fO 1) (fO 0) (tC (.int 0)) σ2 H3 λy H4=>H4 D=some (.lst ys)/\ys.length < sizeLine/\W (i+1) m' (ys++[y]) σ2 (upd H4 D (.lst (ys++[y]))) else W (i+1) m' ys σ2 H3):=by
 refine fM (xs:=zs.map V.str) (λi ys σ2 H2=>ys=(((zs.take i).map λz=>(g z).getD 0).map V.int)/\(∃y0,σ2=[y0,aI d])/\aC H H2/\H2 D=some (.lst ys))
  ⟨rfl,⟨none,hσ⟩,af hD _,ae⟩ (λi ys σ2 H2 _ h=>h.2.2.1.tup hp) (λi x ys σ2 H2 ex h=>?_) (λys σ2 H2 h=>?_)
 .obtain⟨rfl,⟨y0,rfl⟩,sm,hd2⟩:=h;rw [bo] at ex;obtain⟨z,ez,rfl⟩:=b9.mp ex;have li:=(bc.mp ez).1;refine goN (uV ?_);refine⟨_,rfl,d,rfl,.inl ⟨_,.inl (sm _ _ hg.hd)⟩,_,rfl,_,(hg.same sm).get z,?_⟩;rw [getD_map];refine⟨hd2,bf (by rw [av,av,d7];omega),?_,⟨_,rfl⟩,?_,ae⟩
  .rw [cI,ez,bC,bC];rfl
  intro b o hb;rw [ai (λz=>by rw [z,hD] at hb;cases hb)];exact sm b o hb
 obtain⟨rfl,_,sm,hd2⟩:=h;rw [av,cC] at hd2;exact q H2 sm hd2
section
def LJ (aa:List au)(l:G):Prop:=∀z n,l z=some n->UB aa z n
def Bt (K:a8):Sp:=λvs H Q _=>∃(R N:Addr)(rs:List Addr)(aa:List au) (ns:List Str),vs=[.ref R,.ref N]/\aH K H R (rs.map V.ref)/\bE K H rs aa/\Small aa/\H N=some (.lst (ns.map V.str))/\ns.length<=1000 /\
 ∀(b:Bool)(H':Hp),aC H H'->(b=true->(∀z∈hm aa,UB aa z 60)/\∀h∈hm aa,bG (passes (qW ns aa) aa.length λ_=>none) h<=60)->Q (.bl b) H'
abbrev NVs:List Str:=["_law_rules","_law_empty","_law_head","_law_parts","_law_heads","_law_greatest","_law_least","_law_again","_law_size"]
def iP:aN NVs ["_law_rules","_law_empty"] (az BJ):=iY rfl rfl rfl rfl nofun
structure JB (K:a8)(aa:List au)(H H5:Hp)(D dg dl:Addr)(kg kl:List (aK×V)) (sg sl:List Str)(g l:G):Prop where
 sm:aC H H5
 eD:H5 D=some (.lst ((hm aa).map V.str))
 gs:DS (hm aa) H5 dg kg sg g
 ls:DS (hm aa) H5 dl kl sl l
 lj:LJ aa l
theorem JB.same {aa:List au}{H H5 H6:Hp}{D dg dl:Addr}{kg kl:List (aK×V)}{sg sl:List Str}{g l:G}(h:JB K aa H H5 D dg dl kg kl sg sl g l)(s:aC H5 H6):JB K aa H H6 D dg dl kg kl sg sl g l :=
 ⟨h.sm.trans s,s _ _ h.eD,h.gs.same s,h.ls.same s,h.lj⟩
def EV (F:ik K "_law_not_vast" "_law_not_vast" BJ f fd)(T:Txt mg):bN P w K mg base fS 1 f fd ["_law_rules","_law_empty"] (Bt K):=by
 refine F.ok iP (λvs H Q E h=>?_) (λd0 A outer s H vs Q E hr h=>?_)
 .obtain⟨R,N,rs,aa,ns,rfl,_⟩:=h;rfl
 obtain⟨R,N,rs,aa,ns,rfl,hR,cS,rM,hN,Ut,q⟩:=h;have hu:=gp hr;have IH:=rM.most;refine⟨_,ak (aB (i:=4) iP.nd rfl (Or.inr rfl) (aT ["_law_head","_law_parts"] [] rfl (aS (pv 0)) (aV rfl rfl) nofun rfl nofun
   (λ_ _ _ _ _=>di (n:=2) K rfl (aA (aq (i:=0) (show (["_law_head","_law_parts"]:List Str).Nodup by decide +kernel) rfl (ba rfl)) (aA (aq (i:=1) (show (["_law_head","_law_parts"]:List Str).Nodup by decide +kernel) rfl (ba rfl)) bF))) (λ_ _ _ _ _=>bw)
   (λ_ _ _ _ _=>pv 0)))
  (ak (aB (i:=5) iP.nd rfl (Or.inr rfl) fg)
  (ak (aB (i:=6) iP.nd rfl (Or.inr rfl) fg)
  (ak (bL b_ rfl (aS (pv 0)) (aq (i:=7) iP.nd rfl (ba rfl))
   (ao (bL b_ rfl (aS (pv 0)) (di (n:=2) K rfl (aA (aq (i:=2) iP.nd rfl (ba rfl)) (aA (aq (i:=3) iP.nd rfl (ba rfl)) bF)))
    (ak (fZ (b8 (dY (aL (dW rfl) rfl T.all boot_all (ab (aT ["_law_part"] [(1,"_law_empty")] rfl (d_ (pv 3)) (aV rfl rfl) nofun rfl nofun
       (λ_ _ _ _ _=>aq (i:=0) (show (["_law_part","_law_empty"]:List Str).Nodup by decide +kernel) rfl (ba rfl)) (λ_ _ _ _ _=>bw) (λ_ _ _ _ _=>dF (dG K) (pv 0) (pv 1) rfl)) aj)))
     (ak (aB (i:=8) iP.nd rfl (ba rfl) (aM dH ar (aL (jP rfl) rfl T.sum sY (ab (aT ["_law_part"] [(5,"_law_greatest")] rfl (d_ (pv 3)) (aV rfl rfl) nofun rfl nofun
       (λ_ _ _ _ _=>aq (i:=0) (show (["_law_part","_law_greatest"]:List Str).Nodup by decide +kernel) rfl (ba rfl)) (λ_ _ _ _ _=>bw) (λ_ _ _ _ _=>g8 hu (pv 1) (pv 0) ar ⟨rfl,rfl,rfl,rfl⟩)) aj))))
     (ao (gy hu (pv 5) (pv 2) (aL (rZ rfl) rfl T.max PyProof.Rows.boot_max (ab (g8 hu (pv 5) (pv 2) ar ⟨rfl,rfl,rfl,rfl⟩) (ab (pv 8) aj))) rfl))) aY))
    (ao (b8 (dY (aL (dW rfl) rfl T.all boot_all (ab (aT ["_law_part"] [(6,"_law_least"),(4,"_law_heads")] rfl (d_ (pv 3)) (aV rfl rfl) nofun rfl nofun
       (λ_ _ _ _ _=>aq (i:=0) (show (["_law_part","_law_least","_law_heads"]:List Str).Nodup by decide +kernel) rfl (ba rfl)) (λ_ _ _ _ _=>bw)
       (λ_ _ _ _ _=>F6 (xA (kr hu (pv 0) (pv 1))) (kq (dF (ie K) (pv 0) (pv 2) rfl)))) aj)))
     (ak (aB (i:=8) iP.nd rfl (ba rfl) (aM dH ar (aL (jP rfl) rfl T.sum sY (ab (aT ["_law_part"] [(6,"_law_least")] rfl (d_ (pv 3)) (aV rfl rfl) nofun rfl nofun
       (λ_ _ _ _ _=>aq (i:=0) (show (["_law_part","_law_least"]:List Str).Nodup by decide +kernel) rfl (ba rfl)) (λ_ _ _ _ _=>bw) (λ_ _ _ _ _=>g8 hu (pv 1) (pv 0) ar ⟨rfl,rfl,rfl,rfl⟩)) aj))))
     (ao (gy hu (pv 6) (pv 2) (aL (AM rfl) rfl T.min PyProof.Rows.boot_min (ab (g8 hu (pv 6) (pv 2) (pv 8) ⟨rfl,rfl,rfl,rfl⟩) (ab (pv 8) aj))) rfl))) aY))))))
  (ao (bu (aL (dW rfl) rfl T.all boot_all (ab (aT ["_law_name"] [(5,"_law_greatest"),(6,"_law_least")] rfl (aS (pv 4)) (aV rfl rfl) nofun rfl nofun
    (λ_ _ _ _ _=>aq (i:=0) (show (["_law_name","_law_greatest","_law_least"]:List Str).Nodup by decide +kernel) rfl (ba rfl)) (λ_ _ _ _ _=>bw)
    (λ_ _ _ _ _=>m_ (dF Cf (g8 hu (pv 1) (pv 0) ar ⟨rfl,rfl,rfl,rfl⟩) ar (cw _)) (kq (dF Cf (g8 hu (pv 2) (pv 0) ar ⟨rfl,rfl,rfl,rfl⟩) ar (cw _))))) aj))))))),?_⟩
 have ll:=bB cS;have zo:(hm aa).length=aa.length:=by unfold hm;rw [av]
 refine⟨_,rfl,R,rfl,⟨_,hR⟩,λD hD=>kQ hR cS ∅ hD λH1 s1 eD=>?_⟩;refine goN ?_;refine λdg Mz=>?_;have k2:=af Mz (.dK []);have e2:upd H1 dg (.dK []) dg=some (.dK []):=ae;have ZU:H dg=none:=s1.free Mz;have Xc:D≠dg:=λz=>by rw [<-z,eD] at Mz;cases Mz
 generalize upd H1 dg (.dK [])=H2 at k2 e2;have A5:=k2 _ _ eD;refine λdl zo=>?_;have k3:=af zo (.dK []);have e3:upd H2 dl (.dK []) dl=some (.dK []):=ae;have UQ:H dl=none:=(s1.trans k2).free zo;have Xb:D≠dl:=λz=>by rw [<-z,A5] at zo;cases zo
 have TF:dg≠dl:=λz=>by rw [<-z,e2] at zo;cases zo
 generalize upd H2 dl (.dK [])=H3 at k3 e3;have S0:JB K aa H H3 D dg dl [] [] [] [] (λ_=>none) (λ_=>none):=⟨(s1.trans k2).trans k3,k3 _ _ A5,⟨k3 _ _ e2,rfl,i4,λ_ h=>(by cases h),λ_=>rfl⟩,⟨e3,rfl,i4,λ_ h=>(by cases h),λ_=>rfl⟩,λ_ _ h=>(by cases h)⟩;clear k3 e3 k2 e2 A5 eD s1 hD Mz zo;refine⟨_,rfl,R,rfl,⟨_,S0.sm.seq hR⟩,?_⟩;refine cf (xs:=rs.map V.ref) (λi σ H5=>∃(kg kl:List (aK×V)) (sg sl:List Str)(g l:G)(y2 y3 y7 y8:Option V),σ=[aI R,aI N,y2,y3,aI D,aI dg,aI dl,y7,y8]/\JB K aa H H5 D dg dl kg kl sg sl g l/\g=passes (qW ns aa) i λ_=>none)
  ⟨[],[],[],[],_,_,_,_,_,_,rfl,S0,rfl⟩ ?_ ?_ ?_
 .rintro i σ H5 _ ⟨kg,kl,sg,sl,g,l,y2,y3,y7,y8,rfl,S5,_⟩;exact S5.sm.seq hR
 .rintro i x σ H5 ex ⟨kg,kl,sg,sl,g,l,y2,y3,y7,y8,rfl,S5,Di⟩;refine goN ?_;refine⟨_,rfl,R,rfl,⟨_,S5.sm.seq hR⟩,?_⟩;refine cf (xs:=rs.map V.ref) (λj σ H6=>∃(kg kl:List (aK×V)) (sg sl:List Str)(g6 l:G)(y2 y3 y8:Option V),σ=[aI R,aI N,y2,y3,aI D,aI dg,aI dl,some x,y8]/\JB K aa H H6 D dg dl kg kl sg sl g6 l/\g6=(aa.take j).foldl (dB ns) g)
   ⟨kg,kl,sg,sl,_,_,_,_,_,rfl,S5,rfl⟩ ?_ ?_ ?_
  .rintro j σ H6 _ ⟨kg,kl,sg,sl,g6,l,y2,y3,y8,rfl,S6,_⟩;exact S6.sm.seq hR
  .rintro j x2 σ H6 kY ⟨kg,kl,sg,sl,g6,l,y2,y3,y8,rfl,S6,Eh⟩;rw [bo] at kY;obtain⟨r,er,rfl⟩:=b9.mp kY;obtain⟨ru,e1,p,v1,v2⟩:=cS.get er;have gA:=cy e1;have h6r:=rM.uD ru gA;have hh:ru.1∈hm aa:=gW gA;have tk:(aa.take (j+1)).foldl (dB ns) g=dB ns g6 ru:=by rw [cI,e1,sM,<-Eh];rfl
   refine⟨r,_,rfl,S6.sm.tup v1,rfl,_,_,rfl,_,_,rfl,rfl,?_⟩;refine⟨λσ H7=>∃(kg:List (aK×V)) (sg:List Str)(y8:Option V),σ=[aI R,aI N,some (.str ru.1),aI p,aI D,aI dg,aI dl,some x,y8]/\JB K aa H H7 D dg dl kg kl sg sl (dB ns g6 ru) l,?_,?_⟩
   .refine⟨_,rfl,p,rfl,⟨_,S6.sm.tup v2⟩,λD9 wD=>gJ (zs:=ru.2) [aI N] (λz=>decide (z∈ns)) rfl (S6.sm.tup v2) ∅ wD (λz _ HA Qy sA hq=>?_) λH9 s9 e9=>?_⟩
    .refine⟨_,rfl,_,rfl,N,_,rfl,.inl (aH.of (sA _ _ (S6.sm _ _ hN))),rfl,bU _,?_⟩;rw [dI];exact hq
    have S9:=S6.same s9;refine⟨D9,_,rfl,aH.of e9,_,rfl,?_⟩;rw [all_map];refine cu (λca=>?_) (λca=>?_)
    .refine⟨_,rfl,p,rfl,⟨_,S9.sm.tup v2⟩,λDA MM=>rY rfl (S9.sm.tup v2) ∅ S9.gs MM λHA sA eA=>?_⟩;have SA:=S9.same sA;refine⟨DA,_,rfl,aH.of eA,_,_,rfl,rfl,?_⟩;refine⟨_,rfl,dg,rfl,.inl ⟨_,.inl SA.gs.hd⟩,_,rfl,_,SA.gs.get ru.1,?_⟩;rw [getD_map];refine⟨_,rfl,_,_,rfl,?_⟩;have ln:=SA.gs.len;refine⟨_,rfl,_,rfl,dg,_,rfl,kU.k (k:=Sum.inr ru.1) SA.gs.hd (bf ∅),?_⟩;have ev:dB ns g6 ru=cX g6 ru.1 (if aD g6 ru > bG g6 ru.1 then aD g6 ru else bG g6 ru.1):=by unfold dB;rw [ax ca]
     have P1:=SA.gs.put hh (if aD g6 ru > bG g6 ru.1 then aD g6 ru else bG g6 ru.1);rw [<-ev] at P1;refine⟨_,_,_,rfl,⟨λb o hb=>?_,?_,P1,SA.ls.other (fu TF),SA.lj⟩⟩
     .rw [ai (λz=>by rw [z,ZU] at hb;cases hb)];exact SA.sm b o hb
     rw [ai Xc];exact SA.eD
    have ev:dB ns g6 ru=g6:=by unfold dB;rw [ay ca]
    refine⟨kg,sg,_,rfl,?_⟩;rw [ev];exact S9
   rintro σ H7 ⟨kg,sg,y8,rfl,S7⟩;generalize hg7:dB ns g6 ru=g7 at *;refine⟨_,rfl,p,rfl,⟨_,S7.sm.tup v2⟩,λD9 wD=>gJ (zs:=ru.2) [aI dl,aI D] (λz=>(l z).isSome || !decide (z∈hm aa)) rfl (S7.sm.tup v2) ∅ wD (λz _ HA Qy sA hq=>?_) λH9 s9 e9=>?_⟩
   .refine⟨_,rfl,_,rfl,dl,_,rfl,(S7.ls.same sA).get z,_,rfl,?_⟩;rw [oJ];refine cu (λc=>?_) (λc=>?_)
    .rw [c,Bool.true_or] at hq;exact hq
    have c':(l z).isSome=false:=by simpa using c
    rw [c',Bool.false_or] at hq;refine⟨_,rfl,_,rfl,D,_,rfl,.inl (aH.of (sA _ _ S7.eD)),rfl,bU _,?_⟩;rw [dI];exact hq
   have S9:=S7.same s9;refine⟨D9,_,rfl,aH.of e9,_,rfl,?_⟩;rw [all_map];refine cu (λca=>?_) (λca=>?_)
   .refine⟨_,rfl,p,rfl,⟨_,S9.sm.tup v2⟩,λDA MM=>rY rfl (S9.sm.tup v2) ∅ S9.ls MM λHA sA eA=>?_⟩;have SA:=S9.same sA;refine⟨DA,_,rfl,aH.of eA,_,_,rfl,rfl,?_⟩;refine⟨_,rfl,dl,rfl,.inl ⟨_,.inl SA.ls.hd⟩,_,rfl,_,rfl,_,SA.ls.get ru.1,?_⟩;rw [getD_map];refine⟨_,rfl,_,_,rfl,?_⟩;have ln:=SA.ls.len;refine⟨_,rfl,_,rfl,dl,_,rfl,kU.k (k:=Sum.inr ru.1) SA.ls.hd (bf ∅),?_⟩;have sz:UB aa ru.1 (aD l ru):=tI (h:=ru.1) (ps:=ru.2) gA (f:=λp=>(l p).getD 0) λp hp=>by
     have:=d5.mp ca p hp;cases el:l p with
     | some n=>exact S7.lj p n el
     | none =>
      rw [el] at this;have nn:p∉hm aa:=by simpa using this
      exact yz (λz=>nn (vM.mpr z)) gA hp
    refine⟨kg,_,sg,_,_,_,_,_,_,rfl,⟨λb o hb=>?_,?_,SA.gs.other TF,SA.ls.put hh _,λz n e=>?_⟩,tk.symm⟩
    .rw [ai (λz=>by rw [z,UQ] at hb;cases hb)];exact SA.sm b o hb
    .rw [ai Xb];exact SA.eD
    unfold cX at e;by_cases c:z=ru.1
    .rw [ax c] at e;cases e;rw [c]
     split
     .exact sz
     cases el:l ru.1 with
     | none=>exact sz
     | some n=>exact S7.lj _ n el
    rw [ay c] at e;exact SA.lj z n e
   exact⟨_,_,_,_,_,_,_,_,_,rfl,S9,tk.symm⟩
  rintro σ H6 ⟨kg,kl,sg,sl,g6,l,y2,y3,y8,rfl,S6,Eh⟩;refine⟨kg,kl,sg,sl,g6,l,_,_,_,_,rfl,S6,?_⟩;rw [Eh,av,ll,cC,Di];rfl
 rintro σ H5 ⟨kg,kl,sg,sl,g,l,y2,y3,y7,y8,rfl,S5,Di⟩;rw [av,ll] at Di;refine⟨_,rfl,D,rfl,⟨_,aH.of S5.eD⟩,λD9 wD=>nY (zs:=hm aa) [aI dg,aI dl] (λz=>decide ((g z).getD 0<=60) && decide ((l z).getD 61<=60)) rfl (aH.of S5.eD) ∅ wD (λz _ HA Qy sA hq=>?_) λH9 s9 e9=>?_⟩
 .have SA:=S5.same sA;refine⟨_,rfl,dg,rfl,.inl ⟨_,.inl SA.gs.hd⟩,_,rfl,_,SA.gs.get z,?_⟩;rw [getD_map];refine⟨_,_,rfl,rfl,_,rfl,?_⟩;refine cu (λc=>?_) (λc=>?_)
  .rw [c,jU] at hq;refine⟨_,rfl,dl,rfl,.inl ⟨_,.inl SA.ls.hd⟩,_,rfl,_,SA.ls.get z,?_⟩;rw [getD_map];exact⟨_,_,rfl,rfl,hq⟩
  have c':decide ((g z).getD 0<=60)=false:=by simpa using c
  rw [c',mM] at hq;exact hq
 refine⟨D9,_,rfl,aH.of e9,?_⟩;rw [all_map];refine q _ _ (S5.sm.trans s9) λhb=>⟨λz hz=>?_,λz hz=>?_⟩
 .have:=(ir.mp (d5.mp hb z hz)).2;have h6:=dA this;cases el:l z with
  | none=>rw [el] at h6;exact absurd h6 nofun
  | some n=>rw [el] at h6;exact(S5.lj z n el).le h6
 have:=(ir.mp (d5.mp hb z hz)).1;rw [<-Di];exact dA this
end
def rW (zs:List Str) (j:Nat):iK (zs.map V.str) none (some (0+(j:Int)))=(zs.take j).map V.str:=by
 rw [mF];unfold iK;rw [HT.lW,HT.tX,List.drop_zero,Nat.sub_zero,av,List.map_take]
 conv=>rhs;rw [List.take_eq_take_min,av]
def AI (zs:List Str) (j:Nat):iK (zs.map V.str) (some (0+(j:Int)+1)) none=(zs.drop (j+1)).map V.str:=by
 rw [mF,show (j:Int)+1=((j+1:Nat):Int) by push_cast;rfl];unfold iK;rw [HT.lW,HT.tX,av,List.map_drop];by_cases h:j+1<=zs.length
 .rw [Nat.min_eq_left h,uY (by rw [sJ,av];exact aG _)]
 rw [Nat.min_eq_right ∅,mH,List.take_zero,List.drop_eq_nil_of_le (by rw [av];omega)]
def wj.app {aa:List au}{ms zs:List Str}{ru:au}(h:wj aa ms)(hr:ru∈aa)(h1:ru.1∈ms)(h2:∀z∈zs,z∈ru.2):wj aa (ms++zs):=by
 intro i x hx;by_cases l:i < ms.length
 .rw [lD l] at hx;rcases h i x hx with a | ⟨r,a,b,c⟩
  .exact .inl a
  exact .inr ⟨r,a,by rw [lF ∅];exact b,c⟩
 rw [jZ ∅] at hx;refine .inr ⟨ru,hr,?_,h2 x (cy hx)⟩;rw [List.take_append,uY ∅];exact eV _ h1
def SI (aa:List au)(ri:List au)(fP:List (Str×Str)):Prop:=∀ru∈ri,∀(j:Nat)(z:Str),DK aa ru j z->(ru.1,z)∈fP
structure Ky (aa:List au)(fP:List (Str×Str)) (cs:List Str):Prop where
 cn:cs.Nodup
 ch:∀x∈cs,x∈hm aa
 co:∀(i:Nat)(h:Str),cs[i]?=some h->∀z,(h,z)∈fP->z∈cs.take i
def Ky.add {aa:List au}{fP:List (Str×Str)}{cs:List Str}{nm:Str}(h:Ky aa fP cs)(n:nm∉cs)(hh:nm∈hm aa)(a:∀z,(nm,z)∈fP->z∈cs):Ky aa fP (cs++[nm]):=by
 refine⟨jj.mpr ⟨h.cn,by simp,λx hx y hy z=>n (by rw [<-cT.mp hy,<-z];exact hx)⟩,λx hx=>?_,λi x hx z hz=>?_⟩
 .rcases cD.mp hx with q | q
  .exact h.ch x q
  rw [cT.mp q];exact hh
 by_cases l:i < cs.length
 .rw [lD l] at hx;rw [lF ∅];exact h.co i x hx z hz
 have li:=(bc.mp hx).1;rw [bO,gO] at li;have:i=cs.length:=by omega
 subst this;rw [jZ (aG _),mH] at hx;cases hx;rw [lF (aG _),cC];exact a z hz
section
def Bz (K:a8):Sp:=λvs H Q _=>∃(R:Addr)(rs:List Addr)(aa:List au),vs=[.ref R]/\aH K H R (rs.map V.ref)/\bE K H rs aa/\Small aa /\
 ∀(b:Bool)(H':Hp),aC H H'->(b=true->∃ms cs,zN aa ms cs)->Q (.bl b) H'
abbrev NG:List Str:=["_law_rules","_law_head","_law_parts","_law_heads","_law_ended_here","_law_met","_law_again","_law_empty","_law_alone","_law_k","_law_others","_law_settled","_law_name","_law_good_here"]
def dX:aN NG ["_law_rules"] (az BR):=iY rfl rfl rfl rfl nofun
def E3 (F:ik K "_law_good" "_law_good" BR f fd)(T:Txt mg)(GE:aF P w K mg base 1 "_law_ended" ["_law_rules","_law_words_here"] (tN K))(GV:aF P w K mg base 1 "_law_not_vast" ["_law_rules","_law_empty"] (Bt K)):bN P w K mg base fS 2 f fd ["_law_rules"] (Bz K):=by
 refine F.ok dX (λvs H Q E h=>?_) (λd0 A outer s H vs Q E hr h=>?_)
 .obtain⟨R,rs,aa,rfl,_⟩:=h;rfl
 obtain⟨R,rs,aa,rfl,hR,cS,rM,q⟩:=h;have Qo:=rM.one;have IH:=rM.most;refine⟨_,ak (aB (i:=3) dX.nd rfl (Or.inr rfl) (aT ["_law_head","_law_parts"] [] rfl (aS (pv 0)) (aV rfl rfl) nofun rfl nofun
   (λ_ _ _ _ _=>di (n:=2) K rfl (aA (aq (i:=0) (show (["_law_head","_law_parts"]:List Str).Nodup by decide +kernel) rfl (ba rfl)) (aA (aq (i:=1) (show (["_law_head","_law_parts"]:List Str).Nodup by decide +kernel) rfl (ba rfl)) bF))) (λ_ _ _ _ _=>bw)
   (λ_ _ _ _ _=>pv 0)))
  (ak (aB (i:=4) dX.nd rfl (Or.inr rfl) (bp GE hr rfl (ab (pv 0) (ab eX aj))))
  (ak (aB (i:=5) dX.nd rfl (Or.inr rfl) (iB yU (pv 3) jM (jL ar)))
  (ak (bL b_ rfl (aS (pv 0)) (aq (i:=6) dX.nd rfl (ba rfl))
   (ao (bL b_ rfl (aS (pv 0)) (di (n:=2) K rfl (aA (aq (i:=1) dX.nd rfl (ba rfl)) (aA (aq (i:=2) dX.nd rfl (ba rfl)) bF)))
    (ao (b8 (br jN (pv 1) (pv 5) rfl)
     (ao (aB (i:=5) dX.nd rfl (Or.inr rfl) (aM pH (pv 5)
      (aT ["_law_part"] [(3,"_law_heads"),(5,"_law_met")] rfl (d_ (pv 2)) (aV rfl rfl) nofun rfl nofun
       (λ_ _ _ _ _=>aq (i:=0) (show (["_law_part","_law_heads","_law_met"]:List Str).Nodup by decide +kernel) rfl (ba rfl))
       (λ_ _ _ _ _=>gP (PW.pt (kn (br (dG K) (pv 0) (pv 1) rfl) (iR (br (ie K) (pv 0) (pv 2) rfl)))))
       (λ_ _ _ _ _=>pv 0))))) aY)))))
  (ak (aB (i:=7) dX.nd rfl (Or.inr rfl) (bp GE hr rfl (ab (pv 0) (ab eX aj))))
  (ak (aB (i:=8) dX.nd rfl (ba rfl) (bR aj))
  (ak (bL b_ rfl (aS (pv 0)) (di (n:=2) K rfl (aA (aq (i:=1) dX.nd rfl (ba rfl)) (aA (aq (i:=2) dX.nd rfl (ba rfl)) bF)))
   (ao (bL b_ rfl (iA rfl T.DT (ab (aL bz rfl T.len gb (ab (pv 2) aj)) aj)) (aq (i:=9) dX.nd rfl (ba rfl))
    (ak (aB (i:=10) dX.nd rfl (ba rfl) (aM ug (iB ow (pv 2) jM (jL (pv 9))) (iB ow (pv 2) (jL (aM dH (pv 9) ar)) jM)))
    (ao (b8 (PW.pt (kn (br jN (bJ bX (pv 2) (pv 9) (λ_ _=>rfl)) (pv 3) rfl) (iR (dY (aL (dW rfl) rfl T.all boot_all (ab
      (aT ["_law_part"] [(7,"_law_empty")] rfl (d_ (pv 10)) (aV rfl rfl) nofun rfl nofun
       (λ_ _ _ _ _=>aq (i:=0) (show (["_law_part","_law_empty"]:List Str).Nodup by decide +kernel) rfl (ba rfl)) (λ_ _ _ _ _=>bw)
       (λ_ _ _ _ _=>dF (dG K) (pv 0) (pv 1) rfl)) aj))))))
     (ao (bT (fh e_ fc ff bh (pv 8) (ab (bD (ab (pv 1) (ab (bJ bX (pv 2) (pv 9) (λ_ _=>rfl)) aj))) aj)))) aY))))))
  (ak (aB (i:=11) dX.nd rfl (Or.inr rfl) (bR aj))
  (ak (bL b_ rfl (aS (pv 0)) (aq (i:=6) dX.nd rfl (ba rfl))
   (ao (bL b_ rfl (aS (pv 3)) (aq (i:=12) dX.nd rfl (Or.inr rfl))
    (ao (b8 (PW.pt (kn (dY (aL (dW rfl) rfl T.all boot_all (ab
      (aT ["_law_head","_law_other"] [(11,"_law_settled"),(12,"_law_name")] rfl (aS (pv 8)) (aV rfl rfl) nofun rfl nofun
       (λ_ _ _ _ _=>di (n:=2) K rfl (aA (aq (i:=0) (show (["_law_head","_law_other","_law_settled","_law_name"]:List Str).Nodup by decide +kernel) rfl (ba rfl)) (aA (aq (i:=1) (show (["_law_head","_law_other","_law_settled","_law_name"]:List Str).Nodup by decide +kernel) rfl (ba rfl)) bF)))
       (λ_ _ _ _ _=>gP (br i8 (pv 0) (pv 3) (cw _)))
       (λ_ _ _ _ _=>dF (dG K) (pv 1) (pv 2) rfl)) aj))) (iR (br iS (pv 12) (pv 11) rfl))))
     (ao (bT (fh e_ fc ff bh (pv 11) (ab (pv 12) aj)))) aY)))))
  (ak (aB (i:=13) dX.nd rfl (ba rfl) (aL (dW rfl) rfl T.all boot_all (ab
   (aT ["_law_name"] [(4,"_law_ended_here"),(5,"_law_met"),(11,"_law_settled")] rfl (aS (pv 3)) (aV rfl rfl) nofun rfl nofun
    (λ_ _ _ _ _=>aq (i:=0) (show (["_law_name","_law_ended_here","_law_met","_law_settled"]:List Str).Nodup by decide +kernel) rfl (ba rfl)) (λ_ _ _ _ _=>bw)
    (λ_ _ _ _ _=>m_ (dF (dG K) (pv 0) (pv 1) rfl) (m_ (dF (dG K) (pv 0) (pv 2) rfl) (kq (dF (dG K) (pv 0) (pv 3) rfl))))) aj)))
  (ao (bu (m_ (pv 13) (kq (bp GV hr rfl (ab (pv 0) (ab (pv 7) aj)))))))))))))))),?_⟩
 nofun
 have ll:=bB cS;refine⟨_,rfl,R,rfl,⟨_,hR⟩,λD hD=>kQ hR cS ∅ hD λH1 s1 eD=>?_⟩;refine goN ?_
 ac_rfl
 refine⟨_,rfl,R,rs,aa,true,rfl,s1.seq hR,cS.same s1,rM,λEn H2 fE s2 eE lE=>?_⟩;refine goN ?_
 ac_rfl
 have Rq:iK ((hm aa).map V.str) none (some 1)=((hm aa).take 1).map V.str:=rW (hm aa) 1;have zo:(hm aa).length=aa.length:=by unfold hm;rw [av]
 refine⟨_,rfl,_,rfl,D,_,rfl,aH.of (s2 _ _ eD),λM0 Zl=>?_⟩;rw [Rq];have XR:((hm aa).take 1).length<=1:=by rw [d7];omega
 have TR:wj aa ((hm aa).take 1):=λi h e=>by
  have li:=(bc.mp e).1;have:i=0:=by omega
  subst this;rw [tD ∅] at e;rw [bo] at e;obtain⟨r0,e0,rfl⟩:=b9.mp e;exact .inl ⟨r0,e0,rfl⟩
 generalize (hm aa).take 1=m0 at XR TR;have k3:=af Zl (.lst (m0.map V.str));have s3:=(s1.trans s2).trans k3;have Jo:=k3 _ _ (s2 _ _ eD);have RH:=k3 _ _ eE;have Vi:upd H2 M0 (.lst (m0.map V.str)) M0=some (.lst (m0.map V.str)):=ae;generalize upd H2 M0 (.lst (m0.map V.str))=H3 at k3 s3 Jo RH Vi;refine goN ?_
 ac_rfl
 let uR:qt:=λi σ H4=>∃(M:Addr) (ms:List Str)(y1 y2 y6:Option V),σ=[aI R,y1,y2,aI D,aI En,aI M,y6,none,none,none,none,none,none,none]/\aC H3 H4/\H4 M=some (.lst (ms.map V.str))/\ms.length<=8+200 * i/\wj aa ms
 refine⟨_,rfl,R,rfl,⟨_,s3.seq hR⟩,cf (xs:=rs.map V.ref) uR ⟨M0,m0,_,_,_,rfl,λ_ _ h=>h,Vi,∅,TR⟩ ?_ ?_ ?_⟩
 .rintro i σ H4 _ ⟨M,ms,y1,y2,y6,rfl,s4,_⟩;exact s4.seq (s3.seq hR)
 .intro i x σ H4 ex qI
  ac_nf0
  obtain⟨M,ms,y1,y2,y6,rfl,s4,eM,lM,mO⟩:=qI;have li:=(bc.mp ex).1;rw [av] at li;refine goN ?_
  ac_nf
  let AX:qt:=λj σ H5=>∃(M:Addr) (ms:List Str)(y1 y2:Option V),σ=[aI R,y1,y2,aI D,aI En,aI M,some x,none,none,none,none,none,none,none]/\aC H3 H5/\H5 M=some (.lst (ms.map V.str))/\ms.length<=8+200 * i+6 * j/\wj aa ms
  refine⟨_,rfl,R,rfl,⟨_,s4.seq (s3.seq hR)⟩,cf (xs:=rs.map V.ref) AX ⟨M,ms,_,_,rfl,s4,eM,∅,mO⟩ ?_ ?_ ?_⟩
  .rintro j σ H5 _ ⟨M,ms,y1,y2,rfl,s5,_⟩;exact s5.seq (s3.seq hR)
  .intro j x2 σ H5 kY qI
   ac_nf0
   obtain⟨M,ms,y1,y2,rfl,s5,eM,lM,mO⟩:=qI;have lj:=(bc.mp kY).1;rw [av] at lj;rw [bo] at kY;obtain⟨r,er,rfl⟩:=b9.mp kY;obtain⟨ru,e1,p,v1,v2⟩:=cS.get er;have gA:=rM.uD ru (cy e1);have yW:=s3.trans s5;refine⟨r,_,rfl,yW.tup v1,rfl,_,_,rfl,_,_,rfl,rfl,?_⟩;refine⟨_,rfl,_,rfl,M,_,rfl,.inl (aH.of eM),rfl,bU _,_,rfl,?_⟩;refine cu (λc=>?_) (λc=>?_)
   .refine⟨_,rfl,_,rfl,p,rfl,⟨_,yW.tup v2⟩,λD2 jb=>fM (xs:=ru.2.map V.str) (λk ys σ2 H6=>∃zs:List Str,ys=zs.map V.str/\zs.length<=k/\(∃y0,σ2=[y0,aI D,aI M])/\aC H5 H6/\H6 D2=some (.lst ys)/\∀z∈zs,z∈ru.2)
     ⟨[],rfl,aG _,⟨none,rfl⟩,af jb _,ae,λ_ h=>(by cases h)⟩ (λk ys σ2 H6 _ h=>?_) (λk v ys σ2 H6 ex h=>?_) (λys σ2 H6 h=>?_)⟩
    .obtain⟨_,_,_,_,s6,_⟩:=h;exact s6.tup (yW.tup v2)
    .obtain⟨zs,rfl,lz,⟨y0,rfl⟩,s6,A5,zm⟩:=h;have lk:=(bc.mp ex).1;rw [av] at lk;rw [bo] at ex;obtain⟨z,ez,rfl⟩:=b9.mp ex;refine goN ?_;refine⟨_,rfl,_,rfl,D,_,rfl,.inl (aH.of (s6 _ _ (s5 _ _ Jo))),rfl,bU _,_,rfl,?_⟩;refine cu (λc1=>?_) (λc1=>?_)
     .refine⟨_,rfl,_,rfl,M,_,rfl,.inl (aH.of (s6 _ _ eM)),rfl,bU _,_,rfl,?_⟩;refine cu (λc2=>?_) (λc2=>?_)
      .refine⟨_,rfl,A5,bf (by rw [av];omega),zs++[z],by rw [bC];rfl,by rw [bO];simp;omega,⟨_,rfl⟩,λb o hb=>?_,ae,λy hy=>(cD.mp hy).elim (zm y) λq=>(cT.mp q) ▸ cy ez⟩;rw [ai (λz=>by rw [z,jb] at hb;cases hb)];exact s6 b o hb
      exact⟨zs,rfl,∅,⟨_,rfl⟩,s6,A5,zm⟩
     refine hJ ?_;exact⟨zs,rfl,∅,⟨_,rfl⟩,s6,A5,zm⟩
    obtain⟨zs,rfl,lz,_,s6,A5,zm⟩:=h;have cm:ru.1∈ms:=dA ((dI _ _).symm.trans c);rw [av] at lz;refine⟨M,D2,_,_,rfl,rfl,s6 _ _ eM,A5,fits (by rw [av,av];omega),λM2 Zk=>?_⟩;rw [<-bC];refine⟨M2,ms++zs,_,_,rfl,(s5.trans s6).trans (af Zk _),ae,by rw [bO];omega,mO.app (cy e1) cm zm⟩
   exact⟨M,ms,_,_,rfl,s5,eM,∅,mO⟩
  rintro σ H5 ⟨M,ms,y1,y2,rfl,s5,eM,lM,mO⟩;rw [av,ll] at lM;exact⟨M,ms,_,_,_,rfl,s5,eM,∅,mO⟩
 rintro σ H4 ⟨M,ms,y1,y2,y6,rfl,s4,eM,lM,mO⟩;have vj:=s3.trans s4;refine⟨_,rfl,R,rs,aa,false,rfl,vj.seq hR,cS.same vj,rM,λEm H5 fEm s5 Vk lEm=>?_⟩;refine goN ?_
 ac_rfl
 refine⟨tE,λAl Q9=>?_⟩;have k6:=af Q9 (.lst []);have s6:=(vj.trans s5).trans k6;have Vn:=k6 _ _ (s5 _ _ (s4 _ _ Jo));have Vl:=k6 _ _ (s5 _ _ (s4 _ _ RH));have Vh:=k6 _ _ (s5 _ _ eM);have M7:=k6 _ _ Vk;have Vr:upd H5 Al (.lst []) Al=some (.lst []):=ae;have nA:∀b o,H5 b=some o->b≠Al:=λb o h z=>by rw [z,Q9] at h;cases h
 have Xq:=nA _ _ (s5 _ _ (s4 _ _ Jo));have Xp:=nA _ _ (s5 _ _ (s4 _ _ RH));have Xo:=nA _ _ (s5 _ _ eM);have Xn:=nA _ _ Vk;have Z4:H Al=none:=(vj.trans s5).free Q9;generalize upd H5 Al (.lst [])=H6 at k6 s6 Vn Vl Vh M7 Vr;refine goN ?_
 ac_rfl
 let Kp:Hp->Prop:=λH7=>aC H H7/\H7 D=some (.lst ((hm aa).map V.str))/\H7 En=some (.lst ((cQ true aa).map V.str))/\H7 M=some (.lst (ms.map V.str))/\H7 Em=some (.lst ((cQ false aa).map V.str))
 have iW:∀{H7 H8:Hp},Kp H7->aC H7 H8->Kp H8:=λh s=>⟨h.1.trans s,s _ _ h.2.1,s _ _ h.2.2.1,s _ _ h.2.2.2.1,s _ _ h.2.2.2.2⟩;have LQ:∀{H7:Hp}{xs:List V},Kp H7->Kp (upd H7 Al (.lst xs)):=λh=>⟨λb o hb=>by rw [ai (λz=>by rw [z,Z4] at hb;cases hb)];exact h.1 b o hb,by rw [ai Xq];exact h.2.1,by rw [ai Xp];exact h.2.2.1,by rw [ai Xo];exact h.2.2.2.1,by rw [ai Xn];exact h.2.2.2.2⟩
 let G5:Hp->List Addr->List (Str×Str)->Prop:=λH7 as fP=>Paired (λa (pr:Str×Str)=>aZ K H7 a [.str pr.1,.str pr.2]) as fP
 let Nx:qt:=λi σ H7=>∃(as:List Addr)(fP:List (Str×Str))(y1 y2 y6 y9 wt:Option V),σ=[aI R,y1,y2,aI D,aI En,aI M,y6,aI Em,aI Al,y9,wt,none,none,none]/\Kp H7/\H7 Al=some (.lst (as.map V.ref))/\G5 H7 as fP/\as.length<=6 * i/\SI aa (aa.take i) fP
 refine⟨_,rfl,R,rfl,⟨_,s6.seq hR⟩,cf (xs:=rs.map V.ref) Nx ⟨[],[],_,_,_,_,_,rfl,⟨s6,Vn,Vl,Vh,M7⟩,Vr,.nil,by simp,λru h=>(by simp at h)⟩ ?_ ?_ ?_⟩
 .rintro i σ H7 _ ⟨as,fP,y1,y2,y6,y9,wt,rfl,kp,_⟩;exact kp.1.seq hR
 .intro i x2 σ H7 kY qI
  ac_nf0
  obtain⟨as,fP,y1,y2,y6,y9,wt,rfl,kp,eA,pA,lA,aO⟩:=qI;have lj:=(bc.mp kY).1;rw [av] at lj;rw [bo] at kY;obtain⟨r,er,rfl⟩:=b9.mp kY;obtain⟨ru,e1,p,v1,v2⟩:=cS.get er;have gA:=rM.uD ru (cy e1);refine⟨r,_,rfl,kp.1.tup v1,rfl,_,_,rfl,_,_,rfl,rfl,?_⟩;refine⟨_,rfl,p,_,rfl,.inr (kp.1.tup v2),_,rfl,by rw [av];omega,by rw [av];omega,?_⟩;rw [av,jY]
  let Iz4:qt:=λj σ H8=>∃(as:List Addr)(fP:List (Str×Str))(y9 wt:Option V),σ=[aI R,some (.str ru.1),aI p,aI D,aI En,aI M,y6,aI Em,aI Al,y9,wt,none,none,none]/\Kp H8/\H8 Al=some (.lst (as.map V.ref))/\G5 H8 as fP/\as.length<=6 * i+j/\SI aa (aa.take i) fP/\∀(j2:Nat)(z2:Str),j2 < j->DK aa ru j2 z2->(ru.1,z2)∈fP
  refine iI (n:=ru.2.length) Iz4 ⟨as,fP,_,_,rfl,kp,eA,pA,∅,aO,λj2 _ h=>by omega⟩ ?_ ?_
  .intro j σ H8 hj qI
   ac_nf0
   obtain⟨as,fP,y9,wt,rfl,kp,eA,pA,lA,aO,aJ⟩:=qI;obtain⟨z,ez⟩:∃z,ru.2[j]?=some z:=⟨ru.2[j]'∅,c_ ∅⟩;have VG:qL (ru.2.map V.str) (0+(j:Int))=some (.str z):=by
    rw [mF];exact dN (by rw [bo,ez];rfl)
   have eq1:=rW ru.2 j;have eq2:=AI ru.2 j;have XM:(ru.2.take j).length<=ru.2.length:=by rw [d7];omega
   have XJ:(ru.2.drop (j+1)).length<=ru.2.length:=by rw [sJ];omega
   have H_:∀y,y∈ru.2.take j++ru.2.drop (j+1)->∃k,k≠j/\ru.2[k]?=some y:=λy hy=>by
    rcases cD.mp hy with h | h
    .obtain⟨k,lk,ek⟩:=lI h;exact⟨k,∅,ek⟩
    obtain⟨k,ek⟩:=fI h;rw [List.getElem?_drop] at ek;exact⟨j+1+k,∅,ek⟩
   generalize ru.2.take j=q1 at eq1 XM H_;generalize ru.2.drop (j+1)=q2 at eq2 XJ H_;refine goN ?_
   ac_rfl
   refine⟨_,rfl,_,rfl,_,rfl,p,_,rfl,kp.1.tup v2,λt1 H9 s9 e9=>?_⟩;rw [eq1] at e9;refine⟨_,rfl,_,rfl,_,_,rfl,rfl,_,rfl,p,_,rfl,s9.tup (kp.1.tup v2),λt2 HA sA Ei=>?_⟩;rw [eq2] at Ei;refine⟨t1,t2,_,_,rfl,rfl,sA.tup e9,Ei,fits (by rw [av,av];omega),λt3 HB sB eB=>?_⟩;rw [<-bC] at eB;refine goN ?_
   ac_rfl
   have Pd:=s9.trans (sA.trans sB);have Gg:=iW kp Pd;have RL:=Pd _ _ eA;have Tt:G5 HB as fP:=Paired.fj pA λa pr z=>Pd.tup z;have vB:∀{HC:Hp},aC HB HC->¬DK aa ru j z->∃(as:List Addr)(fP:List (Str×Str))(V1 OS:Option V),[aI R,some (.str ru.1),aI p,aI D,aI En,aI M,y6,aI Em,aI Al,some (.int (0+(j:Int))),aI t3,none,none,none]=[aI R,some (.str ru.1),aI p,aI D,aI En,aI M,y6,aI Em,aI Al,V1,OS,none,none,none]/\Kp HC/\HC Al=some (.lst (as.map V.ref))/\G5 HC as fP/\as.length<=6 * i+(j+1)/\SI aa (aa.take i) fP/\∀(j2:Nat)(z2:Str),j2 < j+1->DK aa ru j2 z2->(ru.1,z2)∈fP:=λ{HC} sC nl=>⟨as,fP,_,_,rfl,iW Gg sC,sC _ _ RL,Paired.fj Tt λa pr z=>sC.tup z,∅,aO,λj2 z2 h lo=>by
    by_cases c:j2 < j
    .exact aJ j2 z2 c lo
    have:j2=j:=by omega
    subst this;have e2:=lo.1;rw [ez] at e2;cases e2;exact absurd lo nl⟩
   refine⟨_,rfl,_,rfl,p,_,_,_,rfl,rfl,Gg.1.tup v2,VG,_,rfl,D,_,rfl,.inl (aH.of Gg.2.1),rfl,bU _,_,rfl,?_⟩;refine cu (λc1=>?_) (λc1=>?_)
   .refine⟨_,rfl,t3,rfl,⟨_,eB⟩,λD2 jb=>gJ (zs:=q1++q2) [aI Em] (λz=>decide (z∈cQ false aa)) rfl eB (by rw [bO];omega) jb (λz _ H5 Qy s5 hq=>?_) λHC sC eC=>?_⟩
    .refine⟨_,rfl,_,rfl,Em,_,rfl,.inl (aH.of (s5 _ _ Gg.2.2.2.2)),rfl,bU _,?_⟩;rw [dI];exact hq
    refine⟨D2,_,rfl,aH.of eC,_,rfl,?_⟩;refine cu (λc2=>?_) (λc2=>?_)
    .have DY:=iW Gg sC;refine⟨_,rfl,.inl ⟨rfl,_,aH.of (sC _ _ RL)⟩,_,rfl,_,rfl,_,rfl,p,_,_,_,rfl,rfl,DY.1.tup v2,VG,kW,λt ht=>?_⟩;have kD:=af ht (.tup [.str ru.1,.str z]);have sD:=sC.trans kD;have vD:aZ K (upd HC t (.tup [.str ru.1,.str z])) t [.str ru.1,.str z]:=aZ.of ae;generalize upd HC t (.tup [.str ru.1,.str z])=HD at kD sD vD;have RK:=sD _ _ RL;refine⟨Al,_,_,rfl,rfl,RK,bf (by rw [av];omega),?_⟩;exact⟨as++[t],fP++[(ru.1,z)],_,_,rfl,LQ (iW Gg sD),by rw [ae,bC];rfl,f_ (Paired.fj Tt λa pr z=>aX RK (sD.tup z)) (aX RK vD),by rw [bO];simp;omega,λr uU j2 z2 lo=>eV _ (aO r uU j2 z2 lo),λj2 z2 h lo=>by
      by_cases c:j2 < j
      .exact eV _ (aJ j2 z2 c lo)
      have:j2=j:=by omega
      subst this;have e2:=lo.1;rw [ez] at e2;cases e2;exact dO _ b0⟩
    refine vB sC λlo=>c2 ?_;rw [all_map];refine d5.mpr λy hy=>eU ?_;obtain⟨k,nk,ek⟩:=H_ y hy;exact lo.2.2 k y nk ek
   refine hJ ?_;exact vB (λ_ _ h=>h) λlo=>c1 ((dI _ _).trans (eU lo.2.1))
  rintro σ H8 ⟨as,fP,y9,wt,rfl,kp,eA,pA,lA,aO,aJ⟩;refine⟨as,fP,_,_,_,_,_,rfl,kp,eA,pA,∅,λr uU j2 z2 lo=>?_⟩;rw [cI,e1] at uU;rcases cD.mp uU with h | h
  .exact aO r h j2 z2 lo
  have:r=ru:=cT.mp h;subst this;exact aJ j2 z2 (bc.mp lo.1).1 lo
 rintro σ H7 ⟨as,fP,y1,y2,y6,y9,wt,rfl,kp,eA,pA,lA,aO⟩;rw [av,ll] at lA aO;rw [cC] at aO;refine⟨tE,λCm Q8=>?_⟩;have k8:=af Q8 (.lst []);have Qc:=iW kp k8;have Vq:=k8 _ _ eA;have Tv:G5 (upd H7 Cm (.lst [])) as fP:=Paired.fj pA λa pr z=>k8.tup z;have Vo:upd H7 Cm (.lst []) Cm=some (.lst []):=ae;have nC:∀b o,H7 b=some o->b≠Cm:=λb o h z=>by rw [z,Q8] at h;cases h
 have Xm:=nC _ _ eA;have Xl:=nC _ _ kp.2.1;have Xk:=nC _ _ kp.2.2.1;have Xj:=nC _ _ kp.2.2.2.1;have Xh:=nC _ _ kp.2.2.2.2;have Z3:H Cm=none:=kp.1.free Q8;have LP:∀{H7:Hp}{xs:List V},Kp H7->Kp (upd H7 Cm (.lst xs)):=λh=>⟨λb o hb=>by rw [ai (λz=>by rw [z,Z3] at hb;cases hb)];exact h.1 b o hb,by rw [ai Xl];exact h.2.1,by rw [ai Xk];exact h.2.2.1,by rw [ai Xj];exact h.2.2.2.1,by rw [ai Xh];exact h.2.2.2.2⟩;generalize upd H7 Cm (.lst [])=H8 at k8 Qc Vq Tv Vo;refine goN ?_
 ac_rfl
 have X3:=bB pA
 let Iz5:qt:=λi σ H9=>∃(cs:List Str)(y1 y2 y6 y9 wt Es DP:Option V),σ=[aI R,y1,y2,aI D,aI En,aI M,y6,aI Em,aI Al,y9,wt,aI Cm,Es,DP]/\Kp H9/\H9 Al=some (.lst (as.map V.ref))/\G5 H9 as fP/\H9 Cm=some (.lst (cs.map V.str))/\cs.length<=32 * i/\Ky aa fP cs
 refine⟨_,rfl,R,rfl,⟨_,Qc.1.seq hR⟩,cf (xs:=rs.map V.ref) Iz5 ⟨[],_,_,_,_,_,_,_,rfl,Qc,Vq,Tv,Vo,by simp,⟨by simp,λ_ h=>(by cases h),λi h e=>(by cases e)⟩⟩ ?_ ?_ ?_⟩
 .rintro i σ H9 _ ⟨cs,y1,y2,y6,y9,wt,Es,DP,rfl,DZ,_⟩;exact DZ.1.seq hR
 .intro i x σ H9 ex qI
  ac_nf0
  obtain⟨cs,y1,y2,y6,y9,wt,Es,DP,rfl,DZ,Vp,Tu,RJ,X5,Jv⟩:=qI;have li:=(bc.mp ex).1;rw [av] at li;refine goN ?_
  ac_nf
  let Iz6:qt:=λj σ HA=>∃(cs:List Str)(Es DP:Option V),σ=[aI R,y1,y2,aI D,aI En,aI M,some x,aI Em,aI Al,y9,wt,aI Cm,Es,DP]/\Kp HA/\HA Al=some (.lst (as.map V.ref))/\G5 HA as fP/\HA Cm=some (.lst (cs.map V.str))/\cs.length<=32 * i+j/\Ky aa fP cs
  refine⟨_,rfl,D,rfl,⟨_,aH.of DZ.2.1⟩,cf (xs:=(hm aa).map V.str) Iz6 ⟨cs,_,_,rfl,DZ,Vp,Tu,RJ,∅,Jv⟩ ?_ ?_ ?_⟩
  .rintro j σ HA _ ⟨cs,Es,DP,rfl,LR,_⟩;exact aH.of LR.2.1
  .intro j x2 σ HA kY qI
   ac_nf0
   obtain⟨cs,Es,DP,rfl,LR,Kn,Ll,Km,T5,Oz⟩:=qI;have lj:=(bc.mp kY).1;rw [av] at lj;rw [bo] at kY;obtain⟨nm,enm,rfl⟩:=b9.mp kY;refine goN ?_;refine⟨_,rfl,Al,rfl,⟨_,aH.of Kn⟩,λD2 jb=>cg (xs:=as.map V.ref) (λk ys σ2 HB=>∃bs:List Bool,ys=bs.map V.bl/\bs.length<=k/\(∃y0 y1,σ2=[y0,y1,aI Cm,some (.str nm)])/\aC HA HB/\HB D2=some (.lst ys)/\(bs.all id=true->∀pr∈fP.take k,pr.1=nm->pr.2∈cs))
    ⟨[],rfl,aG _,⟨none,none,rfl⟩,af jb _,ae,λ_ _ h=>(by simp at h)⟩ (λk ys σ2 HB _ h=>?_) (λk v ys σ2 HB ex h=>?_) (λys σ2 HB h=>?_)⟩
   .obtain⟨_,_,_,_,sB,_⟩:=h;exact aH.of (sB _ _ Kn)
   .obtain⟨bs,rfl,lz,⟨u0,u1,rfl⟩,sB,eB,zA⟩:=h;have lk:=(bc.mp ex).1;rw [av] at lk;rw [bo] at ex;obtain⟨a,ea,rfl⟩:=b9.mp ex;obtain⟨pr,U5⟩:∃pr,fP[k]?=some pr:=⟨fP[k]'∅,c_ ∅⟩;obtain⟨a',Vf,va⟩:=Paired.at_ Ll k pr U5;rw [ea] at Vf;cases Vf;have tk:fP.take (k+1)=fP.take k++[pr]:=by rw [cI,U5];rfl
    refine⟨a,_,rfl,sB.tup va,rfl,_,_,rfl,_,_,rfl,rfl,?_⟩;refine⟨_,rfl,_,rfl,rfl,_,rfl,?_⟩;refine cu (λc1=>?_) (λc1=>?_)
    .refine⟨_,rfl,_,rfl,Cm,_,rfl,.inl (aH.of (sB _ _ Km)),rfl,bU _,?_⟩;rw [dI];refine⟨eB,bf (by rw [av];omega),bs++[decide (pr.2∈cs)],by rw [bC];rfl,by rw [bO];simp;omega,⟨_,_,rfl⟩,λb o hb=>?_,ae,λMI p2 qG e2=>?_⟩
     .rw [ai (λz=>by rw [z,jb] at hb;cases hb)];exact sB b o hb
     rw [List.all_append,jX] at MI;rw [tk] at qG;rcases cD.mp qG with h | h
     .exact zA MI.1 p2 h e2
     rw [cT.mp h];have:=MI.2;simpa using this
    refine⟨bs,rfl,∅,⟨_,_,rfl⟩,sB,eB,λMI p2 qG e2=>?_⟩;rw [tk] at qG;rcases cD.mp qG with h | h
    .exact zA MI p2 h e2
    have:p2=pr:=cT.mp h;rw [this] at e2;exact absurd (eU (congrArg V.str e2)) c1
   obtain⟨bs,rfl,lz,_,sC,eC,zA⟩:=h;rw [av] at lz zA;rw [X3,cC] at zA;have DY:=iW LR sC;have vB:∃(cs:List Str)(OR OQ:Option V),[aI R,y1,y2,aI D,aI En,aI M,some x,aI Em,aI Al,y9,wt,aI Cm,some (.str nm),DP]=[aI R,y1,y2,aI D,aI En,aI M,some x,aI Em,aI Al,y9,wt,aI Cm,OR,OQ]/\Kp HB/\HB Al=some (.lst (as.map V.ref))/\G5 HB as fP/\HB Cm=some (.lst (cs.map V.str))/\cs.length<=32 * i+(j+1)/\Ky aa fP cs:=⟨cs,_,_,rfl,DY,sC _ _ Kn,Paired.fj Ll λa pr z=>sC.tup z,sC _ _ Km,∅,Oz⟩;refine⟨D2,_,rfl,aH.of eC,_,rfl,?_⟩;refine cu (λc2=>?_) (λc2=>?_)
   .refine⟨_,rfl,_,rfl,Cm,_,rfl,.inl (aH.of (sC _ _ Km)),rfl,bU _,_,rfl,?_⟩;refine cu (λc1=>?_) (λc1=>?_)
    .have RI:=sC _ _ Km;have nc:nm∉cs:=λh=>by
      have VE:(!IF (V.str nm) (cs.map V.str))=true:=c1;rw [dI,eU h] at VE;cases VE
     refine⟨_,rfl,.inl ⟨rfl,_,aH.of RI⟩,_,rfl,Cm,_,_,rfl,rfl,RI,bf (by rw [av];omega),?_⟩;exact⟨cs++[nm],_,_,rfl,LP DY,by rw [ai Xm];exact sC _ _ Kn,Paired.fj Ll λa pr z=>aX RI (sC.tup z),by rw [ae,bC];rfl,by rw [bO];simp;omega,Oz.add nc (cy enm) λz hz=>zA c2 (nm,z) hz rfl⟩
    exact vB
   refine hJ ?_;exact vB
  rintro σ HA ⟨cs,Es,DP,rfl,LR,Kn,Ll,Km,T5,Oz⟩;rw [av,zo] at T5;exact⟨cs,_,_,_,_,_,_,_,rfl,LR,Kn,Ll,Km,∅,Oz⟩
 rintro σ H9 ⟨cs,y1,y2,y6,y9,wt,Es,DP,rfl,DZ,Vp,Tu,RJ,X5,Jv⟩;refine⟨_,rfl,D,rfl,⟨_,aH.of DZ.2.1⟩,λD3 I8=>nY (zs:=hm aa) [aI En,aI M,aI Cm] (λz=>decide (z∈cQ true aa) && (decide (z∈ms) && decide (z∈cs))) rfl (aH.of DZ.2.1) ∅ I8 (λz _ H5 Qy s5 hq=>?_) λHC sC eC=>?_⟩
 .refine⟨_,rfl,_,rfl,En,_,rfl,.inl (aH.of (s5 _ _ DZ.2.2.1)),rfl,bU _,_,rfl,?_⟩;rw [dI];show if decide (z∈cQ true aa)=true then _ else _;refine cu (λc=>?_) (λc=>?_)
  .rw [c,jU] at hq;refine⟨_,rfl,_,rfl,M,_,rfl,.inl (aH.of (s5 _ _ DZ.2.2.2.1)),rfl,bU _,_,rfl,?_⟩;rw [dI];show if decide (z∈ms)=true then _ else _;refine cu (λc=>?_) (λc=>?_)
   .rw [c,jU] at hq;refine⟨_,rfl,_,rfl,Cm,_,rfl,.inl (aH.of (s5 _ _ RJ)),rfl,bU _,?_⟩;rw [dI];exact hq
   have c':decide (z∈ms)=false:=by simpa using c
   rw [c',mM] at hq;exact hq
  have c':decide (z∈cQ true aa)=false:=by simpa using c
  rw [c',mM] at hq;exact hq
 refine⟨D3,_,rfl,aH.of eC,?_⟩;rw [all_map];refine⟨_,rfl,_,rfl,?_⟩;have DY:=iW DZ sC;have VA:VU aa cs:=λi h e ru gA er j z lo=>Jv.co i h e z (er ▸ aO ru gA j z lo);refine cu (λhb=>?_) (λhb=>q _ _ DY.1 λh=>(by cases h));have al:=λz hz=>ir.mp (d5.mp hb z hz);have ca:∀z∈hm aa,z∈cs:=λz hz=>dA (ir.mp (al z hz).2).2;refine⟨_,rfl,_,rfl,R,Em,rs,aa,cQ false aa,rfl,DY.1.seq hR,cS.same DY.1,rM,DY.2.2.2.2,∅,λb HF sF hv=>?_⟩;refine q _ _ (DY.1.trans sF) λFm=>⟨ms,cs,?_⟩;obtain⟨v1,v2⟩:=hv Fm;have ahd:JJ aa (cQ false aa) cs:=λru gA hp=>by
  have hc:=ca _ (gW gA);refine⟨hc,λp iX=>?_⟩;obtain⟨j,ej⟩:=fI iX;exact jC cs p _ (VA _ _ (kK cs ru.1 hc) ru gA rfl j p ⟨ej,(gH false aa).sub p (hp p iX),λk y _ ey=>hp y (cy ey)⟩)
 have lcs:=fC cs _ Jv.cn Jv.ch;refine⟨mO,λz hz=>dA (ir.mp (al z hz).2).1,Jv.cn,Jv.ch,VA,ca,v1,_,Bk (λx hx=>qa hx) ahd (n:=aa.length) ∅,λh hh=>v2 h (vM.mpr hh)⟩
end
theorem nP {α β:Type}{F:α->β->Prop}:∀{xs:List α}{ys:List β}{Et:List α}{SJ:List β},Paired F xs ys->Paired F Et SJ->Paired F (xs++Et) (ys++SJ)
 | _,_,_,_,.nil,h=>h
 | _,_,_,_,.cons a b,h=>.cons a (nP b h)
def BE {aa:List au}{nms ws:List Str}(nd:nms.Nodup)(n9:nms.length<=9)(dj:∀x∈nms,x∉ws)(hl:aa.length=nms.length)
  (hs:∀(j:Nat)(ru:au),aa[j]?=some ru->nms[j]?=some ru.1/\uQ nms ws j ru.2):OG aa nms ws:=by
 refine⟨nd,n9,dj,λgi e=>(hs 0 gi e).1,λru h=>?_,λa h e=>?_,λru h=>?_⟩
 .obtain⟨a,e⟩:=fI h;exact cy (hs a ru e).1
 .have la:=(bc.mp e).1;have e2:aa[a]?=some (aa[a]'∅):=c_ ∅;obtain⟨x1,x2⟩:=hs a _ e2;rw [e] at x1;refine⟨(aa[a]'∅).2,?_,?_⟩
  .rw [show h=(aa[a]'∅).1 from gC x1];exact cy e2
  rcases x2 with ⟨n',wx,e3,_,hw,_,iX⟩ | ⟨l,hw,_⟩
  .rcases iX with q | q
   .exact .inl ⟨n',wx,[],e3,q,hw,λ_ h=>(by cases h)⟩
   exact .inl ⟨n',[],wx,e3,q,λ_ h=>(by cases h),hw⟩
  exact .inr ⟨∅,hw⟩
 obtain⟨a,e⟩:=fI h;rcases (hs a ru e).2 with ⟨n',wx,_,NJ,hw,_,iX⟩ | ⟨_,hw,_⟩
 .obtain⟨y,hy⟩:=List.exists_mem_of_ne_nil wx NJ;refine .inl ⟨y,?_,hw y hy⟩;rcases iX with q | q
  .rw [q];exact eV _ hy
  rw [q];exact cz _ hy
 cases hc:ru.2 with
 | nil=>exact .inr (.inl rfl)
 | cons p r=>exact .inl ⟨p,b0,hw p (by rw [hc];exact b0)⟩
def NA (nms ws:List Str)(aa:List au):Prop:=∀ru∈aa,ru.1∈nms/\ru.2.length<=6/\∀x∈ru.2,x∈nms++ws
structure NB (c:Int)(aa:List au):Prop where
 one:1<=aa.length
 most:aa.length<=8
 ins:∃nms,Nu c nms/\NA nms (gM c) aa
 good:∃rk b,Good aa rk b
section
def By (K:a8):Sp:=λvs H Q _=>∃(S:Addr)(ns:List Int) (at_:Nat),vs=[.ref S,.int (at_:Int)]/\aH K H S (ns.map V.int)/\ns.length<=1000 /\
 ∀(c:Int)(R:Addr)(rs:List Addr)(aa:List au)(H':Hp),c=cellAt ns at_->H R=none->aC H H'->H' R=some (.lst (rs.map V.ref))->bE K H' rs aa->NB c aa->Q (.ref R) H'
def ki:aN ["_law_script","_law_at","_law_cell","_law_names_here","_law_words_here","_law_rules","_law_more_here","_law_free"] ["_law_script","_law_at"] (az BQ):=iY rfl rfl rfl rfl nofun
def E2 (F:ik K "_law_grammar" "_law_grammar" BQ f fd)(T:Txt mg)(GC:aF P w K mg base 2 "_law_cell_at" ["_law_script","_law_k"] (mV K))(GN:aF P w K mg base 2 "_law_names" ["_law_cell"] yO)(GW:aF P w K mg base 2 "_law_words" ["_law_cell"] vb)
  (GS:aF P w K mg base 2 "_law_skeleton" ["_law_script","_law_at","_law_names_here","_law_words_here"] (Bu K))(GM:aF P w K mg base 2 "_law_more" ["_law_script","_law_at","_law_names_here","_law_many","_law_words_here"] (Bw K))(GG:aF P w K mg base 2 "_law_good" ["_law_rules"] (Bz K)) :
  bN P w K mg base fS 3 f fd ["_law_script","_law_at"] (By K):=by
 refine F.ok ki (λvs H Q E h=>?_) (λd0 A outer s H vs Q E hr h=>?_)
 .obtain⟨S,ns,at_,rfl,_⟩:=h;rfl
 obtain⟨S,ns,at_,rfl,hS,hn,q⟩:=h;refine⟨_,ak (aB (i:=2) ki.nd rfl (ba rfl) (bp GC hr rfl (ab (pv 0) (ab (pv 1) aj))))
  (ak (aB (i:=3) ki.nd rfl (ba rfl) (bp GN hr rfl (ab (pv 2) aj)))
  (ak (aB (i:=4) ki.nd rfl (ba rfl) (bp GW hr rfl (ab (pv 2) aj)))
  (ak (aB (i:=5) ki.nd rfl (ba rfl) (bp GS hr rfl (ab (pv 0) (ab (aM dH (pv 1) ar) (ab (pv 3) (ab (pv 4) aj))))))
  (ak (aB (i:=6) ki.nd rfl (ba rfl) (bp GM hr rfl (ab (pv 0) (ab (aM dH (pv 1) ar) (ab (pv 3) (ab (aM cK (aM cV (pv 2) ar) ar) (ab (pv 4) aj)))))))
  (ak (fZ (b8 (br i8 (aM cK (aM cV (pv 2) ar) ar) ar (cw _))
   (ak (aB (i:=7) ki.nd rfl (ba rfl) (bp GM hr rfl (ab (pv 0) (ab (aM dH (pv 1) ar) (ab (pv 3) (ab (aM dH ar (aM cK (aM cV (pv 2) ar) ar)) (ab (pv 4) aj)))))))
   (ao (b8 (dY (bp GG hr rfl (ab (pv 7) aj))) (ao (bu (pv 7))) aY))) aY))
  (ak (b8 (dY (bp GG hr rfl (ab (aM pH (pv 5) (pv 6)) aj))) (ao (bu (aM pH (pv 5) (pv 6)))) aY)
  (ao (bu (pv 5))))))))),?_⟩
 refine⟨_,rfl,_,rfl,S,ns,at_,rfl,hS,hn,λc hc=>?_⟩;have wl:=x_ c;refine⟨_,rfl,c,rfl,λN nms H1 fN s1 eN nk=>?_⟩;have gl:1<=nms.length/\nms.length<=5:=⟨nk.one,nk.Rc⟩;refine⟨_,rfl,c,rfl,λW H2 fW s2 eW=>?_⟩;have BX:=s1.trans s2;have RD:=s2 _ _ eN;refine⟨_,rfl,_,rfl,_,_,rfl,rfl,_,rfl,_,rfl,S,N,W,ns,at_+1,nms,gM c,(by show [V.ref S,V.int ((at_:Int)+1),V.ref N,V.ref W]=_;congr 3),BX.seq hS,hn,RD,eW,∅,∅,∅,∅,λR1 F3 jx H3 f3 s3 e3 Lb l3 Pa=>?_⟩;have zV:=BX.trans s3;obtain⟨m,J2⟩:∃m:Nat,c / 9 % 4=(m:Int):=⟨(c / 9 % 4).toNat,∅⟩;refine⟨_,rfl,_,rfl,_,_,rfl,rfl,_,rfl,_,rfl,_,_,rfl,rfl,⟨nofun,nofun⟩,_,_,rfl,rfl,(by show (0:Int) < 4;decide),_,rfl,S,N,W,ns,at_+4,m,nms,gM c,(by show [V.ref S,V.int ((at_:Int)+4),V.ref N,V.int (c / 9 % 4),V.ref W]=_;rw [J2];congr 3),zV.seq hS,hn,s3 _ _ RD,s3 _ _ eW,∅,∅,∅,∅,λR2 HQ mY H4 f4 s4 e4 NX l4 in4=>?_⟩;have vj:=zV.trans s4;have e34:=s4 _ _ e3;have HR:=Lb.same s4;have O1:=BE nk.nd ∅ nk.dj l3 Pa;have in1:NA nms (gM c) jx:=λru h=>by
  refine⟨O1.Fl ru h,?_,λx hx=>?_⟩
  .obtain⟨a,e⟩:=fI h;rcases (Pa a ru e).2 with ⟨n',wx,_,_,_,l2,h | h⟩ | ⟨_,_,l2⟩
   .rw [h,bO];simp;omega
   .rw [h,d6];omega
   omega
  obtain⟨a,e⟩:=fI h;rcases (Pa a ru e).2 with ⟨n',wx,en,_,hw,_,iX⟩ | ⟨_,hw,_⟩
  .have cs:x=n'\/x∈wx:=by
    rcases iX with h | h
    .rw [h] at hx;rcases cD.mp hx with q | q
     .exact .inr q
     exact .inl (cT.mp q)
    rw [h] at hx;rcases bM.mp hx with q | q
    .exact .inl q
    exact .inr q
   rcases cs with rfl | q
   .exact eV _ (cy en)
   exact dO _ (hw x q)
  exact dO _ (hw x hx)
 have Ln:∀{aa:List au}{ms cs:List Str},zN aa ms cs->1<=aa.length->aa.length<=8->NA nms (gM c) aa->NB c aa:=λg a b i=>⟨a,b,⟨nms,nk,i⟩,g.good⟩;have K6:∀{aa:List au},1<=aa.length->aa.length<=8->NA nms (gM c) aa->Small aa:=λa b i=>⟨a,∅,λru h=>(i ru h).2.1⟩;refine⟨λσ H5=>∃y7,σ=[aI S,some (.int (at_:Int)),some (.int c),aI N,aI W,aI R1,aI R2,y7]/\aC H4 H5,?_,?_⟩
 .refine⟨_,rfl,_,_,rfl,rfl,⟨nofun,nofun⟩,_,_,rfl,rfl,(by show (0:Int) < 2;decide),rfl,_,rfl,?_⟩;refine cu (λcc=>?_) (λcc=>?_)
  .have J1:1+c / 9 % 4=((m+1:Nat):Int):=by omega
   refine⟨_,rfl,_,rfl,_,_,rfl,rfl,_,rfl,_,rfl,_,_,rfl,rfl,⟨nofun,nofun⟩,_,_,rfl,rfl,(by show (0:Int) < 4;decide),_,_,rfl,rfl,_,rfl,S,N,W,ns,at_+4,m+1,nms,gM c,(by show [V.ref S,V.int ((at_:Int)+4),V.ref N,V.int (1+c / 9 % 4),V.ref W]=_;rw [J1];congr 3),vj.seq hS,hn,s4 _ _ (s3 _ _ RD),s4 _ _ (s3 _ _ eW),∅,∅,∅,∅,λR3 Tn B2 H5 f5 s5 e5 JP l5 Uc=>?_⟩;have yW:=vj.trans s5;refine⟨_,rfl,R3,Tn,B2,rfl,aH.of e5,JP,K6 ∅ ∅ Uc,λb H6 s6 hb=>⟨b,rfl,?_⟩⟩;refine cu (λc2=>?_) (λc2=>?_)
   .obtain⟨ms,cs,g⟩:=hb c2;exact⟨_,rfl,q c R3 Tn B2 H6 hc (vj.free f5) (yW.trans s6) (s6 _ _ e5) (JP.same s6) (Ln g ∅ ∅ Uc)⟩
   exact⟨_,rfl,s5.trans s6⟩
  exact⟨_,rfl,aC.refl _⟩
 rintro σ H5 ⟨y7,rfl,s5⟩;have yW:=vj.trans s5;have eA:=s5 _ _ e34;have eB:=s5 _ _ e4;have XI:=bB HR;have XH:=bB NX;have Ua:NA nms (gM c) (jx++mY):=λru h=>(cD.mp h).elim (in1 ru) (in4 ru);have DW:1<=(jx++mY).length/\(jx++mY).length<=8:=by rw [bO];omega
 have To:bE K H5 (F3++HQ) (jx++mY):=nP (HR.same s5) (NX.same s5);refine⟨_,rfl,_,rfl,R1,R2,_,_,rfl,rfl,eA,eB,fits (by rw [av,av];omega),λR4 Zh=>?_⟩;rw [<-bC];have k6:=af Zh (.lst ((F3++HQ).map V.ref));have e6:upd H5 R4 (.lst ((F3++HQ).map V.ref)) R4=some (.lst ((F3++HQ).map V.ref)):=ae;generalize upd H5 R4 (.lst ((F3++HQ).map V.ref))=H6 at k6 e6;have F2:=yW.trans k6;refine⟨R4,F3++HQ,jx++mY,rfl,aH.of e6,To.same k6,K6 DW.1 DW.2 Ua,λb H7 s7 hb=>⟨b,rfl,?_⟩⟩;have wy:=k6.trans s7;refine cu (λc2=>?_) (λc2=>?_)
 .obtain⟨ms,cs,g⟩:=hb c2;refine⟨_,rfl,_,rfl,R1,R2,_,_,rfl,rfl,wy _ _ eA,wy _ _ eB,fits (by rw [av,av];omega),λR5 Q0=>?_⟩;rw [<-bC];exact q c R5 (F3++HQ) (jx++mY) _ hc ((F2.trans s7).free Q0) ((F2.trans s7).trans (af Q0 _)) ae ((To.same wy).same (af Q0 _)) (Ln g DW.1 DW.2 Ua)
 exact⟨_,rfl,q c R1 F3 jx H7 hc (BX.free f3) (F2.trans s7) (wy _ _ eA) ((HR.same s5).same wy) ⟨∅,∅,⟨nms,nk,in1⟩,O1.good⟩⟩
end
abbrev BU:Stmt:=top 51
def dS (k:Nat):Str:=toString ((k:Nat):Int)
def eN (k:Nat):Str := "e" ++ dS k
def wN (k:Nat):Str := "w" ++ dS k
def xN (k:Nat):Str := "x" ++ dS k
def zg:List Str:=(List.range 9).map eN
def A2:List Str:=(List.range 8).map wN++((List.range 8).map xN++(["n","(",")"]:List Str))
def Dm:∀k:Nat,k < 9->(dS k).length=1:=by decide +kernel
def CF:zg.Nodup:=by decide +kernel
def Il:∀x∈zg,x∉A2:=by decide +kernel
def pJ {k:Nat}(h:k < 9):zg[k]?=some (eN k):=by unfold zg;rw [bo,List.getElem?_range h];rfl
def RC:("e8":Str)=eN 8:=by decide +kernel
def FO {k:Nat}(h:k < 8):wN k∈A2:=eV _ (cH.mpr ⟨k,jV.mpr h,rfl⟩)
def FN {k:Nat}(h:k < 8):xN k∈A2:=dO _ (eV _ (cH.mpr ⟨k,jV.mpr h,rfl⟩))
def qb {k:Nat}(h:k < 9):eN k∈zg:=cH.mpr ⟨k,jV.mpr h,rfl⟩
structure Dp (k:Nat)(aa:List au):Prop where
 sh:∀ru∈aa,∃a,a < k/\ru.1=eN a/\ru.2.length<=3/\(∀x∈ru.2,x∈zg++A2)/\(ru.2=[eN (a+1)]\/∃p∈ru.2,p∈A2)
 on:∀a,a < k->(eN a,[eN (a+1)])∈aa
 first:∀gi,aa[0]?=some gi->gi.1=eN 0
 uD:aa.length<=3 * k
def rR {aa:List au}{ru:au}(h:∀gi,aa[0]?=some gi->gi.1=eN 0)(e:aa=[]->ru.1=eN 0):∀gi,(aa++[ru])[0]?=some gi->gi.1=eN 0:=λgi hr=>by
 cases aa with
 | nil=>cases hr;exact e rfl
 | cons a r=>exact h gi hr
def Dp.next {k:Nat}{aa:List au}(d:Dp k aa)(hk:k < 8):Dp (k+1) (aa++[(eN k,[eN (k+1)])]):=by
 refine⟨λru h=>?_,λa ha=>?_,rR d.first λh=>?_,by have:=d.uD;rw [bO,gO];omega⟩
 .rcases cD.mp h with h | h
  .obtain⟨a,la,z⟩:=d.sh ru h;exact⟨a,∅,z⟩
  rw [cT.mp h];refine⟨k,∅,rfl,(by show 1<=3;decide),λx hx=>?_,.inl rfl⟩;rw [cT.mp hx];exact eV _ (qb ∅)
 .by_cases c:a < k
  .exact eV _ (d.on a c)
  have:a=k:=by omega
  subst this;exact dO _ b0
 cases k with
 | zero=>rfl
 | succ n=>have:=d.on 0 (Nat.succ_pos _);rw [h] at this;cases this
def Dp.more {k:Nat}{aa:List au}{ps:List Str}(d:Dp (k+1) aa)(h3:ps.length<=3)(J3:∀x∈ps,x∈zg++A2)(hw:∃p∈ps,p∈A2)(uD:aa.length+1<=3 * (k+1)):Dp (k+1) (aa++[(eN k,ps)]):=by
 refine⟨λru h=>?_,λa ha=>eV _ (d.on a ha),rR d.first λh=>?_,by rw [bO,gO];omega⟩
 .rcases cD.mp h with h | h
  .exact d.sh ru h
  rw [cT.mp h];exact⟨k,∅,rfl,h3,J3,.inr hw⟩
 have:=d.on 0 (Nat.succ_pos _);rw [h] at this;cases this
structure DO (aa:List au):Prop where
 one:1<=aa.length
 most:aa.length<=26
 three:∀ru∈aa,ru.1∈zg/\ru.2.length<=3/\∀x∈ru.2,x∈zg++A2
 good:∃rk b,Good aa rk b
def Fv {aa more:List au}{ps:List Str}(d:Dp 8 aa)(hp:ps=[]\/ps=(["n"]:List Str))(hm:more=[]\/more=([(("e8":Str),(["(","e0",")"]:List Str))]:List au)):DO (aa++(("e8":Str),ps)::more):=by
 have Ub:∀ru∈(("e8":Str),ps)::more,ru.1=eN 8/\ru.2.length<=3/\(∀x∈ru.2,x∈zg++A2)/\(ru.2=[]\/∃p∈ru.2,p∈A2):=λru h=>by
  rcases bM.mp h with h | h
  .subst h;refine⟨RC,?_⟩;rcases hp with rfl | rfl
   .exact⟨nofun,λ_ h=>(by cases h),.inl rfl⟩
   exact⟨nofun,nofun,.inr ⟨"n",nofun,nofun⟩⟩
  rcases hm with rfl | rfl
  .cases h
  rw [cT.mp h];exact⟨RC,nofun,nofun,.inr ⟨"(",nofun,nofun⟩⟩
 have J3:∀ru∈aa++(("e8":Str),ps)::more,ru.1∈zg/\ru.2.length<=3/\∀x∈ru.2,x∈zg++A2:=λru h=>by
  rcases cD.mp h with h | h
  .obtain⟨a,la,e,l3,i3,_⟩:=d.sh ru h;exact⟨e ▸ qb ∅,l3,i3⟩
  obtain⟨e,l3,i3,_⟩:=Ub ru h;exact⟨e ▸ qb nofun,l3,i3⟩
 have lm:more.length<=1:=by rcases hm with rfl | rfl <;> decide
 have:=d.uD;refine⟨by rw [bO,d6];omega,by rw [bO,d6];omega,J3,(OG.good (nms:=zg) (ws:=A2) ⟨CF,nofun,Il,λgi e=>?_,λru h=>(J3 ru h).1,λa h e=>?_,λru h=>?_⟩)⟩
 .have h0:=d.on 0 nofun;cases aa with
  | nil=>cases h0
  | cons r rs=>rw [pJ nofun,d.first gi e]
 .have la:=(bc.mp e).1;have l9:zg.length=9:=by decide
  rw [pJ ∅] at e;cases e;by_cases c:a < 8
  .exact⟨[eN (a+1)],eV _ (d.on a c),.inl ⟨eN (a+1),[],[],pJ ∅,rfl,λ_ h=>(by cases h),λ_ h=>(by cases h)⟩⟩
  have:a=8:=by omega
  subst this;refine⟨ps,dO _ (by rw [<-RC];exact b0),.inr ⟨l9,λp h=>?_⟩⟩;rcases hp with rfl | rfl
  .cases h
  rw [cT.mp h];decide +kernel
 rcases cD.mp h with h | h
 .obtain⟨a,la,e,_,_,q⟩:=d.sh ru h;rcases q with q | q
  .refine .inr (.inr ⟨eN (a+1),?_,q⟩);rw [e,uv CF (pJ ∅)];exact pJ ∅
  exact .inl q
 obtain⟨_,_,_,q⟩:=Ub ru h;exact q.elim (λz=>.inr (.inl z)) .inl
structure DI (K:a8)(H H5:Hp)(L:Addr)(rs:List Addr)(aa:List au):Prop where
 sm:aC H H5
 eL:H5 L=some (.lst (rs.map V.ref))
 rl:bE K H5 rs aa
theorem DI.same {K:a8}{H H5 H6:Hp}{L:Addr}{rs:List Addr}{aa:List au}(h:DI K H H5 L rs aa)(s:aC H5 H6):DI K H H6 L rs aa:=⟨h.sm.trans s,s _ _ h.eL,h.rl.same s⟩
def DI.app {K:a8}{H H5:Hp}{L r p:Addr}{rs:List Addr}{aa:List au}{x:Str}{ps:List Str}(h:DI K H H5 L rs aa)(fL:H L=none)(v1:aZ K H5 r [.str x,.ref p])(v2:aZ K H5 p (ps.map V.str)) :
  DI K H (upd H5 L (.lst (rs.map V.ref++[.ref r]))) L (rs++[r]) (aa++[(x,ps)]) :=
 ⟨λb o hb=>by rw [ai (λz=>by rw [z,fL] at hb;cases hb)];exact h.sm b o hb,by rw [ae,bC];rfl,
  f_ (Paired.fj h.rl λ_ _ ⟨q,a,b⟩=>⟨q,aX h.eL a,aX h.eL b⟩) ⟨p,aX h.eL v1,aX h.eL v2⟩⟩
section
def BD (K:a8):Sp:=λvs H Q _=>∃(S:Addr)(ns:List Int),vs=[.ref S]/\aH K H S (ns.map V.int)/\ns.length<=1000 /\
 ∀(R:Addr)(rs:List Addr)(aa:List au)(H':Hp),H R=none->aC H H'->H' R=some (.lst (rs.map V.ref))->bE K H' rs aa->DO aa->Q (.ref R) H'
def mW:aN ["_law_script","_law_rules","_law_k","_law_cell","_law_behind"] ["_law_script"] (az BU):=iY rfl rfl rfl rfl nofun
def rF:∀k:Nat,k < 10->((k:Nat):Int).natAbs.log2 < 1920:=by decide +kernel
def E5 (F:ik K "_law_deep" "_law_deep" BU f fd)(T:Txt mg)(GC:aF P w K mg base 1 "_law_cell_at" ["_law_script","_law_k"] (mV K)):bN P w K mg base fS 2 f fd ["_law_script"] (BD K):=by
 refine F.ok mW (λvs H Q E h=>?_) (λd0 A outer s H vs Q E hr h=>?_)
 .obtain⟨S,ns,rfl,_⟩:=h;rfl
 obtain⟨S,ns,rfl,hS,hn,q⟩:=h;refine⟨_,ak (aB (i:=1) mW.nd rfl (ba rfl) (bR aj))
  (ak (bL b_ rfl (iA rfl T.DT (ab ar aj)) (aq (i:=2) mW.nd rfl (ba rfl))
   (ak (aB (i:=3) mW.nd rfl (ba rfl) (bp GC hr rfl (ab (pv 0) (ab (aM dH ar (pv 2)) aj))))
   (ak (aB (i:=4) mW.nd rfl (ba rfl) (aM eh bx (a0 dJ rfl T.str gK (ab (aM dH (pv 2) ar) aj))))
   (ak (fZ (bT (fh e_ fc ff bh (pv 1) (ab (bD (ab (aM eh bx (a0 dJ rfl T.str gK (ab (pv 2) aj))) (ab (bD (ab (pv 4) aj)) aj))) aj))))
   (ak (fZ (b8 (br i8 (aM cK (pv 3) ar) ar (cw _))
    (ao (bT (fh e_ fc ff bh (pv 1) (ab (bD (ab (aM eh bx (a0 dJ rfl T.str gK (ab (pv 2) aj))) (ab (bD (ab (aM eh bx (a0 dJ rfl T.str gK (ab (pv 2) aj))) (ab (aM eh bx (a0 dJ rfl T.str gK (ab (pv 2) aj))) (ab (pv 4) aj)))) aj))) aj)))) aY))
   (ao (b8 (br i8 (aM cK (pv 3) ar) ar (cw _))
    (ao (bT (fh e_ fc ff bh (pv 1) (ab (bD (ab (aM eh bx (a0 dJ rfl T.str gK (ab (pv 2) aj))) (ab (bD (ab (pv 4) (ab (pv 4) (ab (aM eh bx (a0 dJ rfl T.str gK (ab (pv 2) aj))) aj)))) aj))) aj)))) aY)))))))
  (ak (aB (i:=3) mW.nd rfl (ba rfl) (bp GC hr rfl (ab (pv 0) (ab ar aj))))
  (ak (fZ (bT (fh e_ fc ff bh (pv 1) (ab (bD (ab bx (ab (bJ cO (bR (ab (bD (ab bx aj)) (ab (bD aj) aj))) (aM cK (pv 3) ar) (λ_ _=>rfl)) aj))) aj))))
  (ak (fZ (b8 (br i8 (aM cK (aM cV (pv 3) ar) ar) ar (cw _))
   (ao (bT (fh e_ fc ff bh (pv 1) (ab (bD (ab bx (ab (bD (ab bx (ab bx (ab bx aj)))) aj))) aj)))) aY))
  (ao (bu (pv 1))))))),?_⟩
 refine⟨tE,λL hL=>?_⟩;have k1:=af hL (.lst []);have e1:upd H L (.lst []) L=some (.lst []):=ae;generalize upd H L (.lst [])=H1 at k1 e1;refine⟨8,rfl,nofun,nofun,?_⟩;refine iI (n:=8) (λk σ H5=>∃(rs:List Addr)(aa:List au)(y2 y3 y4:Option V),σ=[aI S,aI L,y2,y3,y4]/\DI K H H5 L rs aa/\Dp k aa) ⟨[],[],none,none,none,rfl,⟨k1,e1,.nil⟩,⟨λ_ h=>(by cases h),λ_ h=>absurd h (Nat.not_lt_zero _),λ_ h=>(by cases h),nofun⟩⟩ ?_ ?_
 .rintro k σ H5 hk ⟨rs,aa,y2,y3,y4,rfl,S5,D5⟩;have lS:=Dm k ∅;have lS1:=Dm (k+1) ∅;have lg:=rF k ∅;have XY:=rF (k+1) ∅;have l1:∀z:Str,(z = "e" \/ z = "w" \/ z = "x")->z.length=1:=by
   rintro z (rfl | rfl | rfl) <;> decide +kernel
  have hz:(0:Int)+(k:Int)=((k:Nat):Int):=mF _;have Ye:((k:Nat):Int)+1=((k+1:Nat):Int):=rfl;rw [hz];refine goN ?_;refine⟨_,rfl,_,rfl,_,_,rfl,rfl,?_⟩;refine⟨S,ns,1+k,(by show [V.ref S,V.int (1+((k:Nat):Int))]=_;congr 3),S5.sm.seq hS,hn,λc _=>?_⟩;refine⟨_,rfl,_,_,rfl,rfl,?_⟩;refine⟨_,rfl,(by show (((k:Nat):Int)+1).natAbs.log2 < 1920;exact XY),?_⟩;refine⟨_,_,rfl,rfl,fits (by show ("e":Str).length+(dS (k+1)).length<=_;rw [l1 _ (.inl rfl)];omega),?_⟩;have Rf:=D5.uD;have XS:=bB S5.rl;have ez:∀z:Str,(z = "e" \/ z = "w" \/ z = "x")->z.length+(dS k).length<=sizeLine:=λz h=>fits (by rw [l1 z h];omega);refine⟨λσ H6=>∃(rs:List Addr)(aa:List au),σ=[aI S,aI L,some (.int ((k:Nat):Int)),some (.int c),some (.str (eN (k+1)))]/\DI K H H6 L rs aa/\Dp (k+1) aa/\aa.length<=3 * k+1,?_,?_⟩
  .refine⟨_,rfl,.inl ⟨rfl,_,aH.of S5.eL⟩,_,rfl,_,rfl,lg,_,_,rfl,rfl,ez "e" (.inl rfl),_,rfl,G9,λp hp=>?_⟩;have kA:=af hp (.tup [V.str (eN (k+1))]);have eA:aZ K (upd H5 p (.tup [V.str (eN (k+1))])) p ([eN (k+1)].map V.str):=aZ.of ae;refine⟨kW,λr uU=>?_⟩;have kB:=kA.trans (af uU (.tup [V.str (eN k),V.ref p]));have Ei:=(af uU (.tup [V.str (eN k),V.ref p])).tup eA;have eB:aZ K (upd (upd H5 p (.tup [V.str (eN (k+1))])) r (.tup [V.str (eN k),V.ref p])) r [V.str (eN k),V.ref p]:=aZ.of ae;have SB:=S5.same kB;refine⟨L,_,_,rfl,rfl,SB.eL,bf (by rw [av];omega),?_⟩;exact⟨rs++[r],_,rfl,SB.app hL eB Ei,D5.next hk,by rw [bO,gO];omega⟩
  rintro σ H6 ⟨HP,HL,rfl,S6,D6,ZT⟩;have TY:=bB S6.rl;refine⟨λσ H7=>∃(rs:List Addr)(aa:List au),σ=[aI S,aI L,some (.int ((k:Nat):Int)),some (.int c),some (.str (eN (k+1)))]/\DI K H H7 L rs aa/\Dp (k+1) aa/\aa.length<=3 * k+2,?_,?_⟩
  .refine⟨_,rfl,_,_,rfl,rfl,(by show (0:Int) < 3;decide),rfl,_,rfl,?_⟩;refine cu (λ_=>?_) (λ_=>?_)
   .refine⟨_,rfl,.inl ⟨rfl,_,aH.of S6.eL⟩,_,rfl,_,rfl,lg,_,_,rfl,rfl,ez "e" (.inl rfl),_,rfl,_,rfl,lg,_,_,rfl,rfl,ez "e" (.inl rfl),_,rfl,_,rfl,lg,_,_,rfl,rfl,ez "w" (.inr (.inl rfl)),_,rfl,FK,λp hp=>?_⟩;have kA:=af hp (.tup [V.str (eN k),V.str (wN k),V.str (eN (k+1))]);have eA:aZ K (upd H6 p (.tup [V.str (eN k),V.str (wN k),V.str (eN (k+1))])) p ([eN k,wN k,eN (k+1)].map V.str):=aZ.of ae;refine⟨kW,λr uU=>?_⟩;have kB:=kA.trans (af uU (.tup [V.str (eN k),V.ref p]));have Ei:=(af uU (.tup [V.str (eN k),V.ref p])).tup eA;have eB:aZ K (upd (upd H6 p (.tup [V.str (eN k),V.str (wN k),V.str (eN (k+1))])) r (.tup [V.str (eN k),V.ref p])) r [V.str (eN k),V.ref p]:=aZ.of ae;have SB:=S6.same kB;refine⟨L,_,_,rfl,rfl,SB.eL,bf (by rw [av];omega),?_⟩;refine⟨HP++[r],_,rfl,SB.app hL eB Ei,D6.more (by show 3<=3;decide) (λx hx=>?_) ⟨wN k,cz _ b0,FO hk⟩ ∅,by rw [bO,gO];omega⟩;rcases bM.mp hx with rfl | hx
    .exact eV _ (qb ∅)
    rcases bM.mp hx with rfl | hx
    .exact dO _ (FO hk)
    rw [cT.mp hx];exact eV _ (qb ∅)
   exact⟨HP,HL,rfl,S6,D6,∅⟩
  rintro σ H7 ⟨JO,HK,rfl,S7,D7,ZS⟩;have ll7:=bB S7.rl;refine⟨_,rfl,_,_,rfl,rfl,(by show (0:Int) < 9;decide),rfl,_,rfl,?_⟩;refine cu (λ_=>?_) (λ_=>?_)
  .refine⟨_,rfl,.inl ⟨rfl,_,aH.of S7.eL⟩,_,rfl,_,rfl,lg,_,_,rfl,rfl,ez "e" (.inl rfl),_,rfl,_,rfl,_,rfl,_,rfl,lg,_,_,rfl,rfl,ez "x" (.inr (.inr rfl)),FK,λp hp=>?_⟩;have kA:=af hp (.tup [V.str (eN (k+1)),V.str (eN (k+1)),V.str (xN k)]);have eA:aZ K (upd H7 p (.tup [V.str (eN (k+1)),V.str (eN (k+1)),V.str (xN k)])) p ([eN (k+1),eN (k+1),xN k].map V.str):=aZ.of ae;refine⟨kW,λr uU=>?_⟩;have kB:=kA.trans (af uU (.tup [V.str (eN k),V.ref p]));have Ei:=(af uU (.tup [V.str (eN k),V.ref p])).tup eA;have eB:aZ K (upd (upd H7 p (.tup [V.str (eN (k+1)),V.str (eN (k+1)),V.str (xN k)])) r (.tup [V.str (eN k),V.ref p])) r [V.str (eN k),V.ref p]:=aZ.of ae;have SB:=S7.same kB;refine⟨L,_,_,rfl,rfl,SB.eL,bf (by rw [av];omega),?_⟩;refine⟨JO++[r],_,_,_,_,rfl,SB.app hL eB Ei,D7.more (by show 3<=3;decide) (λx hx=>?_) ⟨xN k,cz _ (cz _ b0),FN hk⟩ ∅⟩;rcases bM.mp hx with rfl | hx
   .exact eV _ (qb ∅)
   rcases bM.mp hx with rfl | hx
   .exact eV _ (qb ∅)
   rw [cT.mp hx];exact dO _ (FN hk)
  exact⟨JO,HK,_,_,_,rfl,S7,D7⟩
 rintro σ H5 ⟨rs,aa,y2,y3,y4,rfl,S5,D5⟩;have Rf:=D5.uD;have XS:=bB S5.rl;refine⟨_,rfl,S,ns,9,rfl,S5.sm.seq hS,hn,λc _=>?_⟩;refine⟨λσ H6=>∃(HP:List Addr) (ps:List Str),σ=[aI S,aI L,y2,some (.int c),y4]/\DI K H H6 L HP (aa++[(("e8":Str),ps)])/\(ps=[]\/ps=(["n"]:List Str)),?_,?_⟩
 .refine⟨_,rfl,.inl ⟨rfl,_,aH.of S5.eL⟩,G9,λt1 h1=>⟨tE,λt2 h2=>⟨kW,λLL MJ=>?_⟩⟩⟩;have kA:=af h1 (.tup [V.str "n"]);have e1:aZ K (upd H5 t1 (.tup [V.str "n"])) t1 ((["n"]:List Str).map V.str):=aZ.of ae;have kB:=af h2 (.tup []);have e2:aZ K (upd (upd H5 t1 (.tup [V.str "n"])) t2 (.tup [])) t2 (([]:List Str).map V.str):=aZ.of ae;have kC:=af MJ (.lst [V.ref t1,V.ref t2]);have e3:upd (upd (upd H5 t1 (.tup [V.str "n"])) t2 (.tup [])) LL (.lst [V.ref t1,V.ref t2]) LL=some (.lst [V.ref t1,V.ref t2]):=ae;generalize upd (upd (upd H5 t1 (.tup [V.str "n"])) t2 (.tup [])) LL (.lst [V.ref t1,V.ref t2])=HC at kC e3;have Wt:=(kA.trans kB).trans kC;have e1C:=(kB.trans kC).tup e1;have e2C:=kC.tup e2;obtain⟨i,pi,ps,ei,UL,vp,JZ⟩:∃(i:Int)(pi:Addr) (ps:List Str),c % 2=i/\qL [V.ref t1,V.ref t2] i=some (.ref pi)/\aZ K HC pi (ps.map V.str)/\(ps=[]\/ps=(["n"]:List Str)):=by
   obtain h | h:c % 2=0\/c % 2=1:=by omega
   .exact⟨0,t1,["n"],h,rfl,e1C,.inr rfl⟩
   exact⟨1,t2,[],h,rfl,e2C,.inl rfl⟩
  refine⟨_,rfl,_,_,rfl,rfl,(by show (0:Int) < 2;decide),?_⟩;refine⟨LL,_,i,.ref pi,rfl,congrArg V.int ei,aH.of e3,UL,?_⟩;refine⟨kW,λr uU=>?_⟩;have kD:=af uU (.tup [V.str "e8",V.ref pi]);have eD:aZ K (upd HC r (.tup [V.str "e8",V.ref pi])) r [V.str "e8",V.ref pi]:=aZ.of ae;have SD:=S5.same (Wt.trans kD);refine⟨L,_,_,rfl,rfl,SD.eL,bf (by rw [av];omega),?_⟩;exact⟨rs++[r],ps,rfl,SD.app hL eD (kD.tup vp),JZ⟩
 rintro σ H6 ⟨HP,ps,rfl,S6,JZ⟩;have TY:=bB S6.rl;rw [bO,gO] at TY;refine⟨λσ H7=>∃(JO:List Addr)(more:List au)(y3:Option V),σ=[aI S,aI L,y2,y3,y4]/\DI K H H7 L JO (aa++(("e8":Str),ps)::more)/\(more=[]\/more=([(("e8":Str),(["(","e0",")"]:List Str))]:List au)),?_,?_⟩
 .refine⟨_,rfl,_,_,rfl,rfl,⟨nofun,nofun⟩,_,_,rfl,rfl,(by show (0:Int) < 2;decide),rfl,_,rfl,?_⟩;refine cu (λ_=>?_) (λ_=>?_)
  .refine⟨_,rfl,.inl ⟨rfl,_,aH.of S6.eL⟩,FK,λp hp=>?_⟩;have kA:=af hp (.tup [V.str "(",V.str "e0",V.str ")"]);have eA:aZ K (upd H6 p (.tup [V.str "(",V.str "e0",V.str ")"])) p ((["(","e0",")"]:List Str).map V.str):=aZ.of ae;refine⟨kW,λr uU=>?_⟩;have kB:=kA.trans (af uU (.tup [V.str "e8",V.ref p]));have Ei:=(af uU (.tup [V.str "e8",V.ref p])).tup eA;have eB:aZ K (upd (upd H6 p (.tup [V.str "(",V.str "e0",V.str ")"])) r (.tup [V.str "e8",V.ref p])) r [V.str "e8",V.ref p]:=aZ.of ae;have SB:=S6.same kB;refine⟨L,_,_,rfl,rfl,SB.eL,bf (by rw [av];omega),?_⟩;have SC:=SB.app hL eB Ei;rw [lB] at SC;exact⟨HP++[r],_,_,rfl,SC,.inr rfl⟩
  exact⟨HP,[],_,rfl,S6,.inl rfl⟩
 rintro σ H7 ⟨JO,more,y3,rfl,S7,YG⟩;exact⟨_,rfl,q L JO _ H7 hL S7.sm S7.eL S7.rl (Fv D5 JZ YG)⟩
end
abbrev kj:Stmt:=top 2
abbrev tU:Stmt:=top 52
def Ji {aa:List au}{aP:List (Str×Nat)}(h:oF aa aP):∀(i:Nat)(e:Str×Nat),aP[i]?=some e->∃ru,aa[e.2]?=some ru/\ru.1=e.1/\e.1∉(aP.take i).map (·.1)/\∀p∈ru.2,p∈(aP.take i).map (·.1):=by
 induction h with
 | nil=>intro i e h;cases h
 | @snoc aP k ru h e n p ih =>
  intro i x hx;by_cases l:i < aP.length
  .rw [lD l] at hx;rw [lF ∅];exact ih i x hx
  have li:=(bc.mp hx).1;rw [bO,gO] at li;have:i=aP.length:=by omega
  subst this;rw [jZ (aG _),mH] at hx;cases hx;rw [lF (aG _),cC];exact⟨ru,e,rfl,n,p⟩
section
def nN (K:a8)(Cg C:Addr):Sp:=λvs H Q _=>∃(H0:Hp)(g bt:Addr)(rs ss:List Addr)(aa:List au)(aP:List (Str×Nat))(bK:List Be),vs=[.ref g]/\OF H0 H Cg g rs ss bt/\Bd K C H bt aa aP bK /\
 ∀(L:Addr)(ts:List Addr)(H':Hp),H L=none->aC H H'->H' L=some (.lst (ts.map V.ref))->jc K H' ts aP->Q (.ref L) H'
def vf:aN ["grammar"] ["grammar"] (az kj):=iY rfl rfl rfl rfl nofun
def uh {Cg C:Addr}(F:ik K "empties_of" "empties_of" kj f fd)(T:Txt mg)(G:GC K Cg)(B:BC K C):bN P w K mg base fS 1 f fd ["grammar"] (nN K Cg C):=by
 refine F.ok vf (λvs H Q E h=>?_) (λd0 A outer s H vs Q E hr h=>?_)
 .obtain⟨H0,g,bt,rs,ss,aa,aP,bK,rfl,_⟩:=h;rfl
 obtain⟨H0,g,bt,rs,ss,aa,aP,bK,rfl,⟨gx,fs,R2,S2,eg,l1,l2,l3,l4,_⟩,bv,q⟩:=h;refine⟨_,ao (bu (a0 gR rfl T.lst gL (ab (dD (dD (pv 0) rfl) rfl) aj))),?_⟩;obtain⟨dx,Gs,e1,bg,q1,q2,q3,⟨t1,q4,q5⟩,_⟩:=bv.ia;refine⟨_,rfl,g,Cg,gx,fs,_,rfl,eg,G.cls,G.a3,l3,bt,C,dx,Gs,_,rfl,q1,B.cls,B.a1,q2,e1,_,rfl,.inl (aH.of q4),λL hL=>?_⟩;exact q L t1 _ hL (af hL _) ae (q5.keep λ_ _ z=>(af hL _).tup z)
def vc (K:a8):Sp:=λvs H Q _=>∃(R L:Addr)(rs ts:List Addr)(aa:List au)(aP:List (Str×Nat)),vs=[.ref R,.ref L]/\aH K H R (rs.map V.ref)/\bE K H rs aa/\Small aa/\aH K H L (ts.map V.ref)/\jc K H ts aP/\oF aa aP/\aP.length<=1000/\∀H',aC H H'->Q (.bl true) H'
def jw:aN ["_law_rules","_law_told","_law_seen","_law_one","_law_head","_law_parts"] ["_law_rules","_law_told"] (az tU):=iY rfl rfl rfl rfl nofun
def z8 (F:ik K "_law_stands" "_law_stands" tU f fd)(T:Txt mg):bN P w K mg base fS 1 f fd ["_law_rules","_law_told"] (vc K):=by
 refine F.ok jw (λvs H Q E h=>?_) (λd0 A outer s H vs Q E hr h=>?_)
 .obtain⟨R,L,rs,ts,aa,aP,rfl,_⟩:=h;rfl
 obtain⟨R,L,rs,ts,aa,aP,rfl,hR,cS,rM,hL,Am,Ea,Ka,q⟩:=h;have IH:=rM.most;refine⟨_,ak (aB (i:=2) jw.nd rfl (Or.inr rfl) (bR aj))
  (ak (bL b_ rfl (aS (pv 1)) (aq (i:=3) jw.nd rfl (ba rfl))
   (ak (b8 (PW.pt (nO (jy (dY (aL ib rfl T.LV uZ (ab (pv 3) (ab (l7 (v:=.ty "tuple") rfl T.tup tq rfl) aj)))))
     (nO (br F7 (aL bz rfl T.len gb (ab (pv 3) aj)) ar (cw _)) (pG (jy (dY (aL ib rfl T.LV uZ (ab (bJ bX (pv 3) ar (λ_ _=>rfl)) (ab (l7 (v:=.ty "str") rfl T.str gK rfl) aj)))))))))
    (ao (bu eX)) aY)
   (ak (b8 (PW.pt (nO (jy (dY (aL ib rfl T.LV uZ (ab (bJ bX (pv 3) ar (λ_ _=>rfl)) (ab (l7 (v:=.ty "int") rfl T.int PyProof.Rows.boot_int rfl) aj)))))
     (nO (dY (aL ib rfl T.LV uZ (ab (bJ bX (pv 3) ar (λ_ _=>rfl)) (ab (l7 (v:=.ty "bool") rfl T.boo PyProof.Rows.boot_bool rfl) aj))))
     (pG (jy (B4 Cf nQ ar (bJ bX (pv 3) ar (λ_ _=>rfl)) (aL bz rfl T.len gb (ab (pv 0) aj))))))))
    (ao (bu eX)) aY)
   (ak (HW (bJ cO (pv 0) (bJ bX (pv 3) ar (λ_ _=>rfl)) (λ_ _=>rfl)) (fA rfl (aA (aq (i:=4) jw.nd rfl (ba rfl)) (aA (aq (i:=5) jw.nd rfl (ba rfl)) bF))))
   (ak (b8 (PW.pt (nO (br F7 (pv 4) (bJ bX (pv 3) ar (λ_ _=>rfl)) (cw _)) (nO (br jN (pv 4) (pv 2) rfl)
     (pG (jy (dY (aL (dW rfl) rfl T.all boot_all (ab (aT ["_law_part"] [(2,"_law_seen")] rfl (d_ (pv 5)) (aV rfl rfl) nofun rfl nofun
      (λ_ _ _ _ _=>aq (i:=0) (show (["_law_part","_law_seen"]:List Str).Nodup by decide +kernel) rfl (ba rfl)) (λ_ _ _ _ _=>bw) (λ_ _ _ _ _=>dF (dG K) (pv 0) (pv 1) rfl)) aj))))))))
    (ao (bu eX)) aY)
   (ao (bT (fh e_ fc ff bh (pv 2) (ab (pv 4) aj)))))))))
  (ao (bu eX))),?_⟩
 refine⟨tE,λM hM=>?_⟩;have k1:=af hM (.lst []);have e1:upd H M (.lst []) M=some (.lst []):=ae;generalize upd H M (.lst [])=H1 at k1 e1;have ll:=bB cS;have lt:=bB Am;refine⟨_,rfl,L,rfl,⟨_,k1.seq hL⟩,?_⟩;refine cf (xs:=ts.map V.ref) (λi σ H5=>∃(y3 y4 y5:Option V),σ=[aI R,aI L,aI M,y3,y4,y5]/\aC H H5/\H5 M=some (.lst (((aP.take i).map (·.1)).map V.str))) ⟨none,none,none,rfl,k1,e1⟩ ?_ ?_ ?_
 .rintro i σ H5 _ ⟨y3,y4,y5,rfl,s5,_⟩;exact s5.seq hL
 .rintro i x σ H5 ex ⟨y3,y4,y5,rfl,s5,eM⟩;rw [bo] at ex;obtain⟨t,et,rfl⟩:=b9.mp ex;have li:=(bc.mp et).1;obtain⟨e,ee⟩:∃e,aP[i]?=some e:=⟨_,c_ ∅⟩;obtain⟨t',Gz,vt⟩:=Paired.at_ Am i e ee;rw [et] at Gz;cases Gz;obtain⟨ru,Rl,e1n,ne,hp⟩:=Ji Ea i e ee;have lk:=(bc.mp Rl).1;obtain⟨r,err,p,v1,v2⟩:=Paired.at_ cS _ ru Rl;have h6:=rM.uD ru (cy Rl);have Se:qL (rs.map V.ref) (e.2:Int)=some (.ref r):=dN (by rw [bo,err];rfl);have FP:=s5.tup vt;refine goN ?_;refine⟨_,rfl,.ref t,"tuple","tuple",true,rfl,.tup FP,l8,true,rfl,?_⟩;refine hJ ?_;refine⟨_,rfl,t,_,rfl,.inr FP,rfl,_,rfl,?_⟩;refine cu (λc=>absurd (show (!decide (V.int 2=V.int 2))=true from c) nofun) λ_=>?_;refine⟨_,rfl,t,_,_,_,rfl,rfl,FP,rfl,.str e.1,"str","str",true,rfl,.str _,l8,true,rfl,?_⟩;refine hJ ?_;refine⟨_,rfl,t,_,_,_,rfl,rfl,FP,rfl,.int _,"int","int",true,rfl,.int _,l8,true,rfl,?_⟩;refine hJ ?_;refine⟨_,rfl,t,_,_,_,rfl,rfl,FP,rfl,.int _,"int","bool",false,rfl,.int _,Iy,false,rfl,?_⟩;refine hJ ?_;refine⟨_,rfl,t,_,_,_,rfl,rfl,FP,rfl,_,_,rfl,rfl,_,rfl,?_⟩;refine cu (λ_=>?_) λc=>absurd (eU (show (0:Int)<=(e.2:Int) by omega)) c;refine⟨_,rfl,R,_,rfl,.inl (s5.seq hR),_,_,rfl,rfl,_,rfl,?_⟩;rw [av,ll,eU (show (e.2:Int) < (aa.length:Int) by omega)];refine hJ ?_;refine⟨_,rfl,_,rfl,t,_,_,_,rfl,rfl,FP,rfl,R,_,_,_,rfl,rfl,s5.seq hR,Se,r,_,rfl,s5.tup v1,rfl,_,_,rfl,_,_,rfl,rfl,?_⟩;refine⟨_,rfl,_,rfl,t,_,_,_,rfl,rfl,FP,rfl,rfl,_,rfl,?_⟩;rw [e1n,eU rfl];refine hJ ?_;refine⟨_,rfl,_,rfl,M,_,rfl,.inl (aH.of eM),rfl,bU _,_,rfl,?_⟩;rw [ay cZ,dI,hU ne];refine hJ ?_;refine⟨_,rfl,p,rfl,⟨_,s5.tup v2⟩,λD9 wD=>gJ (zs:=ru.2) [aI M] (λz=>decide (z∈(aP.take i).map (·.1))) rfl (s5.tup v2) ∅ wD (λz _ HA Qy sA hq=>?_) λH9 s9 e9=>?_⟩
  .refine⟨_,rfl,_,rfl,M,_,rfl,.inl (aH.of (sA _ _ eM)),rfl,bU _,?_⟩;rw [dI];exact hq
  refine⟨D9,_,rfl,aH.of e9,_,rfl,?_⟩;rw [all_map,d5.mpr λx hx=>eU (hp x hx)];refine hJ ?_;refine⟨_,rfl,.inl ⟨rfl,_,aH.of (s9 _ _ eM)⟩,_,rfl,M,_,_,rfl,rfl,s9 _ _ eM,bf (by rw [av,av,d7];omega),?_⟩;refine⟨_,_,_,rfl,λb o hb=>?_,?_⟩
  .rw [ai (λz=>by rw [z,hM] at hb;cases hb)];exact s9 _ _ (s5 b o hb)
  rw [ae,cI,ee,bC,bC];rfl
 rintro σ H5 ⟨y3,y4,y5,rfl,s5,eM⟩;exact q H5 s5
end
abbrev Hv:Stmt:=top 53
def AD {aa:List au}{x:Str}(hx:x∈cQ false aa):Em aa x:=by
 have all:∀(n i:Nat)(h:Str),i < n->(cQ false aa)[i]?=some h->Em aa h:=by
  intro n
  induction n with
  | zero=>intro i h l;omega
  | succ n ih =>
   intro i h l e;obtain⟨cA,a,b⟩:=(gH false aa).ord i h e;exact Em.mk (ru:=(h,cA)) a λp hp=>by
    rcases b p hp with q | q
    .obtain⟨j,lj,ej⟩:=lI q;exact ih j p ∅ ej
    cases q.1
 obtain⟨i,e⟩:=fI hx;exact all (i+1) i x ∅ e
def zx {aa:List au}{aP:List (Str×Nat)}(h:oF aa aP)(c:qw aa aa.length aP)(x:Str):x∈aP.map (·.1)↔x∈cQ false aa:=by
 constructor
 .exact λhx=>qa (yh h x hx)
 intro hx;have e:=AD hx;clear hx
 induction e with
 | mk hr _ ih=>exact c _ (by rw [cC];exact hr) ih
def MP {H0 H H':Hp}(k:Kp H H'){Cg g bt:Addr}{rs ss:List Addr}(h:OF H0 H Cg g rs ss bt):OF H0 H' Cg g rs ss bt:=by
 obtain⟨gx,fs,R2,S2,q1,q2,q3,q4,q5,q6,q7,q8,q9⟩:=h;exact⟨gx,fs,R2,S2,k _ _ q1 (λ_ z=>by cases z),q2,q3,q4,q5,k.lst q6,k.lst q7,q8,q9⟩
def Iw {H H':Hp}{L:Addr}{o:HO}(s:aC H H')(h:H L=none):Kp H (upd H' L o):=λb x hb _=>by
 rw [ai (λz=>by rw [z,h] at hb;cases hb)];exact s b x hb
structure Sv (aa:List au):Prop where
 one:1<=aa.length
 most:aa.length<=32
 six:∀ru∈aa,ru.2.length<=6
 good:∃rk b,Good aa rk b
def Sv.small {aa:List au}(h:Sv aa):Small aa:=⟨h.one,h.most,h.six⟩
section
def qi {H:Hp}{L D:Addr}{ts:List Addr}{aP:List (Str×Nat)}{σ:St}{Qp:Hp->Prop}(hL:aH K H L (ts.map V.ref))(Am:jc K H ts aP)(bq:aP.length<=1000)(hD:H D=none)
  (q:∀H2,aC H H2->H2 D=some (.lst ((aP.map (·.1)).map V.str))->Qp H2) :
  ∃W:Nat->Nat->List V->St->Hp->Prop,(∃m,W 0 m [] (df ["_law_name","_law_number"] [] σ) (upd H D (.lst []))) /\
 ∀i m ys σ' H,W i m ys σ' H->((iL K L).stop i H/\Qp H)\/((iL K L).go i H/\∃m',m' < m/\∀x H',(iL K L).ka i H x H'->vP K 2 (g_ (cU 0) (g_ (cU 1) ya)) x σ' H' λσ2 H2=>gh σ2 H2 λb H3 =>
  if b=true then fO 0 σ2 H3 λy H4=>H4 D=some (.lst ys)/\ys.length < sizeLine/\W (i+1) m' (ys++[y]) σ2 (upd H4 D (.lst (ys++[y]))) else W (i+1) m' ys σ2 H3):=by
 have ll:=bB Am;refine cg (xs:=ts.map V.ref) (λi ys σ2 H2=>ys=((aP.take i).map (·.1)).map V.str/\(∃y0 y1,σ2=[y0,y1])/\aC H H2/\H2 D=some (.lst ys))
  ⟨rfl,⟨none,none,rfl⟩,af hD _,ae⟩ (λi ys σ2 H2 _ h=>?_) (λi x ys σ2 H2 ex h=>?_) (λys σ2 H2 h=>?_)
 .obtain⟨_,_,sm,_⟩:=h;exact sm.seq hL
 .obtain⟨rfl,⟨y0,y1,rfl⟩,sm,Ar⟩:=h;rw [bo] at ex;obtain⟨t,et,rfl⟩:=b9.mp ex;have li:=(bc.mp et).1;obtain⟨e,ee⟩:∃e,aP[i]?=some e:=⟨_,c_ ∅⟩;obtain⟨t',Gz,vt⟩:=Paired.at_ Am i e ee;rw [et] at Gz;cases Gz;refine⟨t,_,rfl,sm.tup vt,rfl,_,_,rfl,_,_,rfl,rfl,?_⟩;refine uV ?_;refine⟨_,rfl,Ar,bf (by rw [av,av,d7];omega),?_,⟨_,_,rfl⟩,λb o hb=>?_,ae⟩
  .rw [cI,ee,bC,bC];rfl
  rw [ai (λz=>by rw [z,hD] at hb;cases hb)];exact sm b o hb
 obtain⟨rfl,_,sm,Ar⟩:=h;rw [av,ll,cC] at Ar;exact q H2 sm Ar
def yP (K:a8)(T1 T2 T3:Addr):Sp:=λvs H Q _=>∃(a:Addr)(ns:List Int),vs=[.ref a]/\aH K H a (ns.map V.int)/\ns.length<=63/\zK T1 T2 T3 H/\∀H',Q (.bl true) H'
def px:aN ["_law_script","_law_rules","_law_grammar_here","_law_told","_law_due","_law_again"] ["_law_script"] (az Hv):=iY rfl rfl rfl rfl nofun
def Ih {Cg C T1 T2 T3 fG:Addr}{UT:FuncData}(F:ik K "law" "law" Hv f fd)(T:Txt mg)(QZ:mg "sorted"=none)
  (GG:aF P w K mg base 8 "_law_grammar" ["_law_script","_law_at"] (By K))(GCc:aF P w K mg base 8 "_law_cell_at" ["_law_script","_law_k"] (mV K))(GD:aF P w K mg base 8 "_law_deep" ["_law_script"] (BD K))
  (VZ:aF P w K mg base 8 "empties_of" ["grammar"] (nN K Cg C))(GS:aF P w K mg base 8 "_law_stands" ["_law_rules","_law_told"] (vc K))(GE:aF P w K mg base 8 "_law_ended" ["_law_rules","_law_words_here"] (tN K))
  (G:GC K Cg)(MG:Mk K Cg fG)(FG:bN P w K mg base fS 7 fG UT ["self","rules","strengths"] (yR K Cg C T1 T2 T3))(B1:Binds K UT ["self","rules","strengths"] [.none])(mG:mg "Grammar"=some (.ref Cg)):bN P w K mg base fS 9 f fd ["_law_script"] (yP K T1 T2 T3):=by
 refine F.ok px (λvs H Q E h=>?_) (λd0 A outer s H vs Q E hr h=>?_)
 .obtain⟨a,ns,rfl,_⟩:=h;rfl
 obtain⟨S,ns,rfl,hS,hl,hT,q⟩:=h;have hu:=gp hr;have Um:=Nat.lt_of_succ_lt hu;refine⟨_,ak (aB (i:=1) px.nd rfl (ba rfl) (bp GG hr rfl (ab (pv 0) (ab ar aj))))
  (ak (fZ (b8 (br i8 (aM cK (aM cV (bp GCc hr rfl (ab (pv 0) (ab ar aj))) ar) ar) ar (cw _)) (ao (aB (i:=1) px.nd rfl (ba rfl) (bp GD hr rfl (ab (pv 0) aj)))) aY))
  (ak (aB (i:=2) px.nd rfl (ba rfl) (uf (dvs:=[.fJ]) MG FG hr rfl mG B1 (.cons rfl .nil) rB (ab (a0 gR rfl T.lst gL (ab (pv 1) aj)) aj)))
  (ak (aB (i:=3) px.nd rfl (ba rfl) (bp VZ hr rfl (ab (pv 2) aj)))
  (ak (b8 (PW.pt (nO (jy (dY (aL uK rfl T.LV uZ (ab (pv 3) (ab (l7 (v:=.ty "list") rfl T.lst gL rfl) aj))))) (pG (jy (dY (bp GS hr rfl (ab (pv 1) (ab (pv 3) aj)))))))) (ao (bu eX)) aY)
  (ak (aB (i:=4) px.nd rfl (ba rfl) (aL kR rfl QZ wM (ab (bp GE hr rfl (ab (pv 1) (ab eX aj))) aj)))
  (ak (b8 (br (xC Um) (aL kR rfl QZ wM (ab (aT ["_law_name","_law_number"] [] rfl (aS (pv 3)) (aV rfl rfl) nofun rfl nofun
   (λ_ _ _ _ _=>di (n:=2) K rfl (aA (aq (i:=0) (show (["_law_name","_law_number"]:List Str).Nodup by decide +kernel) rfl (ba rfl)) (aA (aq (i:=1) (show (["_law_name","_law_number"]:List Str).Nodup by decide +kernel) rfl (ba rfl)) bF))) (λ_ _ _ _ _=>bw) (λ_ _ _ _ _=>pv 0)) aj)) (pv 4) (cw _)) (ao (bu eX)) aY)
  (ak (bT (fh e_ fc ff bh (pv 3) (ab (bD (ab bx (ab ar aj))) aj)))
  (ak (aB (i:=5) px.nd rfl (ba rfl) (bp VZ hr rfl (ab (pv 2) aj)))
  (ao (bu (m_ (dF (xD Um) (aL kR rfl QZ wM (ab (aT ["_law_name","_law_number"] [] rfl (aS (pv 5)) (aV rfl rfl) nofun rfl nofun
   (λ_ _ _ _ _=>di (n:=2) K rfl (aA (aq (i:=0) (show (["_law_name","_law_number"]:List Str).Nodup by decide +kernel) rfl (ba rfl)) (aA (aq (i:=1) (show (["_law_name","_law_number"]:List Str).Nodup by decide +kernel) rfl (ba rfl)) bF))) (λ_ _ _ _ _=>bw) (λ_ _ _ _ _=>pv 0)) aj)) (pv 4) (cw _))
   (kq (bp GS hr rfl (ab (pv 1) (ab (pv 5) aj))))))))))))))),?_⟩
 refine⟨_,rfl,S,ns,0,rfl,hS,∅,λc R0 Ww HM H1 hc f0 s1 Vg Tp go=>?_⟩;refine⟨λσ H2=>∃(R:Addr)(rs:List Addr)(aa:List au),σ=[aI S,aI R,none,none,none,none]/\aC H H2/\H2 R=some (.lst (rs.map V.ref))/\bE K H2 rs aa/\Sv aa,?_,?_⟩
 .refine⟨_,rfl,S,ns,0,rfl,s1.seq hS,∅,λc2 _=>?_⟩;refine⟨_,_,rfl,rfl,⟨nofun,nofun⟩,_,_,rfl,rfl,(by show (0:Int) < 16;decide),rfl,_,rfl,?_⟩;refine cu (λ_=>?_) (λ_=>?_)
  .refine⟨_,rfl,S,ns,rfl,s1.seq hS,∅,λR rs aa H2 fR s2 eR rl Ox=>?_⟩;exact⟨R,rs,aa,rfl,s1.trans s2,eR,rl,⟨Ox.one,by have:=Ox.most;omega,λru h=>by have:=(Ox.three ru h).2.1;omega,Ox.good⟩⟩
  obtain⟨nms,nk,i6⟩:=go.ins;exact⟨R0,Ww,HM,rfl,s1,Vg,Tp,⟨go.one,by have:=go.most;omega,λru h=>(i6 ru h).2.1,go.good⟩⟩
 rintro σ H2 ⟨R,rs,aa,rfl,s2,eR,rl,lw⟩;clear go Tp Vg s1;obtain⟨rk,bb,gd⟩:=lw.good;have l1:=lw.one;have l32:=lw.most;have h8:∀ru∈aa,ru.2.length<=8:=λru h=>by have:=lw.six ru h;omega
 have A4:aa≠[]:=λz=>by rw [z] at l1;cases l1
 refine⟨_,rfl,R,_,rfl,.inl (aH.of eR),λR3 Zi=>?_⟩;have k3:=af Zi (.lst (rs.map V.ref));have RB:upd H2 R3 (.lst (rs.map V.ref)) R3=some (.lst (rs.map V.ref)):=ae;generalize upd H2 R3 (.lst (rs.map V.ref))=H3 at k3 RB;have t3:=hT.same (s2.trans k3);have Lb:=rl.same k3;have M6:=k3 _ _ eR;intro g x hg hx nx;refine⟨H3,g,x,R3,.fJ,rs,[],aa,[],rk,bb,rfl,(af hx _).trans (af (by rw [ai nx.symm];exact hg) _),hg,ae,aH.of RB,Lb,∅,h8,A4,.inl ⟨rfl,rfl,rfl⟩,by simp,λru h=>(by cases h),by simp,gd,t3,λbt H5 s5 t5 gv btv=>⟨rfl,?_⟩⟩;have T7:=Kp.WO s5 t3;have JP:=T7.aa Lb;have RA:=T7.lst M6;clear s5 t5 t3 Lb M6 k3 RB;obtain⟨aP,bK,bv⟩:=btv;have end_:=bv.emp.nd;have lets:aP.length<=32:=by
  have h1:=fC _ _ end_ λz hz=>(gH false aa).sub z ((zx bv.emp bv.kP z).mp hz);rw [av,av] at h1;omega
 have lE:(cQ false aa).length < 64:=by
  have h1:=fC _ _ (gH false aa).nd (gH false aa).sub;rw [av] at h1;omega
 have pE:(aP.map (·.1)).Perm (cQ false aa):=(List.perm_ext_iff_of_nodup end_ (gH false aa).nd).mpr (zx bv.emp bv.kP);refine⟨_,rfl,H3,g,bt,rs,[],aa,aP,bK,rfl,gv,bv,λL ts H6 fL s6 eL pk=>?_⟩;refine⟨_,rfl,L,_,"list",true,rfl,aH.of eL,l8,true,rfl,?_⟩;refine hJ ?_;refine⟨_,rfl,_,rfl,R,L,rs,ts,aa,aP,rfl,aH.of (s6 _ _ RA),JP.same s6,lw.small,aH.of eL,pk,bv.emp,∅,λH7 s7=>⟨true,rfl,?_⟩⟩;refine hJ ?_;have Tg:=s6.trans s7;refine⟨_,rfl,R,rs,aa,false,rfl,aH.of (Tg _ _ RA),JP.same Tg,lw.small,λD0 H8 fD0 s8 eD0 _=>?_⟩;refine⟨D0,_,rfl,aH.of eD0,lE,λD zs hD pz sz=>?_⟩;have k9:=af hD (.lst (zs.map V.str));have eD:upd H8 D (.lst (zs.map V.str)) D=some (.lst (zs.map V.str)):=ae;generalize upd H8 D (.lst (zs.map V.str))=H9 at k9 eD;have Ws:=s8.trans k9;have Pg:=s7.trans Ws;have RE:=Pg _ _ eL;have WD:jc K H9 ts aP:=pk.keep λ_ _ z=>Pg.tup z;refine⟨_,rfl,L,rfl,⟨_,aH.of RE⟩,λDA MM=>qi (aH.of RE) WD ∅ MM λHA sA eA=>?_⟩;refine⟨DA,_,rfl,aH.of eA,by rw [av];omega,λDB gs Zs pg sg=>?_⟩;have MZ:gs=zs:=jv sg sz (pg.trans (pE.trans pz.symm));subst MZ;have kB:=af Zs (.lst (gs.map V.str));have eB:upd HA DB (.lst (gs.map V.str)) DB=some (.lst (gs.map V.str)):=ae;generalize upd HA DB (.lst (gs.map V.str))=HB at kB eB;have NU:=sA.trans kB;refine⟨_,rfl,DB,D,_,rfl,rfl,aH.of eB,aH.of (NU _ _ eD),λv hv=>?_,_,rfl,?_⟩
 .obtain⟨z,_,rfl⟩:=cH.mp hv;exact .inl rfl
 refine hJ ?_;have Vj:=NU _ _ RE;have eDB:=NU _ _ eD;have Wu:=(s6.trans Pg).trans NU;refine⟨_,rfl,.inl ⟨rfl,_,aH.of Vj⟩,kW,λt ht=>?_⟩;have kC:=af ht (.tup [V.str "x",V.int 0]);generalize upd HB t (.tup [V.str "x",V.int 0])=HC at kC;have TV:=bB pk;refine⟨L,_,_,rfl,rfl,kC _ _ Vj,bf (by rw [av];omega),?_⟩;have kp:=Iw (o:=.lst (ts.map V.ref++[.ref t])) (Wu.trans kC) fL;have Xe:D≠L:=λz=>by
  have e8:=s8 _ _ (s7 _ _ eL);rw [<-z,hD] at e8;cases e8
 have Vm:upd HC L (.lst (ts.map V.ref++[.ref t])) D=some (.lst (gs.map V.str)):=by rw [ai Xe];exact kC _ _ eDB
 generalize upd HC L (.lst (ts.map V.ref++[.ref t]))=HD at kp Vm;have Wx:=kp.aa JP;have eRD:=kp.lst RA;refine⟨_,rfl,H3,g,bt,rs,[],aa,aP,bK,rfl,MP kp gv,bv.kp kp,λL2 tJ HE fL2 sE RG Tr=>?_⟩;refine⟨_,rfl,L2,rfl,⟨_,aH.of RG⟩,λDF Zr=>qi (aH.of RG) Tr ∅ Zr λHF sF eF=>?_⟩;refine⟨DF,_,rfl,aH.of eF,by rw [av];omega,λDH hs Zq ph sh=>?_⟩;have ehz:hs=gs:=jv sh sz (ph.trans (pE.trans pz.symm));subst ehz;have kH:=af Zq (.lst (hs.map V.str));have eH:upd HF DH (.lst (hs.map V.str)) DH=some (.lst (hs.map V.str)):=ae;generalize upd HF DH (.lst (hs.map V.str))=HH at kH eH;have NT:=sF.trans kH;refine⟨_,rfl,DH,D,_,rfl,rfl,aH.of eH,aH.of (NT _ _ (sE _ _ Vm)),λv hv=>?_,_,rfl,?_⟩
 .obtain⟨z,_,rfl⟩:=cH.mp hv;exact .inl rfl
 refine ID ?_;have Te:=sE.trans NT;refine⟨_,rfl,_,rfl,R,L2,rs,tJ,aa,aP,rfl,aH.of (Te _ _ eRD),Wx.same Te,lw.small,aH.of (NT _ _ RG),Tr.keep λ_ _ z=>NT.tup z,bv.emp,∅,λHI _=>?_⟩;exact q HI
end
end gT
namespace L2
open PySem
def u6 {C:List Value->Prop}(h:∀a,C [a]):∀us:List Value,us.length=1->C us
 | [a],_=>h a
def Bl {C:List Value->Prop}(h:∀a b,C [a,b]):∀us:List Value,us.length=2->C us
 | [a,b],_=>h a b
def KD {C:List Value->Prop}(h:∀a b c,C [a,b,c]):∀us:List Value,us.length=3->C us
 | [a,b,c],_=>h a b c
def V8 {C:List Value->Prop}(h:∀a b c d,C [a,b,c,d]):∀us:List Value,us.length=4->C us
 | [a,b,c,d],_=>h a b c d
def V7 {C:List Value->Prop}(h:∀a b c d e,C [a,b,c,d,e]):∀us:List Value,us.length=5->C us
 | [a,b,c,d,e],_=>h a b c d e
def eQ (K:a8)(x:Str)(st:Stmt):Prop:=∃(g:Addr)(oc:Value)(od an:Option Addr)(sl:Array (Option Value))(kV dc pm cd ct:Value),PySem.W.nsIn K mainGlobals x=some (some (.ref g)) /\
 K.lookup g=some ⟨oc,od,.func (PySem.W.fnOf x x (cW st) (bV st) (az st) .none kV dc pm an cd ct),sl⟩/\PySem.W.codeIn K cd x=true/\PySem.W.keepIn K (.ref g)=true
def eQ.get {K:a8}{h:Heap}{mg:Str->Option Value}{x:Str}{st:Stmt}(X:K.In h)(G:h.Ns mainGlobals mg)(H:eQ K x st):∃g gd,ik K x x st g gd/\mg x=some (.ref g):=by
 obtain⟨g,oc,od,an,sl,kV,dc,pm,cd,ct,a,l,c,k⟩:=H;exact⟨g,_,C8 (st:=st) l c k,mK X G a⟩
def AY (K:a8)(x:Str)(st:Stmt)(T:Addr):Prop:=∃(g:Addr)(oc:Value)(od an:Option Addr)(sl:Array (Option Value))(kV dc pm:Value)(c:Addr)(ct:Value),PySem.W.nsIn K mainGlobals x=some (some (.ref g)) /\
 K.lookup g=some ⟨oc,od,.func (PySem.W.fnOf x x (cW st) (bV st) (az st) .none kV dc pm an (.ref c) ct),sl⟩/\PySem.W.codeIn K (.ref c) x=true/\PySem.W.codeHdIn K c T=true/\PySem.W.keepIn K (.ref g)=true
def AY.get {K:a8}{h:Heap}{mg:Str->Option Value}{x:Str}{st:Stmt}{T:Addr}(X:K.In h)(G:h.Ns mainGlobals mg)(H:AY K x st T):∃g gd,wm K x x st g gd T/\mg x=some (.ref g):=by
 obtain⟨g,oc,od,an,sl,kV,dc,pm,c,ct,a,l,d,e,k⟩:=H;exact⟨g,_,⟨⟨oc,od,kV,dc,pm,an,c,ct,sl,rfl,l,d,e⟩,k⟩,mK X G a⟩
def wm.binds {K:a8}{x qual:Str}{st:Stmt}{f T:Addr}{fd:FuncData}{ps:List Str}(F:wm K x qual st f fd T)
  (h:∀(kV doc pm:Value)(an:Option Addr)(d0 ct:Value)(us:List Value),us.length=ps.length->bindArgs (PySem.W.fnOf x qual (cW st) (bV st) (az st) .none kV doc pm an d0 ct) ⟨us,[]⟩=pure (ps.zip us)):Binds K fd ps []:=by
 obtain⟨oc,od,kV,doc,pm,an,c,ct,vv,rfl,lk,uA,_⟩:=F.ex;exact .all (h kV doc pm an (.ref c) ct)
def yt (K:a8)(C:Addr)(m qual:Str)(st:Stmt):Prop:=∃(g:Addr)(oc:Value)(od an:Option Addr)(sl:Array (Option Value))(kV dc pm cd ct:Value),PySem.W.findIn K (.ref C) m=some (some (.ref g)) /\
 K.lookup g=some ⟨oc,od,.func (PySem.W.fnOf m qual (cW st) (bV st) (az st) .none kV dc pm an cd ct),sl⟩/\PySem.W.codeIn K cd qual=true/\PySem.W.keepIn K (.ref g)=true/\PySem.W.isFn K (.ref g)=true
def yt.get {K:a8}{C:Addr}{m qual:Str}{st:Stmt}(H:yt K C m qual st):∃g gd,ik K m qual st g gd/\Meth K C m g:=by
 obtain⟨g,oc,od,an,sl,kV,dc,pm,cd,ct,a,l,c,k,i⟩:=H;exact⟨g,_,C8 (st:=st) l c k,⟨a,i,k⟩⟩
def eQ.c {K:a8}{h:Heap}{mg:Str->Option Value}{x:Str}{st:Stmt}{P:Program}{w:World}{base:Heap}{k:Nat}{ps:List Str}{sp:Sp}(H:eQ K x st)(X:K.In h)(G:h.Ns mainGlobals mg)
  (b:∀(kV doc pm:Value)(an:Option Addr)(d0 ct:Value)(us:List Value),us.length=ps.length->bindArgs (PySem.W.fnOf x x (cW st) (bV st) (az st) .none kV doc pm an d0 ct) ⟨us,[]⟩=pure (ps.zip us))
  (o:∀{f:Addr}{fd:FuncData},ik K x x st f fd->mg x=some (.ref f)->Binds K fd ps []->bN P w K mg base fS k f fd ps sp):aF P w K mg base k x ps sp:=by
 obtain⟨f,fd,F,m⟩:=H.get X G;have B:=F.binds b;exact⟨f,fd,o F m B,B,F.kp,m⟩
def hD {K:a8}{x:Str}{st:Stmt}(g c:Addr)(pm:Value)(h:(PySem.W.nsIn K mainGlobals x,K.lookup g,PySem.W.codeIn K (.ref c) x,PySem.W.keepIn K (.ref g))=(some (some (.ref g)),some ⟨.type "function",none,.func (PySem.W.fnOf x x (cW st) (bV st) (az st) .none .none .none pm none (.ref c) .none),#[]⟩,true,true)):eQ K x st:=by
 simp only [oP] at h;exact⟨g,_,_,_,_,_,_,_,_,_,h.1,h.2.1,h.2.2.1,h.2.2.2⟩
def hC {K:a8}{x:Str}{st:Stmt}{T:Addr}(g c:Addr)(pm:Value)(h:(PySem.W.nsIn K mainGlobals x,K.lookup g,PySem.W.codeIn K (.ref c) x,PySem.W.codeHdIn K c T,PySem.W.keepIn K (.ref g))=(some (some (.ref g)),some ⟨.type "function",none,.func (PySem.W.fnOf x x (cW st) (bV st) (az st) .none .none .none pm none (.ref c) .none),#[]⟩,true,true,true)):AY K x st T:=by
 simp only [oP] at h;exact⟨g,_,_,_,_,_,_,_,c,_,h.1,h.2.1,h.2.2.1,h.2.2.2.1,h.2.2.2.2⟩
def hM {K:a8}{C:Addr}{m qual:Str}{st:Stmt}(g c:Addr)(pm:Value)(h:(PySem.W.findIn K (.ref C) m,K.lookup g,PySem.W.codeIn K (.ref c) qual,PySem.W.keepIn K (.ref g),PySem.W.isFn K (.ref g))=(some (some (.ref g)),some ⟨.type "function",none,.func (PySem.W.fnOf m qual (cW st) (bV st) (az st) .none .none .none pm none (.ref c) .none),#[]⟩,true,true,true)):yt K C m qual st:=by
 simp only [oP] at h;exact⟨g,_,_,_,_,_,_,_,_,_,h.1,h.2.1,h.2.2.1,h.2.2.2.1,h.2.2.2.2⟩
end L2
namespace gT
open PySem L2 M11
def JG (K:a8)(C:Addr)(m qual:Str)(st:Stmt):Prop:=∃(g:Addr)(oc:Value)(od an:Option Addr)(sl:Array (Option Value))(kV dc pm cd ct:Value)(T:Addr)(o:Obj) (n:Nat),PySem.W.findIn K (.ref C) m=some (some (.ref g)) /\
 K.lookup g=some ⟨oc,od,.func (PySem.W.fnOf m qual (cW st) (bV st) (az st) (.ref T) kV dc pm an cd ct),sl⟩/\PySem.W.codeIn K cd qual=true/\K.lookup T=some o/\o.data=.seq #[.none] n/\PySem.W.keepIn K (.ref g)=true/\PySem.W.isFn K (.ref g)=true
def JG.get {K:a8}{C:Addr}{m qual:Str}{st:Stmt}(H:JG K C m qual st):∃g gd,DM K m qual st g gd/\PySem.W.findIn K (.ref C) m=some (some (.ref g))/\PySem.W.isFn K (.ref g)=true:=by
 obtain⟨g,oc,od,an,sl,kV,dc,pm,cd,ct,T,o,n,a,l,c,t,d,k,i⟩:=H;exact⟨g,_,⟨⟨oc,od,kV,dc,pm,an,cd,ct,sl,T,o,n,rfl,l,c,t,d⟩,k⟩,a,i⟩
structure Top (K:a8)(C Cg C3 T1 T2 T3:Addr)(tm:Tok):Prop where
 nB:PySem.W.nsIn K mainGlobals "BeginTable"=some (some (.ref C))
 nG:PySem.W.nsIn K mainGlobals "Grammar"=some (some (.ref Cg))
 nL:PySem.W.nsIn K mainGlobals "LeastTrees"=some (some (.ref C3))
 nM:PySem.W.nsIn K mainGlobals "MOST_RULES"=some (some (.int 60 tm))
 yx:PySem.W.nsIn K mainGlobals "sorted"=some none
 h0:eQ K "heads_of" xm
 h1:eQ K "numbers_by_name" BM
 h2:eQ K "standings_by_part" Ht
 h3:eQ K "rule_size" mX
 h4:eQ K "empty_by_name" pD
 h5:eQ K "words_in" xc
 h6:eQ K "found_empties" pF
 h7:eQ K "first_places" tW
 h8:eQ K "way_back" Hs
 h9:eQ K "steps_with_like_rows" xg
 ZN:eQ K "find_loop" BO
 ZM:eQ K "refuse_twice" xf
 ZL:eQ K "names_met" Hu
 ZK:eQ K "_law_cell_at" BV
 ZJ:eQ K "_law_digits" t_
 Q_:eQ K "_law_names" xj
 ZI:eQ K "_law_words" tT
 ZH:eQ K "_law_more" BN
 ZG:eQ K "_law_skeleton" BK
 ZF:eQ K "_law_ended" xn
 ZE:eQ K "_law_not_vast" BJ
 ZD:eQ K "_law_good" BR
 ZC:eQ K "_law_grammar" BQ
 ZA:eQ K "_law_deep" BU
 Zz:eQ K "empties_of" kj
 Zy:eQ K "_law_stands" tU
 QG:eQ K "law" Hv
 Qs:eQ K "settled_sizes" lU
 Qz:eQ K "refuse_faults" tV
 hL:AY K "least_sizes" pC T1
 hG:AY K "greatest_empty_sizes" tY T2
 Zm:AY K "least_by_part" lV T3
 Xy:yt K C3 "__init__" "LeastTrees.__init__" xl
 XD:yt K C "__init__" "BeginTable.__init__" xp
 XC:yt K C "find_begins" "BeginTable.find_begins" BS
 XA:yt K C "words_of_part" "BeginTable.words_of_part" xi
 Xz:JG K Cg "__init__" "Grammar.__init__" tZ
 WH:PySem.W.plainGet K C Str.empty=true
 Y8:PySem.W.hasDictIn K C=true
 WC:PySem.W.plainOver K C=true
 Wq:PySem.W.findIn K (.ref C) "__setattr__"=some (some (.builtin "object.__setattr__"))
 Xu:PySem.W.makesIn K C=true
 Gg:PySem.W.keepIn K (.ref C)=true
 WG:PySem.W.plainGet K Cg Str.empty=true
 Y6:PySem.W.hasDictIn K Cg=true
 WB:PySem.W.plainOver K Cg=true
 Wo:PySem.W.findIn K (.ref Cg) "__setattr__"=some (some (.builtin "object.__setattr__"))
 Xs:PySem.W.makesIn K Cg=true
 X8:PySem.W.keepIn K (.ref Cg)=true
 WE:PySem.W.plainGet K C3 Str.empty=true
 Y5:PySem.W.hasDictIn K C3=true
 WA:PySem.W.plainOver K C3=true
 Wn:PySem.W.findIn K (.ref C3) "__setattr__"=some (some (.builtin "object.__setattr__"))
 Xr:PySem.W.makesIn K C3=true
 X7:PySem.W.keepIn K (.ref C3)=true
 yo:PySem.W.findIn K (.ref C) "empties"=some none
 DC:PySem.W.findIn K (.ref C) "empty"=some none
 AU:PySem.W.findIn K (.ref C) "begins"=some none
 AS:PySem.W.findIn K (.ref C) "firsts"=some none
 Dw:PySem.W.findIn K (.ref C3) "rules"=some none
 Dy:PySem.W.findIn K (.ref C3) "empty"=some none
 Dx:PySem.W.findIn K (.ref C3) "least"=some none
 AR:PySem.W.findIn K (.ref C3) "hollow"=some none
 qM:PySem.W.findIn K (.ref C3) "beginnings"=some none
 Dz:PySem.W.findIn K (.ref Cg) "rules"=some none
 uO:PySem.W.findIn K (.ref Cg) "strengths"=some none
 qp:PySem.W.findIn K (.ref Cg) "begin_table"=some none
 uP:PySem.W.findIn K (.ref Cg) "standings"=some none
 qo:PySem.W.findIn K (.ref Cg) "small_trees"=some none
 OL:PySem.W.nsIn K mainGlobals "len"=some none
 G8:PySem.W.nsIn K mainGlobals "range"=some none
 u3:PySem.W.nsIn K mainGlobals "isinstance"=some none
 G7:PySem.W.nsIn K mainGlobals "tuple"=some none
 Kz:PySem.W.nsIn K mainGlobals "list"=some none
 KA:PySem.W.nsIn K mainGlobals "dict"=some none
 OP:PySem.W.nsIn K mainGlobals "all"=some none
 OO:PySem.W.nsIn K mainGlobals "any"=some none
 OI:PySem.W.nsIn K mainGlobals "str"=some none
 ON:PySem.W.nsIn K mainGlobals "int"=some none
 KC:PySem.W.nsIn K mainGlobals "bool"=some none
 wU:PySem.W.nsIn K mainGlobals "enumerate"=some none
 OH:PySem.W.nsIn K mainGlobals "sum"=some none
 OK:PySem.W.nsIn K mainGlobals "max"=some none
 OJ:PySem.W.nsIn K mainGlobals "min"=some none
def all_mk {l:PySem.W.OpenLaw}{w:World}{K:a8}{h:Heap}{mg:Str->Option Value}{fa C Cg C3 T1 T2 T3:Addr}{tm:Tok}(X:K.In h)(G:h.Ns mainGlobals mg)(YS:mg "law"=some (.ref fa))(tp:Top K C Cg C3 T1 T2 T3 tm) :
  ∃fd:FuncData,(∀(s:Shared)(v:Value),BindsTo s fd ⟨[v],[]⟩ [("_law_script",v)])/\∀base:Heap,K.In base->base.Ns mainGlobals mg->qy mg base->bN l.prog w K mg base fS 9 fa fd ["_law_script"] (yP K T1 T2 T3):=by
 have T:Txt mg:=⟨gE X G tp.OL,gE X G tp.G8,gE X G tp.u3,gE X G tp.G7,gE X G tp.Kz,gE X G tp.KA,gE X G tp.OP,gE X G tp.OO,gE X G tp.OI,gE X G tp.ON,gE X G tp.KC,gE X G tp.wU,gE X G tp.OH,gE X G tp.OK,gE X G tp.OJ⟩;obtain⟨Gx,GK,wo,Gd⟩:=tp.Qs.get X G;have GX:=wo.binds (ps:=["rules","sizes","better"]) λ_ _ _ _ _ _=>by exact KD λ_ _ _=>rfl
 obtain⟨MS,M_,DN,Lw⟩:=tp.Qz.get X G;have Ng:=DN.binds (ps:=["rules","strengths"]) λ_ _ _ _ _ _=>by exact Bl λ_ _=>rfl
 obtain⟨ZX,d_L,Sz,Xw⟩:=tp.hL.get X G;have b_L:=Sz.binds (ps:=["rules"]) λ_ _ _ _ _ _=>by exact u6 λ_=>rfl
 obtain⟨ZY,d_G,SE,Xx⟩:=tp.hG.get X G;have b_G:=SE.binds (ps:=["rules"]) λ_ _ _ _ _ _=>by exact u6 λ_=>rfl
 obtain⟨Rg,RP,JH,PY⟩:=tp.Zm.get X G;have R7:=JH.binds (ps:=["rules"]) λ_ _ _ _ _ _=>by exact u6 λ_=>rfl
 obtain⟨Rj,aaf,NI,Ly⟩:=tp.XD.get;have Sa:=NI.binds (ps:=["self","rules"]) λ_ _ _ _ _ _=>by exact Bl λ_ _=>rfl
 obtain⟨Z0,aae,NH,P2⟩:=tp.XC.get;have R_:=NH.binds (ps:=["self","number","rule"]) λ_ _ _ _ _ _=>by exact KD λ_ _ _=>rfl
 obtain⟨ZZ,aad,NF,P0⟩:=tp.XA.get;have R9:=NF.binds (ps:=["self","part"]) λ_ _ _ _ _ _=>by exact Bl λ_ _=>rfl
 obtain⟨Rh,aab,NC,Lx⟩:=tp.Xy.get;have R8:=NC.binds (ps:=["self","rules","begin_table"]) λ_ _ _ _ _ _=>by exact KD λ_ _ _=>rfl
 obtain⟨Ri,aac,ND,PZ,Qh⟩:=tp.Xz.get;have cB:BC K C:=⟨⟨tp.WH,tp.Y8,tp.WC,tp.Wq⟩,tp.yo,tp.DC,tp.AU,tp.AS⟩;have cG:GC K Cg:=⟨⟨tp.WG,tp.Y6,tp.WB,tp.Wo⟩,tp.Dz,tp.uO,tp.qp,tp.uP,tp.qo⟩;have cL:LC K C3:=⟨⟨tp.WE,tp.Y5,tp.WA,tp.Wn⟩,tp.Dw,tp.Dy,tp.Dx,tp.AR,tp.qM⟩;have kL:Mk K C3 Rh:=⟨tp.Xr,Lx.at_,Lx.fn,tp.X7⟩;have kB:Mk K C Rj:=⟨tp.Xu,Ly.at_,Ly.fn,tp.Gg⟩;have kG:Mk K Cg Ri:=⟨tp.Xs,PZ,Qh,tp.X8⟩;obtain⟨f9,d9,F9,m9⟩:=tp.QG.get X G;have e:=YS.symm.trans m9;cases e;obtain⟨oc,od,kV,doc,pm,an,d0,ct,vv,eL,lk,uA⟩:=F9.ex;refine⟨d9,λs v=>?_,λbase _ _ MN=>?_⟩
 .rw [eL];exact .of_eq rfl
 have c0:=tp.h0.c (P:=l.prog) (w:=w) (base:=base) X G (λ_ _ _ _ _ _=>by exact u6 λ_=>rfl) λF m B=>Ct F T;have c1:=tp.h1.c (P:=l.prog) (w:=w) (base:=base) X G (λ_ _ _ _ _ _=>by exact u6 λ_=>rfl) λF m B=>EX F T c0;have c2:=tp.h2.c (P:=l.prog) (w:=w) (base:=base) X G (λ_ _ _ _ _ _=>by exact u6 λ_=>rfl) λF m B=>Ie F T;have c3:=tp.h3.c (P:=l.prog) (w:=w) (base:=base) X G (λ_ _ _ _ _ _=>by exact Bl λ_ _=>rfl) λF m B=>vw F T;have c4:=tp.h4.c (P:=l.prog) (w:=w) (base:=base) X G (λ_ _ _ _ _ _=>by exact Bl λ_ _=>rfl) λF m B=>xH F T;have c5:=tp.h5.c (P:=l.prog) (w:=w) (base:=base) X G (λ_ _ _ _ _ _=>by exact u6 λ_=>rfl) λF m B=>Cj F T;have c6:=tp.h6.c (P:=l.prog) (w:=w) (base:=base) X G (λ_ _ _ _ _ _=>by exact u6 λ_=>rfl) λF m B=>xI F T;have c7:=tp.h7.c (P:=l.prog) (w:=w) (base:=base) X G (λ_ _ _ _ _ _=>by exact Bl λ_ _=>rfl) λF m B=>z_ F T;have c8:=tp.h8.c (P:=l.prog) (w:=w) (base:=base) X G (λ_ _ _ _ _ _=>by exact KD λ_ _ _=>rfl) λF m B=>Ic F T;have c9:=tp.h9.c (P:=l.prog) (w:=w) (base:=base) X G (λ_ _ _ _ _ _=>by exact u6 λ_=>rfl) λF m B=>Co F T c6 c0;have c10:=tp.ZN.c (P:=l.prog) (w:=w) (base:=base) X G (λ_ _ _ _ _ _=>by exact u6 λ_=>rfl) λF m B=>EZ F T c9 c8;have c11:=tp.ZM.c (P:=l.prog) (w:=w) (base:=base) X G (λ_ _ _ _ _ _=>by exact u6 λ_=>rfl) λF m B=>Ck F T;have c12:=tp.ZL.c (P:=l.prog) (w:=w) (base:=base) X G (λ_ _ _ _ _ _=>by exact u6 λ_=>rfl) λF m B=>Ig F T;have A7:=tp.ZK.c (P:=l.prog) (w:=w) (base:=base) X G (λ_ _ _ _ _ _=>by exact Bl λ_ _=>rfl) λF m B=>E6 F T;have VD:=tp.ZJ.c (P:=l.prog) (w:=w) (base:=base) X G (λ_ _ _ _ _ _=>by exact KD λ_ _ _=>rfl) λF m B=>Aa F T;have RW:=tp.Q_.c (P:=l.prog) (w:=w) (base:=base) X G (λ_ _ _ _ _ _=>by exact u6 λ_=>rfl) λF m B=>Cq F T;have c16:=tp.ZI.c (P:=l.prog) (w:=w) (base:=base) X G (λ_ _ _ _ _ _=>by exact u6 λ_=>rfl) λF m B=>z7 F T;have c17:=tp.ZH.c (P:=l.prog) (w:=w) (base:=base) X G (λ_ _ _ _ _ _=>by exact V7 λ_ _ _ _ _=>rfl) λF m B=>EY F T (A7.mono nofun) (VD.mono nofun);have c18:=tp.ZG.c (P:=l.prog) (w:=w) (base:=base) X G (λ_ _ _ _ _ _=>by exact V8 λ_ _ _ _=>rfl) λF m B=>EW F T (A7.mono nofun) (VD.mono nofun);have VC:=tp.ZF.c (P:=l.prog) (w:=w) (base:=base) X G (λ_ _ _ _ _ _=>by exact Bl λ_ _=>rfl) λF m B=>Cw F T;have c20:=tp.ZE.c (P:=l.prog) (w:=w) (base:=base) X G (λ_ _ _ _ _ _=>by exact Bl λ_ _=>rfl) λF m B=>EV F T;have c21:=tp.ZD.c (P:=l.prog) (w:=w) (base:=base) X G (λ_ _ _ _ _ _=>by exact u6 λ_=>rfl) λF m B=>E3 F T (VC.mono nofun) (c20.mono nofun);have c22:=tp.ZC.c (P:=l.prog) (w:=w) (base:=base) X G (λ_ _ _ _ _ _=>by exact Bl λ_ _=>rfl) λF m B=>E2 F T (A7.mono nofun) (RW.mono nofun) (c16.mono nofun) (c18.mono nofun) (c17.mono nofun) (c21.mono nofun);have c23:=tp.ZA.c (P:=l.prog) (w:=w) (base:=base) X G (λ_ _ _ _ _ _=>by exact u6 λ_=>rfl) λF m B=>E5 F T (A7.mono nofun);have c24:=tp.Zz.c (P:=l.prog) (w:=w) (base:=base) X G (λ_ _ _ _ _ _=>by exact u6 λ_=>rfl) λF m B=>uh F T cG cB;have c25:=tp.Zy.c (P:=l.prog) (w:=w) (base:=base) X G (λ_ _ _ _ _ _=>by exact Bl λ_ _=>rfl) λF m B=>z8 F T;have RT:aF l.prog w K mg base 2 "settled_sizes" ["rules","sizes","better"] (gX K wz pL.1 pL.2.1 pL.2.2.1 M11.bl):=⟨Gx,GK,xE wo T,GX,wo.kp,Gd⟩;have RU:aF l.prog w K mg base 2 "settled_sizes" ["rules","sizes","better"] (gX K Ge xR.1 xR.2.1 xR.2.2.1 M11.bg):=⟨Gx,GK,xF wo T,GX,wo.kp,Gd⟩;have VB:aF l.prog w K mg base 3 "least_sizes" ["rules"] (ou K T1):=⟨ZX,d_L,Cs Sz T MN c5 RT,b_L,Sz.kp,Xw⟩;have c_G:aF l.prog w K mg base 3 "greatest_empty_sizes" ["rules"] (tM K T2):=⟨ZY,d_G,Cu SE MN RU,b_G,SE.kp,Xx⟩;have Nc:aF l.prog w K mg base 4 "refuse_faults" ["rules","strengths"] (pd K T1 T2):=⟨MS,M_,z9 DN T (mK X G tp.nM) c11 VB c0 c12 c10 c_G,Ng,DN.kp,Lw⟩;have RV:aF l.prog w K mg base 4 "least_by_part" ["rules"] (mT K T1 T3):=⟨Rg,RP,xG JH T MN (gE X G tp.yx) (c0.mono nofun) VB (c1.mono nofun) (c3.mono nofun),R7,JH.kp,PY⟩;have Px:=Cp (P:=l.prog) (w:=w) (base:=base) NF T cB;have Py:=E4 NH T cB c7 Px P0 R9;have Pz:=Cy NI T cB c6 c0 Py P2 R_;have Pu:=Cr NC T cB cL RV (c4.mono nofun);have Pw:=Cv ND T cG (Nc.mono nofun) (c2.mono nofun) (Pz.mono nofun) kB Sa (mK X G tp.nB) Pu kL R8 (mK X G tp.nL);exact Ih F9 T (gE X G tp.yx) (c22.mono nofun) (A7.mono nofun) (c23.mono nofun) (c24.mono nofun) (c25.mono nofun) (VC.mono nofun) cG kG (Pw.mono nofun) (C6 ND) (mK X G tp.nG)
def walk {l:PySem.W.OpenLaw}{q:Program}{loose:List Str}{XP:(Str->Option Value)->Heap->Prop}{YP:World->Heap->Prop}{d:DefRec}{K:Params->a8}(T1 T2 T3 c1 c2 c3:Addr)(Ga:T1≠T2)(F_:T1≠T3)(F8:T2≠T3)(hn:l.most=some 63)(IU:d.params.defaults=[])
  (hY:∀(w:World)(h:Heap),YP w h->(K w.params).In h/\∀T∈[T3,T2,T1],h.get? T=some (PySem.W.tabObj #[]))
  (Zp:∀w:World,(K w.params).lookup T1=none)(Zo:∀w:World,(K w.params).lookup T2=none)(Zn:∀w:World,(K w.params).lookup T3=none)(Zw:∀w:World,PySem.W.codeHdIn (K w.params) c1 T1=true)(Zv:∀w:World,PySem.W.codeHdIn (K w.params) c2 T2=true)(Zu:∀w:World,PySem.W.codeHdIn (K w.params) c3 T3=true)
  (F:∀(w:World)(mg:Str->Option Value)(fa:Addr)(h:Heap),(K w.params).In h->h.Ns mainGlobals mg->mg d.name=some (.ref fa) ->
   ∃fd:FuncData,(∀(s:Shared)(u:Value),BindsTo s fd ⟨[u],[]⟩ [("_law_script",u)])/\∀base:Heap,(K w.params).In base->base.Ns mainGlobals mg->qy mg base->bN l.prog w (K w.params) mg base fS 9 fa fd ["_law_script"] (yP (K w.params) T1 T2 T3)) :
  PySem.W.WalkO q loose XP YP l.row.toRowW d [] (λf vs=>PySem.call f vs) :=
 L2.Bh (n:=63) (k:=9) (x := "_law_script") (CX:=λ_=>fS) (sp:=λw=>yP (K w.params) T1 T2 T3) hn nofun IU ⟨rfl,nofun,nofun⟩ hY (λw T hT=>by
  rcases bM.mp hT with e | hT
  .subst e;exact⟨Zn w,c3,Zu w⟩
  rcases bM.mp hT with e | hT
  .subst e;exact⟨Zo w,c2,Zv w⟩
  rw [cT.mp hT];exact⟨Zp w,c1,Zw w⟩) F (λ_ H a ns hl _ hT hS=>⟨a,ns,rfl,hS,hl,⟨⟨#[],hT T1 (by simp),by trivial,.inl rfl⟩,⟨#[],hT T2 (by simp),by trivial,.inl rfl⟩,⟨#[],hT T3 (by simp),by trivial,.inl rfl⟩,Ga,F_,F8⟩,λ_=>rfl⟩) λ_ _ _ _ _ z=>z
end gT
set_option maxHeartbeats 0
end
namespace HD
open PySem PySem.W L2
def OW (P:Params):gT.Top (K P) 112 374 345 255 260 289 543:=⟨nofun,nofun,nofun,nofun,nofun,
 hD 33 32 HD.m2 (nofun),
 hD 43 42 HD.m2 (nofun),
 hD 50 49 HD.m2 (nofun),
 hD 297 296 HD.m8 (nofun),
 hD 302 301 HD.m8 (nofun),
 hD 38 37 HD.m2 (nofun),
 hD 55 54 HD.m3 (nofun),
 hD 62 61 HD.m3 (nofun),
 hD 253 252 HD.m5 (nofun),
 hD 246 245 HD.m5 (nofun),
 hD 241 240 HD.m5 (nofun),
 hD 282 281 HD.m7 (nofun),
 hD 287 286 HD.m7 (nofun),
 hD 385 384 HD.nR (nofun),
 hD 404 403 HD.nR (nofun),
 hD 390 389 HD.nR (nofun),
 hD 397 396 HD.nR (nofun),
 hD 418 417 HD.nR (nofun),
 hD 411 410 HD.nR (nofun),
 hD 423 422 HD.nR (nofun),
 hD 428 427 HD.nR (nofun),
 hD 433 432 HD.nR (nofun),
 hD 440 439 HD.nR (nofun),
 hD 447 446 HD.nR (nofun),
 hD 28 27 HD.m1 (nofun),
 hD 452 451 HD.nR (nofun),
 hD 457 456 HD.nR (nofun),
 hD 270 269 HD.m6 (nofun),
 hD 275 274 HD.m7 (nofun),
 hC 258 257 HD.m6 (nofun),
 hC 265 264 HD.m6 (nofun),
 hC 292 291 HD.m8 (nofun),
 hM 314 313 HD.m8 (nofun),
 hM 74 73 HD.m3 (nofun),
 hM 81 80 HD.m3 (nofun),
 hM 88 87 HD.m3 (nofun),
 ⟨364,.type "function",none,none,#[],.none,.none,.str "wright.grammars" 654,.ref 363,.none,357,⟨.type "tuple",none,.seq #[.none] 0,#[]⟩,0,nofun,nofun,nofun,nofun,rfl,nofun,nofun⟩,nofun,nofun,nofun,nofun,nofun,nofun,nofun,nofun,nofun,nofun,nofun,nofun,nofun,nofun,nofun,nofun,nofun,nofun,nofun,nofun,nofun,nofun,nofun,nofun,nofun,nofun,nofun,nofun,nofun,nofun,nofun,nofun,nofun,nofun,nofun,nofun,nofun,nofun,nofun,nofun,nofun,nofun,nofun,nofun,nofun,nofun,nofun⟩
end HD
theorem PySem.Challenge.cw_wright_k20_what_can_be_empty_holds : PySem.Challenge.rw_wright_k20_what_can_be_empty.Holds := by
 refine HD.hold ?_ ?hw
 case hw=>w_witness2
 refine gT.walk (l:=PySem.Challenge.rw_wright_k20_what_can_be_empty) (K:=HD.K) 255 260 289 257 264 291 nofun nofun nofun rfl HD.WJ (λw h Y=>⟨PySem.W.km_in_of Y,PySem.W.km_tabs_of Y⟩) (λw=>by kernel_rfl) (λw=>by kernel_rfl) (λw=>by kernel_rfl) (λw=>by kernel_rfl) (λw=>by kernel_rfl) (λw=>by kernel_rfl) ?F;intro w mg fa h KX G IL;exact gT.all_mk KX G IL (HD.OW w.params)
